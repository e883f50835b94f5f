import Derived.Test.YtonhcgkagdpdlaaGreatDoorGzd
import Derived.Deep.RegionHeld3
import Derived.Laws.AppendOwnNone
set_option linter.unusedSimpArgs false
set_option linter.unusedVariables false
set_option maxHeartbeats 4000000
namespace Go.Proofs.YtonhcgkagdpdlaaGreatDoor
open Go.RowKit
def opI (n row many:Int):Int:=if row≤n then n+many else n
def clI (n row many other:Int):Int:=if row+many≤n then n-many else if row≤n then other else n
theorem impl_isRow (n:Int) (w:World):Calls Tryz.prog 18 #[.int .i64 n] w fun e w'=>
  e= .returned (.bool (decide (1≤n∧n≤99)))∧Below w.heap.size w w':=by
 go_enter Tryz.func18,Tryz.ntmps18
 go_wp2
 all_goals
  go_ret
  refine⟨ret_bool ?_,by go_grown⟩
  rw [Bool.eq_iff_iff]
  simp
  try omega
theorem opI_yes {n row many:Int} (h:row≤n):opI n row many=n+many:=by unfold opI;rw [if_pos h]
theorem opI_no {n row many:Int} (h: ¬row≤n):opI n row many=n:=by unfold opI;rw [if_neg h]
theorem clI_far {n row many o:Int} (h:row+many≤n):clI n row many o=n-many:=by unfold clI;rw [if_pos h]
theorem clI_in {n row many o:Int} (h: ¬row+many≤n) (h':row≤n):clI n row many o=o:=by unfold clI;rw [if_neg h,if_pos h']
theorem clI_no {n row many o:Int} (h: ¬row+many≤n) (h': ¬row≤n):clI n row many o=n:=by unfold clI;rw [if_neg h,if_neg h']
theorem impl_opened (c r:Int) (x y:Bool) (row many:Int) (w:World) (hr: -1000≤r∧r≤1000) (hm: -1000≤many∧many≤1000):
  Calls Tryz.prog 21 #[.agg #[.int .i64 c,.int .i64 r,.bool x,.bool y],.int .i64 row,.int .i64 many] w fun z w'=>
  z= .returned (.agg #[.int .i64 c,.int .i64 (opI r row many),.bool x,.bool y])∧Below w.heap.size w w':=by
 by_cases h:row≤r
 ·rw [opI_yes h]
  go_enter Tryz.func21,Tryz.ntmps21
  go_wp2
  go_returns
  exact⟨rfl,by go_grown⟩
 ·rw [opI_no h]
  go_enter Tryz.func21,Tryz.ntmps21
  go_wp2
  go_returns
  exact⟨rfl,by go_grown⟩
theorem impl_closed (c r:Int) (x y:Bool) (row many other:Int) (w:World) (hr: -1000≤r∧r≤1000) (hm: -1000≤many∧many≤1000) (hw: -1000≤row∧row≤1000):
  Calls Tryz.prog 26 #[.agg #[.int .i64 c,.int .i64 r,.bool x,.bool y],.int .i64 row,.int .i64 many,.int .i64 other] w fun z w'=>
  z= .returned (.agg #[.int .i64 c,.int .i64 (clI r row many other),.bool x,.bool y])∧Below w.heap.size w w':=by
 by_cases h:row+many≤r
 ·rw [clI_far h]
  go_enter Tryz.func26,Tryz.ntmps26
  go_wp2
  go_returns
  exact⟨rfl,by go_grown⟩
 by_cases h':row≤r
 ·rw [clI_in h h']
  go_enter Tryz.func26,Tryz.ntmps26
  go_wp2
  go_returns
  exact⟨rfl,by go_grown⟩
 ·rw [clI_no h h']
  go_enter Tryz.func26,Tryz.ntmps26
  go_wp2
  go_returns
  exact⟨rfl,by go_grown⟩
theorem spec_l4Row_open (n row many other:Int) (w:World) (hr: -1000≤n∧n≤1000) (hm: -1000≤many∧many≤1000):
  Calls Tryz.prog 43 #[.int .i64 n,.int .i64 row,.int .i64 many,.bool false,.int .i64 other] w fun z w'=>
  z= .returned (.int .i64 (opI n row many))∧Below w.heap.size w w':=by
 by_cases h:row≤n
 ·rw [opI_yes h]
  have h': ¬n<row:=by omega
  go_enter Tryz.func43,Tryz.ntmps43
  go_wp2
  go_returns
  exact⟨rfl,by go_grown⟩
 ·rw [opI_no h]
  have h':n<row:=by omega
  go_enter Tryz.func43,Tryz.ntmps43
  go_wp2
  go_returns
  exact⟨rfl,by go_grown⟩
theorem spec_l4Row_close (n row many other:Int) (w:World) (hr: -1000≤n∧n≤1000) (hm:0≤many∧many≤1000) (hw: -1000≤row∧row≤1000):
  Calls Tryz.prog 43 #[.int .i64 n,.int .i64 row,.int .i64 many,.bool true,.int .i64 other] w fun z w'=>
  z= .returned (.int .i64 (clI n row many other))∧Below w.heap.size w w':=by
 by_cases h:n<row
 ·rw [clI_no (by omega) (by omega)]
  go_enter Tryz.func43,Tryz.ntmps43
  go_wp2
  go_returns
  exact⟨rfl,by go_grown⟩
 by_cases h':n<row+many
 ·rw [clI_in (by omega) (by omega)]
  go_enter Tryz.func43,Tryz.ntmps43
  go_wp2
  go_returns
  exact⟨rfl,by go_grown⟩
 ·rw [clI_far (by omega)]
  go_enter Tryz.func43,Tryz.ntmps43
  go_wp2
  go_returns
  exact⟨rfl,by go_grown⟩
theorem sc2_of {B p q:Nat} {X W:World} {d e:Value} (hs:B≤X.heap.size) (hp:p<B) (hq:q<B) (cp:X.cell? ⟨p,0,none⟩=some d) (cq:X.cell? ⟨q,0,none⟩=some e) (h:Below B X W):
  W.cell? ⟨p,0,none⟩=some d∧W.cell? ⟨q,0,none⟩=some e∧(∀b o,b<B→W.cell? ⟨b,o,none⟩=X.cell? ⟨b,o,none⟩)∧B≤W.heap.size∧Below B X W:=
 ⟨(h.cell (p:=⟨p,0,none⟩) hp).trans cp,(h.cell (p:=⟨q,0,none⟩) hq).trans cq,fun b o hb=>h.cell (p:=⟨b,o,none⟩) hb,Nat.le_trans hs h.size,h⟩
theorem impl_lostNode (w:World):Calls Tryz.prog 60 #[] w fun e w'=>
  e= .returned (.agg #[.int .i64 1,.int .i64 0,.int .i64 4,.int .i64 3,.string ⟨#[]⟩,.int .i64 0,.int .i64 0,.bool false,.bool false,.int .i64 0,.int .i64 0,.bool false,.bool false,.slice none 0 0])∧Below w.heap.size w w':=by
 obtain⟨i0,hi,hz0,hz1,hz2⟩:=info_parts infoFn
 go_enter Tryz.func60,Tryz.ntmps60
 go_wp2_with (go_at_call 71;refine(value_failure _ _).mono ?_;rintro e w1 ⟨rfl,hb⟩;obtain⟨hc,hf,hC,hF,hz,hk,l0⟩:=bk1 (w:=w) (by go_grown) (by go_size) hb;clear hb)
 refine bodyPost_ret (v:= .agg #[.int .i64 1,.int .i64 0,.int .i64 4,.int .i64 3,.string ⟨#[]⟩,.int .i64 0,.int .i64 0,.bool false,.bool false,.int .i64 0,.int .i64 0,.bool false,.bool false,.slice none 0 0]) ?_ rfl ⟨rfl,by go_grown⟩
 simp (maxDischargeDepth:=9) [results,Tryz.results60,go_sem, *]
theorem spec_l4Lost (w:World):Calls Tryz.prog 44 #[] w fun e w'=>
  e= .returned (.agg #[.int .i64 1,.int .i64 0,.int .i64 4,.int .i64 3,.string ⟨#[]⟩,.int .i64 0,.int .i64 0,.bool false,.bool false,.int .i64 0,.int .i64 0,.bool false,.bool false,.slice none 0 0])∧Below w.heap.size w w':=by
 obtain⟨i0,hi,hz0,hz1,hz2⟩:=info_parts infoFn
 go_enter Tryz.func44,Tryz.ntmps44
 go_wp2_with (go_at_call 65;refine(spec_l2Error _ _).mono ?_;rintro e w1 ⟨rfl,hb⟩;obtain⟨hc,hf,hC,hF,hz,hk,l0⟩:=bk1 (w:=w) (by go_grown) (by go_size) hb;clear hb)
 refine bodyPost_ret (v:= .agg #[.int .i64 1,.int .i64 0,.int .i64 4,.int .i64 3,.string ⟨#[]⟩,.int .i64 0,.int .i64 0,.bool false,.bool false,.int .i64 0,.int .i64 0,.bool false,.bool false,.slice none 0 0]) ?_ rfl ⟨rfl,by go_grown⟩
 simp (maxDischargeDepth:=9) [results,Tryz.results44,go_sem, *]
theorem impl_Opened_1 (c r:Int) (x y:Bool) (c' r':Int) (x' y':Bool) (d e:Int) (p q:Nat) (w:World) (hp:p<w.heap.size) (hq:q<w.heap.size) (cp:w.cell? ⟨p,0,none⟩=some (.int .i64 d)) (cq:w.cell? ⟨q,0,none⟩=some (.int .i64 e)) (hc: -1000≤c∧c≤1000) (hr: -1000≤r∧r≤1000) (hc1: -1000≤c'∧c'≤1000) (hr1: -1000≤r'∧r'≤1000) (hd: -1000≤d∧d≤1000) (he: -1000≤e∧e≤1000):
  Calls Tryz.prog 20 #[.agg #[.int .i64 c,.int .i64 r,.bool x,.bool y],.agg #[.int .i64 c',.int .i64 r',.bool x',.bool y'],.pointer (some ⟨p,0,none⟩),.pointer (some ⟨q,0,none⟩)] w fun z w'=>
  z= .returned (.tuple #[.agg #[.int .i64 c,.int .i64 (opI r d e),.bool x,.bool y],.agg #[.int .i64 c',.int .i64 (opI r' d e),.bool x',.bool y']])∧Below w.heap.size w w':=by
 have hx:Below w.heap.size w (((w.alloc (.cells #[.int .i64 c,.int .i64 r,.bool x,.bool y] 44)).alloc (.cells #[.int .i64 c',.int .i64 r',.bool x',.bool y'] 44))):=by go_grown
 have HX:Hid (Below w.heap.size w (((w.alloc (.cells #[.int .i64 c,.int .i64 r,.bool x,.bool y] 44)).alloc (.cells #[.int .i64 c',.int .i64 r',.bool x',.bool y'] 44)))):=hx
 clear hx
 have HP:Hid ((((w.alloc (.cells #[.int .i64 c,.int .i64 r,.bool x,.bool y] 44)).alloc (.cells #[.int .i64 c',.int .i64 r',.bool x',.bool y'] 44))).cell? ⟨p,0,none⟩=some (.int .i64 d)):=(HX.out.cell (p:=⟨p,0,none⟩) hp).trans cp
 have HQ:Hid ((((w.alloc (.cells #[.int .i64 c,.int .i64 r,.bool x,.bool y] 44)).alloc (.cells #[.int .i64 c',.int .i64 r',.bool x',.bool y'] 44))).cell? ⟨q,0,none⟩=some (.int .i64 e)):=(HX.out.cell (p:=⟨q,0,none⟩) hq).trans cq
 have hwr:IntKind.i64.wrap (d-1)=d-1:=by rw [IntKind.wrap_i64];omega
 have HPL:Hid (p<w.heap.size+2):=Nat.lt_of_lt_of_le hp (Nat.le_add_right _ _)
 have HQL:Hid (q<w.heap.size+2):=Nat.lt_of_lt_of_le hq (Nat.le_add_right _ _)
 go_enter Tryz.func20,Tryz.ntmps20
 go_wp2_with fail
 go_region_held3 (fun w'=>w'.cell? ⟨p,0,none⟩=some (.int .i64 d)∧w'.cell? ⟨q,0,none⟩=some (.int .i64 e)∧(∀bq oq,bq<w.heap.size+2→w'.cell? ⟨bq,oq,none⟩=(((w.alloc (.cells #[.int .i64 c,.int .i64 r,.bool x,.bool y] 44)).alloc (.cells #[.int .i64 c',.int .i64 r',.bool x',.bool y'] 44))).cell? ⟨bq,oq,none⟩)∧w.heap.size+2≤w'.heap.size∧Below (w.heap.size+2) (((w.alloc (.cells #[.int .i64 c,.int .i64 r,.bool x,.bool y] 44)).alloc (.cells #[.int .i64 c',.int .i64 r',.bool x',.bool y'] 44))) w')
  (exact sc2_of (by go_size) HPL.out HQL.out HP.out HQ.out (by go_grown))
  (first
  | (go_at_call 21;refine(impl_opened _ _ _ _ _ _ _ (by assumption) he).mono ?_;rintro e w1 ⟨rfl,hb⟩;obtain⟨hk,hz⟩:=bframe (B:=w.heap.size+2) (X:=(((w.alloc (.cells #[.int .i64 c,.int .i64 r,.bool x,.bool y] 44)).alloc (.cells #[.int .i64 c',.int .i64 r',.bool x',.bool y'] 44)))) (by go_grown) (by go_size) hb;obtain⟨hC,hF,hL,hE⟩:=kp hb;(try simp only [World.size_drew]at hC hF hL hE);(try (refine cutLt (x:=w.heap.size+1+1) ?_ hb.size (fun hq=> ?_);(focus (go_size;done))));(try (refine cutLt (x:=w.heap.size+1+1+1) ?_ hb.size (fun hq=> ?_);(focus (go_size;done))));clear hb))
 all_goals
  go_wp2_with fail
  refine bodyPost_ret (v:= .tuple #[.agg #[.int .i64 c,.int .i64 (opI r d e),.bool x,.bool y],.agg #[.int .i64 c',.int .i64 (opI r' d e),.bool x',.bool y']]) ?_ rfl ⟨rfl,bfin (n:=2) HX.out (by go_grown)⟩
  simp (maxDischargeDepth:=9) [results,Tryz.results20,go_sem, *]
theorem impl_Closed_1 (c r:Int) (x y:Bool) (c' r':Int) (x' y':Bool) (d e:Int) (p q:Nat) (w:World) (hp:p<w.heap.size) (hq:q<w.heap.size) (cp:w.cell? ⟨p,0,none⟩=some (.int .i64 d)) (cq:w.cell? ⟨q,0,none⟩=some (.int .i64 e)) (hc: -1000≤c∧c≤1000) (hr: -1000≤r∧r≤1000) (hc1: -1000≤c'∧c'≤1000) (hr1: -1000≤r'∧r'≤1000) (hd: -1000≤d∧d≤1000) (he: -1000≤e∧e≤1000):
  Calls Tryz.prog 25 #[.agg #[.int .i64 c,.int .i64 r,.bool x,.bool y],.agg #[.int .i64 c',.int .i64 r',.bool x',.bool y'],.pointer (some ⟨p,0,none⟩),.pointer (some ⟨q,0,none⟩)] w fun z w'=>
  z= .returned (.tuple #[.agg #[.int .i64 c,.int .i64 (clI r d e d),.bool x,.bool y],.agg #[.int .i64 c',.int .i64 (clI r' d e (d-1)),.bool x',.bool y']])∧Below w.heap.size w w':=by
 have hx:Below w.heap.size w (((w.alloc (.cells #[.int .i64 c,.int .i64 r,.bool x,.bool y] 44)).alloc (.cells #[.int .i64 c',.int .i64 r',.bool x',.bool y'] 44))):=by go_grown
 have HX:Hid (Below w.heap.size w (((w.alloc (.cells #[.int .i64 c,.int .i64 r,.bool x,.bool y] 44)).alloc (.cells #[.int .i64 c',.int .i64 r',.bool x',.bool y'] 44)))):=hx
 clear hx
 have HP:Hid ((((w.alloc (.cells #[.int .i64 c,.int .i64 r,.bool x,.bool y] 44)).alloc (.cells #[.int .i64 c',.int .i64 r',.bool x',.bool y'] 44))).cell? ⟨p,0,none⟩=some (.int .i64 d)):=(HX.out.cell (p:=⟨p,0,none⟩) hp).trans cp
 have HQ:Hid ((((w.alloc (.cells #[.int .i64 c,.int .i64 r,.bool x,.bool y] 44)).alloc (.cells #[.int .i64 c',.int .i64 r',.bool x',.bool y'] 44))).cell? ⟨q,0,none⟩=some (.int .i64 e)):=(HX.out.cell (p:=⟨q,0,none⟩) hq).trans cq
 have hwr:IntKind.i64.wrap (d-1)=d-1:=by rw [IntKind.wrap_i64];omega
 have HPL:Hid (p<w.heap.size+2):=Nat.lt_of_lt_of_le hp (Nat.le_add_right _ _)
 have HQL:Hid (q<w.heap.size+2):=Nat.lt_of_lt_of_le hq (Nat.le_add_right _ _)
 go_enter Tryz.func25,Tryz.ntmps25
 go_wp2_with fail
 go_region_held3 (fun w'=>w'.cell? ⟨p,0,none⟩=some (.int .i64 d)∧w'.cell? ⟨q,0,none⟩=some (.int .i64 e)∧(∀bq oq,bq<w.heap.size+2→w'.cell? ⟨bq,oq,none⟩=(((w.alloc (.cells #[.int .i64 c,.int .i64 r,.bool x,.bool y] 44)).alloc (.cells #[.int .i64 c',.int .i64 r',.bool x',.bool y'] 44))).cell? ⟨bq,oq,none⟩)∧w.heap.size+2≤w'.heap.size∧Below (w.heap.size+2) (((w.alloc (.cells #[.int .i64 c,.int .i64 r,.bool x,.bool y] 44)).alloc (.cells #[.int .i64 c',.int .i64 r',.bool x',.bool y'] 44))) w')
  (exact sc2_of (by go_size) HPL.out HQL.out HP.out HQ.out (by go_grown))
  (first
  | (go_at_call 26;refine(impl_closed _ _ _ _ _ _ _ _ (by assumption) he hd).mono ?_;rintro e w1 ⟨rfl,hb⟩;obtain⟨hk,hz⟩:=bframe (B:=w.heap.size+2) (X:=(((w.alloc (.cells #[.int .i64 c,.int .i64 r,.bool x,.bool y] 44)).alloc (.cells #[.int .i64 c',.int .i64 r',.bool x',.bool y'] 44)))) (by go_grown) (by go_size) hb;obtain⟨hC,hF,hL,hE⟩:=kp hb;(try simp only [World.size_drew]at hC hF hL hE);(try (refine cutLt (x:=w.heap.size+1+1) ?_ hb.size (fun hq=> ?_);(focus (go_size;done))));(try (refine cutLt (x:=w.heap.size+1+1+1) ?_ hb.size (fun hq=> ?_);(focus (go_size;done))));clear hb))
 all_goals
  go_wp2_with fail
  refine bodyPost_ret (v:= .tuple #[.agg #[.int .i64 c,.int .i64 (clI r d e d),.bool x,.bool y],.agg #[.int .i64 c',.int .i64 (clI r' d e (d-1)),.bool x',.bool y']]) ?_ rfl ⟨rfl,bfin (n:=2) HX.out (by go_grown)⟩
  simp (maxDischargeDepth:=9) [results,Tryz.results25,go_sem, *]
theorem cellB {w W:World} {p:Nat} {v:Value} (hb:Below w.heap.size w W) (hp:p<w.heap.size) (c:w.cell? ⟨p,0,none⟩=some v):W.cell? ⟨p,0,none⟩=some v:=(hb.cell (p:=⟨p,0,none⟩) hp).trans c
theorem ltB {w W:World} {p:Nat} (hb:Below w.heap.size w W) (hp:p<w.heap.size):p<W.heap.size:=Nat.lt_of_lt_of_le hp hb.size
theorem impl_AreaOk_is (a b c d:Int) (t:Bool) (w:World) (h:areaOkB a b c d=t):Calls Tryz.prog 56 #[.agg #[.int .i64 a,.int .i64 b,.int .i64 c,.int .i64 d]] w fun e w'=>
  e= .returned (.bool t)∧Below w.heap.size w w':=(impl_AreaOk a b c d w).mono fun _ _ g=>⟨by rw [g.1,h],g.2⟩
theorem app_kids {ops:Array Oper} {rest:List Oper} {o:Oper} {a:Act} {Q:Exit→Act→World→Prop} (w:World) (hgd:o.guard=none) (s x:Operand)
  (ho:o.op= .call {callee:= .builtin .append,args:= #[s,x],argTypes:= #[52,52]}) (v:Value) (hs:a.eval s=v) (base:Nat) (hb:base≤w.heap.size) (hown:w.ownsRow base 2 1 v 0 [])
  {KA:Option Addr} {kc:Nat} {l:List Int} (hx:a.eval x= .slice KA l.length kc) (h0:KA=none→kc=0) (hi:IntRow w KA l) (hn:l.length≤1048576)
  (h: ∀KB kb w',w'.ownsRow base 2 1 (.slice KB l.length kb) l.length (l.map (Value.int .i64))→w.grownBy w' v.ownBlock→wpList Tryz.prog ops Q rest (a.put o.dst (.slice KB l.length kb)) w'):wpList Tryz.prog ops Q (o::rest) a w:=by
 obtain⟨i0,hi0,hz0,hz1,hz2⟩:=info_parts infoInt
 cases KA with
 | none=>
  have hk:=h0 rfl
  subst hk
  have hl:l= []:=by
   cases l with
   | nil=>rfl
   | cons y ys=>obtain⟨b,o',e,_⟩:=hi.2 0 (by simp);cases e
  subst hl
  obtain⟨A',cap',rfl,_,_⟩:=own_shape hown
  exact wpList_append_own_none hgd s x 52 ho base 2 i0 1 Tryz.underlying52 hi0 _ 0 [] hs hown hx (h _ _ w hown (World.grownBy.refl _ _))
 | some ad=>
  refine wpList_append_own w hgd s x 52 ho base 2 i0 (.int .i64 0) 1 8 Tryz.underlying52 hi0 hz0 hz1 hz2 rfl (by decide) v 0 [] hs hown ad l.length kc (l.map (Value.int .i64)) hx (by simp) ?_ ?_ ?_ ?_ hb ?_
  ·intro j u hj
   have hlt:j<l.length:=by
    have:=(List.getElem?_eq_some_iff.1 hj).1
    simpa using this
   obtain⟨b,o',e,_,c⟩:=hi.2 j hlt
   cases e
   rw [map_at l j hlt]at hj
   cases hj
   have ea:(⟨b,o',none⟩:Addr).add j=⟨b,o'+j,none⟩:=by
    unfold Addr.add
    split
    ·rename_i hj0;subst hj0;rfl
    ·rfl
   rw [ea]
   exact c
  ·intro u hu
   obtain⟨z,_,rfl⟩:=List.mem_map.1 hu
   rfl
  ·unfold maxLen;omega
  ·omega
  ·intro v' w' ho' hg' _
   rw [Nat.zero_add,List.nil_append]at ho'
   obtain⟨KB,kb,rfl,_,_⟩:=own_shape ho'
   exact h KB kb w' ho' hg'
theorem shiftedNode_other (k:Int) (o ck cn:Int) (cs:ByteArray) (ac ar:Int) (af ag:Bool) (bc br:Int) (bf bg:Bool) {KA:Option Addr} {kc:Nat} {l:List Int} (fv:Value) (w:World) (h2:k≠2) (h3:k≠3) (h0:KA=none→kc=0) (hi:IntRow w KA l) (hn:l.length≤1048576):
  Calls Tryz.prog 38 #[.agg #[.int .i64 k,.int .i64 o,.int .i64 ck,.int .i64 cn,.string cs,.int .i64 ac,.int .i64 ar,.bool af,.bool ag,.int .i64 bc,.int .i64 br,.bool bf,.bool bg,.slice KA l.length kc],fv] w fun z w'=> ∃KB kb,z= .returned (.agg #[.int .i64 k,.int .i64 o,.int .i64 ck,.int .i64 cn,.string cs,.int .i64 ac,.int .i64 ar,.bool af,.bool ag,.int .i64 bc,.int .i64 br,.bool bf,.bool bg,.slice KB l.length kb])∧w'.ownsRow w.heap.size 2 1 (.slice KB l.length kb) l.length (l.map (Value.int .i64))∧Below w.heap.size w w':=by
 have HI:Hid (IntRow w KA l):=hi
 have HN:Hid (l.length≤1048576):=hn
 have HK:Hid (KA=none→kc=0):=h0
 clear hi hn h0
 have e2:(k==2)=false:=by simpa using h2
 have e3:(k==3)=false:=by simpa using h3
 go_enter Tryz.func38,Tryz.ntmps38
 go_wp2_with (at_builtin;refine app_kids _ rfl _ _ rfl (.slice none 0 0) rfl (w.heap.size+2) ?kb ?kn rfl HK.out ?ki HN.out ?_)
 case kb=>go_size
 case kn=>exact⟨rfl,Or.inl ⟨rfl,rfl⟩⟩
 case ki=>exact HI.out.below (by go_grown)
 intro KB kb w9 hown hgrow
 have HO:Hid (w9.ownsRow (w.heap.size+2) 2 1 (.slice KB l.length kb) l.length (l.map (Value.int .i64))):=hown
 have hb:=(Below.refl _ _).grown hgrow (Nat.le_refl _) (fun k hk=>by cases hk)
 obtain⟨hc9,hf9,hC9,hF9,hz9,hk9,m0,m1⟩:=bk2 (w:=w) (by go_grown) (by go_size) hb
 clear hgrow hb hown
 go_wp2_with fail
 refine bodyPost_ret (v:= .agg #[.int .i64 k,.int .i64 o,.int .i64 ck,.int .i64 cn,.string cs,.int .i64 ac,.int .i64 ar,.bool af,.bool ag,.int .i64 bc,.int .i64 br,.bool bf,.bool bg,.slice KB l.length kb]) ?_ rfl ⟨_,_,rfl,?_,by go_grown⟩
 ·simp (maxDischargeDepth:=9) [results,Tryz.results38,go_sem, *]
 ·refine own_mono (B:=w.heap.size+2) ?_ (by omega)
  repeat (refine ownsRow_setCell_below ?_ (by simp) _)
  exact HO.out
end Go.Proofs.YtonhcgkagdpdlaaGreatDoor
