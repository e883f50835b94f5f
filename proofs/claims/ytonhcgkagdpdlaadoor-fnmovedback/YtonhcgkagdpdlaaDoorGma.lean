import Derived.Test.YtonhcgkagdpdlaaDoorGzd
import Derived.Deep.RegionHeld3
import Derived.Laws.AppendOwnNone
set_option linter.unusedSimpArgs false
set_option linter.unusedVariables false
set_option maxHeartbeats 4000000
namespace Go.Proofs.YtonhcgkagdpdlaaDoor
open Go.RowKit
def mvI (fix:Bool) (n d:Int):Int:=if fix=true then n else n+d
theorem impl_isWithin (n m:Int) (w:World) (hm:0≤m) (hm':m≤1000):Calls Tryd.prog 16 #[.int .i64 n,.int .i64 m] w fun e w'=>
  e= .returned (.bool (decide (-m≤n∧n≤m)))∧Below w.heap.size w w':=by
 go_enter Tryd.func16,Tryd.ntmps16
 go_wp2
 all_goals
  go_ret
  refine⟨ret_bool ?_,by go_grown⟩
  rw [Bool.eq_iff_iff]
  simp
  try omega
theorem impl_movedBy (c r:Int) (x y:Bool) (d e:Int) (w:World) (hc: -1000≤c∧c≤1000) (hr: -1000≤r∧r≤1000) (hd: -1000≤d∧d≤1000) (he: -1000≤e∧e≤1000):
  Calls Tryd.prog 19 #[.agg #[.int .i64 c,.int .i64 r,.bool x,.bool y],.int .i64 d,.int .i64 e] w fun z w'=>
  z= .returned (.agg #[.int .i64 (mvI x c d),.int .i64 (mvI y r e),.bool x,.bool y])∧Below w.heap.size w w':=by
 cases x<;>cases y<;>
 ·go_enter Tryd.func19,Tryd.ntmps19
  go_wp2
  go_returns
  exact⟨rfl,by go_grown⟩
theorem spec_l4Shift (c r:Int) (x y:Bool) (d e:Int) (w:World) (hc: -1000≤c∧c≤1000) (hr: -1000≤r∧r≤1000) (hd: -1000≤d∧d≤1000) (he: -1000≤e∧e≤1000):
  Calls Tryd.prog 22 #[.agg #[.int .i64 c,.int .i64 r,.bool x,.bool y],.int .i64 d,.int .i64 e] w fun z w'=>
  z= .returned (.agg #[.int .i64 (mvI x c d),.int .i64 (mvI y r e),.bool x,.bool y])∧Below w.heap.size w w':=by
 cases x<;>cases y<;>
 ·go_enter Tryd.func22,Tryd.ntmps22
  go_wp2
  go_returns
  exact⟨rfl,by go_grown⟩
theorem sc2_of {B p q:Nat} {X W:World} {d e:Value} (hs:B≤X.heap.size) (hp:p<B) (hq:q<B) (cp:X.cell? ⟨p,0,none⟩=some d) (cq:X.cell? ⟨q,0,none⟩=some e) (h:Below B X W):
  W.cell? ⟨p,0,none⟩=some d∧W.cell? ⟨q,0,none⟩=some e∧(∀b o,b<B→W.cell? ⟨b,o,none⟩=X.cell? ⟨b,o,none⟩)∧B≤W.heap.size∧Below B X W:=
 ⟨(h.cell (p:=⟨p,0,none⟩) hp).trans cp,(h.cell (p:=⟨q,0,none⟩) hq).trans cq,fun b o hb=>h.cell (p:=⟨b,o,none⟩) hb,Nat.le_trans hs h.size,h⟩
theorem impl_lostNode (w:World):Calls Tryd.prog 59 #[] w fun e w'=>
  e= .returned (.agg #[.int .i64 1,.int .i64 0,.int .i64 4,.int .i64 3,.string ⟨#[]⟩,.int .i64 0,.int .i64 0,.bool false,.bool false,.int .i64 0,.int .i64 0,.bool false,.bool false,.slice none 0 0])∧Below w.heap.size w w':=by
 obtain⟨i0,hi,hz0,hz1,hz2⟩:=info_parts infoFn
 go_enter Tryd.func59,Tryd.ntmps59
 go_wp2_with (go_at_call 65;refine(value_failure _ _).mono ?_;rintro e w1 ⟨rfl,hb⟩;obtain⟨hc,hf,hC,hF,hz,hk,l0⟩:=bk1 (w:=w) (by go_grown) (by go_size) hb;clear hb)
 refine bodyPost_ret (v:= .agg #[.int .i64 1,.int .i64 0,.int .i64 4,.int .i64 3,.string ⟨#[]⟩,.int .i64 0,.int .i64 0,.bool false,.bool false,.int .i64 0,.int .i64 0,.bool false,.bool false,.slice none 0 0]) ?_ rfl ⟨rfl,by go_grown⟩
 simp (maxDischargeDepth:=9) [results,Tryd.results59,go_sem, *]
theorem spec_l4Lost (w:World):Calls Tryd.prog 24 #[] w fun e w'=>
  e= .returned (.agg #[.int .i64 1,.int .i64 0,.int .i64 4,.int .i64 3,.string ⟨#[]⟩,.int .i64 0,.int .i64 0,.bool false,.bool false,.int .i64 0,.int .i64 0,.bool false,.bool false,.slice none 0 0])∧Below w.heap.size w w':=by
 obtain⟨i0,hi,hz0,hz1,hz2⟩:=info_parts infoFn
 go_enter Tryd.func24,Tryd.ntmps24
 go_wp2_with (go_at_call 43;refine(spec_l2Error _ _).mono ?_;rintro e w1 ⟨rfl,hb⟩;obtain⟨hc,hf,hC,hF,hz,hk,l0⟩:=bk1 (w:=w) (by go_grown) (by go_size) hb;clear hb)
 refine bodyPost_ret (v:= .agg #[.int .i64 1,.int .i64 0,.int .i64 4,.int .i64 3,.string ⟨#[]⟩,.int .i64 0,.int .i64 0,.bool false,.bool false,.int .i64 0,.int .i64 0,.bool false,.bool false,.slice none 0 0]) ?_ rfl ⟨rfl,by go_grown⟩
 simp (maxDischargeDepth:=9) [results,Tryd.results24,go_sem, *]
theorem impl_MovedBy_1 (c r:Int) (x y:Bool) (c' r':Int) (x' y':Bool) (d e:Int) (p q:Nat) (w:World) (hp:p<w.heap.size) (hq:q<w.heap.size) (cp:w.cell? ⟨p,0,none⟩=some (.int .i64 d)) (cq:w.cell? ⟨q,0,none⟩=some (.int .i64 e)) (hc: -1000≤c∧c≤1000) (hr: -1000≤r∧r≤1000) (hc1: -1000≤c'∧c'≤1000) (hr1: -1000≤r'∧r'≤1000) (hd: -1000≤d∧d≤1000) (he: -1000≤e∧e≤1000):
  Calls Tryd.prog 18 #[.agg #[.int .i64 c,.int .i64 r,.bool x,.bool y],.agg #[.int .i64 c',.int .i64 r',.bool x',.bool y'],.pointer (some ⟨p,0,none⟩),.pointer (some ⟨q,0,none⟩)] w fun z w'=>
  z= .returned (.tuple #[.agg #[.int .i64 (mvI x c d),.int .i64 (mvI y r e),.bool x,.bool y],.agg #[.int .i64 (mvI x' c' d),.int .i64 (mvI y' r' e),.bool x',.bool y']])∧Below w.heap.size w w':=by
 have hx:Below w.heap.size w (((w.alloc (.cells #[.int .i64 c,.int .i64 r,.bool x,.bool y] 37)).alloc (.cells #[.int .i64 c',.int .i64 r',.bool x',.bool y'] 37))):=by go_grown
 have HX:Hid (Below w.heap.size w (((w.alloc (.cells #[.int .i64 c,.int .i64 r,.bool x,.bool y] 37)).alloc (.cells #[.int .i64 c',.int .i64 r',.bool x',.bool y'] 37)))):=hx
 clear hx
 have HP:Hid ((((w.alloc (.cells #[.int .i64 c,.int .i64 r,.bool x,.bool y] 37)).alloc (.cells #[.int .i64 c',.int .i64 r',.bool x',.bool y'] 37))).cell? ⟨p,0,none⟩=some (.int .i64 d)):=(HX.out.cell (p:=⟨p,0,none⟩) hp).trans cp
 have HQ:Hid ((((w.alloc (.cells #[.int .i64 c,.int .i64 r,.bool x,.bool y] 37)).alloc (.cells #[.int .i64 c',.int .i64 r',.bool x',.bool y'] 37))).cell? ⟨q,0,none⟩=some (.int .i64 e)):=(HX.out.cell (p:=⟨q,0,none⟩) hq).trans cq
 have hwr:IntKind.i64.wrap (d-1)=d-1:=by rw [IntKind.wrap_i64];omega
 have HPL:Hid (p<w.heap.size+2):=Nat.lt_of_lt_of_le hp (Nat.le_add_right _ _)
 have HQL:Hid (q<w.heap.size+2):=Nat.lt_of_lt_of_le hq (Nat.le_add_right _ _)
 go_enter Tryd.func18,Tryd.ntmps18
 go_wp2_with fail
 go_region_held3 (fun w'=>w'.cell? ⟨p,0,none⟩=some (.int .i64 d)∧w'.cell? ⟨q,0,none⟩=some (.int .i64 e)∧(∀bq oq,bq<w.heap.size+2→w'.cell? ⟨bq,oq,none⟩=(((w.alloc (.cells #[.int .i64 c,.int .i64 r,.bool x,.bool y] 37)).alloc (.cells #[.int .i64 c',.int .i64 r',.bool x',.bool y'] 37))).cell? ⟨bq,oq,none⟩)∧w.heap.size+2≤w'.heap.size∧Below (w.heap.size+2) (((w.alloc (.cells #[.int .i64 c,.int .i64 r,.bool x,.bool y] 37)).alloc (.cells #[.int .i64 c',.int .i64 r',.bool x',.bool y'] 37))) w')
  (exact sc2_of (by go_size) HPL.out HQL.out HP.out HQ.out (by go_grown))
  (first
  | (go_at_call 19;refine(impl_movedBy _ _ _ _ _ _ _ (by assumption) (by assumption) hd he).mono ?_;rintro e w1 ⟨rfl,hb⟩;obtain⟨hk,hz⟩:=bframe (B:=w.heap.size+2) (X:=(((w.alloc (.cells #[.int .i64 c,.int .i64 r,.bool x,.bool y] 37)).alloc (.cells #[.int .i64 c',.int .i64 r',.bool x',.bool y'] 37)))) (by go_grown) (by go_size) hb;obtain⟨hC,hF,hL,hE⟩:=kp hb;(try simp only [World.size_drew]at hC hF hL hE);(try (refine cutLt (x:=w.heap.size+1+1) ?_ hb.size (fun hq=> ?_);(focus (go_size;done))));(try (refine cutLt (x:=w.heap.size+1+1+1) ?_ hb.size (fun hq=> ?_);(focus (go_size;done))));clear hb))
 all_goals
  go_wp2_with fail
  refine bodyPost_ret (v:= .tuple #[.agg #[.int .i64 (mvI x c d),.int .i64 (mvI y r e),.bool x,.bool y],.agg #[.int .i64 (mvI x' c' d),.int .i64 (mvI y' r' e),.bool x',.bool y']]) ?_ rfl ⟨rfl,bfin (n:=2) HX.out (by go_grown)⟩
  simp (maxDischargeDepth:=9) [results,Tryd.results18,go_sem, *]
theorem cellB {w W:World} {p:Nat} {v:Value} (hb:Below w.heap.size w W) (hp:p<w.heap.size) (c:w.cell? ⟨p,0,none⟩=some v):W.cell? ⟨p,0,none⟩=some v:=(hb.cell (p:=⟨p,0,none⟩) hp).trans c
theorem ltB {w W:World} {p:Nat} (hb:Below w.heap.size w W) (hp:p<w.heap.size):p<W.heap.size:=Nat.lt_of_lt_of_le hp hb.size
theorem impl_AreaOk_is (a b c d:Int) (t:Bool) (w:World) (h:areaOkB a b c d=t):Calls Tryd.prog 55 #[.agg #[.int .i64 a,.int .i64 b,.int .i64 c,.int .i64 d]] w fun e w'=>
  e= .returned (.bool t)∧Below w.heap.size w w':=(impl_AreaOk a b c d w).mono fun _ _ g=>⟨by rw [g.1,h],g.2⟩
theorem app_kids {ops:Array Oper} {rest:List Oper} {o:Oper} {a:Act} {Q:Exit→Act→World→Prop} (w:World) (hgd:o.guard=none) (s x:Operand)
  (ho:o.op= .call {callee:= .builtin .append,args:= #[s,x],argTypes:= #[38,38]}) (v:Value) (hs:a.eval s=v) (base:Nat) (hb:base≤w.heap.size) (hown:w.ownsRow base 2 1 v 0 [])
  {KA:Option Addr} {kc:Nat} {l:List Int} (hx:a.eval x= .slice KA l.length kc) (h0:KA=none→kc=0) (hi:IntRow w KA l) (hn:l.length≤1048576)
  (h: ∀KB kb w',w'.ownsRow base 2 1 (.slice KB l.length kb) l.length (l.map (Value.int .i64))→w.grownBy w' v.ownBlock→wpList Tryd.prog ops Q rest (a.put o.dst (.slice KB l.length kb)) w'):wpList Tryd.prog ops Q (o::rest) a w:=by
 obtain⟨i0,hi0,hz0,hz1,hz2⟩:=info_parts infoInt
 cases KA with
 | none=>
  have hk:=h0 rfl
  subst hk
  have hl:l= []:=by
   cases l with
   | nil=>rfl
   | cons y ys=>obtain⟨b,o',e,_⟩:=hi.2 0 (by simp);cases e
  subst hl
  obtain⟨A',cap',rfl,_,_⟩:=own_shape hown
  exact wpList_append_own_none hgd s x 38 ho base 2 i0 1 Tryd.underlying38 hi0 _ 0 [] hs hown hx (h _ _ w hown (World.grownBy.refl _ _))
 | some ad=>
  refine wpList_append_own w hgd s x 38 ho base 2 i0 (.int .i64 0) 1 8 Tryd.underlying38 hi0 hz0 hz1 hz2 rfl (by decide) v 0 [] hs hown ad l.length kc (l.map (Value.int .i64)) hx (by simp) ?_ ?_ ?_ ?_ hb ?_
  ·intro j u hj
   have hlt:j<l.length:=by
    have:=(List.getElem?_eq_some_iff.1 hj).1
    simpa using this
   obtain⟨b,o',e,_,c⟩:=hi.2 j hlt
   cases e
   rw [map_at l j hlt]at hj
   cases hj
   have ea:(⟨b,o',none⟩:Addr).add j=⟨b,o'+j,none⟩:=by
    unfold Addr.add
    split
    ·rename_i hj0;subst hj0;rfl
    ·rfl
   rw [ea]
   exact c
  ·intro u hu
   obtain⟨z,_,rfl⟩:=List.mem_map.1 hu
   rfl
  ·unfold maxLen;omega
  ·omega
  ·intro v' w' ho' hg' _
   rw [Nat.zero_add,List.nil_append]at ho'
   obtain⟨KB,kb,rfl,_,_⟩:=own_shape ho'
   exact h KB kb w' ho' hg'
theorem shiftedNode_other (k:Int) (o ck cn:Int) (cs:ByteArray) (ac ar:Int) (af ag:Bool) (bc br:Int) (bf bg:Bool) {KA:Option Addr} {kc:Nat} {l:List Int} (fv:Value) (w:World) (h2:k≠2) (h3:k≠3) (h0:KA=none→kc=0) (hi:IntRow w KA l) (hn:l.length≤1048576):
  Calls Tryd.prog 36 #[.agg #[.int .i64 k,.int .i64 o,.int .i64 ck,.int .i64 cn,.string cs,.int .i64 ac,.int .i64 ar,.bool af,.bool ag,.int .i64 bc,.int .i64 br,.bool bf,.bool bg,.slice KA l.length kc],fv] w fun z w'=> ∃KB kb,z= .returned (.agg #[.int .i64 k,.int .i64 o,.int .i64 ck,.int .i64 cn,.string cs,.int .i64 ac,.int .i64 ar,.bool af,.bool ag,.int .i64 bc,.int .i64 br,.bool bf,.bool bg,.slice KB l.length kb])∧w'.ownsRow w.heap.size 2 1 (.slice KB l.length kb) l.length (l.map (Value.int .i64))∧Below w.heap.size w w':=by
 have HI:Hid (IntRow w KA l):=hi
 have HN:Hid (l.length≤1048576):=hn
 have HK:Hid (KA=none→kc=0):=h0
 clear hi hn h0
 have e2:(k==2)=false:=by simpa using h2
 have e3:(k==3)=false:=by simpa using h3
 go_enter Tryd.func36,Tryd.ntmps36
 go_wp2_with (at_builtin;refine app_kids _ rfl _ _ rfl (.slice none 0 0) rfl (w.heap.size+2) ?kb ?kn rfl HK.out ?ki HN.out ?_)
 case kb=>go_size
 case kn=>exact⟨rfl,Or.inl ⟨rfl,rfl⟩⟩
 case ki=>exact HI.out.below (by go_grown)
 intro KB kb w9 hown hgrow
 have HO:Hid (w9.ownsRow (w.heap.size+2) 2 1 (.slice KB l.length kb) l.length (l.map (Value.int .i64))):=hown
 have hb:=(Below.refl _ _).grown hgrow (Nat.le_refl _) (fun k hk=>by cases hk)
 obtain⟨hc9,hf9,hC9,hF9,hz9,hk9,m0,m1⟩:=bk2 (w:=w) (by go_grown) (by go_size) hb
 clear hgrow hb hown
 go_wp2_with fail
 refine bodyPost_ret (v:= .agg #[.int .i64 k,.int .i64 o,.int .i64 ck,.int .i64 cn,.string cs,.int .i64 ac,.int .i64 ar,.bool af,.bool ag,.int .i64 bc,.int .i64 br,.bool bf,.bool bg,.slice KB l.length kb]) ?_ rfl ⟨_,_,rfl,?_,by go_grown⟩
 ·simp (maxDischargeDepth:=9) [results,Tryd.results36,go_sem, *]
 ·refine own_mono (B:=w.heap.size+2) ?_ (by omega)
  repeat (refine ownsRow_setCell_below ?_ (by simp) _)
  exact HO.out
end Go.Proofs.YtonhcgkagdpdlaaDoor
