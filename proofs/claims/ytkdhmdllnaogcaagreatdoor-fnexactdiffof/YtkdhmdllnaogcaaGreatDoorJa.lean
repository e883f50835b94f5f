import Derived.Test.YtkdhmdllnaogcaaGreatDoorMn
import Derived.Test.YtkdhmdllnaogcaaGreatDoorSaA
import Derived.Shelf.SlIter.Collect
import Derived.Sort.MapsRangeIn
import Derived.Test.YtkdhmdllnaogcaaGreatDoorCvA
import Derived.Sort.Grow
import Derived.Test.YtkdhmdllnaogcaaGreatDoorGzj
import Derived.Test.YtkdhmdllnaogcaaGreatDoorShelfC
import Derived.Shelf.SlSortCmp.WholeK
import Derived.Shelf.SlSortCmp.NoneTotal
import Derived.Test.YtkdhmdllnaogcaaGreatDoorGze
set_option linter.unusedSimpArgs false
set_option linter.unusedVariables false
set_option maxHeartbeats 4000000
set_option maxRecDepth 100000
namespace Go.Proofs.YtkdhmdllnaogcaaGreatDoor
open Go.RowKit Go.Maps Go.Sort Go.Shelf
structure CL where
 c:Int
 r:Int
 s:ByteArray
def CL.key (x:CL):Value:= .agg #[.int .i64 x.c,.int .i64 x.r]
def CL.enc (x:CL):Value:= .agg #[.int .i64 x.c,.int .i64 x.r,.string x.s]
structure CmD (D:DataW Value) (E:List CL):Prop where
 nd:E.Pairwise (fun x y=>x.key≠y.key)
 into: ∀x∈E,∃kl,keyOf Tryz.prog 45 x.key=some kl∧ ∀zd,D.atKey kl zd= .held x.enc
 back: ∀kl,Maps.has D kl=true→ ∃x∈E,keyOf Tryz.prog 45 x.key=some kl
def GotC (E:List CL) (left:Lit→Bool) (ss:List CL):Prop:=ss.Nodup∧ ∀x,x∈ss↔x∈E∧ ∃kl,keyOf Tryz.prog 45 x.key=some kl∧left kl=false
theorem GotC.start {D:DataW Value} {E:List CL} (h:CmD D E):GotC E (Maps.has D) []:=⟨List.nodup_nil,fun x=>by
 constructor
 ·intro hx;cases hx
 ·rintro⟨hx,kl,hk,hl⟩;obtain⟨kl2,hk2,hat⟩:=h.into x hx;rw [hk]at hk2;cases hk2
  rw [has_true_of_atKey hat]at hl;cases hl⟩
theorem CmD.one {D:DataW Value} {E:List CL} (h:CmD D E) {kl:Lit} {v:Value} (hat: ∀zd,D.atKey kl zd= .held v): ∃x∈E,v=x.enc∧keyOf Tryz.prog 45 x.key=some kl:=by
 obtain⟨x,hx,hk⟩:=h.back kl (has_true_of_atKey hat);obtain⟨kl2,hk2,hat2⟩:=h.into x hx;rw [hk]at hk2;cases hk2;have e:=(hat (.held v)).symm.trans (hat2 (.held v));exact⟨x,hx,by cases e;rfl,hk⟩
theorem GotC.step {D:DataW Value} {E:List CL} (hD:CmD D E) {left:Lit→Bool} {ss:List CL} (h:GotC E left ss) {x:CL} {kl:Lit} (hx:x∈E) (hk:keyOf Tryz.prog 45 x.key=some kl) (hlk:left kl=true):
  GotC E (fun z=>left z&& !z.sameKey kl) (ss++ [x]):=by
 have hnew:x∉ss:=fun hm=>by
  obtain⟨_,kl2,hk2,hl⟩:=(h.2 x).1 hm;rw [hk]at hk2;cases hk2;rw [hlk]at hl;cases hl
 refine⟨List.nodup_append.2 ⟨h.1,by simp,fun a ha b hb=>by simp at hb;subst hb;exact fun e=>hnew (e▸ha)⟩,fun y=> ?_⟩;rw [List.mem_append,List.mem_singleton,h.2 y];constructor
 ·rintro(⟨hy,kl2,hk2,hl⟩ | rfl)
  ·exact⟨hy,kl2,hk2,by simp [hl]⟩
  ·exact⟨hx,kl,hk,by simp [WideAt.sameKey_self (keyedRef.key hk)]⟩
 ·rintro⟨hy,kl2,hk2,hl⟩;by_cases e:kl2=kl
  ·subst e;refine .inr ?_;have e2:=keyedRef.inj hk2 hk;obtain⟨i,hi,e3⟩:=List.mem_iff_getElem.1 hx;obtain⟨j,hj,e4⟩:=List.mem_iff_getElem.1 hy;rcases Nat.lt_trichotomy i j with hij | hij | hij
   ·exact absurd (by rw [e3,e4];exact e2.symm) (List.pairwise_iff_getElem.1 hD.nd i j hi hj hij)
   ·subst hij;rw [←e3,←e4]
   ·exact absurd (by rw [e3,e4];exact e2) (List.pairwise_iff_getElem.1 hD.nd j i hj hi hij)
  ·refine .inl ⟨hy,kl2,hk2,?_⟩;cases hv:left kl2 with
   | false=>rfl
   | true=>
    exfalso
    simp [hv]at hl;exact e (WideAt.sameKey_eq hl)
theorem GotC.perm {D:DataW Value} {E:List CL} (hD:CmD D E) {left:Lit→Bool} {ss:List CL} (h:GotC E left ss) (hl: ∀kl,left kl=false):ss.Perm E:=by
 have hne:E.Nodup:=hD.nd.imp (fun h e=>h (by rw [e]));refine(List.perm_ext_iff_of_nodup h.1 hne).2 fun x=> ?_;rw [h.2 x];constructor
 ·exact fun h=>h.1
 ·intro hx;obtain⟨kl,hk,_⟩:=hD.into x hx;exact⟨hx,kl,hk,hl kl⟩
theorem values1 (n:Nat) (hn:1≤n) (l Bm b nn:Nat) (D0:DataW Value) (E:List CL) (hE:CmD D0 E) (J:List CL→World→Prop)
  (hY: ∀pre x W,J pre W→pre.length<Maps.size D0→YieldAt Fence.wide (n-1) Tryz.prog l #[CL.enc x] W fun e W'=>e= .returned (.bool true)∧J (pre++ [x]) W'∧KeepsWalks W W')
  (W:World) (hJ:AbidesFrom W.heap.size J) (hm:W.cell? ⟨Bm,0,none⟩=some (.map (some b))) (hown:W.ownsMap Tryz.prog 45 Qgc b nn D0) (h0:J [] W):
  CallsIn Fence.wide n Tryz.prog 72 #[.func (.yield l) #[] #[],.pointer (some ⟨Bm,0,none⟩)] W fun e W'=>(∃v,e= .returned v)∧ ∃ss:List CL,ss.Perm E∧J ss W':=by
 have HM:Hid (W.cell? ⟨Bm,0,none⟩=some (.map (some b))):=hm;refine callsIn_of_wp Tryz.func72 rfl trivial ?_ rfl;simp only [Tryz.ntmps72,List.size_toArray,List.length_cons,List.length_nil,Nat.reduceAdd,Nat.reduceSub,Array.replicate_succ,Array.replicate_zero,List.push_toArray,List.append_toArray,List.nil_append,List.cons_append]
 gi_wp2_with (first
  | (gi_at_range;refine wpListIn_range_own _ rfl _ 73 rfl 45 50 keyedRef Tryz.underlying73 _ b nn _ rfl hown ?_;intro w0 hrg0 hg0 hs0)
  | gi_in)
 go_frame
 gi_loopw [4] (fun _ wr=> ∃(left:Lit→Bool) (cnt:Nat) (ss:List CL),wr.ranges Tryz.prog 45 Qgc b W.heap.size nn D0 left cnt∧ss.length+cnt≤Maps.size D0∧GotC E left ss∧J ss wr)
  (fun _ wr=>wr.rangeLeft b W.heap.size)
 case atStart=>
  exact⟨_,_,[],hrg0,by simp,GotC.start hE,hJ [] W w0 none h0 hg0 (fun r e=>by cases e)⟩
 case round=>
  obtain⟨left,cnt,ss,hrg,hcs,hC,hJs⟩:=hrel
  gi_wp2_with (first
   | (gi_at_next;refine wpListIn_next_ranges (α:=Value) (β:=Value) _ rfl _ rfl 45 keyedRef Qgc id id (fun key kl hk=>⟨key,rfl⟩) (fun v _ _=>⟨v,rfl⟩) b W.heap.size nn _ _ _ rfl hrg ?_ ?_)
   | gi_in)
  ·intro hc0 hl0;gi_wp2
   go_end0
   exact⟨⟨_,rfl⟩,ss,hC.perm hE hl0,hJs⟩
  ·intro x c kl yd yp w2 cnt2 hkey hlk hv hat hrg2 hlt hg2 hs2 hen;obtain⟨y,hy,rfl,hky⟩: ∃y∈E,c=y.enc∧keyOf Tryz.prog 45 y.key=some kl:=hE.one (v:=c) (fun zd=>by rw [hat zd];simp only [Qgc,id]at hv;cases hv;rfl);have hJ2:J ss w2:=hJ ss wr w2 (some W.heap.size) hJs hg2 (fun r e=>by cases e;exact⟨Nat.le_refl _,hrg.iter_walk⟩);clear hs2 hm hown;obtain⟨yc,yr,ys⟩:=y;simp only [CL.enc,id]at hen hv ⊢;have hJ3:J ss (w2.alloc (.cells #[.int .i64 yc,.int .i64 yr,.string ys] 50)):=hJ ss w2 _ none hJ2 (World.grownBy_alloc _ _ none) (fun r e=>by cases e)
   obtain⟨fn,tmps,assign,body,hyy,hR⟩:=hY ss ⟨yc,yr,ys⟩ _ hJ3 (by omega);simp only [CL.enc]at hyy hR;gi_wp2
   refine hR.mono ?_;rintro e W3 ⟨rfl,hJ4,hk3⟩;gi_wp2
   have hrg3:=hrg2.of_walks ((KeepsWalks.alloc _ _).trans hk3);go_roundw
   case rel=>exact⟨_,cnt2,ss++ [_],hrg3,by simp;omega,hC.step hE hy hky hlk,hJ4⟩
   case measure=>rw [hrg3.left_eq,hrg.left_eq];exact hlt
theorem values_gives (n:Nat) (hn:1≤n) (Bm b nn:Nat) (D0:DataW Value) (E:List CL) (hE:CmD D0 E) (w:World) (hBm:Bm<w.heap.size)
  (hm:w.cell? ⟨Bm,0,none⟩=some (.map (some b))) (hown:w.ownsMap Tryz.prog 45 Qgc b nn D0):
  SeqGives Fence.wide n Tryz.prog 72 #[.pointer (some ⟨Bm,0,none⟩)] CL.enc (fun ss=>ss.Perm E) (Maps.size D0) w:=fun l J W hW hJ hY h0=>by
 have hown':W.ownsMap Tryz.prog 45 Qgc b nn D0:=by
  have hbl:=hown.lt;obtain⟨es,clock,hb,Ft,hs,hD⟩:=hown;exact⟨es,clock,(hW.block b hbl).trans hb,Ft,hs,hD⟩
 exact values1 n hn l Bm b nn D0 E hE J hY W hJ ((hW.cell (p:=⟨Bm,0,none⟩) hBm).trans hm) hown' h0
theorem values_in (n:Nat) (mb:Option Nat) (w:World):
  CallsIn Fence.wide n Tryz.prog 55 #[.map mb] w fun e w'=>e= .returned (.func (.func 72) #[] #[.pointer (some ⟨w.heap.size,0,none⟩)])∧w'=w.alloc (.cells #[.map mb] 73):=by
 refine callsIn_of_wp Tryz.func55 rfl trivial ?_ rfl;simp only [Tryz.ntmps55,List.size_toArray,List.length_cons,List.length_nil,Nat.reduceAdd,Nat.reduceSub,Array.replicate_succ,Array.replicate_zero,List.push_toArray,List.append_toArray,List.nil_append,List.cons_append];gi_wp2
 go_ret;exact⟨rfl,rfl⟩
def CL.cs (x:CL):List Value:= [.int .i64 x.c,.int .i64 x.r,.string x.s]
theorem clSlNe:26≠50:=by decide
def caAssign : Code := Code.region 2 #[{ dst := some 5, op := Op.alloc 50, type := 0, pos := "iter.go:51", after := #[], guard := none }, { dst := none, op := Op.store 50 (Operand.tmp 5) (Operand.tmp 7), type := 0, pos := "iter.go:51", after := #[{ on := 0, ground := Ground.data }, { on := 0, ground := Ground.phase }], guard := none }] false
def caBody : Code := Code.block 1 (Code.region 3 #[{ dst := some 8, op := Op.load 26 (Operand.tmp 2), type := 26, pos := "iter.go:52", after := #[], guard := none }, { dst := some 9, op := Op.load 50 (Operand.tmp 5), type := 50, pos := "iter.go:52", after := #[], guard := none }, { dst := some 10, op := Op.buildSlice 26 1 #[(0, Operand.tmp 9)], type := 26, pos := "iter.go:52", after := #[{ on := 1, ground := Ground.data }], guard := none }, { dst := some 11, op := Op.call { callee := Callee.builtin Builtin.append, args := #[Operand.tmp 8, Operand.tmp 10], argTypes := #[26, 26] }, type := 26, pos := "iter.go:52", after := #[{ on := 0, ground := Ground.data }, { on := 2, ground := Ground.data }], guard := none }, { dst := none, op := Op.store 26 (Operand.tmp 2) (Operand.tmp 11), type := 0, pos := "iter.go:52", after := #[{ on := 3, ground := Ground.data }, { on := 3, ground := Ground.chain }, { on := 0, ground := Ground.phase }, { on := 1, ground := Ground.phase }, { on := 2, ground := Ground.phase }, { on := 3, ground := Ground.phase }], guard := none }] false)
theorem cl_new (W:World) (c r:Int) (s:ByteArray): ∀j u,[Value.int .i64 c,.int .i64 r,.string s][j]? =some u→(W.alloc (.cells #[.int .i64 c,.int .i64 r,.string s] 50)).cell? ((⟨W.heap.size,0,none⟩:Addr).add j)=some u:=fun j u hu=>by
 match j,hu with
 | 0,hu=>cases hu;simp [Addr.add]
 | 1,hu=>cases hu;simp [Addr.add]
 | 2,hu=>cases hu;simp [Addr.add]
def caRec (fn:FuncId) (sv:Value) (Bs D:Nat) (st:LoopState) (pend:Option Code):Loop:=
 {state:=st,pending:=pend,fn,tmps:= #[.slice none 0 0,sv,.pointer (some ⟨Bs,0,none⟩),undef,.slice none 0 0,undef,sv,undef,undef,undef,undef,undef,undef],params:= #[7],assign:=caAssign,body:=caBody,defers:=D}
structure CaAt (w0:World) (fn:FuncId) (sv:Value) (Bs l D:Nat) (ss:List CL) (W:World):Prop where
 box: ∃v,W.heap[Bs]? =some (.cells #[v] 26 (0,0))∧W.ownsRow w0.heap.size 50 3 v ss.length (ss.flatMap CL.cs)
 L:W.heap[l]? =some (.loop (caRec fn sv Bs D .ready none))
 K:W.heap[D]? =some (.deferred (some []))
 below:Below w0.heap.size w0 W
theorem ca_abides (w0:World) (fn:FuncId) (sv:Value) (Bs l D B:Nat) (hB:w0.heap.size≤B):AbidesFrom B (CaAt w0 fn sv Bs l D):=fun s W W' row h hg hrow=>by
 have hrow': ∀r,row=some r→ ∃o:Obj,W.heap[r]? =some o∧o.isWalk=true:=fun r e=>(hrow r e).2;obtain⟨v,hv,hr⟩:=h.box
 exact⟨⟨v,(grownBy_keeps hg hrow' hv rfl).trans hv,ownsRow_abides_a hr hg hrow'⟩,(grownBy_keeps hg hrow' h.L rfl).trans h.L,(grownBy_keeps hg hrow' h.K rfl).trans h.K,
  h.below.grown hg h.below.size (fun k e=>Nat.le_trans hB (hrow k e).1)⟩
theorem caYield (m : Nat) (w0 : World) (fn : FuncId) (sv : Value) (Bs l D : Nat) (hBl : Bs ≠ l) (hDl : D ≠ l) (hDB : D ≠ Bs) (h0B : w0.heap.size ≤ Bs) (h0l : w0.heap.size ≤ l)
    (N : Nat) (hN : N ≤ 10000) (ss : List CL) (x : CL) (W : World) (h : CaAt w0 fn sv Bs l D ss W) (hlen : ss.length < N) :
    YieldAt Fence.wide m Tryz.prog l #[CL.enc x] W fun e W' => e = .returned (.bool true) ∧ CaAt w0 fn sv Bs l D (ss ++ [x]) W' ∧ KeepsWalks W W' := by
  have hne := clSlNe;obtain ⟨i0, hi, hz0, hz1, hz2⟩ := info_parts Qhw;obtain ⟨v, hv, hrow⟩ := h.box;obtain ⟨xc, xr, xs⟩ := x;simp only [CL.enc];refine ⟨fn, #[.slice none 0 0, sv, .pointer (some ⟨Bs, 0, none⟩), undef, .slice none 0 0, undef, sv, .agg #[.int .i64 xc, .int .i64 xr, .string xs], undef, undef, undef, undef, undef], caAssign, caBody, by simpa [caRec] using run_yield (P := Tryz.prog) (args := #[.agg #[.int .i64 xc, .int .i64 xr, .string xs]]) h.L rfl, roundIn_of_wpIn trivial ?_⟩;have hl : l < W.heap.size := (Array.getElem?_eq_some_iff.1 h.L).1
  have hBW : Bs < W.heap.size := (Array.getElem?_eq_some_iff.1 hv).1;have hDW : D < W.heap.size := (Array.getElem?_eq_some_iff.1 h.K).1;obtain ⟨Wa, hWa⟩ : ∃ Wa, W.alloc (.cells #[.int .i64 xc, .int .i64 xr, .string xs] 50) = Wa := ⟨_, rfl⟩;have hva : Wa.heap[Bs]? = some (.cells #[v] 26 (0, 0)) := by rw [← hWa]; exact (Below.heap_alloc _ _ Bs hBW).trans hv
  have hLa : Wa.heap[l]? = some (.loop (caRec fn sv Bs D .ready none)) := by rw [← hWa]; exact (Below.heap_alloc _ _ l hl).trans h.L
  have hKa : Wa.heap[D]? = some (.deferred (some [])) := by rw [← hWa]; exact (Below.heap_alloc _ _ D hDW).trans h.K
  have hra : Wa.ownsRow w0.heap.size 50 3 v ss.length (ss.flatMap CL.cs) := by rw [← hWa]; exact hrow.alloc _
  have hba : Below w0.heap.size w0 Wa := by rw [← hWa]; exact h.below.alloc h.below.size _
  have hka : KeepsWalks W Wa := by rw [← hWa]; exact KeepsWalks.alloc _ _
  have hxa : Wa.heap[W.heap.size]? = some (.cells #[.int .i64 xc, .int .i64 xr, .string xs] 50 (0, 0)) := by rw [← hWa]; exact World.alloc_heap_new W _
  have hbr := run_beginRound (P := Tryz.prog) hLa rfl;obtain ⟨W2, hW2⟩ : ∃ W2, Wa.putObj l (.loop { caRec fn sv Bs D .ready none with state := .busy }) = W2 := ⟨_, rfl⟩;rw [hW2] at hbr;have hg2 : Wa.grownBy W2 (some l) := by rw [← hW2]; exact grownBy_putObj_a _ _ _
  have hk2 : KeepsWalks Wa W2 := by rw [← hW2]; exact KeepsWalks.putObj _ hLa rfl
  have hv2 : W2.heap[Bs]? = some (.cells #[v] 26 (0, 0)) := by rw [← hW2]; exact (World.putObj_heap_other hBl).trans hva
  have hx2 : W2.heap[W.heap.size]? = some (.cells #[.int .i64 xc, .int .i64 xr, .string xs] 50 (0, 0)) := by rw [← hW2]; exact (World.putObj_heap_other (by omega)).trans hxa
  have hK2 : W2.heap[D]? = some (.deferred (some [])) := by rw [← hW2]; exact (World.putObj_heap_other hDl).trans hKa
  have hL2 : W2.heap[l]? = some (.loop { caRec fn sv Bs D .ready none with state := .busy }) := by rw [← hW2]; exact World.putObj_heap_same (by rw [← hWa]; simp; omega)
  have hrow2 : W2.ownsRow w0.heap.size 50 3 v ss.length (ss.flatMap CL.cs) := hra.kept hg2 (ownsRow_ne_a hra hLa (fun cur e => by cases e));have hb2 : Below w0.heap.size w0 W2 := hba.grown hg2 hba.size (fun k e => by cases e; exact h0l);have hBlt : Bs < W2.heap.size := (Array.getElem?_eq_some_iff.1 hv2).1;have hl2 : l < W2.heap.size := (Array.getElem?_eq_some_iff.1 hL2).1;have hDlt : D < W2.heap.size := (Array.getElem?_eq_some_iff.1 hK2).1;have hxlt : W.heap.size < W2.heap.size := (Array.getElem?_eq_some_iff.1 hx2).1;obtain ⟨hc2, hf2⟩ := cell_of_box_a hv2
  have hc0 : W2.cell? ⟨W.heap.size, 0, none⟩ = some (.int .i64 xc) := by simp [World.cell?, hx2]
  have hc1 : W2.cell? ⟨W.heap.size, 1, none⟩ = some (.int .i64 xr) := by simp [World.cell?, hx2]
  have hc3 : W2.cell? ⟨W.heap.size, 2, none⟩ = some (.string xs) := by simp [World.cell?, hx2]
  have ne_of : ∀ {j : Nat} {o : Obj}, W2.heap[j]? = some o → (∀ cur, o ≠ .cells cur 50 (0, 0)) → some j ≠ v.ownBlock := fun hj hno => by
    rcases ownsRow_ne_a hrow2 hj hno with e | e
    · rw [e]; simp
    · exact fun e' => e e'.symm
  clear hW2;unfold caAssign;gi_wp2_with gi_round_op_a
  unfold caBody
  gi_wp2_with (first
    | (gi_at_builtin
       refine wpListIn_append_own _ rfl _ _ 26 rfl w0.heap.size 50 i0 (.agg #[.int .i64 0, .int .i64 0, .string ⟨#[]⟩]) 3 32 Tryz.underlying26 hi hz0 hz1 hz2 rfl (by decide) _ _ _ rfl (hrow2.alloc _) ⟨W2.heap.size, 0, none⟩ 1 1 [.int .i64 xc, .int .i64 xr, .string xs] rfl rfl ?c1 ?c2 ?c3 ?c4 ?c5 ?_
       case c1 => exact cl_new _ _ _ _
       case c2 => simp [Value.oneCell']
       case c3 => unfold maxLen; omega
       case c4 => omega
       case c5 => have := hb2.size; simp; omega
       intro v' w3 hown' hg3 hnil3;have hv3 : w3.heap[Bs]? = some (.cells #[v] 26 (0, 0)) := (hg3.block Bs (by simp; omega) (ne_of hv2 (fun cur e => hne (Obj.cells.inj e).2.1))).trans ((Below.heap_alloc _ _ Bs hBlt).trans hv2);obtain ⟨hcb3, hfb3⟩ := cell_of_box_a hv3
       obtain ⟨g', cap', cur', rfl, hbase', hgb', hr1, hr2, hr3, hr4⟩ : ∃ g' cap' cur', v' = .slice (some ⟨g', 0, none⟩) (ss.length + 1) cap' ∧ w0.heap.size ≤ g' ∧ w3.heap[g']? = some (.cells cur' 50 (0, 0)) ∧ ss.length + 1 ≤ cap' ∧ cap' ≤ maxLen ∧ cur'.size = cap' * 3 ∧ cur'.toList.take ((ss.length + 1) * 3) = ss.flatMap CL.cs ++ [.int .i64 xc, .int .i64 xr, .string xs] := by
         rcases hown'.2 with ⟨_, h0⟩ | h'
         · exact absurd h0 (by omega)
         · exact h'
       go_frame)
    | gi_round_op_a)
  have hL3 : w3.heap[l]? = some (.loop { caRec fn sv Bs D .ready none with state := .busy }) := (hg3.block l (by simp; omega) (ne_of hL2 (fun cur e => by cases e))).trans ((Below.heap_alloc _ _ l hl2).trans hL2);have hK3 : w3.heap[D]? = some (.deferred (some [])) := (hg3.block D (by simp; omega) (ne_of hK2 (fun cur e => by cases e))).trans ((Below.heap_alloc _ _ D hDlt).trans hK2);obtain ⟨w4, hw4⟩ : ∃ w4, w3.setCell ⟨Bs, 0, none⟩ (.slice (some ⟨g', 0, none⟩) (ss.length + 1) cap') = w4 := ⟨_, rfl⟩;rw [hw4];have hg4 : w3.grownBy w4 (some Bs) := by rw [← hw4]; exact grownBy_setCell0_a _ _ _
  have hv4 : w4.heap[Bs]? = some (.cells #[.slice (some ⟨g', 0, none⟩) (ss.length + 1) cap'] 26 (0, 0)) := by rw [← hw4]; exact heap_setCell_box_a _ hv3
  have hL4 : w4.heap[l]? = some (.loop { caRec fn sv Bs D .ready none with state := .busy }) := (hg4.block l (Array.getElem?_eq_some_iff.1 hL3).1 (fun e => hBl (by cases e; rfl))).trans hL3;have hK4 : w4.heap[D]? = some (.deferred (some [])) := (hg4.block D (Array.getElem?_eq_some_iff.1 hK3).1 (fun e => hDB (by cases e; rfl))).trans hK3;have hrow4 := hown'.kept hg4 (ownsRow_ne_a hown' hv3 (fun cur e => hne (Obj.cells.inj e).2.1));have hl4 : l < w4.heap.size := (Array.getElem?_eq_some_iff.1 hL4).1;have hb3 : Below w0.heap.size w0 w3 := (hb2.alloc hb2.size _).grown hg3 (by have := hb2.size; simp; omega) (fun k e => (hrow2.lt k e).1);have hb4 : Below w0.heap.size w0 w4 := hb3.grown hg4 hb3.size (fun k e => by cases e; exact h0B);have hk4 : KeepsWalks W w4 := (((hka.trans hk2).trans (KeepsWalks.alloc _ _)).trans (KeepsWalks.of_grownBy hg3 (ownsRow_not_walk_a (hrow2.alloc _)))).trans (by rw [← hw4]; exact KeepsWalks.setCell _ _ _)
  clear hw4;refine ⟨_, _, run_endRound none hL4, rfl, ⟨⟨_, (World.putObj_heap_other hBl).trans hv4, ?_⟩, World.putObj_heap_same hl4, (World.putObj_heap_other hDl).trans hK4, hb4.grown (grownBy_putObj_a _ _ _) hb4.size (fun k e => by cases e; exact h0l)⟩, hk4.trans (KeepsWalks.putObj _ hL4 rfl)⟩;have := hrow4.kept (grownBy_putObj_a w4 l (.loop { { caRec fn sv Bs D .ready none with state := .busy } with state := if (none : Option Code).isNone then .ready else .done, pending := none })) (ownsRow_ne_a hrow4 hL4 (fun cur e => by cases e));simpa [CL.cs, List.flatMap_append] using this
theorem ca_appendSeq (n : Nat) (hn : 2 ≤ n) (g : Nat) (lb : Array Value) (eg : ∀ args w, (callFunc g args).run Tryz.prog w = .ok (.enter g args) w)
    (S : List CL → Prop) (N : Nat) (hN : N ≤ 10000) (w : World) (hseq : SeqGives Fence.wide (n - 1) Tryz.prog g lb CL.enc S N w) :
    CallsIn Fence.wide n Tryz.prog 91 #[.slice none 0 0, .func (.func g) #[] lb] w fun e w' => ∃ (v : Value) (ss : List CL), e = .returned v ∧ S ss ∧ w'.ownsRow w.heap.size 50 3 v ss.length (ss.flatMap CL.cs) ∧ Below w.heap.size w w' := by
  have h1 : 1 ≤ n := by omega
  have hne := clSlNe;refine callsIn_of_wp_marks Tryz.func91 rfl trivial ?_ rfl;simp only [Tryz.ntmps91, List.size_toArray, List.length_cons, List.length_nil, Nat.reduceAdd, Nat.reduceSub, Array.replicate_succ, Array.replicate_zero, List.push_toArray, List.append_toArray, List.nil_append, List.cons_append];gi_wp2
  refine wpIn_rangeFunc ?_;intro fn hfn;show ∃ _, _;obtain ⟨W0, hW0⟩ : ∃ W0, w.alloc (.cells #[.slice none 0 0] 26) = W0 := ⟨_, rfl⟩;have hs0 : W0.heap.size = w.heap.size + 1 := by rw [← hW0]; simp
  have hv0 : W0.heap[w.heap.size]? = some (.cells #[.slice none 0 0] 26 (0, 0)) := by rw [← hW0]; exact World.alloc_heap_new w _
  have hb0 : Below w.heap.size w W0 := by rw [← hW0]; exact (Below.refl _ w).alloc (Nat.le_refl _) _
  rw [hW0];obtain ⟨W1, hW1⟩ : ∃ W1, (W0.alloc (.deferred (some []))).alloc (.loop (caRec fn (.func (.func g) #[] lb) w.heap.size W0.heap.size .ready none)) = W1 := ⟨_, rfl⟩
  have hold : ∀ k, k < W0.heap.size → W1.heap[k]? = W0.heap[k]? := fun k hk => by
    rw [← hW1]; exact (Below.heap_alloc _ _ k (by simp; omega)).trans (Below.heap_alloc _ _ k hk)
  have hb1 : Below w.heap.size w W1 := by rw [← hW1]; exact (hb0.alloc hb0.size _).alloc (by have := hb0.size; simp; omega) _
  have hs1 : W1.heap.size = W0.heap.size + 2 := by rw [← hW1]; simp
  have hM : CaAt w fn (.func (.func g) #[] lb) w.heap.size (W0.heap.size + 1) W0.heap.size [] W1 :=
    ⟨⟨_, (hold w.heap.size (by omega)).trans hv0, ⟨rfl, .inl ⟨rfl, rfl⟩⟩⟩,
     by rw [← hW1]; have := World.alloc_heap_new (W0.alloc (.deferred (some []))) (.loop (caRec fn (.func (.func g) #[] lb) w.heap.size W0.heap.size .ready none)); rwa [World.size_alloc] at this,
     by rw [← hW1]; exact (Below.heap_alloc _ _ _ (by simp)).trans (World.alloc_heap_new W0 _), hb1⟩
  refine ⟨W0.heap.size + 1, [{ target := .collected W0.heap.size, args := #[] }], W1, { target := .fn (.func g) lb, args := #[.func (.yield (W0.heap.size + 1)) #[] #[]] }, W1, g,
    #[.func (.yield (W0.heap.size + 1)) #[] #[]] ++ lb, W1, ?_, ?_, ?_, ?_, fun _ => h1, ?_⟩
  · rw [← hW1]; exact run_enterLoop_outer _ _ _ _ _
  · simp [resolve, go_sem]
  · intro f' hf'; trivial
  · simp [invoke, go_sem, eg]
  · refine (hseq (W0.heap.size + 1) (CaAt w fn (.func (.func g) #[] lb) w.heap.size (W0.heap.size + 1) W0.heap.size) W1 hb1 (ca_abides _ _ _ _ _ _ _ hb1.size)
      (fun pre x W hJ hl => caYield (n - 1 - 1) w fn _ w.heap.size (W0.heap.size + 1) W0.heap.size (by omega) (by omega) (by omega) (Nat.le_refl _) (by omega) N hN pre x W hJ hl) hM).mono ?_
    rintro e W2 ⟨⟨v0, rfl⟩, ss, hS, h2⟩;obtain ⟨v, hv, hrow⟩ := h2.box;have hend := run_endLoop (P := Tryz.prog) h2.L (by simp [caRec]);obtain ⟨W3, hW3⟩ : ∃ W3, W2.putObj (W0.heap.size + 1) (.loop { caRec fn (.func (.func g) #[] lb) w.heap.size W0.heap.size .ready none with state := .exhausted }) = W3 := ⟨_, rfl⟩;rw [hW3] at hend;have hg3 : W2.grownBy W3 (some (W0.heap.size + 1)) := by rw [← hW3]; exact grownBy_putObj_a _ _ _
    have hv3 : W3.heap[w.heap.size]? = some (.cells #[v] 26 (0, 0)) := by rw [← hW3]; exact (World.putObj_heap_other (by omega)).trans hv
    have hK3 : W3.heap[W0.heap.size]? = some (.deferred (some [])) := by rw [← hW3]; exact (World.putObj_heap_other (by omega)).trans h2.K
    have hrow3 := hrow.kept hg3 (ownsRow_ne_a hrow h2.L (fun cur e => by cases e));have hb3 : Below w.heap.size w W3 := h2.below.grown hg3 h2.below.size (fun k e => by cases e; omega);obtain ⟨hc3, hf3⟩ := cell_of_box_a hv3;clear hW3;refine ⟨none, W3, hend, ?_⟩;gi_wp2
    rw [← hs0];refine ⟨by simp, .inl ⟨_, _, rfl, run_takeDeferred hK3, ?_⟩⟩;exact ⟨_, results_tmp rfl _ _ _, v, ss, rfl, hS, hrow3.kept (grownBy_putObj_a _ _ _) (ownsRow_ne_a hrow3 hK3 (fun cur e => by cases e)), hb3.grown (grownBy_putObj_a _ _ _) hb3.size (fun k e => by cases e; omega)⟩
theorem ca_collect (n:Nat) (hn:3≤n) (g:Nat) (lb:Array Value) (eg: ∀args w,(callFunc g args).run Tryz.prog w= .ok (.enter g args) w)
  (S:List CL→Prop) (N:Nat) (hN:N≤10000) (w:World) (hseq:SeqGives Fence.wide (n-1-1) Tryz.prog g lb CL.enc S N w):
  CallsIn Fence.wide n Tryz.prog 70 #[.func (.func g) #[] lb] w fun e w'=> ∃(v:Value) (ss:List CL),e= .returned v∧S ss∧w'.ownsRow w.heap.size 50 3 v ss.length (ss.flatMap CL.cs)∧Below w.heap.size w w':=by
 have h1:1≤n:=by omega
 have F11:Fence.wide.fn 91:=trivial;have e11: ∀args w,(callFunc 91 args).run Tryz.prog w= .ok (.enter 91 args) w:=enters_of Tryz.func91 (by kernel_rfl) rfl;refine callsIn_of_wp Tryz.func70 rfl trivial ?_ rfl;simp only [Tryz.ntmps70,List.size_toArray,List.length_cons,List.length_nil,Nat.reduceAdd,Nat.reduceSub,Array.replicate_succ,Array.replicate_zero,List.push_toArray,List.append_toArray,List.nil_append,List.cons_append];gi_wp2_with (gi_at_fn 91;refine(ca_appendSeq (n-1) (by omega) g lb eg S N hN _ hseq).mono ?_;rintro e w' ⟨v,ss,rfl,hS,hrow,hb⟩)
 go_ret;exact⟨v,ss,rfl,hS,hrow,hb⟩
end Go.Proofs.YtkdhmdllnaogcaaGreatDoor
namespace Go.Proofs.YtkdhmdllnaogcaaGreatDoor
open Go.RowKit Go.Maps
def Grw (X W:World):Prop:= ∃q os,W=Go.Sort.grow (X.drewN q) os
theorem drewN_drew (w:World) (n:Nat):(w.drewN n).drew=w.drewN (n+1):=rfl
theorem Grw.refl (X:World):Grw X X:=⟨0,#[],by rw [Go.Sort.grow_empty];rfl⟩
theorem Grw.alloc {X W:World} (h:Grw X W) (o:Obj):Grw X (W.alloc o):=by
 obtain⟨q,os,rfl⟩:=h;exact⟨q,os++ #[o],by rw [Go.Sort.alloc_eq_grow,Go.Sort.grow_grow]⟩
theorem Grw.drew {X W:World} (h:Grw X W):Grw X W.drew:=by
 obtain⟨q,os,rfl⟩:=h;exact⟨q+1,os,by rw [Go.Sort.drew_grow,drewN_drew]⟩
theorem Grw.under {X W:World} {o:Obj} (h:Grw (X.alloc o) W):Grw X W:=by
 obtain⟨q,os,rfl⟩:=h;exact⟨q,#[o]++os,by rw [Go.Sort.alloc_eq_grow,←Go.Sort.grow_grow];rfl⟩
theorem sg_of {B:Nat} {X W:World} (hs:B≤X.heap.size) (h:Below B X W) (hg:Grw X W):(∀bq oq,bq<B→W.cell? ⟨bq,oq,none⟩=X.cell? ⟨bq,oq,none⟩)∧B≤W.heap.size∧Below B X W∧Grw X W:=⟨fun b o hb=>h.cell (p:=⟨b,o,none⟩) hb,Nat.le_trans hs h.size,h,hg⟩
theorem compareRefs_grw (c r c' r':Int) (w:World):Calls Tryz.prog 52 #[.agg #[.int .i64 c,.int .i64 r],.agg #[.int .i64 c',.int .i64 r']] w fun e w'=>
  e= .returned (.int .i64 (Qf0 c r c' r'))∧Grw w w':=by
 go_enter Tryz.func52,Tryz.ntmps52;go_wp2_with fail
 go_region_held3 (fun w'=>(∀bq oq,bq<w.heap.size+2→w'.cell? ⟨bq,oq,none⟩=((w.alloc (.cells #[.int .i64 c,.int .i64 r] 45)).alloc (.cells #[.int .i64 c',.int .i64 r'] 45)).cell? ⟨bq,oq,none⟩)∧w.heap.size+2≤w'.heap.size∧Below (w.heap.size+2) ((w.alloc (.cells #[.int .i64 c,.int .i64 r] 45)).alloc (.cells #[.int .i64 c',.int .i64 r'] 45)) w'∧Grw ((w.alloc (.cells #[.int .i64 c,.int .i64 r] 45)).alloc (.cells #[.int .i64 c',.int .i64 r'] 45)) w')
  (exact sg_of (by go_size) (by go_grown) (by repeat (first | assumption | with_reducible exact Grw.refl _ | apply Grw.alloc | apply Grw.drew)))
  (first
  | (go_at_call 67;refine(Qfz _ _ _).mono ?_;rintro e w1 ⟨rfl,rfl⟩)
  | (go_at_call 66;refine(Qfy (sgn r r') (sgn c c') _ _ ?_ ?_).mono ?_;(focus (go_simp;done));(focus (go_simp;done));rintro e w1 ⟨rfl,rfl⟩))
 all_goals go_wp2_with fail
 all_goals
  go_ret;exact⟨rfl,Grw.under (Grw.under (by repeat (first | assumption | with_reducible exact Grw.refl _ | apply Grw.alloc | apply Grw.drew)))⟩
def ltC (x y:CL):Bool:=XA x.c x.r y.c y.r
def clC (x y:CL):Int:=Qf0 x.c x.r y.c y.r
theorem clC_lt (x y:CL):ltOf clC x y=ltC x y:=by
 show decide (Qf0 x.c x.r y.c y.r<0)=XA _ _ _ _;have h:=Hh x.c x.r y.c y.r;cases e:XA x.c x.r y.c y.r with
 | false=>rw [e]at h;have:=h.2 rfl;exact decide_eq_false (by omega)
 | true=>rw [e]at h;have:=mt h.1 (by decide);exact decide_eq_true (by omega)
theorem clC_swo:Go.Sort.SWO (ltOf clC) where
 irrefl x:=by rw [clC_lt];exact decide_eq_false (by omega)
 trans x y z h1 h2:=by
  rw [clC_lt]at*;have h1:=of_decide_eq_true h1;have h2:=of_decide_eq_true h2;exact decide_eq_true (by omega)
 ntrans x y z h1 h2:=by
  rw [clC_lt]at*;have h1:=of_decide_eq_false h1;have h2:=of_decide_eq_false h2;exact decide_eq_false (by omega)
theorem cs_len1 (x:CL):(CL.cs x).length=3:=rfl
theorem cl_closure (x y:CL) (W:World):Calls Tryz.prog 56 #[.agg (CL.cs x).toArray,.agg (CL.cs y).toArray] W fun e w'=>e= .returned (.int .i64 (clC x y))∧Grw W w':=by
 obtain⟨xc,xr,xs⟩:=x;obtain⟨yc,yr,ys⟩:=y;simp only [CL.cs,clC];obtain⟨r,HR⟩: ∃r,Hid (Qf0 xc xr yc yr=r):=⟨_,rfl⟩;rw [HR.out];go_enter Tryz.func56,Tryz.ntmps56;go_wp2_with (go_at_call 52;refine(compareRefs_grw _ _ _ _ _).mono ?_;rintro e w' ⟨rfl,hg⟩;rw [HR.out])
 go_ret;exact⟨rfl,Grw.under (Grw.under hg)⟩
theorem flatC_eq [Inhabited CL] (L:List CL):Go.Sort.flatK CL.cs 3 L.toArray=(Kc CL.cs L).toArray:=by
 refine Go.Sort.ext_get! (by simp [Nv cs_len1]) fun t ht=> ?_;have ht':t<L.length*3:=by simpa using ht
 rw [Go.Sort.get_flatK _ _ _ t (by simpa using ht')];have hi:t/3<L.length:=by omega
 have e:t/3*3+t%3=t:=by omega
 have h9:=UV cs_len1 (t%3) (by omega) L (t/3);rw [e,List.getElem?_eq_getElem hi]at h9;have hl:t<(Kc CL.cs L).length:=by rw [Nv cs_len1];exact ht'
 rw [List.getElem?_eq_getElem hl]at h9;have h8:t%3<(CL.cs L[t/3]).length:=by rw [cs_len1];omega
 simp only [Option.bind_some]at h9;rw [List.getElem?_eq_getElem h8]at h9;rw [getElem!_pos (Kc CL.cs L).toArray t (by simpa using hl),getElem!_pos L.toArray (t/3) (by simpa using hi)];simp only [List.getElem_toArray];rw [getElem!_pos (CL.cs L[t/3]) (t%3) h8];exact(Option.some.inj h9).symm
theorem heap_sortC {w:World} {g m:Nat} {os:Array Obj} {cur:Array Value} {e:TypeId} {fr:Nat × Nat} [Inhabited CL] (d:Array CL) (hb:w.heap[g]? =some (.cells cur e fr)):(sortWorldK CL.cs 3 w g 0 m d os).heap[g]? =some (.cells (Go.Sort.putCells id 0 (Go.Sort.flatK CL.cs 3 d) cur) e fr):=by
 have hg:g<w.heap.size:=(Array.getElem?_eq_some_iff.1 hb).1;unfold sortWorldK;rw [Go.Sort.heap_grow_old _ _ (by simpa [Go.Sort.putRowK]using hg)];simp [Go.Sort.putRowK,Go.Sort.putRow,Go.Sort.mapBlock,Go.Sort.ahead,Array.getElem?_modify,hb,Go.Sort.onCells]
theorem grown_sortC {w:World} {g m:Nat} {os:Array Obj} [Inhabited CL] (d:Array CL):w.grownBy (sortWorldK CL.cs 3 w g 0 m d os) (some g):=by
 unfold sortWorldK;refine⟨rfl,rfl,rfl,by simp [Go.Sort.putRowK],fun k hk hne=> ?_⟩;rw [Go.Sort.heap_grow_old _ _ (by simpa [Go.Sort.putRowK]using hk)];have:g≠k:=fun e=>hne (by rw [e]);simp [Go.Sort.putRowK,Go.Sort.putRow,Go.Sort.mapBlock,Go.Sort.ahead,Array.getElem?_modify,this]
theorem take_putC (cur:Array Value) (ts:List Value) (h:ts.length≤cur.size):(Go.Sort.putCells id 0 ts.toArray cur).toList.take ts.length=ts:=by
 apply List.ext_getElem?;intro j;by_cases hj:j<ts.length
 ·rw [List.getElem?_take_of_lt hj,Array.getElem?_toList];simp [Go.Sort.putCells,hj,show j<cur.size by omega]
 ·rw [List.getElem?_take_eq_none (by omega),List.getElem?_eq_none (by omega)]
theorem sort_cells {W:World} {B g n cap:Nat} {L:List CL} (h:W.ownsRow B 50 3 (.slice (some ⟨g,0,none⟩) n cap) n (Kc CL.cs L)) (hL:L.length=n) (hn:n≤10000):
  Calls Tryz.prog 71 #[.slice (some ⟨g,0,none⟩) n cap,.func (.func 56) #[] #[]] W fun e w'=>e= .returned (.tuple #[])∧ ∃M:List CL,M.Perm L∧M.Pairwise (fun x y=>ltC y x=false)∧w'.ownsRow B 50 3 (.slice (some ⟨g,0,none⟩) n cap) n (Kc CL.cs M)∧W.grownBy w' (some g):=by
 haveI:Inhabited CL:=⟨⟨0,0,⟨#[]⟩⟩⟩
 rcases h.2 with⟨e,_⟩ | ⟨g',cap',cur,e,hB,hb,h1,h2,h3,h4⟩
 ·cases e
 cases e
 have eg: ∀args w,(callFunc 56 args).run Tryz.prog w= .ok (.enter 56 args) w:=enters_of Tryz.func56 (by kernel_rfl) rfl
 have hH:Go.Sort.HoldsK CL.cs 3 W g 0 L.toArray:=by
  unfold Go.Sort.HoldsK;rw [flatC_eq];intro j hj;have hj':j<n*3:=by rw [←h.1];simpa using hj
  refine⟨?_,by rw [Nat.zero_add];exact h.frozenAt j⟩;rw [Nat.zero_add,h.cellAt j hj',getElem!_pos _ j hj];have hl:j<(Kc CL.cs L).length:=by simpa using hj
  rw [List.getElem?_eq_getElem hl];simp
 have hcmp:CmpLays Tryz.prog 56 #[] CL.cs 3 clC g 0 L.toArray.size W:=fun _ _ _ _ x y=>cl_closure x y _;have hcon:=AnyQ.slices_SortFunc Tryz.sortCl 3 Tryz.isAgg50 Tryz.sizeOf50 CL.cs cs_len1 (fun x v hv=>by simp [CL.cs]at hv;rcases hv with rfl | rfl | rfl<;>rfl) clC clC_swo 56 #[] g 0 cap L.toArray W eg hcmp hH (Array.getElem?_eq_some_iff.1 hb).1 (by simp;omega);rw [show L.toArray.size=n by simp [hL]]at hcon;change Calls Tryz.prog 71 _ _ _ at hcon;refine hcon.mono ?_;rintro e w' ⟨rfl,d',m,os,⟨hs,_,hp⟩,hso,rfl⟩;have hs':d'.size=n:=by rw [hs];simp [hL]
 have hp':d'.toList.Perm L:=by
  have e1:(d'.extract 0 n)=d':=by rw [←hs'];simp
  have e2:(L.toArray.extract 0 n)=L.toArray:=by rw [←hL];simp
  rw [e1,e2]at hp;simpa using hp
 have ed:d'.toList.toArray=d':=by simp
 refine⟨rfl,d'.toList,hp',?_,?_,grown_sortC d'⟩
 ·rw [List.pairwise_iff_getElem];intro i j hi hj hij;have h9:=hso i j (Nat.zero_le _) hij (by rw [←hs'];simpa using hj);rw [clC_lt,getElem!_pos d' j (by simpa using hj),getElem!_pos d' i (by simpa using hi)]at h9;simpa using h9
 ·refine⟨by rw [Nv cs_len1];simp [hs'],.inr ⟨g,cap,_,rfl,hB,heap_sortC d' hb,h1,h2,by simp [Go.Sort.putCells,h3],?_⟩⟩;have hf:Go.Sort.flatK CL.cs 3 d'=(Kc CL.cs d'.toList).toArray:=by rw [←flatC_eq,ed]
  have hl:(Kc CL.cs d'.toList).length=n*3:=by rw [Nv cs_len1];simp [hs']
  rw [hf,←hl];refine take_putC cur _ ?_;rw [hl,h3];exact Nat.mul_le_mul_right _ h1
end Go.Proofs.YtkdhmdllnaogcaaGreatDoor
namespace Go.Proofs.YtkdhmdllnaogcaaGreatDoor
open Go.RowKit Go.Maps Go.Sort Go.Shelf
theorem sort_none (p:Option Addr) (cap:Nat) (fv:Value) (W:World):Calls Tryz.prog 71 #[.slice p 0 cap,fv] W fun e w'=>e= .returned (.tuple #[])∧w'=W:=
 AnyF.slices_SortFunc_none Tryz.sortCl p cap fv W
theorem sort_any {W:World} {B n:Nat} {v:Value} {L:List CL} (h:W.ownsRow B 50 3 v n (L.flatMap CL.cs)) (hL:L.length=n) (hn:n≤10000):
  ∃A cap,v= .slice A n cap∧Calls Tryz.prog 71 #[.slice A n cap,.func (.func 56) #[] #[]] W fun e w'=>e= .returned (.tuple #[])∧ ∃M:List CL,M.Perm L∧M.Pairwise (fun x y=>ltC y x=false)∧w'.ownsRow B 50 3 (.slice A n cap) n (Kc CL.cs M)∧Below B W w':=by
 rcases h.2 with⟨e,h0⟩ | ⟨g,cap,cur,e,hB,hb,h1,h2,h3,h4⟩
 ·subst e;subst h0;have hl:L= []:=List.length_eq_zero_iff.1 hL;subst hl;refine⟨none,0,rfl,(sort_none none 0 _ W).mono ?_⟩;rintro e w' ⟨rfl,rfl⟩;exact⟨rfl,[],List.Perm.refl _,List.Pairwise.nil,h,Below.refl _ _⟩
 ·subst e;refine⟨some ⟨g,0,none⟩,cap,rfl,(sort_cells h hL hn).mono ?_⟩;rintro e w' ⟨rfl,M,hp,hs,ho,hg⟩;have hlt:g<W.heap.size:=(Array.getElem?_eq_some_iff.1 hb).1;exact⟨rfl,M,hp,hs,ho,(Below.refl _ _).grown hg (by omega) (fun k e=>by cases e;exact hB)⟩
theorem ltC_rise {E M:List CL} (hp:M.Perm E) (nd:E.Pairwise (fun x y=>x.key≠y.key)) (hs:M.Pairwise (fun x y=>ltC y x=false)):M.Pairwise (fun x y=>ltC x y=true):=by
 have nd2:M.Pairwise (fun x y=>x.key≠y.key):=(hp.symm.pairwise_iff (fun{a b} h=>Ne.symm h)).1 nd;refine(hs.and nd2).imp ?_;rintro⟨xc,xr,xs⟩ ⟨yc,yr,ys⟩ ⟨h1,h2⟩;have h1:=of_decide_eq_false h1;refine decide_eq_true ?_;have h3: ¬(xc=yc∧xr=yr):=fun⟨e1,e2⟩=>h2 (by simp [CL.key,e1,e2]);simp only at h1 ⊢
 omega
theorem sortedFunc_cells (g:Nat) (lb:Array Value) (eg: ∀args w,(callFunc g args).run Tryz.prog w= .ok (.enter g args) w)
  (S:List CL→Prop) (N:Nat) (hN:N≤10000) (hS: ∀ss,S ss→ss.length≤10000) (w:World) (hseq:SeqGives Fence.wide 5 Tryz.prog g lb CL.enc S N w):
  Calls Tryz.prog 54 #[.func (.func g) #[] lb,.func (.func 56) #[] #[]] w fun e w'=> ∃(v:Value) (ss M:List CL),e= .returned v∧S ss∧M.Perm ss∧M.Pairwise (fun x y=>ltC y x=false)∧w'.ownsRow w.heap.size 50 3 v M.length (Kc CL.cs M)∧Below w.heap.size w w':=by
 have HC:=fun W hW=>callsIn_wide.1 (ca_collect 7 (by omega) g lb eg S N hN W (hseq.later hW));have HC2:Hid (∀W,Below w.heap.size w W→Calls Tryz.prog 70 #[.func (.func g) #[] lb] W fun e w'=> ∃(v:Value) (ss:List CL),e= .returned v∧S ss∧w'.ownsRow W.heap.size 50 3 v ss.length (ss.flatMap CL.cs)∧Below W.heap.size W w'):=HC;have HS:Hid (∀ss,S ss→ss.length≤10000):=hS;clear HC hseq hS;go_enter Tryz.func54,Tryz.ntmps54
 go_wp2_with (first
  | (go_at_call 70;refine(HC2.out _ (Below.refl _ _)).mono ?_;rintro e w1 ⟨v,ss,rfl,hss,hrow,hb1⟩;obtain⟨A,cap,rfl,hso⟩:=sort_any hrow rfl (HS.out ss hss))
  | (go_at_call 71;refine hso.mono ?_;rintro e w2 ⟨rfl,M,hp,hpw,hrow2,hb2⟩))
 go_ret;exact⟨_,ss,M,rfl,hss,hp,hpw,by rw [hp.length_eq];exact hrow2,hb1.trans hb2⟩
theorem CL.key_eq {x y:CL}:x.key=y.key↔x.c=y.c∧x.r=y.r:=by simp [CL.key]
def offP (p q:Int) (E:List CL):List CL:=E.filter (fun y=> !decide (y.c=p∧y.r=q))
theorem offP_mem {p q:Int} {E:List CL} {y:CL}:y∈offP p q E↔y∈E∧ ¬(y.c=p∧y.r=q):=by
 unfold offP;rw [List.mem_filter];simp only [Bool.not_eq_true',decide_eq_false_iff_not]
theorem CmD.nil:CmD (.map []) []:=⟨List.Pairwise.nil,fun x hx=>(by cases hx),fun kl h=>by simp [has_eq]at h⟩
theorem CmD.on {D:DataW Value} {E:List CL} (h:CmD D E) (hm:IsMap D) {x:CL} {kl:Lit} (hk:keyOf Tryz.prog 45 x.key=some kl):CmD (D.put kl (.held x.enc)) (offP x.c x.r E++ [x]) where
 nd:=List.pairwise_append.2 ⟨h.nd.filter _,List.pairwise_singleton _ _,fun a ha b hb e=>by
  rw [List.mem_singleton]at hb;subst hb
  exact(offP_mem.1 ha).2 (CL.key_eq.1 e)⟩
 into y hy:=by
  rcases List.mem_append.1 hy with hy | hy
  ·obtain⟨hm,hn⟩:=offP_mem.1 hy;obtain⟨k2,hk2,hat⟩:=h.into y hm;refine⟨k2,hk2,fun zd=> ?_⟩;have hne:k2≠kl:=fun e=>hn (by subst e;exact CL.key_eq.1 (keyedRef.inj hk2 hk));rw [atKey_put_other hne];exact hat zd
  ·rw [List.mem_singleton]at hy;subst hy;exact⟨kl,hk,fun zd=>atKey_put_same hm (keyedRef.key hk) _ _⟩
 back k2 hh:=by
  by_cases e:k2=kl
  ·subst e;exact⟨x,by simp,hk⟩
  ·rw [has_put_other e]at hh;obtain⟨y,hy,hk2⟩:=h.back k2 hh;refine⟨y,List.mem_append_left _ (offP_mem.2 ⟨hy,fun e2=>e ?_⟩),hk2⟩;rw [CL.key_eq.2 e2,hk]at hk2;exact(Option.some.inj hk2).symm
theorem CmD.size {w:World} {b n:Nat} {D:DataW Value} {E:List CL} (h:CmD D E) (ho:w.ownsMap Tryz.prog 45 Qgc b n D):Maps.size D=E.length:=by
 obtain⟨es,hD,hpw,_⟩:=ho.entries keyedRef;obtain⟨es',hD',hko⟩:=ho.keysOf;obtain rfl:es=es':=by rw [hD]at hD';simpa using hD'
 subst hD
 have h1:(E.map (fun x=>keyOf Tryz.prog 45 x.key)).Nodup:=by
  unfold List.Nodup;rw [List.pairwise_map];refine List.Pairwise.imp_of_mem (fun{x y} hx hy hne e=>hne ?_) h.nd;obtain⟨k1,hk1,_⟩:=h.into x hx;rw [hk1]at e;exact keyedRef.inj hk1 e.symm
 have h2:(es.map (fun p=>some p.1)).Nodup:=by
  unfold List.Nodup;rw [List.pairwise_map];exact hpw.imp (fun hne e=>hne (Option.some.inj e))
 have hp:=(List.perm_ext_iff_of_nodup h1 h2).2 fun o=>by
  rw [List.mem_map,List.mem_map];constructor
  ·rintro⟨x,hx,rfl⟩;obtain⟨k1,hk1,hat⟩:=h.into x hx;have hh:=has_true_of_atKey hat;rw [has_eq,List.any_eq_true]at hh;obtain⟨p,hp,hs⟩:=hh;exact⟨p,hp,by rw [hk1,WideAt.sameKey_eq hs]⟩
  ·rintro⟨p,hp,rfl⟩;obtain⟨v,hv⟩:=hko p hp;obtain⟨x,hx,hk⟩:=h.back p.1 (by rw [has_eq,List.any_eq_true];exact⟨p,hp,WideAt.sameKey_self (keyedRef.key hv)⟩);exact⟨x,hx,hk⟩
 have:=hp.length_eq;simp only [List.length_map]at this;exact this.symm
def clE (C R:Nat→Int) (S:Nat→ByteArray) (n:Nat):List CL:=(List.range n).map fun i=>⟨C i,R i,S i⟩
theorem clE_succ (C R:Nat→Int) (S:Nat→ByteArray) (n:Nat):clE C R S (n+1)=clE C R S n++ [⟨C n,R n,S n⟩]:=by simp [clE,List.range_succ]
theorem clE_len (C R:Nat→Int) (S:Nat→ByteArray) (n:Nat):(clE C R S n).length=n:=by simp [clE]
theorem clE_off {C R:Nat→Int} {S:Nat→ByteArray} {n:Nat} {p q:Int} (h: ∀i,i<n→ ¬(C i=p∧R i=q)):offP p q (clE C R S n)=clE C R S n:=by
 unfold offP clE;rw [List.filter_eq_self];intro y hy;obtain⟨i,hi,rfl⟩:=List.mem_map.1 hy;simp only [Bool.not_eq_true',decide_eq_false_iff_not];exact h i (List.mem_range.1 hi)
theorem clD_cm {C R:Nat→Int} {S:Nat→ByteArray} {kl:Nat→Lit}: ∀n:Nat,(∀i,i<n→keyOf Tryz.prog 45 (.agg #[.int .i64 (C i),.int .i64 (R i)])=some (kl i))→(∀i j,i<j→j<n→ ¬(C i=C j∧R i=R j))→CmD (clD kl C R S n) (clE C R S n)
 | 0,_,_=>CmD.nil
 | n+1,hk,hd=>by
  have h:=clD_cm (S:=S) n (fun i hi=>hk i (by omega)) (fun i j hij hj=>hd i j hij (by omega));have h2:=h.on (Uh kl C R S n) (x:=⟨C n,R n,S n⟩) (kl:=kl n) (hk n (by omega));rw [clE_off (fun i hi=>hd i n hi (by omega)),←clE_succ]at h2;exact h2
theorem impl_inOrder {b n:Nat} {D:DataW Value} {E:List CL} (w:World) (ho:w.ownsMap Tryz.prog 45 Qgc b n D) (hE:CmD D E) (hn:E.length≤10000):
  Calls Tryz.prog 42 #[.map (some b)] w fun e w'=> ∃A cap M,e= .returned (.slice A E.length cap)∧M.Perm E∧M.Pairwise (fun x y=>ltC x y=true)∧w'.ownsRow w.heap.size 50 3 (.slice A E.length cap) E.length (Kc CL.cs M)∧Below w.heap.size w w':=by
 have hbl:=ho.lt;have hsz:Maps.size D=E.length:=hE.size ho
 have hown':(w.alloc (.cells #[.map (some b)] 73)).ownsMap Tryz.prog 45 Qgc b n D:=by
  obtain⟨es,clock,hb,Ft,hs,hD⟩:=ho;exact⟨es,clock,(Below.heap_alloc _ _ b hbl).trans hb,Ft,hs,hD⟩
 have hseq:SeqGives Fence.wide 5 Tryz.prog 72 #[.pointer (some ⟨w.heap.size,0,none⟩)] CL.enc (fun ss=>ss.Perm E) (Maps.size D) (w.alloc (.cells #[.map (some b)] 73)):=
  values_gives 5 (by omega) w.heap.size b n D E hE _ (by simp) (by simp) hown'
 have hsf:=sortedFunc_cells 72 #[.pointer (some ⟨w.heap.size,0,none⟩)] (enters_of Tryz.func72 (by kernel_rfl) rfl) (fun ss=>ss.Perm E) (Maps.size D) (by omega) (fun ss h=>by rw [h.length_eq];exact hn) _ hseq;have hva:=callsIn_wide.1 (values_in 5 (some b) w);have HND:Hid (E.Pairwise (fun x y=>x.key≠y.key)):=hE.nd;clear hseq hown' hE ho hsz;go_enter Tryz.func42,Tryz.ntmps42
 go_wp2_with (first
  | (go_at_call 55;refine hva.mono ?_;rintro e w1 ⟨rfl,rfl⟩)
  | (go_at_call 54;refine hsf.mono ?_;rintro e w2 ⟨v,ss,M,rfl,hss,hp,hpw,hrow,hb⟩))
 go_ret;have hp2:M.Perm E:=hp.trans hss;rw [hp2.length_eq]at hrow;obtain⟨A,cap,rfl,_⟩:=QP hrow;refine⟨A,cap,M,rfl,hp2,ltC_rise hp2 HND.out hpw,ownsRow_base_a hrow (by simp),?_⟩;exact((Below.refl _ w).alloc (Nat.le_refl _) _).trans (hb.mono (by simp))
def sameC (x y:CL):Bool:=decide (y.c=x.c∧y.r=x.r)
def befC (x:CL) (L:List CL):List CL:=L.filter (fun y=>ltC y x)
def aftC (x:CL) (L:List CL):List CL:=L.filter (fun y=> !ltC y x&& !sameC x y)
def setC (x:CL) (E:List CL):List CL:=if x.s.toList.isEmpty=true then offP x.c x.r E else befC x E++ [x]++aftC x E
theorem setC_perm (x:CL) (E:List CL):(setC x E).Perm (if x.s.toList.isEmpty=true then offP x.c x.r E else offP x.c x.r E++ [x]):=by
 unfold setC;split
 ·exact List.Perm.refl _
 ·have h1:befC x E=(offP x.c x.r E).filter (fun y=>ltC y x):=by
   unfold befC offP;rw [List.filter_filter];refine List.filter_congr (fun y _=> ?_);cases h:ltC y x with
   | false=>rfl
   | true=>
    have h5:=of_decide_eq_true h;simp only [Bool.true_and];exact(by simp only [Bool.not_eq_true',decide_eq_false_iff_not];omega:(!decide (y.c=x.c∧y.r=x.r))=true).symm
  have h2:aftC x E=(offP x.c x.r E).filter (fun y=> !ltC y x):=by
   unfold aftC offP;rw [List.filter_filter];rfl
  rw [h1,h2,List.append_assoc];refine((List.perm_append_comm_assoc _ _ _).trans ?_);refine(List.Perm.append_left [x] (List.filter_append_perm _ _)).trans ?_;exact List.perm_append_comm
theorem setC_rise {x:CL} {E:List CL} (h:E.Pairwise (fun a b=>ltC a b=true)):(setC x E).Pairwise (fun a b=>ltC a b=true):=by
 unfold setC;split
 ·exact h.filter _
 ·have hb: ∀y∈befC x E,ltC y x=true:=fun y hy=>(List.mem_filter.1 hy).2
  have ha: ∀y∈aftC x E,ltC x y=true:=fun y hy=>by
   have h9:=(List.mem_filter.1 hy).2;simp only [Bool.and_eq_true,Bool.not_eq_true']at h9;have h1:=of_decide_eq_false h9.1;have h2:=of_decide_eq_false h9.2;exact decide_eq_true (by omega)
  refine List.pairwise_append.2 ⟨List.pairwise_append.2 ⟨h.filter _,List.pairwise_singleton _ _,fun a ha' b hb'=> ?_⟩,h.filter _,fun a ha' b hb'=> ?_⟩
  ·rw [List.mem_singleton]at hb';subst hb';exact hb a ha'
  ·have h2:=of_decide_eq_true (ha b hb');rcases List.mem_append.1 ha' with h3 | h3
   ·have h4:=of_decide_eq_true (hb a h3);exact decide_eq_true (by omega)
   ·rw [List.mem_singleton]at h3;subst h3;exact decide_eq_true h2
end Go.Proofs.YtkdhmdllnaogcaaGreatDoor
namespace Go.Proofs.YtkdhmdllnaogcaaGreatDoor
open Go.RowKit Go.Maps
theorem rise_pw {C R:Nat→Int} {S:Nat→ByteArray} {n:Nat} (h:VL C R n=true):(∀i,i<n→Qj (C i) (R i)=true)∧(clE C R S n).Pairwise (fun a b=>ltC a b=true):=by
 have hr: ∀i,i<n→Za C R i=true:=fun i hi=>List.all_eq_true.1 h i (List.mem_range.2 hi)
 have hs: ∀i,i+1<n→XA (C i) (R i) (C (i+1)) (R (i+1))=true:=fun i hi=>by
  have h9:=hr (i+1) hi;simp only [Za,Bool.and_eq_true,Bool.or_eq_true,decide_eq_true_eq]at h9;rcases h9.2 with e | e
  ·omega
  ·exact e
 have ht: ∀i j,i<j→j<n→XA (C i) (R i) (C j) (R j)=true:=fun i j=>by
  induction j with
  | zero=>intro hi;omega
  | succ j ih=>
   intro hi hj;have h1:=hs j hj;by_cases e:i=j
   ·subst e;exact h1
   ·have h2:=of_decide_eq_true (ih (by omega) (by omega));have h3:=of_decide_eq_true h1;exact decide_eq_true (by omega)
 refine⟨fun i hi=> ?_,?_⟩
 ·have h9:=hr i hi;simp only [Za,Bool.and_eq_true]at h9;exact h9.1
 ·rw [List.pairwise_iff_getElem];intro i j hi hj hij;rw [clE_len]at hi hj;simp only [clE,List.getElem_map,List.getElem_range];exact ht i j hij hj
theorem in_lim {s t:ByteArray} (h:inF s=some t):t.size≤200:=by
 unfold inF at h;split at h
 ·unfold lim at h;split at h
  ·split at h
   ·cases h;assumption
   ·cases h
  ·cases h
 ·cases h
theorem cl_rise {C R:Nat→Int} {S:Nat→ByteArray} {n:Nat} (h:Yg C R S n=true):n≤120∧(∀i,i<n→Qj (C i) (R i)=true)∧(clE C R S n).Pairwise (fun a b=>ltC a b=true):=by
 unfold Yg at h;simp only [Bool.and_eq_true,decide_eq_true_eq]at h;exact⟨h.1.1,rise_pw h.1.2⟩
end Go.Proofs.YtkdhmdllnaogcaaGreatDoor
