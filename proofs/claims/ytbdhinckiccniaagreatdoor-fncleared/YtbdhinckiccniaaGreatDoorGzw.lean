import Derived.Test.YtbdhinckiccniaaGreatDoorMn
import Derived.Test.YtbdhinckiccniaaGreatDoorGzs
import Derived.Shelf.SlIter.Collect
import Derived.Sort.MapsRangeIn
import Derived.Test.YtbdhinckiccniaaGreatDoorGzj
import Derived.Sort.Grow
import Derived.Test.YtbdhinckiccniaaGreatDoorShelfC
import Derived.Shelf.SlSortCmp.WholeK
import Derived.Shelf.SlSortCmp.NoneTotal
import Derived.Test.YtbdhinckiccniaaGreatDoorGzeA
import Derived.Test.YtbdhinckiccniaaGreatDoorGze
set_option linter.unusedSimpArgs false
set_option linter.unusedVariables false
set_option maxHeartbeats 8000000
set_option maxRecDepth 100000
namespace Go.Proofs.YtbdhinckiccniaaGreatDoor
open Go.RowKit Go.Maps Go.Sort Go.Shelf
structure CL where
 c:Int
 r:Int
 s:ByteArray
def CL.key (x:CL):Value:= .agg #[.int .i64 x.c,.int .i64 x.r]
def CL.enc (x:CL):Value:= .agg #[.int .i64 x.c,.int .i64 x.r,.string x.s]
structure CmD (D:DataW Value) (E:List CL):Prop where
 nd:E.Pairwise (fun x y=>x.key≠y.key)
 into: ∀x∈E,∃kl,keyOf Tryz.prog 27 x.key=some kl∧ ∀zd,D.atKey kl zd= .held x.enc
 back: ∀kl,Maps.has D kl=true→ ∃x∈E,keyOf Tryz.prog 27 x.key=some kl
def GotC (E:List CL) (left:Lit→Bool) (ss:List CL):Prop:=ss.Nodup∧ ∀x,x∈ss↔x∈E∧ ∃kl,keyOf Tryz.prog 27 x.key=some kl∧left kl=false
theorem GotC.start {D:DataW Value} {E:List CL} (h:CmD D E):GotC E (Maps.has D) []:=⟨List.nodup_nil,fun x=>by
 constructor
 ·intro hx;cases hx
 ·rintro⟨hx,kl,hk,hl⟩;obtain⟨kl2,hk2,hat⟩:=h.into x hx;rw [hk]at hk2;cases hk2
  rw [has_true_of_atKey hat]at hl;cases hl⟩
theorem CmD.one {D:DataW Value} {E:List CL} (h:CmD D E) {kl:Lit} {v:Value} (hat: ∀zd,D.atKey kl zd= .held v): ∃x∈E,v=x.enc∧keyOf Tryz.prog 27 x.key=some kl:=by
 obtain⟨x,hx,hk⟩:=h.back kl (has_true_of_atKey hat);obtain⟨kl2,hk2,hat2⟩:=h.into x hx;rw [hk]at hk2;cases hk2;have e:=(hat (.held v)).symm.trans (hat2 (.held v));exact⟨x,hx,by cases e;rfl,hk⟩
theorem GotC.step {D:DataW Value} {E:List CL} (hD:CmD D E) {left:Lit→Bool} {ss:List CL} (h:GotC E left ss) {x:CL} {kl:Lit} (hx:x∈E) (hk:keyOf Tryz.prog 27 x.key=some kl) (hlk:left kl=true):
  GotC E (fun z=>left z&& !z.sameKey kl) (ss++ [x]):=by
 have hnew:x∉ss:=fun hm=>by
  obtain⟨_,kl2,hk2,hl⟩:=(h.2 x).1 hm;rw [hk]at hk2;cases hk2;rw [hlk]at hl;cases hl
 refine⟨List.nodup_append.2 ⟨h.1,by simp,fun a ha b hb=>by simp at hb;subst hb;exact fun e=>hnew (e▸ha)⟩,fun y=> ?_⟩;rw [List.mem_append,List.mem_singleton,h.2 y];constructor
 ·rintro(⟨hy,kl2,hk2,hl⟩ | rfl)
  ·exact⟨hy,kl2,hk2,by simp [hl]⟩
  ·exact⟨hx,kl,hk,by simp [WideAt.sameKey_self (keyedRef.key hk)]⟩
 ·rintro⟨hy,kl2,hk2,hl⟩;by_cases e:kl2=kl
  ·subst e;refine .inr ?_;have e2:=keyedRef.inj hk2 hk;obtain⟨i,hi,e3⟩:=List.mem_iff_getElem.1 hx;obtain⟨j,hj,e4⟩:=List.mem_iff_getElem.1 hy;rcases Nat.lt_trichotomy i j with hij | hij | hij
   ·exact absurd (by rw [e3,e4];exact e2.symm) (List.pairwise_iff_getElem.1 hD.nd i j hi hj hij)
   ·subst hij;rw [←e3,←e4]
   ·exact absurd (by rw [e3,e4];exact e2) (List.pairwise_iff_getElem.1 hD.nd j i hj hi hij)
  ·refine .inl ⟨hy,kl2,hk2,?_⟩;cases hv:left kl2 with
   | false=>rfl
   | true=>
    exfalso
    simp [hv]at hl;exact e (WideAt.sameKey_eq hl)
theorem GotC.perm {D:DataW Value} {E:List CL} (hD:CmD D E) {left:Lit→Bool} {ss:List CL} (h:GotC E left ss) (hl: ∀kl,left kl=false):ss.Perm E:=by
 have hne:E.Nodup:=hD.nd.imp (fun h e=>h (by rw [e]));refine(List.perm_ext_iff_of_nodup h.1 hne).2 fun x=> ?_;rw [h.2 x];constructor
 ·exact fun h=>h.1
 ·intro hx;obtain⟨kl,hk,_⟩:=hD.into x hx;exact⟨hx,kl,hk,hl kl⟩
theorem Qn2 (n:Nat) (hn:1≤n) (l Bm b nn:Nat) (D0:DataW Value) (E:List CL) (hE:CmD D0 E) (J:List CL→World→Prop)
  (hY: ∀pre x W,J pre W→pre.length<Maps.size D0→YieldAt Fence.wide (n-1) Tryz.prog l #[CL.enc x] W fun e W'=>e= .returned (.bool true)∧J (pre++ [x]) W'∧KeepsWalks W W')
  (W:World) (hJ:AbidesFrom W.heap.size J) (hm:W.cell? ⟨Bm,0,none⟩=some (.map (some b))) (hown:W.ownsMap Tryz.prog 27 XG b nn D0) (h0:J [] W):
  CallsIn Fence.wide n Tryz.prog 166 #[.func (.yield l) #[] #[],.pointer (some ⟨Bm,0,none⟩)] W fun e W'=>(∃v,e= .returned v)∧ ∃ss:List CL,ss.Perm E∧J ss W':=by
 have HM:Hid (W.cell? ⟨Bm,0,none⟩=some (.map (some b))):=hm;refine callsIn_of_wp Tryz.func166 rfl trivial ?_ rfl;simp only [Tryz.ntmps166,List.size_toArray,List.length_cons,List.length_nil,Nat.reduceAdd,Nat.reduceSub,Array.replicate_succ,Array.replicate_zero,List.push_toArray,List.append_toArray,List.nil_append,List.cons_append]
 gi_wp2_with (first
  | (gi_at_range;refine wpListIn_range_own _ rfl _ 59 rfl 27 37 keyedRef Tryz.underlying59 _ b nn _ rfl hown ?_;intro w0 hrg0 hg0 hs0)
  | gi_in)
 go_frame
 gi_loopw [4] (fun _ wr=> ∃(left:Lit→Bool) (cnt:Nat) (ss:List CL),wr.ranges Tryz.prog 27 XG b W.heap.size nn D0 left cnt∧ss.length+cnt≤Maps.size D0∧GotC E left ss∧J ss wr)
  (fun _ wr=>wr.rangeLeft b W.heap.size)
 case atStart=>
  exact⟨_,_,[],hrg0,by simp,GotC.start hE,hJ [] W w0 none h0 hg0 (fun r e=>by cases e)⟩
 case round=>
  obtain⟨left,cnt,ss,hrg,hcs,hC,hJs⟩:=hrel
  gi_wp2_with (first
   | (gi_at_next;refine wpListIn_next_ranges (α:=Value) (β:=Value) _ rfl _ rfl 27 keyedRef XG id id (fun key kl hk=>⟨key,rfl⟩) (fun v _ _=>⟨v,rfl⟩) b W.heap.size nn _ _ _ rfl hrg ?_ ?_)
   | gi_in)
  ·intro hc0 hl0;gi_wp2
   go_end0
   exact⟨⟨_,rfl⟩,ss,hC.perm hE hl0,hJs⟩
  ·intro x c kl yd yp w2 cnt2 hkey hlk hv hat hrg2 hlt hg2 hs2 hen;obtain⟨y,hy,rfl,hky⟩: ∃y∈E,c=y.enc∧keyOf Tryz.prog 27 y.key=some kl:=hE.one (v:=c) (fun zd=>by rw [hat zd];simp only [XG,id]at hv;cases hv;rfl);have hJ2:J ss w2:=hJ ss wr w2 (some W.heap.size) hJs hg2 (fun r e=>by cases e;exact⟨Nat.le_refl _,hrg.iter_walk⟩);clear hs2 hm hown;obtain⟨yc,yr,ys⟩:=y;simp only [CL.enc,id]at hen hv ⊢;have hJ3:J ss (w2.alloc (.cells #[.int .i64 yc,.int .i64 yr,.string ys] 37)):=hJ ss w2 _ none hJ2 (World.grownBy_alloc _ _ none) (fun r e=>by cases e)
   obtain⟨fn,tmps,assign,body,hyy,hR⟩:=hY ss ⟨yc,yr,ys⟩ _ hJ3 (by omega);simp only [CL.enc]at hyy hR;gi_wp2
   refine hR.mono ?_;rintro e W3 ⟨rfl,hJ4,hk3⟩;gi_wp2
   have hrg3:=hrg2.of_walks ((KeepsWalks.alloc _ _).trans hk3);go_roundw
   case rel=>exact⟨_,cnt2,ss++ [_],hrg3,by simp;omega,hC.step hE hy hky hlk,hJ4⟩
   case measure=>rw [hrg3.left_eq,hrg.left_eq];exact hlt
theorem Bd (n:Nat) (hn:1≤n) (Bm b nn:Nat) (D0:DataW Value) (E:List CL) (hE:CmD D0 E) (w:World) (hBm:Bm<w.heap.size)
  (hm:w.cell? ⟨Bm,0,none⟩=some (.map (some b))) (hown:w.ownsMap Tryz.prog 27 XG b nn D0):
  SeqGives Fence.wide n Tryz.prog 166 #[.pointer (some ⟨Bm,0,none⟩)] CL.enc (fun ss=>ss.Perm E) (Maps.size D0) w:=fun l J W hW hJ hY h0=>by
 have hown':W.ownsMap Tryz.prog 27 XG b nn D0:=by
  have hbl:=hown.lt;obtain⟨es,clock,hb,Ft,hs,hD⟩:=hown;exact⟨es,clock,(hW.block b hbl).trans hb,Ft,hs,hD⟩
 exact Qn2 n hn l Bm b nn D0 E hE J hY W hJ ((hW.cell (p:=⟨Bm,0,none⟩) hBm).trans hm) hown' h0
theorem Qg6 (n:Nat) (mb:Option Nat) (w:World):
  CallsIn Fence.wide n Tryz.prog 113 #[.map mb] w fun e w'=>e= .returned (.func (.func 166) #[] #[.pointer (some ⟨w.heap.size,0,none⟩)])∧w'=w.alloc (.cells #[.map mb] 59):=by
 refine callsIn_of_wp Tryz.func113 rfl trivial ?_ rfl;simp only [Tryz.ntmps113,List.size_toArray,List.length_cons,List.length_nil,Nat.reduceAdd,Nat.reduceSub,Array.replicate_succ,Array.replicate_zero,List.push_toArray,List.append_toArray,List.nil_append,List.cons_append];gi_wp2
 go_ret;exact⟨rfl,rfl⟩
def CL.cs (x:CL):List Value:= [.int .i64 x.c,.int .i64 x.r,.string x.s]
theorem Qnc:24≠37:=by decide
def NC : Code := Code.region 2 #[{ dst := some 5, op := Op.alloc 37, type := 0, pos := "iter.go:51", after := #[], guard := none }, { dst := none, op := Op.store 37 (Operand.tmp 5) (Operand.tmp 7), type := 0, pos := "iter.go:51", after := #[{ on := 0, ground := Ground.data }, { on := 0, ground := Ground.phase }], guard := none }] false
def Qez : Code := Code.block 1 (Code.region 3 #[{ dst := some 8, op := Op.load 24 (Operand.tmp 2), type := 24, pos := "iter.go:52", after := #[], guard := none }, { dst := some 9, op := Op.load 37 (Operand.tmp 5), type := 37, pos := "iter.go:52", after := #[], guard := none }, { dst := some 10, op := Op.buildSlice 24 1 #[(0, Operand.tmp 9)], type := 24, pos := "iter.go:52", after := #[{ on := 1, ground := Ground.data }], guard := none }, { dst := some 11, op := Op.call { callee := Callee.builtin Builtin.append, args := #[Operand.tmp 8, Operand.tmp 10], argTypes := #[24, 24] }, type := 24, pos := "iter.go:52", after := #[{ on := 0, ground := Ground.data }, { on := 2, ground := Ground.data }], guard := none }, { dst := none, op := Op.store 24 (Operand.tmp 2) (Operand.tmp 11), type := 0, pos := "iter.go:52", after := #[{ on := 3, ground := Ground.data }, { on := 3, ground := Ground.chain }, { on := 0, ground := Ground.phase }, { on := 1, ground := Ground.phase }, { on := 2, ground := Ground.phase }, { on := 3, ground := Ground.phase }], guard := none }] false)
theorem Qtq (W:World) (c r:Int) (s:ByteArray): ∀j u,[Value.int .i64 c,.int .i64 r,.string s][j]? =some u→(W.alloc (.cells #[.int .i64 c,.int .i64 r,.string s] 37)).cell? ((⟨W.heap.size,0,none⟩:Addr).add j)=some u:=fun j u hu=>by
 match j,hu with
 | 0,hu=>cases hu;simp [Addr.add]
 | 1,hu=>cases hu;simp [Addr.add]
 | 2,hu=>cases hu;simp [Addr.add]
def Vv (fn:FuncId) (sv:Value) (Bs D:Nat) (st:LoopState) (pend:Option Code):Loop:=
 {state:=st,pending:=pend,fn,tmps:= #[.slice none 0 0,sv,.pointer (some ⟨Bs,0,none⟩),undef,.slice none 0 0,undef,sv,undef,undef,undef,undef,undef,undef],params:= #[7],assign:=NC,body:=Qez,defers:=D}
structure CaAt (w0:World) (fn:FuncId) (sv:Value) (Bs l D:Nat) (ss:List CL) (W:World):Prop where
 box: ∃v,W.heap[Bs]? =some (.cells #[v] 24 (0,0))∧W.ownsRow w0.heap.size 37 3 v ss.length (ss.flatMap CL.cs)
 L:W.heap[l]? =some (.loop (Vv fn sv Bs D .ready none))
 K:W.heap[D]? =some (.deferred (some []))
 below:Below w0.heap.size w0 W
theorem Qiv (w0:World) (fn:FuncId) (sv:Value) (Bs l D B:Nat) (hB:w0.heap.size≤B):AbidesFrom B (CaAt w0 fn sv Bs l D):=fun s W W' row h hg hrow=>by
 have hrow': ∀r,row=some r→ ∃o:Obj,W.heap[r]? =some o∧o.isWalk=true:=fun r e=>(hrow r e).2;obtain⟨v,hv,hr⟩:=h.box
 exact⟨⟨v,(grownBy_keeps hg hrow' hv rfl).trans hv,ownsRow_abides_a hr hg hrow'⟩,(grownBy_keeps hg hrow' h.L rfl).trans h.L,(grownBy_keeps hg hrow' h.K rfl).trans h.K,
  h.below.grown hg h.below.size (fun k e=>Nat.le_trans hB (hrow k e).1)⟩
theorem Qq5 (m : Nat) (w0 : World) (fn : FuncId) (sv : Value) (Bs l D : Nat) (hBl : Bs ≠ l) (hDl : D ≠ l) (hDB : D ≠ Bs) (h0B : w0.heap.size ≤ Bs) (h0l : w0.heap.size ≤ l)
    (N : Nat) (hN : N ≤ 10000) (ss : List CL) (x : CL) (W : World) (h : CaAt w0 fn sv Bs l D ss W) (hlen : ss.length < N) :
    YieldAt Fence.wide m Tryz.prog l #[CL.enc x] W fun e W' => e = .returned (.bool true) ∧ CaAt w0 fn sv Bs l D (ss ++ [x]) W' ∧ KeepsWalks W W' := by
  have hne := Qnc;obtain ⟨i0, hi, hz0, hz1, hz2⟩ := info_parts Qmz;obtain ⟨v, hv, hrow⟩ := h.box;obtain ⟨xc, xr, xs⟩ := x;simp only [CL.enc];refine ⟨fn, #[.slice none 0 0, sv, .pointer (some ⟨Bs, 0, none⟩), undef, .slice none 0 0, undef, sv, .agg #[.int .i64 xc, .int .i64 xr, .string xs], undef, undef, undef, undef, undef], NC, Qez, by simpa [Vv] using run_yield (P := Tryz.prog) (args := #[.agg #[.int .i64 xc, .int .i64 xr, .string xs]]) h.L rfl, roundIn_of_wpIn trivial ?_⟩;have hl : l < W.heap.size := (Array.getElem?_eq_some_iff.1 h.L).1
  have hBW : Bs < W.heap.size := (Array.getElem?_eq_some_iff.1 hv).1;have hDW : D < W.heap.size := (Array.getElem?_eq_some_iff.1 h.K).1;obtain ⟨Wa, hWa⟩ : ∃ Wa, W.alloc (.cells #[.int .i64 xc, .int .i64 xr, .string xs] 37) = Wa := ⟨_, rfl⟩;have hva : Wa.heap[Bs]? = some (.cells #[v] 24 (0, 0)) := by rw [← hWa]; exact (Below.heap_alloc _ _ Bs hBW).trans hv
  have hLa : Wa.heap[l]? = some (.loop (Vv fn sv Bs D .ready none)) := by rw [← hWa]; exact (Below.heap_alloc _ _ l hl).trans h.L
  have hKa : Wa.heap[D]? = some (.deferred (some [])) := by rw [← hWa]; exact (Below.heap_alloc _ _ D hDW).trans h.K
  have hra : Wa.ownsRow w0.heap.size 37 3 v ss.length (ss.flatMap CL.cs) := by rw [← hWa]; exact hrow.alloc _
  have hba : Below w0.heap.size w0 Wa := by rw [← hWa]; exact h.below.alloc h.below.size _
  have hka : KeepsWalks W Wa := by rw [← hWa]; exact KeepsWalks.alloc _ _
  have hxa : Wa.heap[W.heap.size]? = some (.cells #[.int .i64 xc, .int .i64 xr, .string xs] 37 (0, 0)) := by rw [← hWa]; exact World.alloc_heap_new W _
  have hbr := run_beginRound (P := Tryz.prog) hLa rfl;obtain ⟨W2, hW2⟩ : ∃ W2, Wa.putObj l (.loop { Vv fn sv Bs D .ready none with state := .busy }) = W2 := ⟨_, rfl⟩;rw [hW2] at hbr;have hg2 : Wa.grownBy W2 (some l) := by rw [← hW2]; exact grownBy_putObj_a _ _ _
  have hk2 : KeepsWalks Wa W2 := by rw [← hW2]; exact KeepsWalks.putObj _ hLa rfl
  have hv2 : W2.heap[Bs]? = some (.cells #[v] 24 (0, 0)) := by rw [← hW2]; exact (World.putObj_heap_other hBl).trans hva
  have hx2 : W2.heap[W.heap.size]? = some (.cells #[.int .i64 xc, .int .i64 xr, .string xs] 37 (0, 0)) := by rw [← hW2]; exact (World.putObj_heap_other (by omega)).trans hxa
  have hK2 : W2.heap[D]? = some (.deferred (some [])) := by rw [← hW2]; exact (World.putObj_heap_other hDl).trans hKa
  have hL2 : W2.heap[l]? = some (.loop { Vv fn sv Bs D .ready none with state := .busy }) := by rw [← hW2]; exact World.putObj_heap_same (by rw [← hWa]; simp; omega)
  have hrow2 : W2.ownsRow w0.heap.size 37 3 v ss.length (ss.flatMap CL.cs) := hra.kept hg2 (ownsRow_ne_a hra hLa (fun cur e => by cases e));have hb2 : Below w0.heap.size w0 W2 := hba.grown hg2 hba.size (fun k e => by cases e; exact h0l);have hBlt : Bs < W2.heap.size := (Array.getElem?_eq_some_iff.1 hv2).1;have hl2 : l < W2.heap.size := (Array.getElem?_eq_some_iff.1 hL2).1;have hDlt : D < W2.heap.size := (Array.getElem?_eq_some_iff.1 hK2).1;have hxlt : W.heap.size < W2.heap.size := (Array.getElem?_eq_some_iff.1 hx2).1;obtain ⟨hc2, hf2⟩ := cell_of_box_a hv2
  have hc0 : W2.cell? ⟨W.heap.size, 0, none⟩ = some (.int .i64 xc) := by simp [World.cell?, hx2]
  have hc1 : W2.cell? ⟨W.heap.size, 1, none⟩ = some (.int .i64 xr) := by simp [World.cell?, hx2]
  have hc3 : W2.cell? ⟨W.heap.size, 2, none⟩ = some (.string xs) := by simp [World.cell?, hx2]
  have ne_of : ∀ {j : Nat} {o : Obj}, W2.heap[j]? = some o → (∀ cur, o ≠ .cells cur 37 (0, 0)) → some j ≠ v.ownBlock := fun hj hno => by
    rcases ownsRow_ne_a hrow2 hj hno with e | e
    · rw [e]; simp
    · exact fun e' => e e'.symm
  clear hW2;unfold NC;gi_wp2_with gi_round_op_a
  unfold Qez
  gi_wp2_with (first
    | (gi_at_builtin
       refine wpListIn_append_own _ rfl _ _ 24 rfl w0.heap.size 37 i0 (.agg #[.int .i64 0, .int .i64 0, .string ⟨#[]⟩]) 3 32 Tryz.underlying24 hi hz0 hz1 hz2 rfl (by decide) _ _ _ rfl (hrow2.alloc _) ⟨W2.heap.size, 0, none⟩ 1 1 [.int .i64 xc, .int .i64 xr, .string xs] rfl rfl ?c1 ?c2 ?c3 ?c4 ?c5 ?_
       case c1 => exact Qtq _ _ _ _
       case c2 => simp [Value.oneCell']
       case c3 => unfold maxLen; omega
       case c4 => omega
       case c5 => have := hb2.size; simp; omega
       intro v' w3 hown' hg3 hnil3;have hv3 : w3.heap[Bs]? = some (.cells #[v] 24 (0, 0)) := (hg3.block Bs (by simp; omega) (ne_of hv2 (fun cur e => hne (Obj.cells.inj e).2.1))).trans ((Below.heap_alloc _ _ Bs hBlt).trans hv2);obtain ⟨hcb3, hfb3⟩ := cell_of_box_a hv3
       obtain ⟨g', cap', cur', rfl, hbase', hgb', hr1, hr2, hr3, hr4⟩ : ∃ g' cap' cur', v' = .slice (some ⟨g', 0, none⟩) (ss.length + 1) cap' ∧ w0.heap.size ≤ g' ∧ w3.heap[g']? = some (.cells cur' 37 (0, 0)) ∧ ss.length + 1 ≤ cap' ∧ cap' ≤ maxLen ∧ cur'.size = cap' * 3 ∧ cur'.toList.take ((ss.length + 1) * 3) = ss.flatMap CL.cs ++ [.int .i64 xc, .int .i64 xr, .string xs] := by
         rcases hown'.2 with ⟨_, h0⟩ | h'
         · exact absurd h0 (by omega)
         · exact h'
       go_frame)
    | gi_round_op_a)
  have hL3 : w3.heap[l]? = some (.loop { Vv fn sv Bs D .ready none with state := .busy }) := (hg3.block l (by simp; omega) (ne_of hL2 (fun cur e => by cases e))).trans ((Below.heap_alloc _ _ l hl2).trans hL2);have hK3 : w3.heap[D]? = some (.deferred (some [])) := (hg3.block D (by simp; omega) (ne_of hK2 (fun cur e => by cases e))).trans ((Below.heap_alloc _ _ D hDlt).trans hK2);obtain ⟨w4, hw4⟩ : ∃ w4, w3.setCell ⟨Bs, 0, none⟩ (.slice (some ⟨g', 0, none⟩) (ss.length + 1) cap') = w4 := ⟨_, rfl⟩;rw [hw4];have hg4 : w3.grownBy w4 (some Bs) := by rw [← hw4]; exact grownBy_setCell0_a _ _ _
  have hv4 : w4.heap[Bs]? = some (.cells #[.slice (some ⟨g', 0, none⟩) (ss.length + 1) cap'] 24 (0, 0)) := by rw [← hw4]; exact heap_setCell_box_a _ hv3
  have hL4 : w4.heap[l]? = some (.loop { Vv fn sv Bs D .ready none with state := .busy }) := (hg4.block l (Array.getElem?_eq_some_iff.1 hL3).1 (fun e => hBl (by cases e; rfl))).trans hL3;have hK4 : w4.heap[D]? = some (.deferred (some [])) := (hg4.block D (Array.getElem?_eq_some_iff.1 hK3).1 (fun e => hDB (by cases e; rfl))).trans hK3;have hrow4 := hown'.kept hg4 (ownsRow_ne_a hown' hv3 (fun cur e => hne (Obj.cells.inj e).2.1));have hl4 : l < w4.heap.size := (Array.getElem?_eq_some_iff.1 hL4).1;have hb3 : Below w0.heap.size w0 w3 := (hb2.alloc hb2.size _).grown hg3 (by have := hb2.size; simp; omega) (fun k e => (hrow2.lt k e).1);have hb4 : Below w0.heap.size w0 w4 := hb3.grown hg4 hb3.size (fun k e => by cases e; exact h0B);have hk4 : KeepsWalks W w4 := (((hka.trans hk2).trans (KeepsWalks.alloc _ _)).trans (KeepsWalks.of_grownBy hg3 (ownsRow_not_walk_a (hrow2.alloc _)))).trans (by rw [← hw4]; exact KeepsWalks.setCell _ _ _)
  clear hw4;refine ⟨_, _, run_endRound none hL4, rfl, ⟨⟨_, (World.putObj_heap_other hBl).trans hv4, ?_⟩, World.putObj_heap_same hl4, (World.putObj_heap_other hDl).trans hK4, hb4.grown (grownBy_putObj_a _ _ _) hb4.size (fun k e => by cases e; exact h0l)⟩, hk4.trans (KeepsWalks.putObj _ hL4 rfl)⟩;have := hrow4.kept (grownBy_putObj_a w4 l (.loop { { Vv fn sv Bs D .ready none with state := .busy } with state := if (none : Option Code).isNone then .ready else .done, pending := none })) (ownsRow_ne_a hrow4 hL4 (fun cur e => by cases e));simpa [CL.cs, List.flatMap_append] using this
theorem BN (n : Nat) (hn : 2 ≤ n) (g : Nat) (lb : Array Value) (eg : ∀ args w, (callFunc g args).run Tryz.prog w = .ok (.enter g args) w)
    (S : List CL → Prop) (N : Nat) (hN : N ≤ 10000) (w : World) (hseq : SeqGives Fence.wide (n - 1) Tryz.prog g lb CL.enc S N w) :
    CallsIn Fence.wide n Tryz.prog 212 #[.slice none 0 0, .func (.func g) #[] lb] w fun e w' => ∃ (v : Value) (ss : List CL), e = .returned v ∧ S ss ∧ w'.ownsRow w.heap.size 37 3 v ss.length (ss.flatMap CL.cs) ∧ Below w.heap.size w w' := by
  have h1 : 1 ≤ n := by omega
  have hne := Qnc;refine callsIn_of_wp_marks Tryz.func212 rfl trivial ?_ rfl;simp only [Tryz.ntmps212, List.size_toArray, List.length_cons, List.length_nil, Nat.reduceAdd, Nat.reduceSub, Array.replicate_succ, Array.replicate_zero, List.push_toArray, List.append_toArray, List.nil_append, List.cons_append];gi_wp2
  refine wpIn_rangeFunc ?_;intro fn hfn;show ∃ _, _;obtain ⟨W0, hW0⟩ : ∃ W0, w.alloc (.cells #[.slice none 0 0] 24) = W0 := ⟨_, rfl⟩;have hs0 : W0.heap.size = w.heap.size + 1 := by rw [← hW0]; simp
  have hv0 : W0.heap[w.heap.size]? = some (.cells #[.slice none 0 0] 24 (0, 0)) := by rw [← hW0]; exact World.alloc_heap_new w _
  have hb0 : Below w.heap.size w W0 := by rw [← hW0]; exact (Below.refl _ w).alloc (Nat.le_refl _) _
  rw [hW0];obtain ⟨W1, hW1⟩ : ∃ W1, (W0.alloc (.deferred (some []))).alloc (.loop (Vv fn (.func (.func g) #[] lb) w.heap.size W0.heap.size .ready none)) = W1 := ⟨_, rfl⟩
  have hold : ∀ k, k < W0.heap.size → W1.heap[k]? = W0.heap[k]? := fun k hk => by
    rw [← hW1]; exact (Below.heap_alloc _ _ k (by simp; omega)).trans (Below.heap_alloc _ _ k hk)
  have hb1 : Below w.heap.size w W1 := by rw [← hW1]; exact (hb0.alloc hb0.size _).alloc (by have := hb0.size; simp; omega) _
  have hs1 : W1.heap.size = W0.heap.size + 2 := by rw [← hW1]; simp
  have hM : CaAt w fn (.func (.func g) #[] lb) w.heap.size (W0.heap.size + 1) W0.heap.size [] W1 :=
    ⟨⟨_, (hold w.heap.size (by omega)).trans hv0, ⟨rfl, .inl ⟨rfl, rfl⟩⟩⟩,
     by rw [← hW1]; have := World.alloc_heap_new (W0.alloc (.deferred (some []))) (.loop (Vv fn (.func (.func g) #[] lb) w.heap.size W0.heap.size .ready none)); rwa [World.size_alloc] at this,
     by rw [← hW1]; exact (Below.heap_alloc _ _ _ (by simp)).trans (World.alloc_heap_new W0 _), hb1⟩
  refine ⟨W0.heap.size + 1, [{ target := .collected W0.heap.size, args := #[] }], W1, { target := .fn (.func g) lb, args := #[.func (.yield (W0.heap.size + 1)) #[] #[]] }, W1, g,
    #[.func (.yield (W0.heap.size + 1)) #[] #[]] ++ lb, W1, ?_, ?_, ?_, ?_, fun _ => h1, ?_⟩
  · rw [← hW1]; exact run_enterLoop_outer _ _ _ _ _
  · simp [resolve, go_sem]
  · intro f' hf'; trivial
  · simp [invoke, go_sem, eg]
  · refine (hseq (W0.heap.size + 1) (CaAt w fn (.func (.func g) #[] lb) w.heap.size (W0.heap.size + 1) W0.heap.size) W1 hb1 (Qiv _ _ _ _ _ _ _ hb1.size)
      (fun pre x W hJ hl => Qq5 (n - 1 - 1) w fn _ w.heap.size (W0.heap.size + 1) W0.heap.size (by omega) (by omega) (by omega) (Nat.le_refl _) (by omega) N hN pre x W hJ hl) hM).mono ?_
    rintro e W2 ⟨⟨v0, rfl⟩, ss, hS, h2⟩;obtain ⟨v, hv, hrow⟩ := h2.box;have hend := run_endLoop (P := Tryz.prog) h2.L (by simp [Vv]);obtain ⟨W3, hW3⟩ : ∃ W3, W2.putObj (W0.heap.size + 1) (.loop { Vv fn (.func (.func g) #[] lb) w.heap.size W0.heap.size .ready none with state := .exhausted }) = W3 := ⟨_, rfl⟩;rw [hW3] at hend;have hg3 : W2.grownBy W3 (some (W0.heap.size + 1)) := by rw [← hW3]; exact grownBy_putObj_a _ _ _
    have hv3 : W3.heap[w.heap.size]? = some (.cells #[v] 24 (0, 0)) := by rw [← hW3]; exact (World.putObj_heap_other (by omega)).trans hv
    have hK3 : W3.heap[W0.heap.size]? = some (.deferred (some [])) := by rw [← hW3]; exact (World.putObj_heap_other (by omega)).trans h2.K
    have hrow3 := hrow.kept hg3 (ownsRow_ne_a hrow h2.L (fun cur e => by cases e));have hb3 : Below w.heap.size w W3 := h2.below.grown hg3 h2.below.size (fun k e => by cases e; omega);obtain ⟨hc3, hf3⟩ := cell_of_box_a hv3;clear hW3;refine ⟨none, W3, hend, ?_⟩;gi_wp2
    rw [← hs0];refine ⟨by simp, .inl ⟨_, _, rfl, run_takeDeferred hK3, ?_⟩⟩;exact ⟨_, results_tmp rfl _ _ _, v, ss, rfl, hS, hrow3.kept (grownBy_putObj_a _ _ _) (ownsRow_ne_a hrow3 hK3 (fun cur e => by cases e)), hb3.grown (grownBy_putObj_a _ _ _) hb3.size (fun k e => by cases e; omega)⟩
theorem Qej (n:Nat) (hn:3≤n) (g:Nat) (lb:Array Value) (eg: ∀args w,(callFunc g args).run Tryz.prog w= .ok (.enter g args) w)
  (S:List CL→Prop) (N:Nat) (hN:N≤10000) (w:World) (hseq:SeqGives Fence.wide (n-1-1) Tryz.prog g lb CL.enc S N w):
  CallsIn Fence.wide n Tryz.prog 164 #[.func (.func g) #[] lb] w fun e w'=> ∃(v:Value) (ss:List CL),e= .returned v∧S ss∧w'.ownsRow w.heap.size 37 3 v ss.length (ss.flatMap CL.cs)∧Below w.heap.size w w':=by
 have h1:1≤n:=by omega
 have F11:Fence.wide.fn 212:=trivial;have e11: ∀args w,(callFunc 212 args).run Tryz.prog w= .ok (.enter 212 args) w:=enters_of Tryz.func212 (by kernel_rfl) rfl;refine callsIn_of_wp Tryz.func164 rfl trivial ?_ rfl;simp only [Tryz.ntmps164,List.size_toArray,List.length_cons,List.length_nil,Nat.reduceAdd,Nat.reduceSub,Array.replicate_succ,Array.replicate_zero,List.push_toArray,List.append_toArray,List.nil_append,List.cons_append];gi_wp2_with (gi_at_fn 212;refine(BN (n-1) (by omega) g lb eg S N hN _ hseq).mono ?_;rintro e w' ⟨v,ss,rfl,hS,hrow,hb⟩)
 go_ret;exact⟨v,ss,rfl,hS,hrow,hb⟩
end Go.Proofs.YtbdhinckiccniaaGreatDoor
namespace Go.Proofs.YtbdhinckiccniaaGreatDoor
open Go.RowKit Go.Maps
def Grw (X W:World):Prop:= ∃q os,W=Go.Sort.grow (X.drewN q) os
theorem Qeb (w:World) (n:Nat):(w.drewN n).drew=w.drewN (n+1):=rfl
theorem Grw.refl (X:World):Grw X X:=⟨0,#[],by rw [Go.Sort.grow_empty];rfl⟩
theorem Grw.alloc {X W:World} (h:Grw X W) (o:Obj):Grw X (W.alloc o):=by
 obtain⟨q,os,rfl⟩:=h;exact⟨q,os++ #[o],by rw [Go.Sort.alloc_eq_grow,Go.Sort.grow_grow]⟩
theorem Grw.drew {X W:World} (h:Grw X W):Grw X W.drew:=by
 obtain⟨q,os,rfl⟩:=h;exact⟨q+1,os,by rw [Go.Sort.drew_grow,Qeb]⟩
theorem Grw.under {X W:World} {o:Obj} (h:Grw (X.alloc o) W):Grw X W:=by
 obtain⟨q,os,rfl⟩:=h;exact⟨q,#[o]++os,by rw [Go.Sort.alloc_eq_grow,←Go.Sort.grow_grow];rfl⟩
theorem Qug {B:Nat} {X W:World} (hs:B≤X.heap.size) (h:Below B X W) (hg:Grw X W):(∀bq oq,bq<B→W.cell? ⟨bq,oq,none⟩=X.cell? ⟨bq,oq,none⟩)∧B≤W.heap.size∧Below B X W∧Grw X W:=⟨fun b o hb=>h.cell (p:=⟨b,o,none⟩) hb,Nat.le_trans hs h.size,h,hg⟩
theorem Uu (c r c' r':Int) (w:World):Calls Tryz.prog 96 #[.agg #[.int .i64 c,.int .i64 r],.agg #[.int .i64 c',.int .i64 r']] w fun e w'=>
  e= .returned (.int .i64 (Qed c r c' r'))∧Grw w w':=by
 go_enter Tryz.func96,Tryz.ntmps96;go_wp2_with fail
 go_region_held3 (fun w'=>(∀bq oq,bq<w.heap.size+2→w'.cell? ⟨bq,oq,none⟩=((w.alloc (.cells #[.int .i64 c,.int .i64 r] 27)).alloc (.cells #[.int .i64 c',.int .i64 r'] 27)).cell? ⟨bq,oq,none⟩)∧w.heap.size+2≤w'.heap.size∧Below (w.heap.size+2) ((w.alloc (.cells #[.int .i64 c,.int .i64 r] 27)).alloc (.cells #[.int .i64 c',.int .i64 r'] 27)) w'∧Grw ((w.alloc (.cells #[.int .i64 c,.int .i64 r] 27)).alloc (.cells #[.int .i64 c',.int .i64 r'] 27)) w')
  (exact Qug (by go_size) (by go_grown) (by repeat (first | assumption | with_reducible exact Grw.refl _ | apply Grw.alloc | apply Grw.drew)))
  (first
  | (go_at_call 151;refine(Qgu _ _ _).mono ?_;rintro e w1 ⟨rfl,rfl⟩)
  | (go_at_call 150;refine(Qgt (sgn r r') (sgn c c') _ _ ?_ ?_).mono ?_;(focus (go_simp;done));(focus (go_simp;done));rintro e w1 ⟨rfl,rfl⟩))
 all_goals go_wp2_with fail
 all_goals
  go_ret;exact⟨rfl,Grw.under (Grw.under (by repeat (first | assumption | with_reducible exact Grw.refl _ | apply Grw.alloc | apply Grw.drew)))⟩
def ltC (x y:CL):Bool:=Yi x.c x.r y.c y.r
def clC (x y:CL):Int:=Qed x.c x.r y.c y.r
theorem Qac (x y:CL):ltOf clC x y=ltC x y:=by
 show decide (Qed x.c x.r y.c y.r<0)=Yi _ _ _ _;have h:=Kv x.c x.r y.c y.r;cases e:Yi x.c x.r y.c y.r with
 | false=>rw [e]at h;have:=h.2 rfl;exact decide_eq_false (by omega)
 | true=>rw [e]at h;have:=mt h.1 (by decide);exact decide_eq_true (by omega)
theorem Qq3:Go.Sort.SWO (ltOf clC) where
 irrefl x:=by rw [Qac];exact decide_eq_false (by omega)
 trans x y z h1 h2:=by
  rw [Qac]at*;have h1:=of_decide_eq_true h1;have h2:=of_decide_eq_true h2;exact decide_eq_true (by omega)
 ntrans x y z h1 h2:=by
  rw [Qac]at*;have h1:=of_decide_eq_false h1;have h2:=of_decide_eq_false h2;exact decide_eq_false (by omega)
theorem JD (x:CL):(CL.cs x).length=3:=rfl
theorem Qee (x y:CL) (W:World):Calls Tryz.prog 114 #[.agg (CL.cs x).toArray,.agg (CL.cs y).toArray] W fun e w'=>e= .returned (.int .i64 (clC x y))∧Grw W w':=by
 obtain⟨xc,xr,xs⟩:=x;obtain⟨yc,yr,ys⟩:=y;simp only [CL.cs,clC];obtain⟨r,HR⟩: ∃r,Hid (Qed xc xr yc yr=r):=⟨_,rfl⟩;rw [HR.out];go_enter Tryz.func114,Tryz.ntmps114;go_wp2_with (go_at_call 96;refine(Uu _ _ _ _ _).mono ?_;rintro e w' ⟨rfl,hg⟩;rw [HR.out])
 go_ret;exact⟨rfl,Grw.under (Grw.under hg)⟩
theorem Qcg [Inhabited CL] (L:List CL):Go.Sort.flatK CL.cs 3 L.toArray=(Za CL.cs L).toArray:=by
 refine Go.Sort.ext_get! (by simp [Je JD]) fun t ht=> ?_;have ht':t<L.length*3:=by simpa using ht
 rw [Go.Sort.get_flatK _ _ _ t (by simpa using ht')];have hi:t/3<L.length:=by omega
 have e:t/3*3+t%3=t:=by omega
 have h9:=MP JD (t%3) (by omega) L (t/3);rw [e,List.getElem?_eq_getElem hi]at h9;have hl:t<(Za CL.cs L).length:=by rw [Je JD];exact ht'
 rw [List.getElem?_eq_getElem hl]at h9;have h8:t%3<(CL.cs L[t/3]).length:=by rw [JD];omega
 simp only [Option.bind_some]at h9;rw [List.getElem?_eq_getElem h8]at h9;rw [getElem!_pos (Za CL.cs L).toArray t (by simpa using hl),getElem!_pos L.toArray (t/3) (by simpa using hi)];simp only [List.getElem_toArray];rw [getElem!_pos (CL.cs L[t/3]) (t%3) h8];exact(Option.some.inj h9).symm
theorem Qd2 {w:World} {g m:Nat} {os:Array Obj} {cur:Array Value} {e:TypeId} {fr:Nat × Nat} [Inhabited CL] (d:Array CL) (hb:w.heap[g]? =some (.cells cur e fr)):(sortWorldK CL.cs 3 w g 0 m d os).heap[g]? =some (.cells (Go.Sort.putCells id 0 (Go.Sort.flatK CL.cs 3 d) cur) e fr):=by
 have hg:g<w.heap.size:=(Array.getElem?_eq_some_iff.1 hb).1;unfold sortWorldK;rw [Go.Sort.heap_grow_old _ _ (by simpa [Go.Sort.putRowK]using hg)];simp [Go.Sort.putRowK,Go.Sort.putRow,Go.Sort.mapBlock,Go.Sort.ahead,Array.getElem?_modify,hb,Go.Sort.onCells]
theorem Qa1 {w:World} {g m:Nat} {os:Array Obj} [Inhabited CL] (d:Array CL):w.grownBy (sortWorldK CL.cs 3 w g 0 m d os) (some g):=by
 unfold sortWorldK;refine⟨rfl,rfl,rfl,by simp [Go.Sort.putRowK],fun k hk hne=> ?_⟩;rw [Go.Sort.heap_grow_old _ _ (by simpa [Go.Sort.putRowK]using hk)];have:g≠k:=fun e=>hne (by rw [e]);simp [Go.Sort.putRowK,Go.Sort.putRow,Go.Sort.mapBlock,Go.Sort.ahead,Array.getElem?_modify,this]
theorem Qha (cur:Array Value) (ts:List Value) (h:ts.length≤cur.size):(Go.Sort.putCells id 0 ts.toArray cur).toList.take ts.length=ts:=by
 apply List.ext_getElem?;intro j;by_cases hj:j<ts.length
 ·rw [List.getElem?_take_of_lt hj,Array.getElem?_toList];simp [Go.Sort.putCells,hj,show j<cur.size by omega]
 ·rw [List.getElem?_take_eq_none (by omega),List.getElem?_eq_none (by omega)]
theorem Qdf {W:World} {B g n cap:Nat} {L:List CL} (h:W.ownsRow B 37 3 (.slice (some ⟨g,0,none⟩) n cap) n (Za CL.cs L)) (hL:L.length=n) (hn:n≤10000):
  Calls Tryz.prog 165 #[.slice (some ⟨g,0,none⟩) n cap,.func (.func 114) #[] #[]] W fun e w'=>e= .returned (.tuple #[])∧ ∃M:List CL,M.Perm L∧M.Pairwise (fun x y=>ltC y x=false)∧w'.ownsRow B 37 3 (.slice (some ⟨g,0,none⟩) n cap) n (Za CL.cs M)∧W.grownBy w' (some g):=by
 haveI:Inhabited CL:=⟨⟨0,0,⟨#[]⟩⟩⟩
 rcases h.2 with⟨e,_⟩ | ⟨g',cap',cur,e,hB,hb,h1,h2,h3,h4⟩
 ·cases e
 cases e
 have eg: ∀args w,(callFunc 114 args).run Tryz.prog w= .ok (.enter 114 args) w:=enters_of Tryz.func114 (by kernel_rfl) rfl
 have hH:Go.Sort.HoldsK CL.cs 3 W g 0 L.toArray:=by
  unfold Go.Sort.HoldsK;rw [Qcg];intro j hj;have hj':j<n*3:=by rw [←h.1];simpa using hj
  refine⟨?_,by rw [Nat.zero_add];exact h.frozenAt j⟩;rw [Nat.zero_add,h.cellAt j hj',getElem!_pos _ j hj];have hl:j<(Za CL.cs L).length:=by simpa using hj
  rw [List.getElem?_eq_getElem hl];simp
 have hcmp:CmpLays Tryz.prog 114 #[] CL.cs 3 clC g 0 L.toArray.size W:=fun _ _ _ _ x y=>Qee x y _;have hcon:=AnyQ.slices_SortFunc Tryz.sortCl 3 Tryz.isAgg37 Tryz.sizeOf37 CL.cs JD (fun x v hv=>by simp [CL.cs]at hv;rcases hv with rfl | rfl | rfl<;>rfl) clC Qq3 114 #[] g 0 cap L.toArray W eg hcmp hH (Array.getElem?_eq_some_iff.1 hb).1 (by simp;omega);rw [show L.toArray.size=n by simp [hL]]at hcon;change Calls Tryz.prog 165 _ _ _ at hcon;refine hcon.mono ?_;rintro e w' ⟨rfl,d',m,os,⟨hs,_,hp⟩,hso,rfl⟩;have hs':d'.size=n:=by rw [hs];simp [hL]
 have hp':d'.toList.Perm L:=by
  have e1:(d'.extract 0 n)=d':=by rw [←hs'];simp
  have e2:(L.toArray.extract 0 n)=L.toArray:=by rw [←hL];simp
  rw [e1,e2]at hp;simpa using hp
 have ed:d'.toList.toArray=d':=by simp
 refine⟨rfl,d'.toList,hp',?_,?_,Qa1 d'⟩
 ·rw [List.pairwise_iff_getElem];intro i j hi hj hij;have h9:=hso i j (Nat.zero_le _) hij (by rw [←hs'];simpa using hj);rw [Qac,getElem!_pos d' j (by simpa using hj),getElem!_pos d' i (by simpa using hi)]at h9;simpa using h9
 ·refine⟨by rw [Je JD];simp [hs'],.inr ⟨g,cap,_,rfl,hB,Qd2 d' hb,h1,h2,by simp [Go.Sort.putCells,h3],?_⟩⟩;have hf:Go.Sort.flatK CL.cs 3 d'=(Za CL.cs d'.toList).toArray:=by rw [←Qcg,ed]
  have hl:(Za CL.cs d'.toList).length=n*3:=by rw [Je JD];simp [hs']
  rw [hf,←hl];refine Qha cur _ ?_;rw [hl,h3];exact Nat.mul_le_mul_right _ h1
end Go.Proofs.YtbdhinckiccniaaGreatDoor
namespace Go.Proofs.YtbdhinckiccniaaGreatDoor
open Go.RowKit Go.Maps Go.Sort Go.Shelf
theorem Qhf (p:Option Addr) (cap:Nat) (fv:Value) (W:World):Calls Tryz.prog 165 #[.slice p 0 cap,fv] W fun e w'=>e= .returned (.tuple #[])∧w'=W:=
 AnyF.slices_SortFunc_none Tryz.sortCl p cap fv W
theorem Qjv {W:World} {B n:Nat} {v:Value} {L:List CL} (h:W.ownsRow B 37 3 v n (L.flatMap CL.cs)) (hL:L.length=n) (hn:n≤10000):
  ∃A cap,v= .slice A n cap∧Calls Tryz.prog 165 #[.slice A n cap,.func (.func 114) #[] #[]] W fun e w'=>e= .returned (.tuple #[])∧ ∃M:List CL,M.Perm L∧M.Pairwise (fun x y=>ltC y x=false)∧w'.ownsRow B 37 3 (.slice A n cap) n (Za CL.cs M)∧Below B W w':=by
 rcases h.2 with⟨e,h0⟩ | ⟨g,cap,cur,e,hB,hb,h1,h2,h3,h4⟩
 ·subst e;subst h0;have hl:L= []:=List.length_eq_zero_iff.1 hL;subst hl;refine⟨none,0,rfl,(Qhf none 0 _ W).mono ?_⟩;rintro e w' ⟨rfl,rfl⟩;exact⟨rfl,[],List.Perm.refl _,List.Pairwise.nil,h,Below.refl _ _⟩
 ·subst e;refine⟨some ⟨g,0,none⟩,cap,rfl,(Qdf h hL hn).mono ?_⟩;rintro e w' ⟨rfl,M,hp,hs,ho,hg⟩;have hlt:g<W.heap.size:=(Array.getElem?_eq_some_iff.1 hb).1;exact⟨rfl,M,hp,hs,ho,(Below.refl _ _).grown hg (by omega) (fun k e=>by cases e;exact hB)⟩
theorem Qkn {E M:List CL} (hp:M.Perm E) (nd:E.Pairwise (fun x y=>x.key≠y.key)) (hs:M.Pairwise (fun x y=>ltC y x=false)):M.Pairwise (fun x y=>ltC x y=true):=by
 have nd2:M.Pairwise (fun x y=>x.key≠y.key):=(hp.symm.pairwise_iff (fun{a b} h=>Ne.symm h)).1 nd;refine(hs.and nd2).imp ?_;rintro⟨xc,xr,xs⟩ ⟨yc,yr,ys⟩ ⟨h1,h2⟩;have h1:=of_decide_eq_false h1;refine decide_eq_true ?_;have h3: ¬(xc=yc∧xr=yr):=fun⟨e1,e2⟩=>h2 (by simp [CL.key,e1,e2]);simp only at h1 ⊢
 omega
theorem Qpw: ∀{M M':List CL},M.Pairwise (fun x y=>ltC x y=true)→M'.Pairwise (fun x y=>ltC x y=true)→M.Perm M'→M=M':=fun{M M'} h1 h2 hp=>
 List.Perm.eq_of_pairwise (fun a b _ _ hab hba=>by
  have h1:=of_decide_eq_true hab;have h2:=of_decide_eq_true hba
  omega) h1 h2 hp
theorem Gf (g:Nat) (lb:Array Value) (eg: ∀args w,(callFunc g args).run Tryz.prog w= .ok (.enter g args) w)
  (S:List CL→Prop) (N:Nat) (hN:N≤10000) (hS: ∀ss,S ss→ss.length≤10000) (w:World) (hseq:SeqGives Fence.wide 5 Tryz.prog g lb CL.enc S N w):
  Calls Tryz.prog 112 #[.func (.func g) #[] lb,.func (.func 114) #[] #[]] w fun e w'=> ∃(v:Value) (ss M:List CL),e= .returned v∧S ss∧M.Perm ss∧M.Pairwise (fun x y=>ltC y x=false)∧w'.ownsRow w.heap.size 37 3 v M.length (Za CL.cs M)∧Below w.heap.size w w':=by
 have HC:=fun W hW=>callsIn_wide.1 (Qej 7 (by omega) g lb eg S N hN W (hseq.later hW));have HC2:Hid (∀W,Below w.heap.size w W→Calls Tryz.prog 164 #[.func (.func g) #[] lb] W fun e w'=> ∃(v:Value) (ss:List CL),e= .returned v∧S ss∧w'.ownsRow W.heap.size 37 3 v ss.length (ss.flatMap CL.cs)∧Below W.heap.size W w'):=HC;have HS:Hid (∀ss,S ss→ss.length≤10000):=hS;clear HC hseq hS;go_enter Tryz.func112,Tryz.ntmps112
 go_wp2_with (first
  | (go_at_call 164;refine(HC2.out _ (Below.refl _ _)).mono ?_;rintro e w1 ⟨v,ss,rfl,hss,hrow,hb1⟩;obtain⟨A,cap,rfl,hso⟩:=Qjv hrow rfl (HS.out ss hss))
  | (go_at_call 165;refine hso.mono ?_;rintro e w2 ⟨rfl,M,hp,hpw,hrow2,hb2⟩))
 go_ret;exact⟨_,ss,M,rfl,hss,hp,hpw,by rw [hp.length_eq];exact hrow2,hb1.trans hb2⟩
theorem CL.key_eq {x y:CL}:x.key=y.key↔x.c=y.c∧x.r=y.r:=by simp [CL.key]
def UF (p q:Int) (E:List CL):List CL:=E.filter (fun y=> !decide (y.c=p∧y.r=q))
theorem offP_mem {p q:Int} {E:List CL} {y:CL}:y∈UF p q E↔y∈E∧ ¬(y.c=p∧y.r=q):=by
 unfold UF;rw [List.mem_filter];simp only [Bool.not_eq_true',decide_eq_false_iff_not]
theorem CmD.nil:CmD (.map []) []:=⟨List.Pairwise.nil,fun x hx=>(by cases hx),fun kl h=>by simp [has_eq]at h⟩
theorem CmD.off {D:DataW Value} {E:List CL} (h:CmD D E) {p q:Int} {kl:Lit} (hk:keyOf Tryz.prog 27 (.agg #[.int .i64 p,.int .i64 q])=some kl):CmD (D.del kl) (UF p q E) where
 nd:=h.nd.filter _
 into x hx:=by
  obtain⟨hm,hn⟩:=offP_mem.1 hx;obtain⟨k2,hk2,hat⟩:=h.into x hm;refine⟨k2,hk2,fun zd=> ?_⟩
  have hne:k2≠kl:=fun e=>hn (by
   subst e;have:=keyedRef.inj hk2 hk
   simpa [CL.key]using this)
  rw [atKey_del_other hne];exact hat zd
 back k2 hh:=by
  have hne:k2≠kl:=fun e=>by subst e;rw [has_del_same]at hh;cases hh
  rw [has_del_other hne]at hh;obtain⟨x,hx,hk2⟩:=h.back k2 hh;refine⟨x,offP_mem.2 ⟨hx,fun e=>hne ?_⟩,hk2⟩;have h2:x.key= .agg #[.int .i64 p,.int .i64 q]:=by simp [CL.key,e.1,e.2]
  rw [h2,hk]at hk2;exact(Option.some.inj hk2).symm
theorem CmD.on {D:DataW Value} {E:List CL} (h:CmD D E) (hm:IsMap D) {x:CL} {kl:Lit} (hk:keyOf Tryz.prog 27 x.key=some kl):CmD (D.put kl (.held x.enc)) (UF x.c x.r E++ [x]) where
 nd:=List.pairwise_append.2 ⟨h.nd.filter _,List.pairwise_singleton _ _,fun a ha b hb e=>by
  rw [List.mem_singleton]at hb;subst hb
  exact(offP_mem.1 ha).2 (CL.key_eq.1 e)⟩
 into y hy:=by
  rcases List.mem_append.1 hy with hy | hy
  ·obtain⟨hm,hn⟩:=offP_mem.1 hy;obtain⟨k2,hk2,hat⟩:=h.into y hm;refine⟨k2,hk2,fun zd=> ?_⟩;have hne:k2≠kl:=fun e=>hn (by subst e;exact CL.key_eq.1 (keyedRef.inj hk2 hk));rw [atKey_put_other hne];exact hat zd
  ·rw [List.mem_singleton]at hy;subst hy;exact⟨kl,hk,fun zd=>atKey_put_same hm (keyedRef.key hk) _ _⟩
 back k2 hh:=by
  by_cases e:k2=kl
  ·subst e;exact⟨x,by simp,hk⟩
  ·rw [has_put_other e]at hh;obtain⟨y,hy,hk2⟩:=h.back k2 hh;refine⟨y,List.mem_append_left _ (offP_mem.2 ⟨hy,fun e2=>e ?_⟩),hk2⟩;rw [CL.key_eq.2 e2,hk]at hk2;exact(Option.some.inj hk2).symm
theorem CmD.size {w:World} {b n:Nat} {D:DataW Value} {E:List CL} (h:CmD D E) (ho:w.ownsMap Tryz.prog 27 XG b n D):Maps.size D=E.length:=by
 obtain⟨es,hD,hpw,_⟩:=ho.entries keyedRef;obtain⟨es',hD',hko⟩:=ho.keysOf;obtain rfl:es=es':=by rw [hD]at hD';simpa using hD'
 subst hD
 have h1:(E.map (fun x=>keyOf Tryz.prog 27 x.key)).Nodup:=by
  unfold List.Nodup;rw [List.pairwise_map];refine List.Pairwise.imp_of_mem (fun{x y} hx hy hne e=>hne ?_) h.nd;obtain⟨k1,hk1,_⟩:=h.into x hx;rw [hk1]at e;exact keyedRef.inj hk1 e.symm
 have h2:(es.map (fun p=>some p.1)).Nodup:=by
  unfold List.Nodup;rw [List.pairwise_map];exact hpw.imp (fun hne e=>hne (Option.some.inj e))
 have hp:=(List.perm_ext_iff_of_nodup h1 h2).2 fun o=>by
  rw [List.mem_map,List.mem_map];constructor
  ·rintro⟨x,hx,rfl⟩;obtain⟨k1,hk1,hat⟩:=h.into x hx;have hh:=has_true_of_atKey hat;rw [has_eq,List.any_eq_true]at hh;obtain⟨p,hp,hs⟩:=hh;exact⟨p,hp,by rw [hk1,WideAt.sameKey_eq hs]⟩
  ·rintro⟨p,hp,rfl⟩;obtain⟨v,hv⟩:=hko p hp;obtain⟨x,hx,hk⟩:=h.back p.1 (by rw [has_eq,List.any_eq_true];exact⟨p,hp,WideAt.sameKey_self (keyedRef.key hv)⟩);exact⟨x,hx,hk⟩
 have:=hp.length_eq;simp only [List.length_map]at this;exact this.symm
def clE (C R:Nat→Int) (S:Nat→ByteArray) (n:Nat):List CL:=(List.range n).map fun i=>⟨C i,R i,S i⟩
theorem Qcr (C R:Nat→Int) (S:Nat→ByteArray) (n:Nat):clE C R S (n+1)=clE C R S n++ [⟨C n,R n,S n⟩]:=by simp [clE,List.range_succ]
theorem VU (C R:Nat→Int) (S:Nat→ByteArray) (n:Nat):(clE C R S n).length=n:=by simp [clE]
theorem Br {b n:Nat} {D:DataW Value} {E:List CL} (w:World) (ho:w.ownsMap Tryz.prog 27 XG b n D) (hE:CmD D E) (hn:E.length≤10000):
  Calls Tryz.prog 57 #[.map (some b)] w fun e w'=> ∃A cap M,e= .returned (.slice A E.length cap)∧M.Perm E∧M.Pairwise (fun x y=>ltC x y=true)∧w'.ownsRow w.heap.size 37 3 (.slice A E.length cap) E.length (Za CL.cs M)∧Below w.heap.size w w':=by
 have hbl:=ho.lt;have hsz:Maps.size D=E.length:=hE.size ho
 have hown':(w.alloc (.cells #[.map (some b)] 59)).ownsMap Tryz.prog 27 XG b n D:=by
  obtain⟨es,clock,hb,Ft,hs,hD⟩:=ho;exact⟨es,clock,(Below.heap_alloc _ _ b hbl).trans hb,Ft,hs,hD⟩
 have hseq:SeqGives Fence.wide 5 Tryz.prog 166 #[.pointer (some ⟨w.heap.size,0,none⟩)] CL.enc (fun ss=>ss.Perm E) (Maps.size D) (w.alloc (.cells #[.map (some b)] 59)):=
  Bd 5 (by omega) w.heap.size b n D E hE _ (by simp) (by simp) hown'
 have hsf:=Gf 166 #[.pointer (some ⟨w.heap.size,0,none⟩)] (enters_of Tryz.func166 (by kernel_rfl) rfl) (fun ss=>ss.Perm E) (Maps.size D) (by omega) (fun ss h=>by rw [h.length_eq];exact hn) _ hseq;have hva:=callsIn_wide.1 (Qg6 5 (some b) w);have HND:Hid (E.Pairwise (fun x y=>x.key≠y.key)):=hE.nd;clear hseq hown' hE ho hsz;go_enter Tryz.func57,Tryz.ntmps57
 go_wp2_with (first
  | (go_at_call 113;refine hva.mono ?_;rintro e w1 ⟨rfl,rfl⟩)
  | (go_at_call 112;refine hsf.mono ?_;rintro e w2 ⟨v,ss,M,rfl,hss,hp,hpw,hrow,hb⟩))
 go_ret;have hp2:M.Perm E:=hp.trans hss;rw [hp2.length_eq]at hrow;obtain⟨A,cap,rfl,_⟩:=Qo hrow;refine⟨A,cap,M,rfl,hp2,Qkn hp2 HND.out hpw,ownsRow_base_a hrow (by simp),?_⟩;exact((Below.refl _ w).alloc (Nat.le_refl _) _).trans (hb.mono (by simp))
theorem GK {α:Type} {p:List α→Prop} (h0:p []) (h1: ∀l x,p l→p (l++ [x])) (l:List α):p l:=by
 have: ∀n (l:List α),l.length=n→p l:=fun n=>by
  induction n with
  | zero=>intro l hl;rw [List.length_eq_zero_iff.1 hl];exact h0
  | succ n ih=>
   intro l hl;have hne:l≠ []:=fun e=>by subst e;cases hl
   rw [←List.dropLast_concat_getLast hne];exact h1 _ _ (ih _ (by rw [List.length_dropLast,hl];rfl))
 exact this _ l rfl
def Mh (x y:CL):Bool:=decide (y.c=x.c∧y.r=x.r)
def stC (x:CL) (a:List CL × Bool) (y:CL):List CL × Bool:=(a.1++(if(!a.2&& !ltC y x)=true then [x]else [])++(if Mh x y=true then []else [y]),a.2 || !ltC y x)
def XR (x:CL) (d:Bool) (L:List CL):List CL × Bool:=L.foldl (stC x) ([],d)
theorem Vo (x:CL) (d:Bool) (L:List CL) (y:CL):XR x d (L++ [y])=stC x (XR x d L) y:=by simp [XR,List.foldl_append]
theorem Qj0 (x:CL) (d:Bool): ∀L:List CL,(XR x d L).1.length≤L.length+(XR x d L).2.toNat:=fun L=>by
 induction L using GK with
 | h0=>simp [XR]
 | h1 L y ih=>
  rw [Vo];obtain⟨⟨a,b⟩,hr⟩: ∃r,XR x d L=r:=⟨_,rfl⟩;rw [hr]at ih ⊢;cases b<;>cases h3:ltC y x<;>cases h4:Mh x y<;>simp [stC,h3,h4]at ih ⊢ <;>omega
theorem Qhk (x:CL): ∀L:List CL,XR x true L=(UF x.c x.r L,true):=fun L=>by
 induction L using GK with
 | h0=>rfl
 | h1 L y ih=>
  rw [Vo,ih];simp only [stC,UF,Mh,List.filter_append,List.filter_cons,List.filter_nil];by_cases h:y.c=x.c∧y.r=x.r<;>simp [h]
def Qi8 (x:CL) (L:List CL):List CL:=L.filter (fun y=>ltC y x)
def UI (x:CL) (L:List CL):List CL:=L.filter (fun y=> !ltC y x&& !Mh x y)
theorem Qdh (x:CL): ∀L:List CL,L.Pairwise (fun a b=>ltC a b=true)→XR x false L=(Qi8 x L++(if L.any (fun y=> !ltC y x)=true then [x]else [])++UI x L,L.any (fun y=> !ltC y x)):=fun L=>by
 induction L using GK with
 | h0=>intro _;rfl
 | h1 L y ih=>
  intro hp;obtain⟨h1,_,h3⟩:=List.pairwise_append.1 hp;rw [Vo,ih h1];cases hy:ltC y x with
  | true=>
   have hall: ∀z∈L,ltC z x=true:=fun z hz=>by
    have h4:=of_decide_eq_true (h3 z hz y (by simp));have h5:=of_decide_eq_true hy;exact decide_eq_true (by omega)
   have hany:L.any (fun y=> !ltC y x)=false:=by
    rw [List.any_eq_false];intro z hz;simp [hall z hz]
   have haft:UI x L= []:=by
    unfold UI;rw [List.filter_eq_nil_iff];intro z hz;simp [hall z hz]
   have hns:Mh x y=false:=decide_eq_false (fun e=>by have h5:=of_decide_eq_true hy;omega);have haft2:=haft;unfold UI at haft2;simp [stC,hany,hy,hns,Qi8,UI,List.filter_append,haft2]
  | false=>
   cases hany:L.any (fun y=> !ltC y x)with
   | true=>
    cases hs:Mh x y<;>simp [stC,hany,hy,hs,Qi8,UI,List.filter_append]
   | false=>
    have hall: ∀z∈L,ltC z x=true:=fun z hz=>by
     have:=List.any_eq_false.1 hany z hz;simpa using this
    have haft:UI x L= []:=by
     unfold UI;rw [List.filter_eq_nil_iff];intro z hz;simp [hall z hz]
    have haft2:=haft;unfold UI at haft2;cases hs:Mh x y<;>simp [stC,hany,hy,hs,Qi8,UI,List.filter_append,haft2]
def NT (x:CL) (E:List CL):List CL:=if x.s.toList.isEmpty=true then UF x.c x.r E else Qi8 x E++ [x]++UI x E
theorem Qjx {x:CL} {E:List CL} (h:E.Pairwise (fun a b=>ltC a b=true)):NT x E=(let a:=XR x x.s.toList.isEmpty E;if a.2=true then a.1 else a.1++ [x]):=by
 unfold NT;cases he:x.s.toList.isEmpty with
 | true=>rw [Qhk];rfl
 | false=>
  rw [Qdh x E h];cases hany:E.any (fun y=> !ltC y x)with
  | true=>simp
  | false=>
   have haft:UI x E= []:=by
    unfold UI;rw [List.filter_eq_nil_iff];intro z hz;have:=List.any_eq_false.1 hany z hz;simp at this;simp [this]
   simp [haft]
theorem Qhg (x:CL) (E:List CL):(NT x E).Perm (if x.s.toList.isEmpty=true then UF x.c x.r E else UF x.c x.r E++ [x]):=by
 unfold NT;split
 ·exact List.Perm.refl _
 ·have h1:Qi8 x E=(UF x.c x.r E).filter (fun y=>ltC y x):=by
   unfold Qi8 UF;rw [List.filter_filter];refine List.filter_congr (fun y _=> ?_);cases h:ltC y x with
   | false=>rfl
   | true=>
    have h5:=of_decide_eq_true h;simp only [Bool.true_and];exact(by simp only [Bool.not_eq_true',decide_eq_false_iff_not];omega:(!decide (y.c=x.c∧y.r=x.r))=true).symm
  have h2:UI x E=(UF x.c x.r E).filter (fun y=> !ltC y x):=by
   unfold UI UF;rw [List.filter_filter];rfl
  rw [h1,h2,List.append_assoc];refine((List.perm_append_comm_assoc _ _ _).trans ?_);refine(List.Perm.append_left [x] (List.filter_append_perm _ _)).trans ?_;exact List.perm_append_comm
end Go.Proofs.YtbdhinckiccniaaGreatDoor
namespace Go.Proofs.YtbdhinckiccniaaGreatDoor
open Go.RowKit Go.Maps
theorem QC {ops:Array Oper} {rest:List Oper} {o:Oper} {a:Act} {Q:Exit→Act→World→Prop} {W:World} (hgd:o.guard=none) (s x:Operand) (ho:o.op= .call {callee:= .builtin .append,args:= #[s,x],argTypes:= #[24,24]}) (B:Nat) (v:Value) (n:Nat) (L:List CL) (hs:a.eval s=v)
  (hown:W.ownsRow B 37 3 v n (Za CL.cs L)) (c r:Int) (tx:ByteArray) (g:Nat) (hx:a.eval x= .slice (some ⟨g,0,none⟩) 1 1) (h0:W.cell? ⟨g,0,none⟩=some (.int .i64 c)) (h1:W.cell? ⟨g,1,none⟩=some (.int .i64 r)) (h2:W.cell? ⟨g,2,none⟩=some (.string tx)) (hn:n≤1099511627776) (hB:B≤W.heap.size)
  (h: ∀v' w',w'.ownsRow B 37 3 v' (n+1) (Za CL.cs (L++ [⟨c,r,tx⟩]))→W.grownBy w' v.ownBlock→wpList Tryz.prog ops Q rest (a.put o.dst v') w'):wpList Tryz.prog ops Q (o::rest) a W:=by
 obtain⟨i0,hi,iz0,iz1,iz2⟩:=info_parts Qmz;refine wpList_append_own W hgd s x 24 ho B 37 i0 (.agg #[.int .i64 0,.int .i64 0,.string ⟨#[]⟩]) 3 32 Tryz.underlying24 hi iz0 iz1 iz2 rfl (by decide) v n _ hs hown ⟨g,0,none⟩ 1 1 [.int .i64 c,.int .i64 r,.string tx] hx rfl ?_ ?_ ?_ ?_ hB ?_
 ·intro q u hq;match q,hq with
  | 0,hq=>simp at hq;subst hq;simpa [Addr.add]using h0
  | 1,hq=>simp at hq;subst hq;simpa [Addr.add]using h1
  | 2,hq=>simp at hq;subst hq;simpa [Addr.add]using h2
 ·intro u hu;simp at hu;rcases hu with rfl | rfl | rfl<;>rfl
 ·unfold maxLen;omega
 ·omega
 ·intro v' w3 hown' hgrow _;refine h v' w3 ?_ hgrow;rw [Dx];exact hown'
def Qi6 (x:CL) (E:List CL):List CL:=if(XR x x.s.toList.isEmpty E).2=true then(XR x x.s.toList.isEmpty E).1 else(XR x x.s.toList.isEmpty E).1++ [x]
theorem Qdb {A:Option Addr} {n cap:Nat} {C R:Nat→Int} {S:Nat→ByteArray} {p q:Int} {s:ByteArray} (w:World) (h:ClRow w A n C R S) (hn:n≤10000):
  Calls Tryz.prog 92 #[.slice A n cap,.agg #[.int .i64 p,.int .i64 q],.string s] w fun e w'=> ∃A' c' m,e= .returned (.slice A' m c')∧(Qi6 ⟨p,q,s⟩ (clE C R S n)).length=m∧w'.ownsRow w.heap.size 37 3 (.slice A' m c') m (Za CL.cs (Qi6 ⟨p,q,s⟩ (clE C R S n)))∧Below w.heap.size w w':=by
 have HR:Hid (ClRow w A n C R S):=h;clear h;obtain⟨x,HX⟩: ∃x:CL,Hid (x=⟨p,q,s⟩):=⟨_,rfl⟩;have HXE:Hid ((⟨p,q,s⟩:CL)=x):=HX.out.symm;rw [HXE.out];obtain⟨d0,HD0⟩: ∃d0:Bool,Hid (s.toList.isEmpty=d0):=⟨_,rfl⟩;have hd0:=HD0.out
 go_enter Tryz.func92,Tryz.ntmps92;go_wp2_with fail
 obtain⟨u,HU⟩: ∃u,Hid (w.alloc (.cells #[.int .i64 p,.int .i64 q] 27)=u):=⟨_,rfl⟩;have HBU:Hid (Below w.heap.size w u):=by rw [←HU.out];exact(Below.refl _ _).alloc (Nat.le_refl _) _
 have HUS:Hid (u.heap.size=w.heap.size+1):=by show _=_;rw [←HU.out];simp
 have p0:u.cell? ⟨w.heap.size,0,none⟩=some (.int .i64 p):=by rw [←HU.out];go_simp
 have p1:u.cell? ⟨w.heap.size,1,none⟩=some (.int .i64 q):=by rw [←HU.out];go_simp
 have P0:Hid (u.cell? ⟨w.heap.size,0,none⟩=some (.int .i64 p)):=p0;have P1:Hid (u.cell? ⟨w.heap.size,1,none⟩=some (.int .i64 q)):=p1;clear p0 p1;rw [HU.out];have HE0:Hid ((u.alloc (.cells #[] 37)).ownsRow u.heap.size 37 3 (.slice (some ⟨u.heap.size,0,none⟩) 0 0) 0 []):=GJ (Nat.le_refl _) rfl;go_loopw [7,8,9] (fun v b i wr=> ∃(t:Nat) (A':Option Addr) (k c:Nat),t≤n∧v= .slice A' k c∧b= .bool (XR x d0 (clE C R S t)).2∧i= .int .i64 t∧(XR x d0 (clE C R S t)).1.length=k∧wr.ownsRow u.heap.size 37 3 (.slice A' k c) k (Za CL.cs (XR x d0 (clE C R S t)).1)∧Below u.heap.size u wr) (fun _ _ i _=>n-(intOf i).toNat)
 case atStart=>exact⟨0,_,0,0,Nat.zero_le _,rfl,rfl,rfl,rfl,by have h9:=HE0.out;rw [HUS.out]at h9;rw [HUS.out];exact h9,(Below.refl _ _).alloc (Nat.le_refl _) _⟩
 case round=>
  obtain⟨t,A',k,c,ht,rfl,rfl,rfl,hkl,hown,hbel⟩:=hrel;obtain⟨⟨LT,dn⟩,HLT⟩: ∃r,Hid (XR x d0 (clE C R S t)=r):=⟨_,rfl⟩;rw [HLT.out]at hkl hown ⊢;have HOW:Hid (wr.ownsRow u.heap.size 37 3 (.slice A' k c) k (Za CL.cs LT)):=hown;have HKL:Hid (LT.length=k):=hkl
  have HKT:Hid (k≤t+1):=by
   have h9:=Qj0 x d0 (clE C R S t);rw [HLT.out,VU]at h9;show k≤t+1;rw [←HKL.out];have h8:dn.toNat≤1:=by cases dn<;>decide
   simp only at h9;omega
  have hkt:=HKT.out;have KV:Hid (Below u.heap.size u wr):=hbel;have hsv:=hbel.size;have KA:Hid (Below w.heap.size w wr):=HBU.out.trans (hbel.mono (by have:=HUS.out;omega));have y0:=(hbel.cell (p:=⟨w.heap.size,0,none⟩) (by show w.heap.size<u.heap.size;have:=HUS.out;omega)).trans P0.out;have y1:=(hbel.cell (p:=⟨w.heap.size,1,none⟩) (by show w.heap.size<u.heap.size;have:=HUS.out;omega)).trans P1.out;have yz:w.heap.size<wr.heap.size:=by have:=HUS.out;omega
  clear hown hkl hbel;by_cases hlt:t<n
  ·obtain⟨b,o,rfl,hl,c0,c1,c2,_⟩:=HR.out.2 t hlt;rw [←KA.out.cell (p:=⟨_,_,none⟩) hl]at c0 c1 c2;have hl2:b<wr.heap.size:=Nat.lt_of_lt_of_le hl KA.out.size;have HBL:Hid (b<w.heap.size):=hl;have q0:(0:Int)≤(t:Int):=by omega
   have q1:(t:Int)<(n:Int):=by omega
   obtain⟨y,HY⟩: ∃y:CL,Hid (y=⟨C t,R t,S t⟩):=⟨_,rfl⟩;have HRN:Hid (XR x d0 (clE C R S (t+1))=stC x (LT,dn) y):=by show _=_;rw [Qcr,←HY.out,Vo,HLT.out]
   obtain⟨ah,HA⟩: ∃ah:Bool,Hid (Yi (C t) (R t) p q=ah):=⟨_,rfl⟩;have HLA:Hid (ltC y x=ah):=by show _=_;rw [HY.out,HX.out];exact HA.out
   have SX:Hid (∀v,stC x (LT,dn) y=v→XR x d0 (clE C R S (t+1))=v):=fun v h9=>HRN.out.trans h9;go_upto_region 6 with fail
   go_cut [30]from 13 to 50 (fun v wx=>v= .bool (!dn&& !ah)∧Below wr.heap.size wr wx)
   case first=>
    cases dn
    ·go_region_held3 (fun w'=>(∀bq oq,bq<wr.heap.size→w'.cell? ⟨bq,oq,none⟩=wr.cell? ⟨bq,oq,none⟩)∧wr.heap.size≤w'.heap.size∧Below wr.heap.size wr w')
      (exact Qp (Nat.le_refl _) (by go_grown))
      (first
      | (go_at_call 60;refine(KP _ _ _ _ _).mono ?_;rintro e w1 ⟨rfl,hb⟩;rw [HA.out];obtain⟨hk1,hz1⟩:=Qg (B:=wr.heap.size) (X:=wr) (by go_grown) (by go_size) hb;have hC:=fun b o h=>hk1.cell (p:=⟨b,o,none⟩) h;clear hb))
     all_goals
      go_wp2_with fail
      go_meet;exact⟨rfl,by go_grown⟩
    ·go_quiet (fail)
     go_wp2_with fail
     go_meet;exact⟨rfl,below_drewN (Below.refl _ _) _⟩
   case rest=>
    obtain⟨rfl,hbx⟩:=hcut;have KC:Hid (Below u.heap.size u wc):=KV.out.trans (hbx.mono hsv);have HOc:=hd (Qf HOW.out hbx);replace y0:=(hbx.cell (p:=⟨w.heap.size,0,none⟩) yz).trans y0;replace y1:=(hbx.cell (p:=⟨w.heap.size,1,none⟩) yz).trans y1;replace c0:=(hbx.cell (p:=⟨b,_,none⟩) hl2).trans c0;replace c1:=(hbx.cell (p:=⟨b,_,none⟩) hl2).trans c1
    replace c2:=(hbx.cell (p:=⟨b,_,none⟩) hl2).trans c2;have zx:=hbx.size;replace yz:w.heap.size<wc.heap.size:=by omega
    replace hl2:b<wc.heap.size:=by omega
    have hsc:u.heap.size≤wc.heap.size:=by omega
    clear hbx KV KA HOW;have hor:(!dn&& !ah)=false→(dn || !ah)=dn:=by cases dn<;>cases ah<;>simp
    have hor2:(!dn&& !ah)=true→(dn || !ah)=true:=by cases dn<;>cases ah<;>simp
    have HOR:Hid ((!dn&& !ah)=false→(dn || !ah)=dn):=hor;have HOR2:Hid ((!dn&& !ah)=true→(dn || !ah)=true):=hor2;clear hor hor2;by_cases hsame:C t=p∧R t=q
    ·have HSM:Hid (Mh x y=true):=by show _=_;rw [HY.out,HX.out];exact decide_eq_true hsame
     cases hput:(!dn&& !ah)
     ·have HI:Hid (XR x d0 (clE C R S (t+1))=(LT,dn)):=by
       show _=_;rw [HRN.out,stC,HLA.out,HSM.out,if_neg (by rw [hput];decide),if_pos rfl,List.append_nil,List.append_nil,HOR.out hput]
      go_wp2_with fail
      go_quiet (fail)
      go_wp2_with fail
      go_roundw
      case rel=>exact⟨t+1,A',k,c,by omega,rfl,by rw [HI.out],by go_num,by rw [HI.out];exact HKL.out,by rw [HI.out];exact Qf HOc.out (below_drewN (Below.refl _ _) _),below_drewN KC.out _⟩
      case measure=>simp [intOf];omega
     ·have HI:Hid (XR x d0 (clE C R S (t+1))=(LT++ [⟨p,q,s⟩],true)):=by
       show _=_;rw [HRN.out,stC,HLA.out,HSM.out,if_pos hput,if_pos rfl,List.append_nil,HOR2.out hput,HXE.out]
      go_wp2_with (first
       | (at_builtin;refine QC rfl _ _ rfl u.heap.size (.slice A' k c) k LT rfl (HOc.out.alloc _) p q s wc.heap.size rfl (by simp [go_sem]) (by simp [go_sem]) (by simp [go_sem]) (by omega) (by simp;omega) ?_)
       | fail)
      intro va w6 ho hg;obtain⟨F6,h6,rfl,_,_⟩:=Qo ho;have hba:Below wc.heap.size wc (wc.alloc (.cells #[.int .i64 p,.int .i64 q,.string s] 37)):=(Below.refl _ _).alloc (Nat.le_refl _) _;have HO6:Hid (w6.ownsRow u.heap.size 37 3 (.slice F6 (k+1) h6) (k+1) (Za CL.cs (LT++ [⟨p,q,s⟩]))):=ho;have K6:Hid (Below u.heap.size u w6):=(KC.out.alloc hsc _).grown hg (by simp;omega) (fun j hj=>(HOc.out.lt j hj).1);have nB:some b≠(Value.slice A' k c).ownBlock:=fun e=>by have h8:=(HOc.out.lt _ e.symm).1;have h9:=HBL.out;have:=HUS.out;omega
      have nW:some w.heap.size≠(Value.slice A' k c).ownBlock:=fun e=>by have h8:=(HOc.out.lt _ e.symm).1;have:=HUS.out;omega
      replace c0:=hg.cell ((hba.cell (p:=⟨b,_,none⟩) hl2).trans c0) nB;replace c1:=hg.cell ((hba.cell (p:=⟨b,_,none⟩) hl2).trans c1) nB;replace c2:=hg.cell ((hba.cell (p:=⟨b,_,none⟩) hl2).trans c2) nB;replace y0:=hg.cell ((hba.cell (p:=⟨w.heap.size,0,none⟩) yz).trans y0) nW;replace y1:=hg.cell ((hba.cell (p:=⟨w.heap.size,1,none⟩) yz).trans y1) nW;have sz6:wc.heap.size≤w6.heap.size:=Nat.le_trans hba.size hg.size;replace hl2:b<w6.heap.size:=Nat.lt_of_lt_of_le hl2 sz6
      replace yz:w.heap.size<w6.heap.size:=Nat.lt_of_lt_of_le yz sz6;have hs6:u.heap.size≤w6.heap.size:=Nat.le_trans hsc sz6;clear ho hg hba;go_wp2_with fail
      go_quiet (fail)
      go_wp2_with fail
      go_roundw
      case rel=>exact⟨t+1,F6,k+1,h6,by omega,rfl,by rw [HI.out],by go_num,by rw [HI.out];simp [HKL.out],by rw [HI.out];exact Qf HO6.out (below_drewN (Below.refl _ _) _),below_drewN K6.out _⟩
      case measure=>simp [intOf];omega
    ·have HSM:Hid (Mh x y=false):=by show _=_;rw [HY.out,HX.out];exact decide_eq_false hsame
     by_cases e1:C t=p
     ·have e1c:(C t==p)=true:=beq_iff_eq.2 e1;have e2: ¬R t=q:=fun e=>hsame ⟨e1,e⟩;have e2b:(R t==q)=false:=beq_eq_false_iff_ne.2 e2;clear hsame;cases hput:(!dn&& !ah)
      ·have HI:Hid (XR x d0 (clE C R S (t+1))=(LT++ [⟨C t,R t,S t⟩],dn)):=by
        show _=_;rw [HRN.out,stC,HLA.out,HSM.out,if_neg (by rw [hput];decide),if_neg (by decide),List.append_nil,HOR.out hput,←HY.out]
       go_wp2_with fail
       go_quiet (fail)
       obtain⟨wq,HWQ⟩: ∃wq,Hid (wc.drewN nq=wq):=⟨_,rfl⟩;rw [HWQ.out];have hbq:Below wc.heap.size wc wq:=by rw [←HWQ.out];exact below_drewN (Below.refl _ _) _
       replace c0:=(hbq.cell (p:=⟨b,_,none⟩) hl2).trans c0;replace c1:=(hbq.cell (p:=⟨b,_,none⟩) hl2).trans c1;replace c2:=(hbq.cell (p:=⟨b,_,none⟩) hl2).trans c2;have HOd:=hd (Qf HOc.out hbq);have KQ:Hid (Below u.heap.size u wq):=KC.out.trans (hbq.mono hsc);have hsq:u.heap.size≤wq.heap.size:=Nat.le_trans hsc hbq.size;replace hl2:b<wq.heap.size:=Nat.lt_of_lt_of_le hl2 hbq.size
       clear hbq
       go_wp2_with (first
        | (at_builtin;refine QC rfl _ _ rfl u.heap.size (.slice A' (k) c) (k) (LT) rfl (HOd.out.alloc _) (C t) (R t) (S t) wq.heap.size rfl (by simp [go_sem, *]) (by simp [go_sem, *]) (by simp [go_sem, *]) (by omega) (by simp;omega) ?_)
        | fail)
       intro va w7 ho hg;obtain⟨F7,h7,rfl,_,_⟩:=Qo ho
       have HO7:Hid (w7.ownsRow u.heap.size 37 3 (.slice F7 (k+1) h7) (k+1) (Za CL.cs (LT++ [⟨C t,R t,S t⟩]))):=by
        show w7.ownsRow u.heap.size 37 3 (.slice F7 (k+1) h7) (k+1) (Za CL.cs (LT++ [⟨C t,R t,S t⟩]));first | exact ho | (rw [e1];exact ho) | (rw [List.append_assoc];exact ho) | (rw [List.append_assoc,e1];exact ho)
       have K7:Hid (Below u.heap.size u w7):=(KQ.out.alloc hsq _).grown hg (by simp;omega) (fun j hj=>(HOd.out.lt j hj).1);clear ho hg;go_wp2_with fail
       go_roundw
       case rel=>exact⟨t+1,F7,k+1,h7,by omega,rfl,by rw [HI.out],by go_num,by rw [HI.out];simp [HKL.out],by rw [HI.out];exact HO7.out,K7.out⟩
       case measure=>simp [intOf];omega
      ·have HI:Hid (XR x d0 (clE C R S (t+1))=(LT++ [⟨p,q,s⟩]++ [⟨C t,R t,S t⟩],true)):=by
        show _=_;rw [HRN.out,stC,HLA.out,HSM.out,if_pos hput,if_neg (by decide),HOR2.out hput,HXE.out,←HY.out]
       go_wp2_with (first
        | (at_builtin;refine QC rfl _ _ rfl u.heap.size (.slice A' k c) k LT rfl (HOc.out.alloc _) p q s wc.heap.size rfl (by simp [go_sem]) (by simp [go_sem]) (by simp [go_sem]) (by omega) (by simp;omega) ?_)
        | fail)
       intro va w6 ho hg;obtain⟨F6,h6,rfl,_,_⟩:=Qo ho;have hba:Below wc.heap.size wc (wc.alloc (.cells #[.int .i64 p,.int .i64 q,.string s] 37)):=(Below.refl _ _).alloc (Nat.le_refl _) _;have HO6:Hid (w6.ownsRow u.heap.size 37 3 (.slice F6 (k+1) h6) (k+1) (Za CL.cs (LT++ [⟨p,q,s⟩]))):=ho;have K6:Hid (Below u.heap.size u w6):=(KC.out.alloc hsc _).grown hg (by simp;omega) (fun j hj=>(HOc.out.lt j hj).1);have nB:some b≠(Value.slice A' k c).ownBlock:=fun e=>by have h8:=(HOc.out.lt _ e.symm).1;have h9:=HBL.out;have:=HUS.out;omega
       have nW:some w.heap.size≠(Value.slice A' k c).ownBlock:=fun e=>by have h8:=(HOc.out.lt _ e.symm).1;have:=HUS.out;omega
       replace c0:=hg.cell ((hba.cell (p:=⟨b,_,none⟩) hl2).trans c0) nB;replace c1:=hg.cell ((hba.cell (p:=⟨b,_,none⟩) hl2).trans c1) nB;replace c2:=hg.cell ((hba.cell (p:=⟨b,_,none⟩) hl2).trans c2) nB;replace y0:=hg.cell ((hba.cell (p:=⟨w.heap.size,0,none⟩) yz).trans y0) nW;replace y1:=hg.cell ((hba.cell (p:=⟨w.heap.size,1,none⟩) yz).trans y1) nW;have sz6:wc.heap.size≤w6.heap.size:=Nat.le_trans hba.size hg.size;replace hl2:b<w6.heap.size:=Nat.lt_of_lt_of_le hl2 sz6
       replace yz:w.heap.size<w6.heap.size:=Nat.lt_of_lt_of_le yz sz6;have hs6:u.heap.size≤w6.heap.size:=Nat.le_trans hsc sz6;clear ho hg hba;go_wp2_with fail
       go_quiet (fail)
       obtain⟨wq,HWQ⟩: ∃wq,Hid (w6.drewN nq=wq):=⟨_,rfl⟩;rw [HWQ.out];have hbq:Below w6.heap.size w6 wq:=by rw [←HWQ.out];exact below_drewN (Below.refl _ _) _
       replace c0:=(hbq.cell (p:=⟨b,_,none⟩) hl2).trans c0;replace c1:=(hbq.cell (p:=⟨b,_,none⟩) hl2).trans c1;replace c2:=(hbq.cell (p:=⟨b,_,none⟩) hl2).trans c2;have HOd:=hd (Qf HO6.out hbq);have KQ:Hid (Below u.heap.size u wq):=K6.out.trans (hbq.mono hs6);have hsq:u.heap.size≤wq.heap.size:=Nat.le_trans hs6 hbq.size;replace hl2:b<wq.heap.size:=Nat.lt_of_lt_of_le hl2 hbq.size
       clear hbq
       go_wp2_with (first
        | (at_builtin;refine QC rfl _ _ rfl u.heap.size (.slice F6 (k+1) h6) (k+1) (LT++ [⟨p,q,s⟩]) rfl (HOd.out.alloc _) (C t) (R t) (S t) wq.heap.size rfl (by simp [go_sem, *]) (by simp [go_sem, *]) (by simp [go_sem, *]) (by omega) (by simp;omega) ?_)
        | fail)
       intro va w7 ho hg;obtain⟨F7,h7,rfl,_,_⟩:=Qo ho
       have HO7:Hid (w7.ownsRow u.heap.size 37 3 (.slice F7 (k+1+1) h7) (k+1+1) (Za CL.cs (LT++ [⟨p,q,s⟩]++ [⟨C t,R t,S t⟩]))):=by
        show w7.ownsRow u.heap.size 37 3 (.slice F7 (k+1+1) h7) (k+1+1) (Za CL.cs (LT++ [⟨p,q,s⟩]++ [⟨C t,R t,S t⟩]));first | exact ho | (rw [e1];exact ho) | (rw [List.append_assoc];exact ho) | (rw [List.append_assoc,e1];exact ho)
       have K7:Hid (Below u.heap.size u w7):=(KQ.out.alloc hsq _).grown hg (by simp;omega) (fun j hj=>(HOd.out.lt j hj).1);clear ho hg;go_wp2_with fail
       go_roundw
       case rel=>exact⟨t+1,F7,k+1+1,h7,by omega,rfl,by rw [HI.out],by go_num,by rw [HI.out];simp [HKL.out],by rw [HI.out];exact HO7.out,K7.out⟩
       case measure=>simp [intOf];omega
     ·have e1b:(C t==p)=false:=beq_eq_false_iff_ne.2 e1;clear hsame;cases hput:(!dn&& !ah)
      ·have HI:Hid (XR x d0 (clE C R S (t+1))=(LT++ [⟨C t,R t,S t⟩],dn)):=by
        show _=_;rw [HRN.out,stC,HLA.out,HSM.out,if_neg (by rw [hput];decide),if_neg (by decide),List.append_nil,HOR.out hput,←HY.out]
       go_wp2_with fail
       go_quiet (fail)
       obtain⟨wq,HWQ⟩: ∃wq,Hid (wc.drewN nq=wq):=⟨_,rfl⟩;rw [HWQ.out];have hbq:Below wc.heap.size wc wq:=by rw [←HWQ.out];exact below_drewN (Below.refl _ _) _
       replace c0:=(hbq.cell (p:=⟨b,_,none⟩) hl2).trans c0;replace c1:=(hbq.cell (p:=⟨b,_,none⟩) hl2).trans c1;replace c2:=(hbq.cell (p:=⟨b,_,none⟩) hl2).trans c2;have HOd:=hd (Qf HOc.out hbq);have KQ:Hid (Below u.heap.size u wq):=KC.out.trans (hbq.mono hsc);have hsq:u.heap.size≤wq.heap.size:=Nat.le_trans hsc hbq.size;replace hl2:b<wq.heap.size:=Nat.lt_of_lt_of_le hl2 hbq.size
       clear hbq
       go_wp2_with (first
        | (at_builtin;refine QC rfl _ _ rfl u.heap.size (.slice A' (k) c) (k) (LT) rfl (HOd.out.alloc _) (C t) (R t) (S t) wq.heap.size rfl (by simp [go_sem, *]) (by simp [go_sem, *]) (by simp [go_sem, *]) (by omega) (by simp;omega) ?_)
        | fail)
       intro va w7 ho hg;obtain⟨F7,h7,rfl,_,_⟩:=Qo ho
       have HO7:Hid (w7.ownsRow u.heap.size 37 3 (.slice F7 (k+1) h7) (k+1) (Za CL.cs (LT++ [⟨C t,R t,S t⟩]))):=by
        show w7.ownsRow u.heap.size 37 3 (.slice F7 (k+1) h7) (k+1) (Za CL.cs (LT++ [⟨C t,R t,S t⟩]));first | exact ho | (rw [e1];exact ho) | (rw [List.append_assoc];exact ho) | (rw [List.append_assoc,e1];exact ho)
       have K7:Hid (Below u.heap.size u w7):=(KQ.out.alloc hsq _).grown hg (by simp;omega) (fun j hj=>(HOd.out.lt j hj).1);clear ho hg;go_wp2_with fail
       go_roundw
       case rel=>exact⟨t+1,F7,k+1,h7,by omega,rfl,by rw [HI.out],by go_num,by rw [HI.out];simp [HKL.out],by rw [HI.out];exact HO7.out,K7.out⟩
       case measure=>simp [intOf];omega
      ·have HI:Hid (XR x d0 (clE C R S (t+1))=(LT++ [⟨p,q,s⟩]++ [⟨C t,R t,S t⟩],true)):=by
        show _=_;rw [HRN.out,stC,HLA.out,HSM.out,if_pos hput,if_neg (by decide),HOR2.out hput,HXE.out,←HY.out]
       go_wp2_with (first
        | (at_builtin;refine QC rfl _ _ rfl u.heap.size (.slice A' k c) k LT rfl (HOc.out.alloc _) p q s wc.heap.size rfl (by simp [go_sem]) (by simp [go_sem]) (by simp [go_sem]) (by omega) (by simp;omega) ?_)
        | fail)
       intro va w6 ho hg;obtain⟨F6,h6,rfl,_,_⟩:=Qo ho;have hba:Below wc.heap.size wc (wc.alloc (.cells #[.int .i64 p,.int .i64 q,.string s] 37)):=(Below.refl _ _).alloc (Nat.le_refl _) _;have HO6:Hid (w6.ownsRow u.heap.size 37 3 (.slice F6 (k+1) h6) (k+1) (Za CL.cs (LT++ [⟨p,q,s⟩]))):=ho;have K6:Hid (Below u.heap.size u w6):=(KC.out.alloc hsc _).grown hg (by simp;omega) (fun j hj=>(HOc.out.lt j hj).1);have nB:some b≠(Value.slice A' k c).ownBlock:=fun e=>by have h8:=(HOc.out.lt _ e.symm).1;have h9:=HBL.out;have:=HUS.out;omega
       have nW:some w.heap.size≠(Value.slice A' k c).ownBlock:=fun e=>by have h8:=(HOc.out.lt _ e.symm).1;have:=HUS.out;omega
       replace c0:=hg.cell ((hba.cell (p:=⟨b,_,none⟩) hl2).trans c0) nB;replace c1:=hg.cell ((hba.cell (p:=⟨b,_,none⟩) hl2).trans c1) nB;replace c2:=hg.cell ((hba.cell (p:=⟨b,_,none⟩) hl2).trans c2) nB;replace y0:=hg.cell ((hba.cell (p:=⟨w.heap.size,0,none⟩) yz).trans y0) nW;replace y1:=hg.cell ((hba.cell (p:=⟨w.heap.size,1,none⟩) yz).trans y1) nW;have sz6:wc.heap.size≤w6.heap.size:=Nat.le_trans hba.size hg.size;replace hl2:b<w6.heap.size:=Nat.lt_of_lt_of_le hl2 sz6
       replace yz:w.heap.size<w6.heap.size:=Nat.lt_of_lt_of_le yz sz6;have hs6:u.heap.size≤w6.heap.size:=Nat.le_trans hsc sz6;clear ho hg hba;go_wp2_with fail
       go_quiet (fail)
       obtain⟨wq,HWQ⟩: ∃wq,Hid (w6.drewN nq=wq):=⟨_,rfl⟩;rw [HWQ.out];have hbq:Below w6.heap.size w6 wq:=by rw [←HWQ.out];exact below_drewN (Below.refl _ _) _
       replace c0:=(hbq.cell (p:=⟨b,_,none⟩) hl2).trans c0;replace c1:=(hbq.cell (p:=⟨b,_,none⟩) hl2).trans c1;replace c2:=(hbq.cell (p:=⟨b,_,none⟩) hl2).trans c2;have HOd:=hd (Qf HO6.out hbq);have KQ:Hid (Below u.heap.size u wq):=K6.out.trans (hbq.mono hs6);have hsq:u.heap.size≤wq.heap.size:=Nat.le_trans hs6 hbq.size;replace hl2:b<wq.heap.size:=Nat.lt_of_lt_of_le hl2 hbq.size
       clear hbq
       go_wp2_with (first
        | (at_builtin;refine QC rfl _ _ rfl u.heap.size (.slice F6 (k+1) h6) (k+1) (LT++ [⟨p,q,s⟩]) rfl (HOd.out.alloc _) (C t) (R t) (S t) wq.heap.size rfl (by simp [go_sem, *]) (by simp [go_sem, *]) (by simp [go_sem, *]) (by omega) (by simp;omega) ?_)
        | fail)
       intro va w7 ho hg;obtain⟨F7,h7,rfl,_,_⟩:=Qo ho
       have HO7:Hid (w7.ownsRow u.heap.size 37 3 (.slice F7 (k+1+1) h7) (k+1+1) (Za CL.cs (LT++ [⟨p,q,s⟩]++ [⟨C t,R t,S t⟩]))):=by
        show w7.ownsRow u.heap.size 37 3 (.slice F7 (k+1+1) h7) (k+1+1) (Za CL.cs (LT++ [⟨p,q,s⟩]++ [⟨C t,R t,S t⟩]));first | exact ho | (rw [e1];exact ho) | (rw [List.append_assoc];exact ho) | (rw [List.append_assoc,e1];exact ho)
       have K7:Hid (Below u.heap.size u w7):=(KQ.out.alloc hsq _).grown hg (by simp;omega) (fun j hj=>(HOd.out.lt j hj).1);clear ho hg;go_wp2_with fail
       go_roundw
       case rel=>exact⟨t+1,F7,k+1+1,h7,by omega,rfl,by rw [HI.out],by go_num,by rw [HI.out];simp [HKL.out],by rw [HI.out];exact HO7.out,K7.out⟩
       case measure=>simp [intOf];omega
  ·have h1: ¬(t:Int)<(n:Int):=by omega
   obtain rfl:n=t:=by omega
   have HXS:Hid (x.s.toList.isEmpty=d0):=by show _=_;rw [HX.out];exact HD0.out
   cases dn
   ·have HI:Hid (Qi6 x (clE C R S n)=LT++ [⟨p,q,s⟩]):=by show _=_;rw [Qi6,HXS.out,HLT.out,if_neg (fun e=>by cases e),HXE.out]
    go_wp2_with (first
     | (at_builtin;refine QC rfl _ _ rfl u.heap.size (.slice A' k c) k LT rfl (HOW.out.alloc _) p q s wr.heap.size rfl (by simp [go_sem]) (by simp [go_sem]) (by simp [go_sem]) (by omega) (by simp;omega) ?_)
     | fail)
    intro va w6 ho hg;obtain⟨F6,h6,rfl,_,_⟩:=Qo ho;have HO6:Hid (w6.ownsRow u.heap.size 37 3 (.slice F6 (k+1) h6) (k+1) (Za CL.cs (LT++ [⟨p,q,s⟩]))):=ho;have K6:Hid (Below u.heap.size u w6):=(KV.out.alloc hsv _).grown hg (by simp;omega) (fun j hj=>(HOW.out.lt j hj).1);clear ho hg;go_wp2_with fail
    go_ret;refine⟨F6,h6,k+1,rfl,by rw [HI.out];simp [HKL.out],?_,HBU.out.trans (K6.out.mono (by have:=HUS.out;omega))⟩;rw [HI.out];exact ownsRow_base_a HO6.out (by have:=HUS.out;omega)
   ·have HI:Hid (Qi6 x (clE C R S n)=LT):=by show _=_;rw [Qi6,HXS.out,HLT.out,if_pos rfl]
    go_wp2_with fail
    go_ret;refine⟨A',c,k,rfl,by rw [HI.out];exact HKL.out,?_,KA.out⟩;rw [HI.out];exact ownsRow_base_a HOW.out (by have:=HUS.out;omega)
theorem Qow {C R:Nat→Int} {S:Nat→ByteArray} {n:Nat} (h:XN C R n=true):(∀i,i<n→Qh (C i) (R i)=true)∧(clE C R S n).Pairwise (fun a b=>ltC a b=true):=by
 have hr: ∀i,i<n→QS C R i=true:=fun i hi=>List.all_eq_true.1 h i (List.mem_range.2 hi)
 have hs: ∀i,i+1<n→Yi (C i) (R i) (C (i+1)) (R (i+1))=true:=fun i hi=>by
  have h9:=hr (i+1) hi;simp only [QS,Bool.and_eq_true,Bool.or_eq_true,decide_eq_true_eq]at h9;rcases h9.2 with e | e
  ·omega
  ·exact e
 have ht: ∀i j,i<j→j<n→Yi (C i) (R i) (C j) (R j)=true:=fun i j=>by
  induction j with
  | zero=>intro hi;omega
  | succ j ih=>
   intro hi hj;have h1:=hs j hj;by_cases e:i=j
   ·subst e;exact h1
   ·have h2:=of_decide_eq_true (ih (by omega) (by omega));have h3:=of_decide_eq_true h1;exact decide_eq_true (by omega)
 refine⟨fun i hi=> ?_,?_⟩
 ·have h9:=hr i hi;simp only [QS,Bool.and_eq_true]at h9;exact h9.1
 ·rw [List.pairwise_iff_getElem];intro i j hi hj hij;rw [VU]at hi hj;simp only [clE,List.getElem_map,List.getElem_range];exact ht i j hij hj
theorem Qs9 {s t:ByteArray} (h:inF s=some t):t.size≤200:=by
 unfold inF at h;split at h
 ·unfold lim at h;split at h
  ·split at h
   ·cases h;assumption
   ·cases h
  ·cases h
 ·cases h
theorem MW {C R:Nat→Int} {S:Nat→ByteArray} {n:Nat} (h:Qx C R S n=true):n≤120∧(∀i,i<n→Qh (C i) (R i)=true)∧(clE C R S n).Pairwise (fun a b=>ltC a b=true):=by
 unfold Qx at h;simp only [Bool.and_eq_true,decide_eq_true_eq]at h;exact⟨h.1.1,Qow h.1.2⟩
end Go.Proofs.YtbdhinckiccniaaGreatDoor
