import Derived.Test.YthjldgbfgapbcaaGreatDoorGzeA
import Derived.Shelf.SlIter.Collect
import Derived.Sort.MapsRangeIn
import Derived.Test.YthjldgbfgapbcaaGreatDoorGzj
import Derived.Sort.Grow
set_option linter.unusedSimpArgs false
set_option linter.unusedVariables false
set_option maxHeartbeats 4000000
set_option maxRecDepth 100000
namespace Go.Proofs.YthjldgbfgapbcaaGreatDoor
open Go.RowKit Go.Maps Go.Sort Go.Shelf
structure CL where
 c:Int
 r:Int
 s:ByteArray
def CL.key (x:CL):Value:= .agg #[.int .i64 x.c,.int .i64 x.r]
def CL.enc (x:CL):Value:= .agg #[.int .i64 x.c,.int .i64 x.r,.string x.s]
structure CmD (D:DataW Value) (E:List CL):Prop where
 nd:E.Pairwise (fun x y=>x.key≠y.key)
 into: ∀x∈E,∃kl,keyOf Tryz.prog 38 x.key=some kl∧ ∀zd,D.atKey kl zd= .held x.enc
 back: ∀kl,Maps.has D kl=true→ ∃x∈E,keyOf Tryz.prog 38 x.key=some kl
def GotC (E:List CL) (left:Lit→Bool) (ss:List CL):Prop:=ss.Nodup∧ ∀x,x∈ss↔x∈E∧ ∃kl,keyOf Tryz.prog 38 x.key=some kl∧left kl=false
theorem GotC.start {D:DataW Value} {E:List CL} (h:CmD D E):GotC E (Maps.has D) []:=⟨List.nodup_nil,fun x=>by
 constructor
 ·intro hx;cases hx
 ·rintro⟨hx,kl,hk,hl⟩;obtain⟨kl2,hk2,hat⟩:=h.into x hx;rw [hk]at hk2;cases hk2
  rw [has_true_of_atKey hat]at hl;cases hl⟩
theorem CmD.one {D:DataW Value} {E:List CL} (h:CmD D E) {kl:Lit} {v:Value} (hat: ∀zd,D.atKey kl zd= .held v): ∃x∈E,v=x.enc∧keyOf Tryz.prog 38 x.key=some kl:=by
 obtain⟨x,hx,hk⟩:=h.back kl (has_true_of_atKey hat);obtain⟨kl2,hk2,hat2⟩:=h.into x hx;rw [hk]at hk2;cases hk2;have e:=(hat (.held v)).symm.trans (hat2 (.held v));exact⟨x,hx,by cases e;rfl,hk⟩
theorem GotC.step {D:DataW Value} {E:List CL} (hD:CmD D E) {left:Lit→Bool} {ss:List CL} (h:GotC E left ss) {x:CL} {kl:Lit} (hx:x∈E) (hk:keyOf Tryz.prog 38 x.key=some kl) (hlk:left kl=true):
  GotC E (fun z=>left z&& !z.sameKey kl) (ss++ [x]):=by
 have hnew:x∉ss:=fun hm=>by
  obtain⟨_,kl2,hk2,hl⟩:=(h.2 x).1 hm;rw [hk]at hk2;cases hk2;rw [hlk]at hl;cases hl
 refine⟨List.nodup_append.2 ⟨h.1,by simp,fun a ha b hb=>by simp at hb;subst hb;exact fun e=>hnew (e▸ha)⟩,fun y=> ?_⟩;rw [List.mem_append,List.mem_singleton,h.2 y];constructor
 ·rintro(⟨hy,kl2,hk2,hl⟩ | rfl)
  ·exact⟨hy,kl2,hk2,by simp [hl]⟩
  ·exact⟨hx,kl,hk,by simp [WideAt.sameKey_self (keyedRef.key hk)]⟩
 ·rintro⟨hy,kl2,hk2,hl⟩;by_cases e:kl2=kl
  ·subst e;refine .inr ?_;have e2:=keyedRef.inj hk2 hk;obtain⟨i,hi,e3⟩:=List.mem_iff_getElem.1 hx;obtain⟨j,hj,e4⟩:=List.mem_iff_getElem.1 hy;rcases Nat.lt_trichotomy i j with hij | hij | hij
   ·exact absurd (by rw [e3,e4];exact e2.symm) (List.pairwise_iff_getElem.1 hD.nd i j hi hj hij)
   ·subst hij;rw [←e3,←e4]
   ·exact absurd (by rw [e3,e4];exact e2) (List.pairwise_iff_getElem.1 hD.nd j i hj hi hij)
  ·refine .inl ⟨hy,kl2,hk2,?_⟩;cases hv:left kl2 with
   | false=>rfl
   | true=>
    exfalso
    simp [hv]at hl;exact e (WideAt.sameKey_eq hl)
theorem GotC.perm {D:DataW Value} {E:List CL} (hD:CmD D E) {left:Lit→Bool} {ss:List CL} (h:GotC E left ss) (hl: ∀kl,left kl=false):ss.Perm E:=by
 have hne:E.Nodup:=hD.nd.imp (fun h e=>h (by rw [e]));refine(List.perm_ext_iff_of_nodup h.1 hne).2 fun x=> ?_;rw [h.2 x];constructor
 ·exact fun h=>h.1
 ·intro hx;obtain⟨kl,hk,_⟩:=hD.into x hx;exact⟨hx,kl,hk,hl kl⟩
theorem Ql6 (n:Nat) (hn:1≤n) (l Bm b nn:Nat) (D0:DataW Value) (E:List CL) (hE:CmD D0 E) (J:List CL→World→Prop)
  (hY: ∀pre x W,J pre W→pre.length<Maps.size D0→YieldAt Fence.wide (n-1) Tryz.prog l #[CL.enc x] W fun e W'=>e= .returned (.bool true)∧J (pre++ [x]) W'∧KeepsWalks W W')
  (W:World) (hJ:AbidesFrom W.heap.size J) (hm:W.cell? ⟨Bm,0,none⟩=some (.map (some b))) (hown:W.ownsMap Tryz.prog 38 Zs b nn D0) (h0:J [] W):
  CallsIn Fence.wide n Tryz.prog 76 #[.func (.yield l) #[] #[],.pointer (some ⟨Bm,0,none⟩)] W fun e W'=>(∃v,e= .returned v)∧ ∃ss:List CL,ss.Perm E∧J ss W':=by
 have HM:Hid (W.cell? ⟨Bm,0,none⟩=some (.map (some b))):=hm;refine callsIn_of_wp Tryz.func76 rfl trivial ?_ rfl;simp only [Tryz.ntmps76,List.size_toArray,List.length_cons,List.length_nil,Nat.reduceAdd,Nat.reduceSub,Array.replicate_succ,Array.replicate_zero,List.push_toArray,List.append_toArray,List.nil_append,List.cons_append]
 gi_wp2_with (first
  | (gi_at_range;refine wpListIn_range_own _ rfl _ 61 rfl 38 49 keyedRef Tryz.underlying61 _ b nn _ rfl hown ?_;intro w0 hrg0 hg0 hs0)
  | gi_in)
 go_frame
 gi_loopw [4] (fun _ wr=> ∃(left:Lit→Bool) (cnt:Nat) (ss:List CL),wr.ranges Tryz.prog 38 Zs b W.heap.size nn D0 left cnt∧ss.length+cnt≤Maps.size D0∧GotC E left ss∧J ss wr)
  (fun _ wr=>wr.rangeLeft b W.heap.size)
 case atStart=>
  exact⟨_,_,[],hrg0,by simp,GotC.start hE,hJ [] W w0 none h0 hg0 (fun r e=>by cases e)⟩
 case round=>
  obtain⟨left,cnt,ss,hrg,hcs,hC,hJs⟩:=hrel
  gi_wp2_with (first
   | (gi_at_next;refine wpListIn_next_ranges (α:=Value) (β:=Value) _ rfl _ rfl 38 keyedRef Zs id id (fun key kl hk=>⟨key,rfl⟩) (fun v _ _=>⟨v,rfl⟩) b W.heap.size nn _ _ _ rfl hrg ?_ ?_)
   | gi_in)
  ·intro hc0 hl0;gi_wp2
   go_end0
   exact⟨⟨_,rfl⟩,ss,hC.perm hE hl0,hJs⟩
  ·intro x c kl yd yp w2 cnt2 hkey hlk hv hat hrg2 hlt hg2 hs2 hen;obtain⟨y,hy,rfl,hky⟩: ∃y∈E,c=y.enc∧keyOf Tryz.prog 38 y.key=some kl:=hE.one (v:=c) (fun zd=>by rw [hat zd];simp only [Zs,id]at hv;cases hv;rfl);have hJ2:J ss w2:=hJ ss wr w2 (some W.heap.size) hJs hg2 (fun r e=>by cases e;exact⟨Nat.le_refl _,hrg.iter_walk⟩);clear hs2 hm hown;obtain⟨yc,yr,ys⟩:=y;simp only [CL.enc,id]at hen hv ⊢;have hJ3:J ss (w2.alloc (.cells #[.int .i64 yc,.int .i64 yr,.string ys] 49)):=hJ ss w2 _ none hJ2 (World.grownBy_alloc _ _ none) (fun r e=>by cases e)
   obtain⟨fn,tmps,assign,body,hyy,hR⟩:=hY ss ⟨yc,yr,ys⟩ _ hJ3 (by omega);simp only [CL.enc]at hyy hR;gi_wp2
   refine hR.mono ?_;rintro e W3 ⟨rfl,hJ4,hk3⟩;gi_wp2
   have hrg3:=hrg2.of_walks ((KeepsWalks.alloc _ _).trans hk3);go_roundw
   case rel=>exact⟨_,cnt2,ss++ [_],hrg3,by simp;omega,hC.step hE hy hky hlk,hJ4⟩
   case measure=>rw [hrg3.left_eq,hrg.left_eq];exact hlt
theorem Dp (n:Nat) (hn:1≤n) (Bm b nn:Nat) (D0:DataW Value) (E:List CL) (hE:CmD D0 E) (w:World) (hBm:Bm<w.heap.size)
  (hm:w.cell? ⟨Bm,0,none⟩=some (.map (some b))) (hown:w.ownsMap Tryz.prog 38 Zs b nn D0):
  SeqGives Fence.wide n Tryz.prog 76 #[.pointer (some ⟨Bm,0,none⟩)] CL.enc (fun ss=>ss.Perm E) (Maps.size D0) w:=fun l J W hW hJ hY h0=>by
 have hown':W.ownsMap Tryz.prog 38 Zs b nn D0:=by
  have hbl:=hown.lt;obtain⟨es,clock,hb,Ft,hs,hD⟩:=hown;exact⟨es,clock,(hW.block b hbl).trans hb,Ft,hs,hD⟩
 exact Ql6 n hn l Bm b nn D0 E hE J hY W hJ ((hW.cell (p:=⟨Bm,0,none⟩) hBm).trans hm) hown' h0
theorem Qe4 (n:Nat) (mb:Option Nat) (w:World):
  CallsIn Fence.wide n Tryz.prog 56 #[.map mb] w fun e w'=>e= .returned (.func (.func 76) #[] #[.pointer (some ⟨w.heap.size,0,none⟩)])∧w'=w.alloc (.cells #[.map mb] 61):=by
 refine callsIn_of_wp Tryz.func56 rfl trivial ?_ rfl;simp only [Tryz.ntmps56,List.size_toArray,List.length_cons,List.length_nil,Nat.reduceAdd,Nat.reduceSub,Array.replicate_succ,Array.replicate_zero,List.push_toArray,List.append_toArray,List.nil_append,List.cons_append];gi_wp2
 go_ret;exact⟨rfl,rfl⟩
def CL.cs (x:CL):List Value:= [.int .i64 x.c,.int .i64 x.r,.string x.s]
theorem Qc3:24≠49:=by decide
def Np : Code := Code.region 2 #[{ dst := some 5, op := Op.alloc 49, type := 0, pos := "iter.go:51", after := #[], guard := none }, { dst := none, op := Op.store 49 (Operand.tmp 5) (Operand.tmp 7), type := 0, pos := "iter.go:51", after := #[{ on := 0, ground := Ground.data }, { on := 0, ground := Ground.phase }], guard := none }] false
def Qc5 : Code := Code.block 1 (Code.region 3 #[{ dst := some 8, op := Op.load 24 (Operand.tmp 2), type := 24, pos := "iter.go:52", after := #[], guard := none }, { dst := some 9, op := Op.load 49 (Operand.tmp 5), type := 49, pos := "iter.go:52", after := #[], guard := none }, { dst := some 10, op := Op.buildSlice 24 1 #[(0, Operand.tmp 9)], type := 24, pos := "iter.go:52", after := #[{ on := 1, ground := Ground.data }], guard := none }, { dst := some 11, op := Op.call { callee := Callee.builtin Builtin.append, args := #[Operand.tmp 8, Operand.tmp 10], argTypes := #[24, 24] }, type := 24, pos := "iter.go:52", after := #[{ on := 0, ground := Ground.data }, { on := 2, ground := Ground.data }], guard := none }, { dst := none, op := Op.store 24 (Operand.tmp 2) (Operand.tmp 11), type := 0, pos := "iter.go:52", after := #[{ on := 3, ground := Ground.data }, { on := 3, ground := Ground.chain }, { on := 0, ground := Ground.phase }, { on := 1, ground := Ground.phase }, { on := 2, ground := Ground.phase }, { on := 3, ground := Ground.phase }], guard := none }] false)
theorem Qr0 (W:World) (c r:Int) (s:ByteArray): ∀j u,[Value.int .i64 c,.int .i64 r,.string s][j]? =some u→(W.alloc (.cells #[.int .i64 c,.int .i64 r,.string s] 49)).cell? ((⟨W.heap.size,0,none⟩:Addr).add j)=some u:=fun j u hu=>by
 match j,hu with
 | 0,hu=>cases hu;simp [Addr.add]
 | 1,hu=>cases hu;simp [Addr.add]
 | 2,hu=>cases hu;simp [Addr.add]
def VF (fn:FuncId) (sv:Value) (Bs D:Nat) (st:LoopState) (pend:Option Code):Loop:=
 {state:=st,pending:=pend,fn,tmps:= #[.slice none 0 0,sv,.pointer (some ⟨Bs,0,none⟩),undef,.slice none 0 0,undef,sv,undef,undef,undef,undef,undef,undef],params:= #[7],assign:=Np,body:=Qc5,defers:=D}
structure CaAt (w0:World) (fn:FuncId) (sv:Value) (Bs l D:Nat) (ss:List CL) (W:World):Prop where
 box: ∃v,W.heap[Bs]? =some (.cells #[v] 24 (0,0))∧W.ownsRow w0.heap.size 49 3 v ss.length (ss.flatMap CL.cs)
 L:W.heap[l]? =some (.loop (VF fn sv Bs D .ready none))
 K:W.heap[D]? =some (.deferred (some []))
 below:Below w0.heap.size w0 W
theorem Qgz (w0:World) (fn:FuncId) (sv:Value) (Bs l D B:Nat) (hB:w0.heap.size≤B):AbidesFrom B (CaAt w0 fn sv Bs l D):=fun s W W' row h hg hrow=>by
 have hrow': ∀r,row=some r→ ∃o:Obj,W.heap[r]? =some o∧o.isWalk=true:=fun r e=>(hrow r e).2;obtain⟨v,hv,hr⟩:=h.box
 exact⟨⟨v,(grownBy_keeps hg hrow' hv rfl).trans hv,ownsRow_abides_a hr hg hrow'⟩,(grownBy_keeps hg hrow' h.L rfl).trans h.L,(grownBy_keeps hg hrow' h.K rfl).trans h.K,
  h.below.grown hg h.below.size (fun k e=>Nat.le_trans hB (hrow k e).1)⟩
theorem Qph (m : Nat) (w0 : World) (fn : FuncId) (sv : Value) (Bs l D : Nat) (hBl : Bs ≠ l) (hDl : D ≠ l) (hDB : D ≠ Bs) (h0B : w0.heap.size ≤ Bs) (h0l : w0.heap.size ≤ l)
    (N : Nat) (hN : N ≤ 10000) (ss : List CL) (x : CL) (W : World) (h : CaAt w0 fn sv Bs l D ss W) (hlen : ss.length < N) :
    YieldAt Fence.wide m Tryz.prog l #[CL.enc x] W fun e W' => e = .returned (.bool true) ∧ CaAt w0 fn sv Bs l D (ss ++ [x]) W' ∧ KeepsWalks W W' := by
  have hne := Qc3;obtain ⟨i0, hi, hz0, hz1, hz2⟩ := info_parts NM;obtain ⟨v, hv, hrow⟩ := h.box;obtain ⟨xc, xr, xs⟩ := x;simp only [CL.enc];refine ⟨fn, #[.slice none 0 0, sv, .pointer (some ⟨Bs, 0, none⟩), undef, .slice none 0 0, undef, sv, .agg #[.int .i64 xc, .int .i64 xr, .string xs], undef, undef, undef, undef, undef], Np, Qc5, by simpa [VF] using run_yield (P := Tryz.prog) (args := #[.agg #[.int .i64 xc, .int .i64 xr, .string xs]]) h.L rfl, roundIn_of_wpIn trivial ?_⟩;have hl : l < W.heap.size := (Array.getElem?_eq_some_iff.1 h.L).1
  have hBW : Bs < W.heap.size := (Array.getElem?_eq_some_iff.1 hv).1;have hDW : D < W.heap.size := (Array.getElem?_eq_some_iff.1 h.K).1;obtain ⟨Wa, hWa⟩ : ∃ Wa, W.alloc (.cells #[.int .i64 xc, .int .i64 xr, .string xs] 49) = Wa := ⟨_, rfl⟩;have hva : Wa.heap[Bs]? = some (.cells #[v] 24 (0, 0)) := by rw [← hWa]; exact (Below.heap_alloc _ _ Bs hBW).trans hv
  have hLa : Wa.heap[l]? = some (.loop (VF fn sv Bs D .ready none)) := by rw [← hWa]; exact (Below.heap_alloc _ _ l hl).trans h.L
  have hKa : Wa.heap[D]? = some (.deferred (some [])) := by rw [← hWa]; exact (Below.heap_alloc _ _ D hDW).trans h.K
  have hra : Wa.ownsRow w0.heap.size 49 3 v ss.length (ss.flatMap CL.cs) := by rw [← hWa]; exact hrow.alloc _
  have hba : Below w0.heap.size w0 Wa := by rw [← hWa]; exact h.below.alloc h.below.size _
  have hka : KeepsWalks W Wa := by rw [← hWa]; exact KeepsWalks.alloc _ _
  have hxa : Wa.heap[W.heap.size]? = some (.cells #[.int .i64 xc, .int .i64 xr, .string xs] 49 (0, 0)) := by rw [← hWa]; exact World.alloc_heap_new W _
  have hbr := run_beginRound (P := Tryz.prog) hLa rfl;obtain ⟨W2, hW2⟩ : ∃ W2, Wa.putObj l (.loop { VF fn sv Bs D .ready none with state := .busy }) = W2 := ⟨_, rfl⟩;rw [hW2] at hbr;have hg2 : Wa.grownBy W2 (some l) := by rw [← hW2]; exact grownBy_putObj_a _ _ _
  have hk2 : KeepsWalks Wa W2 := by rw [← hW2]; exact KeepsWalks.putObj _ hLa rfl
  have hv2 : W2.heap[Bs]? = some (.cells #[v] 24 (0, 0)) := by rw [← hW2]; exact (World.putObj_heap_other hBl).trans hva
  have hx2 : W2.heap[W.heap.size]? = some (.cells #[.int .i64 xc, .int .i64 xr, .string xs] 49 (0, 0)) := by rw [← hW2]; exact (World.putObj_heap_other (by omega)).trans hxa
  have hK2 : W2.heap[D]? = some (.deferred (some [])) := by rw [← hW2]; exact (World.putObj_heap_other hDl).trans hKa
  have hL2 : W2.heap[l]? = some (.loop { VF fn sv Bs D .ready none with state := .busy }) := by rw [← hW2]; exact World.putObj_heap_same (by rw [← hWa]; simp; omega)
  have hrow2 : W2.ownsRow w0.heap.size 49 3 v ss.length (ss.flatMap CL.cs) := hra.kept hg2 (ownsRow_ne_a hra hLa (fun cur e => by cases e));have hb2 : Below w0.heap.size w0 W2 := hba.grown hg2 hba.size (fun k e => by cases e; exact h0l);have hBlt : Bs < W2.heap.size := (Array.getElem?_eq_some_iff.1 hv2).1;have hl2 : l < W2.heap.size := (Array.getElem?_eq_some_iff.1 hL2).1;have hDlt : D < W2.heap.size := (Array.getElem?_eq_some_iff.1 hK2).1;have hxlt : W.heap.size < W2.heap.size := (Array.getElem?_eq_some_iff.1 hx2).1;obtain ⟨hc2, hf2⟩ := cell_of_box_a hv2
  have hc0 : W2.cell? ⟨W.heap.size, 0, none⟩ = some (.int .i64 xc) := by simp [World.cell?, hx2]
  have hc1 : W2.cell? ⟨W.heap.size, 1, none⟩ = some (.int .i64 xr) := by simp [World.cell?, hx2]
  have hc3 : W2.cell? ⟨W.heap.size, 2, none⟩ = some (.string xs) := by simp [World.cell?, hx2]
  have ne_of : ∀ {j : Nat} {o : Obj}, W2.heap[j]? = some o → (∀ cur, o ≠ .cells cur 49 (0, 0)) → some j ≠ v.ownBlock := fun hj hno => by
    rcases ownsRow_ne_a hrow2 hj hno with e | e
    · rw [e]; simp
    · exact fun e' => e e'.symm
  clear hW2;unfold Np;gi_wp2_with gi_round_op_a
  unfold Qc5
  gi_wp2_with (first
    | (gi_at_builtin
       refine wpListIn_append_own _ rfl _ _ 24 rfl w0.heap.size 49 i0 (.agg #[.int .i64 0, .int .i64 0, .string ⟨#[]⟩]) 3 32 Tryz.underlying24 hi hz0 hz1 hz2 rfl (by decide) _ _ _ rfl (hrow2.alloc _) ⟨W2.heap.size, 0, none⟩ 1 1 [.int .i64 xc, .int .i64 xr, .string xs] rfl rfl ?c1 ?c2 ?c3 ?c4 ?c5 ?_
       case c1 => exact Qr0 _ _ _ _
       case c2 => simp [Value.oneCell']
       case c3 => unfold maxLen; omega
       case c4 => omega
       case c5 => have := hb2.size; simp; omega
       intro v' w3 hown' hg3 hnil3;have hv3 : w3.heap[Bs]? = some (.cells #[v] 24 (0, 0)) := (hg3.block Bs (by simp; omega) (ne_of hv2 (fun cur e => hne (Obj.cells.inj e).2.1))).trans ((Below.heap_alloc _ _ Bs hBlt).trans hv2);obtain ⟨hcb3, hfb3⟩ := cell_of_box_a hv3
       obtain ⟨g', cap', cur', rfl, hbase', hgb', hr1, hr2, hr3, hr4⟩ : ∃ g' cap' cur', v' = .slice (some ⟨g', 0, none⟩) (ss.length + 1) cap' ∧ w0.heap.size ≤ g' ∧ w3.heap[g']? = some (.cells cur' 49 (0, 0)) ∧ ss.length + 1 ≤ cap' ∧ cap' ≤ maxLen ∧ cur'.size = cap' * 3 ∧ cur'.toList.take ((ss.length + 1) * 3) = ss.flatMap CL.cs ++ [.int .i64 xc, .int .i64 xr, .string xs] := by
         rcases hown'.2 with ⟨_, h0⟩ | h'
         · exact absurd h0 (by omega)
         · exact h'
       go_frame)
    | gi_round_op_a)
  have hL3 : w3.heap[l]? = some (.loop { VF fn sv Bs D .ready none with state := .busy }) := (hg3.block l (by simp; omega) (ne_of hL2 (fun cur e => by cases e))).trans ((Below.heap_alloc _ _ l hl2).trans hL2);have hK3 : w3.heap[D]? = some (.deferred (some [])) := (hg3.block D (by simp; omega) (ne_of hK2 (fun cur e => by cases e))).trans ((Below.heap_alloc _ _ D hDlt).trans hK2);obtain ⟨w4, hw4⟩ : ∃ w4, w3.setCell ⟨Bs, 0, none⟩ (.slice (some ⟨g', 0, none⟩) (ss.length + 1) cap') = w4 := ⟨_, rfl⟩;rw [hw4];have hg4 : w3.grownBy w4 (some Bs) := by rw [← hw4]; exact grownBy_setCell0_a _ _ _
  have hv4 : w4.heap[Bs]? = some (.cells #[.slice (some ⟨g', 0, none⟩) (ss.length + 1) cap'] 24 (0, 0)) := by rw [← hw4]; exact heap_setCell_box_a _ hv3
  have hL4 : w4.heap[l]? = some (.loop { VF fn sv Bs D .ready none with state := .busy }) := (hg4.block l (Array.getElem?_eq_some_iff.1 hL3).1 (fun e => hBl (by cases e; rfl))).trans hL3;have hK4 : w4.heap[D]? = some (.deferred (some [])) := (hg4.block D (Array.getElem?_eq_some_iff.1 hK3).1 (fun e => hDB (by cases e; rfl))).trans hK3;have hrow4 := hown'.kept hg4 (ownsRow_ne_a hown' hv3 (fun cur e => hne (Obj.cells.inj e).2.1));have hl4 : l < w4.heap.size := (Array.getElem?_eq_some_iff.1 hL4).1;have hb3 : Below w0.heap.size w0 w3 := (hb2.alloc hb2.size _).grown hg3 (by have := hb2.size; simp; omega) (fun k e => (hrow2.lt k e).1);have hb4 : Below w0.heap.size w0 w4 := hb3.grown hg4 hb3.size (fun k e => by cases e; exact h0B);have hk4 : KeepsWalks W w4 := (((hka.trans hk2).trans (KeepsWalks.alloc _ _)).trans (KeepsWalks.of_grownBy hg3 (ownsRow_not_walk_a (hrow2.alloc _)))).trans (by rw [← hw4]; exact KeepsWalks.setCell _ _ _)
  clear hw4;refine ⟨_, _, run_endRound none hL4, rfl, ⟨⟨_, (World.putObj_heap_other hBl).trans hv4, ?_⟩, World.putObj_heap_same hl4, (World.putObj_heap_other hDl).trans hK4, hb4.grown (grownBy_putObj_a _ _ _) hb4.size (fun k e => by cases e; exact h0l)⟩, hk4.trans (KeepsWalks.putObj _ hL4 rfl)⟩;have := hrow4.kept (grownBy_putObj_a w4 l (.loop { { VF fn sv Bs D .ready none with state := .busy } with state := if (none : Option Code).isNone then .ready else .done, pending := none })) (ownsRow_ne_a hrow4 hL4 (fun cur e => by cases e));simpa [CL.cs, List.flatMap_append] using this
theorem DJ (n : Nat) (hn : 2 ≤ n) (g : Nat) (lb : Array Value) (eg : ∀ args w, (callFunc g args).run Tryz.prog w = .ok (.enter g args) w)
    (S : List CL → Prop) (N : Nat) (hN : N ≤ 10000) (w : World) (hseq : SeqGives Fence.wide (n - 1) Tryz.prog g lb CL.enc S N w) :
    CallsIn Fence.wide n Tryz.prog 97 #[.slice none 0 0, .func (.func g) #[] lb] w fun e w' => ∃ (v : Value) (ss : List CL), e = .returned v ∧ S ss ∧ w'.ownsRow w.heap.size 49 3 v ss.length (ss.flatMap CL.cs) ∧ Below w.heap.size w w' := by
  have h1 : 1 ≤ n := by omega
  have hne := Qc3;refine callsIn_of_wp_marks Tryz.func97 rfl trivial ?_ rfl;simp only [Tryz.ntmps97, List.size_toArray, List.length_cons, List.length_nil, Nat.reduceAdd, Nat.reduceSub, Array.replicate_succ, Array.replicate_zero, List.push_toArray, List.append_toArray, List.nil_append, List.cons_append];gi_wp2
  refine wpIn_rangeFunc ?_;intro fn hfn;show ∃ _, _;obtain ⟨W0, hW0⟩ : ∃ W0, w.alloc (.cells #[.slice none 0 0] 24) = W0 := ⟨_, rfl⟩;have hs0 : W0.heap.size = w.heap.size + 1 := by rw [← hW0]; simp
  have hv0 : W0.heap[w.heap.size]? = some (.cells #[.slice none 0 0] 24 (0, 0)) := by rw [← hW0]; exact World.alloc_heap_new w _
  have hb0 : Below w.heap.size w W0 := by rw [← hW0]; exact (Below.refl _ w).alloc (Nat.le_refl _) _
  rw [hW0];obtain ⟨W1, hW1⟩ : ∃ W1, (W0.alloc (.deferred (some []))).alloc (.loop (VF fn (.func (.func g) #[] lb) w.heap.size W0.heap.size .ready none)) = W1 := ⟨_, rfl⟩
  have hold : ∀ k, k < W0.heap.size → W1.heap[k]? = W0.heap[k]? := fun k hk => by
    rw [← hW1]; exact (Below.heap_alloc _ _ k (by simp; omega)).trans (Below.heap_alloc _ _ k hk)
  have hb1 : Below w.heap.size w W1 := by rw [← hW1]; exact (hb0.alloc hb0.size _).alloc (by have := hb0.size; simp; omega) _
  have hs1 : W1.heap.size = W0.heap.size + 2 := by rw [← hW1]; simp
  have hM : CaAt w fn (.func (.func g) #[] lb) w.heap.size (W0.heap.size + 1) W0.heap.size [] W1 :=
    ⟨⟨_, (hold w.heap.size (by omega)).trans hv0, ⟨rfl, .inl ⟨rfl, rfl⟩⟩⟩,
     by rw [← hW1]; have := World.alloc_heap_new (W0.alloc (.deferred (some []))) (.loop (VF fn (.func (.func g) #[] lb) w.heap.size W0.heap.size .ready none)); rwa [World.size_alloc] at this,
     by rw [← hW1]; exact (Below.heap_alloc _ _ _ (by simp)).trans (World.alloc_heap_new W0 _), hb1⟩
  refine ⟨W0.heap.size + 1, [{ target := .collected W0.heap.size, args := #[] }], W1, { target := .fn (.func g) lb, args := #[.func (.yield (W0.heap.size + 1)) #[] #[]] }, W1, g,
    #[.func (.yield (W0.heap.size + 1)) #[] #[]] ++ lb, W1, ?_, ?_, ?_, ?_, fun _ => h1, ?_⟩
  · rw [← hW1]; exact run_enterLoop_outer _ _ _ _ _
  · simp [resolve, go_sem]
  · intro f' hf'; trivial
  · simp [invoke, go_sem, eg]
  · refine (hseq (W0.heap.size + 1) (CaAt w fn (.func (.func g) #[] lb) w.heap.size (W0.heap.size + 1) W0.heap.size) W1 hb1 (Qgz _ _ _ _ _ _ _ hb1.size)
      (fun pre x W hJ hl => Qph (n - 1 - 1) w fn _ w.heap.size (W0.heap.size + 1) W0.heap.size (by omega) (by omega) (by omega) (Nat.le_refl _) (by omega) N hN pre x W hJ hl) hM).mono ?_
    rintro e W2 ⟨⟨v0, rfl⟩, ss, hS, h2⟩;obtain ⟨v, hv, hrow⟩ := h2.box;have hend := run_endLoop (P := Tryz.prog) h2.L (by simp [VF]);obtain ⟨W3, hW3⟩ : ∃ W3, W2.putObj (W0.heap.size + 1) (.loop { VF fn (.func (.func g) #[] lb) w.heap.size W0.heap.size .ready none with state := .exhausted }) = W3 := ⟨_, rfl⟩;rw [hW3] at hend;have hg3 : W2.grownBy W3 (some (W0.heap.size + 1)) := by rw [← hW3]; exact grownBy_putObj_a _ _ _
    have hv3 : W3.heap[w.heap.size]? = some (.cells #[v] 24 (0, 0)) := by rw [← hW3]; exact (World.putObj_heap_other (by omega)).trans hv
    have hK3 : W3.heap[W0.heap.size]? = some (.deferred (some [])) := by rw [← hW3]; exact (World.putObj_heap_other (by omega)).trans h2.K
    have hrow3 := hrow.kept hg3 (ownsRow_ne_a hrow h2.L (fun cur e => by cases e));have hb3 : Below w.heap.size w W3 := h2.below.grown hg3 h2.below.size (fun k e => by cases e; omega);obtain ⟨hc3, hf3⟩ := cell_of_box_a hv3;clear hW3;refine ⟨none, W3, hend, ?_⟩;gi_wp2
    rw [← hs0];refine ⟨by simp, .inl ⟨_, _, rfl, run_takeDeferred hK3, ?_⟩⟩;exact ⟨_, results_tmp rfl _ _ _, v, ss, rfl, hS, hrow3.kept (grownBy_putObj_a _ _ _) (ownsRow_ne_a hrow3 hK3 (fun cur e => by cases e)), hb3.grown (grownBy_putObj_a _ _ _) hb3.size (fun k e => by cases e; omega)⟩
theorem Qcq (n:Nat) (hn:3≤n) (g:Nat) (lb:Array Value) (eg: ∀args w,(callFunc g args).run Tryz.prog w= .ok (.enter g args) w)
  (S:List CL→Prop) (N:Nat) (hN:N≤10000) (w:World) (hseq:SeqGives Fence.wide (n-1-1) Tryz.prog g lb CL.enc S N w):
  CallsIn Fence.wide n Tryz.prog 74 #[.func (.func g) #[] lb] w fun e w'=> ∃(v:Value) (ss:List CL),e= .returned v∧S ss∧w'.ownsRow w.heap.size 49 3 v ss.length (ss.flatMap CL.cs)∧Below w.heap.size w w':=by
 have h1:1≤n:=by omega
 have F11:Fence.wide.fn 97:=trivial;have e11: ∀args w,(callFunc 97 args).run Tryz.prog w= .ok (.enter 97 args) w:=enters_of Tryz.func97 (by kernel_rfl) rfl;refine callsIn_of_wp Tryz.func74 rfl trivial ?_ rfl;simp only [Tryz.ntmps74,List.size_toArray,List.length_cons,List.length_nil,Nat.reduceAdd,Nat.reduceSub,Array.replicate_succ,Array.replicate_zero,List.push_toArray,List.append_toArray,List.nil_append,List.cons_append];gi_wp2_with (gi_at_fn 97;refine(DJ (n-1) (by omega) g lb eg S N hN _ hseq).mono ?_;rintro e w' ⟨v,ss,rfl,hS,hrow,hb⟩)
 go_ret;exact⟨v,ss,rfl,hS,hrow,hb⟩
end Go.Proofs.YthjldgbfgapbcaaGreatDoor
namespace Go.Proofs.YthjldgbfgapbcaaGreatDoor
open Go.RowKit Go.Maps
def Grw (X W:World):Prop:= ∃q os,W=Go.Sort.grow (X.drewN q) os
theorem Qcj (w:World) (n:Nat):(w.drewN n).drew=w.drewN (n+1):=rfl
theorem Grw.refl (X:World):Grw X X:=⟨0,#[],by rw [Go.Sort.grow_empty];rfl⟩
theorem Grw.alloc {X W:World} (h:Grw X W) (o:Obj):Grw X (W.alloc o):=by
 obtain⟨q,os,rfl⟩:=h;exact⟨q,os++ #[o],by rw [Go.Sort.alloc_eq_grow,Go.Sort.grow_grow]⟩
theorem Grw.drew {X W:World} (h:Grw X W):Grw X W.drew:=by
 obtain⟨q,os,rfl⟩:=h;exact⟨q+1,os,by rw [Go.Sort.drew_grow,Qcj]⟩
theorem Grw.under {X W:World} {o:Obj} (h:Grw (X.alloc o) W):Grw X W:=by
 obtain⟨q,os,rfl⟩:=h;exact⟨q,#[o]++os,by rw [Go.Sort.alloc_eq_grow,←Go.Sort.grow_grow];rfl⟩
theorem Qsq {B:Nat} {X W:World} (hs:B≤X.heap.size) (h:Below B X W) (hg:Grw X W):(∀bq oq,bq<B→W.cell? ⟨bq,oq,none⟩=X.cell? ⟨bq,oq,none⟩)∧B≤W.heap.size∧Below B X W∧Grw X W:=⟨fun b o hb=>h.cell (p:=⟨b,o,none⟩) hb,Nat.le_trans hs h.size,h,hg⟩
theorem UD (c r c' r':Int) (w:World):Calls Tryz.prog 58 #[.agg #[.int .i64 c,.int .i64 r],.agg #[.int .i64 c',.int .i64 r']] w fun e w'=>
  e= .returned (.int .i64 (Qck c r c' r'))∧Grw w w':=by
 go_enter Tryz.func58,Tryz.ntmps58;go_wp2_with fail
 go_region_held3 (fun w'=>(∀bq oq,bq<w.heap.size+2→w'.cell? ⟨bq,oq,none⟩=((w.alloc (.cells #[.int .i64 c,.int .i64 r] 38)).alloc (.cells #[.int .i64 c',.int .i64 r'] 38)).cell? ⟨bq,oq,none⟩)∧w.heap.size+2≤w'.heap.size∧Below (w.heap.size+2) ((w.alloc (.cells #[.int .i64 c,.int .i64 r] 38)).alloc (.cells #[.int .i64 c',.int .i64 r'] 38)) w'∧Grw ((w.alloc (.cells #[.int .i64 c,.int .i64 r] 38)).alloc (.cells #[.int .i64 c',.int .i64 r'] 38)) w')
  (exact Qsq (by go_size) (by go_grown) (by repeat (first | assumption | with_reducible exact Grw.refl _ | apply Grw.alloc | apply Grw.drew)))
  (first
  | (go_at_call 78;refine(Qem _ _ _).mono ?_;rintro e w1 ⟨rfl,rfl⟩)
  | (go_at_call 77;refine(Qel (sgn r r') (sgn c c') _ _ ?_ ?_).mono ?_;(focus (go_simp;done));(focus (go_simp;done));rintro e w1 ⟨rfl,rfl⟩))
 all_goals go_wp2_with fail
 all_goals
  go_ret;exact⟨rfl,Grw.under (Grw.under (by repeat (first | assumption | with_reducible exact Grw.refl _ | apply Grw.alloc | apply Grw.drew)))⟩
end Go.Proofs.YthjldgbfgapbcaaGreatDoor
