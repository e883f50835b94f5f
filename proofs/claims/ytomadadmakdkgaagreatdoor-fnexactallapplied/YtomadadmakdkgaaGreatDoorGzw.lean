import Derived.Test.YtomadadmakdkgaaGreatDoorMn
import Derived.Test.YtomadadmakdkgaaGreatDoorGzs
import Derived.Shelf.SlIter.Collect
import Derived.Sort.MapsRangeIn
import Derived.Test.YtomadadmakdkgaaGreatDoorGzj
import Derived.Sort.Grow
import Derived.Test.YtomadadmakdkgaaGreatDoorShelfC
import Derived.Shelf.SlSortCmp.WholeK
import Derived.Shelf.SlSortCmp.NoneTotal
import Derived.Test.YtomadadmakdkgaaGreatDoorGzeA
import Derived.Test.YtomadadmakdkgaaGreatDoorGze
open Go.Proofs.Tryz
open Go.Value renaming int → f, slice → H, string → I, agg → jh, tuple → ji, bool → jj
open Go.IntKind renaming i64 → F
open Array renaming getElem?_eq_some_iff → G, replicate_succ → Y, replicate_zero → Z
open Go.Obj renaming cells → O
open Go.Ending renaming returned → T
open Go.Operand renaming tmp → U
open Go renaming below_drewN → V, undef → ja, DataW → jd, KeepsWalks → jg
open Go.Sort renaming putRowK → jb, putCells → jc
open Go.Ground renaming phase → je, data → jf
set_option linter.unusedSimpArgs false
set_option linter.unusedVariables false
set_option maxHeartbeats 8000000
set_option maxRecDepth 100000
namespace Go.Proofs.YtomadadmakdkgaaGreatDoor
open Go.RowKit Go.Maps Go.Sort Go.Shelf
structure CL where
 c:Int
 r:Int
 s:ByteArray
def CL.key(x:CL):Value:= jh #[f F x.c,f F x.r]
def CL.enc(x:CL):Value:= jh #[f F x.c,f F x.r,I x.s]
structure CmD (D:jd Value) (E:List CL):Prop where
 nd:E.Pairwise (fun x y=>x.key≠y.key)
 into: ∀x∈E,∃kl,keyOf prog 26 x.key=some kl/\ ∀zd,D.atKey kl zd= .held x.enc
 back: ∀kl,Maps.has D kl=true-> ∃x∈E,keyOf prog 26 x.key=some kl
def GotC(E:List CL)(left:Lit->Bool)(ss:List CL):Prop:=ss.Nodup/\ ∀x,x∈ss↔x∈E/\ ∃kl,keyOf prog 26 x.key=some kl/\left kl=false
theorem GotC.start{D:jd Value}{E:List CL}(h:CmD D E):GotC E (Maps.has D) []:=⟨List.nodup_nil,fun x=>by
 constructor
 ·intro hx;cases hx
 ·rintro⟨hx,kl,hk,hl⟩;obtain⟨kl2,hk2,hat⟩:=h.into x hx;rw[hk]at hk2;cases hk2
  rw[has_true_of_atKey hat]at hl;cases hl⟩
theorem CmD.one{D:jd Value}{E:List CL}(h:CmD D E){kl:Lit}{v:Value}(hat: ∀zd,D.atKey kl zd= .held v): ∃x∈E,v=x.enc/\keyOf prog 26 x.key=some kl:=by
 obtain⟨x,hx,hk⟩:=h.back kl (has_true_of_atKey hat);obtain⟨kl2,h1,h0⟩:=h.into x hx;rw[hk]at h1;cases h1;have e:=(hat (.held v)).symm.trans (h0 (.held v));exact⟨x,hx,by cases e;rfl,hk⟩
theorem GotC.step{D:jd Value}{E:List CL}(hD:CmD D E){left:Lit->Bool}{ss:List CL}(h:GotC E left ss){x:CL}{kl:Lit}(hx:x∈E)(hk:keyOf prog 26 x.key=some kl)(hlk:left kl=true):
  GotC E (fun z=>left z&& !z.sameKey kl) (ss++ [x]):=by
 have h2:x∉ss:=fun hm=>by
  obtain⟨_,h1,h0,hl⟩:=(h.2 x).1 hm;rw[hk]at h0;cases h0;rw[hlk]at hl;cases hl
 refine⟨List.nodup_append.2 ⟨h.1,by simp,fun a ha b hb=>by simp at hb;subst hb;exact fun e=>h2 (e▸ha)⟩,fun y=> ?_⟩;rw[List.mem_append,List.mem_singleton,h.2 y];constructor
 ·rintro(⟨hy,h1,h0,hl⟩ | rfl)
  ·exact⟨hy,h1,h0,by simp[hl]⟩
  ·exact⟨hx,kl,hk,by simp[WideAt.sameKey_self (keyedRef.key hk)]⟩
 ·rintro⟨hy,h1,h0,hl⟩;by_cases e:h1=kl
  ·subst e;refine .inr ?_;have e2:=keyedRef.inj h0 hk;obtain⟨i,hi,e3⟩:=List.mem_iff_getElem.1 hx;obtain⟨j,hj,e4⟩:=List.mem_iff_getElem.1 hy;rcases Nat.lt_trichotomy i j with hij | hij | hij
   ·exact absurd (by rw[e3,e4];exact e2.symm) (List.pairwise_iff_getElem.1 hD.nd i j hi hj hij)
   ·subst hij;rw[<-e3,<-e4]
   ·exact absurd (by rw[e3,e4];exact e2) (List.pairwise_iff_getElem.1 hD.nd j i hj hi hij)
  ·refine .inl ⟨hy,h1,h0,?_⟩;cases hv:left h1 with
   | false=>rfl
   | true=>
    exfalso
    simp[hv]at hl;exact e (WideAt.sameKey_eq hl)
theorem GotC.perm{D:jd Value}{E:List CL}(hD:CmD D E){left:Lit->Bool}{ss:List CL}(h:GotC E left ss)(hl: ∀kl,left kl=false):ss.Perm E:=by
 have h0:E.Nodup:=hD.nd.imp (fun h e=>h (by rw[e]));refine(List.perm_ext_iff_of_nodup h.1 h0).2 fun x=> ?_;rw[h.2 x];constructor
 ·exact fun h=>h.1
 ·intro hx;obtain⟨kl,hk,_⟩:=hD.into x hx;exact⟨hx,kl,hk,hl kl⟩
theorem Qo5(n:Nat)(hn:1<=n)(l Bm b nn:Nat)(D0:jd Value)(E:List CL)(hE:CmD D0 E)(J:List CL->World->Prop)
  (hY: ∀pre x W,J pre W->pre.length<Maps.size D0->YieldAt Fence.wide (n-1) prog l #[CL.enc x] W fun e W'=>e= T (jj true)/\J (pre++ [x]) W'/\jg W W')
  (W:World) (hJ:AbidesFrom W.heap.size J) (hm:W.cell? ⟨Bm,0,none⟩=some (.map (some b))) (hown:W.ownsMap prog 26 YM b nn D0) (h0:J [] W):
  CallsIn Fence.wide n prog 130 #[.func (.yield l) #[] #[],.pointer (some ⟨Bm,0,none⟩)] W fun e W'=>(∃v,e= T v)/\ ∃ss:List CL,ss.Perm E/\J ss W':=by
 have HM:Hid (W.cell? ⟨Bm,0,none⟩=some (.map (some b))):=hm;refine callsIn_of_wp func130 rfl trivial ?_ rfl;simp only[ntmps130,List.size_toArray,List.length_cons,List.length_nil,Nat.reduceAdd,Nat.reduceSub,Y,Z,List.push_toArray,List.append_toArray,List.nil_append,List.cons_append]
 gi_wp2_with (first
  | (gi_at_range;refine wpListIn_range_own _ rfl _ 90 rfl 26 70 keyedRef underlying90 _ b nn _ rfl hown ?_;intro w0 hrg0 hg0 hs0)
  | gi_in)
 go_frame
 gi_loopw [4] (fun _ wr=> ∃(left:Lit->Bool) (h3:Nat) (ss:List CL),wr.ranges prog 26 YM b W.heap.size nn D0 left h3/\ss.length+h3<=Maps.size D0/\GotC E left ss/\J ss wr)
  (fun _ wr=>wr.rangeLeft b W.heap.size)
 case atStart=>
  exact⟨_,_,[],hrg0,by simp,GotC.start hE,hJ [] W w0 none h0 hg0 (fun r e=>by cases e)⟩
 case round=>
  obtain⟨left,h3,ss,h2,hcs,hC,h4⟩:=hrel
  gi_wp2_with (first
   | (gi_at_next;refine wpListIn_next_ranges (α:=Value) (β:=Value) _ rfl _ rfl 26 keyedRef YM id id (fun key kl hk=>⟨key,rfl⟩) (fun v _ _=>⟨v,rfl⟩) b W.heap.size nn _ _ _ rfl h2 ?_ ?_)
   | gi_in)
  ·intro hc0 hl0;gi_wp2
   go_end0
   exact⟨⟨_,rfl⟩,ss,hC.perm hE hl0,h4⟩
  ·intro x c kl yd yp w2 cnt2 hkey hlk hv hat hrg2 hlt hg2 hs2 hen;obtain⟨y,hy,rfl,h6⟩: ∃y∈E,c=y.enc/\keyOf prog 26 y.key=some kl:=hE.one (v:=c) (fun zd=>by rw[hat zd];simp only[YM,id]at hv;cases hv;rfl);have h8:J ss w2:=hJ ss wr w2 (some W.heap.size) h4 hg2 (fun r e=>by cases e;exact⟨Nat.le_refl _,h2.iter_walk⟩);clear hs2 hm hown;obtain⟨yc,yr,ys⟩:=y;simp only[CL.enc,id]at hen hv ⊢;have h7:J ss (w2.alloc (O #[f F yc,f F yr,I ys] 70)):=hJ ss w2 _ none h8 (World.grownBy_alloc _ _ none) (fun r e=>by cases e)
   obtain⟨fn,tmps,assign,body,h5,hR⟩:=hY ss ⟨yc,yr,ys⟩ _ h7 (by omega);simp only[CL.enc]at h5 hR;gi_wp2
   refine hR.mono ?_;rintro e W3 ⟨rfl,hJ4,hk3⟩;gi_wp2
   have h1:=hrg2.of_walks ((KeepsWalks.alloc _ _).trans hk3);go_roundw
   case rel=>exact⟨_,cnt2,ss++ [_],h1,by simp;omega,hC.step hE hy h6 hlk,hJ4⟩
   case measure=>rw[h1.left_eq,h2.left_eq];exact hlt
theorem Ek(n:Nat)(hn:1<=n)(Bm b nn:Nat)(D0:jd Value)(E:List CL)(hE:CmD D0 E)(w:World)(hBm:Bm<w.heap.size)
  (hm:w.cell? ⟨Bm,0,none⟩=some (.map (some b))) (hown:w.ownsMap prog 26 YM b nn D0):
  SeqGives Fence.wide n prog 130 #[.pointer (some ⟨Bm,0,none⟩)] CL.enc (fun ss=>ss.Perm E) (Maps.size D0) w:=fun l J W hW hJ hY h0=>by
 have hown':W.ownsMap prog 26 YM b nn D0:=by
  have h2:=hown.lt;obtain⟨es,h1,hb,Ft,hs,hD⟩:=hown;exact⟨es,h1,(hW.block b h2).trans hb,Ft,hs,hD⟩
 exact Qo5 n hn l Bm b nn D0 E hE J hY W hJ ((hW.cell (p:=⟨Bm,0,none⟩) hBm).trans hm) hown' h0
theorem Qhw(n:Nat)(mb:Option Nat)(w:World):
  CallsIn Fence.wide n prog 94 #[.map mb] w fun e w'=>e= T (.func (.func 130) #[] #[.pointer (some ⟨w.heap.size,0,none⟩)])/\w'=w.alloc (O #[.map mb] 90):=by
 refine callsIn_of_wp func94 rfl trivial ?_ rfl;simp only[ntmps94,List.size_toArray,List.length_cons,List.length_nil,Nat.reduceAdd,Nat.reduceSub,Y,Z,List.push_toArray,List.append_toArray,List.nil_append,List.cons_append];gi_wp2
 go_ret;exact⟨rfl,rfl⟩
def CL.cs(x:CL):List Value:= [f F x.c,f F x.r,I x.s]
theorem Qoh:24≠70:=by decide
def Dj : Code := Code.region 2 #[{ dst := some 5, op := Op.alloc 70, type := 0, pos := "iter.go:51", after := #[], guard := none }, { dst := none, op := Op.store 70 (U 5) (U 7), type := 0, pos := "iter.go:51", after := #[{ on := 0, ground := jf }, { on := 0, ground := je }], guard := none }] false
def Qfn : Code := Code.block 1 (Code.region 3 #[{ dst := some 8, op := Op.load 24 (U 2), type := 24, pos := "iter.go:52", after := #[], guard := none }, { dst := some 9, op := Op.load 70 (U 5), type := 70, pos := "iter.go:52", after := #[], guard := none }, { dst := some 10, op := Op.buildSlice 24 1 #[(0, U 9)], type := 24, pos := "iter.go:52", after := #[{ on := 1, ground := jf }], guard := none }, { dst := some 11, op := Op.call { callee := Callee.builtin Builtin.append, args := #[U 8, U 10], argTypes := #[24, 24] }, type := 24, pos := "iter.go:52", after := #[{ on := 0, ground := jf }, { on := 2, ground := jf }], guard := none }, { dst := none, op := Op.store 24 (U 2) (U 11), type := 0, pos := "iter.go:52", after := #[{ on := 3, ground := jf }, { on := 3, ground := Ground.chain }, { on := 0, ground := je }, { on := 1, ground := je }, { on := 2, ground := je }, { on := 3, ground := je }], guard := none }] false)
theorem Qve(W:World)(c r:Int)(s:ByteArray): ∀j u,[Value.int .i64 c,f F r,I s][j]? =some u->(W.alloc (O #[f F c,f F r,I s] 70)).cell? ((⟨W.heap.size,0,none⟩:Addr).add j)=some u:=fun j u hu=>by
 match j,hu with
 | 0,hu=>cases hu;simp[Addr.add]
 | 1,hu=>cases hu;simp[Addr.add]
 | 2,hu=>cases hu;simp[Addr.add]
def Hg(fn:FuncId)(sv:Value)(Bs D:Nat)(st:LoopState)(pend:Option Code):Loop:=
 {state:=st,pending:=pend,fn,tmps:= #[H none 0 0,sv,.pointer (some ⟨Bs,0,none⟩),ja,H none 0 0,ja,sv,ja,ja,ja,ja,ja,ja],params:= #[7],assign:=Dj,body:=Qfn,defers:=D}
structure CaAt (w0:World) (fn:FuncId) (sv:Value) (Bs l D:Nat) (ss:List CL) (W:World):Prop where
 box: ∃v,W.heap[Bs]? =some (O #[v] 24 (0,0))/\W.ownsRow w0.heap.size 70 3 v ss.length (ss.flatMap CL.cs)
 L:W.heap[l]? =some (.loop (Hg fn sv Bs D .ready none))
 K:W.heap[D]? =some (.deferred (some []))
 below:Below w0.heap.size w0 W
theorem Qjo(w0:World)(fn:FuncId)(sv:Value)(Bs l D B:Nat)(hB:w0.heap.size<=B):AbidesFrom B (CaAt w0 fn sv Bs l D):=fun s W W' row h hg hrow=>by
 have hrow': ∀r,row=some r-> ∃o:Obj,W.heap[r]? =some o/\o.isWalk=true:=fun r e=>(hrow r e).2;obtain⟨v,hv,hr⟩:=h.box
 exact⟨⟨v,(grownBy_keeps hg hrow' hv rfl).trans hv,ownsRow_abides_a hr hg hrow'⟩,(grownBy_keeps hg hrow' h.L rfl).trans h.L,(grownBy_keeps hg hrow' h.K rfl).trans h.K,
  h.below.grown hg h.below.size (fun k e=>Nat.le_trans hB (hrow k e).1)⟩
theorem Qse(m : Nat)(w0 : World)(fn : FuncId)(sv : Value)(Bs l D : Nat)(hBl : Bs ≠ l)(hDl : D ≠ l)(hDB : D ≠ Bs)(h0B : w0.heap.size <= Bs)(h0l : w0.heap.size <= l)
    (N : Nat) (hN : N <= 10000) (ss : List CL) (x : CL) (W : World) (h : CaAt w0 fn sv Bs l D ss W) (hlen : ss.length < N) :
    YieldAt Fence.wide m prog l #[CL.enc x] W fun e W' => e = T (jj true) /\ CaAt w0 fn sv Bs l D (ss ++ [x]) W' /\ jg W W' := by
  have g2 := Qoh;obtain ⟨i0, hi, G1, G0, g9⟩ := info_parts Qn3;obtain ⟨v, hv, H5⟩ := h.box;obtain ⟨xc, xr, xs⟩ := x;simp only[CL.enc];refine ⟨fn, #[H none 0 0, sv, .pointer (some ⟨Bs, 0, none⟩), ja, H none 0 0, ja, sv, jh #[f F xc, f F xr, I xs], ja, ja, ja, ja, ja], Dj, Qfn, by simpa[Hg] using run_yield (P := prog) (args := #[jh #[f F xc, f F xr, I xs]]) h.L rfl, roundIn_of_wpIn trivial ?_⟩;have hl : l < W.heap.size := (G.1 h.L).1
  have x4 : Bs < W.heap.size := (G.1 hv).1;have x3 : D < W.heap.size := (G.1 h.K).1;obtain ⟨Wa, h6⟩ : ∃ Wa, W.alloc (O #[f F xc, f F xr, I xs] 70) = Wa := ⟨_, rfl⟩;have G3 : Wa.heap[Bs]? = some (O #[v] 24 (0, 0)) := by rw[<- h6]; exact (Below.heap_alloc _ _ Bs x4).trans hv
  have H6 : Wa.heap[l]? = some (.loop (Hg fn sv Bs D .ready none)) := by rw[<- h6]; exact (Below.heap_alloc _ _ l hl).trans h.L
  have x1 : Wa.heap[D]? = some (.deferred (some [])) := by rw[<- h6]; exact (Below.heap_alloc _ _ D x3).trans h.K
  have g1 : Wa.ownsRow w0.heap.size 70 3 v ss.length (ss.flatMap CL.cs) := by rw[<- h6]; exact H5.alloc _
  have g4 : Below w0.heap.size w0 Wa := by rw[<- h6]; exact h.below.alloc h.below.size _
  have G7 : jg W Wa := by rw[<- h6]; exact KeepsWalks.alloc _ _
  have G2 : Wa.heap[W.heap.size]? = some (O #[f F xc, f F xr, I xs] 70 (0, 0)) := by rw[<- h6]; exact World.alloc_heap_new W _
  have x0 := run_beginRound (P := prog) H6 rfl;obtain ⟨W2, h7⟩ : ∃ W2, Wa.putObj l (.loop { Hg fn sv Bs D .ready none with state := .busy }) = W2 := ⟨_, rfl⟩;rw[h7] at x0;have g3 : Wa.grownBy W2 (some l) := by rw[<- h7]; exact grownBy_putObj_a _ _ _
  have G9 : jg Wa W2 := by rw[<- h7]; exact KeepsWalks.putObj _ H6 rfl
  have H0 : W2.heap[Bs]? = some (O #[v] 24 (0, 0)) := by rw[<- h7]; exact (World.putObj_heap_other hBl).trans G3
  have h9 : W2.heap[W.heap.size]? = some (O #[f F xc, f F xr, I xs] 70 (0, 0)) := by rw[<- h7]; exact (World.putObj_heap_other (by omega)).trans G2
  have H8 : W2.heap[D]? = some (.deferred (some [])) := by rw[<- h7]; exact (World.putObj_heap_other hDl).trans x1
  have H7 : W2.heap[l]? = some (.loop { Hg fn sv Bs D .ready none with state := .busy }) := by rw[<- h7]; exact World.putObj_heap_same (by rw[<- h6]; simp; omega)
  have h2 : W2.ownsRow w0.heap.size 70 3 v ss.length (ss.flatMap CL.cs) := g1.kept g3 (ownsRow_ne_a g1 H6 (fun cur e => by cases e));have H2 : Below w0.heap.size w0 W2 := g4.grown g3 g4.size (fun k e => by cases e; exact h0l);have g0 : Bs < W2.heap.size := (G.1 H0).1;have G6 : l < W2.heap.size := (G.1 H7).1;have H9 : D < W2.heap.size := (G.1 H8).1;have hxlt : W.heap.size < W2.heap.size := (G.1 h9).1;obtain ⟨hc2, hf2⟩ := cell_of_box_a H0
  have hc0 : W2.cell? ⟨W.heap.size, 0, none⟩ = some (f F xc) := by simp[World.cell?, h9]
  have hc1 : W2.cell? ⟨W.heap.size, 1, none⟩ = some (f F xr) := by simp[World.cell?, h9]
  have hc3 : W2.cell? ⟨W.heap.size, 2, none⟩ = some (I xs) := by simp[World.cell?, h9]
  have h3 : ∀ {j : Nat} {o : Obj}, W2.heap[j]? = some o -> (∀ cur, o ≠ .cells cur 70 (0, 0)) -> some j ≠ v.ownBlock := fun hj hno => by
    rcases ownsRow_ne_a h2 hj hno with e | e
    · rw[e]; simp
    · exact fun e' => e e'.symm
  clear h7;unfold Dj;gi_wp2_with gi_round_op_a
  unfold Qfn
  gi_wp2_with (first
    | (gi_at_builtin
       refine wpListIn_append_own _ rfl _ _ 24 rfl w0.heap.size 70 i0 (jh #[f F 0, f F 0, I ⟨#[]⟩]) 3 32 underlying24 hi G1 G0 g9 rfl (by decide) _ _ _ rfl (h2.alloc _) ⟨W2.heap.size, 0, none⟩ 1 1 [f F xc, f F xr, I xs] rfl rfl ?c1 ?c2 ?c3 ?c4 ?c5 ?_
       case c1 => exact Qve _ _ _ _
       case c2 => simp[Value.oneCell']
       case c3 => unfold maxLen; omega
       case c4 => omega
       case c5 => have := H2.size; simp; omega
       intro v' w3 hown' hg3 hnil3;have H4 : w3.heap[Bs]? = some (O #[v] 24 (0, 0)) := (hg3.block Bs (by simp; omega) (h3 H0 (fun cur e => g2 (Obj.cells.inj e).2.1))).trans ((Below.heap_alloc _ _ Bs g0).trans H0);obtain ⟨hcb3, hfb3⟩ := cell_of_box_a H4
       obtain ⟨g', h1, h4, rfl, hbase', hgb', hr1, hr2, hr3, hr4⟩ : ∃ g' h1 h4, v' = H (some ⟨g', 0, none⟩) (ss.length + 1) h1 /\ w0.heap.size <= g' /\ w3.heap[g']? = some (.cells h4 70 (0, 0)) /\ ss.length + 1 <= h1 /\ h1 <= maxLen /\ h4.size = h1 * 3 /\ h4.toList.take ((ss.length + 1) * 3) = ss.flatMap CL.cs ++ [f F xc, f F xr, I xs] := by
         rcases hown'.2 with ⟨_, h0⟩ | h'
         · exact absurd h0 (by omega)
         · exact h'
       go_frame)
    | gi_round_op_a)
  have g7 : w3.heap[l]? = some (.loop { Hg fn sv Bs D .ready none with state := .busy }) := (hg3.block l (by simp; omega) (h3 H7 (fun cur e => by cases e))).trans ((Below.heap_alloc _ _ l G6).trans H7);have g8 : w3.heap[D]? = some (.deferred (some [])) := (hg3.block D (by simp; omega) (h3 H8 (fun cur e => by cases e))).trans ((Below.heap_alloc _ _ D H9).trans H8);obtain ⟨w4, h8⟩ : ∃ w4, w3.setCell ⟨Bs, 0, none⟩ (H (some ⟨g', 0, none⟩) (ss.length + 1) h1) = w4 := ⟨_, rfl⟩;rw[h8];have H1 : w3.grownBy w4 (some Bs) := by rw[<- h8]; exact grownBy_setCell0_a _ _ _
  have G4 : w4.heap[Bs]? = some (O #[H (some ⟨g', 0, none⟩) (ss.length + 1) h1] 24 (0, 0)) := by rw[<- h8]; exact heap_setCell_box_a _ H4
  have H3 : w4.heap[l]? = some (.loop { Hg fn sv Bs D .ready none with state := .busy }) := (H1.block l (G.1 g7).1 (fun e => hBl (by cases e; rfl))).trans g7;have x2 : w4.heap[D]? = some (.deferred (some [])) := (H1.block D (G.1 g8).1 (fun e => hDB (by cases e; rfl))).trans g8;have h5 := hown'.kept H1 (ownsRow_ne_a hown' H4 (fun cur e => g2 (Obj.cells.inj e).2.1));have G5 : l < w4.heap.size := (G.1 H3).1;have g6 : Below w0.heap.size w0 w3 := (H2.alloc H2.size _).grown hg3 (by have := H2.size; simp; omega) (fun k e => (h2.lt k e).1);have g5 : Below w0.heap.size w0 w4 := g6.grown H1 g6.size (fun k e => by cases e; exact h0B);have G8 : jg W w4 := (((G7.trans G9).trans (KeepsWalks.alloc _ _)).trans (KeepsWalks.of_grownBy hg3 (ownsRow_not_walk_a (h2.alloc _)))).trans (by rw[<- h8]; exact KeepsWalks.setCell _ _ _)
  clear h8;refine ⟨_, _, run_endRound none H3, rfl, ⟨⟨_, (World.putObj_heap_other hBl).trans G4, ?_⟩, World.putObj_heap_same G5, (World.putObj_heap_other hDl).trans x2, g5.grown (grownBy_putObj_a _ _ _) g5.size (fun k e => by cases e; exact h0l)⟩, G8.trans (KeepsWalks.putObj _ H3 rfl)⟩;have := h5.kept (grownBy_putObj_a w4 l (.loop { { Hg fn sv Bs D .ready none with state := .busy } with state := if (none : Option Code).isNone then .ready else .done, pending := none })) (ownsRow_ne_a h5 H3 (fun cur e => by cases e));simpa[CL.cs, List.flatMap_append] using this
theorem EN(n : Nat)(hn : 2 <= n)(g : Nat)(lb : Array Value)(eg : ∀ args w, (callFunc g args).run prog w = .ok (.enter g args) w)
    (S : List CL -> Prop) (N : Nat) (hN : N <= 10000) (w : World) (hseq : SeqGives Fence.wide (n - 1) prog g lb CL.enc S N w) :
    CallsIn Fence.wide n prog 161 #[H none 0 0, .func (.func g) #[] lb] w fun e w' => ∃ (v : Value) (ss : List CL), e = T v /\ S ss /\ w'.ownsRow w.heap.size 70 3 v ss.length (ss.flatMap CL.cs) /\ Below w.heap.size w w' := by
  have h1 : 1 <= n := by omega
  have hne := Qoh;refine callsIn_of_wp_marks func161 rfl trivial ?_ rfl;simp only[ntmps161, List.size_toArray, List.length_cons, List.length_nil, Nat.reduceAdd, Nat.reduceSub, Y, Z, List.push_toArray, List.append_toArray, List.nil_append, List.cons_append];gi_wp2
  refine wpIn_rangeFunc ?_;intro fn hfn;show ∃ _, _;obtain ⟨W0, h7⟩ : ∃ W0, w.alloc (O #[H none 0 0] 24) = W0 := ⟨_, rfl⟩;have H6 : W0.heap.size = w.heap.size + 1 := by rw[<- h7]; simp
  have H5 : W0.heap[w.heap.size]? = some (O #[H none 0 0] 24 (0, 0)) := by rw[<- h7]; exact World.alloc_heap_new w _
  have H0 : Below w.heap.size w W0 := by rw[<- h7]; exact (Below.refl _ w).alloc (Nat.le_refl _) _
  rw[h7];obtain ⟨W1, h3⟩ : ∃ W1, (W0.alloc (.deferred (some []))).alloc (.loop (Hg fn (.func (.func g) #[] lb) w.heap.size W0.heap.size .ready none)) = W1 := ⟨_, rfl⟩
  have h8 : ∀ k, k < W0.heap.size -> W1.heap[k]? = W0.heap[k]? := fun k hk => by
    rw[<- h3]; exact (Below.heap_alloc _ _ k (by simp; omega)).trans (Below.heap_alloc _ _ k hk)
  have h9 : Below w.heap.size w W1 := by rw[<- h3]; exact (H0.alloc H0.size _).alloc (by have := H0.size; simp; omega) _
  have hs1 : W1.heap.size = W0.heap.size + 2 := by rw[<- h3]; simp
  have hM : CaAt w fn (.func (.func g) #[] lb) w.heap.size (W0.heap.size + 1) W0.heap.size [] W1 :=
    ⟨⟨_, (h8 w.heap.size (by omega)).trans H5, ⟨rfl, .inl ⟨rfl, rfl⟩⟩⟩,
     by rw[<- h3]; have := World.alloc_heap_new (W0.alloc (.deferred (some []))) (.loop (Hg fn (.func (.func g) #[] lb) w.heap.size W0.heap.size .ready none)); rwa[World.size_alloc] at this,
     by rw[<- h3]; exact (Below.heap_alloc _ _ _ (by simp)).trans (World.alloc_heap_new W0 _), h9⟩
  refine ⟨W0.heap.size + 1, [{ target := .collected W0.heap.size, args := #[] }], W1, { target := .fn (.func g) lb, args := #[.func (.yield (W0.heap.size + 1)) #[] #[]] }, W1, g,
    #[.func (.yield (W0.heap.size + 1)) #[] #[]] ++ lb, W1, ?_, ?_, ?_, ?_, fun _ => h1, ?_⟩
  · rw[<- h3]; exact run_enterLoop_outer _ _ _ _ _
  · simp[resolve, go_sem]
  · intro f' hf'; trivial
  · simp[invoke, go_sem, eg]
  · refine (hseq (W0.heap.size + 1) (CaAt w fn (.func (.func g) #[] lb) w.heap.size (W0.heap.size + 1) W0.heap.size) W1 h9 (Qjo _ _ _ _ _ _ _ h9.size)
      (fun pre x W hJ hl => Qse (n - 1 - 1) w fn _ w.heap.size (W0.heap.size + 1) W0.heap.size (by omega) (by omega) (by omega) (Nat.le_refl _) (by omega) N hN pre x W hJ hl) hM).mono ?_
    rintro e W2 ⟨⟨v0, rfl⟩, ss, hS, h2⟩;obtain ⟨v, hv, h4⟩ := h2.box;have h5 := run_endLoop (P := prog) h2.L (by simp[Hg]);obtain ⟨W3, h6⟩ : ∃ W3, W2.putObj (W0.heap.size + 1) (.loop { Hg fn (.func (.func g) #[] lb) w.heap.size W0.heap.size .ready none with state := .exhausted }) = W3 := ⟨_, rfl⟩;rw[h6] at h5;have H1 : W2.grownBy W3 (some (W0.heap.size + 1)) := by rw[<- h6]; exact grownBy_putObj_a _ _ _
    have H4 : W3.heap[w.heap.size]? = some (O #[v] 24 (0, 0)) := by rw[<- h6]; exact (World.putObj_heap_other (by omega)).trans hv
    have H3 : W3.heap[W0.heap.size]? = some (.deferred (some [])) := by rw[<- h6]; exact (World.putObj_heap_other (by omega)).trans h2.K
    have h0 := h4.kept H1 (ownsRow_ne_a h4 h2.L (fun cur e => by cases e));have H2 : Below w.heap.size w W3 := h2.below.grown H1 h2.below.size (fun k e => by cases e; omega);obtain ⟨hc3, hf3⟩ := cell_of_box_a H4;clear h6;refine ⟨none, W3, h5, ?_⟩;gi_wp2
    rw[<- H6];refine ⟨by simp, .inl ⟨_, _, rfl, run_takeDeferred H3, ?_⟩⟩;exact ⟨_, results_tmp rfl _ _ _, v, ss, rfl, hS, h0.kept (grownBy_putObj_a _ _ _) (ownsRow_ne_a h0 H3 (fun cur e => by cases e)), H2.grown (grownBy_putObj_a _ _ _) H2.size (fun k e => by cases e; omega)⟩
theorem Qe6(n:Nat)(hn:3<=n)(g:Nat)(lb:Array Value)(eg: ∀args w,(callFunc g args).run prog w= .ok (.enter g args) w)
  (S:List CL->Prop) (N:Nat) (hN:N<=10000) (w:World) (hseq:SeqGives Fence.wide (n-1-1) prog g lb CL.enc S N w):
  CallsIn Fence.wide n prog 128 #[.func (.func g) #[] lb] w fun e w'=> ∃(v:Value) (ss:List CL),e= T v/\S ss/\w'.ownsRow w.heap.size 70 3 v ss.length (ss.flatMap CL.cs)/\Below w.heap.size w w':=by
 have h1:1<=n:=by omega
 have F11:Fence.wide.fn 161:=trivial;have e11: ∀args w,(callFunc 161 args).run prog w= .ok (.enter 161 args) w:=enters_of func161 (by kernel_rfl) rfl;refine callsIn_of_wp func128 rfl trivial ?_ rfl;simp only[ntmps128,List.size_toArray,List.length_cons,List.length_nil,Nat.reduceAdd,Nat.reduceSub,Y,Z,List.push_toArray,List.append_toArray,List.nil_append,List.cons_append];gi_wp2_with (gi_at_fn 161;refine(EN (n-1) (by omega) g lb eg S N hN _ hseq).mono ?_;rintro e w' ⟨v,ss,rfl,hS,hrow,hb⟩)
 go_ret;exact⟨v,ss,rfl,hS,hrow,hb⟩
end Go.Proofs.YtomadadmakdkgaaGreatDoor
namespace Go.Proofs.YtomadadmakdkgaaGreatDoor
open Go.RowKit Go.Maps
def Grw(X W:World):Prop:= ∃q os,W=Go.Sort.grow (X.drewN q) os
theorem Qe0(w:World)(n:Nat):(w.drewN n).drew=w.drewN (n+1):=rfl
theorem Grw.refl(X:World):Grw X X:=⟨0,#[],by rw[Go.Sort.grow_empty];rfl⟩
theorem Grw.alloc{X W:World}(h:Grw X W)(o:Obj):Grw X (W.alloc o):=by
 obtain⟨q,os,rfl⟩:=h;exact⟨q,os++ #[o],by rw[Go.Sort.alloc_eq_grow,Go.Sort.grow_grow]⟩
theorem Grw.drew{X W:World}(h:Grw X W):Grw X W.drew:=by
 obtain⟨q,os,rfl⟩:=h;exact⟨q+1,os,by rw[Go.Sort.drew_grow,Qe0]⟩
theorem Grw.under{X W:World}{o:Obj}(h:Grw (X.alloc o) W):Grw X W:=by
 obtain⟨q,os,rfl⟩:=h;exact⟨q,#[o]++os,by rw[Go.Sort.alloc_eq_grow,<-Go.Sort.grow_grow];rfl⟩
theorem Qwa{B:Nat}{X W:World}(hs:B<=X.heap.size)(h:Below B X W)(hg:Grw X W):(∀bq oq,bq<B->W.cell? ⟨bq,oq,none⟩=X.cell? ⟨bq,oq,none⟩)/\B<=W.heap.size/\Below B X W/\Grw X W:=⟨fun b o hb=>h.cell (p:=⟨b,o,none⟩) hb,Nat.le_trans hs h.size,h,hg⟩
theorem MF(c r c' r':Int)(w:World):Calls prog 68 #[jh #[f F c,f F r],jh #[f F c',f F r']] w fun e w'=>
  e= T (f F (Qe1 c r c' r'))/\Grw w w':=by
 go_enter func68,ntmps68;go_wp2_with fail
 go_region_held3 (fun w'=>(∀bq oq,bq<w.heap.size+2->w'.cell? ⟨bq,oq,none⟩=((w.alloc (O #[f F c,f F r] 26)).alloc (O #[f F c',f F r'] 26)).cell? ⟨bq,oq,none⟩)/\w.heap.size+2<=w'.heap.size/\Below (w.heap.size+2) ((w.alloc (O #[f F c,f F r] 26)).alloc (O #[f F c',f F r'] 26)) w'/\Grw ((w.alloc (O #[f F c,f F r] 26)).alloc (O #[f F c',f F r'] 26)) w')
  (exact Qwa (by go_size) (by go_grown) (by repeat (first | assumption | with_reducible exact Grw.refl _ | apply Grw.alloc | apply Grw.drew)))
  (first
  | (go_at_call 112;refine(Qhl _ _ _).mono ?_;rintro e w1 ⟨rfl,rfl⟩)
  | (go_at_call 111;refine(Qhk (sgn r r') (sgn c c') _ _ ?_ ?_).mono ?_;(focus (go_simp;done));(focus (go_simp;done));rintro e w1 ⟨rfl,rfl⟩))
 all_goals go_wp2_with fail
 all_goals
  go_ret;exact⟨rfl,Grw.under (Grw.under (by repeat (first | assumption | with_reducible exact Grw.refl _ | apply Grw.alloc | apply Grw.drew)))⟩
def ltC(x y:CL):Bool:=YL x.c x.r y.c y.r
def clC(x y:CL):Int:=Qe1 x.c x.r y.c y.r
theorem Qbi(x y:CL):ltOf clC x y=ltC x y:=by
 show decide (Qe1 x.c x.r y.c y.r<0)=YL _ _ _ _;have h:=GE x.c x.r y.c y.r;cases e:YL x.c x.r y.c y.r with
 | false=>rw[e]at h;have:=h.2 rfl;exact decide_eq_false (by omega)
 | true=>rw[e]at h;have:=mt h.1 (by decide);exact decide_eq_true (by omega)
theorem Qsb:Go.Sort.SWO (ltOf clC) where
 irrefl x:=by rw[Qbi];exact decide_eq_false (by omega)
 trans x y z h1 h2:=by
  rw[Qbi]at*;have h1:=of_decide_eq_true h1;have h2:=of_decide_eq_true h2;exact decide_eq_true (by omega)
 ntrans x y z h1 h2:=by
  rw[Qbi]at*;have h1:=of_decide_eq_false h1;have h2:=of_decide_eq_false h2;exact decide_eq_false (by omega)
theorem VD(x:CL):(CL.cs x).length=3:=rfl
theorem Qe2(x y:CL)(W:World):Calls prog 95 #[.agg (CL.cs x).toArray,.agg (CL.cs y).toArray] W fun e w'=>e= T (f F (clC x y))/\Grw W w':=by
 obtain⟨xc,xr,xs⟩:=x;obtain⟨yc,yr,ys⟩:=y;simp only[CL.cs,clC];obtain⟨r,HR⟩: ∃r,Hid (Qe1 xc xr yc yr=r):=⟨_,rfl⟩;rw[HR.out];go_enter func95,ntmps95;go_wp2_with (go_at_call 68;refine(MF _ _ _ _ _).mono ?_;rintro e w' ⟨rfl,hg⟩;rw[HR.out])
 go_ret;exact⟨rfl,Grw.under (Grw.under hg)⟩
theorem Qc2[Inhabited CL](L:List CL):Go.Sort.flatK CL.cs 3 L.toArray=(QH CL.cs L).toArray:=by
 refine Go.Sort.ext_get! (by simp[JX VD]) fun t ht=> ?_;have h0:t<L.length*3:=by simpa using ht
 rw[Go.Sort.get_flatK _ _ _ t (by simpa using h0)];have hi:t/3<L.length:=by omega
 have e:t/3*3+t%3=t:=by omega
 have h9:=Ob VD (t%3) (by omega) L (t/3);rw[e,List.getElem?_eq_getElem hi]at h9;have hl:t<(QH CL.cs L).length:=by rw[JX VD];exact h0
 rw[List.getElem?_eq_getElem hl]at h9;have h8:t%3<(CL.cs L[t/3]).length:=by rw[VD];omega
 simp only[Option.bind_some]at h9;rw[List.getElem?_eq_getElem h8]at h9;rw[getElem!_pos (QH CL.cs L).toArray t (by simpa using hl),getElem!_pos L.toArray (t/3) (by simpa using hi)];simp only[List.getElem_toArray];rw[getElem!_pos (CL.cs L[t/3]) (t%3) h8];exact(Option.some.inj h9).symm
theorem Qeq{w:World}{g m:Nat}{os:Array Obj}{cur:Array Value}{e:TypeId}{fr:Nat × Nat} [Inhabited CL] (d:Array CL) (hb:w.heap[g]? =some (.cells cur e fr)):(sortWorldK CL.cs 3 w g 0 m d os).heap[g]? =some (.cells (jc id 0 (Go.Sort.flatK CL.cs 3 d) cur) e fr):=by
 have hg:g<w.heap.size:=(G.1 hb).1;unfold sortWorldK;rw[Go.Sort.heap_grow_old _ _ (by simpa[jb]using hg)];simp[jb,Go.Sort.putRow,Go.Sort.mapBlock,Go.Sort.ahead,Array.getElem?_modify,hb,Go.Sort.onCells]
theorem Qb3{w:World}{g m:Nat}{os:Array Obj} [Inhabited CL] (d:Array CL):w.grownBy (sortWorldK CL.cs 3 w g 0 m d os) (some g):=by
 unfold sortWorldK;refine⟨rfl,rfl,rfl,by simp[jb],fun k hk hne=> ?_⟩;rw[Go.Sort.heap_grow_old _ _ (by simpa[jb]using hk)];have:g≠k:=fun e=>hne (by rw[e]);simp[jb,Go.Sort.putRow,Go.Sort.mapBlock,Go.Sort.ahead,Array.getElem?_modify,this]
theorem Qh1(cur:Array Value)(ts:List Value)(h:ts.length<=cur.size):(jc id 0 ts.toArray cur).toList.take ts.length=ts:=by
 apply List.ext_getElem?;intro j;by_cases hj:j<ts.length
 ·rw[List.getElem?_take_of_lt hj,Array.getElem?_toList];simp[jc,hj,show j<cur.size by omega]
 ·rw[List.getElem?_take_eq_none (by omega),List.getElem?_eq_none (by omega)]
theorem Qd4{W:World}{B g n cap:Nat}{L:List CL}(h:W.ownsRow B 70 3 (H (some ⟨g,0,none⟩) n cap) n (QH CL.cs L))(hL:L.length=n)(hn:n<=10000):
  Calls prog 129 #[H (some ⟨g,0,none⟩) n cap,.func (.func 95) #[] #[]] W fun e w'=>e= T (ji #[])/\ ∃M:List CL,M.Perm L/\M.Pairwise (fun x y=>ltC y x=false)/\w'.ownsRow B 70 3 (H (some ⟨g,0,none⟩) n cap) n (QH CL.cs M)/\W.grownBy w' (some g):=by
 haveI:Inhabited CL:=⟨⟨0,0,⟨#[]⟩⟩⟩
 rcases h.2 with⟨e,_⟩ | ⟨g',cap',cur,e,hB,hb,h1,h2,h3,h4⟩
 ·cases e
 cases e
 have eg: ∀args w,(callFunc 95 args).run prog w= .ok (.enter 95 args) w:=enters_of func95 (by kernel_rfl) rfl
 have hH:Go.Sort.HoldsK CL.cs 3 W g 0 L.toArray:=by
  unfold Go.Sort.HoldsK;rw[Qc2];intro j hj;have h8:j<n*3:=by rw[<-h.1];simpa using hj
  refine⟨?_,by rw[Nat.zero_add];exact h.frozenAt j⟩;rw[Nat.zero_add,h.cellAt j h8,getElem!_pos _ j hj];have hl:j<(QH CL.cs L).length:=by simpa using hj
  rw[List.getElem?_eq_getElem hl];simp
 have h6:CmpLays prog 95 #[] CL.cs 3 clC g 0 L.toArray.size W:=fun _ _ _ _ x y=>Qe2 x y _;have h0:=AnyQ.slices_SortFunc Tryz.sortCl 3 isAgg70 sizeOf70 CL.cs VD (fun x v hv=>by simp[CL.cs]at hv;rcases hv with rfl | rfl | rfl<;>rfl) clC Qsb 95 #[] g 0 cap L.toArray W eg h6 hH (G.1 hb).1 (by simp;omega);rw[show L.toArray.size=n by simp[hL]]at h0;change Calls prog 129 _ _ _ at h0;refine h0.mono ?_;rintro e w' ⟨rfl,d',m,os,⟨hs,_,hp⟩,hso,rfl⟩;have h5:d'.size=n:=by rw[hs];simp[hL]
 have h7:d'.toList.Perm L:=by
  have e1:(d'.extract 0 n)=d':=by rw[<-h5];simp
  have e2:(L.toArray.extract 0 n)=L.toArray:=by rw[<-hL];simp
  rw[e1,e2]at hp;simpa using hp
 have ed:d'.toList.toArray=d':=by simp
 refine⟨rfl,d'.toList,h7,?_,?_,Qb3 d'⟩
 ·rw[List.pairwise_iff_getElem];intro i j hi hj hij;have h9:=hso i j (Nat.zero_le _) hij (by rw[<-h5];simpa using hj);rw[Qbi,getElem!_pos d' j (by simpa using hj),getElem!_pos d' i (by simpa using hi)]at h9;simpa using h9
 ·refine⟨by rw[JX VD];simp[h5],.inr ⟨g,cap,_,rfl,hB,Qeq d' hb,h1,h2,by simp[jc,h3],?_⟩⟩;have hf:Go.Sort.flatK CL.cs 3 d'=(QH CL.cs d'.toList).toArray:=by rw[<-Qc2,ed]
  have hl:(QH CL.cs d'.toList).length=n*3:=by rw[JX VD];simp[h5]
  rw[hf,<-hl];refine Qh1 cur _ ?_;rw[hl,h3];exact Nat.mul_le_mul_right _ h1
end Go.Proofs.YtomadadmakdkgaaGreatDoor
namespace Go.Proofs.YtomadadmakdkgaaGreatDoor
open Go.RowKit Go.Maps Go.Sort Go.Shelf
theorem Qh6(p:Option Addr)(cap:Nat)(fv:Value)(W:World):Calls prog 129 #[H p 0 cap,fv] W fun e w'=>e= T (ji #[])/\w'=W:=
 AnyF.slices_SortFunc_none Tryz.sortCl p cap fv W
theorem Qku{W:World}{B n:Nat}{v:Value}{L:List CL}(h:W.ownsRow B 70 3 v n (L.flatMap CL.cs))(hL:L.length=n)(hn:n<=10000):
  ∃A cap,v= H A n cap/\Calls prog 129 #[H A n cap,.func (.func 95) #[] #[]] W fun e w'=>e= T (ji #[])/\ ∃M:List CL,M.Perm L/\M.Pairwise (fun x y=>ltC y x=false)/\w'.ownsRow B 70 3 (H A n cap) n (QH CL.cs M)/\Below B W w':=by
 rcases h.2 with⟨e,h0⟩ | ⟨g,cap,cur,e,hB,hb,h1,h2,h3,h4⟩
 ·subst e;subst h0;have hl:L= []:=List.length_eq_zero_iff.1 hL;subst hl;refine⟨none,0,rfl,(Qh6 none 0 _ W).mono ?_⟩;rintro e w' ⟨rfl,rfl⟩;exact⟨rfl,[],List.Perm.refl _,List.Pairwise.nil,h,Below.refl _ _⟩
 ·subst e;refine⟨some ⟨g,0,none⟩,cap,rfl,(Qd4 h hL hn).mono ?_⟩;rintro e w' ⟨rfl,M,hp,hs,ho,hg⟩;have hlt:g<W.heap.size:=(G.1 hb).1;exact⟨rfl,M,hp,hs,ho,(Below.refl _ _).grown hg (by omega) (fun k e=>by cases e;exact hB)⟩
theorem Qlr{E M:List CL}(hp:M.Perm E)(nd:E.Pairwise (fun x y=>x.key≠y.key))(hs:M.Pairwise (fun x y=>ltC y x=false)):M.Pairwise (fun x y=>ltC x y=true):=by
 have h0:M.Pairwise (fun x y=>x.key≠y.key):=(hp.symm.pairwise_iff (fun{a b} h=>Ne.symm h)).1 nd;refine(hs.and h0).imp ?_;rintro⟨xc,xr,xs⟩ ⟨yc,yr,ys⟩ ⟨h1,h2⟩;have h1:=of_decide_eq_false h1;refine decide_eq_true ?_;have h3: ¬(xc=yc/\xr=yr):=fun⟨e1,e2⟩=>h2 (by simp[CL.key,e1,e2]);simp only at h1 ⊢
 omega
theorem Qad: ∀{M M':List CL},M.Pairwise (fun x y=>ltC x y=true)->M'.Pairwise (fun x y=>ltC x y=true)->M.Perm M'->M=M':=fun{M M'} h1 h2 hp=>
 List.Perm.eq_of_pairwise (fun a b _ _ hab hba=>by
  have h1:=of_decide_eq_true hab;have h2:=of_decide_eq_true hba
  omega) h1 h2 hp
theorem UD(g:Nat)(lb:Array Value)(eg: ∀args w,(callFunc g args).run prog w= .ok (.enter g args) w)
  (S:List CL->Prop) (N:Nat) (hN:N<=10000) (hS: ∀ss,S ss->ss.length<=10000) (w:World) (hseq:SeqGives Fence.wide 5 prog g lb CL.enc S N w):
  Calls prog 93 #[.func (.func g) #[] lb,.func (.func 95) #[] #[]] w fun e w'=> ∃(v:Value) (ss M:List CL),e= T v/\S ss/\M.Perm ss/\M.Pairwise (fun x y=>ltC y x=false)/\w'.ownsRow w.heap.size 70 3 v M.length (QH CL.cs M)/\Below w.heap.size w w':=by
 have HC:=fun W hW=>callsIn_wide.1 (Qe6 7 (by omega) g lb eg S N hN W (hseq.later hW));have h1:Hid (∀W,Below w.heap.size w W->Calls prog 128 #[.func (.func g) #[] lb] W fun e w'=> ∃(v:Value) (ss:List CL),e= T v/\S ss/\w'.ownsRow W.heap.size 70 3 v ss.length (ss.flatMap CL.cs)/\Below W.heap.size W w'):=HC;have HS:Hid (∀ss,S ss->ss.length<=10000):=hS;clear HC hseq hS;go_enter func93,ntmps93
 go_wp2_with (first
  | (go_at_call 128;refine(h1.out _ (Below.refl _ _)).mono ?_;rintro e w1 ⟨v,ss,rfl,hss,hrow,hb1⟩;obtain⟨A,cap,rfl,h0⟩:=Qku hrow rfl (HS.out ss hss))
  | (go_at_call 129;refine h0.mono ?_;rintro e w2 ⟨rfl,M,hp,hpw,hrow2,hb2⟩))
 go_ret;exact⟨_,ss,M,rfl,hss,hp,hpw,by rw[hp.length_eq];exact hrow2,hb1.trans hb2⟩
theorem CL.key_eq{x y:CL}:x.key=y.key↔x.c=y.c/\x.r=y.r:=by simp[CL.key]
def Kg(p q:Int)(E:List CL):List CL:=E.filter (fun y=> !decide (y.c=p/\y.r=q))
theorem offP_mem{p q:Int}{E:List CL}{y:CL}:y∈Kg p q E↔y∈E/\ ¬(y.c=p/\y.r=q):=by
 unfold Kg;rw[List.mem_filter];simp only[Bool.not_eq_true',decide_eq_false_iff_not]
theorem CmD.nil:CmD (.map []) []:=⟨List.Pairwise.nil,fun x hx=>(by cases hx),fun kl h=>by simp[has_eq]at h⟩
theorem CmD.off{D:jd Value}{E:List CL}(h:CmD D E){p q:Int}{kl:Lit}(hk:keyOf prog 26 (jh #[f F p,f F q])=some kl):CmD (D.del kl) (Kg p q E) where
 nd:=h.nd.filter _
 into x hx:=by
  obtain⟨hm,hn⟩:=offP_mem.1 hx;obtain⟨k2,h0,h3⟩:=h.into x hm;refine⟨k2,h0,fun zd=> ?_⟩
  have h1:k2≠kl:=fun e=>hn (by
   subst e;have:=keyedRef.inj h0 hk
   simpa[CL.key]using this)
  rw[atKey_del_other h1];exact h3 zd
 back k2 hh:=by
  have h1:k2≠kl:=fun e=>by subst e;rw[has_del_same]at hh;cases hh
  rw[has_del_other h1]at hh;obtain⟨x,hx,h0⟩:=h.back k2 hh;refine⟨x,offP_mem.2 ⟨hx,fun e=>h1 ?_⟩,h0⟩;have h2:x.key= jh #[f F p,f F q]:=by simp[CL.key,e.1,e.2]
  rw[h2,hk]at h0;exact(Option.some.inj h0).symm
theorem CmD.on{D:jd Value}{E:List CL}(h:CmD D E)(hm:IsMap D){x:CL}{kl:Lit}(hk:keyOf prog 26 x.key=some kl):CmD (D.put kl (.held x.enc)) (Kg x.c x.r E++ [x]) where
 nd:=List.pairwise_append.2 ⟨h.nd.filter _,List.pairwise_singleton _ _,fun a ha b hb e=>by
  rw[List.mem_singleton]at hb;subst hb
  exact(offP_mem.1 ha).2 (CL.key_eq.1 e)⟩
 into y hy:=by
  rcases List.mem_append.1 hy with hy | hy
  ·obtain⟨hm,hn⟩:=offP_mem.1 hy;obtain⟨k2,h0,h2⟩:=h.into y hm;refine⟨k2,h0,fun zd=> ?_⟩;have h1:k2≠kl:=fun e=>hn (by subst e;exact CL.key_eq.1 (keyedRef.inj h0 hk));rw[atKey_put_other h1];exact h2 zd
  ·rw[List.mem_singleton]at hy;subst hy;exact⟨kl,hk,fun zd=>atKey_put_same hm (keyedRef.key hk) _ _⟩
 back k2 hh:=by
  by_cases e:k2=kl
  ·subst e;exact⟨x,by simp,hk⟩
  ·rw[has_put_other e]at hh;obtain⟨y,hy,h0⟩:=h.back k2 hh;refine⟨y,List.mem_append_left _ (offP_mem.2 ⟨hy,fun e2=>e ?_⟩),h0⟩;rw[CL.key_eq.2 e2,hk]at h0;exact(Option.some.inj h0).symm
theorem CmD.size{w:World}{b n:Nat}{D:jd Value}{E:List CL}(h:CmD D E)(ho:w.ownsMap prog 26 YM b n D):Maps.size D=E.length:=by
 obtain⟨es,hD,h4,_⟩:=ho.entries keyedRef;obtain⟨h7,h3,h5⟩:=ho.keysOf;obtain rfl:es=h7:=by rw[hD]at h3;simpa using h3
 subst hD
 have h1:(E.map (fun x=>keyOf prog 26 x.key)).Nodup:=by
  unfold List.Nodup;rw[List.pairwise_map];refine List.Pairwise.imp_of_mem (fun{x y} hx hy hne e=>hne ?_) h.nd;obtain⟨k1,h0,_⟩:=h.into x hx;rw[h0]at e;exact keyedRef.inj h0 e.symm
 have h2:(es.map (fun p=>some p.1)).Nodup:=by
  unfold List.Nodup;rw[List.pairwise_map];exact h4.imp (fun hne e=>hne (Option.some.inj e))
 have hp:=(List.perm_ext_iff_of_nodup h1 h2).2 fun o=>by
  rw[List.mem_map,List.mem_map];constructor
  ·rintro⟨x,hx,rfl⟩;obtain⟨k1,h0,h6⟩:=h.into x hx;have hh:=has_true_of_atKey h6;rw[has_eq,List.any_eq_true]at hh;obtain⟨p,hp,hs⟩:=hh;exact⟨p,hp,by rw[h0,WideAt.sameKey_eq hs]⟩
  ·rintro⟨p,hp,rfl⟩;obtain⟨v,hv⟩:=h5 p hp;obtain⟨x,hx,hk⟩:=h.back p.1 (by rw[has_eq,List.any_eq_true];exact⟨p,hp,WideAt.sameKey_self (keyedRef.key hv)⟩);exact⟨x,hx,hk⟩
 have:=hp.length_eq;simp only[List.length_map]at this;exact this.symm
def clE(C R:Nat->Int)(S:Nat->ByteArray)(n:Nat):List CL:=(List.range n).map fun i=>⟨C i,R i,S i⟩
theorem Dh(C R:Nat->Int)(S:Nat->ByteArray)(n:Nat):clE C R S (n+1)=clE C R S n++ [⟨C n,R n,S n⟩]:=by simp[clE,List.range_succ]
theorem Yy(C R:Nat->Int)(S:Nat->ByteArray)(n:Nat):(clE C R S n).length=n:=by simp[clE]
theorem Qsa{C R:Nat->Int}{S:Nat->ByteArray}{n:Nat}{p q:Int}(h: ∀i,i<n-> ¬(C i=p/\R i=q)):Kg p q (clE C R S n)=clE C R S n:=by
 unfold Kg clE;rw[List.filter_eq_self];intro y hy;obtain⟨i,hi,rfl⟩:=List.mem_map.1 hy;simp only[Bool.not_eq_true',decide_eq_false_iff_not];exact h i (List.mem_range.1 hi)
theorem Qoi{C R:Nat->Int}{S:Nat->ByteArray}{kl:Nat->Lit}: ∀n:Nat,(∀i,i<n->keyOf prog 26 (jh #[f F (C i),f F (R i)])=some (kl i))->(∀i j,i<j->j<n-> ¬(C i=C j/\R i=R j))->CmD (clD kl C R S n) (clE C R S n)
 | 0,_,_=>CmD.nil
 | n+1,hk,hd=>by
  have h:=Qoi (S:=S) n (fun i hi=>hk i (by omega)) (fun i j hij hj=>hd i j hij (by omega));have h2:=h.on (Mj kl C R S n) (x:=⟨C n,R n,S n⟩) (kl:=kl n) (hk n (by omega));rw[Qsa (fun i hi=>hd i n hi (by omega)),<-Dh]at h2;exact h2
theorem Qcx{b n:Nat}{D:jd Value}{p q:Int}{s:ByteArray}{kl:Lit}{B:Nat}(w:World)(h:w.ownsMap prog 26 YM b n D)(hB:B<=b)(hn:n<=10000)(hk:keyOf prog 26 (jh #[f F p,f F q])=some kl):
  Calls prog 79 #[.map (some b),jh #[f F p,f F q],I s] w fun e w'=>e= T (ji #[])/\(∃m,m<=n+1/\w'.ownsMap prog 26 YM b m (if s.toList.isEmpty=true then D.del kl else D.put kl (.held (jh #[f F p,f F q,I s]))))/\Below B w w':=by
 have HO:Hid (w.ownsMap prog 26 YM b n D):=h;have hbl:=h.lt;clear h;have h0:B<=w.heap.size:=by omega
 cases e:s.toList.isEmpty
 ·rw[nG (by decide)];go_enter func79,ntmps79
  go_wp2_with (first
   | (at_mapUpdate;refine wpList_mapUpdate_own _ rfl _ _ _ 90 rfl 26 70 keyedRef underlying90 YM b n _ rfl (HO.out.alloc _) (by unfold maxLen;omega) _ _ kl rfl rfl hk _ [] rfl ?_;intro w1 hown1 hg1)
   | go_in)
  go_end0
  exact⟨rfl,⟨n+1,Nat.le_refl _,hown1⟩,Below.grown ((Below.refl _ w).alloc h0 _) hg1 (by simp;omega) (fun j hj=>by cases hj;exact hB)⟩
 ·rw[pS rfl];go_enter func79,ntmps79
  go_wp2_with (first
   | (at_delete;refine wpList_delete_own _ rfl _ _ 90 26 rfl 70 keyedRef underlying90 YM b n _ rfl (HO.out.alloc _) _ kl rfl hk ?_;intro w1 hown1 ht1)
   | go_in)
  (try simp only[Exit.inBlock,Exit.then]);refine bodyPost_ret (results_none rfl _ _ _) rfl ?_
  exact⟨rfl,⟨n,by omega,hown1⟩,Below.grown ((Below.refl _ w).alloc h0 _) ht1.grown (by simp;omega) (fun j hj=>by cases hj;exact hB)⟩
theorem Vj{b n:Nat}{D:jd Value}{E:List CL}(w:World)(ho:w.ownsMap prog 26 YM b n D)(hE:CmD D E)(hn:E.length<=10000):
  Calls prog 57 #[.map (some b)] w fun e w'=> ∃A cap M,e= T (H A E.length cap)/\M.Perm E/\M.Pairwise (fun x y=>ltC x y=true)/\w'.ownsRow w.heap.size 70 3 (H A E.length cap) E.length (QH CL.cs M)/\Below w.heap.size w w':=by
 have h7:=ho.lt;have h5:Maps.size D=E.length:=hE.size ho
 have h0:(w.alloc (O #[.map (some b)] 90)).ownsMap prog 26 YM b n D:=by
  obtain⟨es,h2,hb,Ft,hs,hD⟩:=ho;exact⟨es,h2,(Below.heap_alloc _ _ b h7).trans hb,Ft,hs,hD⟩
 have h1:SeqGives Fence.wide 5 prog 130 #[.pointer (some ⟨w.heap.size,0,none⟩)] CL.enc (fun ss=>ss.Perm E) (Maps.size D) (w.alloc (O #[.map (some b)] 90)):=
  Ek 5 (by omega) w.heap.size b n D E hE _ (by simp) (by simp) h0
 have h6:=UD 130 #[.pointer (some ⟨w.heap.size,0,none⟩)] (enters_of func130 (by kernel_rfl) rfl) (fun ss=>ss.Perm E) (Maps.size D) (by omega) (fun ss h=>by rw[h.length_eq];exact hn) _ h1;have h4:=callsIn_wide.1 (Qhw 5 (some b) w);have h8:Hid (E.Pairwise (fun x y=>x.key≠y.key)):=hE.nd;clear h1 h0 hE ho h5;go_enter func57,ntmps57
 go_wp2_with (first
  | (go_at_call 94;refine h4.mono ?_;rintro e w1 ⟨rfl,rfl⟩)
  | (go_at_call 93;refine h6.mono ?_;rintro e w2 ⟨v,ss,M,rfl,hss,hp,hpw,hrow,hb⟩))
 go_ret;have h3:M.Perm E:=hp.trans hss;rw[h3.length_eq]at hrow;obtain⟨A,cap,rfl,_⟩:=Qr hrow;refine⟨A,cap,M,rfl,h3,Qlr h3 h8.out hpw,ownsRow_base_a hrow (by simp),?_⟩;exact((Below.refl _ w).alloc (Nat.le_refl _) _).trans (hb.mono (by simp))
theorem Mf{α:Type}{p:List α->Prop}(h0:p [])(h1: ∀l x,p l->p (l++ [x]))(l:List α):p l:=by
 have: ∀n (l:List α),l.length=n->p l:=fun n=>by
  induction n with
  | zero=>intro l hl;rw[List.length_eq_zero_iff.1 hl];exact h0
  | succ n ih=>
   intro l hl;have h2:l≠ []:=fun e=>by subst e;cases hl
   rw[<-List.dropLast_concat_getLast h2];exact h1 _ _ (ih _ (by rw[List.length_dropLast,hl];rfl))
 exact this _ l rfl
def Nv(x y:CL):Bool:=decide (y.c=x.c/\y.r=x.r)
def stC(x:CL)(a:List CL × Bool)(y:CL):List CL × Bool:=(a.1++(if(!a.2&& !ltC y x)=true then [x]else [])++(if Nv x y=true then []else [y]),a.2 || !ltC y x)
def JK(x:CL)(d:Bool)(L:List CL):List CL × Bool:=L.foldl (stC x) ([],d)
theorem KP(x:CL)(d:Bool)(L:List CL)(y:CL):JK x d (L++ [y])=stC x (JK x d L) y:=by simp[JK,List.foldl_append]
theorem Qk1(x:CL)(d:Bool): ∀L:List CL,(JK x d L).1.length<=L.length+(JK x d L).2.toNat:=fun L=>by
 induction L using Mf with
 | h0=>simp[JK]
 | h1 L y ih=>
  rw[KP];obtain⟨⟨a,b⟩,hr⟩: ∃r,JK x d L=r:=⟨_,rfl⟩;rw[hr]at ih ⊢;cases b<;>cases h3:ltC y x<;>cases h4:Nv x y<;>simp[stC,h3,h4]at ih ⊢ <;>omega
theorem Qib(x:CL): ∀L:List CL,JK x true L=(Kg x.c x.r L,true):=fun L=>by
 induction L using Mf with
 | h0=>rfl
 | h1 L y ih=>
  rw[KP,ih];simp only[stC,Kg,Nv,List.filter_append,List.filter_cons,List.filter_nil];by_cases h:y.c=x.c/\y.r=x.r<;>simp[h]
def Qho(x:CL)(L:List CL):List CL:=L.filter (fun y=>ltC y x)
def Mu(x:CL)(L:List CL):List CL:=L.filter (fun y=> !ltC y x&& !Nv x y)
theorem Qd6(x:CL): ∀L:List CL,L.Pairwise (fun a b=>ltC a b=true)->JK x false L=(Qho x L++(if L.any (fun y=> !ltC y x)=true then [x]else [])++Mu x L,L.any (fun y=> !ltC y x)):=fun L=>by
 induction L using Mf with
 | h0=>intro _;rfl
 | h1 L y ih=>
  intro hp;obtain⟨h1,_,h3⟩:=List.pairwise_append.1 hp;rw[KP,ih h1];cases hy:ltC y x with
  | true=>
   have hall: ∀z∈L,ltC z x=true:=fun z hz=>by
    have h4:=of_decide_eq_true (h3 z hz y (by simp));have h5:=of_decide_eq_true hy;exact decide_eq_true (by omega)
   have hany:L.any (fun y=> !ltC y x)=false:=by
    rw[List.any_eq_false];intro z hz;simp[hall z hz]
   have h6:Mu x L= []:=by
    unfold Mu;rw[List.filter_eq_nil_iff];intro z hz;simp[hall z hz]
   have h7:Nv x y=false:=decide_eq_false (fun e=>by have h5:=of_decide_eq_true hy;omega);have h2:=h6;unfold Mu at h2;simp[stC,hany,hy,h7,Qho,Mu,List.filter_append,h2]
  | false=>
   cases hany:L.any (fun y=> !ltC y x)with
   | true=>
    cases hs:Nv x y<;>simp[stC,hany,hy,hs,Qho,Mu,List.filter_append]
   | false=>
    have hall: ∀z∈L,ltC z x=true:=fun z hz=>by
     have:=List.any_eq_false.1 hany z hz;simpa using this
    have h6:Mu x L= []:=by
     unfold Mu;rw[List.filter_eq_nil_iff];intro z hz;simp[hall z hz]
    have h2:=h6;unfold Mu at h2;cases hs:Nv x y<;>simp[stC,hany,hy,hs,Qho,Mu,List.filter_append,h2]
def Xj(x:CL)(E:List CL):List CL:=if x.s.toList.isEmpty=true then Kg x.c x.r E else Qho x E++ [x]++Mu x E
theorem Ou{x:CL}{E:List CL}(h:E.Pairwise (fun a b=>ltC a b=true)):Xj x E=(let a:=JK x x.s.toList.isEmpty E;if a.2=true then a.1 else a.1++ [x]):=by
 unfold Xj;cases he:x.s.toList.isEmpty with
 | true=>rw[Qib];rfl
 | false=>
  rw[Qd6 x E h];cases hany:E.any (fun y=> !ltC y x)with
  | true=>simp
  | false=>
   have h0:Mu x E= []:=by
    unfold Mu;rw[List.filter_eq_nil_iff];intro z hz;have:=List.any_eq_false.1 hany z hz;simp at this;simp[this]
   simp[h0]
theorem Yp(x:CL)(E:List CL):(Xj x E).Perm (if x.s.toList.isEmpty=true then Kg x.c x.r E else Kg x.c x.r E++ [x]):=by
 unfold Xj;split
 ·exact List.Perm.refl _
 ·have h1:Qho x E=(Kg x.c x.r E).filter (fun y=>ltC y x):=by
   unfold Qho Kg;rw[List.filter_filter];refine List.filter_congr (fun y _=> ?_);cases h:ltC y x with
   | false=>rfl
   | true=>
    have h5:=of_decide_eq_true h;simp only[Bool.true_and];exact(by simp only[Bool.not_eq_true',decide_eq_false_iff_not];omega:(!decide (y.c=x.c/\y.r=x.r))=true).symm
  have h2:Mu x E=(Kg x.c x.r E).filter (fun y=> !ltC y x):=by
   unfold Mu Kg;rw[List.filter_filter];rfl
  rw[h1,h2,List.append_assoc];refine((List.perm_append_comm_assoc _ _ _).trans ?_);refine(List.Perm.append_left [x] (List.filter_append_perm _ _)).trans ?_;exact List.perm_append_comm
theorem Mb{x:CL}{E:List CL}(h:E.Pairwise (fun a b=>ltC a b=true)):(Xj x E).Pairwise (fun a b=>ltC a b=true):=by
 unfold Xj;split
 ·exact h.filter _
 ·have hb: ∀y∈Qho x E,ltC y x=true:=fun y hy=>(List.mem_filter.1 hy).2
  have ha: ∀y∈Mu x E,ltC x y=true:=fun y hy=>by
   have h9:=(List.mem_filter.1 hy).2;simp only[Bool.and_eq_true,Bool.not_eq_true']at h9;have h1:=of_decide_eq_false h9.1;have h2:=of_decide_eq_false h9.2;exact decide_eq_true (by omega)
  refine List.pairwise_append.2 ⟨List.pairwise_append.2 ⟨h.filter _,List.pairwise_singleton _ _,fun a ha' b hb'=> ?_⟩,h.filter _,fun a ha' b hb'=> ?_⟩
  ·rw[List.mem_singleton]at hb';subst hb';exact hb a ha'
  ·have h2:=of_decide_eq_true (ha b hb');rcases List.mem_append.1 ha' with h3 | h3
   ·have h4:=of_decide_eq_true (hb a h3);exact decide_eq_true (by omega)
   ·rw[List.mem_singleton]at h3;subst h3;exact decide_eq_true h2
end Go.Proofs.YtomadadmakdkgaaGreatDoor
namespace Go.Proofs.YtomadadmakdkgaaGreatDoor
open Go.RowKit Go.Maps
theorem Qw{ops:Array Oper}{rest:List Oper}{o:Oper}{a:Act}{Q:Exit->Act->World->Prop}{W:World}(hgd:o.guard=none)(s x:Operand)(ho:o.op= .call {callee:= .builtin .append,args:= #[s,x],argTypes:= #[24,24]})(B:Nat)(v:Value)(n:Nat)(L:List CL)(hs:a.eval s=v)
  (hown:W.ownsRow B 70 3 v n (QH CL.cs L)) (c r:Int) (tx:ByteArray) (g:Nat) (hx:a.eval x= H (some ⟨g,0,none⟩) 1 1) (h0:W.cell? ⟨g,0,none⟩=some (f F c)) (h1:W.cell? ⟨g,1,none⟩=some (f F r)) (h2:W.cell? ⟨g,2,none⟩=some (I tx)) (hn:n<=1099511627776) (hB:B<=W.heap.size)
  (h: ∀v' w',w'.ownsRow B 70 3 v' (n+1) (QH CL.cs (L++ [⟨c,r,tx⟩]))->W.grownBy w' v.ownBlock->wpList prog ops Q rest (a.put o.dst v') w'):wpList prog ops Q (o::rest) a W:=by
 obtain⟨i0,hi,h5,h4,h3⟩:=info_parts Qn3;refine wpList_append_own W hgd s x 24 ho B 70 i0 (jh #[f F 0,f F 0,I ⟨#[]⟩]) 3 32 underlying24 hi h5 h4 h3 rfl (by decide) v n _ hs hown ⟨g,0,none⟩ 1 1 [f F c,f F r,I tx] hx rfl ?_ ?_ ?_ ?_ hB ?_
 ·intro q u hq;match q,hq with
  | 0,hq=>simp at hq;subst hq;simpa[Addr.add]using h0
  | 1,hq=>simp at hq;subst hq;simpa[Addr.add]using h1
  | 2,hq=>simp at hq;subst hq;simpa[Addr.add]using h2
 ·intro u hu;simp at hu;rcases hu with rfl | rfl | rfl<;>rfl
 ·unfold maxLen;omega
 ·omega
 ·intro v' w3 hown' hgrow _;refine h v' w3 ?_ hgrow;rw[BS];exact hown'
def Qan(x:CL)(E:List CL):List CL:=if(JK x x.s.toList.isEmpty E).2=true then(JK x x.s.toList.isEmpty E).1 else(JK x x.s.toList.isEmpty E).1++ [x]
theorem Gu{A:Option Addr}{n cap:Nat}{C R:Nat->Int}{S:Nat->ByteArray}{p q:Int}{s:ByteArray}(w:World)(h:ClRow w A n C R S)(hn:n<=10000):
  Calls prog 103 #[H A n cap,jh #[f F p,f F q],I s] w fun e w'=> ∃A' c' m,e= T (H A' m c')/\(Qan ⟨p,q,s⟩ (clE C R S n)).length=m/\w'.ownsRow w.heap.size 70 3 (H A' m c') m (QH CL.cs (Qan ⟨p,q,s⟩ (clE C R S n)))/\Below w.heap.size w w':=by
 have HR:Hid (ClRow w A n C R S):=h;clear h;obtain⟨x,HX⟩: ∃x:CL,Hid (x=⟨p,q,s⟩):=⟨_,rfl⟩;have g8:Hid ((⟨p,q,s⟩:CL)=x):=HX.out.symm;rw[g8.out];obtain⟨d0,G7⟩: ∃d0:Bool,Hid (s.toList.isEmpty=d0):=⟨_,rfl⟩;have hd0:=G7.out
 go_enter func103,ntmps103;go_wp2_with fail
 obtain⟨u,HU⟩: ∃u,Hid (w.alloc (O #[f F p,f F q] 26)=u):=⟨_,rfl⟩;have G8:Hid (Below w.heap.size w u):=by rw[<-HU.out];exact(Below.refl _ _).alloc (Nat.le_refl _) _
 have h5:Hid (u.heap.size=w.heap.size+1):=by show _=_;rw[<-HU.out];simp
 have p0:u.cell? ⟨w.heap.size,0,none⟩=some (f F p):=by rw[<-HU.out];go_simp
 have p1:u.cell? ⟨w.heap.size,1,none⟩=some (f F q):=by rw[<-HU.out];go_simp
 have P0:Hid (u.cell? ⟨w.heap.size,0,none⟩=some (f F p)):=p0;have P1:Hid (u.cell? ⟨w.heap.size,1,none⟩=some (f F q)):=p1;clear p0 p1;rw[HU.out];have x2:Hid ((u.alloc (O #[] 70)).ownsRow u.heap.size 70 3 (H (some ⟨u.heap.size,0,none⟩) 0 0) 0 []):=Zt (Nat.le_refl _) rfl;go_loopw [7,8,9] (fun v b i wr=> ∃(t:Nat) (A':Option Addr) (k c:Nat),t<=n/\v= H A' k c/\b= jj (JK x d0 (clE C R S t)).2/\i= f F t/\(JK x d0 (clE C R S t)).1.length=k/\wr.ownsRow u.heap.size 70 3 (H A' k c) k (QH CL.cs (JK x d0 (clE C R S t)).1)/\Below u.heap.size u wr) (fun _ _ i _=>n-(intOf i).toNat)
 case atStart=>exact⟨0,_,0,0,Nat.zero_le _,rfl,rfl,rfl,rfl,by have h9:=x2.out;rw[h5.out]at h9;rw[h5.out];exact h9,(Below.refl _ _).alloc (Nat.le_refl _) _⟩
 case round=>
  obtain⟨t,A',k,c,ht,rfl,rfl,rfl,G1,H9,H1⟩:=hrel;obtain⟨⟨LT,dn⟩,G0⟩: ∃r,Hid (JK x d0 (clE C R S t)=r):=⟨_,rfl⟩;rw[G0.out]at G1 H9 ⊢;have g9:Hid (wr.ownsRow u.heap.size 70 3 (H A' k c) k (QH CL.cs LT)):=H9;have H7:Hid (LT.length=k):=G1
  have x1:Hid (k<=t+1):=by
   have h9:=Qk1 x d0 (clE C R S t);rw[G0.out,Yy]at h9;show k<=t+1;rw[<-H7.out];have h8:dn.toNat<=1:=by cases dn<;>decide
   simp only at h9;omega
  have hkt:=x1.out;have KV:Hid (Below u.heap.size u wr):=H1;have G4:=H1.size;have KA:Hid (Below w.heap.size w wr):=G8.out.trans (H1.mono (by have:=h5.out;omega));have y0:=(H1.cell (p:=⟨w.heap.size,0,none⟩) (by show w.heap.size<u.heap.size;have:=h5.out;omega)).trans P0.out;have y1:=(H1.cell (p:=⟨w.heap.size,1,none⟩) (by show w.heap.size<u.heap.size;have:=h5.out;omega)).trans P1.out;have yz:w.heap.size<wr.heap.size:=by have:=h5.out;omega
  clear H9 G1 H1;by_cases G9:t<n
  ·obtain⟨b,o,rfl,hl,c0,c1,c2,_⟩:=HR.out.2 t G9;rw[<-KA.out.cell (p:=⟨_,_,none⟩) hl]at c0 c1 c2;have h0:b<wr.heap.size:=Nat.lt_of_lt_of_le hl KA.out.size;have G3:Hid (b<w.heap.size):=hl;have q0:(0:Int)<=(t:Int):=by omega
   have q1:(t:Int)<(n:Int):=by omega
   obtain⟨y,HY⟩: ∃y:CL,Hid (y=⟨C t,R t,S t⟩):=⟨_,rfl⟩;have g1:Hid (JK x d0 (clE C R S (t+1))=stC x (LT,dn) y):=by show _=_;rw[Dh,<-HY.out,KP,G0.out]
   obtain⟨ah,HA⟩: ∃ah:Bool,Hid (YL (C t) (R t) p q=ah):=⟨_,rfl⟩;have g6:Hid (ltC y x=ah):=by show _=_;rw[HY.out,HX.out];exact HA.out
   have SX:Hid (∀v,stC x (LT,dn) y=v->JK x d0 (clE C R S (t+1))=v):=fun v h9=>g1.out.trans h9;go_upto_region 6 with fail
   go_cut [30]from 13 to 50 (fun v wx=>v= jj (!dn&& !ah)/\Below wr.heap.size wr wx)
   case first=>
    cases dn
    ·go_region_held3 (fun w'=>(∀bq oq,bq<wr.heap.size->w'.cell? ⟨bq,oq,none⟩=wr.cell? ⟨bq,oq,none⟩)/\wr.heap.size<=w'.heap.size/\Below wr.heap.size wr w')
      (exact QE (Nat.le_refl _) (by go_grown))
      (first
      | (go_at_call 60;refine(GQ _ _ _ _ _).mono ?_;rintro e w1 ⟨rfl,hb⟩;rw[HA.out];obtain⟨x0,hz1⟩:=Qk (B:=wr.heap.size) (X:=wr) (by go_grown) (by go_size) hb;have hC:=fun b o h=>x0.cell (p:=⟨b,o,none⟩) h;clear hb))
     all_goals
      go_wp2_with fail
      go_meet;exact⟨rfl,by go_grown⟩
    ·go_quiet (fail)
     go_wp2_with fail
     go_meet;exact⟨rfl,V (Below.refl _ _) _⟩
   case rest=>
    obtain⟨rfl,H6⟩:=hcut;have KC:Hid (Below u.heap.size u wc):=KV.out.trans (H6.mono G4);have H0:=hd (Qd g9.out H6);replace y0:=(H6.cell (p:=⟨w.heap.size,0,none⟩) yz).trans y0;replace y1:=(H6.cell (p:=⟨w.heap.size,1,none⟩) yz).trans y1;replace c0:=(H6.cell (p:=⟨b,_,none⟩) h0).trans c0;replace c1:=(H6.cell (p:=⟨b,_,none⟩) h0).trans c1
    replace c2:=(H6.cell (p:=⟨b,_,none⟩) h0).trans c2;have zx:=H6.size;replace yz:w.heap.size<wc.heap.size:=by omega
    replace h0:b<wc.heap.size:=by omega
    have H5:u.heap.size<=wc.heap.size:=by omega
    clear H6 KV KA g9;have G5:(!dn&& !ah)=false->(dn || !ah)=dn:=by cases dn<;>cases ah<;>simp
    have g7:(!dn&& !ah)=true->(dn || !ah)=true:=by cases dn<;>cases ah<;>simp
    have G2:Hid ((!dn&& !ah)=false->(dn || !ah)=dn):=G5;have g2:Hid ((!dn&& !ah)=true->(dn || !ah)=true):=g7;clear G5 g7;by_cases h4:C t=p/\R t=q
    ·have g0:Hid (Nv x y=true):=by show _=_;rw[HY.out,HX.out];exact decide_eq_true h4
     cases hput:(!dn&& !ah)
     ·have HI:Hid (JK x d0 (clE C R S (t+1))=(LT,dn)):=by
       show _=_;rw[g1.out,stC,g6.out,g0.out,nG (by rw[hput];decide),pS rfl,List.append_nil,List.append_nil,G2.out hput]
      go_wp2_with fail
      go_quiet (fail)
      go_wp2_with fail
      go_roundw
      case rel=>exact⟨t+1,A',k,c,by omega,rfl,by rw[HI.out],by go_num,by rw[HI.out];exact H7.out,by rw[HI.out];exact Qd H0.out (V (Below.refl _ _) _),V KC.out _⟩
      case measure=>simp[intOf];omega
     ·have HI:Hid (JK x d0 (clE C R S (t+1))=(LT++ [⟨p,q,s⟩],true)):=by
       show _=_;rw[g1.out,stC,g6.out,g0.out,pS hput,pS rfl,List.append_nil,g2.out hput,g8.out]
      go_wp2_with (first
       | (at_builtin;refine Qw rfl _ _ rfl u.heap.size (H A' k c) k LT rfl (H0.out.alloc _) p q s wc.heap.size rfl (by simp[go_sem]) (by simp[go_sem]) (by simp[go_sem]) (by omega) (by simp;omega) ?_)
       | fail)
      intro va w6 ho hg;obtain⟨F6,h6,rfl,_,_⟩:=Qr ho;have h3:Below wc.heap.size wc (wc.alloc (O #[f F p,f F q,I s] 70)):=(Below.refl _ _).alloc (Nat.le_refl _) _;have g4:Hid (w6.ownsRow u.heap.size 70 3 (H F6 (k+1) h6) (k+1) (QH CL.cs (LT++ [⟨p,q,s⟩]))):=ho;have K6:Hid (Below u.heap.size u w6):=(KC.out.alloc H5 _).grown hg (by simp;omega) (fun j hj=>(H0.out.lt j hj).1);have nB:some b≠(Value.slice A' k c).ownBlock:=fun e=>by have h8:=(H0.out.lt _ e.symm).1;have h9:=G3.out;have:=h5.out;omega
      have nW:some w.heap.size≠(Value.slice A' k c).ownBlock:=fun e=>by have h8:=(H0.out.lt _ e.symm).1;have:=h5.out;omega
      replace c0:=hg.cell ((h3.cell (p:=⟨b,_,none⟩) h0).trans c0) nB;replace c1:=hg.cell ((h3.cell (p:=⟨b,_,none⟩) h0).trans c1) nB;replace c2:=hg.cell ((h3.cell (p:=⟨b,_,none⟩) h0).trans c2) nB;replace y0:=hg.cell ((h3.cell (p:=⟨w.heap.size,0,none⟩) yz).trans y0) nW;replace y1:=hg.cell ((h3.cell (p:=⟨w.heap.size,1,none⟩) yz).trans y1) nW;have H2:wc.heap.size<=w6.heap.size:=Nat.le_trans h3.size hg.size;replace h0:b<w6.heap.size:=Nat.lt_of_lt_of_le h0 H2
      replace yz:w.heap.size<w6.heap.size:=Nat.lt_of_lt_of_le yz H2;have g5:u.heap.size<=w6.heap.size:=Nat.le_trans H5 H2;clear ho hg h3;go_wp2_with fail
      go_quiet (fail)
      go_wp2_with fail
      go_roundw
      case rel=>exact⟨t+1,F6,k+1,h6,by omega,rfl,by rw[HI.out],by go_num,by rw[HI.out];simp[H7.out],by rw[HI.out];exact Qd g4.out (V (Below.refl _ _) _),V K6.out _⟩
      case measure=>simp[intOf];omega
    ·have g0:Hid (Nv x y=false):=by show _=_;rw[HY.out,HX.out];exact decide_eq_false h4
     by_cases e1:C t=p
     ·have e1c:(C t==p)=true:=beq_iff_eq.2 e1;have e2: ¬R t=q:=fun e=>h4 ⟨e1,e⟩;have e2b:(R t==q)=false:=beq_eq_false_iff_ne.2 e2;clear h4;cases hput:(!dn&& !ah)
      ·have HI:Hid (JK x d0 (clE C R S (t+1))=(LT++ [⟨C t,R t,S t⟩],dn)):=by
        show _=_;rw[g1.out,stC,g6.out,g0.out,nG (by rw[hput];decide),nG (by decide),List.append_nil,G2.out hput,<-HY.out]
       go_wp2_with fail
       go_quiet (fail)
       obtain⟨wq,H3⟩: ∃wq,Hid (wc.drewN nq=wq):=⟨_,rfl⟩;rw[H3.out];have h2:Below wc.heap.size wc wq:=by rw[<-H3.out];exact V (Below.refl _ _) _
       replace c0:=(h2.cell (p:=⟨b,_,none⟩) h0).trans c0;replace c1:=(h2.cell (p:=⟨b,_,none⟩) h0).trans c1;replace c2:=(h2.cell (p:=⟨b,_,none⟩) h0).trans c2;have H4:=hd (Qd H0.out h2);have KQ:Hid (Below u.heap.size u wq):=KC.out.trans (h2.mono H5);have H8:u.heap.size<=wq.heap.size:=Nat.le_trans H5 h2.size;replace h0:b<wq.heap.size:=Nat.lt_of_lt_of_le h0 h2.size
       clear h2
       go_wp2_with (first
        | (at_builtin;refine Qw rfl _ _ rfl u.heap.size (H A' (k) c) (k) (LT) rfl (H4.out.alloc _) (C t) (R t) (S t) wq.heap.size rfl (by simp[go_sem, *]) (by simp[go_sem, *]) (by simp[go_sem, *]) (by omega) (by simp;omega) ?_)
        | fail)
       intro va w7 ho hg;obtain⟨F7,h7,rfl,_,_⟩:=Qr ho
       have g3:Hid (w7.ownsRow u.heap.size 70 3 (H F7 (k+1) h7) (k+1) (QH CL.cs (LT++ [⟨C t,R t,S t⟩]))):=by
        show w7.ownsRow u.heap.size 70 3 (H F7 (k+1) h7) (k+1) (QH CL.cs (LT++ [⟨C t,R t,S t⟩]));first | exact ho | (rw[e1];exact ho) | (rw[List.append_assoc];exact ho) | (rw[List.append_assoc,e1];exact ho)
       have K7:Hid (Below u.heap.size u w7):=(KQ.out.alloc H8 _).grown hg (by simp;omega) (fun j hj=>(H4.out.lt j hj).1);clear ho hg;go_wp2_with fail
       go_roundw
       case rel=>exact⟨t+1,F7,k+1,h7,by omega,rfl,by rw[HI.out],by go_num,by rw[HI.out];simp[H7.out],by rw[HI.out];exact g3.out,K7.out⟩
       case measure=>simp[intOf];omega
      ·have HI:Hid (JK x d0 (clE C R S (t+1))=(LT++ [⟨p,q,s⟩]++ [⟨C t,R t,S t⟩],true)):=by
        show _=_;rw[g1.out,stC,g6.out,g0.out,pS hput,nG (by decide),g2.out hput,g8.out,<-HY.out]
       go_wp2_with (first
        | (at_builtin;refine Qw rfl _ _ rfl u.heap.size (H A' k c) k LT rfl (H0.out.alloc _) p q s wc.heap.size rfl (by simp[go_sem]) (by simp[go_sem]) (by simp[go_sem]) (by omega) (by simp;omega) ?_)
        | fail)
       intro va w6 ho hg;obtain⟨F6,h6,rfl,_,_⟩:=Qr ho;have h3:Below wc.heap.size wc (wc.alloc (O #[f F p,f F q,I s] 70)):=(Below.refl _ _).alloc (Nat.le_refl _) _;have g4:Hid (w6.ownsRow u.heap.size 70 3 (H F6 (k+1) h6) (k+1) (QH CL.cs (LT++ [⟨p,q,s⟩]))):=ho;have K6:Hid (Below u.heap.size u w6):=(KC.out.alloc H5 _).grown hg (by simp;omega) (fun j hj=>(H0.out.lt j hj).1);have nB:some b≠(Value.slice A' k c).ownBlock:=fun e=>by have h8:=(H0.out.lt _ e.symm).1;have h9:=G3.out;have:=h5.out;omega
       have nW:some w.heap.size≠(Value.slice A' k c).ownBlock:=fun e=>by have h8:=(H0.out.lt _ e.symm).1;have:=h5.out;omega
       replace c0:=hg.cell ((h3.cell (p:=⟨b,_,none⟩) h0).trans c0) nB;replace c1:=hg.cell ((h3.cell (p:=⟨b,_,none⟩) h0).trans c1) nB;replace c2:=hg.cell ((h3.cell (p:=⟨b,_,none⟩) h0).trans c2) nB;replace y0:=hg.cell ((h3.cell (p:=⟨w.heap.size,0,none⟩) yz).trans y0) nW;replace y1:=hg.cell ((h3.cell (p:=⟨w.heap.size,1,none⟩) yz).trans y1) nW;have H2:wc.heap.size<=w6.heap.size:=Nat.le_trans h3.size hg.size;replace h0:b<w6.heap.size:=Nat.lt_of_lt_of_le h0 H2
       replace yz:w.heap.size<w6.heap.size:=Nat.lt_of_lt_of_le yz H2;have g5:u.heap.size<=w6.heap.size:=Nat.le_trans H5 H2;clear ho hg h3;go_wp2_with fail
       go_quiet (fail)
       obtain⟨wq,H3⟩: ∃wq,Hid (w6.drewN nq=wq):=⟨_,rfl⟩;rw[H3.out];have h2:Below w6.heap.size w6 wq:=by rw[<-H3.out];exact V (Below.refl _ _) _
       replace c0:=(h2.cell (p:=⟨b,_,none⟩) h0).trans c0;replace c1:=(h2.cell (p:=⟨b,_,none⟩) h0).trans c1;replace c2:=(h2.cell (p:=⟨b,_,none⟩) h0).trans c2;have H4:=hd (Qd g4.out h2);have KQ:Hid (Below u.heap.size u wq):=K6.out.trans (h2.mono g5);have H8:u.heap.size<=wq.heap.size:=Nat.le_trans g5 h2.size;replace h0:b<wq.heap.size:=Nat.lt_of_lt_of_le h0 h2.size
       clear h2
       go_wp2_with (first
        | (at_builtin;refine Qw rfl _ _ rfl u.heap.size (H F6 (k+1) h6) (k+1) (LT++ [⟨p,q,s⟩]) rfl (H4.out.alloc _) (C t) (R t) (S t) wq.heap.size rfl (by simp[go_sem, *]) (by simp[go_sem, *]) (by simp[go_sem, *]) (by omega) (by simp;omega) ?_)
        | fail)
       intro va w7 ho hg;obtain⟨F7,h7,rfl,_,_⟩:=Qr ho
       have g3:Hid (w7.ownsRow u.heap.size 70 3 (H F7 (k+1+1) h7) (k+1+1) (QH CL.cs (LT++ [⟨p,q,s⟩]++ [⟨C t,R t,S t⟩]))):=by
        show w7.ownsRow u.heap.size 70 3 (H F7 (k+1+1) h7) (k+1+1) (QH CL.cs (LT++ [⟨p,q,s⟩]++ [⟨C t,R t,S t⟩]));first | exact ho | (rw[e1];exact ho) | (rw[List.append_assoc];exact ho) | (rw[List.append_assoc,e1];exact ho)
       have K7:Hid (Below u.heap.size u w7):=(KQ.out.alloc H8 _).grown hg (by simp;omega) (fun j hj=>(H4.out.lt j hj).1);clear ho hg;go_wp2_with fail
       go_roundw
       case rel=>exact⟨t+1,F7,k+1+1,h7,by omega,rfl,by rw[HI.out],by go_num,by rw[HI.out];simp[H7.out],by rw[HI.out];exact g3.out,K7.out⟩
       case measure=>simp[intOf];omega
     ·have e1b:(C t==p)=false:=beq_eq_false_iff_ne.2 e1;clear h4;cases hput:(!dn&& !ah)
      ·have HI:Hid (JK x d0 (clE C R S (t+1))=(LT++ [⟨C t,R t,S t⟩],dn)):=by
        show _=_;rw[g1.out,stC,g6.out,g0.out,nG (by rw[hput];decide),nG (by decide),List.append_nil,G2.out hput,<-HY.out]
       go_wp2_with fail
       go_quiet (fail)
       obtain⟨wq,H3⟩: ∃wq,Hid (wc.drewN nq=wq):=⟨_,rfl⟩;rw[H3.out];have h2:Below wc.heap.size wc wq:=by rw[<-H3.out];exact V (Below.refl _ _) _
       replace c0:=(h2.cell (p:=⟨b,_,none⟩) h0).trans c0;replace c1:=(h2.cell (p:=⟨b,_,none⟩) h0).trans c1;replace c2:=(h2.cell (p:=⟨b,_,none⟩) h0).trans c2;have H4:=hd (Qd H0.out h2);have KQ:Hid (Below u.heap.size u wq):=KC.out.trans (h2.mono H5);have H8:u.heap.size<=wq.heap.size:=Nat.le_trans H5 h2.size;replace h0:b<wq.heap.size:=Nat.lt_of_lt_of_le h0 h2.size
       clear h2
       go_wp2_with (first
        | (at_builtin;refine Qw rfl _ _ rfl u.heap.size (H A' (k) c) (k) (LT) rfl (H4.out.alloc _) (C t) (R t) (S t) wq.heap.size rfl (by simp[go_sem, *]) (by simp[go_sem, *]) (by simp[go_sem, *]) (by omega) (by simp;omega) ?_)
        | fail)
       intro va w7 ho hg;obtain⟨F7,h7,rfl,_,_⟩:=Qr ho
       have g3:Hid (w7.ownsRow u.heap.size 70 3 (H F7 (k+1) h7) (k+1) (QH CL.cs (LT++ [⟨C t,R t,S t⟩]))):=by
        show w7.ownsRow u.heap.size 70 3 (H F7 (k+1) h7) (k+1) (QH CL.cs (LT++ [⟨C t,R t,S t⟩]));first | exact ho | (rw[e1];exact ho) | (rw[List.append_assoc];exact ho) | (rw[List.append_assoc,e1];exact ho)
       have K7:Hid (Below u.heap.size u w7):=(KQ.out.alloc H8 _).grown hg (by simp;omega) (fun j hj=>(H4.out.lt j hj).1);clear ho hg;go_wp2_with fail
       go_roundw
       case rel=>exact⟨t+1,F7,k+1,h7,by omega,rfl,by rw[HI.out],by go_num,by rw[HI.out];simp[H7.out],by rw[HI.out];exact g3.out,K7.out⟩
       case measure=>simp[intOf];omega
      ·have HI:Hid (JK x d0 (clE C R S (t+1))=(LT++ [⟨p,q,s⟩]++ [⟨C t,R t,S t⟩],true)):=by
        show _=_;rw[g1.out,stC,g6.out,g0.out,pS hput,nG (by decide),g2.out hput,g8.out,<-HY.out]
       go_wp2_with (first
        | (at_builtin;refine Qw rfl _ _ rfl u.heap.size (H A' k c) k LT rfl (H0.out.alloc _) p q s wc.heap.size rfl (by simp[go_sem]) (by simp[go_sem]) (by simp[go_sem]) (by omega) (by simp;omega) ?_)
        | fail)
       intro va w6 ho hg;obtain⟨F6,h6,rfl,_,_⟩:=Qr ho;have h3:Below wc.heap.size wc (wc.alloc (O #[f F p,f F q,I s] 70)):=(Below.refl _ _).alloc (Nat.le_refl _) _;have g4:Hid (w6.ownsRow u.heap.size 70 3 (H F6 (k+1) h6) (k+1) (QH CL.cs (LT++ [⟨p,q,s⟩]))):=ho;have K6:Hid (Below u.heap.size u w6):=(KC.out.alloc H5 _).grown hg (by simp;omega) (fun j hj=>(H0.out.lt j hj).1);have nB:some b≠(Value.slice A' k c).ownBlock:=fun e=>by have h8:=(H0.out.lt _ e.symm).1;have h9:=G3.out;have:=h5.out;omega
       have nW:some w.heap.size≠(Value.slice A' k c).ownBlock:=fun e=>by have h8:=(H0.out.lt _ e.symm).1;have:=h5.out;omega
       replace c0:=hg.cell ((h3.cell (p:=⟨b,_,none⟩) h0).trans c0) nB;replace c1:=hg.cell ((h3.cell (p:=⟨b,_,none⟩) h0).trans c1) nB;replace c2:=hg.cell ((h3.cell (p:=⟨b,_,none⟩) h0).trans c2) nB;replace y0:=hg.cell ((h3.cell (p:=⟨w.heap.size,0,none⟩) yz).trans y0) nW;replace y1:=hg.cell ((h3.cell (p:=⟨w.heap.size,1,none⟩) yz).trans y1) nW;have H2:wc.heap.size<=w6.heap.size:=Nat.le_trans h3.size hg.size;replace h0:b<w6.heap.size:=Nat.lt_of_lt_of_le h0 H2
       replace yz:w.heap.size<w6.heap.size:=Nat.lt_of_lt_of_le yz H2;have g5:u.heap.size<=w6.heap.size:=Nat.le_trans H5 H2;clear ho hg h3;go_wp2_with fail
       go_quiet (fail)
       obtain⟨wq,H3⟩: ∃wq,Hid (w6.drewN nq=wq):=⟨_,rfl⟩;rw[H3.out];have h2:Below w6.heap.size w6 wq:=by rw[<-H3.out];exact V (Below.refl _ _) _
       replace c0:=(h2.cell (p:=⟨b,_,none⟩) h0).trans c0;replace c1:=(h2.cell (p:=⟨b,_,none⟩) h0).trans c1;replace c2:=(h2.cell (p:=⟨b,_,none⟩) h0).trans c2;have H4:=hd (Qd g4.out h2);have KQ:Hid (Below u.heap.size u wq):=K6.out.trans (h2.mono g5);have H8:u.heap.size<=wq.heap.size:=Nat.le_trans g5 h2.size;replace h0:b<wq.heap.size:=Nat.lt_of_lt_of_le h0 h2.size
       clear h2
       go_wp2_with (first
        | (at_builtin;refine Qw rfl _ _ rfl u.heap.size (H F6 (k+1) h6) (k+1) (LT++ [⟨p,q,s⟩]) rfl (H4.out.alloc _) (C t) (R t) (S t) wq.heap.size rfl (by simp[go_sem, *]) (by simp[go_sem, *]) (by simp[go_sem, *]) (by omega) (by simp;omega) ?_)
        | fail)
       intro va w7 ho hg;obtain⟨F7,h7,rfl,_,_⟩:=Qr ho
       have g3:Hid (w7.ownsRow u.heap.size 70 3 (H F7 (k+1+1) h7) (k+1+1) (QH CL.cs (LT++ [⟨p,q,s⟩]++ [⟨C t,R t,S t⟩]))):=by
        show w7.ownsRow u.heap.size 70 3 (H F7 (k+1+1) h7) (k+1+1) (QH CL.cs (LT++ [⟨p,q,s⟩]++ [⟨C t,R t,S t⟩]));first | exact ho | (rw[e1];exact ho) | (rw[List.append_assoc];exact ho) | (rw[List.append_assoc,e1];exact ho)
       have K7:Hid (Below u.heap.size u w7):=(KQ.out.alloc H8 _).grown hg (by simp;omega) (fun j hj=>(H4.out.lt j hj).1);clear ho hg;go_wp2_with fail
       go_roundw
       case rel=>exact⟨t+1,F7,k+1+1,h7,by omega,rfl,by rw[HI.out],by go_num,by rw[HI.out];simp[H7.out],by rw[HI.out];exact g3.out,K7.out⟩
       case measure=>simp[intOf];omega
  ·have h1: ¬(t:Int)<(n:Int):=by omega
   obtain rfl:n=t:=by omega
   have G6:Hid (x.s.toList.isEmpty=d0):=by show _=_;rw[HX.out];exact G7.out
   cases dn
   ·have HI:Hid (Qan x (clE C R S n)=LT++ [⟨p,q,s⟩]):=by show _=_;rw[Qan,G6.out,G0.out,nG (fun e=>by cases e),g8.out]
    go_wp2_with (first
     | (at_builtin;refine Qw rfl _ _ rfl u.heap.size (H A' k c) k LT rfl (g9.out.alloc _) p q s wr.heap.size rfl (by simp[go_sem]) (by simp[go_sem]) (by simp[go_sem]) (by omega) (by simp;omega) ?_)
     | fail)
    intro va w6 ho hg;obtain⟨F6,h6,rfl,_,_⟩:=Qr ho;have g4:Hid (w6.ownsRow u.heap.size 70 3 (H F6 (k+1) h6) (k+1) (QH CL.cs (LT++ [⟨p,q,s⟩]))):=ho;have K6:Hid (Below u.heap.size u w6):=(KV.out.alloc G4 _).grown hg (by simp;omega) (fun j hj=>(g9.out.lt j hj).1);clear ho hg;go_wp2_with fail
    go_ret;refine⟨F6,h6,k+1,rfl,by rw[HI.out];simp[H7.out],?_,G8.out.trans (K6.out.mono (by have:=h5.out;omega))⟩;rw[HI.out];exact ownsRow_base_a g4.out (by have:=h5.out;omega)
   ·have HI:Hid (Qan x (clE C R S n)=LT):=by show _=_;rw[Qan,G6.out,G0.out,pS rfl]
    go_wp2_with fail
    go_ret;refine⟨A',c,k,rfl,by rw[HI.out];exact H7.out,?_,KA.out⟩;rw[HI.out];exact ownsRow_base_a g9.out (by have:=h5.out;omega)
theorem Qp7{C R:Nat->Int}{S:Nat->ByteArray}{n:Nat}(h:Gw C R n=true):(∀i,i<n->Qf (C i) (R i)=true)/\(clE C R S n).Pairwise (fun a b=>ltC a b=true):=by
 have hr: ∀i,i<n->Zs C R i=true:=fun i hi=>List.all_eq_true.1 h i (List.mem_range.2 hi)
 have hs: ∀i,i+1<n->YL (C i) (R i) (C (i+1)) (R (i+1))=true:=fun i hi=>by
  have h9:=hr (i+1) hi;simp only[Zs,Bool.and_eq_true,Bool.or_eq_true,decide_eq_true_eq]at h9;rcases h9.2 with e | e
  ·omega
  ·exact e
 have ht: ∀i j,i<j->j<n->YL (C i) (R i) (C j) (R j)=true:=fun i j=>by
  induction j with
  | zero=>intro hi;omega
  | succ j ih=>
   intro hi hj;have h1:=hs j hj;by_cases e:i=j
   ·subst e;exact h1
   ·have h2:=of_decide_eq_true (ih (by omega) (by omega));have h3:=of_decide_eq_true h1;exact decide_eq_true (by omega)
 refine⟨fun i hi=> ?_,?_⟩
 ·have h9:=hr i hi;simp only[Zs,Bool.and_eq_true]at h9;exact h9.1
 ·rw[List.pairwise_iff_getElem];intro i j hi hj hij;rw[Yy]at hi hj;simp only[clE,List.getElem_map,List.getElem_range];exact ht i j hij hj
theorem Qbd{s t:ByteArray}(h:inF s=some t):t.size<=200:=by
 unfold inF at h;split at h
 ·unfold lim at h;split at h
  ·split at h
   ·cases h;assumption
   ·cases h
  ·cases h
 ·cases h
theorem Yj{C R:Nat->Int}{S:Nat->ByteArray}{n:Nat}(h:QA C R S n=true):n<=120/\(∀i,i<n->Qf (C i) (R i)=true)/\(clE C R S n).Pairwise (fun a b=>ltC a b=true):=by
 unfold QA at h;simp only[Bool.and_eq_true,decide_eq_true_eq]at h;exact⟨h.1.1,Qp7 h.1.2⟩
end Go.Proofs.YtomadadmakdkgaaGreatDoor
