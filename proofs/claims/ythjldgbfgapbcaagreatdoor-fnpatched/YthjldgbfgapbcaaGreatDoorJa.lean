import Derived.Test.YthjldgbfgapbcaaGreatDoorMn
import Derived.Test.YthjldgbfgapbcaaGreatDoorGhd
import Derived.Test.YthjldgbfgapbcaaGreatDoorGgc
import Derived.RangeFuncCalls
import Derived.Test.YthjldgbfgapbcaaGreatDoorGhc
import Derived.Test.YthjldgbfgapbcaaGreatDoorGge
import Derived.Test.YthjldgbfgapbcaaGreatDoorGze
set_option linter.unusedSimpArgs false
set_option linter.unusedVariables false
set_option maxHeartbeats 8000000
set_option maxRecDepth 100000
namespace Go.Proofs.YthjldgbfgapbcaaGreatDoor
open Go.RowKit Go.Maps Go.Sort Go.Shelf
attribute [local go_sem] Oper.semAt_some
theorem Qll:27≠40:=by decide
def Nk : Code := ((Code.region 3 #[{ dst := some 6, op := Op.alloc 38, type := 0, pos := "l09_diffs.go:23", after := #[], guard := none }, { dst := none, op := Op.store 38 (Operand.tmp 6) (Operand.tmp 12), type := 0, pos := "l09_diffs.go:23", after := #[{ on := 0, ground := Ground.data }, { on := 0, ground := Ground.phase }], guard := none }] false).seq (Code.region 4 #[{ dst := some 7, op := Op.assign (Operand.tmp 13), type := 74, pos := "l09_diffs.go:23", after := #[], guard := none }] false))
def Qc2 : Code := (Code.block 1 ((Code.region 5 #[{ dst := some 14, op := Op.move (Operand.tmp 7), type := 74, pos := "l09_diffs.go:24", after := #[], guard := none }, { dst := some 15, op := Op.indexAddr 74 (Operand.tmp 14) (Operand.const (Value.int IntKind.i64 0)), type := 0, pos := "l09_diffs.go:24", after := #[{ on := 0, ground := Ground.data }], guard := none }, { dst := some 16, op := Op.load 9 (Operand.tmp 15), type := 9, pos := "l09_diffs.go:24", after := #[{ on := 1, ground := Ground.data }], guard := none }, { dst := some 17, op := Op.move (Operand.tmp 7), type := 74, pos := "l09_diffs.go:24", after := #[], guard := none }, { dst := some 18, op := Op.indexAddr 74 (Operand.tmp 17) (Operand.const (Value.int IntKind.i64 1)), type := 0, pos := "l09_diffs.go:24", after := #[{ on := 3, ground := Ground.data }], guard := none }, { dst := some 19, op := Op.load 9 (Operand.tmp 18), type := 9, pos := "l09_diffs.go:24", after := #[{ on := 4, ground := Ground.data }], guard := none }, { dst := some 20, op := Op.binOp BinOp.neq 9 (Operand.tmp 16) (Operand.tmp 19) 9, type := 4, pos := "l09_diffs.go:24", after := #[{ on := 2, ground := Ground.data }, { on := 5, ground := Ground.data }], guard := none }] true).seq (Code.cond (Operand.tmp 20) (Code.region 6 #[{ dst := some 21, op := Op.load 27 (Operand.tmp 5), type := 27, pos := "l09_diffs.go:25", after := #[], guard := none }, { dst := some 22, op := Op.load 38 (Operand.tmp 6), type := 38, pos := "l09_diffs.go:25", after := #[], guard := none }, { dst := some 23, op := Op.move (Operand.tmp 7), type := 74, pos := "l09_diffs.go:25", after := #[], guard := none }, { dst := some 24, op := Op.indexAddr 74 (Operand.tmp 23) (Operand.const (Value.int IntKind.i64 0)), type := 0, pos := "l09_diffs.go:25", after := #[{ on := 2, ground := Ground.data }], guard := none }, { dst := some 25, op := Op.load 9 (Operand.tmp 24), type := 9, pos := "l09_diffs.go:25", after := #[{ on := 3, ground := Ground.data }], guard := none }, { dst := some 26, op := Op.move (Operand.tmp 7), type := 74, pos := "l09_diffs.go:25", after := #[], guard := none }, { dst := some 27, op := Op.indexAddr 74 (Operand.tmp 26) (Operand.const (Value.int IntKind.i64 1)), type := 0, pos := "l09_diffs.go:25", after := #[{ on := 5, ground := Ground.data }], guard := none }, { dst := some 28, op := Op.load 9 (Operand.tmp 27), type := 9, pos := "l09_diffs.go:25", after := #[{ on := 6, ground := Ground.data }], guard := none }, { dst := some 29, op := Op.build 40 #[(0, Operand.tmp 22), (1, Operand.tmp 25), (2, Operand.tmp 28)], type := 40, pos := "l09_diffs.go:25", after := #[{ on := 1, ground := Ground.data }, { on := 4, ground := Ground.data }, { on := 7, ground := Ground.data }], guard := none }, { dst := some 30, op := Op.buildSlice 27 1 #[(0, Operand.tmp 29)], type := 27, pos := "l09_diffs.go:25", after := #[{ on := 8, ground := Ground.data }], guard := none }, { dst := some 31, op := Op.call { callee := Callee.builtin Builtin.append, args := #[Operand.tmp 21, Operand.tmp 30], argTypes := #[27, 27] }, type := 27, pos := "l09_diffs.go:25", after := #[{ on := 0, ground := Ground.data }, { on := 9, ground := Ground.data }], guard := none }, { dst := none, op := Op.store 27 (Operand.tmp 5) (Operand.tmp 31), type := 0, pos := "l09_diffs.go:25", after := #[{ on := 10, ground := Ground.data }, { on := 10, ground := Ground.chain }, { on := 0, ground := Ground.phase }, { on := 1, ground := Ground.phase }, { on := 2, ground := Ground.phase }, { on := 3, ground := Ground.phase }, { on := 4, ground := Ground.phase }, { on := 5, ground := Ground.phase }, { on := 6, ground := Ground.phase }, { on := 7, ground := Ground.phase }, { on := 8, ground := Ground.phase }, { on := 9, ground := Ground.phase }, { on := 10, ground := Ground.phase }], guard := none }] true) Code.skip)))
def UC (fn:FuncId) (va vb vs sv:Value) (Bs D:Nat) (st:LoopState) (pend:Option Code):Loop:=
 {state:=st,pending:=pend,fn,tmps:= #[va,vb,undef,undef,.slice none 0 0,.pointer (some ⟨Bs,0,none⟩),undef,undef,va,vb,vs,sv,undef,undef,undef,undef,undef,undef,undef,undef,undef,undef,undef,undef,undef,undef,undef,undef,undef,undef,undef,undef,undef],params:= #[12,13],assign:=Nk,body:=Qc2,defers:=D}
def dcL (a b:List CL) (pre:List CL):List CH:=(pre.map (fun m=>(⟨m.c,m.r,atC m.c m.r a,atC m.c m.r b⟩:CH))).filter neH
theorem Qj0 (a b pre:List CL) (m:CL):dcL a b (pre++ [m])=dcL a b pre++(if neH ⟨m.c,m.r,atC m.c m.r a,atC m.c m.r b⟩=true then [⟨m.c,m.r,atC m.c m.r a,atC m.c m.r b⟩]else []):=by
 unfold dcL;rw [List.map_append,List.filter_append];congr 1
 by_cases h:neH ⟨m.c,m.r,atC m.c m.r a,atC m.c m.r b⟩=true<;>simp [h]
theorem Qpa (a b pre:List CL):(dcL a b pre).length≤pre.length:=Nat.le_trans (List.length_filter_le _ _) (by simp)
structure DcAt (w0:World) (fn:FuncId) (va vb vs sv:Value) (Bs l D:Nat) (a b:List CL) (H:Nat) (pre:List CL) (W:World):Prop where
 box: ∃v,W.heap[Bs]? =some (.cells #[v] 27 (0,0))∧W.ownsRow H 40 4 v (dcL a b pre).length (Qu chL (dcL a b pre))
 L:W.heap[l]? =some (.loop (UC fn va vb vs sv Bs D .ready none))
 K:W.heap[D]? =some (.deferred (some []))
 below:Below w0.heap.size w0 W
 size:H≤W.heap.size
theorem DcAt.later {w0:World} {fn:FuncId} {va vb vs sv:Value} {Bs l D:Nat} {a b:List CL} {H:Nat} {pre:List CL} {W W':World} (h:DcAt w0 fn va vb vs sv Bs l D a b H pre W) (hb:Below W.heap.size W W'):DcAt w0 fn va vb vs sv Bs l D a b H pre W':=by
 obtain⟨v,hv,hr⟩:=h.box;exact⟨⟨v,(hb.block Bs (Array.getElem?_eq_some_iff.1 hv).1).trans hv,Qe hr hb⟩,(hb.block l (Array.getElem?_eq_some_iff.1 h.L).1).trans h.L,(hb.block D (Array.getElem?_eq_some_iff.1 h.K).1).trans h.K,Qb h.below hb,Nat.le_trans h.size hb.size⟩
theorem Un {W:World} {ops:Array Oper} {o:Oper} {a:Act} {K:Act→World→Prop} {Q:Exit→Act→World→Prop} {E:Prop} (hgd:o.guard=none) (s x:Operand) (ho:o.op= .call {callee:= .builtin .append,args:= #[s,x],argTypes:= #[27,27]}) (B:Nat) (v:Value) (n:Nat) (xs:List Value) (hs:a.eval s=v)
  (hown:W.ownsRow B 40 4 v n xs) (z:CH) (g:Nat) (hx:a.eval x= .slice (some ⟨g,0,none⟩) 1 1) (hc: ∀j u,(chL z)[j]? =some u→W.cell? ((⟨g,0,none⟩:Addr).add j)=some u) (hn:n≤1099511627776) (hB:B≤W.heap.size)
  (h: ∀v' w',w'.ownsRow B 40 4 v' (n+1) (xs++chL z)→W.grownBy w' v.ownBlock→K (a.put o.dst v') w'):
  if Region.wanted o (yielded ops a.tmps)=true then Oper.wp Tryz.prog o a W K Q else E:=by
 have hw:Region.wanted o (yielded ops a.tmps)=true:=by simp [Region.wanted,hgd]
 rw [if_pos hw];obtain⟨i0,hi,iz0,iz1,iz2⟩:=info_parts BS;refine wp_append_own W s x 27 ho B 40 i0 (.agg #[.int .i64 0,.int .i64 0,.string ⟨#[]⟩,.string ⟨#[]⟩]) 4 48 Tryz.underlying27 hi iz0 iz1 iz2 rfl (by decide) v n xs hs hown ⟨g,0,none⟩ 1 1 (chL z) hx rfl hc ?_ ?_ ?_ hB ?_
 ·intro u hu;simp [chL]at hu;rcases hu with rfl | rfl | rfl | rfl<;>rfl
 ·unfold maxLen;omega
 ·omega
 ·intro v' w3 hown' hgrow _;exact h v' w3 hown' hgrow
theorem Qr1 (W:World) (z:CH): ∀j u,(chL z)[j]? =some u→(W.alloc (.cells #[.int .i64 z.c,.int .i64 z.r,.string z.f,.string z.t] 40)).cell? ((⟨W.heap.size,0,none⟩:Addr).add j)=some u:=fun j u hu=>by
 match j,hu with
 | 0,hu=>cases hu;simp [Addr.add]
 | 1,hu=>cases hu;simp [Addr.add]
 | 2,hu=>cases hu;simp [Addr.add]
 | 3,hu=>cases hu;simp [Addr.add]
theorem Ql0 {w0 W Z:World} {fn:FuncId} {va vb vs sv v':Value} {Bs l D B0 H:Nat} {a b pre:List CL} {x:CL} {DL':List CH} (hBl:Bs≠l) (hDl:D≠l) (h0l:w0.heap.size≤l) (hl0:l<B0) (hH:B0≤H) (hL:Z.heap[l]? =some (.loop {UC fn va vb vs sv Bs D .ready none with state:= .busy})) (hv:Z.heap[Bs]? =some (.cells #[v'] 27 (0,0))) (hK:Z.heap[D]? =some (.deferred (some [])))
  (hrow:Z.ownsRow H 40 4 v' DL'.length (Qu chL DL')) (hb:Below w0.heap.size w0 Z) (hs:H≤Z.heap.size) (hf: ∀k:Nat,B0≤k→k<H→Z.heap[k]? =W.heap[k]?) (hz:W.heap.size≤Z.heap.size) (hDL:dcL a b (pre++ [x])=DL'):
  ∃vv w',(Instr.endRound l none).run Tryz.prog Z= .ok vv w'∧(Ending.returned vv= .returned (.bool true)∧DcAt w0 fn va vb vs sv Bs l D a b H (pre++ [x]) w'∧(∀k:Nat,B0≤k→k<H→w'.heap[k]? =W.heap[k]?)∧W.heap.size≤w'.heap.size):=by
 have hl:l<Z.heap.size:=(Array.getElem?_eq_some_iff.1 hL).1;refine⟨_,_,run_endRound none hL,rfl,⟨⟨_,(World.putObj_heap_other hBl).trans hv,?_⟩,World.putObj_heap_same hl,(World.putObj_heap_other hDl).trans hK,hb.grown (grownBy_putObj_a _ _ _) hb.size (fun k e=>by cases e;exact h0l),Nat.le_trans hs (grownBy_putObj_a Z l _).size⟩,fun k h1 h2=>(World.putObj_heap_other (by omega)).trans (hf k h1 h2),Nat.le_trans hz (grownBy_putObj_a Z l _).size⟩;rw [hDL];exact hrow.kept (grownBy_putObj_a Z l _) (ownsRow_ne_a hrow hL (fun cur e=>by cases e))
theorem Qo9 (m:Nat) (w0:World) (fn:FuncId) (va vb vs sv:Value) (Bs l D:Nat) (a b:List CL) (B0:Nat) (hB0:Bs<B0) (hl0:l<B0) (hD0:D<B0) (hBl:Bs≠l) (hDl:D≠l) (hDB:D≠Bs) (h0B:w0.heap.size≤Bs) (h0l:w0.heap.size≤l)
  (H:Nat) (hH:B0≤H) (pre:List CL) (x:CL) (A:Option Addr) (cc:Nat) (W:World) (h:DcAt w0 fn va vb vs sv Bs l D a b H pre W) (hlen:pre.length<1000) (hsr: ∃B,W.ownsRow B 9 1 (.slice A 2 cc) 2 (Qu stL [atC x.c x.r a,atC x.c x.r b])):
  YieldAt Fence.wide m Tryz.prog l #[.agg #[.int .i64 x.c,.int .i64 x.r],.slice A 2 cc] W fun e W'=>e= .returned (.bool true)∧DcAt w0 fn va vb vs sv Bs l D a b H (pre++ [x]) W'∧(∀k:Nat,B0≤k→k<H→W'.heap[k]? =W.heap[k]?)∧W.heap.size≤W'.heap.size:=by
 have hne:=Qll;obtain⟨i0,hi,hz0,hz1,hz2⟩:=info_parts BS;obtain⟨v,hv,hrow⟩:=h.box;obtain⟨xc,xr,xs⟩:=x;simp only at hsr ⊢;obtain⟨sa,HSA⟩: ∃sa,Hid (atC xc xr a=sa):=⟨_,rfl⟩;obtain⟨sb,HSB⟩: ∃sb,Hid (atC xc xr b=sb):=⟨_,rfl⟩
 rw [HSA.out,HSB.out]at hsr;have HNX:Hid (dcL a b (pre++ [⟨xc,xr,xs⟩])=dcL a b pre++(if neH ⟨xc,xr,sa,sb⟩=true then [⟨xc,xr,sa,sb⟩]else [])):=by show _=_;rw [Qj0];simp only [HSA.out,HSB.out]
 obtain⟨DL,HDL⟩: ∃DL,Hid (dcL a b pre=DL):=⟨_,rfl⟩;have hdl:DL.length<1000:=by rw [←HDL.out];have:=Qpa a b pre;omega
 rw [HDL.out]at hrow;have hmix:Tryz.prog.follows .mixedOrders=true:=by kernel_rfl
 refine⟨fn,#[va,vb,undef,undef,.slice none 0 0,.pointer (some ⟨Bs,0,none⟩),undef,undef,va,vb,vs,sv,.agg #[.int .i64 xc,.int .i64 xr],.slice A 2 cc,undef,undef,undef,undef,undef,undef,undef,undef,undef,undef,undef,undef,undef,undef,undef,undef,undef,undef,undef],Nk,Qc2,by simpa [UC]using run_yield (P:=Tryz.prog) (args:= #[.agg #[.int .i64 xc,.int .i64 xr],.slice A 2 cc]) h.L rfl,roundIn_of_wpIn trivial ?_⟩;have hl:l<W.heap.size:=(Array.getElem?_eq_some_iff.1 h.L).1;have hBW:Bs<W.heap.size:=(Array.getElem?_eq_some_iff.1 hv).1;have hDW:D<W.heap.size:=(Array.getElem?_eq_some_iff.1 h.K).1;obtain⟨Wa,hWa⟩: ∃Wa,W.alloc (.cells #[.int .i64 xc,.int .i64 xr] 38)=Wa:=⟨_,rfl⟩;have hKW:Below W.heap.size W Wa:=by rw [←hWa];exact(Below.refl _ _).alloc (Nat.le_refl _) _
 have hva:Wa.heap[Bs]? =some (.cells #[v] 27 (0,0)):=(hKW.block Bs hBW).trans hv;have hLa:Wa.heap[l]? =some (.loop (UC fn va vb vs sv Bs D .ready none)):=(hKW.block l hl).trans h.L;have hKa:Wa.heap[D]? =some (.deferred (some [])):=(hKW.block D hDW).trans h.K;have hra:Wa.ownsRow H 40 4 v DL.length (Qu chL DL):=Qe hrow hKW;have hba:Below w0.heap.size w0 Wa:=Qb h.below hKW;have hxa:Wa.heap[W.heap.size]? =some (.cells #[.int .i64 xc,.int .i64 xr] 38 (0,0)):=by rw [←hWa];exact World.alloc_heap_new W _
 have hbr:=run_beginRound (P:=Tryz.prog) hLa rfl;obtain⟨W2,hW2⟩: ∃W2,Wa.putObj l (.loop {UC fn va vb vs sv Bs D .ready none with state:= .busy})=W2:=⟨_,rfl⟩;rw [hW2]at hbr;have hg2:Wa.grownBy W2 (some l):=by rw [←hW2];exact grownBy_putObj_a _ _ _
 have hv2:W2.heap[Bs]? =some (.cells #[v] 27 (0,0)):=by rw [←hW2];exact(World.putObj_heap_other hBl).trans hva
 have hx2:W2.heap[W.heap.size]? =some (.cells #[.int .i64 xc,.int .i64 xr] 38 (0,0)):=by rw [←hW2];exact(World.putObj_heap_other (by omega)).trans hxa
 have hK2:W2.heap[D]? =some (.deferred (some [])):=by rw [←hW2];exact(World.putObj_heap_other hDl).trans hKa
 have hL2:W2.heap[l]? =some (.loop {UC fn va vb vs sv Bs D .ready none with state:= .busy}):=by rw [←hW2];exact World.putObj_heap_same (by rw [←hWa];simp;omega)
 have hrow2:W2.ownsRow H 40 4 v DL.length (Qu chL DL):=hra.kept hg2 (ownsRow_ne_a hra hLa (fun cur e=>by cases e));have hb2:Below w0.heap.size w0 W2:=hba.grown hg2 hba.size (fun k e=>by cases e;exact h0l);have hBlt:Bs<W2.heap.size:=(Array.getElem?_eq_some_iff.1 hv2).1;have hl2:l<W2.heap.size:=(Array.getElem?_eq_some_iff.1 hL2).1;have hDlt:D<W2.heap.size:=(Array.getElem?_eq_some_iff.1 hK2).1;have hxlt:W.heap.size<W2.heap.size:=(Array.getElem?_eq_some_iff.1 hx2).1;have hold2: ∀k:Nat,k<W.heap.size→k≠l→W2.heap[k]? =W.heap[k]?:=fun k hk hkl=>(hg2.block k (by rw [←hWa];simp;omega) (fun e=>hkl (by cases e;rfl))).trans (hKW.block k hk)
 obtain⟨hc2,hf2⟩:=cell_of_box_a hv2;have hc0:W2.cell? ⟨W.heap.size,0,none⟩=some (.int .i64 xc):=by simp [World.cell?,hx2]
 have hc1:W2.cell? ⟨W.heap.size,1,none⟩=some (.int .i64 xr):=by simp [World.cell?,hx2]
 obtain⟨SB,hso⟩:=hsr;have hsr:=RowAt.of_own Mf hso rfl;obtain⟨sbk,so,rfl,hsl,hs0⟩:=hsr.2 0 sa rfl;obtain⟨sbk',so',e9,_,hs1⟩:=hsr.2 1 sb rfl;cases e9
 have s0:=hs0 0 (.string sa) rfl;have s1:=hs1 0 (.string sb) rfl;simp only [Nat.zero_mul,Nat.one_mul,Nat.add_zero]at s0 s1;have hsl9:sbk≠l:=fun e=>by subst e;simp [World.cell?,h.L]at s0
 have t0:W2.cell? ⟨sbk,so,none⟩=some (.string sa):=(World.cell?_of_block (hold2 sbk hsl hsl9)).trans s0;have t1:W2.cell? ⟨sbk,so+1,none⟩=some (.string sb):=(World.cell?_of_block (hold2 sbk hsl hsl9)).trans s1;have hsl2:sbk<W2.heap.size:=by omega
 have ne_of: ∀{j:Nat} {o:Obj},W2.heap[j]? =some o→(∀cur,o≠ .cells cur 40 (0,0))→some j≠v.ownBlock:=fun hj hno=>by
  rcases ownsRow_ne_a hrow2 hj hno with e | e
  ·rw [e];simp
  ·exact fun e'=>e e'.symm
 have hHW:=h.size;clear hW2 hs0 hs1 s0 s1;unfold Nk;gi_wp2
 unfold Qc2;obtain⟨sm,HSM⟩: ∃sm,Hid ((sa.toList==sb.toList)=sm):=⟨_,rfl⟩;have hsm:=HSM.out;have hsob:(Value.slice (some (⟨sbk,so,none⟩:Addr)) 2 cc).ownBlock=some sbk:=NG hso rfl
 have hnS:some sbk≠v.ownBlock:=fun e=>by
  have h9:=Qe (Qe hrow hKW |>fun h8=>hrow) (Below.refl _ W);rcases Ji hso hrow (by decide)with h8 | h8
  ·rw [hsob]at h8;cases h8
  ·exact h8 (hsob.trans e)
 have hnA:some W.heap.size≠v.ownBlock:=ne_of hx2 (fun cur e=>by have:=(Obj.cells.inj e).2.1;exact absurd this (by decide));have hnB:some Bs≠v.ownBlock:=ne_of hv2 (fun cur e=>hne (Obj.cells.inj e).2.1)
 have hsB:sbk≠Bs:=fun e=>by
  rcases hso.2 with⟨h8,_⟩ | ⟨g,cap9,cur,h8,_,hg9,_⟩
  ·cases h8
  ·cases h8
   rw [e,hv]at hg9;exact absurd (Obj.cells.inj (Option.some.inj hg9)).2.1 (by decide)
 have HRZ:Hid ((W2.alloc (.cells #[.int .i64 xc,.int .i64 xr,.string sa,.string sb] 40)).drew.drew.ownsRow H 40 4 v DL.length (Qu chL DL)):=by exact hrow2.alloc _
 have HCZ:Hid (∀j u,(chL ⟨xc,xr,sa,sb⟩)[j]? =some u→(W2.alloc (.cells #[.int .i64 xc,.int .i64 xr,.string sa,.string sb] 40)).drew.drew.cell? ((⟨W2.heap.size,0,none⟩:Addr).add j)=some u):=by exact Qr1 W2 ⟨xc,xr,sa,sb⟩
 have al: ∀{ad:Addr} {u:Value} (o:Obj),W2.cell? ad=some u→(W2.alloc o).cell? ad=some u:=fun{ad u} o h9=>(World.cell?_alloc_some W2 ad o (by rw [h9];rfl)).trans h9;cases sm
 ·have HNE:Hid (neH ⟨xc,xr,sa,sb⟩=true):=by show _=_;unfold neH;simp only;rw [HSM.out];rfl
  gi_wp2
  refine Xf (S:=(fun w'=>w'.cell? ⟨W.heap.size,0,none⟩=some (.int .i64 xc)∧w'.cell? ⟨W.heap.size,1,none⟩=some (.int .i64 xr)∧w'.cell? ⟨sbk,so,none⟩=some (.string sa)∧w'.cell? ⟨sbk,so+1,none⟩=some (.string sb))) hmix (by kernel_rfl) ⟨hc0,hc1,t0,t1⟩ (fun hHeld=> ?_);refine tkA 0 ?_;refine tkB 1 ?_;refine tkA 2 ?_;refine tkB 3 ?_;refine tkA 4 ?_;refine tkB 5 ?_
  refine tkB 6 ?_;refine wpAnyH_done (by kernel_rfl) ?_ _;simp only [OnlyN];gi_wp2
  refine Xf (S:=(fun w'=>w'.cell? ⟨W.heap.size,0,none⟩=some (.int .i64 xc)∧w'.cell? ⟨W.heap.size,1,none⟩=some (.int .i64 xr)∧w'.cell? ⟨sbk,so,none⟩=some (.string sa)∧w'.cell? ⟨sbk,so+1,none⟩=some (.string sb))) hmix (by kernel_rfl) ⟨hc0,hc1,t0,t1⟩ (fun hHeld=> ?_);refine tkA 1 ?_;refine tkB 2 ?_;refine tkA 3 ?_;refine tkB 4 ?_;refine tkA 5 ?_;refine tkB 6 ?_
  refine tkA 7 ?_;refine tkB 8 ?_;refine rqB 0 9 (fun Kq hKq=> ?_) (fun Kq hKq=> ?_)
  ·go_simp;refine hKq.out _ _ ?_ (fun hHeld=> ?_)
   ·exact⟨hc0,hc1,t0,t1⟩
   clear hKq Kq;try simp only [Act.put,List.getElem_toArray,List.getElem_cons_zero,List.getElem_cons_succ,List.setIfInBounds_toArray,List.set_cons_zero,List.set_cons_succ]
   refine rqA 9 (fun Kq hKq=> ?_);go_simp;refine hKq.out _ _ ?_ (fun hHeld=> ?_)
   ·exact⟨al _ hc0,al _ hc1,al _ t0,al _ t1⟩
   clear hKq Kq;try simp only [Act.put,List.getElem_toArray,List.getElem_cons_zero,List.getElem_cons_succ,List.setIfInBounds_toArray,List.set_cons_zero,List.set_cons_succ]
   refine rqA 10 (fun Kq hKq=> ?_);refine Un (by rfl) _ _ (by rfl) H v DL.length (Qu chL DL) (by rfl) HRZ.out ⟨xc,xr,sa,sb⟩ W2.heap.size (by rfl) HCZ.out (by omega) (by show H≤(W2.alloc _).heap.size;rw [World.size_alloc];omega) ?_;intro v' w3 hown' hg3;have hg9:(W2.alloc (.cells #[.int .i64 xc,.int .i64 xr,.string sa,.string sb] 40)).grownBy w3 v.ownBlock:=⟨hg3.os,hg3.tape,hg3.output,hg3.size,hg3.block⟩;have hbk3: ∀k:Nat,k<W2.heap.size→some k≠v.ownBlock→w3.heap[k]? =W2.heap[k]?:=fun k h1 h2=>(hg9.block k (by simp;omega) h2).trans (Below.heap_alloc _ _ k h1);have hv3:w3.heap[Bs]? =some (.cells #[v] 27 (0,0)):=(hbk3 Bs hBlt hnB).trans hv2;obtain⟨hcb3,hfb3⟩:=cell_of_box_a hv3
   have k0:w3.cell? ⟨W.heap.size,0,none⟩=some (.int .i64 xc):=(World.cell?_of_block (hbk3 W.heap.size hxlt hnA)).trans hc0;have k1:w3.cell? ⟨W.heap.size,1,none⟩=some (.int .i64 xr):=(World.cell?_of_block (hbk3 W.heap.size hxlt hnA)).trans hc1;have k2:w3.cell? ⟨sbk,so,none⟩=some (.string sa):=(World.cell?_of_block (hbk3 sbk hsl2 hnS)).trans t0;have k3:w3.cell? ⟨sbk,so+1,none⟩=some (.string sb):=(World.cell?_of_block (hbk3 sbk hsl2 hnS)).trans t1;obtain⟨F3,cap3,rfl,_,_⟩:=Qh hown';refine hKq.out _ _ ?_ (fun hHeld=> ?_)
   ·exact⟨k0,k1,k2,k3⟩
   clear hKq Kq;try simp only [Act.put,List.getElem_toArray,List.getElem_cons_zero,List.getElem_cons_succ,List.setIfInBounds_toArray,List.set_cons_zero,List.set_cons_succ]
   refine rqA 11 (fun Kq hKq=> ?_);go_simp;obtain⟨w4,hw4⟩: ∃w4,w3.setCell ⟨Bs,0,none⟩ (.slice F3 (DL.length+1) cap3)=w4:=⟨_,rfl⟩;rw [hw4];have hg4:w3.grownBy w4 (some Bs):=by rw [←hw4];exact grownBy_setCell0_a _ _ _
   have hv4:w4.heap[Bs]? =some (.cells #[.slice F3 (DL.length+1) cap3] 27 (0,0)):=by rw [←hw4];exact heap_setCell_box_a _ hv3
   have hz3:W2.heap.size≤w3.heap.size:=Nat.le_trans (by simp) hg9.size;have hbk4: ∀k:Nat,k<W2.heap.size→k≠Bs→some k≠v.ownBlock→w4.heap[k]? =W2.heap[k]?:=fun k h1 h3 h2=>(hg4.block k (by omega) (fun e=>h3 (by cases e;rfl))).trans (hbk3 k h1 h2);have hrow4:=hown'.kept hg4 (ownsRow_ne_a hown' hv3 (fun cur e=>hne (Obj.cells.inj e).2.1));have hb3:Below w0.heap.size w0 w3:=(hb2.alloc hb2.size _).grown hg9 (by have:=hb2.size;simp;omega) (fun k e=>by have:=(hrow2.lt k e).1;omega);have hb4:Below w0.heap.size w0 w4:=hb3.grown hg4 hb3.size (fun k e=>by cases e;exact h0B);refine hKq.out _ _ ?_ (fun hHeld=> ?_)
   ·exact⟨(World.cell?_of_block (hbk4 W.heap.size hxlt (by omega) hnA)).trans hc0,(World.cell?_of_block (hbk4 W.heap.size hxlt (by omega) hnA)).trans hc1,(World.cell?_of_block (hbk4 sbk hsl2 hsB hnS)).trans t0,(World.cell?_of_block (hbk4 sbk hsl2 hsB hnS)).trans t1⟩
   clear hKq Kq;refine wpAnyH_done (by kernel_rfl) ?_ _;simp only [OnlyN];gi_wp2
   exact Ql0 (DL':=DL++ [⟨xc,xr,sa,sb⟩]) hBl hDl h0l hl0 hH ((hbk4 l hl2 (fun e=>hBl e.symm) (ne_of hL2 (fun cur e=>by cases e))).trans hL2) hv4 ((hbk4 D hDlt hDB (ne_of hK2 (fun cur e=>by cases e))).trans hK2) (by rw [Ye,List.length_append];exact hrow4) hb4 (by have:=hg4.size;omega) (fun k h1 h2=>(hbk4 k (by omega) (by omega) (fun e=>by have:=(hrow2.lt k e.symm).1;omega)).trans (hold2 k (by omega) (by omega))) (by have:=hg4.size;omega) (by rw [HNX.out,if_pos HNE.out,HDL.out])
  ·go_simp;refine hKq.out _ _ ?_ (fun hHeld=> ?_)
   ·exact⟨al _ hc0,al _ hc1,al _ t0,al _ t1⟩
   clear hKq Kq;try simp only [Act.put,List.getElem_toArray,List.getElem_cons_zero,List.getElem_cons_succ,List.setIfInBounds_toArray,List.set_cons_zero,List.set_cons_succ]
   refine rqA 0 (fun Kq hKq=> ?_);go_simp;refine hKq.out _ _ ?_ (fun hHeld=> ?_)
   ·exact⟨al _ hc0,al _ hc1,al _ t0,al _ t1⟩
   clear hKq Kq;try simp only [Act.put,List.getElem_toArray,List.getElem_cons_zero,List.getElem_cons_succ,List.setIfInBounds_toArray,List.set_cons_zero,List.set_cons_succ]
   refine rqA 10 (fun Kq hKq=> ?_);refine Un (by rfl) _ _ (by rfl) H v DL.length (Qu chL DL) (by rfl) HRZ.out ⟨xc,xr,sa,sb⟩ W2.heap.size (by rfl) HCZ.out (by omega) (by show H≤(W2.alloc _).heap.size;rw [World.size_alloc];omega) ?_;intro v' w3 hown' hg3;have hg9:(W2.alloc (.cells #[.int .i64 xc,.int .i64 xr,.string sa,.string sb] 40)).grownBy w3 v.ownBlock:=⟨hg3.os,hg3.tape,hg3.output,hg3.size,hg3.block⟩;have hbk3: ∀k:Nat,k<W2.heap.size→some k≠v.ownBlock→w3.heap[k]? =W2.heap[k]?:=fun k h1 h2=>(hg9.block k (by simp;omega) h2).trans (Below.heap_alloc _ _ k h1);have hv3:w3.heap[Bs]? =some (.cells #[v] 27 (0,0)):=(hbk3 Bs hBlt hnB).trans hv2;obtain⟨hcb3,hfb3⟩:=cell_of_box_a hv3
   have k0:w3.cell? ⟨W.heap.size,0,none⟩=some (.int .i64 xc):=(World.cell?_of_block (hbk3 W.heap.size hxlt hnA)).trans hc0;have k1:w3.cell? ⟨W.heap.size,1,none⟩=some (.int .i64 xr):=(World.cell?_of_block (hbk3 W.heap.size hxlt hnA)).trans hc1;have k2:w3.cell? ⟨sbk,so,none⟩=some (.string sa):=(World.cell?_of_block (hbk3 sbk hsl2 hnS)).trans t0;have k3:w3.cell? ⟨sbk,so+1,none⟩=some (.string sb):=(World.cell?_of_block (hbk3 sbk hsl2 hnS)).trans t1;obtain⟨F3,cap3,rfl,_,_⟩:=Qh hown';refine hKq.out _ _ ?_ (fun hHeld=> ?_)
   ·exact⟨k0,k1,k2,k3⟩
   clear hKq Kq;try simp only [Act.put,List.getElem_toArray,List.getElem_cons_zero,List.getElem_cons_succ,List.setIfInBounds_toArray,List.set_cons_zero,List.set_cons_succ]
   refine rqA 11 (fun Kq hKq=> ?_);go_simp;obtain⟨w4,hw4⟩: ∃w4,w3.setCell ⟨Bs,0,none⟩ (.slice F3 (DL.length+1) cap3)=w4:=⟨_,rfl⟩;rw [hw4];have hg4:w3.grownBy w4 (some Bs):=by rw [←hw4];exact grownBy_setCell0_a _ _ _
   have hv4:w4.heap[Bs]? =some (.cells #[.slice F3 (DL.length+1) cap3] 27 (0,0)):=by rw [←hw4];exact heap_setCell_box_a _ hv3
   have hz3:W2.heap.size≤w3.heap.size:=Nat.le_trans (by simp) hg9.size;have hbk4: ∀k:Nat,k<W2.heap.size→k≠Bs→some k≠v.ownBlock→w4.heap[k]? =W2.heap[k]?:=fun k h1 h3 h2=>(hg4.block k (by omega) (fun e=>h3 (by cases e;rfl))).trans (hbk3 k h1 h2);have hrow4:=hown'.kept hg4 (ownsRow_ne_a hown' hv3 (fun cur e=>hne (Obj.cells.inj e).2.1));have hb3:Below w0.heap.size w0 w3:=(hb2.alloc hb2.size _).grown hg9 (by have:=hb2.size;simp;omega) (fun k e=>by have:=(hrow2.lt k e).1;omega);have hb4:Below w0.heap.size w0 w4:=hb3.grown hg4 hb3.size (fun k e=>by cases e;exact h0B);refine hKq.out _ _ ?_ (fun hHeld=> ?_)
   ·exact⟨(World.cell?_of_block (hbk4 W.heap.size hxlt (by omega) hnA)).trans hc0,(World.cell?_of_block (hbk4 W.heap.size hxlt (by omega) hnA)).trans hc1,(World.cell?_of_block (hbk4 sbk hsl2 hsB hnS)).trans t0,(World.cell?_of_block (hbk4 sbk hsl2 hsB hnS)).trans t1⟩
   clear hKq Kq;refine wpAnyH_done (by kernel_rfl) ?_ _;simp only [OnlyN];gi_wp2
   exact Ql0 (DL':=DL++ [⟨xc,xr,sa,sb⟩]) hBl hDl h0l hl0 hH ((hbk4 l hl2 (fun e=>hBl e.symm) (ne_of hL2 (fun cur e=>by cases e))).trans hL2) hv4 ((hbk4 D hDlt hDB (ne_of hK2 (fun cur e=>by cases e))).trans hK2) (by rw [Ye,List.length_append];exact hrow4) hb4 (by have:=hg4.size;omega) (fun k h1 h2=>(hbk4 k (by omega) (by omega) (fun e=>by have:=(hrow2.lt k e.symm).1;omega)).trans (hold2 k (by omega) (by omega))) (by have:=hg4.size;omega) (by rw [HNX.out,if_pos HNE.out,HDL.out])
 ·have HNE:Hid (neH ⟨xc,xr,sa,sb⟩=false):=by show _=_;unfold neH;simp only;rw [HSM.out];rfl
  gi_wp2
  refine Xf (S:=(fun w'=>w'.cell? ⟨W.heap.size,0,none⟩=some (.int .i64 xc)∧w'.cell? ⟨W.heap.size,1,none⟩=some (.int .i64 xr)∧w'.cell? ⟨sbk,so,none⟩=some (.string sa)∧w'.cell? ⟨sbk,so+1,none⟩=some (.string sb))) hmix (by kernel_rfl) ⟨hc0,hc1,t0,t1⟩ (fun hHeld=> ?_);refine tkA 0 ?_;refine tkB 1 ?_;refine tkA 2 ?_;refine tkB 3 ?_;refine tkA 4 ?_;refine tkB 5 ?_
  refine tkB 6 ?_;refine wpAnyH_done (by kernel_rfl) ?_ _;simp only [OnlyN];gi_wp2
  exact Ql0 (Z:=W2.drew) (DL':=DL) hBl hDl h0l hl0 hH hL2 hv2 hK2 hrow2 (Qc6 hb2) (by show H≤W2.heap.size;omega) (fun k h1 h2=>hold2 k (by omega) (by omega)) (by show W.heap.size≤W2.heap.size;omega) (by rw [HNX.out,if_neg (by rw [HNE.out];decide),List.append_nil,HDL.out])
theorem Qdi (n:Nat) (As:Option Addr) (k cs:Nat) (w:World):
  CallsIn Fence.wide n Tryz.prog 43 #[.slice As k cs] w fun e w'=>e= .returned (.func (.func 62) #[] #[.pointer (some ⟨w.heap.size,0,none⟩)])∧w'=w.alloc (.cells #[.slice As k cs] 99):=by
 refine callsIn_of_wp Tryz.func43 rfl trivial ?_ rfl;simp only [Tryz.ntmps43,List.size_toArray,List.length_cons,List.length_nil,Nat.reduceAdd,Nat.reduceSub,Array.replicate_succ,Array.replicate_zero,List.push_toArray,List.append_toArray,List.nil_append,List.cons_append];gi_wp2
 go_ret;exact⟨rfl,rfl⟩
theorem Qru {a b M:List CL} (ha:upC a) (hb:upC b) (hM:upC M) (hm: ∀p q,Zo p q M↔Zo p q a∨Zo p q b):dcL a b M=dfL a b:=by
 unfold dcL dfL;rw [Qrt ha hb hM hm]
theorem Qo7 (n0:Nat) (hn0:4≤n0) {A A':Option Addr} {n cap m cap':Nat} {C R C' R':Nat→Int} {S S':Nat→ByteArray} (w:World) (h:ShOk w ⟨A,n,cap,C,R,S⟩) (h':ShOk w ⟨A',m,cap',C',R',S'⟩):
  CallsIn Fence.wide n0 Tryz.prog 28 #[.slice A n cap,.slice A' m cap'] w fun e w'=>DfR w.heap.size w' (dfL (clE C R S n) (clE C' R' S' m)) e∧Below w.heap.size w w':=by
 have h1:1≤n0:=by omega
 obtain⟨DL,hDL⟩: ∃DL,dfL (clE C R S n) (clE C' R' S' m)=DL:=⟨_,rfl⟩;rw [hDL];have hne:=Qll;have eg: ∀args w,(callFunc 62 args).run Tryz.prog w= .ok (.enter 62 args) w:=enters_of Tryz.func62 (by kernel_rfl) rfl;refine callsIn_of_wp_marks Tryz.func28 rfl trivial ?_ rfl;simp only [Tryz.ntmps28,List.size_toArray,List.length_cons,List.length_nil,Nat.reduceAdd,Nat.reduceSub,Array.replicate_succ,Array.replicate_zero,List.push_toArray,List.append_toArray,List.nil_append,List.cons_append];gi_wp2
 refine⟨trivial,?_⟩;refine(Qdi _ _ _ _ _).mono ?_;rintro e w9 ⟨rfl,rfl⟩;gi_wp2
 refine wpIn_rangeFunc ?_;intro fn hfn;show∃_,_;obtain⟨Wa,hWa⟩: ∃Wa,w.alloc (.cells #[.slice none 0 0] 27)=Wa:=⟨_,rfl⟩;have hsa:Wa.heap.size=w.heap.size+1:=by rw [←hWa];simp
 have hba:Below w.heap.size w Wa:=by rw [←hWa];exact(Below.refl _ w).alloc (Nat.le_refl _) _
 have hva:Wa.heap[w.heap.size]? =some (.cells #[.slice none 0 0] 27 (0,0)):=by rw [←hWa];exact World.alloc_heap_new w _
 rw [hWa];obtain⟨Wb,hWb⟩: ∃Wb,Wa.alloc (.cells #[.slice A n cap,.slice A' m cap'] 24)=Wb:=⟨_,rfl⟩;have hsb:Wb.heap.size=w.heap.size+1+1:=by rw [←hWb];simp [hsa]
 have hbb:Below Wa.heap.size Wa Wb:=by rw [←hWb];exact(Below.refl _ Wa).alloc (Nat.le_refl _) _
 have hnb:Wb.heap[w.heap.size+1]? =some (.cells #[.slice A n cap,.slice A' m cap'] 24 (0,0)):=by rw [←hWb,←hsa];exact World.alloc_heap_new Wa _
 have d0:Wb.cell? ⟨w.heap.size+1,0,none⟩=some (.slice A n cap):=by simp [World.cell?,hnb]
 have d1:Wb.cell? ⟨w.heap.size+1,1,none⟩=some (.slice A' m cap'):=by simp [World.cell?,hnb]
 rw [hWb];obtain⟨W0,hW0⟩: ∃W0,Wb.alloc (.cells #[.slice (some ⟨w.heap.size+1,0,none⟩) 2 2] 99)=W0:=⟨_,rfl⟩;have hs0:W0.heap.size=w.heap.size+1+1+1:=by rw [←hW0];simp [hsb]
 have hb0:Below Wb.heap.size Wb W0:=by rw [←hW0];exact(Below.refl _ Wb).alloc (Nat.le_refl _) _
 have hn0':W0.heap[w.heap.size+1+1]? =some (.cells #[.slice (some ⟨w.heap.size+1,0,none⟩) 2 2] 99 (0,0)):=by rw [←hW0,←hsb];exact World.alloc_heap_new Wb _
 have d2:W0.cell? ⟨w.heap.size+1+1,0,none⟩=some (.slice (some ⟨w.heap.size+1,0,none⟩) 2 2):=by simp [World.cell?,hn0']
 rw [hW0];obtain⟨sv,hsv⟩: ∃sv:Value,.func (.func 62) #[] #[.pointer (some ⟨w.heap.size+1+1,0,none⟩)]=sv:=⟨_,rfl⟩;obtain⟨rc,hrc⟩: ∃rc,UC fn (.slice A n cap) (.slice A' m cap') (.slice (some ⟨w.heap.size+1,0,none⟩) 2 2) (.func (.func 62) #[] #[.pointer (some ⟨w.heap.size+1+1,0,none⟩)]) w.heap.size W0.heap.size .ready none=rc:=⟨_,rfl⟩;obtain⟨W1,hW1⟩: ∃W1,(W0.alloc (.deferred (some []))).alloc (.loop rc)=W1:=⟨_,rfl⟩
 have hold: ∀k:Nat,k<W0.heap.size→W1.heap[k]? =W0.heap[k]?:=fun k hk=>by
  rw [←hW1];exact(Below.heap_alloc _ _ k (by simp;omega)).trans (Below.heap_alloc _ _ k hk)
 have hb01:Below W0.heap.size W0 W1:=by rw [←hW1];exact((Below.refl _ W0).alloc (Nat.le_refl _) _).alloc (by simp) _
 have hbw:Below w.heap.size w W1:=Qb (Qb (Qb hba hbb) hb0) hb01;have hs1:W1.heap.size=W0.heap.size+2:=by rw [←hW1];simp
 have hv1:W1.heap[w.heap.size]? =some (.cells #[.slice none 0 0] 27 (0,0)):=(hold _ (by omega)).trans ((hb0.block _ (by omega)).trans ((hbb.block _ (by omega)).trans hva))
 have hL1:W1.heap[W0.heap.size+1]? =some (.loop rc):=by
  rw [←hW1];have:=World.alloc_heap_new (W0.alloc (.deferred (some []))) (.loop rc);rwa [World.size_alloc]at this
 have hK1:W1.heap[W0.heap.size]? =some (.deferred (some [])):=by rw [←hW1];exact(Below.heap_alloc _ _ _ (by simp)).trans (World.alloc_heap_new W0 _)
 have b0:W1.cell? ⟨w.heap.size+1+1,0,none⟩=some (.slice (some ⟨w.heap.size+1,0,none⟩) 2 2):=(World.cell?_of_block (hold (w.heap.size+1+1) (by omega))).trans d2;have b1:W1.cell? ⟨w.heap.size+1,0,none⟩=some (.slice A n cap):=(World.cell?_of_block ((hold (w.heap.size+1) (by omega)).trans (hb0.block (w.heap.size+1) (by omega)))).trans d0;have b2:W1.cell? ⟨w.heap.size+1,1,none⟩=some (.slice A' m cap'):=(World.cell?_of_block ((hold (w.heap.size+1) (by omega)).trans (hb0.block (w.heap.size+1) (by omega)))).trans d1
 have hrow:RowAt 1 shL W1 (some ⟨w.heap.size+1,0,none⟩) [⟨A,n,cap,C,R,S⟩,⟨A',m,cap',C',R',S'⟩]:=⟨by unfold maxLen;simp,fun i x hx=>by
  match i,hx with
  | 0,hx=>cases hx;exact⟨_,_,rfl,by omega,fun j v hv=>by match j,hv with | 0,hv=>cases hv;exact b1⟩
  | 1,hx=>cases hx;exact⟨_,_,rfl,by omega,fun j v hv=>by match j,hv with | 0,hv=>cases hv;exact b2⟩⟩
 have hok: ∀x∈ [(⟨A,n,cap,C,R,S⟩:SH),⟨A',m,cap',C',R',S'⟩],ShOk W1 x:=fun x hx=>by
  simp only [List.mem_cons,List.not_mem_nil,or_false]at hx;rcases hx with rfl | rfl
  ·exact h.below hbw
  ·exact h'.below hbw
 have key:=Qpp (n0-1) (by omega) (W0.heap.size+1) (w.heap.size+1+1) (some ⟨w.heap.size+1,0,none⟩) 2 2 [⟨A,n,cap,C,R,S⟩,⟨A',m,cap',C',R',S'⟩]
  (fun H pre W=>W1.heap.size≤H∧DcAt w fn (.slice A n cap) (.slice A' m cap') (.slice (some ⟨w.heap.size+1,0,none⟩) 2 2) (.func (.func 62) #[] #[.pointer (some ⟨w.heap.size+1+1,0,none⟩)]) w.heap.size (W0.heap.size+1) W0.heap.size (clE C R S n) (clE C' R' S' m) H pre W)
  W1 b0 hrow rfl (by omega) hok
  (fun W2 hb2=>⟨hb2.size,⟨⟨_,(hb2.block _ (by omega)).trans hv1,⟨rfl,.inl ⟨rfl,rfl⟩⟩⟩,(hb2.block _ (by omega)).trans (by rw [hrc];exact hL1),(hb2.block _ (by omega)).trans hK1,Qb hbw hb2,Nat.le_refl _⟩⟩)
  (fun H pre Wx Wy hx hy=>⟨hx.1,hx.2.later hy⟩)
  (fun H pre x Ax cx Wx hx hl9 hs9=>by
   obtain⟨fn2,tm2,as2,bo2,e2,r2⟩:=Qo9 (n0-1-1) w fn _ _ _ _ w.heap.size (W0.heap.size+1) W0.heap.size (clE C R S n) (clE C' R' S' m) W1.heap.size (by omega) (by omega) (by omega) (by omega) (by omega) (by omega) (Nat.le_refl _) (by omega) H hx.1 pre x Ax cx Wx hx.2 hl9 hs9
   exact⟨fn2,tm2,as2,bo2,e2,r2.mono (fun e Wy hy=>⟨hy.1,⟨hx.1,hy.2.1⟩,hy.2.2.1,hy.2.2.2⟩)⟩)
 refine⟨W0.heap.size+1,[{target:= .collected W0.heap.size,args:= #[]}],W1,{target:= .fn (.func 62) #[.pointer (some ⟨w.heap.size+1+1,0,none⟩)],args:= #[.func (.yield (W0.heap.size+1)) #[] #[]]},W1,62,
  #[.func (.yield (W0.heap.size+1)) #[] #[]]++ #[.pointer (some ⟨w.heap.size+1+1,0,none⟩)],W1,?_,?_,?_,?_,fun _=>h1,?_⟩
 ·rw [←hW1,←hrc];exact run_enterLoop_outer _ _ _ _ _
 ·simp [resolve,go_sem]
 ·intro f' hf';trivial
 ·simp [invoke,go_sem,eg]
 ·refine key.mono ?_;rintro e W2 ⟨⟨v0,rfl⟩,H,M,hup,hhas,hH,h2⟩;obtain⟨v,hv,hrow2⟩:=h2.box;have hend:=run_endLoop (P:=Tryz.prog) h2.L (by simp [UC]);obtain⟨W3,hW3⟩: ∃W3,W2.putObj (W0.heap.size+1) (.loop {UC fn (.slice A n cap) (.slice A' m cap') (.slice (some ⟨w.heap.size+1,0,none⟩) 2 2) (.func (.func 62) #[] #[.pointer (some ⟨w.heap.size+1+1,0,none⟩)]) w.heap.size W0.heap.size .ready none with state:= .exhausted})=W3:=⟨_,rfl⟩;rw [hW3]at hend;have hg3:W2.grownBy W3 (some (W0.heap.size+1)):=by rw [←hW3];exact grownBy_putObj_a _ _ _
  have hv3:W3.heap[w.heap.size]? =some (.cells #[v] 27 (0,0)):=by rw [←hW3];exact(World.putObj_heap_other (by omega)).trans hv
  have hK3:W3.heap[W0.heap.size]? =some (.deferred (some [])):=by rw [←hW3];exact(World.putObj_heap_other (by omega)).trans h2.K
  have hrow3:=hrow2.kept hg3 (ownsRow_ne_a hrow2 h2.L (fun cur e=>by cases e));have hb3:Below w.heap.size w W3:=h2.below.grown hg3 h2.below.size (fun k e=>by cases e;omega);obtain⟨hc3,hf3⟩:=cell_of_box_a hv3
  have HDL:Hid (dcL (clE C R S n) (clE C' R' S' m) M=dfL (clE C R S n) (clE C' R' S' m)):=Qru h.rise h'.rise hup (fun p q=>by
   rw [hhas p q];constructor
   ·rintro⟨x,hx,e⟩;simp only [List.mem_cons,List.not_mem_nil,or_false]at hx;rcases hx with rfl | rfl
    ·exact .inl e
    ·exact .inr e
   ·rintro(e | e)
    ·exact⟨⟨A,n,cap,C,R,S⟩,by simp,e⟩
    ·exact⟨⟨A',m,cap',C',R',S'⟩,by simp,e⟩)
  rw [HDL.out]at hrow3;rw [hDL]at hrow3;obtain⟨FF,cF,rfl,_,_⟩:=Qh hrow3;clear hW3 key hrow hok;rw [hs0]at hK3;refine⟨none,W3,hend,?_⟩;gi_wp2
  refine⟨by simp,.inl ⟨_,_,rfl,run_takeDeferred hK3,?_⟩⟩;exact⟨_,results_tmp rfl _ _ _,⟨FF,cF,DL.length,rfl,rfl,ownsRow_base_a (hrow3.kept (grownBy_putObj_a _ _ _) (ownsRow_ne_a hrow3 hK3 (fun cur e=>by cases e))) (by omega)⟩,hb3.grown (grownBy_putObj_a _ _ _) hb3.size (fun k e=>by cases e;omega)⟩
theorem Qlc (B:Nat) (w':World):DfR B w' [] (.returned (.slice none 0 0)):=⟨none,0,0,rfl,rfl,rfl,.inl ⟨rfl,rfl⟩⟩
theorem Ex {A A':Option Addr} {n cap m cap':Nat} {C R C' R':Nat→Int} {S S':Nat→ByteArray} (w:World) (h:ClRow w A n C R S) (h':ClRow w A' m C' R' S') (hg:GI w):
  Calls Tryz.prog 8 #[.slice A n cap,.slice A' m cap'] w fun e w'=>DfR w.heap.size w' (dfF C R S n C' R' S' m) e∧Below w.heap.size w w':=by
 have HR:Hid (ClRow w A n C R S):=h;have HR':Hid (ClRow w A' m C' R' S'):=h';have HG:Hid (GI w):=hg;clear h h' hg;obtain⟨ck,HCK⟩: ∃ck,Hid (Qm C R S n=ck):=⟨_,rfl⟩;obtain⟨ck',HCK'⟩: ∃ck',Hid (Qm C' R' S' m=ck'):=⟨_,rfl⟩;obtain⟨DL,HDL⟩: ∃DL,Hid (dfF C R S n C' R' S' m=DL):=⟨_,rfl⟩
 rw [HDL.out];go_enter Tryz.func8,Tryz.ntmps8;go_wp2_with fail
 refine(Zk _ HR.out HG.out).mono ?_;rintro e u1 ⟨rfl,hb⟩;have K1:Hid (Below w.heap.size w u1):=hb;clear hb;rw [HCK.out];cases ck
 ·have HV:Hid (DL= []):=by rw [←HDL.out];exact Qei HCK.out
  go_wp2_with fail
  go_ret;exact⟨by rw [HV.out];exact Qlc _ _,K1.out⟩
 go_wp2_with fail
 refine(Zk _ (HR'.out.below K1.out) (HG.out.below K1.out)).mono ?_;rintro e u2 ⟨rfl,hb⟩;have K2:=hd (Qb K1.out hb);clear hb;rw [HCK'.out];cases ck'
 ·have HV:Hid (DL= []):=by rw [←HDL.out];exact Qeh HCK'.out
  go_wp2_with fail
  go_ret;exact⟨by rw [HV.out];exact Qlc _ _,K2.out⟩
 have HV:Hid (DL=dfL (clE C R S n) (clE C' R' S' m)):=by show _=_;rw [←HDL.out];exact Br HCK.out HCK'.out
 have HS1:Hid (ShOk u2 ⟨A,n,cap,C,R,S⟩):=⟨HR.out.below K2.out,(Qx HCK.out).1,(Qx HCK.out).2.1,(Qx HCK.out).2.2⟩;have HS2:Hid (ShOk u2 ⟨A',m,cap',C',R',S'⟩):=⟨HR'.out.below K2.out,(Qx HCK'.out).1,(Qx HCK'.out).2.1,(Qx HCK'.out).2.2⟩;go_wp2_with fail
 refine(callsIn_wide.1 (Qo7 9 (by omega) u2 HS1.out HS2.out)).mono ?_;rintro e u3 ⟨⟨F,c,k,rfl,hk,ho⟩,hb⟩;rw [←HV.out]at hk ho;have HO:Hid (u3.ownsRow w.heap.size 40 4 (.slice F k c) k (Qu chL DL)):=Go.Proofs.ownsRow_base_a ho K2.out.size;have HK:Hid (DL.length=k):=hk;have K3:=hd (Qb K2.out hb);clear hk ho hb HV
 go_wp2_with fail
 go_ret;exact⟨⟨F,c,k,rfl,HK.out,HO.out⟩,K3.out⟩
end Go.Proofs.YthjldgbfgapbcaaGreatDoor
namespace Go.Proofs.YthjldgbfgapbcaaGreatDoor
open Go.RowKit Go.Maps
theorem Qe2 (w:World):(zeroValue 49).run Tryz.prog w= .ok (.agg #[.int .i64 0,.int .i64 0,.string ⟨#[]⟩]) w:=by kernel_rfl
theorem Qgw (c r:Int) (s:ByteArray) (w:World):(Instr.field 49 (.agg #[.int .i64 c,.int .i64 r,.string s]) 1).run Tryz.prog w= .ok (.string s) w:=by kernel_rfl
theorem Qbz {W:World} {b n:Nat} {D:DataW Value} {p q:Int} {l:Lit} {v:Value} (hown:W.ownsMap Tryz.prog 38 Zs b n D) (hl:keyOf Tryz.prog 38 (.agg #[.int .i64 p,.int .i64 q])=some l)
  (hv:D.atKey l (.held (.agg #[.int .i64 0,.int .i64 0,.string ⟨#[]⟩]))= .held v):(Instr.lookup 61 (.map (some b)) (.agg #[.int .i64 p,.int .i64 q]) false).run Tryz.prog W= .ok v W:=by
 obtain⟨u,ps,h1,h2⟩:=hown.lookup keyedRef Tryz.underlying61 (Qe2 W) (rfl:Zs _=some (.held _,[])) hl;rw [hv]at h2;unfold Zs at h2;simp at h2;rw [h1,h2.1]
theorem Uf {W W':World} {b n:Nat} {D:DataW Value} (ho:W.ownsMap Tryz.prog 38 Zs b n D) (hb:Below W.heap.size W W'):W'.ownsMap Tryz.prog 38 Zs b n D:=by
 have hl:=ho.lt;obtain⟨es,clock,h1,Ft,hs,hD⟩:=ho;exact⟨es,clock,(hb.block b hl).trans h1,Ft,hs,hD⟩
theorem VP {B:Nat} {X W:World} {p:World→Prop} (h:SC B X W) (hp: ∀w',Below B X w'→p w'):((∀bq oq,bq<B→W.cell? ⟨bq,oq,none⟩=X.cell? ⟨bq,oq,none⟩)∧B≤W.heap.size∧Below B X W)∧p W:=⟨h,hp W h.2.2⟩
theorem Hm {A A':Option Addr} {n cap m cap':Nat} {C R:Nat→Int} {S:Nat→ByteArray} {D:Nat→CH} (w:World) (h:ClRow w A n C R S) (h':ChRow w A' m D) (hg:GI w):
  Calls Tryz.prog 12 #[.slice A n cap,.slice A' m cap'] w fun e w'=>EnR w.heap.size w' (paF C R S n D m) e∧Below w.heap.size w w':=by
 have HR:Hid (ClRow w A n C R S):=h;have HD:Hid (ChRow w A' m D):=h';have HG:Hid (GI w):=hg;have HSS:Hid (∀i,i<n→(S i).size≤maxLen):=fun i hi=>by obtain⟨_,_,_,_,_,_,_,h9⟩:=h.2 i hi;exact h9
 clear h h' hg;obtain⟨ck,HCK⟩: ∃ck,Hid (Qm C R S n=ck):=⟨_,rfl⟩;go_enter Tryz.func12,Tryz.ntmps12;go_wp2_with fail
 refine(Zk _ HR.out HG.out).mono ?_;rintro e u1 ⟨rfl,hb⟩;have K1:Hid (Below w.heap.size w u1):=hb;clear hb;rw [HCK.out];cases ck
 ·have HV:Hid (paF C R S n D m=none):=Qnm HCK.out;go_wp2_with fail
  refine bodyPost_ret (v:= .tuple #[.slice none 0 0,.bool false]) ?_ rfl ⟨?_,K1.out⟩
  ·simp (maxDischargeDepth:=9) [results,Tryz.results12,go_sem, *]
  ·rw [HV.out];exact rfl
 by_cases hm:360<m
 ·have HV:Hid (paF C R S n D m=none):=Qnl hm;have q1:(360:Int)<((m:Nat):Int):=by omega
  go_wp2_with fail
  refine bodyPost_ret (v:= .tuple #[.slice none 0 0,.bool false]) ?_ rfl ⟨?_,K1.out⟩
  ·simp (maxDischargeDepth:=9) [results,Tryz.results12,go_sem, *]
  ·rw [HV.out];exact rfl
 have q1: ¬(360:Int)<((m:Nat):Int):=by omega
 obtain⟨hn,hrf,hri⟩:=Qx HCK.out;have HRF:Hid (∀i,i<n→Qi (C i) (R i)=true):=hrf;have HRI:Hid ((clE C R S n).Pairwise (fun a b=>ltC a b=true)):=hri;clear hrf hri;have HP0:Hid (PaI n 0 (clE C R S n)):=PaI.start HCK.out HSS.out;obtain⟨kl,hkl⟩:=DZ (n:=n) HRF.out;have HKL:Hid (∀i,i<n→keyOf Tryz.prog 38 (.agg #[.int .i64 (C i),.int .i64 (R i)])=some (kl i)):=hkl
 clear hkl;go_wp2_with fail
 refine(Xm _ (HR.out.below K1.out) hn HKL.out).mono ?_;rintro e u2 ⟨rfl,ho,hb⟩;obtain⟨g,HGG⟩: ∃g,Hid (u1.heap.size=g):=⟨_,rfl⟩;rw [HGG.out]at ho;rw [HGG.out];have HM:Hid (u2.ownsMap Tryz.prog 38 Zs g n (clD kl C R S n)):=ho;have HCD:Hid (CmD (clD kl C R S n) (clE C R S n)):=Qc4 n HKL.out (Dh HRI.out)
 have HWG:Hid (w.heap.size≤g):=by show _≤_;rw [←HGG.out];exact K1.out.size
 have K2:=hd (Qb K1.out hb);clear ho hb HGG;go_wp2_with fail
 go_loopw [21] (fun i wr=> ∃(t:Nat) (L:List CL) (cnt:Nat) (Dm:DataW Value),t≤m∧i= .int .i64 t∧Zy D (clE C R S n) t=some L∧wr.ownsMap Tryz.prog 38 Zs g cnt Dm∧CmD Dm L∧cnt≤n+t∧Below w.heap.size w wr) (fun i _=>m-(intOf i).toNat)
 case atStart=>exact⟨0,_,n,_,Nat.zero_le _,rfl,rfl,HM.out,HCD.out,by omega,K2.out⟩
 case round=>
  clear HM HCD K2;obtain⟨t,L,cnt,Dm,ht,rfl,hrun,hmap,hcm,hcnt,hbel⟩:=hrel;have HRUN:Hid (Zy D (clE C R S n) t=some L):=hrun;have HPI:Hid (PaI n t L):=HP0.out.run t hrun;have HMP:Hid (wr.ownsMap Tryz.prog 38 Zs g cnt Dm):=hmap;have HCM:Hid (CmD Dm L):=hcm;have KA:Hid (Below w.heap.size w wr):=hbel
  clear hrun hmap hcm hbel;by_cases hlt:t<m
  ·obtain⟨b,o,rfl,hl,c0,c1,c2,c3,hsf,hst⟩:=HD.out.2 t hlt;obtain⟨Y,HY⟩: ∃Y:CH,Hid (D t=Y):=⟨_,rfl⟩;rw [HY.out]at c0 c1 c2 c3 hsf hst;rw [←KA.out.cell (p:=⟨_,_,none⟩) hl]at c0 c1 c2 c3;have hl2:b<wr.heap.size:=Nat.lt_of_lt_of_le hl KA.out.size;have HST:Hid (Y.t.size≤maxLen):=hst;have HNX:Hid (∀v,VU L Y=v→Zy D (clE C R S n) (t+1)=v):=fun v hv=>by rw [Ud HRUN.out,HY.out,hv]
   have HNO:Hid (VU L Y=none→paF C R S n D m=none):=fun hv=>Qnk HRUN.out (by rw [HY.out];exact hv) hlt;have q0:(0:Int)≤(t:Int):=by omega
   have q2:(t:Int)<(m:Int):=by omega
   clear hl hsf hst;obtain⟨xc,HXC⟩: ∃xc:Int,Hid (Y.c=xc):=⟨_,rfl⟩;obtain⟨xr,HXR⟩: ∃xr:Int,Hid (Y.r=xr):=⟨_,rfl⟩;obtain⟨xf,HXF⟩: ∃xf:ByteArray,Hid (Y.f=xf):=⟨_,rfl⟩;obtain⟨xt,HXT⟩: ∃xt:ByteArray,Hid (Y.t=xt):=⟨_,rfl⟩;rw [HXC.out]at c0;rw [HXR.out]at c1
   rw [HXF.out]at c2;rw [HXT.out]at c3;have HSZ:Hid (xt.size≤maxLen):=by show _≤_;rw [←HXT.out];exact HST.out
   clear HST;obtain⟨rk,HRK⟩: ∃rk,Hid (Qi xc xr=rk):=⟨_,rfl⟩;obtain⟨ob,HOB⟩: ∃ob,Hid (YQ xt=ob):=⟨_,rfl⟩;obtain⟨sa,HAT⟩: ∃sa,Hid (atC xc xr L=sa):=⟨_,rfl⟩;go_upto_region 7 with fail
   obtain⟨X,HX⟩: ∃X,Hid (wr.alloc (.cells #[.int .i64 xc,.int .i64 xr,.string xf,.string xt] 40)=X):=⟨_,rfl⟩;rw [HX.out];have x0:X.cell? ⟨wr.heap.size,0,none⟩=some (.int .i64 xc):=by rw [←HX.out];go_simp
   have x1:X.cell? ⟨wr.heap.size,1,none⟩=some (.int .i64 xr):=by rw [←HX.out];go_simp
   have x2:X.cell? ⟨wr.heap.size,2,none⟩=some (.string xf):=by rw [←HX.out];go_simp
   have x3:X.cell? ⟨wr.heap.size,3,none⟩=some (.string xt):=by rw [←HX.out];go_simp
   have zX:wr.heap.size<X.heap.size:=by rw [←HX.out];simp
   have KW:Hid (Below wr.heap.size wr X):=by rw [←HX.out];show Below _ _ _;go_grown
   have KX:=hd (Qb KA.out KW.out);have HGX:=hd (HG.out.below KX.out);have HMX:Hid (X.ownsMap Tryz.prog 38 Zs g cnt Dm):=Uf HMP.out KW.out;clear HX c0 c1 c2 c3 hl2 KW KA HMP;cases rk
   ·have HV:Hid (paF C R S n D m=none):=HNO.out (Qih (by rw [HXC.out,HXR.out];exact HRK.out));refine wp_region_held_drew (S:=(fun w'=>(∀bq oq,bq<X.heap.size→w'.cell? ⟨bq,oq,none⟩=X.cell? ⟨bq,oq,none⟩)∧X.heap.size≤w'.heap.size∧Below X.heap.size X w')) (by kernel_rfl) (Qk (by go_size) (by go_grown)) (fun hHeld=> ?_);refine tkA 0 ?_;refine tkB 1 ?_;refine rqA 2 (fun Kq hKq=> ?_);go_simp
    (refine(QT _ _ _).mono ?_;rintro e w1 ⟨rfl,hb⟩;rw [HRK.out];obtain⟨hk1,hz1⟩:=Qg (B:=X.heap.size) (X:=X) (by go_grown) (by go_size) hb;have hC:=fun b o h=>hk1.cell (p:=⟨b,o,none⟩) h;clear hb)
    refine hkB hKq (Qk (by go_size) (by go_grown)) fun hHeld=> ?_;clear hKq Kq;refine tkA 3 ?_;refine tkB 4 ?_;refine tnA 5 ?_;refine tnB 6 ?_;refine tnA 7 ?_
    refine tnB 8 ?_;refine tkA 9 ?_;refine tkB 10 ?_;refine tnA 11 ?_;refine tnB 12 ?_;refine tnA 13 ?_;refine tnB 14 ?_
    refine tnA 15 ?_;refine tnB 16 ?_;refine tnA 17 ?_;refine tnB 18 ?_;refine tkB 19 ?_;refine wpAnyH_done (by kernel_rfl) ?_ _;go_wp2_with fail
    refine bodyPost_ret (v:= .tuple #[.slice none 0 0,.bool false]) ?_ rfl ⟨?_,Qb KX.out (by go_grown)⟩
    ·simp (maxDischargeDepth:=9) [results,Tryz.results12,go_sem, *]
    ·rw [HV.out];exact rfl
   cases ob
   ·have HV:Hid (paF C R S n D m=none):=HNO.out (Qig (by rw [HXT.out];exact HOB.out));refine wp_region_held_drew (S:=(fun w'=>(∀bq oq,bq<X.heap.size→w'.cell? ⟨bq,oq,none⟩=X.cell? ⟨bq,oq,none⟩)∧X.heap.size≤w'.heap.size∧Below X.heap.size X w')) (by kernel_rfl) (Qk (by go_size) (by go_grown)) (fun hHeld=> ?_);refine tkA 0 ?_;refine tkB 1 ?_;refine rqA 2 (fun Kq hKq=> ?_);go_simp
    (refine(QT _ _ _).mono ?_;rintro e w1 ⟨rfl,hb⟩;rw [HRK.out];obtain⟨hk1,hz1⟩:=Qg (B:=X.heap.size) (X:=X) (by go_grown) (by go_size) hb;have hC:=fun b o h=>hk1.cell (p:=⟨b,o,none⟩) h;clear hb)
    refine hkB hKq (Qk (by go_size) (by go_grown)) fun hHeld=> ?_;clear hKq Kq;refine tkA 3 ?_;refine tkB 4 ?_;refine tkA 5 ?_;refine tkB 6 ?_;refine rqA 7 (fun Kq hKq=> ?_)
    go_simp
    (refine(Zq _ _ HSZ.out (HGX.out.below (by go_grown))).mono ?_;rintro e w2 ⟨rfl,hb⟩;rw [HOB.out];obtain⟨hk2,hz2⟩:=Qg (B:=X.heap.size) (X:=X) (by go_grown) (by go_size) hb;have hC2:=fun b o h=>hk2.cell (p:=⟨b,o,none⟩) h;clear hb)
    refine hkB hKq (Qk (by go_size) (by go_grown)) fun hHeld=> ?_;clear hKq Kq;refine tkA 8 ?_;refine tkB 9 ?_;refine tkA 10 ?_;refine tnB 11 ?_;refine tnA 12 ?_
    refine tnB 13 ?_;refine tnA 14 ?_;refine tnB 15 ?_;refine tnA 16 ?_;refine tnB 17 ?_;refine tnA 18 ?_;refine tkB 19 ?_
    refine wpAnyH_done (by kernel_rfl) ?_ _;go_wp2_with fail
    refine bodyPost_ret (v:= .tuple #[.slice none 0 0,.bool false]) ?_ rfl ⟨?_,Qb KX.out (by go_grown)⟩
    ·simp (maxDischargeDepth:=9) [results,Tryz.results12,go_sem, *]
    ·rw [HV.out];exact rfl
   obtain⟨k0,hk0⟩:=OK HRK.out;have HK0:Hid (keyOf Tryz.prog 38 (.agg #[.int .i64 xc,.int .i64 xr])=some k0):=hk0;obtain⟨lc,lr,hlk⟩:=HCM.out.look hk0;rw [HAT.out]at hlk;have HLK:Hid (∀w',Below X.heap.size X w'→(Instr.lookup 61 (.map (some g)) (.agg #[.int .i64 xc,.int .i64 xr]) false).run Tryz.prog w'= .ok (.agg #[.int .i64 lc,.int .i64 lr,.string sa]) w'):=fun w' hb=>Qbz (Uf HMX.out hb) HK0.out hlk;have hfl:=Qgw lc lr sa;obtain⟨sm,HSM⟩: ∃sm,Hid ((sa.toList==xf.toList)=sm):=⟨_,rfl⟩
   have hsm:=HSM.out;clear hk0 hlk;cases sm
   ·have HV:Hid (paF C R S n D m=none):=HNO.out (Qif (by rw [HXC.out,HXR.out,HXF.out,HAT.out];exact HSM.out));refine wp_region_held_drew (S:=(fun w'=>((∀bq oq,bq<X.heap.size→w'.cell? ⟨bq,oq,none⟩=X.cell? ⟨bq,oq,none⟩)∧X.heap.size≤w'.heap.size∧Below X.heap.size X w')∧(Instr.lookup 61 (.map (some g)) (.agg #[.int .i64 xc,.int .i64 xr]) false).run Tryz.prog w'= .ok (.agg #[.int .i64 lc,.int .i64 lr,.string sa]) w')) (by kernel_rfl) (VP (Qk (by go_size) (by go_grown)) HLK.out) (fun hHeld=> ?_);refine tkA 0 ?_;refine tkB 1 ?_;refine rqA 2 (fun Kq hKq=> ?_);go_simp
    (refine(QT _ _ _).mono ?_;rintro e w1 ⟨rfl,hb⟩;rw [HRK.out];obtain⟨hk1,hz1⟩:=Qg (B:=X.heap.size) (X:=X) (by go_grown) (by go_size) hb;have hC:=fun b o h=>hk1.cell (p:=⟨b,o,none⟩) h;clear hb)
    refine hkB hKq (VP (Qk (by go_size) (by go_grown)) HLK.out) fun hHeld=> ?_;clear hKq Kq;refine tkA 3 ?_;refine tkB 4 ?_;refine tkA 5 ?_;refine tkB 6 ?_;refine rqA 7 (fun Kq hKq=> ?_)
    go_simp
    (refine(Zq _ _ HSZ.out (HGX.out.below (by go_grown))).mono ?_;rintro e w2 ⟨rfl,hb⟩;rw [HOB.out];obtain⟨hk2,hz2⟩:=Qg (B:=X.heap.size) (X:=X) (by go_grown) (by go_size) hb;have hC2:=fun b o h=>hk2.cell (p:=⟨b,o,none⟩) h;clear hb)
    refine hkB hKq (VP (Qk (by go_size) (by go_grown)) HLK.out) fun hHeld=> ?_;clear hKq Kq;refine tkA 8 ?_;refine tkB 9 ?_;refine tkA 10 ?_;refine tkB 11 ?_;refine tkA 12 ?_
    refine tkB 13 ?_;refine tkA 14 ?_;refine tkB 15 ?_;refine tkA 16 ?_;refine tkB 17 ?_;refine tkA 18 ?_;refine tkB 19 ?_
    refine wpAnyH_done (by kernel_rfl) ?_ _;go_wp2_with fail
    refine bodyPost_ret (v:= .tuple #[.slice none 0 0,.bool false]) ?_ rfl ⟨?_,Qb KX.out (by go_grown)⟩
    ·simp (maxDischargeDepth:=9) [results,Tryz.results12,go_sem, *]
    ·rw [HV.out];exact rfl
   have HST:Hid (VU L Y=some (YE ⟨xc,xr,xt⟩ L)):=by
    show _=_;rw [Qaj (by rw [HXC.out,HXR.out];exact HRK.out) (by rw [HXT.out];exact HOB.out) (by rw [HXC.out,HXR.out,HXF.out,HAT.out];exact HSM.out),HXC.out,HXR.out,HXT.out]
   have HNR:Hid (Zy D (clE C R S n) (t+1)=some (YE ⟨xc,xr,xt⟩ L)):=HNX.out _ HST.out;refine wp_region_held_drew (S:=(fun w'=>((∀bq oq,bq<X.heap.size→w'.cell? ⟨bq,oq,none⟩=X.cell? ⟨bq,oq,none⟩)∧X.heap.size≤w'.heap.size∧Below X.heap.size X w')∧(Instr.lookup 61 (.map (some g)) (.agg #[.int .i64 xc,.int .i64 xr]) false).run Tryz.prog w'= .ok (.agg #[.int .i64 lc,.int .i64 lr,.string sa]) w')) (by kernel_rfl) (VP (Qk (by go_size) (by go_grown)) HLK.out) (fun hHeld=> ?_);refine tkA 0 ?_;refine tkB 1 ?_;refine rqA 2 (fun Kq hKq=> ?_);go_simp
   (refine(QT _ _ _).mono ?_;rintro e w1 ⟨rfl,hb⟩;rw [HRK.out];obtain⟨hk1,hz1⟩:=Qg (B:=X.heap.size) (X:=X) (by go_grown) (by go_size) hb;have hC:=fun b o h=>hk1.cell (p:=⟨b,o,none⟩) h;clear hb)
   refine hkB hKq (VP (Qk (by go_size) (by go_grown)) HLK.out) fun hHeld=> ?_;clear hKq Kq;refine tkA 3 ?_;refine tkB 4 ?_;refine tkA 5 ?_;refine tkB 6 ?_;refine rqA 7 (fun Kq hKq=> ?_)
   go_simp
   (refine(Zq _ _ HSZ.out (HGX.out.below (by go_grown))).mono ?_;rintro e w2 ⟨rfl,hb⟩;rw [HOB.out];obtain⟨hk2,hz2⟩:=Qg (B:=X.heap.size) (X:=X) (by go_grown) (by go_size) hb;have hC2:=fun b o h=>hk2.cell (p:=⟨b,o,none⟩) h;clear hb)
   refine hkB hKq (VP (Qk (by go_size) (by go_grown)) HLK.out) fun hHeld=> ?_;clear hKq Kq;refine tkA 8 ?_;refine tkB 9 ?_;refine tkA 10 ?_;refine tkB 11 ?_;refine tkA 12 ?_
   refine tkB 13 ?_;refine tkA 14 ?_;refine tkB 15 ?_;refine tkA 16 ?_;refine tkB 17 ?_;refine tkA 18 ?_;refine tkB 19 ?_
   refine wpAnyH_done (by kernel_rfl) ?_ _;go_wp2_with fail
   refine(Qi9 (B:=w.heap.size) (s:=xt) _ (Uf HMX.out (by go_grown)) HWG.out (by omega) HK0.out).mono ?_;rintro e u4 ⟨rfl,⟨m4,hm4,ho⟩,hb⟩;have K4:Hid (Below w.heap.size w u4):=(Qb KX.out (by go_grown)).trans hb;obtain⟨D4,HD4⟩: ∃D4,Hid ((if xt.toList.isEmpty=true then Dm.del k0 else Dm.put k0 (.held (.agg #[.int .i64 xc,.int .i64 xr,.string xt])))=D4):=⟨_,rfl⟩;rw [HD4.out]at ho;have HM4:Hid (u4.ownsMap Tryz.prog 38 Zs g m4 D4):=ho
   have HC4:Hid (CmD D4 (YE ⟨xc,xr,xt⟩ L)):=by
    show CmD D4 _;refine CmD.perm ?_ (Xo ⟨xc,xr,xt⟩ L).symm;rw [←HD4.out];by_cases he:xt.toList.isEmpty=true
    ·rw [if_pos he,if_pos he];exact HCM.out.off HK0.out
    ·rw [if_neg he,if_neg he];exact HCM.out.on HMX.out.isMap (x:=⟨xc,xr,xt⟩) HK0.out
   clear ho hb HD4;go_wp2_with fail
   go_roundw
   case rel=>exact⟨t+1,_,m4,D4,by omega,by go_num,HNR.out,HM4.out,HC4.out,by omega,K4.out⟩
   case measure=>simp [intOf];omega
  ·have h1: ¬(t:Int)<(m:Int):=by omega
   obtain rfl:m=t:=by omega
   have HV:Hid (paF C R S n D m=if 120<L.length then none else some L):=Qnn HCK.out (by omega) HRUN.out;obtain⟨k,HKN⟩: ∃k,Hid (L.length=k):=⟨_,rfl⟩;have hk480:k≤10000:=by rw [←HKN.out];have:=HPI.out.len;omega
   have hsz:Maps.size Dm=k:=by rw [HCM.out.size HMP.out,HKN.out]
   by_cases h120:120<k
   ·have q3:(120:Int)<((k:Nat):Int):=by omega
    go_wp2_with (first
     | (at_len;refine wpList_len_own _ rfl _ 61 rfl 38 49 Tryz.underlying61 _ g cnt Dm rfl HMP.out ?_;rw [hsz])
     | fail)
    go_wp2_with fail
    refine bodyPost_ret (v:= .tuple #[.slice none 0 0,.bool false]) ?_ rfl ⟨?_,KA.out⟩
    ·simp (maxDischargeDepth:=9) [results,Tryz.results12,go_sem, *]
    ·rw [HV.out,HKN.out,if_pos h120];exact rfl
   ·have q3: ¬(120:Int)<((k:Nat):Int):=by omega
    go_wp2_with (first
     | (at_len;refine wpList_len_own _ rfl _ 61 rfl 38 49 Tryz.underlying61 _ g cnt Dm rfl HMP.out ?_;rw [hsz])
     | fail)
    go_wp2_with fail
    refine(Hl _ HMP.out HCM.out (by rw [HKN.out];omega)).mono ?_;rintro e u5 ⟨A5,c5,M,rfl,hp,hpw,ho,hb⟩;have HMS:Hid (M=L):=Qoa hpw HPI.out.rise hp;rw [HMS.out,HKN.out]at ho;rw [HKN.out];have HO:Hid (u5.ownsRow w.heap.size 49 3 (.slice A5 k c5) k (Qu CL.cs L)):=Go.Proofs.ownsRow_base_a ho KA.out.size;have K5:=hd (Qb KA.out hb)
    clear ho hb hp hpw;go_wp2_with fail
    refine bodyPost_ret (v:= .tuple #[.slice A5 k c5,.bool true]) ?_ rfl ⟨?_,K5.out⟩
    ·simp (maxDischargeDepth:=9) [results,Tryz.results12,go_sem, *]
    ·rw [HV.out,HKN.out,if_neg h120];exact⟨A5,c5,k,rfl,HKN.out,HO.out⟩
end Go.Proofs.YthjldgbfgapbcaaGreatDoor
