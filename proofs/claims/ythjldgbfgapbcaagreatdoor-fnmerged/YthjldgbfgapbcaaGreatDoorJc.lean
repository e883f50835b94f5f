import Derived.Test.YthjldgbfgapbcaaGreatDoorMn
import Derived.Test.YthjldgbfgapbcaaGreatDoorGhd
import Derived.Test.YthjldgbfgapbcaaGreatDoorGgc
import Derived.RangeFuncCalls
import Derived.Test.YthjldgbfgapbcaaGreatDoorGhc
import Derived.Test.YthjldgbfgapbcaaGreatDoorGge
import Derived.Test.YthjldgbfgapbcaaGreatDoorGzj
set_option linter.unusedSimpArgs false
set_option linter.unusedVariables false
set_option maxHeartbeats 8000000
set_option maxRecDepth 100000
namespace Go.Proofs.YthjldgbfgapbcaaGreatDoor
open Go.RowKit Go.Maps Go.Sort Go.Shelf
attribute [local go_sem] Oper.semAt_some
def Nk : Code := ((Code.region 3 #[{ dst := some 6, op := Op.alloc 38, type := 0, pos := "l09_diffs.go:23", after := #[], guard := none }, { dst := none, op := Op.store 38 (Operand.tmp 6) (Operand.tmp 12), type := 0, pos := "l09_diffs.go:23", after := #[{ on := 0, ground := Ground.data }, { on := 0, ground := Ground.phase }], guard := none }] false).seq (Code.region 4 #[{ dst := some 7, op := Op.assign (Operand.tmp 13), type := 74, pos := "l09_diffs.go:23", after := #[], guard := none }] false))
def Qc2 : Code := (Code.block 1 ((Code.region 5 #[{ dst := some 14, op := Op.move (Operand.tmp 7), type := 74, pos := "l09_diffs.go:24", after := #[], guard := none }, { dst := some 15, op := Op.indexAddr 74 (Operand.tmp 14) (Operand.const (Value.int IntKind.i64 0)), type := 0, pos := "l09_diffs.go:24", after := #[{ on := 0, ground := Ground.data }], guard := none }, { dst := some 16, op := Op.load 9 (Operand.tmp 15), type := 9, pos := "l09_diffs.go:24", after := #[{ on := 1, ground := Ground.data }], guard := none }, { dst := some 17, op := Op.move (Operand.tmp 7), type := 74, pos := "l09_diffs.go:24", after := #[], guard := none }, { dst := some 18, op := Op.indexAddr 74 (Operand.tmp 17) (Operand.const (Value.int IntKind.i64 1)), type := 0, pos := "l09_diffs.go:24", after := #[{ on := 3, ground := Ground.data }], guard := none }, { dst := some 19, op := Op.load 9 (Operand.tmp 18), type := 9, pos := "l09_diffs.go:24", after := #[{ on := 4, ground := Ground.data }], guard := none }, { dst := some 20, op := Op.binOp BinOp.neq 9 (Operand.tmp 16) (Operand.tmp 19) 9, type := 4, pos := "l09_diffs.go:24", after := #[{ on := 2, ground := Ground.data }, { on := 5, ground := Ground.data }], guard := none }] true).seq (Code.cond (Operand.tmp 20) (Code.region 6 #[{ dst := some 21, op := Op.load 27 (Operand.tmp 5), type := 27, pos := "l09_diffs.go:25", after := #[], guard := none }, { dst := some 22, op := Op.load 38 (Operand.tmp 6), type := 38, pos := "l09_diffs.go:25", after := #[], guard := none }, { dst := some 23, op := Op.move (Operand.tmp 7), type := 74, pos := "l09_diffs.go:25", after := #[], guard := none }, { dst := some 24, op := Op.indexAddr 74 (Operand.tmp 23) (Operand.const (Value.int IntKind.i64 0)), type := 0, pos := "l09_diffs.go:25", after := #[{ on := 2, ground := Ground.data }], guard := none }, { dst := some 25, op := Op.load 9 (Operand.tmp 24), type := 9, pos := "l09_diffs.go:25", after := #[{ on := 3, ground := Ground.data }], guard := none }, { dst := some 26, op := Op.move (Operand.tmp 7), type := 74, pos := "l09_diffs.go:25", after := #[], guard := none }, { dst := some 27, op := Op.indexAddr 74 (Operand.tmp 26) (Operand.const (Value.int IntKind.i64 1)), type := 0, pos := "l09_diffs.go:25", after := #[{ on := 5, ground := Ground.data }], guard := none }, { dst := some 28, op := Op.load 9 (Operand.tmp 27), type := 9, pos := "l09_diffs.go:25", after := #[{ on := 6, ground := Ground.data }], guard := none }, { dst := some 29, op := Op.build 40 #[(0, Operand.tmp 22), (1, Operand.tmp 25), (2, Operand.tmp 28)], type := 40, pos := "l09_diffs.go:25", after := #[{ on := 1, ground := Ground.data }, { on := 4, ground := Ground.data }, { on := 7, ground := Ground.data }], guard := none }, { dst := some 30, op := Op.buildSlice 27 1 #[(0, Operand.tmp 29)], type := 27, pos := "l09_diffs.go:25", after := #[{ on := 8, ground := Ground.data }], guard := none }, { dst := some 31, op := Op.call { callee := Callee.builtin Builtin.append, args := #[Operand.tmp 21, Operand.tmp 30], argTypes := #[27, 27] }, type := 27, pos := "l09_diffs.go:25", after := #[{ on := 0, ground := Ground.data }, { on := 9, ground := Ground.data }], guard := none }, { dst := none, op := Op.store 27 (Operand.tmp 5) (Operand.tmp 31), type := 0, pos := "l09_diffs.go:25", after := #[{ on := 10, ground := Ground.data }, { on := 10, ground := Ground.chain }, { on := 0, ground := Ground.phase }, { on := 1, ground := Ground.phase }, { on := 2, ground := Ground.phase }, { on := 3, ground := Ground.phase }, { on := 4, ground := Ground.phase }, { on := 5, ground := Ground.phase }, { on := 6, ground := Ground.phase }, { on := 7, ground := Ground.phase }, { on := 8, ground := Ground.phase }, { on := 9, ground := Ground.phase }, { on := 10, ground := Ground.phase }], guard := none }] true) Code.skip)))
def UC (fn:FuncId) (va vb vs sv:Value) (Bs D:Nat) (st:LoopState) (pend:Option Code):Loop:=
 {state:=st,pending:=pend,fn,tmps:= #[va,vb,undef,undef,.slice none 0 0,.pointer (some ⟨Bs,0,none⟩),undef,undef,va,vb,vs,sv,undef,undef,undef,undef,undef,undef,undef,undef,undef,undef,undef,undef,undef,undef,undef,undef,undef,undef,undef,undef,undef],params:= #[12,13],assign:=Nk,body:=Qc2,defers:=D}
def dcL (a b:List CL) (pre:List CL):List CH:=(pre.map (fun m=>(⟨m.c,m.r,atC m.c m.r a,atC m.c m.r b⟩:CH))).filter neH
structure DcAt (w0:World) (fn:FuncId) (va vb vs sv:Value) (Bs l D:Nat) (a b:List CL) (H:Nat) (pre:List CL) (W:World):Prop where
 box: ∃v,W.heap[Bs]? =some (.cells #[v] 27 (0,0))∧W.ownsRow H 40 4 v (dcL a b pre).length (Qu chL (dcL a b pre))
 L:W.heap[l]? =some (.loop (UC fn va vb vs sv Bs D .ready none))
 K:W.heap[D]? =some (.deferred (some []))
 below:Below w0.heap.size w0 W
 size:H≤W.heap.size
theorem DcAt.later {w0:World} {fn:FuncId} {va vb vs sv:Value} {Bs l D:Nat} {a b:List CL} {H:Nat} {pre:List CL} {W W':World} (h:DcAt w0 fn va vb vs sv Bs l D a b H pre W) (hb:Below W.heap.size W W'):DcAt w0 fn va vb vs sv Bs l D a b H pre W':=by
 obtain⟨v,hv,hr⟩:=h.box;exact⟨⟨v,(hb.block Bs (Array.getElem?_eq_some_iff.1 hv).1).trans hv,Qe hr hb⟩,(hb.block l (Array.getElem?_eq_some_iff.1 h.L).1).trans h.L,(hb.block D (Array.getElem?_eq_some_iff.1 h.K).1).trans h.K,Qb h.below hb,Nat.le_trans h.size hb.size⟩
theorem Qdi (n:Nat) (As:Option Addr) (k cs:Nat) (w:World):
  CallsIn Fence.wide n Tryz.prog 43 #[.slice As k cs] w fun e w'=>e= .returned (.func (.func 62) #[] #[.pointer (some ⟨w.heap.size,0,none⟩)])∧w'=w.alloc (.cells #[.slice As k cs] 99):=by
 refine callsIn_of_wp Tryz.func43 rfl trivial ?_ rfl;simp only [Tryz.ntmps43,List.size_toArray,List.length_cons,List.length_nil,Nat.reduceAdd,Nat.reduceSub,Array.replicate_succ,Array.replicate_zero,List.push_toArray,List.append_toArray,List.nil_append,List.cons_append];gi_wp2
 go_ret;exact⟨rfl,rfl⟩
end Go.Proofs.YthjldgbfgapbcaaGreatDoor
namespace Go.Proofs.YthjldgbfgapbcaaGreatDoor
open Go.RowKit
end Go.Proofs.YthjldgbfgapbcaaGreatDoor
namespace Go.Proofs.YthjldgbfgapbcaaGreatDoor
open Go.RowKit Go.Maps
theorem Qlq {p q:Int} {a:List CL} (h: ∀x∈a,x.s.size≤maxLen):(atC p q a).size≤maxLen:=by
 unfold atC;cases hf:a.find? (fun y=>decide (y.c=p∧y.r=q))with
 | none=>exact Nat.zero_le _
 | some x=>exact h x (List.mem_of_find?_eq_some hf)
theorem Kk: ∀a b:List CL,(dfM a b).length≤a.length+b.length
 | [],[]=>by rw [dfM];simp
 | x::a,[]=>by rw [dfM];have:=Kk a [];simp at this ⊢;omega
 | [],y::b=>by rw [dfM];have:=Kk [] b;simp at this ⊢;omega
 | x::a,y::b=>by
  rw [dfM];have h1:=Kk a (y::b);have h2:=Kk (x::a) b;have h3:=Kk a b;simp only [List.length_cons]at h1 h2 h3 ⊢;split
  ·simp only [List.length_cons];omega
  ·split<;>(simp only [List.length_cons];omega)
 termination_by a b=>a.length+b.length
theorem Qrs {C R:Nat→Int} {S:Nat→ByteArray} {n:Nat} {C' R':Nat→Int} {S':Nat→ByteArray} {m:Nat}:(dfF C R S n C' R' S' m).length≤240:=by
 unfold dfF;split
 ·rename_i h
  have h1:=(Qx h.1).1;have h2:=(Qx h.2).1;have h3:=Kk (clE C R S n) (clE C' R' S' m);rw [Ym,Ym]at h3;have h4:(dfL (clE C R S n) (clE C' R' S' m)).length≤(dfM (clE C R S n) (clE C' R' S' m)).length:=List.length_filter_le _ _;omega
 ·simp
theorem Qtm {C R:Nat→Int} {S:Nat→ByteArray} {n:Nat} {C' R':Nat→Int} {S':Nat→ByteArray} {m:Nat} (hs: ∀i,i<n→(S i).size≤maxLen) (hs': ∀i,i<m→(S' i).size≤maxLen): ∀x∈dfF C R S n C' R' S' m,x.f.size≤maxLen∧x.t.size≤maxLen:=by
 intro x hx;unfold dfF at hx;split at hx
 ·rename_i h
  have h9:=((Yl _ _ (Qx h.1).2.2 (Qx h.2).2.2).1 x).1 (List.mem_filter.1 hx).1;refine⟨?_,?_⟩
  ·rw [h9.2.1];exact Qlq (fun y hy=>by obtain⟨i,hi,rfl⟩:=List.mem_map.1 hy;exact hs i (List.mem_range.1 hi))
  ·rw [h9.2.2];exact Qlq (fun y hy=>by obtain⟨i,hi,rfl⟩:=List.mem_map.1 hy;exact hs' i (List.mem_range.1 hi))
 ·cases hx
def rfL (p:Int × Int):List Value:= [.int .i64 p.1,.int .i64 p.2]
theorem Qk3:(Tryz.prog.info? 38).map (fun i=>(i.zero,i.size,i.bytes))=some (some (.agg #[.int .i64 0,.int .i64 0]),2,16):=by kernel_rfl
theorem Nv {ops:Array Oper} {rest:List Oper} {o:Oper} {a:Act} {Q:Exit→Act→World→Prop} {W:World} (hgd:o.guard=none) (s x:Operand) (ho:o.op= .call {callee:= .builtin .append,args:= #[s,x],argTypes:= #[44,44]}) (B:Nat) (v:Value) (n:Nat) (L:List (Int × Int)) (hs:a.eval s=v)
  (hown:W.ownsRow B 38 2 v n (Qu rfL L)) (z:Int × Int) (g:Nat) (hx:a.eval x= .slice (some ⟨g,0,none⟩) 1 1) (h0:W.cell? ⟨g,0,none⟩=some (.int .i64 z.1)) (h1:W.cell? ⟨g,1,none⟩=some (.int .i64 z.2)) (hn:n≤1099511627776) (hB:B≤W.heap.size)
  (h: ∀v' w',w'.ownsRow B 38 2 v' (n+1) (Qu rfL (L++ [z]))→W.grownBy w' v.ownBlock→wpList Tryz.prog ops Q rest (a.put o.dst v') w'):wpList Tryz.prog ops Q (o::rest) a W:=by
 obtain⟨i0,hi,iz0,iz1,iz2⟩:=info_parts Qk3;refine wpList_append_own W hgd s x 44 ho B 38 i0 (.agg #[.int .i64 0,.int .i64 0]) 2 16 Tryz.underlying44 hi iz0 iz1 iz2 rfl (by decide) v n _ hs hown ⟨g,0,none⟩ 1 1 (rfL z) hx rfl ?_ ?_ ?_ ?_ hB ?_
 ·intro q u hq;match q,hq with
  | 0,hq=>simp [rfL]at hq;subst hq;simpa [Addr.add]using h0
  | 1,hq=>simp [rfL]at hq;subst hq;simpa [Addr.add]using h1
 ·intro u hu;simp [rfL]at hu;rcases hu with rfl | rfl<;>rfl
 ·unfold maxLen;omega
 ·omega
 ·intro v' w3 hown' hgrow _;refine h v' w3 ?_ hgrow;rw [Ye];exact hown'
structure RfR (W:World) (A:Option Addr) (n:Nat) (P:List (Int × Int)):Prop where
 len:P.length=n
 lim:n≤maxLen
 at_: ∀i,i<n→ ∃b o,A=some ⟨b,o,none⟩∧b<W.heap.size∧W.cell? ⟨b,o+i*2,none⟩=some (.int .i64 (P.getD i (0,0)).1)∧W.cell? ⟨b,o+i*2+1,none⟩=some (.int .i64 (P.getD i (0,0)).2)
theorem RfR.below {W W':World} {A:Option Addr} {n:Nat} {P:List (Int × Int)} (h:RfR W A n P) (hb:Below W.heap.size W W'):RfR W' A n P:=
 ⟨h.len,h.lim,fun i hi=>by
  obtain⟨b,o,e,hl,c0,c1⟩:=h.at_ i hi
  exact⟨b,o,e,Nat.lt_of_lt_of_le hl hb.size,(hb.cell (p:=⟨b,_,none⟩) hl).trans c0,(hb.cell (p:=⟨b,_,none⟩) hl).trans c1⟩⟩
theorem RfR.of_own {W:World} {B n cap:Nat} {A:Option Addr} {P:List (Int × Int)} (h:W.ownsRow B 38 2 (.slice A n cap) n (Qu rfL P)) (hP:P.length=n):RfR W A n P:=by
 obtain⟨A',cap',e,hn,hc⟩:=Qh h;cases e
 refine⟨hP,hn,fun i hi=> ?_⟩;have hat:P[i]? =some (P.getD i (0,0)):=by rw [List.getD_eq_getElem?_getD,List.getElem?_eq_getElem (by omega)];rfl
 have cell: ∀j,j<2→ ∃g,A=some ⟨g,0,none⟩∧g<W.heap.size∧W.cell? ⟨g,i*2+j,none⟩=(rfL (P.getD i (0,0)))[j]?:=fun j hj=>by
  obtain⟨g,e,_,hl,c,_⟩:=hc (i*2+j) (by omega);refine⟨g,e,hl,?_⟩;rw [c,Jb (f:=rfL) (k:=2) (fun _=>rfl) j hj,hat];rfl
 obtain⟨g,rfl,hl,c0⟩:=cell 0 (by omega);obtain⟨g1,e1,_,c1⟩:=cell 1 (by omega);cases e1
 exact⟨g,0,rfl,hl,by rw [Nat.zero_add];exact c0,by rw [Nat.zero_add];exact c1⟩
abbrev MgT:=List CL × List (Int × Int) × Bool
def MgR (B:Nat) (w':World) (r:MgT) (e:Ending):Prop:= ∃A c A' c',e= .returned (.tuple #[.slice A r.1.length c,.slice A' r.2.1.length c',.bool r.2.2])∧w'.ownsRow B 49 3 (.slice A r.1.length c) r.1.length (Qu CL.cs r.1)∧w'.ownsRow B 38 2 (.slice A' r.2.1.length c') r.2.1.length (Qu rfL r.2.1)
theorem Ht (B:Nat) (w':World):MgR B w' ([],[],false) (.returned (.tuple #[.slice none 0 0,.slice none 0 0,.bool false])):=⟨none,0,none,0,rfl,⟨rfl,.inl ⟨rfl,rfl⟩⟩,⟨rfl,.inl ⟨rfl,rfl⟩⟩⟩
def mgF (ok:Bool) (X:List CL) (ds:List CH):MgT:=if ok=true then(if spC X ds= []then(if 120<(spO X X ds).length then([],[],false)else(spO X X ds,[],true))else([],spC X ds,false))else([],[],false)
theorem DT (X:List CL): ∀(ds:List CH) (E:List CL),(spO X E ds).length≤E.length+ds.length
 | [],E=>by simp [spO]
 | c::ds,E=>by
  have e:spO X E (c::ds)=spO X (if Hi X c=true then YE ⟨c.c,c.r,c.t⟩ E else E) ds:=rfl;rw [e];have h2:=EU ⟨c.c,c.r,c.t⟩ E;simp only [List.length_cons];by_cases hc:Hi X c=true
  ·rw [if_pos hc];have h1:=DT X ds (YE ⟨c.c,c.r,c.t⟩ E);omega
  ·rw [if_neg hc];have h1:=DT X ds E;omega
theorem Qcw {X:List CL}: ∀{ds:List CH} {E:List CL},(∀x∈E,x.s.size≤maxLen)→(∀c∈ds,c.f.size≤maxLen∧c.t.size≤maxLen)→ ∀x∈spO X E ds,x.s.size≤maxLen
 | [],E,h,_=>h
 | c::ds,E,h,hd=>by
  have e:spO X E (c::ds)=spO X (if Hi X c=true then YE ⟨c.c,c.r,c.t⟩ E else E) ds:=rfl;rw [e];refine Qcw (fun x hx=> ?_) (fun c' hc'=>hd c' (by simp [hc']));split at hx
  ·rcases ET hx with h9 | rfl
   ·exact h x h9
   ·exact(hd c (by simp)).2
  ·exact h x hx
theorem Qdh (X:List CL) (ds:List CH):(spC X ds).length≤ds.length:=by
 unfold spC;rw [List.length_map];exact List.length_filter_le _ _
theorem Eo {A0 A A':Option Addr} {n0 cap0 n cap m cap':Nat} {C0 R0 C R C' R':Nat→Int} {S0 S S':Nat→ByteArray} (w:World) (h0:ClRow w A0 n0 C0 R0 S0) (h:ClRow w A n C R S) (h':ClRow w A' m C' R' S'):
  Calls Tryz.prog 21 #[.slice A0 n0 cap0,.slice A n cap,.slice A' m cap'] w fun e w'=>MgR w.heap.size w' (mgF (Qm C0 R0 S0 n0&&Qm C R S n&&Qm C' R' S' m) (clE C R S n) (dfF C0 R0 S0 n0 C' R' S' m)) e∧Below w.heap.size w w':=by
 have HR0:Hid (ClRow w A0 n0 C0 R0 S0):=h0;have HR:Hid (ClRow w A n C R S):=h;have HR':Hid (ClRow w A' m C' R' S'):=h';have HS0:Hid (∀i,i<n0→(S0 i).size≤maxLen):=fun i hi=>by obtain⟨_,_,_,_,_,_,_,h9⟩:=h0.2 i hi;exact h9
 have HS:Hid (∀i,i<n→(S i).size≤maxLen):=fun i hi=>by obtain⟨_,_,_,_,_,_,_,h9⟩:=h.2 i hi;exact h9
 have HS':Hid (∀i,i<m→(S' i).size≤maxLen):=fun i hi=>by obtain⟨_,_,_,_,_,_,_,h9⟩:=h'.2 i hi;exact h9
 clear h0 h h';obtain⟨k0,HK0⟩: ∃k0,Hid (Qm C0 R0 S0 n0=k0):=⟨_,rfl⟩;obtain⟨k1,HK1⟩: ∃k1,Hid (Qm C R S n=k1):=⟨_,rfl⟩;obtain⟨k2,HK2⟩: ∃k2,Hid (Qm C' R' S' m=k2):=⟨_,rfl⟩;obtain⟨DS,HDS⟩: ∃DS,Hid (dfF C0 R0 S0 n0 C' R' S' m=DS):=⟨_,rfl⟩;obtain⟨X,HXE⟩: ∃X,Hid (clE C R S n=X):=⟨_,rfl⟩;rw [HK0.out,HK1.out,HK2.out,HDS.out,HXE.out]
 obtain⟨RS,HRS⟩: ∃RS,Hid (mgF (k0&&k1&&k2) X DS=RS):=⟨_,rfl⟩;rw [HRS.out];go_enter Tryz.func21,Tryz.ntmps21;go_wp2_with fail
 refine(QI _ HR0.out).mono ?_;rintro e u1 ⟨rfl,hb⟩;have KK:Hid (Below w.heap.size w u1):=hb;clear hb;rw [HK0.out];cases k0
 ·have HV:Hid (RS=([],[],false)):=by rw [←HRS.out];exact rfl
  go_wp2_with fail
  refine bodyPost_ret (v:= .tuple #[.slice none 0 0,.slice none 0 0,.bool false]) ?_ rfl ⟨?_,KK.out⟩
  ·simp (maxDischargeDepth:=9) [results,Tryz.results21,go_sem, *]
  ·rw [HV.out];exact Ht _ _
 go_wp2_with fail
 refine(QI _ (HR.out.below KK.out)).mono ?_;rintro e u2 ⟨rfl,hb⟩;replace KK:=hd (Qb KK.out hb);clear hb;rw [HK1.out];cases k1
 ·have HV:Hid (RS=([],[],false)):=by rw [←HRS.out];exact rfl
  go_wp2_with fail
  refine bodyPost_ret (v:= .tuple #[.slice none 0 0,.slice none 0 0,.bool false]) ?_ rfl ⟨?_,KK.out⟩
  ·simp (maxDischargeDepth:=9) [results,Tryz.results21,go_sem, *]
  ·rw [HV.out];exact Ht _ _
 go_wp2_with fail
 refine(QI _ (HR'.out.below KK.out)).mono ?_;rintro e u3 ⟨rfl,hb⟩;replace KK:=hd (Qb KK.out hb);clear hb;rw [HK2.out];cases k2
 ·have HV:Hid (RS=([],[],false)):=by rw [←HRS.out];exact rfl
  go_wp2_with fail
  refine bodyPost_ret (v:= .tuple #[.slice none 0 0,.slice none 0 0,.bool false]) ?_ rfl ⟨?_,KK.out⟩
  ·simp (maxDischargeDepth:=9) [results,Tryz.results21,go_sem, *]
  ·rw [HV.out];exact Ht _ _
 have HRS2:Hid (mgF true X DS=RS):=HRS.out;have hn:n≤120:=(Qx HK1.out).1;have HUX:Hid (upC X):=by rw [←HXE.out];exact(Qx HK1.out).2.2
 have HXL:Hid (X.length=n):=by show _=_;rw [←HXE.out];exact Ym _ _ _ _
 have HDZ:Hid (∀x∈DS,x.f.size≤maxLen∧x.t.size≤maxLen):=by rw [←HDS.out];exact Qtm HS0.out HS'.out
 have HXZ:Hid (∀x∈X,x.s.size≤maxLen):=by
  rw [←HXE.out];exact fun y hy=>by obtain⟨i,hi,rfl⟩:=List.mem_map.1 hy;exact HS.out i (List.mem_range.1 hi)
 have hd240:DS.length≤240:=by rw [←HDS.out];exact Qrs
 obtain⟨i0,hi,iz0,iz1,iz2⟩:=info_parts NM;have HI:Hid (_=_):=hi;clear hi HRS;have HR1:=hd (HR.out.below KK.out);have HE0:Hid ((u3.alloc (.cells #[] 49)).ownsRow u3.heap.size 49 3 (.slice (some ⟨u3.heap.size,0,none⟩) 0 0) 0 []):=Jj (Nat.le_refl _) rfl;have HR2:Hid (ClRow (u3.alloc (.cells #[] 49)) A n C R S):=by exact HR1.out.below ((Below.refl _ _).alloc (Nat.le_refl _) _)
 go_wp2_with (first
  | (at_builtin;refine Dn 24 49 i0 (.agg #[.int .i64 0,.int .i64 0,.string ⟨#[]⟩]) 3 32 Tryz.underlying24 HI.out iz0 iz1 iz2 rfl (by decide) rfl _ _ rfl u3.heap.size (by simp) _ rfl HE0.out A n cap (clX C R S n) rfl (MR C R S n) (Qen HR2.out) (Qa1 HR2.out) (Qeo C R S n) HR2.out.1 (by omega) ?_)
  | fail)
 intro A2 c2 u4 ho hg;have HO4:Hid (u4.ownsRow w.heap.size 49 3 (.slice A2 n c2) n (Qu CL.cs X)):=by rw [←HXE.out,←Gr];exact Go.Proofs.ownsRow_base_a ho KK.out.size
 have K4:Hid (Below w.heap.size w u4):=KK.out.trans ((((Below.refl _ _).alloc (Nat.le_refl _) _).grown hg (by simp) (fun j hj=>(HE0.out.lt j hj).1)).mono KK.out.size);clear ho hg HE0 HR2 HR1 HI KK;go_wp2_with fail
 obtain⟨X4,HX4⟩: ∃X4,Hid (u4.alloc (.cells #[] 38)=X4):=⟨_,rfl⟩;rw [HX4.out];have HRF:Hid (X4.ownsRow w.heap.size 38 2 (.slice (some ⟨u4.heap.size,0,none⟩) 0 0) 0 (Qu rfL [])):=by rw [←HX4.out];exact Go.Proofs.ownsRow_base_a (Jj (Nat.le_refl _) rfl) K4.out.size
 have KE:Hid (Below u4.heap.size u4 X4):=by rw [←HX4.out];exact(Below.refl _ _).alloc (Nat.le_refl _) _
 have K5:=hd (Qb K4.out KE.out);have HO5:=hd (Qe HO4.out KE.out);clear HX4 HO4;refine(XH _ (HR0.out.below K5.out) (HR'.out.below K5.out)).mono ?_;rintro e u5 ⟨her,hb⟩;rw [HDS.out]at her;obtain⟨AD,cD,dd,rfl,hdl,hod⟩:=her
 have HDL:Hid (DS.length=dd):=hdl;have HOD:Hid (u5.ownsRow w.heap.size 40 4 (.slice AD dd cD) dd (Qu chL DS)):=Go.Proofs.ownsRow_base_a hod K5.out.size;have HO6:=hd (Qe HO5.out hb);have HRF6:=hd (Qe HRF.out hb);have K6:=hd (Qb K5.out hb);clear hdl hod hb HO5 HRF K5 KE K4;go_wp2_with fail
 go_loopw [9,10,12] (fun v cl i wr=> ∃(t:Nat) (E:List CL) (Cs:List (Int × Int)) (F:Option Addr) (k c:Nat) (F':Option Addr) (k' c':Nat),t≤dd∧v= .slice F k c∧cl= .slice F' k' c'∧i= .int .i64 t∧E=spO X X (DS.take t)∧Cs=spC X (DS.take t)∧E.length=k∧Cs.length=k'∧wr.ownsRow w.heap.size 49 3 (.slice F k c) k (Qu CL.cs E)∧wr.ownsRow w.heap.size 38 2 (.slice F' k' c') k' (Qu rfL Cs)∧wr.ownsRow w.heap.size 40 4 (.slice AD dd cD) dd (Qu chL DS)∧Below w.heap.size w wr) (fun _ _ i _=>dd-(intOf i).toNat)
 case atStart=>exact⟨0,X,[],A2,n,c2,_,0,0,Nat.zero_le _,rfl,rfl,rfl,rfl,rfl,HXL.out,rfl,HO6.out,HRF6.out,HOD.out,K6.out⟩
 case round=>
  clear HO6 HRF6 HOD K6;obtain⟨t,E,Cs,F,k,c,F',k',c',ht,rfl,rfl,rfl,hE,hCs,hk,hk',hoE,hoC,hoD,hbel⟩:=hrel;have HEE:Hid (E=spO X X (DS.take t)):=hE;have HCC:Hid (Cs=spC X (DS.take t)):=hCs;have HKE:Hid (E.length=k):=hk;have HKC:Hid (Cs.length=k'):=hk';have HOE:Hid (wr.ownsRow w.heap.size 49 3 (.slice F k c) k (Qu CL.cs E)):=hoE
  have HOC:Hid (wr.ownsRow w.heap.size 38 2 (.slice F' k' c') k' (Qu rfL Cs)):=hoC;have HOD:Hid (wr.ownsRow w.heap.size 40 4 (.slice AD dd cD) dd (Qu chL DS)):=hoD;have KA:Hid (Below w.heap.size w wr):=hbel;have hdd:dd≤240:=by rw [←HDL.out];exact hd240
  have hk480:k≤10000:=by
   have h9:=DT X (DS.take t) X;rw [←HKE.out,HEE.out];have h8:=HXL.out;rw [List.length_take]at h9;omega
  have hkc:k'≤240:=by
   have h9:=Qdh X (DS.take t);rw [←HKC.out,HCC.out];rw [List.length_take]at h9;omega
  clear hE hCs hk hk' hoE hoC hoD hbel;by_cases hlt:t<dd
  ·obtain⟨Y,hY⟩: ∃Y,DS[t]? =some Y:=⟨_,List.getElem?_eq_getElem (by rw [HDL.out];exact hlt)⟩;have HTK:Hid (DS.take (t+1)=DS.take t++ [Y]):=by show _=_;rw [List.take_add_one,hY];rfl
   have hrow:=RowAt.of_own Qj2 HOD.out HDL.out;obtain⟨b,o,rfl,hl,hc⟩:=hrow.2 t Y hY;have c0:=hc 0 _ rfl;have c1:=hc 1 _ rfl;have c2:=hc 2 _ rfl;have c3:=hc 3 _ rfl;rw [Nat.add_zero]at c0
   clear hrow hc hY;obtain⟨xc,xr,xf,xt⟩:=Y;simp only at c0 c1 c2 c3;have q0:(0:Int)≤(t:Int):=by omega
   have q2:(t:Int)<(dd:Int):=by omega
   obtain⟨sa,HAT⟩: ∃sa,Hid (atC xc xr (clE C R S n)=sa):=⟨_,rfl⟩;have HAL:Hid (atC xc xr X=sa):=by show _=_;rw [←HXE.out];exact HAT.out
   go_wp2_with fail
   refine(Qff xc xr _ (HR.out.below KA.out)).mono ?_;rintro e u6 ⟨rfl,hb⟩;rw [HAT.out];replace c0:=(hb.cell (p:=⟨b,_,none⟩) hl).trans c0;replace c1:=(hb.cell (p:=⟨b,_,none⟩) hl).trans c1;replace c2:=(hb.cell (p:=⟨b,_,none⟩) hl).trans c2;replace c3:=(hb.cell (p:=⟨b,_,none⟩) hl).trans c3
   have hl6:b<u6.heap.size:=Nat.lt_of_lt_of_le hl hb.size;have K6:=hd (Qb KA.out hb);have OE6:=hd (Qe HOE.out hb);have OC6:=hd (Qe HOC.out hb);have OD6:=hd (Qe HOD.out hb);have z6:w.heap.size≤u6.heap.size:=K6.out.size;clear hb hl HOE HOC HOD KA
   obtain⟨sm,HSM⟩: ∃sm,Hid ((sa.toList==xf.toList)=sm):=⟨_,rfl⟩;have hsm:=HSM.out;have HSI:Hid (Hi X ⟨xc,xr,xf,xt⟩=sm):=by show _=_;unfold Hi;simp only;rw [HAL.out];exact HSM.out
   cases sm
   ·obtain⟨st,HST⟩: ∃st,Hid ((sa.toList==xt.toList)=st):=⟨_,rfl⟩;have hst:=HST.out;have HSN:Hid (EQ X ⟨xc,xr,xf,xt⟩= !st):=by show _=_;unfold EQ;simp only;rw [HAL.out,HSM.out,HST.out];rfl
    have HE1:Hid (E=spO X X (DS.take (t+1))):=by show _=_;rw [HTK.out,EP,if_neg (by rw [HSI.out];decide)];exact HEE.out
    cases st
    ·have HC1:Hid (Cs++ [(xc,xr)]=spC X (DS.take (t+1))):=by show _=_;rw [HTK.out,MW,if_pos (by rw [HSN.out];rfl),←HCC.out]
     go_wp2_with (first
      | (at_builtin;refine Nv rfl _ _ rfl w.heap.size (.slice F' k' c') k' Cs rfl (OC6.out.alloc _) (xc,xr) u6.heap.size rfl (by simp [go_sem, *]) (by simp [go_sem, *]) (by omega) (by simp;omega) ?_)
      | fail)
     intro va w7 ho hg;obtain⟨F7,h7,rfl,_,_⟩:=Qh ho;have OC7:Hid (w7.ownsRow w.heap.size 38 2 (.slice F7 (k'+1) h7) (k'+1) (Qu rfL (Cs++ [(xc,xr)]))):=ho;have OE7:Hid (w7.ownsRow w.heap.size 49 3 (.slice F k c) k (Qu CL.cs E)):=(OE6.out.alloc _).kept hg (Ji OE6.out OC6.out (by decide));have OD7:Hid (w7.ownsRow w.heap.size 40 4 (.slice (some ⟨b,o,none⟩) dd cD) dd (Qu chL DS)):=(OD6.out.alloc _).kept hg (Ji OD6.out OC6.out (by decide));have K7:Hid (Below w.heap.size w w7):=(K6.out.alloc z6 _).grown hg (by simp;omega) (fun j hj=>(OC6.out.lt j hj).1);clear ho hg
     go_wp2_with fail
     go_roundw
     case rel=>exact⟨t+1,E,Cs++ [(xc,xr)],F,k,c,F7,k'+1,h7,by omega,rfl,rfl,by go_num,HE1.out,HC1.out,HKE.out,by simp [HKC.out],OE7.out,OC7.out,OD7.out,K7.out⟩
     case measure=>simp [intOf];omega
    ·have HC1:Hid (Cs=spC X (DS.take (t+1))):=by show _=_;rw [HTK.out,MW,if_neg (by rw [HSN.out];decide),←HCC.out]
     go_wp2_with fail
     go_roundw
     case rel=>exact⟨t+1,E,Cs,F,k,c,F',k',c',by omega,rfl,rfl,by go_num,HE1.out,HC1.out,HKE.out,HKC.out,OE6.out,OC6.out,OD6.out,K6.out⟩
     case measure=>simp [intOf];omega
   ·have HE1:Hid (YE ⟨xc,xr,xt⟩ E=spO X X (DS.take (t+1))):=by show _=_;rw [HTK.out,EP,if_pos HSI.out,←HEE.out]
    have HC1:Hid (Cs=spC X (DS.take (t+1))):=by
     show _=_;rw [HTK.out,MW,if_neg (fun e=> ?_),←HCC.out];unfold EQ at e;simp only at e;rw [HAL.out,HSM.out]at e;cases e
    have HRE:Hid (ClRow u6 F k (QA E) (Qz E) (QB E)):=Xv OE6.out HKE.out (by rw [HEE.out];exact Qcw HXZ.out (fun x hx=>HDZ.out x (List.mem_of_mem_take hx)));have HEQ:Hid (Qed ⟨xc,xr,xt⟩ (clE (QA E) (Qz E) (QB E) k)=YE ⟨xc,xr,xt⟩ E):=by show _=_;rw [←HKE.out,YV];exact(ES (by rw [HEE.out];exact VM HUX.out)).symm
    go_upto_region 11 with fail
    refine wp_region_held_drew (S:=(fun w'=>(∀bq oq,bq<u6.heap.size→w'.cell? ⟨bq,oq,none⟩=u6.cell? ⟨bq,oq,none⟩)∧u6.heap.size≤w'.heap.size∧Below u6.heap.size u6 w')) (by kernel_rfl) (Qk (by go_size) (by go_grown)) (fun hHeld=> ?_);refine tkA 0 ?_;refine tkB 1 ?_;refine tkA 2 ?_;refine tkB 3 ?_;refine tkA 4 ?_;refine tkB 5 ?_
    refine tkA 6 ?_;refine tkB 7 ?_;refine tkA 8 ?_;refine tkB 9 ?_;refine tkB 10 ?_;refine rqA 11 (fun Kq hKq=> ?_);go_simp
    (refine(Mi _ (HRE.out.below (by go_grown)) hk480).mono ?_;rintro e w5 ⟨A5,c5,m5,rfl,hl5,ho5,hb⟩;rw [HEQ.out]at hl5 ho5;have HL5:Hid ((YE ⟨xc,xr,xt⟩ E).length=m5):=hl5;have HO5:Hid (w5.ownsRow w.heap.size 49 3 (.slice A5 m5 c5) m5 (Qu CL.cs (YE ⟨xc,xr,xt⟩ E))):=Go.Proofs.ownsRow_base_a ho5 (by go_size);obtain⟨hk5,hz5⟩:=Qg (B:=u6.heap.size) (X:=u6) (by go_grown) (by go_size) hb;have hC5:=fun b o h=>hk5.cell (p:=⟨b,o,none⟩) h;clear hb;clear hl5 ho5)
    refine hkB hKq (Qk (by go_size) (by go_grown)) fun hHeld=> ?_;clear hKq Kq;refine tkB 12 ?_;refine wpAnyH_done (by kernel_rfl) ?_ _;go_wp2_with fail
    go_roundw
    case rel=>exact⟨t+1,_,Cs,A5,m5,c5,F',k',c',by omega,rfl,rfl,by go_num,HE1.out,HC1.out,HL5.out,HKC.out,Qe HO5.out (by go_grown),Qe OC6.out (by go_grown),Qe OD6.out (by go_grown),Qb K6.out (by go_grown)⟩
    case measure=>simp [intOf];omega
  ·have h1: ¬(t:Int)<(dd:Int):=by omega
   obtain rfl:dd=t:=by omega
   have HTF:Hid (DS.take dd=DS):=by show _=_;rw [←HDL.out,List.take_length]
   have HE1:Hid (E=spO X X DS):=by show _=_;rw [HEE.out,HTF.out]
   have HC1:Hid (Cs=spC X DS):=by show _=_;rw [HCC.out,HTF.out]
   by_cases hcl:0<k'
   ·have q3:(0:Int)<((k':Nat):Int):=by omega
    have HV:Hid (RS=([],Cs,false)):=by
     show _=_;rw [←HRS2.out,mgF,if_pos rfl,if_neg (fun e=>by rw [←HC1.out]at e;have:=HKC.out;rw [e]at this;simp at this;omega),←HC1.out]
    go_wp2_with fail
    refine bodyPost_ret (v:= .tuple #[.slice none 0 0,.slice F' k' c',.bool false]) ?_ rfl ⟨?_,KA.out⟩
    ·simp (maxDischargeDepth:=9) [results,Tryz.results21,go_sem, *]
    ·rw [HV.out];exact⟨none,0,F',c',by simp only [HKC.out];rfl,⟨rfl,.inl ⟨rfl,rfl⟩⟩,by simp only [HKC.out];exact HOC.out⟩
   ·have q3: ¬(0:Int)<((k':Nat):Int):=by omega
    have HN:Hid (spC X DS= []):=by show _=_;rw [←HC1.out];exact List.length_eq_zero_iff.1 (by rw [HKC.out];omega)
    by_cases h120:120<k
    ·have q4:(120:Int)<((k:Nat):Int):=by omega
     have HV:Hid (RS=([],[],false)):=by show _=_;rw [←HRS2.out,mgF,if_pos rfl,if_pos HN.out,←HE1.out,HKE.out,if_pos h120]
     have KK:Hid (Below w.heap.size w wr):=KA.out;go_wp2_with fail
     refine bodyPost_ret (v:= .tuple #[.slice none 0 0,.slice none 0 0,.bool false]) ?_ rfl ⟨?_,KK.out⟩
     ·simp (maxDischargeDepth:=9) [results,Tryz.results21,go_sem, *]
     ·rw [HV.out];exact Ht _ _
    ·have q4: ¬(120:Int)<((k:Nat):Int):=by omega
     have HV:Hid (RS=(E,[],true)):=by show _=_;rw [←HRS2.out,mgF,if_pos rfl,if_pos HN.out,←HE1.out,HKE.out,if_neg h120]
     go_wp2_with fail
     refine bodyPost_ret (v:= .tuple #[.slice F k c,.slice none 0 0,.bool true]) ?_ rfl ⟨?_,KA.out⟩
     ·simp (maxDischargeDepth:=9) [results,Tryz.results21,go_sem, *]
     ·rw [HV.out];exact⟨F,c,none,0,by simp only [HKE.out];rfl,by simp only [HKE.out];exact HOE.out,⟨rfl,.inl ⟨rfl,rfl⟩⟩⟩
end Go.Proofs.YthjldgbfgapbcaaGreatDoor
namespace Go.Proofs.YthjldgbfgapbcaaGreatDoor
open Go.RowKit Go.Maps Go.Sort Go.Shelf
theorem Qqi:44≠38:=by decide
theorem Hc (o x y:ByteArray) (w:World):Calls Tryz.prog 44 #[.string o,.string x,.string y] w fun e w'=>e= .returned (.tuple #[.string ((mgS o x y).getD ⟨#[]⟩),.bool (mgS o x y).isSome])∧Below w.heap.size w w':=by
 obtain⟨b1,h1⟩: ∃b1,(x.toList==o.toList)=b1:=⟨_,rfl⟩;obtain⟨b2,h2⟩: ∃b2,(y.toList==o.toList)=b2:=⟨_,rfl⟩;obtain⟨b3,h3⟩: ∃b3,(x.toList==y.toList)=b3:=⟨_,rfl⟩;have HM:Hid (mgS o x y=if b1=true then some y else if b2=true then some x else if b3=true then some x else none):=by show _=_;rw [mgS,h1,h2,h3]
 rw [HM.out];clear HM;go_enter Tryz.func44,Tryz.ntmps44;cases b1<;>cases b2<;>cases b3<;>go_wp2_with fail
 all_goals
  refine bodyPost_ret (v:=_) ?_ rfl ⟨rfl,by go_grown⟩;simp (maxDischargeDepth:=9) [results,Tryz.results44,go_sem, *]
def Nc : Code := ((Code.region 6 #[{ dst := some 11, op := Op.alloc 38, type := 0, pos := "l09_diffs.go:90", after := #[], guard := none }, { dst := none, op := Op.store 38 (Operand.tmp 11) (Operand.tmp 33), type := 0, pos := "l09_diffs.go:90", after := #[{ on := 0, ground := Ground.data }, { on := 0, ground := Ground.phase }], guard := none }] false).seq (Code.region 7 #[{ dst := some 12, op := Op.assign (Operand.tmp 34), type := 74, pos := "l09_diffs.go:90", after := #[], guard := none }] false))
def Qc1 : Code := (Code.block 1 ((Code.region 8 #[{ dst := some 36, op := Op.move (Operand.tmp 12), type := 74, pos := "l09_diffs.go:91", after := #[], guard := none }, { dst := some 37, op := Op.indexAddr 74 (Operand.tmp 36) (Operand.const (Value.int IntKind.i64 0)), type := 0, pos := "l09_diffs.go:91", after := #[{ on := 0, ground := Ground.data }], guard := none }, { dst := some 38, op := Op.load 9 (Operand.tmp 37), type := 9, pos := "l09_diffs.go:91", after := #[{ on := 1, ground := Ground.data }], guard := none }, { dst := some 39, op := Op.move (Operand.tmp 12), type := 74, pos := "l09_diffs.go:91", after := #[], guard := none }, { dst := some 40, op := Op.indexAddr 74 (Operand.tmp 39) (Operand.const (Value.int IntKind.i64 1)), type := 0, pos := "l09_diffs.go:91", after := #[{ on := 3, ground := Ground.data }], guard := none }, { dst := some 41, op := Op.load 9 (Operand.tmp 40), type := 9, pos := "l09_diffs.go:91", after := #[{ on := 4, ground := Ground.data }], guard := none }, { dst := some 42, op := Op.move (Operand.tmp 12), type := 74, pos := "l09_diffs.go:91", after := #[], guard := none }, { dst := some 43, op := Op.indexAddr 74 (Operand.tmp 42) (Operand.const (Value.int IntKind.i64 2)), type := 0, pos := "l09_diffs.go:91", after := #[{ on := 6, ground := Ground.data }], guard := none }, { dst := some 44, op := Op.load 9 (Operand.tmp 43), type := 9, pos := "l09_diffs.go:91", after := #[{ on := 7, ground := Ground.data }], guard := none }, { dst := some 45, op := Op.call { callee := Callee.value (Operand.func 44), args := #[Operand.tmp 38, Operand.tmp 41, Operand.tmp 44], argTypes := #[9, 9, 9] }, type := 57, pos := "l09_diffs.go:91", after := #[{ on := 2, ground := Ground.data }, { on := 5, ground := Ground.data }, { on := 8, ground := Ground.data }], guard := none }, { dst := some 35, op := Op.move (Operand.tmp 45), type := 57, pos := "l09_diffs.go:91", after := #[{ on := 9, ground := Ground.data }], guard := none }, { dst := some 46, op := Op.extract (Operand.tmp 35) 0, type := 9, pos := "l09_diffs.go:91", after := #[{ on := 10, ground := Ground.data }], guard := none }, { dst := some 47, op := Op.extract (Operand.tmp 35) 1, type := 4, pos := "l09_diffs.go:91", after := #[{ on := 10, ground := Ground.data }, { on := 13, ground := Ground.gcOnly Departure.lateStores }], guard := none }, { dst := some 13, op := Op.assign (Operand.tmp 46), type := 9, pos := "l09_diffs.go:91", after := #[{ on := 11, ground := Ground.data }, { on := 9, ground := Ground.chain }, { on := 0, ground := Ground.phase }, { on := 1, ground := Ground.phase }, { on := 2, ground := Ground.phase }, { on := 3, ground := Ground.phase }, { on := 4, ground := Ground.phase }, { on := 5, ground := Ground.phase }, { on := 6, ground := Ground.phase }, { on := 7, ground := Ground.phase }, { on := 8, ground := Ground.phase }, { on := 9, ground := Ground.phase }, { on := 10, ground := Ground.phase }, { on := 11, ground := Ground.phase }, { on := 12, ground := Ground.textOnly Departure.lateStores }], guard := none }, { dst := some 14, op := Op.assign (Operand.tmp 47), type := 4, pos := "l09_diffs.go:91", after := #[{ on := 12, ground := Ground.data }, { on := 13, ground := Ground.chain }, { on := 0, ground := Ground.phase }, { on := 1, ground := Ground.phase }, { on := 2, ground := Ground.phase }, { on := 3, ground := Ground.phase }, { on := 4, ground := Ground.phase }, { on := 5, ground := Ground.phase }, { on := 6, ground := Ground.phase }, { on := 7, ground := Ground.phase }, { on := 8, ground := Ground.phase }, { on := 9, ground := Ground.phase }, { on := 10, ground := Ground.phase }, { on := 11, ground := Ground.phase }, { on := 12, ground := Ground.phase }, { on := 13, ground := Ground.phase }], guard := none }] true).seq ((Code.region 9 #[{ dst := some 48, op := Op.move (Operand.tmp 14), type := 4, pos := "l09_diffs.go:92", after := #[], guard := none }, { dst := some 49, op := Op.unOp UnOp.not 4 (Operand.tmp 48), type := 4, pos := "l09_diffs.go:92", after := #[{ on := 0, ground := Ground.data }], guard := none }] false).seq (Code.cond (Operand.tmp 49) (Code.region 10 #[{ dst := some 50, op := Op.load 44 (Operand.tmp 10), type := 44, pos := "l09_diffs.go:93", after := #[], guard := none }, { dst := some 51, op := Op.load 38 (Operand.tmp 11), type := 38, pos := "l09_diffs.go:93", after := #[], guard := none }, { dst := some 52, op := Op.buildSlice 44 1 #[(0, Operand.tmp 51)], type := 44, pos := "l09_diffs.go:93", after := #[{ on := 1, ground := Ground.data }], guard := none }, { dst := some 53, op := Op.call { callee := Callee.builtin Builtin.append, args := #[Operand.tmp 50, Operand.tmp 52], argTypes := #[44, 44] }, type := 44, pos := "l09_diffs.go:93", after := #[{ on := 0, ground := Ground.data }, { on := 2, ground := Ground.data }], guard := none }, { dst := none, op := Op.store 44 (Operand.tmp 10) (Operand.tmp 53), type := 0, pos := "l09_diffs.go:93", after := #[{ on := 3, ground := Ground.data }, { on := 3, ground := Ground.chain }, { on := 0, ground := Ground.phase }, { on := 1, ground := Ground.phase }, { on := 2, ground := Ground.phase }, { on := 3, ground := Ground.phase }], guard := none }] false) ((Code.region 11 #[{ dst := some 54, op := Op.move (Operand.tmp 13), type := 9, pos := "l09_diffs.go:94", after := #[], guard := none }, { dst := some 55, op := Op.binOp BinOp.neq 9 (Operand.tmp 54) (Operand.const (Value.string { data := #[] })) 9, type := 4, pos := "l09_diffs.go:94", after := #[{ on := 0, ground := Ground.data }], guard := none }] false).seq (Code.cond (Operand.tmp 55) (Code.region 12 #[{ dst := some 56, op := Op.load 24 (Operand.tmp 9), type := 24, pos := "l09_diffs.go:95", after := #[], guard := none }, { dst := some 57, op := Op.load 38 (Operand.tmp 11), type := 38, pos := "l09_diffs.go:95", after := #[], guard := none }, { dst := some 58, op := Op.move (Operand.tmp 13), type := 9, pos := "l09_diffs.go:95", after := #[], guard := none }, { dst := some 59, op := Op.build 49 #[(0, Operand.tmp 57), (1, Operand.tmp 58)], type := 49, pos := "l09_diffs.go:95", after := #[{ on := 1, ground := Ground.data }, { on := 2, ground := Ground.data }], guard := none }, { dst := some 60, op := Op.buildSlice 24 1 #[(0, Operand.tmp 59)], type := 24, pos := "l09_diffs.go:95", after := #[{ on := 3, ground := Ground.data }], guard := none }, { dst := some 61, op := Op.call { callee := Callee.builtin Builtin.append, args := #[Operand.tmp 56, Operand.tmp 60], argTypes := #[24, 24] }, type := 24, pos := "l09_diffs.go:95", after := #[{ on := 0, ground := Ground.data }, { on := 4, ground := Ground.data }], guard := none }, { dst := none, op := Op.store 24 (Operand.tmp 9) (Operand.tmp 61), type := 0, pos := "l09_diffs.go:95", after := #[{ on := 5, ground := Ground.data }, { on := 5, ground := Ground.chain }, { on := 0, ground := Ground.phase }, { on := 1, ground := Ground.phase }, { on := 2, ground := Ground.phase }, { on := 3, ground := Ground.phase }, { on := 4, ground := Ground.phase }, { on := 5, ground := Ground.phase }], guard := none }] false) Code.skip))))))
def Ux (fn:FuncId) (vo vx vy vs sv:Value) (B1 B2 D:Nat) (st:LoopState) (pend:Option Code):Loop:=
 {state:=st,pending:=pend,fn,tmps:= #[vo,vx,vy,undef,undef,undef,.slice none 0 0,.slice none 0 0,.bool false,.pointer (some ⟨B1,0,none⟩),.pointer (some ⟨B2,0,none⟩),undef,undef,undef,undef,vo,.bool true,.bool false,.bool false,vx,.bool true,.bool false,.bool false,.bool false,vy,.bool true,.bool false,.bool false,vo,vx,vy,vs,sv,undef,undef,undef,undef,undef,undef,undef,undef,undef,undef,undef,undef,undef,undef,undef,undef,undef,undef,undef,undef,undef,undef,undef,undef,undef,undef,undef,undef,undef,undef,undef,undef,undef,undef,undef,undef,undef,undef,undef],params:= #[33,34],assign:=Nc,body:=Qc1,defers:=D}
theorem Qit (O X Y pre:List CL) (m:CL):mgL O X Y (pre++ [m])=mgL O X Y pre++(Qan O X Y m).toList:=by
 unfold mgL;rw [List.filterMap_append];cases h:Qan O X Y m<;>simp [h]
theorem Qiu (O X Y pre:List CL) (m:CL):mgC O X Y (pre++ [m])=mgC O X Y pre++(if(Ow O X Y m.c m.r).isNone=true then [(m.c,m.r)]else []):=by
 unfold mgC;rw [List.filter_append,List.map_append];congr 1
 by_cases h:(Ow O X Y m.c m.r).isNone=true<;>simp [h]
theorem Qn5 (O X Y pre:List CL):(mgL O X Y pre).length≤pre.length:=List.length_filterMap_le _ _
theorem Qn6 (O X Y pre:List CL):(mgC O X Y pre).length≤pre.length:=by
 unfold mgC;rw [List.length_map];exact List.length_filter_le _ _
structure McAt (w0:World) (fn:FuncId) (vo vx vy vs sv:Value) (B1 B2 l D:Nat) (O X Y:List CL) (H:Nat) (pre:List CL) (W:World):Prop where
 box1: ∃v,W.heap[B1]? =some (.cells #[v] 24 (0,0))∧W.ownsRow H 49 3 v (mgL O X Y pre).length (Qu CL.cs (mgL O X Y pre))
 box2: ∃v,W.heap[B2]? =some (.cells #[v] 44 (0,0))∧W.ownsRow H 38 2 v (mgC O X Y pre).length (Qu rfL (mgC O X Y pre))
 L:W.heap[l]? =some (.loop (Ux fn vo vx vy vs sv B1 B2 D .ready none))
 K:W.heap[D]? =some (.deferred (some []))
 below:Below w0.heap.size w0 W
 size:H≤W.heap.size
theorem McAt.later {w0:World} {fn:FuncId} {vo vx vy vs sv:Value} {B1 B2 l D:Nat} {O X Y:List CL} {H:Nat} {pre:List CL} {W W':World} (h:McAt w0 fn vo vx vy vs sv B1 B2 l D O X Y H pre W) (hb:Below W.heap.size W W'):McAt w0 fn vo vx vy vs sv B1 B2 l D O X Y H pre W':=by
 obtain⟨v,hv,hr⟩:=h.box1;obtain⟨v',hv',hr'⟩:=h.box2;exact⟨⟨v,(hb.block B1 (Array.getElem?_eq_some_iff.1 hv).1).trans hv,Qe hr hb⟩,⟨v',(hb.block B2 (Array.getElem?_eq_some_iff.1 hv').1).trans hv',Qe hr' hb⟩,(hb.block l (Array.getElem?_eq_some_iff.1 h.L).1).trans h.L,(hb.block D (Array.getElem?_eq_some_iff.1 h.K).1).trans h.K,Qb h.below hb,Nat.le_trans h.size hb.size⟩
theorem Qlz {w0 W Z:World} {fn:FuncId} {vo vx vy vs sv v v':Value} {B1 B2 l D B0 H:Nat} {O X Y pre:List CL} {x:CL} {L1:List CL} {L2:List (Int × Int)} (hBl:B1≠l) (hBl2:B2≠l) (hDl:D≠l) (h0l:w0.heap.size≤l) (hl0:l<B0) (hL:Z.heap[l]? =some (.loop {Ux fn vo vx vy vs sv B1 B2 D .ready none with state:= .busy})) (hv:Z.heap[B1]? =some (.cells #[v] 24 (0,0))) (hv':Z.heap[B2]? =some (.cells #[v'] 44 (0,0))) (hK:Z.heap[D]? =some (.deferred (some [])))
  (hrow:Z.ownsRow H 49 3 v L1.length (Qu CL.cs L1)) (hrow':Z.ownsRow H 38 2 v' L2.length (Qu rfL L2)) (hb:Below w0.heap.size w0 Z) (hs:H≤Z.heap.size) (hf: ∀k:Nat,B0≤k→k<H→Z.heap[k]? =W.heap[k]?) (hz:W.heap.size≤Z.heap.size) (hDL:mgL O X Y (pre++ [x])=L1) (hDL2:mgC O X Y (pre++ [x])=L2):
  ∃vv w',(Instr.endRound l none).run Tryz.prog Z= .ok vv w'∧(Ending.returned vv= .returned (.bool true)∧McAt w0 fn vo vx vy vs sv B1 B2 l D O X Y H (pre++ [x]) w'∧(∀k:Nat,B0≤k→k<H→w'.heap[k]? =W.heap[k]?)∧W.heap.size≤w'.heap.size):=by
 have hl:l<Z.heap.size:=(Array.getElem?_eq_some_iff.1 hL).1;refine⟨_,_,run_endRound none hL,rfl,⟨⟨_,(World.putObj_heap_other hBl).trans hv,?_⟩,⟨_,(World.putObj_heap_other hBl2).trans hv',?_⟩,World.putObj_heap_same hl,(World.putObj_heap_other hDl).trans hK,hb.grown (grownBy_putObj_a _ _ _) hb.size (fun k e=>by cases e;exact h0l),Nat.le_trans hs (grownBy_putObj_a Z l _).size⟩,fun k h1 h2=>(World.putObj_heap_other (by omega)).trans (hf k h1 h2),Nat.le_trans hz (grownBy_putObj_a Z l _).size⟩
 ·rw [hDL];exact hrow.kept (grownBy_putObj_a Z l _) (ownsRow_ne_a hrow hL (fun cur e=>by cases e))
 ·rw [hDL2];exact hrow'.kept (grownBy_putObj_a Z l _) (ownsRow_ne_a hrow' hL (fun cur e=>by cases e))
theorem Qn7 (m:Nat) (w0:World) (fn:FuncId) (vo vx vy vs sv:Value) (B1 B2 l D:Nat) (O X Y:List CL) (B0:Nat) (hB1:B1<B0) (hB2:B2<B0) (hl0:l<B0) (hD0:D<B0) (hBl:B1≠l) (hBl2:B2≠l) (hDl:D≠l) (hDB:D≠B1) (hDB2:D≠B2) (hBB:B1≠B2) (h0B:w0.heap.size≤B1) (h0B2:w0.heap.size≤B2) (h0l:w0.heap.size≤l)
  (H:Nat) (hH:B0≤H) (pre:List CL) (x:CL) (A:Option Addr) (cc:Nat) (W:World) (h:McAt w0 fn vo vx vy vs sv B1 B2 l D O X Y H pre W) (hlen:pre.length<1000) (hsr: ∃B,W.ownsRow B 9 1 (.slice A 3 cc) 3 (Qu stL [atC x.c x.r O,atC x.c x.r X,atC x.c x.r Y])):
  YieldAt Fence.wide m Tryz.prog l #[.agg #[.int .i64 x.c,.int .i64 x.r],.slice A 3 cc] W fun e W'=>e= .returned (.bool true)∧McAt w0 fn vo vx vy vs sv B1 B2 l D O X Y H (pre++ [x]) W'∧(∀k:Nat,B0≤k→k<H→W'.heap[k]? =W.heap[k]?)∧W.heap.size≤W'.heap.size:=by
 have hne:=Qc3;have hne2:=Qqi;obtain⟨v,hv,hrow⟩:=h.box1;obtain⟨v',hv',hrow'⟩:=h.box2;obtain⟨xc,xr,xs⟩:=x;simp only at hsr ⊢;obtain⟨so1,HSO⟩: ∃so1,Hid (atC xc xr O=so1):=⟨_,rfl⟩
 obtain⟨sx1,HSX⟩: ∃sx1,Hid (atC xc xr X=sx1):=⟨_,rfl⟩;obtain⟨sy1,HSY⟩: ∃sy1,Hid (atC xc xr Y=sy1):=⟨_,rfl⟩;rw [HSO.out,HSX.out,HSY.out]at hsr;obtain⟨mg,HMG⟩: ∃mg,Hid (mgS so1 sx1 sy1=mg):=⟨_,rfl⟩;have HMA:Hid (Ow O X Y xc xr=mg):=by show _=_;unfold Ow;rw [HSO.out,HSX.out,HSY.out];exact HMG.out
 obtain⟨L1,HL1⟩: ∃L1,Hid (mgL O X Y pre=L1):=⟨_,rfl⟩;obtain⟨L2,HL2⟩: ∃L2,Hid (mgC O X Y pre=L2):=⟨_,rfl⟩;have hd1:L1.length<1000:=by rw [←HL1.out];have:=Qn5 O X Y pre;omega
 have hd2:L2.length<1000:=by rw [←HL2.out];have:=Qn6 O X Y pre;omega
 have HN1:Hid (mgL O X Y (pre++ [⟨xc,xr,xs⟩])=L1++(Qan O X Y ⟨xc,xr,xs⟩).toList):=by show _=_;rw [Qit,HL1.out]
 have HN2:Hid (mgC O X Y (pre++ [⟨xc,xr,xs⟩])=L2++(if mg.isNone=true then [(xc,xr)]else [])):=by show _=_;rw [Qiu,HL2.out];simp only [HMA.out]
 have HOF:Hid (Qan O X Y ⟨xc,xr,xs⟩=mg.bind (fun s=>if s.toList.isEmpty=true then none else some ⟨xc,xr,s⟩)):=by show _=_;unfold Qan;simp only [HMA.out]
 rw [HL1.out]at hrow;rw [HL2.out]at hrow';have hmix:Tryz.prog.follows .mixedOrders=true:=by kernel_rfl
 refine⟨fn,#[vo,vx,vy,undef,undef,undef,.slice none 0 0,.slice none 0 0,.bool false,.pointer (some ⟨B1,0,none⟩),.pointer (some ⟨B2,0,none⟩),undef,undef,undef,undef,vo,.bool true,.bool false,.bool false,vx,.bool true,.bool false,.bool false,.bool false,vy,.bool true,.bool false,.bool false,vo,vx,vy,vs,sv,.agg #[.int .i64 xc,.int .i64 xr],.slice A 3 cc,undef,undef,undef,undef,undef,undef,undef,undef,undef,undef,undef,undef,undef,undef,undef,undef,undef,undef,undef,undef,undef,undef,undef,undef,undef,undef,undef,undef,undef,undef,undef,undef,undef,undef,undef,undef,undef],Nc,Qc1,by simpa [Ux]using run_yield (P:=Tryz.prog) (args:= #[.agg #[.int .i64 xc,.int .i64 xr],.slice A 3 cc]) h.L rfl,roundIn_of_wpIn trivial ?_⟩;have hl:l<W.heap.size:=(Array.getElem?_eq_some_iff.1 h.L).1;have hBW:B1<W.heap.size:=(Array.getElem?_eq_some_iff.1 hv).1;have hBW2:B2<W.heap.size:=(Array.getElem?_eq_some_iff.1 hv').1;have hDW:D<W.heap.size:=(Array.getElem?_eq_some_iff.1 h.K).1;obtain⟨Wa,hWa⟩: ∃Wa,W.alloc (.cells #[.int .i64 xc,.int .i64 xr] 38)=Wa:=⟨_,rfl⟩;have hKW:Below W.heap.size W Wa:=by rw [←hWa];exact(Below.refl _ _).alloc (Nat.le_refl _) _
 have hva:Wa.heap[B1]? =some (.cells #[v] 24 (0,0)):=(hKW.block B1 hBW).trans hv;have hva':Wa.heap[B2]? =some (.cells #[v'] 44 (0,0)):=(hKW.block B2 hBW2).trans hv';have hLa:Wa.heap[l]? =some (.loop (Ux fn vo vx vy vs sv B1 B2 D .ready none)):=(hKW.block l hl).trans h.L;have hKa:Wa.heap[D]? =some (.deferred (some [])):=(hKW.block D hDW).trans h.K;have hra:=Qe hrow hKW;have hra':=Qe hrow' hKW;have hba:Below w0.heap.size w0 Wa:=Qb h.below hKW
 have hxa:Wa.heap[W.heap.size]? =some (.cells #[.int .i64 xc,.int .i64 xr] 38 (0,0)):=by rw [←hWa];exact World.alloc_heap_new W _
 have hbr:=run_beginRound (P:=Tryz.prog) hLa rfl;obtain⟨W2,hW2⟩: ∃W2,Wa.putObj l (.loop {Ux fn vo vx vy vs sv B1 B2 D .ready none with state:= .busy})=W2:=⟨_,rfl⟩;rw [hW2]at hbr;have hg2:Wa.grownBy W2 (some l):=by rw [←hW2];exact grownBy_putObj_a _ _ _
 have hv2:W2.heap[B1]? =some (.cells #[v] 24 (0,0)):=by rw [←hW2];exact(World.putObj_heap_other hBl).trans hva
 have hv2':W2.heap[B2]? =some (.cells #[v'] 44 (0,0)):=by rw [←hW2];exact(World.putObj_heap_other hBl2).trans hva'
 have hx2:W2.heap[W.heap.size]? =some (.cells #[.int .i64 xc,.int .i64 xr] 38 (0,0)):=by rw [←hW2];exact(World.putObj_heap_other (by omega)).trans hxa
 have hK2:W2.heap[D]? =some (.deferred (some [])):=by rw [←hW2];exact(World.putObj_heap_other hDl).trans hKa
 have hL2:W2.heap[l]? =some (.loop {Ux fn vo vx vy vs sv B1 B2 D .ready none with state:= .busy}):=by rw [←hW2];exact World.putObj_heap_same (by rw [←hWa];simp;omega)
 have hrow2:W2.ownsRow H 49 3 v L1.length (Qu CL.cs L1):=hra.kept hg2 (ownsRow_ne_a hra hLa (fun cur e=>by cases e));have hrow2':W2.ownsRow H 38 2 v' L2.length (Qu rfL L2):=hra'.kept hg2 (ownsRow_ne_a hra' hLa (fun cur e=>by cases e));have hb2:Below w0.heap.size w0 W2:=hba.grown hg2 hba.size (fun k e=>by cases e;exact h0l);have hl2:l<W2.heap.size:=(Array.getElem?_eq_some_iff.1 hL2).1;have hxlt:W.heap.size<W2.heap.size:=(Array.getElem?_eq_some_iff.1 hx2).1;have hold2: ∀k:Nat,k<W.heap.size→k≠l→W2.heap[k]? =W.heap[k]?:=fun k hk hkl=>(hg2.block k (by rw [←hWa];simp;omega) (fun e=>hkl (by cases e;rfl))).trans (hKW.block k hk);obtain⟨SB,hso⟩:=hsr
 have hsr:=RowAt.of_own Mf hso rfl;obtain⟨sbk,so,rfl,hsl,hs0⟩:=hsr.2 0 so1 rfl;obtain⟨_,_,e9,_,hs1⟩:=hsr.2 1 sx1 rfl;cases e9
 obtain⟨_,_,e9,_,hs2⟩:=hsr.2 2 sy1 rfl;cases e9
 have s0:=hs0 0 (.string so1) rfl;have s1:=hs1 0 (.string sx1) rfl;have s2:=hs2 0 (.string sy1) rfl;simp only [Nat.zero_mul,Nat.one_mul,Nat.mul_one,Nat.add_zero]at s0 s1 s2;have hsl9:sbk≠l:=fun e=>by subst e;simp [World.cell?,h.L]at s0
 have t0:W2.cell? ⟨sbk,so,none⟩=some (.string so1):=(World.cell?_of_block (hold2 sbk hsl hsl9)).trans s0;have t1:W2.cell? ⟨sbk,so+1,none⟩=some (.string sx1):=(World.cell?_of_block (hold2 sbk hsl hsl9)).trans s1;have t2:W2.cell? ⟨sbk,so+2,none⟩=some (.string sy1):=(World.cell?_of_block (hold2 sbk hsl hsl9)).trans s2;have hsl2:sbk<W2.heap.size:=by omega
 have hHW:=h.size;clear hW2 hs0 hs1 hs2 s0 s1 s2;unfold Nc;gi_wp2_with gi_round_op_a
 unfold Qc1;gi_wp2_with gi_round_op_a
 refine Xf (S:=(fun w'=>(∀bq oq,bq<W2.heap.size→w'.cell? ⟨bq,oq,none⟩=W2.cell? ⟨bq,oq,none⟩)∧W2.heap.size≤w'.heap.size∧Below W2.heap.size W2 w')) hmix (by kernel_rfl) (Qk (by go_size) (by go_grown)) (fun hHeld=> ?_);refine tkA 0 ?_;refine tkB 1 ?_;refine tkA 2 ?_;refine tkB 3 ?_;refine tkA 4 ?_;refine tkB 5 ?_
 refine tkA 6 ?_;refine tkB 7 ?_;refine tkB 8 ?_;refine rqA 9 (fun Kq hKq=> ?_);go_simp
 (refine(Hc _ _ _ _).mono ?_;rintro e w5 ⟨rfl,hb⟩;rw [HMG.out];obtain⟨hk5,hz5⟩:=Qg (B:=W2.heap.size) (X:=W2) (by go_grown) (by go_size) hb;have hC5:=fun b o h=>hk5.cell (p:=⟨b,o,none⟩) h;clear hb)
 refine hkB hKq (Qk (by go_size) (by go_grown)) fun hHeld=> ?_;clear hKq Kq;refine tkA 10 ?_;refine tkB 11 ?_;refine tkA 12 ?_;refine tkB 13 ?_;refine tkB 14 ?_
 refine wpAnyH_done (by kernel_rfl) ?_ _;simp only [OnlyN];have hv5:=(hk5.block B1 (by omega)).trans hv2;have hv5':=(hk5.block B2 (by omega)).trans hv2';have hx5:=(hk5.block W.heap.size hxlt).trans hx2;have hK5:=(hk5.block D (by omega)).trans hK2;have hL5:=(hk5.block l hl2).trans hL2
 have hr5:=Qe hrow2 hk5;have hr5':=Qe hrow2' hk5;have hb5:=Qb hb2 hk5;obtain⟨hcb,hfb⟩:=cell_of_box_a hv5;obtain⟨hcb',hfb'⟩:=cell_of_box_a hv5';have hc0:w5.cell? ⟨W.heap.size,0,none⟩=some (.int .i64 xc):=by simp [World.cell?,hx5]
 have hc1:w5.cell? ⟨W.heap.size,1,none⟩=some (.int .i64 xr):=by simp [World.cell?,hx5]
 have hf5: ∀k:Nat,B0≤k→k<H→w5.heap[k]? =W.heap[k]?:=fun k h1 h2=>(hk5.block k (by omega)).trans (hold2 k (by omega) (by omega))
 have ne1: ∀{j:Nat} {o:Obj},w5.heap[j]? =some o→(∀cur,o≠ .cells cur 49 (0,0))→some j≠v.ownBlock:=fun hj hno=>by
  rcases ownsRow_ne_a hr5 hj hno with e | e
  ·rw [e];simp
  ·exact fun e'=>e e'.symm
 have ne2: ∀{j:Nat} {o:Obj},w5.heap[j]? =some o→(∀cur,o≠ .cells cur 38 (0,0))→some j≠v'.ownBlock:=fun hj hno=>by
  rcases ownsRow_ne_a hr5' hj hno with e | e
  ·rw [e];simp
  ·exact fun e'=>e e'.symm
 have gc0:W2.cell? ⟨W.heap.size,0,none⟩=some (.int .i64 xc):=by simp [World.cell?,hx2]
 have gc1:W2.cell? ⟨W.heap.size,1,none⟩=some (.int .i64 xr):=by simp [World.cell?,hx2]
 obtain⟨gb1,_⟩:=cell_of_box_a hv2;obtain⟨gb2,_⟩:=cell_of_box_a hv2';clear hC5 t0 t1 t2 hrow2 hrow2' hra hra' hrow hrow';cases mg with
 | none=>
  simp only [Option.getD_none,Option.isSome_none];obtain⟨i0,hi,iz0,iz1,iz2⟩:=info_parts Qk3
  gi_wp2_with (first
   | (gi_at_builtin;refine wpListIn_append_own _ rfl _ _ 44 rfl H 38 i0 (.agg #[.int .i64 0,.int .i64 0]) 2 16 Tryz.underlying44 hi iz0 iz1 iz2 rfl (by decide) _ _ _ rfl (hr5'.alloc _) ⟨w5.heap.size,0,none⟩ 1 1 [.int .i64 xc,.int .i64 xr] rfl rfl ?c1 ?c2 ?c3 ?c4 ?c5 ?_)
   | gi_round_op_a)
  case c1=>intro jj u hu;match jj,hu with | 0,hu=>simp at hu;subst hu;simp [Addr.add] | 1,hu=>simp at hu;subst hu;simp [Addr.add]
  case c2=>simp [Value.oneCell']
  case c3=>unfold maxLen;omega
  case c4=>omega
  case c5=>rw [World.size_alloc];omega
  intro v3 w3 hown' hg3 _;obtain⟨F3,cap3,rfl,_,_⟩:=Qh hown';have hbk3: ∀k:Nat,k<w5.heap.size→some k≠v'.ownBlock→w3.heap[k]? =w5.heap[k]?:=fun k h1 h2=>(hg3.block k (by rw [World.size_alloc];omega) h2).trans (Below.heap_alloc _ _ k h1);have hv3:=(hbk3 B2 (by omega) (ne2 hv5' (fun cur e=>absurd (Obj.cells.inj e).2.1 (by decide)))).trans hv5';have hvo3:=(hbk3 B1 (by omega) (ne2 hv5 (fun cur e=>absurd (Obj.cells.inj e).2.1 (by decide)))).trans hv5;have hz3:w5.heap.size≤w3.heap.size:=Nat.le_trans (by rw [World.size_alloc];omega) hg3.size;have hro3:=(hr5.alloc _).kept hg3 (Ji hr5 hr5' (by decide))
  have hL3:=(hbk3 l (by omega) (ne2 hL5 (fun cur e=>by cases e))).trans hL5;have hK3:=(hbk3 D (by omega) (ne2 hK5 (fun cur e=>by cases e))).trans hK5;have hb3:Below w0.heap.size w0 w3:=(hb5.alloc hb5.size _).grown hg3 (by have:=hb5.size;rw [World.size_alloc];omega) (fun k e=>by have:=(hr5'.lt k e).1;omega);have hf3: ∀k:Nat,B0≤k→k<H→w3.heap[k]? =W.heap[k]?:=fun k h1 h2=>(hbk3 k (by omega) (fun e=>by have:=(hr5'.lt k e.symm).1;omega)).trans (hf5 k h1 h2);obtain⟨hcb3,hfb3⟩:=cell_of_box_a hv3;gi_wp2_with gi_round_op_a
  obtain⟨w4,hw4⟩: ∃w4,w3.setCell ⟨B2,0,none⟩ (.slice F3 (L2.length+1) cap3)=w4:=⟨_,rfl⟩;rw [hw4];have hg4:w3.grownBy w4 (some B2):=by rw [←hw4];exact grownBy_setCell0_a _ _ _
  have hv4:w4.heap[B2]? =some (.cells #[.slice F3 (L2.length+1) cap3] 44 (0,0)):=by rw [←hw4];exact heap_setCell_box_a _ hv3
  have hbk4: ∀k:Nat,k<w3.heap.size→k≠B2→w4.heap[k]? =w3.heap[k]?:=fun k h1 h3=>hg4.block k h1 (fun e=>h3 (by cases e;rfl));have hz4:=hg4.size;have hrow4:=hown'.kept hg4 (ownsRow_ne_a hown' hv3 (fun cur e=>absurd (Obj.cells.inj e).2.1 (by decide)));have hro4:=hro3.kept hg4 (ownsRow_ne_a hro3 hv3 (fun cur e=>absurd (Obj.cells.inj e).2.1 (by decide)));have hb4:Below w0.heap.size w0 w4:=hb3.grown hg4 hb3.size (fun k e=>by cases e;omega);exact Qlz (L1:=L1) (L2:=L2++ [(xc,xr)]) hBl hBl2 hDl h0l hl0 ((hbk4 l (by omega) (by omega)).trans hL3) ((hbk4 B1 (by omega) (by omega)).trans hvo3) hv4 ((hbk4 D (by omega) (by omega)).trans hK3) hro4 (by rw [Ye,List.length_append];exact hrow4) hb4 (by omega) (fun k h1 h2=>(hbk4 k (by omega) (by omega)).trans (hf3 k h1 h2)) (by omega) (by rw [HN1.out,HOF.out];simp) (by rw [HN2.out];simp)
 | some s=>
  simp only [Option.getD_some,Option.isSome_some];obtain⟨em,HEM⟩: ∃em,Hid (s.toList.isEmpty=em):=⟨_,rfl⟩;have hem:=HEM.out;cases em
  ·have hse2:(s.toList== [])=false:=by cases h9:s.toList with | nil=>rw [h9]at hem;cases hem | cons _ _=>rfl
   obtain⟨i0,hi,iz0,iz1,iz2⟩:=info_parts NM
   gi_wp2_with (first
    | (gi_at_builtin;refine wpListIn_append_own _ rfl _ _ 24 rfl H 49 i0 (.agg #[.int .i64 0,.int .i64 0,.string ⟨#[]⟩]) 3 32 Tryz.underlying24 hi iz0 iz1 iz2 rfl (by decide) _ _ _ rfl (hr5.alloc _) ⟨w5.heap.size,0,none⟩ 1 1 [.int .i64 xc,.int .i64 xr,.string s] rfl rfl ?c1 ?c2 ?c3 ?c4 ?c5 ?_)
    | gi_round_op_a)
   case c1=>intro jj u hu;match jj,hu with | 0,hu=>simp at hu;subst hu;simp [Addr.add] | 1,hu=>simp at hu;subst hu;simp [Addr.add] | 2,hu=>simp at hu;subst hu;simp [Addr.add]
   case c2=>simp [Value.oneCell']
   case c3=>unfold maxLen;omega
   case c4=>omega
   case c5=>rw [World.size_alloc];omega
   intro v3 w3 hown' hg3 _;obtain⟨F3,cap3,rfl,_,_⟩:=Qh hown';have hbk3: ∀k:Nat,k<w5.heap.size→some k≠v.ownBlock→w3.heap[k]? =w5.heap[k]?:=fun k h1 h2=>(hg3.block k (by rw [World.size_alloc];omega) h2).trans (Below.heap_alloc _ _ k h1);have hv3:=(hbk3 B1 (by omega) (ne1 hv5 (fun cur e=>absurd (Obj.cells.inj e).2.1 (by decide)))).trans hv5;have hvo3:=(hbk3 B2 (by omega) (ne1 hv5' (fun cur e=>absurd (Obj.cells.inj e).2.1 (by decide)))).trans hv5';have hz3:w5.heap.size≤w3.heap.size:=Nat.le_trans (by rw [World.size_alloc];omega) hg3.size;have hro3:=(hr5'.alloc _).kept hg3 (Ji hr5' hr5 (by decide))
   have hL3:=(hbk3 l (by omega) (ne1 hL5 (fun cur e=>by cases e))).trans hL5;have hK3:=(hbk3 D (by omega) (ne1 hK5 (fun cur e=>by cases e))).trans hK5;have hb3:Below w0.heap.size w0 w3:=(hb5.alloc hb5.size _).grown hg3 (by have:=hb5.size;rw [World.size_alloc];omega) (fun k e=>by have:=(hr5.lt k e).1;omega);have hf3: ∀k:Nat,B0≤k→k<H→w3.heap[k]? =W.heap[k]?:=fun k h1 h2=>(hbk3 k (by omega) (fun e=>by have:=(hr5.lt k e.symm).1;omega)).trans (hf5 k h1 h2);obtain⟨hcb3,hfb3⟩:=cell_of_box_a hv3;gi_wp2_with gi_round_op_a
   obtain⟨w4,hw4⟩: ∃w4,w3.setCell ⟨B1,0,none⟩ (.slice F3 (L1.length+1) cap3)=w4:=⟨_,rfl⟩;rw [hw4];have hg4:w3.grownBy w4 (some B1):=by rw [←hw4];exact grownBy_setCell0_a _ _ _
   have hv4:w4.heap[B1]? =some (.cells #[.slice F3 (L1.length+1) cap3] 24 (0,0)):=by rw [←hw4];exact heap_setCell_box_a _ hv3
   have hbk4: ∀k:Nat,k<w3.heap.size→k≠B1→w4.heap[k]? =w3.heap[k]?:=fun k h1 h3=>hg4.block k h1 (fun e=>h3 (by cases e;rfl));have hz4:=hg4.size;have hrow4:=hown'.kept hg4 (ownsRow_ne_a hown' hv3 (fun cur e=>absurd (Obj.cells.inj e).2.1 (by decide)));have hro4:=hro3.kept hg4 (ownsRow_ne_a hro3 hv3 (fun cur e=>absurd (Obj.cells.inj e).2.1 (by decide)));have hb4:Below w0.heap.size w0 w4:=hb3.grown hg4 hb3.size (fun k e=>by cases e;omega);exact Qlz (L1:=L1++ [⟨xc,xr,s⟩]) (L2:=L2) hBl hBl2 hDl h0l hl0 ((hbk4 l (by omega) (by omega)).trans hL3) hv4 ((hbk4 B2 (by omega) (by omega)).trans hvo3) ((hbk4 D (by omega) (by omega)).trans hK3) (by rw [Ye,List.length_append];exact hrow4) hro4 hb4 (by omega) (fun k h1 h2=>(hbk4 k (by omega) (by omega)).trans (hf3 k h1 h2)) (by omega) (by rw [HN1.out,HOF.out];rw [Option.bind_some,if_neg (by rw [HEM.out];decide)];rfl) (by rw [HN2.out];simp)
  ·have hse2:(s.toList== [])=true:=by cases h9:s.toList with | nil=>rfl | cons _ _=>rw [h9]at hem;cases hem
   gi_wp2_with gi_round_op_a
   exact Qlz (L1:=L1) (L2:=L2) hBl hBl2 hDl h0l hl0 hL5 hv5 hv5' hK5 hr5 hr5' hb5 (by omega) hf5 (by omega) (by rw [HN1.out,HOF.out,Option.bind_some,if_pos HEM.out];simp) (by rw [HN2.out];simp)
theorem Hj {P:Program} {ops:Array Oper} {Q:Exit→Act→World→Prop} {S:World→Prop} {n id:Nat} {a:Act} {w:World} (hm:P.follows .mixedOrders=true) (hS:S w.drew)
  (h:S w.drew→wpAnyH P .any ops (OnlyN Q) S ops.size (Array.replicate ops.size false) a w.drew):(Code.region id ops true).wpIn Fence.wide n P Q a w:=wpIn_wide.2 (fun b k cs=>by
 obtain⟨e,a',w',q,r⟩:=wp_region_held_drew (id:=id) hm hS h b k cs;refine⟨e,a',w',?_,r⟩
 cases e<;>first | exact q | exact q.elim)
theorem Qq2 {O X Y M:List CL} (hO:upC O) (hX:upC X) (hY:upC Y) (hM:upC M) (hs: ∀x∈X,x.s.toList.isEmpty=false) (hm: ∀p q,Zo p q M↔Zo p q O∨Zo p q X∨Zo p q Y):mgF true X (dfL O Y)=if mgC O X Y M= []then(if 120<(mgL O X Y M).length then([],[],false)else(mgL O X Y M,[],true))else([],mgC O X Y M,false):=by
 unfold mgF;rw [if_pos rfl,Qis hO hY hM hm];by_cases hc:mgC O X Y M= []
 ·rw [if_pos hc,if_pos hc,Qq1 hO hX hY hM hs hm hc]
 ·rw [if_neg hc,if_neg hc]
theorem Qf4 (n9:Nat) (hn9:4≤n9) {A0 A A':Option Addr} {n0 cap0 n cap m cap':Nat} {C0 R0 C R C' R':Nat→Int} {S0 S S':Nat→ByteArray} (w:World) (h0:ClRow w A0 n0 C0 R0 S0) (h:ClRow w A n C R S) (h':ClRow w A' m C' R' S') (hg:GI w):
  CallsIn Fence.wide n9 Tryz.prog 20 #[.slice A0 n0 cap0,.slice A n cap,.slice A' m cap'] w fun e w'=>MgR w.heap.size w' (mgF (Qm C0 R0 S0 n0&&Qm C R S n&&Qm C' R' S' m) (clE C R S n) (dfF C0 R0 S0 n0 C' R' S' m)) e∧Below w.heap.size w w':=by
 have HR0:Hid (ClRow w A0 n0 C0 R0 S0):=h0;have HR:Hid (ClRow w A n C R S):=h;have HR':Hid (ClRow w A' m C' R' S'):=h';have HG:Hid (GI w):=hg;clear h0 h h' hg;obtain⟨k0,HK0⟩: ∃k0,Hid (Qm C0 R0 S0 n0=k0):=⟨_,rfl⟩;obtain⟨k1,HK1⟩: ∃k1,Hid (Qm C R S n=k1):=⟨_,rfl⟩
 obtain⟨k2,HK2⟩: ∃k2,Hid (Qm C' R' S' m=k2):=⟨_,rfl⟩;obtain⟨RS,HRS⟩: ∃RS,Hid (mgF (k0&&k1&&k2) (clE C R S n) (dfF C0 R0 S0 n0 C' R' S' m)=RS):=⟨_,rfl⟩;rw [HK0.out,HK1.out,HK2.out,HRS.out];have h1:1≤n9:=by omega
 have eg: ∀args w,(callFunc 62 args).run Tryz.prog w= .ok (.enter 62 args) w:=enters_of Tryz.func62 (by kernel_rfl) rfl;refine callsIn_of_wp_marks Tryz.func20 rfl trivial ?_ rfl;simp only [Tryz.ntmps20,List.size_toArray,List.length_cons,List.length_nil,Nat.reduceAdd,Nat.reduceSub,Array.replicate_succ,Array.replicate_zero,List.push_toArray,List.append_toArray,List.nil_append,List.cons_append];have F24:Fence.wide.fn 18:=trivial;have F31:Fence.wide.fn 43:=trivial;gi_wp2
 refine(callsIn_wide.2 (Zk _ HR0.out HG.out)).mono ?_;rintro e u1 ⟨rfl,hb⟩;have KK:Hid (Below w.heap.size w u1):=hb;clear hb;rw [HK0.out];cases k0
 ·have HV:Hid (RS=([],[],false)):=by rw [←HRS.out];exact rfl
  gi_wp2
  refine⟨.tuple #[.slice none 0 0,.slice none 0 0,.bool false],?_,?_,KK.out⟩
  ·simp (maxDischargeDepth:=9) [results,Tryz.results20,go_sem, *]
  ·rw [HV.out];exact Ht _ _
 gi_wp2
 refine(callsIn_wide.2 (Zk _ (HR.out.below KK.out) (HG.out.below KK.out))).mono ?_;rintro e u2 ⟨rfl,hb⟩;replace KK:=hd (Qb KK.out hb);clear hb;rw [HK1.out];cases k1
 ·have HV:Hid (RS=([],[],false)):=by rw [←HRS.out];exact rfl
  gi_wp2
  refine⟨.tuple #[.slice none 0 0,.slice none 0 0,.bool false],?_,?_,KK.out⟩
  ·simp (maxDischargeDepth:=9) [results,Tryz.results20,go_sem, *]
  ·rw [HV.out];exact Ht _ _
 gi_wp2
 refine(callsIn_wide.2 (Zk _ (HR'.out.below KK.out) (HG.out.below KK.out))).mono ?_;rintro e u3 ⟨rfl,hb⟩;replace KK:=hd (Qb KK.out hb);clear hb;rw [HK2.out];cases k2
 ·have HV:Hid (RS=([],[],false)):=by rw [←HRS.out];exact rfl
  gi_wp2
  refine⟨.tuple #[.slice none 0 0,.slice none 0 0,.bool false],?_,?_,KK.out⟩
  ·simp (maxDischargeDepth:=9) [results,Tryz.results20,go_sem, *]
  ·rw [HV.out];exact Ht _ _
 have HS0:Hid (ShOk u3 ⟨A0,n0,cap0,C0,R0,S0⟩):=⟨HR0.out.below KK.out,(Qx HK0.out).1,(Qx HK0.out).2.1,(Qx HK0.out).2.2⟩;have HS1:Hid (ShOk u3 ⟨A,n,cap,C,R,S⟩):=⟨HR.out.below KK.out,(Qx HK1.out).1,(Qx HK1.out).2.1,(Qx HK1.out).2.2⟩;have HS2:Hid (ShOk u3 ⟨A',m,cap',C',R',S'⟩):=⟨HR'.out.below KK.out,(Qx HK2.out).1,(Qx HK2.out).2.1,(Qx HK2.out).2.2⟩;have HSN:Hid (∀x∈clE C R S n,x.s.toList.isEmpty=false):=fun y hy=>by obtain⟨i,hi,rfl⟩:=List.mem_map.1 hy;exact NU HK1.out i (List.mem_range.1 hi)
 have HRS3:Hid (mgF true (clE C R S n) (dfL (clE C0 R0 S0 n0) (clE C' R' S' m))=RS):=by show _=_;rw [←HRS.out,Br HK0.out HK2.out];rfl
 have hw3:w.heap.size≤u3.heap.size:=KK.out.size;clear HRS;gi_wp2
 refine(Qdi _ _ _ _ _).mono ?_;rintro e w9 ⟨rfl,rfl⟩;gi_wp2
 refine wpIn_rangeFunc ?_;intro fn hfn;show∃_,_;obtain⟨Wx,hWx⟩: ∃Wx,u3.alloc (.cells #[.slice none 0 0] 24)=Wx:=⟨_,rfl⟩;have hsx:Wx.heap.size=u3.heap.size+1:=by rw [←hWx];simp
 have hbx:Below u3.heap.size u3 Wx:=by rw [←hWx];exact(Below.refl _ u3).alloc (Nat.le_refl _) _
 have hvx:Wx.heap[u3.heap.size]? =some (.cells #[.slice none 0 0] 24 (0,0)):=by rw [←hWx];exact World.alloc_heap_new u3 _
 rw [hWx];obtain⟨Wa,hWa⟩: ∃Wa,Wx.alloc (.cells #[.slice none 0 0] 44)=Wa:=⟨_,rfl⟩;have hsa:Wa.heap.size=u3.heap.size+1+1:=by rw [←hWa];simp [hsx]
 have hba:Below Wx.heap.size Wx Wa:=by rw [←hWa];exact(Below.refl _ Wx).alloc (Nat.le_refl _) _
 have hva:Wa.heap[u3.heap.size+1]? =some (.cells #[.slice none 0 0] 44 (0,0)):=by rw [←hWa,←hsx];exact World.alloc_heap_new Wx _
 rw [hWa];obtain⟨Wb,hWb⟩: ∃Wb,Wa.alloc (.cells #[.slice A0 n0 cap0,.slice A n cap,.slice A' m cap'] 24)=Wb:=⟨_,rfl⟩;have hsb:Wb.heap.size=u3.heap.size+1+1+1:=by rw [←hWb];simp [hsa]
 have hbb:Below Wa.heap.size Wa Wb:=by rw [←hWb];exact(Below.refl _ Wa).alloc (Nat.le_refl _) _
 have hnb:Wb.heap[u3.heap.size+1+1]? =some (.cells #[.slice A0 n0 cap0,.slice A n cap,.slice A' m cap'] 24 (0,0)):=by rw [←hWb,←hsa];exact World.alloc_heap_new Wa _
 rw [hWb];obtain⟨W0,hW0⟩: ∃W0,Wb.alloc (.cells #[.slice (some ⟨u3.heap.size+1+1,0,none⟩) 3 3] 99)=W0:=⟨_,rfl⟩;have hs0:W0.heap.size=u3.heap.size+1+1+1+1:=by rw [←hW0];simp [hsb]
 have hb0:Below Wb.heap.size Wb W0:=by rw [←hW0];exact(Below.refl _ Wb).alloc (Nat.le_refl _) _
 have hn0':W0.heap[u3.heap.size+1+1+1]? =some (.cells #[.slice (some ⟨u3.heap.size+1+1,0,none⟩) 3 3] 99 (0,0)):=by rw [←hW0,←hsb];exact World.alloc_heap_new Wb _
 rw [hW0];obtain⟨rc,hrc⟩: ∃rc,Ux fn (.slice A0 n0 cap0) (.slice A n cap) (.slice A' m cap') (.slice (some ⟨u3.heap.size+1+1,0,none⟩) 3 3) (.func (.func 62) #[] #[.pointer (some ⟨u3.heap.size+1+1+1,0,none⟩)]) u3.heap.size (u3.heap.size+1) W0.heap.size .ready none=rc:=⟨_,rfl⟩;obtain⟨W1,hW1⟩: ∃W1,(W0.alloc (.deferred (some []))).alloc (.loop rc)=W1:=⟨_,rfl⟩;have hb01:Below W0.heap.size W0 W1:=by rw [←hW1];exact((Below.refl _ W0).alloc (Nat.le_refl _) _).alloc (by simp) _
 have hold: ∀k:Nat,k<W0.heap.size→W1.heap[k]? =W0.heap[k]?:=fun k hk=>hb01.block k hk;have hbw:Below u3.heap.size u3 W1:=Qb (Qb (Qb (Qb hbx hba) hbb) hb0) hb01;have hs1:W1.heap.size=W0.heap.size+2:=by rw [←hW1];simp
 have hv1:W1.heap[u3.heap.size]? =some (.cells #[.slice none 0 0] 24 (0,0)):=(hold _ (by omega)).trans ((hb0.block _ (by omega)).trans ((hbb.block _ (by omega)).trans ((hba.block _ (by omega)).trans hvx)));have hv1':W1.heap[u3.heap.size+1]? =some (.cells #[.slice none 0 0] 44 (0,0)):=(hold _ (by omega)).trans ((hb0.block _ (by omega)).trans ((hbb.block _ (by omega)).trans hva));have hm1:W1.heap[u3.heap.size+1+1]? =some (.cells #[.slice A0 n0 cap0,.slice A n cap,.slice A' m cap'] 24 (0,0)):=(hold _ (by omega)).trans ((hb0.block _ (by omega)).trans hnb);have hq1:W1.heap[u3.heap.size+1+1+1]? =some (.cells #[.slice (some ⟨u3.heap.size+1+1,0,none⟩) 3 3] 99 (0,0)):=(hold _ (by omega)).trans hn0'
 have hL1:W1.heap[W0.heap.size+1]? =some (.loop rc):=by
  rw [←hW1];have:=World.alloc_heap_new (W0.alloc (.deferred (some []))) (.loop rc);rwa [World.size_alloc]at this
 have hK1:W1.heap[W0.heap.size]? =some (.deferred (some [])):=by rw [←hW1];exact(Below.heap_alloc _ _ _ (by simp)).trans (World.alloc_heap_new W0 _)
 have b0:W1.cell? ⟨u3.heap.size+1+1+1,0,none⟩=some (.slice (some ⟨u3.heap.size+1+1,0,none⟩) 3 3):=by simp [World.cell?,hq1]
 have b1:W1.cell? ⟨u3.heap.size+1+1,0,none⟩=some (.slice A0 n0 cap0):=by simp [World.cell?,hm1]
 have b2:W1.cell? ⟨u3.heap.size+1+1,1,none⟩=some (.slice A n cap):=by simp [World.cell?,hm1]
 have b3:W1.cell? ⟨u3.heap.size+1+1,2,none⟩=some (.slice A' m cap'):=by simp [World.cell?,hm1]
 have hrow:RowAt 1 shL W1 (some ⟨u3.heap.size+1+1,0,none⟩) [⟨A0,n0,cap0,C0,R0,S0⟩,⟨A,n,cap,C,R,S⟩,⟨A',m,cap',C',R',S'⟩]:=⟨by unfold maxLen;simp,fun i x hx=>by
  match i,hx with
  | 0,hx=>cases hx;exact⟨_,_,rfl,by omega,fun j v hv=>by match j,hv with | 0,hv=>cases hv;exact b1⟩
  | 1,hx=>cases hx;exact⟨_,_,rfl,by omega,fun j v hv=>by match j,hv with | 0,hv=>cases hv;exact b2⟩
  | 2,hx=>cases hx;exact⟨_,_,rfl,by omega,fun j v hv=>by match j,hv with | 0,hv=>cases hv;exact b3⟩⟩
 have hok: ∀x∈ [(⟨A0,n0,cap0,C0,R0,S0⟩:SH),⟨A,n,cap,C,R,S⟩,⟨A',m,cap',C',R',S'⟩],ShOk W1 x:=fun x hx=>by
  simp only [List.mem_cons,List.not_mem_nil,or_false]at hx;rcases hx with rfl | rfl | rfl
  ·exact HS0.out.below hbw
  ·exact HS1.out.below hbw
  ·exact HS2.out.below hbw
 have key:=Qpp (n9-1) (by omega) (W0.heap.size+1) (u3.heap.size+1+1+1) (some ⟨u3.heap.size+1+1,0,none⟩) 3 3 [⟨A0,n0,cap0,C0,R0,S0⟩,⟨A,n,cap,C,R,S⟩,⟨A',m,cap',C',R',S'⟩]
  (fun H pre W=>W1.heap.size≤H∧McAt u3 fn (.slice A0 n0 cap0) (.slice A n cap) (.slice A' m cap') (.slice (some ⟨u3.heap.size+1+1,0,none⟩) 3 3) (.func (.func 62) #[] #[.pointer (some ⟨u3.heap.size+1+1+1,0,none⟩)]) u3.heap.size (u3.heap.size+1) (W0.heap.size+1) W0.heap.size (clE C0 R0 S0 n0) (clE C R S n) (clE C' R' S' m) H pre W)
  W1 b0 hrow rfl (by omega) hok
  (fun W2 hb2=>⟨hb2.size,⟨⟨_,(hb2.block _ (by omega)).trans hv1,⟨rfl,.inl ⟨rfl,rfl⟩⟩⟩,⟨_,(hb2.block _ (by omega)).trans hv1',⟨rfl,.inl ⟨rfl,rfl⟩⟩⟩,(hb2.block _ (by omega)).trans (by rw [hrc];exact hL1),(hb2.block _ (by omega)).trans hK1,Qb hbw hb2,Nat.le_refl _⟩⟩)
  (fun H pre Wx Wy hx hy=>⟨hx.1,hx.2.later hy⟩)
  (fun H pre x Ax cx Wx hx hl9 hs9=>by
   obtain⟨fn2,tm2,as2,bo2,e2,r2⟩:=Qn7 (n9-1-1) u3 fn _ _ _ _ _ u3.heap.size (u3.heap.size+1) (W0.heap.size+1) W0.heap.size (clE C0 R0 S0 n0) (clE C R S n) (clE C' R' S' m) W1.heap.size (by omega) (by omega) (by omega) (by omega) (by omega) (by omega) (by omega) (by omega) (by omega) (by omega) (Nat.le_refl _) (by omega) (by omega) H hx.1 pre x Ax cx Wx hx.2 hl9 hs9
   exact⟨fn2,tm2,as2,bo2,e2,r2.mono (fun e Wy hy=>⟨hy.1,⟨hx.1,hy.2.1⟩,hy.2.2.1,hy.2.2.2⟩)⟩)
 refine⟨W0.heap.size+1,[{target:= .collected W0.heap.size,args:= #[]}],W1,{target:= .fn (.func 62) #[.pointer (some ⟨u3.heap.size+1+1+1,0,none⟩)],args:= #[.func (.yield (W0.heap.size+1)) #[] #[]]},W1,62,
  #[.func (.yield (W0.heap.size+1)) #[] #[]]++ #[.pointer (some ⟨u3.heap.size+1+1+1,0,none⟩)],W1,?_,?_,?_,?_,fun _=>h1,?_⟩
 ·rw [←hW1,←hrc];exact run_enterLoop_outer _ _ _ _ _
 ·simp [resolve,go_sem]
 ·intro f' hf';trivial
 ·simp [invoke,go_sem,eg]
 ·refine key.mono ?_;rintro e W2 ⟨⟨v0,rfl⟩,H,M,hup,hhas,hH,h2⟩;obtain⟨v,hv,hrow2⟩:=h2.box1;obtain⟨v',hv',hrow2'⟩:=h2.box2;have hend:=run_endLoop (P:=Tryz.prog) h2.L (by simp [Ux]);obtain⟨W3,hW3⟩: ∃W3,W2.putObj (W0.heap.size+1) (.loop {Ux fn (.slice A0 n0 cap0) (.slice A n cap) (.slice A' m cap') (.slice (some ⟨u3.heap.size+1+1,0,none⟩) 3 3) (.func (.func 62) #[] #[.pointer (some ⟨u3.heap.size+1+1+1,0,none⟩)]) u3.heap.size (u3.heap.size+1) W0.heap.size .ready none with state:= .exhausted})=W3:=⟨_,rfl⟩;rw [hW3]at hend
  have hg3:W2.grownBy W3 (some (W0.heap.size+1)):=by rw [←hW3];exact grownBy_putObj_a _ _ _
  have hv3:W3.heap[u3.heap.size]? =some (.cells #[v] 24 (0,0)):=by rw [←hW3];exact(World.putObj_heap_other (by omega)).trans hv
  have hv3':W3.heap[u3.heap.size+1]? =some (.cells #[v'] 44 (0,0)):=by rw [←hW3];exact(World.putObj_heap_other (by omega)).trans hv'
  have hK3:W3.heap[W0.heap.size]? =some (.deferred (some [])):=by rw [←hW3];exact(World.putObj_heap_other (by omega)).trans h2.K
  have hrow3:=hrow2.kept hg3 (ownsRow_ne_a hrow2 h2.L (fun cur e=>by cases e));have hrow3':=hrow2'.kept hg3 (ownsRow_ne_a hrow2' h2.L (fun cur e=>by cases e));have hb3:Below u3.heap.size u3 W3:=h2.below.grown hg3 h2.below.size (fun k e=>by cases e;omega);obtain⟨hc3,hf3⟩:=cell_of_box_a hv3;obtain⟨hc3',hf3'⟩:=cell_of_box_a hv3'
  have HAL:Hid (RS=if mgC (clE C0 R0 S0 n0) (clE C R S n) (clE C' R' S' m) M= []then(if 120<(mgL (clE C0 R0 S0 n0) (clE C R S n) (clE C' R' S' m) M).length then([],[],false)else(mgL (clE C0 R0 S0 n0) (clE C R S n) (clE C' R' S' m) M,[],true))else([],mgC (clE C0 R0 S0 n0) (clE C R S n) (clE C' R' S' m) M,false)):=by
   show _=_;rw [←HRS3.out]
   exact Qq2 HS0.out.rise HS1.out.rise HS2.out.rise hup HSN.out (fun p q=>by
    rw [hhas p q];constructor
    ·rintro⟨x,hx,e⟩;simp only [List.mem_cons,List.not_mem_nil,or_false]at hx;rcases hx with rfl | rfl | rfl
     ·exact .inl e
     ·exact .inr (.inl e)
     ·exact .inr (.inr e)
    ·rintro(e | e | e)
     ·exact⟨⟨A0,n0,cap0,C0,R0,S0⟩,by simp,e⟩
     ·exact⟨⟨A,n,cap,C,R,S⟩,by simp,e⟩
     ·exact⟨⟨A',m,cap',C',R',S'⟩,by simp,e⟩)
  obtain⟨ML,hML⟩: ∃ML,mgL (clE C0 R0 S0 n0) (clE C R S n) (clE C' R' S' m) M=ML:=⟨_,rfl⟩;obtain⟨MC,hMC⟩: ∃MC,mgC (clE C0 R0 S0 n0) (clE C R S n) (clE C' R' S' m) M=MC:=⟨_,rfl⟩;rw [hML]at hrow3;rw [hMC]at hrow3';rw [hML,hMC]at HAL;obtain⟨FF,cF,rfl,_,_⟩:=Qh hrow3;obtain⟨FC,cC,rfl,_,_⟩:=Qh hrow3'
  clear hW3 key hrow hok hML hMC;rw [hs0]at hK3;have hfin: ∀{o:Obj},(W3.putObj (u3.heap.size+1+1+1+1) o).ownsRow w.heap.size 49 3 (.slice FF ML.length cF) ML.length (Qu CL.cs ML):=ownsRow_base_a (hrow3.kept (grownBy_putObj_a W3 _ _) (ownsRow_ne_a hrow3 hK3 (fun cur e=>by cases e))) (by omega);have hfin': ∀{o:Obj},(W3.putObj (u3.heap.size+1+1+1+1) o).ownsRow w.heap.size 38 2 (.slice FC MC.length cC) MC.length (Qu rfL MC):=ownsRow_base_a (hrow3'.kept (grownBy_putObj_a W3 _ _) (ownsRow_ne_a hrow3' hK3 (fun cur e=>by cases e))) (by omega);refine⟨none,W3,hend,?_⟩;have hbb3:Below w.heap.size w W3:=KK.out.trans (hb3.mono hw3);have hbd3:Below w.heap.size w W3.drew:=Qc6 hbb3
  have nil1: ∀Z:World,Z.ownsRow w.heap.size 49 3 (.slice none 0 0) 0 (Qu CL.cs []):=fun Z=>⟨rfl,.inl ⟨rfl,rfl⟩⟩;have nil2: ∀Z:World,Z.ownsRow w.heap.size 38 2 (.slice none 0 0) 0 (Qu rfL []):=fun Z=>⟨rfl,.inl ⟨rfl,rfl⟩⟩;by_cases hcl:0<MC.length
  ·have q3:(0:Int)<((MC.length:Nat):Int):=by omega
   have HV:Hid (RS=([],MC,false)):=by show _=_;rw [HAL.out,if_neg (fun e=>by rw [e]at hcl;simp at hcl)]
   gi_wp2
   refine Hj (S:=(fun w'=>w'.cell? ⟨u3.heap.size+1,0,none⟩=some (.slice FC MC.length cC))) (by kernel_rfl) hc3' (fun hHeld=> ?_);refine tkA 0 ?_;refine tkB 1 ?_;refine tkA 2 ?_;refine tkB 3 ?_;refine wpAnyH_done (by kernel_rfl) ?_ _;simp only [OnlyN]
   all_goals
    gi_wp2
    refine⟨by simp,.inl ⟨_,_,rfl,run_takeDeferred hK3,?_⟩⟩;refine⟨.tuple #[.slice none 0 0,.slice FC MC.length cC,.bool false],?_,?_,hbd3.grown (grownBy_putObj_a _ _ _) hbd3.size (fun k e=>by cases e;omega)⟩
    ·simp (maxDischargeDepth:=9) [results,Tryz.results20,go_sem, *]
    ·rw [HV.out];exact⟨none,0,FC,cC,rfl,nil1 _,hfin'⟩
  ·have q3: ¬(0:Int)<((MC.length:Nat):Int):=by omega
   have hMC0:MC= []:=List.length_eq_zero_iff.1 (by omega);subst hMC0;by_cases h120:120<ML.length
   ·have q4:(120:Int)<((ML.length:Nat):Int):=by omega
    have HV:Hid (RS=([],[],false)):=by show _=_;rw [HAL.out,if_pos rfl,if_pos h120]
    gi_wp2
    refine Hj (S:=(fun w'=>w'.cell? ⟨u3.heap.size+1,0,none⟩=some (.slice FC 0 cC))) (by kernel_rfl) hc3' (fun hHeld=> ?_);refine tkA 0 ?_;refine tkB 1 ?_;refine tkA 2 ?_;refine tkB 3 ?_;refine wpAnyH_done (by kernel_rfl) ?_ _;simp only [OnlyN]
    all_goals
     gi_wp2
     refine⟨by simp,.inl ⟨_,_,rfl,run_takeDeferred hK3,?_⟩⟩;refine⟨.tuple #[.slice none 0 0,.slice FC 0 cC,.bool false],?_,?_,hbd3.grown (grownBy_putObj_a _ _ _) hbd3.size (fun k e=>by cases e;omega)⟩
     ·simp (maxDischargeDepth:=9) [results,Tryz.results20,go_sem, *]
     ·rw [HV.out];exact⟨none,0,FC,cC,rfl,nil1 _,hfin'⟩
   ·have q4: ¬(120:Int)<((ML.length:Nat):Int):=by omega
    have HV:Hid (RS=(ML,[],true)):=by show _=_;rw [HAL.out,if_pos rfl,if_neg h120]
    gi_wp2
    refine⟨by simp,.inl ⟨_,_,rfl,run_takeDeferred hK3,?_⟩⟩;refine⟨.tuple #[.slice FF ML.length cF,.slice none 0 0,.bool true],?_,?_,hbb3.grown (grownBy_putObj_a _ _ _) hbb3.size (fun k e=>by cases e;omega)⟩
    ·simp (maxDischargeDepth:=9) [results,Tryz.results20,go_sem, *]
    ·rw [HV.out];exact⟨FF,cF,none,0,rfl,hfin,nil2 _⟩
theorem Ew {A0 A A':Option Addr} {n0 cap0 n cap m cap':Nat} {C0 R0 C R C' R':Nat→Int} {S0 S S':Nat→ByteArray} (w:World) (h0:ClRow w A0 n0 C0 R0 S0) (h:ClRow w A n C R S) (h':ClRow w A' m C' R' S') (hg:GI w):
  Calls Tryz.prog 20 #[.slice A0 n0 cap0,.slice A n cap,.slice A' m cap'] w fun e w'=>MgR w.heap.size w' (mgF (Qm C0 R0 S0 n0&&Qm C R S n&&Qm C' R' S' m) (clE C R S n) (dfF C0 R0 S0 n0 C' R' S' m)) e∧Below w.heap.size w w':=callsIn_wide.1 (Qf4 9 (by omega) w h0 h h' hg)
end Go.Proofs.YthjldgbfgapbcaaGreatDoor
