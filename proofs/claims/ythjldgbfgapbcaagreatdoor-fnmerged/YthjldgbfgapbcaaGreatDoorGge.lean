import Derived.Test.YthjldgbfgapbcaaGreatDoorMn
import Derived.Test.YthjldgbfgapbcaaGreatDoorGgd
import Derived.Test.YthjldgbfgapbcaaGreatDoorGze
import Derived.Test.YthjldgbfgapbcaaGreatDoorGbf
import Derived.Test.YthjldgbfgapbcaaGreatDoorGbg
import Derived.Test.YthjldgbfgapbcaaGreatDoorGzj
import Derived.Test.YthjldgbfgapbcaaGreatDoorGaa
import Derived.Test.YthjldgbfgapbcaaGreatDoorGzeA
import Derived.Laws.AppendOwnNone
import Derived.WideShapes
import Derived.Deep.QuietTactic
import Derived.BigQuiet
set_option linter.unusedSimpArgs false
set_option linter.unusedVariables false
set_option maxHeartbeats 8000000
set_option maxRecDepth 100000
namespace Go.Proofs.YthjldgbfgapbcaaGreatDoor
open Go.RowKit Go.Maps
theorem Qk5 {s t:ByteArray} (h:inF s=some t):t.size≤200:=by
 unfold inF at h;split at h
 ·unfold lim at h;split at h
  ·split at h
   ·cases h;assumption
   ·cases h
  ·cases h
 ·cases h
theorem Qx {C R:Nat→Int} {S:Nat→ByteArray} {n:Nat} (h:Qm C R S n=true):n≤120∧(∀i,i<n→Qi (C i) (R i)=true)∧(clE C R S n).Pairwise (fun a b=>ltC a b=true):=by
 unfold Qm at h;simp only [Bool.and_eq_true,decide_eq_true_eq]at h;exact⟨h.1.1,Qm0 h.1.2⟩
theorem cyE {W w':World} {b o:Nat} {x:Value} (hb:Below W.heap.size W w') (c:W.cell? ⟨b,o,none⟩=some x):w'.cell? ⟨b,o,none⟩=some x:=
 (hb.cell (p:=⟨b,o,none⟩) (World.block_lt_of_cell? W ⟨b,o,none⟩ c)).trans c
def enF (C R:Nat→Int) (S:Nat→ByteArray) (n:Nat) (p q:Int) (s:ByteArray):Option (List CL):=if Qm C R S n=true∧Qi p q=true then(match inF s with
 | some t=>if 120<(YE ⟨p,q,t⟩ (clE C R S n)).length then none else some (YE ⟨p,q,t⟩ (clE C R S n))
 | none=>none)else none
def EnR (B:Nat) (w':World) (r:Option (List CL)) (e:Ending):Prop:=match r with
 | some L=> ∃A c m,e= .returned (.tuple #[.slice A m c,.bool true])∧L.length=m∧w'.ownsRow B 49 3 (.slice A m c) m (Qu CL.cs L)
 | none=>e= .returned (.tuple #[.slice none 0 0,.bool false])
theorem Qo4 {C R:Nat→Int} {S:Nat→ByteArray} {n:Nat} {p q:Int} {s:ByteArray} (h:Qm C R S n=false):enF C R S n p q s=none:=by rw [enF,if_neg (fun e=>by rw [h]at e;cases e.1)]
theorem Qo3 {C R:Nat→Int} {S:Nat→ByteArray} {n:Nat} {p q:Int} {s:ByteArray} (h:Qi p q=false):enF C R S n p q s=none:=by rw [enF,if_neg (fun e=>by rw [h]at e;cases e.2)]
theorem Qo2 {C R:Nat→Int} {S:Nat→ByteArray} {n:Nat} {p q:Int} {s:ByteArray} (h:inF s=none):enF C R S n p q s=none:=by rw [enF,h];split<;>rfl
theorem Qo1 {C R:Nat→Int} {S:Nat→ByteArray} {n:Nat} {p q:Int} {s t:ByteArray} (h1:Qm C R S n=true) (h2:Qi p q=true) (h3:inF s=some t):enF C R S n p q s=if 120<(YE ⟨p,q,t⟩ (clE C R S n)).length then none else some (YE ⟨p,q,t⟩ (clE C R S n)):=by rw [enF,if_pos ⟨h1,h2⟩,h3]
theorem Mj {A:Option Addr} {n cap:Nat} {C R:Nat→Int} {S:Nat→ByteArray} {p q:Int} {s:ByteArray} (w:World) (h:ClRow w A n C R S) (hs:s.size≤maxLen):
  Calls Tryz.prog 45 #[.slice A n cap,.agg #[.int .i64 p,.int .i64 q],.string s] w fun e w'=>EnR w.heap.size w' (enF C R S n p q s) e∧Below w.heap.size w w':=by
 have HR:Hid (ClRow w A n C R S):=h;have HS:Hid (s.size≤maxLen):=hs;clear h;obtain⟨ck,HCK⟩: ∃ck,Hid (Qm C R S n=ck):=⟨_,rfl⟩;obtain⟨rk,HRK⟩: ∃rk,Hid (Qi p q=rk):=⟨_,rfl⟩;obtain⟨io,HIO⟩: ∃io,Hid (inF s=io):=⟨_,rfl⟩;go_enter Tryz.func45,Tryz.ntmps45
 go_wp2_with fail
 obtain⟨X,HX⟩: ∃X,Hid (w.alloc (.cells #[.int .i64 p,.int .i64 q] 38)=X):=⟨_,rfl⟩;rw [HX.out];have x0:X.cell? ⟨w.heap.size,0,none⟩=some (.int .i64 p):=by rw [←HX.out];go_simp
 have x1:X.cell? ⟨w.heap.size,1,none⟩=some (.int .i64 q):=by rw [←HX.out];go_simp
 have zX:w.heap.size<X.heap.size:=by rw [←HX.out];simp
 have KX:Hid (Below w.heap.size w X):=by rw [←HX.out];show Below _ _ _;go_grown
 clear HX;refine(ZD s X HS.out).mono ?_;rintro e u0 ⟨hop,hb⟩;replace x0:=cyE hb x0;replace x1:=cyE hb x1;replace zX:w.heap.size<u0.heap.size:=Nat.lt_of_lt_of_le zX hb.size;replace KX:=hd (Qb KX.out hb)
 clear hb;rw [HIO.out]at hop;have HOP:Hid (opA io e):=hop;clear hop
 obtain⟨tx,ok,HE,HTX⟩: ∃(tx:ByteArray) (ok:Bool),Hid (e= .returned (.tuple #[.string tx,.bool ok]))∧Hid (io=if ok=true then some tx else none):=by
  cases io with
  | none=>exact⟨⟨#[]⟩,false,HOP.out,rfl⟩
  | some t=>exact⟨t,true,HOP.out,rfl⟩
 rw [HE.out];clear HE HOP;go_wp2_with fail
 refine(QI _ (HR.out.below KX.out)).mono ?_;rintro e u1 ⟨rfl,hb⟩;replace x0:=cyE hb x0;replace x1:=cyE hb x1;replace zX:w.heap.size<u1.heap.size:=Nat.lt_of_lt_of_le zX hb.size;replace KX:=hd (Qb KX.out hb);clear hb
 rw [HCK.out];cases ck
 ·have HV:Hid (enF C R S n p q s=none):=Qo4 HCK.out;go_wp2_with fail
  refine bodyPost_ret (v:= .tuple #[.slice none 0 0,.bool false]) ?_ rfl ⟨?_,KX.out⟩
  ·simp (maxDischargeDepth:=9) [results,Tryz.results45,go_sem, *]
  ·rw [HV.out];exact rfl
 go_wp2_with fail
 refine(QE p q _).mono ?_;rintro e u2 ⟨rfl,hb⟩;replace x0:=cyE hb x0;replace x1:=cyE hb x1;replace zX:w.heap.size<u2.heap.size:=Nat.lt_of_lt_of_le zX hb.size;replace KX:=hd (Qb KX.out hb);clear hb
 rw [HRK.out];cases rk
 ·have HV:Hid (enF C R S n p q s=none):=Qo3 HRK.out;go_wp2_with fail
  refine bodyPost_ret (v:= .tuple #[.slice none 0 0,.bool false]) ?_ rfl ⟨?_,KX.out⟩
  ·simp (maxDischargeDepth:=9) [results,Tryz.results45,go_sem, *]
  ·rw [HV.out];exact rfl
 cases ok
 ·have HV:Hid (enF C R S n p q s=none):=Qo2 (HIO.out.trans HTX.out);go_wp2_with fail
  refine bodyPost_ret (v:= .tuple #[.slice none 0 0,.bool false]) ?_ rfl ⟨?_,KX.out⟩
  ·simp (maxDischargeDepth:=9) [results,Tryz.results45,go_sem, *]
  ·rw [HV.out];exact rfl
 have HIT:Hid (inF s=some tx):=HIO.out.trans HTX.out;obtain⟨hn,hrf,hri⟩:=Qx HCK.out;have HRI:Hid ((clE C R S n).Pairwise (fun a b=>ltC a b=true)):=hri;have HRF:Hid (∀i,i<n→Qi (C i) (R i)=true):=hrf;have HV:Hid (enF C R S n p q s=if 120<(YE ⟨p,q,tx⟩ (clE C R S n)).length then none else some (YE ⟨p,q,tx⟩ (clE C R S n))):=Qo1 HCK.out HRK.out HIT.out;clear hri hrf;go_wp2_with fail
 refine(Mi _ (HR.out.below KX.out) (by omega)).mono ?_;rintro e u3 ⟨A',c',m,rfl,hl,ho,hb⟩;have HEQ:Hid (Qed ⟨p,q,tx⟩ (clE C R S n)=YE ⟨p,q,tx⟩ (clE C R S n)):=(ES HRI.out).symm;rw [HEQ.out]at hl ho;have HLN:Hid ((YE ⟨p,q,tx⟩ (clE C R S n)).length=m):=hl;have HO:Hid (u3.ownsRow w.heap.size 49 3 (.slice A' m c') m (Qu CL.cs (YE ⟨p,q,tx⟩ (clE C R S n)))):=Go.Proofs.ownsRow_base_a ho KX.out.size;clear hl ho
 replace x0:=cyE hb x0;replace x1:=cyE hb x1;replace zX:w.heap.size<u3.heap.size:=Nat.lt_of_lt_of_le zX hb.size;replace KX:=hd (Qb KX.out hb);clear hb;by_cases h120:120<m
 ·have q1:(120:Int)<((m:Nat):Int):=by omega
  go_wp2_with fail
  refine bodyPost_ret (v:= .tuple #[.slice none 0 0,.bool false]) ?_ rfl ⟨?_,KX.out⟩
  ·simp (maxDischargeDepth:=9) [results,Tryz.results45,go_sem, *]
  ·rw [HV.out,HLN.out,if_pos h120];exact rfl
 ·have q1: ¬(120:Int)<((m:Nat):Int):=by omega
  go_wp2_with fail
  refine bodyPost_ret (v:= .tuple #[.slice A' m c',.bool true]) ?_ rfl ⟨?_,KX.out⟩
  ·simp (maxDischargeDepth:=9) [results,Tryz.results45,go_sem, *]
  ·rw [HV.out,HLN.out,if_neg h120];exact⟨A',c',m,rfl,HLN.out,HO.out⟩
end Go.Proofs.YthjldgbfgapbcaaGreatDoor
namespace Go.Proofs.YthjldgbfgapbcaaGreatDoor
open Go.RowKit
end Go.Proofs.YthjldgbfgapbcaaGreatDoor
namespace Go.Proofs.YthjldgbfgapbcaaGreatDoor
open Go.RowKit Go.Maps
theorem OK {p q:Int} (h:Qi p q=true): ∃l,keyOf Tryz.prog 38 (.agg #[.int .i64 p,.int .i64 q])=some l:=by
 simp only [Qi,decide_eq_true_eq]at h;exact Bl p q (Hv (by omega) (by omega)) (Hv (by omega) (by omega))
theorem Dh {C R:Nat→Int} {S:Nat→ByteArray} {n:Nat} (h:(clE C R S n).Pairwise (fun a b=>ltC a b=true)): ∀i j,i<j→j<n→ ¬(C i=C j∧R i=R j):=fun i j hij hj e=>by
 have h9:=List.pairwise_iff_getElem.1 h i j (by rw [Ym];omega) (by rw [Ym];exact hj) hij;simp only [clE,List.getElem_map,List.getElem_range]at h9;have h8:=of_decide_eq_true h9;simp only at h8;omega
def QA (L:List CL) (i:Nat):Int:=((L[i]?).map CL.c).getD 0
def Qz (L:List CL) (i:Nat):Int:=((L[i]?).map CL.r).getD 0
def QB (L:List CL) (i:Nat):ByteArray:=((L[i]?).map CL.s).getD ⟨#[]⟩
theorem YV (L:List CL):clE (QA L) (Qz L) (QB L) L.length=L:=by
 apply List.ext_getElem (Ym _ _ _ _);intro i h1 h2;simp only [clE,List.getElem_map,List.getElem_range,QA,Qz,QB,List.getElem?_eq_getElem h2,Option.map_some,Option.getD_some]
theorem Gr (C R:Nat→Int) (S:Nat→ByteArray): ∀n,clX C R S n=Qu CL.cs (clE C R S n)
 | 0=>rfl
 | n+1=>by rw [Nl,Gs,Ye,Gr C R S n];rfl
theorem Xv {W:World} {B n cap:Nat} {A:Option Addr} {L:List CL} (h:W.ownsRow B 49 3 (.slice A n cap) n (Qu CL.cs L)) (hL:L.length=n) (hs: ∀x∈L,x.s.size≤maxLen):ClRow W A n (QA L) (Qz L) (QB L):=by
 subst hL;refine Qgt (B:=B) (cap:=cap) ?_ (fun i hi=> ?_)
 ·rw [Gr,YV];exact h
 ·simp only [QB,List.getElem?_eq_getElem hi,Option.map_some,Option.getD_some];exact hs _ (List.getElem_mem hi)
theorem Qpv {C R:Nat→Int} {S:Nat→ByteArray} {n:Nat} {p q:Int} {s:ByteArray} (hs: ∀i,i<n→(S i).size≤maxLen): ∀x∈(enF C R S n p q s).getD [],x.s.size≤maxLen:=by
 intro x hx;rw [enF]at hx;split at hx
 ·cases hi:inF s with
  | none=>rw [hi]at hx;cases hx
  | some t=>
   rw [hi]at hx;simp only at hx;split at hx
   ·cases hx
   ·have h9:=(Xo ⟨p,q,t⟩ (clE C R S n)).mem_iff.1 hx
    have hm: ∀y∈clE C R S n,y.s.size≤maxLen:=fun y hy=>by
     obtain⟨i,hi,rfl⟩:=List.mem_map.1 hy;exact hs i (List.mem_range.1 hi)
    split at h9
    ·exact hm x (offP_mem.1 h9).1
    ·rcases List.mem_append.1 h9 with h9 | h9
     ·exact hm x (offP_mem.1 h9).1
     ·rw [List.mem_singleton]at h9;subst h9;have:=Qk5 hi;unfold maxLen;show t.size≤_;omega
 ·cases hx
theorem Qlb {C R:Nat→Int} {S:Nat→ByteArray} {n:Nat} {p q:Int} {s:ByteArray}:((enF C R S n p q s).getD []).length≤120:=by
 rw [enF];split
 ·cases hi:inF s with
  | none=>simp
  | some t=>
   simp only;split
   ·simp
   ·simp only [Option.getD_some];omega
 ·simp
end Go.Proofs.YthjldgbfgapbcaaGreatDoor
namespace Go.Proofs.YthjldgbfgapbcaaGreatDoor
open Go.RowKit
structure CH where
 c:Int
 r:Int
 f:ByteArray
 t:ByteArray
def chL (x:CH):List Value:= [.int .i64 x.c,.int .i64 x.r,.string x.f,.string x.t]
def ChRow (W:World) (A:Option Addr) (n:Nat) (D:Nat→CH):Prop:=
 n≤maxLen∧ ∀i,i<n→ ∃b o,A=some ⟨b,o,none⟩∧b<W.heap.size∧W.cell? ⟨b,o+i*4,none⟩=some (.int .i64 (D i).c)∧W.cell? ⟨b,o+i*4+1,none⟩=some (.int .i64 (D i).r)∧
  W.cell? ⟨b,o+i*4+2,none⟩=some (.string (D i).f)∧W.cell? ⟨b,o+i*4+3,none⟩=some (.string (D i).t)∧(D i).f.size≤maxLen∧(D i).t.size≤maxLen
theorem ChRow.below {W W':World} {A:Option Addr} {n:Nat} {D:Nat→CH} (h:ChRow W A n D) (hb:Below W.heap.size W W'):ChRow W' A n D:=
 ⟨h.1,fun i hi=>by
  obtain⟨b,o,e,hl,c0,c1,c2,c3,hs,ht⟩:=h.2 i hi
  exact⟨b,o,e,Nat.lt_of_lt_of_le hl hb.size,(hb.cell (p:=⟨b,_,none⟩) hl).trans c0,(hb.cell (p:=⟨b,_,none⟩) hl).trans c1,(hb.cell (p:=⟨b,_,none⟩) hl).trans c2,(hb.cell (p:=⟨b,_,none⟩) hl).trans c3,hs,ht⟩⟩
def chX (D:Nat→CH) (m:Nat):List Value:=(List.range m).flatMap fun i=>chL (D i)
theorem Qa3 (D:Nat→CH) (m:Nat):chX D (m+1)=chX D m++chL (D m):=by
 simp [chX,List.range_succ,List.flatMap_append]
theorem Qep (D:Nat→CH) (m:Nat):(chX D m).length=m*4:=by
 induction m with
 | zero=>rfl
 | succ m ih=>rw [Qa3,List.length_append,ih];simp [chL];omega
theorem Km (D:Nat→CH) (m i j:Nat) (hi:i<m) (hj:j<4):(chX D m)[i*4+j]? =(chL (D i))[j]?:=by
 induction m with
 | zero=>omega
 | succ m ih=>
  rw [Qa3];have hl:=Qep D m;by_cases h:i<m
  ·rw [List.getElem?_append_left (by omega)];exact ih h
  ·obtain rfl:i=m:=by omega
   rw [List.getElem?_append_right (by omega),hl];congr 1
   omega
theorem BS:(Tryz.prog.info? 40).map (fun i=>(i.zero,i.size,i.bytes))=some (some (.agg #[.int .i64 0,.int .i64 0,.string ⟨#[]⟩,.string ⟨#[]⟩]),4,48):=by kernel_rfl
theorem Qgu {W:World} {B n:Nat} {A:Option Addr} {cap:Nat} {D:Nat→CH} (h:W.ownsRow B 40 4 (.slice A n cap) n (chX D n)) (hs: ∀i,i<n→(D i).f.size≤maxLen∧(D i).t.size≤maxLen):ChRow W A n D:=by
 obtain⟨A',cap',e,hn,hc⟩:=Qh h;cases e
 refine⟨hn,fun i hi=> ?_⟩;obtain⟨g,rfl,_,hl,c0,_⟩:=hc (i*4) (by omega);obtain⟨g1,e1,_,_,c1,_⟩:=hc (i*4+1) (by omega);obtain⟨g2,e2,_,_,c2,_⟩:=hc (i*4+2) (by omega);obtain⟨g3,e3,_,_,c3,_⟩:=hc (i*4+3) (by omega);cases e1
 cases e2
 cases e3
 refine⟨g,0,rfl,hl,?_,?_,?_,?_,hs i hi⟩
 ·rw [Nat.zero_add,c0];exact Km D n i 0 hi (by omega)
 ·rw [Nat.zero_add,c1];exact Km D n i 1 hi (by omega)
 ·rw [Nat.zero_add,c2];exact Km D n i 2 hi (by omega)
 ·rw [Nat.zero_add,c3];exact Km D n i 3 hi (by omega)
theorem Mw {W:World} {B g n cap m:Nat} {e:TypeId} {ys X:List Value} {u:Value} {Q:Nat→Prop} (h:W.ownsRow B e 4 (.slice (some ⟨g,0,none⟩) n cap) n ys) (hm:m<n*4) (hu:X[m]? =some u) (hy: ∀j,Q j→ys[j]? =X[j]?):
  ∃zs,(W.setCell ⟨g,m,none⟩ u).ownsRow B e 4 (.slice (some ⟨g,0,none⟩) n cap) n zs∧(∀j,Q j∨j=m→zs[j]? =X[j]?)∧W.grownBy (W.setCell ⟨g,m,none⟩ u) (some g):=by
 obtain⟨o1,g1⟩:=h.stored m u;refine⟨_,o1,fun j hj=> ?_,g1⟩;have hl:=h.1;by_cases e:m=j
 ·subst e;rw [List.getElem?_set_self (by omega)];exact hu.symm
 ·rw [List.getElem?_set_ne e];rcases hj with hj | hj
  ·exact hy j hj
  ·exact absurd hj.symm e
theorem Qcn {n:Nat} {ys:List Value} {D:Nat→CH} (hl:ys.length=n*4) (hy: ∀j,j<n*4→ys[j]? =(chX D n)[j]?):ys=chX D n:=by
 apply List.ext_getElem?;intro j;by_cases h:j<n*4
 ·exact hy j h
 ·rw [List.getElem?_eq_none (by omega),List.getElem?_eq_none (by rw [Qep];omega)]
theorem Qik {W:World} {B g n cap t:Nat} {e:TypeId} {ys:List Value} {D:Nat→CH} {Q:Nat→Prop} (x:CH) (hx:D t=x) (h:W.ownsRow B e 4 (.slice (some ⟨g,0,none⟩) n cap) n ys) (ht:t<n) (hy: ∀j,Q j→ys[j]? =(chX D n)[j]?):
  ∃zs,((((W.setCell ⟨g,t*4,none⟩ (.int .i64 x.c)).setCell ⟨g,t*4+1,none⟩ (.int .i64 x.r)).setCell ⟨g,t*4+2,none⟩ (.string x.f)).setCell ⟨g,t*4+3,none⟩ (.string x.t)).ownsRow B e 4 (.slice (some ⟨g,0,none⟩) n cap) n zs∧
   (∀j,Q j∨(t*4≤j∧j<(t+1)*4)→zs[j]? =(chX D n)[j]?)∧W.grownBy ((((W.setCell ⟨g,t*4,none⟩ (.int .i64 x.c)).setCell ⟨g,t*4+1,none⟩ (.int .i64 x.r)).setCell ⟨g,t*4+2,none⟩ (.string x.f)).setCell ⟨g,t*4+3,none⟩ (.string x.t)) (some g):=by
 subst hx;obtain⟨y1,o1,q1,g1⟩:=Mw h (by omega) (Km D n t 0 ht (by omega)) hy;obtain⟨y2,o2,q2,g2⟩:=Mw o1 (by omega) (Km D n t 1 ht (by omega)) q1;obtain⟨y3,o3,q3,g3⟩:=Mw o2 (by omega) (Km D n t 2 ht (by omega)) q2;obtain⟨y4,o4,q4,g4⟩:=Mw o3 (by omega) (Km D n t 3 ht (by omega)) q3
 exact⟨y4,o4,fun j hj=>q4 j (by
  rcases hj with hj | hj
  ·exact Or.inl (Or.inl (Or.inl (Or.inl hj)))
  ·by_cases e3:j=t*4+3
   ·exact Or.inr e3
   by_cases e2:j=t*4+2
   ·exact Or.inl (Or.inr e2)
   by_cases e1:j=t*4+1
   ·exact Or.inl (Or.inl (Or.inr e1))
   ·exact Or.inl (Or.inl (Or.inl (Or.inr (by omega))))),XK (XK (XK g1 g2) g3) g4⟩
end Go.Proofs.YthjldgbfgapbcaaGreatDoor
namespace Go.Proofs.YthjldgbfgapbcaaGreatDoor
open Go.RowKit Go.Maps
def atC (p q:Int) (E:List CL):ByteArray:=((E.find? (fun y=>decide (y.c=p∧y.r=q))).map CL.s).getD ⟨#[]⟩
theorem CmD.perm {D:DataW Value} {E L:List CL} (h:CmD D E) (hp:E.Perm L):CmD D L where
 nd:=(hp.pairwise_iff (fun{x y} (h:x.key≠y.key) e=>h e.symm)).1 h.nd
 into x hx:=h.into x (hp.mem_iff.2 hx)
 back kl hk:=by
  obtain⟨x,hx,e⟩:=h.back kl hk;exact⟨x,hp.mem_iff.1 hx,e⟩
theorem CmD.look {D:DataW Value} {E:List CL} (h:CmD D E) {p q:Int} {kl:Lit} (hk:keyOf Tryz.prog 38 (.agg #[.int .i64 p,.int .i64 q])=some kl):
  ∃c r,D.atKey kl (.held (.agg #[.int .i64 0,.int .i64 0,.string ⟨#[]⟩]))= .held (.agg #[.int .i64 c,.int .i64 r,.string (atC p q E)]):=by
 unfold atC;cases hf:E.find? (fun y=>decide (y.c=p∧y.r=q))with
 | none=>
  refine⟨0,0,?_⟩
  have hno:Maps.has D kl=false:=by
   cases hh:Maps.has D kl with
   | false=>rfl
   | true=>
    obtain⟨x,hx,hkx⟩:=h.back kl hh;have e:=keyedRef.inj hkx hk;have h9:=List.find?_eq_none.1 hf x hx;exact absurd (decide_eq_true (by simpa [CL.key]using e)) h9
  rw [atKey_of_not_has hno];rfl
 | some x=>
  have hx:=List.mem_of_find?_eq_some hf;have hm9:=List.find?_some hf;have hm:x.c=p∧x.r=q:=of_decide_eq_true hm9;obtain⟨k2,hk2,hat⟩:=h.into x hx;have h2:x.key= .agg #[.int .i64 p,.int .i64 q]:=by simp [CL.key,hm.1,hm.2]
  rw [h2,hk]at hk2;cases hk2
  exact⟨x.c,x.r,hat _⟩
def VU (E:List CL) (x:CH):Option (List CL):=if(Qi x.c x.r&&YQ x.t&&((atC x.c x.r E).toList==x.f.toList))=true then some (YE ⟨x.c,x.r,x.t⟩ E)else none
def Zy (D:Nat→CH) (E:List CL):Nat→Option (List CL)
 | 0=>some E
 | k+1=>(Zy D E k).bind (fun L=>VU L (D k))
theorem Qak {D : Nat → CH} {E : List CL} {t : Nat} (h : Zy D E t = none) : ∀ m, t ≤ m → Zy D E m = none
  | 0, hm => by obtain rfl : t = 0 := by omega
                exact h
  | m + 1, hm => by
    by_cases e : t = m + 1
    · subst e; exact h
    · rw [Zy, Qak h m (by omega)]; rfl
theorem Ud {D:Nat→CH} {E L:List CL} {t:Nat} (h:Zy D E t=some L):Zy D E (t+1)=VU L (D t):=by rw [Zy,h];rfl
def paF (C R:Nat→Int) (S:Nat→ByteArray) (n:Nat) (D:Nat→CH) (m:Nat):Option (List CL):=if Qm C R S n=true∧m≤360 then(match Zy D (clE C R S n) m with
 | some L=>if 120<L.length then none else some L
 | none=>none)else none
theorem Qnm {C R:Nat→Int} {S:Nat→ByteArray} {n m:Nat} {D:Nat→CH} (h:Qm C R S n=false):paF C R S n D m=none:=by rw [paF,if_neg (fun e=>by rw [h]at e;cases e.1)]
theorem Qnl {C R:Nat→Int} {S:Nat→ByteArray} {n m:Nat} {D:Nat→CH} (h:360<m):paF C R S n D m=none:=by rw [paF,if_neg (fun e=>by have:=e.2;omega)]
theorem Qnk {C R:Nat→Int} {S:Nat→ByteArray} {n m t:Nat} {D:Nat→CH} {L:List CL} (h:Zy D (clE C R S n) t=some L) (h2:VU L (D t)=none) (ht:t<m):paF C R S n D m=none:=by
 rw [paF,Qak (t:=t+1) (by rw [Ud h];exact h2) m (by omega)];split<;>rfl
theorem Qnn {C R:Nat→Int} {S:Nat→ByteArray} {n m:Nat} {D:Nat→CH} {L:List CL} (h1:Qm C R S n=true) (h2:m≤360) (h:Zy D (clE C R S n) m=some L):paF C R S n D m=if 120<L.length then none else some L:=by
 rw [paF,if_pos ⟨h1,h2⟩,h]
theorem Qih {E:List CL} {x:CH} (h:Qi x.c x.r=false):VU E x=none:=by simp [VU,h]
theorem Qig {E:List CL} {x:CH} (h:YQ x.t=false):VU E x=none:=by simp [VU,h]
theorem Qif {E:List CL} {x:CH} (h:((atC x.c x.r E).toList==x.f.toList)=false):VU E x=none:=by simp only [VU,h,Bool.and_false];rfl
theorem Qaj {E:List CL} {x:CH} (h1:Qi x.c x.r=true) (h2:YQ x.t=true) (h3:((atC x.c x.r E).toList==x.f.toList)=true):VU E x=some (YE ⟨x.c,x.r,x.t⟩ E):=by simp only [VU,h1,h2,h3];rfl
theorem Qno {s:ByteArray} (h:YQ s=true):inF s=some s∧s.size≤200:=by
 unfold YQ at h;cases hi:inF s with
 | none=>rw [hi]at h;cases h
 | some t=>
  rw [hi]at h;obtain rfl:t=s:=Qcu h;exact⟨rfl,Qk5 hi⟩
structure PaI (n t:Nat) (L:List CL):Prop where
 rise:L.Pairwise (fun a b=>ltC a b=true)
 len:L.length≤n+t
 sz: ∀x∈L,x.s.size≤maxLen
theorem ET {x:CL} {E:List CL} {y:CL} (h:y∈YE x E):y∈E∨y=x:=by
 have h9:=(Xo x E).mem_iff.1 h;split at h9
 ·exact .inl (offP_mem.1 h9).1
 ·rcases List.mem_append.1 h9 with h9 | h9
  ·exact .inl (offP_mem.1 h9).1
  ·exact .inr (List.mem_singleton.1 h9)
theorem EU (x:CL) (E:List CL):(YE x E).length≤E.length+1:=by
 rw [(Xo x E).length_eq];have h9:(Hk x.c x.r E).length≤E.length:=List.length_filter_le _ _;split
 ·omega
 ·simp;omega
theorem PaI.step {n t:Nat} {L L':List CL} {x:CH} (h:PaI n t L) (hs:VU L x=some L'):PaI n (t+1) L':=by
 unfold VU at hs;split at hs
 ·rename_i h9
  cases hs
  simp only [Bool.and_eq_true]at h9;refine⟨Vw h.rise,?_,fun y hy=> ?_⟩
  ·have:=EU ⟨x.c,x.r,x.t⟩ L;have:=h.len;omega
  ·rcases ET hy with hy | rfl
   ·exact h.sz y hy
   ·have:=(Qno h9.1.2).2;unfold maxLen;show x.t.size≤_;omega
 ·cases hs
theorem PaI.start {C R : Nat → Int} {S : Nat → ByteArray} {n : Nat} (h : Qm C R S n = true) (hs : ∀ i, i < n → (S i).size ≤ maxLen) : PaI n 0 (clE C R S n) :=
  ⟨(Qx h).2.2, by rw [Ym]; omega, fun y hy => by
    obtain ⟨i, hi, rfl⟩ := List.mem_map.1 hy
    exact hs i (List.mem_range.1 hi)⟩
theorem PaI.run {D:Nat→CH} {n:Nat} {E:List CL} (h0:PaI n 0 E): ∀(t:Nat) {L:List CL},Zy D E t=some L→PaI n t L
 | 0,L,h=>by cases h;exact h0
 | t+1,L,h=>by
  cases hp:Zy D E t with
  | none=>rw [Zy,hp]at h;cases h
  | some L0=>
   rw [Ud hp]at h;exact(PaI.run h0 t hp).step h
end Go.Proofs.YthjldgbfgapbcaaGreatDoor
namespace Go.Proofs.YthjldgbfgapbcaaGreatDoor
open Go.RowKit
theorem Uv {P:Program} {w:World} (base:Nat) (t ty e:TypeId) (i:TypeInfo) (size c:Nat) (ht:P.underlying t=some (.slice e)) (hi:P.info? e=some i)
  (v:Value) (n:Nat) (xs:List Value) (hown:w.ownsRow base e size v n xs):(Builtin.append_ #[t,t] ty #[v,.slice none 0 c]).run P w= .ok v w:=by
 rcases hown.2 with⟨rfl,rfl⟩ | ⟨g,cap,cur,rfl,_,_,hnc,_⟩
 ·simp [Builtin.append_,run_underlying ht,sizeOf,typeInfo,hi,Builtin.lenOf,Builtin.firstCells]
 ·simp [Builtin.append_,run_underlying ht,sizeOf,typeInfo,hi,Builtin.lenOf,Builtin.firstCells,hnc,storeCells]
section
variable {P:Program} {ops:Array Oper} {rest:List Oper} {o:Oper} {a:Act} {Q:Exit→Act→World→Prop}
theorem Xi {w:World} (hgd:o.guard=none) (s x:Operand) (t:TypeId)
  (ho:o.op= .call {callee:= .builtin .append,args:= #[s,x],argTypes:= #[t,t]})
  (base:Nat) (e:TypeId) (i:TypeInfo) (size c:Nat) (ht:P.underlying t=some (.slice e)) (hi:P.info? e=some i)
  (v:Value) (n:Nat) (xs:List Value) (hs:a.eval s=v) (hown:w.ownsRow base e size v n xs) (hx:a.eval x= .slice none 0 c)
  (h:wpList P ops Q rest (a.put o.dst v) w):wpList P ops Q (o::rest) a w:=by
 refine wpList_plain hgd fun K hK=> ?_;have hrun:=Uv (P:=P) (w:=w) base t o.type e i size c ht hi v n xs hown;unfold Oper.wp;simp [execOp,ho,resolve,invoke,builtin,hs,hx,hrun,Result.andThen];exact hK _ _ h
theorem Dn {W:World} (t e:TypeId) (i:TypeInfo) (z:Value) (size bytes:Nat) (ht:P.underlying t=some (.slice e)) (hi:P.info? e=some i) (hz:i.zero=some z) (hsize:i.size=size) (hby:i.bytes=bytes) (hzs:z.cells.size=size) (hsz:0<size)
  (hgd:o.guard=none) (s x:Operand) (ho:o.op= .call {callee:= .builtin .append,args:= #[s,x],argTypes:= #[t,t]}) (B:Nat) (hB:B≤W.heap.size) (v:Value) (hs:a.eval s=v) (hown:W.ownsRow B e size v 0 [])
  (A:Option Addr) (n c:Nat) (xs:List Value) (hx:a.eval x= .slice A n c) (hl:xs.length=n*size) (hA:A=none→n=0) (hc: ∀ad,A=some ad→ ∀j u,xs[j]? =some u→W.cell? (ad.add j)=some u) (h1: ∀u∈xs,u.oneCell'=true) (hn:n≤maxLen) (hb:n*bytes≤140737488355328)
  (h: ∀A' c' w',w'.ownsRow B e size (.slice A' n c') n xs→W.grownBy w' v.ownBlock→wpList P ops Q rest (a.put o.dst (.slice A' n c')) w'):wpList P ops Q (o::rest) a W:=by
 cases A with
 | none=>
  have hn0:=hA rfl;subst hn0;have hxs:xs= []:=by cases xs with | nil=>rfl | cons y ys=>simp at hl
  subst hxs;obtain⟨A',cap',rfl,_,_⟩:=Qh hown;exact Xi hgd s x t ho B e i size c ht hi _ 0 [] hs hown hx (h _ _ W hown (World.grownBy.refl _ _))
 | some ad=>
  refine wpList_append_own W hgd s x t ho B e i z size bytes ht hi hz hsize hby hzs hsz v 0 [] hs hown ad n c xs hx hl (hc ad rfl) h1 (by omega) (by rw [Nat.zero_add];exact hb) hB ?_;intro v' w' ho' hg' _;rw [Nat.zero_add,List.nil_append]at ho';obtain⟨A',cap',rfl,_,_⟩:=Qh ho';exact h A' cap' w' ho' hg'
end
theorem Qa1 {W:World} {A:Option Addr} {n:Nat} {C R:Nat→Int} {S:Nat→ByteArray} (h:ClRow W A n C R S): ∀ad,A=some ad→ ∀j u,(clX C R S n)[j]? =some u→W.cell? (ad.add j)=some u:=by
 intro ad hA j u hu;have hj:j<n*3:=by rw [←MR C R S n];exact(List.getElem?_eq_some_iff.1 hu).1
 obtain⟨b,o,e,_,c0,c1,c2,_⟩:=h.2 (j/3) (by omega);rw [hA]at e;cases e
 have e1:j=(j/3)*3+j%3:=by omega
 have hm:j%3<3:=by omega
 rw [e1,Ea C R S n (j/3) (j%3) (by omega) hm]at hu
 have e2:(⟨b,o,none⟩:Addr).add j=⟨b,o+j/3*3+j%3,none⟩:=by
  rw [Go.WideShapes.add_plain];congr 1
  omega
 rw [e2];rcases(show j%3=0∨j%3=1∨j%3=2 by omega)with h9 | h9 | h9
 ·rw [h9]at hu ⊢;cases hu;exact c0
 ·rw [h9]at hu ⊢;cases hu;exact c1
 ·rw [h9]at hu ⊢;cases hu;exact c2
theorem Qen {W:World} {A:Option Addr} {n:Nat} {C R:Nat→Int} {S:Nat→ByteArray} (h:ClRow W A n C R S) (hA:A=none):n=0:=by
 cases n with
 | zero=>rfl
 | succ m=>obtain⟨b,o,e,_⟩:=h.2 0 (by omega);rw [hA]at e;cases e
theorem Qeo (C R:Nat→Int) (S:Nat→ByteArray) (n:Nat): ∀u∈clX C R S n,u.oneCell'=true:=by
 intro u hu;obtain⟨i,_,hi⟩:=List.mem_flatMap.1 hu;simp only [List.mem_cons,List.not_mem_nil,or_false]at hi;rcases hi with rfl | rfl | rfl<;>rfl
theorem Qln {n:Nat} {w W:World} (h:Below n w W) (k:Nat):Below n w (W.drewN k):=by
 induction k with
 | zero=>exact h
 | succ k ih=>first | exact ih.drew | (rw [World.drewN_succ];exact ih.drew)
theorem Qr7 {C R:Nat→Int} {S:Nat→ByteArray} {n k:Nat} {p q:Int} (hk:k<n) (hn: ∀j,j<k→ ¬(C j=p∧R j=q)) (hy:C k=p∧R k=q):atC p q (clE C R S n)=S k:=by
 have hf:(clE C R S n).find? (fun y=>decide (y.c=p∧y.r=q))=some ⟨C k,R k,S k⟩:=by
  rw [List.find?_eq_some_iff_getElem];refine⟨decide_eq_true hy,k,by rw [Ym];exact hk,by simp [clE],fun j hj=> ?_⟩;simp only [clE,List.getElem_map,List.getElem_range,Bool.not_eq_true',decide_eq_false_iff_not];exact hn j hj
 rw [atC,hf];rfl
theorem Qr6 {C R:Nat→Int} {S:Nat→ByteArray} {n:Nat} {p q:Int} (hn: ∀j,j<n→ ¬(C j=p∧R j=q)):atC p q (clE C R S n)=⟨#[]⟩:=by
 have hf:(clE C R S n).find? (fun y=>decide (y.c=p∧y.r=q))=none:=by
  rw [List.find?_eq_none];intro y hy;obtain⟨i,hi,rfl⟩:=List.mem_map.1 hy;simp only [decide_eq_true_eq];exact hn i (List.mem_range.1 hi)
 rw [atC,hf];rfl
theorem Qff {A:Option Addr} {n cap:Nat} {C R:Nat→Int} {S:Nat→ByteArray} (p q:Int) (w:World) (h:ClRow w A n C R S):
  Calls Tryz.prog 39 #[.slice A n cap,.agg #[.int .i64 p,.int .i64 q]] w fun e w'=>e= .returned (.string (atC p q (clE C R S n)))∧Below w.heap.size w w':=by
 have HR:Hid (ClRow w A n C R S):=h;have hn:=h.1;unfold maxLen at hn;clear h;go_enter Tryz.func39,Tryz.ntmps39;go_wp2_with fail
 go_loopw [5] (fun i wr=> ∃k:Nat,k≤n∧i= .int .i64 k∧(∀j,j<k→ ¬(C j=p∧R j=q))∧Below w.heap.size w wr∧Below (w.heap.size+1) (w.alloc (.cells #[.int .i64 p,.int .i64 q] 38)) wr) (fun i _=>n-(intOf i).toNat)
 case atStart=>exact⟨0,Nat.zero_le _,rfl,fun i hi=>by omega,by go_grown,Below.refl _ _⟩
 case round=>
  obtain⟨k,hk,rfl,hr,hbel,hbx⟩:=hrel;have HI:Hid (∀j,j<k→ ¬(C j=p∧R j=q)):=hr;clear hr;have hs:=hbel.size;have hsx:w.heap.size+1≤wr.heap.size:=Nat.le_trans (by go_size) hbx.size;have e0:wr.cell? ⟨w.heap.size,0,none⟩=some (.int .i64 p):=(hbx.cell (p:=⟨_,_,none⟩) (by simp)).trans (by simp);have e1:wr.cell? ⟨w.heap.size,1,none⟩=some (.int .i64 q):=(hbx.cell (p:=⟨_,_,none⟩) (by simp)).trans (by simp)
  have l0:w.heap.size<wr.heap.size:=by omega
  have HB:Hid (Below w.heap.size w wr):=hbel;have HX:Hid (Below (w.heap.size+1) (w.alloc (.cells #[.int .i64 p,.int .i64 q] 38)) wr):=hbx;by_cases hlt:k<n
  ·obtain⟨b,o,rfl,hl,c0,c1,c2,_⟩:=HR.out.2 k hlt;rw [←hbel.cell (p:=⟨_,_,none⟩) hl]at c0 c1 c2;clear hbel hbx;have hl2:b<wr.heap.size:=Nat.lt_of_lt_of_le hl hs;have h0:(0:Int)≤(k:Int):=by omega
   have h1:(k:Int)<(n:Int):=by omega
   by_cases hc:C k=p
   ·by_cases hd:R k=q
    ·have HF:Hid (atC p q (clE C R S n)=S k):=Qr7 hlt HI.out ⟨hc,hd⟩;have t1:(C k==p)=true:=by simpa using hc
     have t2:(R k==q)=true:=by simpa using hd
     clear hc hd;go_wp2_with fail
     go_quiet (fail)
     all_goals go_wp2_with fail
     all_goals go_ret
     all_goals exact⟨Qt HF.out.symm,Qln HB.out _⟩
    ·have HI':Hid (∀j,j<k+1→ ¬(C j=p∧R j=q)):=fun j hj=>by
      by_cases e:j=k
      ·subst e;exact fun h=>hd h.2
      ·exact HI.out j (by omega)
     have t1:(C k==p)=true:=by simpa using hc
     have t2:(R k==q)=false:=by simpa using hd
     clear hc hd;go_wp2_with fail
     go_quiet (fail)
     all_goals go_wp2_with fail
     all_goals
      go_roundw
      case rel=>exact⟨k+1,by omega,by go_num,HI'.out,Qln HB.out _,Qln HX.out _⟩
      case measure=>simp [intOf];omega
   ·have HI':Hid (∀j,j<k+1→ ¬(C j=p∧R j=q)):=fun j hj=>by
     by_cases e:j=k
     ·subst e;exact fun h=>hc h.1
     ·exact HI.out j (by omega)
    have t1:(C k==p)=false:=by simpa using hc
    go_wp2_with fail
    go_quiet (fail)
    all_goals go_wp2_with fail
    all_goals
     go_roundw
     case rel=>exact⟨k+1,by omega,by go_num,HI'.out,Qln HB.out _,Qln HX.out _⟩
     case measure=>simp [intOf];omega
  ·have h1: ¬(k:Int)<(n:Int):=by omega
   obtain rfl:k=n:=by omega
   go_wp2_with fail
   go_ret;exact⟨Qt (Qr6 HI.out).symm,HB.out⟩
end Go.Proofs.YthjldgbfgapbcaaGreatDoor
