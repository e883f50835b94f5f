import Derived.Test.YtejbnnacghbhoaaGreatDoorMn
import Derived.Test.YtejbnnacghbhoaaGreatDoorGzj
import Derived.Test.YtejbnnacghbhoaaGreatDoorGar2
import Derived.Test.YtejbnnacghbhoaaGreatDoorGzeA
import Derived.Test.YtejbnnacghbhoaaGreatDoorGad
import Derived.Test.YtejbnnacghbhoaaGreatDoorGbf
import Derived.Test.YtejbnnacghbhoaaGreatDoorGay
import Derived.Test.YtejbnnacghbhoaaGreatDoorGze
set_option linter.unusedSimpArgs false
set_option linter.unusedVariables false
set_option maxHeartbeats 4000000
set_option maxRecDepth 100000
namespace Go.Proofs.YtejbnnacghbhoaaGreatDoor
open Go.RowKit Go.Maps
def rfL (p:Int × Int):List Value:= [.int .i64 p.1,.int .i64 p.2]
theorem Qjs:(Tryz.prog.info? 26).map (fun i=>(i.zero,i.size,i.bytes))=some (some (.agg #[.int .i64 0,.int .i64 0]),2,16):=by kernel_rfl
theorem Vp {ops:Array Oper} {rest:List Oper} {o:Oper} {a:Act} {Q:Exit→Act→World→Prop} {W:World} (hgd:o.guard=none) (s x:Operand) (ho:o.op= .call {callee:= .builtin .append,args:= #[s,x],argTypes:= #[31,31]}) (B:Nat) (v:Value) (n:Nat) (L:List (Int × Int)) (hs:a.eval s=v)
  (hown:W.ownsRow B 26 2 v n (QC rfL L)) (z:Int × Int) (g:Nat) (hx:a.eval x= .slice (some ⟨g,0,none⟩) 1 1) (h0:W.cell? ⟨g,0,none⟩=some (.int .i64 z.1)) (h1:W.cell? ⟨g,1,none⟩=some (.int .i64 z.2)) (hn:n≤1099511627776) (hB:B≤W.heap.size)
  (h: ∀v' w',w'.ownsRow B 26 2 v' (n+1) (QC rfL (L++ [z]))→W.grownBy w' v.ownBlock→wpList Tryz.prog ops Q rest (a.put o.dst v') w'):wpList Tryz.prog ops Q (o::rest) a W:=by
 obtain⟨i0,hi,iz0,iz1,iz2⟩:=info_parts Qjs;refine wpList_append_own W hgd s x 31 ho B 26 i0 (.agg #[.int .i64 0,.int .i64 0]) 2 16 Tryz.underlying31 hi iz0 iz1 iz2 rfl (by decide) v n _ hs hown ⟨g,0,none⟩ 1 1 (rfL z) hx rfl ?_ ?_ ?_ ?_ hB ?_
 ·intro q u hq;match q,hq with
  | 0,hq=>simp [rfL]at hq;subst hq;simpa [Addr.add]using h0
  | 1,hq=>simp [rfL]at hq;subst hq;simpa [Addr.add]using h1
 ·intro u hu;simp [rfL]at hu;rcases hu with rfl | rfl<;>rfl
 ·unfold maxLen;omega
 ·omega
 ·intro v' w3 hown' hgrow _;refine h v' w3 ?_ hgrow;rw [Vn];exact hown'
structure RfR (W:World) (A:Option Addr) (n:Nat) (P:List (Int × Int)):Prop where
 len:P.length=n
 lim:n≤maxLen
 at_: ∀i,i<n→ ∃b o,A=some ⟨b,o,none⟩∧b<W.heap.size∧W.cell? ⟨b,o+i*2,none⟩=some (.int .i64 (P.getD i (0,0)).1)∧W.cell? ⟨b,o+i*2+1,none⟩=some (.int .i64 (P.getD i (0,0)).2)
theorem RfR.below {W W':World} {A:Option Addr} {n:Nat} {P:List (Int × Int)} (h:RfR W A n P) (hb:Below W.heap.size W W'):RfR W' A n P:=
 ⟨h.len,h.lim,fun i hi=>by
  obtain⟨b,o,e,hl,c0,c1⟩:=h.at_ i hi
  exact⟨b,o,e,Nat.lt_of_lt_of_le hl hb.size,(hb.cell (p:=⟨b,_,none⟩) hl).trans c0,(hb.cell (p:=⟨b,_,none⟩) hl).trans c1⟩⟩
theorem RfR.of_own {W:World} {B n cap:Nat} {A:Option Addr} {P:List (Int × Int)} (h:W.ownsRow B 26 2 (.slice A n cap) n (QC rfL P)) (hP:P.length=n):RfR W A n P:=by
 obtain⟨A',cap',e,hn,hc⟩:=Qu h;cases e
 refine⟨hP,hn,fun i hi=> ?_⟩;have hat:P[i]? =some (P.getD i (0,0)):=by rw [List.getD_eq_getElem?_getD,List.getElem?_eq_getElem (by omega)];rfl
 have cell: ∀j,j<2→ ∃g,A=some ⟨g,0,none⟩∧g<W.heap.size∧W.cell? ⟨g,i*2+j,none⟩=(rfL (P.getD i (0,0)))[j]?:=fun j hj=>by
  obtain⟨g,e,_,hl,c,_⟩:=hc (i*2+j) (by omega);refine⟨g,e,hl,?_⟩;rw [c,Hu (f:=rfL) (k:=2) (fun _=>rfl) j hj,hat];rfl
 obtain⟨g,rfl,hl,c0⟩:=cell 0 (by omega);obtain⟨g1,e1,_,c1⟩:=cell 1 (by omega);cases e1
 exact⟨g,0,rfl,hl,by rw [Nat.zero_add];exact c0,by rw [Nat.zero_add];exact c1⟩
end Go.Proofs.YtejbnnacghbhoaaGreatDoor
namespace Go.Proofs.YtejbnnacghbhoaaGreatDoor
open Go.RowKit
abbrev AR:=Int × Int × Int × Int
def arC (a:AR):List Value:= [.int .i64 a.1,.int .i64 a.2.1,.int .i64 a.2.2.1,.int .i64 a.2.2.2]
def arQ (x:FN):List AR:=if x.k=2 then [(x.ac,x.ar,x.ac,x.ar)]else if x.k=3 then [(x.ac,x.ar,x.bc,x.br)]else []
def arA (F:Nat→FN) (n:Nat):List AR:=if Zc F n then(List.range n).flatMap fun i=>arQ (F i)else []
theorem Qif {α:Type} (f:α→List Value) (L M:List α):QC f (L++M)=QC f L++QC f M:=by unfold QC;rw [List.flatMap_append]
theorem Qiu (x:FN):QC arC (arQ x)=Qdz x:=by
 unfold arQ Qdz;split
 ·rfl
 ·split<;>rfl
theorem Qd0 (F:Nat→FN): ∀n,QC arC ((List.range n).flatMap fun i=>arQ (F i))=Vd F n∧((List.range n).flatMap fun i=>arQ (F i)).length=XM F n
 | 0=>⟨rfl,rfl⟩
 | n+1=>by
  obtain⟨h1,h2⟩:=Qd0 F n;rw [List.range_succ,List.flatMap_append,Gp,Qif,h1,List.length_append,h2,XM];refine⟨?_,?_⟩
  ·rw [List.flatMap_singleton,Qiu]
  ·rw [List.flatMap_singleton];unfold arQ;by_cases h2:(F n).k=2
   ·simp [h2]
   ·by_cases h3:(F n).k=3<;>simp [h2,h3]
theorem Qaj (F:Nat→FN) (n:Nat):QC arC (arA F n)=Qdv F n∧(arA F n).length=NY F n:=by
 unfold arA Qdv NY;split
 ·exact Qd0 F n
 ·exact⟨rfl,rfl⟩
def YT (p q:Int) (a:AR):Bool:=decide (a.1≤p)&&decide (p≤a.2.2.1)&&decide (a.2.1≤q)&&decide (q≤a.2.2.2)
structure ArR (W:World) (A:Option Addr) (n:Nat) (L:List AR):Prop where
 len:L.length=n
 lim:n≤maxLen
 at_: ∀i,i<n→ ∃b o,A=some ⟨b,o,none⟩∧b<W.heap.size∧W.cell? ⟨b,o+i*4,none⟩=some (.int .i64 (L.getD i (0,0,0,0)).1)∧W.cell? ⟨b,o+i*4+1,none⟩=some (.int .i64 (L.getD i (0,0,0,0)).2.1)∧
  W.cell? ⟨b,o+i*4+2,none⟩=some (.int .i64 (L.getD i (0,0,0,0)).2.2.1)∧W.cell? ⟨b,o+i*4+3,none⟩=some (.int .i64 (L.getD i (0,0,0,0)).2.2.2)
theorem ArR.below {W W':World} {A:Option Addr} {n:Nat} {L:List AR} (h:ArR W A n L) (hb:Below W.heap.size W W'):ArR W' A n L:=
 ⟨h.len,h.lim,fun i hi=>by
  obtain⟨b,o,e,hl,c0,c1,c2,c3⟩:=h.at_ i hi
  exact⟨b,o,e,Nat.lt_of_lt_of_le hl hb.size,(hb.cell (p:=⟨b,_,none⟩) hl).trans c0,(hb.cell (p:=⟨b,_,none⟩) hl).trans c1,(hb.cell (p:=⟨b,_,none⟩) hl).trans c2,(hb.cell (p:=⟨b,_,none⟩) hl).trans c3⟩⟩
theorem ArR.of_own {W:World} {B n cap:Nat} {A:Option Addr} {L:List AR} (h:W.ownsRow B 118 4 (.slice A n cap) n (QC arC L)) (hL:L.length=n):ArR W A n L:=by
 obtain⟨A',cap',e,hn,hc⟩:=Qu h;cases e
 refine⟨hL,hn,fun i hi=> ?_⟩;have hat:L[i]? =some (L.getD i (0,0,0,0)):=by rw [List.getD_eq_getElem?_getD,List.getElem?_eq_getElem (by omega)];rfl
 have cell: ∀j,j<4→ ∃g,A=some ⟨g,0,none⟩∧g<W.heap.size∧W.cell? ⟨g,i*4+j,none⟩=(arC (L.getD i (0,0,0,0)))[j]?:=fun j hj=>by
  obtain⟨g,e,_,hl,c,_⟩:=hc (i*4+j) (by omega);refine⟨g,e,hl,?_⟩;rw [c,Hu (f:=arC) (k:=4) (fun _=>rfl) j hj,hat];rfl
 obtain⟨g,rfl,hl,c0⟩:=cell 0 (by omega);obtain⟨g1,e1,_,c1⟩:=cell 1 (by omega);obtain⟨g2,e2,_,c2⟩:=cell 2 (by omega);obtain⟨g3,e3,_,c3⟩:=cell 3 (by omega);cases e1
 cases e2
 cases e3
 exact⟨g,0,rfl,hl,by rw [Nat.zero_add];exact c0,by rw [Nat.zero_add];exact c1,by rw [Nat.zero_add];exact c2,by rw [Nat.zero_add];exact c3⟩
theorem NP (a:AR) (p q:Int) (w:World):Calls Tryz.prog 153 #[.agg #[.int .i64 a.1,.int .i64 a.2.1,.int .i64 a.2.2.1,.int .i64 a.2.2.2],.agg #[.int .i64 p,.int .i64 q]] w fun e w'=>
  e= .returned (.bool (YT p q a))∧Below w.heap.size w w':=by
 obtain⟨a1,a2,a3,a4⟩:=a;simp only;go_enter Tryz.func153,Tryz.ntmps153;go_wp2
 all_goals
  go_ret;refine⟨Qb ?_,by go_grown⟩;unfold YT;rw [Bool.eq_iff_iff];simp;try omega
theorem JG (a:AR) (p q:Int) (w:World):Calls Tryz.prog 81 #[.agg #[.int .i64 p,.int .i64 q],.agg #[.int .i64 a.1,.int .i64 a.2.1,.int .i64 a.2.2.1,.int .i64 a.2.2.2]] w fun e w'=>
  e= .returned (.bool (YT p q a))∧Below w.heap.size w w':=by
 obtain⟨a1,a2,a3,a4⟩:=a;simp only;cases h1:decide (a1≤p∧p≤a3)
 ·have HF:Hid (YT p q (a1,a2,a3,a4)=false):=by
   show _=_;have:=of_decide_eq_false h1;unfold YT;simp;omega
  go_enter Tryz.func81,Tryz.ntmps81;go_wp2_with (go_at_call 55;refine(QZ _ _ _ _).mono ?_;rintro e w1 ⟨rfl,rfl⟩;rw [h1])
  all_goals
   go_ret;exact⟨Qb HF.out.symm,by go_grown⟩
 ·have HF:Hid (YT p q (a1,a2,a3,a4)=(decide (a2≤q)&&decide (q≤a4))):=by
   show _=_;have:=of_decide_eq_true h1;unfold YT;rw [Bool.eq_iff_iff];simp;omega
  go_enter Tryz.func81,Tryz.ntmps81;go_wp2_with fail
  refine(QZ _ _ _ _).mono ?_;rintro e w1 ⟨rfl,hw1⟩;obtain rfl:=hw1.symm;rw [h1];go_wp2_with fail
  refine(QZ _ _ _ _).mono ?_;rintro e w2 ⟨rfl,hw2⟩;obtain rfl:=hw2.symm;go_wp2_with fail
  go_ret;exact⟨Qb HF.out.symm,by go_grown⟩
theorem Qqs {L:List AR} {f:AR→Bool} {n:Nat} (hL:L.length=n) (h: ∀j,j<n→f (L.getD j (0,0,0,0))=false):L.any f=false:=by
 rw [List.any_eq_false];intro x hx;obtain⟨j,hj,rfl⟩:=List.mem_iff_getElem.1 hx;have h9:=h j (by omega);rw [List.getD_eq_getElem?_getD,List.getElem?_eq_getElem hj]at h9;simpa using h9
theorem Qn3 {L:List AR} {f:AR→Bool} {j:Nat} (hj:j<L.length) (h:f (L.getD j (0,0,0,0))=true):L.any f=true:=by
 rw [List.any_eq_true];rw [List.getD_eq_getElem?_getD,List.getElem?_eq_getElem hj]at h;exact⟨_,List.getElem_mem hj,h⟩
theorem Bz {A:Option Addr} {n cap:Nat} {L:List AR} (p q:Int) (w:World) (h:ArR w A n L):
  Calls Tryz.prog 118 #[.slice A n cap,.agg #[.int .i64 p,.int .i64 q]] w fun e w'=>e= .returned (.bool (L.any (YT p q)))∧Below w.heap.size w w':=by
 have HR:Hid (ArR w A n L):=h;have hn:=h.lim;unfold maxLen at hn;clear h;go_enter Tryz.func118,Tryz.ntmps118;go_wp2_with fail
 obtain⟨X,HX⟩: ∃X,Hid (w.alloc (.cells #[.int .i64 p,.int .i64 q] 26)=X):=⟨_,rfl⟩;rw [HX.out];have x0:X.cell? ⟨w.heap.size,0,none⟩=some (.int .i64 p):=by rw [←HX.out];simp
 have x1:X.cell? ⟨w.heap.size,1,none⟩=some (.int .i64 q):=by rw [←HX.out];simp
 have xl:w.heap.size<X.heap.size:=by rw [←HX.out];simp
 have BX:Hid (Below w.heap.size w X):=by show Below _ _ _;rw [←HX.out];exact(Below.refl _ _).alloc (Nat.le_refl _) _
 have HRX:=hd (HR.out.below BX.out);clear HX;go_loopw [9] (fun i wr=> ∃k:Nat,k≤n∧i= .int .i64 k∧(∀j,j<k→YT p q (L.getD j (0,0,0,0))=false)∧Below X.heap.size X wr) (fun i _=>n-(intOf i).toNat)
 case atStart=>exact⟨0,Nat.zero_le _,rfl,fun j hj=>absurd hj (Nat.not_lt_zero _),Below.refl _ _⟩
 case round=>
  obtain⟨k,hk,rfl,hall,hbel⟩:=hrel;have HAL:Hid (∀j,j<k→YT p q (L.getD j (0,0,0,0))=false):=hall;have BL:Hid (Below X.heap.size X wr):=hbel;replace x0:=(hbel.cell (p:=⟨w.heap.size,0,none⟩) xl).trans x0;replace x1:=(hbel.cell (p:=⟨w.heap.size,1,none⟩) xl).trans x1;have xlw:=Nat.lt_of_lt_of_le xl hbel.size;clear hall
  by_cases hlt:k<n
  ·obtain⟨b,o,rfl,hl,c0,c1,c2,c3⟩:=HRX.out.at_ k hlt;rw [←hbel.cell (p:=⟨_,_,none⟩) hl]at c0 c1 c2 c3;have h0:(0:Int)≤(k:Int):=by omega
   have h1:(k:Int)<(n:Int):=by omega
   have HKL:Hid (k<L.length):=by rw [HRX.out.len];exact hlt
   obtain⟨x,HXX⟩: ∃x,Hid (L.getD k (0,0,0,0)=x):=⟨_,rfl⟩;rw [HXX.out]at c0 c1 c2 c3;cases hin:YT p q x
   ·have HNX:Hid (∀j,j<k+1→YT p q (L.getD j (0,0,0,0))=false):=fun j hj=>by
     by_cases e:j=k
     ·subst e;rw [HXX.out];exact hin
     ·exact HAL.out j (by omega)
    go_wp2_with fail
    refine(NP x p q _).mono ?_;rintro e w1 ⟨rfl,hb⟩;rw [hin];have B1:=hd (Qc (BL.out.alloc BL.out.size _) hb);clear hb;go_wp2_with fail
    go_roundw
    case rel=>exact⟨k+1,by omega,by go_num,HNX.out,B1.out⟩
    case measure=>simp [intOf];omega
   ·have HT:Hid (L.any (YT p q)=true):=Qn3 HKL.out (by rw [HXX.out];exact hin);go_wp2_with fail
    refine(NP x p q _).mono ?_;rintro e w1 ⟨rfl,hb⟩;rw [hin];have B1:=hd (Qc (BL.out.alloc BL.out.size _) hb);clear hb;go_wp2_with fail
    go_ret;exact⟨Qb HT.out.symm,Qc BX.out B1.out⟩
  ·have h1: ¬(k:Int)<(n:Int):=by omega
   have HT:Hid (L.any (YT p q)=false):=Qqs HRX.out.len (fun j hj=>HAL.out j (by omega));go_wp2_with fail
   go_ret;exact⟨Qb HT.out.symm,Qc BX.out hbel⟩
def leL (C R:Nat→Int) (L:List AR):Nat→List (Int × Int)
 | 0=> []
 | k+1=>leL C R L k++if L.any (YT (C k) (R k))=true then [(C k,R k)]else []
theorem UM (C R:Nat→Int) (L:List AR): ∀k,(leL C R L k).length≤k
 | 0=>Nat.le_refl _
 | k+1=>by have:=UM C R L k;rw [leL,List.length_append];split<;>simp<;>omega
theorem Qjm {C R:Nat→Int} {L:List AR} {k:Nat} (h:L.any (YT (C k) (R k))=false):leL C R L (k+1)=leL C R L k:=by rw [leL,if_neg (by rw [h];decide),List.append_nil]
theorem Qdd {C R:Nat→Int} {L:List AR} {k:Nat} (h:L.any (YT (C k) (R k))=true):leL C R L (k+1)=leL C R L k++ [(C k,R k)]:=by rw [leL,if_pos h]
theorem Hs {A A':Option Addr} {n cap m cap':Nat} {C R:Nat→Int} {S:Nat→ByteArray} {L:List AR} (w:World) (h:ClRow w A n C R S) (h':ArR w A' m L) (hn:n≤120):
  Calls Tryz.prog 75 #[.slice A n cap,.slice A' m cap'] w fun e w'=> ∃F z c,e= .returned (.slice F z c)∧(leL C R L n).length=z∧w'.ownsRow w.heap.size 26 2 (.slice F z c) z (QC rfL (leL C R L n))∧Below w.heap.size w w':=by
 have HR:Hid (ClRow w A n C R S):=h;have HA:Hid (ArR w A' m L):=h';clear h h';go_enter Tryz.func75,Tryz.ntmps75;go_wp2_with fail
 go_loopw [5,10] (fun v i wr=> ∃(k:Nat) (F:Option Addr) (z c:Nat),k≤n∧v= .slice F z c∧(leL C R L k).length=z∧i= .int .i64 k∧wr.ownsRow w.heap.size 26 2 (.slice F z c) z (QC rfL (leL C R L k))∧Below w.heap.size w wr) (fun _ i _=>n-(intOf i).toNat)
 case atStart=>exact⟨0,none,0,0,Nat.zero_le _,rfl,rfl,rfl,World.ownsRow_nil _ _ _ _,Below.refl _ _⟩
 case round=>
  obtain⟨k,F,z,c,hk,rfl,hzl,rfl,hown,hbel⟩:=hrel;have OW:Hid (wr.ownsRow w.heap.size 26 2 (.slice F z c) z (QC rfL (leL C R L k))):=hown;have HZL:Hid ((leL C R L k).length=z):=hzl;have hz120:z≤120:=by rw [←hzl];exact Nat.le_trans (UM C R L k) (by omega)
  have BL:Hid (Below w.heap.size w wr):=hbel;clear hown hzl;by_cases hlt:k<n
  ·obtain⟨b,o,rfl,hl,c0,c1,c2,_⟩:=HR.out.2 k hlt;rw [←hbel.cell (p:=⟨_,_,none⟩) hl]at c0 c1 c2;have hl2:b<wr.heap.size:=Nat.lt_of_lt_of_le hl hbel.size;have h0:(0:Int)≤(k:Int):=by omega
   have h1:(k:Int)<(n:Int):=by omega
   clear hbel;go_upto_region 5 with fail
   obtain⟨X,HX⟩: ∃X,Hid (wr.alloc (.cells #[.int .i64 (C k),.int .i64 (R k),.string (S k)] 55)=X):=⟨_,rfl⟩;rw [HX.out];have x0:X.cell? ⟨wr.heap.size,0,none⟩=some (.int .i64 (C k)):=by rw [←HX.out];simp
   have x1:X.cell? ⟨wr.heap.size,1,none⟩=some (.int .i64 (R k)):=by rw [←HX.out];simp
   have xl:wr.heap.size<X.heap.size:=by rw [←HX.out];simp
   have BX:Hid (Below w.heap.size w X):=by show Below _ _ _;rw [←HX.out];exact BL.out.alloc BL.out.size _
   have OX:Hid (X.ownsRow w.heap.size 26 2 (.slice F z c) z (QC rfL (leL C R L k))):=by show World.ownsRow _ _ _ _ _ _ _;rw [←HX.out];exact OW.out.alloc _
   clear HX c0 c1 c2 OW BL;go_wp2_with fail
   refine(Bz (C k) (R k) _ (HA.out.below BX.out)).mono ?_;rintro e u ⟨rfl,hb⟩;replace x0:=(hb.cell (p:=⟨wr.heap.size,0,none⟩) xl).trans x0;replace x1:=(hb.cell (p:=⟨wr.heap.size,1,none⟩) xl).trans x1;have xl2:=Nat.lt_of_lt_of_le xl hb.size;have BU:=hd (Qc BX.out hb);have OU:=hd (Qi OX.out hb)
   clear hb OX BX;cases hin:L.any (YT (C k) (R k))
   ·have HE:Hid (leL C R L (k+1)=leL C R L k):=Qjm hin;clear hin;go_wp2_with fail
    go_roundw
    case rel=>exact⟨k+1,F,z,c,by omega,rfl,by rw [HE.out];exact HZL.out,by go_num,by rw [HE.out];exact OU.out,BU.out⟩
    case measure=>simp [intOf];omega
   ·have HE:Hid (leL C R L (k+1)=leL C R L k++ [(C k,R k)]):=Qdd hin;have hus:=BU.out.size;clear hin
    go_wp2_with (first
     | (at_builtin;refine Vp rfl _ _ rfl w.heap.size (.slice F z c) z (leL C R L k) rfl (OU.out.alloc _) (C k,R k) u.heap.size rfl (by simp [go_sem]) (by simp [go_sem]) (by omega) (by simp;omega) ?_)
     | fail)
    intro v2 w2 ho hg;have B2:Hid (Below w.heap.size w w2):=(BU.out.alloc hus _).grown hg (by simp;omega) (fun j hj=>(OU.out.lt j hj).1);obtain⟨F2,c2,rfl,_,_⟩:=Qu ho;have O2:Hid (w2.ownsRow w.heap.size 26 2 (.slice F2 (z+1) c2) (z+1) (QC rfL (leL C R L (k+1)))):=by rw [HE.out];exact ho
    clear ho hg;go_wp2_with fail
    go_roundw
    case rel=>exact⟨k+1,F2,z+1,c2,by omega,rfl,by rw [HE.out,List.length_append,HZL.out];rfl,by go_num,O2.out,B2.out⟩
    case measure=>simp [intOf];omega
  ·have h1: ¬(k:Int)<(n:Int):=by omega
   obtain rfl:k=n:=by omega
   go_wp2_with fail
   go_ret;exact⟨F,z,c,rfl,HZL.out,OW.out,hbel⟩
def lnF (s:ByteArray):Option (List FN):=if eqH s=true then rdF (JZ s)else none
def lnA (s:ByteArray):List AR:=match lnF s with
 | some o=>arA (ouF o) o.length
 | none=> []
theorem Qdr {s:ByteArray} (hs:s.size≤200):(JZ s).size≤maxLen:=by
 unfold JZ maxLen;split
 ·simp;omega
 ·omega
theorem Vj {s:ByteArray} {o:List FN} (h:rdF s=some o):o.length≤60∧ ∀i,i<o.length→(ouF o i).cs.size≤maxLen∧(ouF o i).kids.length≤1048576:=by
 obtain⟨h1,_,_⟩:=Ml h;refine⟨ZQ h1,fun i hi=> ?_⟩;obtain⟨h2,h3⟩:=YS (JR h1 i hi);unfold maxLen;exact⟨by omega,by omega⟩
def Qkd (s:ByteArray) (w:World) (e:Ending) (w':World):Prop:=
 Below w.heap.size w w'∧((lnF s=none∧e= .returned (.tuple #[.slice none 0 0,.bool false]))∨ ∃o A c,lnF s=some o∧rdF (JZ s)=some o∧e= .returned (.tuple #[.slice A o.length c,.bool true])∧FnRow w' A o.length (ouF o))
theorem Ui (s:ByteArray) (w:World) (hs:s.size≤200) (hg:GI w):Calls Tryz.prog 73 #[.string s] w (Qkd s w):=by
 have HG:Hid (GI w):=hg;clear hg;cases he:eqH s
 ·have HE:Hid (eqH s=false):=he;have HN:Hid (lnF s=none):=by show _=_;unfold lnF;rw [he];rfl
  clear he;go_enter Tryz.func73,Tryz.ntmps73;go_wp2_with fail
  refine(Mp s _ (by omega)).mono ?_;rintro e w1 ⟨rfl,hw1⟩;obtain rfl:=hw1.symm;rw [HE.out];go_wp2_with fail
  refine bodyPost_ret (v:= .tuple #[.slice none 0 0,.bool false]) ?_ rfl ⟨Below.refl _ _,Or.inl ⟨HN.out,rfl⟩⟩;simp (maxDischargeDepth:=9) [results,Tryz.results73,go_sem, *]
 ·have HE:Hid (eqH s=true):=he;have HN:Hid (lnF s=rdF (JZ s)):=by show _=_;unfold lnF;rw [he,if_pos rfl]
  have HC:Hid ((JZ s).size≤maxLen):=Qdr hs;clear he;obtain⟨t,HT⟩: ∃t,Hid (JZ s=t):=⟨_,rfl⟩;rw [HT.out]at HN HC;go_enter Tryz.func73,Tryz.ntmps73;go_wp2_with fail
  refine(Mp s _ (by omega)).mono ?_;rintro e w1 ⟨rfl,hw1⟩;obtain rfl:=hw1.symm;rw [HE.out,HT.out];go_wp2_with fail
  refine(XI t _ HC.out HG.out).mono ?_;rintro e w2 ⟨hb,h⟩;have B2:Hid (Below w.heap.size w w2):=hb;rcases h with⟨h1,rfl⟩ | ⟨o,v,ys,h1,rfl,ho,hp,_⟩
  ·have H1:Hid (rdF t=none):=h1;clear h1 hb;go_wp2_with fail
   refine bodyPost_ret (v:= .tuple #[.slice none 0 0,.bool false]) ?_ rfl ⟨B2.out,Or.inl ⟨HN.out.trans H1.out,rfl⟩⟩;simp (maxDischargeDepth:=9) [results,Tryz.results73,go_sem, *]
  ·obtain⟨A,c,rfl,hfr⟩:=YM ho hp (fun i hi=>((Vj h1).2 i hi).1);have H1:Hid (rdF t=some o):=h1;have HFR:Hid (FnRow w2 A o.length (ouF o)):=hfr;clear h1 hb ho hp hfr;go_wp2_with fail
   refine bodyPost_ret (v:= .tuple #[.slice A o.length c,.bool true]) ?_ rfl ⟨B2.out,Or.inr ⟨o,A,c,HN.out.trans H1.out,by rw [HT.out];exact H1.out,rfl,HFR.out⟩⟩;simp (maxDischargeDepth:=9) [results,Tryz.results73,go_sem, *]
theorem Ub (s:ByteArray) (w:World) (hs:s.size≤200):Calls Tryz.prog 119 #[.string s] w (Qkd s w):=by
 by_cases h0:0<s.size
 rotate_left
 ·have HN:Hid (lnF s=none):=by show _=_;unfold lnF eqH;rw [dif_neg h0];rfl
  obtain rfl:=Ze (s:=s) (by omega);go_enter Tryz.func119,Tryz.ntmps119;go_wp2_with fail
  refine bodyPost_ret (v:= .tuple #[.slice none 0 0,.bool false]) ?_ rfl ⟨Below.refl _ _,Or.inl ⟨HN.out,rfl⟩⟩;simp (maxDischargeDepth:=9) [results,Tryz.results119,go_sem, *]
 have hne:s.toList.isEmpty=false:=by
  rw [ByteArray.toList_eq,List.isEmpty_eq_false_iff];intro h;have h9:s.size=s.data.toList.length:=by simp
  rw [h]at h9;simp only [List.length_nil]at h9;omega
 have q0:(0:Int)<(s.size:Int):=by omega
 by_cases h61:s[0]=61
 rotate_left
 ·have HN:Hid (lnF s=none):=by show _=_;unfold lnF eqH;rw [dif_pos h0,if_neg];simpa using h61
  have hb:((s[0].toNat:Int)==61)=false:=by
   have: ¬(s[0].toNat:Int)=61:=fun e=>h61 (UInt8.toNat_inj.1 (by have:(61:UInt8).toNat=61:=rfl;omega));simpa using this
  go_enter Tryz.func119,Tryz.ntmps119;go_wp2_with fail
  refine bodyPost_ret (v:= .tuple #[.slice none 0 0,.bool false]) ?_ rfl ⟨Below.refl _ _,Or.inl ⟨HN.out,rfl⟩⟩;simp (maxDischargeDepth:=9) [results,Tryz.results119,go_sem, *]
 have he:eqH s=true:=by unfold eqH;rw [dif_pos h0,h61];rfl
 have HC:Hid (JZ s=s.extract 1 s.size):=by show _=_;unfold JZ;rw [if_pos he]
 have HN:Hid (lnF s=rdF (s.extract 1 s.size)):=by show _=_;unfold lnF;rw [he,if_pos rfl,HC.out]
 have HZ:Hid ((s.extract 1 s.size).size≤maxLen):=by rw [←HC.out];exact Qdr hs
 have hb:(s[0].toNat:Int)=61:=by rw [h61];rfl
 have q1:(1:Int)≤(s.size:Int):=by omega
 clear he h61;go_enter Tryz.func119,Tryz.ntmps119;go_wp2_with fail
 refine(Xx (s.extract 1 s.size) _ HZ.out).mono ?_;rintro e w2 ⟨hb2,h⟩;have B2:Hid (Below w.heap.size w w2):=hb2;rcases h with⟨h1,rfl⟩ | ⟨o,v,ys,h1,rfl,ho,hp⟩
 ·have H1:Hid (rdF (s.extract 1 s.size)=none):=h1;clear h1 hb2;go_wp2_with fail
  refine bodyPost_ret (v:= .tuple #[.slice none 0 0,.bool false]) ?_ rfl ⟨B2.out,Or.inl ⟨HN.out.trans H1.out,rfl⟩⟩;simp (maxDischargeDepth:=9) [results,Tryz.results119,go_sem, *]
 ·obtain⟨A,c,rfl,hfr⟩:=YM ho hp (fun i hi=>((Vj h1).2 i hi).1);have H1:Hid (rdF (s.extract 1 s.size)=some o):=h1;have HFR:Hid (FnRow w2 A o.length (ouF o)):=hfr;clear h1 hb2 ho hp hfr;go_wp2_with fail
  refine bodyPost_ret (v:= .tuple #[.slice A o.length c,.bool true]) ?_ rfl ⟨B2.out,Or.inr ⟨o,A,c,HN.out.trans H1.out,by rw [HC.out];exact H1.out,rfl,HFR.out⟩⟩;simp (maxDischargeDepth:=9) [results,Tryz.results119,go_sem, *]
theorem Ki {W:World} {B g:Nat} {e:TypeId} {size:Nat} (hB:B≤W.heap.size) (hg:g=W.heap.size):(W.alloc (.cells #[] e)).ownsRow B e size (.slice (some ⟨g,0,none⟩) 0 0) 0 []:=by
 subst hg;exact World.ownsRow_made W #[] 0 hB (Nat.zero_le _) (by simp)
theorem Oh (s:ByteArray) (w:World) (hs:s.size≤200):Calls Tryz.prog 79 #[.string s] w fun e w'=>
  ∃A m c,e= .returned (.slice A m c)∧(lnA s).length=m∧w'.ownsRow w.heap.size 118 4 (.slice A m c) m (QC arC (lnA s))∧m≤60∧Below w.heap.size w w':=by
 go_enter Tryz.func79,Tryz.ntmps79;go_wp2_with fail
 refine(Ub s _ hs).mono ?_;rintro e w1 ⟨hb,h⟩;have B1:Hid (Below w.heap.size w w1):=hb;rcases h with⟨h1,rfl⟩ | ⟨o,A,c,h1,h2,rfl,hfr⟩
 ·have HE:Hid (lnA s= []):=by show _=_;unfold lnA;rw [h1]
  clear h1 hb;go_wp2_with fail
  go_ret;refine⟨some ⟨w1.heap.size,0,none⟩,0,0,rfl,by rw [HE.out];rfl,?_,Nat.zero_le _,B1.out.alloc B1.out.size _⟩;rw [HE.out];exact Ki B1.out.size rfl
 ·obtain⟨hl60,hsm⟩:=Vj h2;have HE:Hid (lnA s=arA (ouF o) o.length):=by show _=_;unfold lnA;rw [h1]
  have HFR:Hid (FnRow w1 A o.length (ouF o)):=hfr;have HSM:Hid (∀i,i<o.length→(ouF o i).cs.size≤maxLen∧(ouF o i).kids.length≤1048576):=hsm;clear h1 h2 hb hfr hsm;go_wp2_with fail
  refine(Om _ HFR.out (by omega) (fun i hi=>(HSM.out i hi).2)).mono ?_;rintro e w2 ⟨v,rfl,ho,hb⟩;obtain⟨G,d,rfl,_,_⟩:=Qu ho;obtain⟨e1,e2⟩:=Qaj (ouF o) o.length;rw [←e1]at ho;have HAR:=hd (ZP ho B1.out.size);have HM:Hid ((arA (ouF o) o.length).length=NY (ouF o) o.length):=e2
  have B2:=hd (Qc B1.out hb);clear e1 e2 ho hb;go_wp2_with fail
  go_ret;exact⟨G,_,d,rfl,by rw [HE.out];exact HM.out,by rw [HE.out];exact HAR.out,Qn0 _ _,B2.out⟩
theorem Qm6 {s t:ByteArray} (h:inF s=some t):t.size≤200:=by
 unfold inF at h;split at h
 ·unfold lim at h;split at h
  ·split at h
   ·cases h;assumption
   ·cases h
  ·cases h
 ·cases h
theorem Ql2 {s:ByteArray} (h:Jr s=true):s.size≤200:=by
 unfold Jr at h;split at h
 ·rename_i t ht
  have e1:t.toList=s.toList:=eq_of_beq h
  have e2:t.data.toList.length=s.data.toList.length:=by
   rw [ByteArray.toList_eq,ByteArray.toList_eq]at e1;rw [e1]
  have h8:=Qm6 ht;have e3:t.size=s.size:=by simpa using e2
  omega
 ·cases h
end Go.Proofs.YtejbnnacghbhoaaGreatDoor
