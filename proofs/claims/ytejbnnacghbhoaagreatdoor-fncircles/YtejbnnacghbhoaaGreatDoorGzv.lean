import Derived.Test.YtejbnnacghbhoaaGreatDoorGzt
import Derived.Test.YtejbnnacghbhoaaGreatDoorGzu
import Derived.Test.YtejbnnacghbhoaaGreatDoorGzs
import Derived.WideKeyEntry
import Derived.Test.YtejbnnacghbhoaaGreatDoorMn
set_option linter.unusedSimpArgs false
set_option linter.unusedVariables false
set_option maxHeartbeats 8000000
set_option maxRecDepth 100000
namespace Go.Proofs.YtejbnnacghbhoaaGreatDoor
open Go.RowKit
abbrev PL:=Int × Int
def Rc (G:PL→List PL) (a x:PL):Prop:= ∀T:PL→Prop,(∀y∈G a,T y)→(∀y,T y→ ∀z∈G y,T z)→T x
theorem Rc.base {G:PL→List PL} {a y:PL} (h:y∈G a):Rc G a y:=fun T h1 _=>h1 y h
theorem Rc.step {G:PL→List PL} {a y z:PL} (h:Rc G a y) (hz:z∈G y):Rc G a z:=fun T h1 h2=>h2 y (h T h1 h2) z hz
theorem Rc.trans {G:PL→List PL} {a y x:PL} (hy:y∈G a) (h:Rc G y x):Rc G a x:=fun T h1 h2=>h T (fun z hz=>h2 y (h1 y hy) z hz) h2
def lfP (U l:List PL):Nat:=U.countP (fun x=> !decide (x∈l))
theorem EK {U l:List PL} (x:PL):lfP U (l++ [x])≤lfP U l:=by
 unfold lfP;refine List.countP_mono_left (fun y _ hy=> ?_);simp only [Bool.not_eq_true',decide_eq_false_iff_not]at hy ⊢;exact fun h=>hy (List.mem_append_left _ h)
theorem Qdb {U l:List PL} {x:PL} (hx:x∉l):x∈U→lfP U (l++ [x])+1≤lfP U l:=by
 induction U with
 | nil=>intro h;cases h
 | cons u U ih=>
  intro h;have hm:=EK (U:=U) (l:=l) x;unfold lfP at hm ih ⊢;rw [List.countP_cons,List.countP_cons];by_cases hu:u=x
  ·subst hu;have e1:(!decide (u∈l++ [u]))=false:=by simp
   have e2:(!decide (u∈l))=true:=by simpa using hx
   rw [e1,e2];simp only [Bool.false_eq_true,if_false,if_true];omega
  ·have hU:x∈U:=by
    rcases List.mem_cons.1 h with h | h
    ·exact absurd h.symm hu
    ·exact h
   have e:(!decide (u∈l++ [x]))=(!decide (u∈l)):=by simp [hu]
   rw [e];have:=ih hU;omega
theorem Qmt (U:List PL) (p:PL→Bool):(U.filter p).length+lfP U (U.filter p)≤U.length:=by
 have e:U.length=U.countP p+U.countP (fun a=>decide (¬p a=true)):=List.length_eq_countP_add_countP p
 have h2:lfP U (U.filter p)≤U.countP (fun a=>decide (¬p a=true)):=by
  unfold lfP;refine List.countP_mono_left (fun y hy h=> ?_);simp only [Bool.not_eq_true',decide_eq_false_iff_not,List.mem_filter,not_and]at h;simpa using h hy
 rw [←List.countP_eq_length_filter];omega
def plL (C R:Nat→Int) (k:Nat):List PL:=(List.range k).map fun i=>(C i,R i)
theorem Qg8 (C R:Nat→Int) (k:Nat):plL C R (k+1)=plL C R k++ [(C k,R k)]:=by simp [plL,List.range_succ]
theorem Qct (C R:Nat→Int) (k:Nat):(plL C R k).length=k:=by simp [plL]
theorem Dq (C R:Nat→Int) (L:List AR): ∀k,leL C R L k=(plL C R k).filter (fun x=>L.any (YT x.1 x.2))
 | 0=>rfl
 | k+1=>by
  rw [leL,Dq C R L k,Qg8,List.filter_append];congr 1
  by_cases h:L.any (YT (C k) (R k))=true
  ·simp [h]
  ·simp [h]
theorem Qjn {C R:Nat→Int} {L:List AR} {k:Nat} {x:PL} (h:x∈leL C R L k):x∈plL C R k:=by
 rw [Dq]at h;exact(List.mem_filter.1 h).1
theorem Qhm (C R:Nat→Int) (L:List AR) (k:Nat):(leL C R L k).length+lfP (plL C R k) (leL C R L k)≤k:=by
 rw [Dq];have:=Qmt (plL C R k) (fun x=>L.any (YT x.1 x.2));rwa [Qct]at this
structure Wc (G:PL→List PL) (U:List PL) (n:Nat) (a:PL) (T:List PL) (i:Nat):Prop where
 base: ∀y∈G a,y∈T
 all: ∀y∈T,Rc G a y∧y∈U
 done: ∀j y,j<i→T[j]? =some y→y≠a∧ ∀z∈G y,z∈T
 len:T.length+lfP U T≤n
theorem Wc.start {G:PL→List PL} {U:List PL} {n:Nat} {a:PL} (h1: ∀y∈G a,y∈U) (h2:(G a).length+lfP U (G a)≤n):Wc G U n a (G a) 0:=
 ⟨fun _ h=>h,fun y h=>⟨Rc.base h,h1 y h⟩,fun j y hj=>absurd hj (Nat.not_lt_zero _),h2⟩
theorem Wc.add {G:PL→List PL} {U T:List PL} {n i:Nat} {a x z:PL} (h:Wc G U n a T i) (hx:x∈T) (hz:z∈G x) (hU:z∈U) (hn:z∉T) (hi:i≤T.length):Wc G U n a (T++ [z]) i:=by
 refine⟨fun y hy=>List.mem_append_left _ (h.base y hy),fun y hy=> ?_,fun j y hj e=> ?_,?_⟩
 ·rcases List.mem_append.1 hy with hy | hy
  ·exact h.all y hy
  ·rw [List.mem_singleton.1 hy];exact⟨(h.all x hx).1.step hz,hU⟩
 ·rw [List.getElem?_append_left (by omega)]at e;obtain⟨h1,h2⟩:=h.done j y hj e;exact⟨h1,fun z hz=>List.mem_append_left _ (h2 z hz)⟩
 ·have h1:=Qdb hn hU;have h2:=h.len;rw [List.length_append,List.length_singleton];omega
theorem Wc.next {G:PL→List PL} {U T:List PL} {n i:Nat} {a x:PL} (h:Wc G U n a T i) (hx:T[i]? =some x) (hne:x≠a) (hG: ∀z∈G x,z∈T):Wc G U n a T (i+1):=
 ⟨h.base,h.all,fun j y hj e=>by
  by_cases hji:j=i
  ·subst hji;rw [hx]at e;cases e
   exact⟨hne,hG⟩
  ·exact h.done j y (by omega) e,h.len⟩
theorem Wc.no {G:PL→List PL} {U T:List PL} {n i:Nat} {a:PL} (h:Wc G U n a T i) (hi:T.length≤i): ¬Rc G a a:=fun hr=>by
 have hm:a∈T:=hr (fun y=>y∈T) h.base (fun y hy z hz=>by
  obtain⟨j,hj,e⟩:=List.mem_iff_getElem.1 hy
  exact(h.done j y (by omega) (by rw [List.getElem?_eq_getElem hj,e])).2 z hz)
 obtain⟨j,hj,e⟩:=List.mem_iff_getElem.1 hm;exact(h.done j a (by omega) (by rw [List.getElem?_eq_getElem hj,e])).1 rfl
structure Vst (G:PL→List PL) (a:PL) (l l' xs:List PL):Prop where
 mono: ∀y∈l,y∈l'
 row: ∀y∈xs,y∈l'∧y≠a
 shut: ∀x∈l',x∉l→ ∀y∈G x,y∈l'∧y≠a
theorem Vst.nil {G:PL→List PL} {a:PL} (l:List PL):Vst G a l l []:=⟨fun _ h=>h,fun _ h=>(List.not_mem_nil h).elim,fun x h1 h2=>absurd h1 h2⟩
theorem Vst.skip {G:PL→List PL} {a y:PL} {l l1 xs:List PL} (h:Vst G a l l1 xs) (h1:y∈l1) (h2:y≠a):Vst G a l l1 (xs++ [y]):=
 ⟨h.mono,fun z hz=>by
  rcases List.mem_append.1 hz with hz | hz
  ·exact h.row z hz
  ·rw [List.mem_singleton.1 hz];exact⟨h1,h2⟩,h.shut⟩
theorem Vst.step {G:PL→List PL} {a y:PL} {l l1 l2 xs:List PL} (h:Vst G a l l1 xs) (hy:y≠a) (h2:Vst G a (l1++ [y]) l2 (G y)):Vst G a l l2 (xs++ [y]):=by
 have m1: ∀z∈l1,z∈l2:=fun z hz=>h2.mono z (List.mem_append_left _ hz);have my:y∈l2:=h2.mono y (List.mem_append_right _ (List.mem_singleton.2 rfl));refine⟨fun z hz=>m1 z (h.mono z hz),fun z hz=> ?_,fun x hx hl z hz=> ?_⟩
 ·rcases List.mem_append.1 hz with hz | hz
  ·exact⟨m1 z (h.row z hz).1,(h.row z hz).2⟩
  ·rw [List.mem_singleton.1 hz];exact⟨my,hy⟩
 ·by_cases h9:x∈l1
  ·obtain⟨h3,h4⟩:=h.shut x h9 hl z hz;exact⟨m1 z h3,h4⟩
  ·by_cases e:x=y
   ·subst e;exact h2.row z hz
   ·exact h2.shut x hx (fun h8=>by
     rcases List.mem_append.1 h8 with h8 | h8
     ·exact h9 h8
     ·exact e (List.mem_singleton.1 h8)) z hz
theorem Vst.no {G:PL→List PL} {a:PL} {l':List PL} (h:Vst G a [] l' (G a)): ¬Rc G a a:=fun hr=>
 (hr (fun y=>y∈l'∧y≠a) h.row (fun y hy z hz=>h.shut y hy.1 (fun h9=>(List.not_mem_nil h9).elim) z hz)).2 rfl
theorem RfR.kept {W W':World} {A:Option Addr} {n:Nat} {P:List PL} {row:Option Nat} (h:RfR W A n P) (hg:W.grownBy W' row) (hne: ∀b o,A=some ⟨b,o,none⟩→some b≠row):RfR W' A n P:=
 ⟨h.len,h.lim,fun i hi=>by
  obtain⟨b,o,e,hl,c0,c1⟩:=h.at_ i hi
  exact⟨b,o,e,Nat.lt_of_lt_of_le hl hg.size,hg.cell c0 (hne b o e),hg.cell c1 (hne b o e)⟩⟩
theorem Vm {P:List PL} {k:Nat} (hk:k<P.length):P.getD k (0,0)∈P:=by
 rw [List.getD_eq_getElem?_getD,List.getElem?_eq_getElem hk];exact List.getElem_mem _
theorem EP {P:List PL} {k:Nat} (hk:k<P.length):P[k]? =some (P.getD k (0,0)):=by
 rw [List.getD_eq_getElem?_getD,List.getElem?_eq_getElem hk];rfl
theorem GV {ops:Array Oper} {rest:List Oper} {o:Oper} {a:Act} {Q:Exit→Act→World→Prop} {W:World} (hgd:o.guard=none) (s x:Operand) (ho:o.op= .call {callee:= .builtin .append,args:= #[s,x],argTypes:= #[31,31]}) (B:Nat) (v:Value) (n:Nat) (L:List PL) (hs:a.eval s=v)
  (hown:W.ownsRow B 26 2 v n (QC rfL L)) (z:PL) (g:Nat) (hx:a.eval x= .slice (some ⟨g,0,none⟩) 1 1) (h0:W.cell? ⟨g,0,none⟩=some (.int .i64 z.1)) (h1:W.cell? ⟨g,1,none⟩=some (.int .i64 z.2)) (hn:n≤1099511627776) (hB:B≤W.heap.size)
  (h: ∀g' cap w',w'.ownsRow B 26 2 (.slice (some ⟨g',0,none⟩) (n+1) cap) (n+1) (QC rfL (L++ [z]))→W.grownBy w' v.ownBlock→(v.ownBlock=some g'∨g'=W.heap.size)→wpList Tryz.prog ops Q rest (a.put o.dst (.slice (some ⟨g',0,none⟩) (n+1) cap)) w'):wpList Tryz.prog ops Q (o::rest) a W:=by
 obtain⟨i0,hi,iz0,iz1,iz2⟩:=info_parts Qjs;refine wpList_append_lies W hgd s x 31 ho B 26 i0 (.agg #[.int .i64 0,.int .i64 0]) 2 16 Tryz.underlying31 hi iz0 iz1 iz2 rfl (by decide) v n _ hs hown ⟨g,0,none⟩ 1 1 (rfL z) hx rfl ?_ ?_ (by decide) ?_ ?_ hB _ rfl ?_
 ·intro q u hq;match q,hq with
  | 0,hq=>simp [rfL]at hq;subst hq;simpa [Addr.add]using h0
  | 1,hq=>simp [rfL]at hq;subst hq;simpa [Addr.add]using h1
 ·intro u hu;simp [rfL]at hu;rcases hu with rfl | rfl<;>rfl
 ·unfold maxLen;omega
 ·omega
 ·intro g' cap w3 hown' hgrow hl _;refine h g' cap w3 ?_ hgrow hl;rw [Vn];exact hown'
theorem Qay {A:Option Addr} {n cap:Nat} {P:List PL} (p q:Int) (w:World) (h:RfR w A n P):
  Calls Tryz.prog 78 #[.slice A n cap,.agg #[.int .i64 p,.int .i64 q]] w fun e w'=>e= .returned (.bool (decide ((p,q)∈P)))∧Below w.heap.size w w':=by
 have HR:Hid (RfR w A n P):=h;have hn:=h.lim;unfold maxLen at hn;clear h;go_enter Tryz.func78,Tryz.ntmps78;go_wp2_with fail
 obtain⟨X,HX⟩: ∃X,Hid (w.alloc (.cells #[.int .i64 p,.int .i64 q] 26)=X):=⟨_,rfl⟩;rw [HX.out];have x0:X.cell? ⟨w.heap.size,0,none⟩=some (.int .i64 p):=by rw [←HX.out];simp
 have x1:X.cell? ⟨w.heap.size,1,none⟩=some (.int .i64 q):=by rw [←HX.out];simp
 have xl:w.heap.size<X.heap.size:=by rw [←HX.out];simp
 have BX:Hid (Below w.heap.size w X):=by show Below _ _ _;rw [←HX.out];exact(Below.refl _ _).alloc (Nat.le_refl _) _
 have HRX:=hd (HR.out.below BX.out);clear HX;go_loopw [5] (fun i wr=> ∃k:Nat,k≤n∧i= .int .i64 k∧(∀j,j<k→P.getD j (0,0)≠(p,q))∧Below X.heap.size X wr) (fun i _=>n-(intOf i).toNat)
 case atStart=>exact⟨0,Nat.zero_le _,rfl,fun j hj=>absurd hj (Nat.not_lt_zero _),Below.refl _ _⟩
 case round=>
  obtain⟨k,hk,rfl,hall,hbel⟩:=hrel;have HAL:Hid (∀j,j<k→P.getD j (0,0)≠(p,q)):=hall;have BL:Hid (Below X.heap.size X wr):=hbel;replace x0:=(hbel.cell (p:=⟨w.heap.size,0,none⟩) xl).trans x0;replace x1:=(hbel.cell (p:=⟨w.heap.size,1,none⟩) xl).trans x1;have xlw:=Nat.lt_of_lt_of_le xl hbel.size;clear hall
  by_cases hlt:k<n
  ·obtain⟨b,o,rfl,hl,c0,c1⟩:=HRX.out.at_ k hlt;rw [←hbel.cell (p:=⟨_,_,none⟩) hl]at c0 c1;have h0:(0:Int)≤(k:Int):=by omega
   have h1:(k:Int)<(n:Int):=by omega
   have HME:Hid (P.getD k (0,0)∈P):=Vm (by rw [HRX.out.len];exact hlt);obtain⟨x,HX⟩: ∃x,Hid (P.getD k (0,0)=x):=⟨_,rfl⟩;rw [HX.out]at c0 c1 HME;obtain⟨a1,a2⟩:=x;simp only at c0 c1;by_cases e1:a1=p
   ·by_cases e2:a2=q
    ·subst e1 e2;have HT:Hid (decide ((a1,a2)∈P)=true):=decide_eq_true HME.out;go_wp2_with fail
     go_region
     all_goals go_wp2_with fail
     all_goals
      go_ret;exact⟨Qb HT.out.symm,Qc BX.out (Qc BL.out (by go_grown))⟩
    ·have HNX:Hid (∀j,j<k+1→P.getD j (0,0)≠(p,q)):=fun j hj=>by
      by_cases e:j=k
      ·subst e;rw [HX.out];exact fun e=>e2 (congrArg Prod.snd e)
      ·exact HAL.out j (by omega)
     subst e1;have hne:(a2==q)=false:=by simpa using e2
     go_wp2_with fail
     go_region
     all_goals go_wp2_with fail
     all_goals
      go_roundw
      case rel=>exact⟨k+1,by omega,by go_num,HNX.out,Qc BL.out (by go_grown)⟩
      case measure=>simp [intOf];omega
   ·have HNX:Hid (∀j,j<k+1→P.getD j (0,0)≠(p,q)):=fun j hj=>by
     by_cases e:j=k
     ·subst e;rw [HX.out];exact fun e=>e1 (congrArg Prod.fst e)
     ·exact HAL.out j (by omega)
    have hne:(a1==p)=false:=by simpa using e1
    go_wp2_with fail
    go_region
    all_goals go_wp2_with fail
    all_goals
     go_roundw
     case rel=>exact⟨k+1,by omega,by go_num,HNX.out,Qc BL.out (by go_grown)⟩
     case measure=>simp [intOf];omega
  ·have h1: ¬(k:Int)<(n:Int):=by omega
   have HT:Hid (decide ((p,q)∈P)=false):=decide_eq_false (fun hm=>by
    obtain⟨j,hj,e⟩:=List.mem_iff_getElem.1 hm;refine HAL.out j (by have:=HRX.out.len;omega) ?_;rw [List.getD_eq_getElem?_getD,List.getElem?_eq_getElem hj]
    exact e)
   go_wp2_with fail
   go_ret;exact⟨Qb HT.out.symm,Qc BX.out hbel⟩
def gL (C R:Nat→Int) (S:Nat→ByteArray) (n:Nat) (x:PL):List PL:=leL C R (lnA (Yy C R S x.1 x.2 n)) n
theorem MH {A:Option Addr} {n cap:Nat} {C R:Nat→Int} {S:Nat→ByteArray} (p q:Int) (r:Bool) (w:World) (h:ClRow w A n C R S) (hok:QD C R S n=true) (hr:r=true↔Rc (gL C R S n) (p,q) (p,q)):
  Calls Tryz.prog 41 #[.slice A n cap,.agg #[.int .i64 p,.int .i64 q]] w fun e w'=>e= .returned (.bool r)∧Below w.heap.size w w':=by
 have HR:Hid (ClRow w A n C R S):=h;obtain⟨hn,hrs⟩:=YO hok;have HRS:Hid (Yv C R n=true):=hrs;have HSZ:Hid (∀p q,(Yy C R S p q n).size≤200):=fun p q=>(Gf hok).2 p q n (Nat.le_refl _);obtain⟨G,HG⟩: ∃G,Hid (gL C R S n=G):=⟨_,rfl⟩;have HGE:Hid (∀x y:Int,leL C R (lnA (Yy C R S x y n)) n=G (x,y)):=fun x y=>by rw [←HG.out];rfl
 have HGU:Hid (∀x,∀y∈G x,y∈plL C R n):=fun x y hy=>by rw [←HG.out]at hy;exact Qjn hy
 have HGL:Hid (∀x,(G x).length+lfP (plL C R n) (G x)≤n):=fun x=>by rw [←HG.out];exact Qhm _ _ _ _
 rw [HG.out]at hr;have HRR:Hid (r=true↔Rc G (p,q) (p,q)):=hr;clear h hok hrs hr;go_enter Tryz.func41,Tryz.ntmps41;go_upto_region 1 with fail
 obtain⟨X,HX⟩: ∃X,Hid (w.alloc (.cells #[.int .i64 p,.int .i64 q] 26)=X):=⟨_,rfl⟩;rw [HX.out];have x0:X.cell? ⟨w.heap.size,0,none⟩=some (.int .i64 p):=by rw [←HX.out];simp
 have x1:X.cell? ⟨w.heap.size,1,none⟩=some (.int .i64 q):=by rw [←HX.out];simp
 have xl:w.heap.size<X.heap.size:=by rw [←HX.out];simp
 have BX:Hid (Below w.heap.size w X):=by show Below _ _ _;rw [←HX.out];exact(Below.refl _ _).alloc (Nat.le_refl _) _
 have HRX:=hd (HR.out.below BX.out);clear HX;go_wp2_with fail
 refine(Jd p q _ HRX.out hn HRS.out (HSZ.out p q)).mono ?_;rintro e w1 ⟨F0,z0,c0',rfl,hz,ho,hb⟩;rw [HGE.out]at hz ho;have O1:Hid (w1.ownsRow X.heap.size 26 2 (.slice F0 z0 c0') z0 (QC rfL (G (p,q)))):=ho;have HZ1:Hid ((G (p,q)).length=z0):=hz;have B1:Hid (Below X.heap.size X w1):=hb;clear ho hz hb
 go_wp2_with fail
 go_loopw [5,6] (fun v i wr=> ∃(T:List PL) (F:Option Addr) (z c k:Nat),v= .slice F z c∧T.length=z∧i= .int .i64 k∧k≤z∧wr.ownsRow X.heap.size 26 2 (.slice F z c) z (QC rfL T)∧Wc G (plL C R n) n (p,q) T k∧Below X.heap.size X wr) (fun _ i _=>n-(intOf i).toNat)
 case atStart=>exact⟨_,F0,z0,c0',0,rfl,HZ1.out,rfl,Nat.zero_le _,O1.out,Wc.start (HGU.out _) (HGL.out _),B1.out⟩
 case round=>
  obtain⟨T,F,z,c,i,rfl,hz,rfl,hi,hown,hwc,hbel⟩:=hrel;have OT:Hid (wr.ownsRow X.heap.size 26 2 (.slice F z c) z (QC rfL T)):=hown;have HZ:Hid (T.length=z):=hz;have HW:Hid (Wc G (plL C R n) n (p,q) T i):=hwc;have BL:Hid (Below X.heap.size X wr):=hbel;have hzn:z≤n:=by have:=hwc.len;omega
  replace x0:=(hbel.cell (p:=⟨w.heap.size,0,none⟩) xl).trans x0;replace x1:=(hbel.cell (p:=⟨w.heap.size,1,none⟩) xl).trans x1;have xlw:=Nat.lt_of_lt_of_le xl hbel.size;clear hown hwc hbel hz;by_cases hlt:i<z
  ·have RT:Hid (RfR wr F z T):=RfR.of_own OT.out HZ.out;obtain⟨b,o,rfl,hl,d0,d1⟩:=RT.out.at_ i hlt;have h0:(0:Int)≤(i:Int):=by omega
   have h1:(i:Int)<(z:Int):=by omega
   have HXM:Hid (T.getD i (0,0)∈T):=Vm (by rw [HZ.out];exact hlt);have HXA:Hid (T[i]? =some (T.getD i (0,0))):=EP (by rw [HZ.out];exact hlt);obtain⟨x,HX⟩: ∃x,Hid (T.getD i (0,0)=x):=⟨_,rfl⟩;rw [HX.out]at d0 d1 HXM HXA;obtain⟨a1,a2⟩:=x;simp only at d0 d1;by_cases he:a1=p∧a2=q
   ·obtain⟨rfl,rfl⟩:=he;have HT:Hid (r=true):=HRR.out.2 (HW.out.all _ HXM.out).1;go_wp2_with fail
    go_region
    all_goals go_wp2_with fail
    all_goals
     go_ret;exact⟨Qb HT.out.symm,Qc BX.out (Qc BL.out (by go_grown))⟩
   ·have HNE:Hid ((a1,a2)≠(p,q)):=fun e=>he ⟨congrArg Prod.fst e,congrArg Prod.snd e⟩;go_upto_region 5 with fail
    go_cut [23]from 12 to 49 (fun v wx=>v= .bool false∧Below wr.heap.size wr wx)
    case first=>
     by_cases e1:a1=p
     ·have hne:(a2==q)=false:=by simpa using fun e=>he ⟨e1,e⟩
      subst e1;go_region
      all_goals go_wp2_with fail
      all_goals go_meet
      all_goals exact⟨rfl,by go_grown⟩
     ·have hne:(a1==p)=false:=by simpa using e1
      go_region
      all_goals go_wp2_with fail
      all_goals go_meet
      all_goals exact⟨rfl,by go_grown⟩
    case rest=>
     obtain⟨rfl,hbx⟩:=hcut;replace d0:=(hbx.cell (p:=⟨b,_,none⟩) hl).trans d0;replace d1:=(hbx.cell (p:=⟨b,_,none⟩) hl).trans d1;have hlc:=Nat.lt_of_lt_of_le hl hbx.size;have OC:=hd (Qi OT.out hbx);have BC:=hd (Qc BL.out hbx);clear hbx RT OT BL hl x0 x1 he xlw
     go_wp2_with fail
     refine(Jd a1 a2 _ (HRX.out.below BC.out) hn HRS.out (HSZ.out a1 a2)).mono ?_;rintro e u ⟨F2,z2,c2,rfl,hz2,ho,hb⟩;rw [HGE.out]at hz2 ho;have RM:Hid (RfR u F2 z2 (G (a1,a2))):=RfR.of_own ho hz2;have HLM:Hid ((G (a1,a2)).length=z2):=hz2;have hz2n:z2≤120:=by have h8:=HGL.out (a1,a2);have h9:=HLM.out;omega
     have HAP:Hid (∀b' o',F2=some ⟨b',o',none⟩→(Value.slice (some ⟨b,o,none⟩) z c).ownBlock≠some b'):=fun b' o' e1 e2=>by
      subst e1;have h8:=(ho.lt b' rfl).1;have h9:=(OC.out.lt b' e2).2;omega
     have OU:=hd (Qi OC.out hb);have BU:=hd (Qc BC.out hb);clear ho hz2 hb OC BC d0 d1 hlc;go_wp2_with fail
     go_loopw [5,8] (fun v k wi=> ∃(T:List PL) (F:Option Addr) (z c j:Nat),v= .slice F z c∧T.length=z∧k= .int .i64 j∧j≤z2∧wi.ownsRow X.heap.size 26 2 (.slice F z c) z (QC rfL T)∧Wc G (plL C R n) n (p,q) T i∧T[i]? =some (a1,a2)∧
      (∀m,m<j→(G (a1,a2)).getD m (0,0)∈T)∧RfR wi F2 z2 (G (a1,a2))∧(∀b' o',F2=some ⟨b',o',none⟩→(Value.slice F z c).ownBlock≠some b')∧Below X.heap.size X wi) (fun _ k _=>z2-(intOf k).toNat)
     case atStart=>exact⟨T,_,z,c,0,rfl,HZ.out,rfl,Nat.zero_le _,OU.out,HW.out,HXA.out,fun m hm=>absurd hm (Nat.not_lt_zero _),RM.out,HAP.out,BU.out⟩
     case round=>
      clear OU RM HAP BU HW HXA HXM HX HZ hzn;obtain⟨T,F,z,c,j,rfl,hz,rfl,hj,hown,hwc,hxa,hpre,hrm,hap,hbel⟩:=hrel;have OT:Hid (wr.ownsRow X.heap.size 26 2 (.slice F z c) z (QC rfL T)):=hown;have HZ:Hid (T.length=z):=hz;have HW:Hid (Wc G (plL C R n) n (p,q) T i):=hwc;have HXA:Hid (T[i]? =some (a1,a2)):=hxa;have HPRE:Hid (∀m,m<j→(G (a1,a2)).getD m (0,0)∈T):=hpre
      have RM:Hid (RfR wr F2 z2 (G (a1,a2))):=hrm;have HAP:Hid (∀b' o',F2=some ⟨b',o',none⟩→(Value.slice F z c).ownBlock≠some b'):=hap;have BL:Hid (Below X.heap.size X wr):=hbel;have hzn:z≤n:=by have:=hwc.len;omega
      have HIZ:Hid (i<z):=by obtain⟨h8,_⟩:=List.getElem?_eq_some_iff.1 hxa;show i<z;omega
      have HXM:Hid ((a1,a2)∈T):=List.mem_of_getElem? hxa;clear hown hz hwc hxa hpre hap hbel;by_cases hlj:j<z2
      ·obtain⟨b2,o2,rfl,hl2,m0,m1⟩:=hrm.at_ j hlj;have j0:(0:Int)≤(j:Int):=by omega
       have j1:(j:Int)<(z2:Int):=by omega
       have HYM:Hid ((G (a1,a2)).getD j (0,0)∈G (a1,a2)):=Vm (by rw [HLM.out];exact hlj);obtain⟨y,HY⟩: ∃y,Hid ((G (a1,a2)).getD j (0,0)=y):=⟨_,rfl⟩;rw [HY.out]at m0 m1 HYM;obtain⟨y1,y2⟩:=y;simp only at m0 m1;clear hrm;go_wp2_with fail
       refine(Qay y1 y2 _ (RfR.of_own OT.out HZ.out)).mono ?_;rintro e v1 ⟨rfl,hb⟩;have OV:=hd (Qi OT.out hb);have RV:=hd (RM.out.below hb);have BV:=hd (Qc BL.out hb);replace m0:=(hb.cell (p:=⟨b2,_,none⟩) hl2).trans m0;replace m1:=(hb.cell (p:=⟨b2,_,none⟩) hl2).trans m1
       replace hl2:=Nat.lt_of_lt_of_le hl2 hb.size;have hvs:=BV.out.size;clear hb OT RM BL;by_cases hin:(y1,y2)∈T
       ·have HPR:Hid (∀m,m<j+1→(G (a1,a2)).getD m (0,0)∈T):=fun m hm=>by
         by_cases e:m=j
         ·subst e;rw [HY.out];exact hin
         ·exact HPRE.out m (by omega)
        rw [decide_eq_true hin];clear hin HPRE;go_wp2_with fail
        go_roundw
        case rel=>exact⟨T,F,z,c,j+1,rfl,HZ.out,by go_num,by omega,OV.out,HW.out,HXA.out,HPR.out,RV.out,HAP.out,BV.out⟩
        case measure=>simp [intOf];omega
       ·have HW2:Hid (Wc G (plL C R n) n (p,q) (T++ [(y1,y2)]) i):=HW.out.add HXM.out HYM.out (HGU.out _ _ HYM.out) hin (by have:=HIZ.out;have:=HZ.out;omega);have HXA2:Hid ((T++ [(y1,y2)])[i]? =some (a1,a2)):=by show _=_;rw [List.getElem?_append_left (by have:=HIZ.out;have:=HZ.out;omega)];exact HXA.out
        have HPR:Hid (∀m,m<j+1→(G (a1,a2)).getD m (0,0)∈T++ [(y1,y2)]):=fun m hm=>by
         by_cases e:m=j
         ·subst e;rw [HY.out];exact List.mem_append_right _ (List.mem_singleton.2 rfl)
         ·exact List.mem_append_left _ (HPRE.out m (by omega))
        rw [decide_eq_false hin];clear hin HPRE HW HXA
        go_wp2_with (first
         | (at_builtin;refine GV rfl _ _ rfl X.heap.size (.slice F z c) z T rfl (OV.out.alloc _) (y1,y2) v1.heap.size rfl (by simp [go_sem]) (by simp [go_sem]) (by omega) (by simp;omega) ?_)
         | fail)
        intro g' cap' w9 ho9 hg9 hl9;have B9:Hid (Below X.heap.size X w9):=(BV.out.alloc hvs _).grown hg9 (by simp;omega) (fun j hj=>(OV.out.lt j hj).1);have O9:Hid (w9.ownsRow X.heap.size 26 2 (.slice (some ⟨g',0,none⟩) (z+1) cap') (z+1) (QC rfL (T++ [(y1,y2)]))):=ho9;have R9:Hid (RfR w9 (some ⟨b2,o2,none⟩) z2 (G (a1,a2))):=(RV.out.below ((Below.refl _ _).alloc (Nat.le_refl _) _)).kept hg9 (fun b' o' e e2=>HAP.out b' o' e e2.symm)
        have HAP9:Hid (∀b' o',(some ⟨b2,o2,none⟩:Option Addr)=some ⟨b',o',none⟩→(Value.slice (some ⟨g',0,none⟩) (z+1) cap').ownBlock≠some b'):=fun b' o' e e2=>by
         have e3:g'=b':=Option.some.inj e2;rcases hl9 with h8 | h8
         ·exact HAP.out b' o' e (by rw [h8,e3])
         ·have e4:b2=b':=congrArg Addr.block (Option.some.inj e)
          (try rw [World.size_alloc]at h8)
          omega
        clear ho9 hg9 hl9 OV RV HAP m0 m1;go_wp2_with fail
        go_roundw
        case rel=>exact⟨_,_,z+1,cap',j+1,rfl,by rw [List.length_append,HZ.out];rfl,by go_num,by omega,O9.out,HW2.out,HXA2.out,HPR.out,R9.out,HAP9.out,B9.out⟩
        case measure=>simp [intOf];omega
      ·have j1: ¬(j:Int)<(z2:Int):=by omega
       obtain rfl:j=z2:=by omega
       have HWN:Hid (Wc G (plL C R n) n (p,q) T (i+1)):=HW.out.next HXA.out HNE.out (fun y hy=>by
        obtain⟨m,hm,e⟩:=List.mem_iff_getElem.1 hy;have h9:=HPRE.out m (by have:=HLM.out;omega);rw [List.getD_eq_getElem?_getD,List.getElem?_eq_getElem hm]at h9;rw [←e]
        exact h9)
       have hiz:=HIZ.out;clear hrm;go_wp2_with fail
       go_roundw
       case rel=>exact⟨T,F,z,c,i+1,rfl,HZ.out,by go_num,by omega,OT.out,HWN.out,BL.out⟩
       case measure=>simp [intOf];omega
  ·have h1: ¬(i:Int)<(z:Int):=by omega
   have HT:Hid (r=false):=by
    cases hr:r with
    | false=>rfl
    | true=>exact absurd (HRR.out.1 hr) (HW.out.no (by have:=HZ.out;omega))
   go_wp2_with fail
   go_ret;exact⟨Qb HT.out.symm,Qc BX.out BL.out⟩
theorem Qi5 {A:Option Addr} {n cap:Nat} {C R:Nat→Int} {S:Nat→ByteArray} (p q:Int) (r:Bool) (w:World) (h:ClRow w A n C R S) (hr:r=true↔QD C R S n=true∧Rc (gL C R S n) (p,q) (p,q)):
  Calls Tryz.prog 10 #[.slice A n cap,.agg #[.int .i64 p,.int .i64 q]] w fun e w'=>e= .returned (.bool r)∧Below w.heap.size w w':=by
 have HR:Hid (ClRow w A n C R S):=h;have HRR:Hid (r=true↔QD C R S n=true∧Rc (gL C R S n) (p,q) (p,q)):=hr;clear h hr;go_enter Tryz.func10,Tryz.ntmps10;go_upto_region 1 with fail
 obtain⟨X,HX⟩: ∃X,Hid (w.alloc (.cells #[.int .i64 p,.int .i64 q] 26)=X):=⟨_,rfl⟩;rw [HX.out];have x0:X.cell? ⟨w.heap.size,0,none⟩=some (.int .i64 p):=by rw [←HX.out];simp
 have x1:X.cell? ⟨w.heap.size,1,none⟩=some (.int .i64 q):=by rw [←HX.out];simp
 have xl:w.heap.size<X.heap.size:=by rw [←HX.out];simp
 have BX:Hid (Below w.heap.size w X):=by show Below _ _ _;rw [←HX.out];exact(Below.refl _ _).alloc (Nat.le_refl _) _
 clear HX;go_wp2_with fail
 refine(Jf _ (HR.out.below BX.out)).mono ?_;rintro e w1 ⟨rfl,hb⟩;have B1:=hd (Qc BX.out hb);replace x0:=(hb.cell (p:=⟨w.heap.size,0,none⟩) xl).trans x0;replace x1:=(hb.cell (p:=⟨w.heap.size,1,none⟩) xl).trans x1;replace xl:=Nat.lt_of_lt_of_le xl hb.size;clear hb BX
 cases hok:QD C R S n
 ·have HT:Hid (r=false):=by
   cases hr:r with
   | false=>rfl
   | true=>have:=(HRR.out.1 hr).1;rw [hok]at this;cases this
  clear hok;go_wp2_with fail
  go_ret;exact⟨Qb HT.out.symm,B1.out⟩
 ·have HC:Hid (r=true↔Rc (gL C R S n) (p,q) (p,q)):=⟨fun h=>(HRR.out.1 h).2,fun h=>HRR.out.2 ⟨hok,h⟩⟩;have HOK:Hid (QD C R S n=true):=hok;clear hok;go_wp2_with fail
  refine(MH p q r _ (HR.out.below B1.out) HOK.out HC.out).mono ?_;rintro e w2 ⟨rfl,hb⟩;have B2:=hd (Qc B1.out hb);clear hb;go_wp2_with fail
  go_ret;exact⟨rfl,B2.out⟩
end Go.Proofs.YtejbnnacghbhoaaGreatDoor
namespace Go.Proofs.YtejbnnacghbhoaaGreatDoor
open Go.RowKit Go.Maps
open Go.ChangeMaps (setBlock)
theorem Qpr:WideMaps.KeyLaw Tryz.prog 26:=deep_law_laid Qde (m:=2) (by omega) Qb2 Qoj Qcc
theorem Qn7 (w:World):(zeroValue 3).run Tryz.prog w= .ok (.int .i64 0) w:=by kernel_rfl
theorem Qbq {H:Type} {P:Program} {w:World} {t k e:TypeId} {R:Value→Option (DataW H × List MemPlace)} {b:Nat} {es:Array MapEntry} {clock:Nat} (K:WideMaps.KeyLaw P k) (ht:P.underlying t=some (.map k e)) {z:Value} (hz: ∀u:World,(zeroValue e).run P u= .ok z u) (hb:w.heap[b]? =some (.map es clock)) (F:WideElems.Fit P k R es clock)
  {key:Value} {kl:Lit} (hkey:keyOf P k key=some kl):
  ∃(v0:Value) (st:Value) (w1:World),(Instr.mapEntry t (.map (some b)) key).run P w= .ok (.tuple #[v0,st]) w1∧(Instr.lookup t (.map (some b)) key false).run P w= .ok v0 w∧(Instr.mapUpdate t (.map (some b)) key v0).run P w= .ok () w1∧
   ∀(val:Value),∃w3,(Instr.entryStore t (.map (some b)) st val).run P w1= .ok () w3∧(Instr.mapUpdate t (.map (some b)) key val).run P w= .ok () w3:=by
 obtain⟨v0,st,es1,clock1,h1,h2,h3⟩:=WideElems.entry_then_store K ht hz hb F hkey;have hset: ∀(o o':Obj),setBlock (setBlock w b o) b o'=setBlock w b o':=fun o o'=>by simp [setBlock]
 have hbk:(setBlock w b (.map es1 clock1)).heap[b]? =some (.map es1 clock1):=ChangeMaps.heap_setBlock_same hb _
 have hst: ∀(val:Value),∃w3,(Instr.entryStore t (.map (some b)) (goInt st) val).run P (setBlock w b (.map es1 clock1))= .ok () w3∧(Instr.mapUpdate t (.map (some b)) key val).run P w= .ok () w3:=fun val=>by
  obtain⟨es',clock',s1,s2⟩:=h3 _ val hbk;exact⟨_,s1,by rw [s2,hset]⟩
 rcases K.find w hkey es.toList F.keys with⟨f1,f2⟩ | ⟨j,e0,f1,f2,f3⟩
 ·have m1:(Instr.mapEntry t (.map (some b)) key).run P w= .ok (.tuple #[z,goInt clock]) (setBlock w b (.map (es.push ⟨key,z,clock⟩) (clock+1))):=by
   simp [Instr.mapEntry,run_underlying ht,MapKept.run_getObj_map hb,K.check w false hkey,f1,hz,MapKept.run_setObj_map _ hb,Result.andThen,setBlock]
  have m2:=h1.symm.trans m1;injection m2 with m3 m4
  obtain rfl:v0=z:=by
   rcases h2 with⟨e9,he9,hk9,_⟩ | ⟨_,h9⟩
   ·exact absurd hk9 (f2 e9 he9)
   ·exact h9
  refine⟨v0,goInt st,_,h1,?_,?_,hst⟩
  ·simp [Instr.lookup,run_underlying ht,MapKept.run_getObj_map hb,K.check w _ hkey,f1,hz,Result.andThen]
  ·rw [m4];simp [Instr.mapUpdate,run_underlying ht,MapKept.run_getObj_map hb,K.check w false hkey,f1,MapKept.run_setObj_map _ hb,Result.andThen,setBlock]
 ·have hj:es[j]? =some e0:=by simpa using f2
  have hsame:es.modify j (fun e=>{e with key:=key})=es:=by
   apply Array.ext';rw [Array.toList_modify,ChangeMaps.modify_eq_set _ _ _ _ f2];have h9:({e0 with key:=key}:MapEntry)=e0:=by rw [←f3]
   rw [h9];exact WideElems.set_self _ _ _ f2
  have hsame2:es.modify j (fun e=>{e with key:=key,val:=e0.val})=es:=by
   apply Array.ext';rw [Array.toList_modify,ChangeMaps.modify_eq_set _ _ _ _ f2];have h9:({e0 with key:=key,val:=e0.val}:MapEntry)=e0:=by rw [←f3]
   rw [h9];exact WideElems.set_self _ _ _ f2
  have m1:(Instr.mapEntry t (.map (some b)) key).run P w= .ok (.tuple #[e0.val,goInt e0.born]) (setBlock w b (.map es clock)):=by
   simp [Instr.mapEntry,run_underlying ht,MapKept.run_getObj_map hb,K.check w false hkey,f1,hj,f3,K.stays w hkey,hsame,MapKept.run_setObj_map _ hb,Result.andThen,setBlock]
  have m2:=h1.symm.trans m1;injection m2 with m3 m4
  obtain rfl:v0=e0.val:=by
   have h9:=congrArg (fun v=>match v with | Value.tuple xs=>xs.toList.head? | _=>none) m3;simpa using h9
  refine⟨e0.val,goInt st,_,h1,?_,?_,hst⟩
  ·simp [Instr.lookup,run_underlying ht,MapKept.run_getObj_map hb,K.check w _ hkey,f1,Result.andThen]
  ·rw [m4];simp [Instr.mapUpdate,run_underlying ht,MapKept.run_getObj_map hb,K.check w false hkey,f1,hj,f3,K.stays w hkey,hsame2,MapKept.run_setObj_map _ hb,Result.andThen,setBlock]
theorem Qfn {H:Type} {P:Program} {w:World} {t k e:TypeId} {b n:Nat} {D:DataW H} (K:WideMaps.KeyLaw P k) (ht:P.underlying t=some (.map k e)) (he:P.underlying e=some (.int .i64)) (hz: ∀u:World,(zeroValue e).run P u= .ok (.int .i64 0) u)
  (hown:w.ownsMap P k (plainElem P e) b n D) (hn:n<maxLen) {key:Value} {kl:Lit} (hkey:keyOf P k key=some kl):
  ∃(c:Int) (st:Value) (w1:World),D.atKey kl (.lit (.int .i64 0))= .lit (.int .i64 c)∧(Instr.lookup t (.map (some b)) key false).run P w= .ok (.int .i64 c) w∧(Instr.mapEntry t (.map (some b)) key).run P w= .ok (.tuple #[.int .i64 c,st]) w1∧w.grownBy w1 (some b)∧
   (Instr.lookup t (.map (some b)) key false).run P w1= .ok (.int .i64 c) w1∧
   ∀v:Int,(Lit.int .i64 v).wf=true→ ∃w3,(Instr.entryStore t (.map (some b)) st (.int .i64 v)).run P w1= .ok () w3∧w3.ownsMap P k (plainElem P e) b (n+1) (D.put kl (.lit (.int .i64 v)))∧w.grownBy w3 (some b):=by
 have K':=Keyed.of_law K;obtain⟨c,hc,hat,hwc⟩:=hown.lookup_int K' ht he (hz w) hkey;have hD:IsMap D:=by obtain⟨es,clock,hb,F,hs,rfl⟩:=hown;exact⟨_,rfl⟩
 obtain⟨v0,st,w1,h1,h2,h3,h4⟩: ∃(v0:Value) (st:Value) (w1:World),(Instr.mapEntry t (.map (some b)) key).run P w= .ok (.tuple #[v0,st]) w1∧(Instr.lookup t (.map (some b)) key false).run P w= .ok v0 w∧(Instr.mapUpdate t (.map (some b)) key v0).run P w= .ok () w1∧
   ∀(val:Value),∃w3,(Instr.entryStore t (.map (some b)) st val).run P w1= .ok () w3∧(Instr.mapUpdate t (.map (some b)) key val).run P w= .ok () w3:=by
  obtain⟨es,clock,hb,F,hs,_⟩:=hown;exact Qbq K ht hz hb F hkey
 have e0:=h2.symm.trans hc;injection e0 with e1 _
 subst e1;obtain⟨u,hu,ho,hg⟩:=hown.update K' ht hn hkey (plainElem_int he hwc);have e2:=h3.symm.trans hu;injection e2 with _ e3
 subst e3;obtain⟨c2,hc2,hat2,_⟩:=ho.lookup_int K' ht he (hz w1) hkey;rw [atKey_put_same hD (K'.key hkey)]at hat2
 have e4:c=c2:=by
  injection hat2 with h9
  injection h9
 subst e4;refine⟨c,st,w1,hat,hc,h1,hg,hc2,fun v hv=> ?_⟩;obtain⟨w3,s1,s2⟩:=h4 (.int .i64 v);obtain⟨u3,hu3,ho3,hg3⟩:=hown.update K' ht hn hkey (plainElem_int he hv);have e5:=s2.symm.trans hu3;injection e5 with _ e6
 subst e6;exact⟨w3,s1,ho3,hg3⟩
def VsM (w:World) (vm t:Nat) (l:List PL):Prop:= ∃D:DataW Value,w.ownsMap Tryz.prog 26 (plainElem Tryz.prog 3) vm t D∧IsMap D∧
 ∀(x y:Int) (kl:Lit),keyOf Tryz.prog 26 (.agg #[.int .i64 x,.int .i64 y])=some kl→ ∃c:Int,D.atKey kl (.lit (.int .i64 0))= .lit (.int .i64 c)∧0≤c∧c≤(t:Int)∧(c=0↔(x,y)∉l)
theorem VsM.kept {w w':World} {vm t:Nat} {l:List PL} {row:Option Nat} (h:VsM w vm t l) (hg:w.grownBy w' row) (hr:some vm≠row):VsM w' vm t l:=by
 obtain⟨D,h1,h2,h3⟩:=h;exact⟨D,h1.kept hg hr,h2,h3⟩
theorem VsM.below {w w':World} {vm t:Nat} {l:List PL} (h:VsM w vm t l) (hb:Below w.heap.size w w'):VsM w' vm t l:=h.kept (row:=none) (Yr none hb) (by simp)
def Jo (l:List PL) (y:PL):List PL:=if y∈l then l else l++ [y]
theorem bump_mem {l:List PL} {y z:PL}:z∈Jo l y↔z∈l∨z=y:=by
 unfold Jo;split
 ·rename_i h
  exact⟨Or.inl,fun h9=>h9.elim id (fun e=>e▸h)⟩
 ·rw [List.mem_append,List.mem_singleton]
theorem VsM.bump {w:World} {vm t:Nat} {l:List PL} (h:VsM w vm t l) (ht:t<1000000) {x y:Int} {kl:Lit} (hk:keyOf Tryz.prog 26 (.agg #[.int .i64 x,.int .i64 y])=some kl):
  ∃(c:Int) (st:Value) (w1 w3:World),(c=0↔(x,y)∉l)∧0≤c∧c≤(t:Int)∧(Instr.lookup 112 (.map (some vm)) (.agg #[.int .i64 x,.int .i64 y]) false).run Tryz.prog w= .ok (.int .i64 c) w∧(Instr.mapEntry 112 (.map (some vm)) (.agg #[.int .i64 x,.int .i64 y])).run Tryz.prog w= .ok (.tuple #[.int .i64 c,st]) w1∧w.grownBy w1 (some vm)∧
   (Instr.lookup 112 (.map (some vm)) (.agg #[.int .i64 x,.int .i64 y]) false).run Tryz.prog w1= .ok (.int .i64 c) w1∧(Instr.entryStore 112 (.map (some vm)) st (.int .i64 (c+1))).run Tryz.prog w1= .ok () w3∧w.grownBy w3 (some vm)∧VsM w3 vm (t+1) (Jo l (x,y))∧
   (Instr.lookup 112 (.map (some vm)) (.agg #[.int .i64 x,.int .i64 y]) false).run Tryz.prog w3= .ok (.int .i64 (c+1)) w3:=by
 obtain⟨D,h1,h2,h3⟩:=h;obtain⟨c,st,w1,e1,r1,r2,g1,r3,r4⟩:=Qfn Qpr Tryz.underlying112 Tryz.underlying3 Qn7 h1 (by unfold maxLen;omega) hk;obtain⟨c',e2,hc0,hct,hcl⟩:=h3 x y kl hk
 have e3:c=c':=by
  rw [e1]at e2;injection e2 with h9
  injection h9
 subst e3;obtain⟨w3,r5,ho,g3⟩:=r4 (c+1) (WalkArith.wf_i64 (by omega));obtain⟨c2,r6,e6,_⟩:=ho.lookup_int keyedRef Tryz.underlying112 Tryz.underlying3 (Qn7 w3) hk;rw [atKey_put_same h2 (keyedRef.key hk)]at e6
 have e7:c+1=c2:=by
  injection e6 with h9
  injection h9
 subst e7;refine⟨c,st,w1,w3,hcl,hc0,hct,r1,r2,g1,r3,r5,g3,⟨_,ho,?_,fun x' y' kl' hk'=> ?_⟩,r6⟩
 ·obtain⟨es,rfl⟩:=h2;exact⟨_,rfl⟩
 ·by_cases e:kl'=kl
  ·subst e;have h9:=keyedRef.inj hk' hk;simp at h9;obtain⟨rfl,rfl⟩:=h9;refine⟨c+1,by rw [atKey_put_same h2 (keyedRef.key hk)],by omega,by omega,fun h8=>absurd h8 (by omega),fun h8=>absurd (bump_mem.2 (Or.inr rfl)) h8⟩
  ·obtain⟨c8,e8,q1,q2,q3⟩:=h3 x' y' kl' hk';refine⟨c8,by rw [atKey_put_other e];exact e8,q1,by omega,?_⟩;rw [q3,bump_mem]
   have hne:(x',y')≠(x,y):=fun h9=>e (by
    injection h9 with a b
    subst a b;rw [hk]at hk'
    exact(Option.some.inj hk').symm)
   exact⟨fun h9 h8=>h8.elim h9 hne,fun h9 h8=>h9 (Or.inl h8)⟩
end Go.Proofs.YtejbnnacghbhoaaGreatDoor
namespace Go.Proofs.YtejbnnacghbhoaaGreatDoor
open Go.RowKit Go.Maps
def LkF (W0:World) (lm:Nat) (G:PL→List PL):Prop:= ∀(x y:Int) (l:Lit),keyOf Tryz.prog 26 (.agg #[.int .i64 x,.int .i64 y])=some l→ ∃v F z c,(∀w',Below W0.heap.size W0 w'→(Instr.lookup 60 (.map (some lm)) (.agg #[.int .i64 x,.int .i64 y]) false).run Tryz.prog w'= .ok v w')∧
 (∀w',(Instr.field 66 v 2).run Tryz.prog w'= .ok (.slice F z c) w')∧RfR W0 F z (G (x,y))
structure CoI (W0:World) (bl bv ba bc lm vm:Nat) (p q:Int) (w:World):Prop where
 cl:w.cell? ⟨bl,0,none⟩=some (.map (some lm))
 cv:w.cell? ⟨bv,0,none⟩=some (.map (some vm))
 c0:w.cell? ⟨ba,0,none⟩=some (.int .i64 p)
 c1:w.cell? ⟨ba,1,none⟩=some (.int .i64 q)
 cn:w.cell? ⟨bc,0,none⟩=some (.func (.func 76) #[] #[.pointer (some ⟨bl,0,none⟩),.pointer (some ⟨bv,0,none⟩),.pointer (some ⟨ba,0,none⟩),.pointer (some ⟨bc,0,none⟩)])
 be:Below W0.heap.size W0 w
theorem cyC {W w':World} {b o:Nat} {x:Value} (hb:Below W.heap.size W w') (c:W.cell? ⟨b,o,none⟩=some x):w'.cell? ⟨b,o,none⟩=some x:=
 (hb.cell (p:=⟨b,o,none⟩) (World.block_lt_of_cell? W ⟨b,o,none⟩ c)).trans c
theorem CoI.below {W0:World} {bl bv ba bc lm vm:Nat} {p q:Int} {w w':World} (h:CoI W0 bl bv ba bc lm vm p q w) (hb:Below w.heap.size w w'):CoI W0 bl bv ba bc lm vm p q w':=
 ⟨cyC hb h.cl,cyC hb h.cv,cyC hb h.c0,cyC hb h.c1,cyC hb h.cn,h.be.trans (hb.mono h.be.size)⟩
theorem ZR {W w':World} {b o vm:Nat} {x:Value} (hg:W.grownBy w' (some vm)) (hne:b≠vm) (c:W.cell? ⟨b,o,none⟩=some x):w'.cell? ⟨b,o,none⟩=some x:=hg.cell c (fun e=>hne (Option.some.inj e))
theorem CoI.grown {W0:World} {bl bv ba bc lm vm:Nat} {p q:Int} {w w':World} (h:CoI W0 bl bv ba bc lm vm p q w) (hg:w.grownBy w' (some vm)) (hl:bl≠vm) (hv:bv≠vm) (ha:ba≠vm) (hc:bc≠vm) (h0:W0.heap.size≤vm):CoI W0 bl bv ba bc lm vm p q w':=
 ⟨ZR hg hl h.cl,ZR hg hv h.cv,ZR hg ha h.c0,ZR hg ha h.c1,ZR hg hc h.cn,h.be.grown hg h.be.size (fun j hj=>by cases hj;exact h0)⟩
def CoP (G:PL→List PL) (U:List PL) (W0:World) (bl bv ba bc lm vm:Nat) (p q x y:Int) (l:List PL) (t:Nat) (e:Ending) (w':World):Prop:= ∃(r:Bool) (l':List PL) (t':Nat),e= .returned (.bool r)∧CoI W0 bl bv ba bc lm vm p q w'∧VsM w' vm t' l'∧lfP U l'≤lfP U l∧t'+121*lfP U l'≤t+121*lfP U l+(G (x,y)).length∧
 (r=true→Rc G (x,y) (p,q))∧(r=false→Vst G (p,q) l l' (G (x,y)))
def CoC (G:PL→List PL) (U:List PL) (W0:World) (bl bv ba bc lm vm:Nat) (p q:Int) (m:Nat):Prop:=
 ∀(w:World) (x y:Int) (l:List PL) (t:Nat),(Lit.int .i64 x).wf=true→(Lit.int .i64 y).wf=true→CoI W0 bl bv ba bc lm vm p q w→VsM w vm t l→lfP U l≤m→t+121*lfP U l+(G (x,y)).length≤100000→
  Calls Tryz.prog 76 #[.agg #[.int .i64 x,.int .i64 y],.pointer (some ⟨bl,0,none⟩),.pointer (some ⟨bv,0,none⟩),.pointer (some ⟨ba,0,none⟩),.pointer (some ⟨bc,0,none⟩)] w (CoP G U W0 bl bv ba bc lm vm p q x y l t)
theorem take_at {xs:List PL} {k:Nat} (hk:k<xs.length):xs.take (k+1)=xs.take k++ [xs.getD k (0,0)]:=by rw [List.take_add_one,EP hk];rfl
theorem Qhl {U l:List PL} (y:PL):lfP U (Jo l y)≤lfP U l:=by
 unfold Jo;split
 ·exact Nat.le_refl _
 ·exact EK y
theorem Qbs {G : PL → List PL} {U : List PL} {W0 : World} {bl bv ba bc lm vm m : Nat} {p q : Int} (hwf : ∀ u ∈ U, (Lit.int .i64 u.1).wf = true ∧ (Lit.int .i64 u.2).wf = true) (hGU : ∀ x, ∀ u ∈ G x, u ∈ U) (hGL : ∀ x, (G x).length ≤ 120)
    (hM : LkF W0 lm G) (hl : bl ≠ vm) (hv : bv ≠ vm) (ha : ba ≠ vm) (hc : bc ≠ vm) (h0 : W0.heap.size ≤ vm) (ih : ∀ m', m' < m → CoC G U W0 bl bv ba bc lm vm p q m') : CoC G U W0 bl bv ba bc lm vm p q m := by
  intro w x y l t hx hy hI hV hm ht;have HWF : Hid (∀ u ∈ U, (Lit.int .i64 u.1).wf = true ∧ (Lit.int .i64 u.2).wf = true) := hwf;have HGU : Hid (∀ x, ∀ u ∈ G x, u ∈ U) := hGU;have HGL : Hid (∀ x, (G x).length ≤ 120) := hGL;have HNE : Hid (bl ≠ vm ∧ bv ≠ vm ∧ ba ≠ vm ∧ bc ≠ vm ∧ W0.heap.size ≤ vm) := ⟨hl, hv, ha, hc, h0⟩;have IH : Hid (∀ m', m' < m → CoC G U W0 bl bv ba bc lm vm p q m') := ih;have HI : Hid (CoI W0 bl bv ba bc lm vm p q w) := hI
  have HV : Hid (VsM w vm t l) := hV;have HMT : Hid (lfP U l ≤ m ∧ t + 121 * lfP U l + (G (x, y)).length ≤ 100000) := ⟨hm, ht⟩;obtain ⟨kx, hkx⟩ := UT x y hx hy;obtain ⟨v0, F, z, c, hrun, hfl, hrf⟩ := hM x y kx hkx;have HM : Hid (LkF W0 lm G) := hM;have HRUN : Hid (∀ w', Below W0.heap.size W0 w' → (Instr.lookup 60 (.map (some lm)) (.agg #[.int .i64 x, .int .i64 y]) false).run Tryz.prog w' = .ok v0 w') := hrun;have HFL : Hid (∀ w', (Instr.field 66 v0 2).run Tryz.prog w' = .ok (.slice F z c) w') := hfl
  have HRF : Hid (RfR W0 F z (G (x, y))) := hrf;have HLZ : Hid ((G (x, y)).length = z) := hrf.len;have hz120 : z ≤ 120 := by rw [← hrf.len]; exact hGL _
  clear hwf hGU hGL hM hl hv ha hc h0 ih hI hV hm ht hrun hfl hrf hkx hx hy;go_enter Tryz.func76, Tryz.ntmps76;go_upto_region 1 with fail
  obtain ⟨X, HX⟩ : ∃ X, Hid (w.alloc (.cells #[.int .i64 x, .int .i64 y] 26) = X) := ⟨_, rfl⟩;rw [HX.out];have x0 : X.cell? ⟨w.heap.size, 0, none⟩ = some (.int .i64 x) := by rw [← HX.out]; simp
  have x1 : X.cell? ⟨w.heap.size, 1, none⟩ = some (.int .i64 y) := by rw [← HX.out]; simp
  have hbX : Below w.heap.size w X := by rw [← HX.out]; exact (Below.refl _ _).alloc (Nat.le_refl _) _
  have IX : Hid (CoI W0 bl bv ba bc lm vm p q X) := HI.out.below hbX;have VX : Hid (VsM X vm t l) := HV.out.below hbX;have cl := IX.out.cl;have lk := HRUN.out X IX.out.be;have fl := HFL.out X;clear HX hbX;go_wp2_with fail
  go_loopw [14] (fun i wr => ∃ (k : Nat) (l1 : List PL) (t1 : Nat), k ≤ z ∧ i = .int .i64 k ∧ CoI W0 bl bv ba bc lm vm p q wr ∧ VsM wr vm t1 l1 ∧ lfP U l1 ≤ lfP U l ∧ t1 + 121 * lfP U l1 + (z - k) ≤ t + 121 * lfP U l + z ∧ Vst G (p, q) l l1 ((G (x, y)).take k)) (fun i _ => z - (intOf i).toNat)
  case atStart => exact ⟨0, l, t, Nat.zero_le _, rfl, IX.out, VX.out, Nat.le_refl _, by omega, Vst.nil _⟩
  case round =>
    clear cl lk fl x0 x1;obtain ⟨k, l1, t1, hk, rfl, hI1, hV1, hle, ht1, hvs⟩ := hrel;have I1 : Hid (CoI W0 bl bv ba bc lm vm p q wr) := hI1;have V1 : Hid (VsM wr vm t1 l1) := hV1;have LT : Hid (lfP U l1 ≤ lfP U l ∧ t1 + 121 * lfP U l1 + (z - k) ≤ t + 121 * lfP U l + z) := ⟨hle, ht1⟩;have VS : Hid (Vst G (p, q) l l1 ((G (x, y)).take k)) := hvs;by_cases hlt : k < z
    · obtain ⟨b, o, rfl, hlb, d0, d1⟩ := HRF.out.at_ k hlt
      rw [← hI1.be.cell (p := ⟨_, _, none⟩) hlb] at d0 d1;have hl2 : b < wr.heap.size := Nat.lt_of_lt_of_le hlb hI1.be.size;have q0 : (0 : Int) ≤ (k : Int) := by omega
      have q1 : (k : Int) < (z : Int) := by omega
      have HYM : Hid ((G (x, y)).getD k (0, 0) ∈ G (x, y)) := Vm (by rw [HLZ.out]; exact hlt);have HTK : Hid ((G (x, y)).take (k + 1) = (G (x, y)).take k ++ [(G (x, y)).getD k (0, 0)]) := take_at (by rw [HLZ.out]; exact hlt);obtain ⟨yy, HY⟩ : ∃ yy, Hid ((G (x, y)).getD k (0, 0) = yy) := ⟨_, rfl⟩;rw [HY.out] at d0 d1 HYM HTK;obtain ⟨y1, y2⟩ := yy;simp only at d0 d1;have HYU : Hid ((y1, y2) ∈ U) := HGU.out _ _ HYM.out
      have HYW : Hid ((Lit.int .i64 y1).wf = true ∧ (Lit.int .i64 y2).wf = true) := HWF.out _ HYU.out;obtain ⟨ky, hky⟩ := UT y1 y2 HYW.out.1 HYW.out.2;have ht9 : t1 < 1000000 := by have h8 := HMT.out.2; have h9 := HLZ.out; omega
      clear hI1 hV1 hle ht1 hvs hlb;go_upto_region 4 with fail
      obtain ⟨g, HGG⟩ : ∃ g, Hid (wr.heap.size = g) := ⟨_, rfl⟩;obtain ⟨Y, HYY⟩ : ∃ Y, Hid (wr.alloc (.cells #[.int .i64 y1, .int .i64 y2] 26) = Y) := ⟨_, rfl⟩;rw [HYY.out, HGG.out];have s1 : Y.cell? ⟨g, 0, none⟩ = some (.int .i64 y1) := by rw [← HYY.out, ← HGG.out]; simp
      have s2 : Y.cell? ⟨g, 1, none⟩ = some (.int .i64 y2) := by rw [← HYY.out, ← HGG.out]; simp
      have hbY : Below wr.heap.size wr Y := by rw [← HYY.out]; exact (Below.refl _ _).alloc (Nat.le_refl _) _
      have IY : Hid (CoI W0 bl bv ba bc lm vm p q Y) := I1.out.below hbY;have VY : Hid (VsM Y vm t1 l1) := V1.out.below hbY
      have HGV : Hid (g ≠ vm) := by
        show g ≠ vm;intro e;obtain ⟨D, hm, _⟩ := V1.out;obtain ⟨es, ck, hb, _⟩ := hm;have := (Array.getElem?_eq_some_iff.1 hb).1;have h9 := HGG.out;omega
      clear HYY hbY I1 V1 d0 d1;have hVd : VsM Y.drew vm t1 l1 := VY.out.below (Below.refl _ _).drew;obtain ⟨cc, st, w1, w3, hcl, hc0, hct, r1, r2, g1, r3, r4, g3, hV3, r5⟩ := hVd.bump ht9 hky;have ID : CoI W0 bl bv ba bc lm vm p q Y.drew := IY.out.below (Below.refl _ _).drew;have s0 : Y.drew.cell? ⟨bv, 0, none⟩ = some (.map (some vm)) := ID.cv;have t0 := ZR g1 HNE.out.2.1 s0;have t1' := ZR g1 HGV.out (show Y.drew.cell? ⟨g, 0, none⟩ = some (.int .i64 y1) from s1)
      have t2 := ZR g1 HGV.out (show Y.drew.cell? ⟨g, 1, none⟩ = some (.int .i64 y2) from s2);have z0 := ZR g3 HNE.out.2.1 s0;have z1 := ZR g3 HGV.out (show Y.drew.cell? ⟨g, 0, none⟩ = some (.int .i64 y1) from s1);have z2 := ZR g3 HGV.out (show Y.drew.cell? ⟨g, 1, none⟩ = some (.int .i64 y2) from s2);have ZI : Hid (CoI W0 bl bv ba bc lm vm p q w3) := ID.grown g3 HNE.out.1 HNE.out.2.1 HNE.out.2.2.1 HNE.out.2.2.2.1 HNE.out.2.2.2.2;have ZV : Hid (VsM w3 vm (t1 + 1) (Jo l1 (y1, y2))) := hV3;have RZ : Hid ((Instr.lookup 112 (.map (some vm)) (.agg #[.int .i64 y1, .int .i64 y2]) false).run Tryz.prog w3 = .ok (.int .i64 (cc + 1)) w3) := r5
      have HCL : Hid (cc = 0 ↔ (y1, y2) ∉ l1) := hcl;have hwr : IntKind.i64.wrap (cc + 1) = cc + 1 := by rw [IntKind.wrap_i64]; omega
      clear hVd hV3 r5 hcl IY VY ID g1 g3;go_cut [23] from 15 to 38 (fun v wx => ∃ w9, wx = w9 ∧ CoI W0 bl bv ba bc lm vm p q w9 ∧ VsM w9 vm (t1 + 1) (Jo l1 (y1, y2)) ∧ w9.cell? ⟨g, 0, none⟩ = some (.int .i64 y1) ∧ w9.cell? ⟨g, 1, none⟩ = some (.int .i64 y2) ∧ (Instr.lookup 112 (.map (some vm)) (.agg #[.int .i64 y1, .int .i64 y2]) false).run Tryz.prog w9 = .ok (.int .i64 (cc + 1)) w9)
      case first =>
        refine wp_region_held_drew (S := fun w' => w'.cell? ⟨bv, 0, none⟩ = some (.map (some vm)) ∧ w'.cell? ⟨g, 0, none⟩ = some (.int .i64 y1) ∧ w'.cell? ⟨g, 1, none⟩ = some (.int .i64 y2)) (by kernel_rfl) ⟨s0, s1, s2⟩ (fun hHeld => ?_);refine tjA 0 ?_ rfl (by kernel_rfl) (by rfl) ?_ ?_;rotate_left
        · (intro wq hSw; obtain ⟨hq0, hq1, hq2⟩ := hSw; go_simp <;> with_reducible rfl)
        try simp only [Act.put, List.getElem_toArray, List.getElem_cons_zero, List.getElem_cons_succ, List.setIfInBounds_toArray, List.set_cons_zero, List.set_cons_succ]
        refine tjA 1 ?_ rfl (by kernel_rfl) (by rfl) ?_ ?_;rotate_left
        · (intro wq hSw; obtain ⟨hq0, hq1, hq2⟩ := hSw; go_simp <;> with_reducible rfl)
        try simp only [Act.put, List.getElem_toArray, List.getElem_cons_zero, List.getElem_cons_succ, List.setIfInBounds_toArray, List.set_cons_zero, List.set_cons_succ]
        refine rqB 2 4 (fun Kq hKq => ?_) (fun Kq hKq => ?_)
        · go_simp
          refine hKq.out _ _ ?_ (fun hHeld => ?_)
          · exact ⟨s0, s1, s2⟩
          clear hKq Kq;try simp only [Act.put, List.getElem_toArray, List.getElem_cons_zero, List.getElem_cons_succ, List.setIfInBounds_toArray, List.set_cons_zero, List.set_cons_succ]
          refine tjA 3 ?_ rfl (by kernel_rfl) (by rfl) ?_ ?_;rotate_left
          · (intro wq hSw; obtain ⟨hq0, hq1, hq2⟩ := hSw; go_simp <;> with_reducible rfl)
          try simp only [Act.put, List.getElem_toArray, List.getElem_cons_zero, List.getElem_cons_succ, List.setIfInBounds_toArray, List.set_cons_zero, List.set_cons_succ]
          refine rqA 4 (fun Kq hKq => ?_);go_simp;refine hKq.out _ _ ?_ (fun hHeld => ?_)
          · exact ⟨t0, t1', t2⟩
          clear hKq Kq;try simp only [Act.put, List.getElem_toArray, List.getElem_cons_zero, List.getElem_cons_succ, List.setIfInBounds_toArray, List.set_cons_zero, List.set_cons_succ]
          refine tjA 5 ?_ rfl (by kernel_rfl) (by rfl) ?_ ?_;rotate_left
          · (intro wq hSw; obtain ⟨hq0, hq1, hq2⟩ := hSw; go_simp <;> with_reducible rfl)
          try simp only [Act.put, List.getElem_toArray, List.getElem_cons_zero, List.getElem_cons_succ, List.setIfInBounds_toArray, List.set_cons_zero, List.set_cons_succ]
          refine rqA 6 (fun Kq hKq => ?_);go_simp;refine hKq.out _ _ ?_ (fun hHeld => ?_)
          · exact ⟨z0, z1, z2⟩
          clear hKq Kq;try simp only [Act.put, List.getElem_toArray, List.getElem_cons_zero, List.getElem_cons_succ, List.setIfInBounds_toArray, List.set_cons_zero, List.set_cons_succ]
          refine wpAnyH_done (by kernel_rfl) ?_ _;go_wp2_with fail
          go_meet;exact ⟨w3, rfl, ZI.out, ZV.out, z1, z2, RZ.out⟩
        · go_simp
          refine hKq.out _ _ ?_ (fun hHeld => ?_)
          · exact ⟨t0, t1', t2⟩
          clear hKq Kq;try simp only [Act.put, List.getElem_toArray, List.getElem_cons_zero, List.getElem_cons_succ, List.setIfInBounds_toArray, List.set_cons_zero, List.set_cons_succ]
          refine tjA 5 ?_ rfl (by kernel_rfl) (by rfl) ?_ ?_;rotate_left
          · (intro wq hSw; obtain ⟨hq0, hq1, hq2⟩ := hSw; go_simp <;> with_reducible rfl)
          try simp only [Act.put, List.getElem_toArray, List.getElem_cons_zero, List.getElem_cons_succ, List.setIfInBounds_toArray, List.set_cons_zero, List.set_cons_succ]
          refine rqA 2 (fun Kq hKq => ?_);go_simp;refine hKq.out _ _ ?_ (fun hHeld => ?_)
          · exact ⟨t0, t1', t2⟩
          clear hKq Kq;try simp only [Act.put, List.getElem_toArray, List.getElem_cons_zero, List.getElem_cons_succ, List.setIfInBounds_toArray, List.set_cons_zero, List.set_cons_succ]
          refine tjA 3 ?_ rfl (by kernel_rfl) (by rfl) ?_ ?_;rotate_left
          · (intro wq hSw; obtain ⟨hq0, hq1, hq2⟩ := hSw; go_simp <;> with_reducible rfl)
          try simp only [Act.put, List.getElem_toArray, List.getElem_cons_zero, List.getElem_cons_succ, List.setIfInBounds_toArray, List.set_cons_zero, List.set_cons_succ]
          refine rqA 6 (fun Kq hKq => ?_);go_simp;refine hKq.out _ _ ?_ (fun hHeld => ?_)
          · exact ⟨z0, z1, z2⟩
          clear hKq Kq;try simp only [Act.put, List.getElem_toArray, List.getElem_cons_zero, List.getElem_cons_succ, List.setIfInBounds_toArray, List.set_cons_zero, List.set_cons_succ]
          refine wpAnyH_done (by kernel_rfl) ?_ _;go_wp2_with fail
          go_meet;exact ⟨w3, rfl, ZI.out, ZV.out, z1, z2, RZ.out⟩
      case rest =>
        obtain ⟨w9, rfl, hI9, hV9, e1, e2, hlk⟩ := hcut;have I9 : Hid (CoI W0 bl bv ba bc lm vm p q wc) := hI9;have V9 : Hid (VsM wc vm (t1 + 1) (Jo l1 (y1, y2))) := hV9;have a0 := hI9.c0;have a1 := hI9.c1;have cv := hI9.cv;have cn := hI9.cn
        clear hI9 hV9 s0 s1 s2 t0 t1' t2 z0 z1 z2 r1 r2 r3 r4 ZI ZV RZ;by_cases he : y1 = p ∧ y2 = q
        · obtain ⟨rfl, rfl⟩ := he
          have HB : Hid (lfP U (Jo l1 (y1, y2)) ≤ lfP U l1) := Qhl _;have HRC : Hid (Rc G (x, y) (y1, y2)) := Rc.base HYM.out;have hq1 : (y1 == y1) = true := by simp
          have hq2 : (y2 == y2) = true := by simp
          go_wp2_with fail
          go_ret;refine ⟨true, Jo l1 (y1, y2), t1 + 1, rfl, I9.out, V9.out, ?_, ?_, fun _ => HRC.out, fun h => (by cases h)⟩
          · have := HB.out; have := LT.out.1; omega
          · have := HB.out; have := LT.out.2; have := HLZ.out; omega
        · have HNQ : Hid ((y1, y2) ≠ (p, q)) := fun e => he ⟨congrArg Prod.fst e, congrArg Prod.snd e⟩
          have hne : (y1 == p && y2 == q) = false := by
            rw [Bool.and_eq_false_iff];by_cases h9 : y1 = p
            · right; simpa using fun e => he ⟨h9, e⟩
            · left; simpa using h9
          clear he;by_cases hin : (y1, y2) ∈ l1
          · have hcn : ((cc + 1) == 1) = false := by
              have h9 : cc ≠ 0 := fun e => (HCL.out.1 e) hin;simp;omega
            have hcn2 : ¬ cc + 1 = 1 := by have h9 : cc ≠ 0 := fun e => (HCL.out.1 e) hin
                                           omega
            have HBE : Hid (Jo l1 (y1, y2) = l1) := by show _ = _; unfold Jo; rw [if_pos hin]
            have VSN : Hid (Vst G (p, q) l l1 ((G (x, y)).take (k + 1))) := by rw [HTK.out]; exact VS.out.skip hin HNQ.out
            have V9' : Hid (VsM wc vm (t1 + 1) l1) := by have h9 := V9.out; rw [HBE.out] at h9; exact h9
            clear hin V9;by_cases h1p : y1 = p
            · have h2q : (y2 == q) = false := by
                simpa using fun e => HNQ.out (by rw [h1p, e])
              subst h1p;go_wp2_with fail
              go_roundw
              case rel => exact ⟨k + 1, l1, t1 + 1, by omega, by go_num, I9.out, V9'.out, LT.out.1, by have := LT.out.2; omega, VSN.out⟩
              case measure => simp [intOf]; omega
            · have h1q : (y1 == p) = false := by simpa using h1p
              go_wp2_with fail
              go_roundw
              case rel => exact ⟨k + 1, l1, t1 + 1, by omega, by go_num, I9.out, V9'.out, LT.out.1, by have := LT.out.2; omega, VSN.out⟩
              case measure => simp [intOf]; omega
          · have hcc : cc = 0 := HCL.out.2 hin
            subst hcc;have HBE : Hid (Jo l1 (y1, y2) = l1 ++ [(y1, y2)]) := by show _ = _; unfold Jo; rw [if_neg hin]
            have HLA : Hid (lfP U (l1 ++ [(y1, y2)]) + 1 ≤ lfP U l1) := Qdb hin HYU.out;have V9' : Hid (VsM wc vm (t1 + 1) (l1 ++ [(y1, y2)])) := by have h9 := V9.out; rw [HBE.out] at h9; exact h9
            have HGY : Hid ((G (y1, y2)).length ≤ 120) := HGL.out _;clear hin V9;go_upto_region 5 with fail
            go_cut [37] from 15 to 38 (fun v wx => ∃ w8 r l4 t4, wx = w8 ∧ v = .bool r ∧ CoI W0 bl bv ba bc lm vm p q w8 ∧ VsM w8 vm t4 l4 ∧ lfP U l4 ≤ lfP U l ∧ t4 + 121 * lfP U l4 + (z - (k + 1)) ≤ t + 121 * lfP U l + z ∧ (r = true → Rc G (x, y) (p, q)) ∧ (r = false → Vst G (p, q) l l4 ((G (x, y)).take (k + 1))))
            case first =>
              by_cases h1p : y1 = p
              · have h2q : (y2 == q) = false := by
                  simpa using fun e => HNQ.out (by rw [h1p, e])
                subst h1p;go_wp2_with fail
                refine (IH.out (lfP U (l1 ++ [(y1, y2)])) (by have := HLA.out; have := LT.out.1; have := HMT.out.1; omega) _ y1 y2 (l1 ++ [(y1, y2)]) (t1 + 1) HYW.out.1 HYW.out.2 I9.out V9'.out (Nat.le_refl _) (by have := HLA.out; have := LT.out.2; have := HMT.out.2; have := HGY.out; have := HLZ.out; omega)).mono ?_;rintro e w8 ⟨r, l4, t4, rfl, i8, v8, f8, b8, c8, d8⟩;have H8 : Hid (CoI W0 bl bv ba bc lm vm y1 q w8 ∧ VsM w8 vm t4 l4 ∧ lfP U l4 ≤ lfP U l ∧ t4 + 121 * lfP U l4 + (z - (k + 1)) ≤ t + 121 * lfP U l + z ∧ (r = true → Rc G (x, y) (y1, q)) ∧ (r = false → Vst G (y1, q) l l4 ((G (x, y)).take (k + 1)))) := ⟨i8, v8, by have := HLA.out; have := LT.out.1; omega, by have := HLA.out; have := LT.out.2; have := HGY.out; omega, fun h => Rc.trans HYM.out (c8 h), fun h => by rw [HTK.out]; exact VS.out.step HNQ.out (d8 h)⟩;clear i8 v8 f8 b8 c8 d8;go_wp2_with fail
                go_meet;exact ⟨w8, r, l4, t4, rfl, rfl, H8.out⟩
              · have h1q : (y1 == p) = false := by simpa using h1p
                go_wp2_with fail
                refine (IH.out (lfP U (l1 ++ [(y1, y2)])) (by have := HLA.out; have := LT.out.1; have := HMT.out.1; omega) _ y1 y2 (l1 ++ [(y1, y2)]) (t1 + 1) HYW.out.1 HYW.out.2 I9.out V9'.out (Nat.le_refl _) (by have := HLA.out; have := LT.out.2; have := HMT.out.2; have := HGY.out; have := HLZ.out; omega)).mono ?_;rintro e w8 ⟨r, l4, t4, rfl, i8, v8, f8, b8, c8, d8⟩;have H8 : Hid (CoI W0 bl bv ba bc lm vm p q w8 ∧ VsM w8 vm t4 l4 ∧ lfP U l4 ≤ lfP U l ∧ t4 + 121 * lfP U l4 + (z - (k + 1)) ≤ t + 121 * lfP U l + z ∧ (r = true → Rc G (x, y) (p, q)) ∧ (r = false → Vst G (p, q) l l4 ((G (x, y)).take (k + 1)))) := ⟨i8, v8, by have := HLA.out; have := LT.out.1; omega, by have := HLA.out; have := LT.out.2; have := HGY.out; omega, fun h => Rc.trans HYM.out (c8 h), fun h => by rw [HTK.out]; exact VS.out.step HNQ.out (d8 h)⟩;clear i8 v8 f8 b8 c8 d8;go_wp2_with fail
                go_meet;exact ⟨w8, r, l4, t4, rfl, rfl, H8.out⟩
            case rest =>
              obtain ⟨w8, r, l4, t4, rfl, rfl, i8, v8, f8, b8, c8, d8⟩ := hcut;have H8 : Hid (CoI W0 bl bv ba bc lm vm p q wc ∧ VsM wc vm t4 l4 ∧ lfP U l4 ≤ lfP U l ∧ t4 + 121 * lfP U l4 + (z - (k + 1)) ≤ t + 121 * lfP U l + z ∧ (r = true → Rc G (x, y) (p, q)) ∧ (r = false → Vst G (p, q) l l4 ((G (x, y)).take (k + 1)))) := ⟨i8, v8, f8, b8, c8, d8⟩;clear i8 v8 f8 b8 c8 d8 a0 a1 cv cn e1 e2 hlk;cases r
              · go_wp2_with fail
                go_roundw
                case rel => exact ⟨k + 1, l4, t4, by omega, by go_num, H8.out.1, H8.out.2.1, H8.out.2.2.1, H8.out.2.2.2.1, H8.out.2.2.2.2.2 rfl⟩
                case measure => simp [intOf]; omega
              · go_wp2_with fail
                go_ret;refine ⟨true, l4, t4, rfl, H8.out.1, H8.out.2.1, H8.out.2.2.1, ?_, fun _ => H8.out.2.2.2.2.1 (by trivial), fun h => (by cases h)⟩;have := H8.out.2.2.2.1; have := HLZ.out; omega
    · have q1 : ¬ (k : Int) < (z : Int) := by omega
      obtain rfl : k = z := by omega
      clear hI1 hV1 hle ht1 hvs;go_wp2_with fail
      go_ret;refine ⟨false, l1, t1, rfl, I1.out, V1.out, LT.out.1, ?_, fun h => (by cases h), fun _ => ?_⟩
      · have := LT.out.2; have := HLZ.out; omega
      · have h9 := VS.out
        rwa [← HLZ.out, List.take_length] at h9
theorem Qfq {G:PL→List PL} {U:List PL} {W0:World} {bl bv ba bc lm vm:Nat} {p q:Int} (hwf: ∀u∈U,(Lit.int .i64 u.1).wf=true∧(Lit.int .i64 u.2).wf=true) (hGU: ∀x,∀u∈G x,u∈U) (hGL: ∀x,(G x).length≤120)
  (hM:LkF W0 lm G) (hl:bl≠vm) (hv:bv≠vm) (ha:ba≠vm) (hc:bc≠vm) (h0:W0.heap.size≤vm) (m:Nat):CoC G U W0 bl bv ba bc lm vm p q m:=by
 induction m using Nat.strongRecOn with
 | _ m ih=>exact Qbs hwf hGU hGL hM hl hv ha hc h0 ih
theorem Qpq (U l:List PL):lfP U l≤U.length:=List.countP_le_length
theorem Uk {G:PL→List PL} {U:List PL} {lm:Nat} (p q:Int) (r:Bool) (w:World) (hM:LkF w lm G) (hwf: ∀u∈U,(Lit.int .i64 u.1).wf=true∧(Lit.int .i64 u.2).wf=true) (hGU: ∀x,∀u∈G x,u∈U) (hGL: ∀x,(G x).length≤120) (hU:U.length≤120)
  (hp:(Lit.int .i64 p).wf=true) (hq:(Lit.int .i64 q).wf=true) (hr:r=true↔Rc G (p,q) (p,q)):
  Calls Tryz.prog 39 #[.map (some lm),.agg #[.int .i64 p,.int .i64 q]] w fun e w'=>e= .returned (.bool r)∧Below w.heap.size w w':=by
 have HM:Hid (LkF w lm G):=hM;have HWF:Hid (∀u∈U,(Lit.int .i64 u.1).wf=true∧(Lit.int .i64 u.2).wf=true):=hwf;have HGU:Hid (∀x,∀u∈G x,u∈U):=hGU;have HGL:Hid (∀x,(G x).length≤120):=hGL;have HU:Hid (U.length≤120):=hU;have HPQ:Hid ((Lit.int .i64 p).wf=true∧(Lit.int .i64 q).wf=true):=⟨hp,hq⟩;have HRR:Hid (r=true↔Rc G (p,q) (p,q)):=hr
 clear hM hwf hGU hGL hU hp hq hr;have hmm:= @run_makeMap Tryz.prog;have hmf: ∀(fn:Fn) (first cap:Array Value) (w:World),(Instr.makeFunc fn first cap).run Tryz.prog w= .ok (.func fn first cap) w:=fun _ _ _ _=>rfl;have hsf: ∀(a:Addr) (fn:Fn) (first cap:Array Value) (w:World),(store a (.func fn first cap)).run Tryz.prog w=stored Tryz.prog w a (.func fn first cap) .plain:=fun a fn first cap w=>run_store Tryz.prog w a _ _ rfl;go_enter Tryz.func39,Tryz.ntmps39;go_wp2_with fail
 obtain⟨X,HX⟩: ∃X,Hid ((((((w.alloc (.cells #[.map (some lm)] 60)).alloc (.cells #[.int .i64 p,.int .i64 q] 26)).alloc (.map #[] 0)).alloc (.cells #[.map (some (w.heap.size+1+1))] 112)).alloc (.cells #[.func (.func 76) #[] #[.pointer (some ⟨w.heap.size,0,none⟩),.pointer (some ⟨w.heap.size+1+1+1,0,none⟩),.pointer (some ⟨w.heap.size+1,0,none⟩),.pointer (some ⟨w.heap.size+1+1+1+1,0,none⟩)]] 62))=X):=⟨_,rfl⟩;rw [HX.out];have HB:Hid (Below w.heap.size w X):=by rw [←HX.out];show Below _ _ _;go_grown
 have HI:Hid (CoI w w.heap.size (w.heap.size+1+1+1) (w.heap.size+1) (w.heap.size+1+1+1+1) lm (w.heap.size+1+1) p q X):=by
  refine⟨?_,?_,?_,?_,?_,HB.out⟩
  ·rw [←HX.out];go_simp
  ·rw [←HX.out];go_simp
  ·rw [←HX.out];go_simp
  ·rw [←HX.out];go_simp
  ·rw [←HX.out];go_simp
 have HE:Hid (VsM X (w.heap.size+1+1) 0 []):=by
  rw [←HX.out];refine⟨.map [],by rw [show w.heap.size+1+1=((w.alloc (.cells #[.map (some lm)] 60)).alloc (.cells #[.int .i64 p,.int .i64 q] 26)).heap.size by simp];exact((World.ownsMap_made ((w.alloc (.cells #[.map (some lm)] 60)).alloc (.cells #[.int .i64 p,.int .i64 q] 26)) _ _ _).alloc _).alloc _,⟨_,rfl⟩,fun x y kl _=>⟨0,rfl,Int.le_refl _,Int.le_refl _,⟨fun _ h=>(List.not_mem_nil h).elim,fun _=>rfl⟩⟩⟩
 clear HX;refine(Qfq HWF.out HGU.out HGL.out HM.out (by omega) (by omega) (by omega) (by omega) (by omega) (lfP U []) X p q [] 0 HPQ.out.1 HPQ.out.2 HI.out HE.out (Nat.le_refl _) (by have h1:=Qpq U [];have h2:=HU.out;have h3:=HGL.out (p,q);omega)).mono ?_;rintro e w1 ⟨b,l1,t1,rfl,hI1,_,_,_,h1,h2⟩
 have HE1:Hid (b=r):=by
  show b=r;cases b with
  | true=>exact(HRR.out.2 (h1 rfl)).symm
  | false=>
   cases hr:r with
   | false=>rfl
   | true=>exact absurd (HRR.out.1 hr) (h2 rfl).no
 have HB1:Hid (Below w.heap.size w w1):=hI1.be;clear hI1 h1 h2 HI HE HB;rw [HE1.out];go_wp2_with fail
 go_ret;exact⟨rfl,HB1.out⟩
theorem Qpn {C R:Nat→Int} {S:Nat→ByteArray} {B n z mb:Nat} {W:World} {D:DataW Value} (hown:W.ownsMap Tryz.prog 26 Gs mb z D) (hs:LnS C R S B W n n D):LkF W mb (gL C R S n):=fun x y l hl=>by
 obtain⟨v,hat,h1,h2⟩:=hs x y l hl
 have hrun: ∀w',Below W.heap.size W w'→(Instr.lookup 60 (.map (some mb)) (.agg #[.int .i64 x,.int .i64 y]) false).run Tryz.prog w'= .ok v w':=fun w' hb=>by
  have ho:w'.ownsMap Tryz.prog 26 Gs mb z D:=hown.kept (Yr none hb) (by simp);obtain⟨u,ps,hr,hu⟩:=ho.lookup keyedRef Tryz.underlying60 (Qi0 w') (rfl:Gs _=some (.held _,[])) hl;rw [hat]at hu;unfold Gs at hu;simp at hu;rw [hu.1]at hr;exact hr
 by_cases hf:lnF (Yy C R S x y n)=none
 ·have hv:=h1 hf;subst hv
  have hE:gL C R S n (x,y)= []:=by
   have hA:lnA (Yy C R S x y n)= []:=by unfold lnA;rw [hf]
   unfold gL;simp only;rw [hA];generalize n=k
   induction k with
   | zero=>rfl
   | succ k ih=>rw [leL,ih];rfl
  exact⟨_,none,0,0,hrun,fun w'=>Qf1 _ _ _ w',by rw [hE];exact⟨rfl,Nat.zero_le _,fun i hi=>absurd hi (Nat.not_lt_zero _)⟩⟩
 ·obtain⟨vn,A,m,c,F,zz,d,rfl,_,_,h3,h4⟩:=h2 hf;exact⟨_,F,zz,d,hrun,fun w'=>Qf1 _ _ _ w',RfR.of_own h4 h3⟩
theorem Qlo {p q:Int} (h:Qg p q=true):(Lit.int .i64 p).wf=true∧(Lit.int .i64 q).wf=true:=by
 have hb:IntKind.i64.min= -9223372036854775808∧IntKind.i64.max=9223372036854775807:=⟨by kernel_rfl,by kernel_rfl⟩;simp only [Qg,Bool.and_eq_true,decide_eq_true_eq]at h;simp only [Lit.wf,hb.1,hb.2,Bool.and_eq_true,decide_eq_true_eq];omega
theorem Qrm {C R:Nat→Int} {S:Nat→ByteArray} {n:Nat} (h:QD C R S n=true): ∀u∈plL C R n,(Lit.int .i64 u.1).wf=true∧(Lit.int .i64 u.2).wf=true:=fun u hu=>by
 obtain⟨i,hi,rfl⟩:=List.mem_map.1 hu;exact Qlo (El (YO h).2 i (List.mem_range.1 hi))
theorem Qjv {A:Option Addr} {n cap:Nat} {C R:Nat→Int} {S:Nat→ByteArray} (p q:Int) (r:Bool) (w:World) (h:ClRow w A n C R S) (hg:GI w) (hp:(Lit.int .i64 p).wf=true) (hq:(Lit.int .i64 q).wf=true) (hr:r=true↔QD C R S n=true∧Rc (gL C R S n) (p,q) (p,q)):
  Calls Tryz.prog 9 #[.slice A n cap,.agg #[.int .i64 p,.int .i64 q]] w fun e w'=>e= .returned (.bool r)∧Below w.heap.size w w':=by
 have HR:Hid (ClRow w A n C R S):=h;have HG:Hid (GI w):=hg;have HPQ:Hid ((Lit.int .i64 p).wf=true∧(Lit.int .i64 q).wf=true):=⟨hp,hq⟩;have HRR:Hid (r=true↔QD C R S n=true∧Rc (gL C R S n) (p,q) (p,q)):=hr;clear h hg hp hq hr;go_enter Tryz.func9,Tryz.ntmps9;go_upto_region 1 with fail
 obtain⟨X,HX⟩: ∃X,Hid (w.alloc (.cells #[.int .i64 p,.int .i64 q] 26)=X):=⟨_,rfl⟩;rw [HX.out];have x0:X.cell? ⟨w.heap.size,0,none⟩=some (.int .i64 p):=by rw [←HX.out];simp
 have x1:X.cell? ⟨w.heap.size,1,none⟩=some (.int .i64 q):=by rw [←HX.out];simp
 have xl:w.heap.size<X.heap.size:=by rw [←HX.out];simp
 have BX:Hid (Below w.heap.size w X):=by show Below _ _ _;rw [←HX.out];exact(Below.refl _ _).alloc (Nat.le_refl _) _
 clear HX;cases hok:QD C R S n
 ·have HT:Hid (r=false):=by
   cases hr:r with
   | false=>rfl
   | true=>have:=(HRR.out.1 hr).1;rw [hok]at this;cases this
  have HOK:Hid (QD C R S n=false):=hok;clear hok;refine wp_region_held_drew (S:=fun w'=>w'.cell? ⟨w.heap.size,0,none⟩=some (.int .i64 p)∧w'.cell? ⟨w.heap.size,1,none⟩=some (.int .i64 q)) (by kernel_rfl) ⟨x0,x1⟩ (fun hHeld=> ?_);have K0:Below X.heap.size X X.drew:=(Below.refl _ _).drew;refine tjA 0 ?_ rfl (by kernel_rfl) (by rfl) ?_ ?_;rotate_left
  ·(intro wq hSw;obtain⟨hq0,hq1⟩:=hSw;go_simp<;>with_reducible rfl)
  try simp only [Act.put,List.getElem_toArray,List.getElem_cons_zero,List.getElem_cons_succ,List.setIfInBounds_toArray,List.set_cons_zero,List.set_cons_succ]
  refine rqA 1 (fun Kq hKq=> ?_);go_simp;refine(Jk X.drew (HR.out.below (Qc BX.out K0)) (HG.out.below (Qc BX.out K0))).mono ?_;rintro e w1 ⟨rfl,hb⟩;rw [HOK.out];replace K0:Below X.heap.size X w1:=Qc K0 hb;refine hKq.out _ _ ?_ (fun hHeld=> ?_)
  ·exact⟨cyC K0 x0,cyC K0 x1⟩
  clear hKq Kq hb;try simp only [Act.put,List.getElem_toArray,List.getElem_cons_zero,List.getElem_cons_succ,List.setIfInBounds_toArray,List.set_cons_zero,List.set_cons_succ]
  refine tjA 2 ?_ rfl (by kernel_rfl) (by rfl) ?_ ?_;rotate_left
  ·(intro wq hSw;obtain⟨hq0,hq1⟩:=hSw;go_simp<;>with_reducible rfl)
  try simp only [Act.put,List.getElem_toArray,List.getElem_cons_zero,List.getElem_cons_succ,List.setIfInBounds_toArray,List.set_cons_zero,List.set_cons_succ]
  refine tnA 3 ?_;refine tnB 4 ?_;refine tnA 5 ?_;refine tnB 6 ?_;refine tjA 7 ?_ rfl (by kernel_rfl) (by rfl) ?_ ?_;rotate_left
  ·(intro wq hSw;obtain⟨hq0,hq1⟩:=hSw;go_simp<;>with_reducible rfl)
  try simp only [Act.put,List.getElem_toArray,List.getElem_cons_zero,List.getElem_cons_succ,List.setIfInBounds_toArray,List.set_cons_zero,List.set_cons_succ]
  refine tjA 8 ?_ rfl (by kernel_rfl) (by rfl) ?_ ?_;rotate_left
  ·(intro wq hSw;obtain⟨hq0,hq1⟩:=hSw;go_simp<;>with_reducible rfl)
  try simp only [Act.put,List.getElem_toArray,List.getElem_cons_zero,List.getElem_cons_succ,List.setIfInBounds_toArray,List.set_cons_zero,List.set_cons_succ]
  refine wpAnyH_done (by kernel_rfl) ?_ _;go_wp2_with fail
  go_ret;exact⟨Qb HT.out.symm,Qc BX.out K0⟩
 ·have HC:Hid (r=true↔Rc (gL C R S n) (p,q) (p,q)):=⟨fun h=>(HRR.out.1 h).2,fun h=>HRR.out.2 ⟨hok,h⟩⟩;have HOK:Hid (QD C R S n=true):=hok;clear hok;refine wp_region_held_drew (S:=fun w'=>w'.cell? ⟨w.heap.size,0,none⟩=some (.int .i64 p)∧w'.cell? ⟨w.heap.size,1,none⟩=some (.int .i64 q)) (by kernel_rfl) ⟨x0,x1⟩ (fun hHeld=> ?_);have K0:Below X.heap.size X X.drew:=(Below.refl _ _).drew;refine tjA 0 ?_ rfl (by kernel_rfl) (by rfl) ?_ ?_;rotate_left
  ·(intro wq hSw;obtain⟨hq0,hq1⟩:=hSw;go_simp<;>with_reducible rfl)
  try simp only [Act.put,List.getElem_toArray,List.getElem_cons_zero,List.getElem_cons_succ,List.setIfInBounds_toArray,List.set_cons_zero,List.set_cons_succ]
  refine rqA 1 (fun Kq hKq=> ?_);go_simp;refine(Jk X.drew (HR.out.below (Qc BX.out K0)) (HG.out.below (Qc BX.out K0))).mono ?_;rintro e w1 ⟨rfl,hb⟩;rw [HOK.out];replace K0:Below X.heap.size X w1:=Qc K0 hb;refine hKq.out _ _ ?_ (fun hHeld=> ?_)
  ·exact⟨cyC K0 x0,cyC K0 x1⟩
  clear hKq Kq hb;try simp only [Act.put,List.getElem_toArray,List.getElem_cons_zero,List.getElem_cons_succ,List.setIfInBounds_toArray,List.set_cons_zero,List.set_cons_succ]
  refine tjA 2 ?_ rfl (by kernel_rfl) (by rfl) ?_ ?_;rotate_left
  ·(intro wq hSw;obtain⟨hq0,hq1⟩:=hSw;go_simp<;>with_reducible rfl)
  try simp only [Act.put,List.getElem_toArray,List.getElem_cons_zero,List.getElem_cons_succ,List.setIfInBounds_toArray,List.set_cons_zero,List.set_cons_succ]
  refine tjA 3 ?_ rfl (by kernel_rfl) (by rfl) ?_ ?_;rotate_left
  ·(intro wq hSw;obtain⟨hq0,hq1⟩:=hSw;go_simp<;>with_reducible rfl)
  try simp only [Act.put,List.getElem_toArray,List.getElem_cons_zero,List.getElem_cons_succ,List.setIfInBounds_toArray,List.set_cons_zero,List.set_cons_succ]
  refine tjA 5 ?_ rfl (by kernel_rfl) (by rfl) ?_ ?_;rotate_left
  ·(intro wq hSw;obtain⟨hq0,hq1⟩:=hSw;go_simp<;>with_reducible rfl)
  try simp only [Act.put,List.getElem_toArray,List.getElem_cons_zero,List.getElem_cons_succ,List.setIfInBounds_toArray,List.set_cons_zero,List.set_cons_succ]
  refine rqA 4 (fun Kq hKq=> ?_);go_simp;refine(Jm w1 (HR.out.below (Qc BX.out K0)) HOK.out (HG.out.below (Qc BX.out K0))).mono ?_;rintro e w2 ⟨rfl,⟨z,D,hz,hm,hs⟩,hb⟩;have HLK:Hid (LkF w2 w1.heap.size (gL C R S n)):=Qpn hm hs;replace K0:Below X.heap.size X w2:=Qc K0 hb;refine hKq.out _ _ ?_ (fun hHeld=> ?_)
  ·exact⟨cyC K0 x0,cyC K0 x1⟩
  clear hKq Kq hb hm hs;try simp only [Act.put,List.getElem_toArray,List.getElem_cons_zero,List.getElem_cons_succ,List.setIfInBounds_toArray,List.set_cons_zero,List.set_cons_succ]
  refine rqA 6 (fun Kq hKq=> ?_);go_simp;refine(Uk (U:=plL C R n) p q r w2 HLK.out (Qrm HOK.out) (fun x u hu=>Qjn hu) (fun x=>Nat.le_trans (UM _ _ _ _) (YO HOK.out).1) (by rw [Qct];exact(YO HOK.out).1) HPQ.out.1 HPQ.out.2 HC.out).mono ?_;rintro e w3 ⟨rfl,hb⟩;replace K0:Below X.heap.size X w3:=Qc K0 hb;refine hKq.out _ _ ?_ (fun hHeld=> ?_)
  ·exact⟨cyC K0 x0,cyC K0 x1⟩
  clear hKq Kq hb;try simp only [Act.put,List.getElem_toArray,List.getElem_cons_zero,List.getElem_cons_succ,List.setIfInBounds_toArray,List.set_cons_zero,List.set_cons_succ]
  refine tjA 7 ?_ rfl (by kernel_rfl) (by rfl) ?_ ?_;rotate_left
  ·(intro wq hSw;obtain⟨hq0,hq1⟩:=hSw;go_simp<;>with_reducible rfl)
  try simp only [Act.put,List.getElem_toArray,List.getElem_cons_zero,List.getElem_cons_succ,List.setIfInBounds_toArray,List.set_cons_zero,List.set_cons_succ]
  refine tjA 8 ?_ rfl (by kernel_rfl) (by rfl) ?_ ?_;rotate_left
  ·(intro wq hSw;obtain⟨hq0,hq1⟩:=hSw;go_simp<;>with_reducible rfl)
  try simp only [Act.put,List.getElem_toArray,List.getElem_cons_zero,List.getElem_cons_succ,List.setIfInBounds_toArray,List.set_cons_zero,List.set_cons_succ]
  refine wpAnyH_done (by kernel_rfl) ?_ _;go_wp2_with fail
  go_ret;exact⟨rfl,Qc BX.out K0⟩
end Go.Proofs.YtejbnnacghbhoaaGreatDoor
