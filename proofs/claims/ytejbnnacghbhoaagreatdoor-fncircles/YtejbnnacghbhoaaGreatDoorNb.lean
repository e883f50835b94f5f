import Derived.Test.YtejbnnacghbhoaaGreatDoorMn
import Derived.Test.YtejbnnacghbhoaaGreatDoorGzv
import Derived.Test.YtejbnnacghbhoaaGreatDoorGzu
set_option linter.unusedSimpArgs false
set_option linter.unusedVariables false
set_option maxHeartbeats 4000000
set_option maxRecDepth 100000
namespace Go.Proofs.YtejbnnacghbhoaaGreatDoor
open Go.RowKit
structure Wd (G:PL→List PL) (U:List PL) (n:Nat) (a:PL) (T:List PL) (i:Nat):Prop where
 base: ∀y∈G a,y∈T
 all: ∀y∈T,Rc G a y∧y∈U
 done: ∀j y,j<i→T[j]? =some y→ ∀z∈G y,z∈T
 len:T.length+lfP U T≤n
theorem Wd.start {G:PL→List PL} {U:List PL} {n:Nat} {a:PL} (h1: ∀y∈G a,y∈U) (h2:(G a).length+lfP U (G a)≤n):Wd G U n a (G a) 0:=
 ⟨fun _ h=>h,fun y h=>⟨Rc.base h,h1 y h⟩,fun j y hj=>absurd hj (Nat.not_lt_zero _),h2⟩
theorem Wd.add {G:PL→List PL} {U T:List PL} {n i:Nat} {a x z:PL} (h:Wd G U n a T i) (hx:x∈T) (hz:z∈G x) (hU:z∈U) (hn:z∉T) (hi:i≤T.length):Wd G U n a (T++ [z]) i:=by
 refine⟨fun y hy=>List.mem_append_left _ (h.base y hy),fun y hy=> ?_,fun j y hj e=> ?_,?_⟩
 ·rcases List.mem_append.1 hy with hy | hy
  ·exact h.all y hy
  ·rw [List.mem_singleton.1 hy];exact⟨(h.all x hx).1.step hz,hU⟩
 ·rw [List.getElem?_append_left (by omega)]at e;exact fun z hz=>List.mem_append_left _ (h.done j y hj e z hz)
 ·have h1:=Qdb hn hU;have h2:=h.len;rw [List.length_append,List.length_singleton];omega
theorem Wd.next {G:PL→List PL} {U T:List PL} {n i:Nat} {a x:PL} (h:Wd G U n a T i) (hx:T[i]? =some x) (hG: ∀z∈G x,z∈T):Wd G U n a T (i+1):=
 ⟨h.base,h.all,fun j y hj e=>by
  by_cases hji:j=i
  ·subst hji;rw [hx]at e;cases e
   exact hG
  ·exact h.done j y (by omega) e,h.len⟩
theorem Wd.iff {G:PL→List PL} {U T:List PL} {n i:Nat} {a:PL} (h:Wd G U n a T i) (hi:T.length≤i):a∈T↔Rc G a a:=
 ⟨fun hm=>(h.all a hm).1,fun hr=>hr (fun y=>y∈T) h.base (fun y hy z hz=>by
  obtain⟨j,hj,e⟩:=List.mem_iff_getElem.1 hy
  exact h.done j y (by omega) (by rw [List.getElem?_eq_getElem hj,e]) z hz)⟩
theorem laws_hasRef {A:Option Addr} {n cap:Nat} {P:List PL} (p q:Int) (w:World) (h:RfR w A n P):
  Calls Tryz.prog 14 #[.slice A n cap,.agg #[.int .i64 p,.int .i64 q]] w fun e w'=>e= .returned (.bool (decide ((p,q)∈P)))∧Below w.heap.size w w':=by
 have HR:Hid (RfR w A n P):=h;have hn:=h.lim;unfold maxLen at hn;clear h;go_enter Tryz.func14,Tryz.ntmps14;go_wp2_with fail
 obtain⟨X,HX⟩: ∃X,Hid (w.alloc (.cells #[.int .i64 p,.int .i64 q] 26)=X):=⟨_,rfl⟩;rw [HX.out];have x0:X.cell? ⟨w.heap.size,0,none⟩=some (.int .i64 p):=by rw [←HX.out];simp
 have x1:X.cell? ⟨w.heap.size,1,none⟩=some (.int .i64 q):=by rw [←HX.out];simp
 have xl:w.heap.size<X.heap.size:=by rw [←HX.out];simp
 have BX:Hid (Below w.heap.size w X):=by show Below _ _ _;rw [←HX.out];exact(Below.refl _ _).alloc (Nat.le_refl _) _
 have HRX:=hd (HR.out.below BX.out);clear HX;go_loopw [5] (fun i wr=> ∃k:Nat,k≤n∧i= .int .i64 k∧(∀j,j<k→P.getD j (0,0)≠(p,q))∧Below X.heap.size X wr) (fun i _=>n-(intOf i).toNat)
 case atStart=>exact⟨0,Nat.zero_le _,rfl,fun j hj=>absurd hj (Nat.not_lt_zero _),Below.refl _ _⟩
 case round=>
  obtain⟨k,hk,rfl,hall,hbel⟩:=hrel;have HAL:Hid (∀j,j<k→P.getD j (0,0)≠(p,q)):=hall;have BL:Hid (Below X.heap.size X wr):=hbel;replace x0:=(hbel.cell (p:=⟨w.heap.size,0,none⟩) xl).trans x0;replace x1:=(hbel.cell (p:=⟨w.heap.size,1,none⟩) xl).trans x1;have xlw:=Nat.lt_of_lt_of_le xl hbel.size;clear hall
  by_cases hlt:k<n
  ·obtain⟨b,o,rfl,hl,c0,c1⟩:=HRX.out.at_ k hlt;rw [←hbel.cell (p:=⟨_,_,none⟩) hl]at c0 c1;have h0:(0:Int)≤(k:Int):=by omega
   have h1:(k:Int)<(n:Int):=by omega
   have HME:Hid (P.getD k (0,0)∈P):=Vm (by rw [HRX.out.len];exact hlt);obtain⟨x,HX⟩: ∃x,Hid (P.getD k (0,0)=x):=⟨_,rfl⟩;rw [HX.out]at c0 c1 HME;obtain⟨a1,a2⟩:=x;simp only at c0 c1;by_cases e1:a1=p
   ·by_cases e2:a2=q
    ·subst e1 e2;have HT:Hid (decide ((a1,a2)∈P)=true):=decide_eq_true HME.out;go_wp2_with fail
     go_region
     all_goals go_wp2_with fail
     all_goals
      go_ret;exact⟨Qb HT.out.symm,Qc BX.out (Qc BL.out (by go_grown))⟩
    ·have HNX:Hid (∀j,j<k+1→P.getD j (0,0)≠(p,q)):=fun j hj=>by
      by_cases e:j=k
      ·subst e;rw [HX.out];exact fun e=>e2 (congrArg Prod.snd e)
      ·exact HAL.out j (by omega)
     subst e1;have hne:(a2==q)=false:=by simpa using e2
     go_wp2_with fail
     go_region
     all_goals go_wp2_with fail
     all_goals
      go_roundw
      case rel=>exact⟨k+1,by omega,by go_num,HNX.out,Qc BL.out (by go_grown)⟩
      case measure=>simp [intOf];omega
   ·have HNX:Hid (∀j,j<k+1→P.getD j (0,0)≠(p,q)):=fun j hj=>by
     by_cases e:j=k
     ·subst e;rw [HX.out];exact fun e=>e1 (congrArg Prod.fst e)
     ·exact HAL.out j (by omega)
    have hne:(a1==p)=false:=by simpa using e1
    go_wp2_with fail
    go_region
    all_goals go_wp2_with fail
    all_goals
     go_roundw
     case rel=>exact⟨k+1,by omega,by go_num,HNX.out,Qc BL.out (by go_grown)⟩
     case measure=>simp [intOf];omega
  ·have h1: ¬(k:Int)<(n:Int):=by omega
   have HT:Hid (decide ((p,q)∈P)=false):=decide_eq_false (fun hm=>by
    obtain⟨j,hj,e⟩:=List.mem_iff_getElem.1 hm;refine HAL.out j (by have:=HRX.out.len;omega) ?_;rw [List.getD_eq_getElem?_getD,List.getElem?_eq_getElem hj]
    exact e)
   go_wp2_with fail
   go_ret;exact⟨Qb HT.out.symm,Qc BX.out hbel⟩
theorem laws_sameRefsC {B B' n:Nat} {v v':Value} {xs:List Value} (w:World) (h:w.ownsRow B 26 2 v n xs) (h':w.ownsRow B' 26 2 v' n xs) (hx: ∀j,j<n*2→ ∃z,xs[j]? =some (.int .i64 z)):
  Calls Tryz.prog 11 #[v,v'] w fun e w'=>e= .returned (.bool true)∧Below w.heap.size w w':=by
 obtain⟨A,cap,rfl,hn,hc⟩:=Qu h;obtain⟨A',cap',rfl,_,hc'⟩:=Qu h';unfold maxLen at hn
 have HC:Hid (∀k,k<n→ ∃g g' x y,A=some ⟨g,0,none⟩∧A'=some ⟨g',0,none⟩∧g<w.heap.size∧g'<w.heap.size∧w.cell? ⟨g,k*2,none⟩=some (.int .i64 x)∧w.cell? ⟨g,k*2+1,none⟩=some (.int .i64 y)∧w.cell? ⟨g',k*2,none⟩=some (.int .i64 x)∧w.cell? ⟨g',k*2+1,none⟩=some (.int .i64 y)):=by
  intro k hk;obtain⟨g,rfl,_,hg,c0,_⟩:=hc (k*2) (by omega);obtain⟨g1,e1,_,_,c1,_⟩:=hc (k*2+1) (by omega);obtain⟨g',rfl,_,hg',c0',_⟩:=hc' (k*2) (by omega);obtain⟨g1',e1',_,_,c1',_⟩:=hc' (k*2+1) (by omega);cases e1
  cases e1'
  obtain⟨x,hx0⟩:=hx (k*2) (by omega);obtain⟨y,hx1⟩:=hx (k*2+1) (by omega);exact⟨g,g',x,y,rfl,rfl,hg,hg',c0.trans hx0,c1.trans hx1,c0'.trans hx0,c1'.trans hx1⟩
 clear hc hc' h h' hx;go_enter Tryz.func11,Tryz.ntmps11;go_wp2_with fail
 go_loopw [5] (fun i wr=> ∃k:Nat,k≤n∧i= .int .i64 k∧Below w.heap.size w wr) (fun i _=>n-(intOf i).toNat)
 case atStart=>exact⟨0,Nat.zero_le _,rfl,Below.refl _ _⟩
 case round=>
  obtain⟨k,hk,rfl,hbel⟩:=hrel;by_cases hlt:k<n
  ·obtain⟨g,g',x,y,rfl,rfl,hg,hg',c0,c1,c0',c1'⟩:=HC.out k hlt;rw [←hbel.cell (p:=⟨_,_,none⟩) hg]at c0 c1;rw [←hbel.cell (p:=⟨_,_,none⟩) hg']at c0' c1';have h0:(0:Int)≤(k:Int):=by omega
   have h1:(k:Int)<(n:Int):=by omega
   go_wp2_with fail
   all_goals try go_quiet (fail)
   all_goals try go_wp2_with fail
   all_goals
    go_roundw
    case rel=>exact⟨k+1,by omega,by go_num,hbel.trans ⟨rfl,rfl,rfl,Nat.le_refl _,fun _ _=>rfl⟩⟩
    case measure=>simp [intOf];omega
  ·have h1: ¬(k:Int)<(n:Int):=by omega
   go_wp2_with fail
   go_ret;exact⟨rfl,hbel⟩
theorem flat_ints (P:List PL) (j:Nat) (hj:j<P.length*2): ∃z,(QC rfL P)[j]? =some (.int .i64 z):=by
 have hi:j/2<P.length:=by omega
 have e:j=j/2*2+j%2:=by omega
 rw [e,Hu (f:=rfL) (k:=2) (fun x=>rfl) (j%2) (by omega),List.getElem?_eq_getElem hi];have:j%2=0∨j%2=1:=by omega
 rcases this with h | h
 ·rw [h];exact⟨_,rfl⟩
 ·rw [h];exact⟨_,rfl⟩
theorem laws_bigC (A:Option Addr) (len cap:Nat) (w:World):Calls Tryz.prog 7 #[.slice A len cap] w fun e w'=>
  e= .returned (.bool (decide ((1048576:Int)<(len:Int))))∧w'=w:=by
 go_enter Tryz.func7,Tryz.ntmps7;go_wp2
 go_ret;exact⟨rfl,rfl⟩
theorem impl_InCircle_no {A:Option Addr} {n cap:Nat} {C R:Nat→Int} {S:Nat→ByteArray} (p q:Int) (w:World) (h:ClRow w A n C R S) (hg:GI w) (hk:QD C R S n=false):
  Calls Tryz.prog 9 #[.slice A n cap,.agg #[.int .i64 p,.int .i64 q]] w fun e w'=>e= .returned (.bool false)∧Below w.heap.size w w':=by
 have HR:Hid (ClRow w A n C R S):=h;have HG:Hid (GI w):=hg;have HK:Hid (QD C R S n=false):=hk;clear h hg hk;go_enter Tryz.func9,Tryz.ntmps9;go_upto_region 1 with fail
 obtain⟨X,HX⟩: ∃X,Hid (w.alloc (.cells #[.int .i64 p,.int .i64 q] 26)=X):=⟨_,rfl⟩;rw [HX.out];have x0:X.cell? ⟨w.heap.size,0,none⟩=some (.int .i64 p):=by rw [←HX.out];simp
 have x1:X.cell? ⟨w.heap.size,1,none⟩=some (.int .i64 q):=by rw [←HX.out];simp
 have xl:w.heap.size<X.heap.size:=by rw [←HX.out];simp
 have BX:Hid (Below w.heap.size w X):=by show Below _ _ _;rw [←HX.out];exact(Below.refl _ _).alloc (Nat.le_refl _) _
 clear HX;have HOK:Hid (QD C R S n=false):=HK.out;refine wp_region_held_drew (S:=fun w'=>w'.cell? ⟨w.heap.size,0,none⟩=some (.int .i64 p)∧w'.cell? ⟨w.heap.size,1,none⟩=some (.int .i64 q)) (by kernel_rfl) ⟨x0,x1⟩ (fun hHeld=> ?_);have K0:Below X.heap.size X X.drew:=(Below.refl _ _).drew;refine tjA 0 ?_ rfl (by kernel_rfl) (by rfl) ?_ ?_;rotate_left
 ·(intro wq hSw;obtain⟨hq0,hq1⟩:=hSw;go_simp<;>with_reducible rfl)
 try simp only [Act.put,List.getElem_toArray,List.getElem_cons_zero,List.getElem_cons_succ,List.setIfInBounds_toArray,List.set_cons_zero,List.set_cons_succ]
 refine rqA 1 (fun Kq hKq=> ?_);go_simp;refine(Jk X.drew (HR.out.below (Qc BX.out K0)) (HG.out.below (Qc BX.out K0))).mono ?_;rintro e w1 ⟨rfl,hb⟩;rw [HOK.out];replace K0:Below X.heap.size X w1:=Qc K0 hb;refine hKq.out _ _ ?_ (fun hHeld=> ?_)
 ·exact⟨cyC K0 x0,cyC K0 x1⟩
 clear hKq Kq hb;try simp only [Act.put,List.getElem_toArray,List.getElem_cons_zero,List.getElem_cons_succ,List.setIfInBounds_toArray,List.set_cons_zero,List.set_cons_succ]
 refine tjA 2 ?_ rfl (by kernel_rfl) (by rfl) ?_ ?_;rotate_left
 ·(intro wq hSw;obtain⟨hq0,hq1⟩:=hSw;go_simp<;>with_reducible rfl)
 try simp only [Act.put,List.getElem_toArray,List.getElem_cons_zero,List.getElem_cons_succ,List.setIfInBounds_toArray,List.set_cons_zero,List.set_cons_succ]
 refine tnA 3 ?_;refine tnB 4 ?_;refine tnA 5 ?_;refine tnB 6 ?_;refine tjA 7 ?_ rfl (by kernel_rfl) (by rfl) ?_ ?_;rotate_left
 ·(intro wq hSw;obtain⟨hq0,hq1⟩:=hSw;go_simp<;>with_reducible rfl)
 try simp only [Act.put,List.getElem_toArray,List.getElem_cons_zero,List.getElem_cons_succ,List.setIfInBounds_toArray,List.set_cons_zero,List.set_cons_succ]
 refine tjA 8 ?_ rfl (by kernel_rfl) (by rfl) ?_ ?_;rotate_left
 ·(intro wq hSw;obtain⟨hq0,hq1⟩:=hSw;go_simp<;>with_reducible rfl)
 try simp only [Act.put,List.getElem_toArray,List.getElem_cons_zero,List.getElem_cons_succ,List.setIfInBounds_toArray,List.set_cons_zero,List.set_cons_succ]
 refine wpAnyH_done (by kernel_rfl) ?_ _;go_wp2_with fail
 go_ret;exact⟨Qb (rfl:false=false).symm,Qc BX.out K0⟩
theorem impl_LeansOn_no {A:Option Addr} {n cap:Nat} {C R:Nat→Int} {S:Nat→ByteArray} (p q:Int) (w:World) (h:ClRow w A n C R S) (hg:GI w) (hk:QD C R S n=false):
  Calls Tryz.prog 12 #[.slice A n cap,.agg #[.int .i64 p,.int .i64 q]] w fun e w'=>e= .returned (.slice none 0 0)∧Below w.heap.size w w':=by
 have HR:Hid (ClRow w A n C R S):=h;have HG:Hid (GI w):=hg;have HK:Hid (QD C R S n=false):=hk;clear h hg hk;go_enter Tryz.func12,Tryz.ntmps12;go_upto_region 1 with fail
 obtain⟨X,HX⟩: ∃X,Hid (w.alloc (.cells #[.int .i64 p,.int .i64 q] 26)=X):=⟨_,rfl⟩;rw [HX.out];have BX:Hid (Below w.heap.size w X):=by show Below _ _ _;rw [←HX.out];exact(Below.refl _ _).alloc (Nat.le_refl _) _
 clear HX;go_wp2_with fail
 refine(Jk _ (HR.out.below BX.out) (HG.out.below BX.out)).mono ?_;rintro e u ⟨rfl,hb⟩;rw [HK.out];go_wp2_with fail
 go_ret;exact⟨rfl,Qc BX.out hb⟩
end Go.Proofs.YtejbnnacghbhoaaGreatDoor
