import Derived.Test.YtonhcgkagdpdlaaGreatDoorGaz
import Derived.Test.YtonhcgkagdpdlaaGreatDoorGaf
set_option linter.unusedSimpArgs false
set_option linter.unusedVariables false
set_option maxHeartbeats 8000000
set_option maxRecDepth 100000
namespace Go.Proofs.YtonhcgkagdpdlaaGreatDoor
open Go.RowKit
def arOf (x:FN):List Value:=if x.k=2 then [.int .i64 x.ac,.int .i64 x.ar,.int .i64 x.ac,.int .i64 x.ar]else if x.k=3 then [.int .i64 x.ac,.int .i64 x.ar,.int .i64 x.bc,.int .i64 x.br]else []
def arsL (F:Nat→FN) (k:Nat):List Value:=(List.range k).flatMap fun i=>arOf (F i)
def arsN (F:Nat→FN):Nat→Nat
 | 0=>0
 | k+1=>arsN F k+if(F k).k=2∨(F k).k=3 then 1 else 0
theorem arsL_succ (F:Nat→FN) (k:Nat):arsL F (k+1)=arsL F k++arOf (F k):=by simp [arsL,List.range_succ,List.flatMap_append]
theorem arsN_le (F:Nat→FN): ∀k,arsN F k≤k
 | 0=>Nat.le_refl _
 | k+1=>by have:=arsN_le F k;rw [arsN];split<;>omega
theorem arOf_len (x:FN):(arOf x).length=(if x.k=2∨x.k=3 then 1 else 0)*4:=by
 unfold arOf
 by_cases h2:x.k=2
 ·simp [h2]
 ·by_cases h3:x.k=3
  ·simp [h3]
  ·simp [h2,h3]
theorem arsL_len (F:Nat→FN): ∀k,(arsL F k).length=arsN F k*4
 | 0=>rfl
 | k+1=>by rw [arsL_succ,List.length_append,arsL_len F k,arOf_len,arsN];omega
theorem arsL_int (F:Nat→FN): ∀(k j:Nat),j<arsN F k*4→ ∃z,(arsL F k)[j]? =some (.int .i64 z)
 | 0,j,h=>by rw [arsN]at h;omega
 | k+1,j,h=>by
  rw [arsL_succ]
  have hl:=arsL_len F k
  by_cases hj:j<arsN F k*4
  ·rw [List.getElem?_append_left (by omega)];exact arsL_int F k j hj
  ·rw [List.getElem?_append_right (by omega),hl]
   rw [arsN]at h
   unfold arOf
   split at h
   ·rename_i hk
    obtain⟨q,hq⟩: ∃q,j-arsN F k*4=q:=⟨_,rfl⟩
    rw [hq]
    have hq4:q=0∨q=1∨q=2∨q=3:=by omega
    rcases hk with hk | hk
    ·rw [if_pos hk]
     rcases hq4 with rfl | rfl | rfl | rfl<;>exact⟨_,rfl⟩
    ·rw [if_neg (by omega),if_pos hk]
     rcases hq4 with rfl | rfl | rfl | rfl<;>exact⟨_,rfl⟩
   ·omega
def arsM (F:Nat→FN) (n:Nat):Nat:=if fOkB F n then arsN F n else 0
def arsX (F:Nat→FN) (n:Nat):List Value:=if fOkB F n then arsL F n else []
theorem fOk_n {F:Nat→FN} {n:Nat} (h:fOkB F n=true):n≤60:=by
 simp only [fOkB,Bool.and_eq_true,decide_eq_true_eq]at h
 omega
theorem arsM_le (F:Nat→FN) (n:Nat):arsM F n≤60:=by
 unfold arsM
 split
 ·rename_i h;have:=arsN_le F n;have:=fOk_n h;omega
 ·omega
theorem arsX_int (F:Nat→FN) (n:Nat): ∀j,j<arsM F n*4→ ∃z,(arsX F n)[j]? =some (.int .i64 z):=by
 intro j hj
 unfold arsM at hj
 unfold arsX
 split at hj
 ·rename_i h;rw [if_pos h];exact arsL_int F n j hj
 ·omega
theorem app_step {w wi w1:World} {e:TypeId} {size n:Nat} {v:Value} {xs:List Value} {o:Obj} (hown:wi.ownsRow w.heap.size e size v n xs) (hbel:Below w.heap.size w wi)
  (hg:(wi.alloc o).grownBy w1 v.ownBlock):Below w.heap.size w w1:=by
 have ha:Below w.heap.size w (wi.alloc o):=hbel.alloc hbel.size o
 have hs:(wi.alloc o).heap.size=wi.heap.size+1:=by simp
 exact ha.grown hg (by have:=hbel.size;omega) (fun k hk=>(hown.lt k hk).1)
theorem impl_AreasOf {A:Option Addr} {n cap:Nat} {F:Nat→FN} (w:World) (h:FnRow w A n F) (hn:n≤1048576) (hkn: ∀i,i<n→(F i).kids.length≤1048576) (hft:FT w):
  Calls Tryz.prog 11 #[.slice A n cap] w fun e w'=> ∃v,e= .returned v∧w'.ownsRow w.heap.size 57 4 v (arsM F n) (arsX F n)∧Below w.heap.size w w':=by
 have HR:Hid (FnRow w A n F):=h
 have HKN:Hid (∀i,i<n→(F i).kids.length≤1048576):=hkn
 have HFT:Hid (FT w):=hft
 clear h hkn hft
 obtain⟨i0,hi,iz0,iz1,iz2⟩:=info_parts infoAr
 cases ho:fOkB F n
 ·have HO:Hid (fOkB F n=false):=ho
  clear ho
  go_enter Tryz.func11,Tryz.ntmps11
  go_wp2_with fail
  refine(impl_FormulaOk _ HR.out hn HKN.out HFT.out).mono ?_
  rintro e w1 ⟨rfl,hb⟩
  rw [HO.out]
  go_wp2_with fail
  go_ret
  exact⟨_,rfl,by rw [arsM,arsX,HO.out];exact World.ownsRow_nil _ _ _ _,hb⟩
 have HO:Hid (fOkB F n=true):=ho
 have hn60:=fOk_n ho
 clear ho
 go_enter Tryz.func11,Tryz.ntmps11
 go_wp2_with fail
 refine(impl_FormulaOk _ HR.out hn HKN.out HFT.out).mono ?_
 rintro e w1 ⟨rfl,hb⟩
 rw [HO.out]
 have HB1:Hid (Below w.heap.size w w1):=hb
 clear hb
 go_wp2_with fail
 go_loopw [3,11] (fun v i wr=> ∃k:Nat,k≤n∧i= .int .i64 k∧wr.ownsRow w.heap.size 57 4 v (arsN F k) (arsL F k)∧Below w.heap.size w wr) (fun _ i _=>n-(intOf i).toNat)
 case atStart=>exact⟨0,Nat.zero_le _,rfl,World.ownsRow_nil _ _ _ _,HB1.out⟩
 case round=>
  clear HB1
  obtain⟨k,hk,rfl,hown,hbel⟩:=hrel
  have HW:Hid (wr.ownsRow w.heap.size 57 4 u3 (arsN F k) (arsL F k)):=hown
  have HB:Hid (Below w.heap.size w wr):=hbel
  have HBS:Hid (w.heap.size≤wr.heap.size):=hbel.size
  have hnk:=arsN_le F k
  clear hown
  by_cases hlt:k<n
  ·obtain⟨b,o,KA,kc,rfl,hl,hnd,hki,hs⟩:=HR.out.2 k hlt
   obtain⟨c0,c1,c2,c3,c4,c5,c6,c7,c8,c9,c10,c11,c12,c13⟩:=hnd.below hl (W':=wr) hbel
   clear hnd hki hbel
   have h0:(0:Int)≤(k:Int):=by omega
   have h1:(k:Int)<(n:Int):=by omega
   obtain⟨x,HX⟩: ∃x,Hid (F k=x):=⟨_,rfl⟩
   have HSN:Hid (arsN F (k+1)=arsN F k+if x.k=2∨x.k=3 then 1 else 0):=by show _=_;rw [arsN,HX.out]
   have HSL:Hid (arsL F (k+1)=arsL F k++arOf x):=by show _=_;rw [arsL_succ,HX.out]
   rw [HX.out]at c0 c1 c2 c3 c4 c5 c6 c7 c8 c9 c10 c11 c12 c13
   obtain⟨xk,xo,xck,xcn,xcs,xac,xar,xaf,xag,xbc,xbr,xbf,xbg,xkids⟩:=x
   simp only at c0 c1 c2 c3 c4 c5 c6 c7 c8 c9 c10 c11 c12 c13
   by_cases h2:xk=2
   ·subst h2
    go_wp2_with fail
    refine(impl_areaOf_cell _ _ _ _ _ _ _ _ _ _ _ _ _).mono ?_
    rintro e w2 ⟨rfl,hb⟩
    have HW2:Hid (w2.ownsRow w.heap.size 57 4 u3 (arsN F k) (arsL F k)):=own_below (HW.out.alloc _) hb
    have HB2:Hid (Below w.heap.size w w2):=bchain (HB.out.alloc HB.out.size _) hb
    have hs2:w.heap.size≤w2.heap.size:=HB2.out.size
    clear hb c0 c1 c2 c3 c4 c5 c6 c7 c8 c9 c10 c11 c12 c13
    go_wp2_with (first
     | (at_builtin;refine wpList_append_own _ rfl _ _ 30 rfl w.heap.size 57 i0 (.agg #[.int .i64 0,.int .i64 0,.int .i64 0,.int .i64 0]) 4 32 Tryz.underlying30 hi iz0 iz1 iz2 rfl (by decide) _ _ _ rfl (HW2.out.alloc _) ⟨w2.heap.size,0,none⟩ 1 1 [.int .i64 xac,.int .i64 xar,.int .i64 xac,.int .i64 xar] rfl rfl ?c1 ?c2 ?c3 ?c4 ?c5 ?_)
     | go_in)
    case c1=>
     intro q u hq
     match q,hq with
     | 0,hq=>simp at hq;subst hq;simp [Addr.add]
     | 1,hq=>simp at hq;subst hq;simp [Addr.add]
     | 2,hq=>simp at hq;subst hq;simp [Addr.add]
     | 3,hq=>simp at hq;subst hq;simp [Addr.add]
    case c2=>intro u hu;simp at hu;rcases hu with rfl | rfl | rfl | rfl<;>rfl
    case c3=>unfold maxLen;omega
    case c4=>omega
    case c5=>simp;omega
    intro v' w3 hown' hgrow _
    have R3:Hid (Below w.heap.size w w3):=app_step HW2.out HB2.out hgrow
    have HW3:Hid (w3.ownsRow w.heap.size 57 4 v' (arsN F (k+1)) (arsL F (k+1))):=by
     show World.ownsRow _ _ _ _ _ _ _
     rw [HSN.out,HSL.out]
     exact hown'
    clear hown' hgrow HW2
    go_wp2_with fail
    go_roundw
    case rel=>exact⟨k+1,by omega,by go_num,HW3.out,R3.out⟩
    case measure=>simp [intOf];omega
   by_cases h3:xk=3
   ·subst h3
    go_wp2_with fail
    refine(impl_areaOf_area _ _ _ _ _ _ _ _ _ _ _ _ _).mono ?_
    rintro e w2 ⟨rfl,hb⟩
    have HW2:Hid (w2.ownsRow w.heap.size 57 4 u3 (arsN F k) (arsL F k)):=own_below (HW.out.alloc _) hb
    have HB2:Hid (Below w.heap.size w w2):=bchain (HB.out.alloc HB.out.size _) hb
    have hs2:w.heap.size≤w2.heap.size:=HB2.out.size
    clear hb c0 c1 c2 c3 c4 c5 c6 c7 c8 c9 c10 c11 c12 c13
    go_wp2_with (first
     | (at_builtin;refine wpList_append_own _ rfl _ _ 30 rfl w.heap.size 57 i0 (.agg #[.int .i64 0,.int .i64 0,.int .i64 0,.int .i64 0]) 4 32 Tryz.underlying30 hi iz0 iz1 iz2 rfl (by decide) _ _ _ rfl (HW2.out.alloc _) ⟨w2.heap.size,0,none⟩ 1 1 [.int .i64 xac,.int .i64 xar,.int .i64 xbc,.int .i64 xbr] rfl rfl ?c1 ?c2 ?c3 ?c4 ?c5 ?_)
     | go_in)
    case c1=>
     intro q u hq
     match q,hq with
     | 0,hq=>simp at hq;subst hq;simp [Addr.add]
     | 1,hq=>simp at hq;subst hq;simp [Addr.add]
     | 2,hq=>simp at hq;subst hq;simp [Addr.add]
     | 3,hq=>simp at hq;subst hq;simp [Addr.add]
    case c2=>intro u hu;simp at hu;rcases hu with rfl | rfl | rfl | rfl<;>rfl
    case c3=>unfold maxLen;omega
    case c4=>omega
    case c5=>simp;omega
    intro v' w3 hown' hgrow _
    have R3:Hid (Below w.heap.size w w3):=app_step HW2.out HB2.out hgrow
    have HW3:Hid (w3.ownsRow w.heap.size 57 4 v' (arsN F (k+1)) (arsL F (k+1))):=by
     show World.ownsRow _ _ _ _ _ _ _
     rw [HSN.out,HSL.out]
     exact hown'
    clear hown' hgrow HW2
    go_wp2_with fail
    go_roundw
    case rel=>exact⟨k+1,by omega,by go_num,HW3.out,R3.out⟩
    case measure=>simp [intOf];omega
   ·have e2:(xk==2)=false:=by simpa using h2
    have e3:(xk==3)=false:=by simpa using h3
    have HW3:Hid (wr.ownsRow w.heap.size 57 4 u3 (arsN F (k+1)) (arsL F (k+1))):=by
     show World.ownsRow _ _ _ _ _ _ _
     rw [HSN.out,HSL.out,if_neg (fun h=>h.elim h2 h3),arOf,if_neg h2,if_neg h3,List.append_nil]
     exact HW.out
    go_wp2_with fail
    go_roundw
    case rel=>exact⟨k+1,by omega,by go_num,HW3.out.alloc _,HB.out.alloc HB.out.size _⟩
    case measure=>simp [intOf];omega
  ·have h1: ¬(k:Int)<(n:Int):=by omega
   obtain rfl:k=n:=by omega
   clear hbel
   go_wp2_with fail
   go_ret
   exact⟨_,rfl,by rw [arsM,arsX,HO.out];exact HW.out,HB.out⟩
end Go.Proofs.YtonhcgkagdpdlaaGreatDoor
