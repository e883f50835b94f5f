import Derived.Test.YtonhcgkagdpdlaaGreatDoorMvN
import Derived.Test.YtonhcgkagdpdlaaGreatDoorMvM
set_option linter.unusedSimpArgs false
set_option linter.unusedVariables false
set_option maxHeartbeats 4000000
namespace Go.Proofs.YtonhcgkagdpdlaaGreatDoor
open Go.RowKit
theorem spec_l4Rows (d e:Int) (w:World):Calls Tryz.prog 23 #[.int .i64 d,.int .i64 e] w fun z w'=>z= .returned (.bool (okOpened d e))∧w'=w:=by
 cases h1:decide (1≤d∧d≤99)
 ·have HD:Hid (decide (1≤d∧d≤99)=false):=h1
  have HE:Hid (okOpened d e=false):=by show _=_;unfold okOpened;rw [h1];rfl
  clear h1
  go_enter Tryz.func23,Tryz.ntmps23
  go_wp2_with (go_at_call 40;refine(spec_l1In _ _ _ _).mono ?_;rintro z w3 ⟨rfl,hw⟩;subst w3;rw [HD.out])
  go_ret
  exact⟨ret_bool HE.out.symm,rfl⟩
 ·have HD:Hid (decide (1≤d∧d≤99)=true):=h1
  obtain⟨y,HY⟩: ∃y,Hid (decide (1≤e∧e≤99)=y):=⟨_,rfl⟩
  have HE:Hid (okOpened d e=y):=by show _=_;unfold okOpened;rw [h1,HY.out];rfl
  clear h1
  go_enter Tryz.func23,Tryz.ntmps23
  go_wp2_with (go_at_call 40;refine(spec_l1In _ _ _ _).mono ?_;rintro z w3 ⟨rfl,hw⟩;subst w3;(first | rw [HD.out] | rw [HY.out]))
  go_ret
  exact⟨ret_bool HE.out.symm,rfl⟩
theorem spec_Opened_no {A:Option Addr} {n cap:Nat} {F:Nat→FN} (d e:Int) (w:World) (h:FnRowS w A n F) (hn:n≤1048576) (hkn: ∀i,i<n→(F i).kids.length≤1048576) (ho:(fOkB F n&&okOpened d e)=false):
  Calls Tryz.prog 7 #[.slice A n cap,.int .i64 d,.int .i64 e] w fun z w'=>z= .returned (.tuple #[.slice none 0 0,.bool false])∧Below w.heap.size w w':=by
 have HR:Hid (FnRowS w A n F):=h
 have HKN:Hid (∀i,i<n→(F i).kids.length≤1048576):=hkn
 clear h hkn
 cases h1:fOkB F n
 ·have HO:Hid (fOkB F n=false):=h1
  clear h1 ho
  go_enter Tryz.func7,Tryz.ntmps7
  go_wp2_with (go_at_call 22;refine(spec_FormulaOk _ HR.out.row hn HKN.out).mono ?_;rintro z w1 ⟨rfl,hb⟩;rw [HO.out];have HB1:Hid (Below w.heap.size w w1):=hb;clear hb)
  refine bodyPost_ret (v:= .tuple #[.slice none 0 0,.bool false]) ?_ rfl ⟨rfl,HB1.out⟩
  simp (maxDischargeDepth:=9) [results,Tryz.results7,go_sem]
 have HO:Hid (fOkB F n=true):=h1
 rw [h1,Bool.true_and]at ho
 clear h1
 have HD:Hid (okOpened d e=false):=ho
 clear ho
 ·go_enter Tryz.func7,Tryz.ntmps7
  go_wp2_with (first
   | (go_at_call 22;refine(spec_FormulaOk _ HR.out.row hn HKN.out).mono ?_;rintro z w1 ⟨rfl,hb⟩;rw [HO.out];have HB1:Hid (Below w.heap.size w w1):=hb;clear hb)
   | (go_at_call 23;refine(spec_l4Rows _ _ _).mono ?_;rintro z w3 ⟨rfl,hw⟩;subst w3;rw [HD.out]))
  refine bodyPost_ret (v:= .tuple #[.slice none 0 0,.bool false]) ?_ rfl ⟨rfl,HB1.out⟩
  simp (maxDischargeDepth:=9) [results,Tryz.results7,go_sem]
theorem spec_Closed_no {A:Option Addr} {n cap:Nat} {F:Nat→FN} (d e:Int) (w:World) (h:FnRowS w A n F) (hn:n≤1048576) (hkn: ∀i,i<n→(F i).kids.length≤1048576) (ho:(fOkB F n&&okClosed d e)=false):
  Calls Tryz.prog 9 #[.slice A n cap,.int .i64 d,.int .i64 e] w fun z w'=>z= .returned (.tuple #[.slice none 0 0,.bool false])∧Below w.heap.size w w':=by
 have HR:Hid (FnRowS w A n F):=h
 have HKN:Hid (∀i,i<n→(F i).kids.length≤1048576):=hkn
 clear h hkn
 cases h1:fOkB F n
 ·have HO:Hid (fOkB F n=false):=h1
  clear h1 ho
  go_enter Tryz.func9,Tryz.ntmps9
  go_wp2_with (go_at_call 22;refine(spec_FormulaOk _ HR.out.row hn HKN.out).mono ?_;rintro z w1 ⟨rfl,hb⟩;rw [HO.out];have HB1:Hid (Below w.heap.size w w1):=hb;clear hb)
  refine bodyPost_ret (v:= .tuple #[.slice none 0 0,.bool false]) ?_ rfl ⟨rfl,HB1.out⟩
  simp (maxDischargeDepth:=9) [results,Tryz.results9,go_sem]
 have HO:Hid (fOkB F n=true):=h1
 rw [h1,Bool.true_and]at ho
 clear h1
 have HD:Hid (okOpened d e=false):=ho
 clear ho
 ·go_enter Tryz.func9,Tryz.ntmps9
  go_wp2_with (first
   | (go_at_call 22;refine(spec_FormulaOk _ HR.out.row hn HKN.out).mono ?_;rintro z w1 ⟨rfl,hb⟩;rw [HO.out];have HB1:Hid (Below w.heap.size w w1):=hb;clear hb)
   | (go_at_call 23;refine(spec_l4Rows _ _ _).mono ?_;rintro z w3 ⟨rfl,hw⟩;subst w3;rw [HD.out]))
  refine bodyPost_ret (v:= .tuple #[.slice none 0 0,.bool false]) ?_ rfl ⟨rfl,HB1.out⟩
  simp (maxDischargeDepth:=9) [results,Tryz.results9,go_sem]
end Go.Proofs.YtonhcgkagdpdlaaGreatDoor
