import Derived.Test.YtonhcgkagdpdlaaDoorMvN
import Derived.Test.YtonhcgkagdpdlaaDoorMvM
set_option linter.unusedSimpArgs false
set_option linter.unusedVariables false
set_option maxHeartbeats 4000000
namespace Go.Proofs.YtonhcgkagdpdlaaDoor
open Go.RowKit
theorem spec_MovedBy_no {A:Option Addr} {n cap:Nat} {F:Nat→FN} (d e:Int) (w:World) (h:FnRowS w A n F) (hn:n≤1048576) (hkn: ∀i,i<n→(F i).kids.length≤1048576) (ho:(fOkB F n&&okMovedBy d e)=false):
  Calls Tryd.prog 7 #[.slice A n cap,.int .i64 d,.int .i64 e] w fun z w'=>z= .returned (.tuple #[.slice none 0 0,.bool false])∧Below w.heap.size w w':=by
 have HR:Hid (FnRowS w A n F):=h
 have HKN:Hid (∀i,i<n→(F i).kids.length≤1048576):=hkn
 clear h hkn
 cases h1:fOkB F n
 ·have HO:Hid (fOkB F n=false):=h1
  clear h1 ho
  go_enter Tryd.func7,Tryd.ntmps7
  go_wp2_with (go_at_call 20;refine(spec_FormulaOk _ HR.out.row hn HKN.out).mono ?_;rintro z w1 ⟨rfl,hb⟩;rw [HO.out];have HB1:Hid (Below w.heap.size w w1):=hb;clear hb)
  refine bodyPost_ret (v:= .tuple #[.slice none 0 0,.bool false]) ?_ rfl ⟨rfl,HB1.out⟩
  simp (maxDischargeDepth:=9) [results,Tryd.results7,go_sem]
 have HO:Hid (fOkB F n=true):=h1
 rw [h1,Bool.true_and]at ho
 clear h1
 cases h2:decide (-52≤d∧d≤52)
 ·have HD:Hid (decide (-52≤d∧d≤52)=false):=h2
  clear h2 ho
  go_enter Tryd.func7,Tryd.ntmps7
  go_wp2_with (first
   | (go_at_call 20;refine(spec_FormulaOk _ HR.out.row hn HKN.out).mono ?_;rintro z w1 ⟨rfl,hb⟩;rw [HO.out];have HB1:Hid (Below w.heap.size w w1):=hb;clear hb)
   | (go_at_call 21;refine(spec_l1In _ _ _ _).mono ?_;rintro z w3 ⟨rfl,hw⟩;subst w3;rw [HD.out]))
  refine bodyPost_ret (v:= .tuple #[.slice none 0 0,.bool false]) ?_ rfl ⟨rfl,HB1.out⟩
  simp (maxDischargeDepth:=9) [results,Tryd.results7,go_sem]
 ·have HD:Hid (decide (-52≤d∧d≤52)=true):=h2
  unfold okMovedBy at ho
  rw [h2,Bool.true_and]at ho
  have HE:Hid (decide (-99≤e∧e≤99)=false):=ho
  clear h2 ho
  go_enter Tryd.func7,Tryd.ntmps7
  go_wp2_with (first
   | (go_at_call 20;refine(spec_FormulaOk _ HR.out.row hn HKN.out).mono ?_;rintro z w1 ⟨rfl,hb⟩;rw [HO.out];have HB1:Hid (Below w.heap.size w w1):=hb;clear hb)
   | (go_at_call 21;refine(spec_l1In _ _ _ _).mono ?_;rintro z w3 ⟨rfl,hw⟩;subst w3;(first | rw [HD.out] | rw [HE.out])))
  refine bodyPost_ret (v:= .tuple #[.slice none 0 0,.bool false]) ?_ rfl ⟨rfl,HB1.out⟩
  simp (maxDischargeDepth:=9) [results,Tryd.results7,go_sem]
end Go.Proofs.YtonhcgkagdpdlaaDoor
