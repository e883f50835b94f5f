import Derived.Test.YthjpfkpcemgefaaGreatDoorMn
import Derived.Test.YthjpfkpcemgefaaGreatDoorGap
import Derived.Test.YthjpfkpcemgefaaGreatDoorPpF
import Derived.Test.YthjpfkpcemgefaaGreatDoorGzb
import Derived.Test.YthjpfkpcemgefaaGreatDoorGay
import Derived.Test.YthjpfkpcemgefaaGreatDoorGbd
import Derived.Test.YthjpfkpcemgefaaGreatDoorGbf
import Derived.Test.YthjpfkpcemgefaaGreatDoorSnA
import Derived.Test.YthjpfkpcemgefaaGreatDoorGze
import Derived.Test.YthjpfkpcemgefaaGreatDoorGbe
import Derived.Test.YthjpfkpcemgefaaGreatDoorGaf
set_option linter.unusedSimpArgs false
set_option linter.unusedVariables false
set_option maxHeartbeats 8000000
set_option maxRecDepth 100000
namespace Go.Proofs.YthjpfkpcemgefaaGreatDoor
theorem rdF_nil:rdF ⟨#[]⟩=none:=by
 unfold rdF;split
 ·cases h:PB RF 1 1 0 [] (⟨#[]⟩:ByteArray).data.toList []with
  | none=>rfl
  | some y=>
   obtain⟨x,l1,o1⟩:=y;exact absurd ((PB_len h).2 (by decide)) (Nat.not_lt_zero _)
 ·rfl
end Go.Proofs.YthjpfkpcemgefaaGreatDoor
namespace Go.Proofs.YthjpfkpcemgefaaGreatDoor
open Go.RowKit
theorem law_FnFormulaTexts (H3:FtX 3 705) (A:Option Addr) (len cap:Nat) (w:World) (hz:len≤1048576→Cd w A len) (hg:GI w):Calls Tryz.prog 3 #[.slice A len cap] w fun e w'=>
  e= .returned (.bool true)∧Below w.heap.size w w':=by
 have HG:Hid (GI w):=hg;clear hg;by_cases hbig:(1048576:Int)<(len:Int)
 ·go_enter Tryz.func3,Tryz.ntmps3;go_wp2_with fail
  refine(laws_big A len cap _).mono ?_;rintro e wq ⟨rfl,hw⟩;subst wq;go_wp2_with fail
  go_ret;exact⟨rfl,by go_grown⟩
 have HC:Hid (Cd w A len):=hz (by omega);clear hz;go_enter Tryz.func3,Tryz.ntmps3;go_wp2_with fail
 refine(laws_big A len cap _).mono ?_;rintro e wq ⟨rfl,hw⟩;subst wq;go_wp2_with fail
 refine(draw_formulaText H3 A len cap _ HC.out).mono ?_;rintro e w1 ⟨out,A1,c1,rfl,hrow,hn60,hkz,hb⟩;have K1:Hid (Below w.heap.size w w1):=hb;have R1:Hid (FnRow w1 A1 out.length (ouF out)):=hrow.row;have HKZ:Hid (∀i,i<out.length→(ouF out i).kids.length≤1048576):=hkz;have HN:Hid (out.length≤1048576):=by show _≤_;omega
 clear hb hrow hkz;go_wp2_with fail
 refine(impl_FormulaText _ R1.out HN.out HKZ.out (HG.out.below K1.out).gt).mono ?_;rintro e w2 ⟨rfl,hb⟩;have R2:=hd (R1.out.below hb);have K2:=hd (bchain K1.out hb);clear hb R1;obtain⟨t,HT⟩: ∃t,Hid (ftx (ouF out) out.length=t):=⟨_,rfl⟩;have HTS:Hid (t.size≤maxLen):=by show _≤_;rw [←HT.out];have:=ftx_size (ouF out) out.length;unfold maxLen;omega
 have hbb:(t.toList==t.toList)=true:=by simp
 rw [HT.out];go_wp2_with fail
 refine(impl_ReadFormula t _ HTS.out (HG.out.below K2.out)).mono ?_;rintro _ w3 ⟨hb,hq⟩;have R3:=hd (R2.out.below hb);have K3:=hd (bchain K2.out hb);clear hb R2;by_cases ht0:t.size=0
 ·have e1:t.toList.isEmpty=true:=emp_size ht0;rcases hq with⟨h9,rfl⟩ | ⟨out',v',ys',h9,rfl,ho',hp',hkd'⟩
  rotate_left
  ·rw [toList_nil_of ht0]at h9;exact absurd h9 (by rw [rdF_nil];exact fun e=>by cases e)
  clear h9;go_wp2_with fail
  refine(spec_FormulaText _ R3.out HN.out HKZ.out).mono ?_;rintro e w4 ⟨rfl,hb⟩;rw [HT.out];have R4:=hd (R3.out.below hb);have K4:=hd (bchain K3.out hb);clear hb R3;go_wp2_with fail
  refine(impl_FormulaOk _ R4.out HN.out HKZ.out (HG.out.below K4.out).gt.ft).mono ?_;rintro e w5 ⟨rfl,hb⟩;have R5:=hd (R4.out.below hb);have K5:=hd (bchain K4.out hb);clear hb R4;go_wp2_with fail
  refine(spec_FormulaOk _ R5.out HN.out HKZ.out).mono ?_;rintro e w6 ⟨rfl,hb⟩;have K6:=hd (bchain K5.out hb);clear hb R5;go_wp2_with fail
  go_ret;exact⟨rfl,K6.out⟩
 have e1:t.toList.isEmpty=false:=ne_nil2 (by omega);obtain⟨h1,_,h3⟩:=ftx_back (out:=out) (by rw [HT.out];exact ht0);have HOK:Hid (fOkB (ouF out) out.length=true):=h1;rw [HT.out]at h3;rcases hq with⟨h9,rfl⟩ | ⟨out',v',ys',h9,rfl,ho',hp',hkd'⟩
 ·rw [h9]at h3;cases h3
 rw [h9]at h3;cases h3
 obtain⟨g0',_,_⟩:=rd_goodI h9;obtain⟨A3,c3,rfl,hfr⟩:=fn_of_ownR ho' hp' (good_atI g0').1;have Q3:Hid (FnRow w3 A3 out.length (ouF out)):=hfr;clear h9 h1 ho' hp' hkd' hfr g0' ht0;go_wp2_with fail
 refine(spec_FormulaText _ R3.out HN.out HKZ.out).mono ?_;rintro e w4 ⟨rfl,hb⟩;rw [HT.out];have R4:=hd (R3.out.below hb);have Q4:=hd (Q3.out.below hb);have K4:=hd (bchain K3.out hb);clear hb R3 Q3
 go_wp2_with fail
 refine(impl_FormulaOk _ R4.out HN.out HKZ.out (HG.out.below K4.out).gt.ft).mono ?_;rintro e w5 ⟨rfl,hb⟩;rw [HOK.out];have R5:=hd (R4.out.below hb);have Q5:=hd (Q4.out.below hb);have K5:=hd (bchain K4.out hb);clear hb R4 Q4
 go_wp2_with fail
 refine(spec_FormulaOk _ R5.out HN.out HKZ.out).mono ?_;rintro e w6 ⟨rfl,hb⟩;rw [HOK.out];have R6:=hd (R5.out.below hb);have Q6:=hd (Q5.out.below hb);have K6:=hd (bchain K5.out hb);clear hb R5 Q5
 go_wp2_with fail
 refine(laws_sameNodes _ Q6.out R6.out).mono ?_;rintro e w7 ⟨rfl,hb⟩;have R7:=hd (R6.out.below hb);have K7:=hd (bchain K6.out hb);clear hb R6 Q6;go_wp2_with fail
 refine(impl_FormulaOk _ R7.out HN.out HKZ.out (HG.out.below K7.out).gt.ft).mono ?_;rintro e w8 ⟨rfl,hb⟩;rw [HOK.out];have K8:=hd (bchain K7.out hb);clear hb;go_wp2_with fail
 go_ret;exact⟨rfl,K8.out⟩
end Go.Proofs.YthjpfkpcemgefaaGreatDoor
