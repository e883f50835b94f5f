import Derived.Test.YthjpfkpcemgefaaGreatDoorMn
import Derived.Test.YthjpfkpcemgefaaGreatDoorPpF
import Derived.Test.YthjpfkpcemgefaaGreatDoorGzb
import Derived.Test.YthjpfkpcemgefaaGreatDoorGay
import Derived.Test.YthjpfkpcemgefaaGreatDoorGap
import Derived.Test.YthjpfkpcemgefaaGreatDoorGbd
import Derived.Test.YthjpfkpcemgefaaGreatDoorGbf
import Derived.Test.YthjpfkpcemgefaaGreatDoorSnA
set_option linter.unusedSimpArgs false
set_option linter.unusedVariables false
set_option maxHeartbeats 8000000
set_option maxRecDepth 100000
namespace Go.Proofs.YthjpfkpcemgefaaGreatDoor
open Go.RowKit
theorem row_nilD (W:World) (G:Nat→FN):FnRow W none 0 G:=⟨Nat.zero_le _,fun i hi=>absurd hi (Nat.not_lt_zero _)⟩
theorem law_FnReadFormula (H3:FtX 3 705) (A:Option Addr) (len cap:Nat) (w:World) (hz:len≤1048576→Cd w A len) (hg:GI w):Calls Tryz.prog 4 #[.slice A len cap] w fun e w'=>
  e= .returned (.bool true)∧Below w.heap.size w w':=by
 have HG:Hid (GI w):=hg;clear hg;by_cases hbig:(1048576:Int)<(len:Int)
 ·go_enter Tryz.func4,Tryz.ntmps4;go_wp2_with fail
  refine(laws_big A len cap _).mono ?_;rintro e wq ⟨rfl,hw⟩;subst wq;go_wp2_with fail
  go_ret;exact⟨rfl,by go_grown⟩
 have HC:Hid (Cd w A len):=hz (by omega);clear hz;go_enter Tryz.func4,Tryz.ntmps4;go_wp2_with fail
 refine(laws_big A len cap _).mono ?_;rintro e wq ⟨rfl,hw⟩;subst wq;go_wp2_with fail
 refine(draw_readFormula H3 A len cap _ HC.out).mono ?_;rintro e w1 ⟨s,rfl,hs,hb⟩;have K1:Hid (Below w.heap.size w w1):=hb;have HS:Hid (s.size≤maxLen):=by show _≤_;unfold maxLen;omega
 clear hb;go_wp2_with fail
 refine(impl_ReadFormula s _ HS.out (HG.out.below K1.out)).mono ?_;rintro _ w2 ⟨hb,(⟨h9,rfl⟩ | ⟨out,v,ys,h9,rfl,ho,hp,hkd⟩)⟩
 ·have HO:Hid (rdF s=none):=h9;have K2:=hd (bchain K1.out hb);clear hb h9;go_wp2_with fail
  refine(spec_ReadFormula s _ HS.out).mono ?_;rintro _ w3 ⟨hb,(⟨h9,rfl⟩ | ⟨out',v',ys',h9,rfl,ho',hp'⟩)⟩;rotate_left
  ·rw [HO.out]at h9;cases h9
  have K3:=hd (bchain K2.out hb);clear hb h9;go_wp2_with fail
  refine(laws_sameNodes (F:=ouF []) _ (row_nilD _ _) (row_nilD _ _)).mono ?_;rintro e w4 ⟨rfl,hb⟩;have K4:=hd (bchain K3.out hb);clear hb;go_wp2_with fail
  refine(laws_sameNodes (F:=ouF []) _ (row_nilD _ _) (row_nilD _ _)).mono ?_;rintro e w5 ⟨rfl,hb⟩;have K5:=hd (bchain K4.out hb);clear hb;go_wp2_with fail
  go_ret;exact⟨rfl,K5.out⟩
 have HO:Hid (rdF s=some out):=h9;have K2:=hd (bchain K1.out hb);obtain⟨g0,g1,g2⟩:=rd_goodI h9;have HOK:Hid (fOkB (ouF out) out.length=true):=g2;have HSZ:Hid (∀i,i<out.length→(ouF out i).cs.size≤maxLen):=(good_atI g0).1;have HKZ:Hid (∀i,i<out.length→(ouF out i).kids.length≤1048576):=(good_atI g0).2;have HN:Hid (out.length≤1048576):=by show _≤_;have:=good_len g0;omega
 obtain⟨A2,c2,rfl,hfr⟩:=fn_of_ownR ho hp HSZ.out;have R2:Hid (FnRow w2 A2 out.length (ouF out)):=hfr;clear hb h9 ho hp hkd hfr g0 g1 g2;go_wp2_with fail
 refine(spec_ReadFormula s _ HS.out).mono ?_;rintro _ w3 ⟨hb,(⟨h9,rfl⟩ | ⟨out',v',ys',h9,rfl,ho',hp'⟩)⟩
 ·rw [HO.out]at h9;cases h9
 rw [HO.out]at h9;cases h9
 obtain⟨A3,c3,rfl,hfr⟩:=fn_of_ownR ho' hp' HSZ.out;have R3:Hid (FnRow w3 A3 out.length (ouF out)):=hfr;have R3':=hd (R2.out.below hb);have K3:=hd (bchain K2.out hb);clear hb ho' hp' hfr R2;go_wp2_with fail
 refine(laws_sameNodes _ R3'.out R3.out).mono ?_;rintro e w4 ⟨rfl,hb⟩;have R4:=hd (R3'.out.below hb);have K4:=hd (bchain K3.out hb);clear hb R3 R3';go_wp2_with fail
 refine(impl_FormulaText _ R4.out HN.out HKZ.out (HG.out.below K4.out).gt).mono ?_;rintro e w5 ⟨rfl,hb⟩;have R5:=hd (R4.out.below hb);have K5:=hd (bchain K4.out hb);clear hb R4;obtain⟨t,HT⟩: ∃t,Hid (ftx (ouF out) out.length=t):=⟨_,rfl⟩;have HTS:Hid (t.size≤maxLen):=by show _≤_;rw [←HT.out];have:=ftx_size (ouF out) out.length;unfold maxLen;omega
 rw [HT.out];go_wp2_with fail
 refine(impl_ReadFormula t _ HTS.out (HG.out.below K5.out)).mono ?_;rintro _ w6 ⟨hb,(⟨h9,rfl⟩ | ⟨out',v',ys',h9,rfl,ho',hp',hkd'⟩)⟩
 ·have R6:=hd (R5.out.below hb);have K6:=hd (bchain K5.out hb)
  have ht0:t.size=0:=by
   by_cases e:t.size=0
   ·exact e
   ·obtain⟨_,_,h3⟩:=ftx_back (out:=out) (by rw [HT.out];exact e);rw [HT.out,h9]at h3;cases h3
  have e1:t.toList.isEmpty=true:=emp_size ht0;clear hb h9 R5;go_wp2_with fail
  refine(impl_FormulaOk _ R6.out HN.out HKZ.out (HG.out.below K6.out).gt.ft).mono ?_;rintro e w7 ⟨rfl,hb⟩;rw [HOK.out];have K7:=hd (bchain K6.out hb);clear hb;go_wp2_with fail
  go_ret;exact⟨rfl,K7.out⟩
 have R6:=hd (R5.out.below hb);have K6:=hd (bchain K5.out hb);by_cases ht0:t.size=0
 ·have e1:t.toList.isEmpty=true:=emp_size ht0;obtain⟨g0',_,_⟩:=rd_goodI h9;obtain⟨A6,c6,rfl,_⟩:=fn_of_ownR ho' hp' (good_atI g0').1;clear hb h9 R5 ho' hp' hkd' g0';go_wp2_with fail
  refine(impl_FormulaOk _ R6.out HN.out HKZ.out (HG.out.below K6.out).gt.ft).mono ?_;rintro e w7 ⟨rfl,hb⟩;rw [HOK.out];have K7:=hd (bchain K6.out hb);clear hb;go_wp2_with fail
  go_ret;exact⟨rfl,K7.out⟩
 have e1:t.toList.isEmpty=false:=ne_nil2 (by omega);obtain⟨_,_,h3⟩:=ftx_back (out:=out) (by rw [HT.out];exact ht0);rw [HT.out,h9]at h3;cases h3
 obtain⟨A6,c6,rfl,hfr⟩:=fn_of_ownR ho' hp' HSZ.out;have Q6:Hid (FnRow w6 A6 out.length (ouF out)):=hfr;clear hb h9 R5 ho' hp' hkd' hfr ht0;go_wp2_with fail
 refine(impl_FormulaOk _ R6.out HN.out HKZ.out (HG.out.below K6.out).gt.ft).mono ?_;rintro e w7 ⟨rfl,hb⟩;rw [HOK.out];have R7:=hd (R6.out.below hb);have Q7:=hd (Q6.out.below hb);have K7:=hd (bchain K6.out hb);clear hb R6 Q6
 go_wp2_with fail
 refine(laws_sameNodes _ Q7.out R7.out).mono ?_;rintro e w8 ⟨rfl,hb⟩;have K8:=hd (bchain K7.out hb);clear hb;go_wp2_with fail
 go_ret;exact⟨rfl,K8.out⟩
end Go.Proofs.YthjpfkpcemgefaaGreatDoor
