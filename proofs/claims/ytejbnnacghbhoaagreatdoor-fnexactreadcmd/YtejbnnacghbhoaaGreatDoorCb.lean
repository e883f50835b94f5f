import Derived.Test.YtejbnnacghbhoaaGreatDoorMn
import Derived.Test.YtejbnnacghbhoaaGreatDoorCa
import Derived.Test.YtejbnnacghbhoaaGreatDoorMd
set_option linter.unusedSimpArgs false
set_option linter.unusedVariables false
set_option maxHeartbeats 8000000
set_option maxRecDepth 100000
namespace Go.Proofs.YtejbnnacghbhoaaGreatDoor
open Go.RowKit
theorem impl_ReadCmd (s:ByteArray) (w:World) (hs:s.size≤1048576) (hg:RG w):Calls Tryz.prog 28 #[.string s] w fun e w'=>PostRC s (w.heap.size+1) w' e∧Below w.heap.size w w':=by
 have HG:Hid (RG w):=hg;clear hg;obtain⟨l,HL⟩: ∃l,Hid (s.data.toList=l):=⟨_,rfl⟩;obtain⟨la,HA⟩: ∃y,Hid (bs (cw 10 l)=y):=⟨_,rfl⟩;obtain⟨bh,HB⟩: ∃y,Hid (bs (cr 10 l)=y):=⟨_,rfl⟩;obtain⟨wd,HW⟩: ∃y,Hid (bs (cw 32 (cw 10 l))=y):=⟨_,rfl⟩;obtain⟨ws,HY⟩: ∃y,Hid (bs (cr 32 (cw 10 l))=y):=⟨_,rfl⟩
 obtain⟨p,HP⟩: ∃y,Hid (bs (cw 32 (cr 32 (cw 10 l)))=y):=⟨_,rfl⟩;obtain⟨q,HQ⟩: ∃y,Hid (bs (cr 32 (cr 32 (cw 10 l)))=y):=⟨_,rfl⟩;obtain⟨rb,HRB⟩: ∃y,Hid ((Yh q.data.toList).getD 0=y):=⟨_,rfl⟩;have hsl:l.length=s.size:=by rw [←HL.out];simp
 have hz1:=cw_len 10 l;have hz2:=cr_len 10 l;have hz3:=cw_len 32 (cw 10 l);have hz4:=cr_len 32 (cw 10 l);have hz5:=cw_len 32 (cr 32 (cw 10 l));have hz6:=cr_len 32 (cr 32 (cw 10 l));have zla:la.size≤1048576:=by rw [←HA.out,bs_szC];omega
 have zbh:bh.size≤1048576:=by rw [←HB.out,bs_szC];omega
 have zws:ws.size≤1048576:=by rw [←HY.out,bs_szC];omega
 have zp:p.size≤1048576:=by rw [←HP.out,bs_szC];omega
 have zq:q.size≤1048576:=by rw [←HQ.out,bs_szC];omega
 have HCM:Hid (cmI s.data.toList=if wd.data.toList= [114,117,110]then⟨1,p,⟨#[]⟩,rb,rmF bh⟩
  else if wd.data.toList= [98,114,97,110,99,104]then⟨2,p,⟨#[]⟩,rb,[]⟩
  else if wd.data.toList= [109,101,114,103,101]then⟨3,p,q,0,[]⟩
  else if wd.data.toList= [115,119,101,101,112]then⟨4,⟨#[]⟩,⟨#[]⟩,0,[]⟩else⟨0,⟨#[]⟩,⟨#[]⟩,0,[]⟩):=by
  show _=_;rw [←HRB.out,←HW.out,←HP.out,←HQ.out,←HB.out,HL.out];rfl
 have ela:la.data.toList=cw 10 l:=by rw [←HA.out];rfl
 have ews:ws.data.toList=cr 32 (cw 10 l):=by rw [←HY.out];rfl
 clear hz1 hz2 hz3 hz4 hz5 hz6 hsl;have HLA:Hid (la.data.toList=cw 10 l):=ela;have HWS:Hid (ws.data.toList=cr 32 (cw 10 l)):=ews;clear ela ews;go_enter Tryz.func28,Tryz.ntmps28;go_wp2_with fail
 obtain⟨X0,HX0⟩: ∃X,Hid (w.alloc (.cells #[.int .i64 0,.string ⟨#[]⟩,.string ⟨#[]⟩,.int .i64 0,.slice none 0 0] 45)=X):=⟨_,rfl⟩;have B0:Hid (BX X0 w.heap.size [.int .i64 0,.string ⟨#[]⟩,.string ⟨#[]⟩,.int .i64 0,.slice none 0 0]):=by rw [←HX0.out];exact bx_new w _ _
 have K0:Hid (Below w.heap.size w X0):=by rw [←HX0.out];exact(Below.refl _ _).alloc (Nat.le_refl _) _
 rw [HX0.out];clear HX0;refine(Qrb s 10 X0 hs (HG.out.below K0.out).gi.mxR).mono ?_;rintro e w1 ⟨⟨f1,rfl⟩,n1,rfl⟩;rw [HL.out,HA.out,HB.out];obtain⟨X1,HX1⟩: ∃X,Hid (X0.drewN n1=X):=⟨_,rfl⟩;have K01:Hid (Below X0.heap.size X0 X1):=by rw [←HX1.out];exact BM (Below.refl _ _) _
 have B1:Hid (BX X1 w.heap.size [.int .i64 0,.string ⟨#[]⟩,.string ⟨#[]⟩,.int .i64 0,.slice none 0 0]):=B0.out.below (by simp) K01.out;have K1:=hd (Qc K0.out K01.out);rw [HX1.out];clear HX1 B0 K0 K01;go_wp2_with fail
 refine(Qrb la 32 X1 zla (HG.out.below K1.out).gi.mxR).mono ?_;rintro e w2 ⟨⟨f2,rfl⟩,n2,rfl⟩;rw [HLA.out,HW.out,HY.out];obtain⟨X2,HX2⟩: ∃X,Hid (X1.drewN n2=X):=⟨_,rfl⟩;have K12:Hid (Below X1.heap.size X1 X2):=by rw [←HX2.out];exact BM (Below.refl _ _) _
 have B2:Hid (BX X2 w.heap.size [.int .i64 0,.string ⟨#[]⟩,.string ⟨#[]⟩,.int .i64 0,.slice none 0 0]):=B1.out.below (by simp) K12.out;have K2:=hd (Qc K1.out K12.out);rw [HX2.out];clear HX2 B1 K1 K12;go_wp2_with fail
 refine(Qrb ws 32 X2 zws (HG.out.below K2.out).gi.mxR).mono ?_;rintro e w3 ⟨⟨f3,rfl⟩,n3,rfl⟩;rw [HWS.out,HP.out,HQ.out];obtain⟨X3,HX3⟩: ∃X,Hid (X2.drewN n3=X):=⟨_,rfl⟩;have K23:Hid (Below X2.heap.size X2 X3):=by rw [←HX3.out];exact BM (Below.refl _ _) _
 have B3:Hid (BX X3 w.heap.size [.int .i64 0,.string ⟨#[]⟩,.string ⟨#[]⟩,.int .i64 0,.slice none 0 0]):=B2.out.below (by simp) K23.out;have K3:=hd (Qc K2.out K23.out);rw [HX3.out];clear HX3 B2 K2 K23 HLA HWS;obtain⟨b1,HB1⟩: ∃b1,Hid (X3.heap.size=b1):=⟨_,rfl⟩;obtain⟨Z,HZ⟩: ∃X,Hid (X3.alloc (.cells #[.int .i64 0,.string ⟨#[]⟩,.string ⟨#[]⟩,.int .i64 0,.slice none 0 0] 45)=X):=⟨_,rfl⟩;have CZ:Hid (BX Z b1 [.int .i64 0,.string ⟨#[]⟩,.string ⟨#[]⟩,.int .i64 0,.slice none 0 0]):=by rw [←HZ.out,←HB1.out];exact bx_new X3 _ _
 have K3Z:Hid (Below X3.heap.size X3 Z):=by rw [←HZ.out];exact(Below.refl _ _).alloc (Nat.le_refl _) _
 have BZ:Hid (BX Z w.heap.size [.int .i64 0,.string ⟨#[]⟩,.string ⟨#[]⟩,.int .i64 0,.slice none 0 0]):=B3.out.below (by simp) K3Z.out;have KZ:=hd (Qc K3.out K3Z.out);have hlt1:w.heap.size<b1:=by have:=B3.out.lt (by simp);have:=HB1.out;omega
 have hne1: ¬b1=w.heap.size:=by omega
 have hne2: ¬w.heap.size=b1:=by omega
 clear K3Z B3 K3;go_upto_region 5 with fail
 rw [HZ.out,HB1.out];clear HZ;have HSP0:Hid (p.size≤maxLen):=by show _≤_;unfold maxLen;omega
 have HSQ0:Hid (q.size≤maxLen):=by show _≤_;unfold maxLen;omega
 have HE0:Hid ((⟨#[]⟩:ByteArray).size≤maxLen):=Nat.zero_le _;have hlbZ:b1<Z.heap.size:=CZ.out.lt (by simp);by_cases w1:wd.data.toList= [114,117,110]
 ·have HC:Hid (cmI s.data.toList=⟨1,p,⟨#[]⟩,rb,rmF bh⟩):=by show _=_;rw [HCM.out,if_pos w1]
  obtain rfl:wd=⟨#[114,117,110]⟩:=by rw [←bs_self wd,w1];rfl
  clear HCM w1;have HSP:=HSP0;have HSQ:=HE0
  go_upto_region 8 with(first
   | (refine stoB CZ.out [.int .i64 1,.string p,.string ⟨#[]⟩,.int .i64 0,.slice none 0 0] (by simp) rfl 45 _ _ rfl rfl rfl infoCm5 rfl ?_;intro Y1 hBY hbY hzY hkY;have C1:Hid (BX Y1 b1 [.int .i64 1,.string p,.string ⟨#[]⟩,.int .i64 0,.slice none 0 0]):=hBY;have G1:Hid (BX Y1 w.heap.size [.int .i64 0,.string ⟨#[]⟩,.string ⟨#[]⟩,.int .i64 0,.slice none 0 0]):=BZ.out.at (hkY _ hne2);have L1:Hid (Below w.heap.size w Y1):=KZ.out.trans (hbY.mono (by omega));clear hBY hbY hzY hkY)
   | fail)
  clear CZ BZ KZ;go_wp2_with fail
  refine(XE q Y1 (by omega) (HG.out.below L1.out).gi.vs).mono ?_;rintro e U ⟨rfl,hb⟩;rw [HRB.out];generalize (Yh q.data.toList).isSome=z1
  have C2:Hid (BX U b1 [.int .i64 1,.string p,.string ⟨#[]⟩,.int .i64 0,.slice none 0 0]):=C1.out.below (by simp) hb;have G2:Hid (BX U w.heap.size [.int .i64 0,.string ⟨#[]⟩,.string ⟨#[]⟩,.int .i64 0,.slice none 0 0]):=G1.out.below (by simp) hb;have L2:=hd (Qc L1.out hb);have c3:=(C2.out 3 _ rfl).1;have g3:=(C2.out 3 _ rfl).2;clear hb C1 G1 L1;obtain⟨V,HV⟩: ∃X,Hid (U.setCell ⟨b1,3,none⟩ (.int .i64 rb)=X):=⟨_,rfl⟩
  have C3:Hid (BX V b1 [.int .i64 1,.string p,.string ⟨#[]⟩,.int .i64 rb,.slice none 0 0]):=by rw [←HV.out];exact C2.out.set 3 _ (by simp)
  have G3:Hid (BX V w.heap.size [.int .i64 0,.string ⟨#[]⟩,.string ⟨#[]⟩,.int .i64 0,.slice none 0 0]):=by rw [←HV.out];exact G2.out.at (Below.heap_setCell _ _ _ _ hne2)
  have L3:Hid (Below w.heap.size w V):=by rw [←HV.out];exact L2.out.setCell (p:=⟨b1,3,none⟩) (Nat.le_of_lt hlt1) _
  go_upto_region 9 with fail
  rw [HV.out];clear c3 g3 C2 G2 L2 HV;go_wp2_with fail
  refine(impl_ReadMacro bh V zbh (HG.out.below L3.out)).mono ?_;rintro e U ⟨hp,hb⟩;obtain⟨A9,c9,rfl,ho⟩:=hp.out;obtain⟨L,HLL⟩: ∃L,Hid (rmF bh=L):=⟨_,rfl⟩;obtain⟨n,HLN⟩: ∃n,Hid (L.length=n):=⟨_,rfl⟩;have HLS:Hid (∀i,i<L.length→(sT L i).size≤1048576):=by rw [←HLL.out];exact rmF_szM zbh
  rw [HLL.out]at HC;rw [HLL.out,HLN.out]at ho ⊢;generalize rmB bh=z2
  have C4:Hid (BX U b1 [.int .i64 1,.string p,.string ⟨#[]⟩,.int .i64 rb,.slice none 0 0]):=C3.out.below (by simp) hb;have G4:Hid (BX U w.heap.size [.int .i64 0,.string ⟨#[]⟩,.string ⟨#[]⟩,.int .i64 0,.slice none 0 0]):=G3.out.below (by simp) hb;have L4:=hd (Qc L3.out hb);have hlV:b1<V.heap.size:=C3.out.lt (by simp);have O4:Hid (U.ownsRow V.heap.size 69 5 (.slice A9 n c9) n (QC srC L)):=ho;have c4:=(C4.out 4 _ rfl).1;have g4:=(C4.out 4 _ rfl).2
  clear hb hp ho C3 G3 L3;obtain⟨WX,HWX⟩: ∃X,Hid (U.setCell ⟨b1,4,none⟩ (.slice A9 n c9)=X):=⟨_,rfl⟩;have CX:Hid (BX WX b1 [.int .i64 1,.string p,.string ⟨#[]⟩,.int .i64 rb,.slice A9 n c9]):=by rw [←HWX.out];exact C4.out.set 4 _ (by simp)
  have BX0:Hid (BX WX w.heap.size [.int .i64 0,.string ⟨#[]⟩,.string ⟨#[]⟩,.int .i64 0,.slice none 0 0]):=by rw [←HWX.out];exact G4.out.at (Below.heap_setCell _ _ _ _ hne2)
  have KX:Hid (Below w.heap.size w WX):=by rw [←HWX.out];exact L4.out.setCell (p:=⟨b1,4,none⟩) (Nat.le_of_lt hlt1) _
  have OX:Hid (WX.ownsRow (w.heap.size+1) 69 5 (.slice A9 n c9) n (QC srC L)):=by
   rw [←HWX.out];exact ZP (own_setC O4.out hlV ((Below.refl _ _).setCell (p:=⟨b1,4,none⟩) (Nat.le_refl _) _) (by simp) (fun k hk=>Below.heap_setCell _ _ _ _ hk)) (by omega)
  go_upto_region 17 with fail
  rw [HWX.out];clear c4 g4 C4 G4 L4 O4 HWX
  go_wp2_with (first
   | (refine loaB CX.out [.int .i64 1,.string p,.string ⟨#[]⟩,.int .i64 rb,.slice A9 n c9] (fun j hj=>by rw [Nat.zero_add]) rfl 45 _ rfl rfl _ Tryz.underlying45 rfl infoCm5 ?_)
   | fail)
  refine(impl_CmdTextR 1 p ⟨#[]⟩ rb WX HSP.out HSQ.out HLN.out (ms_of_sr OX.out HLN.out (fun i hi=>by have:=HLS.out i hi;unfold maxLen;omega)) HLS.out (HG.out.below KX.out)).mono ?_;rintro e U ⟨rfl,hb⟩;obtain⟨t,HT⟩: ∃t,Hid (cmL ⟨1,p,⟨#[]⟩,rb,L⟩=t):=⟨_,rfl⟩;rw [HT.out];have CU:Hid (BX U b1 [.int .i64 1,.string p,.string ⟨#[]⟩,.int .i64 rb,.slice A9 n c9]):=CX.out.below (by simp) hb;have BU:Hid (BX U w.heap.size [.int .i64 0,.string ⟨#[]⟩,.string ⟨#[]⟩,.int .i64 0,.slice none 0 0]):=BX0.out.below (by simp) hb;have OU:=hd (Qi OX.out hb)
  have KU:=hd (Qc KX.out hb);clear hb CX BX0 OX KX;cases he:t.toList.isEmpty
  ·cases hs9:t.toList==s.toList
   ·have HF:Hid (rcB s=false):=rc_other HC.out HT.out hs9
    go_wp2_with (first
     | (refine stoB BU.out [.int .i64 0,.string ⟨#[]⟩,.string ⟨#[]⟩,.int .i64 0,.slice none 0 0] (by simp) rfl 45 _ _ rfl rfl rfl infoCm5 rfl ?_;intro Y hBY hbY hzY hkY;have d0:=(hBY 0 _ rfl).1;have d1:=(hBY 1 _ rfl).1;have d2:=(hBY 2 _ rfl).1;have d3:=(hBY 3 _ rfl).1;have d4:=(hBY 4 _ rfl).1;have KY:Hid (Below w.heap.size w Y):=KU.out.trans hbY;clear hBY hbY hzY hkY)
     | fail)
    clear hs9 he;refine bodyPost_ret (v:= .tuple #[.agg #[.int .i64 0,.string ⟨#[]⟩,.string ⟨#[]⟩,.int .i64 0,.slice none 0 0],.bool false]) ?_ rfl ⟨post_no HF.out rfl,KY.out⟩;simp (maxDischargeDepth:=9) [results,Tryz.results28,go_sem, *]
   ·have HF:Hid (rcB s=true):=rc_yes HC.out HT.out he hs9
    go_wp2_with (first
     | (refine loaB CU.out [.int .i64 1,.string p,.string ⟨#[]⟩,.int .i64 rb,.slice A9 n c9] (fun j hj=>by rw [Nat.zero_add]) rfl 45 _ rfl rfl _ Tryz.underlying45 rfl infoCm5 ?_)
     | (refine stoB BU.out [.int .i64 1,.string p,.string ⟨#[]⟩,.int .i64 rb,.slice A9 n c9] (by simp) rfl 45 _ _ rfl rfl rfl infoCm5 rfl ?_;intro Y hBY hbY hzY hkY;have d0:=(hBY 0 _ rfl).1;have d1:=(hBY 1 _ rfl).1;have d2:=(hBY 2 _ rfl).1;have d3:=(hBY 3 _ rfl).1;have d4:=(hBY 4 _ rfl).1;have KY:Hid (Below w.heap.size w Y):=KU.out.trans hbY;have OY:Hid (Y.ownsRow (w.heap.size+1) 69 5 (.slice A9 n c9) n (QC srC L)):=own_setC OU.out (by omega) hbY hzY hkY;clear hBY hbY hzY hkY)
     | fail)
    clear hs9 he;refine bodyPost_ret (v:= .tuple #[.agg #[.int .i64 1,.string p,.string ⟨#[]⟩,.int .i64 rb,.slice A9 n c9],.bool true]) ?_ rfl ⟨post_yes HF.out HC.out HLN.out OY.out rfl,KY.out⟩;simp (maxDischargeDepth:=9) [results,Tryz.results28,go_sem, *]
  ·have HF:Hid (rcB s=false):=rc_none HC.out HT.out he
   go_wp2_with (first
    | (refine stoB BU.out [.int .i64 0,.string ⟨#[]⟩,.string ⟨#[]⟩,.int .i64 0,.slice none 0 0] (by simp) rfl 45 _ _ rfl rfl rfl infoCm5 rfl ?_;intro Y hBY hbY hzY hkY;have d0:=(hBY 0 _ rfl).1;have d1:=(hBY 1 _ rfl).1;have d2:=(hBY 2 _ rfl).1;have d3:=(hBY 3 _ rfl).1;have d4:=(hBY 4 _ rfl).1;have KY:Hid (Below w.heap.size w Y):=KU.out.trans hbY;clear hBY hbY hzY hkY)
    | fail)
   clear he;refine bodyPost_ret (v:= .tuple #[.agg #[.int .i64 0,.string ⟨#[]⟩,.string ⟨#[]⟩,.int .i64 0,.slice none 0 0],.bool false]) ?_ rfl ⟨post_no HF.out rfl,KY.out⟩;simp (maxDischargeDepth:=9) [results,Tryz.results28,go_sem, *]
 by_cases w2:wd.data.toList= [98,114,97,110,99,104]
 ·have HC:Hid (cmI s.data.toList=⟨2,p,⟨#[]⟩,rb,[]⟩):=by show _=_;rw [HCM.out,if_neg w1,if_pos w2]
  obtain rfl:wd=⟨#[98,114,97,110,99,104]⟩:=by rw [←bs_self wd,w2];rfl
  clear HCM w1 w2;have HSP:=HSP0;have HSQ:=HE0
  go_upto_region 12 with(first
   | (refine stoB CZ.out [.int .i64 2,.string p,.string ⟨#[]⟩,.int .i64 0,.slice none 0 0] (by simp) rfl 45 _ _ rfl rfl rfl infoCm5 rfl ?_;intro Y1 hBY hbY hzY hkY;have C1:Hid (BX Y1 b1 [.int .i64 2,.string p,.string ⟨#[]⟩,.int .i64 0,.slice none 0 0]):=hBY;have G1:Hid (BX Y1 w.heap.size [.int .i64 0,.string ⟨#[]⟩,.string ⟨#[]⟩,.int .i64 0,.slice none 0 0]):=BZ.out.at (hkY _ hne2);have L1:Hid (Below w.heap.size w Y1):=KZ.out.trans (hbY.mono (by omega));clear hBY hbY hzY hkY)
   | fail)
  clear CZ BZ KZ;go_wp2_with fail
  refine(XE q Y1 (by omega) (HG.out.below L1.out).gi.vs).mono ?_;rintro e U ⟨rfl,hb⟩;rw [HRB.out];generalize (Yh q.data.toList).isSome=z1
  have C2:Hid (BX U b1 [.int .i64 2,.string p,.string ⟨#[]⟩,.int .i64 0,.slice none 0 0]):=C1.out.below (by simp) hb;have G2:Hid (BX U w.heap.size [.int .i64 0,.string ⟨#[]⟩,.string ⟨#[]⟩,.int .i64 0,.slice none 0 0]):=G1.out.below (by simp) hb;have L2:=hd (Qc L1.out hb);have c3:=(C2.out 3 _ rfl).1;have g3:=(C2.out 3 _ rfl).2;clear hb C1 G1 L1;obtain⟨WX,HV⟩: ∃X,Hid (U.setCell ⟨b1,3,none⟩ (.int .i64 rb)=X):=⟨_,rfl⟩
  have CX:Hid (BX WX b1 [.int .i64 2,.string p,.string ⟨#[]⟩,.int .i64 rb,.slice none 0 0]):=by rw [←HV.out];exact C2.out.set 3 _ (by simp)
  have BX0:Hid (BX WX w.heap.size [.int .i64 0,.string ⟨#[]⟩,.string ⟨#[]⟩,.int .i64 0,.slice none 0 0]):=by rw [←HV.out];exact G2.out.at (Below.heap_setCell _ _ _ _ hne2)
  have KX:Hid (Below w.heap.size w WX):=by rw [←HV.out];exact L2.out.setCell (p:=⟨b1,3,none⟩) (Nat.le_of_lt hlt1) _
  go_upto_region 17 with fail
  rw [HV.out];clear c3 g3 C2 G2 L2 HV;have HLN:Hid (([]:List SR).length=0):=rfl;have HLS:Hid (∀i,i<([]:List SR).length→(sT [] i).size≤1048576):=fun i hi=>absurd hi (Nat.not_lt_zero _);have OX:Hid (WX.ownsRow (w.heap.size+1) 69 5 (.slice none 0 0) 0 (QC srC [])):=World.ownsRow_nil _ _ _ _
  go_wp2_with (first
   | (refine loaB CX.out [.int .i64 2,.string p,.string ⟨#[]⟩,.int .i64 rb,.slice none 0 0] (fun j hj=>by rw [Nat.zero_add]) rfl 45 _ rfl rfl _ Tryz.underlying45 rfl infoCm5 ?_)
   | fail)
  refine(impl_CmdTextR 2 p ⟨#[]⟩ rb WX HSP.out HSQ.out HLN.out (ms_of_sr OX.out HLN.out (fun i hi=>by have:=HLS.out i hi;unfold maxLen;omega)) HLS.out (HG.out.below KX.out)).mono ?_;rintro e U ⟨rfl,hb⟩;obtain⟨t,HT⟩: ∃t,Hid (cmL ⟨2,p,⟨#[]⟩,rb,[]⟩=t):=⟨_,rfl⟩;rw [HT.out];have CU:Hid (BX U b1 [.int .i64 2,.string p,.string ⟨#[]⟩,.int .i64 rb,.slice none 0 0]):=CX.out.below (by simp) hb;have BU:Hid (BX U w.heap.size [.int .i64 0,.string ⟨#[]⟩,.string ⟨#[]⟩,.int .i64 0,.slice none 0 0]):=BX0.out.below (by simp) hb;have OU:=hd (Qi OX.out hb)
  have KU:=hd (Qc KX.out hb);clear hb CX BX0 OX KX;cases he:t.toList.isEmpty
  ·cases hs9:t.toList==s.toList
   ·have HF:Hid (rcB s=false):=rc_other HC.out HT.out hs9
    go_wp2_with (first
     | (refine stoB BU.out [.int .i64 0,.string ⟨#[]⟩,.string ⟨#[]⟩,.int .i64 0,.slice none 0 0] (by simp) rfl 45 _ _ rfl rfl rfl infoCm5 rfl ?_;intro Y hBY hbY hzY hkY;have d0:=(hBY 0 _ rfl).1;have d1:=(hBY 1 _ rfl).1;have d2:=(hBY 2 _ rfl).1;have d3:=(hBY 3 _ rfl).1;have d4:=(hBY 4 _ rfl).1;have KY:Hid (Below w.heap.size w Y):=KU.out.trans hbY;clear hBY hbY hzY hkY)
     | fail)
    clear hs9 he;refine bodyPost_ret (v:= .tuple #[.agg #[.int .i64 0,.string ⟨#[]⟩,.string ⟨#[]⟩,.int .i64 0,.slice none 0 0],.bool false]) ?_ rfl ⟨post_no HF.out rfl,KY.out⟩;simp (maxDischargeDepth:=9) [results,Tryz.results28,go_sem, *]
   ·have HF:Hid (rcB s=true):=rc_yes HC.out HT.out he hs9
    go_wp2_with (first
     | (refine loaB CU.out [.int .i64 2,.string p,.string ⟨#[]⟩,.int .i64 rb,.slice none 0 0] (fun j hj=>by rw [Nat.zero_add]) rfl 45 _ rfl rfl _ Tryz.underlying45 rfl infoCm5 ?_)
     | (refine stoB BU.out [.int .i64 2,.string p,.string ⟨#[]⟩,.int .i64 rb,.slice none 0 0] (by simp) rfl 45 _ _ rfl rfl rfl infoCm5 rfl ?_;intro Y hBY hbY hzY hkY;have d0:=(hBY 0 _ rfl).1;have d1:=(hBY 1 _ rfl).1;have d2:=(hBY 2 _ rfl).1;have d3:=(hBY 3 _ rfl).1;have d4:=(hBY 4 _ rfl).1;have KY:Hid (Below w.heap.size w Y):=KU.out.trans hbY;have OY:Hid (Y.ownsRow (w.heap.size+1) 69 5 (.slice none 0 0) 0 (QC srC [])):=own_setC OU.out (by omega) hbY hzY hkY;clear hBY hbY hzY hkY)
     | fail)
    clear hs9 he;refine bodyPost_ret (v:= .tuple #[.agg #[.int .i64 2,.string p,.string ⟨#[]⟩,.int .i64 rb,.slice none 0 0],.bool true]) ?_ rfl ⟨post_yes HF.out HC.out HLN.out OY.out rfl,KY.out⟩;simp (maxDischargeDepth:=9) [results,Tryz.results28,go_sem, *]
  ·have HF:Hid (rcB s=false):=rc_none HC.out HT.out he
   go_wp2_with (first
    | (refine stoB BU.out [.int .i64 0,.string ⟨#[]⟩,.string ⟨#[]⟩,.int .i64 0,.slice none 0 0] (by simp) rfl 45 _ _ rfl rfl rfl infoCm5 rfl ?_;intro Y hBY hbY hzY hkY;have d0:=(hBY 0 _ rfl).1;have d1:=(hBY 1 _ rfl).1;have d2:=(hBY 2 _ rfl).1;have d3:=(hBY 3 _ rfl).1;have d4:=(hBY 4 _ rfl).1;have KY:Hid (Below w.heap.size w Y):=KU.out.trans hbY;clear hBY hbY hzY hkY)
    | fail)
   clear he;refine bodyPost_ret (v:= .tuple #[.agg #[.int .i64 0,.string ⟨#[]⟩,.string ⟨#[]⟩,.int .i64 0,.slice none 0 0],.bool false]) ?_ rfl ⟨post_no HF.out rfl,KY.out⟩;simp (maxDischargeDepth:=9) [results,Tryz.results28,go_sem, *]
 by_cases w3:wd.data.toList= [109,101,114,103,101]
 ·have HC:Hid (cmI s.data.toList=⟨3,p,q,0,[]⟩):=by show _=_;rw [HCM.out,if_neg w1,if_neg w2,if_pos w3]
  obtain rfl:wd=⟨#[109,101,114,103,101]⟩:=by rw [←bs_self wd,w3];rfl
  clear HCM w1 w2 w3;have HSP:=HSP0;have HSQ:=HSQ0
  go_upto_region 17 with(first
   | (refine stoB CZ.out [.int .i64 3,.string p,.string q,.int .i64 0,.slice none 0 0] (by simp) rfl 45 _ _ rfl rfl rfl infoCm5 rfl ?_;intro WX hBY hbY hzY hkY;have CX:Hid (BX WX b1 [.int .i64 3,.string p,.string q,.int .i64 0,.slice none 0 0]):=hBY;have BX0:Hid (BX WX w.heap.size [.int .i64 0,.string ⟨#[]⟩,.string ⟨#[]⟩,.int .i64 0,.slice none 0 0]):=BZ.out.at (hkY _ hne2);have KX:Hid (Below w.heap.size w WX):=KZ.out.trans (hbY.mono (by omega));clear hBY hbY hzY hkY)
   | fail)
  clear CZ BZ KZ;have HLN:Hid (([]:List SR).length=0):=rfl;have HLS:Hid (∀i,i<([]:List SR).length→(sT [] i).size≤1048576):=fun i hi=>absurd hi (Nat.not_lt_zero _);have OX:Hid (WX.ownsRow (w.heap.size+1) 69 5 (.slice none 0 0) 0 (QC srC [])):=World.ownsRow_nil _ _ _ _
  go_wp2_with (first
   | (refine loaB CX.out [.int .i64 3,.string p,.string q,.int .i64 0,.slice none 0 0] (fun j hj=>by rw [Nat.zero_add]) rfl 45 _ rfl rfl _ Tryz.underlying45 rfl infoCm5 ?_)
   | fail)
  refine(impl_CmdTextR 3 p q 0 WX HSP.out HSQ.out HLN.out (ms_of_sr OX.out HLN.out (fun i hi=>by have:=HLS.out i hi;unfold maxLen;omega)) HLS.out (HG.out.below KX.out)).mono ?_;rintro e U ⟨rfl,hb⟩;obtain⟨t,HT⟩: ∃t,Hid (cmL ⟨3,p,q,0,[]⟩=t):=⟨_,rfl⟩;rw [HT.out];have CU:Hid (BX U b1 [.int .i64 3,.string p,.string q,.int .i64 0,.slice none 0 0]):=CX.out.below (by simp) hb;have BU:Hid (BX U w.heap.size [.int .i64 0,.string ⟨#[]⟩,.string ⟨#[]⟩,.int .i64 0,.slice none 0 0]):=BX0.out.below (by simp) hb;have OU:=hd (Qi OX.out hb)
  have KU:=hd (Qc KX.out hb);clear hb CX BX0 OX KX;cases he:t.toList.isEmpty
  ·cases hs9:t.toList==s.toList
   ·have HF:Hid (rcB s=false):=rc_other HC.out HT.out hs9
    go_wp2_with (first
     | (refine stoB BU.out [.int .i64 0,.string ⟨#[]⟩,.string ⟨#[]⟩,.int .i64 0,.slice none 0 0] (by simp) rfl 45 _ _ rfl rfl rfl infoCm5 rfl ?_;intro Y hBY hbY hzY hkY;have d0:=(hBY 0 _ rfl).1;have d1:=(hBY 1 _ rfl).1;have d2:=(hBY 2 _ rfl).1;have d3:=(hBY 3 _ rfl).1;have d4:=(hBY 4 _ rfl).1;have KY:Hid (Below w.heap.size w Y):=KU.out.trans hbY;clear hBY hbY hzY hkY)
     | fail)
    clear hs9 he;refine bodyPost_ret (v:= .tuple #[.agg #[.int .i64 0,.string ⟨#[]⟩,.string ⟨#[]⟩,.int .i64 0,.slice none 0 0],.bool false]) ?_ rfl ⟨post_no HF.out rfl,KY.out⟩;simp (maxDischargeDepth:=9) [results,Tryz.results28,go_sem, *]
   ·have HF:Hid (rcB s=true):=rc_yes HC.out HT.out he hs9
    go_wp2_with (first
     | (refine loaB CU.out [.int .i64 3,.string p,.string q,.int .i64 0,.slice none 0 0] (fun j hj=>by rw [Nat.zero_add]) rfl 45 _ rfl rfl _ Tryz.underlying45 rfl infoCm5 ?_)
     | (refine stoB BU.out [.int .i64 3,.string p,.string q,.int .i64 0,.slice none 0 0] (by simp) rfl 45 _ _ rfl rfl rfl infoCm5 rfl ?_;intro Y hBY hbY hzY hkY;have d0:=(hBY 0 _ rfl).1;have d1:=(hBY 1 _ rfl).1;have d2:=(hBY 2 _ rfl).1;have d3:=(hBY 3 _ rfl).1;have d4:=(hBY 4 _ rfl).1;have KY:Hid (Below w.heap.size w Y):=KU.out.trans hbY;have OY:Hid (Y.ownsRow (w.heap.size+1) 69 5 (.slice none 0 0) 0 (QC srC [])):=own_setC OU.out (by omega) hbY hzY hkY;clear hBY hbY hzY hkY)
     | fail)
    clear hs9 he;refine bodyPost_ret (v:= .tuple #[.agg #[.int .i64 3,.string p,.string q,.int .i64 0,.slice none 0 0],.bool true]) ?_ rfl ⟨post_yes HF.out HC.out HLN.out OY.out rfl,KY.out⟩;simp (maxDischargeDepth:=9) [results,Tryz.results28,go_sem, *]
  ·have HF:Hid (rcB s=false):=rc_none HC.out HT.out he
   go_wp2_with (first
    | (refine stoB BU.out [.int .i64 0,.string ⟨#[]⟩,.string ⟨#[]⟩,.int .i64 0,.slice none 0 0] (by simp) rfl 45 _ _ rfl rfl rfl infoCm5 rfl ?_;intro Y hBY hbY hzY hkY;have d0:=(hBY 0 _ rfl).1;have d1:=(hBY 1 _ rfl).1;have d2:=(hBY 2 _ rfl).1;have d3:=(hBY 3 _ rfl).1;have d4:=(hBY 4 _ rfl).1;have KY:Hid (Below w.heap.size w Y):=KU.out.trans hbY;clear hBY hbY hzY hkY)
    | fail)
   clear he;refine bodyPost_ret (v:= .tuple #[.agg #[.int .i64 0,.string ⟨#[]⟩,.string ⟨#[]⟩,.int .i64 0,.slice none 0 0],.bool false]) ?_ rfl ⟨post_no HF.out rfl,KY.out⟩;simp (maxDischargeDepth:=9) [results,Tryz.results28,go_sem, *]
 by_cases w4:wd.data.toList= [115,119,101,101,112]
 ·have HC:Hid (cmI s.data.toList=⟨4,⟨#[]⟩,⟨#[]⟩,0,[]⟩):=by show _=_;rw [HCM.out,if_neg w1,if_neg w2,if_neg w3,if_pos w4]
  obtain rfl:wd=⟨#[115,119,101,101,112]⟩:=by rw [←bs_self wd,w4];rfl
  clear HCM w1 w2 w3 w4;have HSP:=HE0;have HSQ:=HE0
  go_upto_region 17 with(first
   | (refine stoB CZ.out [.int .i64 4,.string ⟨#[]⟩,.string ⟨#[]⟩,.int .i64 0,.slice none 0 0] (by simp) rfl 45 _ _ rfl rfl rfl infoCm5 rfl ?_;intro WX hBY hbY hzY hkY;have CX:Hid (BX WX b1 [.int .i64 4,.string ⟨#[]⟩,.string ⟨#[]⟩,.int .i64 0,.slice none 0 0]):=hBY;have BX0:Hid (BX WX w.heap.size [.int .i64 0,.string ⟨#[]⟩,.string ⟨#[]⟩,.int .i64 0,.slice none 0 0]):=BZ.out.at (hkY _ hne2);have KX:Hid (Below w.heap.size w WX):=KZ.out.trans (hbY.mono (by omega));clear hBY hbY hzY hkY)
   | fail)
  clear CZ BZ KZ;have HLN:Hid (([]:List SR).length=0):=rfl;have HLS:Hid (∀i,i<([]:List SR).length→(sT [] i).size≤1048576):=fun i hi=>absurd hi (Nat.not_lt_zero _);have OX:Hid (WX.ownsRow (w.heap.size+1) 69 5 (.slice none 0 0) 0 (QC srC [])):=World.ownsRow_nil _ _ _ _
  go_wp2_with (first
   | (refine loaB CX.out [.int .i64 4,.string ⟨#[]⟩,.string ⟨#[]⟩,.int .i64 0,.slice none 0 0] (fun j hj=>by rw [Nat.zero_add]) rfl 45 _ rfl rfl _ Tryz.underlying45 rfl infoCm5 ?_)
   | fail)
  refine(impl_CmdTextR 4 ⟨#[]⟩ ⟨#[]⟩ 0 WX HSP.out HSQ.out HLN.out (ms_of_sr OX.out HLN.out (fun i hi=>by have:=HLS.out i hi;unfold maxLen;omega)) HLS.out (HG.out.below KX.out)).mono ?_;rintro e U ⟨rfl,hb⟩;obtain⟨t,HT⟩: ∃t,Hid (cmL ⟨4,⟨#[]⟩,⟨#[]⟩,0,[]⟩=t):=⟨_,rfl⟩;rw [HT.out];have CU:Hid (BX U b1 [.int .i64 4,.string ⟨#[]⟩,.string ⟨#[]⟩,.int .i64 0,.slice none 0 0]):=CX.out.below (by simp) hb;have BU:Hid (BX U w.heap.size [.int .i64 0,.string ⟨#[]⟩,.string ⟨#[]⟩,.int .i64 0,.slice none 0 0]):=BX0.out.below (by simp) hb;have OU:=hd (Qi OX.out hb)
  have KU:=hd (Qc KX.out hb);clear hb CX BX0 OX KX;cases he:t.toList.isEmpty
  ·cases hs9:t.toList==s.toList
   ·have HF:Hid (rcB s=false):=rc_other HC.out HT.out hs9
    go_wp2_with (first
     | (refine stoB BU.out [.int .i64 0,.string ⟨#[]⟩,.string ⟨#[]⟩,.int .i64 0,.slice none 0 0] (by simp) rfl 45 _ _ rfl rfl rfl infoCm5 rfl ?_;intro Y hBY hbY hzY hkY;have d0:=(hBY 0 _ rfl).1;have d1:=(hBY 1 _ rfl).1;have d2:=(hBY 2 _ rfl).1;have d3:=(hBY 3 _ rfl).1;have d4:=(hBY 4 _ rfl).1;have KY:Hid (Below w.heap.size w Y):=KU.out.trans hbY;clear hBY hbY hzY hkY)
     | fail)
    clear hs9 he;refine bodyPost_ret (v:= .tuple #[.agg #[.int .i64 0,.string ⟨#[]⟩,.string ⟨#[]⟩,.int .i64 0,.slice none 0 0],.bool false]) ?_ rfl ⟨post_no HF.out rfl,KY.out⟩;simp (maxDischargeDepth:=9) [results,Tryz.results28,go_sem, *]
   ·have HF:Hid (rcB s=true):=rc_yes HC.out HT.out he hs9
    go_wp2_with (first
     | (refine loaB CU.out [.int .i64 4,.string ⟨#[]⟩,.string ⟨#[]⟩,.int .i64 0,.slice none 0 0] (fun j hj=>by rw [Nat.zero_add]) rfl 45 _ rfl rfl _ Tryz.underlying45 rfl infoCm5 ?_)
     | (refine stoB BU.out [.int .i64 4,.string ⟨#[]⟩,.string ⟨#[]⟩,.int .i64 0,.slice none 0 0] (by simp) rfl 45 _ _ rfl rfl rfl infoCm5 rfl ?_;intro Y hBY hbY hzY hkY;have d0:=(hBY 0 _ rfl).1;have d1:=(hBY 1 _ rfl).1;have d2:=(hBY 2 _ rfl).1;have d3:=(hBY 3 _ rfl).1;have d4:=(hBY 4 _ rfl).1;have KY:Hid (Below w.heap.size w Y):=KU.out.trans hbY;have OY:Hid (Y.ownsRow (w.heap.size+1) 69 5 (.slice none 0 0) 0 (QC srC [])):=own_setC OU.out (by omega) hbY hzY hkY;clear hBY hbY hzY hkY)
     | fail)
    clear hs9 he;refine bodyPost_ret (v:= .tuple #[.agg #[.int .i64 4,.string ⟨#[]⟩,.string ⟨#[]⟩,.int .i64 0,.slice none 0 0],.bool true]) ?_ rfl ⟨post_yes HF.out HC.out HLN.out OY.out rfl,KY.out⟩;simp (maxDischargeDepth:=9) [results,Tryz.results28,go_sem, *]
  ·have HF:Hid (rcB s=false):=rc_none HC.out HT.out he
   go_wp2_with (first
    | (refine stoB BU.out [.int .i64 0,.string ⟨#[]⟩,.string ⟨#[]⟩,.int .i64 0,.slice none 0 0] (by simp) rfl 45 _ _ rfl rfl rfl infoCm5 rfl ?_;intro Y hBY hbY hzY hkY;have d0:=(hBY 0 _ rfl).1;have d1:=(hBY 1 _ rfl).1;have d2:=(hBY 2 _ rfl).1;have d3:=(hBY 3 _ rfl).1;have d4:=(hBY 4 _ rfl).1;have KY:Hid (Below w.heap.size w Y):=KU.out.trans hbY;clear hBY hbY hzY hkY)
    | fail)
   clear he;refine bodyPost_ret (v:= .tuple #[.agg #[.int .i64 0,.string ⟨#[]⟩,.string ⟨#[]⟩,.int .i64 0,.slice none 0 0],.bool false]) ?_ rfl ⟨post_no HF.out rfl,KY.out⟩;simp (maxDischargeDepth:=9) [results,Tryz.results28,go_sem, *]
 ·have HC:Hid (cmI s.data.toList=⟨0,⟨#[]⟩,⟨#[]⟩,0,[]⟩):=by show _=_;rw [HCM.out,if_neg w1,if_neg w2,if_neg w3,if_neg w4]
  have v1:=ne_lit (y:=⟨#[114,117,110]⟩) rfl w1;have v2:=ne_lit (y:=⟨#[98,114,97,110,99,104]⟩) rfl w2;have v3:=ne_lit (y:=⟨#[109,101,114,103,101]⟩) rfl w3;have v4:=ne_lit (y:=⟨#[115,119,101,101,112]⟩) rfl w4;have x1:(wd.toList== [114,117,110])=false:=by rw [ByteArray.toList_eq];simpa using w1
  have x2:(wd.toList== [98,114,97,110,99,104])=false:=by rw [ByteArray.toList_eq];simpa using w2
  have x3:(wd.toList== [109,101,114,103,101])=false:=by rw [ByteArray.toList_eq];simpa using w3
  have x4:(wd.toList== [115,119,101,101,112])=false:=by rw [ByteArray.toList_eq];simpa using w4
  clear HCM w1 w2 w3 w4;have HSP:=HE0;have HSQ:=HE0;go_upto_region 17 with fail
  clear v1 v2 v3 v4 x1 x2 x3 x4;obtain⟨WX,HWX⟩: ∃X,Hid (X=Z):=⟨_,rfl⟩;have CX:Hid (BX WX b1 [.int .i64 0,.string ⟨#[]⟩,.string ⟨#[]⟩,.int .i64 0,.slice none 0 0]):=by rw [HWX.out];exact CZ.out
  have BX0:Hid (BX WX w.heap.size [.int .i64 0,.string ⟨#[]⟩,.string ⟨#[]⟩,.int .i64 0,.slice none 0 0]):=by rw [HWX.out];exact BZ.out
  have KX:Hid (Below w.heap.size w WX):=by rw [HWX.out];exact KZ.out
  rw [←HWX.out];clear CZ BZ KZ HWX;have HLN:Hid (([]:List SR).length=0):=rfl;have HLS:Hid (∀i,i<([]:List SR).length→(sT [] i).size≤1048576):=fun i hi=>absurd hi (Nat.not_lt_zero _);have OX:Hid (WX.ownsRow (w.heap.size+1) 69 5 (.slice none 0 0) 0 (QC srC [])):=World.ownsRow_nil _ _ _ _
  go_wp2_with (first
   | (refine loaB CX.out [.int .i64 0,.string ⟨#[]⟩,.string ⟨#[]⟩,.int .i64 0,.slice none 0 0] (fun j hj=>by rw [Nat.zero_add]) rfl 45 _ rfl rfl _ Tryz.underlying45 rfl infoCm5 ?_)
   | fail)
  refine(impl_CmdTextR 0 ⟨#[]⟩ ⟨#[]⟩ 0 WX HSP.out HSQ.out HLN.out (ms_of_sr OX.out HLN.out (fun i hi=>by have:=HLS.out i hi;unfold maxLen;omega)) HLS.out (HG.out.below KX.out)).mono ?_;rintro e U ⟨rfl,hb⟩;obtain⟨t,HT⟩: ∃t,Hid (cmL ⟨0,⟨#[]⟩,⟨#[]⟩,0,[]⟩=t):=⟨_,rfl⟩;rw [HT.out];have CU:Hid (BX U b1 [.int .i64 0,.string ⟨#[]⟩,.string ⟨#[]⟩,.int .i64 0,.slice none 0 0]):=CX.out.below (by simp) hb;have BU:Hid (BX U w.heap.size [.int .i64 0,.string ⟨#[]⟩,.string ⟨#[]⟩,.int .i64 0,.slice none 0 0]):=BX0.out.below (by simp) hb;have OU:=hd (Qi OX.out hb)
  have KU:=hd (Qc KX.out hb);clear hb CX BX0 OX KX;cases he:t.toList.isEmpty
  ·cases hs9:t.toList==s.toList
   ·have HF:Hid (rcB s=false):=rc_other HC.out HT.out hs9
    go_wp2_with (first
     | (refine stoB BU.out [.int .i64 0,.string ⟨#[]⟩,.string ⟨#[]⟩,.int .i64 0,.slice none 0 0] (by simp) rfl 45 _ _ rfl rfl rfl infoCm5 rfl ?_;intro Y hBY hbY hzY hkY;have d0:=(hBY 0 _ rfl).1;have d1:=(hBY 1 _ rfl).1;have d2:=(hBY 2 _ rfl).1;have d3:=(hBY 3 _ rfl).1;have d4:=(hBY 4 _ rfl).1;have KY:Hid (Below w.heap.size w Y):=KU.out.trans hbY;clear hBY hbY hzY hkY)
     | fail)
    clear hs9 he;refine bodyPost_ret (v:= .tuple #[.agg #[.int .i64 0,.string ⟨#[]⟩,.string ⟨#[]⟩,.int .i64 0,.slice none 0 0],.bool false]) ?_ rfl ⟨post_no HF.out rfl,KY.out⟩;simp (maxDischargeDepth:=9) [results,Tryz.results28,go_sem, *]
   ·have HF:Hid (rcB s=true):=rc_yes HC.out HT.out he hs9
    go_wp2_with (first
     | (refine loaB CU.out [.int .i64 0,.string ⟨#[]⟩,.string ⟨#[]⟩,.int .i64 0,.slice none 0 0] (fun j hj=>by rw [Nat.zero_add]) rfl 45 _ rfl rfl _ Tryz.underlying45 rfl infoCm5 ?_)
     | (refine stoB BU.out [.int .i64 0,.string ⟨#[]⟩,.string ⟨#[]⟩,.int .i64 0,.slice none 0 0] (by simp) rfl 45 _ _ rfl rfl rfl infoCm5 rfl ?_;intro Y hBY hbY hzY hkY;have d0:=(hBY 0 _ rfl).1;have d1:=(hBY 1 _ rfl).1;have d2:=(hBY 2 _ rfl).1;have d3:=(hBY 3 _ rfl).1;have d4:=(hBY 4 _ rfl).1;have KY:Hid (Below w.heap.size w Y):=KU.out.trans hbY;have OY:Hid (Y.ownsRow (w.heap.size+1) 69 5 (.slice none 0 0) 0 (QC srC [])):=own_setC OU.out (by omega) hbY hzY hkY;clear hBY hbY hzY hkY)
     | fail)
    clear hs9 he;refine bodyPost_ret (v:= .tuple #[.agg #[.int .i64 0,.string ⟨#[]⟩,.string ⟨#[]⟩,.int .i64 0,.slice none 0 0],.bool true]) ?_ rfl ⟨post_yes HF.out HC.out HLN.out OY.out rfl,KY.out⟩;simp (maxDischargeDepth:=9) [results,Tryz.results28,go_sem, *]
  ·have HF:Hid (rcB s=false):=rc_none HC.out HT.out he
   go_wp2_with (first
    | (refine stoB BU.out [.int .i64 0,.string ⟨#[]⟩,.string ⟨#[]⟩,.int .i64 0,.slice none 0 0] (by simp) rfl 45 _ _ rfl rfl rfl infoCm5 rfl ?_;intro Y hBY hbY hzY hkY;have d0:=(hBY 0 _ rfl).1;have d1:=(hBY 1 _ rfl).1;have d2:=(hBY 2 _ rfl).1;have d3:=(hBY 3 _ rfl).1;have d4:=(hBY 4 _ rfl).1;have KY:Hid (Below w.heap.size w Y):=KU.out.trans hbY;clear hBY hbY hzY hkY)
    | fail)
   clear he;refine bodyPost_ret (v:= .tuple #[.agg #[.int .i64 0,.string ⟨#[]⟩,.string ⟨#[]⟩,.int .i64 0,.slice none 0 0],.bool false]) ?_ rfl ⟨post_no HF.out rfl,KY.out⟩;simp (maxDischargeDepth:=9) [results,Tryz.results28,go_sem, *]
end Go.Proofs.YtejbnnacghbhoaaGreatDoor
