import Derived.Test.YtomadadmakdkgaaGreatDoorGaj
import Derived.Deep.DeepCutAuto
open Go.Proofs.Tryz
open Go.Value renaming int → a, bool → d, tuple → l, agg → n, string → u
open Go.IntKind renaming i64 → b
open Go renaming bodyPost_ret → f, results → m
open Option renaming isSome_some → g, getD_some → i, isSome_none → o, getD_none → p
open Go.Obj renaming cells → r
open Go.Ending renaming returned → x
set_option linter.unusedSimpArgs false
set_option linter.unusedVariables false
set_option maxHeartbeats 4000000
namespace Go.Proofs.YtomadadmakdkgaaGreatDoor
open Go.RowKit
variable {s:ByteArray}
theorem Qrn(s:ByteArray)(h:0<s.size):QP s=(s[0]==36):=by rw[QP,dif_pos h]
theorem Qhg(h:QP s=true):Yu s=s.extract 1 s.size:=by rw[Yu,h];rfl
theorem Qn9(h:QP s=false):Yu s=s:=by rw[Yu,h];rfl
theorem NV(s:ByteArray):(s.size=0/\QP s=false)\/(∃h:0<s.size,QP s=false/\ ¬((s[0]'h).toNat:Int)=36)\/(∃h:0<s.size,QP s=true/\((s[0]'h).toNat:Int)=36):=by
 by_cases h:0<s.size
 ·right
  have e:=Qrn s h;by_cases hq:s[0]=36
  ·right
   refine⟨h,by rw[e,hq];rfl,by rw[hq];rfl⟩
  ·left
   refine⟨h,by rw[e];simpa using hq,fun hh=>hq ?_⟩;apply UInt8.toNat_inj.1;show s[0].toNat=36;omega
 ·left
  exact⟨by omega,by rw[QP,dif_neg h]⟩
theorem Qcy(h:QP s=true):0<s.size:=by
 unfold QP at h;split at h
 ·assumption
 ·cases h
def tst(T:ByteArray)(k:Nat):Bool:=if h:k<T.size then isL T[k]else false
theorem Qe9{T:ByteArray}{k:Nat}(h:k<T.size):tst T k=isL T[k]:=by unfold tst;rw[dif_pos h]
theorem Qfv{T:ByteArray}{k:Nat}(h: ¬k<T.size):tst T k=false:=by unfold tst;rw[dif_neg h]
theorem Gi(s:ByteArray)(w:World)(hs:s.size<=1048576):Calls prog 207 #[u s] w fun e w'=>
  e= x (plV (rpC s) (l1I (rp3 s)) (QP s) (QP (rp2 s)))/\Below w.heap.size w w':=by
 have H0:Hid ((rp2 s).size<=1048576):=Nat.le_trans (Ow s) hs;have h4:Hid ((rp3 s).size<=1048576):=Nat.le_trans (Qci s) hs;go_enter func207,ntmps207;go_upto_region 2 with fail
 go_cut [16] (fun c wx=>c= d (QP s)/\wx=(w.alloc (r #[a b 0,a b 0,d false,d false] 126)).alloc (r #[a b 0,a b 0,d false,d false] 126))
 case first=>
  rcases NV s with⟨h0,hD⟩ | ⟨h0,hD,hq⟩ | ⟨h0,hD,hq⟩
  ·have k0: ¬(0:Int)<(s.size:Int):=by omega
   have HD:Hid (QP s=false):=hD;clear hD;go_wp2_with fail
   go_meet;exact⟨by rw[HD.out],rfl⟩
  ·have k0:(0:Int)<(s.size:Int):=by omega
   have m0:(((s[0]'h0).toNat:Int)==36)=false:=by simpa using hq
   have HD:Hid (QP s=false):=hD;clear hD;go_wp2_with fail
   go_meet;exact⟨by rw[HD.out],rfl⟩
  ·have k0:(0:Int)<(s.size:Int):=by omega
   have m0:(((s[0]'h0).toNat:Int)==36)=true:=by simpa using hq
   have HD:Hid (QP s=true):=hD;clear hD;go_wp2_with fail
   go_meet;exact⟨by rw[HD.out],rfl⟩
 case rest=>
 obtain⟨rfl,rfl⟩:=hcut;go_upto_if 16 with fail
 go_cut [0] (fun t wx=>t= u (Yu s)/\wx=(w.alloc (r #[a b 0,a b 0,d false,d false] 126)).alloc (r #[a b 0,a b 0,d (QP s),d false] 126))
 case first=>
  cases hD:QP s
  ·have HD:Hid (QP s=false):=hD;clear hD;go_wp2_with fail
   go_meet;exact⟨by rw[Qn9 HD.out],by rw[HD.out]⟩
  ·have HD:Hid (QP s=true):=hD;have k1:(1:Int)<=(s.size:Int):=by have:=Qcy hD;omega
   clear hD;go_wp2_with fail
   go_meet;exact⟨by rw[Qhg HD.out],by rw[HD.out]⟩
 case rest=>
 obtain⟨rfl,rfl⟩:=hcut;have z1:=Hf s;have z2:=Qgz (Yu s);obtain⟨T,h8⟩: ∃T,Hid (Yu s=T):=⟨_,rfl⟩;rw[h8.out]at z1 z2 ⊢;have h5:Hid (rdc (T.extract 0 (UI T)).data.toList 0=rpC s):=by show _=_;unfold rpC;rw[h8.out]
 have h9:Hid (T.extract (UI T) T.size=rp2 s):=by show _=_;unfold rp2;rw[h8.out]
 obtain⟨D,HD⟩: ∃D,Hid (QP s=D):=⟨_,rfl⟩;rw[HD.out];go_wp2_with fail
 go_loop [5] (fun v=> ∃k:Nat,∃hk:k<=T.size,v= a b k/\ ∀j,(hj:j<k)->isL (T[j]'(by omega))=true) (fun v=>T.size-(intOf v).toNat)
 case atStart=>exact⟨0,Nat.zero_le _,rfl,fun j hj=>by omega⟩
 case round=>
  obtain⟨k,hk,rfl,hr⟩:=hrel;have HR:Hid (∀j,(hj:j<k)->isL (T[j]'(by omega))=true):=hr;clear hr;have e0:(0:Int)<=(k:Int):=by omega
  have e1:(k:Int)<=(T.size:Int):=by omega
  go_upto_region 6 with fail
  go_cut [35]from 20 to 37 (fun c wx=>c= d (tst T k)/\wx=(w.alloc (r #[a b 0,a b 0,d false,d false] 126)).alloc (r #[a b 0,a b 0,d D,d false] 126))
  case first=>
   by_cases h6:k<T.size
   ·have h7:(k:Int)<(T.size:Int):=by omega
    have HT:=Qe9 h6;by_cases ha:T[k].toNat<65
    ·have ha': ¬(65:Int)<=(T[k].toNat:Int):=by omega
     have HV:Hid (tst T k=false):=by show _=_;rw[HT];simp[isL];omega
     clear HT;go_wp2_with fail
     go_meet;exact⟨by rw[HV.out],rfl⟩
    have na:(65:Int)<=(T[k].toNat:Int):=by omega
    by_cases hb:90<T[k].toNat
    ·have hb': ¬(T[k].toNat:Int)<=90:=by omega
     have HV:Hid (tst T k=false):=by show _=_;rw[HT];simp[isL];omega
     clear HT;go_wp2_with fail
     go_meet;exact⟨by rw[HV.out],rfl⟩
    have nb:(T[k].toNat:Int)<=90:=by omega
    have HV:Hid (tst T k=true):=by show _=_;rw[HT];simp[isL];omega
    clear HT;go_wp2_with fail
    go_meet;exact⟨by rw[HV.out],rfl⟩
   ·have h7: ¬(k:Int)<(T.size:Int):=by omega
    have HV:Hid (tst T k=false):=Qfv h6;go_wp2_with fail
    go_meet;exact⟨by rw[HV.out],rfl⟩
  case rest=>
  obtain⟨rfl,rfl⟩:=hcut;obtain⟨c,HC⟩: ∃c,Hid (tst T k=c):=⟨_,rfl⟩;rw[HC.out];cases c
  rotate_left
  ·have h6:k<T.size:=by
    rcases Nat.lt_or_ge k T.size with h | h
    ·exact h
    ·have:=HC.out;rw[Qfv (by omega)]at this;cases this
   have HL:Hid (∀j,(hj:j<k+1)->isL (T[j]'(by omega))=true):=fun j hj=>by
    by_cases e:j=k
    ·subst e;rw[<-Qe9 h6];exact HC.out
    ·exact HR.out j (by omega)
   go_wp2_with fail
   exact⟨⟨k+1,by omega,by go_num,HL.out⟩,by simp[intOf];omega⟩
  ·obtain rfl:k=UI T:=(Qaf hk HR.out (fun h=>by rw[<-Qe9 h];exact HC.out)).symm;clear HR HC;go_upto_region 10 with(go_at_call 234;refine(Ev _ _).mono ?_;rintro e w1 ⟨rfl,hb⟩;rw[h5.out];obtain⟨hc,hf,hC,hF,hz,hk,l0,l1⟩:=bk2 (w:=w) hb;clear hb)
   rw[h9.out];go_cut [54] (fun c wx=>c= d (QP (rp2 s))/\wx=w1.setCell ⟨w.heap.size+1,0,none⟩ (a b (rpC s)))
   case first=>
    rcases NV (rp2 s)with⟨g0,gD⟩ | ⟨g0,gD,gq⟩ | ⟨g0,gD,gq⟩
    ·have y0: ¬(0:Int)<((rp2 s).size:Int):=by omega
     have h2:Hid (QP (rp2 s)=false):=gD;clear gD;go_wp2_with fail
     go_meet;exact⟨by rw[h2.out],rfl⟩
    ·have y0:(0:Int)<((rp2 s).size:Int):=by omega
     have y1:((((rp2 s)[0]'g0).toNat:Int)==36)=false:=by simpa using gq
     have h2:Hid (QP (rp2 s)=false):=gD;clear gD;go_wp2_with fail
     go_meet;exact⟨by rw[h2.out],rfl⟩
    ·have y0:(0:Int)<((rp2 s).size:Int):=by omega
     have y1:((((rp2 s)[0]'g0).toNat:Int)==36)=true:=by simpa using gq
     have h2:Hid (QP (rp2 s)=true):=gD;clear gD;go_wp2_with fail
     go_meet;exact⟨by rw[h2.out],rfl⟩
   case rest=>
   obtain⟨rfl,rfl⟩:=hcut;clear h9 h5;cases hY:QP (rp2 s)
   ·have h2:Hid (QP (rp2 s)=false):=hY;have h3:Hid (rp3 s=rp2 s):=Qn9 hY;clear hY;cases ho:l1I (rp3 s)with
    | none=>
     have h1:Hid (l1I (rp3 s)=none):=ho;have HE:Hid (plV (rpC s) (l1I (rp3 s)) (QP s) (QP (rp2 s))= l #[n #[a b 0,a b 0,d false,d false],d false]):=by show plV _ _ _ _=_;rw[ho];rfl
     clear ho
     go_wp2_with (first
      | (go_at_call 135;(try rw[<-h3.out]);refine(Xq (rp3 s) _ (by have:=h4.out;omega)).mono ?_;rintro e w2 ⟨rfl,hw⟩;subst w2;rw[h1.out];(try simp only[p,o])))
     all_goals
      refine f (v:= l #[n #[a b 0,a b 0,d false,d false],d false]) ?_ rfl ⟨Xe HE.out.symm,by go_grown⟩;simp (maxDischargeDepth:=9) [m,results207,go_sem, *]
    | some v=>
     cases hr:Qf (rpC s) v
     ·have HO:Hid (Qf (rpC s) v=false):=hr;have h1:Hid (l1I (rp3 s)=some v):=ho;have HE:Hid (plV (rpC s) (l1I (rp3 s)) (QP s) (QP (rp2 s))= l #[n #[a b 0,a b 0,d false,d false],d false]):=by show plV _ _ _ _=_;rw[ho];simp[plV,Jc,hr,sl]
      clear ho hr
      go_wp2_with (first
       | (go_at_call 135;(try rw[<-h3.out]);refine(Xq (rp3 s) _ (by have:=h4.out;omega)).mono ?_;rintro e w2 ⟨rfl,hw⟩;subst w2;rw[h1.out];(try simp only[i,g]))
       | (go_at_call 59;refine(Qz _ _ _).mono ?_;rintro e w2 ⟨rfl,hb⟩;rw[HO.out];obtain⟨hc,hf,hC,hF,hz,hk,l0,l1⟩:=bk2 (w:=w) hb;clear hb))
      all_goals
       refine f (v:= l #[n #[a b 0,a b 0,d false,d false],d false]) ?_ rfl ⟨Xe HE.out.symm,by go_grown⟩;simp (maxDischargeDepth:=9) [m,results207,go_sem, *]
     ·have HO:Hid (Qf (rpC s) v=true):=hr;have h1:Hid (l1I (rp3 s)=some v):=ho;have HE:Hid (plV (rpC s) (l1I (rp3 s)) (QP s) (QP (rp2 s))= l #[n #[a b (rpC s),a b v,d D,d false],d true]):=by show plV _ _ _ _=_;rw[ho,HD.out,h2.out];simp[plV,Jc,hr,sl]
      clear ho hr
      go_wp2_with (first
       | (go_at_call 135;(try rw[<-h3.out]);refine(Xq (rp3 s) _ (by have:=h4.out;omega)).mono ?_;rintro e w2 ⟨rfl,hw⟩;subst w2;rw[h1.out];(try simp only[i,g]))
       | (go_at_call 59;refine(Qz _ _ _).mono ?_;rintro e w2 ⟨rfl,hb⟩;rw[HO.out];obtain⟨hc,hf,hC,hF,hz,hk,l0,l1⟩:=bk2 (w:=w) hb;clear hb))
      all_goals
       refine f (v:= l #[n #[a b (rpC s),a b v,d D,d false],d true]) ?_ rfl ⟨Xe HE.out.symm,by go_grown⟩;simp (maxDischargeDepth:=9) [m,results207,go_sem, *]
   ·have h2:Hid (QP (rp2 s)=true):=hY;have y1:(1:Int)<=((rp2 s).size:Int):=by have:=Qcy hY;omega
    have h3:Hid (rp3 s=(rp2 s).extract 1 (rp2 s).size):=Qhg hY;clear hY;cases ho:l1I (rp3 s)with
    | none=>
     have h1:Hid (l1I (rp3 s)=none):=ho;have HE:Hid (plV (rpC s) (l1I (rp3 s)) (QP s) (QP (rp2 s))= l #[n #[a b 0,a b 0,d false,d false],d false]):=by show plV _ _ _ _=_;rw[ho];rfl
     clear ho
     go_wp2_with (first
      | (go_at_call 135;(try rw[<-h3.out]);refine(Xq (rp3 s) _ (by have:=h4.out;omega)).mono ?_;rintro e w2 ⟨rfl,hw⟩;subst w2;rw[h1.out];(try simp only[p,o])))
     all_goals
      refine f (v:= l #[n #[a b 0,a b 0,d false,d false],d false]) ?_ rfl ⟨Xe HE.out.symm,by go_grown⟩;simp (maxDischargeDepth:=9) [m,results207,go_sem, *]
    | some v=>
     cases hr:Qf (rpC s) v
     ·have HO:Hid (Qf (rpC s) v=false):=hr;have h1:Hid (l1I (rp3 s)=some v):=ho;have HE:Hid (plV (rpC s) (l1I (rp3 s)) (QP s) (QP (rp2 s))= l #[n #[a b 0,a b 0,d false,d false],d false]):=by show plV _ _ _ _=_;rw[ho];simp[plV,Jc,hr,sl]
      clear ho hr
      go_wp2_with (first
       | (go_at_call 135;(try rw[<-h3.out]);refine(Xq (rp3 s) _ (by have:=h4.out;omega)).mono ?_;rintro e w2 ⟨rfl,hw⟩;subst w2;rw[h1.out];(try simp only[i,g]))
       | (go_at_call 59;refine(Qz _ _ _).mono ?_;rintro e w2 ⟨rfl,hb⟩;rw[HO.out];obtain⟨hc,hf,hC,hF,hz,hk,l0,l1⟩:=bk2 (w:=w) hb;clear hb))
      all_goals
       refine f (v:= l #[n #[a b 0,a b 0,d false,d false],d false]) ?_ rfl ⟨Xe HE.out.symm,by go_grown⟩;simp (maxDischargeDepth:=9) [m,results207,go_sem, *]
     ·have HO:Hid (Qf (rpC s) v=true):=hr;have h1:Hid (l1I (rp3 s)=some v):=ho;have HE:Hid (plV (rpC s) (l1I (rp3 s)) (QP s) (QP (rp2 s))= l #[n #[a b (rpC s),a b v,d D,d true],d true]):=by show plV _ _ _ _=_;rw[ho,HD.out,h2.out];simp[plV,Jc,hr,sl]
      clear ho hr
      go_wp2_with (first
       | (go_at_call 135;(try rw[<-h3.out]);refine(Xq (rp3 s) _ (by have:=h4.out;omega)).mono ?_;rintro e w2 ⟨rfl,hw⟩;subst w2;rw[h1.out];(try simp only[i,g]))
       | (go_at_call 59;refine(Qz _ _ _).mono ?_;rintro e w2 ⟨rfl,hb⟩;rw[HO.out];obtain⟨hc,hf,hC,hF,hz,hk,l0,l1⟩:=bk2 (w:=w) hb;clear hb))
      all_goals
       refine f (v:= l #[n #[a b (rpC s),a b v,d D,d true],d true]) ?_ rfl ⟨Xe HE.out.symm,by go_grown⟩;simp (maxDischargeDepth:=9) [m,results207,go_sem, *]
end Go.Proofs.YtomadadmakdkgaaGreatDoor
