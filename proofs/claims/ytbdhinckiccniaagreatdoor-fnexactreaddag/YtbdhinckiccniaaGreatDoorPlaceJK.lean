import Derived.Test.YtbdhinckiccniaaGreatDoorGaj
import Derived.Deep.DeepCutAuto
set_option linter.unusedSimpArgs false
set_option linter.unusedVariables false
set_option maxHeartbeats 4000000
namespace Go.Proofs.YtbdhinckiccniaaGreatDoor
open Go.RowKit
theorem Qqj (s:ByteArray) (h:0<s.size):QB s=(s[0]==36):=by rw [QB,dif_pos h]
theorem Qgs {s:ByteArray} (h:QB s=true):ZL s=s.extract 1 s.size:=by rw [ZL,h];rfl
theorem Qm6 {s:ByteArray} (h:QB s=false):ZL s=s:=by rw [ZL,h];rfl
theorem MN (s:ByteArray):(s.size=0∧QB s=false)∨(∃h:0<s.size,QB s=false∧ ¬((s[0]'h).toNat:Int)=36)∨(∃h:0<s.size,QB s=true∧((s[0]'h).toNat:Int)=36):=by
 by_cases h:0<s.size
 ·right
  have e:=Qqj s h;by_cases hq:s[0]=36
  ·right
   refine⟨h,by rw [e,hq];rfl,by rw [hq];rfl⟩
  ·left
   refine⟨h,by rw [e];simpa using hq,fun hh=>hq ?_⟩;apply UInt8.toNat_inj.1;show s[0].toNat=36;omega
 ·left
  exact⟨by omega,by rw [QB,dif_neg h]⟩
theorem Qcc {s:ByteArray} (h:QB s=true):0<s.size:=by
 unfold QB at h;split at h
 ·assumption
 ·cases h
def tst (T:ByteArray) (k:Nat):Bool:=if h:k<T.size then isL T[k]else false
theorem Qem {T:ByteArray} {k:Nat} (h:k<T.size):tst T k=isL T[k]:=by unfold tst;rw [dif_pos h]
theorem Qfe {T:ByteArray} {k:Nat} (h: ¬k<T.size):tst T k=false:=by unfold tst;rw [dif_neg h]
theorem YZ (s:ByteArray) (w:World) (hs:s.size≤1048576):Calls Tryz.prog 30 #[.string s] w fun e w'=>
  e= .returned (plV (rpC s) (l1I (rp3 s)) (QB s) (QB (rp2 s)))∧Below w.heap.size w w':=by
 have HZ2:Hid ((rp2 s).size≤1048576):=Nat.le_trans (Nh s) hs;have HZ3:Hid ((rp3 s).size≤1048576):=Nat.le_trans (Qbn s) hs;go_enter Tryz.func30,Tryz.ntmps30;go_upto_region 2 with fail
 go_cut [16] (fun c wx=>c= .bool (QB s)∧wx=(w.alloc (.cells #[.int .i64 0,.int .i64 0,.bool false,.bool false] 74)).alloc (.cells #[.int .i64 0,.int .i64 0,.bool false,.bool false] 74))
 case first=>
  rcases MN s with⟨h0,hD⟩ | ⟨h0,hD,hq⟩ | ⟨h0,hD,hq⟩
  ·have k0: ¬(0:Int)<(s.size:Int):=by omega
   have HD:Hid (QB s=false):=hD;clear hD;go_wp2_with fail
   go_meet;exact⟨by rw [HD.out],rfl⟩
  ·have k0:(0:Int)<(s.size:Int):=by omega
   have m0:(((s[0]'h0).toNat:Int)==36)=false:=by simpa using hq
   have HD:Hid (QB s=false):=hD;clear hD;go_wp2_with fail
   go_meet;exact⟨by rw [HD.out],rfl⟩
  ·have k0:(0:Int)<(s.size:Int):=by omega
   have m0:(((s[0]'h0).toNat:Int)==36)=true:=by simpa using hq
   have HD:Hid (QB s=true):=hD;clear hD;go_wp2_with fail
   go_meet;exact⟨by rw [HD.out],rfl⟩
 case rest=>
 obtain⟨rfl,rfl⟩:=hcut;go_upto_if 16 with fail
 go_cut [0] (fun t wx=>t= .string (ZL s)∧wx=(w.alloc (.cells #[.int .i64 0,.int .i64 0,.bool false,.bool false] 74)).alloc (.cells #[.int .i64 0,.int .i64 0,.bool (QB s),.bool false] 74))
 case first=>
  cases hD:QB s
  ·have HD:Hid (QB s=false):=hD;clear hD;go_wp2_with fail
   go_meet;exact⟨by rw [Qm6 HD.out],by rw [HD.out]⟩
  ·have HD:Hid (QB s=true):=hD;have k1:(1:Int)≤(s.size:Int):=by have:=Qcc hD;omega
   clear hD;go_wp2_with fail
   go_meet;exact⟨by rw [Qgs HD.out],by rw [HD.out]⟩
 case rest=>
 obtain⟨rfl,rfl⟩:=hcut;have z1:=Vt s;have z2:=Qge (ZL s);obtain⟨T,HCT⟩: ∃T,Hid (ZL s=T):=⟨_,rfl⟩;rw [HCT.out]at z1 z2 ⊢;have HCOL:Hid (rdc (T.extract 0 (Gj T)).data.toList 0=rpC s):=by show _=_;unfold rpC;rw [HCT.out]
 have HRP:Hid (T.extract (Gj T) T.size=rp2 s):=by show _=_;unfold rp2;rw [HCT.out]
 obtain⟨D,HD⟩: ∃D,Hid (QB s=D):=⟨_,rfl⟩;rw [HD.out];go_wp2_with fail
 go_loop [5] (fun v=> ∃k:Nat,∃hk:k≤T.size,v= .int .i64 k∧ ∀j,(hj:j<k)→isL (T[j]'(by omega))=true) (fun v=>T.size-(intOf v).toNat)
 case atStart=>exact⟨0,Nat.zero_le _,rfl,fun j hj=>by omega⟩
 case round=>
  obtain⟨k,hk,rfl,hr⟩:=hrel;have HR:Hid (∀j,(hj:j<k)→isL (T[j]'(by omega))=true):=hr;clear hr;have e0:(0:Int)≤(k:Int):=by omega
  have e1:(k:Int)≤(T.size:Int):=by omega
  go_upto_region 6 with fail
  go_cut [35]from 20 to 37 (fun c wx=>c= .bool (tst T k)∧wx=(w.alloc (.cells #[.int .i64 0,.int .i64 0,.bool false,.bool false] 74)).alloc (.cells #[.int .i64 0,.int .i64 0,.bool D,.bool false] 74))
  case first=>
   by_cases hlt:k<T.size
   ·have hlt':(k:Int)<(T.size:Int):=by omega
    have HT:=Qem hlt;by_cases ha:T[k].toNat<65
    ·have ha': ¬(65:Int)≤(T[k].toNat:Int):=by omega
     have HV:Hid (tst T k=false):=by show _=_;rw [HT];simp [isL];omega
     clear HT;go_wp2_with fail
     go_meet;exact⟨by rw [HV.out],rfl⟩
    have na:(65:Int)≤(T[k].toNat:Int):=by omega
    by_cases hb:90<T[k].toNat
    ·have hb': ¬(T[k].toNat:Int)≤90:=by omega
     have HV:Hid (tst T k=false):=by show _=_;rw [HT];simp [isL];omega
     clear HT;go_wp2_with fail
     go_meet;exact⟨by rw [HV.out],rfl⟩
    have nb:(T[k].toNat:Int)≤90:=by omega
    have HV:Hid (tst T k=true):=by show _=_;rw [HT];simp [isL];omega
    clear HT;go_wp2_with fail
    go_meet;exact⟨by rw [HV.out],rfl⟩
   ·have hlt': ¬(k:Int)<(T.size:Int):=by omega
    have HV:Hid (tst T k=false):=Qfe hlt;go_wp2_with fail
    go_meet;exact⟨by rw [HV.out],rfl⟩
  case rest=>
  obtain⟨rfl,rfl⟩:=hcut;obtain⟨c,HC⟩: ∃c,Hid (tst T k=c):=⟨_,rfl⟩;rw [HC.out];cases c
  rotate_left
  ·have hlt:k<T.size:=by
    rcases Nat.lt_or_ge k T.size with h | h
    ·exact h
    ·have:=HC.out;rw [Qfe (by omega)]at this;cases this
   have HL:Hid (∀j,(hj:j<k+1)→isL (T[j]'(by omega))=true):=fun j hj=>by
    by_cases e:j=k
    ·subst e;rw [←Qem hlt];exact HC.out
    ·exact HR.out j (by omega)
   go_wp2_with fail
   exact⟨⟨k+1,by omega,by go_num,HL.out⟩,by simp [intOf];omega⟩
  ·obtain rfl:k=Gj T:=(Eo hk HR.out (fun h=>by rw [←Qem h];exact HC.out)).symm;clear HR HC;go_upto_region 10 with(go_at_call 65;refine(Bl _ _).mono ?_;rintro e w1 ⟨rfl,hb⟩;rw [HCOL.out];obtain⟨hc,hf,hC,hF,hz,hk,l0,l1⟩:=bk2 (w:=w) (by go_grown) (by go_size) hb;clear hb)
   rw [HRP.out];go_cut [54] (fun c wx=>c= .bool (QB (rp2 s))∧wx=w1.setCell ⟨w.heap.size+1,0,none⟩ (.int .i64 (rpC s)))
   case first=>
    rcases MN (rp2 s)with⟨g0,gD⟩ | ⟨g0,gD,gq⟩ | ⟨g0,gD,gq⟩
    ·have y0: ¬(0:Int)<((rp2 s).size:Int):=by omega
     have HD2:Hid (QB (rp2 s)=false):=gD;clear gD;go_wp2_with fail
     go_meet;exact⟨by rw [HD2.out],rfl⟩
    ·have y0:(0:Int)<((rp2 s).size:Int):=by omega
     have y1:((((rp2 s)[0]'g0).toNat:Int)==36)=false:=by simpa using gq
     have HD2:Hid (QB (rp2 s)=false):=gD;clear gD;go_wp2_with fail
     go_meet;exact⟨by rw [HD2.out],rfl⟩
    ·have y0:(0:Int)<((rp2 s).size:Int):=by omega
     have y1:((((rp2 s)[0]'g0).toNat:Int)==36)=true:=by simpa using gq
     have HD2:Hid (QB (rp2 s)=true):=gD;clear gD;go_wp2_with fail
     go_meet;exact⟨by rw [HD2.out],rfl⟩
   case rest=>
   obtain⟨rfl,rfl⟩:=hcut;clear HRP HCOL;cases hY:QB (rp2 s)
   ·have HD2:Hid (QB (rp2 s)=false):=hY;have HR3:Hid (rp3 s=rp2 s):=Qm6 hY;clear hY;cases ho:l1I (rp3 s)with
    | none=>
     have HL1:Hid (l1I (rp3 s)=none):=ho;have HE:Hid (plV (rpC s) (l1I (rp3 s)) (QB s) (QB (rp2 s))= .tuple #[.agg #[.int .i64 0,.int .i64 0,.bool false,.bool false],.bool false]):=by show plV _ _ _ _=_;rw [ho];rfl
     clear ho
     go_wp2_with (first
      | (go_at_call 29;(try rw [←HR3.out]);refine(YC (rp3 s) _ (by have:=HZ3.out;omega)).mono ?_;rintro e w2 ⟨rfl,hw⟩;subst w2;rw [HL1.out];(try simp only [Option.getD_none,Option.isSome_none])))
     all_goals
      refine bodyPost_ret (v:= .tuple #[.agg #[.int .i64 0,.int .i64 0,.bool false,.bool false],.bool false]) ?_ rfl ⟨Yu HE.out.symm,by go_grown⟩;simp (maxDischargeDepth:=9) [results,Tryz.results30,go_sem, *]
    | some v=>
     cases hr:Qh (rpC s) v
     ·have HO:Hid (Qh (rpC s) v=false):=hr;have HL1:Hid (l1I (rp3 s)=some v):=ho;have HE:Hid (plV (rpC s) (l1I (rp3 s)) (QB s) (QB (rp2 s))= .tuple #[.agg #[.int .i64 0,.int .i64 0,.bool false,.bool false],.bool false]):=by show plV _ _ _ _=_;rw [ho];simp [plV,Xa,hr,sl]
      clear ho hr
      go_wp2_with (first
       | (go_at_call 29;(try rw [←HR3.out]);refine(YC (rp3 s) _ (by have:=HZ3.out;omega)).mono ?_;rintro e w2 ⟨rfl,hw⟩;subst w2;rw [HL1.out];(try simp only [Option.getD_some,Option.isSome_some]))
       | (go_at_call 59;refine(Qz _ _ _).mono ?_;rintro e w2 ⟨rfl,hb⟩;rw [HO.out];obtain⟨hc,hf,hC,hF,hz,hk,l0,l1⟩:=bk2 (w:=w) (by go_grown) (by go_size) hb;clear hb))
      all_goals
       refine bodyPost_ret (v:= .tuple #[.agg #[.int .i64 0,.int .i64 0,.bool false,.bool false],.bool false]) ?_ rfl ⟨Yu HE.out.symm,by go_grown⟩;simp (maxDischargeDepth:=9) [results,Tryz.results30,go_sem, *]
     ·have HO:Hid (Qh (rpC s) v=true):=hr;have HL1:Hid (l1I (rp3 s)=some v):=ho;have HE:Hid (plV (rpC s) (l1I (rp3 s)) (QB s) (QB (rp2 s))= .tuple #[.agg #[.int .i64 (rpC s),.int .i64 v,.bool D,.bool false],.bool true]):=by show plV _ _ _ _=_;rw [ho,HD.out,HD2.out];simp [plV,Xa,hr,sl]
      clear ho hr
      go_wp2_with (first
       | (go_at_call 29;(try rw [←HR3.out]);refine(YC (rp3 s) _ (by have:=HZ3.out;omega)).mono ?_;rintro e w2 ⟨rfl,hw⟩;subst w2;rw [HL1.out];(try simp only [Option.getD_some,Option.isSome_some]))
       | (go_at_call 59;refine(Qz _ _ _).mono ?_;rintro e w2 ⟨rfl,hb⟩;rw [HO.out];obtain⟨hc,hf,hC,hF,hz,hk,l0,l1⟩:=bk2 (w:=w) (by go_grown) (by go_size) hb;clear hb))
      all_goals
       refine bodyPost_ret (v:= .tuple #[.agg #[.int .i64 (rpC s),.int .i64 v,.bool D,.bool false],.bool true]) ?_ rfl ⟨Yu HE.out.symm,by go_grown⟩;simp (maxDischargeDepth:=9) [results,Tryz.results30,go_sem, *]
   ·have HD2:Hid (QB (rp2 s)=true):=hY;have y1:(1:Int)≤((rp2 s).size:Int):=by have:=Qcc hY;omega
    have HR3:Hid (rp3 s=(rp2 s).extract 1 (rp2 s).size):=Qgs hY;clear hY;cases ho:l1I (rp3 s)with
    | none=>
     have HL1:Hid (l1I (rp3 s)=none):=ho;have HE:Hid (plV (rpC s) (l1I (rp3 s)) (QB s) (QB (rp2 s))= .tuple #[.agg #[.int .i64 0,.int .i64 0,.bool false,.bool false],.bool false]):=by show plV _ _ _ _=_;rw [ho];rfl
     clear ho
     go_wp2_with (first
      | (go_at_call 29;(try rw [←HR3.out]);refine(YC (rp3 s) _ (by have:=HZ3.out;omega)).mono ?_;rintro e w2 ⟨rfl,hw⟩;subst w2;rw [HL1.out];(try simp only [Option.getD_none,Option.isSome_none])))
     all_goals
      refine bodyPost_ret (v:= .tuple #[.agg #[.int .i64 0,.int .i64 0,.bool false,.bool false],.bool false]) ?_ rfl ⟨Yu HE.out.symm,by go_grown⟩;simp (maxDischargeDepth:=9) [results,Tryz.results30,go_sem, *]
    | some v=>
     cases hr:Qh (rpC s) v
     ·have HO:Hid (Qh (rpC s) v=false):=hr;have HL1:Hid (l1I (rp3 s)=some v):=ho;have HE:Hid (plV (rpC s) (l1I (rp3 s)) (QB s) (QB (rp2 s))= .tuple #[.agg #[.int .i64 0,.int .i64 0,.bool false,.bool false],.bool false]):=by show plV _ _ _ _=_;rw [ho];simp [plV,Xa,hr,sl]
      clear ho hr
      go_wp2_with (first
       | (go_at_call 29;(try rw [←HR3.out]);refine(YC (rp3 s) _ (by have:=HZ3.out;omega)).mono ?_;rintro e w2 ⟨rfl,hw⟩;subst w2;rw [HL1.out];(try simp only [Option.getD_some,Option.isSome_some]))
       | (go_at_call 59;refine(Qz _ _ _).mono ?_;rintro e w2 ⟨rfl,hb⟩;rw [HO.out];obtain⟨hc,hf,hC,hF,hz,hk,l0,l1⟩:=bk2 (w:=w) (by go_grown) (by go_size) hb;clear hb))
      all_goals
       refine bodyPost_ret (v:= .tuple #[.agg #[.int .i64 0,.int .i64 0,.bool false,.bool false],.bool false]) ?_ rfl ⟨Yu HE.out.symm,by go_grown⟩;simp (maxDischargeDepth:=9) [results,Tryz.results30,go_sem, *]
     ·have HO:Hid (Qh (rpC s) v=true):=hr;have HL1:Hid (l1I (rp3 s)=some v):=ho;have HE:Hid (plV (rpC s) (l1I (rp3 s)) (QB s) (QB (rp2 s))= .tuple #[.agg #[.int .i64 (rpC s),.int .i64 v,.bool D,.bool true],.bool true]):=by show plV _ _ _ _=_;rw [ho,HD.out,HD2.out];simp [plV,Xa,hr,sl]
      clear ho hr
      go_wp2_with (first
       | (go_at_call 29;(try rw [←HR3.out]);refine(YC (rp3 s) _ (by have:=HZ3.out;omega)).mono ?_;rintro e w2 ⟨rfl,hw⟩;subst w2;rw [HL1.out];(try simp only [Option.getD_some,Option.isSome_some]))
       | (go_at_call 59;refine(Qz _ _ _).mono ?_;rintro e w2 ⟨rfl,hb⟩;rw [HO.out];obtain⟨hc,hf,hC,hF,hz,hk,l0,l1⟩:=bk2 (w:=w) (by go_grown) (by go_size) hb;clear hb))
      all_goals
       refine bodyPost_ret (v:= .tuple #[.agg #[.int .i64 (rpC s),.int .i64 v,.bool D,.bool true],.bool true]) ?_ rfl ⟨Yu HE.out.symm,by go_grown⟩;simp (maxDischargeDepth:=9) [results,Tryz.results30,go_sem, *]
end Go.Proofs.YtbdhinckiccniaaGreatDoor
