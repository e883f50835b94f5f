import Derived.Test.YtekcnhfkmimodaaGreatDoorGaj
import Derived.Deep.DeepCutAuto
set_option linter.unusedSimpArgs false
set_option linter.unusedVariables false
set_option maxHeartbeats 4000000
namespace Go.Proofs.YtekcnhfkmimodaaGreatDoor
open Go.RowKit
theorem Qil (s:ByteArray) (h:0<s.size):Qv s=(s[0]==36):=by rw [Qv,dif_pos h]
theorem Qag {s:ByteArray} (h:Qv s=true):Ys s=s.extract 1 s.size:=by rw [Ys,h];rfl
theorem Qfq {s:ByteArray} (h:Qv s=false):Ys s=s:=by rw [Ys,h];rfl
theorem Gw (s:ByteArray):(s.size=0∧Qv s=false)∨(∃h:0<s.size,Qv s=false∧ ¬((s[0]'h).toNat:Int)=36)∨(∃h:0<s.size,Qv s=true∧((s[0]'h).toNat:Int)=36):=by
 by_cases h:0<s.size
 ·right
  have e:=Qil s h;by_cases hq:s[0]=36
  ·right
   refine⟨h,by rw [e,hq];rfl,by rw [hq];rfl⟩
  ·left
   refine⟨h,by rw [e];simpa using hq,fun hh=>hq ?_⟩;apply UInt8.toNat_inj.1;show s[0].toNat=36;omega
 ·left
  exact⟨by omega,by rw [Qv,dif_neg h]⟩
theorem Dp {s:ByteArray} (h:Qv s=true):0<s.size:=by
 unfold Qv at h;split at h
 ·assumption
 ·cases h
def tst (T:ByteArray) (k:Nat):Bool:=if h:k<T.size then isL T[k]else false
theorem BP {T:ByteArray} {k:Nat} (h:k<T.size):tst T k=isL T[k]:=by unfold tst;rw [dif_pos h]
theorem Ek {T:ByteArray} {k:Nat} (h: ¬k<T.size):tst T k=false:=by unfold tst;rw [dif_neg h]
theorem JO (s:ByteArray) (w:World) (hs:s.size≤1048576):Calls Tryz.prog 120 #[.string s] w fun e w'=>
  e= .returned (plV (rpC s) (l1I (rp3 s)) (Qv s) (Qv (rp2 s)))∧Below w.heap.size w w':=by
 have HZ2:Hid ((rp2 s).size≤1048576):=Nat.le_trans (GL s) hs;have HZ3:Hid ((rp3 s).size≤1048576):=Nat.le_trans (OE s) hs;go_enter Tryz.func120,Tryz.ntmps120;go_upto_region 2 with fail
 go_cut [16] (fun c wx=>c= .bool (Qv s)∧wx=(w.alloc (.cells #[.int .i64 0,.int .i64 0,.bool false,.bool false] 92)).alloc (.cells #[.int .i64 0,.int .i64 0,.bool false,.bool false] 92))
 case first=>
  rcases Gw s with⟨h0,hD⟩ | ⟨h0,hD,hq⟩ | ⟨h0,hD,hq⟩
  ·have k0: ¬(0:Int)<(s.size:Int):=by omega
   have HD:Hid (Qv s=false):=hD;clear hD;go_wp2_with fail
   go_meet;exact⟨by rw [HD.out],rfl⟩
  ·have k0:(0:Int)<(s.size:Int):=by omega
   have m0:(((s[0]'h0).toNat:Int)==36)=false:=by simpa using hq
   have HD:Hid (Qv s=false):=hD;clear hD;go_wp2_with fail
   go_meet;exact⟨by rw [HD.out],rfl⟩
  ·have k0:(0:Int)<(s.size:Int):=by omega
   have m0:(((s[0]'h0).toNat:Int)==36)=true:=by simpa using hq
   have HD:Hid (Qv s=true):=hD;clear hD;go_wp2_with fail
   go_meet;exact⟨by rw [HD.out],rfl⟩
 case rest=>
 obtain⟨rfl,rfl⟩:=hcut;go_upto_if 16 with fail
 go_cut [0] (fun t wx=>t= .string (Ys s)∧wx=(w.alloc (.cells #[.int .i64 0,.int .i64 0,.bool false,.bool false] 92)).alloc (.cells #[.int .i64 0,.int .i64 0,.bool (Qv s),.bool false] 92))
 case first=>
  cases hD:Qv s
  ·have HD:Hid (Qv s=false):=hD;clear hD;go_wp2_with fail
   go_meet;exact⟨by rw [Qfq HD.out],by rw [HD.out]⟩
  ·have HD:Hid (Qv s=true):=hD;have k1:(1:Int)≤(s.size:Int):=by have:=Dp hD;omega
   clear hD;go_wp2_with fail
   go_meet;exact⟨by rw [Qag HD.out],by rw [HD.out]⟩
 case rest=>
 obtain⟨rfl,rfl⟩:=hcut;have z1:=Js s;have z2:=ER (Ys s);obtain⟨T,HCT⟩: ∃T,Hid (Ys s=T):=⟨_,rfl⟩;rw [HCT.out]at z1 z2 ⊢;have HCOL:Hid (rdc (T.extract 0 (Hb T)).data.toList 0=rpC s):=by show _=_;unfold rpC;rw [HCT.out]
 have HRP:Hid (T.extract (Hb T) T.size=rp2 s):=by show _=_;unfold rp2;rw [HCT.out]
 obtain⟨D,HD⟩: ∃D,Hid (Qv s=D):=⟨_,rfl⟩;rw [HD.out];go_wp2_with fail
 go_loop [5] (fun v=> ∃k:Nat,∃hk:k≤T.size,v= .int .i64 k∧ ∀j,(hj:j<k)→isL (T[j]'(by omega))=true) (fun v=>T.size-(intOf v).toNat)
 case atStart=>exact⟨0,Nat.zero_le _,rfl,fun j hj=>by omega⟩
 case round=>
  obtain⟨k,hk,rfl,hr⟩:=hrel;have HR:Hid (∀j,(hj:j<k)→isL (T[j]'(by omega))=true):=hr;clear hr;have e0:(0:Int)≤(k:Int):=by omega
  have e1:(k:Int)≤(T.size:Int):=by omega
  go_upto_region 6 with fail
  go_cut [35]from 20 to 37 (fun c wx=>c= .bool (tst T k)∧wx=(w.alloc (.cells #[.int .i64 0,.int .i64 0,.bool false,.bool false] 92)).alloc (.cells #[.int .i64 0,.int .i64 0,.bool D,.bool false] 92))
  case first=>
   by_cases hlt:k<T.size
   ·have hlt':(k:Int)<(T.size:Int):=by omega
    have HT:=BP hlt;by_cases ha:T[k].toNat<65
    ·have ha': ¬(65:Int)≤(T[k].toNat:Int):=by omega
     have HV:Hid (tst T k=false):=by show _=_;rw [HT];simp [isL];omega
     clear HT;go_wp2_with fail
     go_meet;exact⟨by rw [HV.out],rfl⟩
    have na:(65:Int)≤(T[k].toNat:Int):=by omega
    by_cases hb:90<T[k].toNat
    ·have hb': ¬(T[k].toNat:Int)≤90:=by omega
     have HV:Hid (tst T k=false):=by show _=_;rw [HT];simp [isL];omega
     clear HT;go_wp2_with fail
     go_meet;exact⟨by rw [HV.out],rfl⟩
    have nb:(T[k].toNat:Int)≤90:=by omega
    have HV:Hid (tst T k=true):=by show _=_;rw [HT];simp [isL];omega
    clear HT;go_wp2_with fail
    go_meet;exact⟨by rw [HV.out],rfl⟩
   ·have hlt': ¬(k:Int)<(T.size:Int):=by omega
    have HV:Hid (tst T k=false):=Ek hlt;go_wp2_with fail
    go_meet;exact⟨by rw [HV.out],rfl⟩
  case rest=>
  obtain⟨rfl,rfl⟩:=hcut;obtain⟨c,HC⟩: ∃c,Hid (tst T k=c):=⟨_,rfl⟩;rw [HC.out];cases c
  rotate_left
  ·have hlt:k<T.size:=by
    rcases Nat.lt_or_ge k T.size with h | h
    ·exact h
    ·have:=HC.out;rw [Ek (by omega)]at this;cases this
   have HL:Hid (∀j,(hj:j<k+1)→isL (T[j]'(by omega))=true):=fun j hj=>by
    by_cases e:j=k
    ·subst e;rw [←BP hlt];exact HC.out
    ·exact HR.out j (by omega)
   go_wp2_with fail
   exact⟨⟨k+1,by omega,by go_num,HL.out⟩,by simp [intOf];omega⟩
  ·obtain rfl:k=Hb T:=(Nj hk HR.out (fun h=>by rw [←BP h];exact HC.out)).symm;clear HR HC;go_upto_region 10 with(go_at_call 137;refine(MB _ _).mono ?_;rintro e w1 ⟨rfl,hb⟩;rw [HCOL.out];obtain⟨hc,hf,hC,hF,hz,hk,l0,l1⟩:=bk2 (w:=w) (by go_grown) (by go_size) hb;clear hb)
   rw [HRP.out];go_cut [54] (fun c wx=>c= .bool (Qv (rp2 s))∧wx=w1.setCell ⟨w.heap.size+1,0,none⟩ (.int .i64 (rpC s)))
   case first=>
    rcases Gw (rp2 s)with⟨g0,gD⟩ | ⟨g0,gD,gq⟩ | ⟨g0,gD,gq⟩
    ·have y0: ¬(0:Int)<((rp2 s).size:Int):=by omega
     have HD2:Hid (Qv (rp2 s)=false):=gD;clear gD;go_wp2_with fail
     go_meet;exact⟨by rw [HD2.out],rfl⟩
    ·have y0:(0:Int)<((rp2 s).size:Int):=by omega
     have y1:((((rp2 s)[0]'g0).toNat:Int)==36)=false:=by simpa using gq
     have HD2:Hid (Qv (rp2 s)=false):=gD;clear gD;go_wp2_with fail
     go_meet;exact⟨by rw [HD2.out],rfl⟩
    ·have y0:(0:Int)<((rp2 s).size:Int):=by omega
     have y1:((((rp2 s)[0]'g0).toNat:Int)==36)=true:=by simpa using gq
     have HD2:Hid (Qv (rp2 s)=true):=gD;clear gD;go_wp2_with fail
     go_meet;exact⟨by rw [HD2.out],rfl⟩
   case rest=>
   obtain⟨rfl,rfl⟩:=hcut;clear HRP HCOL;cases hY:Qv (rp2 s)
   ·have HD2:Hid (Qv (rp2 s)=false):=hY;have HR3:Hid (rp3 s=rp2 s):=Qfq hY;clear hY;cases ho:l1I (rp3 s)with
    | none=>
     have HL1:Hid (l1I (rp3 s)=none):=ho;have HE:Hid (plV (rpC s) (l1I (rp3 s)) (Qv s) (Qv (rp2 s))= .tuple #[.agg #[.int .i64 0,.int .i64 0,.bool false,.bool false],.bool false]):=by show plV _ _ _ _=_;rw [ho];rfl
     clear ho
     go_wp2_with (first
      | (go_at_call 72;(try rw [←HR3.out]);refine(Yk (rp3 s) _ (by have:=HZ3.out;omega)).mono ?_;rintro e w2 ⟨rfl,hw⟩;subst w2;rw [HL1.out];(try simp only [Option.getD_none,Option.isSome_none])))
     all_goals
      refine bodyPost_ret (v:= .tuple #[.agg #[.int .i64 0,.int .i64 0,.bool false,.bool false],.bool false]) ?_ rfl ⟨Yd HE.out.symm,by go_grown⟩;simp (maxDischargeDepth:=9) [results,Tryz.results120,go_sem, *]
    | some v=>
     cases hr:Qm (rpC s) v
     ·have HO:Hid (Qm (rpC s) v=false):=hr;have HL1:Hid (l1I (rp3 s)=some v):=ho;have HE:Hid (plV (rpC s) (l1I (rp3 s)) (Qv s) (Qv (rp2 s))= .tuple #[.agg #[.int .i64 0,.int .i64 0,.bool false,.bool false],.bool false]):=by show plV _ _ _ _=_;rw [ho];simp [plV,YW,hr,sl]
      clear ho hr
      go_wp2_with (first
       | (go_at_call 72;(try rw [←HR3.out]);refine(Yk (rp3 s) _ (by have:=HZ3.out;omega)).mono ?_;rintro e w2 ⟨rfl,hw⟩;subst w2;rw [HL1.out];(try simp only [Option.getD_some,Option.isSome_some]))
       | (go_at_call 36;refine(QE _ _ _).mono ?_;rintro e w2 ⟨rfl,hb⟩;rw [HO.out];obtain⟨hc,hf,hC,hF,hz,hk,l0,l1⟩:=bk2 (w:=w) (by go_grown) (by go_size) hb;clear hb))
      all_goals
       refine bodyPost_ret (v:= .tuple #[.agg #[.int .i64 0,.int .i64 0,.bool false,.bool false],.bool false]) ?_ rfl ⟨Yd HE.out.symm,by go_grown⟩;simp (maxDischargeDepth:=9) [results,Tryz.results120,go_sem, *]
     ·have HO:Hid (Qm (rpC s) v=true):=hr;have HL1:Hid (l1I (rp3 s)=some v):=ho;have HE:Hid (plV (rpC s) (l1I (rp3 s)) (Qv s) (Qv (rp2 s))= .tuple #[.agg #[.int .i64 (rpC s),.int .i64 v,.bool D,.bool false],.bool true]):=by show plV _ _ _ _=_;rw [ho,HD.out,HD2.out];simp [plV,YW,hr,sl]
      clear ho hr
      go_wp2_with (first
       | (go_at_call 72;(try rw [←HR3.out]);refine(Yk (rp3 s) _ (by have:=HZ3.out;omega)).mono ?_;rintro e w2 ⟨rfl,hw⟩;subst w2;rw [HL1.out];(try simp only [Option.getD_some,Option.isSome_some]))
       | (go_at_call 36;refine(QE _ _ _).mono ?_;rintro e w2 ⟨rfl,hb⟩;rw [HO.out];obtain⟨hc,hf,hC,hF,hz,hk,l0,l1⟩:=bk2 (w:=w) (by go_grown) (by go_size) hb;clear hb))
      all_goals
       refine bodyPost_ret (v:= .tuple #[.agg #[.int .i64 (rpC s),.int .i64 v,.bool D,.bool false],.bool true]) ?_ rfl ⟨Yd HE.out.symm,by go_grown⟩;simp (maxDischargeDepth:=9) [results,Tryz.results120,go_sem, *]
   ·have HD2:Hid (Qv (rp2 s)=true):=hY;have y1:(1:Int)≤((rp2 s).size:Int):=by have:=Dp hY;omega
    have HR3:Hid (rp3 s=(rp2 s).extract 1 (rp2 s).size):=Qag hY;clear hY;cases ho:l1I (rp3 s)with
    | none=>
     have HL1:Hid (l1I (rp3 s)=none):=ho;have HE:Hid (plV (rpC s) (l1I (rp3 s)) (Qv s) (Qv (rp2 s))= .tuple #[.agg #[.int .i64 0,.int .i64 0,.bool false,.bool false],.bool false]):=by show plV _ _ _ _=_;rw [ho];rfl
     clear ho
     go_wp2_with (first
      | (go_at_call 72;(try rw [←HR3.out]);refine(Yk (rp3 s) _ (by have:=HZ3.out;omega)).mono ?_;rintro e w2 ⟨rfl,hw⟩;subst w2;rw [HL1.out];(try simp only [Option.getD_none,Option.isSome_none])))
     all_goals
      refine bodyPost_ret (v:= .tuple #[.agg #[.int .i64 0,.int .i64 0,.bool false,.bool false],.bool false]) ?_ rfl ⟨Yd HE.out.symm,by go_grown⟩;simp (maxDischargeDepth:=9) [results,Tryz.results120,go_sem, *]
    | some v=>
     cases hr:Qm (rpC s) v
     ·have HO:Hid (Qm (rpC s) v=false):=hr;have HL1:Hid (l1I (rp3 s)=some v):=ho;have HE:Hid (plV (rpC s) (l1I (rp3 s)) (Qv s) (Qv (rp2 s))= .tuple #[.agg #[.int .i64 0,.int .i64 0,.bool false,.bool false],.bool false]):=by show plV _ _ _ _=_;rw [ho];simp [plV,YW,hr,sl]
      clear ho hr
      go_wp2_with (first
       | (go_at_call 72;(try rw [←HR3.out]);refine(Yk (rp3 s) _ (by have:=HZ3.out;omega)).mono ?_;rintro e w2 ⟨rfl,hw⟩;subst w2;rw [HL1.out];(try simp only [Option.getD_some,Option.isSome_some]))
       | (go_at_call 36;refine(QE _ _ _).mono ?_;rintro e w2 ⟨rfl,hb⟩;rw [HO.out];obtain⟨hc,hf,hC,hF,hz,hk,l0,l1⟩:=bk2 (w:=w) (by go_grown) (by go_size) hb;clear hb))
      all_goals
       refine bodyPost_ret (v:= .tuple #[.agg #[.int .i64 0,.int .i64 0,.bool false,.bool false],.bool false]) ?_ rfl ⟨Yd HE.out.symm,by go_grown⟩;simp (maxDischargeDepth:=9) [results,Tryz.results120,go_sem, *]
     ·have HO:Hid (Qm (rpC s) v=true):=hr;have HL1:Hid (l1I (rp3 s)=some v):=ho;have HE:Hid (plV (rpC s) (l1I (rp3 s)) (Qv s) (Qv (rp2 s))= .tuple #[.agg #[.int .i64 (rpC s),.int .i64 v,.bool D,.bool true],.bool true]):=by show plV _ _ _ _=_;rw [ho,HD.out,HD2.out];simp [plV,YW,hr,sl]
      clear ho hr
      go_wp2_with (first
       | (go_at_call 72;(try rw [←HR3.out]);refine(Yk (rp3 s) _ (by have:=HZ3.out;omega)).mono ?_;rintro e w2 ⟨rfl,hw⟩;subst w2;rw [HL1.out];(try simp only [Option.getD_some,Option.isSome_some]))
       | (go_at_call 36;refine(QE _ _ _).mono ?_;rintro e w2 ⟨rfl,hb⟩;rw [HO.out];obtain⟨hc,hf,hC,hF,hz,hk,l0,l1⟩:=bk2 (w:=w) (by go_grown) (by go_size) hb;clear hb))
      all_goals
       refine bodyPost_ret (v:= .tuple #[.agg #[.int .i64 (rpC s),.int .i64 v,.bool D,.bool true],.bool true]) ?_ rfl ⟨Yd HE.out.symm,by go_grown⟩;simp (maxDischargeDepth:=9) [results,Tryz.results120,go_sem, *]
end Go.Proofs.YtekcnhfkmimodaaGreatDoor
