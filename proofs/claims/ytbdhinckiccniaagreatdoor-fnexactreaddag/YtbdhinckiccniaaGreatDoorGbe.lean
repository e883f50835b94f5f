import Derived.Test.YtbdhinckiccniaaGreatDoorMn
import Derived.Test.YtbdhinckiccniaaGreatDoorGbd
set_option linter.unusedSimpArgs false
set_option linter.unusedVariables false
set_option maxHeartbeats 8000000
set_option maxRecDepth 100000
namespace Go.Proofs.YtbdhinckiccniaaGreatDoor
open Go.RowKit
def StC (A:Option Addr) (n cap:Nat) (F:Nat→FN) (i:Nat) (z:Int):Prop:= ∀(W:World),FnRow W A n F→
 Calls Tryz.prog 170 #[.slice A n cap,.int .i64 i,.int .i64 z] W fun e w'=>e= .returned (.string (bs (bdX F i z)))∧Below W.heap.size W w'
theorem Oo {F:Nat→FN} {i:Nat} {z:Int} (h:(F i).k≠5):bdX F i z=TX F i:=by unfold bdX;rw [if_neg (fun e=>h e.1)]
theorem NF {F:Nat→FN} {i:Nat}:bdX F i 0=TX F i:=by
 unfold bdX;rw [if_neg (fun e=>by have:=e.2;have h:=Ek (F i).o;omega)]
theorem Bi (s:ByteArray) (w:World) (hs:s.size≤1000):Calls Tryz.prog 220 #[.string s] w fun e w'=>
  e= .returned (.string (bs ([34]++qt s.data.toList++ [34])))∧w'=w:=by
 go_enter Tryz.func220,Tryz.ntmps220;go_wp2_with fail
 go_loop [3,4] (fun v3 v4=> ∃(k:Nat) (o:ByteArray),k≤s.size∧v3= .string o∧v4= .int .i64 k∧o.size≤1+2*k∧o=bs ([34]++qt (s.data.toList.take k))) (fun _ v4=>s.size-(intOf v4).toNat)
 case atStart=>exact⟨0,⟨#[34]⟩,Nat.zero_le _,rfl,rfl,by decide,rfl⟩
 case round=>
  obtain⟨k,o,hk,rfl,rfl,hz,ho⟩:=hrel;have HO:Hid (o=bs ([34]++qt (s.data.toList.take k))):=ho;clear ho;have q0:(0:Int)≤(k:Int):=by omega
  by_cases hlt:k<s.size
  ·have q1:(k:Int)<(s.size:Int):=by omega
   have q2:(k:Int)≤(s.size:Int):=by omega
   have q3:(k:Int)+1≤(s.size:Int):=by omega
   have q4:(k:Int)≤(k:Int)+1:=by omega
   have q5:((k:Int)+1).toNat=k+1:=by omega
   have hx:=Qgk s k hlt;have HQ:Hid (qt (s.data.toList.take (k+1))=qt (s.data.toList.take k)++(if s[k]=34 then [34,34]else [s[k]])):=Qo5 s k hlt;have z1: ¬9223372036854775807<o.size+1:=by omega
   have z2: ¬9223372036854775807<o.size+1+1:=by omega
   have z3:(s.extract k (k+1)).size=1:=by rw [hx];rfl
   by_cases hb:s[k].toNat=34
   ·have hb1:(s[k].toNat:Int)=34:=by omega
    have hb2:s[k]=34:=by apply UInt8.toNat_inj.1;rw [hb];rfl
    have HF:Hid (o++(⟨#[34]⟩:ByteArray)++s.extract k (k+1)=bs ([34]++qt (s.data.toList.take (k+1)))):=by
     show _=_;rw [HQ.out,if_pos hb2,hx,hb2,HO.out,show(⟨#[34]⟩:ByteArray)=bs [34]from rfl,QK,QK];simp
    clear hb2 hx;go_wp2_with fail
    all_goals
     go_round
     case rel=>exact⟨k+1,_,by omega,rfl,by go_num,by rw [ByteArray.size_append,ByteArray.size_append,z3,show(⟨#[34]⟩:ByteArray).size=1 from rfl];omega,HF.out⟩
     case measure=>simp [intOf];omega
   ·have hb1: ¬(s[k].toNat:Int)=34:=by omega
    have hb2:((s[k].toNat:Int)==34)=false:=by simpa using hb1
    have hb3: ¬s[k]=34:=fun e=>hb (by rw [e];rfl)
    have HF:Hid (o++s.extract k (k+1)=bs ([34]++qt (s.data.toList.take (k+1)))):=by
     show _=_;rw [HQ.out,if_neg hb3,hx,HO.out,QK];simp
    clear hb3 hx;go_wp2_with fail
    all_goals
     go_round
     case rel=>exact⟨k+1,_,by omega,rfl,by go_num,by rw [ByteArray.size_append,z3];omega,HF.out⟩
     case measure=>simp [intOf];omega
  ·have q1: ¬(k:Int)<(s.size:Int):=by omega
   have z1: ¬9223372036854775807<o.size+1:=by omega
   have HF:Hid (o++(⟨#[34]⟩:ByteArray)=bs ([34]++qt s.data.toList++ [34])):=by
    show _=_;rw [HO.out,List.take_of_length_le (by simp;omega),show(⟨#[34]⟩:ByteArray)=bs [34]from rfl,QK]
   go_wp2_with fail
   go_ret;exact⟨Qr HF.out,rfl⟩
theorem Qju {A:Option Addr} {n cap:Nat} {F:Nat→FN} {i:Nat} (z:Int) (hi:i<n) (hk:(F i).k=1) (hc:cOk (F i).ck (F i).cn (F i).cs=true) (W:World) (hr:FnRow W A n F):
  Calls Tryz.prog 170 #[.slice A n cap,.int .i64 i,.int .i64 z] W fun e w'=>e= .returned (.string (bs (Ue (F i).ck (F i).cn (F i).cs)))∧Below W.heap.size W w':=by
 have HR:Hid (FnRow W A n F):=hr;have hn:=hr.1;unfold maxLen at hn;obtain⟨b,p,KB,kb,rfl,hl,hnd,hks,hcs⟩:=hr.2 i hi;obtain⟨c0,c1,c2,c3,c4,c5,c6,c7,c8,c9,c10,c11,c12,c13⟩:=hnd;rw [hk]at c0;have i0:(0:Int)≤(i:Int):=by omega
 have i1:(i:Int)<(n:Int):=by omega
 have HCS:Hid ((F i).cs.size≤maxLen):=hcs;obtain⟨ho,_,_⟩:=GM hc;clear hr hks hcs hc;obtain⟨ck,HCK⟩: ∃ck,Hid ((F i).ck=ck):=⟨_,rfl⟩;obtain⟨cn,HCN⟩: ∃ck,Hid ((F i).cn=ck):=⟨_,rfl⟩;obtain⟨cs,HCC⟩: ∃ck,Hid ((F i).cs=ck):=⟨_,rfl⟩;rw [HCK.out]at c2
 rw [HCN.out]at c3;rw [HCC.out]at c4 HCS;rw [HCK.out,HCN.out,HCC.out]at ho ⊢;by_cases h2:ck=2
 ·subst h2
  have hz:cs.size≤200:=by
   rcases XS ho with⟨e,_⟩ | ⟨e,_⟩ | ⟨_,_,hr⟩ | ⟨e,_⟩ | ⟨e,_⟩
   ·cases e
   ·cases e
   ·exact VG hr
   ·cases e
   ·cases e
  have HE:Hid (bs ([34]++qt cs.data.toList++ [34])=bs (Ue 2 cn cs)):=by show _=_;rw [Ue,if_pos rfl]
  clear ho;go_enter Tryz.func170,Tryz.ntmps170;go_wp2_with fail
  refine(Bi cs _ (by omega)).mono ?_;rintro e w1 ⟨rfl,rfl⟩;rw [HE.out];go_wp2_with fail
  go_ret;exact⟨rfl,by go_grown⟩
 ·have h2':(ck==2)=false:=by simpa using h2
  have HE:Hid (txV ck cn cs=bs (Ue ck cn cs)):=by show _=_;rw [Ue,if_neg h2,MY]
  clear ho;go_enter Tryz.func170,Tryz.ntmps170;go_wp2_with fail
  refine(Ym ck cn cs _ HCS.out).mono ?_;rintro e w1 ⟨rfl,hb⟩;rw [HE.out];have K1:=Qc (w:=W) (by go_grown) hb;clear hb;go_wp2_with fail
  go_ret;exact⟨rfl,K1⟩
theorem Qjt {A:Option Addr} {n cap:Nat} {F:Nat→FN} {i:Nat} (z:Int) (hi:i<n) (hk:(F i).k=2) {j:Nat} (hj:(F i).ar=(j:Int)) (hj9:j<100) (hc:Qh (F i).ac (F i).ar=true) (W:World) (hr:FnRow W A n F):
  Calls Tryz.prog 170 #[.slice A n cap,.int .i64 i,.int .i64 z] W fun e w'=>e= .returned (.string (Qw (F i).ac j (F i).af (F i).ag))∧Below W.heap.size W w':=by
 have HR:Hid (FnRow W A n F):=hr;have hn:=hr.1;unfold maxLen at hn;obtain⟨b,p,KB,kb,rfl,hl,hnd,hks,hcs⟩:=hr.2 i hi;obtain⟨c0,c1,c2,c3,c4,c5,c6,c7,c8,c9,c10,c11,c12,c13⟩:=hnd;rw [hk]at c0;have i0:(0:Int)≤(i:Int):=by omega
 have i1:(i:Int)<(n:Int):=by omega
 rw [hj]at c6 hc;have HC:Hid (Qh (F i).ac j=true):=hc;clear hr hks hcs hc;go_enter Tryz.func170,Tryz.ntmps170;go_wp2_with fail
 refine(Zc _ j _ _ _ hj9 HC.out).mono ?_;rintro e w1 ⟨rfl,hb⟩;have K1:=Qc (w:=W) (by go_grown) hb;clear hb;go_wp2_with fail
 go_ret;exact⟨rfl,K1⟩
theorem Qjs {A:Option Addr} {n cap:Nat} {F:Nat→FN} {i:Nat} (z:Int) (hi:i<n) (hk:(F i).k=3) {j u:Nat} (hj:(F i).ar=(j:Int)) (hj9:j<100) (hc:Qh (F i).ac (F i).ar=true) (hu:(F i).br=(u:Int)) (hu9:u<100) (hd:Qh (F i).bc (F i).br=true) (W:World) (hr:FnRow W A n F):
  Calls Tryz.prog 170 #[.slice A n cap,.int .i64 i,.int .i64 z] W fun e w'=>e= .returned (.string (Qw (F i).ac j (F i).af (F i).ag++(⟨#[58]⟩:ByteArray)++Qw (F i).bc u (F i).bf (F i).bg))∧Below W.heap.size W w':=by
 have HR:Hid (FnRow W A n F):=hr;have hn:=hr.1;unfold maxLen at hn;obtain⟨b,p,KB,kb,rfl,hl,hnd,hks,hcs⟩:=hr.2 i hi;obtain⟨c0,c1,c2,c3,c4,c5,c6,c7,c8,c9,c10,c11,c12,c13⟩:=hnd;rw [hk]at c0;have i0:(0:Int)≤(i:Int):=by omega
 have i1:(i:Int)<(n:Int):=by omega
 rw [hj]at c6 hc;rw [hu]at c10 hd;have HC:Hid (Qh (F i).ac j=true):=hc;have HD:Hid (Qh (F i).bc u=true):=hd;clear hr hks hcs hc hd;obtain⟨x,HPP⟩: ∃p,Hid (Qw (F i).ac j (F i).af (F i).ag=p):=⟨_,rfl⟩;obtain⟨y,HQQ⟩: ∃q,Hid (Qw (F i).bc u (F i).bf (F i).bg=q):=⟨_,rfl⟩
 have hp:x.size≤6:=by have:=Mr (F i).ac j (F i).af (F i).ag;rw [HPP.out]at this;exact this
 have hq:y.size≤6:=by have:=Mr (F i).bc u (F i).bf (F i).bg;rw [HQQ.out]at this;exact this
 rw [HPP.out,HQQ.out]
 obtain⟨r1,r2⟩:(∀W,(Op.stringOp .add x (⟨#[58]⟩:ByteArray)).run Tryz.prog W= .ok (.string (x++(⟨#[58]⟩:ByteArray))) W)∧(∀W,(Op.stringOp .add (x++(⟨#[58]⟩:ByteArray)) y).run Tryz.prog W= .ok (.string (x++(⟨#[58]⟩:ByteArray)++y)) W):=by
  have h1:(⟨#[58]⟩:ByteArray).size=1:=rfl;refine⟨fun W=>run_string_add_sum W _ _ ?_,fun W=>run_string_add_sum W _ _ ?_⟩
  ·omega
  ·rw [ByteArray.size_append];omega
 go_enter Tryz.func170,Tryz.ntmps170;go_wp2_with fail
 go_region_held3 (fun w'=>(∀bq oq,bq<W.heap.size+1→w'.cell? ⟨bq,oq,none⟩=(W.alloc (.cells #[.int .i64 3,.int .i64 (F i).o,.int .i64 (F i).ck,.int .i64 (F i).cn,.string (F i).cs,.int .i64 (F i).ac,.int .i64 j,.bool (F i).af,.bool (F i).ag,.int .i64 (F i).bc,.int .i64 u,.bool (F i).bf,.bool (F i).bg,.slice KB (F i).kids.length kb] 201)).cell? ⟨bq,oq,none⟩)∧W.heap.size+1≤w'.heap.size∧Below (W.heap.size+1) (W.alloc (.cells #[.int .i64 3,.int .i64 (F i).o,.int .i64 (F i).ck,.int .i64 (F i).cn,.string (F i).cs,.int .i64 (F i).ac,.int .i64 j,.bool (F i).af,.bool (F i).ag,.int .i64 (F i).bc,.int .i64 u,.bool (F i).bf,.bool (F i).bg,.slice KB (F i).kids.length kb] 201)) w')
  (exact Qp (by go_size) (by go_grown))
  (first
  | (go_at_call_of 68 (Value.agg #[Value.int IntKind.i64 (F i).ac,Value.int IntKind.i64 (j:Int),Value.bool (F i).af,Value.bool (F i).ag]);refine(Zc _ j _ _ _ hj9 HC.out).mono ?_;rintro e wr ⟨rfl,hb⟩;rw [HPP.out];obtain⟨hkk,hz⟩:=Qg (B:=W.heap.size+1) (X:=(W.alloc (.cells #[.int .i64 3,.int .i64 (F i).o,.int .i64 (F i).ck,.int .i64 (F i).cn,.string (F i).cs,.int .i64 (F i).ac,.int .i64 j,.bool (F i).af,.bool (F i).ag,.int .i64 (F i).bc,.int .i64 u,.bool (F i).bf,.bool (F i).bg,.slice KB (F i).kids.length kb] 201))) (by go_grown) (by go_size) hb;have hC:=fun b o h=>hkk.cell (p:=⟨b,o,none⟩) h;clear hb)
  | (go_at_call_of 68 (Value.agg #[Value.int IntKind.i64 (F i).bc,Value.int IntKind.i64 (u:Int),Value.bool (F i).bf,Value.bool (F i).bg]);refine(Zc _ u _ _ _ hu9 HD.out).mono ?_;rintro e wr ⟨rfl,hb⟩;rw [HQQ.out];obtain⟨hkk,hz⟩:=Qg (B:=W.heap.size+1) (X:=(W.alloc (.cells #[.int .i64 3,.int .i64 (F i).o,.int .i64 (F i).ck,.int .i64 (F i).cn,.string (F i).cs,.int .i64 (F i).ac,.int .i64 j,.bool (F i).af,.bool (F i).ag,.int .i64 (F i).bc,.int .i64 u,.bool (F i).bf,.bool (F i).bg,.slice KB (F i).kids.length kb] 201))) (by go_grown) (by go_size) hb;have hC:=fun b o h=>hkk.cell (p:=⟨b,o,none⟩) h;clear hb))
 all_goals go_wp2_with fail
 all_goals go_ret
 all_goals exact⟨rfl,ZT (n:=1) (X:=(W.alloc (.cells #[.int .i64 3,.int .i64 (F i).o,.int .i64 (F i).ck,.int .i64 (F i).cn,.string (F i).cs,.int .i64 (F i).ac,.int .i64 j,.bool (F i).af,.bool (F i).ag,.int .i64 (F i).bc,.int .i64 u,.bool (F i).bf,.bool (F i).bg,.slice KB (F i).kids.length kb] 201))) (by go_grown) (by go_grown)⟩
theorem Qjr {A:Option Addr} {n cap:Nat} {F:Nat→FN} {i a:Nat} (z:Int) (hi:i<n) (hk:(F i).k=4) (hg:(F i).kids= [(a:Int)]) (hB:StC A n cap F a 5) (hz:(bdX F a 5).length≤116977784950520) (W:World) (hr:FnRow W A n F):
  Calls Tryz.prog 170 #[.slice A n cap,.int .i64 i,.int .i64 z] W fun e w'=>e= .returned (.string (bs ([45]++bdX F a 5)))∧Below W.heap.size W w':=by
 have HB:Hid (StC A n cap F a 5):=hB;clear hB;have HR:Hid (FnRow W A n F):=hr;have hn:=hr.1;unfold maxLen at hn;obtain⟨b,p,KB,kb,rfl,hl,hnd,hks,hcs⟩:=hr.2 i hi;obtain⟨c0,c1,c2,c3,c4,c5,c6,c7,c8,c9,c10,c11,c12,c13⟩:=hnd
 rw [hk]at c0;have i0:(0:Int)≤(i:Int):=by omega
 have i1:(i:Int)<(n:Int):=by omega
 rw [hg]at hks c13;simp only [List.length_cons,List.length_nil]at c13;obtain⟨b1,o1,rfl,hl1,e1⟩:=hks.2 0 (by simp);simp only [List.getD_cons_zero,Nat.add_zero]at e1;clear hr hks hcs hg;obtain⟨t,HT⟩: ∃t,Hid (bs (bdX F a 5)=t):=⟨_,rfl⟩;have ht:t.size≤116977784950520:=by rw [←HT.out,Qt];exact hz
 have z1: ¬9223372036854775807<1+t.size:=by omega
 have HF:Hid ((⟨#[45]⟩:ByteArray)++t=bs ([45]++bdX F a 5)):=by
  show _=_;rw [←HT.out,show(⟨#[45]⟩:ByteArray)=bs [45]from rfl,QK]
 clear hz;go_enter Tryz.func170,Tryz.ntmps170;go_wp2_with fail
 refine(HB.out _ (HR.out.below (by go_grown))).mono ?_;rintro e w1 ⟨rfl,hb⟩;rw [HT.out];have K1:=Qc (w:=W) (by go_grown) hb;clear hb;go_wp2_with fail
 go_ret;exact⟨Qr HF.out,K1⟩
theorem Qjq {A:Option Addr} {n cap:Nat} {F:Nat→FN} {i a b:Nat} (z:Int) (hi:i<n) (hk:(F i).k=5) (hg:(F i).kids= [(a:Int),(b:Int)]) (ho:1≤(F i).o∧(F i).o≤11) (hA:StC A n cap F a (lvl (F i).o)) (hB:StC A n cap F b (lvl (F i).o+1)) (hza:(bdX F a (lvl (F i).o)).length≤116977784950520) (hzb:(bdX F b (lvl (F i).o+1)).length≤116977784950520) (htx:TX F i=bdX F a (lvl (F i).o)++sgT (F i).o++bdX F b (lvl (F i).o+1)) (W:World) (hr:FnRow W A n F):
  Calls Tryz.prog 170 #[.slice A n cap,.int .i64 i,.int .i64 z] W fun e w'=>e= .returned (.string (bs (bdX F i z)))∧Below W.heap.size W w':=by
 have HA:Hid (StC A n cap F a (lvl (F i).o)):=hA;have HB:Hid (StC A n cap F b (lvl (F i).o+1)):=hB;have HTX:Hid (TX F i=bdX F a (lvl (F i).o)++sgT (F i).o++bdX F b (lvl (F i).o+1)):=htx;clear hA hB htx;have HR:Hid (FnRow W A n F):=hr;have hn:=hr.1;unfold maxLen at hn
 obtain⟨q,p,KB,kb,rfl,hl,hnd,hks,hcs⟩:=hr.2 i hi;obtain⟨c0,c1,c2,c3,c4,c5,c6,c7,c8,c9,c10,c11,c12,c13⟩:=hnd;rw [hk]at c0;have i0:(0:Int)≤(i:Int):=by omega
 have i1:(i:Int)<(n:Int):=by omega
 rw [hg]at hks c13;simp only [List.length_cons,List.length_nil]at c13;obtain⟨b1,o1,rfl,hl1,e1⟩:=hks.2 0 (by simp);obtain⟨b2,o2,e9,_,e2⟩:=hks.2 1 (by simp);cases e9
 simp only [List.getD_cons_zero,List.getD_cons_succ,Nat.add_zero]at e1 e2;clear hr hks hcs hg;obtain⟨m,HM⟩: ∃m:Nat,Hid ((F i).o=(m:Int)):=⟨(F i).o.toNat,by show _=_;omega⟩;have hm:1≤m∧m≤11:=by rw [HM.out]at ho;omega
 have HMB:Hid (1≤(m:Int)∧(m:Int)≤11):=by show _∧_;omega
 obtain⟨hL1,hL4⟩:=Ek (m:Int)
 have HBD:Hid (bdX F i z=if lvl (m:Int)<z then [40]++TX F i++ [41]else TX F i):=by
  show _=_;unfold bdX;by_cases hlz:lvl (m:Int)<z
  ·rw [if_pos ⟨hk,by rw [HM.out];exact hlz⟩,if_pos hlz]
  ·rw [if_neg (fun e=>hlz (by have:=e.2;rw [HM.out]at this;exact this)),if_neg hlz]
 rw [HM.out]at HA HB hza hzb c1 HTX;obtain⟨L,HL⟩: ∃L,Hid (lvl (m:Int)=L):=⟨_,rfl⟩;rw [HL.out]at hL1 hL4 HA HB hza hzb HTX HBD;obtain⟨sg,HSG⟩: ∃s,Hid (bs (sgT (m:Int))=s):=⟨_,rfl⟩;have hsg:sg.size≤2:=by rw [←HSG.out,Qt];exact VE _
 obtain⟨t,HT⟩: ∃t,Hid (bs (bdX F a L)=t):=⟨_,rfl⟩;obtain⟨u,HU⟩: ∃t,Hid (bs (bdX F b (L+1))=t):=⟨_,rfl⟩;have ht:t.size≤116977784950520:=by rw [←HT.out,Qt];exact hza
 have hu:u.size≤116977784950520:=by rw [←HU.out,Qt];exact hzb
 obtain⟨x,HX⟩: ∃x,Hid (t++sg++u=x):=⟨_,rfl⟩;have hxs:x.size≤233955569901050:=by rw [←HX.out,ByteArray.size_append,ByteArray.size_append];omega
 have HXT:Hid (x=bs (TX F i)):=by
  show _=_;rw [←HX.out,HTX.out,←HT.out,←HU.out,←HSG.out,QK,QK]
 obtain⟨r1,r2⟩:(∀W,(Op.stringOp .add t sg).run Tryz.prog W= .ok (.string (t++sg)) W)∧(∀W,(Op.stringOp .add (t++sg) u).run Tryz.prog W= .ok (.string x) W):=by
  refine⟨fun W=>run_string_add_sum W _ _ ?_,fun W=> ?_⟩
  ·omega
  ·rw [run_string_add_sum W _ _ (by rw [ByteArray.size_append];omega),HX.out]
 have hwr:IntKind.i64.wrap (L+1)=L+1:=by rw [IntKind.wrap_i64];omega
 have lA:b1<W.heap.size+1:=by omega
 have z1: ¬9223372036854775807<1+x.size:=by omega
 have z2: ¬9223372036854775807<1+x.size+1:=by omega
 have HF1:Hid (L<z→(⟨#[40]⟩:ByteArray)++x++(⟨#[41]⟩:ByteArray)=bs (bdX F i z)):=fun hlz=>by
  rw [HBD.out,if_pos hlz,HXT.out,show(⟨#[40]⟩:ByteArray)=bs [40]from rfl,show(⟨#[41]⟩:ByteArray)=bs [41]from rfl,QK,QK]
 have HF2:Hid (¬L<z→x=bs (bdX F i z)):=fun hlz=>by rw [HBD.out,if_neg hlz,HXT.out]
 clear hza hzb ho hm;go_enter Tryz.func170,Tryz.ntmps170;go_wp2_with fail
 refine(Ji _ _ HMB.out.1 HMB.out.2).mono ?_;rintro e w1 ⟨rfl,rfl⟩;rw [HL.out];go_wp2_with fail
 go_region_held3 (fun w'=>(∀bq oq,bq<W.heap.size+1→w'.cell? ⟨bq,oq,none⟩=(W.alloc (.cells #[.int .i64 5,.int .i64 m,.int .i64 (F i).ck,.int .i64 (F i).cn,.string (F i).cs,.int .i64 (F i).ac,.int .i64 (F i).ar,.bool (F i).af,.bool (F i).ag,.int .i64 (F i).bc,.int .i64 (F i).br,.bool (F i).bf,.bool (F i).bg,.slice (some ⟨b1,o1,none⟩) 2 kb] 201)).cell? ⟨bq,oq,none⟩)∧W.heap.size+1≤w'.heap.size∧Below (W.heap.size+1) (W.alloc (.cells #[.int .i64 5,.int .i64 m,.int .i64 (F i).ck,.int .i64 (F i).cn,.string (F i).cs,.int .i64 (F i).ac,.int .i64 (F i).ar,.bool (F i).af,.bool (F i).ag,.int .i64 (F i).bc,.int .i64 (F i).br,.bool (F i).bf,.bool (F i).bg,.slice (some ⟨b1,o1,none⟩) 2 kb] 201)) w')
  (exact Qp (by go_size) (by go_grown))
  (first
  | (go_at_call 148;refine(Xv _ _ HMB.out.1 HMB.out.2).mono ?_;rintro e wr ⟨rfl,hb⟩;rw [HSG.out];obtain⟨hkk,hzz⟩:=Qg (B:=W.heap.size+1) (X:=(W.alloc (.cells #[.int .i64 5,.int .i64 m,.int .i64 (F i).ck,.int .i64 (F i).cn,.string (F i).cs,.int .i64 (F i).ac,.int .i64 (F i).ar,.bool (F i).af,.bool (F i).ag,.int .i64 (F i).bc,.int .i64 (F i).br,.bool (F i).bf,.bool (F i).bg,.slice (some ⟨b1,o1,none⟩) 2 kb] 201))) (by go_grown) (by go_size) hb;have hC:=fun b o h=>hkk.cell (p:=⟨b,o,none⟩) h;clear hb)
  | (go_at_call_of 170 (Value.int .i64 L);refine(HA.out _ (HR.out.below (ZT (n:=1) (X:=(W.alloc (.cells #[.int .i64 5,.int .i64 m,.int .i64 (F i).ck,.int .i64 (F i).cn,.string (F i).cs,.int .i64 (F i).ac,.int .i64 (F i).ar,.bool (F i).af,.bool (F i).ag,.int .i64 (F i).bc,.int .i64 (F i).br,.bool (F i).bf,.bool (F i).bg,.slice (some ⟨b1,o1,none⟩) 2 kb] 201))) (by go_grown) (by go_grown)))).mono ?_;rintro e wr ⟨rfl,hb⟩;rw [HT.out];obtain⟨hkk,hzz⟩:=Qg (B:=W.heap.size+1) (X:=(W.alloc (.cells #[.int .i64 5,.int .i64 m,.int .i64 (F i).ck,.int .i64 (F i).cn,.string (F i).cs,.int .i64 (F i).ac,.int .i64 (F i).ar,.bool (F i).af,.bool (F i).ag,.int .i64 (F i).bc,.int .i64 (F i).br,.bool (F i).bf,.bool (F i).bg,.slice (some ⟨b1,o1,none⟩) 2 kb] 201))) (by go_grown) (by go_size) hb;have hC:=fun b o h=>hkk.cell (p:=⟨b,o,none⟩) h;clear hb)
  | (go_at_call 170;refine(HB.out _ (HR.out.below (ZT (n:=1) (X:=(W.alloc (.cells #[.int .i64 5,.int .i64 m,.int .i64 (F i).ck,.int .i64 (F i).cn,.string (F i).cs,.int .i64 (F i).ac,.int .i64 (F i).ar,.bool (F i).af,.bool (F i).ag,.int .i64 (F i).bc,.int .i64 (F i).br,.bool (F i).bf,.bool (F i).bg,.slice (some ⟨b1,o1,none⟩) 2 kb] 201))) (by go_grown) (by go_grown)))).mono ?_;rintro e wr ⟨rfl,hb⟩;rw [HU.out];obtain⟨hkk,hzz⟩:=Qg (B:=W.heap.size+1) (X:=(W.alloc (.cells #[.int .i64 5,.int .i64 m,.int .i64 (F i).ck,.int .i64 (F i).cn,.string (F i).cs,.int .i64 (F i).ac,.int .i64 (F i).ar,.bool (F i).af,.bool (F i).ag,.int .i64 (F i).bc,.int .i64 (F i).br,.bool (F i).bf,.bool (F i).bg,.slice (some ⟨b1,o1,none⟩) 2 kb] 201))) (by go_grown) (by go_size) hb;have hC:=fun b o h=>hkk.cell (p:=⟨b,o,none⟩) h;clear hb))
 all_goals
  by_cases hlz:L<z
  ·go_wp2_with fail
   go_ret;exact⟨Qr (HF1.out hlz),ZT (n:=1) (X:=(W.alloc (.cells #[.int .i64 5,.int .i64 m,.int .i64 (F i).ck,.int .i64 (F i).cn,.string (F i).cs,.int .i64 (F i).ac,.int .i64 (F i).ar,.bool (F i).af,.bool (F i).ag,.int .i64 (F i).bc,.int .i64 (F i).br,.bool (F i).bf,.bool (F i).bg,.slice (some ⟨b1,o1,none⟩) 2 kb] 201))) (by go_grown) (by go_grown)⟩
  ·go_wp2_with fail
   go_ret;exact⟨Qr (HF2.out hlz),ZT (n:=1) (X:=(W.alloc (.cells #[.int .i64 5,.int .i64 m,.int .i64 (F i).ck,.int .i64 (F i).cn,.string (F i).cs,.int .i64 (F i).ac,.int .i64 (F i).ar,.bool (F i).af,.bool (F i).ag,.int .i64 (F i).bc,.int .i64 (F i).br,.bool (F i).bf,.bool (F i).bg,.slice (some ⟨b1,o1,none⟩) 2 kb] 201))) (by go_grown) (by go_grown)⟩
theorem Qp9 {ks:List Int} {f:Int→List UInt8} {t:Nat} (h:t<ks.length):jn ((ks.take (t+1)).map f)=(if t=0 then f (ks.getD t 0)else jn ((ks.take t).map f)++ [44]++f (ks.getD t 0)):=by
 have e:ks.take (t+1)=ks.take t++ [ks.getD t 0]:=by
  rw [List.take_succ_eq_append_getElem h,List.getD_eq_getElem?_getD,List.getElem?_eq_getElem h];rfl
 rw [e,List.map_append];by_cases h0:t=0
 ·subst h0;rw [if_pos rfl];simp [jn]
 ·rw [if_neg h0]
  exact Qqa _ _ (by
   intro e9;have:=congrArg List.length e9;rw [List.length_map,List.length_take]at this;simp only [List.length_nil]at this
   omega)
theorem Qjp {A:Option Addr} {n cap:Nat} {F:Nat→FN} {i:Nat} (z:Int) (hi:i<n) (hG:QM (fG F) n) (hk:(F i).k=6) (ho:1≤(F i).o∧(F i).o≤10) (hkl:1≤(F i).kids.length∧(F i).kids.length≤10) (hN: ∀a:Nat,(a:Int)∈(F i).kids→StC A n cap F a 0∧(TX F a).length≤116977784950510) (W:World) (hr:FnRow W A n F):
  Calls Tryz.prog 170 #[.slice A n cap,.int .i64 i,.int .i64 z] W fun e w'=>e= .returned (.string (bs (TX F i)))∧Below W.heap.size W w':=by
 obtain⟨ks,HKS⟩: ∃ks,Hid ((F i).kids=ks):=⟨_,rfl⟩;have HN:Hid (∀a:Nat,(a:Int)∈ks→StC A n cap F a 0∧(TX F a).length≤116977784950510):=by show∀a:Nat,_;rw [←HKS.out];exact hN
 have HRA:Hid (∀c∈ks,0≤c∧c<(n:Int)):=by
  show∀c∈ks,_;rw [←HKS.out];exact fun c hc=>by have:=hG i hi c hc;omega
 have HTX:Hid (TX F i=fnT (F i).o++ [40]++jn (ks.map fun c=>TX F c.toNat)++ [41]):=by show _=_;rw [←HKS.out];exact Qg4 hG hi hk
 clear hN hG;have HR:Hid (FnRow W A n F):=hr;have hn:=hr.1;unfold maxLen at hn;obtain⟨b,p,KB,kb,rfl,hl,hnd,hks,hcs⟩:=hr.2 i hi;obtain⟨c0,c1,c2,c3,c4,c5,c6,c7,c8,c9,c10,c11,c12,c13⟩:=hnd;rw [hk]at c0
 rw [HKS.out]at hks hkl c13;have HKI:Hid (IntRow W KB ks):=hks;obtain⟨kl,HKL⟩: ∃kl,Hid (ks.length=kl):=⟨_,rfl⟩;rw [HKL.out]at hkl c13;have i0:(0:Int)≤(i:Int):=by omega
 have i1:(i:Int)<(n:Int):=by omega
 obtain⟨m,HM⟩: ∃m:Nat,Hid ((F i).o=(m:Int)):=⟨(F i).o.toNat,by show _=_;omega⟩;have HMB:Hid (1≤(m:Int)∧(m:Int)≤10):=by show _∧_;rw [HM.out]at ho;exact ho
 rw [HM.out]at HTX c1;obtain⟨fs,HFS⟩: ∃s,Hid (bs (fnT (m:Int))=s):=⟨_,rfl⟩;have hfs:fs.size≤5:=by rw [←HFS.out,Qt];exact Ew _
 have z0: ¬9223372036854775807<fs.size+1:=by omega
 clear hr hks hcs ho;go_enter Tryz.func170,Tryz.ntmps170;go_wp2_with fail
 refine(Db _ _ HMB.out.1 HMB.out.2).mono ?_;rintro e w1 ⟨rfl,hb⟩;rw [HFS.out];have HX1:Hid (Below (W.heap.size+1) (W.alloc (.cells #[.int .i64 6,.int .i64 m,.int .i64 (F i).ck,.int .i64 (F i).cn,.string (F i).cs,.int .i64 (F i).ac,.int .i64 (F i).ar,.bool (F i).af,.bool (F i).ag,.int .i64 (F i).bc,.int .i64 (F i).br,.bool (F i).bf,.bool (F i).bg,.slice KB kl kb] 201)) w1):=by show Below _ _ _;have h9:=hb;simp at h9;exact h9
 clear hb c0 c1 c2 c3 c4 c5 c6 c7 c8 c9 c10 c11 c12 c13;go_wp2_with fail
 go_loopw [10,11] (fun v10 j wr=> ∃(t:Nat) (o:ByteArray),t≤kl∧j= .int .i64 t∧v10= .string o∧o.size≤6+t*116977784950511∧o=bs (fnT (m:Int)++ [40]++jn ((ks.take t).map fun c=>TX F c.toNat))∧Below (W.heap.size+1) (W.alloc (.cells #[.int .i64 6,.int .i64 m,.int .i64 (F i).ck,.int .i64 (F i).cn,.string (F i).cs,.int .i64 (F i).ac,.int .i64 (F i).ar,.bool (F i).af,.bool (F i).ag,.int .i64 (F i).bc,.int .i64 (F i).br,.bool (F i).bf,.bool (F i).bg,.slice KB kl kb] 201)) wr) (fun _ j _=>kl-(intOf j).toNat)
 case atStart=>exact⟨0,_,Nat.zero_le _,rfl,rfl,by rw [ByteArray.size_append,show(⟨#[40]⟩:ByteArray).size=1 from rfl];omega,by rw [←HFS.out,show(⟨#[40]⟩:ByteArray)=bs [40]from rfl,QK];simp [jn],HX1.out⟩
 case round=>
  clear HX1;obtain⟨t,o,ht,rfl,rfl,hos,hoe,hbel⟩:=hrel;have HOE:Hid (o=bs (fnT (m:Int)++ [40]++jn ((ks.take t).map fun c=>TX F c.toNat))):=hoe;have HW:Hid (Below W.heap.size W wr):=ZT (n:=1) (X:=(W.alloc (.cells #[.int .i64 6,.int .i64 m,.int .i64 (F i).ck,.int .i64 (F i).cn,.string (F i).cs,.int .i64 (F i).ac,.int .i64 (F i).ar,.bool (F i).af,.bool (F i).ag,.int .i64 (F i).bc,.int .i64 (F i).br,.bool (F i).bf,.bool (F i).bg,.slice KB kl kb] 201))) (by go_grown) hbel;have lw:W.heap.size<wr.heap.size:=by have:=hbel.size;simp at this;omega
  have o13:wr.cell? ⟨W.heap.size,13,none⟩=some (.slice KB kl kb):=(hbel.cell (p:=⟨W.heap.size,13,none⟩) (Nat.lt_succ_self _)).trans (by simp);have HBX:Hid (Below (W.heap.size+1) (W.alloc (.cells #[.int .i64 6,.int .i64 m,.int .i64 (F i).ck,.int .i64 (F i).cn,.string (F i).cs,.int .i64 (F i).ac,.int .i64 (F i).ar,.bool (F i).af,.bool (F i).ag,.int .i64 (F i).bc,.int .i64 (F i).br,.bool (F i).bf,.bool (F i).bg,.slice KB kl kb] 201)) wr):=hbel;clear hoe hbel;by_cases hlt:t<kl
  ·obtain⟨b1,o1,rfl,hl1,e1⟩:=HKI.out.2 t (by rw [HKL.out];exact hlt);rw [←HW.out.cell (p:=⟨_,_,none⟩) hl1]at e1;have hmem:ks.getD t 0∈ks:=Qmv (by rw [HKL.out];exact hlt);have hra:=HRA.out _ hmem;obtain⟨a,HA⟩: ∃a:Nat,Hid (ks.getD t 0=(a:Int)):=⟨(ks.getD t 0).toNat,by show _=_;omega⟩;have HJ:Hid (jn ((ks.take (t+1)).map fun c=>TX F c.toNat)=(if t=0 then TX F (ks.getD t 0).toNat else jn ((ks.take t).map fun c=>TX F c.toNat)++ [44]++TX F (ks.getD t 0).toNat)):=Qp9 (f:=fun c=>TX F c.toNat) (by rw [HKL.out];exact hlt);rw [HA.out]at e1 hmem HJ
   rw [Int.toNat_natCast]at HJ;obtain⟨hst,hsz⟩:=HN.out a hmem;have HST:Hid (StC (some ⟨b,p,none⟩) n cap F a 0):=hst;obtain⟨tx,HTA⟩: ∃tx,Hid (bs (TX F a)=tx):=⟨_,rfl⟩;have htx:tx.size≤116977784950510:=by rw [←HTA.out,Qt];exact hsz
   have l1:b1<wr.heap.size:=Nat.lt_of_lt_of_le hl1 HW.out.size;have t0:(0:Int)≤(t:Int):=by omega
   have t1:(t:Int)<(kl:Int):=by omega
   have hk10:t≤9:=by omega
   clear hst hsz hmem hra;by_cases hz0:t=0
   ·subst hz0;rw [Nat.add_zero]at e1;have s1: ¬9223372036854775807<o.size+tx.size:=by omega
    have HF:Hid (o++tx=bs (fnT (m:Int)++ [40]++jn ((ks.take (0+1)).map fun c=>TX F c.toNat))):=by
     show _=_;rw [HJ.out,if_pos rfl,HOE.out,←HTA.out,QK];simp [jn]
    go_wp2_with fail
    refine(HST.out _ (HR.out.below HW.out)).mono ?_;rintro e w2 ⟨rfl,hb⟩;rw [NF,HTA.out];have HBX2:Hid (Below (W.heap.size+1) (W.alloc (.cells #[.int .i64 6,.int .i64 m,.int .i64 (F i).ck,.int .i64 (F i).cn,.string (F i).cs,.int .i64 (F i).ac,.int .i64 (F i).ar,.bool (F i).af,.bool (F i).ag,.int .i64 (F i).bc,.int .i64 (F i).br,.bool (F i).bf,.bool (F i).bg,.slice (some ⟨b1,o1,none⟩) kl kb] 201)) w2):=HBX.out.trans (hb.mono (by have:=HBX.out.size;simpa using this));clear hb;go_wp2_with fail
    all_goals
     go_roundw
     case rel=>exact⟨0+1,_,by omega,by go_num,rfl,by rw [ByteArray.size_append];omega,HF.out,HBX2.out⟩
     case measure=>simp [intOf];omega
   ·have g0:(0:Int)<(t:Int):=by omega
    have s0: ¬9223372036854775807<o.size+1:=by omega
    obtain⟨oc,HOC⟩: ∃oc,Hid (o++(⟨#[44]⟩:ByteArray)=oc):=⟨_,rfl⟩;have hoc:oc.size=o.size+1:=by rw [←HOC.out,ByteArray.size_append];rfl
    have r1: ∀W,(Op.stringOp .add o (⟨#[44]⟩:ByteArray)).run Tryz.prog W= .ok (.string oc) W:=fun W=>by
     rw [run_string_add_sum W _ _ (by have h1:(⟨#[44]⟩:ByteArray).size=1:=rfl;omega),HOC.out]
    have s1: ¬9223372036854775807<oc.size+tx.size:=by omega
    have HF:Hid (oc++tx=bs (fnT (m:Int)++ [40]++jn ((ks.take (t+1)).map fun c=>TX F c.toNat))):=by
     show _=_;rw [HJ.out,if_neg hz0,←HOC.out,HOE.out,←HTA.out,show(⟨#[44]⟩:ByteArray)=bs [44]from rfl,QK,QK];simp
    go_wp2_with fail
    refine(HST.out _ (HR.out.below HW.out)).mono ?_;rintro e w2 ⟨rfl,hb⟩;rw [NF,HTA.out];have HBX2:Hid (Below (W.heap.size+1) (W.alloc (.cells #[.int .i64 6,.int .i64 m,.int .i64 (F i).ck,.int .i64 (F i).cn,.string (F i).cs,.int .i64 (F i).ac,.int .i64 (F i).ar,.bool (F i).af,.bool (F i).ag,.int .i64 (F i).bc,.int .i64 (F i).br,.bool (F i).bf,.bool (F i).bg,.slice (some ⟨b1,o1,none⟩) kl kb] 201)) w2):=HBX.out.trans (hb.mono (by have:=HBX.out.size;simpa using this));clear hb;go_wp2_with fail
    all_goals
     go_roundw
     case rel=>exact⟨t+1,_,by omega,by go_num,rfl,by rw [ByteArray.size_append];omega,HF.out,HBX2.out⟩
     case measure=>simp [intOf];omega
  ·obtain rfl:t=kl:=by omega
   have s1: ¬9223372036854775807<o.size+1:=by omega
   have HF:Hid (o++(⟨#[41]⟩:ByteArray)=bs (TX F i)):=by
    show _=_;rw [HTX.out,HOE.out,List.take_of_length_le (by rw [HKL.out];exact Nat.le_refl _),show(⟨#[41]⟩:ByteArray)=bs [41]from rfl,QK]
   go_wp2_with fail
   go_ret;exact⟨Qr HF.out,HW.out⟩
theorem Qak {A:Option Addr} {n cap:Nat} {F:Nat→FN} (h:Zk F n=true): ∀i,i<n→ZJ (fG F) i≤12→ ∀z,StC A n cap F i z:=by
 obtain⟨h1,h60,hn,hr,hdr⟩:=Ok h;intro i;induction i using Nat.strongRecOn with
 | ind i ih=>
  intro hi hd z
  have kid: ∀c∈(F i).kids,(0≤c∧c<(i:Int))∧ZJ (fG F) c≤12:=fun c hc=>by
   have h2:=hr i hi c hc;have h3:=Ns hr hi hc;exact⟨h2,by omega⟩
  have st: ∀a:Nat,(a:Int)∈(F i).kids→a<n∧ZJ (fG F) a≤12∧ ∀y,StC A n cap F a y:=fun a ha=>by
   have h2:=kid a ha;exact⟨by omega,h2.2,ih a (by omega) (by omega) h2.2⟩
  rcases Yf (hn i hi)with⟨hk,hc,hks⟩ | ⟨hk,hc,hks⟩ | ⟨hk,hc,hc',hks⟩ | ⟨hk,c,hks⟩ | ⟨hk,o1,o2,c,d,hks⟩ | ⟨hk,o1,o2,l1,l2⟩
  ·intro W hrow;have e:bdX F i z=Ue (F i).ck (F i).cn (F i).cs:=by rw [Oo (by omega),VW (by omega) (by omega) (by omega),Hn,if_pos hk]
   rw [e];exact Qju z hi hk hc W hrow
  ·intro W hrow;obtain⟨j,hj,hj9⟩:=VF hc
   have e:bs (bdX F i z)=Qw (F i).ac j (F i).af (F i).ag:=by
    rw [Oo (by omega),VW (by omega) (by omega) (by omega),Hn,if_neg (by omega),if_pos hk,plT,hj,Int.toNat_natCast];rfl
   rw [e];exact Qjt z hi hk hj hj9 hc W hrow
  ·intro W hrow;obtain⟨j,hj,hj9⟩:=VF hc;obtain⟨j',hj',hj9'⟩:=VF hc'
   have e:bs (bdX F i z)=Qw (F i).ac j (F i).af (F i).ag++(⟨#[58]⟩:ByteArray)++Qw (F i).bc j' (F i).bf (F i).bg:=by
    rw [Oo (by omega),VW (by omega) (by omega) (by omega),Hn,if_neg (by omega),if_neg (by omega),plT,plT,hj,hj',Int.toNat_natCast,Int.toNat_natCast,←QK,←QK];rfl
   rw [e];exact Qjs z hi hk hj hj9 hc hj' hj9' hc' W hrow
  ·obtain⟨a,rfl⟩: ∃a:Nat,c=(a:Int):=⟨c.toNat,by have:=(kid c (by rw [hks];simp)).1;omega⟩;obtain⟨ha,hda,hna⟩:=st a (by rw [hks];simp);intro W hrow;have e:=Qnl hr hi hk hks;rw [Int.toNat_natCast]at e;rw [Oo (by omega),e];exact Qjr z hi hk hks (hna 5) (Xi h ha hda 5) W hrow
  ·obtain⟨a,rfl⟩: ∃a:Nat,c=(a:Int):=⟨c.toNat,by have:=(kid c (by rw [hks];simp)).1;omega⟩;obtain⟨b,rfl⟩: ∃a:Nat,d=(a:Int):=⟨d.toNat,by have:=(kid d (by rw [hks];simp)).1;omega⟩;obtain⟨ha,hda,hna⟩:=st a (by rw [hks];simp);obtain⟨hb,hdb,hnb⟩:=st b (by rw [hks];simp);intro W hrow;have e:=Qnm hr hi hk hks;rw [Int.toNat_natCast,Int.toNat_natCast]at e
   exact Qjq z hi hk hks ⟨o1,o2⟩ (hna _) (hnb _) (Xi h ha hda _) (Xi h hb hdb _) e W hrow
  ·intro W hrow;rw [Oo (by omega)];exact Qjp z hi hr hk ⟨o1,o2⟩ ⟨l1,l2⟩ (fun a ha=>by obtain⟨h2,h3,h4⟩:=st a ha;exact⟨h4 0,Xs h h2 h3⟩) W hrow
theorem XD {A:Option Addr} {n cap:Nat} {F:Nat→FN} (w:World) (h:FnRow w A n F) (hn:n≤1048576) (hkn: ∀i,i<n→(F i).kids.length≤1048576):
  Calls Tryz.prog 117 #[.slice A n cap] w fun e w'=>e= .returned (.string (ftx F n))∧Below w.heap.size w w':=by
 have HR:Hid (FnRow w A n F):=h;have HKN:Hid (∀i,i<n→(F i).kids.length≤1048576):=hkn;clear h hkn;cases hok:Zk F n
 ·have HE:Hid (ftx F n=⟨#[]⟩):=by show _=_;unfold ftx;rw [if_neg (fun e=>by rw [hok]at e;cases e.1)]
  have HO:Hid (Zk F n=false):=hok;clear hok;go_enter Tryz.func117,Tryz.ntmps117;go_wp2_with fail
  refine(Xd _ HR.out hn HKN.out).mono ?_;rintro e w1 ⟨rfl,hb⟩;rw [HO.out];go_wp2_with fail
  go_ret;exact⟨Qr HE.out.symm,hb⟩
 ·have HO:Hid (Zk F n=true):=hok;obtain⟨h1,h60,_,hr,hdr⟩:=Ok hok;obtain⟨m,rfl⟩: ∃m,n=m+1:=⟨n-1,by omega⟩
  have hd:ZJ (fG F) m≤12:=by
   have e:(((m+1:Nat):Int)-1)=(m:Int):=by omega
   rw [e]at hdr;exact hdr
  have HN:Hid (StC A (m+1) cap F m 0):=Qak hok m (by omega) hd 0;obtain⟨t,HT⟩: ∃t,Hid (bs (TX F m)=t):=⟨_,rfl⟩;have ht:t.size=(TX F m).length:=by rw [←HT.out,Qt]
  have HE1:Hid (t.size≤200→t=ftx F (m+1)):=fun h2=>by unfold ftx;rw [if_pos ⟨hok,by rw [Nat.add_sub_cancel];omega⟩,Nat.add_sub_cancel,HT.out]
  have HE2:Hid (¬t.size≤200→(⟨#[]⟩:ByteArray)=ftx F (m+1)):=fun h2=>by unfold ftx;rw [if_neg (fun e=>h2 (by have:=e.2;rw [Nat.add_sub_cancel]at this;omega))]
  obtain⟨N,HNN⟩: ∃N,Hid (m+1=N):=⟨_,rfl⟩;clear hok hdr hd hr;rw [HNN.out]at HR HKN HO HN HE1 HE2 hn h1 h60 ⊢;have hmN:(N:Int)-1=(m:Int):=by have:=HNN.out;omega
  go_enter Tryz.func117,Tryz.ntmps117;go_wp2_with fail
  refine(Xd _ HR.out hn HKN.out).mono ?_;rintro e w1 ⟨rfl,hb⟩;rw [HO.out];have HB:Hid (Below w.heap.size w w1):=hb;clear hb;go_wp2_with fail
  refine(HN.out _ (HR.out.below HB.out)).mono ?_;rintro e w2 ⟨rfl,hb⟩;rw [NF,HT.out];have HB2:=hd (Qc HB.out hb);clear hb;by_cases h2:t.size≤200
  ·have h2': ¬(200:Int)<(t.size:Int):=by omega
   have HE':Hid (t=ftx F N):=HE1.out h2;go_wp2_with fail
   go_ret;exact⟨Qr HE'.out,HB2.out⟩
  ·have h2':(200:Int)<(t.size:Int):=by omega
   have HE':Hid ((⟨#[]⟩:ByteArray)=ftx F N):=HE2.out h2;go_wp2_with fail
   go_ret;exact⟨Qr HE'.out,HB2.out⟩
end Go.Proofs.YtbdhinckiccniaaGreatDoor
