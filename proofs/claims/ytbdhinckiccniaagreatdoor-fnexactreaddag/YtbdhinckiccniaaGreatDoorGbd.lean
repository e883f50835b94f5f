import Derived.Test.YtbdhinckiccniaaGreatDoorMn
import Derived.Test.YtbdhinckiccniaaGreatDoorGar
import Derived.Lib.ItoaLen
import Derived.Test.YtbdhinckiccniaaGreatDoorGas
set_option linter.unusedSimpArgs false
set_option linter.unusedVariables false
set_option maxHeartbeats 8000000
set_option maxRecDepth 100000
namespace Go.Proofs.YtbdhinckiccniaaGreatDoor
open Go.RowKit
theorem Qeh (s:ByteArray):((⟨#[39]⟩:ByteArray)++s).data.toList=39::s.data.toList:=by simp
theorem Qqk {g:Int × Int × ByteArray} (h:(g=(0,0,⟨#[]⟩))∨(∃n,g=(1,n,⟨#[]⟩))∨(∃s,g=(2,0,s))∨(∃n,g=(3,n,⟨#[]⟩))∨(∃n,g=(4,n,⟨#[]⟩))∨g=(5,0,⟨#[]⟩)):gOk g=okV g.1 g.2.1 g.2.2:=by
 rcases h with rfl | ⟨n,rfl⟩ | ⟨s,rfl⟩ | ⟨n,rfl⟩ | ⟨n,rfl⟩ | rfl
 ·simp [gOk,okV,Xm]
 ·simp [gOk,okV,Xm]
 ·simp [gOk,okV]
 ·simp [gOk,okV,Xm]
 ·simp [gOk,okV,Xm]
 ·simp [gOk,okV]
theorem Dw (t:ByteArray):gOk (Qu t)=okV (Qu t).1 (Qu t).2.1 (Qu t).2.2:=by
 apply Qqk;rcases Uc t with h | h | ⟨s2,_,h⟩ | h | h | h
 ·exact Or.inl h
 ·exact Or.inr (Or.inl h)
 ·exact Or.inr (Or.inr (Or.inl ⟨s2,h⟩))
 ·exact Or.inr (Or.inr (Or.inr (Or.inl h)))
 ·exact Or.inr (Or.inr (Or.inr (Or.inr (Or.inl h))))
 ·exact Or.inr (Or.inr (Or.inr (Or.inr (Or.inr h))))
theorem Qei {t:ByteArray} (h:0<t.size) (h39:t[0].toNat=39):(⟨#[39]⟩:ByteArray)++t.extract 1 t.size=t:=by
 apply ByteArray.ext;apply Array.ext';rw [Qeh,Hs];have e:=Yz h;cases hl:t.data.toList with
 | nil=>rw [hl]at e;cases e
 | cons a r=>
  rw [hl]at e;simp only [List.head?_cons,Option.some.injEq]at e;rw [List.tail_cons,e];congr 1
  apply UInt8.toNat_inj.1;rw [h39];rfl
theorem Qea (t:ByteArray) (h:gOk (Qu t)=true):txB (Qu t).1 (Qu t).2.1 (Qu t).2.2=t:=by
 by_cases hs:0<t.size
 ·by_cases h39:t[0].toNat=39
  ·rw [show Qu t=(2,0,t.extract 1 t.size) by unfold Qu;rw [dif_pos hs,if_pos h39]];exact Qei hs h39
  rw [show Qu t=VQ t by unfold Qu;rw [dif_pos hs,if_neg h39]]at h ⊢;unfold VQ at h ⊢;by_cases n0:t=trT 0
  ·rw [if_pos n0];exact n0.symm
  by_cases n1:t=trT 1
  ·rw [if_neg n0,if_pos n1];exact n1.symm
  by_cases n2:t=erT 1
  ·rw [if_neg n0,if_neg n1,if_pos n2];exact n2.symm
  by_cases n3:t=erT 2
  ·rw [if_neg n0,if_neg n1,if_neg n2,if_pos n3];exact n3.symm
  by_cases n4:t=erT 3
  ·rw [if_neg n0,if_neg n1,if_neg n2,if_neg n3,if_pos n4];exact n4.symm
  by_cases n5:t=erT 4
  ·rw [if_neg n0,if_neg n1,if_neg n2,if_neg n3,if_neg n4,if_pos n5];exact n5.symm
  by_cases n6:t=erT 5
  ·rw [if_neg n0,if_neg n1,if_neg n2,if_neg n3,if_neg n4,if_neg n5,if_pos n6];exact n6.symm
  rw [if_neg n0,if_neg n1,if_neg n2,if_neg n3,if_neg n4,if_neg n5,if_neg n6]at h ⊢;cases hr:Yt t.data.toList with
  | none=>rw [hr]at h;simp [Qm1,gOk]at h
  | some n=>
   show itB n=t;unfold itB;rw [(GG hr).1]
 ·rw [show Qu t=(0,0,⟨#[]⟩) by unfold Qu;rw [dif_neg hs]];exact(Zg (s:=t) (by omega)).symm
def ndV (x:FN) (KA:Option Addr) (kc:Nat):Value:= .agg #[.int .i64 x.k,.int .i64 x.o,.int .i64 x.ck,.int .i64 x.cn,.string x.cs,.int .i64 x.ac,.int .i64 x.ar,.bool x.af,.bool x.ag,.int .i64 x.bc,.int .i64 x.br,.bool x.bf,.bool x.bg,.slice KA x.kids.length kc]
def NtC (A:Option Addr) (n cap:Nat) (F:Nat→FN) (i:Nat):Prop:= ∀(W:World) (KA:Option Addr) (kc:Nat),FnRow W A n F→GT W→IntRow W KA (F i).kids→
 Calls Tryz.prog 206 #[.slice A n cap,ndV (F i) KA kc] W fun e w'=>e= .returned (.string (bs (TX F i)))∧Below W.heap.size W w'
def BtC (A:Option Addr) (n cap:Nat) (F:Nat→FN) (i:Nat) (z:Int):Prop:= ∀(W:World) (KA:Option Addr) (kc:Nat),FnRow W A n F→GT W→IntRow W KA (F i).kids→
 Calls Tryz.prog 249 #[.slice A n cap,ndV (F i) KA kc,.int .i64 z] W fun e w'=>e= .returned (.string (bs (bdX F i z)))∧Below W.heap.size W w'
theorem Qk6 (o ck cn:Int) (cs:ByteArray) (ac ar:Int) (af ag:Bool) (bc br:Int) (bf bg:Bool) {KA:Option Addr} {kl kc:Nat} {A:Option Addr} {n cap:Nat} (w:World) (hs:cs.size≤maxLen) (hc:cOk ck cn cs=true) (hg:GT w):Calls Tryz.prog 206 #[.slice A n cap,.agg #[.int .i64 1,.int .i64 o,.int .i64 ck,.int .i64 cn,.string cs,.int .i64 ac,.int .i64 ar,.bool af,.bool ag,.int .i64 bc,.int .i64 br,.bool bf,.bool bg,.slice KA kl kc]] w fun e w'=>
  e= .returned (.string (bs (Ue ck cn cs)))∧Below w.heap.size w w':=by
 have HG:Hid (GT w):=hg;have HC:Hid (cOk ck cn cs=true):=hc;have HS:Hid (cs.size≤maxLen):=hs;clear hg hc hs;go_enter Tryz.func206,Tryz.ntmps206;go_wp2_with fail
 refine(UW ck cn cs _ HS.out HC.out (HG.out.below (by go_grown))).mono ?_;rintro e w1 ⟨rfl,hb⟩;have K1:=Qc (w:=w) (by go_grown) hb;go_wp2_with fail
 go_ret;exact⟨rfl,K1⟩
theorem Qk5 (o ck cn:Int) (cs:ByteArray) (ac:Int) (i:Nat) (af ag:Bool) (bc br:Int) (bf bg:Bool) {KA:Option Addr} {kl kc:Nat} {A:Option Addr} {n cap:Nat} (w:World) (hi:i<100) (ho:Qh ac i=true):Calls Tryz.prog 206 #[.slice A n cap,.agg #[.int .i64 2,.int .i64 o,.int .i64 ck,.int .i64 cn,.string cs,.int .i64 ac,.int .i64 i,.bool af,.bool ag,.int .i64 bc,.int .i64 br,.bool bf,.bool bg,.slice KA kl kc]] w fun e w'=>
  e= .returned (.string (Qw ac i af ag))∧Below w.heap.size w w':=by
 have HO:Hid (Qh ac i=true):=ho;clear ho;go_enter Tryz.func206,Tryz.ntmps206;go_wp2_with fail
 refine(Zs ac i af ag _ hi HO.out).mono ?_;rintro e w1 ⟨rfl,hb⟩;have K1:=Qc (w:=w) (by go_grown) hb;go_wp2_with fail
 go_ret;exact⟨rfl,K1⟩
theorem Mr (c:Int) (i:Nat) (x y:Bool):(Qw c i x y).size≤6:=by
 rw [Qw,ByteArray.size_append,ByteArray.size_append,ByteArray.size_append];have h1:=Xl x;have h2:=Xl y;have h3:=Xh c;have h4:=Xg i;omega
theorem Qk4 (o ck cn:Int) (cs:ByteArray) (ac:Int) (i:Nat) (af ag:Bool) (bc:Int) (j:Nat) (bf bg:Bool) {KA:Option Addr} {kl kc:Nat} {A:Option Addr} {n cap:Nat} (w:World) (hi:i<100) (ho:Qh ac i=true) (hj:j<100) (ho':Qh bc j=true):Calls Tryz.prog 206 #[.slice A n cap,.agg #[.int .i64 3,.int .i64 o,.int .i64 ck,.int .i64 cn,.string cs,.int .i64 ac,.int .i64 i,.bool af,.bool ag,.int .i64 bc,.int .i64 j,.bool bf,.bool bg,.slice KA kl kc]] w fun e w'=>
  e= .returned (.string (Qw ac i af ag++(⟨#[58]⟩:ByteArray)++Qw bc j bf bg))∧Below w.heap.size w w':=by
 have HO:Hid (Qh ac i=true):=ho;have HP:Hid (Qh bc j=true):=ho';clear ho ho';obtain⟨p,HPP⟩: ∃p,Hid (Qw ac i af ag=p):=⟨_,rfl⟩;obtain⟨q,HQQ⟩: ∃q,Hid (Qw bc j bf bg=q):=⟨_,rfl⟩;have hp:p.size≤6:=by have:=Mr ac i af ag;rw [HPP.out]at this;exact this
 have hq:q.size≤6:=by have:=Mr bc j bf bg;rw [HQQ.out]at this;exact this
 rw [HPP.out,HQQ.out]
 obtain⟨r1,r2⟩:(∀W,(Op.stringOp .add p (⟨#[58]⟩:ByteArray)).run Tryz.prog W= .ok (.string (p++(⟨#[58]⟩:ByteArray))) W)∧(∀W,(Op.stringOp .add (p++(⟨#[58]⟩:ByteArray)) q).run Tryz.prog W= .ok (.string (p++(⟨#[58]⟩:ByteArray)++q)) W):=by
  have h1:(⟨#[58]⟩:ByteArray).size=1:=rfl;refine⟨fun W=>run_string_add_sum W _ _ ?_,fun W=>run_string_add_sum W _ _ ?_⟩
  ·omega
  ·rw [ByteArray.size_append];omega
 go_enter Tryz.func206,Tryz.ntmps206;go_wp2_with fail
 go_region_held3 (fun w'=>(∀bq oq,bq<w.heap.size+1→w'.cell? ⟨bq,oq,none⟩=(w.alloc (.cells #[.int .i64 3,.int .i64 o,.int .i64 ck,.int .i64 cn,.string cs,.int .i64 ac,.int .i64 i,.bool af,.bool ag,.int .i64 bc,.int .i64 j,.bool bf,.bool bg,.slice KA kl kc] 201)).cell? ⟨bq,oq,none⟩)∧w.heap.size+1≤w'.heap.size∧Below (w.heap.size+1) (w.alloc (.cells #[.int .i64 3,.int .i64 o,.int .i64 ck,.int .i64 cn,.string cs,.int .i64 ac,.int .i64 i,.bool af,.bool ag,.int .i64 bc,.int .i64 j,.bool bf,.bool bg,.slice KA kl kc] 201)) w')
  (exact Qp (by go_size) (by go_grown))
  (first
  | (go_at_call_of 82 (Value.agg #[Value.int IntKind.i64 ac,Value.int IntKind.i64 (i:Int),Value.bool af,Value.bool ag]);refine(Zs ac i af ag _ hi HO.out).mono ?_;rintro e wr ⟨rfl,hb⟩;rw [HPP.out];obtain⟨hk,hz⟩:=Qg (B:=w.heap.size+1) (X:=(w.alloc (.cells #[.int .i64 3,.int .i64 o,.int .i64 ck,.int .i64 cn,.string cs,.int .i64 ac,.int .i64 i,.bool af,.bool ag,.int .i64 bc,.int .i64 j,.bool bf,.bool bg,.slice KA kl kc] 201))) (by go_grown) (by go_size) hb;have hC:=fun b o h=>hk.cell (p:=⟨b,o,none⟩) h;clear hb)
  | (go_at_call_of 82 (Value.agg #[Value.int IntKind.i64 bc,Value.int IntKind.i64 (j:Int),Value.bool bf,Value.bool bg]);refine(Zs bc j bf bg _ hj HP.out).mono ?_;rintro e wr ⟨rfl,hb⟩;rw [HQQ.out];obtain⟨hk,hz⟩:=Qg (B:=w.heap.size+1) (X:=(w.alloc (.cells #[.int .i64 3,.int .i64 o,.int .i64 ck,.int .i64 cn,.string cs,.int .i64 ac,.int .i64 i,.bool af,.bool ag,.int .i64 bc,.int .i64 j,.bool bf,.bool bg,.slice KA kl kc] 201))) (by go_grown) (by go_size) hb;have hC:=fun b o h=>hk.cell (p:=⟨b,o,none⟩) h;clear hb))
 all_goals go_wp2_with fail
 all_goals go_ret
 all_goals exact⟨rfl,ZT (n:=1) (X:=(w.alloc (.cells #[.int .i64 3,.int .i64 o,.int .i64 ck,.int .i64 cn,.string cs,.int .i64 ac,.int .i64 i,.bool af,.bool ag,.int .i64 bc,.int .i64 j,.bool bf,.bool bg,.slice KA kl kc] 201))) (by go_grown) (by go_grown)⟩
theorem Qk3 {A:Option Addr} {n cap:Nat} {F:Nat→FN} {i a:Nat} (hk:(F i).k=4) (hg:(F i).kids= [(a:Int)]) (ha:a<n) (hB:BtC A n cap F a 5) (hz:(bdX F a 5).length≤116977784950520) (W:World) (KA:Option Addr) (kc:Nat) (hr:FnRow W A n F) (hgt:GT W) (hki:IntRow W KA (F i).kids):
  Calls Tryz.prog 206 #[.slice A n cap,ndV (F i) KA kc] W fun e w'=>e= .returned (.string (bs ([45]++bdX F a 5)))∧Below W.heap.size W w':=by
 have HR:Hid (FnRow W A n F):=hr;have HG:Hid (GT W):=hgt;have HB:Hid (BtC A n cap F a 5):=hB;have hn:=hr.1;unfold maxLen at hn;rw [hg]at hki;obtain⟨b1,o1,rfl,hl1,e1⟩:=hki.2 0 (by simp)
 simp only [List.getD_cons_zero,Nat.add_zero]at e1;obtain⟨b,p,KB,kb,rfl,hl,hnd,hks,hcs⟩:=hr.2 a ha;obtain⟨c0,c1,c2,c3,c4,c5,c6,c7,c8,c9,c10,c11,c12,c13⟩:=hnd;have HK:Hid (IntRow W KB (F a).kids):=hks;clear hki hr hgt hB hks hcs;unfold ndV;rw [hk,hg]
 simp only [List.length_cons,List.length_nil];obtain⟨t,HT⟩: ∃t,Hid (bs (bdX F a 5)=t):=⟨_,rfl⟩;have ht:t.size≤116977784950520:=by rw [←HT.out,Qt];exact hz
 have z1: ¬9223372036854775807<1+t.size:=by omega
 have HF:Hid ((⟨#[45]⟩:ByteArray)++t=bs ([45]++bdX F a 5)):=by
  show _=_;rw [←HT.out,show(⟨#[45]⟩:ByteArray)=bs [45]from rfl,QK]
 have a0:(0:Int)≤(a:Int):=by omega
 have a1:(a:Int)<(n:Int):=by omega
 clear hg hz;go_enter Tryz.func206,Tryz.ntmps206;go_wp2_with fail
 refine(HB.out _ KB kb (HR.out.below (by go_grown)) (HG.out.below (by go_grown)) (HK.out.below (by go_grown))).mono ?_;rintro e w1 ⟨rfl,hb⟩;rw [HT.out];have K1:=Qc (w:=W) (by go_grown) hb;clear hb;go_wp2_with fail
 go_ret;exact⟨Qr HF.out,K1⟩
theorem Qk2 {A:Option Addr} {n cap:Nat} {F:Nat→FN} {i a b:Nat} (hk:(F i).k=5) (hg:(F i).kids= [(a:Int),(b:Int)]) (ho:1≤(F i).o∧(F i).o≤11) (ha:a<n) (hb:b<n) (hA:BtC A n cap F a (lvl (F i).o)) (hB:BtC A n cap F b (lvl (F i).o+1)) (hza:(bdX F a (lvl (F i).o)).length≤116977784950520) (hzb:(bdX F b (lvl (F i).o+1)).length≤116977784950520) (W:World) (KA:Option Addr) (kc:Nat) (hr:FnRow W A n F) (hgt:GT W) (hki:IntRow W KA (F i).kids):
  Calls Tryz.prog 206 #[.slice A n cap,ndV (F i) KA kc] W fun e w'=>e= .returned (.string (bs (bdX F a (lvl (F i).o)++sgT (F i).o++bdX F b (lvl (F i).o+1))))∧Below W.heap.size W w':=by
 have HR:Hid (FnRow W A n F):=hr;have HG:Hid (GT W):=hgt;have HA:Hid (BtC A n cap F a (lvl (F i).o)):=hA;have HB:Hid (BtC A n cap F b (lvl (F i).o+1)):=hB;have hn:=hr.1;unfold maxLen at hn;rw [hg]at hki
 obtain⟨b1,o1,rfl,hl1,e1⟩:=hki.2 0 (by simp);obtain⟨b2,o2,e9,_,e2⟩:=hki.2 1 (by simp);cases e9
 simp only [List.getD_cons_zero,List.getD_cons_succ,Nat.add_zero]at e1 e2;obtain⟨q,p,KB,kb,rfl,hl,hnd,hks,_⟩:=hr.2 a ha;obtain⟨c0,c1,c2,c3,c4,c5,c6,c7,c8,c9,c10,c11,c12,c13⟩:=hnd;obtain⟨q',p',KC,kd,e9,_,hnd,hks',_⟩:=hr.2 b hb;cases e9
 obtain⟨d0,d1,d2,d3,d4,d5,d6,d7,d8,d9,d10,d11,d12,d13⟩:=hnd;have HK:Hid (IntRow W KB (F a).kids):=hks;have HK':Hid (IntRow W KC (F b).kids):=hks';clear hki hr hgt hB hks hA hks';obtain⟨m,HM⟩: ∃m:Nat,Hid ((F i).o=(m:Int)):=⟨(F i).o.toNat,by show _=_;omega⟩;have hm:1≤m∧m≤11:=by rw [HM.out]at ho;omega
 obtain⟨t0,t1⟩:=HG.out.ot m hm.2;have hgl:=HG.out.ot.lt;have hgl2:0<W.heap.size:=Nat.lt_of_le_of_lt (Nat.zero_le _) hgl;have hbn:bnO m=lvl (m:Int):=by unfold bnO;rw [if_neg (by omega)]
 rw [hbn]at t1;clear hbn;obtain⟨hL1,hL4⟩:=Ek (m:Int);rw [HM.out]at HA HB hza hzb ⊢;unfold ndV;rw [hk,hg,HM.out];simp only [List.length_cons,List.length_nil]
 obtain⟨L,HL⟩: ∃L,Hid (lvl (m:Int)=L):=⟨_,rfl⟩;rw [HL.out]at t1 hL1 hL4 HA HB hza hzb ⊢;obtain⟨sg,HSG⟩: ∃s,Hid (bs (sgT (m:Int))=s):=⟨_,rfl⟩;have hsg:sg.size≤2:=by rw [←HSG.out,Qt];exact VE _
 rw [HSG.out]at t0;obtain⟨t,HT⟩: ∃t,Hid (bs (bdX F a L)=t):=⟨_,rfl⟩;obtain⟨u,HU⟩: ∃t,Hid (bs (bdX F b (L+1))=t):=⟨_,rfl⟩;have ht:t.size≤116977784950520:=by rw [←HT.out,Qt];exact hza
 have hu:u.size≤116977784950520:=by rw [←HU.out,Qt];exact hzb
 obtain⟨r1,r2⟩:(∀W,(Op.stringOp .add t sg).run Tryz.prog W= .ok (.string (t++sg)) W)∧(∀W,(Op.stringOp .add (t++sg) u).run Tryz.prog W= .ok (.string (t++sg++u)) W):=by
  refine⟨fun W=>run_string_add_sum W _ _ ?_,fun W=>run_string_add_sum W _ _ ?_⟩
  ·omega
  ·rw [ByteArray.size_append];omega
 have HF:Hid (t++sg++u=bs (bdX F a L++sgT (m:Int)++bdX F b (L+1))):=by
  show _=_;rw [←HT.out,←HU.out,←HSG.out,QK,QK]
 have hwr:IntKind.i64.wrap (L+1)=L+1:=by rw [IntKind.wrap_i64];omega
 have a0:(0:Int)≤(a:Int):=by omega
 have a1:(a:Int)<(n:Int):=by omega
 have lA:b1<W.heap.size+2:=by omega
 have lB:q<W.heap.size+2:=by omega
 have lA1:b1<W.heap.size+1:=by omega
 have lB1:q<W.heap.size+1:=by omega
 have bb0:(0:Int)≤(b:Int):=by omega
 have bb1:(b:Int)<(n:Int):=by omega
 have m0:(0:Int)≤(m:Int):=by omega
 have m1:(m:Int)<12:=by omega
 clear hza hzb hg ho;go_enter Tryz.func206,Tryz.ntmps206;go_wp2_with fail
 go_region_held3 (fun w'=>(∀bq oq,bq<W.heap.size+2→w'.cell? ⟨bq,oq,none⟩=((W.alloc (.cells #[.int .i64 5,.int .i64 m,.int .i64 (F i).ck,.int .i64 (F i).cn,.string (F i).cs,.int .i64 (F i).ac,.int .i64 (F i).ar,.bool (F i).af,.bool (F i).ag,.int .i64 (F i).bc,.int .i64 (F i).br,.bool (F i).bf,.bool (F i).bg,.slice (some ⟨b1,o1,none⟩) 2 kc] 201)).alloc (.cells #[.string sg,.int .i64 L] 261)).cell? ⟨bq,oq,none⟩)∧W.heap.size+2≤w'.heap.size∧Below (W.heap.size+2) ((W.alloc (.cells #[.int .i64 5,.int .i64 m,.int .i64 (F i).ck,.int .i64 (F i).cn,.string (F i).cs,.int .i64 (F i).ac,.int .i64 (F i).ar,.bool (F i).af,.bool (F i).ag,.int .i64 (F i).bc,.int .i64 (F i).br,.bool (F i).bf,.bool (F i).bg,.slice (some ⟨b1,o1,none⟩) 2 kc] 201)).alloc (.cells #[.string sg,.int .i64 L] 261)) w')
  (exact Qp (by go_size) (by go_grown))
  (first
  | (go_at_call_of 249 (Value.int .i64 L);refine(HA.out _ KB kb (HR.out.below (ZT (n:=2) (X:=((W.alloc (.cells #[.int .i64 5,.int .i64 m,.int .i64 (F i).ck,.int .i64 (F i).cn,.string (F i).cs,.int .i64 (F i).ac,.int .i64 (F i).ar,.bool (F i).af,.bool (F i).ag,.int .i64 (F i).bc,.int .i64 (F i).br,.bool (F i).bf,.bool (F i).bg,.slice (some ⟨b1,o1,none⟩) 2 kc] 201)).alloc (.cells #[.string sg,.int .i64 L] 261))) (by go_grown) (by go_grown))) (HG.out.below (ZT (n:=2) (X:=((W.alloc (.cells #[.int .i64 5,.int .i64 m,.int .i64 (F i).ck,.int .i64 (F i).cn,.string (F i).cs,.int .i64 (F i).ac,.int .i64 (F i).ar,.bool (F i).af,.bool (F i).ag,.int .i64 (F i).bc,.int .i64 (F i).br,.bool (F i).bf,.bool (F i).bg,.slice (some ⟨b1,o1,none⟩) 2 kc] 201)).alloc (.cells #[.string sg,.int .i64 L] 261))) (by go_grown) (by go_grown))) (HK.out.below (ZT (n:=2) (X:=((W.alloc (.cells #[.int .i64 5,.int .i64 m,.int .i64 (F i).ck,.int .i64 (F i).cn,.string (F i).cs,.int .i64 (F i).ac,.int .i64 (F i).ar,.bool (F i).af,.bool (F i).ag,.int .i64 (F i).bc,.int .i64 (F i).br,.bool (F i).bf,.bool (F i).bg,.slice (some ⟨b1,o1,none⟩) 2 kc] 201)).alloc (.cells #[.string sg,.int .i64 L] 261))) (by go_grown) (by go_grown)))).mono ?_;rintro e wr ⟨rfl,hb⟩;rw [HT.out];obtain⟨hkk,hzz⟩:=Qg (B:=W.heap.size+2) (X:=((W.alloc (.cells #[.int .i64 5,.int .i64 m,.int .i64 (F i).ck,.int .i64 (F i).cn,.string (F i).cs,.int .i64 (F i).ac,.int .i64 (F i).ar,.bool (F i).af,.bool (F i).ag,.int .i64 (F i).bc,.int .i64 (F i).br,.bool (F i).bf,.bool (F i).bg,.slice (some ⟨b1,o1,none⟩) 2 kc] 201)).alloc (.cells #[.string sg,.int .i64 L] 261))) (by go_grown) (by go_size) hb;have hC:=fun b o h=>hkk.cell (p:=⟨b,o,none⟩) h;clear hb)
  | (go_at_call 249;refine(HB.out _ KC kd (HR.out.below (ZT (n:=2) (X:=((W.alloc (.cells #[.int .i64 5,.int .i64 m,.int .i64 (F i).ck,.int .i64 (F i).cn,.string (F i).cs,.int .i64 (F i).ac,.int .i64 (F i).ar,.bool (F i).af,.bool (F i).ag,.int .i64 (F i).bc,.int .i64 (F i).br,.bool (F i).bf,.bool (F i).bg,.slice (some ⟨b1,o1,none⟩) 2 kc] 201)).alloc (.cells #[.string sg,.int .i64 L] 261))) (by go_grown) (by go_grown))) (HG.out.below (ZT (n:=2) (X:=((W.alloc (.cells #[.int .i64 5,.int .i64 m,.int .i64 (F i).ck,.int .i64 (F i).cn,.string (F i).cs,.int .i64 (F i).ac,.int .i64 (F i).ar,.bool (F i).af,.bool (F i).ag,.int .i64 (F i).bc,.int .i64 (F i).br,.bool (F i).bf,.bool (F i).bg,.slice (some ⟨b1,o1,none⟩) 2 kc] 201)).alloc (.cells #[.string sg,.int .i64 L] 261))) (by go_grown) (by go_grown))) (HK'.out.below (ZT (n:=2) (X:=((W.alloc (.cells #[.int .i64 5,.int .i64 m,.int .i64 (F i).ck,.int .i64 (F i).cn,.string (F i).cs,.int .i64 (F i).ac,.int .i64 (F i).ar,.bool (F i).af,.bool (F i).ag,.int .i64 (F i).bc,.int .i64 (F i).br,.bool (F i).bf,.bool (F i).bg,.slice (some ⟨b1,o1,none⟩) 2 kc] 201)).alloc (.cells #[.string sg,.int .i64 L] 261))) (by go_grown) (by go_grown)))).mono ?_;rintro e wr ⟨rfl,hb⟩;rw [HU.out];obtain⟨hkk,hzz⟩:=Qg (B:=W.heap.size+2) (X:=((W.alloc (.cells #[.int .i64 5,.int .i64 m,.int .i64 (F i).ck,.int .i64 (F i).cn,.string (F i).cs,.int .i64 (F i).ac,.int .i64 (F i).ar,.bool (F i).af,.bool (F i).ag,.int .i64 (F i).bc,.int .i64 (F i).br,.bool (F i).bf,.bool (F i).bg,.slice (some ⟨b1,o1,none⟩) 2 kc] 201)).alloc (.cells #[.string sg,.int .i64 L] 261))) (by go_grown) (by go_size) hb;have hC:=fun b o h=>hkk.cell (p:=⟨b,o,none⟩) h;clear hb))
 all_goals go_wp2_with fail
 all_goals go_ret
 all_goals exact⟨Qr HF.out,ZT (n:=2) (X:=((W.alloc (.cells #[.int .i64 5,.int .i64 m,.int .i64 (F i).ck,.int .i64 (F i).cn,.string (F i).cs,.int .i64 (F i).ac,.int .i64 (F i).ar,.bool (F i).af,.bool (F i).ag,.int .i64 (F i).bc,.int .i64 (F i).br,.bool (F i).bf,.bool (F i).bg,.slice (some ⟨b1,o1,none⟩) 2 kc] 201)).alloc (.cells #[.string sg,.int .i64 L] 261))) (by go_grown) (by go_grown)⟩
theorem Er {A:Option Addr} {n cap:Nat} {F:Nat→FN} {i:Nat} (z:Int) (hn:NtC A n cap F i) (hx:(F i).k=5→1≤(F i).o∧(F i).o≤11) (hz:(TX F i).length≤116977784950510):BtC A n cap F i z:=by
 intro W KA kc hr hg hk;have HR:Hid (FnRow W A n F):=hr;have HG:Hid (GT W):=hg;have HK:Hid (IntRow W KA (F i).kids):=hk;have HN:Hid (NtC A n cap F i):=hn;obtain⟨t,HT⟩: ∃t,Hid (bs (TX F i)=t):=⟨_,rfl⟩;have ht:t.size≤116977784950510:=by rw [←HT.out,Qt];exact hz
 have z1: ¬9223372036854775807<1+t.size:=by omega
 have z2: ¬9223372036854775807<1+t.size+1:=by omega
 clear hr hg hk hn hz;unfold ndV;by_cases h5:(F i).k=5
 ·obtain⟨m,HM⟩: ∃m:Nat,Hid ((F i).o=(m:Int)):=⟨(F i).o.toNat,by show _=_;have:=hx h5;omega⟩;have hm:1≤m∧m≤11:=by have:=hx h5;rw [HM.out]at this;omega
  have q0:(0:Int)≤(m:Int):=by omega
  have q1:(m:Int)<12:=by omega
  obtain⟨t0,t1⟩:=HG.out.ot m hm.2;have hgl:=HG.out.ot.lt;have hgl2:0<W.heap.size:=Nat.lt_of_le_of_lt (Nat.zero_le _) hgl;have hb:bnO m=lvl (m:Int):=by unfold bnO;rw [if_neg (by omega)]
  rw [hb]at t1;clear hb;obtain⟨L,HL⟩: ∃L,Hid (lvl (m:Int)=L):=⟨_,rfl⟩;rw [HL.out]at t1;have HB1:Hid (L<z→bdX F i z= [40]++TX F i++ [41]):=fun hl=>by unfold bdX;rw [if_pos ⟨h5,by rw [HM.out,HL.out];exact hl⟩]
  have HB2:Hid (¬L<z→bdX F i z=TX F i):=fun hl=>by unfold bdX;rw [if_neg (fun e=>hl (by have:=e.2;rw [HM.out,HL.out]at this;exact this))]
  have HNN:=HN.out;unfold NtC ndV at HNN;rw [HM.out,h5]at HNN ⊢;have HN2:=(show Hid _ from HNN);clear HNN;by_cases hl:L<z
  ·have HF:Hid ((⟨#[40]⟩:ByteArray)++t++(⟨#[41]⟩:ByteArray)=bs (bdX F i z)):=by
    show _=_;rw [HB1.out hl,←HT.out,show(⟨#[40]⟩:ByteArray)=bs [40]from rfl,show(⟨#[41]⟩:ByteArray)=bs [41]from rfl,QK,QK]
   go_enter Tryz.func249,Tryz.ntmps249;go_wp2_with fail
   refine(HN2.out _ KA kc (HR.out.below (by go_grown)) (HG.out.below (by go_grown)) (HK.out.below (by go_grown))).mono ?_;rintro e w1 ⟨rfl,hb⟩;rw [HT.out];obtain⟨hc,hf,hC,hF,hz,hk,l0⟩:=bk1 (w:=W) (by go_grown) (by go_size) hb;clear hb;go_wp2_with fail
   go_ret;exact⟨Qr HF.out,by go_grown⟩
  ·have HF:Hid (t=bs (bdX F i z)):=by show _=_;rw [HB2.out hl,HT.out]
   go_enter Tryz.func249,Tryz.ntmps249;go_wp2_with fail
   refine(HN2.out _ KA kc (HR.out.below (by go_grown)) (HG.out.below (by go_grown)) (HK.out.below (by go_grown))).mono ?_;rintro e w1 ⟨rfl,hb⟩;rw [HT.out];obtain⟨hc,hf,hC,hF,hz,hk,l0⟩:=bk1 (w:=W) (by go_grown) (by go_size) hb;clear hb;go_wp2_with fail
   go_ret;exact⟨Qr HF.out,by go_grown⟩
 ·have h5':((F i).k==5)=false:=by simpa using h5
  have HF:Hid (t=bs (bdX F i z)):=by show _=_;unfold bdX;rw [if_neg (fun e=>h5 e.1),HT.out]
  clear hx;go_enter Tryz.func249,Tryz.ntmps249;go_wp2_with fail
  refine(HN.out _ KA kc (HR.out.below (by go_grown)) (HG.out.below (by go_grown)) (HK.out.below (by go_grown))).mono ?_;rintro e w1 ⟨rfl,hb⟩;rw [HT.out];obtain⟨hc,hf,hC,hF,hz,hk,l0⟩:=bk1 (w:=W) (by go_grown) (by go_size) hb;clear hb;go_wp2_with fail
  go_ret;exact⟨Qr HF.out,by go_grown⟩
theorem infoStr:(Tryz.prog.info? 9).map (fun i=>(i.zero,i.size,i.bytes))=some (some (.string ⟨#[]⟩),1,16):=by kernel_rfl
theorem Qia (bk kl:Nat) (ts:List (List UInt8)) (w:World) (hl:ts.length=kl) (hc: ∀(j:Nat) x,ts[j]? =some x→w.cell? ⟨bk,j,none⟩=some (.string (bs x))) (hbk:bk<w.heap.size) (hkl:kl≤1000) (hlen:(jn ts).length≤140737488355328):
  Calls Tryz.prog 83 #[.slice (some ⟨bk,0,none⟩) kl kl,.string ⟨#[44]⟩] w fun e w'=>e= .returned (.string (bs (jn ts)))∧Below w.heap.size w w':=by
 have e1:(ts.map bs).map (fun y=>y.data.toList)=ts:=by
  rw [List.map_map];exact List.map_id _
 have e2:(ts.map bs).length=kl:=by rw [List.length_map,hl]
 have hj:Lib.join ((ts.map bs).map (fun y=>y.data.toList)) (⟨#[44]⟩:ByteArray).data.toList=jn ts:=by rw [e1];exact Qqb ts
 have c:=Tryz.strings_Join bk 0 kl (ts.map bs) ⟨#[44]⟩ w (fun j y hy=>by
  rw [List.getElem?_map]at hy;cases ht:ts[j]? with
  | none=>rw [ht]at hy;cases hy
  | some z=>
   rw [ht]at hy;cases hy
   rw [Nat.zero_add]
   exact hc j z ht) hbk (by omega) (by omega) (by rw [hj];exact hlen)
 rw [e2,hj]at c;exact c
theorem Qmv {ks:List Int} {t:Nat} (h:t<ks.length):ks.getD t 0∈ks:=by
 rw [List.getD_eq_getElem?_getD,List.getElem?_eq_getElem h];exact List.getElem_mem h
theorem Quo {ks:List Int} {f:Int→List UInt8} {j:Nat} {x:List UInt8} (h:(ks.map f)[j]? =some x):j<ks.length∧x=f (ks.getD j 0):=by
 rw [List.getElem?_map]at h;cases hk:ks[j]? with
 | none=>rw [hk]at h;cases h
 | some z=>
  rw [hk]at h;cases h
  exact⟨(List.getElem?_eq_some_iff.1 hk).1,by rw [List.getD_eq_getElem?_getD,hk];rfl⟩
theorem Qk1 {A:Option Addr} {n cap:Nat} {F:Nat→FN} {i:Nat} (hi:i<n) (hG:QM (fG F) n) (hk:(F i).k=6) (ho:1≤(F i).o∧(F i).o≤10) (hl:1≤(F i).kids.length∧(F i).kids.length≤10) (hN: ∀c∈(F i).kids,NtC A n cap F c.toNat) (hz:(TX F i).length≤116977784950510) (W:World) (KA:Option Addr) (kc:Nat) (hr:FnRow W A n F) (hgt:GT W) (hki:IntRow W KA (F i).kids):
  Calls Tryz.prog 206 #[.slice A n cap,ndV (F i) KA kc] W fun e w'=>e= .returned (.string (bs (TX F i)))∧Below W.heap.size W w':=by
 have HR:Hid (FnRow W A n F):=hr;have HG:Hid (GT W):=hgt;have HKI:Hid (IntRow W KA (F i).kids):=hki;have hn:=hr.1;unfold maxLen at hn;obtain⟨ks,HKS⟩: ∃ks,Hid ((F i).kids=ks):=⟨_,rfl⟩;have HN:Hid (∀c∈ks,NtC A n cap F c.toNat):=by show∀c∈ks,_;rw [←HKS.out];exact hN
 have HRA:Hid (∀c∈ks,0≤c∧c<(n:Int)):=by
  show∀c∈ks,_;rw [←HKS.out];exact fun c hc=>by have:=hG i hi c hc;omega
 have HTX:Hid (TX F i=fnT (F i).o++ [40]++jn (ks.map fun c=>TX F c.toNat)++ [41]):=by show _=_;rw [←HKS.out];exact Qg4 hG hi hk
 clear hN hki hr hgt hG;rw [HKS.out]at hl HKI;obtain⟨kl,HKL⟩: ∃kl,Hid (ks.length=kl):=⟨_,rfl⟩;rw [HKL.out]at hl;obtain⟨m,HM⟩: ∃m:Nat,Hid ((F i).o=(m:Int)):=⟨(F i).o.toNat,by show _=_;omega⟩;have hm:1≤m∧m≤10:=by rw [HM.out]at ho;omega
 rw [HM.out]at HTX;unfold ndV;rw [hk,HKS.out,HKL.out,HM.out];have m0:(0:Int)≤(m:Int):=by omega
 have m1:(m:Int)<11:=by omega
 obtain⟨i0,hi0,hz0,hz1,hz2⟩:=info_parts infoStr;clear ho;go_enter Tryz.func206,Tryz.ntmps206;go_wp2_with (refine wpList_make_full _ rfl _ _ 61 rfl (W.heap.size+1) 9 i0 _ 1 Tryz.underlying61 hi0 hz0 hz1 _ _ _ _ kl rfl rfl rfl rfl ?m1 ?m2 ?m3 ?_)
 case m1=>rw [hz2];omega
 case m2=>unfold maxLen;omega
 case m3=>simp
 intro w1 hown hgrow;have hg1:Below (W.heap.size+1) (W.alloc (.cells #[.int .i64 6,.int .i64 m,.int .i64 (F i).ck,.int .i64 (F i).cn,.string (F i).cs,.int .i64 (F i).ac,.int .i64 (F i).ar,.bool (F i).af,.bool (F i).ag,.int .i64 (F i).bc,.int .i64 (F i).br,.bool (F i).bf,.bool (F i).bg,.slice KA kl kc] 201)) w1:=(Below.refl _ _).grown hgrow (by simp) (fun k hk=>by cases hk);obtain⟨ys,hown⟩: ∃ys,w1.ownsRow (W.heap.size+1) 9 1 (.slice (some ⟨W.heap.size+1,0,none⟩) kl kl) kl ys:=⟨_,by simpa using hown⟩;clear hgrow;have HO:Hid (w1.ownsRow (W.heap.size+1) 9 1 (.slice (some ⟨W.heap.size+1,0,none⟩) kl kl) kl ys):=hown;have hC1:=fun b o h=>hg1.cell (p:=⟨b,o,none⟩) h;clear hown
 go_wp2_with fail
 go_loopw [83] (fun j wr=> ∃t:Nat,t≤kl∧j= .int .i64 t∧(∃ys,wr.ownsRow (W.heap.size+1) 9 1 (.slice (some ⟨W.heap.size+1,0,none⟩) kl kl) kl ys∧ ∀u,u<t→ys[u]? =some (.string (bs (TX F (ks.getD u 0).toNat))))∧Below (W.heap.size+1) (W.alloc (.cells #[.int .i64 6,.int .i64 m,.int .i64 (F i).ck,.int .i64 (F i).cn,.string (F i).cs,.int .i64 (F i).ac,.int .i64 (F i).ar,.bool (F i).af,.bool (F i).ag,.int .i64 (F i).bc,.int .i64 (F i).br,.bool (F i).bf,.bool (F i).bg,.slice KA kl kc] 201)) wr) (fun j _=>kl-(intOf j).toNat)
 case atStart=>exact⟨0,Nat.zero_le _,rfl,⟨ys,HO.out,fun u hu=>by omega⟩,hg1⟩
 case round=>
  clear HO hg1 hC1;obtain⟨t,ht,rfl,⟨ys,hown,hys⟩,hbel⟩:=hrel;have HW:Hid (Below W.heap.size W wr):=ZT (n:=1) (X:=(W.alloc (.cells #[.int .i64 6,.int .i64 m,.int .i64 (F i).ck,.int .i64 (F i).cn,.string (F i).cs,.int .i64 (F i).ac,.int .i64 (F i).ar,.bool (F i).af,.bool (F i).ag,.int .i64 (F i).bc,.int .i64 (F i).br,.bool (F i).bf,.bool (F i).bg,.slice KA kl kc] 201))) (by go_grown) hbel;by_cases hlt:t<kl
  ·obtain⟨b1,o1,rfl,hl1,e1⟩:=HKI.out.2 t (by rw [HKL.out];exact hlt);rw [←HW.out.cell (p:=⟨_,_,none⟩) hl1]at e1;have hmem:ks.getD t 0∈ks:=Qmv (by rw [HKL.out];exact hlt);have hra:=HRA.out _ hmem;have hnt:=HN.out _ hmem;obtain⟨a,HA⟩: ∃a:Nat,Hid (ks.getD t 0=(a:Int)):=⟨(ks.getD t 0).toNat,by show _=_;omega⟩;rw [HA.out]at e1 hra hnt
   rw [Int.toNat_natCast]at hnt;have HNT:Hid (NtC A n cap F a):=hnt;obtain⟨q,p,KB,kb,rfl,hlq,hnd,hks,_⟩:=HR.out.2 a (by omega);have HK:Hid (IntRow wr KB (F a).kids):=hks.below HW.out;obtain⟨c0,c1,c2,c3,c4,c5,c6,c7,c8,c9,c10,c11,c12,c13⟩:=hnd.below hlq HW.out;have lq:q<wr.heap.size:=Nat.lt_of_lt_of_le hlq HW.out.size;have l1:b1<wr.heap.size:=Nat.lt_of_lt_of_le hl1 HW.out.size
   have HBX:Hid (Below (W.heap.size+1) (W.alloc (.cells #[.int .i64 6,.int .i64 m,.int .i64 (F i).ck,.int .i64 (F i).cn,.string (F i).cs,.int .i64 (F i).ac,.int .i64 (F i).ar,.bool (F i).af,.bool (F i).ag,.int .i64 (F i).bc,.int .i64 (F i).br,.bool (F i).bf,.bool (F i).bg,.slice (some ⟨b1,o1,none⟩) kl kc] 201)) wr):=hbel;have HY:Hid (∀u,u<t→ys[u]? =some (.string (bs (TX F (ks.getD u 0).toNat)))):=hys;have HOW:Hid (wr.ownsRow (W.heap.size+1) 9 1 (.slice (some ⟨W.heap.size+1,0,none⟩) kl kl) kl ys):=hown;obtain⟨tx,HTA⟩: ∃tx,Hid (bs (TX F a)=tx):=⟨_,rfl⟩;have t0:(0:Int)≤(t:Int):=by omega
   have t1:(t:Int)<(kl:Int):=by omega
   have a0:(0:Int)≤(a:Int):=by omega
   have a1:(a:Int)<(n:Int):=by omega
   clear hbel hys hown hnt hks hnd hmem;go_wp2_with fail
   refine(HNT.out _ KB kb (HR.out.below HW.out) (HG.out.below HW.out) HK.out).mono ?_;rintro e w2 ⟨rfl,hb⟩;rw [HTA.out];have HOW2:=hd (Qf HOW.out hb);have HBX2:Hid (Below (W.heap.size+1) (W.alloc (.cells #[.int .i64 6,.int .i64 m,.int .i64 (F i).ck,.int .i64 (F i).cn,.string (F i).cs,.int .i64 (F i).ac,.int .i64 (F i).ar,.bool (F i).af,.bool (F i).ag,.int .i64 (F i).bc,.int .i64 (F i).br,.bool (F i).bf,.bool (F i).bg,.slice (some ⟨b1,o1,none⟩) kl kc] 201)) w2):=HBX.out.trans (hb.mono (by have:=HBX.out.size;simpa using this));clear hb c0 c1 c2 c3 c4 c5 c6 c7 c8 c9 c10 c11 c12 c13 e1;obtain⟨A',cap',e,_,hc⟩:=Qo HOW2.out
   cases e
   obtain⟨g0,e0,_,hg,d0,f0⟩:=hc t (by omega);cases e0
   have hl5:=HOW2.out.1;obtain⟨x0,y0⟩: ∃x,ys[t]? =some x:=⟨_,List.getElem?_eq_getElem (by omega)⟩;rw [y0]at d0;have HT9:Hid ((w2.setCell ⟨W.heap.size+1,t,none⟩ (.string tx)).ownsRow (W.heap.size+1) 9 1 (.slice (some ⟨W.heap.size+1,0,none⟩) kl kl) kl (ys.set t (.string tx))):=(HOW2.out.stored t _).1
   have HY9:Hid (∀u,u<t+1→(ys.set t (.string tx))[u]? =some (.string (bs (TX F (ks.getD u 0).toNat)))):=fun u hu=>by
    by_cases e:t=u
    ·subst e;rw [List.getElem?_set_self (by omega),HA.out,Int.toNat_natCast,HTA.out]
    ·rw [List.getElem?_set_ne e];exact HY.out u (by omega)
   have HB9:Hid (Below (W.heap.size+1) (W.alloc (.cells #[.int .i64 6,.int .i64 m,.int .i64 (F i).ck,.int .i64 (F i).cn,.string (F i).cs,.int .i64 (F i).ac,.int .i64 (F i).ar,.bool (F i).af,.bool (F i).ag,.int .i64 (F i).bc,.int .i64 (F i).br,.bool (F i).bf,.bool (F i).bg,.slice (some ⟨b1,o1,none⟩) kl kc] 201)) (w2.setCell ⟨W.heap.size+1,t,none⟩ (.string tx))):=HBX2.out.setCell (Nat.le_refl _) _;clear hc y0 hl5;go_wp2_with fail
   all_goals
    go_roundw
    case rel=>exact⟨t+1,by omega,by go_num,⟨_,HT9.out,HY9.out⟩,HB9.out⟩
    case measure=>simp [intOf];omega
  ·obtain rfl:t=kl:=by omega
   have q1: ¬(t:Int)<(t:Int):=by omega
   have hcell:=fun o=>hbel.cell (p:=⟨W.heap.size,o,none⟩) (Nat.lt_succ_self _);have o1:wr.cell? ⟨W.heap.size,1,none⟩=some (.int .i64 m):=(hcell 1).trans (by simp);have lw:W.heap.size<wr.heap.size:=by have:=hbel.size;simp at this;omega
   have gl:=HG.out.fn.lt;have gl2:=Nat.lt_of_le_of_lt (Nat.zero_le _) gl;have gl2:2<wr.heap.size:=Nat.lt_trans gl lw;have gl3:0<wr.heap.size:=Nat.lt_of_le_of_lt (Nat.zero_le _) lw;have fn0:wr.cell? ⟨2,m*3,none⟩=some (.string (bs (fnT m))):=(HW.out.cell (p:=⟨_,_,none⟩) gl).trans (HG.out.fn m hm.2);obtain⟨fs,HFS⟩: ∃s,Hid (bs (fnT (m:Int))=s):=⟨_,rfl⟩;have hfs:fs.size≤5:=by rw [←HFS.out,Qt];exact Ew _
   rw [HFS.out]at fn0;obtain⟨js,HJS⟩: ∃s,Hid (bs (jn (ks.map fun c=>TX F c.toNat))=s):=⟨_,rfl⟩
   have hjl:(jn (ks.map fun c=>TX F c.toNat)).length≤116977784950510:=by
    rw [HTX.out]at hz;simp only [List.length_append,List.length_cons,List.length_nil]at hz;omega
   have hjs:js.size≤116977784950510:=by rw [←HJS.out,Qt];exact hjl
   have HJL:Hid ((jn (ks.map fun c=>TX F c.toNat)).length≤140737488355328):=Nat.le_trans hjl (by omega)
   have HCJ:Hid (∀wj,Below wr.heap.size wr wj→ ∀(j:Nat) x,(ks.map fun c=>TX F c.toNat)[j]? =some x→wj.cell? ⟨W.heap.size+1,j,none⟩=some (.string (bs x))):=fun wj hwj j x hx=>by
    obtain⟨hj,rfl⟩:=Quo hx;rw [HKL.out]at hj;obtain⟨A',cap',e,_,hc⟩:=Qo hown;cases e
    obtain⟨g0,e0,_,hg,d0,_⟩:=hc j (by omega);cases e0
    exact(hwj.cell (p:=⟨_,_,none⟩) hg).trans (d0.trans (hys j hj))
   have HBK:Hid (W.heap.size+1<wr.heap.size):=(hown.lt (W.heap.size+1) rfl).2;have HXL:Hid ((ks.map fun c=>TX F c.toNat).length=t):=by show _=_;rw [List.length_map,HKL.out]
   obtain⟨r1,r2,r3⟩:(∀W,(Op.stringOp .add fs (⟨#[40]⟩:ByteArray)).run Tryz.prog W= .ok (.string (fs++(⟨#[40]⟩:ByteArray))) W)∧(∀W,(Op.stringOp .add (fs++(⟨#[40]⟩:ByteArray)) js).run Tryz.prog W= .ok (.string (fs++(⟨#[40]⟩:ByteArray)++js)) W)∧(∀W,(Op.stringOp .add (fs++(⟨#[40]⟩:ByteArray)++js) (⟨#[41]⟩:ByteArray)).run Tryz.prog W= .ok (.string (fs++(⟨#[40]⟩:ByteArray)++js++(⟨#[41]⟩:ByteArray))) W):=by
    have h1:(⟨#[40]⟩:ByteArray).size=1:=rfl;have h2:(⟨#[41]⟩:ByteArray).size=1:=rfl;refine⟨fun W=>run_string_add_sum W _ _ ?_,fun W=>run_string_add_sum W _ _ ?_,fun W=>run_string_add_sum W _ _ ?_⟩
    ·omega
    ·rw [ByteArray.size_append];omega
    ·rw [ByteArray.size_append,ByteArray.size_append];omega
   have HF:Hid (fs++(⟨#[40]⟩:ByteArray)++js++(⟨#[41]⟩:ByteArray)=bs (TX F i)):=by
    show _=_;rw [HTX.out,←HFS.out,←HJS.out,show(⟨#[40]⟩:ByteArray)=bs [40]from rfl,show(⟨#[41]⟩:ByteArray)=bs [41]from rfl,QK,QK,QK]
   clear hown hys hbel hcell hz;go_wp2_with fail
   go_region_held3 (fun w'=>(∀bq oq,bq<wr.heap.size→w'.cell? ⟨bq,oq,none⟩=wr.cell? ⟨bq,oq,none⟩)∧wr.heap.size≤w'.heap.size∧Below wr.heap.size wr w')
    (exact Qp (Nat.le_refl _) (by go_grown))
    (first
    | (go_at_call 83;refine(Qia (W.heap.size+1) t (ks.map fun c=>TX F c.toNat) _ HXL.out (HCJ.out _ (by go_grown)) (Nat.lt_of_lt_of_le HBK.out (by go_size)) (by omega) HJL.out).mono ?_;rintro e w2 ⟨rfl,hb⟩;rw [HJS.out];obtain⟨hkk,hzz⟩:=Qg (B:=wr.heap.size) (X:=wr) (by go_grown) (by go_size) hb;have hC:=fun b o h=>hkk.cell (p:=⟨b,o,none⟩) h;clear hb))
   all_goals go_wp2_with fail
   all_goals go_ret
   all_goals exact⟨Qr HF.out,Qc HW.out (by go_grown)⟩
theorem VF {c r:Int} (h:Qh c r=true): ∃i:Nat,r=(i:Int)∧i<100:=by
 have:=of_decide_eq_true h;exact⟨r.toNat,by omega,by omega⟩
theorem Xi {F:Nat→FN} {n:Nat} (h:Zk F n=true) {i:Nat} (hi:i<n) (hd:ZJ (fG F) i≤12) (z:Int):(bdX F i z).length≤116977784950520:=by
 have:=Xs h hi hd;unfold bdX;split
 ·simp only [List.length_append,List.length_cons,List.length_nil];omega
 ·omega
theorem Oi {A:Option Addr} {n cap:Nat} {F:Nat→FN} (h:Zk F n=true): ∀i,i<n→ZJ (fG F) i≤12→NtC A n cap F i:=by
 obtain⟨h1,h60,hn,hr,hdr⟩:=Ok h;intro i;induction i using Nat.strongRecOn with
 | ind i ih=>
  intro hi hd
  have kid: ∀c∈(F i).kids,(0≤c∧c<(i:Int))∧ZJ (fG F) c≤12:=fun c hc=>by
   have h2:=hr i hi c hc;have h3:=Ns hr hi hc;exact⟨h2,by omega⟩
  have nt: ∀a:Nat,(a:Int)∈(F i).kids→a<n∧ZJ (fG F) a≤12∧NtC A n cap F a:=fun a ha=>by
   have h2:=kid a ha;exact⟨by omega,h2.2,ih a (by omega) (by omega) h2.2⟩
  have bo: ∀a:Nat,a<n→((F a).k=5→1≤(F a).o∧(F a).o≤11):=fun a ha hk5=>by
   rcases Yf (hn a ha)with⟨e,_⟩ | ⟨e,_⟩ | ⟨e,_⟩ | ⟨e,_⟩ | ⟨e,o1,o2,_⟩ | ⟨e,_⟩
   all_goals first
    | exact⟨o1,o2⟩
    | (exfalso;omega)
  rcases Yf (hn i hi)with⟨hk,hc,hks⟩ | ⟨hk,hc,hks⟩ | ⟨hk,hc,hc',hks⟩ | ⟨hk,c,hks⟩ | ⟨hk,o1,o2,c,d,hks⟩ | ⟨hk,o1,o2,l1,l2⟩
  ·intro W KA kc hrow hg hki;obtain⟨_,_,_,_,_,_,_,_,hcs⟩:=hrow.2 i hi;have e:TX F i=Ue (F i).ck (F i).cn (F i).cs:=by rw [VW (by omega) (by omega) (by omega),Hn,if_pos hk]
   rw [e];unfold ndV;rw [hk];exact Qk6 _ _ _ _ _ _ _ _ _ _ _ _ W hcs hc hg
  ·intro W KA kc hrow hg hki;obtain⟨j,hj,hj9⟩:=VF hc
   have e:bs (TX F i)=Qw (F i).ac j (F i).af (F i).ag:=by
    rw [VW (by omega) (by omega) (by omega),Hn,if_neg (by omega),if_pos hk,plT,hj,Int.toNat_natCast];rfl
   rw [e];unfold ndV;rw [hk,hj];rw [hj]at hc;exact Qk5 _ _ _ _ _ _ _ _ _ _ _ _ W hj9 hc
  ·intro W KA kc hrow hg hki;obtain⟨j,hj,hj9⟩:=VF hc;obtain⟨j',hj',hj9'⟩:=VF hc'
   have e:bs (TX F i)=Qw (F i).ac j (F i).af (F i).ag++(⟨#[58]⟩:ByteArray)++Qw (F i).bc j' (F i).bf (F i).bg:=by
    rw [VW (by omega) (by omega) (by omega),Hn,if_neg (by omega),if_neg (by omega),plT,plT,hj,hj',Int.toNat_natCast,Int.toNat_natCast,←QK,←QK];rfl
   rw [e];unfold ndV;rw [hk,hj,hj'];rw [hj]at hc;rw [hj']at hc';exact Qk4 _ _ _ _ _ _ _ _ _ _ _ _ W hj9 hc hj9' hc'
  ·obtain⟨a,rfl⟩: ∃a:Nat,c=(a:Int):=⟨c.toNat,by have:=(kid c (by rw [hks];simp)).1;omega⟩;obtain⟨ha,hda,hna⟩:=nt a (by rw [hks];simp);intro W KA kc hrow hg hki;have e:=Qnl hr hi hk hks;rw [Int.toNat_natCast]at e;rw [e];exact Qk3 hk hks ha (Er 5 hna (bo a ha) (Xs h ha hda)) (Xi h ha hda 5) W KA kc hrow hg hki
  ·obtain⟨a,rfl⟩: ∃a:Nat,c=(a:Int):=⟨c.toNat,by have:=(kid c (by rw [hks];simp)).1;omega⟩;obtain⟨b,rfl⟩: ∃a:Nat,d=(a:Int):=⟨d.toNat,by have:=(kid d (by rw [hks];simp)).1;omega⟩;obtain⟨ha,hda,hna⟩:=nt a (by rw [hks];simp);obtain⟨hb,hdb,hnb⟩:=nt b (by rw [hks];simp);intro W KA kc hrow hg hki;have e:=Qnm hr hi hk hks;rw [Int.toNat_natCast,Int.toNat_natCast]at e
   rw [e];exact Qk2 hk hks ⟨o1,o2⟩ ha hb (Er _ hna (bo a ha) (Xs h ha hda)) (Er _ hnb (bo b hb) (Xs h hb hdb)) (Xi h ha hda _) (Xi h hb hdb _) W KA kc hrow hg hki
  ·intro W KA kc hrow hg hki;exact Qk1 hi hr hk ⟨o1,o2⟩ ⟨l1,l2⟩ (fun c hc=>ih c.toNat (by have:=(kid c hc).1;omega) (by have:=(kid c hc).1;omega) (by have h9:=kid c hc;rw [Int.toNat_of_nonneg h9.1.1];exact h9.2)) (Xs h hi hd) W KA kc hrow hg hki
def ftx (F:Nat→FN) (n:Nat):ByteArray:=if Zk F n=true∧(TX F (n-1)).length≤200 then bs (TX F (n-1))else⟨#[]⟩
theorem XK {A:Option Addr} {n cap:Nat} {F:Nat→FN} (w:World) (h:FnRow w A n F) (hn:n≤1048576) (hkn: ∀i,i<n→(F i).kids.length≤1048576) (hg:GT w):
  Calls Tryz.prog 155 #[.slice A n cap] w fun e w'=>e= .returned (.string (ftx F n))∧Below w.heap.size w w':=by
 have HR:Hid (FnRow w A n F):=h;have HKN:Hid (∀i,i<n→(F i).kids.length≤1048576):=hkn;have HG:Hid (GT w):=hg;clear h hkn hg;cases hok:Zk F n
 ·have HE:Hid (ftx F n=⟨#[]⟩):=by show _=_;unfold ftx;rw [if_neg (fun e=>by rw [hok]at e;cases e.1)]
  have HO:Hid (Zk F n=false):=hok;clear hok;go_enter Tryz.func155,Tryz.ntmps155;go_wp2_with fail
  refine(Xe _ HR.out hn HKN.out HG.out.ft).mono ?_;rintro e w1 ⟨rfl,hb⟩;rw [HO.out];go_wp2_with fail
  go_ret;exact⟨Qr HE.out.symm,hb⟩
 ·have HO:Hid (Zk F n=true):=hok;obtain⟨h1,h60,_,hr,hdr⟩:=Ok hok;obtain⟨m,rfl⟩: ∃m,n=m+1:=⟨n-1,by omega⟩
  have hd:ZJ (fG F) m≤12:=by
   have e:(((m+1:Nat):Int)-1)=(m:Int):=by omega
   rw [e]at hdr;exact hdr
  have HN:Hid (NtC A (m+1) cap F m):=Oi hok m (by omega) hd;have hz:=Xs hok (i:=m) (by omega) hd;obtain⟨t,HT⟩: ∃t,Hid (bs (TX F m)=t):=⟨_,rfl⟩;have ht:t.size=(TX F m).length:=by rw [←HT.out,Qt]
  have HE1:Hid (t.size≤200→t=ftx F (m+1)):=fun h2=>by unfold ftx;rw [if_pos ⟨hok,by rw [Nat.add_sub_cancel];omega⟩,Nat.add_sub_cancel,HT.out]
  have HE2:Hid (¬t.size≤200→(⟨#[]⟩:ByteArray)=ftx F (m+1)):=fun h2=>by unfold ftx;rw [if_neg (fun e=>h2 (by have:=e.2;rw [Nat.add_sub_cancel]at this;omega))]
  obtain⟨N,HNN⟩: ∃N,Hid (m+1=N):=⟨_,rfl⟩;obtain⟨b,p,KB,kb,rfl,hl,hnd,hks,hcs⟩:=HR.out.2 m (by omega);have HK:Hid (IntRow w KB (F m).kids):=hks;have HND:Hid (NodeAt w b (p+m*14) (F m) KB kb):=hnd;clear hnd hks hcs hok hdr hd hr hz;rw [HNN.out]at HR HKN HO HN HE1 HE2 hn h1 h60 ⊢;have hmN:(N:Int)-1=(m:Int):=by have:=HNN.out;omega
  have m0:(0:Int)≤(m:Int):=by omega
  have m1:(m:Int)<(N:Int):=by have:=HNN.out;omega
  go_enter Tryz.func155,Tryz.ntmps155;go_wp2_with fail
  refine(Xe _ HR.out hn HKN.out HG.out.ft).mono ?_;rintro e w1 ⟨rfl,hb⟩;rw [HO.out];have HB:Hid (Below w.heap.size w w1):=hb;obtain⟨c0,c1,c2,c3,c4,c5,c6,c7,c8,c9,c10,c11,c12,c13⟩:=HND.out.below hl hb;have lb:b<w1.heap.size:=Nat.lt_of_lt_of_le hl hb.size;clear hb
  go_wp2_with fail
  refine(HN.out _ KB kb (HR.out.below HB.out) (HG.out.below HB.out) (HK.out.below HB.out)).mono ?_;rintro e w2 ⟨rfl,hb⟩;rw [HT.out];have HB2:=hd (Qc HB.out hb);clear hb c0 c1 c2 c3 c4 c5 c6 c7 c8 c9 c10 c11 c12 c13;by_cases h2:t.size≤200
  ·have h2': ¬(200:Int)<(t.size:Int):=by omega
   have HE:=HE1.out h2;have HE':Hid (t=ftx F N):=HE;clear HE;go_wp2_with fail
   go_ret;exact⟨Qr HE'.out,HB2.out⟩
  ·have h2':(200:Int)<(t.size:Int):=by omega
   have HE':Hid ((⟨#[]⟩:ByteArray)=ftx F N):=HE2.out h2;go_wp2_with fail
   go_ret;exact⟨Qr HE'.out,HB2.out⟩
end Go.Proofs.YtbdhinckiccniaaGreatDoor
