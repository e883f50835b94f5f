import Derived.Test.YtbdhinckiccniaaGreatDoorMn
import Derived.Test.YtbdhinckiccniaaGreatDoorGau
import Derived.Test.YtbdhinckiccniaaGreatDoorGan
import Derived.Test.YtbdhinckiccniaaGreatDoorGah
import Derived.Test.YtbdhinckiccniaaGreatDoorGao
set_option linter.unusedSimpArgs false
set_option linter.unusedVariables false
set_option maxHeartbeats 8000000
set_option maxRecDepth 100000
namespace Go.Proofs.YtbdhinckiccniaaGreatDoor
open Go.RowKit
def Nc (W0:World) (Z:Nat→Prop) (r:Nat) (A:Option Addr) (cap:Nat) (ps:List (List UInt8)) (T:Nat→List UInt8) (B:Nat) (W:World) (v:Value) (k:Nat) (out:List FN) (res:Option (Int × List UInt8 × List FN)) (e:Ending) (w':World):Prop:=
 (∃x k' v' out',res=some (x,sb (T k'),out')∧e= .returned (.int .i64 x)∧SI W0 Z W v r A cap ps B w' k' v' out'∧k≤k'∧out'.length+k≤out.length+k')∨(res=none∧e= .panicked noF∧Fr r v W w')
def Nd (W0:World) (Z:Nat→Prop) (r:Nat) (A:Option Addr) (cap:Nat) (ps:List (List UInt8)) (T:Nat→List UInt8) (B m:Nat):Prop:= ∀(W:World) (k:Nat) (v:Value) (out:List FN) (lv:Int),RdI W0 Z W r A cap ps k v B out→out.length≤k→1≤lv→lv≤5→12*(ps.length-k)+(8-lv).toNat≤m→
 Calls Tryz.prog 287 #[.pointer (some ⟨r,0,none⟩),.int .i64 lv] W (Nc W0 Z r A cap ps T B W v k out (PB RF 1 lv 0 [] (T k) out))
def Qnn (W0:World) (Z:Nat→Prop) (r:Nat) (A:Option Addr) (cap:Nat) (ps:List (List UInt8)) (T:Nat→List UInt8) (B m:Nat):Prop:= ∀(W:World) (k:Nat) (v:Value) (out:List FN),RdI W0 Z W r A cap ps k v B out→out.length≤k→12*(ps.length-k)+2≤m→
 Calls Tryz.prog 304 #[.pointer (some ⟨r,0,none⟩)] W (Nc W0 Z r A cap ps T B W v k out (PB RF 3 0 0 [] (T k) out))
def Qrt (W0:World) (Z:Nat→Prop) (r:Nat) (A:Option Addr) (cap:Nat) (ps:List (List UInt8)) (T:Nat→List UInt8) (B m:Nat):Prop:= ∀(W:World) (k:Nat) (v:Value) (out:List FN),RdI W0 Z W r A cap ps k v B out→out.length≤k→12*(ps.length-k)+1≤m→
 Calls Tryz.prog 319 #[.pointer (some ⟨r,0,none⟩)] W (Nc W0 Z r A cap ps T B W v k out (PB RF 4 0 0 [] (T k) out))
def Qrz (W0:World) (Z:Nat→Prop) (r:Nat) (A:Option Addr) (cap:Nat) (ps:List (List UInt8)) (T:Nat→List UInt8) (B m:Nat):Prop:= ∀(W:World) (k:Nat) (v:Value) (out:List FN) (fn:Int),RdI W0 Z W r A cap ps k v B out→out.length≤k→12*(ps.length-k)+1≤m→
 Calls Tryz.prog 328 #[.pointer (some ⟨r,0,none⟩),.int .i64 fn] W (Nc W0 Z r A cap ps T B W v k out (if pk (T k)= [40]then Zv (PB RF 6 0 0 [] (nx (T k)) out) (fun a l1 o1=>PB RF 5 fn 0 [a] l1 o1)else none))
def Qi5 (W0:World) (Z:Nat→Prop) (r:Nat) (A:Option Addr) (cap:Nat) (ps:List (List UInt8)) (T:Nat→List UInt8) (B m:Nat):Prop:= ∀(W:World) (k:Nat) (v:Value) (out:List FN),RdI W0 Z W r A cap ps k v B out→out.length≤k→12*(ps.length-k)+8≤m→
 Calls Tryz.prog 331 #[.pointer (some ⟨r,0,none⟩)] W (Nc W0 Z r A cap ps T B W v k out (PB RF 6 0 0 [] (T k) out))
def atI (W:World) (r:Nat):Nat:=match W.cell? ⟨r,1,none⟩with
 | some (.int _ k)=>k.toNat
 | _=>0
theorem Qae {W:World} {r:Nat} {A:Option Addr} {cap:Nat} {ps:List (List UInt8)} {k:Nat} {v:Value} (h:Ri W r A cap ps k v):atI W r=k:=by
 unfold atI;rw [h.2.1.2.1];rfl
theorem Qsp (l:List UInt8):0≤QI l∧QI l≤11:=by
 unfold QI;repeat' split
 all_goals omega
section
variable {W0:World} {Z:Nat→Prop} {r:Nat} {A:Option Addr} {cap:Nat} {ps:List (List UInt8)} {T:Nat→List UInt8} {B:Nat}
theorem Txt.pkk (hT:Txt ps T) {W:World} {k:Nat} {v:Value} {out:List FN} (h:RdI W0 Z W r A cap ps k v B out):pk (T k)=Zl ps k:=hT.tp k h.ri.1
theorem smN (x:Int):smF (RF.neg x):=⟨Nat.zero_le _,by show 1≤2000;omega⟩
theorem smB (o a b:Int):smF (RF.bin o a b):=⟨Nat.zero_le _,by show 2≤2000;omega⟩
theorem Qij {m:Nat} (hN:Qnn W0 Z r A cap ps T B m) (hT:Txt ps T) (W:World) (k:Nat) (v:Value) (out:List FN) (h:RdI W0 Z W r A cap ps k v B out) (ho:out.length≤k) (hk:12*(ps.length-k)+3≤m+1):
  Calls Tryz.prog 287 #[.pointer (some ⟨r,0,none⟩),.int .i64 5] W (Nc W0 Z r A cap ps T B W v k out (PB RF 1 5 0 [] (T k) out)):=by
 have HS:Hid (RdI W0 Z W r A cap ps k v B out):=h;have HN:Hid (Qnn W0 Z r A cap ps T B m):=hN;rw [Qrb (hT.len k)];obtain⟨res,HRES⟩: ∃res,Hid (PB RF 3 0 0 [] (T k) out=res):=⟨_,rfl⟩;rw [HRES.out];clear h hN;go_enter Tryz.func287,Tryz.ntmps287
 go_wp2_with fail
 refine(HN.out W k v out HS.out ho (by omega)).mono ?_;intro e w1 hp;rw [HRES.out]at hp;have HP:Hid (Nc W0 Z r A cap ps T B W v k out res e w1):=hp;rcases hp with⟨x,k1,v1,out1,e1,rfl,e2⟩ | ⟨e1,rfl,e2⟩
 ·clear e1 e2;go_wp2_with fail
  go_ret;exact HP.out
 ·clear e1 e2;go_wp2_with fail
  exact⟨rfl,HP.out⟩
theorem Qps {m:Nat} (hm:m≤20000) (hN:Qnn W0 Z r A cap ps T B m) (hS:Qrt W0 Z r A cap ps T B m) (hT:Txt ps T):Qnn W0 Z r A cap ps T B (m+1):=by
 intro W k v out h ho hk;have HS:Hid (SI W0 Z W v r A cap ps B W k v out):=SI.start h;have HN:Hid (Qnn W0 Z r A cap ps T B m):=hN;have HSC:Hid (Qrt W0 Z r A cap ps T B m):=hS;have HT:Hid (Txt ps T):=hT;have HFW:Hid (ps.length≤1000):=hT.few;have HKL:Hid (k≤ps.length):=h.ri.1
 have HP3:Hid (PB RF 3 0 0 [] (T k) out=if pk (T k)= [45]then Zv (PB RF 3 0 0 [] (nx (T k)) out) (fun k l1 o1=>some ((o1.length:Int),sb l1,o1++ [RF.neg k]))else PB RF 4 0 0 [] (T k) out):=PB3 (hT.len k);obtain⟨res,HRES⟩: ∃res,Hid (PB RF 3 0 0 [] (T k) out=res):=⟨_,rfl⟩;rw [HRES.out]at HP3 ⊢;obtain⟨l,HL⟩: ∃l,Hid (Zl ps k=l):=⟨_,rfl⟩;rw [hT.pkk h,HL.out]at HP3;obtain⟨s,HX⟩: ∃s,Hid (bs l=s):=⟨_,rfl⟩;clear h hN hS
 go_enter Tryz.func304,Tryz.ntmps304;go_wp2_with fail
 refine(Va (m:=0) HS.out (by omega)).mono ?_;rintro _ w1 ⟨rfl,hs1⟩;have HS1:Hid (SI W0 Z W v r A cap ps B w1 k v out):=hs1;clear hs1 HS;rw [Nat.add_zero,HL.out,HX.out];by_cases hq:l= [45]
 ·have hb:(s.toList== [45])=true:=Uz (by rw [←HX.out,hq];rfl);have HP:Hid (res=Zv (PB RF 3 0 0 [] (nx (T k)) out) (fun k l1 o1=>some ((o1.length:Int),sb l1,o1++ [RF.neg k]))):=by show _=_;rw [HP3.out,if_pos hq]
  have HPC:Hid (Zl ps k≠ []):=by show _≠_;rw [HL.out,hq];simp
  have HNX:Hid (nx (T k)=T (k+1)):=HT.out.tn k (Zj HPC.out);clear hq;go_wp2_with fail
  refine(Gg HS1.out).mono ?_;rintro e w2 (⟨hn,rfl,hfr⟩ | ⟨hn,rfl,hs2⟩)
  ·exact absurd hn HPC.out
  have HS2:Hid (SI W0 Z W v r A cap ps B w2 (k+1) v out):=hs2;clear hs2 hn HS1;go_wp2_with fail
  refine(HN.out w2 (k+1) v out HS2.out.st (by omega) (by have a1:=Zj HPC.out;omega)).mono ?_;rintro e w3 (⟨x,k3,v3,out3,e3,rfl,hs3,hk3,hl3⟩ | ⟨e3,rfl,hf3⟩)
  ·have HS3:Hid (SI W0 Z W v r A cap ps B w3 k3 v3 out3):=HS2.out.on hs3
   have HR:Hid (res=some ((out3.length:Int),sb (T k3),out3++ [RF.neg x])):=by
    show _=_;rw [HP.out,HNX.out,e3];show some ((out3.length:Int),sb (sb (T k3)),out3++ [RF.neg x])=_;rw [Ze]
   have HKK:Hid (k≤k3∧out3.length+1+k≤out.length+k3):=⟨by omega,by omega⟩;have HO3:Hid (out3.length≤30000):=by show _≤_;have a1:=hs3.st.ri.1;have a2:=HFW.out;omega
   have hB3:B≤w3.heap.size:=hs3.st.bw;clear e3 hs3 hk3 hl3;go_wp2_with fail
   refine(Hd (RF.neg x) (some ⟨w3.heap.size,0,none⟩) 1 (HS3.out.new (by go_grown) (Nat.le_refl _) (by simp)) (Nj w3 B x hB3) (fun b9 h9 hz9=>by have h8:=HS3.out.st.zl b9 hz9;cases h9;exact absurd h8 (Nat.lt_irrefl _)) (smN x) HO3.out).mono ?_;rintro e w4 ⟨rfl,v4,hs4⟩;have HS4:Hid (SI W0 Z W v r A cap ps B w4 k3 v4 (out3++ [RF.neg x])):=hs4;clear hs4;go_wp2_with fail
   go_ret;exact Or.inl ⟨_,k3,v4,_,HR.out,rfl,HS4.out,HKK.out.1,by rw [List.length_append];exact HKK.out.2⟩
  ·have HR:Hid (res=none):=by show _=_;rw [HP.out,HNX.out,e3];rfl
   have HF3:Hid (Fr r v W w3):=HS2.out.fr.trans HS2.out.nb hf3;clear e3 hf3;go_wp2_with fail
   exact⟨rfl,Or.inr ⟨HR.out,rfl,HF3.out⟩⟩
 ·have hb:(s.toList== [45])=false:=ZQ (by rw [←HX.out];intro e;exact hq (by have:=congrArg (fun z:ByteArray=>z.data.toList) e;exact this));have HP:Hid (res=PB RF 4 0 0 [] (T k) out):=by show _=_;rw [HP3.out,if_neg hq]
  clear hq;go_wp2_with fail
  refine(HSC.out w1 k v out HS1.out.st ho (by omega)).mono ?_;rintro e w3 (⟨x,k3,v3,out3,e3,rfl,hs3,hk3,hl3⟩ | ⟨e3,rfl,hf3⟩)
  ·have HS3:Hid (SI W0 Z W v r A cap ps B w3 k3 v3 out3):=HS1.out.on hs3;have HR:Hid (res=some (x,sb (T k3),out3)∧k≤k3∧out3.length+k≤out.length+k3):=⟨by rw [HP.out,e3],hk3,hl3⟩;clear e3 hs3 hk3 hl3;go_wp2_with fail
   go_ret;exact Or.inl ⟨_,k3,v3,_,HR.out.1,rfl,HS3.out,HR.out.2.1,HR.out.2.2⟩
  ·have HR:Hid (res=none):=by show _=_;rw [HP.out,e3]
   have HF3:Hid (Fr r v W w3):=HS1.out.fr.trans HS1.out.nb hf3;clear e3 hf3;go_wp2_with fail
   exact⟨rfl,Or.inr ⟨HR.out,rfl,HF3.out⟩⟩
def Qnw (W0:World) (Z:Nat→Prop) (r:Nat) (A:Option Addr) (cap:Nat) (ps:List (List UInt8)) (T:Nat→List UInt8) (B:Nat) (W:World) (v:Value) (k:Nat) (out:List FN) (lv:Int) (res:Option (Int × List UInt8 × List FN)) (x:Int) (wr:World) (k1:Nat) (v1:Value) (out1:List FN):Prop:=
 SI W0 Z W v r A cap ps B wr k1 v1 out1∧k≤k1∧out1.length+k≤out.length+k1∧res=PB RF 2 lv x [] (T k1) out1
theorem Qld {m:Nat} (hm:m≤20000) (hF: ∀m',m'≤m→Nd W0 Z r A cap ps T B m') (hT:Txt ps T) (W:World) (k:Nat) (v:Value) (out:List FN) (lv:Int) (h:RdI W0 Z W r A cap ps k v B out) (ho:out.length≤k) (h1:1≤lv) (h4:lv≤4) (hk:12*(ps.length-k)+(8-lv).toNat≤m+1):
  Calls Tryz.prog 287 #[.pointer (some ⟨r,0,none⟩),.int .i64 lv] W (Nc W0 Z r A cap ps T B W v k out (PB RF 1 lv 0 [] (T k) out)):=by
 have HS:Hid (SI W0 Z W v r A cap ps B W k v out):=SI.start h;have HF:Hid (∀m',m'≤m→Nd W0 Z r A cap ps T B m'):=hF;have HT:Hid (Txt ps T):=hT;have HFW:Hid (ps.length≤1000):=hT.few;have HKL:Hid (k≤ps.length):=h.ri.1;have HLV:Hid (1≤lv∧lv≤4):=⟨h1,h4⟩;have HE:Hid (PB RF 1 lv 0 [] (T k) out=Zv (PB RF 1 (lv+1) 0 [] (T k) out) (fun x l1 o1=>PB RF 2 lv x [] l1 o1)):=PB1 h1 h4 (hT.len k)
 obtain⟨res,HRES⟩: ∃res,Hid (PB RF 1 lv 0 [] (T k) out=res):=⟨_,rfl⟩;rw [HRES.out]at HE ⊢;have h5: ¬4<lv:=by omega
 have hw:IntKind.i64.wrap (lv+1)=lv+1:=by rw [IntKind.wrap_i64];omega
 clear h hF hT;go_enter Tryz.func287,Tryz.ntmps287;go_wp2_with fail
 refine(HF.out m (Nat.le_refl _) W k v out (lv+1) HS.out.st ho (by omega) (by omega) (by omega)).mono ?_;rintro e w1 (⟨x,k1,v1,out1,e1,rfl,hs1,hk1,hl1⟩ | ⟨e1,rfl,hf1⟩);rotate_left
 ·have HR:Hid (res=none):=by show _=_;rw [HE.out,e1];rfl
  have HF1:Hid (Fr r v W w1):=hf1;clear e1 hf1;go_wp2_with fail
  exact⟨rfl,Or.inr ⟨HR.out,rfl,HF1.out⟩⟩
 have HI:Hid (Qnw W0 Z r A cap ps T B W v k out lv res x w1 k1 v1 out1):=⟨hs1,hk1,hl1,by rw [HE.out,e1];exact Kz (Ze _)⟩;clear e1 hs1 hk1 hl1;go_wp2_with fail
 go_loopw [5] (fun a wr=> ∃x k1 v1 out1,a= .int .i64 x∧Qnw W0 Z r A cap ps T B W v k out lv res x wr k1 v1 out1) (fun _ wr=>ps.length-atI wr r)
 case atStart=>exact⟨x,k1,v1,out1,rfl,HI.out⟩
 case round=>
  clear HI;obtain⟨x,k1,v1,out1,rfl,hi⟩:=hrel;have HI:Hid (Qnw W0 Z r A cap ps T B W v k out lv res x wr k1 v1 out1):=hi;have HS1:Hid (SI W0 Z W v r A cap ps B wr k1 v1 out1):=hi.1;have HMS:Hid (atI wr r=k1):=Qae hi.1.st.ri;have HK1:Hid (k1≤ps.length):=hi.1.st.ri.1;obtain⟨l,HL⟩: ∃l,Hid (Zl ps k1=l):=⟨_,rfl⟩
  have HPK:Hid (pk (T k1)=l):=by show _=_;rw [HT.out.pkk hi.1.st,HL.out]
  have HP2:Hid (res=if QI l=0∨lvl (QI l)≠lv then some (x,sb (T k1),out1)else Zv (PB RF 1 (lv+1) 0 [] (nx (T k1)) out1) (fun b l1 o1=>PB RF 2 lv (o1.length:Int) [] l1 (o1++ [RF.bin (QI l) x b]))):=by
   show _=_;rw [←HPK.out,hi.2.2.2];exact PB2 h1 h4 (HT.out.len k1)
  obtain⟨s,HX⟩: ∃s,Hid (bs l=s):=⟨_,rfl⟩;have HXL:Hid (s.data.toList=l):=by show _=_;rw [←HX.out];rfl
  clear hi;go_wp2_with fail
  refine(Va (m:=0) HS1.out (by omega)).mono ?_;rintro _ w2 ⟨rfl,hs2⟩;have HS2:Hid (SI W0 Z W v r A cap ps B w2 k1 v1 out1):=hs2;have HG2:Hid (GI w2):=hs2.st.gir;clear hs2;rw [Nat.add_zero,HL.out,HX.out];go_wp2_with fail
  refine(Kl s w2 HG2.out.gt.ot).mono ?_;rintro _ w3 ⟨rfl,hb3⟩;have HS3:Hid (SI W0 Z W v r A cap ps B w3 k1 v1 out1):=HS2.out.bel hb3;have HG3:=hd (HG2.out.below hb3);clear hb3 HS1 HS2 HG2;rw [HXL.out];have hob:=Qsp l
  obtain⟨mo,HMO⟩: ∃mo:Nat,Hid (QI l=(mo:Int)):=⟨(QI l).toNat,by show _=_;omega⟩;rw [HMO.out]at HP2 hob ⊢;by_cases h0:mo=0
  ·subst h0;have HP:Hid (res=some (x,sb (T k1),out1)):=by show _=_;rw [HP2.out];exact if_pos (Or.inl rfl)
   go_wp2_with fail
   go_ret;exact Or.inl ⟨x,k1,v1,out1,HP.out,rfl,HS3.out,HI.out.2.1,HI.out.2.2.1⟩
  ·have hm11:mo≤11:=by omega
   obtain⟨_,t1⟩:=HG3.out.gt.ot mo hm11;have hgl:=HG3.out.gt.ot.lt;rw [show bnO mo=lvl (mo:Int) by unfold bnO;rw [if_neg h0]]at t1;obtain⟨L,HLL⟩: ∃L,Hid (lvl (mo:Int)=L):=⟨_,rfl⟩;rw [HLL.out]at t1 HP2;have q0: ¬(mo:Int)=0:=by omega
   have q0':((mo:Int)==0)=false:=by simpa using q0
   have q1:(0:Int)≤(mo:Int):=by omega
   have q2:(mo:Int)<12:=by omega
   by_cases hLv:L=lv
   ·have HP:Hid (res=Zv (PB RF 1 (lv+1) 0 [] (nx (T k1)) out1) (fun b l1 o1=>PB RF 2 lv (o1.length:Int) [] l1 (o1++ [RF.bin (mo:Int) x b]))):=by show _=_;rw [HP2.out,if_neg (fun e=>by rcases e with e | e;exact q0 e;exact e hLv)]
    have HPC:Hid (Zl ps k1≠ []):=by
     show _≠_;rw [HL.out];intro e;rw [e]at HMO;have:=HMO.out;rw [show QI []=0 from rfl]at this;omega
    have HNX:Hid (nx (T k1)=T (k1+1)):=HT.out.tn k1 (Zj HPC.out);subst hLv;clear h0;go_wp2_with fail
    refine(Gg HS3.out).mono ?_;rintro e w4 (⟨hn,rfl,hfr⟩ | ⟨hn,rfl,hs4⟩)
    ·exact absurd hn HPC.out
    have HS4:Hid (SI W0 Z W v r A cap ps B w4 (k1+1) v1 out1):=hs4;clear hs4 hn t1;go_wp2_with fail
    refine(HF.out (m-1) (Nat.sub_le _ _) w4 (k1+1) v1 out1 (L+1) HS4.out.st (by have:=HI.out.2.2.1;have:=HI.out.2.1;omega) (by omega) (by omega) (by have a1:=Zj HPC.out;have a2:=HI.out.2.1;omega)).mono ?_;rintro e w5 (⟨b,k5,v5,out5,e5,rfl,hs5,hk5,hl5⟩ | ⟨e5,rfl,hf5⟩);rotate_left
    ·have HR:Hid (res=none):=by show _=_;rw [HP.out,HNX.out,e5];rfl
     have HF5:Hid (Fr r v W w5):=HS4.out.fr.trans HS4.out.nb hf5;clear e5 hf5;go_wp2_with fail
     exact⟨rfl,Or.inr ⟨HR.out,rfl,HF5.out⟩⟩
    have HS5:Hid (SI W0 Z W v r A cap ps B w5 k5 v5 out5):=HS4.out.on hs5
    have HR:Hid (res=PB RF 2 L (out5.length:Int) [] (T k5) (out5++ [RF.bin (mo:Int) x b])):=by
     show _=_;rw [HP.out,HNX.out,e5];exact Kz (Ze _)
    have HKK:Hid (k1<k5∧out5.length+1+k1≤out1.length+k5):=⟨by omega,by omega⟩;have HO5:Hid (out5.length≤30000):=by show _≤_;have a1:=hs5.st.ri.1;have a2:=HFW.out;have a3:=HI.out.2.1;have a4:=HI.out.2.2.1;omega
    have hB5:B≤w5.heap.size:=hs5.st.bw;clear e5 hs5 hk5 hl5;go_wp2_with fail
    refine(Hd (RF.bin (mo:Int) x b) (some ⟨w5.heap.size,0,none⟩) 2 (HS5.out.new (by go_grown) (Nat.le_refl _) (by simp)) (Qfy w5 B x b hB5) (fun b9 h9 hz9=>by have h8:=HS5.out.st.zl b9 hz9;cases h9;exact absurd h8 (Nat.lt_irrefl _)) (smB _ x b) HO5.out).mono ?_;rintro e w6 ⟨rfl,v6,hs6⟩;have HS6:Hid (SI W0 Z W v r A cap ps B w6 k5 v6 (out5++ [RF.bin (mo:Int) x b])):=hs6;clear hs6;go_wp2_with fail
    refine⟨⟨_,k5,v6,_,rfl,HS6.out,?_,?_,HR.out⟩,?_⟩
    ·have a1:=HKK.out.1;have a2:=HI.out.2.1;omega
    ·rw [List.length_append];have a1:=HKK.out.2;have a2:=HI.out.2.2.1;simp only [List.length_cons,List.length_nil];omega
    ·rw [Qae HS6.out.st.ri,HMS.out];have a1:=HKK.out.1;have a2:=HS6.out.st.ri.1;omega
   ·have HP:Hid (res=some (x,sb (T k1),out1)):=by show _=_;rw [HP2.out,if_pos (Or.inr hLv)]
    have hLv':(L==lv)=false:=by simpa using hLv
    clear h0;go_wp2_with fail
    go_ret;exact Or.inl ⟨x,k1,v1,out1,HP.out,rfl,HS3.out,HI.out.2.1,HI.out.2.2.1⟩
end
theorem Qqh {l u:List UInt8} {c:UInt8} {s:ByteArray} (hx:bs l=s) (hl:l=c::u) (h:0<s.size):s[0]=c:=by
 subst hx hl;rfl
theorem Qk8 (l:List UInt8) (w:World) (hl:l.length≤1048576) (hv:Vars w):Calls Tryz.prog 137 #[.string (bs l)] w fun e w'=>e= .returned (plA l)∧Below w.heap.size w w':=
 (JU (bs l) w (by rw [Qt];exact hl) hv).mono fun e w'=>by
  rintro⟨rfl,hb⟩;refine⟨?_,hb⟩;unfold plA;rw [Qo9]
theorem Qk7 (l:List UInt8) (s:ByteArray) (hbs:bs l=s) (w:World) (hl:l.length≤1048576) (hv:Vars w):Calls Tryz.prog 203 #[.string s] w fun e w'=>e= .returned (rvS (bs l))∧Below w.heap.size w w':=by
 subst hbs
 exact(JT (bs l) w (by rw [Qt];omega) hv).mono fun e w'=>by
  rintro⟨rfl,hb⟩;exact⟨by rw [Eb],hb⟩
def Qt4 (o:Option (Int × Int × Bool × Bool)) (w:World) (e:Ending) (w':World):Prop:=
 ((∃p,o=some p∧e= .returned (.agg #[.int .i64 p.1,.int .i64 p.2.1,.bool p.2.2.1,.bool p.2.2.2]))∨(o=none∧e= .panicked noF))∧Below w.heap.size w w'
theorem Jl (l:List UInt8) (s:ByteArray) (hbs:bs l=s) (w:World) (hl:l.length≤1048576) (hv:Vars w):Calls Tryz.prog 329 #[.string s] w (Qt4 (rpL l) w):=by
 have HV:Hid (Vars w):=hv;have HB:Hid (bs l=s):=hbs;obtain⟨o,HO⟩: ∃o,Hid (rpL l=o):=⟨_,rfl⟩;rw [HO.out];clear hv hbs;go_enter Tryz.func329,Tryz.ntmps329;go_wp2_with fail
 rw [←HB.out];refine(Qk8 l _ hl (HV.out.below (by go_grown))).mono ?_;rintro _ w1 ⟨rfl,hb⟩;have HB1:Hid (Below w.heap.size w w1):=Qc (by go_grown) hb;obtain⟨hc,hf,hC,hF,hz,hk,l0⟩:=bk1 (w:=w) (by go_grown) (by go_size) hb;clear hb;cases o with
 | none=>
  rw [Qdi HO.out];go_wp2_with fail
  refine(Zn _).mono ?_;rintro _ w2 ⟨rfl,hw2⟩;obtain rfl:=hw2.symm;clear hw2;go_wp2_with fail
  exact⟨rfl,Or.inr ⟨rfl,rfl⟩,Qc HB1.out (by go_grown)⟩
 | some p=>
  rw [EQ HO.out];obtain⟨p1,p2,p3,p4⟩:=p;simp only;go_wp2_with fail
  refine bodyPost_ret (v:= .agg #[.int .i64 p1,.int .i64 p2,.bool p3,.bool p4]) ?_ rfl ⟨Or.inl ⟨_,rfl,rfl⟩,by go_grown⟩;simp (maxDischargeDepth:=9) [results,Tryz.results329,go_sem, *]
theorem Qq1 (s:ByteArray) (h:s.size≤1000):s.size+Lib.countB s (⟨#[34,34]⟩:ByteArray)*(⟨#[34]⟩:ByteArray).size≤140737488355328:=by
 have h1:Lib.countB s (⟨#[34,34]⟩:ByteArray)≤s.size+1:=Lib.count_le _ _;rw [show(⟨#[34]⟩:ByteArray).size=1 from rfl];omega
theorem Oe (q:List UInt8) (s:ByteArray) (hbs:bs (34::(qt q++ [34]))=s) (w:World) (hs:s.size≤1000) (hm:MX w):Calls Tryz.prog 325 #[.string s] w fun e w'=>e= .returned (.string (bs q))∧Below w.heap.size w w':=by
 obtain⟨mx,hm⟩:=hm;have HM:Hid (w.cell? ⟨0,0,none⟩=some (.int .i64 mx)):=hm;have hsz:s.size=(qt q).length+2:=by rw [←hbs,Qt];simp
 obtain⟨n,hn⟩: ∃n:Nat,s.size=n+1:=⟨(qt q).length+1,by omega⟩;have hw:IntKind.i64.wrap ((s.size:Int)-1)=(n:Int):=by rw [IntKind.wrap_i64];omega
 have q1:(1:Int)≤(n:Int):=by omega
 have q2:(n:Int)≤(s.size:Int):=by omega
 obtain⟨t,HT⟩: ∃t,Hid (s.extract 1 n=t):=⟨_,rfl⟩
 have HTL:Hid (t=bs (qt q)):=by
  show _=_;rw [←HT.out,Xq s 1 n (by omega),←hbs];show bs (List.take (n-1) (List.drop 1 (34::(qt q++ [34]))))=_;rw [show n-1=(qt q).length by omega];show bs (List.take (qt q).length (qt q++ [34]))=_;rw [List.take_left]
 have HTS:Hid (t.size≤1000):=by show _≤_;rw [HTL.out,Qt];omega
 have HR:Hid ((⟨(Lib.replaceAll t.data.toList (⟨#[34,34]⟩:ByteArray).data.toList (⟨#[34]⟩:ByteArray).data.toList).toArray⟩:ByteArray)=bs q):=by
  show _=_;rw [HTL.out];show bs (Lib.replaceAll (qt q) [34,34] [34])=_;rw [Qn3]
 have ht:=HT.out;clear hm hbs hsz hn;go_enter Tryz.func325,Tryz.ntmps325;go_wp2_with fail
 refine(Tryz.strings_ReplaceAll t ⟨#[34,34]⟩ ⟨#[34]⟩ mx _ (by have:=HTS.out;omega) HM.out (by decide) (Qq1 t HTS.out)).mono ?_;rintro e w1 ⟨rfl,hb⟩;rw [HR.out];have HB:Hid (Below w.heap.size w w1):=hb;clear hb;go_wp2_with fail
 go_ret;exact⟨rfl,HB.out⟩
theorem smC (k n:Int) (s:List UInt8) (h:s.length≤2000):smF (RF.cst k n s):=⟨by show(bs s).size≤2000;rw [Qt];exact h,by show 0≤2000;omega⟩
theorem smP (p:Int × Int × Bool × Bool):smF (RF.cel p):=⟨Nat.zero_le _,by show 0≤2000;omega⟩
theorem smA (p q:Int × Int × Bool × Bool):smF (RF.are p q):=⟨Nat.zero_le _,by show 0≤2000;omega⟩
theorem Qi1 {l:List UInt8} {out:List FN} {x:Option (Int × Int × List UInt8)} {y:Option (Int × Int × Bool × Bool)} (h0:pk l≠ []) (h1:pk l≠ [40]) (h2:(pk l).head?≠some 34) (hf:Xc (pk l)=0) (hx:rvL (pk l)=x) (hy:rpL (pk l)=y):
  PB RF 4 0 0 [] l out=Qml x y (nx l) out:=by
 rw [Hw h0 h1 h2 hf,Qrv,Qi4,hx,hy];cases x<;>cases y<;>rfl
theorem Qul (q:List UInt8):q.length≤(qt q).length:=by
 induction q with
 | nil=>exact Nat.le_refl _
 | cons b t ih=>
  rw [YT,List.length_append];split<;>simp<;>omega
section
variable {W0:World} {Z:Nat→Prop} {r:Nat} {A:Option Addr} {cap:Nat} {ps:List (List UInt8)} {T:Nat→List UInt8} {B:Nat}
theorem Qoe {m:Nat} (hm:m≤20000) (hF:Nd W0 Z r A cap ps T B m) (hC:Qrz W0 Z r A cap ps T B m) (hT:Txt ps T):Qrt W0 Z r A cap ps T B (m+1):=by
 intro W k v out h ho hk;have HS:Hid (SI W0 Z W v r A cap ps B W k v out):=SI.start h;have HF:Hid (Nd W0 Z r A cap ps T B m):=hF;have HC:Hid (Qrz W0 Z r A cap ps T B m):=hC;have HT:Hid (Txt ps T):=hT;have HFW:Hid (ps.length≤1000):=hT.few;have HKL:Hid (k≤ps.length):=h.ri.1
 have HO:Hid (out.length≤30000):=by show _≤_;have:=hT.few;have:=h.ri.1;omega
 have HLN:Hid ((T k).length≤1000):=hT.len k;obtain⟨res,HRES⟩: ∃res,Hid (PB RF 4 0 0 [] (T k) out=res):=⟨_,rfl⟩;rw [HRES.out];obtain⟨l,HL⟩: ∃l,Hid (Zl ps k=l):=⟨_,rfl⟩;have HPK:Hid (pk (T k)=l):=by show _=_;rw [hT.pkk h,HL.out]
 obtain⟨s,HX⟩: ∃s,Hid (bs l=s):=⟨_,rfl⟩
 have HLL:Hid (l.length≤1000):=by
  show _≤_;by_cases e:l= []
  ·rw [e];exact Nat.zero_le _
  ·have h9:=Hh (l:=T k) (by rw [HPK.out];exact e);have h8:=congrArg List.length h9;rw [HPK.out,List.length_append]at h8;have h7:=YD (T k);have h6:=HLN.out;omega
 clear h hF hC hT;go_enter Tryz.func319,Tryz.ntmps319;go_wp2_with fail
 refine(Gg HS.out).mono ?_;rintro e w1 (⟨hn,rfl,hfr⟩ | ⟨hn,rfl,hs1⟩)
 ·have HR:Hid (res=none):=by show _=_;rw [←HRES.out];exact EJ (by rw [HPK.out,←HL.out];exact hn)
  have HF1:Hid (Fr r v W w1):=hfr;clear hn hfr;go_wp2_with fail
  exact⟨rfl,Or.inr ⟨HR.out,rfl,HF1.out⟩⟩
 have HS1:Hid (SI W0 Z W v r A cap ps B w1 (k+1) v out):=hs1;have HPC:Hid (Zl ps k≠ []):=hn;have HNX:Hid (nx (T k)=T (k+1)):=HT.out.tn k (Zj hn);have HLE:Hid (l≠ []):=by show _≠_;rw [←HL.out];exact hn
 have HG1:Hid (GI w1):=hs1.st.gir;have HKP:Hid (k<ps.length):=Zj hn;clear hn hs1 HS;rw [HL.out,HX.out];by_cases h40:l= [40]
 ·have hb:(s.toList== [40])=true:=Uz (by rw [←HX.out,h40];rfl)
  have HP:Hid (res=Zv (PB RF 1 1 0 [] (T (k+1)) out) (fun x l1 o1=>if pk l1= [41]then some (x,sb (nx l1),o1)else none)):=by
   show _=_;rw [←HRES.out,EI (by rw [HPK.out];exact h40) HLN.out,HNX.out]
  clear h40;go_wp2_with fail
  refine(HF.out w1 (k+1) v out 1 HS1.out.st (by omega) (by omega) (by omega) (by have:=HKP.out;omega)).mono ?_;rintro e w2 (⟨x,k2,v2,out2,e2,rfl,hs2,hk2,hl2⟩ | ⟨e2,rfl,hf2⟩);rotate_left
  ·have HR:Hid (res=none):=by show _=_;rw [HP.out,e2];rfl
   have HF2:Hid (Fr r v W w2):=HS1.out.fr.trans HS1.out.nb hf2;clear e2 hf2;go_wp2_with fail
   exact⟨rfl,Or.inr ⟨HR.out,rfl,HF2.out⟩⟩
  have HS2:Hid (SI W0 Z W v r A cap ps B w2 k2 v2 out2):=HS1.out.on hs2
  have HP2:Hid (res=if Zl ps k2= [41]then some (x,sb (T (k2+1)),out2)else none):=by
   show _=_;rw [HP.out,e2];show(if pk (sb (T k2))= [41]then some (x,sb (nx (sb (T k2))),out2)else none)=_;rw [Xj,HT.out.pkk hs2.st];by_cases h9:Zl ps k2= [41]
   ·have h8:pk (T k2)≠ []:=by rw [HT.out.pkk hs2.st,h9];simp
    rw [if_pos h9,if_pos h9,←JJ (l:=T k2) (Ze _).symm h8,HT.out.tn k2 (Zj (by rw [h9];simp))]
   ·rw [if_neg h9,if_neg h9]
  have HKK:Hid (k+1≤k2∧out2.length+(k+1)≤out.length+k2):=⟨hk2,hl2⟩;clear e2 hs2 hk2 hl2;go_wp2_with fail
  refine(GE 41 HS2.out).mono ?_;rintro e w3 (⟨h9,⟨y,rfl⟩,hs3⟩ | ⟨h9,rfl,hf3⟩)
  ·have HR:Hid (res=some (x,sb (T (k2+1)),out2)):=by show _=_;rw [HP2.out,if_pos h9]
   have HS3:Hid (SI W0 Z W v r A cap ps B w3 (k2+1) v2 out2):=hs3;clear h9 hs3;go_wp2_with fail
   go_ret;exact Or.inl ⟨x,k2+1,v2,out2,HR.out,rfl,HS3.out,by have:=HKK.out.1;omega,by have:=HKK.out.2;omega⟩
  ·have HR:Hid (res=none):=by show _=_;rw [HP2.out,if_neg h9]
   have HF3:Hid (Fr r v W w3):=hf3;clear h9 hf3;go_wp2_with fail
   exact⟨rfl,Or.inr ⟨HR.out,rfl,HF3.out⟩⟩
 have hb:(s.toList== [40])=false:=ZQ (by rw [←HX.out];intro e;exact h40 (by have:=congrArg (fun z:ByteArray=>z.data.toList) e;exact this))
 obtain⟨c,u,hcu⟩: ∃c u,l=c::u:=by
  cases hq:l with
  | nil=>exact absurd hq HLE.out
  | cons c u=>exact⟨c,u,rfl⟩
 have hs0:0<s.size:=by rw [←HX.out,Qt,hcu];simp
 have hsc:s[0]=c:=Qqh HX.out hcu hs0;have q0:(0:Int)<(s.size:Int):=by omega
 have HCU:Hid (l=c::u):=hcu;by_cases h34:c=34
 ·have hc:(s[0].toNat:Int)=34:=by rw [hsc,h34];rfl
  obtain⟨q,hq1,hq2⟩:=Qhr (l:=T k) (by rw [HPK.out,hcu,h34];rfl);rw [HPK.out]at hq1;have HQ:Hid (bs (34::(qt q++ [34]))=s):=by show _=_;rw [←hq1,HX.out]
  have HR:Hid (res=some ((out.length:Int),sb (T (k+1)),out++ [RF.cst 2 0 q])):=by
   show _=_;rw [←HRES.out,EH (by rw [HPK.out,hcu,h34];rfl) hq2,HNX.out]
  have HQL:Hid (q.length≤2000):=by
   show _≤_;have a1:=HLL.out;rw [hq1]at a1;simp only [List.length_cons,List.length_append,List.length_nil]at a1;have a2:=Qul q;omega
  have HSL:Hid (s.size≤1000):=by show _≤_;rw [←HX.out,Qt];exact HLL.out
  obtain⟨tq,HTQ⟩: ∃t,Hid (bs q=t):=⟨_,rfl⟩;clear hsc h34 hq1 hq2 h40 hcu;go_wp2_with fail
  refine(Oe q s HQ.out w1 HSL.out HG1.out.gt.mx).mono ?_;rintro _ w2 ⟨rfl,hb2⟩;have HS2:Hid (SI W0 Z W v r A cap ps B w2 (k+1) v out):=HS1.out.bel hb2;clear hb2;rw [HTQ.out];go_wp2_with fail
  refine(YA _ _).mono ?_;rintro _ w3 ⟨rfl,hb3⟩;have HS3:Hid (SI W0 Z W v r A cap ps B w3 (k+1) v out):=HS2.out.bel hb3;clear hb3;rw [←HTQ.out];go_wp2_with fail
  refine(Hd (RF.cst 2 0 q) none 0 HS3.out.nil (Yc _ _) (fun _ h=>by cases h) (smC 2 0 q HQL.out) HO.out).mono ?_;rintro e w4 ⟨rfl,v4,hs4⟩;have HS4:Hid (SI W0 Z W v r A cap ps B w4 (k+1) v4 (out++ [RF.cst 2 0 q])):=hs4;clear hs4;go_wp2_with fail
  go_ret;exact Or.inl ⟨_,k+1,v4,_,HR.out,rfl,HS4.out,by omega,by rw [List.length_append];simp only [List.length_cons,List.length_nil];omega⟩
 have hc: ¬(s[0].toNat:Int)=34:=by
  rw [hsc];intro e;exact h34 (UInt8.toNat_inj.1 (by have:(34:UInt8).toNat=34:=rfl;omega))
 have hc':((s[0].toNat:Int)==34)=false:=by simpa using hc
 have HH:Hid (l≠ [40]∧l.head?≠some 34):=⟨h40,by rw [hcu];simpa using h34⟩;have HXL:Hid (s.data.toList=l):=by show _=_;rw [←HX.out];rfl
 clear hsc h34 h40 hcu;go_wp2_with fail
 refine(Km s w1 HG1.out.gt.fn HG1.out.fl).mono ?_;rintro _ w2 ⟨rfl,hb2⟩;have HS2:Hid (SI W0 Z W v r A cap ps B w2 (k+1) v out):=HS1.out.bel hb2;have HG2:=hd (HG1.out.below hb2);clear hb2;rw [HXL.out];obtain⟨f,HFN⟩: ∃f,Hid (Xc l=f):=⟨_,rfl⟩
 rw [HFN.out];by_cases hf:f=0
 ·subst hf;obtain⟨x,HVX⟩: ∃x,Hid (rvL l=x):=⟨_,rfl⟩;obtain⟨y,HPY⟩: ∃y,Hid (rpL l=y):=⟨_,rfl⟩
  have HR:Hid (res=Qml x y (T (k+1)) out):=by
   show _=_;rw [←HRES.out,Qi1 (x:=x) (y:=y) (by rw [HPK.out];exact HLE.out) (by rw [HPK.out];exact HH.out.1) (by rw [HPK.out];exact HH.out.2) (by rw [HPK.out];exact HFN.out) (by rw [HPK.out];exact HVX.out) (by rw [HPK.out];exact HPY.out),HNX.out]
  go_wp2_with fail
  refine(Qk7 l s HX.out w2 (by have:=HLL.out;omega) HG2.out.vs).mono ?_;rintro _ w3 ⟨rfl,hb3⟩;have HS3:Hid (SI W0 Z W v r A cap ps B w3 (k+1) v out):=HS2.out.bel hb3;have HG3:=hd (HG2.out.below hb3);clear hb3;cases x with
  | some vv=>
   obtain⟨vk,vn,vs⟩:=vv;rw [Qep HVX.out]
   have HVS:Hid (vs.length≤2000):=by
    show _≤_;have a1:(bs vs).size≤l.length:=Qmb HVX.out;rw [Qt]at a1;have a2:=HLL.out;omega
   unfold vlA;obtain⟨tv,HTV⟩: ∃t,Hid (bs vs=t):=⟨_,rfl⟩;simp only;rw [HTV.out];go_wp2_with fail
   rw [←HTV.out];refine(Hd (RF.cst vk vn vs) none 0 (HS3.out.bel (by go_grown)).nil (Yc _ _) (fun _ h=>by cases h) (smC vk vn vs HVS.out) HO.out).mono ?_;rintro e w4 ⟨rfl,v4,hs4⟩;have HS4:Hid (SI W0 Z W v r A cap ps B w4 (k+1) v4 (out++ [RF.cst vk vn vs])):=hs4;clear hs4;go_wp2_with fail
   go_ret;exact Or.inl ⟨_,k+1,v4,_,HR.out,rfl,HS4.out,by omega,by rw [List.length_append];simp only [List.length_cons,List.length_nil];omega⟩
  | none=>
   rw [Qrh HVX.out];unfold GS;go_wp2_with fail
   refine(Jl l s HX.out _ (by have:=HLL.out;omega) (HG3.out.vs.below (by go_grown))).mono ?_;rw [HPY.out];rintro e w4 ⟨(⟨p,rfl,rfl⟩ | ⟨rfl,rfl⟩),hb4⟩
   ·have HS4:Hid (SI W0 Z W v r A cap ps B w4 (k+1) v out):=(HS3.out.bel (by go_grown)).bel hb4;clear hb4;obtain⟨p1,p2,p3,p4⟩:=p;simp only;go_wp2_with fail
    refine(Hd (RF.cel (p1,p2,p3,p4)) none 0 HS4.out.nil (Yc _ _) (fun _ h=>by cases h) (smP _) HO.out).mono ?_;rintro e w5 ⟨rfl,v5,hs5⟩;have HS5:Hid (SI W0 Z W v r A cap ps B w5 (k+1) v5 (out++ [RF.cel (p1,p2,p3,p4)])):=hs5;clear hs5;go_wp2_with fail
    go_ret;exact Or.inl ⟨_,k+1,v5,_,HR.out,rfl,HS5.out,by omega,by rw [List.length_append];simp only [List.length_cons,List.length_nil];omega⟩
   ·have HF4:Hid (Fr r v W w4):=((HS3.out.bel (by go_grown)).bel hb4).fr;clear hb4;go_wp2_with fail
    exact⟨rfl,Or.inr ⟨HR.out,rfl,HF4.out⟩⟩
 ·have q1: ¬f=0:=hf;have q2:(f==0)=false:=by simpa using hf
  have HR:Hid (res=if pk (T (k+1))= [40]then Zv (PB RF 6 0 0 [] (nx (T (k+1))) out) (fun a l1 o1=>PB RF 5 f 0 [a] l1 o1)else none):=by
   show _=_;rw [←HRES.out,Qe2 (by rw [HPK.out];exact HLE.out) (by rw [HPK.out];exact HH.out.1) (by rw [HPK.out];exact HH.out.2) (by rw [HPK.out,HFN.out];exact hf) HLN.out,HNX.out,HPK.out,HFN.out]
  clear hf;go_wp2_with fail
  refine(HC.out w2 (k+1) v out f HS2.out.st (by omega) (by have:=HKP.out;omega)).mono ?_;rw [←HR.out];rintro e w3 (⟨x,k3,v3,out3,e3,rfl,hs3,hk3,hl3⟩ | ⟨e3,rfl,hf3⟩)
  ·have HS3:Hid (SI W0 Z W v r A cap ps B w3 k3 v3 out3):=HS2.out.on hs3;have HE3:Hid (res=some (x,sb (T k3),out3)∧k+1≤k3∧out3.length+(k+1)≤out.length+k3):=⟨e3,hk3,hl3⟩;clear e3 hs3 hk3 hl3;go_wp2_with fail
   go_ret;exact Or.inl ⟨x,k3,v3,out3,HE3.out.1,rfl,HS3.out,by have:=HE3.out.2.1;omega,by have:=HE3.out.2.2;omega⟩
  ·have HE3:Hid (res=none):=e3;have HF3:Hid (Fr r v W w3):=HS2.out.fr.trans HS2.out.nb hf3;clear e3 hf3;go_wp2_with fail
   exact⟨rfl,Or.inr ⟨HE3.out,rfl,HF3.out⟩⟩
end
end Go.Proofs.YtbdhinckiccniaaGreatDoor
