import Derived.Test.YtomadadmakdkgaaGreatDoorMn
import Derived.Test.YtomadadmakdkgaaGreatDoorGau
import Derived.Test.YtomadadmakdkgaaGreatDoorGan
import Derived.Test.YtomadadmakdkgaaGreatDoorGah
import Derived.Test.YtomadadmakdkgaaGreatDoorGao
open Go.Proofs.Tryz
open Go.Value renaming int → d, string → G, bool → H, agg → I
open Go.IntKind renaming i64 → g, wrap_i64 → F
open Or renaming inl → i, inr → j
open Go renaming Calls → C, Addr → E
open Go.Ending renaming returned → D
set_option linter.unusedSimpArgs false
set_option linter.unusedVariables false
set_option maxHeartbeats 8000000
set_option maxRecDepth 100000
namespace Go.Proofs.YtomadadmakdkgaaGreatDoor
open Go.RowKit
variable {m:Nat}
def On(W0:World)(Z:Nat->Prop)(r:Nat)(A:Option E)(cap:Nat)(ps:List (List UInt8))(T:Nat->List UInt8)(B:Nat)(W:World)(v:Value)(k:Nat)(out:List FN)(res:Option (Int × List UInt8 × List FN))(e:Ending)(w':World):Prop:=
 (∃x k' v' out',res=some (x,sb (T k'),out')/\e= D (d g x)/\SI W0 Z W v r A cap ps B w' k' v' out'/\k<=k'/\out'.length+k<=out.length+k')\/(res=none/\e= .panicked noF/\Fr r v W w')
def Oq(W0:World)(Z:Nat->Prop)(r:Nat)(A:Option E)(cap:Nat)(ps:List (List UInt8))(T:Nat->List UInt8)(B m:Nat):Prop:= ∀(W:World) (k:Nat) (v:Value) (out:List FN) (lv:Int),RdI W0 Z W r A cap ps k v B out->out.length<=k->1<=lv->lv<=5->12*(ps.length-k)+(8-lv).toNat<=m->
 C prog 217 #[.pointer (some ⟨r,0,none⟩),d g lv] W (On W0 Z r A cap ps T B W v k out (PB RF 1 lv 0 [] (T k) out))
def Qop(W0:World)(Z:Nat->Prop)(r:Nat)(A:Option E)(cap:Nat)(ps:List (List UInt8))(T:Nat->List UInt8)(B m:Nat):Prop:= ∀(W:World) (k:Nat) (v:Value) (out:List FN),RdI W0 Z W r A cap ps k v B out->out.length<=k->12*(ps.length-k)+2<=m->
 C prog 242 #[.pointer (some ⟨r,0,none⟩)] W (On W0 Z r A cap ps T B W v k out (PB RF 3 0 0 [] (T k) out))
def Qs7(W0:World)(Z:Nat->Prop)(r:Nat)(A:Option E)(cap:Nat)(ps:List (List UInt8))(T:Nat->List UInt8)(B m:Nat):Prop:= ∀(W:World) (k:Nat) (v:Value) (out:List FN),RdI W0 Z W r A cap ps k v B out->out.length<=k->12*(ps.length-k)+1<=m->
 C prog 265 #[.pointer (some ⟨r,0,none⟩)] W (On W0 Z r A cap ps T B W v k out (PB RF 4 0 0 [] (T k) out))
def Qtd(W0:World)(Z:Nat->Prop)(r:Nat)(A:Option E)(cap:Nat)(ps:List (List UInt8))(T:Nat->List UInt8)(B m:Nat):Prop:= ∀(W:World) (k:Nat) (v:Value) (out:List FN) (fn:Int),RdI W0 Z W r A cap ps k v B out->out.length<=k->12*(ps.length-k)+1<=m->
 C prog 284 #[.pointer (some ⟨r,0,none⟩),d g fn] W (On W0 Z r A cap ps T B W v k out (if pk (T k)= [40]then Yg (PB RF 6 0 0 [] (nx (T k)) out) (fun a l1 o1=>PB RF 5 fn 0 [a] l1 o1)else none))
def Qj7(W0:World)(Z:Nat->Prop)(r:Nat)(A:Option E)(cap:Nat)(ps:List (List UInt8))(T:Nat->List UInt8)(B m:Nat):Prop:= ∀(W:World) (k:Nat) (v:Value) (out:List FN),RdI W0 Z W r A cap ps k v B out->out.length<=k->12*(ps.length-k)+8<=m->
 C prog 295 #[.pointer (some ⟨r,0,none⟩)] W (On W0 Z r A cap ps T B W v k out (PB RF 6 0 0 [] (T k) out))
def atI(W:World)(r:Nat):Nat:=match W.cell? ⟨r,1,none⟩with
 | some (.int _ k)=>k.toNat
 | _=>0
theorem Qbk{W:World}{r:Nat}{A:Option E}{cap:Nat}{ps:List (List UInt8)}{k:Nat}{v:Value}(h:Ri W r A cap ps k v):atI W r=k:=by
 unfold atI;rw[h.2.1.2.1];rfl
theorem Que(l:List UInt8):0<=QR l/\QR l<=11:=by
 unfold QR;repeat' split
 all_goals omega
section
variable {W0:World} {Z:Nat->Prop} {r:Nat} {A:Option E} {cap:Nat} {ps:List (List UInt8)} {T:Nat->List UInt8} {B:Nat}
theorem Txt.pkk(hT:Txt ps T){W:World}{k:Nat}{v:Value}{out:List FN}(h:RdI W0 Z W r A cap ps k v B out):pk (T k)=ZJ ps k:=hT.tp k h.ri.1
theorem smN(x:Int):smF (RF.neg x):=⟨Nat.zero_le _,by show 1<=2000;omega⟩
theorem smB(o a b:Int):smF (RF.bin o a b):=⟨Nat.zero_le _,by show 2<=2000;omega⟩
theorem Qje(hN:Qop W0 Z r A cap ps T B m)(hT:Txt ps T)(W:World)(k:Nat)(v:Value)(out:List FN)(h:RdI W0 Z W r A cap ps k v B out)(ho:out.length<=k)(hk:12*(ps.length-k)+3<=m+1):
  C prog 217 #[.pointer (some ⟨r,0,none⟩),d g 5] W (On W0 Z r A cap ps T B W v k out (PB RF 1 5 0 [] (T k) out)):=by
 have HS:Hid (RdI W0 Z W r A cap ps k v B out):=h;have HN:Hid (Qop W0 Z r A cap ps T B m):=hN;rw[Qe7 (hT.len k)];obtain⟨h1,h0⟩: ∃h1,Hid (PB RF 3 0 0 [] (T k) out=h1):=⟨_,rfl⟩;rw[h0.out];clear h hN;go_enter func217,ntmps217
 go_wp2_with fail
 refine(HN.out W k v out HS.out ho (by omega)).mono ?_;intro e w1 hp;rw[h0.out]at hp;have HP:Hid (On W0 Z r A cap ps T B W v k out h1 e w1):=hp;rcases hp with⟨x,k1,v1,out1,e1,rfl,e2⟩ | ⟨e1,rfl,e2⟩
 ·clear e1 e2;go_wp2_with fail
  go_ret;exact HP.out
 ·clear e1 e2;go_wp2_with fail
  exact⟨rfl,HP.out⟩
theorem Qqz(hm:m<=20000)(hN:Qop W0 Z r A cap ps T B m)(hS:Qs7 W0 Z r A cap ps T B m)(hT:Txt ps T):Qop W0 Z r A cap ps T B (m+1):=by
 intro W k v out h ho hk;have HS:Hid (SI W0 Z W v r A cap ps B W k v out):=SI.start h;have HN:Hid (Qop W0 Z r A cap ps T B m):=hN;have H3:Hid (Qs7 W0 Z r A cap ps T B m):=hS;have HT:Hid (Txt ps T):=hT;have H6:Hid (ps.length<=1000):=hT.few;have H7:Hid (k<=ps.length):=h.ri.1
 have h4:Hid (PB RF 3 0 0 [] (T k) out=if pk (T k)= [45]then Yg (PB RF 3 0 0 [] (nx (T k)) out) (fun k l1 o1=>some ((o1.length:Int),sb l1,o1++ [RF.neg k]))else PB RF 4 0 0 [] (T k) out):=PB3 (hT.len k);obtain⟨h0,h5⟩: ∃h0,Hid (PB RF 3 0 0 [] (T k) out=h0):=⟨_,rfl⟩;rw[h5.out]at h4 ⊢;obtain⟨l,HL⟩: ∃l,Hid (ZJ ps k=l):=⟨_,rfl⟩;rw[hT.pkk h,HL.out]at h4;obtain⟨s,HX⟩: ∃s,Hid (bs l=s):=⟨_,rfl⟩;clear h hN hS
 go_enter func242,ntmps242;go_wp2_with fail
 refine(Kp (m:=0) HS.out (by omega)).mono ?_;rintro _ w1 ⟨rfl,hs1⟩;have h1:Hid (SI W0 Z W v r A cap ps B w1 k v out):=hs1;clear hs1 HS;rw[Nat.add_zero,HL.out,HX.out];by_cases hq:l= [45]
 ·have hb:(s.toList== [45])=true:=MP (by rw[<-HX.out,hq];rfl);have HP:Hid (h0=Yg (PB RF 3 0 0 [] (nx (T k)) out) (fun k l1 o1=>some ((o1.length:Int),sb l1,o1++ [RF.neg k]))):=by show _=_;rw[h4.out,pS hq]
  have h6:Hid (ZJ ps k≠ []):=by show _≠_;rw[HL.out,hq];simp
  have H0:Hid (nx (T k)=T (k+1)):=HT.out.tn k (ZF h6.out);clear hq;go_wp2_with fail
  refine(UF h1.out).mono ?_;rintro e w2 (⟨hn,rfl,hfr⟩ | ⟨hn,rfl,hs2⟩)
  ·exact absurd hn h6.out
  have h3:Hid (SI W0 Z W v r A cap ps B w2 (k+1) v out):=hs2;clear hs2 hn h1;go_wp2_with fail
  refine(HN.out w2 (k+1) v out h3.out.st (by omega) (by have a1:=ZF h6.out;omega)).mono ?_;rintro e w3 (⟨x,k3,v3,out3,e3,rfl,hs3,hk3,hl3⟩ | ⟨e3,rfl,hf3⟩)
  ·have h2:Hid (SI W0 Z W v r A cap ps B w3 k3 v3 out3):=h3.out.on hs3
   have HR:Hid (h0=some ((out3.length:Int),sb (T k3),out3++ [RF.neg x])):=by
    show _=_;rw[HP.out,H0.out,e3];show some ((out3.length:Int),sb (sb (T k3)),out3++ [RF.neg x])=_;rw[Zj]
   have H1:Hid (k<=k3/\out3.length+1+k<=out.length+k3):=⟨by omega,by omega⟩;have H5:Hid (out3.length<=30000):=by show _<=_;have a1:=hs3.st.ri.1;have a2:=H6.out;omega
   have H2:B<=w3.heap.size:=hs3.st.bw;clear e3 hs3 hk3 hl3;go_wp2_with fail
   refine(GU (RF.neg x) (some ⟨w3.heap.size,0,none⟩) 1 (h2.out.new (by go_grown) (Nat.le_refl _) (by simp)) (OE w3 B x H2) (fun b9 h9 hz9=>by have h8:=h2.out.st.zl b9 hz9;cases h9;exact absurd h8 (Nat.lt_irrefl _)) (smN x) H5.out).mono ?_;rintro e w4 ⟨rfl,v4,hs4⟩;have H4:Hid (SI W0 Z W v r A cap ps B w4 k3 v4 (out3++ [RF.neg x])):=hs4;clear hs4;go_wp2_with fail
   go_ret;exact i ⟨_,k3,v4,_,HR.out,rfl,H4.out,H1.out.1,by rw[List.length_append];exact H1.out.2⟩
  ·have HR:Hid (h0=none):=by show _=_;rw[HP.out,H0.out,e3];rfl
   have h7:Hid (Fr r v W w3):=h3.out.fr.trans h3.out.nb hf3;clear e3 hf3;go_wp2_with fail
   exact⟨rfl,j ⟨HR.out,rfl,h7.out⟩⟩
 ·have hb:(s.toList== [45])=false:=Yw (by rw[<-HX.out];intro e;exact hq (by have:=congrArg (fun z:ByteArray=>z.data.toList) e;exact this));have HP:Hid (h0=PB RF 4 0 0 [] (T k) out):=by show _=_;rw[h4.out,nG hq]
  clear hq;go_wp2_with fail
  refine(H3.out w1 k v out h1.out.st ho (by omega)).mono ?_;rintro e w3 (⟨x,k3,v3,out3,e3,rfl,hs3,hk3,hl3⟩ | ⟨e3,rfl,hf3⟩)
  ·have h2:Hid (SI W0 Z W v r A cap ps B w3 k3 v3 out3):=h1.out.on hs3;have HR:Hid (h0=some (x,sb (T k3),out3)/\k<=k3/\out3.length+k<=out.length+k3):=⟨by rw[HP.out,e3],hk3,hl3⟩;clear e3 hs3 hk3 hl3;go_wp2_with fail
   go_ret;exact i ⟨_,k3,v3,_,HR.out.1,rfl,h2.out,HR.out.2.1,HR.out.2.2⟩
  ·have HR:Hid (h0=none):=by show _=_;rw[HP.out,e3]
   have h7:Hid (Fr r v W w3):=h1.out.fr.trans h1.out.nb hf3;clear e3 hf3;go_wp2_with fail
   exact⟨rfl,j ⟨HR.out,rfl,h7.out⟩⟩
def Qoz(W0:World)(Z:Nat->Prop)(r:Nat)(A:Option E)(cap:Nat)(ps:List (List UInt8))(T:Nat->List UInt8)(B:Nat)(W:World)(v:Value)(k:Nat)(out:List FN)(lv:Int)(res:Option (Int × List UInt8 × List FN))(x:Int)(wr:World)(k1:Nat)(v1:Value)(out1:List FN):Prop:=
 SI W0 Z W v r A cap ps B wr k1 v1 out1/\k<=k1/\out1.length+k<=out.length+k1/\res=PB RF 2 lv x [] (T k1) out1
theorem Qmh(hm:m<=20000)(hF: ∀m',m'<=m->Oq W0 Z r A cap ps T B m')(hT:Txt ps T)(W:World)(k:Nat)(v:Value)(out:List FN)(lv:Int)(h:RdI W0 Z W r A cap ps k v B out)(ho:out.length<=k)(h1:1<=lv)(h4:lv<=4)(hk:12*(ps.length-k)+(8-lv).toNat<=m+1):
  C prog 217 #[.pointer (some ⟨r,0,none⟩),d g lv] W (On W0 Z r A cap ps T B W v k out (PB RF 1 lv 0 [] (T k) out)):=by
 have HS:Hid (SI W0 Z W v r A cap ps B W k v out):=SI.start h;have HF:Hid (∀m',m'<=m->Oq W0 Z r A cap ps T B m'):=hF;have HT:Hid (Txt ps T):=hT;have G1:Hid (ps.length<=1000):=hT.few;have G5:Hid (k<=ps.length):=h.ri.1;have G4:Hid (1<=lv/\lv<=4):=⟨h1,h4⟩;have HE:Hid (PB RF 1 lv 0 [] (T k) out=Yg (PB RF 1 (lv+1) 0 [] (T k) out) (fun x l1 o1=>PB RF 2 lv x [] l1 o1)):=PB1 h1 h4 (hT.len k)
 obtain⟨h3,H4⟩: ∃h3,Hid (PB RF 1 lv 0 [] (T k) out=h3):=⟨_,rfl⟩;rw[H4.out]at HE ⊢;have h5: ¬4<lv:=by omega
 have hw:IntKind.i64.wrap (lv+1)=lv+1:=by rw[F];omega
 clear h hF hT;go_enter func217,ntmps217;go_wp2_with fail
 refine(HF.out m (Nat.le_refl _) W k v out (lv+1) HS.out.st ho (by omega) (by omega) (by omega)).mono ?_;rintro e w1 (⟨x,k1,v1,h2,e1,rfl,hs1,hk1,hl1⟩ | ⟨e1,rfl,hf1⟩);rotate_left
 ·have HR:Hid (h3=none):=by show _=_;rw[HE.out,e1];rfl
  have G3:Hid (Fr r v W w1):=hf1;clear e1 hf1;go_wp2_with fail
  exact⟨rfl,j ⟨HR.out,rfl,G3.out⟩⟩
 have HI:Hid (Qoz W0 Z r A cap ps T B W v k out lv h3 x w1 k1 v1 h2):=⟨hs1,hk1,hl1,by rw[HE.out,e1];exact JJ (Zj _)⟩;clear e1 hs1 hk1 hl1;go_wp2_with fail
 go_loopw [5] (fun a wr=> ∃x k1 v1 h2,a= d g x/\Qoz W0 Z r A cap ps T B W v k out lv h3 x wr k1 v1 h2) (fun _ wr=>ps.length-atI wr r)
 case atStart=>exact⟨x,k1,v1,h2,rfl,HI.out⟩
 case round=>
  clear HI;obtain⟨x,k1,v1,h2,rfl,hi⟩:=hrel;have HI:Hid (Qoz W0 Z r A cap ps T B W v k out lv h3 x wr k1 v1 h2):=hi;have g1:Hid (SI W0 Z W v r A cap ps B wr k1 v1 h2):=hi.1;have g9:Hid (atI wr r=k1):=Qbk hi.1.st.ri;have G6:Hid (k1<=ps.length):=hi.1.st.ri.1;obtain⟨l,HL⟩: ∃l,Hid (ZJ ps k1=l):=⟨_,rfl⟩
  have g7:Hid (pk (T k1)=l):=by show _=_;rw[HT.out.pkk hi.1.st,HL.out]
  have h6:Hid (h3=if QR l=0\/lvl (QR l)≠lv then some (x,sb (T k1),h2)else Yg (PB RF 1 (lv+1) 0 [] (nx (T k1)) h2) (fun b l1 o1=>PB RF 2 lv (o1.length:Int) [] l1 (o1++ [RF.bin (QR l) x b]))):=by
   show _=_;rw[<-g7.out,hi.2.2.2];exact PB2 h1 h4 (HT.out.len k1)
  obtain⟨s,HX⟩: ∃s,Hid (bs l=s):=⟨_,rfl⟩;have g6:Hid (s.data.toList=l):=by show _=_;rw[<-HX.out];rfl
  clear hi;go_wp2_with fail
  refine(Kp (m:=0) g1.out (by omega)).mono ?_;rintro _ w2 ⟨rfl,hs2⟩;have g0:Hid (SI W0 Z W v r A cap ps B w2 k1 v1 h2):=hs2;have H8:Hid (GI w2):=hs2.st.gir;clear hs2;rw[Nat.add_zero,HL.out,HX.out];go_wp2_with fail
  refine(Gq s w2 H8.out.gt.ot).mono ?_;rintro _ w3 ⟨rfl,hb3⟩;have H3:Hid (SI W0 Z W v r A cap ps B w3 k1 v1 h2):=g0.out.bel hb3;have g3:=hd (H8.out.below hb3);clear hb3 g1 g0 H8;rw[g6.out];have g4:=Que l
  obtain⟨mo,H6⟩: ∃mo:Nat,Hid (QR l=(mo:Int)):=⟨(QR l).toNat,by show _=_;omega⟩;rw[H6.out]at h6 g4 ⊢;by_cases h0:mo=0
  ·subst h0;have HP:Hid (h3=some (x,sb (T k1),h2)):=by show _=_;rw[h6.out];exact pS (i rfl)
   go_wp2_with fail
   go_ret;exact i ⟨x,k1,v1,h2,HP.out,rfl,H3.out,HI.out.2.1,HI.out.2.2.1⟩
  ·have H1:mo<=11:=by omega
   obtain⟨_,t1⟩:=g3.out.gt.ot mo H1;have hgl:=g3.out.gt.ot.lt;rw[show bnO mo=lvl (mo:Int) by unfold bnO;rw[nG h0]]at t1;obtain⟨L,G0⟩: ∃L,Hid (lvl (mo:Int)=L):=⟨_,rfl⟩;rw[G0.out]at t1 h6;have q0: ¬(mo:Int)=0:=by omega
   have q0':((mo:Int)==0)=false:=by simpa using q0
   have q1:(0:Int)<=(mo:Int):=by omega
   have q2:(mo:Int)<12:=by omega
   by_cases h7:L=lv
   ·have HP:Hid (h3=Yg (PB RF 1 (lv+1) 0 [] (nx (T k1)) h2) (fun b l1 o1=>PB RF 2 lv (o1.length:Int) [] l1 (o1++ [RF.bin (mo:Int) x b]))):=by show _=_;rw[h6.out,nG (fun e=>by rcases e with e | e;exact q0 e;exact e h7)]
    have H5:Hid (ZJ ps k1≠ []):=by
     show _≠_;rw[HL.out];intro e;rw[e]at H6;have:=H6.out;rw[show QR []=0 from rfl]at this;omega
    have g2:Hid (nx (T k1)=T (k1+1)):=HT.out.tn k1 (ZF H5.out);subst h7;clear h0;go_wp2_with fail
    refine(UF H3.out).mono ?_;rintro e w4 (⟨hn,rfl,hfr⟩ | ⟨hn,rfl,hs4⟩)
    ·exact absurd hn H5.out
    have H0:Hid (SI W0 Z W v r A cap ps B w4 (k1+1) v1 h2):=hs4;clear hs4 hn t1;go_wp2_with fail
    refine(HF.out (m-1) (Nat.sub_le _ _) w4 (k1+1) v1 h2 (L+1) H0.out.st (by have:=HI.out.2.2.1;have:=HI.out.2.1;omega) (by omega) (by omega) (by have a1:=ZF H5.out;have a2:=HI.out.2.1;omega)).mono ?_;rintro e w5 (⟨b,k5,v5,out5,e5,rfl,hs5,hk5,hl5⟩ | ⟨e5,rfl,hf5⟩);rotate_left
    ·have HR:Hid (h3=none):=by show _=_;rw[HP.out,g2.out,e5];rfl
     have G2:Hid (Fr r v W w5):=H0.out.fr.trans H0.out.nb hf5;clear e5 hf5;go_wp2_with fail
     exact⟨rfl,j ⟨HR.out,rfl,G2.out⟩⟩
    have H9:Hid (SI W0 Z W v r A cap ps B w5 k5 v5 out5):=H0.out.on hs5
    have HR:Hid (h3=PB RF 2 L (out5.length:Int) [] (T k5) (out5++ [RF.bin (mo:Int) x b])):=by
     show _=_;rw[HP.out,g2.out,e5];exact JJ (Zj _)
    have H7:Hid (k1<k5/\out5.length+1+k1<=h2.length+k5):=⟨by omega,by omega⟩;have g8:Hid (out5.length<=30000):=by show _<=_;have a1:=hs5.st.ri.1;have a2:=G1.out;have a3:=HI.out.2.1;have a4:=HI.out.2.2.1;omega
    have g5:B<=w5.heap.size:=hs5.st.bw;clear e5 hs5 hk5 hl5;go_wp2_with fail
    refine(GU (RF.bin (mo:Int) x b) (some ⟨w5.heap.size,0,none⟩) 2 (H9.out.new (by go_grown) (Nat.le_refl _) (by simp)) (Qgi w5 B x b g5) (fun b9 h9 hz9=>by have h8:=H9.out.st.zl b9 hz9;cases h9;exact absurd h8 (Nat.lt_irrefl _)) (smB _ x b) g8.out).mono ?_;rintro e w6 ⟨rfl,v6,hs6⟩;have H2:Hid (SI W0 Z W v r A cap ps B w6 k5 v6 (out5++ [RF.bin (mo:Int) x b])):=hs6;clear hs6;go_wp2_with fail
    refine⟨⟨_,k5,v6,_,rfl,H2.out,?_,?_,HR.out⟩,?_⟩
    ·have a1:=H7.out.1;have a2:=HI.out.2.1;omega
    ·rw[List.length_append];have a1:=H7.out.2;have a2:=HI.out.2.2.1;simp only[List.length_cons,List.length_nil];omega
    ·rw[Qbk H2.out.st.ri,g9.out];have a1:=H7.out.1;have a2:=H2.out.st.ri.1;omega
   ·have HP:Hid (h3=some (x,sb (T k1),h2)):=by show _=_;rw[h6.out,pS (j h7)]
    have hLv':(L==lv)=false:=by simpa using h7
    clear h0;go_wp2_with fail
    go_ret;exact i ⟨x,k1,v1,h2,HP.out,rfl,H3.out,HI.out.2.1,HI.out.2.2.1⟩
end
theorem Qrl{l u:List UInt8}{c:UInt8}{s:ByteArray}(hx:bs l=s)(hl:l=c::u)(h:0<s.size):s[0]=c:=by
 subst hx hl;rfl
theorem Qma(l:List UInt8)(w:World)(hl:l.length<=1048576)(hv:Vars w):C prog 296 #[G (bs l)] w fun e w'=>e= D (plA l)/\Below w.heap.size w w':=
 (Nn (bs l) w (by rw[QD];exact hl) hv).mono fun e w'=>by
  rintro⟨rfl,hb⟩;refine⟨?_,hb⟩;unfold plA;rw[Qqm]
theorem Ql9(l:List UInt8)(s:ByteArray)(hbs:bs l=s)(w:World)(hl:l.length<=1048576)(hv:Vars w):C prog 149 #[G s] w fun e w'=>e= D (rvS (bs l))/\Below w.heap.size w w':=by
 subst hbs
 exact(Ki (bs l) w (by rw[QD];omega) hv).mono fun e w'=>by
  rintro⟨rfl,hb⟩;exact⟨by rw[Ny],hb⟩
def Qvt(o:Option (Int × Int × Bool × Bool))(w:World)(e:Ending)(w':World):Prop:=
 ((∃p,o=some p/\e= D (I #[d g p.1,d g p.2.1,H p.2.2.1,H p.2.2.2]))\/(o=none/\e= .panicked noF))/\Below w.heap.size w w'
theorem Vh(l:List UInt8)(s:ByteArray)(hbs:bs l=s)(w:World)(hl:l.length<=1048576)(hv:Vars w):C prog 285 #[G s] w (Qvt (rpL l) w):=by
 have HV:Hid (Vars w):=hv;have HB:Hid (bs l=s):=hbs;obtain⟨o,HO⟩: ∃o,Hid (rpL l=o):=⟨_,rfl⟩;rw[HO.out];clear hv hbs;go_enter func285,ntmps285;go_wp2_with fail
 rw[<-HB.out];refine(Qma l _ hl (HV.out.below (by go_grown))).mono ?_;rintro _ w1 ⟨rfl,hb⟩;have h0:Hid (Below w.heap.size w w1):=Qb (by go_grown) hb;obtain⟨hc,hf,hC,hF,hz,hk,l0⟩:=bk1 (w:=w) hb;clear hb;cases o with
 | none=>
  rw[Qd7 HO.out];go_wp2_with fail
  refine(ZN _).mono ?_;rintro _ w2 ⟨rfl,hw2⟩;obtain rfl:=hw2.symm;clear hw2;go_wp2_with fail
  exact⟨rfl,j ⟨rfl,rfl⟩,Qb h0.out (by go_grown)⟩
 | some p=>
  rw[Qa4 HO.out];obtain⟨p1,p2,p3,p4⟩:=p;simp only;go_wp2_with fail
  refine bodyPost_ret (v:= I #[d g p1,d g p2,H p3,H p4]) ?_ rfl ⟨i ⟨_,rfl,rfl⟩,by go_grown⟩;simp (maxDischargeDepth:=9) [results,results285,go_sem, *]
theorem Qr6(s:ByteArray)(h:s.size<=1000):s.size+Lib.countB s (⟨#[34,34]⟩:ByteArray)*(⟨#[34]⟩:ByteArray).size<=140737488355328:=by
 have h1:Lib.countB s (⟨#[34,34]⟩:ByteArray)<=s.size+1:=Lib.count_le _ _;rw[show(⟨#[34]⟩:ByteArray).size=1 from rfl];omega
theorem DD(q:List UInt8)(s:ByteArray)(hbs:bs (34::(qt q++ [34]))=s)(w:World)(hs:s.size<=1000)(hm:MX w):C prog 281 #[G s] w fun e w'=>e= D (G (bs q))/\Below w.heap.size w w':=by
 obtain⟨mx,hm⟩:=hm;have HM:Hid (w.cell? ⟨5,0,none⟩=some (d g mx)):=hm;have h2:s.size=(qt q).length+2:=by rw[<-hbs,QD];simp
 obtain⟨n,hn⟩: ∃n:Nat,s.size=n+1:=⟨(qt q).length+1,by omega⟩;have hw:IntKind.i64.wrap ((s.size:Int)-1)=(n:Int):=by rw[F];omega
 have q1:(1:Int)<=(n:Int):=by omega
 have q2:(n:Int)<=(s.size:Int):=by omega
 obtain⟨t,HT⟩: ∃t,Hid (s.extract 1 n=t):=⟨_,rfl⟩
 have h1:Hid (t=bs (qt q)):=by
  show _=_;rw[<-HT.out,Jj s 1 n (by omega),<-hbs];show bs (List.take (n-1) (List.drop 1 (34::(qt q++ [34]))))=_;rw[show n-1=(qt q).length by omega];show bs (List.take (qt q).length (qt q++ [34]))=_;rw[List.take_left]
 have h0:Hid (t.size<=1000):=by show _<=_;rw[h1.out,QD];omega
 have HR:Hid ((⟨(Lib.replaceAll t.data.toList (⟨#[34,34]⟩:ByteArray).data.toList (⟨#[34]⟩:ByteArray).data.toList).toArray⟩:ByteArray)=bs q):=by
  show _=_;rw[h1.out];show bs (Lib.replaceAll (qt q) [34,34] [34])=_;rw[Qo6]
 have ht:=HT.out;clear hm hbs h2 hn;go_enter func281,ntmps281;go_wp2_with fail
 refine(Tryz.strings_ReplaceAll t ⟨#[34,34]⟩ ⟨#[34]⟩ mx _ (by have:=h0.out;omega) HM.out (by decide) (Qr6 t h0.out)).mono ?_;rintro e w1 ⟨rfl,hb⟩;rw[HR.out];have HB:Hid (Below w.heap.size w w1):=hb;clear hb;go_wp2_with fail
 go_ret;exact⟨rfl,HB.out⟩
theorem smC(k n:Int)(s:List UInt8)(h:s.length<=2000):smF (RF.cst k n s):=⟨by show(bs s).size<=2000;rw[QD];exact h,by show 0<=2000;omega⟩
theorem smP(p:Int × Int × Bool × Bool):smF (RF.cel p):=⟨Nat.zero_le _,by show 0<=2000;omega⟩
theorem smA(p q:Int × Int × Bool × Bool):smF (RF.are p q):=⟨Nat.zero_le _,by show 0<=2000;omega⟩
theorem Qjw{l:List UInt8}{out:List FN}{x:Option (Int × Int × List UInt8)}{y:Option (Int × Int × Bool × Bool)}(h0:pk l≠ [])(h1:pk l≠ [40])(h2:(pk l).head?≠some 34)(hf:Xc (pk l)=0)(hx:rvL (pk l)=x)(hy:rpL (pk l)=y):
  PB RF 4 0 0 [] l out=Qnp x y (nx l) out:=by
 rw[Uy h0 h1 h2 hf,Qs9,Qbl,hx,hy];cases x<;>cases y<;>rfl
theorem Qwf(q:List UInt8):q.length<=(qt q).length:=by
 induction q with
 | nil=>exact Nat.le_refl _
 | cons b t ih=>
  rw[Xk,List.length_append];split<;>simp<;>omega
section
variable {W0:World} {Z:Nat->Prop} {r:Nat} {A:Option E} {cap:Nat} {ps:List (List UInt8)} {T:Nat->List UInt8} {B:Nat}
theorem Qph(hm:m<=20000)(hF:Oq W0 Z r A cap ps T B m)(hC:Qtd W0 Z r A cap ps T B m)(hT:Txt ps T):Qs7 W0 Z r A cap ps T B (m+1):=by
 intro W k v out h ho hk;have HS:Hid (SI W0 Z W v r A cap ps B W k v out):=SI.start h;have HF:Hid (Oq W0 Z r A cap ps T B m):=hF;have HC:Hid (Qtd W0 Z r A cap ps T B m):=hC;have HT:Hid (Txt ps T):=hT;have x5:Hid (ps.length<=1000):=hT.few;have x4:Hid (k<=ps.length):=h.ri.1
 have HO:Hid (out.length<=30000):=by show _<=_;have:=hT.few;have:=h.ri.1;omega
 have g2:Hid ((T k).length<=1000):=hT.len k;obtain⟨h1,h2⟩: ∃h1,Hid (PB RF 4 0 0 [] (T k) out=h1):=⟨_,rfl⟩;rw[h2.out];obtain⟨l,HL⟩: ∃l,Hid (ZJ ps k=l):=⟨_,rfl⟩;have h0:Hid (pk (T k)=l):=by show _=_;rw[hT.pkk h,HL.out]
 obtain⟨s,HX⟩: ∃s,Hid (bs l=s):=⟨_,rfl⟩
 have H4:Hid (l.length<=1000):=by
  show _<=_;by_cases e:l= []
  ·rw[e];exact Nat.zero_le _
  ·have h9:=Ue (l:=T k) (by rw[h0.out];exact e);have h8:=congrArg List.length h9;rw[h0.out,List.length_append]at h8;have h7:=Xr (T k);have h6:=g2.out;omega
 clear h hF hC hT;go_enter func265,ntmps265;go_wp2_with fail
 refine(UF HS.out).mono ?_;rintro e w1 (⟨hn,rfl,hfr⟩ | ⟨hn,rfl,hs1⟩)
 ·have HR:Hid (h1=none):=by show _=_;rw[<-h2.out];exact Qaz (by rw[h0.out,<-HL.out];exact hn)
  have x2:Hid (Fr r v W w1):=hfr;clear hn hfr;go_wp2_with fail
  exact⟨rfl,j ⟨HR.out,rfl,x2.out⟩⟩
 have H2:Hid (SI W0 Z W v r A cap ps B w1 (k+1) v out):=hs1;have x3:Hid (ZJ ps k≠ []):=hn;have H9:Hid (nx (T k)=T (k+1)):=HT.out.tn k (ZF hn);have g3:Hid (l≠ []):=by show _≠_;rw[<-HL.out];exact hn
 have g0:Hid (GI w1):=hs1.st.gir;have G0:Hid (k<ps.length):=ZF hn;clear hn hs1 HS;rw[HL.out,HX.out];by_cases H0:l= [40]
 ·have hb:(s.toList== [40])=true:=MP (by rw[<-HX.out,H0];rfl)
  have HP:Hid (h1=Yg (PB RF 1 1 0 [] (T (k+1)) out) (fun x l1 o1=>if pk l1= [41]then some (x,sb (nx l1),o1)else none)):=by
   show _=_;rw[<-h2.out,Qay (by rw[h0.out];exact H0) g2.out,H9.out]
  clear H0;go_wp2_with fail
  refine(HF.out w1 (k+1) v out 1 H2.out.st (by omega) (by omega) (by omega) (by have:=G0.out;omega)).mono ?_;rintro e w2 (⟨x,k2,v2,out2,e2,rfl,hs2,hk2,hl2⟩ | ⟨e2,rfl,hf2⟩);rotate_left
  ·have HR:Hid (h1=none):=by show _=_;rw[HP.out,e2];rfl
   have x1:Hid (Fr r v W w2):=H2.out.fr.trans H2.out.nb hf2;clear e2 hf2;go_wp2_with fail
   exact⟨rfl,j ⟨HR.out,rfl,x1.out⟩⟩
  have h4:Hid (SI W0 Z W v r A cap ps B w2 k2 v2 out2):=H2.out.on hs2
  have g9:Hid (h1=if ZJ ps k2= [41]then some (x,sb (T (k2+1)),out2)else none):=by
   show _=_;rw[HP.out,e2];show(if pk (sb (T k2))= [41]then some (x,sb (nx (sb (T k2))),out2)else none)=_;rw[Jd,HT.out.pkk hs2.st];by_cases h9:ZJ ps k2= [41]
   ·have h8:pk (T k2)≠ []:=by rw[HT.out.pkk hs2.st,h9];simp
    rw[pS h9,pS h9,<-VL (l:=T k2) (Zj _).symm h8,HT.out.tn k2 (ZF (by rw[h9];simp))]
   ·rw[nG h9,nG h9]
  have G1:Hid (k+1<=k2/\out2.length+(k+1)<=out.length+k2):=⟨hk2,hl2⟩;clear e2 hs2 hk2 hl2;go_wp2_with fail
  refine(Ma 41 h4.out).mono ?_;rintro e w3 (⟨h9,⟨y,rfl⟩,hs3⟩ | ⟨h9,rfl,hf3⟩)
  ·have HR:Hid (h1=some (x,sb (T (k2+1)),out2)):=by show _=_;rw[g9.out,pS h9]
   have h3:Hid (SI W0 Z W v r A cap ps B w3 (k2+1) v2 out2):=hs3;clear h9 hs3;go_wp2_with fail
   go_ret;exact i ⟨x,k2+1,v2,out2,HR.out,rfl,h3.out,by have:=G1.out.1;omega,by have:=G1.out.2;omega⟩
  ·have HR:Hid (h1=none):=by show _=_;rw[g9.out,nG h9]
   have g4:Hid (Fr r v W w3):=hf3;clear h9 hf3;go_wp2_with fail
   exact⟨rfl,j ⟨HR.out,rfl,g4.out⟩⟩
 have hb:(s.toList== [40])=false:=Yw (by rw[<-HX.out];intro e;exact H0 (by have:=congrArg (fun z:ByteArray=>z.data.toList) e;exact this))
 obtain⟨c,u,h5⟩: ∃c u,l=c::u:=by
  cases hq:l with
  | nil=>exact absurd hq g3.out
  | cons c u=>exact⟨c,u,rfl⟩
 have G3:0<s.size:=by rw[<-HX.out,QD,h5];simp
 have H6:s[0]=c:=Qrl HX.out h5 G3;have q0:(0:Int)<(s.size:Int):=by omega
 have x6:Hid (l=c::u):=h5;by_cases H1:c=34
 ·have hc:(s[0].toNat:Int)=34:=by rw[H6,H1];rfl
  obtain⟨q,H7,g5⟩:=Qii (l:=T k) (by rw[h0.out,h5,H1];rfl);rw[h0.out]at H7;have HQ:Hid (bs (34::(qt q++ [34]))=s):=by show _=_;rw[<-H7,HX.out]
  have HR:Hid (h1=some ((out.length:Int),sb (T (k+1)),out++ [RF.cst 2 0 q])):=by
   show _=_;rw[<-h2.out,Qax (by rw[h0.out,h5,H1];rfl) g5,H9.out]
  have G8:Hid (q.length<=2000):=by
   show _<=_;have a1:=H4.out;rw[H7]at a1;simp only[List.length_cons,List.length_append,List.length_nil]at a1;have a2:=Qwf q;omega
  have G6:Hid (s.size<=1000):=by show _<=_;rw[<-HX.out,QD];exact H4.out
  obtain⟨tq,g7⟩: ∃t,Hid (bs q=t):=⟨_,rfl⟩;clear H6 H1 H7 g5 H0 h5;go_wp2_with fail
  refine(DD q s HQ.out w1 G6.out g0.out.gt.mx).mono ?_;rintro _ w2 ⟨rfl,hb2⟩;have h4:Hid (SI W0 Z W v r A cap ps B w2 (k+1) v out):=H2.out.bel hb2;clear hb2;rw[g7.out];go_wp2_with fail
  refine(Xo _ _).mono ?_;rintro _ w3 ⟨rfl,hb3⟩;have h3:Hid (SI W0 Z W v r A cap ps B w3 (k+1) v out):=h4.out.bel hb3;clear hb3;rw[<-g7.out];go_wp2_with fail
  refine(GU (RF.cst 2 0 q) none 0 h3.out.nil (YE _ _) (fun _ h=>by cases h) (smC 2 0 q G8.out) HO.out).mono ?_;rintro e w4 ⟨rfl,v4,hs4⟩;have H3:Hid (SI W0 Z W v r A cap ps B w4 (k+1) v4 (out++ [RF.cst 2 0 q])):=hs4;clear hs4;go_wp2_with fail
  go_ret;exact i ⟨_,k+1,v4,_,HR.out,rfl,H3.out,by omega,by rw[List.length_append];simp only[List.length_cons,List.length_nil];omega⟩
 have hc: ¬(s[0].toNat:Int)=34:=by
  rw[H6];intro e;exact H1 (UInt8.toNat_inj.1 (by have:(34:UInt8).toNat=34:=rfl;omega))
 have hc':((s[0].toNat:Int)==34)=false:=by simpa using hc
 have HH:Hid (l≠ [40]/\l.head?≠some 34):=⟨H0,by rw[h5];simpa using H1⟩;have G4:Hid (s.data.toList=l):=by show _=_;rw[<-HX.out];rfl
 clear H6 H1 H0 h5;go_wp2_with fail
 refine(Gr s w1 g0.out.gt.fn g0.out.fl).mono ?_;rintro _ w2 ⟨rfl,hb2⟩;have h4:Hid (SI W0 Z W v r A cap ps B w2 (k+1) v out):=H2.out.bel hb2;have G2:=hd (g0.out.below hb2);clear hb2;rw[G4.out];obtain⟨f,g1⟩: ∃f,Hid (Xc l=f):=⟨_,rfl⟩
 rw[g1.out];by_cases hf:f=0
 ·subst hf;obtain⟨x,H8⟩: ∃x,Hid (rvL l=x):=⟨_,rfl⟩;obtain⟨y,g8⟩: ∃y,Hid (rpL l=y):=⟨_,rfl⟩
  have HR:Hid (h1=Qnp x y (T (k+1)) out):=by
   show _=_;rw[<-h2.out,Qjw (x:=x) (y:=y) (by rw[h0.out];exact g3.out) (by rw[h0.out];exact HH.out.1) (by rw[h0.out];exact HH.out.2) (by rw[h0.out];exact g1.out) (by rw[h0.out];exact H8.out) (by rw[h0.out];exact g8.out),H9.out]
  go_wp2_with fail
  refine(Ql9 l s HX.out w2 (by have:=H4.out;omega) G2.out.vs).mono ?_;rintro _ w3 ⟨rfl,hb3⟩;have h3:Hid (SI W0 Z W v r A cap ps B w3 (k+1) v out):=h4.out.bel hb3;have G9:=hd (G2.out.below hb3);clear hb3;cases x with
  | some vv=>
   obtain⟨vk,vn,vs⟩:=vv;rw[Qfg H8.out]
   have G5:Hid (vs.length<=2000):=by
    show _<=_;have a1:(bs vs).size<=l.length:=Qng H8.out;rw[QD]at a1;have a2:=H4.out;omega
   unfold vlA;obtain⟨tv,g6⟩: ∃t,Hid (bs vs=t):=⟨_,rfl⟩;simp only;rw[g6.out];go_wp2_with fail
   rw[<-g6.out];refine(GU (RF.cst vk vn vs) none 0 (h3.out.bel (by go_grown)).nil (YE _ _) (fun _ h=>by cases h) (smC vk vn vs G5.out) HO.out).mono ?_;rintro e w4 ⟨rfl,v4,hs4⟩;have H3:Hid (SI W0 Z W v r A cap ps B w4 (k+1) v4 (out++ [RF.cst vk vn vs])):=hs4;clear hs4;go_wp2_with fail
   go_ret;exact i ⟨_,k+1,v4,_,HR.out,rfl,H3.out,by omega,by rw[List.length_append];simp only[List.length_cons,List.length_nil];omega⟩
  | none=>
   rw[Qsq H8.out];unfold Mo;go_wp2_with fail
   refine(Vh l s HX.out _ (by have:=H4.out;omega) (G9.out.vs.below (by go_grown))).mono ?_;rw[g8.out];rintro e w4 ⟨(⟨p,rfl,rfl⟩ | ⟨rfl,rfl⟩),hb4⟩
   ·have H3:Hid (SI W0 Z W v r A cap ps B w4 (k+1) v out):=(h3.out.bel (by go_grown)).bel hb4;clear hb4;obtain⟨p1,p2,p3,p4⟩:=p;simp only;go_wp2_with fail
    refine(GU (RF.cel (p1,p2,p3,p4)) none 0 H3.out.nil (YE _ _) (fun _ h=>by cases h) (smP _) HO.out).mono ?_;rintro e w5 ⟨rfl,v5,hs5⟩;have G7:Hid (SI W0 Z W v r A cap ps B w5 (k+1) v5 (out++ [RF.cel (p1,p2,p3,p4)])):=hs5;clear hs5;go_wp2_with fail
    go_ret;exact i ⟨_,k+1,v5,_,HR.out,rfl,G7.out,by omega,by rw[List.length_append];simp only[List.length_cons,List.length_nil];omega⟩
   ·have x0:Hid (Fr r v W w4):=((h3.out.bel (by go_grown)).bel hb4).fr;clear hb4;go_wp2_with fail
    exact⟨rfl,j ⟨HR.out,rfl,x0.out⟩⟩
 ·have q1: ¬f=0:=hf;have q2:(f==0)=false:=by simpa using hf
  have HR:Hid (h1=if pk (T (k+1))= [40]then Yg (PB RF 6 0 0 [] (nx (T (k+1))) out) (fun a l1 o1=>PB RF 5 f 0 [a] l1 o1)else none):=by
   show _=_;rw[<-h2.out,Qbp (by rw[h0.out];exact g3.out) (by rw[h0.out];exact HH.out.1) (by rw[h0.out];exact HH.out.2) (by rw[h0.out,g1.out];exact hf) g2.out,H9.out,h0.out,g1.out]
  clear hf;go_wp2_with fail
  refine(HC.out w2 (k+1) v out f h4.out.st (by omega) (by have:=G0.out;omega)).mono ?_;rw[<-HR.out];rintro e w3 (⟨x,k3,v3,out3,e3,rfl,hs3,hk3,hl3⟩ | ⟨e3,rfl,hf3⟩)
  ·have h3:Hid (SI W0 Z W v r A cap ps B w3 k3 v3 out3):=h4.out.on hs3;have H5:Hid (h1=some (x,sb (T k3),out3)/\k+1<=k3/\out3.length+(k+1)<=out.length+k3):=⟨e3,hk3,hl3⟩;clear e3 hs3 hk3 hl3;go_wp2_with fail
   go_ret;exact i ⟨x,k3,v3,out3,H5.out.1,rfl,h3.out,by have:=H5.out.2.1;omega,by have:=H5.out.2.2;omega⟩
  ·have H5:Hid (h1=none):=e3;have g4:Hid (Fr r v W w3):=h4.out.fr.trans h4.out.nb hf3;clear e3 hf3;go_wp2_with fail
   exact⟨rfl,j ⟨H5.out,rfl,g4.out⟩⟩
end
end Go.Proofs.YtomadadmakdkgaaGreatDoor
