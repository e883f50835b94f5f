import Derived.Test.YtomadadmakdkgaaGreatDoorGav
open Go.Proofs.Tryz
open Go.Value renaming int → c, slice → f, bool → o, string → J, agg → K
open Go.IntKind renaming i64 → d
open Nat renaming lt_of_lt_of_le → i, le_refl → F
open List renaming length_append → t, length_cons → G, length_nil → H
open Go renaming World → u
open Go.Obj renaming cells → C
open Or renaming inr → D
open Go.World renaming block_lt_of_cell? → E
open Go.Ending renaming returned → I
set_option linter.unusedSimpArgs false
set_option linter.unusedVariables false
set_option maxHeartbeats 8000000
set_option maxRecDepth 100000
namespace Go.Proofs.YtomadadmakdkgaaGreatDoor
open Go.RowKit
section
variable {W0:u} {Z:Nat->Prop} {r:Nat} {A:Option Addr} {cap:Nat} {ps:List (List UInt8)} {T:Nat->List UInt8} {B:Nat}
theorem Qm7{m:Nat}(hm:m<=20000)(hF:Oq W0 Z r A cap ps T B m)(hT:Txt ps T):Qj7 W0 Z r A cap ps T B (m+1):=by
 intro W k v out h ho hk;have HS:Hid (SI W0 Z W v r A cap ps B W k v out):=SI.start h;have HF:Hid (Oq W0 Z r A cap ps T B m):=hF;have HT:Hid (Txt ps T):=hT;have x7:Hid (ps.length<=1000):=hT.few;have x6:Hid (k<=ps.length):=h.ri.1;have HO:Hid (out.length<=30000):=by show _<=_;have:=hT.few;have:=h.ri.1;omega
 have G3:Hid ((T k).length<=1000):=hT.len k;obtain⟨h0,H0⟩: ∃h0,Hid (PB RF 6 0 0 [] (T k) out=h0):=⟨_,rfl⟩;rw[H0.out];have g0:Hid (pk (T k)=ZJ ps k):=hT.pkk h;obtain⟨l,HL⟩: ∃l,Hid (ZJ ps (k+1)=l):=⟨_,rfl⟩;obtain⟨s,HX⟩: ∃s,Hid (bs l=s):=⟨_,rfl⟩
 have G6:Hid ((pk (T k)≠ []/\pk (nx (T k))= [58])↔l= [58]):=by
  show _↔_;rw[<-HL.out];constructor
  ·rintro⟨h1,h2⟩;rw[g0.out]at h1;have h3:=ZF h1;rw[hT.tn k h3,hT.tp (k+1) h3]at h2;exact h2
  ·intro h2;have h3:k+1<ps.length:=ZF (by rw[h2];simp);exact⟨by rw[g0.out];exact hT.ne k (by omega),by rw[hT.tn k (by omega),hT.tp (k+1) (by omega)];exact h2⟩
 clear h hF hT;go_enter func295,ntmps295;go_wp2_with fail
 refine(Kp (m:=1) HS.out (by omega)).mono ?_;rintro _ w1 ⟨rfl,hs1⟩;have H4:Hid (SI W0 Z W v r A cap ps B w1 k v out):=hs1;clear hs1 HS;rw[HL.out,HX.out];by_cases h5:l= [58]
 ·have hb:(s.toList== [58])=true:=MP (by rw[<-HX.out,h5];rfl);have g1:=G6.out.2 h5;have H5:Hid (k+1<ps.length):=ZF (by rw[HL.out,h5];simp);have x0:Hid (ZJ ps k≠ []):=by show _≠_;rw[<-g0.out];exact g1.1
  have G2:Hid (nx (T k)=T (k+1)):=HT.out.tn k (by have:=H5.out;omega);have H7:Hid (nx (T (k+1))=T (k+2)):=HT.out.tn (k+1) H5.out;have g4:Hid (pk (T (k+2))=ZJ ps (k+2)):=HT.out.tp (k+2) H5.out;have g5:Hid (ZJ ps (k+1)= [58]):=by show _=_;rw[HL.out];exact h5
  obtain⟨x,G1⟩: ∃x,Hid (rpL (ZJ ps k)=x):=⟨_,rfl⟩;obtain⟨y,g3⟩: ∃y,Hid (rpL (ZJ ps (k+2))=y):=⟨_,rfl⟩
  have HR:Hid (h0=Qxx x y (fun p q=>some ((out.length:Int),sb (nx (T (k+2))),out++ [RF.are p q]))):=by
   show _=_;rw[<-H0.out,Qbo (x:=x) (y:=y) G3.out g1 (by rw[g0.out];exact G1.out) (by rw[G2.out,H7.out,g4.out];exact g3.out),G2.out,H7.out]
  have G4:Hid ((ZJ ps k).length<=1048576/\(ZJ ps (k+2)).length<=1048576):=by
   have key: ∀j,j<=ps.length->(ZJ ps j).length<=1048576:=fun j hj=>by
    rw[<-HT.out.tp j hj];by_cases e:pk (T j)= []
    ·rw[e];exact Nat.zero_le _
    ·have h9:=congrArg List.length (Ue e);rw[t]at h9;have h8:=Xr (T j);have h7:=HT.out.len j;omega
   exact⟨key k (by have:=H5.out;omega),key (k+2) (by have:=H5.out;omega)⟩
  clear h5 g1;go_wp2_with fail
  refine(UF H4.out).mono ?_;rintro e w2 (⟨hn,rfl,hfr⟩ | ⟨hn,rfl,hs2⟩)
  ·exact absurd hn x0.out
  have G0:Hid (SI W0 Z W v r A cap ps B w2 (k+1) v out):=hs2;have x3:Hid (GI w2):=hs2.st.gir;clear hs2 hn H4;obtain⟨s1,g9⟩: ∃s,Hid (bs (ZJ ps k)=s):=⟨_,rfl⟩;rw[g9.out];go_wp2_with fail
  refine(Vh (ZJ ps k) s1 g9.out _ G4.out.1 x3.out.vs).mono ?_;rw[G1.out];rintro e w3 ⟨(⟨p,rfl,rfl⟩ | ⟨rfl,rfl⟩),hb3⟩;rotate_left
  ·have g7:Hid (Fr r v W w3):=(G0.out.bel hb3).fr;have H1:Hid (h0=none):=by show _=_;rw[HR.out];cases y<;>rfl
   clear hb3;go_wp2_with fail
   exact⟨rfl,D ⟨H1.out,rfl,g7.out⟩⟩
  have H9:Hid (SI W0 Z W v r A cap ps B w3 (k+1) v out):=G0.out.bel hb3;have G9:Hid (r<w3.heap.size):=H9.out.st.ri.lt;clear hb3;obtain⟨p1,p2,p3,p4⟩:=p;simp only at HR ⊢;go_wp2_with fail
  have H6:Hid (SI W0 Z W v r A cap ps B (w3.alloc (C #[c d p1,c d p2,o p3,o p4] 126)) (k+1) v out):=H9.out.bel (by go_grown);have d0:(w3.alloc (C #[c d p1,c d p2,o p3,o p4] 126)).cell? ⟨w3.heap.size,0,none⟩=some (c d p1):=by simp
  have d1:(w3.alloc (C #[c d p1,c d p2,o p3,o p4] 126)).cell? ⟨w3.heap.size,1,none⟩=some (c d p2):=by simp
  have d2:(w3.alloc (C #[c d p1,c d p2,o p3,o p4] 126)).cell? ⟨w3.heap.size,2,none⟩=some (o p3):=by simp
  have d3:(w3.alloc (C #[c d p1,c d p2,o p3,o p4] 126)).cell? ⟨w3.heap.size,3,none⟩=some (o p4):=by simp
  have h4:some w3.heap.size≠some r:=fun e=>by have:=G9.out;cases e;omega
  have x1:Hid (w3.heap.size<(w3.alloc (C #[c d p1,c d p2,o p3,o p4] 126)).heap.size):=by show _<_;simp
  refine(Br 58 r A cap ps (k+1) v _ H6.out.st.ri H6.out.st.pcr).mono ?_;rintro e w5 (⟨h9,⟨z,rfl⟩,n5,rfl⟩ | ⟨h9,rfl,h6⟩);rotate_left
  ·exact absurd g5.out h9
  generalize hw5:((w3.alloc (C #[c d p1,c d p2,o p3,o p4] 126)).drewN n5).setCell ⟨r,1,none⟩ (c d (((k+1:Nat):Int)+1))=w5
  have h6:(w3.alloc (C #[c d p1,c d p2,o p3,o p4] 126)).grownBy w5 (some r):=by rw[<-hw5];exact Qs (Qv _ _ n5) (Ze _ _ _ _)
  have H3:Hid (SI W0 Z W v r A cap ps B w5 (k+2) v out):=H6.out.gb (by rw[<-hw5];exact(H6.out.draws n5).st.ri.at1 (k+2) H5.out _ (by omega)) h6;have d0:=h6.cell d0 h4;have d1:=h6.cell d1 h4;have d2:=h6.cell d2 h4;have d3:=h6.cell d3 h4;clear h6 hw5 h9 x1 H6;go_wp2_with fail
  refine(EW r A cap ps (k+2) v _ H3.out.st.ri H3.out.st.pcr).mono ?_;rintro e w6 (⟨hn,rfl,n6,rfl⟩ | ⟨hn,rfl,n6,rfl⟩)
  ·have x5:Hid (Fr r v W (w5.drewN n6)):=(H3.out.draws n6).fr
   have H1:Hid (h0=none):=by
    show _=_;have h9:y=none:=by rw[<-g3.out,hn];exact VI
    rw[HR.out,h9];rfl
   clear hn d0 d1 d2 d3;go_wp2_with fail
   exact⟨rfl,D ⟨H1.out,rfl,x5.out⟩⟩
  have G5:Hid (k+2<ps.length):=ZF hn;generalize hw6:(w5.drewN n6).setCell ⟨r,1,none⟩ (c d (((k+2:Nat):Int)+1))=w6
  have H2:w5.grownBy w6 (some r):=by rw[<-hw6];exact Qs (Qv _ _ n6) (Ze _ _ _ _)
  have g2:Hid (SI W0 Z W v r A cap ps B w6 (k+3) v out):=H3.out.gb (by rw[<-hw6];exact(H3.out.draws n6).st.ri.at1 (k+3) G5.out _ (by omega)) H2;have x2:Hid (GI w6):=g2.out.st.gir;have d0:=H2.cell d0 h4;have d1:=H2.cell d1 h4;have d2:=H2.cell d2 h4;have d3:=H2.cell d3 h4;have g6:Hid (nx (T (k+2))=T (k+3)):=HT.out.tn (k+2) G5.out
  clear H2 hw6 hn H3;obtain⟨s2,g8⟩: ∃s,Hid (bs (ZJ ps (k+2))=s):=⟨_,rfl⟩;rw[g8.out];go_wp2_with fail
  refine(Vh (ZJ ps (k+2)) s2 g8.out _ G4.out.2 x2.out.vs).mono ?_;rw[g3.out];rintro e w7 ⟨(⟨q,rfl,rfl⟩ | ⟨rfl,rfl⟩),hb7⟩;rotate_left
  ·have x4:Hid (Fr r v W w7):=(g2.out.bel hb7).fr;have H1:Hid (h0=none):=by show _=_;rw[HR.out];rfl
   clear hb7 d0 d1 d2 d3;go_wp2_with fail
   exact⟨rfl,D ⟨H1.out,rfl,x4.out⟩⟩
  have G8:Hid (SI W0 Z W v r A cap ps B w7 (k+3) v out):=g2.out.bel hb7;have l7:w3.heap.size<w6.heap.size:=E w6 ⟨w3.heap.size,0,none⟩ d0;have d0:=(hb7.cell (p:=⟨w3.heap.size,0,none⟩) l7).trans d0;have d1:=(hb7.cell (p:=⟨w3.heap.size,1,none⟩) l7).trans d1;have d2:=(hb7.cell (p:=⟨w3.heap.size,2,none⟩) l7).trans d2;have d3:=(hb7.cell (p:=⟨w3.heap.size,3,none⟩) l7).trans d3;have l8:w3.heap.size<w7.heap.size:=E w7 ⟨w3.heap.size,0,none⟩ d0
  obtain⟨q1,q2,q3,q4⟩:=q;have H1:Hid (h0=some ((out.length:Int),sb (T (k+3)),out++ [RF.are (p1,p2,p3,p4) (q1,q2,q3,q4)])):=by show _=_;rw[HR.out,g6.out];rfl
  clear hb7 l7;simp only;go_wp2_with fail
  refine(GU (RF.are (p1,p2,p3,p4) (q1,q2,q3,q4)) none 0 (G8.out.bel (by go_grown)).nil (YE _ _) (fun _ h=>by cases h) (smA _ _) HO.out).mono ?_;rintro e w8 ⟨rfl,v8,hs8⟩;have G7:Hid (SI W0 Z W v r A cap ps B w8 (k+3) v8 (out++ [RF.are (p1,p2,p3,p4) (q1,q2,q3,q4)])):=hs8;clear hs8 d0 d1 d2 d3;go_wp2_with fail
  go_ret;exact Or.inl ⟨_,k+3,v8,_,H1.out,rfl,G7.out,by omega,by rw[t];simp only[G,H];omega⟩
 ·have hb:(s.toList== [58])=false:=Yw (by rw[<-HX.out];intro e;exact h5 (by have:=congrArg (fun z:ByteArray=>z.data.toList) e;exact this));have HR:Hid (h0=PB RF 1 1 0 [] (T k) out):=by show _=_;rw[<-H0.out,PB6 G3.out,nG (fun e=>h5 (G6.out.1 e))]
  clear h5;go_wp2_with fail
  refine(HF.out w1 k v out 1 H4.out.st ho (by omega) (by omega) (by omega)).mono ?_;rw[<-HR.out];rintro e w3 (⟨x,k3,v3,out3,e3,rfl,hs3,hk3,hl3⟩ | ⟨e3,rfl,hf3⟩)
  ·have H9:Hid (SI W0 Z W v r A cap ps B w3 k3 v3 out3):=H4.out.on hs3;have H8:Hid (h0=some (x,sb (T k3),out3)/\k<=k3/\out3.length+k<=out.length+k3):=⟨e3,hk3,hl3⟩;clear e3 hs3 hk3 hl3;go_wp2_with fail
   go_ret;exact Or.inl ⟨x,k3,v3,out3,H8.out.1,rfl,H9.out,H8.out.2.1,H8.out.2.2⟩
  ·have H8:Hid (h0=none):=e3;have g7:Hid (Fr r v W w3):=H4.out.fr.trans H4.out.nb hf3;clear e3 hf3;go_wp2_with fail
   exact⟨rfl,D ⟨H8.out,rfl,g7.out⟩⟩
end
section
variable {W0:u} {Z:Nat->Prop} {r:Nat} {A:Option Addr} {cap:Nat} {ps:List (List UInt8)} {T:Nat->List UInt8} {B:Nat}
theorem Qpi{W:u}{v:Value}(fn:Int)(ks:List Int)(n:Nat)(hn:ks.length=n)(KB:Option Addr)(kb:Nat){wr:u}{v1:Value}{k:Nat}{out:List FN}(h:SI W0 (ZK Z (f KB n kb)) W v r A cap ps B wr k v1 out)
  (hkk:wr.ownsRow B 2 1 (f KB n kb) n (ks.map (Value.int .i64))) (hkz: ∀b,(Value.slice KB n kb).ownBlock=some b-> ¬Z b) (hl:out.length<=30000) (hk2:n<=2000):
  Calls prog 245 #[.pointer (some ⟨r,0,none⟩),K #[c d 6,c d fn,c d 0,c d 0,J ⟨#[]⟩,c d 0,c d 0,o false,o false,c d 0,c d 0,o false,o false,f KB n kb]] wr fun e w'=>e= I (c d out.length)/\ ∃v',SI W0 Z W v r A cap ps B w' k v' (out++ [RF.cal fn ks]):=by
 subst hn;exact GU (RF.cal fn ks) KB kb h hkk hkz ⟨Nat.zero_le _,hk2⟩ hl
def Qfq(W0:u)(Z:Nat->Prop)(r:Nat)(A:Option Addr)(cap:Nat)(ps:List (List UInt8))(T:Nat->List UInt8)(B:Nat)(W:u)(v:Value)(k:Nat)(out:List FN)(fn:Int)(res:Option (Int × List UInt8 × List FN))(g n cp:Nat)(ks:List Int)(wr:u)(k1:Nat)(v1:Value)(out1:List FN):Prop:=
 SI W0 (ZK Z (f (some ⟨g,0,none⟩) n cp)) W v r A cap ps B wr k1 v1 out1/\wr.ownsRow W.heap.size 2 1 (f (some ⟨g,0,none⟩) n cp) n (ks.map (Value.int .i64))/\ks.length=n/\k+n<=k1/\out1.length+k<=out.length+k1/\res=PB RF 5 fn 0 ks (T k1) out1
theorem SI.own{W:u}{v:Value}{w1 w3:u}{v1:Value}{k:Nat}{out:List FN}{kv:Value}{n gg n' cap':Nat}{xs:List Value}(h:SI W0 (ZK Z kv) W v r A cap ps B w1 k v1 out)(hk:w1.ownsRow W.heap.size 2 1 kv n xs)(hr:r<W.heap.size)(hg:w1.grownBy w3 kv.ownBlock)(hat:kv.ownBlock=some gg\/gg=w1.heap.size)(hlt:gg<w3.heap.size):
  SI W0 (ZK Z (f (some ⟨gg,0,none⟩) n' cap')) W v r A cap ps B w3 k v1 out:=⟨RdI.kids h.st hk hr hg hat hlt,h.nb,Fr.own h.fr hk hg⟩
theorem Qjn{m:Nat}(hm:m<=20000)(hA: ∀Z',Qj7 W0 Z' r A cap ps T B m)(hT:Txt ps T):Qtd W0 Z r A cap ps T B (m+1):=by
 intro W k v out fn h ho hk;have HS:Hid (SI W0 Z W v r A cap ps B W k v out):=SI.start h;have HA:Hid (∀Z',Qj7 W0 Z' r A cap ps T B m):=hA;have HT:Hid (Txt ps T):=hT;have G1:Hid (ps.length<=1000):=hT.few;have x5:Hid (k<=ps.length):=h.ri.1;have x4:Hid ((T k).length<=1000):=hT.len k
 have h4:Hid (r<B/\B<=W.heap.size):=⟨h.rb,h.bw⟩;have G2:Hid (∀b,Z b->b<W.heap.size):=h.zl;obtain⟨h1,H1⟩: ∃h1,Hid ((if pk (T k)= [40]then Yg (PB RF 6 0 0 [] (nx (T k)) out) (fun a l1 o1=>PB RF 5 fn 0 [a] l1 o1)else none)=h1):=⟨_,rfl⟩;rw[H1.out];have g7:Hid (pk (T k)=ZJ ps k):=hT.pkk h;clear h hA hT;go_enter func284,ntmps284
 go_wp2_with fail
 refine(Ma 40 HS.out).mono ?_;rintro e w1 (⟨h9,⟨z,rfl⟩,hs1⟩ | ⟨h9,rfl,hf1⟩);rotate_left
 ·have HR:Hid (h1=none):=by show _=_;rw[<-H1.out,nG (by rw[g7.out];exact h9)]
  have x3:Hid (Fr r v W w1):=hf1;clear h9 hf1;go_wp2_with fail
  exact⟨rfl,D ⟨HR.out,rfl,x3.out⟩⟩
 have H8:Hid (SI W0 Z W v r A cap ps B w1 (k+1) v out):=hs1;have g9:Hid (k<ps.length):=ZF (by rw[h9];simp);have G7:Hid (nx (T k)=T (k+1)):=HT.out.tn k g9.out;have g6:Hid (h1=Yg (PB RF 6 0 0 [] (T (k+1)) out) (fun a l1 o1=>PB RF 5 fn 0 [a] l1 o1)):=by show _=_;rw[<-H1.out,pS (by rw[g7.out];exact h9),G7.out]
 clear h9 hs1 HS;go_wp2_with fail
 refine(HA.out Z w1 (k+1) v out H8.out.st (by omega) (by have:=g9.out;omega)).mono ?_;rintro e w2 (⟨x,k2,v2,out2,e2,rfl,hs2,hk2,hl2⟩ | ⟨e2,rfl,hf2⟩);rotate_left
 ·have HR:Hid (h1=none):=by show _=_;rw[g6.out,e2];rfl
  have x2:Hid (Fr r v W w2):=H8.out.fr.trans H8.out.nb hf2;clear e2 hf2;go_wp2_with fail
  exact⟨rfl,D ⟨HR.out,rfl,x2.out⟩⟩
 have H4:Hid (SI W0 Z W v r A cap ps B w2 k2 v2 out2):=H8.out.on hs2
 have G5:Hid (h1=PB RF 5 fn 0 [x] (T k2) out2):=by
  show _=_;rw[g6.out,e2];exact JJ (Zj _)
 have x6:Hid (k+1<=k2/\out2.length+(k+1)<=out.length+k2):=⟨hk2,hl2⟩;have G3:Hid (W.heap.size<=w2.heap.size):=H4.out.fr.2.2.2.1
 have HI:Hid (Qfq W0 Z r A cap ps T B W v k out fn h1 w2.heap.size 1 1 [x] (w2.alloc (C #[c d x] 2)) k2 v2 out2):=by
  refine⟨⟨RdI.new H4.out.st (by go_grown) (F _) (by simp),H4.out.nb,H4.out.fr.trans H4.out.nb (Fr.bel (by go_grown))⟩,OE w2 _ x G3.out,rfl,hk2,by omega,G5.out⟩
 clear e2 hs2 hk2 hl2;go_wp2_with fail
 go_loopw [5] (fun a wr=> ∃g n cp ks k1 v1 h0,a= f (some ⟨g,0,none⟩) n cp/\Qfq W0 Z r A cap ps T B W v k out fn h1 g n cp ks wr k1 v1 h0) (fun _ wr=>ps.length-atI wr r)
 case atStart=>exact⟨_,_,_,_,_,_,_,rfl,HI.out⟩
 case round=>
  clear HI;obtain⟨g,n,cp,ks,k1,v1,h0,rfl,hi⟩:=hrel;have HI:Hid (Qfq W0 Z r A cap ps T B W v k out fn h1 g n cp ks wr k1 v1 h0):=hi;have G9:Hid (atI wr r=k1):=Qbk hi.1.st.ri;have G0:Hid (k1<=ps.length):=hi.1.st.ri.1;obtain⟨l,HL⟩: ∃l,Hid (ZJ ps k1=l):=⟨_,rfl⟩;have g1:Hid (pk (T k1)=l):=by show _=_;rw[HT.out.pkk hi.1.st,HL.out]
  have g8:Hid (h1=if l= [44]then Yg (PB RF 6 0 0 [] (nx (T k1)) h0) (fun k l1 o1=>PB RF 5 fn 0 (ks++ [k]) l1 o1)else if l= [41]then some ((h0.length:Int),sb (nx (T k1)),h0++ [RF.cal fn ks])else none):=by
   show _=_;rw[<-g1.out,hi.2.2.2.2.2];exact PB5 (HT.out.len k1)
  obtain⟨s,HX⟩: ∃s,Hid (bs l=s):=⟨_,rfl⟩;have g4:Hid (n<=1000/\h0.length<=1000):=⟨by have a1:=hi.2.2.2.1;have a2:=G0.out;have a3:=G1.out;omega,by have a1:=hi.2.2.2.2.1;have a2:=G0.out;have a3:=G1.out;omega⟩;clear hi;go_wp2_with fail
  refine(Kp (m:=0) (SI.start HI.out.1.st) (by omega)).mono ?_;rintro _ w3 ⟨rfl,hs3⟩;have h5:Hid (SI W0 (ZK Z (f (some ⟨g,0,none⟩) n cp)) W v r A cap ps B w3 k1 v1 h0):=HI.out.1.on hs3
  have H2:Hid (w3.ownsRow W.heap.size 2 1 (f (some ⟨g,0,none⟩) n cp) n (ks.map (Value.int .i64))):=by
   obtain⟨ys,h7,_,_⟩:=HI.out.1.st.own;exact Dw HI.out.2.1 (i h4.out.1 h4.out.2) h7 hs3.fr
  clear hs3;rw[Nat.add_zero,HL.out,HX.out];by_cases h8:l= [44]
  ·have hb:(s.toList== [44])=true:=MP (by rw[<-HX.out,h8];rfl);have g2:Hid (ZJ ps k1≠ []):=by show _≠_;rw[HL.out,h8];simp
   have H3:Hid (nx (T k1)=T (k1+1)):=HT.out.tn k1 (ZF g2.out);have H5:Hid (h1=Yg (PB RF 6 0 0 [] (T (k1+1)) h0) (fun k l1 o1=>PB RF 5 fn 0 (ks++ [k]) l1 o1)):=by show _=_;rw[g8.out,pS h8,H3.out]
   clear h8;go_wp2_with fail
   refine(UF (SI.start h5.out.st)).mono ?_;rintro e w4 (⟨hn,rfl,hfr⟩ | ⟨hn,rfl,hs4⟩)
   ·exact absurd hn g2.out
   have H0:Hid (SI W0 (ZK Z (f (some ⟨g,0,none⟩) n cp)) W v r A cap ps B w4 (k1+1) v1 h0):=h5.out.on hs4
   have h6:Hid (w4.ownsRow W.heap.size 2 1 (f (some ⟨g,0,none⟩) n cp) n (ks.map (Value.int .i64))):=by
    obtain⟨ys,h7,_⟩:=h5.out.st.own;exact Dw H2.out (i h4.out.1 h4.out.2) h7 hs4.fr
   clear hs4 hn h5 H2;go_wp2_with fail
   refine(HA.out (ZK Z (f (some ⟨g,0,none⟩) n cp)) w4 (k1+1) v1 h0 H0.out.st (by have a1:=HI.out.2.2.2.2.1;have a2:=HI.out.2.2.2.1;omega) (by have a1:=ZF g2.out;have a2:=HI.out.2.2.2.1;omega)).mono ?_;rintro e w5 (⟨x,k5,v5,out5,e5,rfl,hs5,hk5,hl5⟩ | ⟨e5,rfl,hf5⟩);rotate_left
   ·have HR:Hid (h1=none):=by show _=_;rw[H5.out,e5];rfl
    have x0:Hid (Fr r v W w5):=H0.out.fr.trans H0.out.nb hf5;clear e5 hf5;go_wp2_with fail
    exact⟨rfl,D ⟨HR.out,rfl,x0.out⟩⟩
   have H7:Hid (SI W0 (ZK Z (f (some ⟨g,0,none⟩) n cp)) W v r A cap ps B w5 k5 v5 out5):=H0.out.on hs5
   have H6:Hid (w5.ownsRow W.heap.size 2 1 (f (some ⟨g,0,none⟩) n cp) n (ks.map (Value.int .i64))):=by
    obtain⟨ys,h7,_⟩:=H0.out.st.own;exact Dw h6.out (i h4.out.1 h4.out.2) h7 hs5.fr
   have G4:Hid (h1=PB RF 5 fn 0 (ks++ [x]) (T k5) out5):=by
    show _=_;rw[H5.out,e5];exact JJ (Zj _)
   have g5:Hid (k1+1<=k5/\out5.length+(k1+1)<=h0.length+k5):=⟨hk5,hl5⟩;have H9:Hid (W.heap.size<=w5.heap.size):=H7.out.fr.2.2.2.1;have G8:Hid (n<=30000):=by show _<=_;have:=g4.out.1;omega
   clear e5 hs5 hk5 hl5;go_wp2_with (at_builtin;refine Qhr _ rfl _ _ rfl (f (some ⟨g,0,none⟩) n cp) rfl W.heap.size ?hb n (ks.map (Value.int .i64)) ?hw x w5.heap.size rfl ?hc G8.out ?_)
   case hb=>have:=H9.out;simp;omega
   case hw=>exact H6.out.alloc _
   case hc=>exact heap_alloc_new _ _
   intro gg gcap w6 hown6 hgrow hat hlt6
   have g3:Hid (w6.ownsRow W.heap.size 2 1 (f (some ⟨gg,0,none⟩) (n+1) gcap) (n+1) ((ks++ [x]).map (Value.int .i64))):=by
    show World.ownsRow _ _ _ _ _ _ _;rw[List.map_append];exact hown6
   have g0:Hid (SI W0 (ZK Z (f (some ⟨gg,0,none⟩) (n+1) gcap)) W v r A cap ps B w6 k5 v5 out5):=
    SI.own (H7.out.bel (by go_grown)) (H6.out.alloc (C #[c d x] 2)) (i h4.out.1 h4.out.2) hgrow (by simpa using hat) hlt6
   clear hown6 hgrow hat hlt6;go_wp2_with fail
   refine⟨⟨gg,n+1,gcap,ks++ [x],k5,v5,out5,rfl,g0.out,g3.out,?_,?_,?_,G4.out⟩,?_⟩
   ·rw[t,HI.out.2.2.1];rfl
   ·have a1:=HI.out.2.2.2.1;have a2:=g5.out.1;omega
   ·have a1:=HI.out.2.2.2.2.1;have a2:=g5.out.2;omega
   ·rw[Qbk g0.out.st.ri,G9.out];have a1:=g5.out.1;have a2:=g0.out.st.ri.1;omega
  ·have hb:(s.toList== [44])=false:=Yw (by rw[<-HX.out];intro e;exact h8 (by have:=congrArg (fun z:ByteArray=>z.data.toList) e;exact this));have H5:Hid (h1=if l= [41]then some ((h0.length:Int),sb (nx (T k1)),h0++ [RF.cal fn ks])else none):=by show _=_;rw[g8.out,nG h8]
   clear h8;go_wp2_with fail
   refine(Ma 41 (SI.start h5.out.st)).mono ?_;rintro e w4 (⟨h9,⟨y,rfl⟩,hs4⟩ | ⟨h9,rfl,hf4⟩)
   ·have H3:Hid (nx (T k1)=T (k1+1)):=HT.out.tn k1 (ZF (by rw[h9];simp));have HR:Hid (h1=some ((h0.length:Int),sb (T (k1+1)),h0++ [RF.cal fn ks])):=by show _=_;rw[H5.out,pS (by rw[<-HL.out];exact h9),H3.out]
    have H0:Hid (SI W0 (ZK Z (f (some ⟨g,0,none⟩) n cp)) W v r A cap ps B w4 (k1+1) v1 h0):=h5.out.on hs4
    have h6:Hid (w4.ownsRow W.heap.size 2 1 (f (some ⟨g,0,none⟩) n cp) n (ks.map (Value.int .i64))):=by
     obtain⟨ys,h7,_⟩:=h5.out.st.own;exact Dw H2.out (i h4.out.1 h4.out.2) h7 hs4.fr
    have G6:Hid (∀b,(Value.slice (some ⟨g,0,none⟩) n cp).ownBlock=some b-> ¬Z b):=fun b hb hz=>by
     have h2:=(h6.out.lt b hb).1;have h3:=G2.out b hz;omega
    clear h9 hs4;go_wp2_with fail
    refine(Qpi fn ks n HI.out.2.2.1 (some ⟨g,0,none⟩) cp H0.out (QU h6.out h4.out.2) G6.out (by have:=g4.out.2;omega) (by have:=g4.out.1;omega)).mono ?_;rintro e w5 ⟨rfl,v5,hs5⟩;have H7:Hid (SI W0 Z W v r A cap ps B w5 (k1+1) v5 (h0++ [RF.cal fn ks])):=hs5;clear hs5;go_wp2_with fail
    go_ret;exact Or.inl ⟨_,k1+1,v5,_,HR.out,rfl,H7.out,by have:=HI.out.2.2.2.1;omega,by rw[t];have:=HI.out.2.2.2.2.1;simp only[G,H];omega⟩
   ·have HR:Hid (h1=none):=by show _=_;rw[H5.out,nG (by rw[<-HL.out];exact h9)]
    have x1:Hid (Fr r v W w4):=h5.out.fr.trans h5.out.nb hf4;clear h9 hf4;go_wp2_with fail
    exact⟨rfl,D ⟨HR.out,rfl,x1.out⟩⟩
end
structure AllI (W0:u) (r:Nat) (A:Option Addr) (cap:Nat) (ps:List (List UInt8)) (T:Nat->List UInt8) (B m:Nat):Prop where
 form: ∀Z,Oq W0 Z r A cap ps T B m
 neg: ∀Z,Qop W0 Z r A cap ps T B m
 sin: ∀Z,Qs7 W0 Z r A cap ps T B m
 call: ∀Z,Qtd W0 Z r A cap ps T B m
 arg: ∀Z,Qj7 W0 Z r A cap ps T B m
theorem Qht(W0:u)(r:Nat)(A:Option Addr)(cap:Nat)(ps:List (List UInt8))(T:Nat->List UInt8)(B:Nat)(hT:Txt ps T): ∀m,m<=20001-> ∀m',m'<=m->AllI W0 r A cap ps T B m'
 | 0,_,m',h=>by
  obtain rfl:m'=0:=by omega
  exact⟨fun Z W k v out lv _ _ h1 h5 hk=>by omega,fun Z W k v out _ _ hk=>by omega,fun Z W k v out _ _ hk=>by omega,fun Z W k v out fn _ _ hk=>by omega,fun Z W k v out _ _ hk=>by omega⟩
 | m+1,hm,m',h=>by
  have ih:=Qht W0 r A cap ps T B hT m (by omega);by_cases hq:m'<=m
  ·exact ih m' hq
  obtain rfl:m'=m+1:=by omega
  have im:=ih m (F _);refine⟨fun Z=> ?_,fun Z=>Qqz (by omega) (im.neg Z) (im.sin Z) hT,fun Z=>Qph (by omega) (im.form Z) (im.call Z) hT,fun Z=>Qjn (by omega) im.arg hT,fun Z=>Qm7 (by omega) (im.form Z) hT⟩;intro W k v out lv h ho h1 h5 hk;by_cases h0:lv=5
  ·subst h0;exact Qje (im.neg Z) hT W k v out h ho (by omega)
  ·exact Qmh (by omega) (fun m' hm'=>(ih m' hm').form Z) hT W k v out lv h ho h1 (by omega) hk
theorem Qmi(W0:u)(r:Nat)(A:Option Addr)(cap:Nat)(ps:List (List UInt8))(T:Nat->List UInt8)(B:Nat)(hT:Txt ps T)(Z:Nat->Prop):Oq W0 Z r A cap ps T B 20000:=(Qht W0 r A cap ps T B hT 20000 (by omega) 20000 (F _)).form Z
end Go.Proofs.YtomadadmakdkgaaGreatDoor
