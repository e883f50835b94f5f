import Derived.Test.YtomadadmakdkgaaGreatDoorMn
import Derived.Test.YtomadadmakdkgaaGreatDoorGar
import Derived.Lib.ItoaLen
import Derived.Test.YtomadadmakdkgaaGreatDoorGas
open Go.Proofs.Tryz
open Go.Value renaming int → C, bool → E, string → G, slice → H, int → U, bool → Y, agg → jg
open Go.IntKind renaming i64 → D, i64 → V
open Go.Obj renaming cells → I
open Go renaming run_string_add_sum → J, Calls → S, maxLen → ja
open Or renaming inr → K, inl → je
open Go.Ending renaming returned → M
open List renaming length_cons → O, length_nil → Q, getD_eq_getElem?_getD → R, getElem?_eq_getElem → T, getD_cons_zero → Z, length_append → jb, getElem?_map → jc, head?_cons → jd, length_map → jf
set_option linter.unusedSimpArgs false
set_option linter.unusedVariables false
set_option maxHeartbeats 8000000
set_option maxRecDepth 100000
namespace Go.Proofs.YtomadadmakdkgaaGreatDoor
open Go.RowKit
variable {n kl kc cap i:Nat} {KA A:Option Addr} {F:Nat->FN}
theorem Qcv(n:Int): ∃h:0<(itB n).size,(itB n)[0].toNat=45\/(48<=(itB n)[0].toNat/\(itB n)[0].toNat<=57):=by
 have hs:0<(itB n).size:=by
  show 0<(Lib.itoa n).length;unfold Lib.itoa;split
  ·simp
  ·have:=Lib.decDigits_length n.toNat;have:=Lib.nDigits_pos n.toNat;omega
 refine⟨hs,BM (v:=n) (l:=(itB n).data.toList) rfl _ (Yx hs)⟩
theorem Qb9(k:Int): ∀s,s=trT k-> ∀h:0<s.size,s[0].toNat=70\/s[0].toNat=84:=by
 rintro s rfl h;by_cases h0:k=0
 ·subst h0;left;rfl
 ·right
  have e:trT k=trT 1:=by unfold trT;rw[nG h0,nG (by omega)]
  simp only[e];rfl
theorem Qqb{n:Int}(h:Ym n=true):YW (itB n).data.toList=some n:=by
 have hb:=Qa6 h;have h1:=Mg n (by omega) (by omega);obtain⟨h2,h3⟩:=KO h1;exact NC (l:=Lib.itoa n) h3 h2
theorem Qjb{n:Int}(h:Ym n=true):Qu (itB n)=(1,n,⟨#[]⟩):=by
 obtain⟨hs,hf⟩:=Qcv n;unfold Qu;rw[dif_pos hs,nG (by omega)];unfold YK
 rw[nG (fun e=>by have:=Qb9 0 _ e hs;omega),nG (fun e=>by have:=Qb9 1 _ e hs;omega),
  nG (fun e=>by have:=XM 1 (by omega) (by omega) _ e hs;omega),nG (fun e=>by have:=XM 2 (by omega) (by omega) _ e hs;omega),nG (fun e=>by have:=XM 3 (by omega) (by omega) _ e hs;omega),
  nG (fun e=>by have:=XM 4 (by omega) (by omega) _ e hs;omega),nG (fun e=>by have:=XM 5 (by omega) (by omega) _ e hs;omega),Qqb h]
 rfl
theorem Qe4(s:ByteArray):0<((⟨#[39]⟩:ByteArray)++s).size:=by rw[ByteArray.size_append];show 0<1+s.size;omega
theorem GG(s:ByteArray):((⟨#[39]⟩:ByteArray)++s).data.toList=39::s.data.toList:=by simp
theorem Qjm(s:ByteArray):((⟨#[39]⟩:ByteArray)++s).extract 1 ((⟨#[39]⟩:ByteArray)++s).size=s:=by
 apply ByteArray.ext;apply Array.ext';rw[JZ,GG];rfl
theorem Qm2(s:ByteArray)(h:0<((⟨#[39]⟩:ByteArray)++s).size):(((⟨#[39]⟩:ByteArray)++s)[0]).toNat=39:=by
 have e:=Yx h;rw[GG]at e;simp only[jd,Option.some.injEq]at e;rw[<-e];rfl
theorem Qey(s:ByteArray):Qu ((⟨#[39]⟩:ByteArray)++s)=(2,0,s):=by
 unfold Qu;rw[dif_pos (Qe4 s),pS (Qm2 s _),Qjm]
theorem Qmc{n:Int}(h:n=0\/n=1):Qu (trT n)=(3,n,⟨#[]⟩):=by
 rcases h with rfl | rfl
 ·unfold Qu;rw[dif_pos (by decide),nG (by decide)];unfold YK;rw[pS rfl]
 ·unfold Qu;rw[dif_pos (by decide),nG (by decide)];unfold YK;rw[nG (by decide),pS rfl]
theorem Qme{n:Int}(h1:1<=n)(h5:n<=5):Qu (erT n)=(4,n,⟨#[]⟩):=by
 have hn:n=1\/n=2\/n=3\/n=4\/n=5:=by omega
 rcases hn with rfl | rfl | rfl | rfl | rfl
 ·unfold Qu;rw[dif_pos (by decide),nG (by decide)];unfold YK;rw[nG (by decide),nG (by decide),pS rfl]
 ·unfold Qu;rw[dif_pos (by decide),nG (by decide)];unfold YK;rw[nG (by decide),nG (by decide),nG (by decide),pS rfl]
 ·unfold Qu;rw[dif_pos (by decide),nG (by decide)];unfold YK;rw[nG (by decide),nG (by decide),nG (by decide),nG (by decide),pS rfl]
 ·unfold Qu;rw[dif_pos (by decide),nG (by decide)];unfold YK;rw[nG (by decide),nG (by decide),nG (by decide),nG (by decide),nG (by decide),pS rfl]
 ·unfold Qu;rw[dif_pos (by decide),nG (by decide)];unfold YK;rw[nG (by decide),nG (by decide),nG (by decide),nG (by decide),nG (by decide),nG (by decide),pS rfl]
theorem NW{k n:Int}{s:ByteArray}(h:okV k n s=true):Qu (txV k n s)=(k,n,s):=by
 rw[show txV k n s=txB k n s by unfold txV;rw[h];rfl];rcases Yr h with⟨rfl,rfl,rfl⟩ | ⟨rfl,hr,rfl⟩ | ⟨rfl,rfl,hr⟩ | ⟨rfl,hr,rfl⟩ | ⟨rfl,h1,h5,rfl⟩
 ·show Qu ⟨#[]⟩=_;unfold Qu;rw[dif_neg (by decide)]
 ·exact Qjb hr
 ·exact Qey s
 ·exact Qmc hr
 ·exact Qme h1 h5
theorem Qrp{g:Int × Int × ByteArray}(h:(g=(0,0,⟨#[]⟩))\/(∃n,g=(1,n,⟨#[]⟩))\/(∃s,g=(2,0,s))\/(∃n,g=(3,n,⟨#[]⟩))\/(∃n,g=(4,n,⟨#[]⟩))\/g=(5,0,⟨#[]⟩)):gOk g=okV g.1 g.2.1 g.2.2:=by
 rcases h with rfl | ⟨n,rfl⟩ | ⟨s,rfl⟩ | ⟨n,rfl⟩ | ⟨n,rfl⟩ | rfl
 ·simp[gOk,okV,Jh]
 ·simp[gOk,okV,Jh]
 ·simp[gOk,okV]
 ·simp[gOk,okV,Jh]
 ·simp[gOk,okV,Jh]
 ·simp[gOk,okV]
theorem Mh(t:ByteArray):gOk (Qu t)=okV (Qu t).1 (Qu t).2.1 (Qu t).2.2:=by
 apply Qrp;rcases Mr t with h | h | ⟨s2,_,h⟩ | h | h | h
 ·exact je h
 ·exact K (je h)
 ·exact K (K (je ⟨s2,h⟩))
 ·exact K (K (K (je h)))
 ·exact K (K (K (K (je h))))
 ·exact K (K (K (K (K h))))
theorem Qe5{t:ByteArray}(h:0<t.size)(h39:t[0].toNat=39):(⟨#[39]⟩:ByteArray)++t.extract 1 t.size=t:=by
 apply ByteArray.ext;apply Array.ext';rw[GG,JZ];have e:=Yx h;cases hl:t.data.toList with
 | nil=>rw[hl]at e;cases e
 | cons a r=>
  rw[hl]at e;simp only[jd,Option.some.injEq]at e;rw[List.tail_cons,e];congr 1
  apply UInt8.toNat_inj.1;rw[h39];rfl
theorem Qez(t:ByteArray)(h:gOk (Qu t)=true):txB (Qu t).1 (Qu t).2.1 (Qu t).2.2=t:=by
 by_cases hs:0<t.size
 ·by_cases h0:t[0].toNat=39
  ·rw[show Qu t=(2,0,t.extract 1 t.size) by unfold Qu;rw[dif_pos hs,pS h0]];exact Qe5 hs h0
  rw[show Qu t=YK t by unfold Qu;rw[dif_pos hs,nG h0]]at h ⊢;unfold YK at h ⊢;by_cases n0:t=trT 0
  ·rw[pS n0];exact n0.symm
  by_cases n1:t=trT 1
  ·rw[nG n0,pS n1];exact n1.symm
  by_cases n2:t=erT 1
  ·rw[nG n0,nG n1,pS n2];exact n2.symm
  by_cases n3:t=erT 2
  ·rw[nG n0,nG n1,nG n2,pS n3];exact n3.symm
  by_cases n4:t=erT 3
  ·rw[nG n0,nG n1,nG n2,nG n3,pS n4];exact n4.symm
  by_cases n5:t=erT 4
  ·rw[nG n0,nG n1,nG n2,nG n3,nG n4,pS n5];exact n5.symm
  by_cases n6:t=erT 5
  ·rw[nG n0,nG n1,nG n2,nG n3,nG n4,nG n5,pS n6];exact n6.symm
  rw[nG n0,nG n1,nG n2,nG n3,nG n4,nG n5,nG n6]at h ⊢;cases hr:YW t.data.toList with
  | none=>rw[hr]at h;simp[Qn6,gOk]at h
  | some n=>
   show itB n=t;unfold itB;rw[(Md hr).1]
 ·rw[show Qu t=(0,0,⟨#[]⟩) by unfold Qu;rw[dif_neg hs]];exact(Za (s:=t) (by omega)).symm
def ndV(x:FN)(KA:Option Addr)(kc:Nat):Value:= jg #[C D x.k,C D x.o,C D x.ck,C D x.cn,G x.cs,C D x.ac,C D x.ar,E x.af,E x.ag,C D x.bc,C D x.br,E x.bf,E x.bg,H KA x.kids.length kc]
def NtC(A:Option Addr)(n cap:Nat)(F:Nat->FN)(i:Nat):Prop:= ∀(W:World) (KA:Option Addr) (kc:Nat),FnRow W A n F->GT W->IntRow W KA (F i).kids->
 S prog 155 #[H A n cap,ndV (F i) KA kc] W fun e w'=>e= M (G (bs (TX F i)))/\Below W.heap.size W w'
def BtC(A:Option Addr)(n cap:Nat)(F:Nat->FN)(i:Nat)(z:Int):Prop:= ∀(W:World) (KA:Option Addr) (kc:Nat),FnRow W A n F->GT W->IntRow W KA (F i).kids->
 S prog 184 #[H A n cap,ndV (F i) KA kc,C D z] W fun e w'=>e= M (G (bs (bdX F i z)))/\Below W.heap.size W w'
theorem Ql8(o ck cn:Int)(cs:ByteArray)(ac ar:Int)(af ag:Bool)(bc br:Int)(bf bg:Bool)(w:World)(hs:cs.size<=ja)(hc:cOk ck cn cs=true)(hg:GT w):S prog 155 #[H A n cap,jg #[C D 1,C D o,C D ck,C D cn,G cs,C D ac,C D ar,E af,E ag,C D bc,C D br,E bf,E bg,H KA kl kc]] w fun e w'=>
  e= M (G (bs (Vs ck cn cs)))/\Below w.heap.size w w':=by
 have HG:Hid (GT w):=hg;have HC:Hid (cOk ck cn cs=true):=hc;have HS:Hid (cs.size<=ja):=hs;clear hg hc hs;go_enter func155,ntmps155;go_wp2_with fail
 refine(Nl ck cn cs _ HS.out HC.out (HG.out.below (by go_grown))).mono ?_;rintro e w1 ⟨rfl,hb⟩;have K1:=Qb (w:=w) (by go_grown) hb;go_wp2_with fail
 go_ret;exact⟨rfl,K1⟩
theorem Ql7(o ck cn:Int)(cs:ByteArray)(ac:Int)(i:Nat)(af ag:Bool)(bc br:Int)(bf bg:Bool)(w:World)(hi:i<100)(ho:Qf ac i=true):S prog 155 #[H A n cap,jg #[C D 2,C D o,C D ck,C D cn,G cs,C D ac,C D i,E af,E ag,C D bc,C D br,E bf,E bg,H KA kl kc]] w fun e w'=>
  e= M (G (QL ac i af ag))/\Below w.heap.size w w':=by
 have HO:Hid (Qf ac i=true):=ho;clear ho;go_enter func155,ntmps155;go_wp2_with fail
 refine(YO ac i af ag _ hi HO.out).mono ?_;rintro e w1 ⟨rfl,hb⟩;have K1:=Qb (w:=w) (by go_grown) hb;go_wp2_with fail
 go_ret;exact⟨rfl,K1⟩
theorem NK(c:Int)(i:Nat)(x y:Bool):(QL c i x y).size<=6:=by
 rw[QL,ByteArray.size_append,ByteArray.size_append,ByteArray.size_append];have h1:=JE x;have h2:=JE y;have h3:=JQ c;have h4:=JO i;omega
theorem Ql6(o ck cn:Int)(cs:ByteArray)(ac:Int)(i:Nat)(af ag:Bool)(bc:Int)(j:Nat)(bf bg:Bool)(w:World)(hi:i<100)(ho:Qf ac i=true)(hj:j<100)(ho':Qf bc j=true):S prog 155 #[H A n cap,jg #[C D 3,C D o,C D ck,C D cn,G cs,C D ac,C D i,E af,E ag,C D bc,C D j,E bf,E bg,H KA kl kc]] w fun e w'=>
  e= M (G (QL ac i af ag++(⟨#[58]⟩:ByteArray)++QL bc j bf bg))/\Below w.heap.size w w':=by
 have HO:Hid (Qf ac i=true):=ho;have HP:Hid (Qf bc j=true):=ho';clear ho ho';obtain⟨p,h2⟩: ∃p,Hid (QL ac i af ag=p):=⟨_,rfl⟩;obtain⟨q,h0⟩: ∃q,Hid (QL bc j bf bg=q):=⟨_,rfl⟩;have hp:p.size<=6:=by have:=NK ac i af ag;rw[h2.out]at this;exact this
 have hq:q.size<=6:=by have:=NK bc j bf bg;rw[h0.out]at this;exact this
 rw[h2.out,h0.out]
 obtain⟨r1,r2⟩:(∀W,(Op.stringOp .add p (⟨#[58]⟩:ByteArray)).run prog W= .ok (G (p++(⟨#[58]⟩:ByteArray))) W)/\(∀W,(Op.stringOp .add (p++(⟨#[58]⟩:ByteArray)) q).run prog W= .ok (G (p++(⟨#[58]⟩:ByteArray)++q)) W):=by
  have h1:(⟨#[58]⟩:ByteArray).size=1:=rfl;refine⟨fun W=>J W _ _ ?_,fun W=>J W _ _ ?_⟩
  ·omega
  ·rw[ByteArray.size_append];omega
 go_enter func155,ntmps155;go_wp2_with fail
 go_region_held3 (fun w'=>(∀bq oq,bq<w.heap.size+1->w'.cell? ⟨bq,oq,none⟩=(w.alloc (I #[C D 3,C D o,C D ck,C D cn,G cs,C D ac,C D i,E af,E ag,C D bc,C D j,E bf,E bg,H KA kl kc] 177)).cell? ⟨bq,oq,none⟩)/\w.heap.size+1<=w'.heap.size/\Below (w.heap.size+1) (w.alloc (I #[C D 3,C D o,C D ck,C D cn,G cs,C D ac,C D i,E af,E ag,C D bc,C D j,E bf,E bg,H KA kl kc] 177)) w')
  (exact QE (by go_size) (by go_grown))
  (first
  | (go_at_call_of 183 (Value.agg #[U V ac,U V (i:Int),Y af,Y ag]);refine(YO ac i af ag _ hi HO.out).mono ?_;rintro e wr ⟨rfl,hb⟩;rw[h2.out];obtain⟨hk,hz⟩:=Qk (B:=w.heap.size+1) (X:=(w.alloc (I #[C D 3,C D o,C D ck,C D cn,G cs,C D ac,C D i,E af,E ag,C D bc,C D j,E bf,E bg,H KA kl kc] 177))) (by go_grown) (by go_size) hb;have hC:=fun b o h=>hk.cell (p:=⟨b,o,none⟩) h;clear hb)
  | (go_at_call_of 183 (Value.agg #[U V bc,U V (j:Int),Y bf,Y bg]);refine(YO bc j bf bg _ hj HP.out).mono ?_;rintro e wr ⟨rfl,hb⟩;rw[h0.out];obtain⟨hk,hz⟩:=Qk (B:=w.heap.size+1) (X:=(w.alloc (I #[C D 3,C D o,C D ck,C D cn,G cs,C D ac,C D i,E af,E ag,C D bc,C D j,E bf,E bg,H KA kl kc] 177))) (by go_grown) (by go_size) hb;have hC:=fun b o h=>hk.cell (p:=⟨b,o,none⟩) h;clear hb))
 all_goals go_wp2_with fail
 all_goals go_ret
 all_goals exact⟨rfl,Yz (n:=1) (X:=(w.alloc (I #[C D 3,C D o,C D ck,C D cn,G cs,C D ac,C D i,E af,E ag,C D bc,C D j,E bf,E bg,H KA kl kc] 177))) (by go_grown) (by go_grown)⟩
theorem Ql5{a:Nat}(hk:(F i).k=4)(hg:(F i).kids= [(a:Int)])(ha:a<n)(hB:BtC A n cap F a 5)(hz:(bdX F a 5).length<=116977784950520)(W:World)(KA:Option Addr)(kc:Nat)(hr:FnRow W A n F)(hgt:GT W)(hki:IntRow W KA (F i).kids):
  S prog 155 #[H A n cap,ndV (F i) KA kc] W fun e w'=>e= M (G (bs ([45]++bdX F a 5)))/\Below W.heap.size W w':=by
 have HR:Hid (FnRow W A n F):=hr;have HG:Hid (GT W):=hgt;have HB:Hid (BtC A n cap F a 5):=hB;have hn:=hr.1;unfold ja at hn;rw[hg]at hki;obtain⟨b1,o1,rfl,hl1,e1⟩:=hki.2 0 (by simp)
 simp only[Z,Nat.add_zero]at e1;obtain⟨b,p,KB,kb,rfl,hl,h1,h0,h2⟩:=hr.2 a ha;obtain⟨c0,c1,c2,c3,c4,c5,c6,c7,c8,c9,c10,c11,c12,c13⟩:=h1;have HK:Hid (IntRow W KB (F a).kids):=h0;clear hki hr hgt hB h0 h2;unfold ndV;rw[hk,hg]
 simp only[O,Q];obtain⟨t,HT⟩: ∃t,Hid (bs (bdX F a 5)=t):=⟨_,rfl⟩;have ht:t.size<=116977784950520:=by rw[<-HT.out,QD];exact hz
 have z1: ¬9223372036854775807<1+t.size:=by omega
 have HF:Hid ((⟨#[45]⟩:ByteArray)++t=bs ([45]++bdX F a 5)):=by
  show _=_;rw[<-HT.out,show(⟨#[45]⟩:ByteArray)=bs [45]from rfl,Zc]
 have a0:(0:Int)<=(a:Int):=by omega
 have a1:(a:Int)<(n:Int):=by omega
 clear hg hz;go_enter func155,ntmps155;go_wp2_with fail
 refine(HB.out _ KB kb (HR.out.below (by go_grown)) (HG.out.below (by go_grown)) (HK.out.below (by go_grown))).mono ?_;rintro e w1 ⟨rfl,hb⟩;rw[HT.out];have K1:=Qb (w:=W) (by go_grown) hb;clear hb;go_wp2_with fail
 go_ret;exact⟨QC HF.out,K1⟩
theorem Ql4{a b:Nat}(hk:(F i).k=5)(hg:(F i).kids= [(a:Int),(b:Int)])(ho:1<=(F i).o/\(F i).o<=11)(ha:a<n)(hb:b<n)(hA:BtC A n cap F a (lvl (F i).o))(hB:BtC A n cap F b (lvl (F i).o+1))(hza:(bdX F a (lvl (F i).o)).length<=116977784950520)(hzb:(bdX F b (lvl (F i).o+1)).length<=116977784950520)(W:World)(KA:Option Addr)(kc:Nat)(hr:FnRow W A n F)(hgt:GT W)(hki:IntRow W KA (F i).kids):
  S prog 155 #[H A n cap,ndV (F i) KA kc] W fun e w'=>e= M (G (bs (bdX F a (lvl (F i).o)++sgT (F i).o++bdX F b (lvl (F i).o+1))))/\Below W.heap.size W w':=by
 have HR:Hid (FnRow W A n F):=hr;have HG:Hid (GT W):=hgt;have HA:Hid (BtC A n cap F a (lvl (F i).o)):=hA;have HB:Hid (BtC A n cap F b (lvl (F i).o+1)):=hB;have hn:=hr.1;unfold ja at hn;rw[hg]at hki
 obtain⟨b1,o1,rfl,hl1,e1⟩:=hki.2 0 (by simp);obtain⟨b2,o2,e9,_,e2⟩:=hki.2 1 (by simp);cases e9
 simp only[Z,List.getD_cons_succ,Nat.add_zero]at e1 e2;obtain⟨q,p,KB,kb,rfl,hl,h1,h4,_⟩:=hr.2 a ha;obtain⟨c0,c1,c2,c3,c4,c5,c6,c7,c8,c9,c10,c11,c12,c13⟩:=h1;obtain⟨q',p',KC,kd,e9,_,h1,h0,_⟩:=hr.2 b hb;cases e9
 obtain⟨d0,d1,d2,d3,d4,d5,d6,d7,d8,d9,d10,d11,d12,d13⟩:=h1;have HK:Hid (IntRow W KB (F a).kids):=h4;have H0:Hid (IntRow W KC (F b).kids):=h0;clear hki hr hgt hB h4 hA h0;obtain⟨m,HM⟩: ∃m:Nat,Hid ((F i).o=(m:Int)):=⟨(F i).o.toNat,by show _=_;omega⟩;have hm:1<=m/\m<=11:=by rw[HM.out]at ho;omega
 obtain⟨t0,t1⟩:=HG.out.ot m hm.2;have h7:=HG.out.ot.lt;have hgl2:0<W.heap.size:=Nat.lt_of_le_of_lt (Nat.zero_le _) h7;have h5:bnO m=lvl (m:Int):=by unfold bnO;rw[nG (by omega)]
 rw[h5]at t1;clear h5;obtain⟨h9,h8⟩:=Jf (m:Int);rw[HM.out]at HA HB hza hzb ⊢;unfold ndV;rw[hk,hg,HM.out];simp only[O,Q]
 obtain⟨L,HL⟩: ∃L,Hid (lvl (m:Int)=L):=⟨_,rfl⟩;rw[HL.out]at t1 h9 h8 HA HB hza hzb ⊢;obtain⟨sg,h3⟩: ∃s,Hid (bs (sgT (m:Int))=s):=⟨_,rfl⟩;have hsg:sg.size<=2:=by rw[<-h3.out,QD];exact Hm _
 rw[h3.out]at t0;obtain⟨t,HT⟩: ∃t,Hid (bs (bdX F a L)=t):=⟨_,rfl⟩;obtain⟨u,HU⟩: ∃t,Hid (bs (bdX F b (L+1))=t):=⟨_,rfl⟩;have ht:t.size<=116977784950520:=by rw[<-HT.out,QD];exact hza
 have hu:u.size<=116977784950520:=by rw[<-HU.out,QD];exact hzb
 obtain⟨r1,r2⟩:(∀W,(Op.stringOp .add t sg).run prog W= .ok (G (t++sg)) W)/\(∀W,(Op.stringOp .add (t++sg) u).run prog W= .ok (G (t++sg++u)) W):=by
  refine⟨fun W=>J W _ _ ?_,fun W=>J W _ _ ?_⟩
  ·omega
  ·rw[ByteArray.size_append];omega
 have HF:Hid (t++sg++u=bs (bdX F a L++sgT (m:Int)++bdX F b (L+1))):=by
  show _=_;rw[<-HT.out,<-HU.out,<-h3.out,Zc,Zc]
 have hwr:IntKind.i64.wrap (L+1)=L+1:=by rw[IntKind.wrap_i64];omega
 have a0:(0:Int)<=(a:Int):=by omega
 have a1:(a:Int)<(n:Int):=by omega
 have lA:b1<W.heap.size+2:=by omega
 have lB:q<W.heap.size+2:=by omega
 have lA1:b1<W.heap.size+1:=by omega
 have lB1:q<W.heap.size+1:=by omega
 have bb0:(0:Int)<=(b:Int):=by omega
 have bb1:(b:Int)<(n:Int):=by omega
 have m0:(0:Int)<=(m:Int):=by omega
 have m1:(m:Int)<12:=by omega
 clear hza hzb hg ho;go_enter func155,ntmps155;go_wp2_with fail
 go_region_held3 (fun w'=>(∀bq oq,bq<W.heap.size+2->w'.cell? ⟨bq,oq,none⟩=((W.alloc (I #[C D 5,C D m,C D (F i).ck,C D (F i).cn,G (F i).cs,C D (F i).ac,C D (F i).ar,E (F i).af,E (F i).ag,C D (F i).bc,C D (F i).br,E (F i).bf,E (F i).bg,H (some ⟨b1,o1,none⟩) 2 kc] 177)).alloc (I #[G sg,C D L] 216)).cell? ⟨bq,oq,none⟩)/\W.heap.size+2<=w'.heap.size/\Below (W.heap.size+2) ((W.alloc (I #[C D 5,C D m,C D (F i).ck,C D (F i).cn,G (F i).cs,C D (F i).ac,C D (F i).ar,E (F i).af,E (F i).ag,C D (F i).bc,C D (F i).br,E (F i).bf,E (F i).bg,H (some ⟨b1,o1,none⟩) 2 kc] 177)).alloc (I #[G sg,C D L] 216)) w')
  (exact QE (by go_size) (by go_grown))
  (first
  | (go_at_call_of 184 (U .i64 L);refine(HA.out _ KB kb (HR.out.below (Yz (n:=2) (X:=((W.alloc (I #[C D 5,C D m,C D (F i).ck,C D (F i).cn,G (F i).cs,C D (F i).ac,C D (F i).ar,E (F i).af,E (F i).ag,C D (F i).bc,C D (F i).br,E (F i).bf,E (F i).bg,H (some ⟨b1,o1,none⟩) 2 kc] 177)).alloc (I #[G sg,C D L] 216))) (by go_grown) (by go_grown))) (HG.out.below (Yz (n:=2) (X:=((W.alloc (I #[C D 5,C D m,C D (F i).ck,C D (F i).cn,G (F i).cs,C D (F i).ac,C D (F i).ar,E (F i).af,E (F i).ag,C D (F i).bc,C D (F i).br,E (F i).bf,E (F i).bg,H (some ⟨b1,o1,none⟩) 2 kc] 177)).alloc (I #[G sg,C D L] 216))) (by go_grown) (by go_grown))) (HK.out.below (Yz (n:=2) (X:=((W.alloc (I #[C D 5,C D m,C D (F i).ck,C D (F i).cn,G (F i).cs,C D (F i).ac,C D (F i).ar,E (F i).af,E (F i).ag,C D (F i).bc,C D (F i).br,E (F i).bf,E (F i).bg,H (some ⟨b1,o1,none⟩) 2 kc] 177)).alloc (I #[G sg,C D L] 216))) (by go_grown) (by go_grown)))).mono ?_;rintro e wr ⟨rfl,hb⟩;rw[HT.out];obtain⟨h2,h6⟩:=Qk (B:=W.heap.size+2) (X:=((W.alloc (I #[C D 5,C D m,C D (F i).ck,C D (F i).cn,G (F i).cs,C D (F i).ac,C D (F i).ar,E (F i).af,E (F i).ag,C D (F i).bc,C D (F i).br,E (F i).bf,E (F i).bg,H (some ⟨b1,o1,none⟩) 2 kc] 177)).alloc (I #[G sg,C D L] 216))) (by go_grown) (by go_size) hb;have hC:=fun b o h=>h2.cell (p:=⟨b,o,none⟩) h;clear hb)
  | (go_at_call 184;refine(HB.out _ KC kd (HR.out.below (Yz (n:=2) (X:=((W.alloc (I #[C D 5,C D m,C D (F i).ck,C D (F i).cn,G (F i).cs,C D (F i).ac,C D (F i).ar,E (F i).af,E (F i).ag,C D (F i).bc,C D (F i).br,E (F i).bf,E (F i).bg,H (some ⟨b1,o1,none⟩) 2 kc] 177)).alloc (I #[G sg,C D L] 216))) (by go_grown) (by go_grown))) (HG.out.below (Yz (n:=2) (X:=((W.alloc (I #[C D 5,C D m,C D (F i).ck,C D (F i).cn,G (F i).cs,C D (F i).ac,C D (F i).ar,E (F i).af,E (F i).ag,C D (F i).bc,C D (F i).br,E (F i).bf,E (F i).bg,H (some ⟨b1,o1,none⟩) 2 kc] 177)).alloc (I #[G sg,C D L] 216))) (by go_grown) (by go_grown))) (H0.out.below (Yz (n:=2) (X:=((W.alloc (I #[C D 5,C D m,C D (F i).ck,C D (F i).cn,G (F i).cs,C D (F i).ac,C D (F i).ar,E (F i).af,E (F i).ag,C D (F i).bc,C D (F i).br,E (F i).bf,E (F i).bg,H (some ⟨b1,o1,none⟩) 2 kc] 177)).alloc (I #[G sg,C D L] 216))) (by go_grown) (by go_grown)))).mono ?_;rintro e wr ⟨rfl,hb⟩;rw[HU.out];obtain⟨h2,h6⟩:=Qk (B:=W.heap.size+2) (X:=((W.alloc (I #[C D 5,C D m,C D (F i).ck,C D (F i).cn,G (F i).cs,C D (F i).ac,C D (F i).ar,E (F i).af,E (F i).ag,C D (F i).bc,C D (F i).br,E (F i).bf,E (F i).bg,H (some ⟨b1,o1,none⟩) 2 kc] 177)).alloc (I #[G sg,C D L] 216))) (by go_grown) (by go_size) hb;have hC:=fun b o h=>h2.cell (p:=⟨b,o,none⟩) h;clear hb))
 all_goals go_wp2_with fail
 all_goals go_ret
 all_goals exact⟨QC HF.out,Yz (n:=2) (X:=((W.alloc (I #[C D 5,C D m,C D (F i).ck,C D (F i).cn,G (F i).cs,C D (F i).ac,C D (F i).ar,E (F i).af,E (F i).ag,C D (F i).bc,C D (F i).br,E (F i).bf,E (F i).bg,H (some ⟨b1,o1,none⟩) 2 kc] 177)).alloc (I #[G sg,C D L] 216))) (by go_grown) (by go_grown)⟩
theorem Qai(z:Int)(hn:NtC A n cap F i)(hx:(F i).k=5->1<=(F i).o/\(F i).o<=11)(hz:(TX F i).length<=116977784950510):BtC A n cap F i z:=by
 intro W KA kc hr hg hk;have HR:Hid (FnRow W A n F):=hr;have HG:Hid (GT W):=hg;have HK:Hid (IntRow W KA (F i).kids):=hk;have HN:Hid (NtC A n cap F i):=hn;obtain⟨t,HT⟩: ∃t,Hid (bs (TX F i)=t):=⟨_,rfl⟩;have ht:t.size<=116977784950510:=by rw[<-HT.out,QD];exact hz
 have z1: ¬9223372036854775807<1+t.size:=by omega
 have z2: ¬9223372036854775807<1+t.size+1:=by omega
 clear hr hg hk hn hz;unfold ndV;by_cases h5:(F i).k=5
 ·obtain⟨m,HM⟩: ∃m:Nat,Hid ((F i).o=(m:Int)):=⟨(F i).o.toNat,by show _=_;have:=hx h5;omega⟩;have hm:1<=m/\m<=11:=by have:=hx h5;rw[HM.out]at this;omega
  have q0:(0:Int)<=(m:Int):=by omega
  have q1:(m:Int)<12:=by omega
  obtain⟨t0,t1⟩:=HG.out.ot m hm.2;have h2:=HG.out.ot.lt;have hgl2:0<W.heap.size:=Nat.lt_of_le_of_lt (Nat.zero_le _) h2;have hb:bnO m=lvl (m:Int):=by unfold bnO;rw[nG (by omega)]
  rw[hb]at t1;clear hb;obtain⟨L,HL⟩: ∃L,Hid (lvl (m:Int)=L):=⟨_,rfl⟩;rw[HL.out]at t1;have h4:Hid (L<z->bdX F i z= [40]++TX F i++ [41]):=fun hl=>by unfold bdX;rw[pS ⟨h5,by rw[HM.out,HL.out];exact hl⟩]
  have h3:Hid (¬L<z->bdX F i z=TX F i):=fun hl=>by unfold bdX;rw[nG (fun e=>hl (by have:=e.2;rw[HM.out,HL.out]at this;exact this))]
  have h0:=HN.out;unfold NtC ndV at h0;rw[HM.out,h5]at h0 ⊢;have h1:=(show Hid _ from h0);clear h0;by_cases hl:L<z
  ·have HF:Hid ((⟨#[40]⟩:ByteArray)++t++(⟨#[41]⟩:ByteArray)=bs (bdX F i z)):=by
    show _=_;rw[h4.out hl,<-HT.out,show(⟨#[40]⟩:ByteArray)=bs [40]from rfl,show(⟨#[41]⟩:ByteArray)=bs [41]from rfl,Zc,Zc]
   go_enter func184,ntmps184;go_wp2_with fail
   refine(h1.out _ KA kc (HR.out.below (by go_grown)) (HG.out.below (by go_grown)) (HK.out.below (by go_grown))).mono ?_;rintro e w1 ⟨rfl,hb⟩;rw[HT.out];obtain⟨hc,hf,hC,hF,hz,hk,l0⟩:=bk1 (w:=W) hb;clear hb;go_wp2_with fail
   go_ret;exact⟨QC HF.out,by go_grown⟩
  ·have HF:Hid (t=bs (bdX F i z)):=by show _=_;rw[h3.out hl,HT.out]
   go_enter func184,ntmps184;go_wp2_with fail
   refine(h1.out _ KA kc (HR.out.below (by go_grown)) (HG.out.below (by go_grown)) (HK.out.below (by go_grown))).mono ?_;rintro e w1 ⟨rfl,hb⟩;rw[HT.out];obtain⟨hc,hf,hC,hF,hz,hk,l0⟩:=bk1 (w:=W) hb;clear hb;go_wp2_with fail
   go_ret;exact⟨QC HF.out,by go_grown⟩
 ·have h5':((F i).k==5)=false:=by simpa using h5
  have HF:Hid (t=bs (bdX F i z)):=by show _=_;unfold bdX;rw[nG (fun e=>h5 e.1),HT.out]
  clear hx;go_enter func184,ntmps184;go_wp2_with fail
  refine(HN.out _ KA kc (HR.out.below (by go_grown)) (HG.out.below (by go_grown)) (HK.out.below (by go_grown))).mono ?_;rintro e w1 ⟨rfl,hb⟩;rw[HT.out];obtain⟨hc,hf,hC,hF,hz,hk,l0⟩:=bk1 (w:=W) hb;clear hb;go_wp2_with fail
  go_ret;exact⟨QC HF.out,by go_grown⟩
theorem infoStr:(prog.info? 9).map (fun i=>(i.zero,i.size,i.bytes))=some (some (G ⟨#[]⟩),1,16):=by kernel_rfl
theorem Qi3(bk kl:Nat)(ts:List (List UInt8))(w:World)(hl:ts.length=kl)(hc: ∀(j:Nat) x,ts[j]? =some x->w.cell? ⟨bk,j,none⟩=some (G (bs x)))(hbk:bk<w.heap.size)(hkl:kl<=1000)(hlen:(jn ts).length<=140737488355328):
  S prog 185 #[H (some ⟨bk,0,none⟩) kl kl,G ⟨#[44]⟩] w fun e w'=>e= M (G (bs (jn ts)))/\Below w.heap.size w w':=by
 have e1:(ts.map bs).map (fun y=>y.data.toList)=ts:=by
  rw[List.map_map];exact List.map_id _
 have e2:(ts.map bs).length=kl:=by rw[jf,hl]
 have hj:Lib.join ((ts.map bs).map (fun y=>y.data.toList)) (⟨#[44]⟩:ByteArray).data.toList=jn ts:=by rw[e1];exact Qrf ts
 have c:=Tryz.strings_Join bk 0 kl (ts.map bs) ⟨#[44]⟩ w (fun j y hy=>by
  rw[jc]at hy;cases ht:ts[j]? with
  | none=>rw[ht]at hy;cases hy
  | some z=>
   rw[ht]at hy;cases hy
   rw[Nat.zero_add]
   exact hc j z ht) hbk (by omega) (by omega) (by rw[hj];exact hlen)
 rw[e2,hj]at c;exact c
theorem Qnz{ks:List Int}{t:Nat}(h:t<ks.length):ks.getD t 0∈ks:=by
 rw[R,T h];exact List.getElem_mem h
theorem Qwk{ks:List Int}{f:Int->List UInt8}{j:Nat}{x:List UInt8}(h:(ks.map f)[j]? =some x):j<ks.length/\x=f (ks.getD j 0):=by
 rw[jc]at h;cases hk:ks[j]? with
 | none=>rw[hk]at h;cases h
 | some z=>
  rw[hk]at h;cases h
  exact⟨(List.getElem?_eq_some_iff.1 hk).1,by rw[R,hk];rfl⟩
theorem Ql3(hi:i<n)(hG:QT (fG F) n)(hk:(F i).k=6)(ho:1<=(F i).o/\(F i).o<=10)(hl:1<=(F i).kids.length/\(F i).kids.length<=10)(hN: ∀c∈(F i).kids,NtC A n cap F c.toNat)(hz:(TX F i).length<=116977784950510)(W:World)(KA:Option Addr)(kc:Nat)(hr:FnRow W A n F)(hgt:GT W)(hki:IntRow W KA (F i).kids):
  S prog 155 #[H A n cap,ndV (F i) KA kc] W fun e w'=>e= M (G (bs (TX F i)))/\Below W.heap.size W w':=by
 have HR:Hid (FnRow W A n F):=hr;have HG:Hid (GT W):=hgt;have g5:Hid (IntRow W KA (F i).kids):=hki;have hn:=hr.1;unfold ja at hn;obtain⟨ks,h8⟩: ∃ks,Hid ((F i).kids=ks):=⟨_,rfl⟩;have HN:Hid (∀c∈ks,NtC A n cap F c.toNat):=by show∀c∈ks,_;rw[<-h8.out];exact hN
 have x5:Hid (∀c∈ks,0<=c/\c<(n:Int)):=by
  show∀c∈ks,_;rw[<-h8.out];exact fun c hc=>by have:=hG i hi c hc;omega
 have H3:Hid (TX F i=fnT (F i).o++ [40]++jn (ks.map fun c=>TX F c.toNat)++ [41]):=by show _=_;rw[<-h8.out];exact Gf hG hi hk
 clear hN hki hr hgt hG;rw[h8.out]at hl g5;obtain⟨kl,h7⟩: ∃kl,Hid (ks.length=kl):=⟨_,rfl⟩;rw[h7.out]at hl;obtain⟨m,HM⟩: ∃m:Nat,Hid ((F i).o=(m:Int)):=⟨(F i).o.toNat,by show _=_;omega⟩;have hm:1<=m/\m<=10:=by rw[HM.out]at ho;omega
 rw[HM.out]at H3;unfold ndV;rw[hk,h8.out,h7.out,HM.out];have m0:(0:Int)<=(m:Int):=by omega
 have m1:(m:Int)<11:=by omega
 obtain⟨i0,G3,g9,g8,g7⟩:=info_parts infoStr;clear ho;go_enter func155,ntmps155;go_wp2_with (refine wpList_make_full _ rfl _ _ 157 rfl (W.heap.size+1) 9 i0 _ 1 underlying157 G3 g9 g8 _ _ _ _ kl rfl rfl rfl rfl ?m1 ?m2 ?m3 ?_)
 case m1=>rw[g7];omega
 case m2=>unfold ja;omega
 case m3=>simp
 intro w1 h0 hgrow;have H1:Below (W.heap.size+1) (W.alloc (I #[C D 6,C D m,C D (F i).ck,C D (F i).cn,G (F i).cs,C D (F i).ac,C D (F i).ar,E (F i).af,E (F i).ag,C D (F i).bc,C D (F i).br,E (F i).bf,E (F i).bg,H KA kl kc] 177)) w1:=(Below.refl _ _).grown hgrow (by simp) (fun k hk=>by cases hk);obtain⟨ys,h0⟩: ∃ys,w1.ownsRow (W.heap.size+1) 9 1 (H (some ⟨W.heap.size+1,0,none⟩) kl kl) kl ys:=⟨_,by simpa using h0⟩;clear hgrow;have HO:Hid (w1.ownsRow (W.heap.size+1) 9 1 (H (some ⟨W.heap.size+1,0,none⟩) kl kl) kl ys):=h0;have G4:=fun b o h=>H1.cell (p:=⟨b,o,none⟩) h;clear h0
 go_wp2_with fail
 go_loopw [83] (fun j wr=> ∃t:Nat,t<=kl/\j= C D t/\(∃ys,wr.ownsRow (W.heap.size+1) 9 1 (H (some ⟨W.heap.size+1,0,none⟩) kl kl) kl ys/\ ∀u,u<t->ys[u]? =some (G (bs (TX F (ks.getD u 0).toNat))))/\Below (W.heap.size+1) (W.alloc (I #[C D 6,C D m,C D (F i).ck,C D (F i).cn,G (F i).cs,C D (F i).ac,C D (F i).ar,E (F i).af,E (F i).ag,C D (F i).bc,C D (F i).br,E (F i).bf,E (F i).bg,H KA kl kc] 177)) wr) (fun j _=>kl-(intOf j).toNat)
 case atStart=>exact⟨0,Nat.zero_le _,rfl,⟨ys,HO.out,fun u hu=>by omega⟩,H1⟩
 case round=>
  clear HO H1 G4;obtain⟨t,ht,rfl,⟨ys,h0,h9⟩,h3⟩:=hrel;have HW:Hid (Below W.heap.size W wr):=Yz (n:=1) (X:=(W.alloc (I #[C D 6,C D m,C D (F i).ck,C D (F i).cn,G (F i).cs,C D (F i).ac,C D (F i).ar,E (F i).af,E (F i).ag,C D (F i).bc,C D (F i).br,E (F i).bf,E (F i).bg,H KA kl kc] 177))) (by go_grown) h3;by_cases H8:t<kl
  ·obtain⟨b1,o1,rfl,g1,e1⟩:=g5.out.2 t (by rw[h7.out];exact H8);rw[<-HW.out.cell (p:=⟨_,_,none⟩) g1]at e1;have h5:ks.getD t 0∈ks:=Qnz (by rw[h7.out];exact H8);have G0:=x5.out _ h5;have H0:=HN.out _ h5;obtain⟨a,HA⟩: ∃a:Nat,Hid (ks.getD t 0=(a:Int)):=⟨(ks.getD t 0).toNat,by show _=_;omega⟩;rw[HA.out]at e1 G0 H0
   rw[Int.toNat_natCast]at H0;have x7:Hid (NtC A n cap F a):=H0;obtain⟨q,p,KB,kb,rfl,H9,H7,g2,_⟩:=HR.out.2 a (by omega);have HK:Hid (IntRow wr KB (F a).kids):=g2.below HW.out;obtain⟨c0,c1,c2,c3,c4,c5,c6,c7,c8,c9,x1,G9,G8,G7⟩:=H7.below H9 HW.out;have lq:q<wr.heap.size:=Nat.lt_of_lt_of_le H9 HW.out.size;have l1:b1<wr.heap.size:=Nat.lt_of_lt_of_le g1 HW.out.size
   have g6:Hid (Below (W.heap.size+1) (W.alloc (I #[C D 6,C D m,C D (F i).ck,C D (F i).cn,G (F i).cs,C D (F i).ac,C D (F i).ar,E (F i).af,E (F i).ag,C D (F i).bc,C D (F i).br,E (F i).bf,E (F i).bg,H (some ⟨b1,o1,none⟩) kl kc] 177)) wr):=h3;have HY:Hid (∀u,u<t->ys[u]? =some (G (bs (TX F (ks.getD u 0).toNat)))):=h9;have x6:Hid (wr.ownsRow (W.heap.size+1) 9 1 (H (some ⟨W.heap.size+1,0,none⟩) kl kl) kl ys):=h0;obtain⟨tx,g4⟩: ∃tx,Hid (bs (TX F a)=tx):=⟨_,rfl⟩;have t0:(0:Int)<=(t:Int):=by omega
   have t1:(t:Int)<(kl:Int):=by omega
   have a0:(0:Int)<=(a:Int):=by omega
   have a1:(a:Int)<(n:Int):=by omega
   clear h3 h9 h0 H0 g2 H7 h5;go_wp2_with fail
   refine(x7.out _ KB kb (HR.out.below HW.out) (HG.out.below HW.out) HK.out).mono ?_;rintro e w2 ⟨rfl,hb⟩;rw[g4.out];have h6:=hd (Qd x6.out hb);have H6:Hid (Below (W.heap.size+1) (W.alloc (I #[C D 6,C D m,C D (F i).ck,C D (F i).cn,G (F i).cs,C D (F i).ac,C D (F i).ar,E (F i).af,E (F i).ag,C D (F i).bc,C D (F i).br,E (F i).bf,E (F i).bg,H (some ⟨b1,o1,none⟩) kl kc] 177)) w2):=g6.out.trans (hb.mono (by have:=g6.out.size;simpa using this));clear hb c0 c1 c2 c3 c4 c5 c6 c7 c8 c9 x1 G9 G8 G7 e1;obtain⟨A',H2,e,_,hc⟩:=Qr h6.out
   cases e
   obtain⟨g0,e0,_,hg,d0,f0⟩:=hc t (by omega);cases e0
   have G1:=h6.out.1;obtain⟨x0,y0⟩: ∃x,ys[t]? =some x:=⟨_,T (by omega)⟩;rw[y0]at d0;have x4:Hid ((w2.setCell ⟨W.heap.size+1,t,none⟩ (G tx)).ownsRow (W.heap.size+1) 9 1 (H (some ⟨W.heap.size+1,0,none⟩) kl kl) kl (ys.set t (G tx))):=(h6.out.stored t _).1
   have x2:Hid (∀u,u<t+1->(ys.set t (G tx))[u]? =some (G (bs (TX F (ks.getD u 0).toNat)))):=fun u hu=>by
    by_cases e:t=u
    ·subst e;rw[List.getElem?_set_self (by omega),HA.out,Int.toNat_natCast,g4.out]
    ·rw[List.getElem?_set_ne e];exact HY.out u (by omega)
   have X2:Hid (Below (W.heap.size+1) (W.alloc (I #[C D 6,C D m,C D (F i).ck,C D (F i).cn,G (F i).cs,C D (F i).ac,C D (F i).ar,E (F i).af,E (F i).ag,C D (F i).bc,C D (F i).br,E (F i).bf,E (F i).bg,H (some ⟨b1,o1,none⟩) kl kc] 177)) (w2.setCell ⟨W.heap.size+1,t,none⟩ (G tx))):=H6.out.setCell (Nat.le_refl _) _;clear hc y0 G1;go_wp2_with fail
   all_goals
    go_roundw
    case rel=>exact⟨t+1,by omega,by go_num,⟨_,x4.out,x2.out⟩,X2.out⟩
    case measure=>simp[intOf];omega
  ·obtain rfl:t=kl:=by omega
   have q1: ¬(t:Int)<(t:Int):=by omega
   have h4:=fun o=>h3.cell (p:=⟨W.heap.size,o,none⟩) (Nat.lt_succ_self _);have o1:wr.cell? ⟨W.heap.size,1,none⟩=some (C D m):=(h4 1).trans (by simp);have lw:W.heap.size<wr.heap.size:=by have:=h3.size;simp at this;omega
   have gl:=HG.out.fn.lt;have G5:=Nat.lt_of_le_of_lt (Nat.zero_le _) gl;have G5:1<wr.heap.size:=Nat.lt_trans gl lw;have gl3:0<wr.heap.size:=Nat.lt_of_le_of_lt (Nat.zero_le _) lw;have G6:wr.cell? ⟨1,m*3,none⟩=some (G (bs (fnT m))):=(HW.out.cell (p:=⟨_,_,none⟩) gl).trans (HG.out.fn m hm.2);obtain⟨fs,H5⟩: ∃s,Hid (bs (fnT (m:Int))=s):=⟨_,rfl⟩;have hfs:fs.size<=5:=by rw[<-H5.out,QD];exact Qam _
   rw[H5.out]at G6;obtain⟨js,H4⟩: ∃s,Hid (bs (jn (ks.map fun c=>TX F c.toNat))=s):=⟨_,rfl⟩
   have g3:(jn (ks.map fun c=>TX F c.toNat)).length<=116977784950510:=by
    rw[H3.out]at hz;simp only[jb,O,Q]at hz;omega
   have hjs:js.size<=116977784950510:=by rw[<-H4.out,QD];exact g3
   have x8:Hid ((jn (ks.map fun c=>TX F c.toNat)).length<=140737488355328):=Nat.le_trans g3 (by omega)
   have X0:Hid (∀wj,Below wr.heap.size wr wj-> ∀(j:Nat) x,(ks.map fun c=>TX F c.toNat)[j]? =some x->wj.cell? ⟨W.heap.size+1,j,none⟩=some (G (bs x))):=fun wj hwj j x hx=>by
    obtain⟨hj,rfl⟩:=Qwk hx;rw[h7.out]at hj;obtain⟨A',H2,e,_,hc⟩:=Qr h0;cases e
    obtain⟨g0,e0,_,hg,d0,_⟩:=hc j (by omega);cases e0
    exact(hwj.cell (p:=⟨_,_,none⟩) hg).trans (d0.trans (h9 j hj))
   have X1:Hid (W.heap.size+1<wr.heap.size):=(h0.lt (W.heap.size+1) rfl).2;have x3:Hid ((ks.map fun c=>TX F c.toNat).length=t):=by show _=_;rw[jf,h7.out]
   obtain⟨r1,r2,r3⟩:(∀W,(Op.stringOp .add fs (⟨#[40]⟩:ByteArray)).run prog W= .ok (G (fs++(⟨#[40]⟩:ByteArray))) W)/\(∀W,(Op.stringOp .add (fs++(⟨#[40]⟩:ByteArray)) js).run prog W= .ok (G (fs++(⟨#[40]⟩:ByteArray)++js)) W)/\(∀W,(Op.stringOp .add (fs++(⟨#[40]⟩:ByteArray)++js) (⟨#[41]⟩:ByteArray)).run prog W= .ok (G (fs++(⟨#[40]⟩:ByteArray)++js++(⟨#[41]⟩:ByteArray))) W):=by
    have h1:(⟨#[40]⟩:ByteArray).size=1:=rfl;have h2:(⟨#[41]⟩:ByteArray).size=1:=rfl;refine⟨fun W=>J W _ _ ?_,fun W=>J W _ _ ?_,fun W=>J W _ _ ?_⟩
    ·omega
    ·rw[ByteArray.size_append];omega
    ·rw[ByteArray.size_append,ByteArray.size_append];omega
   have HF:Hid (fs++(⟨#[40]⟩:ByteArray)++js++(⟨#[41]⟩:ByteArray)=bs (TX F i)):=by
    show _=_;rw[H3.out,<-H5.out,<-H4.out,show(⟨#[40]⟩:ByteArray)=bs [40]from rfl,show(⟨#[41]⟩:ByteArray)=bs [41]from rfl,Zc,Zc,Zc]
   clear h0 h9 h3 h4 hz;go_wp2_with fail
   go_region_held3 (fun w'=>(∀bq oq,bq<wr.heap.size->w'.cell? ⟨bq,oq,none⟩=wr.cell? ⟨bq,oq,none⟩)/\wr.heap.size<=w'.heap.size/\Below wr.heap.size wr w')
    (exact QE (Nat.le_refl _) (by go_grown))
    (first
    | (go_at_call 185;refine(Qi3 (W.heap.size+1) t (ks.map fun c=>TX F c.toNat) _ x3.out (X0.out _ (by go_grown)) (Nat.lt_of_lt_of_le X1.out (by go_size)) (by omega) x8.out).mono ?_;rintro e w2 ⟨rfl,hb⟩;rw[H4.out];obtain⟨G2,hzz⟩:=Qk (B:=wr.heap.size) (X:=wr) (by go_grown) (by go_size) hb;have hC:=fun b o h=>G2.cell (p:=⟨b,o,none⟩) h;clear hb))
   all_goals go_wp2_with fail
   all_goals go_ret
   all_goals exact⟨QC HF.out,Qb HW.out (by go_grown)⟩
theorem Hp{c r:Int}(h:Qf c r=true): ∃i:Nat,r=(i:Int)/\i<100:=by
 have:=of_decide_eq_true h;exact⟨r.toNat,by omega,by omega⟩
theorem XZ(h:Zb F n=true)(hi:i<n)(hd:Yt (fG F) i<=12)(z:Int):(bdX F i z).length<=116977784950520:=by
 have:=Jl h hi hd;unfold bdX;split
 ·simp only[jb,O,Q];omega
 ·omega
theorem DI(h:Zb F n=true): ∀i,i<n->Yt (fG F) i<=12->NtC A n cap F i:=by
 obtain⟨h1,h60,hn,hr,hdr⟩:=VV h;intro i;induction i using Nat.strongRecOn with
 | ind i ih=>
  intro hi hd
  have h0: ∀c∈(F i).kids,(0<=c/\c<(i:Int))/\Yt (fG F) c<=12:=fun c hc=>by
   have h2:=hr i hi c hc;have h3:=De hr hi hc;exact⟨h2,by omega⟩
  have nt: ∀a:Nat,(a:Int)∈(F i).kids->a<n/\Yt (fG F) a<=12/\NtC A n cap F a:=fun a ha=>by
   have h2:=h0 a ha;exact⟨by omega,h2.2,ih a (by omega) (by omega) h2.2⟩
  have bo: ∀a:Nat,a<n->((F a).k=5->1<=(F a).o/\(F a).o<=11):=fun a ha hk5=>by
   rcases Zl (hn a ha)with⟨e,_⟩ | ⟨e,_⟩ | ⟨e,_⟩ | ⟨e,_⟩ | ⟨e,o1,o2,_⟩ | ⟨e,_⟩
   all_goals first
    | exact⟨o1,o2⟩
    | (exfalso;omega)
  rcases Zl (hn i hi)with⟨hk,hc,hks⟩ | ⟨hk,hc,hks⟩ | ⟨hk,hc,hc',hks⟩ | ⟨hk,c,hks⟩ | ⟨hk,o1,o2,c,d,hks⟩ | ⟨hk,o1,o2,l1,l2⟩
  ·intro W KA kc hrow hg hki;obtain⟨_,_,_,_,_,_,_,_,H2⟩:=hrow.2 i hi;have e:TX F i=Vs (F i).ck (F i).cn (F i).cs:=by rw[ZH (by omega) (by omega) (by omega),Xf,pS hk]
   rw[e];unfold ndV;rw[hk];exact Ql8 _ _ _ _ _ _ _ _ _ _ _ _ W H2 hc hg
  ·intro W KA kc hrow hg hki;obtain⟨j,hj,h7⟩:=Hp hc
   have e:bs (TX F i)=QL (F i).ac j (F i).af (F i).ag:=by
    rw[ZH (by omega) (by omega) (by omega),Xf,nG (by omega),pS hk,plT,hj,Int.toNat_natCast];rfl
   rw[e];unfold ndV;rw[hk,hj];rw[hj]at hc;exact Ql7 _ _ _ _ _ _ _ _ _ _ _ _ W h7 hc
  ·intro W KA kc hrow hg hki;obtain⟨j,hj,h7⟩:=Hp hc;obtain⟨j',h8,h6⟩:=Hp hc'
   have e:bs (TX F i)=QL (F i).ac j (F i).af (F i).ag++(⟨#[58]⟩:ByteArray)++QL (F i).bc j' (F i).bf (F i).bg:=by
    rw[ZH (by omega) (by omega) (by omega),Xf,nG (by omega),nG (by omega),plT,plT,hj,h8,Int.toNat_natCast,Int.toNat_natCast,<-Zc,<-Zc];rfl
   rw[e];unfold ndV;rw[hk,hj,h8];rw[hj]at hc;rw[h8]at hc';exact Ql6 _ _ _ _ _ _ _ _ _ _ _ _ W h7 hc h6 hc'
  ·obtain⟨a,rfl⟩: ∃a:Nat,c=(a:Int):=⟨c.toNat,by have:=(h0 c (by rw[hks];simp)).1;omega⟩;obtain⟨ha,h4,h5⟩:=nt a (by rw[hks];simp);intro W KA kc hrow hg hki;have e:=MS hr hi hk hks;rw[Int.toNat_natCast]at e;rw[e];exact Ql5 hk hks ha (Qai 5 h5 (bo a ha) (Jl h ha h4)) (XZ h ha h4 5) W KA kc hrow hg hki
  ·obtain⟨a,rfl⟩: ∃a:Nat,c=(a:Int):=⟨c.toNat,by have:=(h0 c (by rw[hks];simp)).1;omega⟩;obtain⟨b,rfl⟩: ∃a:Nat,d=(a:Int):=⟨d.toNat,by have:=(h0 d (by rw[hks];simp)).1;omega⟩;obtain⟨ha,h4,h5⟩:=nt a (by rw[hks];simp);obtain⟨hb,H0,H1⟩:=nt b (by rw[hks];simp);intro W KA kc hrow hg hki;have e:=MT hr hi hk hks;rw[Int.toNat_natCast,Int.toNat_natCast]at e
   rw[e];exact Ql4 hk hks ⟨o1,o2⟩ ha hb (Qai _ h5 (bo a ha) (Jl h ha h4)) (Qai _ H1 (bo b hb) (Jl h hb H0)) (XZ h ha h4 _) (XZ h hb H0 _) W KA kc hrow hg hki
  ·intro W KA kc hrow hg hki;exact Ql3 hi hr hk ⟨o1,o2⟩ ⟨l1,l2⟩ (fun c hc=>ih c.toNat (by have:=(h0 c hc).1;omega) (by have:=(h0 c hc).1;omega) (by have h9:=h0 c hc;rw[Int.toNat_of_nonneg h9.1.1];exact h9.2)) (Jl h hi hd) W KA kc hrow hg hki
def ftx(F:Nat->FN)(n:Nat):ByteArray:=if Zb F n=true/\(TX F (n-1)).length<=200 then bs (TX F (n-1))else⟨#[]⟩
theorem Xn(w:World)(h:FnRow w A n F)(hn:n<=1048576)(hkn: ∀i,i<n->(F i).kids.length<=1048576)(hg:GT w):
  S prog 119 #[H A n cap] w fun e w'=>e= M (G (ftx F n))/\Below w.heap.size w w':=by
 have HR:Hid (FnRow w A n F):=h;have h4:Hid (∀i,i<n->(F i).kids.length<=1048576):=hkn;have HG:Hid (GT w):=hg;clear h hkn hg;cases hok:Zb F n
 ·have HE:Hid (ftx F n=⟨#[]⟩):=by show _=_;unfold ftx;rw[nG (fun e=>by rw[hok]at e;cases e.1)]
  have HO:Hid (Zb F n=false):=hok;clear hok;go_enter func119,ntmps119;go_wp2_with fail
  refine(YU _ HR.out hn h4.out HG.out.ft).mono ?_;rintro e w1 ⟨rfl,hb⟩;rw[HO.out];go_wp2_with fail
  go_ret;exact⟨QC HE.out.symm,hb⟩
 ·have HO:Hid (Zb F n=true):=hok;obtain⟨h1,H2,_,hr,h0⟩:=VV hok;obtain⟨m,rfl⟩: ∃m,n=m+1:=⟨n-1,by omega⟩
  have hd:Yt (fG F) m<=12:=by
   have e:(((m+1:Nat):Int)-1)=(m:Int):=by omega
   rw[e]at h0;exact h0
  have HN:Hid (NtC A (m+1) cap F m):=DI hok m (by omega) hd;have hz:=Jl hok (i:=m) (by omega) hd;obtain⟨t,HT⟩: ∃t,Hid (bs (TX F m)=t):=⟨_,rfl⟩;have ht:t.size=(TX F m).length:=by rw[<-HT.out,QD]
  have h9:Hid (t.size<=200->t=ftx F (m+1)):=fun h2=>by unfold ftx;rw[pS ⟨hok,by rw[Nat.add_sub_cancel];omega⟩,Nat.add_sub_cancel,HT.out]
  have h8:Hid (¬t.size<=200->(⟨#[]⟩:ByteArray)=ftx F (m+1)):=fun h2=>by unfold ftx;rw[nG (fun e=>h2 (by have:=e.2;rw[Nat.add_sub_cancel]at this;omega))]
  obtain⟨N,h3⟩: ∃N,Hid (m+1=N):=⟨_,rfl⟩;obtain⟨b,p,KB,kb,rfl,hl,h6,h7,H1⟩:=HR.out.2 m (by omega);have HK:Hid (IntRow w KB (F m).kids):=h7;have H8:Hid (NodeAt w b (p+m*14) (F m) KB kb):=h6;clear h6 h7 H1 hok h0 hd hr hz;rw[h3.out]at HR h4 HO HN h9 h8 hn h1 H2 ⊢;have hmN:(N:Int)-1=(m:Int):=by have:=h3.out;omega
  have m0:(0:Int)<=(m:Int):=by omega
  have m1:(m:Int)<(N:Int):=by have:=h3.out;omega
  go_enter func119,ntmps119;go_wp2_with fail
  refine(YU _ HR.out hn h4.out HG.out.ft).mono ?_;rintro e w1 ⟨rfl,hb⟩;rw[HO.out];have HB:Hid (Below w.heap.size w w1):=hb;obtain⟨c0,c1,c2,c3,c4,c5,c6,c7,c8,c9,H7,H6,H5,H4⟩:=H8.out.below hl hb;have lb:b<w1.heap.size:=Nat.lt_of_lt_of_le hl hb.size;clear hb
  go_wp2_with fail
  refine(HN.out _ KB kb (HR.out.below HB.out) (HG.out.below HB.out) (HK.out.below HB.out)).mono ?_;rintro e w2 ⟨rfl,hb⟩;rw[HT.out];have H0:=hd (Qb HB.out hb);clear hb c0 c1 c2 c3 c4 c5 c6 c7 c8 c9 H7 H6 H5 H4;by_cases h2:t.size<=200
  ·have H3: ¬(200:Int)<(t.size:Int):=by omega
   have HE:=h9.out h2;have h5:Hid (t=ftx F N):=HE;clear HE;go_wp2_with fail
   go_ret;exact⟨QC h5.out,H0.out⟩
  ·have H3:(200:Int)<(t.size:Int):=by omega
   have h5:Hid ((⟨#[]⟩:ByteArray)=ftx F N):=h8.out h2;go_wp2_with fail
   go_ret;exact⟨QC h5.out,H0.out⟩
end Go.Proofs.YtomadadmakdkgaaGreatDoor
