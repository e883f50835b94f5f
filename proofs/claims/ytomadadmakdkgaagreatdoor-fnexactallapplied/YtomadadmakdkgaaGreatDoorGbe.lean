import Derived.Test.YtomadadmakdkgaaGreatDoorMn
import Derived.Test.YtomadadmakdkgaaGreatDoorGbd
open Go.Proofs.Tryz
open Go.Value renaming int → g, bool → r, string → v, slice → C, int → J, bool → R
open Go.IntKind renaming i64 → l, i64 → O
open Go.Obj renaming cells → D
open Go.RowKit renaming Below → E
open Go renaming run_string_add_sum → G, Calls → I, maxLen → Q
open Go.Ending renaming returned → H
open List renaming length_nil → K, take_of_length_le → M, getD_cons_zero → S, length_cons → T
set_option linter.unusedSimpArgs false
set_option linter.unusedVariables false
set_option maxHeartbeats 8000000
set_option maxRecDepth 100000
namespace Go.Proofs.YtomadadmakdkgaaGreatDoor
open Go.RowKit
variable {F:Nat->FN} {i n cap:Nat} {A:Option Addr}
def StC(A:Option Addr)(n cap:Nat)(F:Nat->FN)(i:Nat)(z:Int):Prop:= ∀(W:World),FnRow W A n F->
 I prog 134 #[C A n cap,g l i,g l z] W fun e w'=>e= H (v (bs (bdX F i z)))/\E W.heap.size W w'
theorem DT{z:Int}(h:(F i).k≠5):bdX F i z=TX F i:=by unfold bdX;rw[nG (fun e=>h e.1)]
theorem Dk:bdX F i 0=TX F i:=by
 unfold bdX;rw[nG (fun e=>by have:=e.2;have h:=Jf (F i).o;omega)]
theorem Eu(s:ByteArray)(w:World)(hs:s.size<=1000):I prog 169 #[v s] w fun e w'=>
  e= H (v (bs ([34]++qt s.data.toList++ [34])))/\w'=w:=by
 go_enter func169,ntmps169;go_wp2_with fail
 go_loop [3,4] (fun v3 v4=> ∃(k:Nat) (o:ByteArray),k<=s.size/\v3= v o/\v4= g l k/\o.size<=1+2*k/\o=bs ([34]++qt (s.data.toList.take k))) (fun _ v4=>s.size-(intOf v4).toNat)
 case atStart=>exact⟨0,⟨#[34]⟩,Nat.zero_le _,rfl,rfl,by decide,rfl⟩
 case round=>
  obtain⟨k,o,hk,rfl,rfl,hz,ho⟩:=hrel;have HO:Hid (o=bs ([34]++qt (s.data.toList.take k))):=ho;clear ho;have q0:(0:Int)<=(k:Int):=by omega
  by_cases h1:k<s.size
  ·have q1:(k:Int)<(s.size:Int):=by omega
   have q2:(k:Int)<=(s.size:Int):=by omega
   have q3:(k:Int)+1<=(s.size:Int):=by omega
   have q4:(k:Int)<=(k:Int)+1:=by omega
   have q5:((k:Int)+1).toNat=k+1:=by omega
   have hx:=Qg4 s k h1;have HQ:Hid (qt (s.data.toList.take (k+1))=qt (s.data.toList.take k)++(if s[k]=34 then [34,34]else [s[k]])):=Qqi s k h1;have z1: ¬9223372036854775807<o.size+1:=by omega
   have z2: ¬9223372036854775807<o.size+1+1:=by omega
   have z3:(s.extract k (k+1)).size=1:=by rw[hx];rfl
   by_cases hb:s[k].toNat=34
   ·have h3:(s[k].toNat:Int)=34:=by omega
    have h0:s[k]=34:=by apply UInt8.toNat_inj.1;rw[hb];rfl
    have HF:Hid (o++(⟨#[34]⟩:ByteArray)++s.extract k (k+1)=bs ([34]++qt (s.data.toList.take (k+1)))):=by
     show _=_;rw[HQ.out,pS h0,hx,h0,HO.out,show(⟨#[34]⟩:ByteArray)=bs [34]from rfl,Zc,Zc];simp
    clear h0 hx;go_wp2_with fail
    all_goals
     go_round
     case rel=>exact⟨k+1,_,by omega,rfl,by go_num,by rw[ByteArray.size_append,ByteArray.size_append,z3,show(⟨#[34]⟩:ByteArray).size=1 from rfl];omega,HF.out⟩
     case measure=>simp[intOf];omega
   ·have h3: ¬(s[k].toNat:Int)=34:=by omega
    have h0:((s[k].toNat:Int)==34)=false:=by simpa using h3
    have h2: ¬s[k]=34:=fun e=>hb (by rw[e];rfl)
    have HF:Hid (o++s.extract k (k+1)=bs ([34]++qt (s.data.toList.take (k+1)))):=by
     show _=_;rw[HQ.out,nG h2,hx,HO.out,Zc];simp
    clear h2 hx;go_wp2_with fail
    all_goals
     go_round
     case rel=>exact⟨k+1,_,by omega,rfl,by go_num,by rw[ByteArray.size_append,z3];omega,HF.out⟩
     case measure=>simp[intOf];omega
  ·have q1: ¬(k:Int)<(s.size:Int):=by omega
   have z1: ¬9223372036854775807<o.size+1:=by omega
   have HF:Hid (o++(⟨#[34]⟩:ByteArray)=bs ([34]++qt s.data.toList++ [34])):=by
    show _=_;rw[HO.out,M (by simp;omega),show(⟨#[34]⟩:ByteArray)=bs [34]from rfl,Zc]
   go_wp2_with fail
   go_ret;exact⟨QC HF.out,rfl⟩
theorem Qkt(z:Int)(hi:i<n)(hk:(F i).k=1)(hc:cOk (F i).ck (F i).cn (F i).cs=true)(W:World)(hr:FnRow W A n F):
  I prog 134 #[C A n cap,g l i,g l z] W fun e w'=>e= H (v (bs (Vs (F i).ck (F i).cn (F i).cs)))/\E W.heap.size W w':=by
 have HR:Hid (FnRow W A n F):=hr;have hn:=hr.1;unfold Q at hn;obtain⟨b,p,KB,kb,rfl,hl,h6,h7,h0⟩:=hr.2 i hi;obtain⟨c0,c1,c2,c3,c4,c5,c6,c7,c8,c9,c10,c11,c12,c13⟩:=h6;rw[hk]at c0;have i0:(0:Int)<=(i:Int):=by omega
 have i1:(i:Int)<(n:Int):=by omega
 have h1:Hid ((F i).cs.size<=Q):=h0;obtain⟨ho,_,_⟩:=XY hc;clear hr h7 h0 hc;obtain⟨ck,h4⟩: ∃ck,Hid ((F i).ck=ck):=⟨_,rfl⟩;obtain⟨cn,h3⟩: ∃ck,Hid ((F i).cn=ck):=⟨_,rfl⟩;obtain⟨cs,h5⟩: ∃ck,Hid ((F i).cs=ck):=⟨_,rfl⟩;rw[h4.out]at c2
 rw[h3.out]at c3;rw[h5.out]at c4 h1;rw[h4.out,h3.out,h5.out]at ho ⊢;by_cases h2:ck=2
 ·subst h2
  have hz:cs.size<=200:=by
   rcases Yr ho with⟨e,_⟩ | ⟨e,_⟩ | ⟨_,_,hr⟩ | ⟨e,_⟩ | ⟨e,_⟩
   ·cases e
   ·cases e
   ·exact Hq hr
   ·cases e
   ·cases e
  have HE:Hid (bs ([34]++qt cs.data.toList++ [34])=bs (Vs 2 cn cs)):=by show _=_;rw[Vs,pS rfl]
  clear ho;go_enter func134,ntmps134;go_wp2_with fail
  refine(Eu cs _ (by omega)).mono ?_;rintro e w1 ⟨rfl,rfl⟩;rw[HE.out];go_wp2_with fail
  go_ret;exact⟨rfl,by go_grown⟩
 ·have h2':(ck==2)=false:=by simpa using h2
  have HE:Hid (txV ck cn cs=bs (Vs ck cn cs)):=by show _=_;rw[Vs,nG h2,Ol]
  clear ho;go_enter func134,ntmps134;go_wp2_with fail
  refine(YQ ck cn cs _ h1.out).mono ?_;rintro e w1 ⟨rfl,hb⟩;rw[HE.out];have K1:=Qb (w:=W) (by go_grown) hb;clear hb;go_wp2_with fail
  go_ret;exact⟨rfl,K1⟩
theorem Qks(z:Int)(hi:i<n)(hk:(F i).k=2){j:Nat}(hj:(F i).ar=(j:Int))(hj9:j<100)(hc:Qf (F i).ac (F i).ar=true)(W:World)(hr:FnRow W A n F):
  I prog 134 #[C A n cap,g l i,g l z] W fun e w'=>e= H (v (QL (F i).ac j (F i).af (F i).ag))/\E W.heap.size W w':=by
 have HR:Hid (FnRow W A n F):=hr;have hn:=hr.1;unfold Q at hn;obtain⟨b,p,KB,kb,rfl,hl,h0,h1,h2⟩:=hr.2 i hi;obtain⟨c0,c1,c2,c3,c4,c5,c6,c7,c8,c9,c10,c11,c12,c13⟩:=h0;rw[hk]at c0;have i0:(0:Int)<=(i:Int):=by omega
 have i1:(i:Int)<(n:Int):=by omega
 rw[hj]at c6 hc;have HC:Hid (Qf (F i).ac j=true):=hc;clear hr h1 h2 hc;go_enter func134,ntmps134;go_wp2_with fail
 refine(Yc _ j _ _ _ hj9 HC.out).mono ?_;rintro e w1 ⟨rfl,hb⟩;have K1:=Qb (w:=W) (by go_grown) hb;clear hb;go_wp2_with fail
 go_ret;exact⟨rfl,K1⟩
theorem Qkr(z:Int)(hi:i<n)(hk:(F i).k=3){j u:Nat}(hj:(F i).ar=(j:Int))(hj9:j<100)(hc:Qf (F i).ac (F i).ar=true)(hu:(F i).br=(u:Int))(hu9:u<100)(hd:Qf (F i).bc (F i).br=true)(W:World)(hr:FnRow W A n F):
  I prog 134 #[C A n cap,g l i,g l z] W fun e w'=>e= H (v (QL (F i).ac j (F i).af (F i).ag++(⟨#[58]⟩:ByteArray)++QL (F i).bc u (F i).bf (F i).bg))/\E W.heap.size W w':=by
 have HR:Hid (FnRow W A n F):=hr;have hn:=hr.1;unfold Q at hn;obtain⟨b,p,KB,kb,rfl,hl,h4,h5,h6⟩:=hr.2 i hi;obtain⟨c0,c1,c2,c3,c4,c5,c6,c7,c8,c9,h7,c11,c12,c13⟩:=h4;rw[hk]at c0;have i0:(0:Int)<=(i:Int):=by omega
 have i1:(i:Int)<(n:Int):=by omega
 rw[hj]at c6 hc;rw[hu]at h7 hd;have HC:Hid (Qf (F i).ac j=true):=hc;have HD:Hid (Qf (F i).bc u=true):=hd;clear hr h5 h6 hc hd;obtain⟨x,h3⟩: ∃p,Hid (QL (F i).ac j (F i).af (F i).ag=p):=⟨_,rfl⟩;obtain⟨y,h2⟩: ∃q,Hid (QL (F i).bc u (F i).bf (F i).bg=q):=⟨_,rfl⟩
 have hp:x.size<=6:=by have:=NK (F i).ac j (F i).af (F i).ag;rw[h3.out]at this;exact this
 have hq:y.size<=6:=by have:=NK (F i).bc u (F i).bf (F i).bg;rw[h2.out]at this;exact this
 rw[h3.out,h2.out]
 obtain⟨r1,r2⟩:(∀W,(Op.stringOp .add x (⟨#[58]⟩:ByteArray)).run prog W= .ok (v (x++(⟨#[58]⟩:ByteArray))) W)/\(∀W,(Op.stringOp .add (x++(⟨#[58]⟩:ByteArray)) y).run prog W= .ok (v (x++(⟨#[58]⟩:ByteArray)++y)) W):=by
  have h1:(⟨#[58]⟩:ByteArray).size=1:=rfl;refine⟨fun W=>G W _ _ ?_,fun W=>G W _ _ ?_⟩
  ·omega
  ·rw[ByteArray.size_append];omega
 go_enter func134,ntmps134;go_wp2_with fail
 go_region_held3 (fun w'=>(∀bq oq,bq<W.heap.size+1->w'.cell? ⟨bq,oq,none⟩=(W.alloc (D #[g l 3,g l (F i).o,g l (F i).ck,g l (F i).cn,v (F i).cs,g l (F i).ac,g l j,r (F i).af,r (F i).ag,g l (F i).bc,g l u,r (F i).bf,r (F i).bg,C KB (F i).kids.length kb] 177)).cell? ⟨bq,oq,none⟩)/\W.heap.size+1<=w'.heap.size/\E (W.heap.size+1) (W.alloc (D #[g l 3,g l (F i).o,g l (F i).ck,g l (F i).cn,v (F i).cs,g l (F i).ac,g l j,r (F i).af,r (F i).ag,g l (F i).bc,g l u,r (F i).bf,r (F i).bg,C KB (F i).kids.length kb] 177)) w')
  (exact QE (by go_size) (by go_grown))
  (first
  | (go_at_call_of 151 (Value.agg #[J O (F i).ac,J O (j:Int),R (F i).af,R (F i).ag]);refine(Yc _ j _ _ _ hj9 HC.out).mono ?_;rintro e wr ⟨rfl,hb⟩;rw[h3.out];obtain⟨h0,hz⟩:=Qk (B:=W.heap.size+1) (X:=(W.alloc (D #[g l 3,g l (F i).o,g l (F i).ck,g l (F i).cn,v (F i).cs,g l (F i).ac,g l j,r (F i).af,r (F i).ag,g l (F i).bc,g l u,r (F i).bf,r (F i).bg,C KB (F i).kids.length kb] 177))) (by go_grown) (by go_size) hb;have hC:=fun b o h=>h0.cell (p:=⟨b,o,none⟩) h;clear hb)
  | (go_at_call_of 151 (Value.agg #[J O (F i).bc,J O (u:Int),R (F i).bf,R (F i).bg]);refine(Yc _ u _ _ _ hu9 HD.out).mono ?_;rintro e wr ⟨rfl,hb⟩;rw[h2.out];obtain⟨h0,hz⟩:=Qk (B:=W.heap.size+1) (X:=(W.alloc (D #[g l 3,g l (F i).o,g l (F i).ck,g l (F i).cn,v (F i).cs,g l (F i).ac,g l j,r (F i).af,r (F i).ag,g l (F i).bc,g l u,r (F i).bf,r (F i).bg,C KB (F i).kids.length kb] 177))) (by go_grown) (by go_size) hb;have hC:=fun b o h=>h0.cell (p:=⟨b,o,none⟩) h;clear hb))
 all_goals go_wp2_with fail
 all_goals go_ret
 all_goals exact⟨rfl,Yz (n:=1) (X:=(W.alloc (D #[g l 3,g l (F i).o,g l (F i).ck,g l (F i).cn,v (F i).cs,g l (F i).ac,g l j,r (F i).af,r (F i).ag,g l (F i).bc,g l u,r (F i).bf,r (F i).bg,C KB (F i).kids.length kb] 177))) (by go_grown) (by go_grown)⟩
theorem Qkq{a:Nat}(z:Int)(hi:i<n)(hk:(F i).k=4)(hg:(F i).kids= [(a:Int)])(hB:StC A n cap F a 5)(hz:(bdX F a 5).length<=116977784950520)(W:World)(hr:FnRow W A n F):
  I prog 134 #[C A n cap,g l i,g l z] W fun e w'=>e= H (v (bs ([45]++bdX F a 5)))/\E W.heap.size W w':=by
 have HB:Hid (StC A n cap F a 5):=hB;clear hB;have HR:Hid (FnRow W A n F):=hr;have hn:=hr.1;unfold Q at hn;obtain⟨b,p,KB,kb,rfl,hl,h2,h0,h3⟩:=hr.2 i hi;obtain⟨c0,c1,c2,c3,c4,c5,c6,c7,c8,c9,c10,c11,c12,h1⟩:=h2
 rw[hk]at c0;have i0:(0:Int)<=(i:Int):=by omega
 have i1:(i:Int)<(n:Int):=by omega
 rw[hg]at h0 h1;simp only[T,K]at h1;obtain⟨b1,o1,rfl,hl1,e1⟩:=h0.2 0 (by simp);simp only[S,Nat.add_zero]at e1;clear hr h0 h3 hg;obtain⟨t,HT⟩: ∃t,Hid (bs (bdX F a 5)=t):=⟨_,rfl⟩;have ht:t.size<=116977784950520:=by rw[<-HT.out,QD];exact hz
 have z1: ¬9223372036854775807<1+t.size:=by omega
 have HF:Hid ((⟨#[45]⟩:ByteArray)++t=bs ([45]++bdX F a 5)):=by
  show _=_;rw[<-HT.out,show(⟨#[45]⟩:ByteArray)=bs [45]from rfl,Zc]
 clear hz;go_enter func134,ntmps134;go_wp2_with fail
 refine(HB.out _ (HR.out.below (by go_grown))).mono ?_;rintro e w1 ⟨rfl,hb⟩;rw[HT.out];have K1:=Qb (w:=W) (by go_grown) hb;clear hb;go_wp2_with fail
 go_ret;exact⟨QC HF.out,K1⟩
theorem Qkp{a b:Nat}(z:Int)(hi:i<n)(hk:(F i).k=5)(hg:(F i).kids= [(a:Int),(b:Int)])(ho:1<=(F i).o/\(F i).o<=11)(hA:StC A n cap F a (lvl (F i).o))(hB:StC A n cap F b (lvl (F i).o+1))(hza:(bdX F a (lvl (F i).o)).length<=116977784950520)(hzb:(bdX F b (lvl (F i).o+1)).length<=116977784950520)(htx:TX F i=bdX F a (lvl (F i).o)++sgT (F i).o++bdX F b (lvl (F i).o+1))(W:World)(hr:FnRow W A n F):
  I prog 134 #[C A n cap,g l i,g l z] W fun e w'=>e= H (v (bs (bdX F i z)))/\E W.heap.size W w':=by
 have HA:Hid (StC A n cap F a (lvl (F i).o)):=hA;have HB:Hid (StC A n cap F b (lvl (F i).o+1)):=hB;have h4:Hid (TX F i=bdX F a (lvl (F i).o)++sgT (F i).o++bdX F b (lvl (F i).o+1)):=htx;clear hA hB htx;have HR:Hid (FnRow W A n F):=hr;have hn:=hr.1;unfold Q at hn
 obtain⟨q,p,KB,kb,rfl,hl,H0,h2,H1⟩:=hr.2 i hi;obtain⟨c0,c1,c2,c3,c4,c5,c6,c7,c8,c9,c10,c11,c12,h8⟩:=H0;rw[hk]at c0;have i0:(0:Int)<=(i:Int):=by omega
 have i1:(i:Int)<(n:Int):=by omega
 rw[hg]at h2 h8;simp only[T,K]at h8;obtain⟨b1,o1,rfl,hl1,e1⟩:=h2.2 0 (by simp);obtain⟨b2,o2,e9,_,e2⟩:=h2.2 1 (by simp);cases e9
 simp only[S,List.getD_cons_succ,Nat.add_zero]at e1 e2;clear hr h2 H1 hg;obtain⟨m,HM⟩: ∃m:Nat,Hid ((F i).o=(m:Int)):=⟨(F i).o.toNat,by show _=_;omega⟩;have hm:1<=m/\m<=11:=by rw[HM.out]at ho;omega
 have h3:Hid (1<=(m:Int)/\(m:Int)<=11):=by show _/\_;omega
 obtain⟨H3,H2⟩:=Jf (m:Int)
 have h6:Hid (bdX F i z=if lvl (m:Int)<z then [40]++TX F i++ [41]else TX F i):=by
  show _=_;unfold bdX;by_cases h0:lvl (m:Int)<z
  ·rw[pS ⟨hk,by rw[HM.out];exact h0⟩,pS h0]
  ·rw[nG (fun e=>h0 (by have:=e.2;rw[HM.out]at this;exact this)),nG h0]
 rw[HM.out]at HA HB hza hzb c1 h4;obtain⟨L,HL⟩: ∃L,Hid (lvl (m:Int)=L):=⟨_,rfl⟩;rw[HL.out]at H3 H2 HA HB hza hzb h4 h6;obtain⟨sg,h5⟩: ∃s,Hid (bs (sgT (m:Int))=s):=⟨_,rfl⟩;have hsg:sg.size<=2:=by rw[<-h5.out,QD];exact Hm _
 obtain⟨t,HT⟩: ∃t,Hid (bs (bdX F a L)=t):=⟨_,rfl⟩;obtain⟨u,HU⟩: ∃t,Hid (bs (bdX F b (L+1))=t):=⟨_,rfl⟩;have ht:t.size<=116977784950520:=by rw[<-HT.out,QD];exact hza
 have hu:u.size<=116977784950520:=by rw[<-HU.out,QD];exact hzb
 obtain⟨x,HX⟩: ∃x,Hid (t++sg++u=x):=⟨_,rfl⟩;have hxs:x.size<=233955569901050:=by rw[<-HX.out,ByteArray.size_append,ByteArray.size_append];omega
 have h9:Hid (x=bs (TX F i)):=by
  show _=_;rw[<-HX.out,h4.out,<-HT.out,<-HU.out,<-h5.out,Zc,Zc]
 obtain⟨r1,r2⟩:(∀W,(Op.stringOp .add t sg).run prog W= .ok (v (t++sg)) W)/\(∀W,(Op.stringOp .add (t++sg) u).run prog W= .ok (v x) W):=by
  refine⟨fun W=>G W _ _ ?_,fun W=> ?_⟩
  ·omega
  ·rw[G W _ _ (by rw[ByteArray.size_append];omega),HX.out]
 have hwr:IntKind.i64.wrap (L+1)=L+1:=by rw[IntKind.wrap_i64];omega
 have lA:b1<W.heap.size+1:=by omega
 have z1: ¬9223372036854775807<1+x.size:=by omega
 have z2: ¬9223372036854775807<1+x.size+1:=by omega
 have H5:Hid (L<z->(⟨#[40]⟩:ByteArray)++x++(⟨#[41]⟩:ByteArray)=bs (bdX F i z)):=fun h0=>by
  rw[h6.out,pS h0,h9.out,show(⟨#[40]⟩:ByteArray)=bs [40]from rfl,show(⟨#[41]⟩:ByteArray)=bs [41]from rfl,Zc,Zc]
 have H4:Hid (¬L<z->x=bs (bdX F i z)):=fun h0=>by rw[h6.out,nG h0,h9.out]
 clear hza hzb ho hm;go_enter func134,ntmps134;go_wp2_with fail
 refine(Vd _ _ h3.out.1 h3.out.2).mono ?_;rintro e w1 ⟨rfl,rfl⟩;rw[HL.out];go_wp2_with fail
 go_region_held3 (fun w'=>(∀bq oq,bq<W.heap.size+1->w'.cell? ⟨bq,oq,none⟩=(W.alloc (D #[g l 5,g l m,g l (F i).ck,g l (F i).cn,v (F i).cs,g l (F i).ac,g l (F i).ar,r (F i).af,r (F i).ag,g l (F i).bc,g l (F i).br,r (F i).bf,r (F i).bg,C (some ⟨b1,o1,none⟩) 2 kb] 177)).cell? ⟨bq,oq,none⟩)/\W.heap.size+1<=w'.heap.size/\E (W.heap.size+1) (W.alloc (D #[g l 5,g l m,g l (F i).ck,g l (F i).cn,v (F i).cs,g l (F i).ac,g l (F i).ar,r (F i).af,r (F i).ag,g l (F i).bc,g l (F i).br,r (F i).bf,r (F i).bg,C (some ⟨b1,o1,none⟩) 2 kb] 177)) w')
  (exact QE (by go_size) (by go_grown))
  (first
  | (go_at_call 152;refine(Jp _ _ h3.out.1 h3.out.2).mono ?_;rintro e wr ⟨rfl,hb⟩;rw[h5.out];obtain⟨h1,h7⟩:=Qk (B:=W.heap.size+1) (X:=(W.alloc (D #[g l 5,g l m,g l (F i).ck,g l (F i).cn,v (F i).cs,g l (F i).ac,g l (F i).ar,r (F i).af,r (F i).ag,g l (F i).bc,g l (F i).br,r (F i).bf,r (F i).bg,C (some ⟨b1,o1,none⟩) 2 kb] 177))) (by go_grown) (by go_size) hb;have hC:=fun b o h=>h1.cell (p:=⟨b,o,none⟩) h;clear hb)
  | (go_at_call_of 134 (J .i64 L);refine(HA.out _ (HR.out.below (Yz (n:=1) (X:=(W.alloc (D #[g l 5,g l m,g l (F i).ck,g l (F i).cn,v (F i).cs,g l (F i).ac,g l (F i).ar,r (F i).af,r (F i).ag,g l (F i).bc,g l (F i).br,r (F i).bf,r (F i).bg,C (some ⟨b1,o1,none⟩) 2 kb] 177))) (by go_grown) (by go_grown)))).mono ?_;rintro e wr ⟨rfl,hb⟩;rw[HT.out];obtain⟨h1,h7⟩:=Qk (B:=W.heap.size+1) (X:=(W.alloc (D #[g l 5,g l m,g l (F i).ck,g l (F i).cn,v (F i).cs,g l (F i).ac,g l (F i).ar,r (F i).af,r (F i).ag,g l (F i).bc,g l (F i).br,r (F i).bf,r (F i).bg,C (some ⟨b1,o1,none⟩) 2 kb] 177))) (by go_grown) (by go_size) hb;have hC:=fun b o h=>h1.cell (p:=⟨b,o,none⟩) h;clear hb)
  | (go_at_call 134;refine(HB.out _ (HR.out.below (Yz (n:=1) (X:=(W.alloc (D #[g l 5,g l m,g l (F i).ck,g l (F i).cn,v (F i).cs,g l (F i).ac,g l (F i).ar,r (F i).af,r (F i).ag,g l (F i).bc,g l (F i).br,r (F i).bf,r (F i).bg,C (some ⟨b1,o1,none⟩) 2 kb] 177))) (by go_grown) (by go_grown)))).mono ?_;rintro e wr ⟨rfl,hb⟩;rw[HU.out];obtain⟨h1,h7⟩:=Qk (B:=W.heap.size+1) (X:=(W.alloc (D #[g l 5,g l m,g l (F i).ck,g l (F i).cn,v (F i).cs,g l (F i).ac,g l (F i).ar,r (F i).af,r (F i).ag,g l (F i).bc,g l (F i).br,r (F i).bf,r (F i).bg,C (some ⟨b1,o1,none⟩) 2 kb] 177))) (by go_grown) (by go_size) hb;have hC:=fun b o h=>h1.cell (p:=⟨b,o,none⟩) h;clear hb))
 all_goals
  by_cases h0:L<z
  ·go_wp2_with fail
   go_ret;exact⟨QC (H5.out h0),Yz (n:=1) (X:=(W.alloc (D #[g l 5,g l m,g l (F i).ck,g l (F i).cn,v (F i).cs,g l (F i).ac,g l (F i).ar,r (F i).af,r (F i).ag,g l (F i).bc,g l (F i).br,r (F i).bf,r (F i).bg,C (some ⟨b1,o1,none⟩) 2 kb] 177))) (by go_grown) (by go_grown)⟩
  ·go_wp2_with fail
   go_ret;exact⟨QC (H4.out h0),Yz (n:=1) (X:=(W.alloc (D #[g l 5,g l m,g l (F i).ck,g l (F i).cn,v (F i).cs,g l (F i).ac,g l (F i).ar,r (F i).af,r (F i).ag,g l (F i).bc,g l (F i).br,r (F i).bf,r (F i).bg,C (some ⟨b1,o1,none⟩) 2 kb] 177))) (by go_grown) (by go_grown)⟩
theorem Qrd{ks:List Int}{f:Int->List UInt8}{t:Nat}(h:t<ks.length):jn ((ks.take (t+1)).map f)=(if t=0 then f (ks.getD t 0)else jn ((ks.take t).map f)++ [44]++f (ks.getD t 0)):=by
 have e:ks.take (t+1)=ks.take t++ [ks.getD t 0]:=by
  rw[List.take_succ_eq_append_getElem h,List.getD_eq_getElem?_getD,List.getElem?_eq_getElem h];rfl
 rw[e,List.map_append];by_cases h0:t=0
 ·subst h0;rw[pS rfl];simp[jn]
 ·rw[nG h0]
  exact Qre _ _ (by
   intro e9;have:=congrArg List.length e9;rw[List.length_map,List.length_take]at this;simp only[K]at this
   omega)
theorem Qko(z:Int)(hi:i<n)(hG:QT (fG F) n)(hk:(F i).k=6)(ho:1<=(F i).o/\(F i).o<=10)(hkl:1<=(F i).kids.length/\(F i).kids.length<=10)(hN: ∀a:Nat,(a:Int)∈(F i).kids->StC A n cap F a 0/\(TX F a).length<=116977784950510)(W:World)(hr:FnRow W A n F):
  I prog 134 #[C A n cap,g l i,g l z] W fun e w'=>e= H (v (bs (TX F i)))/\E W.heap.size W w':=by
 obtain⟨ks,h6⟩: ∃ks,Hid ((F i).kids=ks):=⟨_,rfl⟩;have HN:Hid (∀a:Nat,(a:Int)∈ks->StC A n cap F a 0/\(TX F a).length<=116977784950510):=by show∀a:Nat,_;rw[<-h6.out];exact hN
 have G1:Hid (∀c∈ks,0<=c/\c<(n:Int)):=by
  show∀c∈ks,_;rw[<-h6.out];exact fun c hc=>by have:=hG i hi c hc;omega
 have g2:Hid (TX F i=fnT (F i).o++ [40]++jn (ks.map fun c=>TX F c.toNat)++ [41]):=by show _=_;rw[<-h6.out];exact Gf hG hi hk
 clear hN hG;have HR:Hid (FnRow W A n F):=hr;have hn:=hr.1;unfold Q at hn;obtain⟨b,p,KB,kb,rfl,hl,g6,H0,g7⟩:=hr.2 i hi;obtain⟨c0,c1,c2,c3,c4,c5,c6,c7,c8,c9,G0,g9,g8,H1⟩:=g6;rw[hk]at c0
 rw[h6.out]at H0 hkl H1;have G2:Hid (IntRow W KB ks):=H0;obtain⟨kl,h5⟩: ∃kl,Hid (ks.length=kl):=⟨_,rfl⟩;rw[h5.out]at hkl H1;have i0:(0:Int)<=(i:Int):=by omega
 have i1:(i:Int)<(n:Int):=by omega
 obtain⟨m,HM⟩: ∃m:Nat,Hid ((F i).o=(m:Int)):=⟨(F i).o.toNat,by show _=_;omega⟩;have g4:Hid (1<=(m:Int)/\(m:Int)<=10):=by show _/\_;rw[HM.out]at ho;exact ho
 rw[HM.out]at g2 c1;obtain⟨fs,H4⟩: ∃s,Hid (bs (fnT (m:Int))=s):=⟨_,rfl⟩;have hfs:fs.size<=5:=by rw[<-H4.out,QD];exact Qam _
 have z0: ¬9223372036854775807<fs.size+1:=by omega
 clear hr H0 g7 ho;go_enter func134,ntmps134;go_wp2_with fail
 refine(Bl _ _ g4.out.1 g4.out.2).mono ?_;rintro e w1 ⟨rfl,hb⟩;rw[H4.out];have g1:Hid (E (W.heap.size+1) (W.alloc (D #[g l 6,g l m,g l (F i).ck,g l (F i).cn,v (F i).cs,g l (F i).ac,g l (F i).ar,r (F i).af,r (F i).ag,g l (F i).bc,g l (F i).br,r (F i).bf,r (F i).bg,C KB kl kb] 177)) w1):=by show E _ _ _;have h9:=hb;simp at h9;exact h9
 clear hb c0 c1 c2 c3 c4 c5 c6 c7 c8 c9 G0 g9 g8 H1;go_wp2_with fail
 go_loopw [10,11] (fun v10 j wr=> ∃(t:Nat) (o:ByteArray),t<=kl/\j= g l t/\v10= v o/\o.size<=6+t*116977784950511/\o=bs (fnT (m:Int)++ [40]++jn ((ks.take t).map fun c=>TX F c.toNat))/\E (W.heap.size+1) (W.alloc (D #[g l 6,g l m,g l (F i).ck,g l (F i).cn,v (F i).cs,g l (F i).ac,g l (F i).ar,r (F i).af,r (F i).ag,g l (F i).bc,g l (F i).br,r (F i).bf,r (F i).bg,C KB kl kb] 177)) wr) (fun _ j _=>kl-(intOf j).toNat)
 case atStart=>exact⟨0,_,Nat.zero_le _,rfl,rfl,by rw[ByteArray.size_append,show(⟨#[40]⟩:ByteArray).size=1 from rfl];omega,by rw[<-H4.out,show(⟨#[40]⟩:ByteArray)=bs [40]from rfl,Zc];simp[jn],g1.out⟩
 case round=>
  clear g1;obtain⟨t,o,ht,rfl,rfl,hos,H8,h0⟩:=hrel;have H2:Hid (o=bs (fnT (m:Int)++ [40]++jn ((ks.take t).map fun c=>TX F c.toNat))):=H8;have HW:Hid (E W.heap.size W wr):=Yz (n:=1) (X:=(W.alloc (D #[g l 6,g l m,g l (F i).ck,g l (F i).cn,v (F i).cs,g l (F i).ac,g l (F i).ar,r (F i).af,r (F i).ag,g l (F i).bc,g l (F i).br,r (F i).bf,r (F i).bg,C KB kl kb] 177))) (by go_grown) h0;have lw:W.heap.size<wr.heap.size:=by have:=h0.size;simp at this;omega
  have o13:wr.cell? ⟨W.heap.size,13,none⟩=some (C KB kl kb):=(h0.cell (p:=⟨W.heap.size,13,none⟩) (Nat.lt_succ_self _)).trans (by simp);have h7:Hid (E (W.heap.size+1) (W.alloc (D #[g l 6,g l m,g l (F i).ck,g l (F i).cn,v (F i).cs,g l (F i).ac,g l (F i).ar,r (F i).af,r (F i).ag,g l (F i).bc,g l (F i).br,r (F i).bf,r (F i).bg,C KB kl kb] 177)) wr):=h0;clear H8 h0;by_cases h8:t<kl
  ·obtain⟨b1,o1,rfl,H9,e1⟩:=G2.out.2 t (by rw[h5.out];exact h8);rw[<-HW.out.cell (p:=⟨_,_,none⟩) H9]at e1;have h2:ks.getD t 0∈ks:=Qnz (by rw[h5.out];exact h8);have g5:=G1.out _ h2;obtain⟨a,HA⟩: ∃a:Nat,Hid (ks.getD t 0=(a:Int)):=⟨(ks.getD t 0).toNat,by show _=_;omega⟩;have HJ:Hid (jn ((ks.take (t+1)).map fun c=>TX F c.toNat)=(if t=0 then TX F (ks.getD t 0).toNat else jn ((ks.take t).map fun c=>TX F c.toNat)++ [44]++TX F (ks.getD t 0).toNat)):=Qrd (f:=fun c=>TX F c.toNat) (by rw[h5.out];exact h8);rw[HA.out]at e1 h2 HJ
   rw[Int.toNat_natCast]at HJ;obtain⟨H7,H6⟩:=HN.out a h2;have g3:Hid (StC (some ⟨b,p,none⟩) n cap F a 0):=H7;obtain⟨tx,h4⟩: ∃tx,Hid (bs (TX F a)=tx):=⟨_,rfl⟩;have htx:tx.size<=116977784950510:=by rw[<-h4.out,QD];exact H6
   have l1:b1<wr.heap.size:=Nat.lt_of_lt_of_le H9 HW.out.size;have t0:(0:Int)<=(t:Int):=by omega
   have t1:(t:Int)<(kl:Int):=by omega
   have hk10:t<=9:=by omega
   clear H7 H6 h2 g5;by_cases H5:t=0
   ·subst H5;rw[Nat.add_zero]at e1;have s1: ¬9223372036854775807<o.size+tx.size:=by omega
    have HF:Hid (o++tx=bs (fnT (m:Int)++ [40]++jn ((ks.take (0+1)).map fun c=>TX F c.toNat))):=by
     show _=_;rw[HJ.out,pS rfl,H2.out,<-h4.out,Zc];simp[jn]
    go_wp2_with fail
    refine(g3.out _ (HR.out.below HW.out)).mono ?_;rintro e w2 ⟨rfl,hb⟩;rw[Dk,h4.out];have h3:Hid (E (W.heap.size+1) (W.alloc (D #[g l 6,g l m,g l (F i).ck,g l (F i).cn,v (F i).cs,g l (F i).ac,g l (F i).ar,r (F i).af,r (F i).ag,g l (F i).bc,g l (F i).br,r (F i).bf,r (F i).bg,C (some ⟨b1,o1,none⟩) kl kb] 177)) w2):=h7.out.trans (hb.mono (by have:=h7.out.size;simpa using this));clear hb;go_wp2_with fail
    all_goals
     go_roundw
     case rel=>exact⟨0+1,_,by omega,by go_num,rfl,by rw[ByteArray.size_append];omega,HF.out,h3.out⟩
     case measure=>simp[intOf];omega
   ·have g0:(0:Int)<(t:Int):=by omega
    have s0: ¬9223372036854775807<o.size+1:=by omega
    obtain⟨oc,H3⟩: ∃oc,Hid (o++(⟨#[44]⟩:ByteArray)=oc):=⟨_,rfl⟩;have hoc:oc.size=o.size+1:=by rw[<-H3.out,ByteArray.size_append];rfl
    have r1: ∀W,(Op.stringOp .add o (⟨#[44]⟩:ByteArray)).run prog W= .ok (v oc) W:=fun W=>by
     rw[G W _ _ (by have h1:(⟨#[44]⟩:ByteArray).size=1:=rfl;omega),H3.out]
    have s1: ¬9223372036854775807<oc.size+tx.size:=by omega
    have HF:Hid (oc++tx=bs (fnT (m:Int)++ [40]++jn ((ks.take (t+1)).map fun c=>TX F c.toNat))):=by
     show _=_;rw[HJ.out,nG H5,<-H3.out,H2.out,<-h4.out,show(⟨#[44]⟩:ByteArray)=bs [44]from rfl,Zc,Zc];simp
    go_wp2_with fail
    refine(g3.out _ (HR.out.below HW.out)).mono ?_;rintro e w2 ⟨rfl,hb⟩;rw[Dk,h4.out];have h3:Hid (E (W.heap.size+1) (W.alloc (D #[g l 6,g l m,g l (F i).ck,g l (F i).cn,v (F i).cs,g l (F i).ac,g l (F i).ar,r (F i).af,r (F i).ag,g l (F i).bc,g l (F i).br,r (F i).bf,r (F i).bg,C (some ⟨b1,o1,none⟩) kl kb] 177)) w2):=h7.out.trans (hb.mono (by have:=h7.out.size;simpa using this));clear hb;go_wp2_with fail
    all_goals
     go_roundw
     case rel=>exact⟨t+1,_,by omega,by go_num,rfl,by rw[ByteArray.size_append];omega,HF.out,h3.out⟩
     case measure=>simp[intOf];omega
  ·obtain rfl:t=kl:=by omega
   have s1: ¬9223372036854775807<o.size+1:=by omega
   have HF:Hid (o++(⟨#[41]⟩:ByteArray)=bs (TX F i)):=by
    show _=_;rw[g2.out,H2.out,M (by rw[h5.out];exact Nat.le_refl _),show(⟨#[41]⟩:ByteArray)=bs [41]from rfl,Zc]
   go_wp2_with fail
   go_ret;exact⟨QC HF.out,HW.out⟩
theorem Qbt(h:Zb F n=true): ∀i,i<n->Yt (fG F) i<=12-> ∀z,StC A n cap F i z:=by
 obtain⟨h1,h60,hn,hr,hdr⟩:=VV h;intro i;induction i using Nat.strongRecOn with
 | ind i ih=>
  intro hi hd z
  have h0: ∀c∈(F i).kids,(0<=c/\c<(i:Int))/\Yt (fG F) c<=12:=fun c hc=>by
   have h2:=hr i hi c hc;have h3:=De hr hi hc;exact⟨h2,by omega⟩
  have st: ∀a:Nat,(a:Int)∈(F i).kids->a<n/\Yt (fG F) a<=12/\ ∀y,StC A n cap F a y:=fun a ha=>by
   have h2:=h0 a ha;exact⟨by omega,h2.2,ih a (by omega) (by omega) h2.2⟩
  rcases Zl (hn i hi)with⟨hk,hc,hks⟩ | ⟨hk,hc,hks⟩ | ⟨hk,hc,hc',hks⟩ | ⟨hk,c,hks⟩ | ⟨hk,o1,o2,c,d,hks⟩ | ⟨hk,o1,o2,l1,l2⟩
  ·intro W hrow;have e:bdX F i z=Vs (F i).ck (F i).cn (F i).cs:=by rw[DT (by omega),ZH (by omega) (by omega) (by omega),Xf,pS hk]
   rw[e];exact Qkt z hi hk hc W hrow
  ·intro W hrow;obtain⟨j,hj,h7⟩:=Hp hc
   have e:bs (bdX F i z)=QL (F i).ac j (F i).af (F i).ag:=by
    rw[DT (by omega),ZH (by omega) (by omega) (by omega),Xf,nG (by omega),pS hk,plT,hj,Int.toNat_natCast];rfl
   rw[e];exact Qks z hi hk hj h7 hc W hrow
  ·intro W hrow;obtain⟨j,hj,h7⟩:=Hp hc;obtain⟨j',h9,h6⟩:=Hp hc'
   have e:bs (bdX F i z)=QL (F i).ac j (F i).af (F i).ag++(⟨#[58]⟩:ByteArray)++QL (F i).bc j' (F i).bf (F i).bg:=by
    rw[DT (by omega),ZH (by omega) (by omega) (by omega),Xf,nG (by omega),nG (by omega),plT,plT,hj,h9,Int.toNat_natCast,Int.toNat_natCast,<-Zc,<-Zc];rfl
   rw[e];exact Qkr z hi hk hj h7 hc h9 h6 hc' W hrow
  ·obtain⟨a,rfl⟩: ∃a:Nat,c=(a:Int):=⟨c.toNat,by have:=(h0 c (by rw[hks];simp)).1;omega⟩;obtain⟨ha,h8,h5⟩:=st a (by rw[hks];simp);intro W hrow;have e:=MS hr hi hk hks;rw[Int.toNat_natCast]at e;rw[DT (by omega),e];exact Qkq z hi hk hks (h5 5) (XZ h ha h8 5) W hrow
  ·obtain⟨a,rfl⟩: ∃a:Nat,c=(a:Int):=⟨c.toNat,by have:=(h0 c (by rw[hks];simp)).1;omega⟩;obtain⟨b,rfl⟩: ∃a:Nat,d=(a:Int):=⟨d.toNat,by have:=(h0 d (by rw[hks];simp)).1;omega⟩;obtain⟨ha,h8,h5⟩:=st a (by rw[hks];simp);obtain⟨hb,H1,H0⟩:=st b (by rw[hks];simp);intro W hrow;have e:=MT hr hi hk hks;rw[Int.toNat_natCast,Int.toNat_natCast]at e
   exact Qkp z hi hk hks ⟨o1,o2⟩ (h5 _) (H0 _) (XZ h ha h8 _) (XZ h hb H1 _) e W hrow
  ·intro W hrow;rw[DT (by omega)];exact Qko z hi hr hk ⟨o1,o2⟩ ⟨l1,l2⟩ (fun a ha=>by obtain⟨h2,h3,h4⟩:=st a ha;exact⟨h4 0,Jl h h2 h3⟩) W hrow
theorem Xi(w:World)(h:FnRow w A n F)(hn:n<=1048576)(hkn: ∀i,i<n->(F i).kids.length<=1048576):
  I prog 98 #[C A n cap] w fun e w'=>e= H (v (ftx F n))/\E w.heap.size w w':=by
 have HR:Hid (FnRow w A n F):=h;have h3:Hid (∀i,i<n->(F i).kids.length<=1048576):=hkn;clear h hkn;cases hok:Zb F n
 ·have HE:Hid (ftx F n=⟨#[]⟩):=by show _=_;unfold ftx;rw[nG (fun e=>by rw[hok]at e;cases e.1)]
  have HO:Hid (Zb F n=false):=hok;clear hok;go_enter func98,ntmps98;go_wp2_with fail
  refine(YR _ HR.out hn h3.out).mono ?_;rintro e w1 ⟨rfl,hb⟩;rw[HO.out];go_wp2_with fail
  go_ret;exact⟨QC HE.out.symm,hb⟩
 ·have HO:Hid (Zb F n=true):=hok;obtain⟨h1,h9,_,hr,h0⟩:=VV hok;obtain⟨m,rfl⟩: ∃m,n=m+1:=⟨n-1,by omega⟩
  have hd:Yt (fG F) m<=12:=by
   have e:(((m+1:Nat):Int)-1)=(m:Int):=by omega
   rw[e]at h0;exact h0
  have HN:Hid (StC A (m+1) cap F m 0):=Qbt hok m (by omega) hd 0;obtain⟨t,HT⟩: ∃t,Hid (bs (TX F m)=t):=⟨_,rfl⟩;have ht:t.size=(TX F m).length:=by rw[<-HT.out,QD]
  have h7:Hid (t.size<=200->t=ftx F (m+1)):=fun h2=>by unfold ftx;rw[pS ⟨hok,by rw[Nat.add_sub_cancel];omega⟩,Nat.add_sub_cancel,HT.out]
  have h6:Hid (¬t.size<=200->(⟨#[]⟩:ByteArray)=ftx F (m+1)):=fun h2=>by unfold ftx;rw[nG (fun e=>h2 (by have:=e.2;rw[Nat.add_sub_cancel]at this;omega))]
  obtain⟨N,h5⟩: ∃N,Hid (m+1=N):=⟨_,rfl⟩;clear hok h0 hd hr;rw[h5.out]at HR h3 HO HN h7 h6 hn h1 h9 ⊢;have hmN:(N:Int)-1=(m:Int):=by have:=h5.out;omega
  go_enter func98,ntmps98;go_wp2_with fail
  refine(YR _ HR.out hn h3.out).mono ?_;rintro e w1 ⟨rfl,hb⟩;rw[HO.out];have HB:Hid (E w.heap.size w w1):=hb;clear hb;go_wp2_with fail
  refine(HN.out _ (HR.out.below HB.out)).mono ?_;rintro e w2 ⟨rfl,hb⟩;rw[Dk,HT.out];have h8:=hd (Qb HB.out hb);clear hb;by_cases h2:t.size<=200
  ·have H0: ¬(200:Int)<(t.size:Int):=by omega
   have h4:Hid (t=ftx F N):=h7.out h2;go_wp2_with fail
   go_ret;exact⟨QC h4.out,h8.out⟩
  ·have H0:(200:Int)<(t.size:Int):=by omega
   have h4:Hid ((⟨#[]⟩:ByteArray)=ftx F N):=h6.out h2;go_wp2_with fail
   go_ret;exact⟨QC h4.out,h8.out⟩
end Go.Proofs.YtomadadmakdkgaaGreatDoor
