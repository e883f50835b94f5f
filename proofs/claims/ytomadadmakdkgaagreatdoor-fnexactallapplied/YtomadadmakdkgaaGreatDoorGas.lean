import Derived.Test.YtomadadmakdkgaaGreatDoorGai
import Derived.Test.YtomadadmakdkgaaGreatDoorGaa
import Derived.Deep.RegionHeld3
import Derived.Test.YtomadadmakdkgaaGreatDoorGaf
import Derived.Test.YtomadadmakdkgaaGreatDoorGaj
import Derived.Test.YtomadadmakdkgaaGreatDoorGar
import Derived.Deep.RegionWith
open Go.Proofs.Tryz
open Go.Value renaming int → f, string → A, bool → J, agg → T
open Go.IntKind renaming i64 → g
open Bool renaming and_eq_true → t
open Go renaming run_string_add_sum → u, World → E, Calls → L, rounds_succ → Q
open Or renaming inr → C, inl → R
open Go.Ending renaming returned → H
open Go.World renaming block_lt_of_cell? → I
open Go.Lib renaming replaceAll → M
open Go.RowKit renaming Below → N
open Go.Obj renaming cells → S
set_option linter.unusedSimpArgs false
set_option linter.unusedVariables false
set_option maxHeartbeats 4000000
set_option maxRecDepth 100000
namespace Go.Proofs.YtomadadmakdkgaaGreatDoor
open Go.RowKit
variable {n i:Nat} {F:Nat->FN} {c:Int} {W:E}
def XS(i:Nat):ByteArray:=if i<10 then⟨#[UInt8.ofNat (48+i)]⟩else⟨#[UInt8.ofNat (48+i/10),UInt8.ofNat (48+i%10)]⟩
theorem Qtk: ∀i,i<10->ByteArray.extract ⟨#[48,49,50,51,52,53,54,55,56,57,97,98,99,100,101,102,103,104,105,106,107,108,109,110,111,112,113,114,115,116,117,118,119,120,121,122]⟩ i (i+1)=XS i:=by decide+kernel
theorem Qtj: ∀i,i<100-> ¬i<10->ByteArray.extract ⟨#[48,48,48,49,48,50,48,51,48,52,48,53,48,54,48,55,48,56,48,57,49,48,49,49,49,50,49,51,49,52,49,53,49,54,49,55,49,56,49,57,50,48,50,49,50,50,50,51,50,52,50,53,50,54,50,55,50,56,50,57,51,48,51,49,51,50,51,51,51,52,51,53,51,54,51,55,51,56,51,57,52,48,52,49,52,50,52,51,52,52,52,53,52,54,52,55,52,56,52,57,53,48,53,49,53,50,53,51,53,52,53,53,53,54,53,55,53,56,53,57,54,48,54,49,54,50,54,51,54,52,54,53,54,54,54,55,54,56,54,57,55,48,55,49,55,50,55,51,55,52,55,53,55,54,55,55,55,56,55,57,56,48,56,49,56,50,56,51,56,52,56,53,56,54,56,55,56,56,56,57,57,48,57,49,57,50,57,51,57,52,57,53,57,54,57,55,57,56,57,57]⟩ (i*2) (i*2+2)=XS i:=by decide+kernel
theorem dec1: ∀i,i<10->(⟨#[48+UInt8.ofNat i]⟩:ByteArray)=XS i:=by decide+kernel
theorem dec2: ∀q,q<10-> ∀r,r<10-> ¬10*q+r<10->(⟨#[48+UInt8.ofNat q,48+UInt8.ofNat r]⟩:ByteArray)=XS (10*q+r):=by decide+kernel
theorem Qiz(i:Nat)(hi:i<100)(w:E):L prog 267 #[f g i] w fun e w'=>
  e= H (A (XS i))/\w'=w:=by
 have h0:(0:Int)<=(i:Int):=by omega
 by_cases h:i<10
 ·have h1:(i:Int)<10:=by omega
  have h2:(i:Int)+1<=36:=by omega
  have h3:(i:Int)<=(i:Int)+1:=by omega
  go_enter func267,ntmps267;go_wp2
  go_ret;exact⟨QC (Qtk i h),rfl⟩
 ·have h1: ¬(i:Int)<10:=by omega
  have h2:(i:Int)*2+2<=200:=by omega
  have h3:(i:Int)*2<=(i:Int)*2+2:=by omega
  have h4:(0:Int)<=(i:Int)*2:=by omega
  go_enter func267,ntmps267;go_wp2
  go_ret;exact⟨QC (Qtj i hi h),rfl⟩
theorem Ng(i:Nat)(hi:i<100)(w:E):L prog 247 #[f g i,f g 10] w fun e w'=>
  e= H (A (XS i))/\w'=w:=by
 have h0:(0:Int)<=(i:Int):=by omega
 have h1:(i:Int)<100:=by omega
 go_enter func247,ntmps247
 go_wp2_with (first
  | (go_at_call 267;refine(Qiz i hi _).mono ?_;rintro e w1 ⟨rfl,rfl⟩))
 go_ret;exact⟨rfl,rfl⟩
theorem DC(i:Nat)(hi:i<100)(w:E):L prog 223 #[f g i,f g 10] w fun e w'=>
  e= H (A (XS i))/\w'=w:=by
 go_enter func223,ntmps223
 go_wp2_with (first
  | (go_at_call 247;refine(Ng i hi _).mono ?_;rintro e w1 ⟨rfl,rfl⟩))
 go_ret;exact⟨rfl,rfl⟩
theorem Qd3(i:Nat)(hi:i<100)(w:E):L prog 116 #[f g i] w fun e w'=>
  e= H (A (XS i))/\N w.heap.size w w':=by
 have hc0:=fun W v=>Qod W v;by_cases h:i<10
 ·have h1: ¬(i:Int)<0:=by omega
  have h2: ¬10<=(i:Int):=by omega
  go_enter func116,ntmps116;go_wp2
  refine wp_loop_rounds 4 ?_;rw[Q];go_wp2
  go_ret;exact⟨QC (by rw[Jk];exact dec1 i h),by go_grown⟩
 ·obtain⟨q,r,hq,hr,rfl⟩: ∃q r,q<10/\r<10/\i=10*q+r:=⟨i/10,i%10,by omega,by omega,by omega⟩;have hc2:=fun W o v=>Qs2 W o v;have e1:((10*q+r:Nat):Int)%10=(r:Int):=by omega
  have e2:((10*q+r:Nat):Int)/10=(q:Int):=by omega
  obtain⟨n,hn⟩: ∃n:Int,n=((10*q+r:Nat):Int):=⟨_,rfl⟩;rw[<-hn]at e1 e2;have h1: ¬n<0:=by omega
  have h2:10<=n:=by omega
  have h3:n<=99:=by omega
  have h4: ¬10<=(q:Int):=by omega
  have HD:Hid (¬10*q+r<10):=h;rw[<-hn];clear hn hi h;go_enter func116,ntmps116;go_wp2
  refine wp_loop_rounds 4 ?_;rw[Q];go_wp2
  rw[Q];go_wp2
  go_ret;exact⟨QC (by rw[Jk,Di];exact dec2 q hq r hr HD.out),by go_grown⟩
def fx(b:Bool):ByteArray:=if b then⟨#[36]⟩else⟨#[]⟩
theorem EB(b:Bool)(w:E):L prog 221 #[J b] w fun e w'=>e= H (A (fx b))/\w'=w:=by
 cases b
 all_goals
  go_enter func221,ntmps221;go_wp2
  go_ret;exact⟨rfl,rfl⟩
theorem JE(b:Bool):(fx b).size<=1:=by cases b<;>decide
theorem JQ(n:Int):(Yo n).size<=2:=by
 unfold Yo;split
 ·exact Nat.le_succ 1
 ·split
  ·exact Nat.le_refl 2
  ·exact Nat.zero_le 2
theorem JO(i:Nat):(XS i).size<=2:=by
 unfold XS;split
 ·exact Nat.le_succ 1
 ·exact Nat.le_refl 2
def QL(c:Int)(i:Nat)(x y:Bool):ByteArray:=fx x++Yo c++fx y++XS i
theorem YO(c:Int)(i:Nat)(x y:Bool)(w:E)(hi:i<100)(ho:Qf c i=true):L prog 183 #[T #[f g c,f g i,J x,J y]] w fun e w'=>
  e= H (A (QL c i x y))/\N w.heap.size w w':=by
 have HO:Hid (Qf c i=true):=ho;clear ho
 obtain⟨r1,r2,r3⟩:(∀W,(Op.stringOp .add (fx x) (Yo c)).run prog W= .ok (A (fx x++Yo c)) W)/\(∀W,(Op.stringOp .add (fx x++Yo c) (fx y)).run prog W= .ok (A (fx x++Yo c++fx y)) W)/\(∀W,(Op.stringOp .add (fx x++Yo c++fx y) (XS i)).run prog W= .ok (A (fx x++Yo c++fx y++XS i)) W):=by
  have s1:=JE x;have s2:=JE y;have s3:=JQ c;have s4:=JO i;refine⟨fun W=>u W _ _ ?_,fun W=>u W _ _ ?_,fun W=>u W _ _ ?_⟩
  ·omega
  ·rw[ByteArray.size_append];omega
  ·rw[ByteArray.size_append,ByteArray.size_append];omega
 go_enter func183,ntmps183
 go_wp2_with (first
  | (go_at_call 67;refine(Zu _ _ _).mono ?_;rintro e w1 ⟨rfl,hb⟩;rw[HO.out];obtain⟨hk,hz⟩:=Qk (B:=w.heap.size+1) (X:=(w.alloc (S #[f g c,f g i,J x,J y] 126))) (by go_grown) (by go_size) hb;have hC:=fun b o h=>hk.cell (p:=⟨b,o,none⟩) h;clear hb))
 go_region_held3 (fun w'=>(∀bq oq,bq<w.heap.size+1->w'.cell? ⟨bq,oq,none⟩=(w.alloc (S #[f g c,f g i,J x,J y] 126)).cell? ⟨bq,oq,none⟩)/\w.heap.size+1<=w'.heap.size/\N (w.heap.size+1) (w.alloc (S #[f g c,f g i,J x,J y] 126)) w')
  (exact QE (by go_size) (by go_grown))
  (first
  | (go_at_call 221;refine(EB _ _).mono ?_;rintro e w1 ⟨rfl,rfl⟩)
  | (go_at_call 222;refine(EI _ _).mono ?_;rintro e wr ⟨rfl,hb⟩;obtain⟨hk,hz⟩:=Qk (B:=w.heap.size+1) (X:=(w.alloc (S #[f g c,f g i,J x,J y] 126))) (by go_grown) (by go_size) hb;have hC:=fun b o h=>hk.cell (p:=⟨b,o,none⟩) h;clear hb)
  | (go_at_call 223;refine(DC i hi _).mono ?_;rintro e w1 ⟨rfl,rfl⟩))
 all_goals go_wp2_with fail
 all_goals go_ret
 all_goals exact⟨rfl,Yz (n:=1) (X:=(w.alloc (S #[f g c,f g i,J x,J y] 126))) (by go_grown) (by go_grown)⟩
theorem Qqy(x:ByteArray):(⟨#[]⟩:ByteArray)++x=x:=by apply ByteArray.ext;simp
theorem Yc(c:Int)(i:Nat)(x y:Bool)(w:E)(hi:i<100)(ho:Qf c i=true):L prog 151 #[T #[f g c,f g i,J x,J y]] w fun e w'=>
  e= H (A (QL c i x y))/\N w.heap.size w w':=by
 have HO:Hid (Qf c i=true):=ho;clear ho
 obtain⟨r1,r2,r3,r4,r5⟩:(∀W,(Op.stringOp .add ⟨#[36]⟩ (Yo c)).run prog W= .ok (A (⟨#[36]⟩++Yo c)) W)/\(∀W,(Op.stringOp .add (⟨#[36]⟩++Yo c) ⟨#[36]⟩).run prog W= .ok (A (⟨#[36]⟩++Yo c++⟨#[36]⟩)) W)/\(∀W,(Op.stringOp .add (Yo c) ⟨#[36]⟩).run prog W= .ok (A (Yo c++⟨#[36]⟩)) W)/\
   (∀s:ByteArray,s.size<=10-> ∀W,(Op.stringOp .add s (XS i)).run prog W= .ok (A (s++XS i)) W)/\(Yo c).size<=2:=by
  have s3:=JQ c;have s4:=JO i;have s5:(⟨#[36]⟩:ByteArray).size=1:=rfl;refine⟨fun W=>u W _ _ ?_,fun W=>u W _ _ ?_,fun W=>u W _ _ ?_,fun s hs W=>u W _ _ ?_,s3⟩
  ·omega
  ·rw[ByteArray.size_append];omega
  ·omega
  ·omega
 have q1:=r4 (Yo c) (by omega);have q2:=r4 (⟨#[36]⟩++Yo c) (by rw[ByteArray.size_append];have:(⟨#[36]⟩:ByteArray).size=1:=rfl;omega);have q3:=r4 (Yo c++⟨#[36]⟩) (by rw[ByteArray.size_append];have:(⟨#[36]⟩:ByteArray).size=1:=rfl;omega);have q4:=r4 (⟨#[36]⟩++Yo c++⟨#[36]⟩) (by rw[ByteArray.size_append,ByteArray.size_append];have:(⟨#[36]⟩:ByteArray).size=1:=rfl;omega);clear r4 r5;cases x<;>cases y
 all_goals
  go_enter func151,ntmps151
  go_wp2_with (first
   | (go_at_call 59;refine(Qz _ _ _).mono ?_;rintro e w1 ⟨rfl,hb⟩;rw[HO.out];obtain⟨hc,hf,hC,hF,hz,hk,l0⟩:=bk1 (w:=w) hb;clear hb)
   | (go_at_call 180;refine(Vf _ _).mono ?_;rintro e w1 ⟨rfl,hb⟩;obtain⟨hc,hf,hC,hF,hz,hk,l0⟩:=bk1 (w:=w) hb;clear hb)
   | (go_at_call 116;refine(Qd3 i hi _).mono ?_;rintro e w1 ⟨rfl,hb⟩;obtain⟨hc,hf,hC,hF,hz,hk,l0⟩:=bk1 (w:=w) hb;clear hb))
  go_ret;exact⟨QC (by simp[QL,fx,Qqy,Jk]),by go_grown⟩
def Vs(ck cn:Int)(cs:ByteArray):List UInt8:=if ck=2 then [34]++qt cs.data.toList++ [34]else(txV ck cn cs).data.toList
def plT(c r:Int)(x y:Bool):List UInt8:=(QL c r.toNat x y).data.toList
def Xf(x:FN):List UInt8:=if x.k=1 then Vs x.ck x.cn x.cs else if x.k=2 then plT x.ac x.ar x.af x.ag else plT x.ac x.ar x.af x.ag++ [58]++plT x.bc x.br x.bf x.bg
def fK(F:Nat->FN)(j:Nat):Int:=(F j).k
def fO(F:Nat->FN)(j:Nat):Int:=(F j).o
def fL(F:Nat->FN)(j:Nat):List UInt8:=Xf (F j)
def fG(F:Nat->FN)(j:Nat):List Int:=(F j).kids
def TX(F:Nat->FN)(i:Nat):List UInt8:=ndT (fK F) (fO F) (fL F) (fG F) (i+1) i
def bdX(F:Nat->FN)(j:Nat)(least:Int):List UInt8:=if(F j).k=5/\lvl (F j).o<least then [40]++TX F j++ [41]else TX F j
theorem Qq0{K O:Nat->Int}{LT:Nat->List UInt8}{G:Nat->List Int}(hG:QT G n): ∀i,i<n-> ∀a b,i<a->i<b->ndT K O LT G a i=ndT K O LT G b i:=by
 intro i;induction i using Nat.strongRecOn with
 | ind i ih=>
  intro hi a b ha hb;obtain⟨a,rfl⟩: ∃a',a=a'+1:=⟨a-1,by omega⟩;obtain⟨b,rfl⟩: ∃b',b=b'+1:=⟨b-1,by omega⟩
  have hk: ∀c∈G i,ndT K O LT G a c.toNat=ndT K O LT G b c.toNat:=fun c hc=>by
   have:=hG i hi c hc;exact ih c.toNat (by omega) (by omega) a b (by omega) (by omega)
  have h0: ∀c∈G i,∀z,bdT K O (ndT K O LT G a) c.toNat z=bdT K O (ndT K O LT G b) c.toNat z:=fun c hc z=>by unfold bdT;rw[hk c hc]
  rw[ndT,ndT];by_cases h4:K i=4
  ·rw[pS h4,pS h4];match hg:G i with
   | []=>rfl
   | [c]=>simp only[h0 c (by rw[hg];simp)]
   | _::_::_=>rfl
  rw[nG h4,nG h4];by_cases h5:K i=5
  ·rw[pS h5,pS h5];match hg:G i with
   | []=>rfl
   | [c]=>rfl
   | [c,d]=>simp only[h0 c (by rw[hg];simp),h0 d (by rw[hg];simp)]
   | _::_::_::_=>rfl
  rw[nG h5,nG h5];have e3:((G i).map fun c=>ndT K O LT G a c.toNat)=((G i).map fun c=>ndT K O LT G b c.toNat):=List.map_congr_left hk;rw[e3]
theorem Qs6(hG:QT (fG F) n)(hi:i<n)(hc:c∈(F i).kids):ndT (fK F) (fO F) (fL F) (fG F) i c.toNat=TX F c.toNat:=by
 have h:=hG i hi c hc;exact Qq0 hG c.toNat (by omega) i (c.toNat+1) (by omega) (by omega)
theorem Qox(hG:QT (fG F) n)(hi:i<n)(hc:c∈(F i).kids)(z:Int):bdT (fK F) (fO F) (ndT (fK F) (fO F) (fL F) (fG F) i) c.toNat z=bdX F c.toNat z:=by
 unfold bdT bdX;rw[Qs6 hG hi hc];rfl
theorem MS(hG:QT (fG F) n)(hi:i<n)(hk:(F i).k=4)(hg:(F i).kids= [c]):TX F i= [45]++bdX F c.toNat 5:=by
 have h:=Qnr (K:=fK F) (O:=fO F) (LT:=fL F) (G:=fG F) (m:=i) (i:=i) (c:=c) hk hg;rw[Qox hG hi (by rw[hg];simp)]at h;exact h
theorem MT{a b:Int}(hG:QT (fG F) n)(hi:i<n)(hk:(F i).k=5)(hg:(F i).kids= [a,b]):TX F i=bdX F a.toNat (lvl (F i).o)++sgT (F i).o++bdX F b.toNat (lvl (F i).o+1):=by
 have h:=Qns (K:=fK F) (O:=fO F) (LT:=fL F) (G:=fG F) (m:=i) (i:=i) (a:=a) (b:=b) hk hg;rw[Qox hG hi (by rw[hg];simp),Qox hG hi (by rw[hg];simp)]at h;exact h
theorem Gf(hG:QT (fG F) n)(hi:i<n)(hk:(F i).k=6):TX F i=fnT (F i).o++ [40]++jn ((F i).kids.map fun c=>TX F c.toNat)++ [41]:=by
 have h:=Qgv (K:=fK F) (O:=fO F) (LT:=fL F) (G:=fG F) (m:=i) (i:=i) hk;have e:((fG F i).map fun c=>ndT (fK F) (fO F) (fL F) (fG F) i c.toNat)=((F i).kids.map fun c=>TX F c.toNat):=List.map_congr_left (fun c hc=>Qs6 hG hi hc);rw[e]at h;exact h
theorem ZH(h4:(F i).k≠4)(h5:(F i).k≠5)(h6:(F i).k≠6):TX F i=Xf (F i):=Qgu (K:=fK F) (O:=fO F) (LT:=fL F) (G:=fG F) (m:=i) (i:=i) h4 h5 h6
theorem Qgg(c r:Int)(x y:Bool):(plT c r x y).length<=6:=by
 have e:(plT c r x y).length=(QL c r.toNat x y).size:=rfl;rw[e,QL,ByteArray.size_append,ByteArray.size_append,ByteArray.size_append];have h1:=JE x;have h2:=JE y;have h3:=JQ c;have h4:=JO r.toNat;omega
theorem Qpc(n:Int):(trT n).size<=5:=by unfold trT;split<;>decide
theorem Qrw(n:Int):(erT n).size<=7:=by
 unfold erT;repeat' split
 all_goals decide
theorem XY{k n:Int}{s:ByteArray}(h:cOk k n s=true):okV k n s=true/\k≠0/\(k=1->0<=n):=by
 simp only[cOk,t,Bool.not_eq_true',decide_eq_false_iff_not,Bool.or_eq_true,decide_eq_true_eq]at h;exact⟨h.1.1,h.1.2,fun e=>by rcases h.2 with h2 | h2;exact absurd e h2;exact h2⟩
theorem Qmx{k n:Int}{s:ByteArray}(hc:cOk k n s=true):(Vs k n s).length<=402:=by
 obtain⟨h,_,h0⟩:=XY hc;have hn:k=1->0<=n:=h0;unfold Vs;rcases Yr h with⟨rfl,rfl,rfl⟩ | ⟨rfl,hr,rfl⟩ | ⟨rfl,rfl,hr⟩ | ⟨rfl,hr,rfl⟩ | ⟨rfl,h1,h5,rfl⟩
 ·simp only[txV,h,pS,txB];decide
 ·have hb:=Qa6 hr;obtain⟨m,rfl⟩: ∃m:Nat,n=(m:Int):=⟨n.toNat,by have:=hn rfl;omega⟩;have:=KG (m:=m) (by omega);rw[nG (by omega),txV,h,pS rfl,txB,pS rfl];show(itB (m:Int)).size<=402;omega
 ·have hb:=Hq hr;rw[pS rfl];have h1:=Qnk s.data.toList;have h2:s.data.toList.length=s.size:=rfl;simp only[List.length_append,List.length_cons,List.length_nil];omega
 ·rw[nG (by omega),txV,h,pS rfl,txB,nG (by omega),nG (by omega),pS rfl];have:=Qpc n;show(trT n).size<=402;omega
 ·rw[nG (by omega),txV,h,pS rfl,txB,nG (by omega),nG (by omega),nG (by omega),pS rfl];have:=Qrw n;show(erT n).size<=402;omega
theorem Zl{x:FN}(h:Qp x=true):(x.k=1/\cOk x.ck x.cn x.cs=true/\x.kids= [])\/(x.k=2/\Qf x.ac x.ar=true/\x.kids= [])\/(x.k=3/\Qf x.ac x.ar=true/\Qf x.bc x.br=true/\x.kids= [])\/(x.k=4/\ ∃c,x.kids= [c])\/
  (x.k=5/\1<=x.o/\x.o<=11/\ ∃a b,x.kids= [a,b])\/(x.k=6/\1<=x.o/\x.o<=10/\1<=x.kids.length/\x.kids.length<=10):=by
 have h0: ∀l:List Int,l.length=0->l= []:=fun l h=>List.length_eq_zero_iff.1 h;unfold Qp QI at h;by_cases h1:x.k=1
 ·rw[pS h1]at h;simp only[t,decide_eq_true_eq]at h;exact R ⟨h1,h.1.1.1.1,h0 _ h.2⟩
 rw[nG h1]at h;by_cases h2:x.k=2
 ·rw[pS h2]at h;simp only[t,decide_eq_true_eq]at h;exact C (R ⟨h2,h.1.1.1.1,h0 _ h.2⟩)
 rw[nG h2]at h;by_cases h3:x.k=3
 ·rw[pS h3]at h;simp only[t,decide_eq_true_eq,Ql]at h;exact C (C (R ⟨h3,h.1.1.1.1.1,h.1.1.1.1.2,h0 _ h.2⟩))
 rw[nG h3]at h;by_cases h4:x.k=4
 ·rw[pS h4]at h;simp only[t,decide_eq_true_eq]at h;have hl:=h.1.1;match hk:x.kids,hl with
  | [c],_=>exact C (C (C (R ⟨h4,c,rfl⟩)))
  | [],hl=>simp at hl
  | _::_::_,hl=>simp at hl
 rw[nG h4]at h;by_cases h5:x.k=5
 ·rw[pS h5]at h;simp only[t,decide_eq_true_eq]at h;have hl:=h.1.1;match hk:x.kids,hl with
  | [a,b],_=>exact C (C (C (C (R ⟨h5,h.1.2.1,h.1.2.2,a,b,rfl⟩))))
  | [],hl=>simp at hl
  | [_],hl=>simp at hl
  | _::_::_::_,hl=>simp at hl
 rw[nG h5]at h;by_cases h6:x.k=6
 ·rw[pS h6]at h;simp only[t]at h;have ha:=h.1;refine C (C (C (C (C ⟨h6,?_⟩))));unfold GH at ha;by_cases e5:x.o=5
  ·rw[pS e5]at ha;have:=of_decide_eq_true ha;omega
  rw[nG e5]at ha;by_cases e8:8<=x.o/\x.o<=10
  ·rw[pS e8]at ha;have:=of_decide_eq_true ha;omega
  rw[nG e8]at ha;by_cases e7:1<=x.o/\x.o<=7
  ·rw[pS e7]at ha;have:=of_decide_eq_true ha;omega
  ·rw[nG e7]at ha;cases ha
 ·rw[nG h6]at h;cases h
theorem VV(h:Zb F n=true):1<=n/\n<=60/\(∀i,i<n->Qp (F i)=true)/\QT (fG F) n/\Yt (fG F) ((n:Int)-1)<=12:=by
 simp only[Zb,t,decide_eq_true_eq,MN,List.all_eq_true,List.mem_range]at h;obtain⟨⟨⟨⟨⟨h1,h2⟩,hn⟩,hk⟩,_⟩,hd⟩:=h;have hr:QT (fG F) n:=Km hk;refine⟨h1,h2,hn,hr,?_⟩;obtain⟨m,rfl⟩: ∃m,n=m+1:=⟨n-1,by omega⟩
 have ht:Zx (fG F) m=0:=by
  have h9:Xs (fG F) (m+1)=true:=hk;rw[GD]at h9;exact of_decide_eq_true h9
 have h0:JI (fG F) (m+1)=true:=hd;rw[Og hr ht]at h0;have:=of_decide_eq_true h0;rw[show(((m+1:Nat):Int)-1)=(m:Int) by omega];exact this
theorem De{G:Nat->List Int}(hG:QT G n)(hi:i<n)(hc:c∈G i):Yt G c+1<=Yt G i:=by
 have h:=Oe hG i (by omega) (by omega);have h2:=((Ht (D:=Yt G) (G i) 0 _).1 (Int.le_refl _)).2 c hc;rw[Int.toNat_natCast]at h;omega
def eD(F:Nat->FN)(i:Nat):Nat:=(Yt (fG F) i-1).toNat
theorem Qv5(h:Zb F n=true):TrOk (fK F) (fL F) (fG F) n (eD F):=by
 obtain⟨h1,h60,hn,hr,hd⟩:=VV h;refine⟨fun i hi hk=> ?_,fun i hi hk=> ?_,fun i hi hk=> ?_,fun i hi c hc=> ?_,fun i hi=> ?_⟩
 ·have h0:(F i).k=4:=hk;rcases Zl (hn i hi)with⟨e,_⟩ | ⟨e,_⟩ | ⟨e,_⟩ | ⟨e,c,hc⟩ | ⟨e,_⟩ | ⟨e,_⟩
  all_goals first
   | exact⟨c,hc⟩
   | (exfalso;omega)
 ·have h0:(F i).k=5:=hk;rcases Zl (hn i hi)with⟨e,_⟩ | ⟨e,_⟩ | ⟨e,_⟩ | ⟨e,_⟩ | ⟨e,_,_,a,b,hc⟩ | ⟨e,_⟩
  all_goals first
   | exact⟨a,b,hc⟩
   | (exfalso;omega)
 ·have h0:(F i).k=6:=hk;rcases Zl (hn i hi)with⟨e,_⟩ | ⟨e,_⟩ | ⟨e,_⟩ | ⟨e,_⟩ | ⟨e,_⟩ | ⟨e,_,_,_,hc⟩
  all_goals first
   | exact hc
   | (exfalso;omega)
 ·have h2:=hr i hi c hc;have h3:=De hr hi hc;have h4:=Dd (fG F) c;refine⟨h2.1,h2.2,?_⟩;unfold eD;rw[Int.toNat_of_nonneg h2.1];omega
 ·show(Xf (F i)).length<=410;unfold Xf;have p1:=Qgg (F i).ac (F i).ar (F i).af (F i).ag;have p2:=Qgg (F i).bc (F i).br (F i).bf (F i).bg;split
  ·rename_i hk1
   rcases Zl (hn i hi)with⟨e,hc,_⟩ | ⟨e,_⟩ | ⟨e,_⟩ | ⟨e,_⟩ | ⟨e,_⟩ | ⟨e,_⟩
   ·have:=Qmx hc;omega
   all_goals (exfalso;omega)
  ·split
   ·omega
   ·simp only[List.length_append,List.length_cons,List.length_nil];omega
theorem Jl(h:Zb F n=true)(hi:i<n)(hd:Yt (fG F) i<=12):(TX F i).length<=116977784950510:=
 Qlp (Qv5 h) (i+1) i hi (by unfold eD;omega)
def bnO(m:Nat):Int:=if m=0 then 0 else lvl m
def OT(W:E):Prop:= ∀m:Nat,m<=11->W.cell? ⟨0,m*2,none⟩=some (A (bs (sgT m)))/\W.cell? ⟨0,m*2+1,none⟩=some (f g (bnO m))
def FTN(W:E):Prop:= ∀m:Nat,m<=10->W.cell? ⟨1,m*3,none⟩=some (A (bs (fnT m)))
def MX(W:E):Prop:= ∃m:Int,W.cell? ⟨5,0,none⟩=some (f g m)
structure GT (W:E):Prop where
 ft:FT W
 fn:FTN W
 ot:OT W
 mx:MX W
 vt:VarT W
theorem OT.lt(h:OT W):0<W.heap.size:=I W ⟨0,0*2,none⟩ (h 0 (by omega)).1
theorem FTN.lt(h:FTN W):1<W.heap.size:=I W ⟨1,0*3,none⟩ (h 0 (by omega))
theorem MX.lt(h:MX W):5<W.heap.size:=by
 obtain⟨m,hm⟩:=h;exact I W ⟨5,0,none⟩ hm
theorem GT.below{W':E}(h:GT W)(hb:N W.heap.size W W'):GT W' where
 ft:=h.ft.below hb
 fn:=fun m hm=>(hb.cell (p:=⟨1,_,none⟩) h.fn.lt).trans (h.fn m hm)
 ot:=fun m hm=>⟨(hb.cell (p:=⟨0,_,none⟩) h.ot.lt).trans (h.ot m hm).1,(hb.cell (p:=⟨0,_,none⟩) h.ot.lt).trans (h.ot m hm).2⟩
 mx:=by obtain⟨m,hm⟩:=h.mx;exact⟨m,(hb.cell (p:=⟨5,_,none⟩) h.mx.lt).trans hm⟩
 vt:=h.vt.below hb
theorem Qp8(s:ByteArray):(⟨(M s.data.toList (⟨#[34]⟩:ByteArray).data.toList (⟨#[34,34]⟩:ByteArray).data.toList).toArray⟩:ByteArray)=bs (qt s.data.toList):=by
 show bs (M s.data.toList [34] [34,34])=_;rw[Qp9]
theorem Qb0(s:ByteArray)(w:E)(hs:s.size<=1000)(hm:MX w):L prog 220 #[A s] w fun e w'=>
  e= H (A (bs ([34]++qt s.data.toList++ [34])))/\N w.heap.size w w':=by
 obtain⟨m,hm⟩:=hm;have HM:Hid (w.cell? ⟨5,0,none⟩=some (f g m)):=hm;have h0:Lib.countB s (⟨#[34]⟩:ByteArray)<=1000:=Nat.le_trans (Qvd s.data.toList) hs;have hq:(bs (qt s.data.toList)).size<=2000:=by rw[QD];have:=Qnk s.data.toList;have h2:s.data.toList.length=s.size:=rfl;omega
 have HF:Hid ((⟨#[34]⟩:ByteArray)++bs (qt s.data.toList)++(⟨#[34]⟩:ByteArray)=bs ([34]++qt s.data.toList++ [34])):=by
  show _=_;rw[show(⟨#[34]⟩:ByteArray)=bs [34]from rfl,Zc,Zc]
 have HC:Hid (s.size+Lib.countB s (⟨#[34]⟩:ByteArray)*(⟨#[34,34]⟩:ByteArray).size<=140737488355328):=by show _<=_;rw[show(⟨#[34,34]⟩:ByteArray).size=2 from rfl];omega
 obtain⟨q,HQ⟩: ∃q,Hid (bs (qt s.data.toList)=q):=⟨_,rfl⟩;have HR:Hid ((⟨(M s.data.toList (⟨#[34]⟩:ByteArray).data.toList (⟨#[34,34]⟩:ByteArray).data.toList).toArray⟩:ByteArray)=q):=by show _=_;rw[Qp8,HQ.out]
 rw[HQ.out]at HF hq;clear hm h0;have z1: ¬9223372036854775807<1+q.size:=by omega
 have z2: ¬9223372036854775807<1+q.size+1:=by omega
 go_enter func220,ntmps220;go_wp2_with fail
 refine(Tryz.strings_ReplaceAll s ⟨#[34]⟩ ⟨#[34,34]⟩ m _ (by omega) HM.out (by decide) HC.out).mono ?_;rintro e w1 ⟨rfl,hb⟩;rw[HR.out];go_wp2_with fail
 go_ret;exact⟨QC HF.out,hb⟩
theorem Nl(k n:Int)(s:ByteArray)(w:E)(hs:s.size<=maxLen)(hc:cOk k n s=true)(hg:GT w):L prog 182 #[T #[f g k,f g n,A s]] w fun e w'=>
  e= H (A (bs (Vs k n s)))/\N w.heap.size w w':=by
 have HG:Hid (GT w):=hg;have HS:Hid (s.size<=maxLen):=hs;obtain⟨ho,_,_⟩:=XY hc;clear hg hc hs;by_cases h2:k=2
 ·subst h2
  have hz:s.size<=200:=by
   rcases Yr ho with⟨e,_⟩ | ⟨e,_⟩ | ⟨_,_,hr⟩ | ⟨e,_⟩ | ⟨e,_⟩
   ·cases e
   ·cases e
   ·exact Hq hr
   ·cases e
   ·cases e
  have HE:Hid (bs ([34]++qt s.data.toList++ [34])=bs (Vs 2 n s)):=by show _=_;rw[Vs,pS rfl]
  go_enter func182,ntmps182;go_wp2_with fail
  refine(Qb0 s _ (by omega) (HG.out.below (by go_grown)).mx).mono ?_;rintro e w1 ⟨rfl,hb⟩;rw[HE.out];have K1:=Qb (w:=w) (by go_grown) hb;go_wp2_with fail
  go_ret;exact⟨rfl,K1⟩
 ·have h2':(k==2)=false:=by simpa using h2
  have HE:Hid (txV k n s=bs (Vs k n s)):=by show _=_;rw[Vs,nG h2,Ol]
  go_enter func182,ntmps182;go_wp2_with fail
  refine(Kh k n s _ (HG.out.below (by go_grown)).vt HS.out).mono ?_;rintro e w1 ⟨rfl,hb⟩;rw[HE.out];have K1:=Qb (w:=w) (by go_grown) hb;go_wp2_with fail
  go_ret;exact⟨rfl,K1⟩
end Go.Proofs.YtomadadmakdkgaaGreatDoor
