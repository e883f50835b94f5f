import Derived.Test.YtomadadmakdkgaaGreatDoorGaj
import Derived.Test.YtomadadmakdkgaaGreatDoorPlaceJK
import Derived.Test.YtomadadmakdkgaaGreatDoorGas
import Derived.Test.YtomadadmakdkgaaGreatDoorGan
import Derived.Test.YtomadadmakdkgaaGreatDoorGbd
import Derived.Test.YtomadadmakdkgaaGreatDoorGat
import Derived.Test.YtomadadmakdkgaaGreatDoorGao
import Derived.Test.YtomadadmakdkgaaGreatDoorGbf
open Option.some renaming inj → u
open Or renaming inl → A, inr → B
set_option linter.unusedSimpArgs false
set_option linter.unusedVariables false
namespace Go.Proofs.YtomadadmakdkgaaGreatDoor
open Go.RowKit
variable {i j:Nat} {a lv c r k n:Int} {F:Nat->FN} {out:List FN} {l t:List UInt8} {x y:Bool} {b:UInt8} {s:ByteArray}
def Un:List UInt8->Bool
 | b::_=>b==36
 | []=>false
theorem Qfj(s:ByteArray):QP s=Un s.data.toList:=by
 obtain⟨⟨l⟩⟩:=s;cases l with
 | nil=>rfl
 | cons b t=>rfl
theorem Qow(s:ByteArray)(a b:Nat):(s.extract a b).data.toList=(s.data.toList.drop a).take (b-a):=by
 simp[ByteArray.data_extract,Array.toList_extract,List.extract_eq_take_drop]
theorem Qoa(s:ByteArray):(Yu s).data.toList=if Un s.data.toList then s.data.toList.drop 1 else s.data.toList:=by
 unfold Yu;rw[Qfj];split
 ·rw[Qow];apply List.take_of_length_le;simp
 ·rfl
theorem Bg: ∀l:List UInt8,l.take (l.takeWhile isL).length=l.takeWhile isL
 | []=>rfl
 | b::t=>by
  cases h:isL b
  ·rw[List.takeWhile_cons,h];rfl
  ·rw[List.takeWhile_cons,h];show b::t.take (t.takeWhile isL).length=_;rw[Bg t];rfl
theorem Ea: ∀l:List UInt8,l.drop (l.takeWhile isL).length=l.dropWhile isL
 | []=>rfl
 | b::t=>by
  cases h:isL b
  ·rw[List.takeWhile_cons,List.dropWhile_cons,h];rfl
  ·rw[List.takeWhile_cons,List.dropWhile_cons,h];show t.drop (t.takeWhile isL).length=_;rw[Ea t];rfl
theorem Qwc(s:ByteArray):rpC s=rdc ((Yu s).data.toList.takeWhile isL) 0:=by
 unfold rpC UI;rw[Qow,List.drop_zero,Nat.sub_zero,Bg]
theorem Qwe(s:ByteArray):(rp2 s).data.toList=(Yu s).data.toList.dropWhile isL:=by
 unfold rp2 UI;rw[Qow,Ea];apply List.take_of_length_le;have h:=congrArg List.length (List.takeWhile_append_dropWhile (p:=isL) (l:=(Yu s).data.toList));rw[List.length_append]at h;have e:(Yu s).size=(Yu s).data.toList.length:=by simp
 omega
theorem Qwd(s:ByteArray):(rp3 s).data.toList=if Un (rp2 s).data.toList then(rp2 s).data.toList.drop 1 else(rp2 s).data.toList:=Qoa _
def fxL(b:Bool):List UInt8:=if b then [36]else []
theorem fx_L(b:Bool):(fx b).data.toList=fxL b:=by cases b<;>rfl
theorem Oy(c:Int)(i:Nat)(x y:Bool):(QL c i x y).data.toList=fxL x++(Yo c).data.toList++fxL y++(XS i).data.toList:=by
 unfold QL;simp[fx_L]
theorem Kn(c:Int)(h1:1<=c)(h2:c<=52):(∀b∈(Yo c).data.toList,isL b=true)/\(Yo c).data.toList≠ []:=by
 by_cases h:c<=26
 ·rw[KJ h1 h];have e:(UInt8.ofNat (65+(c-1)).toNat).toNat=(65+(c-1)).toNat:=by simp;omega
  refine⟨fun b hb=> ?_,by simp⟩;simp only[List.mem_singleton]at hb;subst hb;unfold isL;rw[e];exact decide_eq_true (by omega)
 ·rw[KI (by omega) h2];have e:(UInt8.ofNat (65+(c-27)).toNat).toNat=(65+(c-27)).toNat:=by simp;omega
  refine⟨fun b hb=> ?_,by simp⟩;simp only[List.mem_cons,List.not_mem_nil,or_false]at hb;rcases hb with rfl | rfl
  ·rfl
  ·unfold isL;rw[e];exact decide_eq_true (by omega)
theorem Qji: ∀i,i<100->(match (XS i).data.toList with | d::_=> !isL d&& !(d==36) | []=>false)=true:=by decide+kernel
theorem Qmt: ∀i,i<100->l1L (XS i).data.toList=some (i:Int):=by decide+kernel
theorem Qcz(x:Bool)(l:List UInt8)(h:Un l=false):Un (fxL x++l)=x/\(if Un (fxL x++l)then(fxL x++l).drop 1 else fxL x++l)=l:=by
 cases x
 ·show Un l=false/\(if Un l then l.drop 1 else l)=l;rw[h];exact⟨rfl,rfl⟩
 ·exact⟨rfl,rfl⟩
theorem Qi1(b:UInt8)(h:isL b=true):(b==36)=false:=by
 cases hb:(b==36)
 ·rfl
 ·rw[beq_iff_eq]at hb;subst hb;cases h
theorem Qtx(c:Int)(i:Nat)(x y:Bool)(hc:1<=c/\c<=52)(hi:1<=i/\i<=99):QP (QL c i x y)=x/\rpC (QL c i x y)=c/\QP (rp2 (QL c i x y))=y/\l1I (rp3 (QL c i x y))=some (i:Int):=by
 obtain⟨hl,h4⟩:=Kn c hc.1 hc.2;have hd:=Qji i (by omega);have e0:(QL c i x y).data.toList=fxL x++((Yo c).data.toList++(fxL y++(XS i).data.toList)):=by rw[Oy];simp only[List.append_assoc]
 have h1:Un ((Yo c).data.toList++(fxL y++(XS i).data.toList))=false:=by
  cases hq:(Yo c).data.toList with
  | nil=>exact absurd hq h4
  | cons b t=>exact Qi1 b (hl b (by rw[hq];simp))
 obtain⟨a1,a2⟩:=Qcz x _ h1
 have h2:Un (XS i).data.toList=false:=by
  revert hd
  cases (XS i).data.toList with
  | nil=>intro h;cases h
  | cons b t=>
   intro h;have h9:(!isL b&& !(b==36))=true:=h;rw[Bool.and_eq_true]at h9;show(b==36)=false;simpa using h9.2
 obtain⟨b1,b2⟩:=Qcz y _ h2;have h0:(Yu (QL c i x y)).data.toList=(Yo c).data.toList++(fxL y++(XS i).data.toList):=by rw[Qoa,e0];exact a2
 have h3:(fxL y++(XS i).data.toList).takeWhile isL= []:=by
  cases y
  ·show((XS i).data.toList).takeWhile isL= [];revert hd
   cases (XS i).data.toList with
   | nil=>intro h;cases h
   | cons b t=>
    intro h;have h9:(!isL b&& !(b==36))=true:=h;rw[Bool.and_eq_true]at h9;rw[List.takeWhile_cons,show isL b=false by simpa using h9.1];rfl
  ·rfl
 have h5:(fxL y++(XS i).data.toList).dropWhile isL=fxL y++(XS i).data.toList:=by
  have h:=List.takeWhile_append_dropWhile (p:=isL) (l:=fxL y++(XS i).data.toList);rw[h3]at h;exact h
 have e2:(rp2 (QL c i x y)).data.toList=fxL y++(XS i).data.toList:=by
  rw[Qwe,h0,List.dropWhile_append_of_pos hl,h5]
 refine⟨by rw[Qfj,e0];exact a1,?_,by rw[Qfj,e2];exact b1,?_⟩
 ·rw[Qwc,h0,List.takeWhile_append_of_pos hl,h3,List.append_nil];exact Qgb c hc.1 hc.2
 ·rw[Qsx,Qwd,e2,b2];exact Qmt i (by omega)
def MH(T:Int->Int):Int->List Int->Int->Prop
 | a,[],e=>a=e
 | a,k::ks,e=>T k=a/\a<=k/\MH T (k+1) ks e
theorem Ok{T:Int->Int}: ∀(ks:List Int) (a k e:Int),MH T a ks (T k)->T k<=k->k+1=e->MH T a (ks++ [k]) e
 | [],a,k,e,h,hk,he=>by
  rw[MH]at h;subst h;exact⟨rfl,hk,he⟩
 | q::ks,a,k,e,h,hk,he=>⟨h.1,h.2.1,Ok ks (q+1) k e h.2.2 hk he⟩
theorem Qee{T:Int->Int}(hT: ∀x,0<=x->T x<=x)(ks:List Int): ∀(e a:Int),QO T (e-1) ks=a->0<=a->MH T a ks.reverse e:=by
 induction ks with
 | nil=>
  intro e a h ha;simp only[QO]at h;show a=e;omega
 | cons k ks ih=>
  intro e a h ha;rw[QO]at h;split at h
  ·omega
  ·rename_i hc
   split at h
   ·omega
   ·rename_i hd
    have h0:0<=e-1:=by omega
    have hk:k=e-1:=by omega
    rw[List.reverse_cons];rw[<-hk]at h;refine Ok ks.reverse a k e (ih (T k) a h ha) (hT k (by omega)) (by omega)
theorem Qdl{G:Nat->List Int}{i:Int}(hi:0<=i)(h:Zx G i=a)(ha:0<=a):MH (Zx G) a (G i.toNat) i:=by
 rw[Vt G i hi]at h;have:=Qee (T:=Zx G) (fun x hx=>XJ G x hx) _ i a h ha;rwa[List.reverse_reverse]at this
def seg(F:Nat->FN)(a:Nat):Nat->List FN
 | 0=> []
 | m+1=>seg F a m++ [F (a+m)]
theorem Hn(F:Nat->FN)(a:Nat): ∀m,(seg F a m).length=m
 | 0=>rfl
 | m+1=>by rw[seg,List.length_append,Hn F a m];rfl
theorem Qf2(F:Nat->FN)(a:Nat): ∀(p m:Nat),seg F a p++seg F (a+p) m=seg F a (p+m)
 | p,0=>by simp[seg]
 | p,m+1=>by
  rw[seg,<-List.append_assoc,Qf2 F a p m,<-Nat.add_assoc,seg,Nat.add_assoc]
def Xg(F:Nat->FN)(out:List FN)(i:Nat):List FN:=out++seg F out.length (i+1-out.length)
theorem Ji(h:out.length<=i+1):(Xg F out i).length=i+1:=by
 unfold Xg;rw[List.length_append,Hn];omega
theorem KN(h:out.length<=i+1)(hij:i<=j):Xg F (Xg F out i) j=Xg F out j:=by
 have h1:=Ji (F:=F) h;unfold Xg at*;rw[h1,List.append_assoc];congr 1
 have h2:=Qf2 F out.length (i+1-out.length) (j+1-(i+1));rw[show out.length+(i+1-out.length)=i+1 by omega,show i+1-out.length+(j+1-(i+1))=j+1-out.length by omega]at h2;exact h2
theorem Ko(h:out.length=i):Xg F out i=out++ [F i]:=by
 unfold Xg;rw[h,show i+1-i=1 by omega];rfl
theorem Be(h:out.length<=i+1):Xg F out i++ [F (i+1)]=Xg F out (i+1):=by
 rw[<-KN h (Nat.le_succ i),Ko (Ji h)]
def Sep(l:List UInt8):Prop:= ∀b,l.head? =some b->isW b=false/\b≠34/\b≠58/\b≠32
def XN(lv:Int)(l:List UInt8):Prop:=QR (pk l)=0\/lvl (QR (pk l))<lv
theorem UZ{lv':Int}(h:XN lv l)(hl:lv<=lv'):XN lv' l:=by
 rcases h with h | h
 ·exact A h
 ·exact B (by omega)
theorem Qv8(l:List UInt8):XN 5 l:=B (by have:=(Jf (QR (pk l))).2;omega)
theorem Qdi(h1:1<=lv)(h4:lv<=4)(hn:l.length<=1000)(h:XN lv l):PB RF 2 lv a [] l out=some (a,sb l,out):=by
 rw[PB2 h1 h4 hn,pS];rcases h with h | h
 ·exact A h
 ·exact B (by omega)
theorem Qfk{x:Int}{o1:List FN}(h1:1<=lv)(h4:lv<=4)(ht:t.length<=1000)(h:PB RF 1 (lv+1) 0 [] t out=some (x,sb l,o1)):PB RF 1 lv 0 [] t out=PB RF 2 lv x [] l o1:=by
 rw[PB1 h1 h4 ht,h];exact JJ (Zj _)
theorem Gv(h:b≠32):sb (b::l)=b::l:=by
 unfold sb;rw[List.dropWhile_cons,nG (by simpa using h)]
theorem Qur(h:isW b=true):b≠32:=fun e=>by subst e;revert h;decide
theorem Qtg{w:List UInt8}(ha: ∀b∈w,isW b=true)(hs: ∀b,l.head? =some b->isW b=false):(w++l).takeWhile isW=w/\(w++l).dropWhile isW=l:=by
 induction w with
 | nil=>
  cases l with
  | nil=>exact⟨rfl,rfl⟩
  | cons b t=>
   have:=hs b rfl;simp[List.takeWhile,List.dropWhile,this]
 | cons a w ih=>
  have h1:=ha a (by simp);obtain⟨i1,i2⟩:=ih (fun b hb=>ha b (by simp[hb]));rw[List.cons_append,List.takeWhile_cons,pS h1,List.dropWhile_cons,pS h1,i1,i2];exact⟨rfl,rfl⟩
theorem Ui{w:List UInt8}(hw:w≠ [])(ha: ∀b∈w,isW b=true)(hs: ∀b,l.head? =some b->isW b=false):pk (w++l)=w/\nx (w++l)=l:=by
 cases w with
 | nil=>exact absurd rfl hw
 | cons a w=>
  have h1:=ha a (by simp);have h0:sb (a::w++l)=a::w++l:=Gv (Qur h1);obtain⟨e1,e2,_⟩:=NL (l:=a::w++l) (t:=w++l) (c:=a) h0 h1;obtain⟨t1,t2⟩:=Qtg (w:=a::w) ha hs;rw[e1,e2,h0,t1,t2];exact⟨rfl,rfl⟩
theorem Xl{c:UInt8}(hc:c=40\/c=41\/c=44\/c=58\/c=45):pk (c::l)= [c]/\nx (c::l)=l:=Dv (Gv (by rcases hc with e | e | e | e | e<;>(rw[e];decide))) hc
def Beg(b:UInt8):Prop:=isW b=true\/b=40\/b=45\/b=34\/b=35
theorem Qfo(h:Beg b):b≠32/\b≠61/\b≠62/\b≠58/\b≠41/\b≠44:=by
 rcases h with h | h | h | h | h
 ·refine⟨?_,?_,?_,?_,?_,?_⟩<;>(intro e;subst e;revert h;decide)
 all_goals (subst h;decide)
theorem Qio(o:Int)(h1:1<=o)(h2:o<=11){r:List UInt8}(hb:Beg b):Zg (sgT o++b::r)=o/\sb (sgT o++b::r)=sgT o++b::r:=by
 obtain⟨_,n1,n2,_⟩:=Qfo hb;have hn:o=1\/o=2\/o=3\/o=4\/o=5\/o=6\/o=7\/o=8\/o=9\/o=10\/o=11:=by omega
 rcases hn with rfl | rfl | rfl | rfl | rfl | rfl | rfl | rfl | rfl | rfl | rfl
 all_goals
  refine⟨?_,?_⟩
  ·simp[sgT,Zg,n1,n2]
  ·simp only[sgT];exact Gv (by decide)
theorem Qwh(o:Int)(h1:1<=o)(h2:o<=11){r:List UInt8}(hb:Beg b):pk (sgT o++b::r)=sgT o/\nx (sgT o++b::r)=b::r:=by
 obtain⟨e1,e2⟩:=Qio o h1 h2 hb (r:=r);obtain⟨p1,p2⟩:=Qot (l:=sgT o++b::r) (by rw[e2,e1];omega);rw[e2,e1]at p1 p2;exact⟨p1,(List.append_cancel_left p2).symm⟩
theorem Qnf(o:Int)(h1:1<=o)(h2:o<=11)(r:List UInt8):Sep (sgT o++r):=by
 have hn:o=1\/o=2\/o=3\/o=4\/o=5\/o=6\/o=7\/o=8\/o=9\/o=10\/o=11:=by omega
 intro b hb;rcases hn with rfl | rfl | rfl | rfl | rfl | rfl | rfl | rfl | rfl | rfl | rfl
 all_goals
  simp only[sgT]at hb;have e:=u hb;rw[<-e];decide
theorem Kr{c:UInt8}(hc:c=41\/c=44)(l:List UInt8):Sep (c::l):=by
 intro b hb;have e:=u hb;rw[<-e];rcases hc with rfl | rfl<;>decide
theorem Qf0:Sep []:=fun b hb=>by cases hb
theorem Sep.w(h:Sep l): ∀b,l.head? =some b->isW b=false:=fun b hb=>(h b hb).1
theorem Sep.q(h:Sep l):l.head?≠some 34:=fun e=>(h 34 e).2.1 rfl
theorem Qls(h:isL b=true):isW b=true:=by
 unfold isW;unfold isL at h;rw[h];rfl
theorem Qfh{v:Int}(h:Qf c v=true):1<=c/\c<=52:=by
 simp only[Qf,decide_eq_true_eq]at h;omega
theorem Qk9(h:Qf c r=true):Jc c (some r)=true:=by
 unfold Jc;simpa using h
theorem Qxc: ∀i,i<100->(XS i).data.toList.all isW=true:=by decide+kernel
theorem My(h:Qf c r=true):(∀b∈plT c r x y,isW b=true)/\plT c r x y≠ []:=by
 have hb:=Qa5 h;have hc:=Qfh h;unfold plT;rw[Oy];obtain⟨l1,l2⟩:=Kn c hc.1 hc.2;have hf: ∀x:Bool,∀b∈fxL x,isW b=true:=by decide
 refine⟨fun b hb2=> ?_,?_⟩
 ·rcases List.mem_append.1 hb2 with hb2 | hb2
  ·rcases List.mem_append.1 hb2 with hb2 | hb2
   ·rcases List.mem_append.1 hb2 with hb2 | hb2
    ·exact hf x b hb2
    ·exact Qls (l1 b hb2)
   ·exact hf y b hb2
  ·exact List.all_eq_true.1 (Qxc r.toNat (by omega)) b hb2
 ·intro e;rw[List.append_eq_nil_iff,List.append_eq_nil_iff,List.append_eq_nil_iff]at e;exact l2 e.1.1.2
theorem Qa8(h:Qf c r=true):rpL (plT c r x y)=some (c,r,x,y):=by
 have hb:=Qa5 h;have hc:=Qfh h;obtain⟨h1,h2,h3,h4⟩:=Qtx c r.toNat x y hc (by omega);have e:bs (plT c r x y)=QL c r.toNat x y:=rfl;have er:((r.toNat:Nat):Int)=r:=by omega
 unfold rpL;rw[e,h1,h2,h3,h4,er];have ho:Jc c (some r)=true:=Qk9 h;rw[pS ho];rfl
theorem Qal{w:List UInt8}(h:rpL w≠none\/rvL w≠none):Xc w=0:=by
 by_cases hf:Xc w=0
 ·exact hf
 ·exfalso
  obtain⟨n,h1,h2,e⟩:=BP hf;have h9:=Qgq ⟨n-1,by omega⟩;simp only[show((n-1:Nat):Int)+1=(n:Int) by omega]at h9;rw[<-e]at h;rcases h with h | h
  ·exact h h9.2
  ·exact h h9.1
theorem Mv{f g:Bool}(h:zP c r f g=true):c=0/\r=0/\f=false/\g=false:=by
 simp only[zP,Bool.and_eq_true,decide_eq_true_eq,Bool.not_eq_true']at h;exact⟨h.1.1.1,h.1.1.2,h.1.2,h.2⟩
theorem Qdk(h:zV k n s=true):k=0/\n=0/\s=⟨#[]⟩:=by
 simp only[zV,Bool.and_eq_true,decide_eq_true_eq]at h;exact⟨h.1.1,h.1.2,Ju h.2⟩
theorem Qlk{x:FN}(h:Qp x=true)(hk:x.k=1):x=RF.cst x.ck x.cn x.cs.data.toList:=by
 obtain⟨k,o,ck,cn,cs,ac,ar,af,ag,bc,br,bf,bg,kids⟩:=x;simp only at hk;subst hk;unfold Qp QI at h;rw[pS rfl]at h;simp only[Bool.and_eq_true,decide_eq_true_eq]at h;obtain⟨⟨⟨⟨_,ho⟩,ha⟩,hb⟩,hl⟩:=h
 obtain⟨rfl,rfl,rfl,rfl⟩:=Mv ha;obtain⟨rfl,rfl,rfl,rfl⟩:=Mv hb;obtain rfl:=ho;obtain rfl:=List.length_eq_zero_iff.1 hl;rfl
theorem Qll{x:FN}(h:Qp x=true)(hk:x.k=2):x=RF.cel (x.ac,x.ar,x.af,x.ag):=by
 obtain⟨k,o,ck,cn,cs,ac,ar,af,ag,bc,br,bf,bg,kids⟩:=x;simp only at hk;subst hk;unfold Qp QI at h;rw[nG (by simp),pS rfl]at h;simp only[Bool.and_eq_true,decide_eq_true_eq]at h;obtain⟨⟨⟨⟨_,ho⟩,ha⟩,hb⟩,hl⟩:=h
 obtain⟨rfl,rfl,rfl⟩:=Qdk ha;obtain⟨rfl,rfl,rfl,rfl⟩:=Mv hb;obtain rfl:=ho;obtain rfl:=List.length_eq_zero_iff.1 hl;rfl
theorem Qlo{x:FN}(h:Qp x=true)(hk:x.k=3):x=RF.are (x.ac,x.ar,x.af,x.ag) (x.bc,x.br,x.bf,x.bg):=by
 obtain⟨k,o,ck,cn,cs,ac,ar,af,ag,bc,br,bf,bg,kids⟩:=x;simp only at hk;subst hk;unfold Qp QI at h;rw[nG (by simp),nG (by simp),pS rfl]at h;simp only[Bool.and_eq_true,decide_eq_true_eq]at h;obtain⟨⟨⟨_,ho⟩,ha⟩,hl⟩:=h
 obtain⟨rfl,rfl,rfl⟩:=Qdk ha;obtain rfl:=ho;obtain rfl:=List.length_eq_zero_iff.1 hl;rfl
theorem Qlj{x:FN}(h:Qp x=true)(hk:x.k=4)(hg:x.kids= [c]):x=RF.neg c:=by
 obtain⟨k,o,ck,cn,cs,ac,ar,af,ag,bc,br,bf,bg,kids⟩:=x;simp only at hk hg;subst hk hg;unfold Qp QI at h;rw[nG (by simp),nG (by simp),nG (by simp),pS rfl]at h;simp only[Bool.and_eq_true,decide_eq_true_eq]at h;obtain⟨⟨_,ho⟩,⟨hv,ha⟩,hb⟩:=h
 obtain⟨rfl,rfl,rfl⟩:=Qdk hv;obtain⟨rfl,rfl,rfl,rfl⟩:=Mv ha;obtain⟨rfl,rfl,rfl,rfl⟩:=Mv hb;obtain rfl:=ho;rfl
theorem Qln{x:FN}{b:Int}(h:Qp x=true)(hk:x.k=5)(hg:x.kids= [a,b]):x=RF.bin x.o a b:=by
 obtain⟨k,o,ck,cn,cs,ac,ar,af,ag,bc,br,bf,bg,kids⟩:=x;simp only at hk hg;subst hk hg;unfold Qp QI at h;rw[nG (by simp),nG (by simp),nG (by simp),nG (by simp),pS rfl]at h;simp only[Bool.and_eq_true,decide_eq_true_eq]at h;obtain⟨⟨_,ho⟩,⟨hv,ha⟩,hb⟩:=h
 obtain⟨rfl,rfl,rfl⟩:=Qdk hv;obtain⟨rfl,rfl,rfl,rfl⟩:=Mv ha;obtain⟨rfl,rfl,rfl,rfl⟩:=Mv hb;rfl
theorem Qlm{x:FN}(h:Qp x=true)(hk:x.k=6):x=RF.cal x.o x.kids:=by
 obtain⟨k,o,ck,cn,cs,ac,ar,af,ag,bc,br,bf,bg,kids⟩:=x;simp only at hk;subst hk;unfold Qp QI at h;rw[nG (by simp),nG (by simp),nG (by simp),nG (by simp),nG (by simp),pS rfl]at h;simp only[Bool.and_eq_true,decide_eq_true_eq]at h;obtain⟨_,⟨hv,ha⟩,hb⟩:=h
 obtain⟨rfl,rfl,rfl⟩:=Qdk hv;obtain⟨rfl,rfl,rfl,rfl⟩:=Mv ha;obtain⟨rfl,rfl,rfl,rfl⟩:=Mv hb;rfl
theorem Qsp(h:okV k n s=true):rvL (txV k n s).data.toList=some (k,n,s.data.toList):=by
 have hg:=Mh (txV k n s);rw[NW h]at hg;unfold rvL;rw[Ol,<-Ny,NW h,rvT,pS (hg.trans h)];rfl
theorem Od(m:Nat): ∀b∈Lib.decDigits m,48<=b.toNat/\b.toNat<=57:=by
 induction m using Nat.strongRecOn with
 | ind m ih=>
  intro b hb;rw[Lib.decDigits]at hb;split at hb
  ·rw[List.mem_singleton]at hb;rw[hb];simp;omega
  ·rcases List.mem_append.1 hb with hb | hb
   ·exact ih (m/10) (by omega) b hb
   ·rw[List.mem_singleton]at hb;rw[hb];simp;omega
theorem Qbg(h:48<=b.toNat/\b.toNat<=57):isW b=true/\b≠36/\isL b=false:=by
 refine⟨?_,fun e=>by subst e;revert h;decide,?_⟩
 ·unfold isW;simp[h]
 ·unfold isL;simp;omega
theorem Qli(h0:0<=n)(h:okV 1 n ⟨#[]⟩=true)(hl:((itB n).data.toList++l).length<=1000)(hs:Sep l):PB RF 3 0 0 [] ((itB n).data.toList++l) out=some ((out.length:Int),sb l,out++ [RF.cst 1 n []]):=by
 have e1:(itB n).data.toList=Lib.decDigits n.toNat:=by
  have:=Lib.itoa_nonneg n.toNat;rw[show((n.toNat:Nat):Int)=n by omega]at this;rw[<-this];rfl
 have hx:=Qsp h;have e2:txV 1 n ⟨#[]⟩=itB n:=by rw[txV,h,pS rfl,txB,pS rfl]
 rw[e2,e1]at hx;rw[e1]at hl ⊢;have hd:=Od n.toNat
 have h1:Lib.decDigits n.toNat≠ []:=by
  rw[Lib.decDigits];split
  ·simp
  ·simp
 obtain⟨p1,p2⟩:=Ui (l:=l) h1 (fun b hb=>(Qbg (hd b hb)).1) hs.w;have hf:Xc (Lib.decDigits n.toNat)=0:=Qal (B (by rw[hx];simp));rw[Vw (x:=some (1,n,[])) (y:=none) hl (by rw[p1];exact h1) ?_ ?_ ?_ (by rw[p1];exact hf) (by rw[p1];exact hx) ?_,p2]
 ·rfl
 all_goals
  rw[p1];cases hq:Lib.decDigits n.toNat with
  | nil=>exact absurd hq h1
  | cons b t=>
   have hb:=hd b (by rw[hq];simp);obtain⟨hw,h2,hL⟩:=Qbg hb;obtain⟨n1,n2,n3,n4⟩:=Qbc hw;first
   | exact Qf8 h2 hL
   | (intro e;exact n2 (List.cons.inj e).1)
   | (intro e;exact n3 (List.cons.inj e).1)
   | (intro e;exact n1 (u e))
theorem Qpb(hn:n=0\/n=1)(hl:((trT n).data.toList++l).length<=1000)(hs:Sep l):PB RF 3 0 0 [] ((trT n).data.toList++l) out=some ((out.length:Int),sb l,out++ [RF.cst 3 n []]):=by
 have hx:okV 3 n ⟨#[]⟩=true:=by rcases hn with rfl | rfl<;>decide+kernel
 have hv:=Qsp hx;have e2:txV 3 n ⟨#[]⟩=trT n:=by rw[txV,hx,pS rfl,txB,nG (by omega),nG (by omega),pS rfl]
 rw[e2]at hv;have ha:(trT n).data.toList.all isW=true/\(trT n).data.toList≠ []/\(trT n).data.toList≠ [40]/\(trT n).data.toList≠ [45]/\(trT n).data.toList.head?≠some 34:=by rcases hn with rfl | rfl<;>decide
 obtain⟨a1,a2,a3,a4,a5⟩:=ha;obtain⟨p1,p2⟩:=Ui (l:=l) a2 (fun b hb=>List.all_eq_true.1 a1 b hb) hs.w;have hf:Xc (trT n).data.toList=0:=Qal (B (by rw[hv];simp));rw[Vw (x:=some (3,n,[])) (y:=rpL (trT n).data.toList) hl (by rw[p1];exact a2) (by rw[p1];exact a3) (by rw[p1];exact a4) (by rw[p1];exact a5) (by rw[p1];exact hf) (by rw[p1];exact hv) (by rw[p1]),p2];rfl
theorem Qg6(n:Int)(h1:1<=n)(h5:n<=5):(erT n).data.toList=erL n.toNat:=by
 have hn:n=1\/n=2\/n=3\/n=4\/n=5:=by omega
 rcases hn with rfl | rfl | rfl | rfl | rfl<;>rfl
theorem Qsz(k:Nat)(h1:1<=k)(h5:k<=5)(l:List UInt8):Xd (erL k++l)=k/\ ∃t,erL k++l=35::t:=by
 have hn:k=1\/k=2\/k=3\/k=4\/k=5:=by omega
 rcases hn with rfl | rfl | rfl | rfl | rfl
 all_goals exact⟨by simp[Xd,erL,List.isPrefixOf],_,rfl⟩
theorem Qru(h1:1<=n)(h5:n<=5)(hl:((erT n).data.toList++l).length<=1000):PB RF 3 0 0 [] ((erT n).data.toList++l) out=some ((out.length:Int),sb l,out++ [RF.cst 4 n []]):=by
 rw[Qg6 n h1 h5]at hl ⊢;obtain⟨e1,t,e2⟩:=Qsz n.toNat (by omega) (by omega) l;have h0:sb (erL n.toNat++l)=erL n.toNat++l:=by rw[e2];exact Gv (by decide)
 rw[Qgr (t:=t) (k:=n.toNat) hl (by rw[h0];exact e2) (by rw[h0];exact e1) (by omega),h0,List.drop_left,show((n.toNat:Nat):Int)=n by omega]
theorem Qk6{s:List UInt8}(hl:([34]++qt s++ [34]++l).length<=1000)(hs:Sep l):PB RF 3 0 0 [] ([34]++qt s++ [34]++l) out=some ((out.length:Int),sb l,out++ [RF.cst 2 0 s]):=by
 have e: [34]++qt s++ [34]++l=34::(qt s++ [34]++l):=by simp
 rw[e]at hl ⊢;exact Qgo hl (Gv (by decide)) (NG s l hs.q)
theorem Qmw(hc:cOk k n s=true)(hl:(Vs k n s++l).length<=1000)(hs:Sep l):PB RF 3 0 0 [] (Vs k n s++l) out=some ((out.length:Int),sb l,out++ [RF.cst k n s.data.toList]):=by
 obtain⟨h,h0,hn⟩:=XY hc;unfold Vs at hl ⊢;rcases Yr h with⟨rfl,rfl,rfl⟩ | ⟨rfl,hr,rfl⟩ | ⟨rfl,rfl,hr⟩ | ⟨rfl,hr,rfl⟩ | ⟨rfl,h1,h5,rfl⟩
 ·exact absurd rfl h0
 ·have e2:txV 1 n ⟨#[]⟩=itB n:=by rw[txV,h,pS rfl,txB,pS rfl]
  rw[nG (by omega),e2]at hl ⊢;exact Qli (hn rfl) h hl hs
 ·rw[pS rfl]at hl ⊢;exact Qk6 hl hs
 ·have e2:txV 3 n ⟨#[]⟩=trT n:=by rw[txV,h,pS rfl,txB,nG (by omega),nG (by omega),pS rfl]
  rw[nG (by omega),e2]at hl ⊢;exact Qpb (by revert hr;simp[Yv]) hl hs
 ·have e2:txV 4 n ⟨#[]⟩=erT n:=by rw[txV,h,pS rfl,txB,nG (by omega),nG (by omega),nG (by omega),pS rfl]
  rw[nG (by omega),e2]at hl ⊢;exact Qru h1 h5 hl
theorem Uh(h:Qf c r=true): ∃b t,plT c r x y=b::t/\(b=36\/isL b=true):=by
 have hc:=Qfh h;obtain⟨l1,l2⟩:=Kn c hc.1 hc.2;unfold plT;rw[Oy];cases x with
 | true=>exact⟨36,_,rfl,A rfl⟩
 | false=>
  cases hq:(Yo c).data.toList with
  | nil=>exact absurd hq l2
  | cons b t=>exact⟨b,_,rfl,B (l1 b (by rw[hq];simp))⟩
theorem tr_rp:rpL (trT 0).data.toList=none/\rpL (trT 1).data.toList=none:=by decide+kernel
theorem Qua(h:b=36\/isL b=true):MW (b::t)=none:=by
 cases hq:MW (b::t)with
 | none=>rfl
 | some v=>
  exfalso
  obtain⟨e,_⟩:=KO hq;obtain⟨h0,h1⟩:=Qcv v;have e2:itB v=bs (b::t):=by rw[<-e];rfl
  have e3: ∀s:ByteArray,s=bs (b::t)-> ∀h:0<s.size,s[0]=b:=fun s hs h=>by subst hs;rfl
  rw[e3 _ e2 h0]at h1;rcases h with h | h
  ·rw[h]at h1;revert h1
   decide
  ·have:=of_decide_eq_true (show decide (65<=b.toNat/\b.toNat<=90)=true from h);omega
theorem Qwg(h:Qf c r=true):rvL (plT c r x y)=none:=by
 have hp:=Qa8 (x:=x) (y:=y) h;obtain⟨b,t,e,hb⟩:=Uh (x:=x) (y:=y) h;rw[e]at hp ⊢
 have n0:bs (b::t)≠trT 0:=fun e'=>by
  have:b::t=(trT 0).data.toList:=congrArg (fun s:ByteArray=>s.data.toList) e';rw[this,tr_rp.1]at hp;cases hp
 have n1:bs (b::t)≠trT 1:=fun e'=>by
  have:b::t=(trT 1).data.toList:=congrArg (fun s:ByteArray=>s.data.toList) e';rw[this,tr_rp.2]at hp;cases hp
 have e0: ∀h:0<(bs (b::t)).size,(bs (b::t))[0]=b:=fun _=>rfl
 have nb:b.toNat≠39/\b.toNat≠35:=by
  rcases hb with hb | hb
  ·subst hb;decide
  ·have:=of_decide_eq_true (show decide (65<=b.toNat/\b.toNat<=90)=true from hb);omega
 unfold rvL rvS;rw[dif_pos (show 0<(bs (b::t)).size by rw[QD];simp),e0,nG nb.1,nG n1,nG n0,nG nb.2,Qas,Qua hb];rfl
theorem Qm0(h:Qf c r=true)(hl:(plT c r x y++l).length<=1000)(hs:Sep l):PB RF 3 0 0 [] (plT c r x y++l) out=some ((out.length:Int),sb l,out++ [RF.cel (c,r,x,y)]):=by
 obtain⟨w1,w2⟩:=My (x:=x) (y:=y) h;obtain⟨p1,p2⟩:=Ui (l:=l) w2 w1 hs.w;have hp:=Qa8 (x:=x) (y:=y) h;have hf:Xc (plT c r x y)=0:=Qal (A (by rw[hp];simp));obtain⟨b,t,e,hb⟩:=Uh (x:=x) (y:=y) h;obtain⟨n1,n2,n3,n4⟩:=Qbc (w1 b (by rw[e];simp));rw[Vw (x:=none) (y:=some (c,r,x,y)) hl (by rw[p1];exact w2) ?_ ?_ ?_ (by rw[p1];exact hf) (by rw[p1];exact Qwg h) (by rw[p1];exact hp),p2]
 ·rfl
 ·rw[p1,e];intro e';exact n2 (List.cons.inj e').1
 ·rw[p1,e];intro e';exact n3 (List.cons.inj e').1
 ·rw[p1,e];intro e';exact n1 (u e')
theorem Qm8{c' r':Int}{x' y':Bool}(h:Qf c r=true)(h':Qf c' r'=true)(hl:(plT c r x y++ [58]++plT c' r' x' y'++l).length<=1000)(hs:Sep l):
  PB RF 6 0 0 [] (plT c r x y++ [58]++plT c' r' x' y'++l) out=some ((out.length:Int),sb l,out++ [RF.are (c,r,x,y) (c',r',x',y')]):=by
 have e:plT c r x y++ [58]++plT c' r' x' y'++l=plT c r x y++58::(plT c' r' x' y'++l):=by simp
 rw[e]at hl ⊢;obtain⟨w1,w2⟩:=My (x:=x) (y:=y) h;obtain⟨h1,h0⟩:=My (x:=x') (y:=y') h';obtain⟨p1,p2⟩:=Ui (l:=58::(plT c' r' x' y'++l)) w2 w1 (fun b hb=>by rw[<-u hb];decide);obtain⟨q1,q2⟩:=Xl (c:=58) (l:=plT c' r' x' y'++l) (by simp);obtain⟨h3,h2⟩:=Ui (l:=l) h0 h1 hs.w;rw[PB6 hl,p1,p2,q1,q2,h3,h2,pS ⟨w2,rfl⟩,Qbl,Qbl,Qa8 h,Qa8 h']
theorem Qou(h:b≠58)(h32:b≠32):pk (b::t)≠ [58]:=fun e=>by
 have:=(Qn0 (b::t) 58 (by simp)).1 e;rw[Gv h32]at this;exact h (u this)
theorem Qso(h:Sep l):pk l≠ [58]:=by
 cases l with
 | nil=>decide
 | cons b t=>exact Qou (h b rfl).2.2.1 (h b rfl).2.2.2
theorem Qs4(h:Beg b):pk (b::t)≠ [58]:=Qou (Qfo h).2.2.2.1 (Qfo h).1
theorem Qob(hc:cOk k n s=true)(hs:Sep l):nx (Vs k n s++l)=l/\ ∃b t,Vs k n s=b::t/\Beg b:=by
 obtain⟨h,h0,hn⟩:=XY hc;unfold Vs;rcases Yr h with⟨rfl,rfl,rfl⟩ | ⟨rfl,hr,rfl⟩ | ⟨rfl,rfl,hr⟩ | ⟨rfl,hr,rfl⟩ | ⟨rfl,h1,h5,rfl⟩
 ·exact absurd rfl h0
 ·have e2:txV 1 n ⟨#[]⟩=itB n:=by rw[txV,h,pS rfl,txB,pS rfl]
  have e1:(itB n).data.toList=Lib.decDigits n.toNat:=by
   have:=Lib.itoa_nonneg n.toNat;rw[show((n.toNat:Nat):Int)=n by have:=hn rfl;omega]at this;rw[<-this];rfl
  rw[nG (by omega),e2,e1];have hd:=Od n.toNat
  have h3:Lib.decDigits n.toNat≠ []:=by
   rw[Lib.decDigits];split
   ·simp
   ·simp
  refine⟨(Ui (l:=l) h3 (fun b hb=>(Qbg (hd b hb)).1) hs.w).2,?_⟩;cases hq:Lib.decDigits n.toNat with
  | nil=>exact absurd hq h3
  | cons b t=>exact⟨b,t,rfl,A (Qbg (hd b (by rw[hq];simp))).1⟩
 ·rw[pS rfl];have e: [34]++qt s.data.toList++ [34]++l=34::(qt s.data.toList++ [34]++l):=by simp
  rw[e];exact⟨(Oz (Gv (by decide)) (NG s.data.toList l hs.q)).2.1,34,_,rfl,by unfold Beg;simp⟩
 ·have e2:txV 3 n ⟨#[]⟩=trT n:=by rw[txV,h,pS rfl,txB,nG (by omega),nG (by omega),pS rfl]
  rw[nG (by omega),e2];have hn:n=0\/n=1:=by revert hr;simp[Yv]
  have ha:(trT n).data.toList.all isW=true/\(trT n).data.toList≠ []:=by rcases hn with rfl | rfl<;>decide
  refine⟨(Ui (l:=l) ha.2 (fun b hb=>List.all_eq_true.1 ha.1 b hb) hs.w).2,?_⟩;rcases hn with rfl | rfl
  ·exact⟨70,_,rfl,by unfold Beg;decide⟩
  ·exact⟨84,_,rfl,by unfold Beg;decide⟩
 ·have e2:txV 4 n ⟨#[]⟩=erT n:=by rw[txV,h,pS rfl,txB,nG (by omega),nG (by omega),nG (by omega),pS rfl]
  rw[nG (by omega),e2,Qg6 n h1 h5];obtain⟨e1,t,e3⟩:=Qsz n.toNat (by omega) (by omega) l;have h2:sb (erL n.toNat++l)=erL n.toNat++l:=by rw[e3];exact Gv (by decide)
  obtain⟨_,q2,_⟩:=Qnl (l:=erL n.toNat++l) (t:=t) (by rw[h2];exact e3) (by rw[h2,e1];omega);rw[h2,e1]at q2;refine⟨(List.append_cancel_left q2).symm,?_⟩;have hk:n=1\/n=2\/n=3\/n=4\/n=5:=by omega
  rcases hk with rfl | rfl | rfl | rfl | rfl
  all_goals exact⟨35,_,rfl,by unfold Beg;simp⟩
theorem NY(o:Int)(h1:1<=o)(h2:o<=10):(fnT o).all isW=true/\fnT o≠ []/\Xc (fnT o)=o:=by
 have hn:o=1\/o=2\/o=3\/o=4\/o=5\/o=6\/o=7\/o=8\/o=9\/o=10:=by omega
 rcases hn with rfl | rfl | rfl | rfl | rfl | rfl | rfl | rfl | rfl | rfl<;>decide
structure Rt (F:Nat->FN) (n:Nat):Prop where
 node: ∀i,i<n->Qp (F i)=true
 rng:QT (fG F) n
 ars: ∀i,i<n->(F i).k≠6-> ∀c∈(F i).kids,(F c.toNat).k≠3
theorem Qsr{n:Nat}(h:Zb F n=true):Rt F n/\(F (n-1)).k≠3/\Zx (fG F) ((n-1:Nat):Int)=0:=by
 obtain⟨h1,h60,hn,hr,hd⟩:=VV h;simp only[Zb,Bool.and_eq_true,decide_eq_true_eq,Bool.not_eq_true',decide_eq_false_iff_not]at h;obtain⟨⟨⟨⟨⟨_,_⟩,_⟩,hk⟩,ha,hl⟩,_⟩:=h;refine⟨⟨hn,hr,fun i hi h6 c hc h3=> ?_⟩,hl,?_⟩
 ·rw[Qat hi hc h3 h6]at ha;cases ha
 ·obtain⟨m,rfl⟩: ∃m,n=m+1:=⟨n-1,by omega⟩;have h9:Xs (fG F) (m+1)=true:=hk;rw[GD]at h9;exact of_decide_eq_true h9
theorem Dl{z:Int}(h: ∃b t,TX F j=b::t/\Beg b): ∃b t,bdX F j z=b::t/\Beg b:=by
 unfold bdX;split
 ·exact⟨40,_,rfl,by unfold Beg;simp⟩
 ·exact h
theorem Qav{n:Nat}(R:Rt F n): ∀i,i<n-> ∃b t,TX F i=b::t/\Beg b:=by
 intro i;induction i using Nat.strongRecOn with
 | ind i ih=>
  intro hi;rcases Zl (R.node i hi)with⟨hk,hc,hg⟩ | ⟨hk,hc,hg⟩ | ⟨hk,hc,hc',hg⟩ | ⟨hk,c,hg⟩ | ⟨hk,o1,o2,a,b,hg⟩ | ⟨hk,o1,o2,k1,k2⟩
  ·rw[ZH (by omega) (by omega) (by omega),Xf,pS hk];exact(Qob hc Qf0).2
  ·rw[ZH (by omega) (by omega) (by omega),Xf,nG (by omega),pS hk];obtain⟨b,t,e,hb⟩:=Uh (x:=(F i).af) (y:=(F i).ag) hc;exact⟨b,t,e,A ((My hc).1 b (by rw[e];simp))⟩
  ·rw[ZH (by omega) (by omega) (by omega),Xf,nG (by omega),nG (by omega)];obtain⟨b,t,e,hb⟩:=Uh (x:=(F i).af) (y:=(F i).ag) hc;rw[e];exact⟨b,_,rfl,A ((My (x:=(F i).af) (y:=(F i).ag) hc).1 b (by rw[e];simp))⟩
  ·rw[MS R.rng hi hk hg];exact⟨45,_,rfl,by unfold Beg;simp⟩
  ·rw[MT R.rng hi hk hg];have hr:=R.rng i hi a (by show a∈(F i).kids;rw[hg];simp);obtain⟨d,t,e,hb⟩:=Dl (z:=lvl (F i).o) (ih a.toNat (by omega) (by omega));rw[e];exact⟨d,_,rfl,hb⟩
  ·rw[Gf R.rng hi hk];obtain⟨f1,f2,_⟩:=NY _ o1 o2;cases hq:fnT (F i).o with
   | nil=>exact absurd hq f2
   | cons d t=>exact⟨d,_,rfl,A (List.all_eq_true.1 f1 d (by rw[hq];simp))⟩
theorem Qju{n:Nat}(R:Rt F n): ∀i,i<n->(F i).k≠3-> ∀l,Sep l->pk (nx (TX F i++l))≠ [58]:=by
 intro i;induction i using Nat.strongRecOn with
 | ind i ih=>
  intro hi h3 l hs;rcases Zl (R.node i hi)with⟨hk,hc,hg⟩ | ⟨hk,hc,hg⟩ | ⟨hk,hc,hc',hg⟩ | ⟨hk,c,hg⟩ | ⟨hk,o1,o2,a,b,hg⟩ | ⟨hk,o1,o2,k1,k2⟩
  ·rw[ZH (by omega) (by omega) (by omega),Xf,pS hk,(Qob hc hs).1];exact Qso hs
  ·rw[ZH (by omega) (by omega) (by omega),Xf,nG (by omega),pS hk];obtain⟨w1,w2⟩:=My (x:=(F i).af) (y:=(F i).ag) hc;rw[(Ui (l:=l) w2 w1 hs.w).2];exact Qso hs
  ·exact absurd hk h3
  ·rw[MS R.rng hi hk hg];have hr:=R.rng i hi c (by show c∈(F i).kids;rw[hg];simp);obtain⟨d,t,e,hb⟩:=Dl (z:=5) (Qav R c.toNat (by omega));rw[e,List.append_assoc];show pk (nx (45::(d::t++l)))≠ [58];rw[(Xl (c:=45) (by simp)).2];exact Qs4 hb
  ·rw[MT R.rng hi hk hg];have hr:=R.rng i hi a (by show a∈(F i).kids;rw[hg];simp);have h0:=R.ars i hi (by omega) a (by rw[hg];simp);unfold bdX;split
   ·obtain⟨d,t,e,hb⟩:=Qav R a.toNat (by omega);rw[e];simp only[List.append_assoc,List.cons_append,List.nil_append];rw[(Xl (c:=40) (by simp)).2];exact Qs4 hb
   ·rw[List.append_assoc,List.append_assoc];exact ih a.toNat (by omega) (by omega) h0 _ (Qnf _ o1 o2 _)
  ·rw[Gf R.rng hi hk];obtain⟨f1,f2,_⟩:=NY _ o1 o2;simp only[List.append_assoc,List.cons_append,List.nil_append];rw[(Ui f2 (fun b hb=>List.all_eq_true.1 f1 b hb) (fun b hb=>by rw[<-u hb];decide)).2];exact Qou (by decide) (by decide)
theorem Qbh{x:Int}{o1:List FN}{hi:Int}(h4:hi<=5)(ht:t.length<=1000)(hl:l.length<=1000)(h:PB RF 1 hi 0 [] t out=some (x,sb l,o1)): ∀(d:Nat) (lv:Int),lv=hi-(d:Int)->1<=lv->XN lv l->PB RF 1 lv 0 [] t out=some (x,sb l,o1):=by
 intro d;induction d with
 | zero=>
  intro lv e _ _;obtain rfl:lv=hi:=by omega
  exact h
 | succ d ih=>
  intro lv e h1 hs;have h9:=ih (lv+1) (by omega) (by omega) (UZ hs (by omega));rw[Qfk (by omega) (by omega) ht h9,Qdi (by omega) (by omega) hl hs]
structure RdP (F:Nat->FN) (i:Nat):Prop where
 one:(F i).k≠5->(F i).k≠3-> ∀(l:List UInt8) (out:List FN),Zx (fG F) i=(out.length:Int)->Sep l->(TX F i++l).length<=1000->PB RF 3 0 0 [] (TX F i++l) out=some ((i:Int),sb l,Xg F out i)
 two:(F i).k=5-> ∀(l:List UInt8) (out:List FN),Zx (fG F) i=(out.length:Int)->Sep l->XN (lvl (F i).o+1) l->(TX F i++l).length<=1000->PB RF 1 (lvl (F i).o) 0 [] (TX F i++l) out=PB RF 2 (lvl (F i).o) i [] l (Xg F out i)
theorem RdP.row(H:RdP F i)(h3:(F i).k≠3)(h1:1<=lv)(h5:lv<=5)(ho:(F i).k=5->lv<=lvl (F i).o)(ht:Zx (fG F) i=(out.length:Int))(hs:Sep l)(hst:XN lv l)(hn:(TX F i++l).length<=1000):
  PB RF 1 lv 0 [] (TX F i++l) out=some ((i:Int),sb l,Xg F out i):=by
 have hl:l.length<=1000:=by rw[List.length_append]at hn;omega
 by_cases hk:(F i).k=5
 ·have hb:=Jf (F i).o;have h0:=ho hk;have h9:=H.two hk l out ht hs (UZ hst (by omega)) hn;rw[Qdi hb.1 hb.2 hl (UZ hst h0)]at h9;exact Qbh (by omega) hn hl h9 (lvl (F i).o-lv).toNat lv (by omega) h1 hst
 ·have h9:=H.one hk h3 l out ht hs hn;rw[<-Qe7 hn]at h9;exact Qbh (by omega) hn hl h9 (5-lv).toNat lv (by omega) h1 hst
theorem RdP.go(H:RdP F i)(h3:(F i).k≠3)(h1:1<=lv)(h4:lv<=4)(ho:(F i).k=5->lv<=lvl (F i).o)(ht:Zx (fG F) i=(out.length:Int))(hs:Sep l)(hst:XN (lv+1) l)(hn:(TX F i++l).length<=1000):
  PB RF 1 lv 0 [] (TX F i++l) out=PB RF 2 lv i [] l (Xg F out i):=by
 by_cases hk:(F i).k=5/\lvl (F i).o=lv
 ·rw[<-hk.2];exact H.two hk.1 l out ht hs (by rw[hk.2];exact hst) hn
 ·exact Qfk h1 h4 hn (H.row h3 (by omega) (by omega) (fun e=>by have:=ho e;have:lvl (F i).o≠lv:=fun e'=>hk ⟨e,e'⟩;omega) ht hs hst hn)
theorem RdP.par(H:RdP F i)(h3:(F i).k≠3)(ht:Zx (fG F) i=(out.length:Int))(hn:([40]++TX F i++ [41]++l).length<=1000):
  PB RF 3 0 0 [] ([40]++TX F i++ [41]++l) out=some ((i:Int),sb l,Xg F out i):=by
 have e: [40]++TX F i++ [41]++l=40::(TX F i++41::l):=by simp
 rw[e]at hn ⊢;have h0:(TX F i++41::l).length<=1000:=by rw[List.length_cons]at hn;omega
 have hb:=Jf (F i).o;obtain⟨q1,q2⟩:=Xl (c:=41) (l:=l) (by simp);have hr:=H.row h3 (lv:=1) (by omega) (by omega) (fun _=>by omega) (l:=41::l) (out:=out) ht (Kr (by simp) l) (A (by rw[q1];decide)) h0;rw[Qac hn (Gv (by decide)),hr];show(if pk (sb (41::l))= [41]then some ((i:Int),sb (nx (sb (41::l))),Xg F out i)else none)=_;rw[Gv (by decide),q1,q2,pS rfl]
theorem RdP.bd(H:RdP F i)(h3:(F i).k≠3)(h1:1<=lv)(h5:lv<=5)(ht:Zx (fG F) i=(out.length:Int))(hs:Sep l)(hst:XN lv l)(hn:(bdX F i lv++l).length<=1000):
  PB RF 1 lv 0 [] (bdX F i lv++l) out=some ((i:Int),sb l,Xg F out i):=by
 have hl:l.length<=1000:=by rw[List.length_append]at hn;omega
 unfold bdX at hn ⊢;split
 ·rename_i hc
  rw[pS hc]at hn;have h9:=H.par h3 (l:=l) (out:=out) ht hn;rw[<-Qe7 hn]at h9;exact Qbh (by omega) hn hl h9 (5-lv).toNat lv (by omega) h1 hst
 ·rename_i hc
  rw[nG hc]at hn;exact H.row h3 h1 h5 (fun e=>by have: ¬lvl (F i).o<lv:=fun e'=>hc ⟨e,e'⟩;omega) ht hs hst hn
theorem RdP.bdgo(H:RdP F i)(h3:(F i).k≠3)(h1:1<=lv)(h4:lv<=4)(ht:Zx (fG F) i=(out.length:Int))(hs:Sep l)(hst:XN (lv+1) l)(hn:(bdX F i lv++l).length<=1000):
  PB RF 1 lv 0 [] (bdX F i lv++l) out=PB RF 2 lv i [] l (Xg F out i):=by
 have hl:l.length<=1000:=by rw[List.length_append]at hn;omega
 unfold bdX at hn ⊢;split
 ·rename_i hc
  rw[pS hc]at hn;have h9:=H.par h3 (l:=l) (out:=out) ht hn;rw[<-Qe7 hn]at h9;exact Qfk h1 h4 hn (Qbh (by omega) hn hl h9 (5-(lv+1)).toNat (lv+1) (by omega) (by omega) hst)
 ·rename_i hc
  rw[nG hc]at hn;exact H.go h3 h1 h4 (fun e=>by have: ¬lvl (F i).o<lv:=fun e'=>hc ⟨e,e'⟩;omega) ht hs hst hn
theorem Qdg{n:Nat}(R:Rt F n)(hi:i<n)(H:RdP F i)(ht:Zx (fG F) i=(out.length:Int))(hs:Sep l)(hst:XN 1 l)(hn:(TX F i++l).length<=1000):
  PB RF 6 0 0 [] (TX F i++l) out=some ((i:Int),sb l,Xg F out i):=by
 by_cases h3:(F i).k=3
 ·have hx:=R.node i hi;have hk:=Zl hx
  obtain⟨hc,h1,hg⟩:Qf (F i).ac (F i).ar=true/\Qf (F i).bc (F i).br=true/\(F i).kids= []:=by
   rcases hk with⟨hk,_⟩ | ⟨hk,_⟩ | ⟨hk,hc,h1,hg⟩ | ⟨hk,_⟩ | ⟨hk,_⟩ | ⟨hk,_⟩
   ·omega
   ·omega
   ·exact⟨hc,h1,hg⟩
   ·omega
   ·omega
   ·omega
  have h0:(i:Int)=out.length:=by
   have h9:=Vt (fG F) i (by omega);have e:fG F (i:Int).toNat= []:=hg;rw[e]at h9;simp only[List.reverse_nil,QO]at h9;omega
  rw[ZH (by omega) (by omega) (by omega),Xf,nG (by omega),nG (by omega)]at hn ⊢;rw[Qm8 hc h1 hn hs,<-Qlo hx h3,Ko (by omega),h0]
 ·have hb:=Jf (F i).o;rw[PB6 hn,nG (fun e=>Qju R i hi h3 l hs e.2)];exact H.row h3 (by omega) (by omega) (fun _=>by omega) ht hs hst hn
theorem Qjq{n:Nat}(R:Rt F n)(hi:i<n)(H: ∀j,j<i->RdP F j){fn:Int}: ∀(ks k0:List Int) (out:List FN),F i=RF.cal fn (k0++ks)->MH (Zx (fG F)) (out.length:Int) ks i->(∀k∈ks,0<=k/\k<i)->(((ks.map fun c=>TX F c.toNat).map ([44]++ ·)).flatten++41::l).length<=1000->
  PB RF 5 fn 0 k0 (((ks.map fun c=>TX F c.toNat).map ([44]++ ·)).flatten++41::l) out=some ((i:Int),sb l,Xg F out i):=by
 intro ks;induction ks with
 | nil=>
  intro k0 out hF hc hk hn;obtain⟨q1,q2⟩:=Xl (c:=41) (l:=l) (by simp);rw[MH]at hc;simp only[List.map_nil,List.flatten_nil,List.nil_append]at hn ⊢;rw[PB5 hn,q1,q2,nG (by decide),pS rfl,hc,Ko (by omega),hF,List.append_nil]
 | cons k ks ih=>
  intro k0 out hF hc hk hn;obtain⟨c1,c2,c3⟩:=hc;have hk0:=hk k (by simp);have e:(((k::ks).map fun c=>TX F c.toNat).map ([44]++ ·)).flatten++41::l=44::(TX F k.toNat++(((ks.map fun c=>TX F c.toNat).map ([44]++ ·)).flatten++41::l)):=by simp
  rw[e]at hn ⊢;have h2:(TX F k.toNat++(((ks.map fun c=>TX F c.toNat).map ([44]++ ·)).flatten++41::l)).length<=1000:=by rw[List.length_cons]at hn;omega
  have h3:(((ks.map fun c=>TX F c.toNat).map ([44]++ ·)).flatten++41::l).length<=1000:=by rw[List.length_append]at h2;omega
  obtain⟨q1,q2⟩:=Xl (c:=44) (l:=TX F k.toNat++(((ks.map fun c=>TX F c.toNat).map ([44]++ ·)).flatten++41::l)) (by simp)
  have h0:Sep (((ks.map fun c=>TX F c.toNat).map ([44]++ ·)).flatten++41::l)/\XN 1 (((ks.map fun c=>TX F c.toNat).map ([44]++ ·)).flatten++41::l):=by
   cases ks with
   | nil=>exact⟨Kr (by simp) l,A (by rw[show((([]:List Int).map fun c=>TX F c.toNat).map ([44]++ ·)).flatten++41::l=41::l from rfl,(Xl (c:=41) (by simp)).1];decide)⟩
   | cons k' ks'=>
    have e':(((k'::ks').map fun c=>TX F c.toNat).map ([44]++ ·)).flatten++41::l=44::(TX F k'.toNat++(((ks'.map fun c=>TX F c.toNat).map ([44]++ ·)).flatten++41::l)):=by simp
    rw[e'];exact⟨Kr (by simp) _,A (by rw[(Xl (c:=44) (by simp)).1];decide)⟩
  have ek:((k.toNat:Nat):Int)=k:=by omega
  have h1:out.length<=k.toNat+1:=by omega
  have ha:=Qdg R (i:=k.toNat) (by omega) (H k.toNat (by omega)) (out:=out) (by rw[ek];exact c1) h0.1 h0.2 h2;rw[PB5 hn,q1,q2,pS rfl,ha];show PB RF 5 fn 0 (k0++ [((k.toNat:Nat):Int)]) (sb _) (Xg F out k.toNat)=_;rw[JJ (Zj _),ek,ih (k0++ [k]) (Xg F out k.toNat) (by rw[hF];simp) (by rw[Ji h1];rw[show((k.toNat+1:Nat):Int)=k+1 by omega];exact c3) (fun c hc=>hk c (by simp[hc])) h3,KN h1 (by omega)]
theorem Qt4{n:Nat}(R:Rt F n): ∀i,i<n->RdP F i:=by
 intro i;induction i using Nat.strongRecOn with
 | ind i ih=>
  intro hi;have hx:=R.node i hi;have H1: ∀{a:Nat},Zx (fG F) i=(a:Int)->MH (Zx (fG F)) (a:Int) (F i).kids i:=fun{a} h=>Qdl (by omega) h (by omega)
  have h5: ∀{a:Nat},(F i).kids= []->Zx (fG F) i=(a:Int)->a=i:=fun{a} hg h=>by
   have:=H1 h;rw[hg]at this;have h2:(a:Int)=i:=this;omega
  rcases Zl hx with⟨hk,hc,hg⟩ | ⟨hk,hc,hg⟩ | ⟨hk,hc,hc',hg⟩ | ⟨hk,c,hg⟩ | ⟨hk,o1,o2,a,b,hg⟩ | ⟨hk,o1,o2,k1,k2⟩
  ·refine⟨fun _ _ l out ht hs hn=> ?_,fun e=>by omega⟩;have h0:=h5 hg ht;rw[ZH (by omega) (by omega) (by omega),Xf,pS hk]at hn ⊢;rw[Qmw hc hn hs,<-Qlk hx hk,Ko h0,h0]
  ·refine⟨fun _ _ l out ht hs hn=> ?_,fun e=>by omega⟩;have h0:=h5 hg ht;rw[ZH (by omega) (by omega) (by omega),Xf,nG (by omega),pS hk]at hn ⊢;rw[Qm0 hc hn hs,<-Qll hx hk,Ko h0,h0]
  ·exact⟨fun _ e=>absurd hk e,fun e=>by omega⟩
  ·refine⟨fun _ _ l out ht hs hn=> ?_,fun e=>by omega⟩;have h4:=H1 ht;rw[hg]at h4;obtain⟨c1,c2,c3⟩:=h4;have c3':c+1=(i:Int):=c3;have ec:((c.toNat:Nat):Int)=c:=by omega
   have H7:=R.ars i hi (by omega) c (by rw[hg];simp);rw[MS R.rng hi hk hg]at hn ⊢;have e: [45]++bdX F c.toNat 5++l=45::(bdX F c.toNat 5++l):=by simp
   rw[e]at hn ⊢;have h3:(bdX F c.toNat 5++l).length<=1000:=by rw[List.length_cons]at hn;omega
   have hb:=(ih c.toNat (by omega) (by omega)).bd H7 (lv:=5) (by omega) (by omega) (out:=out) (by rw[ec];exact c1) hs (Qv8 l) h3;rw[Qe7 h3]at hb;have h0:out.length<=c.toNat+1:=by omega
   rw[Qgp hn (Gv (by decide)),hb];show some (((Xg F out c.toNat).length:Int),sb (sb l),Xg F out c.toNat++ [RF.neg ((c.toNat:Nat):Int)])=_;rw[Ji h0,Zj,ec,<-Qlj hx hk hg,show((c.toNat+1:Nat):Int)=(i:Int) by omega];have h9:=Be (F:=F) h0;rw[show c.toNat+1=i by omega]at h9;rw[h9]
  ·refine⟨fun e=>absurd hk e,fun _ l out ht hs hst hn=> ?_⟩;have h4:=H1 ht;rw[hg]at h4;obtain⟨c1,c2,d1,d2,d3⟩:=h4;have d3':b+1=(i:Int):=d3;have ea:((a.toNat:Nat):Int)=a:=by omega
   have eb:((b.toNat:Nat):Int)=b:=by omega
   have H9:=R.ars i hi (by omega) a (by rw[hg];simp);have H8:=R.ars i hi (by omega) b (by rw[hg];simp);have H0:=Jf (F i).o;rw[MT R.rng hi hk hg]at hn ⊢;have e:bdX F a.toNat (lvl (F i).o)++sgT (F i).o++bdX F b.toNat (lvl (F i).o+1)++l=bdX F a.toNat (lvl (F i).o)++(sgT (F i).o++(bdX F b.toNat (lvl (F i).o+1)++l)):=by simp
   rw[e]at hn ⊢;have h3:(sgT (F i).o++(bdX F b.toNat (lvl (F i).o+1)++l)).length<=1000:=by rw[List.length_append]at hn;omega
   have H3:(bdX F b.toNat (lvl (F i).o+1)++l).length<=1000:=by rw[List.length_append]at h3;omega
   obtain⟨d,t,ed,H4⟩:=Dl (z:=lvl (F i).o+1) (Qav R b.toNat (by omega));obtain⟨q1,q2⟩:=Qwh (F i).o o1 o2 (r:=t++l) H4;have g0:bdX F b.toNat (lvl (F i).o+1)++l=d::(t++l):=by rw[ed];rfl
   rw[<-g0]at q1 q2;have H5:QR (pk (sgT (F i).o++(bdX F b.toNat (lvl (F i).o+1)++l)))=(F i).o:=by rw[q1];exact Qgm _ o1 o2
   have h0:out.length<=a.toNat+1:=by omega
   have h8:(Xg F out a.toNat).length=a.toNat+1:=Ji h0;rw[(ih a.toNat (by omega) (by omega)).bdgo H9 H0.1 H0.2 (out:=out) (by rw[ea];exact c1) (Qnf _ o1 o2 _) (B (by rw[H5];omega)) hn];rw[PB2 H0.1 H0.2 h3,H5,nG (by omega),q2];rw[(ih b.toNat (by omega) (by omega)).bd H8 (lv:=lvl (F i).o+1) (by omega) (by omega) (out:=Xg F out a.toNat) (by rw[eb,h8,d1];omega) hs hst H3];have h7:(Xg F out a.toNat).length<=b.toNat+1:=by omega
   show PB RF 2 (lvl (F i).o) (((Xg F (Xg F out a.toNat) b.toNat).length:Nat):Int) [] (sb l) (Xg F (Xg F out a.toNat) b.toNat++ [RF.bin (F i).o ((a.toNat:Nat):Int) ((b.toNat:Nat):Int)])=_;rw[Ji h7,JJ (Zj l),ea,eb,<-Qln hx hk hg,KN h0 (by omega),show((b.toNat+1:Nat):Int)=(i:Int) by omega];have h9:=Be (F:=F) (out:=out) (i:=b.toNat) (by omega);rw[show b.toNat+1=i by omega]at h9;rw[h9]
  ·refine⟨fun _ _ l out ht hs hn=> ?_,fun e=>by omega⟩;have h4:=H1 ht;have H2: ∀k∈(F i).kids,0<=k/\k<(i:Int):=R.rng i hi;have h1:=Qlm hx hk;obtain⟨f1,f2,f3⟩:=NY _ o1 o2;rw[Gf R.rng hi hk]at hn ⊢;cases hq:(F i).kids with
   | nil=>rw[hq]at k1;simp at k1
   | cons k ks=>
    rw[hq]at h4 H2 hn h1;obtain⟨c1,c2,c3⟩:=h4;have e:fnT (F i).o++ [40]++jn ((k::ks).map fun c=>TX F c.toNat)++ [41]++l=fnT (F i).o++40::(TX F k.toNat++(((ks.map fun c=>TX F c.toNat).map ([44]++ ·)).flatten++41::l)):=by simp[jn]
    rw[e]at hn ⊢;have H6:(40::(TX F k.toNat++(((ks.map fun c=>TX F c.toNat).map ([44]++ ·)).flatten++41::l))).length<=1000:=by rw[List.length_append]at hn;omega
    have h3:(TX F k.toNat++(((ks.map fun c=>TX F c.toNat).map ([44]++ ·)).flatten++41::l)).length<=1000:=by rw[List.length_cons]at H6;omega
    have H3:(((ks.map fun c=>TX F c.toNat).map ([44]++ ·)).flatten++41::l).length<=1000:=by rw[List.length_append]at h3;omega
    obtain⟨p1,p2⟩:=Ui (l:=40::(TX F k.toNat++(((ks.map fun c=>TX F c.toNat).map ([44]++ ·)).flatten++41::l))) f2 (fun b hb=>List.all_eq_true.1 f1 b hb) (fun b hb=>by rw[<-u hb];decide);obtain⟨q1,q2⟩:=Xl (c:=40) (l:=TX F k.toNat++(((ks.map fun c=>TX F c.toNat).map ([44]++ ·)).flatten++41::l)) (by simp);have hk0:=H2 k (by simp);have ek:((k.toNat:Nat):Int)=k:=by omega
    have h6:Sep (((ks.map fun c=>TX F c.toNat).map ([44]++ ·)).flatten++41::l)/\XN 1 (((ks.map fun c=>TX F c.toNat).map ([44]++ ·)).flatten++41::l):=by
     cases ks with
     | nil=>exact⟨Kr (by simp) l,A (by rw[show((([]:List Int).map fun c=>TX F c.toNat).map ([44]++ ·)).flatten++41::l=41::l from rfl,(Xl (c:=41) (by simp)).1];decide)⟩
     | cons k' ks'=>
      have e':(((k'::ks').map fun c=>TX F c.toNat).map ([44]++ ·)).flatten++41::l=44::(TX F k'.toNat++(((ks'.map fun c=>TX F c.toNat).map ([44]++ ·)).flatten++41::l)):=by simp
      rw[e'];exact⟨Kr (by simp) _,A (by rw[(Xl (c:=44) (by simp)).1];decide)⟩
    have h0:out.length<=k.toNat+1:=by omega
    have ha:=Qdg R (i:=k.toNat) (by omega) (ih k.toNat (by omega) (by omega)) (out:=out) (by rw[ek];exact c1) h6.1 h6.2 h3;have hw: ∀d t,fnT (F i).o=d::t->isW d=true:=fun d t e=>List.all_eq_true.1 f1 d (by rw[e];simp)
    have hp:pk (fnT (F i).o++40::(TX F k.toNat++(((ks.map fun c=>TX F c.toNat).map ([44]++ ·)).flatten++41::l)))≠ [40]/\pk (fnT (F i).o++40::(TX F k.toNat++(((ks.map fun c=>TX F c.toNat).map ([44]++ ·)).flatten++41::l)))≠ [45]/\(pk (fnT (F i).o++40::(TX F k.toNat++(((ks.map fun c=>TX F c.toNat).map ([44]++ ·)).flatten++41::l)))).head?≠some 34:=by
     rw[p1];cases hf:fnT (F i).o with
     | nil=>exact absurd hf f2
     | cons d t=>
      obtain⟨n1,n2,n3,n4⟩:=Qbc (hw d t hf);exact⟨fun e=>n2 (List.cons.inj e).1,fun e=>n3 (List.cons.inj e).1,fun e=>n1 (u e)⟩
    rw[PB3 hn,nG hp.2.1,Qbp (by rw[p1];exact f2) hp.1 hp.2.2 (by rw[p1,f3];omega) hn,p1,p2,q1,q2,pS rfl,ha,f3];show PB RF 5 (F i).o 0 [((k.toNat:Nat):Int)] (sb _) (Xg F out k.toNat)=_;rw[JJ (Zj _),ek,Qjq R hi (fun j hj=>ih j hj (by omega)) ks [k] (Xg F out k.toNat) h1 (by rw[Ji h0];rw[show((k.toNat+1:Nat):Int)=k+1 by omega];exact c3) (fun c hc=>H2 c (by simp[hc])) H3,KN h0 (by omega)]
theorem Qh0{n:Nat}(h:Zb F n=true)(hn:(TX F (n-1)).length<=1000):PB RF 1 1 0 [] (TX F (n-1)) []=some (((n-1:Nat):Int),[],seg F 0 n):=by
 obtain⟨R,h3,ht⟩:=Qsr h;obtain⟨h1,_⟩:=VV h;have hb:=Jf (F (n-1)).o;have h9:=(Qt4 R (n-1) (by omega)).row h3 (lv:=1) (by omega) (by omega) (fun _=>by omega) (l:= []) (out:= []) ht Qf0 (A (by decide)) (by rw[List.append_nil];exact hn);rw[List.append_nil]at h9;rw[h9]
 have e:Xg F [] (n-1)=seg F 0 n:=by
  unfold Xg;simp only[List.nil_append,List.length_nil];rw[show n-1+1-0=n by omega]
 rw[e];rfl
def PL(l:List UInt8):Prop:= ∀b∈l,32<=b.toNat/\b.toNat<=126
theorem DW(l:List UInt8):Yb l=true↔PL l:=by
 unfold Yb PL;rw[List.all_eq_true];simp only[decide_eq_true_eq]
theorem Xx{r:List UInt8}(h:PL l)(h':PL r):PL (l++r):=fun b hb=>by
 rcases List.mem_append.1 hb with hb | hb
 ·exact h b hb
 ·exact h' b hb
theorem Qoo(h: ∀b∈l,isW b=true):PL l:=fun b hb=>by
 have h1:=h b hb;unfold isW at h1;simp only[Bool.or_eq_true,decide_eq_true_eq,beq_iff_eq]at h1;rcases h1 with(h1 | h1) | h1
 ·omega
 ·omega
 ·subst h1;decide
theorem Qxk(h:PL l):PL (qt l):=by
 induction l with
 | nil=>exact fun b hb=>by cases hb
 | cons a t ih=>
  have h1:=h a (by simp);have h2:=ih (fun b hb=>h b (by simp[hb]));rw[Xk];split
  ·intro b hb;simp only[List.cons_append,List.nil_append,List.mem_cons]at hb;rcases hb with hb | hb | hb
   ·subst hb;decide
   ·subst hb;decide
   ·exact h2 b hb
  ·intro b hb;simp only[List.cons_append,List.nil_append,List.mem_cons]at hb;rcases hb with hb | hb
   ·subst hb;exact h1
   ·exact h2 b hb
theorem XR(l:List UInt8)(h:(l.all fun b=>decide (32<=b.toNat/\b.toNat<=126))=true):PL l:=(DW l).1 h
theorem Qxj(o:Int)(h1:1<=o)(h2:o<=11):PL (sgT o):=by
 have hn:o=1\/o=2\/o=3\/o=4\/o=5\/o=6\/o=7\/o=8\/o=9\/o=10\/o=11:=by omega
 rcases hn with rfl | rfl | rfl | rfl | rfl | rfl | rfl | rfl | rfl | rfl | rfl
 all_goals exact XR _ (by decide)
theorem Qrh(h:0<=n):(itB n).data.toList=Lib.decDigits n.toNat:=by
 have:=Lib.itoa_nonneg n.toNat;rw[show((n.toNat:Nat):Int)=n by omega]at this;rw[<-this];rfl
theorem Qxl:PL (itB n).data.toList:=by
 rcases Int.le_total 0 n with h | h
 ·rw[Qrh h];exact Qoo fun b hb=>(Qbg (Od _ b hb)).1
 ·by_cases h0:n=0
  ·subst h0;exact XR _ (by decide+kernel)
  ·have e:(itB n).data.toList=45::Lib.decDigits (-n).toNat:=by
    have:=Lib.itoa_neg (-n).toNat (by omega);rw[show-(((-n).toNat:Nat):Int)=n by omega]at this;rw[<-this];rfl
   rw[e];intro b hb;rcases List.mem_cons.1 hb with hb | hb
   ·subst hb;decide
   ·exact Qoo (fun b hb=>(Qbg (Od _ b hb)).1) b hb
theorem Qvv(hc:cOk k n s=true):PL (Vs k n s):=by
 obtain⟨h,h0,hn⟩:=XY hc;unfold Vs;rcases Yr h with⟨rfl,rfl,rfl⟩ | ⟨rfl,hr,rfl⟩ | ⟨rfl,rfl,hr⟩ | ⟨rfl,hr,rfl⟩ | ⟨rfl,h1,h5,rfl⟩
 ·exact absurd rfl h0
 ·have e2:txV 1 n ⟨#[]⟩=itB n:=by rw[txV,h,pS rfl,txB,pS rfl]
  rw[nG (by omega),e2];exact Qxl
 ·rw[pS rfl];refine Xx (Xx (XR _ (by decide)) (Qxk ?_)) (XR _ (by decide));unfold QJ at hr;exact(DW _).1 (Bool.and_eq_true_iff.1 hr).2
 ·have e2:txV 3 n ⟨#[]⟩=trT n:=by rw[txV,h,pS rfl,txB,nG (by omega),nG (by omega),pS rfl]
  rw[nG (by omega),e2];have hn:n=0\/n=1:=by revert hr;simp[Yv]
  rcases hn with rfl | rfl
  all_goals exact XR _ (by decide)
 ·have e2:txV 4 n ⟨#[]⟩=erT n:=by rw[txV,h,pS rfl,txB,nG (by omega),nG (by omega),nG (by omega),pS rfl]
  rw[nG (by omega),e2];have hk:n=1\/n=2\/n=3\/n=4\/n=5:=by omega
  rcases hk with rfl | rfl | rfl | rfl | rfl
  all_goals exact XR _ (by decide)
theorem Qoy{z:Int}(h:PL (TX F j)):PL (bdX F j z):=by
 unfold bdX;split
 ·exact Xx (Xx (XR _ (by decide)) h) (XR _ (by decide))
 ·exact h
theorem Qxm{n:Nat}(R:Rt F n): ∀i,i<n->PL (TX F i):=by
 intro i;induction i using Nat.strongRecOn with
 | ind i ih=>
  intro hi
  have h0: ∀c∈(F i).kids,PL (TX F c.toNat):=fun c hc=>by
   have hr:=R.rng i hi c hc;exact ih c.toNat (by omega) (by omega)
  rcases Zl (R.node i hi)with⟨hk,hc,hg⟩ | ⟨hk,hc,hg⟩ | ⟨hk,hc,hc',hg⟩ | ⟨hk,c,hg⟩ | ⟨hk,o1,o2,a,b,hg⟩ | ⟨hk,o1,o2,k1,k2⟩
  ·rw[ZH (by omega) (by omega) (by omega),Xf,pS hk];exact Qvv hc
  ·rw[ZH (by omega) (by omega) (by omega),Xf,nG (by omega),pS hk];exact Qoo (My hc).1
  ·rw[ZH (by omega) (by omega) (by omega),Xf,nG (by omega),nG (by omega)];exact Xx (Xx (Qoo (My hc).1) (XR _ (by decide))) (Qoo (My hc').1)
  ·rw[MS R.rng hi hk hg];exact Xx (XR _ (by decide)) (Qoy (h0 c (by rw[hg];simp)))
  ·rw[MT R.rng hi hk hg];exact Xx (Xx (Qoy (h0 a (by rw[hg];simp))) (Qxj _ o1 o2)) (Qoy (h0 b (by rw[hg];simp)))
  ·rw[Gf R.rng hi hk];obtain⟨f1,f2,_⟩:=NY _ o1 o2;refine Xx (Xx (Xx (Qoo fun b hb=>List.all_eq_true.1 f1 b hb) (XR _ (by decide))) ?_) (XR _ (by decide));cases hq:(F i).kids with
   | nil=>exact fun b hb=>by cases hb
   | cons k ks=>
    rw[hq]at h0;rw[List.map_cons,jn];refine Xx (h0 k (by simp)) ?_;intro b hb;rw[List.mem_flatten]at hb;obtain⟨w,hw,hb⟩:=hb;rw[List.mem_map]at hw
    obtain⟨t,ht,rfl⟩:=hw;rw[List.mem_map]at ht;obtain⟨c,hc,rfl⟩:=ht;exact Xx (XR [44] (by decide)) (h0 c (by simp[hc])) b hb
theorem Qf1(F:Nat->FN)(a:Nat): ∀(m j:Nat),j<m->(seg F a m)[j]? =some (F (a+j))
 | 0,j,h=>by omega
 | m+1,j,h=>by
  rw[seg];by_cases hj:j<m
  ·rw[List.getElem?_append_left (by rw[Hn];exact hj)];exact Qf1 F a m j hj
  ·obtain rfl:j=m:=by omega
   rw[List.getElem?_append_right (by rw[Hn];omega),Hn,Nat.sub_self];rfl
theorem Qpm(out:List FN):seg (ouF out) 0 out.length=out:=by
 apply List.ext_getElem?;intro j;by_cases hj:j<out.length
 ·rw[Qf1 _ _ _ _ hj,Nat.zero_add,List.getElem?_eq_getElem hj];unfold ouF;rw[List.getD_eq_getElem?_getD,List.getElem?_eq_getElem hj];rfl
 ·rw[List.getElem?_eq_none (by rw[Hn];omega),List.getElem?_eq_none (by omega)]
theorem Qro(h:Zb (ouF out) out.length=true):good out=true:=by
 obtain⟨h1,h0,hn,_⟩:=VV h;unfold good;rw[Bool.and_eq_true];refine⟨decide_eq_true h0,List.all_eq_true.2 fun x hx=> ?_⟩;obtain⟨i,hi,rfl⟩:=List.getElem_of_mem hx;have h9:=hn i hi;unfold ouF at h9
 rw[List.getD_eq_getElem?_getD,List.getElem?_eq_getElem hi]at h9;exact h9
theorem Qt5(h:Zb (ouF out) out.length=true)(hz:(TX (ouF out) (out.length-1)).length<=200):QJ (bs (TX (ouF out) (out.length-1)))=true/\rdF (bs (TX (ouF out) (out.length-1)))=some out:=by
 obtain⟨h1,_⟩:=VV h
 have hw:QJ (bs (TX (ouF out) (out.length-1)))=true:=by
  unfold QJ;rw[Bool.and_eq_true];exact⟨decide_eq_true (by rw[QD];exact hz),(DW _).2 (by rw[Qas];exact Qxm (Qsr h).1 _ (by omega))⟩
 refine⟨hw,?_⟩;unfold rdF;rw[hw,pS rfl,Qas,Qh0 h (by omega),Qpm];exact Ox rfl (Qro h) h
theorem Qmg(h:(ftx (ouF out) out.length).size≠0):Zb (ouF out) out.length=true/\QJ (ftx (ouF out) out.length)=true/\rdF (ftx (ouF out) out.length)=some out:=by
 unfold ftx at*;by_cases hc:Zb (ouF out) out.length=true/\(TX (ouF out) (out.length-1)).length<=200
 ·rw[pS hc];exact⟨hc.1,Qt5 hc.1 hc.2⟩
 ·rw[nG hc]at h;exact absurd rfl h
theorem Qrx{t:ByteArray}:eqH ((⟨#[61]⟩:ByteArray)++t)=true/\((⟨#[61]⟩:ByteArray)++t).extract 1 ((⟨#[61]⟩:ByteArray)++t).size=t:=by
 have e:((⟨#[61]⟩:ByteArray)++t).data.toList=61::t.data.toList:=by simp
 have e2:(⟨#[61]⟩:ByteArray)++t=bs (61::t.data.toList):=by rw[<-e];rfl
 refine⟨?_,?_⟩
 ·rw[e2];rfl
 ·rw[e2];apply ByteArray.ext;apply Array.ext';rw[JZ];rfl
theorem Qpu{t:ByteArray}(hb:32<=b.toNat/\b.toNat<=126)(h:QJ t=true)(hz:((⟨#[b]⟩:ByteArray)++t).size<=200):QJ ((⟨#[b]⟩:ByteArray)++t)=true:=by
 unfold QJ at*;rw[Bool.and_eq_true]at*;refine⟨decide_eq_true hz,?_⟩;have e:((⟨#[b]⟩:ByteArray)++t).data.toList=b::t.data.toList:=by simp
 rw[e,DW];intro c hc;rcases List.mem_cons.1 hc with hc | hc
 ·subst hc;exact hb
 ·exact(DW _).1 h.2 c hc
end Go.Proofs.YtomadadmakdkgaaGreatDoor
