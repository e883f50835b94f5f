import Derived.Test.YthjldgbfgapbcaaGreatDoorGaj
import Derived.Test.YthjldgbfgapbcaaGreatDoorPlaceJK
import Derived.Test.YthjldgbfgapbcaaGreatDoorGas
import Derived.Test.YthjldgbfgapbcaaGreatDoorGan
import Derived.Test.YthjldgbfgapbcaaGreatDoorGbd
import Derived.Test.YthjldgbfgapbcaaGreatDoorGat
import Derived.Test.YthjldgbfgapbcaaGreatDoorGao
import Derived.Test.YthjldgbfgapbcaaGreatDoorGbf
set_option linter.unusedSimpArgs false
set_option linter.unusedVariables false
namespace Go.Proofs.YthjldgbfgapbcaaGreatDoor
open Go.RowKit
def KN:List UInt8→Bool
 | b::_=>b==36
 | []=>false
theorem Qay (s:ByteArray):QE s=KN s.data.toList:=by
 obtain⟨⟨l⟩⟩:=s;cases l with
 | nil=>rfl
 | cons b t=>rfl
theorem Qji (s:ByteArray) (a b:Nat):(s.extract a b).data.toList=(s.data.toList.drop a).take (b-a):=by
 simp [ByteArray.data_extract,Array.toList_extract,List.extract_eq_take_drop]
theorem Qi0 (s:ByteArray):(ZN s).data.toList=if KN s.data.toList then s.data.toList.drop 1 else s.data.toList:=by
 unfold ZN;rw [Qay];split
 ·rw [Qji];apply List.take_of_length_le;simp
 ·rfl
theorem MU: ∀l:List UInt8,l.take (l.takeWhile isL).length=l.takeWhile isL
 | []=>rfl
 | b::t=>by
  cases h:isL b
  ·rw [List.takeWhile_cons,h];rfl
  ·rw [List.takeWhile_cons,h];show b::t.take (t.takeWhile isL).length=_;rw [MU t];rfl
theorem Nt: ∀l:List UInt8,l.drop (l.takeWhile isL).length=l.dropWhile isL
 | []=>rfl
 | b::t=>by
  cases h:isL b
  ·rw [List.takeWhile_cons,List.dropWhile_cons,h];rfl
  ·rw [List.takeWhile_cons,List.dropWhile_cons,h];show t.drop (t.takeWhile isL).length=_;rw [Nt t];rfl
theorem Qp4 (s:ByteArray):rpC s=rdc ((ZN s).data.toList.takeWhile isL) 0:=by
 unfold rpC Hk;rw [Qji,List.drop_zero,Nat.sub_zero,MU]
theorem Qp6 (s:ByteArray):(rp2 s).data.toList=(ZN s).data.toList.dropWhile isL:=by
 unfold rp2 Hk;rw [Qji,Nt];apply List.take_of_length_le;have h:=congrArg List.length (List.takeWhile_append_dropWhile (p:=isL) (l:=(ZN s).data.toList));rw [List.length_append]at h;have e:(ZN s).size=(ZN s).data.toList.length:=by simp
 omega
theorem Qp5 (s:ByteArray):(rp3 s).data.toList=if KN (rp2 s).data.toList then(rp2 s).data.toList.drop 1 else(rp2 s).data.toList:=Qi0 _
def fxL (b:Bool):List UInt8:=if b then [36]else []
theorem fx_L (b:Bool):(fx b).data.toList=fxL b:=by cases b<;>rfl
theorem UZ (c:Int) (i:Nat) (x y:Bool):(QB c i x y).data.toList=fxL x++(ZH c).data.toList++fxL y++(YV i).data.toList:=by
 unfold QB;simp [fx_L]
theorem JK (c:Int) (h1:1≤c) (h2:c≤52):(∀b∈(ZH c).data.toList,isL b=true)∧(ZH c).data.toList≠ []:=by
 by_cases h:c≤26
 ·rw [Va h1 h];have e:(UInt8.ofNat (65+(c-1)).toNat).toNat=(65+(c-1)).toNat:=by simp;omega
  refine⟨fun b hb=> ?_,by simp⟩;simp only [List.mem_singleton]at hb;subst hb;unfold isL;rw [e];exact decide_eq_true (by omega)
 ·rw [JZ (by omega) h2];have e:(UInt8.ofNat (65+(c-27)).toNat).toNat=(65+(c-27)).toNat:=by simp;omega
  refine⟨fun b hb=> ?_,by simp⟩;simp only [List.mem_cons,List.not_mem_nil,or_false]at hb;rcases hb with rfl | rfl
  ·rfl
  ·unfold isL;rw [e];exact decide_eq_true (by omega)
theorem Qei: ∀i,i<100→(match (YV i).data.toList with | d::_=> !isL d&& !(d==36) | []=>false)=true:=by decide+kernel
theorem Qhn: ∀i,i<100→l1L (YV i).data.toList=some (i:Int):=by decide+kernel
theorem BN (x:Bool) (l:List UInt8) (h:KN l=false):KN (fxL x++l)=x∧(if KN (fxL x++l)then(fxL x++l).drop 1 else fxL x++l)=l:=by
 cases x
 ·show KN l=false∧(if KN l then l.drop 1 else l)=l;rw [h];exact⟨rfl,rfl⟩
 ·exact⟨rfl,rfl⟩
theorem Qd4 (b:UInt8) (h:isL b=true):(b==36)=false:=by
 cases hb:(b==36)
 ·rfl
 ·rw [beq_iff_eq]at hb;subst hb;cases h
theorem Qnu (c:Int) (i:Nat) (x y:Bool) (hc:1≤c∧c≤52) (hi:1≤i∧i≤99):QE (QB c i x y)=x∧rpC (QB c i x y)=c∧QE (rp2 (QB c i x y))=y∧l1I (rp3 (QB c i x y))=some (i:Int):=by
 obtain⟨hl,hne⟩:=JK c hc.1 hc.2;have hd:=Qei i (by omega);have e0:(QB c i x y).data.toList=fxL x++((ZH c).data.toList++(fxL y++(YV i).data.toList)):=by rw [UZ];simp only [List.append_assoc]
 have h1:KN ((ZH c).data.toList++(fxL y++(YV i).data.toList))=false:=by
  cases hq:(ZH c).data.toList with
  | nil=>exact absurd hq hne
  | cons b t=>exact Qd4 b (hl b (by rw [hq];simp))
 obtain⟨a1,a2⟩:=BN x _ h1
 have h2:KN (YV i).data.toList=false:=by
  revert hd
  cases (YV i).data.toList with
  | nil=>intro h;cases h
  | cons b t=>
   intro h;have h9:(!isL b&& !(b==36))=true:=h;rw [Bool.and_eq_true]at h9;show(b==36)=false;simpa using h9.2
 obtain⟨b1,b2⟩:=BN y _ h2;have ecut:(ZN (QB c i x y)).data.toList=(ZH c).data.toList++(fxL y++(YV i).data.toList):=by rw [Qi0,e0];exact a2
 have hnl:(fxL y++(YV i).data.toList).takeWhile isL= []:=by
  cases y
  ·show((YV i).data.toList).takeWhile isL= [];revert hd
   cases (YV i).data.toList with
   | nil=>intro h;cases h
   | cons b t=>
    intro h;have h9:(!isL b&& !(b==36))=true:=h;rw [Bool.and_eq_true]at h9;rw [List.takeWhile_cons,show isL b=false by simpa using h9.1];rfl
  ·rfl
 have hdw:(fxL y++(YV i).data.toList).dropWhile isL=fxL y++(YV i).data.toList:=by
  have h:=List.takeWhile_append_dropWhile (p:=isL) (l:=fxL y++(YV i).data.toList);rw [hnl]at h;exact h
 have e2:(rp2 (QB c i x y)).data.toList=fxL y++(YV i).data.toList:=by
  rw [Qp6,ecut,List.dropWhile_append_of_pos hl,hdw]
 refine⟨by rw [Qay,e0];exact a1,?_,by rw [Qay,e2];exact b1,?_⟩
 ·rw [Qp4,ecut,List.takeWhile_append_of_pos hl,hnl,List.append_nil];exact Qbm c hc.1 hc.2
 ·rw [Qm5,Qp5,e2,b2];exact Qhn i (by omega)
def Gy (T:Int→Int):Int→List Int→Int→Prop
 | a,[],e=>a=e
 | a,k::ks,e=>T k=a∧a≤k∧Gy T (k+1) ks e
theorem UL {T:Int→Int}: ∀(ks:List Int) (a k e:Int),Gy T a ks (T k)→T k≤k→k+1=e→Gy T a (ks++ [k]) e
 | [],a,k,e,h,hk,he=>by
  rw [Gy]at h;subst h;exact⟨rfl,hk,he⟩
 | q::ks,a,k,e,h,hk,he=>⟨h.1,h.2.1,UL ks (q+1) k e h.2.2 hk he⟩
theorem EM {T:Int→Int} (hT: ∀x,0≤x→T x≤x) (ks:List Int): ∀(e a:Int),QD T (e-1) ks=a→0≤a→Gy T a ks.reverse e:=by
 induction ks with
 | nil=>
  intro e a h ha;simp only [QD]at h;show a=e;omega
 | cons k ks ih=>
  intro e a h ha;rw [QD]at h;split at h
  ·omega
  ·rename_i hc
   split at h
   ·omega
   ·rename_i hd
    have h0:0≤e-1:=by omega
    have hk:k=e-1:=by omega
    rw [List.reverse_cons];rw [←hk]at h;refine UL ks.reverse a k e (ih (T k) a h ha) (hT k (by omega)) (by omega)
theorem En {G:Nat→List Int} {i a:Int} (hi:0≤i) (h:Ze G i=a) (ha:0≤a):Gy (Ze G) a (G i.toNat) i:=by
 rw [Jj G i hi]at h;have:=EM (T:=Ze G) (fun x hx=>YL G x hx) _ i a h ha;rwa [List.reverse_reverse]at this
def seg (F:Nat→FN) (a:Nat):Nat→List FN
 | 0=> []
 | m+1=>seg F a m++ [F (a+m)]
theorem Vu (F:Nat→FN) (a:Nat): ∀m,(seg F a m).length=m
 | 0=>rfl
 | m+1=>by rw [seg,List.length_append,Vu F a m];rfl
theorem Qbe (F:Nat→FN) (a:Nat): ∀(p m:Nat),seg F a p++seg F (a+p) m=seg F a (p+m)
 | p,0=>by simp [seg]
 | p,m+1=>by
  rw [seg,←List.append_assoc,Qbe F a p m,←Nat.add_assoc,seg,Nat.add_assoc]
def Yv (F:Nat→FN) (out:List FN) (i:Nat):List FN:=out++seg F out.length (i+1-out.length)
theorem Xi {F:Nat→FN} {out:List FN} {i:Nat} (h:out.length≤i+1):(Yv F out i).length=i+1:=by
 unfold Yv;rw [List.length_append,Vu];omega
theorem Vc {F:Nat→FN} {out:List FN} {i j:Nat} (h:out.length≤i+1) (hij:i≤j):Yv F (Yv F out i) j=Yv F out j:=by
 have h1:=Xi (F:=F) h;unfold Yv at*;rw [h1,List.append_assoc];congr 1
 have h2:=Qbe F out.length (i+1-out.length) (j+1-(i+1));rw [show out.length+(i+1-out.length)=i+1 by omega,show i+1-out.length+(j+1-(i+1))=j+1-out.length by omega]at h2;exact h2
theorem JL {F:Nat→FN} {out:List FN} {i:Nat} (h:out.length=i):Yv F out i=out++ [F i]:=by
 unfold Yv;rw [h,show i+1-i=1 by omega];rfl
theorem MS {F:Nat→FN} {out:List FN} {i:Nat} (h:out.length≤i+1):Yv F out i++ [F (i+1)]=Yv F out (i+1):=by
 rw [←Vc h (Nat.le_succ i),JL (Xi h)]
def Sep (l:List UInt8):Prop:= ∀b,l.head? =some b→isW b=false∧b≠34∧b≠58∧b≠32
def YR (lv:Int) (l:List UInt8):Prop:=QG (pk l)=0∨lvl (QG (pk l))<lv
theorem Hx {lv lv':Int} {l:List UInt8} (h:YR lv l) (hl:lv≤lv'):YR lv' l:=by
 rcases h with h | h
 ·exact Or.inl h
 ·exact Or.inr (by omega)
theorem Qp0 (l:List UInt8):YR 5 l:=Or.inr (by have:=(Xg (QG (pk l))).2;omega)
theorem Ek {lv:Int} {a:Int} {l:List UInt8} {out:List FN} (h1:1≤lv) (h4:lv≤4) (hn:l.length≤1000) (h:YR lv l):PB RF 2 lv a [] l out=some (a,sb l,out):=by
 rw [PB2 h1 h4 hn,if_pos];rcases h with h | h
 ·exact Or.inl h
 ·exact Or.inr (by omega)
theorem Qaz {lv:Int} {t l:List UInt8} {x:Int} {out o1:List FN} (h1:1≤lv) (h4:lv≤4) (ht:t.length≤1000) (h:PB RF 1 (lv+1) 0 [] t out=some (x,sb l,o1)):PB RF 1 lv 0 [] t out=PB RF 2 lv x [] l o1:=by
 rw [PB1 h1 h4 ht,h];exact XH (QT _)
theorem VW {b:UInt8} {l:List UInt8} (h:b≠32):sb (b::l)=b::l:=by
 unfold sb;rw [List.dropWhile_cons,if_neg (by simpa using h)]
theorem Qoo {b:UInt8} (h:isW b=true):b≠32:=fun e=>by subst e;revert h;decide
theorem Qnm {w l:List UInt8} (ha: ∀b∈w,isW b=true) (hs: ∀b,l.head? =some b→isW b=false):(w++l).takeWhile isW=w∧(w++l).dropWhile isW=l:=by
 induction w with
 | nil=>
  cases l with
  | nil=>exact⟨rfl,rfl⟩
  | cons b t=>
   have:=hs b rfl;simp [List.takeWhile,List.dropWhile,this]
 | cons a w ih=>
  have h1:=ha a (by simp);obtain⟨i1,i2⟩:=ih (fun b hb=>ha b (by simp [hb]));rw [List.cons_append,List.takeWhile_cons,if_pos h1,List.dropWhile_cons,if_pos h1,i1,i2];exact⟨rfl,rfl⟩
theorem KG {w l:List UInt8} (hw:w≠ []) (ha: ∀b∈w,isW b=true) (hs: ∀b,l.head? =some b→isW b=false):pk (w++l)=w∧nx (w++l)=l:=by
 cases w with
 | nil=>exact absurd rfl hw
 | cons a w=>
  have h1:=ha a (by simp);have hsb:sb (a::w++l)=a::w++l:=VW (Qoo h1);obtain⟨e1,e2,_⟩:=Us (l:=a::w++l) (t:=w++l) (c:=a) hsb h1;obtain⟨t1,t2⟩:=Qnm (w:=a::w) ha hs;rw [e1,e2,hsb,t1,t2];exact⟨rfl,rfl⟩
theorem Yy {c:UInt8} {l:List UInt8} (hc:c=40∨c=41∨c=44∨c=58∨c=45):pk (c::l)= [c]∧nx (c::l)=l:=Mz (VW (by rcases hc with e | e | e | e | e<;>(rw [e];decide))) hc
def Beg (b:UInt8):Prop:=isW b=true∨b=40∨b=45∨b=34∨b=35
theorem Qa2 {b:UInt8} (h:Beg b):b≠32∧b≠61∧b≠62∧b≠58∧b≠41∧b≠44:=by
 rcases h with h | h | h | h | h
 ·refine⟨?_,?_,?_,?_,?_,?_⟩<;>(intro e;subst e;revert h;decide)
 all_goals (subst h;decide)
theorem Qds (o:Int) (h1:1≤o) (h2:o≤11) {b:UInt8} {r:List UInt8} (hb:Beg b):QS (sgT o++b::r)=o∧sb (sgT o++b::r)=sgT o++b::r:=by
 obtain⟨_,n1,n2,_⟩:=Qa2 hb;have hn:o=1∨o=2∨o=3∨o=4∨o=5∨o=6∨o=7∨o=8∨o=9∨o=10∨o=11:=by omega
 rcases hn with rfl | rfl | rfl | rfl | rfl | rfl | rfl | rfl | rfl | rfl | rfl
 all_goals
  refine⟨?_,?_⟩
  ·simp [sgT,QS,n1,n2]
  ·simp only [sgT];exact VW (by decide)
theorem Qp9 (o:Int) (h1:1≤o) (h2:o≤11) {b:UInt8} {r:List UInt8} (hb:Beg b):pk (sgT o++b::r)=sgT o∧nx (sgT o++b::r)=b::r:=by
 obtain⟨e1,e2⟩:=Qds o h1 h2 hb (r:=r);obtain⟨p1,p2⟩:=Qjg (l:=sgT o++b::r) (by rw [e2,e1];omega);rw [e2,e1]at p1 p2;exact⟨p1,(List.append_cancel_left p2).symm⟩
theorem Qh6 (o:Int) (h1:1≤o) (h2:o≤11) (r:List UInt8):Sep (sgT o++r):=by
 have hn:o=1∨o=2∨o=3∨o=4∨o=5∨o=6∨o=7∨o=8∨o=9∨o=10∨o=11:=by omega
 intro b hb;rcases hn with rfl | rfl | rfl | rfl | rfl | rfl | rfl | rfl | rfl | rfl | rfl
 all_goals
  simp only [sgT]at hb;have e:=Option.some.inj hb;rw [←e];decide
theorem JN {c:UInt8} (hc:c=41∨c=44) (l:List UInt8):Sep (c::l):=by
 intro b hb;have e:=Option.some.inj hb;rw [←e];rcases hc with rfl | rfl<;>decide
theorem Qbc:Sep []:=fun b hb=>by cases hb
theorem Sep.w {l:List UInt8} (h:Sep l): ∀b,l.head? =some b→isW b=false:=fun b hb=>(h b hb).1
theorem Sep.q {l:List UInt8} (h:Sep l):l.head?≠some 34:=fun e=>(h 34 e).2.1 rfl
theorem Qgl {b:UInt8} (h:isL b=true):isW b=true:=by
 unfold isW;unfold isL at h;rw [h];rfl
theorem Qat {c v:Int} (h:Qj c v=true):1≤c∧c≤52:=by
 simp only [Qj,decide_eq_true_eq]at h;omega
theorem Qf2 {c r:Int} (h:Qj c r=true):Xe c (some r)=true:=by
 unfold Xe;simpa using h
theorem Qq4: ∀i,i<100→(YV i).data.toList.all isW=true:=by decide+kernel
theorem Gr {c r:Int} {x y:Bool} (h:Qj c r=true):(∀b∈plT c r x y,isW b=true)∧plT c r x y≠ []:=by
 have hb:=Dh h;have hc:=Qat h;unfold plT;rw [UZ];obtain⟨l1,l2⟩:=JK c hc.1 hc.2;have hf: ∀x:Bool,∀b∈fxL x,isW b=true:=by decide
 refine⟨fun b hb2=> ?_,?_⟩
 ·rcases List.mem_append.1 hb2 with hb2 | hb2
  ·rcases List.mem_append.1 hb2 with hb2 | hb2
   ·rcases List.mem_append.1 hb2 with hb2 | hb2
    ·exact hf x b hb2
    ·exact Qgl (l1 b hb2)
   ·exact hf y b hb2
  ·exact List.all_eq_true.1 (Qq4 r.toNat (by omega)) b hb2
 ·intro e;rw [List.append_eq_nil_iff,List.append_eq_nil_iff,List.append_eq_nil_iff]at e;exact l2 e.1.1.2
theorem Dk {c r:Int} {x y:Bool} (h:Qj c r=true):rpL (plT c r x y)=some (c,r,x,y):=by
 have hb:=Dh h;have hc:=Qat h;obtain⟨h1,h2,h3,h4⟩:=Qnu c r.toNat x y hc (by omega);have e:bs (plT c r x y)=QB c r.toNat x y:=rfl;have er:((r.toNat:Nat):Int)=r:=by omega
 unfold rpL;rw [e,h1,h2,h3,h4,er];have ho:Xe c (some r)=true:=Qf2 h;rw [if_pos ho];rfl
theorem Ou {w:List UInt8} (h:rpL w≠none∨rvL w≠none):Yq w=0:=by
 by_cases hf:Yq w=0
 ·exact hf
 ·exfalso
  obtain⟨n,h1,h2,e⟩:=Nr hf;have h9:=Qb5 ⟨n-1,by omega⟩;simp only [show((n-1:Nat):Int)+1=(n:Int) by omega]at h9;rw [←e]at h;rcases h with h | h
  ·exact h h9.2
  ·exact h h9.1
theorem Gn {c r:Int} {f g:Bool} (h:zP c r f g=true):c=0∧r=0∧f=false∧g=false:=by
 simp only [zP,Bool.and_eq_true,decide_eq_true_eq,Bool.not_eq_true']at h;exact⟨h.1.1.1,h.1.1.2,h.1.2,h.2⟩
theorem Em {k n:Int} {s:ByteArray} (h:zV k n s=true):k=0∧n=0∧s=⟨#[]⟩:=by
 simp only [zV,Bool.and_eq_true,decide_eq_true_eq]at h;exact⟨h.1.1,h.1.2,Xu h.2⟩
theorem Qgc {x:FN} (h:Qx x=true) (hk:x.k=1):x=RF.cst x.ck x.cn x.cs.data.toList:=by
 obtain⟨k,o,ck,cn,cs,ac,ar,af,ag,bc,br,bf,bg,kids⟩:=x;simp only at hk;subst hk;unfold Qx QA at h;rw [if_pos rfl]at h;simp only [Bool.and_eq_true,decide_eq_true_eq]at h;obtain⟨⟨⟨⟨_,ho⟩,ha⟩,hb⟩,hl⟩:=h
 obtain⟨rfl,rfl,rfl,rfl⟩:=Gn ha;obtain⟨rfl,rfl,rfl,rfl⟩:=Gn hb;obtain rfl:=ho;obtain rfl:=List.length_eq_zero_iff.1 hl;rfl
theorem Qgd {x:FN} (h:Qx x=true) (hk:x.k=2):x=RF.cel (x.ac,x.ar,x.af,x.ag):=by
 obtain⟨k,o,ck,cn,cs,ac,ar,af,ag,bc,br,bf,bg,kids⟩:=x;simp only at hk;subst hk;unfold Qx QA at h;rw [if_neg (by simp),if_pos rfl]at h;simp only [Bool.and_eq_true,decide_eq_true_eq]at h;obtain⟨⟨⟨⟨_,ho⟩,ha⟩,hb⟩,hl⟩:=h
 obtain⟨rfl,rfl,rfl⟩:=Em ha;obtain⟨rfl,rfl,rfl,rfl⟩:=Gn hb;obtain rfl:=ho;obtain rfl:=List.length_eq_zero_iff.1 hl;rfl
theorem Qgg {x:FN} (h:Qx x=true) (hk:x.k=3):x=RF.are (x.ac,x.ar,x.af,x.ag) (x.bc,x.br,x.bf,x.bg):=by
 obtain⟨k,o,ck,cn,cs,ac,ar,af,ag,bc,br,bf,bg,kids⟩:=x;simp only at hk;subst hk;unfold Qx QA at h;rw [if_neg (by simp),if_neg (by simp),if_pos rfl]at h;simp only [Bool.and_eq_true,decide_eq_true_eq]at h;obtain⟨⟨⟨_,ho⟩,ha⟩,hl⟩:=h
 obtain⟨rfl,rfl,rfl⟩:=Em ha;obtain rfl:=ho;obtain rfl:=List.length_eq_zero_iff.1 hl;rfl
theorem Qgb {x:FN} {c:Int} (h:Qx x=true) (hk:x.k=4) (hg:x.kids= [c]):x=RF.neg c:=by
 obtain⟨k,o,ck,cn,cs,ac,ar,af,ag,bc,br,bf,bg,kids⟩:=x;simp only at hk hg;subst hk hg;unfold Qx QA at h;rw [if_neg (by simp),if_neg (by simp),if_neg (by simp),if_pos rfl]at h;simp only [Bool.and_eq_true,decide_eq_true_eq]at h;obtain⟨⟨_,ho⟩,⟨hv,ha⟩,hb⟩:=h
 obtain⟨rfl,rfl,rfl⟩:=Em hv;obtain⟨rfl,rfl,rfl,rfl⟩:=Gn ha;obtain⟨rfl,rfl,rfl,rfl⟩:=Gn hb;obtain rfl:=ho;rfl
theorem Qgf {x:FN} {a b:Int} (h:Qx x=true) (hk:x.k=5) (hg:x.kids= [a,b]):x=RF.bin x.o a b:=by
 obtain⟨k,o,ck,cn,cs,ac,ar,af,ag,bc,br,bf,bg,kids⟩:=x;simp only at hk hg;subst hk hg;unfold Qx QA at h;rw [if_neg (by simp),if_neg (by simp),if_neg (by simp),if_neg (by simp),if_pos rfl]at h;simp only [Bool.and_eq_true,decide_eq_true_eq]at h;obtain⟨⟨_,ho⟩,⟨hv,ha⟩,hb⟩:=h
 obtain⟨rfl,rfl,rfl⟩:=Em hv;obtain⟨rfl,rfl,rfl,rfl⟩:=Gn ha;obtain⟨rfl,rfl,rfl,rfl⟩:=Gn hb;rfl
theorem Qge {x:FN} (h:Qx x=true) (hk:x.k=6):x=RF.cal x.o x.kids:=by
 obtain⟨k,o,ck,cn,cs,ac,ar,af,ag,bc,br,bf,bg,kids⟩:=x;simp only at hk;subst hk;unfold Qx QA at h;rw [if_neg (by simp),if_neg (by simp),if_neg (by simp),if_neg (by simp),if_neg (by simp),if_pos rfl]at h;simp only [Bool.and_eq_true,decide_eq_true_eq]at h;obtain⟨_,⟨hv,ha⟩,hb⟩:=h
 obtain⟨rfl,rfl,rfl⟩:=Em hv;obtain⟨rfl,rfl,rfl,rfl⟩:=Gn ha;obtain⟨rfl,rfl,rfl,rfl⟩:=Gn hb;rfl
theorem Qmz {k n:Int} {s:ByteArray} (h:okV k n s=true):rvL (txV k n s).data.toList=some (k,n,s.data.toList):=by
 have hg:=Gd (txV k n s);rw [UC h]at hg;unfold rvL;rw [UN,←Uh,UC h,rvT,if_pos (hg.trans h)];rfl
theorem UG (m:Nat): ∀b∈Lib.decDigits m,48≤b.toNat∧b.toNat≤57:=by
 induction m using Nat.strongRecOn with
 | ind m ih=>
  intro b hb;rw [Lib.decDigits]at hb;split at hb
  ·rw [List.mem_singleton]at hb;rw [hb];simp;omega
  ·rcases List.mem_append.1 hb with hb | hb
   ·exact ih (m/10) (by omega) b hb
   ·rw [List.mem_singleton]at hb;rw [hb];simp;omega
theorem Dt {b:UInt8} (h:48≤b.toNat∧b.toNat≤57):isW b=true∧b≠36∧isL b=false:=by
 refine⟨?_,fun e=>by subst e;revert h;decide,?_⟩
 ·unfold isW;simp [h]
 ·unfold isL;simp;omega
theorem Qga {n:Int} {l:List UInt8} {out:List FN} (h0:0≤n) (h:okV 1 n ⟨#[]⟩=true) (hl:((itB n).data.toList++l).length≤1000) (hs:Sep l):PB RF 3 0 0 [] ((itB n).data.toList++l) out=some ((out.length:Int),sb l,out++ [RF.cst 1 n []]):=by
 have e1:(itB n).data.toList=Lib.decDigits n.toNat:=by
  have:=Lib.itoa_nonneg n.toNat;rw [show((n.toNat:Nat):Int)=n by omega]at this;rw [←this];rfl
 have hx:=Qmz h;have e2:txV 1 n ⟨#[]⟩=itB n:=by rw [txV,h,if_pos rfl,txB,if_pos rfl]
 rw [e2,e1]at hx;rw [e1]at hl ⊢;have hd:=UG n.toNat
 have hne:Lib.decDigits n.toNat≠ []:=by
  rw [Lib.decDigits];split
  ·simp
  ·simp
 obtain⟨p1,p2⟩:=KG (l:=l) hne (fun b hb=>(Dt (hd b hb)).1) hs.w;have hf:Yq (Lib.decDigits n.toNat)=0:=Ou (Or.inr (by rw [hx];simp));rw [Jm (x:=some (1,n,[])) (y:=none) hl (by rw [p1];exact hne) ?_ ?_ ?_ (by rw [p1];exact hf) (by rw [p1];exact hx) ?_,p2]
 ·rfl
 all_goals
  rw [p1];cases hq:Lib.decDigits n.toNat with
  | nil=>exact absurd hq hne
  | cons b t=>
   have hb:=hd b (by rw [hq];simp);obtain⟨hw,h36,hL⟩:=Dt hb;obtain⟨n1,n2,n3,n4⟩:=Dq hw;first
   | exact Qbi h36 hL
   | (intro e;exact n2 (List.cons.inj e).1)
   | (intro e;exact n3 (List.cons.inj e).1)
   | (intro e;exact n1 (Option.some.inj e))
theorem Qjw {n:Int} {l:List UInt8} {out:List FN} (hn:n=0∨n=1) (hl:((trT n).data.toList++l).length≤1000) (hs:Sep l):PB RF 3 0 0 [] ((trT n).data.toList++l) out=some ((out.length:Int),sb l,out++ [RF.cst 3 n []]):=by
 have hx:okV 3 n ⟨#[]⟩=true:=by rcases hn with rfl | rfl<;>decide+kernel
 have hv:=Qmz hx;have e2:txV 3 n ⟨#[]⟩=trT n:=by rw [txV,hx,if_pos rfl,txB,if_neg (by omega),if_neg (by omega),if_pos rfl]
 rw [e2]at hv;have ha:(trT n).data.toList.all isW=true∧(trT n).data.toList≠ []∧(trT n).data.toList≠ [40]∧(trT n).data.toList≠ [45]∧(trT n).data.toList.head?≠some 34:=by rcases hn with rfl | rfl<;>decide
 obtain⟨a1,a2,a3,a4,a5⟩:=ha;obtain⟨p1,p2⟩:=KG (l:=l) a2 (fun b hb=>List.all_eq_true.1 a1 b hb) hs.w;have hf:Yq (trT n).data.toList=0:=Ou (Or.inr (by rw [hv];simp));rw [Jm (x:=some (3,n,[])) (y:=rpL (trT n).data.toList) hl (by rw [p1];exact a2) (by rw [p1];exact a3) (by rw [p1];exact a4) (by rw [p1];exact a5) (by rw [p1];exact hf) (by rw [p1];exact hv) (by rw [p1]),p2];rfl
theorem Qck (n:Int) (h1:1≤n) (h5:n≤5):(erT n).data.toList=erL n.toNat:=by
 have hn:n=1∨n=2∨n=3∨n=4∨n=5:=by omega
 rcases hn with rfl | rfl | rfl | rfl | rfl<;>rfl
theorem Qm6 (k:Nat) (h1:1≤k) (h5:k≤5) (l:List UInt8):Yr (erL k++l)=k∧ ∃t,erL k++l=35::t:=by
 have hn:k=1∨k=2∨k=3∨k=4∨k=5:=by omega
 rcases hn with rfl | rfl | rfl | rfl | rfl
 all_goals exact⟨by simp [Yr,erL,List.isPrefixOf],_,rfl⟩
theorem Ql4 {n:Int} {l:List UInt8} {out:List FN} (h1:1≤n) (h5:n≤5) (hl:((erT n).data.toList++l).length≤1000):PB RF 3 0 0 [] ((erT n).data.toList++l) out=some ((out.length:Int),sb l,out++ [RF.cst 4 n []]):=by
 rw [Qck n h1 h5]at hl ⊢;obtain⟨e1,t,e2⟩:=Qm6 n.toNat (by omega) (by omega) l;have hsb:sb (erL n.toNat++l)=erL n.toNat++l:=by rw [e2];exact VW (by decide)
 rw [Qb6 (t:=t) (k:=n.toNat) hl (by rw [hsb];exact e2) (by rw [hsb];exact e1) (by omega),hsb,List.drop_left,show((n.toNat:Nat):Int)=n by omega]
theorem Qfz {s:List UInt8} {l:List UInt8} {out:List FN} (hl:([34]++qt s++ [34]++l).length≤1000) (hs:Sep l):PB RF 3 0 0 [] ([34]++qt s++ [34]++l) out=some ((out.length:Int),sb l,out++ [RF.cst 2 0 s]):=by
 have e: [34]++qt s++ [34]++l=34::(qt s++ [34]++l):=by simp
 rw [e]at hl ⊢;exact Qb3 hl (VW (by decide)) (Un s l hs.q)
theorem Qhp {k n:Int} {s:ByteArray} {l:List UInt8} {out:List FN} (hc:cOk k n s=true) (hl:(Jh k n s++l).length≤1000) (hs:Sep l):PB RF 3 0 0 [] (Jh k n s++l) out=some ((out.length:Int),sb l,out++ [RF.cst k n s.data.toList]):=by
 obtain⟨h,h0,hn⟩:=Xc hc;unfold Jh at hl ⊢;rcases ZJ h with⟨rfl,rfl,rfl⟩ | ⟨rfl,hr,rfl⟩ | ⟨rfl,rfl,hr⟩ | ⟨rfl,hr,rfl⟩ | ⟨rfl,h1,h5,rfl⟩
 ·exact absurd rfl h0
 ·have e2:txV 1 n ⟨#[]⟩=itB n:=by rw [txV,h,if_pos rfl,txB,if_pos rfl]
  rw [if_neg (by omega),e2]at hl ⊢;exact Qga (hn rfl) h hl hs
 ·rw [if_pos rfl]at hl ⊢;exact Qfz hl hs
 ·have e2:txV 3 n ⟨#[]⟩=trT n:=by rw [txV,h,if_pos rfl,txB,if_neg (by omega),if_neg (by omega),if_pos rfl]
  rw [if_neg (by omega),e2]at hl ⊢;exact Qjw (by revert hr;simp [ZQ]) hl hs
 ·have e2:txV 4 n ⟨#[]⟩=erT n:=by rw [txV,h,if_pos rfl,txB,if_neg (by omega),if_neg (by omega),if_neg (by omega),if_pos rfl]
  rw [if_neg (by omega),e2]at hl ⊢;exact Ql4 h1 h5 hl
theorem Kz {c r:Int} {x y:Bool} (h:Qj c r=true): ∃b t,plT c r x y=b::t∧(b=36∨isL b=true):=by
 have hc:=Qat h;obtain⟨l1,l2⟩:=JK c hc.1 hc.2;unfold plT;rw [UZ];cases x with
 | true=>exact⟨36,_,rfl,Or.inl rfl⟩
 | false=>
  cases hq:(ZH c).data.toList with
  | nil=>exact absurd hq l2
  | cons b t=>exact⟨b,_,rfl,Or.inr (l1 b (by rw [hq];simp))⟩
theorem tr_rp:rpL (trT 0).data.toList=none∧rpL (trT 1).data.toList=none:=by decide+kernel
theorem Qn7 {b:UInt8} {t:List UInt8} (h:b=36∨isL b=true):GL (b::t)=none:=by
 cases hq:GL (b::t)with
 | none=>rfl
 | some v=>
  exfalso
  obtain⟨e,_⟩:=Vd hq;obtain⟨h0,h1⟩:=KJ v;have e2:itB v=bs (b::t):=by rw [←e];rfl
  have e3: ∀s:ByteArray,s=bs (b::t)→ ∀h:0<s.size,s[0]=b:=fun s hs h=>by subst hs;rfl
  rw [e3 _ e2 h0]at h1;rcases h with h | h
  ·rw [h]at h1;revert h1
   decide
  ·have:=of_decide_eq_true (show decide (65≤b.toNat∧b.toNat≤90)=true from h);omega
theorem Qp8 {c r:Int} {x y:Bool} (h:Qj c r=true):rvL (plT c r x y)=none:=by
 have hp:=Dk (x:=x) (y:=y) h;obtain⟨b,t,e,hb⟩:=Kz (x:=x) (y:=y) h;rw [e]at hp ⊢
 have n0:bs (b::t)≠trT 0:=fun e'=>by
  have:b::t=(trT 0).data.toList:=congrArg (fun s:ByteArray=>s.data.toList) e';rw [this,tr_rp.1]at hp;cases hp
 have n1:bs (b::t)≠trT 1:=fun e'=>by
  have:b::t=(trT 1).data.toList:=congrArg (fun s:ByteArray=>s.data.toList) e';rw [this,tr_rp.2]at hp;cases hp
 have e0: ∀h:0<(bs (b::t)).size,(bs (b::t))[0]=b:=fun _=>rfl
 have nb:b.toNat≠39∧b.toNat≠35:=by
  rcases hb with hb | hb
  ·subst hb;decide
  ·have:=of_decide_eq_true (show decide (65≤b.toNat∧b.toNat≤90)=true from hb);omega
 unfold rvL rvS;rw [dif_pos (show 0<(bs (b::t)).size by rw [Qv];simp),e0,if_neg nb.1,if_neg n1,if_neg n0,if_neg nb.2,OE,Qn7 hb];rfl
theorem Qht {c r:Int} {x y:Bool} {l:List UInt8} {out:List FN} (h:Qj c r=true) (hl:(plT c r x y++l).length≤1000) (hs:Sep l):PB RF 3 0 0 [] (plT c r x y++l) out=some ((out.length:Int),sb l,out++ [RF.cel (c,r,x,y)]):=by
 obtain⟨w1,w2⟩:=Gr (x:=x) (y:=y) h;obtain⟨p1,p2⟩:=KG (l:=l) w2 w1 hs.w;have hp:=Dk (x:=x) (y:=y) h;have hf:Yq (plT c r x y)=0:=Ou (Or.inl (by rw [hp];simp));obtain⟨b,t,e,hb⟩:=Kz (x:=x) (y:=y) h;obtain⟨n1,n2,n3,n4⟩:=Dq (w1 b (by rw [e];simp));rw [Jm (x:=none) (y:=some (c,r,x,y)) hl (by rw [p1];exact w2) ?_ ?_ ?_ (by rw [p1];exact hf) (by rw [p1];exact Qp8 h) (by rw [p1];exact hp),p2]
 ·rfl
 ·rw [p1,e];intro e';exact n2 (List.cons.inj e').1
 ·rw [p1,e];intro e';exact n3 (List.cons.inj e').1
 ·rw [p1,e];intro e';exact n1 (Option.some.inj e')
theorem Qh0 {c r c' r':Int} {x y x' y':Bool} {l:List UInt8} {out:List FN} (h:Qj c r=true) (h':Qj c' r'=true) (hl:(plT c r x y++ [58]++plT c' r' x' y'++l).length≤1000) (hs:Sep l):
  PB RF 6 0 0 [] (plT c r x y++ [58]++plT c' r' x' y'++l) out=some ((out.length:Int),sb l,out++ [RF.are (c,r,x,y) (c',r',x',y')]):=by
 have e:plT c r x y++ [58]++plT c' r' x' y'++l=plT c r x y++58::(plT c' r' x' y'++l):=by simp
 rw [e]at hl ⊢;obtain⟨w1,w2⟩:=Gr (x:=x) (y:=y) h;obtain⟨w1',w2'⟩:=Gr (x:=x') (y:=y') h';obtain⟨p1,p2⟩:=KG (l:=58::(plT c' r' x' y'++l)) w2 w1 (fun b hb=>by rw [←Option.some.inj hb];decide);obtain⟨q1,q2⟩:=Yy (c:=58) (l:=plT c' r' x' y'++l) (by simp);obtain⟨p1',p2'⟩:=KG (l:=l) w2' w1' hs.w;rw [PB6 hl,p1,p2,q1,q2,p1',p2',if_pos ⟨w2,rfl⟩,DC,DC,Dk h,Dk h']
theorem Qjh {b:UInt8} {t:List UInt8} (h:b≠58) (h32:b≠32):pk (b::t)≠ [58]:=fun e=>by
 have:=(Qip (b::t) 58 (by simp)).1 e;rw [VW h32]at this;exact h (Option.some.inj this)
theorem Qmy {l:List UInt8} (h:Sep l):pk l≠ [58]:=by
 cases l with
 | nil=>decide
 | cons b t=>exact Qjh (h b rfl).2.2.1 (h b rfl).2.2.2
theorem Qm9 {b:UInt8} {t:List UInt8} (h:Beg b):pk (b::t)≠ [58]:=Qjh (Qa2 h).2.2.2.1 (Qa2 h).1
theorem Qi1 {k n:Int} {s:ByteArray} {l:List UInt8} (hc:cOk k n s=true) (hs:Sep l):nx (Jh k n s++l)=l∧ ∃b t,Jh k n s=b::t∧Beg b:=by
 obtain⟨h,h0,hn⟩:=Xc hc;unfold Jh;rcases ZJ h with⟨rfl,rfl,rfl⟩ | ⟨rfl,hr,rfl⟩ | ⟨rfl,rfl,hr⟩ | ⟨rfl,hr,rfl⟩ | ⟨rfl,h1,h5,rfl⟩
 ·exact absurd rfl h0
 ·have e2:txV 1 n ⟨#[]⟩=itB n:=by rw [txV,h,if_pos rfl,txB,if_pos rfl]
  have e1:(itB n).data.toList=Lib.decDigits n.toNat:=by
   have:=Lib.itoa_nonneg n.toNat;rw [show((n.toNat:Nat):Int)=n by have:=hn rfl;omega]at this;rw [←this];rfl
  rw [if_neg (by omega),e2,e1];have hd:=UG n.toNat
  have hne:Lib.decDigits n.toNat≠ []:=by
   rw [Lib.decDigits];split
   ·simp
   ·simp
  refine⟨(KG (l:=l) hne (fun b hb=>(Dt (hd b hb)).1) hs.w).2,?_⟩;cases hq:Lib.decDigits n.toNat with
  | nil=>exact absurd hq hne
  | cons b t=>exact⟨b,t,rfl,Or.inl (Dt (hd b (by rw [hq];simp))).1⟩
 ·rw [if_pos rfl];have e: [34]++qt s.data.toList++ [34]++l=34::(qt s.data.toList++ [34]++l):=by simp
  rw [e];exact⟨(Ma (VW (by decide)) (Un s.data.toList l hs.q)).2.1,34,_,rfl,by unfold Beg;simp⟩
 ·have e2:txV 3 n ⟨#[]⟩=trT n:=by rw [txV,h,if_pos rfl,txB,if_neg (by omega),if_neg (by omega),if_pos rfl]
  rw [if_neg (by omega),e2];have hn:n=0∨n=1:=by revert hr;simp [ZQ]
  have ha:(trT n).data.toList.all isW=true∧(trT n).data.toList≠ []:=by rcases hn with rfl | rfl<;>decide
  refine⟨(KG (l:=l) ha.2 (fun b hb=>List.all_eq_true.1 ha.1 b hb) hs.w).2,?_⟩;rcases hn with rfl | rfl
  ·exact⟨70,_,rfl,by unfold Beg;decide⟩
  ·exact⟨84,_,rfl,by unfold Beg;decide⟩
 ·have e2:txV 4 n ⟨#[]⟩=erT n:=by rw [txV,h,if_pos rfl,txB,if_neg (by omega),if_neg (by omega),if_neg (by omega),if_pos rfl]
  rw [if_neg (by omega),e2,Qck n h1 h5];obtain⟨e1,t,e3⟩:=Qm6 n.toNat (by omega) (by omega) l;have hsb:sb (erL n.toNat++l)=erL n.toNat++l:=by rw [e3];exact VW (by decide)
  obtain⟨_,q2,_⟩:=Qic (l:=erL n.toNat++l) (t:=t) (by rw [hsb];exact e3) (by rw [hsb,e1];omega);rw [hsb,e1]at q2;refine⟨(List.append_cancel_left q2).symm,?_⟩;have hk:n=1∨n=2∨n=3∨n=4∨n=5:=by omega
  rcases hk with rfl | rfl | rfl | rfl | rfl
  all_goals exact⟨35,_,rfl,by unfold Beg;simp⟩
theorem UF (o:Int) (h1:1≤o) (h2:o≤10):(fnT o).all isW=true∧fnT o≠ []∧Yq (fnT o)=o:=by
 have hn:o=1∨o=2∨o=3∨o=4∨o=5∨o=6∨o=7∨o=8∨o=9∨o=10:=by omega
 rcases hn with rfl | rfl | rfl | rfl | rfl | rfl | rfl | rfl | rfl | rfl<;>decide
structure Rt (F:Nat→FN) (n:Nat):Prop where
 node: ∀i,i<n→Qx (F i)=true
 rng:QI (fG F) n
 ars: ∀i,i<n→(F i).k≠6→ ∀c∈(F i).kids,(F c.toNat).k≠3
theorem Qm1 {F:Nat→FN} {n:Nat} (h:Zd F n=true):Rt F n∧(F (n-1)).k≠3∧Ze (fG F) ((n-1:Nat):Int)=0:=by
 obtain⟨h1,h60,hn,hr,hd⟩:=JC h;simp only [Zd,Bool.and_eq_true,decide_eq_true_eq,Bool.not_eq_true',decide_eq_false_iff_not]at h;obtain⟨⟨⟨⟨⟨_,_⟩,_⟩,hk⟩,ha,hl⟩,_⟩:=h;refine⟨⟨hn,hr,fun i hi h6 c hc h3=> ?_⟩,hl,?_⟩
 ·rw [OK hi hc h3 h6]at ha;cases ha
 ·obtain⟨m,rfl⟩: ∃m,n=m+1:=⟨n-1,by omega⟩;have h9:YE (fG F) (m+1)=true:=hk;rw [Kg]at h9;exact of_decide_eq_true h9
theorem Mr {F:Nat→FN} {j:Nat} {z:Int} (h: ∃b t,TX F j=b::t∧Beg b): ∃b t,bdX F j z=b::t∧Beg b:=by
 unfold bdX;split
 ·exact⟨40,_,rfl,by unfold Beg;simp⟩
 ·exact h
theorem OM {F:Nat→FN} {n:Nat} (R:Rt F n): ∀i,i<n→ ∃b t,TX F i=b::t∧Beg b:=by
 intro i;induction i using Nat.strongRecOn with
 | ind i ih=>
  intro hi;rcases QV (R.node i hi)with⟨hk,hc,hg⟩ | ⟨hk,hc,hg⟩ | ⟨hk,hc,hc',hg⟩ | ⟨hk,c,hg⟩ | ⟨hk,o1,o2,a,b,hg⟩ | ⟨hk,o1,o2,k1,k2⟩
  ·rw [Zm (by omega) (by omega) (by omega),Yu,if_pos hk];exact(Qi1 hc Qbc).2
  ·rw [Zm (by omega) (by omega) (by omega),Yu,if_neg (by omega),if_pos hk];obtain⟨b,t,e,hb⟩:=Kz (x:=(F i).af) (y:=(F i).ag) hc;exact⟨b,t,e,Or.inl ((Gr hc).1 b (by rw [e];simp))⟩
  ·rw [Zm (by omega) (by omega) (by omega),Yu,if_neg (by omega),if_neg (by omega)];obtain⟨b,t,e,hb⟩:=Kz (x:=(F i).af) (y:=(F i).ag) hc;rw [e];exact⟨b,_,rfl,Or.inl ((Gr (x:=(F i).af) (y:=(F i).ag) hc).1 b (by rw [e];simp))⟩
  ·rw [GG R.rng hi hk hg];exact⟨45,_,rfl,by unfold Beg;simp⟩
  ·rw [GH R.rng hi hk hg];have hr:=R.rng i hi a (by show a∈(F i).kids;rw [hg];simp);obtain⟨d,t,e,hb⟩:=Mr (z:=lvl (F i).o) (ih a.toNat (by omega) (by omega));rw [e];exact⟨d,_,rfl,hb⟩
  ·rw [VI R.rng hi hk];obtain⟨f1,f2,_⟩:=UF _ o1 o2;cases hq:fnT (F i).o with
   | nil=>exact absurd hq f2
   | cons d t=>exact⟨d,_,rfl,Or.inl (List.all_eq_true.1 f1 d (by rw [hq];simp))⟩
theorem Qeu {F:Nat→FN} {n:Nat} (R:Rt F n): ∀i,i<n→(F i).k≠3→ ∀l,Sep l→pk (nx (TX F i++l))≠ [58]:=by
 intro i;induction i using Nat.strongRecOn with
 | ind i ih=>
  intro hi h3 l hs;rcases QV (R.node i hi)with⟨hk,hc,hg⟩ | ⟨hk,hc,hg⟩ | ⟨hk,hc,hc',hg⟩ | ⟨hk,c,hg⟩ | ⟨hk,o1,o2,a,b,hg⟩ | ⟨hk,o1,o2,k1,k2⟩
  ·rw [Zm (by omega) (by omega) (by omega),Yu,if_pos hk,(Qi1 hc hs).1];exact Qmy hs
  ·rw [Zm (by omega) (by omega) (by omega),Yu,if_neg (by omega),if_pos hk];obtain⟨w1,w2⟩:=Gr (x:=(F i).af) (y:=(F i).ag) hc;rw [(KG (l:=l) w2 w1 hs.w).2];exact Qmy hs
  ·exact absurd hk h3
  ·rw [GG R.rng hi hk hg];have hr:=R.rng i hi c (by show c∈(F i).kids;rw [hg];simp);obtain⟨d,t,e,hb⟩:=Mr (z:=5) (OM R c.toNat (by omega));rw [e,List.append_assoc];show pk (nx (45::(d::t++l)))≠ [58];rw [(Yy (c:=45) (by simp)).2];exact Qm9 hb
  ·rw [GH R.rng hi hk hg];have hr:=R.rng i hi a (by show a∈(F i).kids;rw [hg];simp);have h3a:=R.ars i hi (by omega) a (by rw [hg];simp);unfold bdX;split
   ·obtain⟨d,t,e,hb⟩:=OM R a.toNat (by omega);rw [e];simp only [List.append_assoc,List.cons_append,List.nil_append];rw [(Yy (c:=40) (by simp)).2];exact Qm9 hb
   ·rw [List.append_assoc,List.append_assoc];exact ih a.toNat (by omega) (by omega) h3a _ (Qh6 _ o1 o2 _)
  ·rw [VI R.rng hi hk];obtain⟨f1,f2,_⟩:=UF _ o1 o2;simp only [List.append_assoc,List.cons_append,List.nil_append];rw [(KG f2 (fun b hb=>List.all_eq_true.1 f1 b hb) (fun b hb=>by rw [←Option.some.inj hb];decide)).2];exact Qjh (by decide) (by decide)
theorem Du {t l:List UInt8} {x:Int} {out o1:List FN} {hi:Int} (h4:hi≤5) (ht:t.length≤1000) (hl:l.length≤1000) (h:PB RF 1 hi 0 [] t out=some (x,sb l,o1)): ∀(d:Nat) (lv:Int),lv=hi-(d:Int)→1≤lv→YR lv l→PB RF 1 lv 0 [] t out=some (x,sb l,o1):=by
 intro d;induction d with
 | zero=>
  intro lv e _ _;obtain rfl:lv=hi:=by omega
  exact h
 | succ d ih=>
  intro lv e h1 hs;have h9:=ih (lv+1) (by omega) (by omega) (Hx hs (by omega));rw [Qaz (by omega) (by omega) ht h9,Ek (by omega) (by omega) hl hs]
structure RdP (F:Nat→FN) (i:Nat):Prop where
 one:(F i).k≠5→(F i).k≠3→ ∀(l:List UInt8) (out:List FN),Ze (fG F) i=(out.length:Int)→Sep l→(TX F i++l).length≤1000→PB RF 3 0 0 [] (TX F i++l) out=some ((i:Int),sb l,Yv F out i)
 two:(F i).k=5→ ∀(l:List UInt8) (out:List FN),Ze (fG F) i=(out.length:Int)→Sep l→YR (lvl (F i).o+1) l→(TX F i++l).length≤1000→PB RF 1 (lvl (F i).o) 0 [] (TX F i++l) out=PB RF 2 (lvl (F i).o) i [] l (Yv F out i)
theorem RdP.row {F:Nat→FN} {i:Nat} (H:RdP F i) (h3:(F i).k≠3) {lv:Int} (h1:1≤lv) (h5:lv≤5) (ho:(F i).k=5→lv≤lvl (F i).o) {l:List UInt8} {out:List FN} (ht:Ze (fG F) i=(out.length:Int)) (hs:Sep l) (hst:YR lv l) (hn:(TX F i++l).length≤1000):
  PB RF 1 lv 0 [] (TX F i++l) out=some ((i:Int),sb l,Yv F out i):=by
 have hl:l.length≤1000:=by rw [List.length_append]at hn;omega
 by_cases hk:(F i).k=5
 ·have hb:=Xg (F i).o;have hlv:=ho hk;have h9:=H.two hk l out ht hs (Hx hst (by omega)) hn;rw [Ek hb.1 hb.2 hl (Hx hst hlv)]at h9;exact Du (by omega) hn hl h9 (lvl (F i).o-lv).toNat lv (by omega) h1 hst
 ·have h9:=H.one hk h3 l out ht hs hn;rw [←Qan hn]at h9;exact Du (by omega) hn hl h9 (5-lv).toNat lv (by omega) h1 hst
theorem RdP.go {F:Nat→FN} {i:Nat} (H:RdP F i) (h3:(F i).k≠3) {lv:Int} (h1:1≤lv) (h4:lv≤4) (ho:(F i).k=5→lv≤lvl (F i).o) {l:List UInt8} {out:List FN} (ht:Ze (fG F) i=(out.length:Int)) (hs:Sep l) (hst:YR (lv+1) l) (hn:(TX F i++l).length≤1000):
  PB RF 1 lv 0 [] (TX F i++l) out=PB RF 2 lv i [] l (Yv F out i):=by
 by_cases hk:(F i).k=5∧lvl (F i).o=lv
 ·rw [←hk.2];exact H.two hk.1 l out ht hs (by rw [hk.2];exact hst) hn
 ·exact Qaz h1 h4 hn (H.row h3 (by omega) (by omega) (fun e=>by have:=ho e;have:lvl (F i).o≠lv:=fun e'=>hk ⟨e,e'⟩;omega) ht hs hst hn)
theorem RdP.par {F:Nat→FN} {i:Nat} (H:RdP F i) (h3:(F i).k≠3) {l:List UInt8} {out:List FN} (ht:Ze (fG F) i=(out.length:Int)) (hn:([40]++TX F i++ [41]++l).length≤1000):
  PB RF 3 0 0 [] ([40]++TX F i++ [41]++l) out=some ((i:Int),sb l,Yv F out i):=by
 have e: [40]++TX F i++ [41]++l=40::(TX F i++41::l):=by simp
 rw [e]at hn ⊢;have hn2:(TX F i++41::l).length≤1000:=by rw [List.length_cons]at hn;omega
 have hb:=Xg (F i).o;obtain⟨q1,q2⟩:=Yy (c:=41) (l:=l) (by simp);have hr:=H.row h3 (lv:=1) (by omega) (by omega) (fun _=>by omega) (l:=41::l) (out:=out) ht (JN (by simp) l) (Or.inl (by rw [q1];decide)) hn2;rw [Oj hn (VW (by decide)),hr];show(if pk (sb (41::l))= [41]then some ((i:Int),sb (nx (sb (41::l))),Yv F out i)else none)=_;rw [VW (by decide),q1,q2,if_pos rfl]
theorem RdP.bd {F:Nat→FN} {i:Nat} (H:RdP F i) (h3:(F i).k≠3) {lv:Int} (h1:1≤lv) (h5:lv≤5) {l:List UInt8} {out:List FN} (ht:Ze (fG F) i=(out.length:Int)) (hs:Sep l) (hst:YR lv l) (hn:(bdX F i lv++l).length≤1000):
  PB RF 1 lv 0 [] (bdX F i lv++l) out=some ((i:Int),sb l,Yv F out i):=by
 have hl:l.length≤1000:=by rw [List.length_append]at hn;omega
 unfold bdX at hn ⊢;split
 ·rename_i hc
  rw [if_pos hc]at hn;have h9:=H.par h3 (l:=l) (out:=out) ht hn;rw [←Qan hn]at h9;exact Du (by omega) hn hl h9 (5-lv).toNat lv (by omega) h1 hst
 ·rename_i hc
  rw [if_neg hc]at hn;exact H.row h3 h1 h5 (fun e=>by have: ¬lvl (F i).o<lv:=fun e'=>hc ⟨e,e'⟩;omega) ht hs hst hn
theorem RdP.bdgo {F:Nat→FN} {i:Nat} (H:RdP F i) (h3:(F i).k≠3) {lv:Int} (h1:1≤lv) (h4:lv≤4) {l:List UInt8} {out:List FN} (ht:Ze (fG F) i=(out.length:Int)) (hs:Sep l) (hst:YR (lv+1) l) (hn:(bdX F i lv++l).length≤1000):
  PB RF 1 lv 0 [] (bdX F i lv++l) out=PB RF 2 lv i [] l (Yv F out i):=by
 have hl:l.length≤1000:=by rw [List.length_append]at hn;omega
 unfold bdX at hn ⊢;split
 ·rename_i hc
  rw [if_pos hc]at hn;have h9:=H.par h3 (l:=l) (out:=out) ht hn;rw [←Qan hn]at h9;exact Qaz h1 h4 hn (Du (by omega) hn hl h9 (5-(lv+1)).toNat (lv+1) (by omega) (by omega) hst)
 ·rename_i hc
  rw [if_neg hc]at hn;exact H.go h3 h1 h4 (fun e=>by have: ¬lvl (F i).o<lv:=fun e'=>hc ⟨e,e'⟩;omega) ht hs hst hn
theorem Ei {F:Nat→FN} {n:Nat} (R:Rt F n) {i:Nat} (hi:i<n) (H:RdP F i) {l:List UInt8} {out:List FN} (ht:Ze (fG F) i=(out.length:Int)) (hs:Sep l) (hst:YR 1 l) (hn:(TX F i++l).length≤1000):
  PB RF 6 0 0 [] (TX F i++l) out=some ((i:Int),sb l,Yv F out i):=by
 by_cases h3:(F i).k=3
 ·have hx:=R.node i hi;have hk:=QV hx
  obtain⟨hc,hc',hg⟩:Qj (F i).ac (F i).ar=true∧Qj (F i).bc (F i).br=true∧(F i).kids= []:=by
   rcases hk with⟨hk,_⟩ | ⟨hk,_⟩ | ⟨hk,hc,hc',hg⟩ | ⟨hk,_⟩ | ⟨hk,_⟩ | ⟨hk,_⟩
   ·omega
   ·omega
   ·exact⟨hc,hc',hg⟩
   ·omega
   ·omega
   ·omega
  have hlen:(i:Int)=out.length:=by
   have h9:=Jj (fG F) i (by omega);have e:fG F (i:Int).toNat= []:=hg;rw [e]at h9;simp only [List.reverse_nil,QD]at h9;omega
  rw [Zm (by omega) (by omega) (by omega),Yu,if_neg (by omega),if_neg (by omega)]at hn ⊢;rw [Qh0 hc hc' hn hs,←Qgg hx h3,JL (by omega),hlen]
 ·have hb:=Xg (F i).o;rw [PB6 hn,if_neg (fun e=>Qeu R i hi h3 l hs e.2)];exact H.row h3 (by omega) (by omega) (fun _=>by omega) ht hs hst hn
theorem Qer {F:Nat→FN} {n:Nat} (R:Rt F n) {i:Nat} (hi:i<n) (H: ∀j,j<i→RdP F j) {fn:Int} {l:List UInt8}: ∀(ks k0:List Int) (out:List FN),F i=RF.cal fn (k0++ks)→Gy (Ze (fG F)) (out.length:Int) ks i→(∀k∈ks,0≤k∧k<i)→(((ks.map fun c=>TX F c.toNat).map ([44]++ ·)).flatten++41::l).length≤1000→
  PB RF 5 fn 0 k0 (((ks.map fun c=>TX F c.toNat).map ([44]++ ·)).flatten++41::l) out=some ((i:Int),sb l,Yv F out i):=by
 intro ks;induction ks with
 | nil=>
  intro k0 out hF hc hk hn;obtain⟨q1,q2⟩:=Yy (c:=41) (l:=l) (by simp);rw [Gy]at hc;simp only [List.map_nil,List.flatten_nil,List.nil_append]at hn ⊢;rw [PB5 hn,q1,q2,if_neg (by decide),if_pos rfl,hc,JL (by omega),hF,List.append_nil]
 | cons k ks ih=>
  intro k0 out hF hc hk hn;obtain⟨c1,c2,c3⟩:=hc;have hk0:=hk k (by simp);have e:(((k::ks).map fun c=>TX F c.toNat).map ([44]++ ·)).flatten++41::l=44::(TX F k.toNat++(((ks.map fun c=>TX F c.toNat).map ([44]++ ·)).flatten++41::l)):=by simp
  rw [e]at hn ⊢;have hn2:(TX F k.toNat++(((ks.map fun c=>TX F c.toNat).map ([44]++ ·)).flatten++41::l)).length≤1000:=by rw [List.length_cons]at hn;omega
  have hn3:(((ks.map fun c=>TX F c.toNat).map ([44]++ ·)).flatten++41::l).length≤1000:=by rw [List.length_append]at hn2;omega
  obtain⟨q1,q2⟩:=Yy (c:=44) (l:=TX F k.toNat++(((ks.map fun c=>TX F c.toNat).map ([44]++ ·)).flatten++41::l)) (by simp)
  have hsep:Sep (((ks.map fun c=>TX F c.toNat).map ([44]++ ·)).flatten++41::l)∧YR 1 (((ks.map fun c=>TX F c.toNat).map ([44]++ ·)).flatten++41::l):=by
   cases ks with
   | nil=>exact⟨JN (by simp) l,Or.inl (by rw [show((([]:List Int).map fun c=>TX F c.toNat).map ([44]++ ·)).flatten++41::l=41::l from rfl,(Yy (c:=41) (by simp)).1];decide)⟩
   | cons k' ks'=>
    have e':(((k'::ks').map fun c=>TX F c.toNat).map ([44]++ ·)).flatten++41::l=44::(TX F k'.toNat++(((ks'.map fun c=>TX F c.toNat).map ([44]++ ·)).flatten++41::l)):=by simp
    rw [e'];exact⟨JN (by simp) _,Or.inl (by rw [(Yy (c:=44) (by simp)).1];decide)⟩
  have ek:((k.toNat:Nat):Int)=k:=by omega
  have hlen:out.length≤k.toNat+1:=by omega
  have ha:=Ei R (i:=k.toNat) (by omega) (H k.toNat (by omega)) (out:=out) (by rw [ek];exact c1) hsep.1 hsep.2 hn2;rw [PB5 hn,q1,q2,if_pos rfl,ha];show PB RF 5 fn 0 (k0++ [((k.toNat:Nat):Int)]) (sb _) (Yv F out k.toNat)=_;rw [XH (QT _),ek,ih (k0++ [k]) (Yv F out k.toNat) (by rw [hF];simp) (by rw [Xi hlen];rw [show((k.toNat+1:Nat):Int)=k+1 by omega];exact c3) (fun c hc=>hk c (by simp [hc])) hn3,Vc hlen (by omega)]
theorem Qn1 {F:Nat→FN} {n:Nat} (R:Rt F n): ∀i,i<n→RdP F i:=by
 intro i;induction i using Nat.strongRecOn with
 | ind i ih=>
  intro hi;have hx:=R.node i hi;have hch: ∀{a:Nat},Ze (fG F) i=(a:Int)→Gy (Ze (fG F)) (a:Int) (F i).kids i:=fun{a} h=>En (by omega) h (by omega)
  have leaf: ∀{a:Nat},(F i).kids= []→Ze (fG F) i=(a:Int)→a=i:=fun{a} hg h=>by
   have:=hch h;rw [hg]at this;have h2:(a:Int)=i:=this;omega
  rcases QV hx with⟨hk,hc,hg⟩ | ⟨hk,hc,hg⟩ | ⟨hk,hc,hc',hg⟩ | ⟨hk,c,hg⟩ | ⟨hk,o1,o2,a,b,hg⟩ | ⟨hk,o1,o2,k1,k2⟩
  ·refine⟨fun _ _ l out ht hs hn=> ?_,fun e=>by omega⟩;have hlen:=leaf hg ht;rw [Zm (by omega) (by omega) (by omega),Yu,if_pos hk]at hn ⊢;rw [Qhp hc hn hs,←Qgc hx hk,JL hlen,hlen]
  ·refine⟨fun _ _ l out ht hs hn=> ?_,fun e=>by omega⟩;have hlen:=leaf hg ht;rw [Zm (by omega) (by omega) (by omega),Yu,if_neg (by omega),if_pos hk]at hn ⊢;rw [Qht hc hn hs,←Qgd hx hk,JL hlen,hlen]
  ·exact⟨fun _ e=>absurd hk e,fun e=>by omega⟩
  ·refine⟨fun _ _ l out ht hs hn=> ?_,fun e=>by omega⟩;have hcn:=hch ht;rw [hg]at hcn;obtain⟨c1,c2,c3⟩:=hcn;have c3':c+1=(i:Int):=c3;have ec:((c.toNat:Nat):Int)=c:=by omega
   have h3c:=R.ars i hi (by omega) c (by rw [hg];simp);rw [GG R.rng hi hk hg]at hn ⊢;have e: [45]++bdX F c.toNat 5++l=45::(bdX F c.toNat 5++l):=by simp
   rw [e]at hn ⊢;have hn2:(bdX F c.toNat 5++l).length≤1000:=by rw [List.length_cons]at hn;omega
   have hb:=(ih c.toNat (by omega) (by omega)).bd h3c (lv:=5) (by omega) (by omega) (out:=out) (by rw [ec];exact c1) hs (Qp0 l) hn2;rw [Qan hn2]at hb;have hlen:out.length≤c.toNat+1:=by omega
   rw [Qb4 hn (VW (by decide)),hb];show some (((Yv F out c.toNat).length:Int),sb (sb l),Yv F out c.toNat++ [RF.neg ((c.toNat:Nat):Int)])=_;rw [Xi hlen,QT,ec,←Qgb hx hk hg,show((c.toNat+1:Nat):Int)=(i:Int) by omega];have h9:=MS (F:=F) hlen;rw [show c.toNat+1=i by omega]at h9;rw [h9]
  ·refine⟨fun e=>absurd hk e,fun _ l out ht hs hst hn=> ?_⟩;have hcn:=hch ht;rw [hg]at hcn;obtain⟨c1,c2,d1,d2,d3⟩:=hcn;have d3':b+1=(i:Int):=d3;have ea:((a.toNat:Nat):Int)=a:=by omega
   have eb:((b.toNat:Nat):Int)=b:=by omega
   have h3a:=R.ars i hi (by omega) a (by rw [hg];simp);have h3b:=R.ars i hi (by omega) b (by rw [hg];simp);have hlv:=Xg (F i).o;rw [GH R.rng hi hk hg]at hn ⊢;have e:bdX F a.toNat (lvl (F i).o)++sgT (F i).o++bdX F b.toNat (lvl (F i).o+1)++l=bdX F a.toNat (lvl (F i).o)++(sgT (F i).o++(bdX F b.toNat (lvl (F i).o+1)++l)):=by simp
   rw [e]at hn ⊢;have hn2:(sgT (F i).o++(bdX F b.toNat (lvl (F i).o+1)++l)).length≤1000:=by rw [List.length_append]at hn;omega
   have hn3:(bdX F b.toNat (lvl (F i).o+1)++l).length≤1000:=by rw [List.length_append]at hn2;omega
   obtain⟨d,t,ed,hbeg⟩:=Mr (z:=lvl (F i).o+1) (OM R b.toNat (by omega));obtain⟨q1,q2⟩:=Qp9 (F i).o o1 o2 (r:=t++l) hbeg;have ed2:bdX F b.toNat (lvl (F i).o+1)++l=d::(t++l):=by rw [ed];rfl
   rw [←ed2]at q1 q2;have hop:QG (pk (sgT (F i).o++(bdX F b.toNat (lvl (F i).o+1)++l)))=(F i).o:=by rw [q1];exact Qb1 _ o1 o2
   have hlen:out.length≤a.toNat+1:=by omega
   have hlen2:(Yv F out a.toNat).length=a.toNat+1:=Xi hlen;rw [(ih a.toNat (by omega) (by omega)).bdgo h3a hlv.1 hlv.2 (out:=out) (by rw [ea];exact c1) (Qh6 _ o1 o2 _) (Or.inr (by rw [hop];omega)) hn];rw [PB2 hlv.1 hlv.2 hn2,hop,if_neg (by omega),q2];rw [(ih b.toNat (by omega) (by omega)).bd h3b (lv:=lvl (F i).o+1) (by omega) (by omega) (out:=Yv F out a.toNat) (by rw [eb,hlen2,d1];omega) hs hst hn3];have hlen3:(Yv F out a.toNat).length≤b.toNat+1:=by omega
   show PB RF 2 (lvl (F i).o) (((Yv F (Yv F out a.toNat) b.toNat).length:Nat):Int) [] (sb l) (Yv F (Yv F out a.toNat) b.toNat++ [RF.bin (F i).o ((a.toNat:Nat):Int) ((b.toNat:Nat):Int)])=_;rw [Xi hlen3,XH (QT l),ea,eb,←Qgf hx hk hg,Vc hlen (by omega),show((b.toNat+1:Nat):Int)=(i:Int) by omega];have h9:=MS (F:=F) (out:=out) (i:=b.toNat) (by omega);rw [show b.toNat+1=i by omega]at h9;rw [h9]
  ·refine⟨fun _ _ l out ht hs hn=> ?_,fun e=>by omega⟩;have hcn:=hch ht;have hrg: ∀k∈(F i).kids,0≤k∧k<(i:Int):=R.rng i hi;have hnode:=Qge hx hk;obtain⟨f1,f2,f3⟩:=UF _ o1 o2;rw [VI R.rng hi hk]at hn ⊢;cases hq:(F i).kids with
   | nil=>rw [hq]at k1;simp at k1
   | cons k ks=>
    rw [hq]at hcn hrg hn hnode;obtain⟨c1,c2,c3⟩:=hcn;have e:fnT (F i).o++ [40]++jn ((k::ks).map fun c=>TX F c.toNat)++ [41]++l=fnT (F i).o++40::(TX F k.toNat++(((ks.map fun c=>TX F c.toNat).map ([44]++ ·)).flatten++41::l)):=by simp [jn]
    rw [e]at hn ⊢;have hn1:(40::(TX F k.toNat++(((ks.map fun c=>TX F c.toNat).map ([44]++ ·)).flatten++41::l))).length≤1000:=by rw [List.length_append]at hn;omega
    have hn2:(TX F k.toNat++(((ks.map fun c=>TX F c.toNat).map ([44]++ ·)).flatten++41::l)).length≤1000:=by rw [List.length_cons]at hn1;omega
    have hn3:(((ks.map fun c=>TX F c.toNat).map ([44]++ ·)).flatten++41::l).length≤1000:=by rw [List.length_append]at hn2;omega
    obtain⟨p1,p2⟩:=KG (l:=40::(TX F k.toNat++(((ks.map fun c=>TX F c.toNat).map ([44]++ ·)).flatten++41::l))) f2 (fun b hb=>List.all_eq_true.1 f1 b hb) (fun b hb=>by rw [←Option.some.inj hb];decide);obtain⟨q1,q2⟩:=Yy (c:=40) (l:=TX F k.toNat++(((ks.map fun c=>TX F c.toNat).map ([44]++ ·)).flatten++41::l)) (by simp);have hk0:=hrg k (by simp);have ek:((k.toNat:Nat):Int)=k:=by omega
    have hsep:Sep (((ks.map fun c=>TX F c.toNat).map ([44]++ ·)).flatten++41::l)∧YR 1 (((ks.map fun c=>TX F c.toNat).map ([44]++ ·)).flatten++41::l):=by
     cases ks with
     | nil=>exact⟨JN (by simp) l,Or.inl (by rw [show((([]:List Int).map fun c=>TX F c.toNat).map ([44]++ ·)).flatten++41::l=41::l from rfl,(Yy (c:=41) (by simp)).1];decide)⟩
     | cons k' ks'=>
      have e':(((k'::ks').map fun c=>TX F c.toNat).map ([44]++ ·)).flatten++41::l=44::(TX F k'.toNat++(((ks'.map fun c=>TX F c.toNat).map ([44]++ ·)).flatten++41::l)):=by simp
      rw [e'];exact⟨JN (by simp) _,Or.inl (by rw [(Yy (c:=44) (by simp)).1];decide)⟩
    have hlen:out.length≤k.toNat+1:=by omega
    have ha:=Ei R (i:=k.toNat) (by omega) (ih k.toNat (by omega) (by omega)) (out:=out) (by rw [ek];exact c1) hsep.1 hsep.2 hn2;have hw: ∀d t,fnT (F i).o=d::t→isW d=true:=fun d t e=>List.all_eq_true.1 f1 d (by rw [e];simp)
    have hp:pk (fnT (F i).o++40::(TX F k.toNat++(((ks.map fun c=>TX F c.toNat).map ([44]++ ·)).flatten++41::l)))≠ [40]∧pk (fnT (F i).o++40::(TX F k.toNat++(((ks.map fun c=>TX F c.toNat).map ([44]++ ·)).flatten++41::l)))≠ [45]∧(pk (fnT (F i).o++40::(TX F k.toNat++(((ks.map fun c=>TX F c.toNat).map ([44]++ ·)).flatten++41::l)))).head?≠some 34:=by
     rw [p1];cases hf:fnT (F i).o with
     | nil=>exact absurd hf f2
     | cons d t=>
      obtain⟨n1,n2,n3,n4⟩:=Dq (hw d t hf);exact⟨fun e=>n2 (List.cons.inj e).1,fun e=>n3 (List.cons.inj e).1,fun e=>n1 (Option.some.inj e)⟩
    rw [PB3 hn,if_neg hp.2.1,DH (by rw [p1];exact f2) hp.1 hp.2.2 (by rw [p1,f3];omega) hn,p1,p2,q1,q2,if_pos rfl,ha,f3];show PB RF 5 (F i).o 0 [((k.toNat:Nat):Int)] (sb _) (Yv F out k.toNat)=_;rw [XH (QT _),ek,Qer R hi (fun j hj=>ih j hj (by omega)) ks [k] (Yv F out k.toNat) hnode (by rw [Xi hlen];rw [show((k.toNat+1:Nat):Int)=k+1 by omega];exact c3) (fun c hc=>hrg c (by simp [hc])) hn3,Vc hlen (by omega)]
theorem Qc8 {F:Nat→FN} {n:Nat} (h:Zd F n=true) (hn:(TX F (n-1)).length≤1000):PB RF 1 1 0 [] (TX F (n-1)) []=some (((n-1:Nat):Int),[],seg F 0 n):=by
 obtain⟨R,h3,ht⟩:=Qm1 h;obtain⟨h1,_⟩:=JC h;have hb:=Xg (F (n-1)).o;have h9:=(Qn1 R (n-1) (by omega)).row h3 (lv:=1) (by omega) (by omega) (fun _=>by omega) (l:= []) (out:= []) ht Qbc (Or.inl (by decide)) (by rw [List.append_nil];exact hn);rw [List.append_nil]at h9;rw [h9]
 have e:Yv F [] (n-1)=seg F 0 n:=by
  unfold Yv;simp only [List.nil_append,List.length_nil];rw [show n-1+1-0=n by omega]
 rw [e];rfl
def PL (l:List UInt8):Prop:= ∀b∈l,32≤b.toNat∧b.toNat≤126
theorem GJ (l:List UInt8):Zu l=true↔PL l:=by
 unfold Zu PL;rw [List.all_eq_true];simp only [decide_eq_true_eq]
theorem YH {l r:List UInt8} (h:PL l) (h':PL r):PL (l++r):=fun b hb=>by
 rcases List.mem_append.1 hb with hb | hb
 ·exact h b hb
 ·exact h' b hb
theorem Qjc {l:List UInt8} (h: ∀b∈l,isW b=true):PL l:=fun b hb=>by
 have h1:=h b hb;unfold isW at h1;simp only [Bool.or_eq_true,decide_eq_true_eq,beq_iff_eq]at h1;rcases h1 with(h1 | h1) | h1
 ·omega
 ·omega
 ·subst h1;decide
theorem Qq9 {l:List UInt8} (h:PL l):PL (qt l):=by
 induction l with
 | nil=>exact fun b hb=>by cases hb
 | cons a t ih=>
  have h1:=h a (by simp);have h2:=ih (fun b hb=>h b (by simp [hb]));rw [Yx];split
  ·intro b hb;simp only [List.cons_append,List.nil_append,List.mem_cons]at hb;rcases hb with hb | hb | hb
   ·subst hb;decide
   ·subst hb;decide
   ·exact h2 b hb
  ·intro b hb;simp only [List.cons_append,List.nil_append,List.mem_cons]at hb;rcases hb with hb | hb
   ·subst hb;exact h1
   ·exact h2 b hb
theorem YT (l:List UInt8) (h:(l.all fun b=>decide (32≤b.toNat∧b.toNat≤126))=true):PL l:=(GJ l).1 h
theorem Qq8 (o:Int) (h1:1≤o) (h2:o≤11):PL (sgT o):=by
 have hn:o=1∨o=2∨o=3∨o=4∨o=5∨o=6∨o=7∨o=8∨o=9∨o=10∨o=11:=by omega
 rcases hn with rfl | rfl | rfl | rfl | rfl | rfl | rfl | rfl | rfl | rfl | rfl
 all_goals exact YT _ (by decide)
theorem Qlr {n:Int} (h:0≤n):(itB n).data.toList=Lib.decDigits n.toNat:=by
 have:=Lib.itoa_nonneg n.toNat;rw [show((n.toNat:Nat):Int)=n by omega]at this;rw [←this];rfl
theorem Qnf {n:Int}:PL (itB n).data.toList:=by
 rcases Int.le_total 0 n with h | h
 ·rw [Qlr h];exact Qjc fun b hb=>(Dt (UG _ b hb)).1
 ·by_cases h0:n=0
  ·subst h0;exact YT _ (by decide+kernel)
  ·have e:(itB n).data.toList=45::Lib.decDigits (-n).toNat:=by
    have:=Lib.itoa_neg (-n).toNat (by omega);rw [show-(((-n).toNat:Nat):Int)=n by omega]at this;rw [←this];rfl
   rw [e];intro b hb;rcases List.mem_cons.1 hb with hb | hb
   ·subst hb;decide
   ·exact Qjc (fun b hb=>(Dt (UG _ b hb)).1) b hb
theorem Qpo {k n:Int} {s:ByteArray} (hc:cOk k n s=true):PL (Jh k n s):=by
 obtain⟨h,h0,hn⟩:=Xc hc;unfold Jh;rcases ZJ h with⟨rfl,rfl,rfl⟩ | ⟨rfl,hr,rfl⟩ | ⟨rfl,rfl,hr⟩ | ⟨rfl,hr,rfl⟩ | ⟨rfl,h1,h5,rfl⟩
 ·exact absurd rfl h0
 ·have e2:txV 1 n ⟨#[]⟩=itB n:=by rw [txV,h,if_pos rfl,txB,if_pos rfl]
  rw [if_neg (by omega),e2];exact Qnf
 ·rw [if_pos rfl];refine YH (YH (YT _ (by decide)) (Qq9 ?_)) (YT _ (by decide));unfold Qz at hr;exact(GJ _).1 (Bool.and_eq_true_iff.1 hr).2
 ·have e2:txV 3 n ⟨#[]⟩=trT n:=by rw [txV,h,if_pos rfl,txB,if_neg (by omega),if_neg (by omega),if_pos rfl]
  rw [if_neg (by omega),e2];have hn:n=0∨n=1:=by revert hr;simp [ZQ]
  rcases hn with rfl | rfl
  all_goals exact YT _ (by decide)
 ·have e2:txV 4 n ⟨#[]⟩=erT n:=by rw [txV,h,if_pos rfl,txB,if_neg (by omega),if_neg (by omega),if_neg (by omega),if_pos rfl]
  rw [if_neg (by omega),e2];have hk:n=1∨n=2∨n=3∨n=4∨n=5:=by omega
  rcases hk with rfl | rfl | rfl | rfl | rfl
  all_goals exact YT _ (by decide)
theorem Qjk {F:Nat→FN} {j:Nat} {z:Int} (h:PL (TX F j)):PL (bdX F j z):=by
 unfold bdX;split
 ·exact YH (YH (YT _ (by decide)) h) (YT _ (by decide))
 ·exact h
theorem Qra {F:Nat→FN} {n:Nat} (R:Rt F n): ∀i,i<n→PL (TX F i):=by
 intro i;induction i using Nat.strongRecOn with
 | ind i ih=>
  intro hi
  have kid: ∀c∈(F i).kids,PL (TX F c.toNat):=fun c hc=>by
   have hr:=R.rng i hi c hc;exact ih c.toNat (by omega) (by omega)
  rcases QV (R.node i hi)with⟨hk,hc,hg⟩ | ⟨hk,hc,hg⟩ | ⟨hk,hc,hc',hg⟩ | ⟨hk,c,hg⟩ | ⟨hk,o1,o2,a,b,hg⟩ | ⟨hk,o1,o2,k1,k2⟩
  ·rw [Zm (by omega) (by omega) (by omega),Yu,if_pos hk];exact Qpo hc
  ·rw [Zm (by omega) (by omega) (by omega),Yu,if_neg (by omega),if_pos hk];exact Qjc (Gr hc).1
  ·rw [Zm (by omega) (by omega) (by omega),Yu,if_neg (by omega),if_neg (by omega)];exact YH (YH (Qjc (Gr hc).1) (YT _ (by decide))) (Qjc (Gr hc').1)
  ·rw [GG R.rng hi hk hg];exact YH (YT _ (by decide)) (Qjk (kid c (by rw [hg];simp)))
  ·rw [GH R.rng hi hk hg];exact YH (YH (Qjk (kid a (by rw [hg];simp))) (Qq8 _ o1 o2)) (Qjk (kid b (by rw [hg];simp)))
  ·rw [VI R.rng hi hk];obtain⟨f1,f2,_⟩:=UF _ o1 o2;refine YH (YH (YH (Qjc fun b hb=>List.all_eq_true.1 f1 b hb) (YT _ (by decide))) ?_) (YT _ (by decide));cases hq:(F i).kids with
   | nil=>exact fun b hb=>by cases hb
   | cons k ks=>
    rw [hq]at kid;rw [List.map_cons,jn];refine YH (kid k (by simp)) ?_;intro b hb;rw [List.mem_flatten]at hb;obtain⟨w,hw,hb⟩:=hb;rw [List.mem_map]at hw
    obtain⟨t,ht,rfl⟩:=hw;rw [List.mem_map]at ht;obtain⟨c,hc,rfl⟩:=ht;exact YH (YT [44] (by decide)) (kid c (by simp [hc])) b hb
theorem Qbd (F:Nat→FN) (a:Nat): ∀(m j:Nat),j<m→(seg F a m)[j]? =some (F (a+j))
 | 0,j,h=>by omega
 | m+1,j,h=>by
  rw [seg];by_cases hj:j<m
  ·rw [List.getElem?_append_left (by rw [Vu];exact hj)];exact Qbd F a m j hj
  ·obtain rfl:j=m:=by omega
   rw [List.getElem?_append_right (by rw [Vu];omega),Vu,Nat.sub_self];rfl
theorem Qj7 (out:List FN):seg (ouF out) 0 out.length=out:=by
 apply List.ext_getElem?;intro j;by_cases hj:j<out.length
 ·rw [Qbd _ _ _ _ hj,Nat.zero_add,List.getElem?_eq_getElem hj];unfold ouF;rw [List.getD_eq_getElem?_getD,List.getElem?_eq_getElem hj];rfl
 ·rw [List.getElem?_eq_none (by rw [Vu];omega),List.getElem?_eq_none (by omega)]
theorem Qly {out:List FN} (h:Zd (ouF out) out.length=true):Zl out=true:=by
 obtain⟨h1,h60,hn,_⟩:=JC h;unfold Zl;rw [Bool.and_eq_true];refine⟨decide_eq_true h60,List.all_eq_true.2 fun x hx=> ?_⟩;obtain⟨i,hi,rfl⟩:=List.getElem_of_mem hx;have h9:=hn i hi;unfold ouF at h9
 rw [List.getD_eq_getElem?_getD,List.getElem?_eq_getElem hi]at h9;exact h9
theorem Qn2 {out:List FN} (h:Zd (ouF out) out.length=true) (hz:(TX (ouF out) (out.length-1)).length≤200):Qz (bs (TX (ouF out) (out.length-1)))=true∧rdF (bs (TX (ouF out) (out.length-1)))=some out:=by
 obtain⟨h1,_⟩:=JC h
 have hw:Qz (bs (TX (ouF out) (out.length-1)))=true:=by
  unfold Qz;rw [Bool.and_eq_true];exact⟨decide_eq_true (by rw [Qv];exact hz),(GJ _).2 (by rw [OE];exact Qra (Qm1 h).1 _ (by omega))⟩
 refine⟨hw,?_⟩;unfold rdF;rw [hw,if_pos rfl,OE,Qc8 h (by omega),Qj7];exact UY rfl (Qly h) h
theorem Qha {out:List FN} (h:(ftx (ouF out) out.length).size≠0):Zd (ouF out) out.length=true∧Qz (ftx (ouF out) out.length)=true∧rdF (ftx (ouF out) out.length)=some out:=by
 unfold ftx at*;by_cases hc:Zd (ouF out) out.length=true∧(TX (ouF out) (out.length-1)).length≤200
 ·rw [if_pos hc];exact⟨hc.1,Qn2 hc.1 hc.2⟩
 ·rw [if_neg hc]at h;exact absurd rfl h
theorem Ql7 {t:ByteArray}:eqH ((⟨#[61]⟩:ByteArray)++t)=true∧((⟨#[61]⟩:ByteArray)++t).extract 1 ((⟨#[61]⟩:ByteArray)++t).size=t:=by
 have e:((⟨#[61]⟩:ByteArray)++t).data.toList=61::t.data.toList:=by simp
 have e2:(⟨#[61]⟩:ByteArray)++t=bs (61::t.data.toList):=by rw [←e];rfl
 refine⟨?_,?_⟩
 ·rw [e2];rfl
 ·rw [e2];apply ByteArray.ext;apply Array.ext';rw [XT];rfl
theorem Qbf {b:UInt8} {t:ByteArray} (hb:32≤b.toNat∧b.toNat≤126) (h:Qz t=true) (hz:((⟨#[b]⟩:ByteArray)++t).size≤200):Qz ((⟨#[b]⟩:ByteArray)++t)=true:=by
 unfold Qz at*;rw [Bool.and_eq_true]at*;refine⟨decide_eq_true hz,?_⟩;have e:((⟨#[b]⟩:ByteArray)++t).data.toList=b::t.data.toList:=by simp
 rw [e,GJ];intro c hc;rcases List.mem_cons.1 hc with hc | hc
 ·subst hc;exact hb
 ·exact(GJ _).1 h.2 c hc
theorem Qaw (n:Int):eqH (itB n)=false∧(itB n).data.toList.head?≠some 43:=by
 obtain⟨h0,h1⟩:=KJ n
 have e:(itB n).data.toList.head? =some (itB n)[0]:=by
  rw [List.head?_eq_getElem?,List.getElem?_eq_getElem (by simpa using h0)];rfl
 refine⟨?_,?_⟩
 ·unfold eqH;rw [dif_pos h0];rw [beq_eq_false_iff_ne];intro e';rw [e']at h1;revert h1
  decide
 ·rw [e];intro e';have e2:=Option.some.inj e';rw [e2]at h1;revert h1
  decide
theorem Qqb {n:Int} (h:Zy n=true):n5 (itB n).data.toList=some n:=by
 obtain⟨_,hp⟩:=Vi (Qbl h);have h43:=(Qaw n).2;rw [←Qav];unfold nT;rw [hp,decide_eq_false h43,Ok h]
theorem tx1 {n:Int} (h:Zy n=true):txV 1 n ⟨#[]⟩=itB n∧okV 1 n ⟨#[]⟩=true:=by
 have ho:okV 1 n ⟨#[]⟩=true:=by simp [okV,YO,h]
 exact⟨by rw [txV,ho,if_pos rfl,txB,if_pos rfl],ho⟩
def Qq5 (t:ByteArray):Prop:=inF t=some t∧((eqH t=true∧ ∃out,rdF (t.extract 1 t.size)=some out∧(⟨#[61]⟩:ByteArray)++ftx (ouF out) out.length=t)∨(eqH t=false∧gOk (Qp t)=true))
theorem Qps {s t:ByteArray} (h:inF s=some t):Qq5 t∧(t.size=0↔s.size=0):=by
 unfold inF at h;by_cases hw:Qz s=true
 ·rw [if_pos hw]at h
  obtain⟨hs,hz⟩:srT s=some t∧t.size≤200:=by
   unfold lim at h;split at h
   ·rename_i t' ht
    split at h
    ·rename_i hz
     cases h
     exact⟨ht,hz⟩
    ·cases h
   ·cases h
  have fin: ∀{t:ByteArray},Qz t=true→srT t=some t→t.size≤200→inF t=some t:=fun{t} h1 h2 h3=>by
   unfold inF;rw [if_pos h1,h2];unfold lim;exact if_pos h3
  unfold srT at hs;by_cases he:eqH s=true
  ·rw [if_pos he]at hs;unfold fsT at hs;split at hs
   ·rename_i out ho
    split at hs
    ·cases hs
    ·rename_i hn
     cases hs
     obtain⟨f1,f2,f3⟩:=Qha hn;obtain⟨g1,g2⟩:=Ql7 (t:=ftx (ouF out) out.length);refine⟨⟨fin (Qbf (by decide) f2 hz) ?_ hz,Or.inl ⟨g1,out,by rw [g2];exact f3,rfl⟩⟩,?_⟩
     ·unfold srT;rw [if_pos g1,g2,f3];unfold fsT;simp only;rw [if_neg hn]
     ·have h1:((⟨#[61]⟩:ByteArray)++ftx (ouF out) out.length).size≠0:=by
       rw [ByteArray.size_append];show 1+_≠0;omega
      have h2:s.size≠0:=fun e=>by
       unfold eqH at he;rw [dif_neg (by omega)]at he;cases he
      exact⟨fun e=>absurd e h1,fun e=>absurd e h2⟩
   ·cases hs
  ·rw [if_neg he]at hs;have he':eqH s=false:=by simpa using he
   cases hq:n5 s.data.toList with
   | some n=>
    simp only [hq]at hs;have hr:Zy n=true:=(Xj n).2 (Qrc hq);obtain⟨e1,ho⟩:=tx1 hr;rw [e1]at hs;cases hs
    have hg:Qp (itB n)=(1,n,⟨#[]⟩):=Nq hr;refine⟨⟨fin ?_ ?_ hz,Or.inr ⟨(Qaw n).1,by rw [hg];simp [gOk,hr]⟩⟩,?_⟩
    ·unfold Qz;rw [Bool.and_eq_true];exact⟨decide_eq_true hz,(GJ _).2 Qnf⟩
    ·unfold srT;rw [if_neg (by rw [(Qaw n).1];simp),Qqb hr];simp only;rw [e1]
    ·obtain⟨h0,_⟩:=KJ n
     have h2:s.size≠0:=fun e=>by
      have:s=⟨#[]⟩:=QM e;rw [this]at hq;cases hq
     exact⟨fun e=>by omega,fun e=>absurd e h2⟩
   | none=>
    simp only [hq]at hs;by_cases hg:gOk (Qp s)=true
    ·rw [if_pos hg]at hs;cases hs
     refine⟨⟨?_,Or.inr ⟨he',hg⟩⟩,Iff.rfl⟩;exact fin hw (by unfold srT;rw [if_neg he,hq];simp only;rw [if_pos hg]) hz
    ·rw [if_neg hg]at hs;cases hs
     have hgt:Qp ((⟨#[39]⟩:ByteArray)++s)=(2,0,s):=UB s;have hgo:gOk (Qp ((⟨#[39]⟩:ByteArray)++s))=true:=by rw [hgt];simp [gOk,hw]
     have e39:((⟨#[39]⟩:ByteArray)++s).data.toList=39::s.data.toList:=Ji s
     have heq:eqH ((⟨#[39]⟩:ByteArray)++s)=false:=by
      have e2:(⟨#[39]⟩:ByteArray)++s=bs (39::s.data.toList):=by rw [←e39];rfl
      rw [e2];rfl
     have hn5:n5 ((⟨#[39]⟩:ByteArray)++s).data.toList=none:=by
      rw [e39];unfold n5;rw [if_neg (by simp),if_neg (by simp)]
      have hu:u15 (39::s.data.toList)=none:=by
       cases hq:u15 (39::s.data.toList)with
       | none=>rfl
       | some m=>
        have h9:=((UU (l:=39::s.data.toList) (by simp)).1 hq).1;rw [Zo,if_neg (by decide)]at h9;cases h9
      rw [hu];rfl
     refine⟨⟨fin (Qbf (by decide) hw hz) ?_ hz,Or.inr ⟨heq,hgo⟩⟩,?_⟩
     ·unfold srT;rw [if_neg (by rw [heq];simp),hn5];simp only;rw [if_pos hgo]
     ·have h1:=UM s;refine⟨fun e=>by omega,fun e=> ?_⟩;exfalso
      apply hg;rw [QM e];rfl
 ·rw [if_neg hw]at h;cases h
end Go.Proofs.YthjldgbfgapbcaaGreatDoor
