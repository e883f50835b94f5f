import Derived.Test.YtomadadmakdkgaaGreatDoorGai
import Derived.Deep.RegionHeld3
import Derived.Test.YtomadadmakdkgaaGreatDoorGab
import Derived.Test.YtomadadmakdkgaaGreatDoorGaa
import Derived.Test.YtomadadmakdkgaaGreatDoorGaf
import Derived.Test.YtomadadmakdkgaaGreatDoorGah
open Go.Proofs.Tryz
open Go.Value renaming int → i, bool → u, tuple → A, agg → B, string → F
open Go.IntKind renaming i64 → j
open ByteArray renaming size_extract → C, ext → H
open Go.Ending renaming returned → D
open Go renaming bodyPost_ret → E
open Option.some renaming inj → G
set_option linter.unusedSimpArgs false
set_option linter.unusedVariables false
set_option maxHeartbeats 4000000
namespace Go.Proofs.YtomadadmakdkgaaGreatDoor
open Go.RowKit
variable {l:List UInt8} {v c:Int} {o:Option Int} {x y:Bool} {out:List FN}
theorem Xe{a b:Value}(h:a=b):Ending.returned a= D b:=by rw[h]
def rpC(s:ByteArray):Int:=rdc ((Yu s).extract 0 (UI (Yu s))).data.toList 0
def rp2(s:ByteArray):ByteArray:=(Yu s).extract (UI (Yu s)) (Yu s).size
def rp3(s:ByteArray):ByteArray:=Yu (rp2 s)
def Jc(c:Int)(o:Option Int):Bool:=o.isSome&&Qf c (o.getD 0)
def sl(b:Bool)(x:Int):Int:=if b then x else 0
def plV(c:Int)(o:Option Int)(x y:Bool):Value:= A #[B #[i j (sl (Jc c o) c),i j (sl (Jc c o) (o.getD 0)),u (Jc c o&&x),u (Jc c o&&y)],u (Jc c o)]
theorem Ow(s:ByteArray):(rp2 s).size<=s.size:=by
 unfold rp2;rw[C];have:=Hf s;omega
theorem Qci(s:ByteArray):(rp3 s).size<=s.size:=Nat.le_trans (Hf _) (Ow s)
theorem Nn(s:ByteArray)(w:World)(hs:s.size<=1048576)(hv:Vars w):Calls prog 296 #[F s] w fun e w'=>
  e= D (plV (rpC s) (YW (rp3 s).data.toList) (QP s) (QP (rp2 s)))/\Below w.heap.size w w':=by
 have HV:Hid (Vars w):=hv;clear hv;have z1:=Hf s;have z2:=Qgz (Yu s);have h1:Hid ((rp2 s).size<=1048576):=Nat.le_trans (Ow s) hs;have h0:Hid ((rp3 s).size<=1048576):=Nat.le_trans (Qci s) hs;have e0:(0:Int)<=(UI (Yu s):Int):=by omega
 have e1:(UI (Yu s):Int)<=((Yu s).size:Int):=by omega
 go_enter func296,ntmps296;go_wp2_with fail
 refine(Hw s _ (by omega)).mono ?_;rintro e w1 ⟨rfl,rfl⟩;go_wp2_with fail
 refine(GL (Yu s) _ (by omega)).mono ?_;rintro e w1 ⟨rfl,rfl⟩;go_wp2_with fail
 refine(EH _ _ (by rw[C];unfold maxLen;omega)).mono ?_;rintro e w1 ⟨rfl,rfl⟩;rw[show rdc ((Yu s).extract 0 (UI (Yu s))).data.toList 0=rpC s from rfl];go_wp2_with fail
 refine(Hw (rp2 s) _ (by have:=h1.out;omega)).mono ?_;rintro e w1 ⟨rfl,rfl⟩;rw[show Yu (rp2 s)=rp3 s from rfl];go_wp2_with fail
 refine(JA (rp3 s) _ (by have:=h0.out;omega) (HV.out.below (by go_grown))).mono ?_;rintro e w2 ⟨rfl,hb⟩;obtain⟨hc,hf,hC,hF,hz,hk,l0⟩:=bk1 (w:=w) hb;have n0: ¬w2.heap.size=w.heap.size:=by omega
 clear hb HV e0 e1 z1 z2;cases ho:YW (rp3 s).data.toList with
 | none=>
  have HE:Hid (plV (rpC s) (YW (rp3 s).data.toList) (QP s) (QP (rp2 s))= A #[B #[i j 0,i j 0,u false,u false],u false]):=by show plV _ _ _ _=_;rw[ho];rfl
  clear ho;simp only[Option.getD_none,Option.isSome_none];go_wp2_with fail
  all_goals
   refine E (v:= A #[B #[i j 0,i j 0,u false,u false],u false]) ?_ rfl ⟨Xe HE.out.symm,by go_grown⟩;simp (maxDischargeDepth:=9) [results,results296,go_sem, *]
 | some v=>
  simp only[Option.getD_some,Option.isSome_some];cases hr:Qf (rpC s) v
  ·have HO:Hid (Qf (rpC s) v=false):=hr;have HE:Hid (plV (rpC s) (YW (rp3 s).data.toList) (QP s) (QP (rp2 s))= A #[B #[i j 0,i j 0,u false,u false],u false]):=by show plV _ _ _ _=_;rw[ho];simp[plV,Jc,hr,sl]
   clear hr ho
   go_wp2_with (first
    | (go_at_call 67;refine(Zu _ _ _).mono ?_;rintro e w3 ⟨rfl,hb⟩;rw[HO.out];obtain⟨hc,hf,hC,hF,hz,hk,l0⟩:=bk1 (w:=w) hb;clear hb))
   all_goals
    refine E (v:= A #[B #[i j 0,i j 0,u false,u false],u false]) ?_ rfl ⟨Xe HE.out.symm,by go_grown⟩;simp (maxDischargeDepth:=9) [results,results296,go_sem, *]
  ·have HO:Hid (Qf (rpC s) v=true):=hr;have HE:Hid (plV (rpC s) (YW (rp3 s).data.toList) (QP s) (QP (rp2 s))= A #[B #[i j (rpC s),i j v,u (QP s),u (QP (rp2 s))],u true]):=by show plV _ _ _ _=_;rw[ho];simp[plV,Jc,hr,sl]
   clear hr ho
   go_wp2_with (first
    | (go_at_call 67;refine(Zu _ _ _).mono ?_;rintro e w3 ⟨rfl,hb⟩;rw[HO.out];obtain⟨k0,k1,k2,k3⟩:=kp hb;have l2:w2.heap.size<w3.heap.size:=(Nat.lt_of_lt_of_le (by go_size) hb.size);obtain⟨hc,hf,hC,hF,hz,hk,l0⟩:=bk1 (w:=w) hb;clear hb))
   all_goals
    refine E (v:= A #[B #[i j (rpC s),i j v,u (QP s),u (QP (rp2 s))],u true]) ?_ rfl ⟨Xe HE.out.symm,by go_grown⟩;simp (maxDischargeDepth:=9) [results,results296,go_sem, *]
def l1L:List UInt8->Option Int
 | [a]=>if 48<=a.toNat/\a.toNat<=57 then some ((a.toNat:Int)-48)else none
 | [a,b]=>if a.toNat=48 then none else if(48<=a.toNat/\a.toNat<=57)/\(48<=b.toNat/\b.toNat<=57)then some (((a.toNat:Int)-48)*10+((b.toNat:Int)-48))else none
 | _=>none
theorem Qsx(s:ByteArray):l1I s=l1L s.data.toList:=by
 unfold l1I l1L;rfl
theorem Qeh: ∀v,v<100->l1L (Lib.itoa ((v:Nat):Int))=some (v:Int):=by decide+kernel
theorem Qly: ∀v,v<10->Lib.itoa ((v:Nat):Int)= [UInt8.ofNat (48+v)]:=by decide+kernel
theorem Qlx: ∀p,p<10-> ∀q,q<10-> ¬p=0->Lib.itoa ((10*p+q:Nat):Int)= [UInt8.ofNat (48+p),UInt8.ofNat (48+q)]:=by decide+kernel
theorem Qby: ∀v,v<100->(match Lib.parseIntB 64 (Lib.itoa ((v:Nat):Int))with | .ok x=>decide (x=(v:Int)) | _=>false)=true:=by decide+kernel
theorem Qar(a:UInt8)(n:Nat)(h:a.toNat=n):UInt8.ofNat n=a:=by subst h;simp
theorem Qlt(h:l1L l=some v)(h1:1<=v):v<=99/\Lib.itoa v=l:=by
 match l,h with
 | [a],h=>
  simp only[l1L]at h;split at h
  ·rename_i hd
   have e:v=(a.toNat:Int)-48:=(G h).symm;obtain⟨n,hn⟩: ∃n:Nat,a.toNat=48+n:=⟨a.toNat-48,by omega⟩;have ev:v=(n:Int):=by omega
   refine⟨by omega,?_⟩;rw[ev,Qly n (by omega),Qar a _ hn]
  ·cases h
 | [a,b],h=>
  simp only[l1L]at h;split at h
  ·cases h
  ·rename_i h0
   split at h
   ·rename_i hd
    have e:v=((a.toNat:Int)-48)*10+((b.toNat:Int)-48):=(G h).symm;obtain⟨n,hn⟩: ∃n:Nat,a.toNat=48+n:=⟨a.toNat-48,by omega⟩;obtain⟨m,hm⟩: ∃m:Nat,b.toNat=48+m:=⟨b.toNat-48,by omega⟩;have ev:v=((10*n+m:Nat):Int):=by omega
    refine⟨by omega,?_⟩;rw[ev,Qlx n (by omega) m (by omega) (by omega),Qar a _ hn,Qar b _ hm]
   ·cases h
theorem Qd9(h:l1L l=some v)(h1:1<=v):YW l=some v:=by
 obtain⟨h2,hi⟩:=Qlt h h1;obtain⟨n,rfl⟩: ∃n:Nat,v=(n:Int):=⟨v.toNat,by omega⟩;have hp:=Qby n (by omega);rw[hi]at hp;cases hq:Lib.parseIntB 64 l with
 | ok x=>
  rw[hq]at hp;simp only[decide_eq_true_eq]at hp;subst hp;exact NC hq hi
 | «syntax»=>rw[hq]at hp;cases hp
 | range=>rw[hq]at hp;cases hp
theorem Qd5(h:YW l=some v)(h1:1<=v)(h2:v<=99):l1L l=some v:=by
 unfold YW at h;split at h
 ·split at h
  ·rename_i hi
   cases h
   obtain⟨n,rfl⟩: ∃n:Nat,v=(n:Int):=⟨v.toNat,by omega⟩;rw[<-hi];exact Qeh n (by omega)
  ·cases h
 ·cases h
theorem Qa5(h:Qf c v=true):1<=v/\v<=99:=by
 simp only[Qf,decide_eq_true_eq]at h;omega
theorem Qqm(c:Int)(s:ByteArray)(x y:Bool):plV c (YW s.data.toList) x y=plV c (l1I s) x y:=by
 rw[Qsx];cases h1:Jc c (YW s.data.toList)with
 | true=>
  obtain⟨v,hv,hr⟩: ∃v,YW s.data.toList=some v/\Qf c v=true:=by
   cases ho:YW s.data.toList with
   | none=>rw[ho]at h1;cases h1
   | some v=>rw[ho]at h1;exact⟨v,rfl,by simpa[Jc]using h1⟩
  have hb:=Qa5 hr;rw[hv,Qd5 hv hb.1 hb.2]
 | false=>
  have h2:Jc c (l1L s.data.toList)=false:=by
   cases hq:Jc c (l1L s.data.toList)with
   | false=>rfl
   | true=>
    cases ho:l1L s.data.toList with
    | none=>rw[ho]at hq;cases hq
    | some v=>
     rw[ho]at hq;have hr:Qf c v=true:=by simpa[Jc]using hq
     have hb:=Qa5 hr;rw[Qd9 ho hb.1]at h1;rw[show Jc c (some v)=Qf c v by simp[Jc]]at h1;rw[hr]at h1;cases h1
  simp[plV,h1,h2,sl]
def bs(l:List UInt8):ByteArray:=⟨l.toArray⟩
theorem QD(l:List UInt8):(bs l).size=l.length:=rfl
theorem Qas(l:List UInt8):(bs l).data.toList=l:=rfl
theorem Ol(s:ByteArray):bs s.data.toList=s:=rfl
theorem Zc(l r:List UInt8):bs l++bs r=bs (l++r):=by apply H;simp[bs]
theorem Qvj(s:ByteArray)(r:List UInt8):s++bs r=bs (s.data.toList++r):=by rw[<-Zc,Ol]
theorem Qg4(s:ByteArray)(k:Nat)(h:k<s.size):s.extract k (k+1)=bs [s[k]]:=by
 apply H;apply Array.ext';have e:(s.extract k (k+1)).data.toList=(s.data.toList.drop k).take 1:=by simp
 rw[e,List.drop_eq_getElem_cons (by simpa using h)];rfl
theorem Qqi(s:ByteArray)(k:Nat)(h:k<s.size):qt (s.data.toList.take (k+1))=qt (s.data.toList.take k)++(if s[k]=34 then [34,34]else [s[k]]):=by
 have e:s.data.toList.take (k+1)=s.data.toList.take k++ [s[k]]:=by
  rw[List.take_succ_eq_append_getElem (by simpa using h)];rfl
 rw[e,Qt6];congr 1
 simp[qt]
theorem Jp(n:Int)(w:World)(h0:1<=n)(h5:n<=11):Calls prog 152 #[i j n] w fun e w'=>
  e= D (F (bs (sgT n)))/\Below w.heap.size w w':=by
 have hn:n=1\/n=2\/n=3\/n=4\/n=5\/n=6\/n=7\/n=8\/n=9\/n=10\/n=11:=by omega
 clear h0 h5;rcases hn with rfl | rfl | rfl | rfl | rfl | rfl | rfl | rfl | rfl | rfl | rfl
 all_goals
  go_enter func152,ntmps152;go_wp2
  go_ret;exact⟨rfl,by go_grown⟩
theorem Bl(n:Int)(w:World)(h0:1<=n)(h5:n<=10):Calls prog 171 #[i j n] w fun e w'=>
  e= D (F (bs (fnT n)))/\Below w.heap.size w w':=by
 have hn:n=1\/n=2\/n=3\/n=4\/n=5\/n=6\/n=7\/n=8\/n=9\/n=10:=by omega
 clear h0 h5;rcases hn with rfl | rfl | rfl | rfl | rfl | rfl | rfl | rfl | rfl | rfl
 all_goals
  go_enter func171,ntmps171;go_wp2
  go_ret;exact⟨rfl,by go_grown⟩
theorem Vd(n:Int)(w:World)(h0:1<=n)(h5:n<=11):Calls prog 170 #[i j n] w fun e w'=>
  e= D (i j (lvl n))/\w'=w:=by
 have hn:n=1\/n=2\/n=3\/n=4\/n=5\/n=6\/n=7\/n=8\/n=9\/n=10\/n=11:=by omega
 clear h0 h5;rcases hn with rfl | rfl | rfl | rfl | rfl | rfl | rfl | rfl | rfl | rfl | rfl
 all_goals
  go_enter func170,ntmps170;go_wp2
  go_ret;exact⟨rfl,rfl⟩
def rpL(l:List UInt8):Option (Int × Int × Bool × Bool):=if Jc (rpC (bs l)) (l1I (rp3 (bs l)))then some (rpC (bs l),(l1I (rp3 (bs l))).getD 0,QP (bs l),QP (rp2 (bs l)))else none
def plA(l:List UInt8):Value:=plV (rpC (bs l)) (l1I (rp3 (bs l))) (QP (bs l)) (QP (rp2 (bs l)))
theorem Qqn(h:Jc c o=true):plV c o x y= A #[B #[i j c,i j (o.getD 0),u x,u y],u true]:=by
 unfold plV;rw[h];simp[sl]
theorem Qub(h:Jc c o=false):plV c o x y= A #[B #[i j 0,i j 0,u false,u false],u false]:=by
 unfold plV;rw[h];simp[sl]
theorem Qty{p:Int × Int × Bool × Bool}(h:(if Jc c o then some (c,o.getD 0,x,y)else none)=some p):plV c o x y= A #[B #[i j p.1,i j p.2.1,u p.2.2.1,u p.2.2.2],u true]:=by
 cases hq:Jc c o
 ·rw[hq]at h;cases h
 ·rw[hq]at h;cases h
  exact Qqn hq
theorem Qp3(h:(if Jc c o then some (c,o.getD 0,x,y)else none)=none):plV c o x y= A #[B #[i j 0,i j 0,u false,u false],u false]:=by
 cases hq:Jc c o
 ·exact Qub hq
 ·rw[hq]at h;cases h
theorem Qa4{p:Int × Int × Bool × Bool}(h:rpL l=some p):plA l= A #[B #[i j p.1,i j p.2.1,u p.2.2.1,u p.2.2.2],u true]:=by
 unfold rpL at h;unfold plA;exact Qty h
theorem Qd7(h:rpL l=none):plA l= A #[B #[i j 0,i j 0,u false,u false],u false]:=by
 unfold rpL at h;unfold plA;exact Qp3 h
def vlA(k n:Int)(s:ByteArray):Value:= A #[B #[i j k,i j n,F s],u true]
theorem Bp(k n:Int)(s:ByteArray):rvB k n s=vlA k n s\/rvB k n s=Mo:=by
 unfold rvB vlA Mo;split
 ·exact Or.inl rfl
 ·exact Or.inr rfl
theorem Bo(s:ByteArray):(∃k n t,rvS s=vlA k n t)\/rvS s=Mo:=by
 have g: ∀k n t,(∃k' n' t',rvB k n t=vlA k' n' t')\/rvB k n t=Mo:=fun k n t=>by
  rcases Bp k n t with h | h
  ·exact Or.inl ⟨_,_,_,h⟩
  ·exact Or.inr h
 unfold rvS;split
 ·split
  ·exact g _ _ _
  split
  ·exact g _ _ _
  split
  ·exact g _ _ _
  split
  ·exact g _ _ _
  ·unfold rvO;split
   ·exact g _ _ _
   ·exact Or.inr rfl
 ·exact g _ _ _
def unV(v:Value):Option (Int × Int × List UInt8):=match v with
 | A #[B #[.int _ k,.int _ n,F t],u true]=>some (k,n,t.data.toList)
 | _=>none
def rvL(l:List UInt8):Option (Int × Int × List UInt8):=unV (rvS (bs l))
theorem Qfg{v:Int × Int × List UInt8}(h:rvL l=some v):rvS (bs l)=vlA v.1 v.2.1 (bs v.2.2):=by
 unfold rvL at h;rcases Bo (bs l)with⟨k,n,t,e⟩ | e
 ·rw[e]at h ⊢;have h2:some (k,n,t.data.toList)=some v:=h;cases h2
  rfl
 ·rw[e]at h;cases h
theorem Qsq(h:rvL l=none):rvS (bs l)=Mo:=by
 unfold rvL at h;rcases Bo (bs l)with⟨k,n,t,e⟩ | e
 ·rw[e]at h;cases h
 ·exact e
def RF:Rw FN where
 cst:=fun k n s=>⟨1,0,k,n,bs s,0,0,false,false,0,0,false,false,[]⟩
 cel:=fun p=>⟨2,0,0,0,⟨#[]⟩,p.1,p.2.1,p.2.2.1,p.2.2.2,0,0,false,false,[]⟩
 are:=fun p q=>⟨3,0,0,0,⟨#[]⟩,p.1,p.2.1,p.2.2.1,p.2.2.2,q.1,q.2.1,q.2.2.1,q.2.2.2,[]⟩
 neg:=fun k=>⟨4,0,0,0,⟨#[]⟩,0,0,false,false,0,0,false,false,[k]⟩
 bin:=fun o a b=>⟨5,o,0,0,⟨#[]⟩,0,0,false,false,0,0,false,false,[a,b]⟩
 cal:=fun o ks=>⟨6,o,0,0,⟨#[]⟩,0,0,false,false,0,0,false,false,ks⟩
 rv:=rvL
 rp:=rpL
theorem Qf8{b:UInt8}{t:List UInt8}(h1:b≠36)(h2:isL b=false):rpL (b::t)=none:=by
 have e1:QP (bs (b::t))=false:=by
  unfold QP;rw[dif_pos (show 0<(bs (b::t)).size by rw[QD];simp)];show(b==36)=false;exact beq_eq_false_iff_ne.2 h1
 have e2:Yu (bs (b::t))=bs (b::t):=by unfold Yu;rw[e1];rfl
 have e3:UI (bs (b::t))=0:=by
  unfold UI;show((b::t).takeWhile isL).length=0;simp[List.takeWhile,h2]
 have e4:rpC (bs (b::t))=0:=by
  unfold rpC;rw[e2,e3];rfl
 unfold rpL Jc;rw[e4];rw[nG];intro hq;have h9:=(Bool.and_eq_true_iff.1 hq).2;have:=of_decide_eq_true h9;omega
theorem VI:rpL []=none:=by decide+kernel
theorem Nz{b:UInt8}{t:List UInt8}(h:isW b=false):rpL (b::t)=none:=by
 have h1:b≠36:=fun e=>by subst e;revert h;decide
 refine Qf8 h1 ?_;cases hl:isL b
 ·rfl
 ·exfalso
  have:isW b=true:=by unfold isW;unfold isL at hl;rw[hl];rfl
  rw[this]at h;cases h
theorem rv_er:rvL (erL 1)=some (4,1,[])/\rvL (erL 2)=some (4,2,[])/\rvL (erL 3)=some (4,3,[])/\rvL (erL 4)=some (4,4,[])/\rvL (erL 5)=some (4,5,[]):=by decide+kernel
theorem rv_sg:rvL [41]=none/\rvL [44]=none/\rvL [58]=none/\rvL (sgT 1)=none/\rvL (sgT 2)=none/\rvL (sgT 3)=none/\rvL (sgT 4)=none/\rvL (sgT 5)=none/\rvL (sgT 6)=none/\rvL (sgT 7)=none/\rvL (sgT 8)=none/\rvL (sgT 9)=none/\rvL (sgT 10)=none/\rvL (sgT 11)=none:=by decide+kernel
def good(o:List FN):Bool:=decide (o.length<=60)&&o.all Qp
theorem Qmf{o e:List FN}(h:good (o++e)=true):good o=true:=by
 unfold good at*;simp only[Bool.and_eq_true,decide_eq_true_eq,List.length_append,List.all_append]at*;exact⟨by omega,h.2.1⟩
def Ej(res:Option (Int × List UInt8 × List FN)):Prop:= ∀y,res=some y->good y.2.2=false
theorem Ys:Ej none:=fun y h=>by cases h
def Ext(o:List FN)(res:Option (Int × List UInt8 × List FN)):Prop:= ∀y,res=some y-> ∃e,y.2.2=o++e
theorem Qmp{o e:List FN}{x:Int}:Ext o (some (x,l,o++e)):=fun y h=>by cases h;exact⟨e,rfl⟩
theorem Qc3{o:List FN}{res:Option (Int × List UInt8 × List FN)}(h:good o=false)(he:Ext o res):Ej res:=fun y hy=>by
 obtain⟨e,h2⟩:=he y hy;cases hg:good y.2.2
 ·rfl
 ·rw[h2]at hg;rw[Qmf hg]at h;cases h
theorem JM{res:Option (Int × List UInt8 × List FN)}{f:Int->List UInt8->List FN->Option (Int × List UInt8 × List FN)}(h:Ej res)(hf: ∀x l o,Ext o (f x l o)):Ej (Yg res f):=by
 cases res with
 | none=>exact Ys
 | some y=>exact Qc3 (h y rfl) (hf _ _ _)
theorem Qbn(mode:Nat)(lv a:Int)(ks:List Int)(l:List UInt8)(out:List FN):Ext out (PB RF mode lv a ks l out):=by
 intro y hy;unfold PB at hy;cases hp:P RF 20000 mode lv a ks l out with
 | none=>rw[hp]at hy;cases hy
 | some z=>
  obtain⟨x,l1,o1⟩:=z;rw[hp]at hy;cases hy
  obtain⟨_,e,he⟩:=Qhv RF VI _ _ _ _ _ _ _ _ _ _ hp;exact⟨e,he⟩
def YC(res:Option (Int × List UInt8 × List FN))(bad:Bool)(x:Int)(l:List UInt8)(out:List FN):Prop:=
 (bad=false->res=some (x,sb l,out)/\good out=true)/\(bad=true->Ej res)
theorem Qmk:Xc [58]=0:=by decide
theorem Qva(h:pk l= [58]):PB RF 4 0 0 [] l out=none:=by
 rw[Uy (by rw[h];simp) (by rw[h];decide) (by rw[h];decide) (by rw[h];exact Qmk),h];have e1:RF.rv [58]=none:=rv_sg.2.2.1;have e0:rpL [58]=none:=Nz (b:=58) (t:= []) (by decide);have e2:RF.rp [58]=none:=e0;rw[e1,e2]
theorem Qof(h:pk l= [58])(hn:l.length<=1000):PB RF 3 0 0 [] l out=none:=by
 rw[PB3 hn,nG (by rw[h];decide)];exact Qva h
theorem Qvb(h : pk l = [58])(hn : l.length <= 1000) : ∀ (d : Nat) (lv : Int), lv = 5 - (d : Int) -> d <= 4 -> PB RF 1 lv 0 [] l out = none := by
  intro d;induction d with
  | zero => intro lv e _; obtain rfl : lv = 5 := by omega
            rw[Qe7 hn]; exact Qof h hn
  | succ d ih =>
    intro lv e hd;rw[PB1 (by omega) (by omega) hn, ih (lv + 1) (by omega) (by omega)];rfl
theorem Qnb(h:(pk l).head? =some 34):PB RF 4 0 0 [] l out=match ZE (pk l).tail with
  | some x=>some ((out.length:Int),sb (nx l),out++ [RF.cst 2 0 x.1])
  | none=>none:=by
 have h0:pk l≠ []:=fun e=>by rw[e]at h;cases h
 have h1:pk l≠ [40]:=fun e=>by rw[e]at h;cases h
 cases hq:ZE (pk l).tail with
 | some x=>exact Qax h hq
 | none=>
  unfold PB;rw[show(20000:Nat)=19999+1 from rfl,P,nG (by omega),nG (by omega),nG (by omega),pS rfl,nG h0,nG h1,pS h,hq];rfl
theorem Qvm{x:Int}{l1:List UInt8}{o1:List FN}(h:pk (nx l)= [58])(hn:l.length<=1000)(hp:PB RF 4 0 0 [] l out=some (x,l1,o1)):pk l1= [58]:=by
 by_cases h0:pk l= []
 ·rw[Qaz h0]at hp;cases hp
 have hl:=Ul l;by_cases h1:pk l= [40]
 ·rw[Qay h1 hn,Qvb h (by omega) 4 1 rfl (by omega)]at hp;cases hp
 by_cases h2:(pk l).head? =some 34
 ·rw[Qnb h2]at hp;split at hp
  ·cases hp;rw[Jd];exact h
  ·cases hp
 by_cases hf:Xc (pk l)=0
 ·rw[Uy h0 h1 h2 hf]at hp;split at hp
  ·cases hp;rw[Jd];exact h
  ·split at hp
   ·cases hp;rw[Jd];exact h
   ·cases hp
 ·rw[Qbp h0 h1 h2 hf hn,nG (by rw[h];decide)]at hp;cases hp
theorem Qvn{x:Int}{l1:List UInt8}{o1:List FN}(h:pk (nx l)= [58])(hn:l.length<=1000)(hp:PB RF 3 0 0 [] l out=some (x,l1,o1)):pk l1= [58]:=by
 rw[PB3 hn]at hp;have hl:=Ul l;by_cases hq:pk l= [45]
 ·rw[pS hq,Qof h (by omega)]at hp;cases hp
 ·rw[nG hq]at hp;exact Qvm h hn hp
theorem Qvo(h : pk (nx l) = [58])(hn : l.length <= 1000) : ∀ (d : Nat) (lv : Int), lv = 5 - (d : Int) -> d <= 4 -> ∀ (x : Int) (l1 : List UInt8) (o1 : List FN), PB RF 1 lv 0 [] l out = some (x, l1, o1) -> pk l1 = [58] := by
  intro d;induction d with
  | zero => intro lv e _ x l1 o1 hp; obtain rfl : lv = 5 := by omega
            rw[Qe7 hn] at hp; exact Qvn h hn hp
  | succ d ih =>
    intro lv e hd x l1 o1 hp;rw[PB1 (by omega) (by omega) hn] at hp;cases hq : PB RF 1 (lv + 1) 0 [] l out with
    | none => rw[hq] at hp; cases hp
    | some y =>
      obtain ⟨x', l', o'⟩ := y;have h9 := ih (lv + 1) (by omega) (by omega) _ _ _ hq;have hlen := (DX hq).1;rw[hq] at hp;have h0 : PB RF 2 lv x' [] l' o' = some (x, l1, o1) := hp;rw[PB2 (by omega) (by omega) (by omega), pS (Or.inl (by rw[h9]; decide))] at h0;cases h0
      rw[Jd];exact h9
end Go.Proofs.YtomadadmakdkgaaGreatDoor
