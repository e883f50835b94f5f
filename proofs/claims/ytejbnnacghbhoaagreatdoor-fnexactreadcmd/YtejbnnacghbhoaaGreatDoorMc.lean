import Derived.Test.YtejbnnacghbhoaaGreatDoorMn
import Derived.Test.YtejbnnacghbhoaaGreatDoorGaj
import Derived.Test.YtejbnnacghbhoaaGreatDoorPlaceJK
import Derived.Test.YtejbnnacghbhoaaGreatDoorGas
import Derived.Test.YtejbnnacghbhoaaGreatDoorMa
import Derived.Test.YtejbnnacghbhoaaGreatDoorMb
set_option linter.unusedSimpArgs false
set_option linter.unusedVariables false
namespace Go.Proofs.YtejbnnacghbhoaaGreatDoor
open Go.RowKit
def Vk:List UInt8→Bool
 | b::_=>b==36
 | []=>false
theorem Qb5 (s:ByteArray):QE s=Vk s.data.toList:=by
 obtain⟨⟨l⟩⟩:=s;cases l with
 | nil=>rfl
 | cons b t=>rfl
theorem Qki (s:ByteArray) (a b:Nat):(s.extract a b).data.toList=(s.data.toList.drop a).take (b-a):=by
 simp [ByteArray.data_extract,Array.toList_extract,List.extract_eq_take_drop]
theorem Qj1 (s:ByteArray):(Ye s).data.toList=if Vk s.data.toList then s.data.toList.drop 1 else s.data.toList:=by
 unfold Ye;rw [Qb5];split
 ·rw [Qki];apply List.take_of_length_le;simp
 ·rfl
theorem Nl: ∀l:List UInt8,l.take (l.takeWhile isL).length=l.takeWhile isL
 | []=>rfl
 | b::t=>by
  cases h:isL b
  ·rw [List.takeWhile_cons,h];rfl
  ·rw [List.takeWhile_cons,h];show b::t.take (t.takeWhile isL).length=_;rw [Nl t];rfl
theorem NS: ∀l:List UInt8,l.drop (l.takeWhile isL).length=l.dropWhile isL
 | []=>rfl
 | b::t=>by
  cases h:isL b
  ·rw [List.takeWhile_cons,List.dropWhile_cons,h];rfl
  ·rw [List.takeWhile_cons,List.dropWhile_cons,h];show t.drop (t.takeWhile isL).length=_;rw [NS t];rfl
theorem Qri (s:ByteArray):rpC s=rdc ((Ye s).data.toList.takeWhile isL) 0:=by
 unfold rpC Hm;rw [Qki,List.drop_zero,Nat.sub_zero,Nl]
theorem Qrk (s:ByteArray):(rp2 s).data.toList=(Ye s).data.toList.dropWhile isL:=by
 unfold rp2 Hm;rw [Qki,NS];apply List.take_of_length_le;have h:=congrArg List.length (List.takeWhile_append_dropWhile (p:=isL) (l:=(Ye s).data.toList));rw [List.length_append]at h;have e:(Ye s).size=(Ye s).data.toList.length:=by simp
 omega
theorem Qrj (s:ByteArray):(rp3 s).data.toList=if Vk (rp2 s).data.toList then(rp2 s).data.toList.drop 1 else(rp2 s).data.toList:=Qj1 _
def fxL (b:Bool):List UInt8:=if b then [36]else []
theorem fx_L (b:Bool):(fx b).data.toList=fxL b:=by cases b<;>rfl
theorem Ew (c:Int) (i:Nat) (x y:Bool):(Qr c i x y).data.toList=fxL x++(Yf c).data.toList++fxL y++(Yd i).data.toList:=by
 unfold Qr;simp [fx_L]
theorem Gx (c:Int) (h1:1≤c) (h2:c≤52):(∀b∈(Yf c).data.toList,isL b=true)∧(Yf c).data.toList≠ []:=by
 by_cases h:c≤26
 ·rw [Vb h1 h];have e:(UInt8.ofNat (65+(c-1)).toNat).toNat=(65+(c-1)).toNat:=by simp;omega
  refine⟨fun b hb=> ?_,by simp⟩;simp only [List.mem_singleton]at hb;subst hb;unfold isL;rw [e];exact decide_eq_true (by omega)
 ·rw [Va (by omega) h2];have e:(UInt8.ofNat (65+(c-27)).toNat).toNat=(65+(c-27)).toNat:=by simp;omega
  refine⟨fun b hb=> ?_,by simp⟩;simp only [List.mem_cons,List.not_mem_nil,or_false]at hb;rcases hb with rfl | rfl
  ·rfl
  ·unfold isL;rw [e];exact decide_eq_true (by omega)
theorem Qfp: ∀i,i<100→(match (Yd i).data.toList with | d::_=> !isL d&& !(d==36) | []=>false)=true:=by decide+kernel
theorem Mw: ∀i,i<100→l1L (Yd i).data.toList=some (i:Int):=by decide+kernel
theorem EO (x:Bool) (l:List UInt8) (h:Vk l=false):Vk (fxL x++l)=x∧(if Vk (fxL x++l)then(fxL x++l).drop 1 else fxL x++l)=l:=by
 cases x
 ·show Vk l=false∧(if Vk l then l.drop 1 else l)=l;rw [h];exact⟨rfl,rfl⟩
 ·exact⟨rfl,rfl⟩
theorem Qe9 (b:UInt8) (h:isL b=true):(b==36)=false:=by
 cases hb:(b==36)
 ·rfl
 ·rw [beq_iff_eq]at hb;subst hb;cases h
theorem Qb1 (c:Int) (i:Nat) (x y:Bool) (hc:1≤c∧c≤52) (hi:1≤i∧i≤99):QE (Qr c i x y)=x∧rpC (Qr c i x y)=c∧QE (rp2 (Qr c i x y))=y∧l1I (rp3 (Qr c i x y))=some (i:Int):=by
 obtain⟨hl,hne⟩:=Gx c hc.1 hc.2;have hd:=Qfp i (by omega);have e0:(Qr c i x y).data.toList=fxL x++((Yf c).data.toList++(fxL y++(Yd i).data.toList)):=by rw [Ew];simp only [List.append_assoc]
 have h1:Vk ((Yf c).data.toList++(fxL y++(Yd i).data.toList))=false:=by
  cases hq:(Yf c).data.toList with
  | nil=>exact absurd hq hne
  | cons b t=>exact Qe9 b (hl b (by rw [hq];simp))
 obtain⟨a1,a2⟩:=EO x _ h1
 have h2:Vk (Yd i).data.toList=false:=by
  revert hd
  cases (Yd i).data.toList with
  | nil=>intro h;cases h
  | cons b t=>
   intro h;have h9:(!isL b&& !(b==36))=true:=h;rw [Bool.and_eq_true]at h9;show(b==36)=false;simpa using h9.2
 obtain⟨b1,b2⟩:=EO y _ h2;have ecut:(Ye (Qr c i x y)).data.toList=(Yf c).data.toList++(fxL y++(Yd i).data.toList):=by rw [Qj1,e0];exact a2
 have hnl:(fxL y++(Yd i).data.toList).takeWhile isL= []:=by
  cases y
  ·show((Yd i).data.toList).takeWhile isL= [];revert hd
   cases (Yd i).data.toList with
   | nil=>intro h;cases h
   | cons b t=>
    intro h;have h9:(!isL b&& !(b==36))=true:=h;rw [Bool.and_eq_true]at h9;rw [List.takeWhile_cons,show isL b=false by simpa using h9.1];rfl
  ·rfl
 have hdw:(fxL y++(Yd i).data.toList).dropWhile isL=fxL y++(Yd i).data.toList:=by
  have h:=List.takeWhile_append_dropWhile (p:=isL) (l:=fxL y++(Yd i).data.toList);rw [hnl]at h;exact h
 have e2:(rp2 (Qr c i x y)).data.toList=fxL y++(Yd i).data.toList:=by
  rw [Qrk,ecut,List.dropWhile_append_of_pos hl,hdw]
 refine⟨by rw [Qb5,e0];exact a1,?_,by rw [Qb5,e2];exact b1,?_⟩
 ·rw [Qri,ecut,List.takeWhile_append_of_pos hl,hnl,List.append_nil];exact Qcm c hc.1 hc.2
 ·rw [DZ,Qrj,e2,b2];exact Mw i (by omega)
theorem ND {s:ByteArray} (h:Jr s=true):(∀b∈s.data.toList,b≠10)∧s.size≤200:=by
 unfold Jr at h;cases hi:inF s with
 | none=>rw [hi]at h;cases h
 | some t=>
  unfold inF at hi;split at hi
  ·rename_i hw
   unfold QI at hw;simp only [Bool.and_eq_true,decide_eq_true_eq]at hw;refine⟨fun b hb e=> ?_,hw.1⟩;have h9:=hw.2;unfold ZF at h9;have h8:=List.all_eq_true.1 h9 b hb;subst e
   revert h8
   decide
  ·cases hi
theorem GI.mxR {W:World} (h:GI W):MX W:=h.gt.mx
theorem bs_lq (l:List UInt8):(bs l).data.toList=l:=rfl
def cw (b:UInt8) (l:List UInt8):List UInt8:=l.takeWhile fun x=> !(x==b)
def cr (b:UInt8) (l:List UInt8):List UInt8:=(l.dropWhile fun x=> !(x==b)).drop 1
theorem cw_len (b:UInt8) (l:List UInt8):(cw b l).length≤l.length:=List.Sublist.length_le (List.takeWhile_sublist _)
theorem cr_len (b:UInt8) (l:List UInt8):(cr b l).length≤l.length:=by
 unfold cr;rw [List.length_drop];have:=List.Sublist.length_le (List.dropWhile_sublist (fun x=> !(x==b)) (l:=l));omega
theorem Hx (b x:UInt8) (l:List UInt8) (h:x≠b):cw b (x::l)=x::cw b l:=by
 unfold cw;rw [List.takeWhile_cons,if_pos (by simp [h])]
theorem Dx (b x:UInt8) (l:List UInt8) (h:x≠b):cr b (x::l)=cr b l:=by
 unfold cr;rw [List.dropWhile_cons,if_pos (by simp [h])]
theorem Be (b:UInt8) (l:List UInt8):cw b (b::l)= []:=by
 unfold cw;rw [List.takeWhile_cons,if_neg (by simp)]
theorem Qj2 (b:UInt8) (l:List UInt8):cr b (b::l)=l:=by
 unfold cr;rw [List.dropWhile_cons,if_neg (by simp)];rfl
theorem XK {b:UInt8}: ∀{x:List UInt8} (y:List UInt8),(∀z∈x,z≠b)→cw b (x++b::y)=x∧cr b (x++b::y)=y
 | [],y,_=>⟨Be b y,Qj2 b y⟩
 | z::x,y,h=>by
  have h1:z≠b:=h z (by simp);obtain⟨a1,a2⟩:=XK (x:=x) y (fun w hw=>h w (by simp [hw]));rw [List.cons_append,Hx _ _ _ h1,Dx _ _ _ h1,a1,a2];exact⟨rfl,rfl⟩
theorem Hf {b:UInt8}: ∀{x:List UInt8},(∀z∈x,z≠b)→cw b x=x∧cr b x= []
 | [],_=>⟨rfl,rfl⟩
 | z::x,h=>by
  have h1:z≠b:=h z (by simp);obtain⟨a1,a2⟩:=Hf (x:=x) (fun w hw=>h w (by simp [hw]));rw [Hx _ _ _ h1,Dx _ _ _ h1,a1,a2];exact⟨rfl,rfl⟩
def lnS (q:List (List UInt8) × List UInt8) (b:UInt8):List (List UInt8) × List UInt8:=if b=10 then(q.1++ [q.2],[])else(q.1,q.2++ [b])
def ln (l:List UInt8):List (List UInt8) × List UInt8:=l.foldl lnS ([],[])
theorem Qmn (l:List UInt8) (b:UInt8):ln (l++ [b])=lnS (ln l) b:=by unfold ln;rw [List.foldl_append];rfl
theorem Dn: ∀(l:List UInt8) (a:List (List UInt8)) (p:List UInt8),(∀z∈p,z≠10)→l.foldl lnS (a,p)=(a++(ln (p++l)).1,(ln (p++l)).2):=by
 have one: ∀(p:List UInt8) (a:List (List UInt8)),(∀z∈p,z≠10)→ ∀q,p.foldl lnS (a,q)=(a,q++p):=by
  intro p;induction p with
  | nil=>intro a _ q;simp
  | cons z p ih=>
   intro a h q;rw [List.foldl_cons,show lnS (a,q) z=(a,q++ [z]) by unfold lnS;rw [if_neg (h z (by simp))],ih a (fun w hw=>h w (by simp [hw]))];simp
 have gen: ∀(l:List UInt8) (a a2:List (List UInt8)) (p:List UInt8),l.foldl lnS (a++a2,p)=(a++(l.foldl lnS (a2,p)).1,(l.foldl lnS (a2,p)).2):=by
  intro l;induction l with
  | nil=>intro a a2 p;rfl
  | cons z l ih=>
   intro a a2 p;rw [List.foldl_cons,List.foldl_cons];unfold lnS;split
   ·show List.foldl lnS (a++a2++ [p],[]) l=_;rw [List.append_assoc,ih];rfl
   ·exact ih a a2 _
 intro l a p h;have h1:=gen l a [] p;rw [List.append_nil]at h1;rw [h1];unfold ln;rw [List.foldl_append,one p [] h []];rfl
theorem Qog {x:List UInt8} (y:List UInt8) (h: ∀z∈x,z≠10):ln (x++10::y)=(x::(ln y).1,(ln y).2):=by
 have h1:ln (x++10::y)=(10::y).foldl lnS ([],x):=by
  have h2:=Dn (10::y) [] x h;rw [h2];simp
 rw [h1,List.foldl_cons];have h3:=Dn y [x] [] (by simp);show y.foldl lnS ([]++ [x],[])=_;rw [List.nil_append,h3];rfl
theorem Qmp {x:List UInt8} (h: ∀z∈x,z≠10):ln x=([],x):=by
 have h2:=Dn [] [] x h;rw [List.append_nil]at h2;have h3:=h2;simp only [List.foldl_nil,List.nil_append]at h3;exact h3.symm
def lnI (l:List UInt8):List (List UInt8):=(ln l).1++if(ln l).2= []then []else [(ln l).2]
theorem Qss:lnI []= []:=rfl
theorem Qra {l:List UInt8} (h:l≠ []):lnI l=cw 10 l::lnI (cr 10 l):=by
 by_cases h1:10∈l
 ·obtain⟨x,y,rfl,hx⟩:=List.eq_append_cons_of_mem h1;have hx2: ∀z∈x,z≠10:=fun z hz e=>hx (e▸hz);obtain⟨a1,a2⟩:=XK (b:=10) y hx2;rw [a1,a2];unfold lnI;rw [Qog y hx2];rfl
 ·have hx2: ∀z∈l,z≠10:=fun z hz e=>h1 (e▸hz);obtain⟨a1,a2⟩:=Hf hx2;rw [a1,a2];unfold lnI;rw [Qmp hx2];show []++(if l= []then []else [l])=l::lnI [];rw [if_neg h]
  rfl
theorem EJ (l:List UInt8):(ln l).1.length=l.count 10:=by
 suffices h: ∀(l:List UInt8) (a:List (List UInt8)) (p:List UInt8),(l.foldl lnS (a,p)).1.length=a.length+l.count 10 by
  have:=h l [] [];rw [List.length_nil,Nat.zero_add]at this;exact this
 intro l;induction l with
 | nil=>intro a p;rfl
 | cons z l ih=>
  intro a p;rw [List.foldl_cons,List.count_cons];by_cases e:z=10
  ·rw [show lnS (a,p) z=(a++ [p],[])from if_pos e,ih,List.length_append,if_pos (by simpa using e)];simp;omega
  ·rw [show lnS (a,p) z=(a,p++ [z])from if_neg e,ih,if_neg (by simpa using e)];rfl
theorem Qhj (l:List UInt8):(∀x∈(ln l).1,x.length≤l.length)∧(ln l).2.length≤l.length:=by
 suffices h: ∀(l:List UInt8) (a:List (List UInt8)) (p:List UInt8) (N:Nat),(∀x∈a,x.length≤N)→p.length+l.length≤N→(∀x∈(l.foldl lnS (a,p)).1,x.length≤N)∧(l.foldl lnS (a,p)).2.length≤N by
  exact h l [] [] l.length (by simp) (by simp)
 intro l;induction l with
 | nil=>intro a p N h1 h2;exact⟨h1,by simpa using h2⟩
 | cons z l ih=>
  intro a p N h1 h2;rw [List.length_cons]at h2;rw [List.foldl_cons];unfold lnS;split
  ·refine ih _ _ N (fun x hx=> ?_) (by simp;omega);rcases List.mem_append.1 hx with hx | hx
   ·exact h1 x hx
   ·rw [List.mem_singleton]at hx;subst hx;omega
  ·refine ih _ _ N h1 (by rw [List.length_append];simp;omega)
def lnT (xs:List (List UInt8)):List UInt8:=xs.flatMap fun x=>x++ [10]
theorem Qsr: ∀{xs:List (List UInt8)},(∀x∈xs,∀z∈x,z≠10)→ln (lnT xs)=(xs,[])
 | [],_=>rfl
 | x::xs,h=>by
  have e:lnT (x::xs)=x++10::lnT xs:=by unfold lnT;simp
  rw [e,Qog _ (h x (by simp)),Qsr (xs:=xs) (fun y hy=>h y (by simp [hy]))]
structure SR where
 k:Int
 c:Int
 r:Int
 t:ByteArray
 m:Int
def dSR:SR:=⟨0,0,0,⟨#[]⟩,0⟩
def sK (L:List SR) (i:Nat):Int:=(L.getD i dSR).k
def sC (L:List SR) (i:Nat):Int:=(L.getD i dSR).c
def sR (L:List SR) (i:Nat):Int:=(L.getD i dSR).r
def sT (L:List SR) (i:Nat):ByteArray:=(L.getD i dSR).t
def sM (L:List SR) (i:Nat):Int:=(L.getD i dSR).m
def srL (x:SR):List UInt8:=(Kl x.k x.c x.r x.t x.m).data.toList
def DW (L:List SR):Bool:=Zb (sK L) (sC L) (sR L) (sT L) (sM L) L.length
def mtL (L:List SR):ByteArray:=mtO (sK L) (sC L) (sR L) (sT L) (sM L) L.length
theorem NF (L:List SR): ∀n,n≤L.length→(mtT (sK L) (sC L) (sR L) (sT L) (sM L) n).data.toList=lnT ((L.take n).map srL)
 | 0,_=>rfl
 | n+1,h=>by
  have hx:L[n]? =some (L[n]'(by omega)):=List.getElem?_eq_getElem (by omega);have e:L.getD n dSR=L[n]'(by omega):=by rw [List.getD_eq_getElem?_getD,hx];rfl
  have e1:sK L n=(L[n]'(by omega)).k:=congrArg SR.k e;have e2:sC L n=(L[n]'(by omega)).c:=congrArg SR.c e;have e3:sR L n=(L[n]'(by omega)).r:=congrArg SR.r e;have e4:sT L n=(L[n]'(by omega)).t:=congrArg SR.t e;have e5:sM L n=(L[n]'(by omega)).m:=congrArg SR.m e;have h9:=NF L n (by omega);rw [mtT,List.take_add_one,hx,e1,e2,e3,e4,e5]
  unfold lnT at h9 ⊢;rw [List.map_append,List.flatMap_append,←h9];simp [srL,nlb]
def kdL (w:List UInt8):Int:=if w= [115,101,116]then 1 else if w= [112,117,116]then 2 else if w= [117,110,108,101,115,115]then 3 else if w= [119,104,105,108,101]then 4 else if w= [97,98,111,114,116]then 5 else 0
def pqA (s:ByteArray) (o:Option Int):Int:=sl (Xd (rpC s) o) (rpC s)
def pqB (s:ByteArray) (o:Option Int):Int:=sl (Xd (rpC s) o) (o.getD 0)
def rdI (l:List UInt8):SR:=
 let k:=kdL (cw 32 l);let y:=cr 32 l;let p:=bs (cw 32 y)
 if k=1∨k=2 then⟨k,pqA p (Yh (rp3 p).data.toList),pqB p (Yh (rp3 p).data.toList),bs (cr 32 y),0⟩else
 if k=3∨k=4 then⟨k,0,0,bs (cr 32 y),(Yh (cw 32 y)).getD 0⟩else⟨k,0,0,bs y,0⟩
def rdS (l:List UInt8):SR:=
 let k:=kdL (cw 32 l);let y:=cr 32 l;let p:=bs (cw 32 y)
 if k=5 then⟨5,0,0,bs y,0⟩else
 if k=1∨k=2 then⟨k,pqA p (l1I (rp3 p)),pqB p (l1I (rp3 p)),bs (cr 32 y),0⟩else⟨k,0,0,bs (cr 32 y),(l1I p).getD 0⟩
theorem Qm0 (k:Int) (h:1≤k∧k≤5):kdL (Un k).data.toList=k∧(∀z∈(Un k).data.toList,z≠32∧z≠10):=by
 have:k=1∨k=2∨k=3∨k=4∨k=5:=by omega
 rcases this with rfl | rfl | rfl | rfl | rfl<;>exact⟨by decide,by decide⟩
theorem Gl: ∀i,i<100→ ∀z∈(Yd i).data.toList,z≠32∧z≠10:=by decide+kernel
theorem Gt (c:Int) (i:Nat) (h:1≤c∧c≤52) (hi:i<100): ∀z∈(Qr c i false false).data.toList,z≠32∧z≠10:=by
 intro z hz;rw [Ew]at hz;simp only [fxL,if_neg (Bool.false_ne_true),List.nil_append,List.append_nil,List.mem_append]at hz;rcases hz with hz | hz
 ·have h9:=(Gx c h.1 h.2).1 z hz;unfold isL at h9;have h8:=of_decide_eq_true h9;exact⟨fun e=>by subst e;revert h8;decide,fun e=>by subst e;revert h8;decide⟩
 ·exact Gl i hi z hz
theorem Xc {t:ByteArray} (h:wrB t=true):(∀b∈t.data.toList,b≠10)∧t.size≤200:=by
 obtain⟨h1,h2⟩:=ND (s:=(⟨#[61]⟩:ByteArray)++t) h;rw [Qdl]at h2;refine⟨fun b hb=>h1 b ?_,by omega⟩;simp [hb]
theorem Qe3 {k c r:Int} {t:ByteArray} {m a b:Int} (h:Zt k c r t m a b=true):(∀z∈t.data.toList,z≠10)∧t.size≤200:=by
 unfold Zt at h;split at h
 ·simp only [Bool.and_eq_true]at h;exact Xc h.1.2
 split at h
 ·simp only [Bool.and_eq_true]at h;exact ND h.1.2
 split at h
 ·simp only [Bool.and_eq_true]at h;exact Xc h.1.2
 split at h
 ·simp only [Bool.and_eq_true]at h;exact Xc h.1.2
 split at h
 ·simp only [Bool.and_eq_true]at h;exact Xc h.1.2
 ·cases h
theorem Qe2 {k c r:Int} {t:ByteArray} {m a b:Int} (h:Zt k c r t m a b=true) (hk:k=1∨k=2∨k=5):m=0:=by
 unfold Zt at h;rcases hk with rfl | rfl | rfl
 ·rw [if_pos rfl]at h;simp only [Bool.and_eq_true,decide_eq_true_eq]at h;exact h.2
 ·rw [if_neg (by decide),if_pos rfl]at h;simp only [Bool.and_eq_true,decide_eq_true_eq]at h;exact h.2
 ·rw [if_neg (by decide),if_neg (by decide),if_neg (by decide),if_neg (by decide),if_pos rfl]at h;simp only [Bool.and_eq_true,decide_eq_true_eq]at h;exact h.2
theorem XC {c:Int} {i:Nat} (hc:1≤c∧c≤52) (hi:1≤i∧i≤99) {o:Option Int} (ho:o=some (i:Int)):pqA (Qr c i false false) o=c∧pqB (Qr c i false false) o=(i:Int):=by
 obtain⟨_,h1,_,_⟩:=Qb1 c i false false hc hi
 have hk:Xd c (some (i:Int))=true:=by
  unfold Xd Qg;simp;omega
 unfold pqA pqB;rw [ho,h1,hk];exact⟨rfl,rfl⟩
theorem Qk1 {x:SR} {a b:Int} (ha:a<100) (hb:b<100) (h:Zt x.k x.c x.r x.t x.m a b=true):rdI (srL x)=x∧rdS (srL x)=x∧ ∀z∈srL x,z≠10:=by
 obtain⟨k,c,r,t,m⟩:=x;replace h:Zt k c r t m a b=true:=h;have hT:=(Qe3 h).1;have hz:=Qe2 h;have hF:=UJ h;have hk:1≤k∧k≤5:=by omega
 obtain⟨w1,w2⟩:=Qm0 k hk
 have e0:srL ⟨k,c,r,t,m⟩=(Un k).data.toList++32::((JI k c r m).data.toList++t.data.toList):=by
  unfold srL Kl spc;simp
 obtain⟨c1,c2⟩:=XK (b:=32) ((JI k c r m).data.toList++t.data.toList) (fun z hz=>(w2 z hz).1)
 have nl1: ∀z∈(Un k).data.toList++32::((JI k c r m).data.toList++t.data.toList),(∀z∈(JI k c r m).data.toList,z≠10)→z≠10:=by
  intro z hz9 hm;simp only [List.mem_append,List.mem_cons]at hz9;rcases hz9 with hz9 | rfl | hz9 | hz9
  ·exact(w2 z hz9).2
  ·decide
  ·exact hm z hz9
  ·exact hT z hz9
 rw [e0];have hbt:bs t.data.toList=t:=rfl;rcases hF with⟨rfl,hr⟩ | ⟨rfl,hr⟩ | ⟨rfl,rfl,rfl,h1,h2⟩ | ⟨rfl,rfl,rfl,h1,h2⟩ | ⟨rfl,rfl,rfl⟩
 ·obtain⟨i,rfl,hi⟩:=Vi hr;simp only [Qg,decide_eq_true_eq]at hr;have em:(JI 1 c (i:Int) m).data.toList=(Qr c i false false).data.toList++ [32]:=by unfold JI;rw [if_pos (Or.inl rfl)];simp [spc]
  have pp:=Gt c i (by omega) hi;rw [em,List.append_assoc,List.singleton_append]at c1 c2;obtain⟨d1,d2⟩:=XK (b:=32) t.data.toList (fun z hz=>(pp z hz).1);have eb:bs (Qr c i false false).data.toList=Qr c i false false:=rfl;obtain⟨_,_,_,r4⟩:=Qb1 c i false false (by omega) (by omega);have r5:Yh (rp3 (Qr c i false false)).data.toList=some (i:Int):=Xi (by rw [←DZ];exact r4) (by omega);refine⟨?_,?_,fun z hz9=>nl1 z hz9 (fun y hy=> ?_)⟩
  ·rw [em,List.append_assoc,List.singleton_append];unfold rdI;simp only [c1,c2,w1,d1,d2];rw [if_pos (by simp),eb,hbt,hz (Or.inl rfl),(XC (by omega) (by omega) r5).1,(XC (by omega) (by omega) r5).2]
  ·rw [em,List.append_assoc,List.singleton_append];unfold rdS;simp only [c1,c2,w1,d1,d2];rw [if_neg (by decide),if_pos (by simp),eb,hbt,hz (Or.inl rfl),(XC (by omega) (by omega) r4).1,(XC (by omega) (by omega) r4).2]
  ·rw [em]at hy;simp only [List.mem_append,List.mem_singleton]at hy;rcases hy with hy | rfl
   ·exact(pp y hy).2
   ·decide
 ·obtain⟨i,rfl,hi⟩:=Vi hr;simp only [Qg,decide_eq_true_eq]at hr;have em:(JI 2 c (i:Int) m).data.toList=(Qr c i false false).data.toList++ [32]:=by unfold JI;rw [if_pos (Or.inr rfl)];simp [spc]
  have pp:=Gt c i (by omega) hi;rw [em,List.append_assoc,List.singleton_append]at c1 c2;obtain⟨d1,d2⟩:=XK (b:=32) t.data.toList (fun z hz=>(pp z hz).1);have eb:bs (Qr c i false false).data.toList=Qr c i false false:=rfl;obtain⟨_,_,_,r4⟩:=Qb1 c i false false (by omega) (by omega);have r5:Yh (rp3 (Qr c i false false)).data.toList=some (i:Int):=Xi (by rw [←DZ];exact r4) (by omega);refine⟨?_,?_,fun z hz9=>nl1 z hz9 (fun y hy=> ?_)⟩
  ·rw [em,List.append_assoc,List.singleton_append];unfold rdI;simp only [c1,c2,w1,d1,d2];rw [if_pos (by simp),eb,hbt,hz (Or.inr (Or.inl rfl)),(XC (by omega) (by omega) r5).1,(XC (by omega) (by omega) r5).2]
  ·rw [em,List.append_assoc,List.singleton_append];unfold rdS;simp only [c1,c2,w1,d1,d2];rw [if_neg (by decide),if_pos (by simp),eb,hbt,hz (Or.inr (Or.inl rfl)),(XC (by omega) (by omega) r4).1,(XC (by omega) (by omega) r4).2]
  ·rw [em]at hy;simp only [List.mem_append,List.mem_singleton]at hy;rcases hy with hy | rfl
   ·exact(pp y hy).2
   ·decide
 ·obtain⟨i,rfl⟩: ∃i:Nat,m=(i:Int):=⟨m.toNat,by omega⟩;have hi:i<100:=by omega
  have em:(JI 3 0 0 (i:Int)).data.toList=(Yd i).data.toList++ [32]:=by unfold JI;rw [if_neg (by decide),if_pos (Or.inl rfl)];simp [spc]
  have pp:=Gl i hi;rw [em,List.append_assoc,List.singleton_append]at c1 c2;obtain⟨d1,d2⟩:=XK (b:=32) t.data.toList (fun z hz=>(pp z hz).1);have r4:=Mw i hi;have r5:=Xi r4 h1;have r6:l1I (bs (Yd i).data.toList)=some (i:Int):=by rw [DZ];exact r4
  refine⟨?_,?_,fun z hz9=>nl1 z hz9 (fun y hy=> ?_)⟩
  ·rw [em,List.append_assoc,List.singleton_append];unfold rdI;simp only [c1,c2,w1,d1,d2];rw [if_neg (by simp),if_pos (by simp),hbt,r5];rfl
  ·rw [em,List.append_assoc,List.singleton_append];unfold rdS;simp only [c1,c2,w1,d1,d2];rw [if_neg (by decide),if_neg (by decide),hbt,r6];rfl
  ·rw [em]at hy;simp only [List.mem_append,List.mem_singleton]at hy;rcases hy with hy | rfl
   ·exact(pp y hy).2
   ·decide
 ·obtain⟨i,rfl⟩: ∃i:Nat,m=(i:Int):=⟨m.toNat,by omega⟩;have hi:i<100:=by omega
  have em:(JI 4 0 0 (i:Int)).data.toList=(Yd i).data.toList++ [32]:=by unfold JI;rw [if_neg (by decide),if_pos (Or.inr rfl)];simp [spc]
  have pp:=Gl i hi;rw [em,List.append_assoc,List.singleton_append]at c1 c2;obtain⟨d1,d2⟩:=XK (b:=32) t.data.toList (fun z hz=>(pp z hz).1);have r4:=Mw i hi;have r5:=Xi r4 h1;have r6:l1I (bs (Yd i).data.toList)=some (i:Int):=by rw [DZ];exact r4
  refine⟨?_,?_,fun z hz9=>nl1 z hz9 (fun y hy=> ?_)⟩
  ·rw [em,List.append_assoc,List.singleton_append];unfold rdI;simp only [c1,c2,w1,d1,d2];rw [if_neg (by simp),if_pos (by simp),hbt,r5];rfl
  ·rw [em,List.append_assoc,List.singleton_append];unfold rdS;simp only [c1,c2,w1,d1,d2];rw [if_neg (by decide),if_neg (by decide),hbt,r6];rfl
  ·rw [em]at hy;simp only [List.mem_append,List.mem_singleton]at hy;rcases hy with hy | rfl
   ·exact(pp y hy).2
   ·decide
 ·have em:(JI 5 0 0 m).data.toList= []:=by unfold JI;rw [if_neg (by decide),if_neg (by decide)]
  rw [em,List.nil_append]at c1 c2;refine⟨?_,?_,fun z hz9=>nl1 z hz9 (fun y hy=> ?_)⟩
  ·rw [em,List.nil_append];unfold rdI;simp only [c1,c2,w1];rw [if_neg (by decide),if_neg (by decide),hbt,hz (Or.inr (Or.inr rfl))]
  ·rw [em,List.nil_append];unfold rdS;simp only [c1,c2,w1];rw [if_pos (by decide),hbt,hz (Or.inr (Or.inr rfl))]
  ·rw [em]at hy;cases hy
theorem Dj {L:List SR} {s:ByteArray} (h:DW L=true) (hs:mtT (sK L) (sC L) (sR L) (sT L) (sM L) L.length=s):
  L.length≤30∧ln s.data.toList=(L.map srL,[])∧lnI s.data.toList=L.map srL∧(L.map srL).map rdI=L∧(L.map srL).map rdS=L∧s.data.toList.count 10=L.length:=by
 obtain⟨h30,hall⟩:=EH h
 have hat: ∀i (hi:i<L.length),rdI (srL L[i])=L[i]∧rdS (srL L[i])=L[i]∧ ∀z∈srL L[i],z≠10:=fun i hi=>by
  have h9:=hall i hi;have e:L.getD i dSR=L[i]:=by rw [List.getD_eq_getElem?_getD,List.getElem?_eq_getElem hi];rfl
  unfold sK sC sR sT sM at h9;rw [e]at h9;exact Qk1 (by omega) (by omega) h9
 have hmem: ∀x∈L,rdI (srL x)=x∧rdS (srL x)=x∧ ∀z∈srL x,z≠10:=fun x hx=>by
  obtain⟨i,hi,rfl⟩:=List.getElem_of_mem hx;exact hat i hi
 have e1:s.data.toList=lnT (L.map srL):=by rw [←hs,NF L L.length (Nat.le_refl _),List.take_length]
 have e2:ln s.data.toList=(L.map srL,[]):=by
  rw [e1];refine Qsr (fun y hy=> ?_);obtain⟨x,hx,rfl⟩:=List.mem_map.1 hy;exact(hmem x hx).2.2
 refine⟨h30,e2,?_,?_,?_,?_⟩
 ·unfold lnI;rw [e2];simp
 ·rw [List.map_map];exact(List.map_congr_left fun x hx=>(hmem x hx).1).trans (List.map_id _)
 ·rw [List.map_map];exact(List.map_congr_left fun x hx=>(hmem x hx).2.1).trans (List.map_id _)
 ·rw [←EJ,e2,List.length_map]
theorem Gj {L:List SR} {s:ByteArray} (h:mtL L=s) (hs:s.data.toList≠ []):DW L=true∧mtT (sK L) (sC L) (sR L) (sT L) (sM L) L.length=s:=by
 unfold mtL mtO at h;cases hk:DW L
 ·rw [show Zb (sK L) (sC L) (sR L) (sT L) (sM L) L.length=false from hk]at h;rw [if_neg (by simp)]at h;subst h;exact absurd rfl hs
 ·rw [show Zb (sK L) (sC L) (sR L) (sT L) (sM L) L.length=true from hk,if_pos rfl]at h;exact⟨rfl,h⟩
def rmI (s:ByteArray):List SR:=(lnI s.data.toList).map rdI
def rmS (s:ByteArray):List SR:=(ln s.data.toList).1.map rdS
def rmB (s:ByteArray):Bool:=decide (s.data.toList.count 10≤30)&&(mtL (rmI s)).toList==s.toList
theorem ba_tl {a b:ByteArray}:(a.toList==b.toList)=true↔a=b:=by
 rw [beq_iff_eq];constructor
 ·intro h;apply ByteArray.ext;rw [ByteArray.toList_eq,ByteArray.toList_eq]at h;exact Array.toList_inj.1 h
 ·rintro rfl;rfl
theorem EG:DW []=true:=by unfold DW;exact EF (Nat.zero_le _) (fun i hi=>absurd hi (Nat.not_lt_zero _))
theorem Qc7:mtL []=⟨#[]⟩:=by
 unfold mtL mtO;have h:Zb (sK []) (sC []) (sR []) (sT []) (sM []) ([]:List SR).length=true:=EG;rw [h];rfl
theorem Qsn (s:ByteArray):rmB s=(decide ((ln s.data.toList).2= [])&&decide ((ln s.data.toList).1.length≤30)&&DW (rmS s)&&(mtL (rmS s)).toList==s.toList)∧(rmB s=true→rmS s=rmI s):=by
 by_cases h0:s.data.toList= []
 ·have eI:rmI s= []:=by unfold rmI;rw [h0];rfl
  have eS:rmS s= []:=by unfold rmS;rw [h0];rfl
  have es:s=⟨#[]⟩:=ByteArray.ext (Array.toList_inj.1 (by rw [h0]))
  have eB:rmB s=true:=by
   unfold rmB;rw [eI,Qc7,es,beq_self_eq_true];rfl
  refine⟨?_,fun _=>by rw [eI,eS]⟩;rw [eB,eS,Qc7,EG,es,beq_self_eq_true];rfl
 ·refine⟨Bool.eq_iff_iff.2 ⟨fun h=> ?_,fun h=> ?_⟩,fun h=> ?_⟩
  ·unfold rmB at h;simp only [Bool.and_eq_true,decide_eq_true_eq]at h;obtain⟨h1,h2⟩:=h;obtain⟨k1,k2⟩:=Gj (ba_tl.1 h2) h0;obtain⟨a1,a2,a3,a4,a5,a6⟩:=Dj k1 k2
   have eS:rmS s=rmI s:=by
    have:rmS s=((rmI s).map srL).map rdS:=by unfold rmS;rw [a2]
    rw [this,a5]
   simp only [Bool.and_eq_true,decide_eq_true_eq];rw [eS];exact⟨⟨⟨by rw [a2],by rw [a2,List.length_map];exact a1⟩,k1⟩,h2⟩
  ·simp only [Bool.and_eq_true,decide_eq_true_eq]at h;obtain⟨⟨⟨h1,h2⟩,h3⟩,h4⟩:=h;obtain⟨k1,k2⟩:=Gj (ba_tl.1 h4) h0;obtain⟨a1,a2,a3,a4,a5,a6⟩:=Dj k1 k2
   have eI:rmI s=rmS s:=by
    have:rmI s=((rmS s).map srL).map rdI:=by unfold rmI;rw [a3]
    rw [this,a4]
   unfold rmB;simp only [Bool.and_eq_true,decide_eq_true_eq];rw [eI];exact⟨by rw [a6];exact a1,h4⟩
  ·unfold rmB at h;simp only [Bool.and_eq_true,decide_eq_true_eq]at h;obtain⟨k1,k2⟩:=Gj (ba_tl.1 h.2) h0;obtain⟨a1,a2,a3,a4,a5,a6⟩:=Dj k1 k2;have:rmS s=((rmI s).map srL).map rdS:=by unfold rmS;rw [a2]
   rw [this,a5]
end Go.Proofs.YtejbnnacghbhoaaGreatDoor
