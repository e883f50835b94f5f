import Derived.Test.YtbdhinckiccniaaGreatDoorGzeA
import Derived.Test.YtbdhinckiccniaaGreatDoorGze
import Derived.Test.YtbdhinckiccniaaGreatDoorGas
import Derived.Deep.RegionHeld3
import Derived.Test.YtbdhinckiccniaaGreatDoorGaj
import Derived.Test.YtbdhinckiccniaaGreatDoorPlaceJK
import Derived.Test.YtbdhinckiccniaaGreatDoorShelf
import Derived.Deep.QuietTactic
import Derived.BigQuiet
import Derived.Test.YtbdhinckiccniaaGreatDoorGzj
import Derived.Deep.MidRow
import Derived.RangeFuncCalls
import Derived.Test.YtbdhinckiccniaaGreatDoorGag
import Derived.Test.YtbdhinckiccniaaGreatDoorBase
import Derived.OrdersIn
import Derived.ControlIn
import Derived.CallsIn
import Derived.Test.YtbdhinckiccniaaGreatDoorMn
import Derived.Sort.MapsRangeIn
import Derived.OwnWalkIn
import Derived.LoopIn
import Derived.Shelf.SlIter.Collect
import Derived.Shelf.RegionOpen
set_option linter.unusedSimpArgs false
set_option linter.unusedVariables false
set_option maxHeartbeats 2000000
set_option maxRecDepth 100000
namespace Go.Proofs.YtbdhinckiccniaaGreatDoor
open Go.RowKit
def Hp:List UInt8→Bool
 | b::_=>b==36
 | []=>false
theorem Qes(s:ByteArray):QB s=Hp s.data.toList:=by
 obtain⟨⟨l⟩⟩:=s;cases l with
 | nil=>rfl
 | cons b t=>rfl
theorem Qns(s:ByteArray)(a b:Nat):(s.extract a b).data.toList=(s.data.toList.drop a).take (b-a):=by
 simp[ByteArray.data_extract,Array.toList_extract,List.extract_eq_take_drop]
theorem Qm7(s:ByteArray):(ZL s).data.toList=if Hp s.data.toList then s.data.toList.drop 1 else s.data.toList:=by
 unfold ZL;rw[Qes];split
 ·rw[Qns];apply List.take_of_length_le;simp
 ·rfl
theorem OE: ∀l:List UInt8,l.take (l.takeWhile isL).length=l.takeWhile isL
 | []=>rfl
 | b::t=>by
  cases h:isL b
  ·rw[List.takeWhile_cons,h];rfl
  ·rw[List.takeWhile_cons,h];show b::t.take (t.takeWhile isL).length=_;rw[OE t];rfl
theorem DC: ∀l:List UInt8,l.drop (l.takeWhile isL).length=l.dropWhile isL
 | []=>rfl
 | b::t=>by
  cases h:isL b
  ·rw[List.takeWhile_cons,List.dropWhile_cons,h];rfl
  ·rw[List.takeWhile_cons,List.dropWhile_cons,h];show t.drop (t.takeWhile isL).length=_;rw[DC t];rfl
theorem Qui(s:ByteArray):rpC s=rdc ((ZL s).data.toList.takeWhile isL) 0:=by
 unfold rpC Gj;rw[Qns,List.drop_zero,Nat.sub_zero,OE]
theorem Quk(s:ByteArray):(rp2 s).data.toList=(ZL s).data.toList.dropWhile isL:=by
 unfold rp2 Gj;rw[Qns,DC];apply List.take_of_length_le;have h:=congrArg List.length (List.takeWhile_append_dropWhile (p:=isL) (l:=(ZL s).data.toList));rw[List.length_append]at h;have e:(ZL s).size=(ZL s).data.toList.length:=by simp
 omega
theorem Quj(s:ByteArray):(rp3 s).data.toList=if Hp (rp2 s).data.toList then(rp2 s).data.toList.drop 1 else(rp2 s).data.toList:=Qm7 _
def fxL(b:Bool):List UInt8:=if b then [36]else []
theorem fx_L(b:Bool):(fx b).data.toList=fxL b:=by cases b<;>rfl
theorem Qbx(c:Int)(i:Nat)(x y:Bool):(Qw c i x y).data.toList=fxL x++(ZM c).data.toList++fxL y++(YV i).data.toList:=by
 unfold Qw;simp[fx_L]
theorem Uf(c:Int)(h1:1≤c)(h2:c≤52):(∀b∈(ZM c).data.toList,isL b=true)∧(ZM c).data.toList≠ []:=by
 by_cases h:c≤26
 ·rw[Vj h1 h];have e:(UInt8.ofNat (65+(c-1)).toNat).toNat=(65+(c-1)).toNat:=by simp;omega
  refine⟨fun b hb=> ?_,by simp⟩;simp only[List.mem_singleton]at hb;subst hb;unfold isL;rw[e];exact decide_eq_true (by omega)
 ·rw[Vi (by omega) h2];have e:(UInt8.ofNat (65+(c-27)).toNat).toNat=(65+(c-27)).toNat:=by simp;omega
  refine⟨fun b hb=> ?_,by simp⟩;simp only[List.mem_cons,List.not_mem_nil,or_false]at hb;rcases hb with rfl | rfl
  ·rfl
  ·unfold isL;rw[e];exact decide_eq_true (by omega)
theorem Qip: ∀i,i<100→(match (YV i).data.toList with | d::_=> !isL d&& !(d==36) | []=>false)=true:=by decide+kernel
theorem Qlp: ∀i,i<100→l1L (YV i).data.toList=some (i:Int):=by decide+kernel
theorem Qcd(x:Bool)(l:List UInt8)(h:Hp l=false):Hp (fxL x++l)=x∧(if Hp (fxL x++l)then(fxL x++l).drop 1 else fxL x++l)=l:=by
 cases x
 ·show Hp l=false∧(if Hp l then l.drop 1 else l)=l;rw[h];exact⟨rfl,rfl⟩
 ·exact⟨rfl,rfl⟩
theorem Qh8(b:UInt8)(h:isL b=true):(b==36)=false:=by
 cases hb:(b==36)
 ·rfl
 ·rw[beq_iff_eq]at hb;subst hb;cases h
theorem Qmd(c:Int)(i:Nat)(x y:Bool)(hc:1≤c∧c≤52)(hi:1≤i∧i≤99):QB (Qw c i x y)=x∧rpC (Qw c i x y)=c∧QB (rp2 (Qw c i x y))=y∧l1I (rp3 (Qw c i x y))=some (i:Int):=by
 obtain⟨hl,hne⟩:=Uf c hc.1 hc.2;have hd:=Qip i (by omega);have e0:(Qw c i x y).data.toList=fxL x++((ZM c).data.toList++(fxL y++(YV i).data.toList)):=by rw[Qbx];simp only[List.append_assoc]
 have h1:Hp ((ZM c).data.toList++(fxL y++(YV i).data.toList))=false:=by
  cases hq:(ZM c).data.toList with
  | nil=>exact absurd hq hne
  | cons b t=>exact Qh8 b (hl b (by rw[hq];simp))
 obtain⟨a1,a2⟩:=Qcd x _ h1
 have h2:Hp (YV i).data.toList=false:=by
  revert hd
  cases (YV i).data.toList with
  | nil=>intro h;cases h
  | cons b t=>
   intro h;have h9:(!isL b&& !(b==36))=true:=h;rw[Bool.and_eq_true]at h9;show(b==36)=false;simpa using h9.2
 obtain⟨b1,b2⟩:=Qcd y _ h2;have ecut:(ZL (Qw c i x y)).data.toList=(ZM c).data.toList++(fxL y++(YV i).data.toList):=by rw[Qm7,e0];exact a2
 have hnl:(fxL y++(YV i).data.toList).takeWhile isL= []:=by
  cases y
  ·show((YV i).data.toList).takeWhile isL= [];revert hd
   cases (YV i).data.toList with
   | nil=>intro h;cases h
   | cons b t=>
    intro h;have h9:(!isL b&& !(b==36))=true:=h;rw[Bool.and_eq_true]at h9;rw[List.takeWhile_cons,show isL b=false by simpa using h9.1];rfl
  ·rfl
 have hdw:(fxL y++(YV i).data.toList).dropWhile isL=fxL y++(YV i).data.toList:=by
  have h:=List.takeWhile_append_dropWhile (p:=isL) (l:=fxL y++(YV i).data.toList);rw[hnl]at h;exact h
 have e2:(rp2 (Qw c i x y)).data.toList=fxL y++(YV i).data.toList:=by
  rw[Quk,ecut,List.dropWhile_append_of_pos hl,hdw]
 refine⟨by rw[Qes,e0];exact a1,?_,by rw[Qes,e2];exact b1,?_⟩
 ·rw[Qui,ecut,List.takeWhile_append_of_pos hl,hnl,List.append_nil];exact Qfp c hc.1 hc.2
 ·rw[Qrn,Quj,e2,b2];exact Qlp i (by omega)
theorem own_plain{s:ByteArray}(h:Mu s=true):(∀b∈s.data.toList,b≠10)∧s.size≤200:=by
 unfold Mu at h;cases hi:inF s with
 | none=>rw[hi]at h;cases h
 | some t=>
  unfold inF at hi;split at hi
  ·rename_i hw
   unfold QE at hw;simp only[Bool.and_eq_true,decide_eq_true_eq]at hw;refine⟨fun b hb e=> ?_,hw.1⟩;have h9:=hw.2;unfold Zy at h9;have h8:=List.all_eq_true.1 h9 b hb;subst e
   revert h8
   decide
  ·cases hi
theorem Qnt(l:List UInt8):(bs l).data.toList=l:=rfl
def cw(b:UInt8)(l:List UInt8):List UInt8:=l.takeWhile fun x=> !(x==b)
def cr(b:UInt8)(l:List UInt8):List UInt8:=(l.dropWhile fun x=> !(x==b)).drop 1
theorem Qm5(b:UInt8)(l:List UInt8):(cw b l).length≤l.length:=List.Sublist.length_le (List.takeWhile_sublist _)
theorem Qew(b:UInt8)(l:List UInt8):(cr b l).length≤l.length:=by
 unfold cr;rw[List.length_drop];have:=List.Sublist.length_le (List.dropWhile_sublist (fun x=> !(x==b)) (l:=l));omega
theorem VT(b x:UInt8)(l:List UInt8)(h:x≠b):cw b (x::l)=x::cw b l:=by
 unfold cw;rw[List.takeWhile_cons,if_pos (by simp[h])]
theorem MS(b x:UInt8)(l:List UInt8)(h:x≠b):cr b (x::l)=cr b l:=by
 unfold cr;rw[List.dropWhile_cons,if_pos (by simp[h])]
theorem On(b:UInt8)(l:List UInt8):cw b (b::l)= []:=by
 unfold cw;rw[List.takeWhile_cons,if_neg (by simp)]
theorem Qex(b:UInt8)(l:List UInt8):cr b (b::l)=l:=by
 unfold cr;rw[List.dropWhile_cons,if_neg (by simp)];rfl
theorem JC{b:UInt8}: ∀{x:List UInt8} (y:List UInt8),(∀z∈x,z≠b)→cw b (x++b::y)=x∧cr b (x++b::y)=y
 | [],y,_=>⟨On b y,Qex b y⟩
 | z::x,y,h=>by
  have h1:z≠b:=h z (by simp);obtain⟨a1,a2⟩:=JC (x:=x) y (fun w hw=>h w (by simp[hw]));rw[List.cons_append,VT _ _ _ h1,MS _ _ _ h1,a1,a2];exact⟨rfl,rfl⟩
theorem Jg{b:UInt8}: ∀{x:List UInt8},(∀z∈x,z≠b)→cw b x=x∧cr b x= []
 | [],_=>⟨rfl,rfl⟩
 | z::x,h=>by
  have h1:z≠b:=h z (by simp);obtain⟨a1,a2⟩:=Jg (x:=x) (fun w hw=>h w (by simp[hw]));rw[VT _ _ _ h1,MS _ _ _ h1,a1,a2];exact⟨rfl,rfl⟩
def lnS(q:List (List UInt8) × List UInt8)(b:UInt8):List (List UInt8) × List UInt8:=if b=10 then(q.1++ [q.2],[])else(q.1,q.2++ [b])
def ln(l:List UInt8):List (List UInt8) × List UInt8:=l.foldl lnS ([],[])
theorem Qgc(l:List UInt8)(b:UInt8):ln (l++ [b])=lnS (ln l) b:=by unfold ln;rw[List.foldl_append];rfl
theorem Em: ∀(l:List UInt8) (a:List (List UInt8)) (p:List UInt8),(∀z∈p,z≠10)→l.foldl lnS (a,p)=(a++(ln (p++l)).1,(ln (p++l)).2):=by
 have one: ∀(p:List UInt8) (a:List (List UInt8)),(∀z∈p,z≠10)→ ∀q,p.foldl lnS (a,q)=(a,q++p):=by
  intro p;induction p with
  | nil=>intro a _ q;simp
  | cons z p ih=>
   intro a h q;rw[List.foldl_cons,show lnS (a,q) z=(a,q++ [z]) by unfold lnS;rw[if_neg (h z (by simp))],ih a (fun w hw=>h w (by simp[hw]))];simp
 have gen: ∀(l:List UInt8) (a a2:List (List UInt8)) (p:List UInt8),l.foldl lnS (a++a2,p)=(a++(l.foldl lnS (a2,p)).1,(l.foldl lnS (a2,p)).2):=by
  intro l;induction l with
  | nil=>intro a a2 p;rfl
  | cons z l ih=>
   intro a a2 p;rw[List.foldl_cons,List.foldl_cons];unfold lnS;split
   ·show List.foldl lnS (a++a2++ [p],[]) l=_;rw[List.append_assoc,ih];rfl
   ·exact ih a a2 _
 intro l a p h;have h1:=gen l a [] p;rw[List.append_nil]at h1;rw[h1];unfold ln;rw[List.foldl_append,one p [] h []];rfl
theorem Qnr{x:List UInt8}(y:List UInt8)(h: ∀z∈x,z≠10):ln (x++10::y)=(x::(ln y).1,(ln y).2):=by
 have h1:ln (x++10::y)=(10::y).foldl lnS ([],x):=by
  have h2:=Em (10::y) [] x h;rw[h2];simp
 rw[h1,List.foldl_cons];have h3:=Em y [x] [] (by simp);show y.foldl lnS ([]++ [x],[])=_;rw[List.nil_append,h3];rfl
theorem Qgd{x:List UInt8}(h: ∀z∈x,z≠10):ln x=([],x):=by
 have h2:=Em [] [] x h;rw[List.append_nil]at h2;have h3:=h2;simp only[List.foldl_nil,List.nil_append]at h3;exact h3.symm
def lnI(l:List UInt8):List (List UInt8):=(ln l).1++if(ln l).2= []then []else [(ln l).2]
theorem En:lnI []= []:=rfl
theorem Qb6{l:List UInt8}(h:l≠ []):lnI l=cw 10 l::lnI (cr 10 l):=by
 by_cases h1:10∈l
 ·obtain⟨x,y,rfl,hx⟩:=List.eq_append_cons_of_mem h1;have hx2: ∀z∈x,z≠10:=fun z hz e=>hx (e▸hz);obtain⟨a1,a2⟩:=JC (b:=10) y hx2;rw[a1,a2];unfold lnI;rw[Qnr y hx2];rfl
 ·have hx2: ∀z∈l,z≠10:=fun z hz e=>h1 (e▸hz);obtain⟨a1,a2⟩:=Jg hx2;rw[a1,a2];unfold lnI;rw[Qgd hx2];show []++(if l= []then []else [l])=l::lnI [];rw[if_neg h]
  rfl
theorem Qb5(l:List UInt8):(ln l).1.length=l.count 10:=by
 suffices h: ∀(l:List UInt8) (a:List (List UInt8)) (p:List UInt8),(l.foldl lnS (a,p)).1.length=a.length+l.count 10 by
  have:=h l [] [];rw[List.length_nil,Nat.zero_add]at this;exact this
 intro l;induction l with
 | nil=>intro a p;rfl
 | cons z l ih=>
  intro a p;rw[List.foldl_cons,List.count_cons];by_cases e:z=10
  ·rw[show lnS (a,p) z=(a++ [p],[])from if_pos e,ih,List.length_append,if_pos (by simpa using e)];simp;omega
  ·rw[show lnS (a,p) z=(a,p++ [z])from if_neg e,ih,if_neg (by simpa using e)];rfl
theorem Qb4(l:List UInt8):(∀x∈(ln l).1,x.length≤l.length)∧(ln l).2.length≤l.length:=by
 suffices h: ∀(l:List UInt8) (a:List (List UInt8)) (p:List UInt8) (N:Nat),(∀x∈a,x.length≤N)→p.length+l.length≤N→(∀x∈(l.foldl lnS (a,p)).1,x.length≤N)∧(l.foldl lnS (a,p)).2.length≤N by
  exact h l [] [] l.length (by simp) (by simp)
 intro l;induction l with
 | nil=>intro a p N h1 h2;exact⟨h1,by simpa using h2⟩
 | cons z l ih=>
  intro a p N h1 h2;rw[List.length_cons]at h2;rw[List.foldl_cons];unfold lnS;split
  ·refine ih _ _ N (fun x hx=> ?_) (by simp;omega);rcases List.mem_append.1 hx with hx | hx
   ·exact h1 x hx
   ·rw[List.mem_singleton]at hx;subst hx;omega
  ·refine ih _ _ N h1 (by rw[List.length_append];simp;omega)
def lnT(xs:List (List UInt8)):List UInt8:=xs.flatMap fun x=>x++ [10]
theorem Qvr: ∀{xs:List (List UInt8)},(∀x∈xs,∀z∈x,z≠10)→ln (lnT xs)=(xs,[])
 | [],_=>rfl
 | x::xs,h=>by
  have e:lnT (x::xs)=x++10::lnT xs:=by unfold lnT;simp
  rw[e,Qnr _ (h x (by simp)),Qvr (xs:=xs) (fun y hy=>h y (by simp[hy]))]
theorem DE: ∀i,i<100→ ∀z∈(YV i).data.toList,z≠32∧z≠10:=by decide+kernel
theorem Qaq(c:Int)(i:Nat)(h:1≤c∧c≤52)(hi:i<100): ∀z∈(Qw c i false false).data.toList,z≠32∧z≠10:=by
 intro z hz;rw[Qbx]at hz;simp only[fxL,if_neg (Bool.false_ne_true),List.nil_append,List.append_nil,List.mem_append]at hz;rcases hz with hz | hz
 ·have h9:=(Uf c h.1 h.2).1 z hz;unfold isL at h9;have h8:=of_decide_eq_true h9;exact⟨fun e=>by subst e;revert h8;decide,fun e=>by subst e;revert h8;decide⟩
 ·exact DE i hi z hz
theorem Nv(b:UInt8): ∀l:List UInt8,l.take (cw b l).length=cw b l∧l.drop ((cw b l).length+1)=cr b l
 | []=>⟨rfl,rfl⟩
 | x::l=>by
  by_cases h:x=b
  ·subst h;rw[On,Qex];exact⟨rfl,rfl⟩
  ·obtain⟨a1,a2⟩:=Nv b l;rw[VT _ _ _ h,MS _ _ _ h];exact⟨by rw[List.length_cons,List.take_succ_cons,a1],by rw[List.length_cons,List.drop_succ_cons,a2]⟩
theorem Dv(b:UInt8): ∀l:List UInt8,(b∈l→Lib.index l [b]=((cw b l).length:Int))∧(b∉l→Lib.index l [b]= -1)
 | []=>⟨fun h=>(nomatch h),fun _=>rfl⟩
 | x::l=>by
  obtain⟨a1,a2⟩:=Dv b l;unfold Lib.index;by_cases h:x=b
  ·subst h;exact⟨fun _=>by rw[if_pos (by simp),On];rfl,fun h9=>absurd (List.mem_cons_self ..) h9⟩
  ·have hp: ¬([b].isPrefixOf (x::l)=true):=by simp[List.isPrefixOf];exact fun e=>h e.symm
   rw[if_neg hp];refine⟨fun h9=> ?_,fun h9=> ?_⟩
   ·have h8:b∈l:=by rcases List.mem_cons.1 h9 with e | e;exact absurd e.symm h;exact e
    rw[a1 h8,if_neg (by simp),VT _ _ _ h,List.length_cons];omega
   ·rw[a2 (fun e=>h9 (List.mem_cons_of_mem _ e))];first | done | rfl
theorem YF(b:UInt8): ∀l:List UInt8,(b∈l→Lib.indexByte l b=((cw b l).length:Int))∧(b∉l→Lib.indexByte l b= -1)
 | []=>⟨fun h=>(nomatch h),fun _=>rfl⟩
 | x::l=>by
  obtain⟨a1,a2⟩:=YF b l;unfold Lib.indexByte;by_cases h:x=b
  ·subst h;exact⟨fun _=>by rw[if_pos (by simp),On];rfl,fun h9=>absurd (List.mem_cons_self ..) h9⟩
  ·rw[if_neg (by simp[h])];refine⟨fun h9=> ?_,fun h9=> ?_⟩
   ·have h8:b∈l:=by rcases List.mem_cons.1 h9 with e | e;exact absurd e.symm h;exact e
    rw[a1 h8,if_neg (by simp),VT _ _ _ h,List.length_cons];omega
   ·rw[a2 (fun e=>h9 (List.mem_cons_of_mem _ e))];first | done | rfl
theorem GV(b:UInt8)(l:List UInt8):(Lib.cut l [b]).1=cw b l∧(Lib.cut l [b]).2.1=cr b l:=by
 obtain⟨a1,a2⟩:=Dv b l;obtain⟨c1,c2⟩:=Nv b l;by_cases h:b∈l
 ·unfold Lib.cut;rw[a1 h,if_pos (by omega)];exact⟨by simpa using c1,by simpa using c2⟩
 ·obtain⟨d1,d2⟩:=Jg (b:=b) (x:=l) (fun z hz e=>h (e▸hz));unfold Lib.cut;rw[a2 h,if_neg (by decide),d1,d2];exact⟨rfl,rfl⟩
theorem BS(l:List UInt8):Lib.trimSuffix (l++ [10]) [10]=l:=by
 unfold Lib.trimSuffix Lib.hasSuffix;simp
theorem Qff{l:List UInt8}(h: ∀z∈l,z≠10):Lib.trimSuffix l [10]=l:=by
 unfold Lib.trimSuffix Lib.hasSuffix;by_cases hs:([10]:List UInt8).isSuffixOf l=true
 ·have h1:=List.isSuffixOf_iff_suffix.1 hs;obtain⟨t,rfl⟩:=h1;exact absurd rfl (h 10 (by simp))
 ·simp only[hs];rfl
theorem Qas(s:ByteArray)(w:World):Calls Tryz.prog 32 #[.string s,.string ⟨#[10]⟩] w fun e w'=>e= .returned (.int .i64 (s.data.toList.count 10:Nat))∧w'=w:=
 Tryz.strings_Count_one s 10 w
theorem Qdp(s:ByteArray)(w:World)(hs:s.size≤1048577):Calls Tryz.prog 35 #[.string s,.string ⟨#[10]⟩] w fun e w'=>e= .returned (.string (bs (Lib.trimSuffix s.data.toList [10])))∧w'=w:=
 Tryz.strings_TrimSuffix s ⟨#[10]⟩ w (by omega)
theorem Qkp(s:ByteArray)(b:UInt8)(w:World)(hs:s.size≤1048576)(hm:MX w):Calls Tryz.prog 74 #[.string s,.string ⟨#[b]⟩] w fun e w'=>
  (∃f:Bool,e= .returned (.tuple #[.string (bs (cw b s.data.toList)),.string (bs (cr b s.data.toList)),.bool f]))∧ ∃n,w'=w.drewN n:=by
 obtain⟨m,hm⟩:=hm;refine(Tryz.strings_Cut s ⟨#[b]⟩ m w (by omega) hm).mono ?_;rintro e w' ⟨rfl,hw⟩;obtain⟨e1,e2⟩:=GV b s.data.toList;have e0:(⟨#[b]⟩:ByteArray).data.toList= [b]:=rfl;refine⟨⟨(Lib.cut s.data.toList [b]).2.2,?_⟩,hw⟩;rw[e0,e1,e2]
 rfl
theorem Jr(s:ByteArray)(w:World):Calls Tryz.prog 73 #[.string s,.int .u8 10] w fun e w'=>e= .returned (.int .i64 (Lib.indexByte s.data.toList 10))∧w'=w:=
 Tryz.strings_IndexByte s 10 w
theorem Qqo(s:ByteArray)(a b:Nat):(s.extract a b).data.toList=(s.data.toList.drop a).take (b-a):=by
 simp[ByteArray.data_extract,Array.toList_extract,List.extract_eq_take_drop]
theorem at_L(s:ByteArray)(k:Nat)(hk:k<s.size):s.data.toList=s.data.toList.take k++s[k]::s.data.toList.drop (k+1):=by
 have h1:k<s.data.toList.length:=by simpa using hk
 have h2:s.data.toList[k]=s[k]:=by simp;rfl
 rw[←h2];exact(List.take_append_drop k _).symm.trans (congrArg _ (List.drop_eq_getElem_cons h1))
theorem Qfi{s:ByteArray}{b:UInt8}{k:Nat}(hk:k≤s.size)(h: ∀j (hj:j<k),s[j]'(by omega)≠b): ∀z∈s.data.toList.take k,z≠b:=by
 intro z hz;obtain⟨j,hj,rfl⟩:=List.getElem_of_mem hz;rw[List.length_take]at hj;rw[List.getElem_take];exact h j (by omega)
theorem Qti{s:ByteArray}{b:UInt8}{k:Nat}(hk:k<s.size)(h: ∀j (hj:j<k),s[j]'(by omega)≠b)(e:s[k]=b):bs (cw b s.data.toList)=s.extract 0 k∧bs (cr b s.data.toList)=s.extract (k+1) s.size:=by
 have h1:=at_L s k hk;rw[e]at h1;obtain⟨a1,a2⟩:=JC (b:=b) (s.data.toList.drop (k+1)) (Qfi (Nat.le_of_lt hk) h);rw[←h1]at a1 a2;rw[a1,a2];constructor
 ·apply ByteArray.ext;apply Array.toList_inj.1;rw[Qqo];show _=_;simp[bs]
 ·apply ByteArray.ext;apply Array.toList_inj.1;rw[Qqo];show s.data.toList.drop (k+1)=_;rw[List.take_of_length_le];simp
theorem Qtj{s:ByteArray}{b:UInt8}(h: ∀j (hj:j<s.size),s[j]'(by omega)≠b):bs (cw b s.data.toList)=s∧bs (cr b s.data.toList)=⟨#[]⟩:=by
 have h1:=Qfi (Nat.le_refl s.size) h;rw[List.take_of_length_le (by simp)]at h1;obtain⟨a1,a2⟩:=Jg h1;rw[a1,a2];exact⟨rfl,rfl⟩
theorem Qa3{n:Nat}{w W:World}(h:Below n w W)(k:Nat):Below n w (W.drewN k):=by
 induction k with
 | zero=>exact h
 | succ k ih=>first | exact ih.drew | (rw[World.drewN_succ];exact ih.drew)
theorem Qao(s:ByteArray)(w:World)(hs:s.size≤1048576):Calls Tryz.prog 28 #[.string s] w fun e w'=>
  e= .returned (.tuple #[.string (bs (cw 32 s.data.toList)),.string (bs (cr 32 s.data.toList))])∧Below w.heap.size w w':=by
 go_enter Tryz.func28,Tryz.ntmps28;go_wp2_with fail
 go_loop [4] (fun v=> ∃k:Nat,∃hk:k≤s.size,v= .int .i64 k∧ ∀j,(hj:j<k)→s[j]'(by omega)≠32) (fun v=>s.size-(intOf v).toNat)
 case atStart=>exact⟨0,Nat.zero_le _,rfl,fun j hj=>by omega⟩
 case round=>
  obtain⟨k,hk,rfl,hr⟩:=hrel;have HR:Hid (∀j,(hj:j<k)→s[j]'(by omega)≠32):=hr;clear hr;have hk0:(0:Int)≤(k:Int):=by omega
  by_cases hlt:k<s.size
  ·have hlt':(k:Int)<(s.size:Int):=by omega
   have hne: ¬(k:Int)=(s.size:Int):=by omega
   by_cases hb:s[k]=32
   ·have HC:Hid (bs (cw 32 s.data.toList)=s.extract 0 k∧bs (cr 32 s.data.toList)=s.extract (k+1) s.size):=Qti hlt HR.out hb;have h32:(s[k].toNat:Int)=32:=by rw[hb];rfl
    have q1:(k:Int)+1≤(s.size:Int):=by omega
    have q0:(0:Int)≤(k:Int)+1:=by omega
    have q2:IntKind.i64.wrap ((k:Int)+1)=(k:Int)+1:=by rw[IntKind.wrap_i64];omega
    go_wp2_with fail
    go_quiet (fail)
    go_wp2_with fail
    refine bodyPost_ret (v:= .tuple #[.string (s.extract 0 k),.string (s.extract (k+1) s.size)]) ?_ rfl ⟨by rw[HC.out.1,HC.out.2],Qa3 (by go_grown) _⟩;simp (maxDischargeDepth:=9) [results,Tryz.results28,go_sem, *]
   ·have HL:Hid (∀j,(hj:j<k+1)→s[j]'(by omega)≠32):=fun j hj=>by
     by_cases e:j=k
     ·subst e;exact hb
     ·exact HR.out j (by omega)
    have h32: ¬(s[k].toNat:Int)=32:=fun e=>hb (by apply UInt8.toNat_inj.1;show s[k].toNat=32;omega);clear hb;go_wp2_with fail
    go_round
    case rel=>exact⟨k+1,by omega,by go_num,HL.out⟩
    case measure=>simp[intOf];omega
  ·have hlt': ¬(k:Int)<(s.size:Int):=by omega
   obtain rfl:k=s.size:=by omega
   have HC:Hid (bs (cw 32 s.data.toList)=s∧bs (cr 32 s.data.toList)=⟨#[]⟩):=Qtj HR.out;go_wp2_with fail
   refine bodyPost_ret (v:= .tuple #[.string s,.string ⟨#[]⟩]) ?_ rfl ⟨by rw[HC.out.1,HC.out.2],by go_grown⟩;simp (maxDischargeDepth:=9) [results,Tryz.results28,go_sem, *]
theorem Qkw:(Tryz.prog.info? 9).map (fun i=>(i.zero,i.size,i.bytes))=some (some (.string ⟨#[]⟩),1,16):=by kernel_rfl
theorem Mt{W:World}{B g:Nat}{e:TypeId}{size:Nat}(hB:B≤W.heap.size)(hg:g=W.heap.size):(W.alloc (.cells #[] e)).ownsRow B e size (.slice (some ⟨g,0,none⟩) 0 0) 0 []:=by
 subst hg;exact World.ownsRow_made W #[] 0 hB (Nat.zero_le _) (by simp)
def stB(xs:List (List UInt8)):List Value:=xs.map fun l=> .string (bs l)
theorem Qbj(xs:List (List UInt8))(x:List UInt8):stB (xs++ [x])=stB xs++ [.string (bs x)]:=by unfold stB;rw[List.map_append];rfl
theorem DX{w wi w1:World}{B:Nat}{e:TypeId}{size n:Nat}{v:Value}{xs:List Value}{o:Obj}(hown:wi.ownsRow B e size v n xs)(hbel:Below B w wi)(hB:B≤wi.heap.size)(hgrow:(wi.alloc o).grownBy w1 v.ownBlock):Below B w w1:=
 (hbel.alloc hB _).grown hgrow (by simp;omega) (fun k hk=>by have:=(hown.lt k hk).1;omega)
theorem Qpy{s:ByteArray}{k:Nat}(hk:k<s.size):ln (s.data.toList.take (k+1))=lnS (ln (s.data.toList.take k)) s[k]:=by
 rw[List.take_add_one,List.getElem?_eq_getElem (by simpa using hk)];exact Qgc _ _
theorem NR(s:ByteArray)(w:World)(hs:s.size≤1048576):Calls Tryz.prog 27 #[.string s] w fun e w'=>
  ∃v,e= .returned (.tuple #[v,.bool (decide ((ln s.data.toList).2= []))])∧w'.ownsRow w.heap.size 9 1 v (ln s.data.toList).1.length (stB (ln s.data.toList).1)∧Below w.heap.size w w':=by
 obtain⟨i0,hi,hz0,hz1,hz2⟩:=info_parts Qkw;go_enter Tryz.func27,Tryz.ntmps27;go_wp2_with fail
 go_loopw [4,5,6] (fun v p i wr=> ∃k:Nat,k≤s.size∧i= .int .i64 k∧p= .string (bs (ln (s.data.toList.take k)).2)∧wr.ownsRow w.heap.size 9 1 v (ln (s.data.toList.take k)).1.length (stB (ln (s.data.toList.take k)).1)∧Below w.heap.size w wr) (fun _ _ i _=>s.size-(intOf i).toNat)
 case atStart=>exact⟨0,Nat.zero_le _,rfl,rfl,Mt (Nat.le_refl _) rfl,by go_grown⟩
 case round=>
  obtain⟨k,hk,rfl,rfl,hown,hbel⟩:=hrel;have hk0:(0:Int)≤(k:Int):=by omega
  have hls:=Qb4 (s.data.toList.take k)
  have hlc:(ln (s.data.toList.take k)).1.length≤k:=by
   rw[Qb5];exact Nat.le_trans List.count_le_length (by rw[List.length_take];omega)
  have hl2:(ln (s.data.toList.take k)).2.length≤k:=Nat.le_trans hls.2 (by rw[List.length_take];omega);clear hls;obtain⟨⟨xs,q⟩,HQ⟩: ∃q,Hid (ln (s.data.toList.take k)=q):=⟨_,rfl⟩;rw[HQ.out]at hown hlc hl2 ⊢;have HW:Hid (wr.ownsRow w.heap.size 9 1 u4 xs.length (stB xs)):=hown;have KA:Hid (Below w.heap.size w wr):=hbel;replace hlc:xs.length≤k:=hlc
  replace hl2:q.length≤k:=hl2;have hqz:(bs q).size≤k:=hl2;clear hown hbel hl2;by_cases hlt:k<s.size
  ·have hlt':(k:Int)<(s.size:Int):=by omega
   have HN:Hid (ln (s.data.toList.take (k+1))=lnS (xs,q) s[k]):=by show _=_;rw[Qpy hlt,HQ.out]
   by_cases hb:s[k]=10
   ·have h32:(s[k].toNat:Int)=10:=by rw[hb];rfl
    have HM:Hid (ln (s.data.toList.take (k+1))=(xs++ [q],[])):=by show _=_;rw[HN.out];exact if_pos hb
    clear HN hb;obtain⟨p,HP⟩: ∃p,Hid (bs q=p):=⟨_,rfl⟩;rw[HP.out]at hqz ⊢
    go_wp2_with (first
     | (at_builtin;refine wpList_append_own _ rfl _ _ 61 rfl w.heap.size 9 i0 (.string ⟨#[]⟩) 1 16 Tryz.underlying61 hi hz0 hz1 hz2 rfl (by decide) _ _ _ rfl (HW.out.alloc _) ⟨wr.heap.size,0,none⟩ 1 1 [.string p] rfl rfl ?c1 ?c2 ?c3 ?c4 ?c5 ?_)
     | go_in)
    case c1=>
     intro q u hq;match q,hq with
     | 0,hq=>simp at hq;subst hq;simp[Addr.add]
    case c2=>intro u hu;simp at hu;subst hu;rfl
    case c3=>unfold maxLen;omega
    case c4=>omega
    case c5=>have:=KA.out.size;simp;omega
    intro v' w1' hown' hgrow _;have R2:=DX HW.out KA.out KA.out.size hgrow;have HW':Hid (w1'.ownsRow w.heap.size 9 1 v' (xs++ [q]).length (stB (xs++ [q]))):=by show World.ownsRow _ _ _ _ _ _ _;rw[Qbj,List.length_append,HP.out];exact hown'
    clear hown' hgrow HW;go_wp2_with fail
    go_roundw
    case rel=>exact⟨k+1,by omega,by go_num,by rw[HM.out];rfl,by rw[HM.out];exact HW'.out,R2⟩
    case measure=>simp[intOf];omega
   ·have h32: ¬(s[k].toNat:Int)=10:=fun e=>hb (by apply UInt8.toNat_inj.1;show s[k].toNat=10;omega);have HM:Hid (ln (s.data.toList.take (k+1))=(xs,q++ [s[k]])):=by show _=_;rw[HN.out];exact if_neg hb
    clear HN hb
    have HE:Hid (s.extract k (k+1)=bs [s[k]]):=by
     apply ByteArray.ext;apply Array.toList_inj.1;rw[Qqo];show _= [s[k]];have h1:k<s.data.toList.length:=by simpa using hlt
     rw[List.drop_eq_getElem_cons h1,show k+1-k=1 by omega];simp;rfl
    obtain⟨c,HCC⟩: ∃c,Hid (s.extract k (k+1)=c):=⟨_,rfl⟩;have hcz:c.size=1:=by rw[←HCC.out,HE.out];rfl
    obtain⟨p,HP⟩: ∃p,Hid (bs q=p):=⟨_,rfl⟩;have HA:Hid (p++c=bs (q++ [s[k]])):=by show _=_;rw[←HP.out,←HCC.out,HE.out,QK]
    rw[HP.out]at hqz ⊢;have hcc:=HCC.out;have q1:(k:Int)+1≤(s.size:Int):=by omega
    have q0:(0:Int)≤(k:Int)+1:=by omega
    have q3:(k:Int)≤(k:Int)+1:=by omega
    have q2:IntKind.i64.wrap ((k:Int)+1)=(k:Int)+1:=by rw[IntKind.wrap_i64];omega
    have q4: ¬9223372036854775807<p.size+1:=by omega
    have q5: ¬9223372036854775807<p.size+c.size:=by omega
    go_wp2_with fail
    go_roundw
    case rel=>exact⟨k+1,by omega,by go_num,by rw[HM.out];exact congrArg Value.string HA.out,by rw[HM.out];exact HW.out,KA.out⟩
    case measure=>simp[intOf];omega
  ·have hlt': ¬(k:Int)<(s.size:Int):=by omega
   obtain rfl:k=s.size:=by omega
   have HE:Hid (s.data.toList.take s.size=s.data.toList):=List.take_of_length_le (by simp);rw[HE.out]at HQ
   have HD:Hid ((bs q).toList.isEmpty=decide (q= [])):=by
    show _=_;rw[ByteArray.toList_eq];cases q<;>rfl
   go_wp2_with fail
   refine bodyPost_ret (v:= .tuple #[u4,.bool (bs q).toList.isEmpty]) ?_ rfl ⟨_,by rw[HQ.out,HD.out],by rw[HQ.out];exact HW.out,KA.out⟩;simp (maxDischargeDepth:=9) [results,Tryz.results27,go_sem, *]
def OnlyN(Q:Exit→Act→World→Prop):Exit→Act→World→Prop
 | .normal,a,w=>Q .normal a w
 | _,_,_=>False
def My(ops:Array Oper):Bool:=ops.all fun o=>match o.op with
 | .defer _=>false
 | _=>true
theorem Qdo{ops:Array Oper}(h:My ops=true){i:Nat}{o:Oper}(ho:ops[i]? =some o): ∀c,o.op≠ .defer c:=fun c e=>by
 unfold My at h;rw[Array.all_eq_true_iff_forall_mem]at h;have:=h o (Array.mem_of_getElem? ho);rw[e]at this;cases this
theorem OnlyN.out{Q:Exit→Act→World→Prop}(h:LetsOut (OnlyN Q)):False:=by
 obtain⟨a,w,h⟩:=h;exact h
end Go.Proofs.YtbdhinckiccniaaGreatDoor
namespace Go.Proofs.YtbdhinckiccniaaGreatDoor
open Go.RowKit Go.Maps Go.Sort Go.Shelf
def szW(W:World)(b:Nat):Nat:=match W.cell? ⟨b,0,none⟩with
 | some (.string s)=>s.size
 | _=>0
theorem Hc{W:World}{b:Nat}{s:ByteArray}(h:W.cell? ⟨b,0,none⟩=some (.string s)):szW W b=s.size:=by unfold szW;rw[h]
theorem Qss{r:ByteArray}(h:10∈r.data.toList): ∃i:Nat,i<r.size∧Lib.indexByte r.data.toList 10=(i:Int)∧r.extract 0 (i+1)=bs (cw 10 r.data.toList++ [10])∧r.extract (i+1) r.size=bs (cr 10 r.data.toList):=by
 obtain⟨x,y,e,hx⟩:=List.eq_append_cons_of_mem h;have hx2: ∀z∈x,z≠10:=fun z hz e=>hx (e▸hz);obtain⟨a1,a2⟩:=JC (b:=10) y hx2;rw[←e]at a1 a2
 have hz:r.size=x.length+(y.length+1):=by
  have:=congrArg List.length e;simpa using this
 refine⟨x.length,by omega,by rw[(YF 10 _).1 h,a1],?_,?_⟩
 ·apply ByteArray.ext;apply Array.toList_inj.1;rw[Qqo,a1,e];show _=x++ [10];rw[List.drop_zero,Nat.sub_zero,List.take_append,List.take_of_length_le (by omega)];simp
 ·apply ByteArray.ext;apply Array.toList_inj.1;rw[Qqo,a2,e];show _=y;rw[List.drop_append,List.drop_of_length_le (by omega)];simp;exact List.take_of_length_le (by omega)
theorem GN{P:Program}{n:Nat}{o:Oper}{a:Act}{w:World}{K K':Act→World→Prop}{Q:Exit→Act→World→Prop}(hdq: ∀c,o.op≠ .defer c)(hK: ∀a w,K a w→K' a w)(h:o.wp P a w K (OnlyN Q)):o.wpIn Fence.wide n P a w K' (OnlyN Q):=by
 refine⟨fun _ _=>trivial,?_⟩;rw[Oper.semAt_eq _ _ _ hdq];unfold Oper.wp at h;generalize (execOp a.eval o).run P w=r at*
 cases r with
 | ok x w'=>
  cases x with
  | value v=>exact hK _ _ h
  | skip=>exact hK _ _ h
  | defer d=>exact hK _ _ h
  | enter f args=>
   refine⟨(fun e=>by cases e),?_⟩;exact CallsIn.mono (callsIn_wide.2 h) (fun e w'' he=>by cases e<;>first | exact hK _ _ he | exact he)
  | row row args=>
   refine⟨(fun e=>by cases e),?_⟩
   exact fun c cs _=>by
    obtain⟨v,w2,r,s⟩:=h c cs;exact⟨v,w2,hK _ _ r,stepsIn_wide.2 s⟩
  | _=>exact h.elim
 | halt x w'=>cases x<;>first | exact h | exact h.elim
theorem Jo{P:Program}{md:Region.Mode}{ops:Array Oper}{Q:Exit→Act→World→Prop}{n:Nat}(hdq:My ops=true): ∀(fuel:Nat) (listed:Array Bool) (a:Act) (w:World),wpAny P md ops (OnlyN Q) fuel listed a w→wpAnyIn Fence.wide n P md ops (OnlyN Q) fuel listed a w
 | 0,_,_,_,h=>h
 | fuel+1,listed,a,w,h=>⟨h.1,fun i hi=>by
  have h9:=h.2 i hi;unfold wpOp at h9;unfold wpOpIn;cases ho:ops[i]? with
  | none=>rw[ho]at h9;exact Jo hdq fuel _ _ _ h9
  | some o=>
   rw[ho]at h9;simp only at h9 ⊢;split
   ·rename_i hw
    rw[if_pos hw]at h9;rcases h9 with h9 | h9
    ·exact GN (Qdo hdq ho) (fun a' w' h'=>Jo hdq fuel _ a' w' h') h9
    ·exact(OnlyN.out h9.2).elim
   ·rename_i hw
    rw[if_neg hw]at h9
    exact⟨fun _ _=>trivial,Jo hdq fuel _ _ _ h9⟩⟩
theorem GU{P:Program}{ops:Array Oper}{Q:Exit→Act→World→Prop}{S:World→Prop}{n id:Nat}{a:Act}{w:World}(hm:P.follows .mixedOrders=true)(hdq:My ops=true)(hS:S w.drew)
  (h:S w.drew→wpAnyH P .any ops (OnlyN Q) S ops.size (Array.replicate ops.size false) a w.drew):(Code.region id ops true).wpIn Fence.wide n P Q a w:=fun b k cs hro hb hr=>by
 obtain⟨e,a',w',q,r⟩:=wpIn_region_any (id:=id) hm (Jo (n:=n) hdq _ _ _ _ (wpAny_of_held _ _ _ _ (h hS))) b k cs hro hb hr;refine⟨e,a',w',?_,r⟩;cases e<;>first | exact q | exact q.elim
end Go.Proofs.YtbdhinckiccniaaGreatDoor
