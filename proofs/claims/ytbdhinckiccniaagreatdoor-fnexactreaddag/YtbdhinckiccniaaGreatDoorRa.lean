import Derived.Test.YtbdhinckiccniaaGreatDoorMn
import Derived.Test.YtbdhinckiccniaaGreatDoorSf
import Derived.Test.YtbdhinckiccniaaGreatDoorGar
import Derived.Test.YtbdhinckiccniaaGreatDoorGah
import Derived.Test.YtbdhinckiccniaaGreatDoorGze
import Derived.Test.YtbdhinckiccniaaGreatDoorSa
import Derived.Lib.ItoaLen
import Derived.Test.YtbdhinckiccniaaGreatDoorSb
import Derived.Lib.SplitLaws
import Derived.Test.YtbdhinckiccniaaGreatDoorSe
import Derived.Deep.AppendLies
set_option linter.unusedSimpArgs false
set_option linter.unusedVariables false
set_option maxHeartbeats 4000000
namespace Go.Proofs.YtbdhinckiccniaaGreatDoor
open Go.RowKit
theorem Qnc{n:Int}(h:ZP n=true):Yt (itB n).data.toList=some n:=by
 have hb:=Qer h;have h1:=Du n (by omega) (by omega);obtain⟨h2,h3⟩:=Dc h1;exact Ef (l:=Lib.itoa n) h3 h2
theorem Qob(m:Nat): ∀b∈Lib.decDigits m,48≤b.toNat∧b.toNat≤57:=by
 induction m using Nat.strongRecOn with
 | ind m ih=>
  intro b hb;rw[Lib.decDigits]at hb;split at hb
  ·rw[List.mem_singleton]at hb;rw[hb];simp;omega
  ·rcases List.mem_append.1 hb with hb | hb
   ·exact ih (m/10) (by omega) b hb
   ·rw[List.mem_singleton]at hb;rw[hb];simp;omega
theorem Qbr{n:Int}(h:0≤n):(itB n).data.toList=Lib.decDigits n.toNat:=by
 have:=Lib.itoa_nonneg n.toNat;rw[show((n.toNat:Nat):Int)=n by omega]at this;rw[←this];rfl
theorem Qj3{C R:Nat→Int}{n:Nat}(h:XN C R n=true): ∀i,i<n→QS C R i=true:=by
 unfold XN at h;rw[List.all_eq_true]at h;exact fun i hi=>h i (List.mem_range.2 hi)
theorem Qj2{C R:Nat→Int}{n:Nat}(h:XN C R n=true): ∀i,i<n→Qh (C i) (R i)=true:=fun i hi=>by
 have:=Qj3 h i hi;unfold QS at this;simp only[Bool.and_eq_true]at this;exact this.1
def lX(l:List UInt8):Option Nat:=if l.length≤10 then l16 l else none
theorem Qpd{s:ByteArray}(h:s.size<1∨10<s.size):lX s.data.toList=none:=by
 have e:s.data.toList.length=s.size:=rfl;unfold lX;split
 ·unfold l16;rw[if_pos (by omega)]
 ·rfl
theorem Qnx{s:ByteArray}(h:1<s.size)(h0:(s[0]'(by omega)).toNat=48):lX s.data.toList=none:=by
 have e:s.data.toList.length=s.size:=rfl;unfold lX;split
 ·unfold l16;rw[if_pos];right;right
  refine⟨?_,by omega⟩;rw[Yz (by omega)];congr 1
  apply UInt8.toNat_inj.1;rw[h0];rfl
 ·rfl
theorem Qsf{s:ByteArray}(h0:0<s.size)(hX:s.size≤10)(h:(s[0]'h0).toNat≠48∨s.size=1):lX s.data.toList=Zm s.data.toList 0:=by
 have e:s.data.toList.length=s.size:=rfl;unfold lX;rw[if_pos (by omega)];unfold l16;rw[if_neg];rintro(hh | hh | ⟨hh,hl⟩)
 ·omega
 ·omega
 ·rw[Yz h0]at hh;have hb:s[0]'h0=48:=by simpa using hh
  have:(s[0]'h0).toNat=48:=by rw[hb];rfl
  omega
theorem Qcp(s:ByteArray)(w:World)(hs:s.size≤281474976710656)(hp:0<s.size)(hX:s.size≤10)(hz:(s[0]'hp).toNat≠48∨s.size=1):Calls Tryz.prog 29 #[.string s,.int .i64 10] w fun e w'=>
  e= .returned (o16 (Zm s.data.toList 0))∧w'=w:=by
 have k1: ¬(s.size:Int)<1:=by omega
 have k2: ¬(10:Int)<(s.size:Int):=by omega
 have k3:(0:Int)<(s.size:Int):=by omega
 by_cases h0:(s[0]'hp).toNat=48
 ·have h1: ¬(1:Int)<(s.size:Int):=by omega
  have h0':((s[0]'hp).toNat:Int)=48:=by omega
  have HE:Hid (Zm s.data.toList 0=some 0):=Qa2 (by omega) h0;go_enter Tryz.func29,Tryz.ntmps29;go_wp2_with fail
  refine wp_loop_rounds 4 ?_;rw[rounds_succ];go_wp2
  rw[rounds_succ];go_wp2
  refine bodyPost_ret (v:= .tuple #[.int .i64 0,.bool true]) ?_ rfl ⟨by rw[HE.out];rfl,rfl⟩;simp (maxDischargeDepth:=9) [results,Tryz.results29,go_sem, *]
 have n0: ¬((s[0]'hp).toNat:Int)=48:=by omega
 have m0:(((s[0]'hp).toNat:Int)==48)=false:=by simpa using n0
 go_enter Tryz.func29,Tryz.ntmps29;go_wp2_with fail
 go_loop [6,7] (fun v6 v7=> ∃(k m:Nat),k≤s.size∧v6= .int .i64 m∧v7= .int .i64 k∧m<10^k∧Zm (s.data.toList.drop k) m=Zm s.data.toList 0) (fun _ v7=>s.size-(intOf v7).toNat)
 case atStart=>exact⟨0,0,Nat.zero_le _,rfl,rfl,by simp,rfl⟩
 case round=>
  obtain⟨k,m,hk,rfl,rfl,hm,hr⟩:=hrel;have HR:Hid (Zm (s.data.toList.drop k) m=Zm s.data.toList 0):=hr;have HM:Hid (m<10^k):=hm
  have hm2:m<10000000000000000:=by
   have:10^k≤10^16:=Nat.pow_le_pow_right (by omega) (by omega);have e:(10:Nat)^16=10000000000000000:=rfl;omega
  clear hr hm;have q0:(0:Int)≤(k:Int):=by omega
  by_cases hlt:k<s.size
  ·have q1:(k:Int)<(s.size:Int):=by omega
   have HD:Hid (Zm (s.data.toList.drop k) m=if 48≤s[k].toNat∧s[k].toNat≤57 then Zm (s.data.toList.drop (k+1)) (m*10+(s[k].toNat-48))else none):=Qin hlt m;by_cases ha:s[k].toNat<48
   ·have ha':(s[k].toNat:Int)<48:=by omega
    have HE:Hid (Zm s.data.toList 0=none):=by show _=_;rw[←HR.out,HD.out,if_neg (by omega)]
    go_wp2_with fail
    refine bodyPost_ret (v:= .tuple #[.int .i64 0,.bool false]) ?_ rfl ⟨by rw[HE.out];rfl,rfl⟩;simp (maxDischargeDepth:=9) [results,Tryz.results29,go_sem, *]
   have na: ¬(s[k].toNat:Int)<48:=by omega
   by_cases hb:57<s[k].toNat
   ·have hb':57<(s[k].toNat:Int):=by omega
    have HE:Hid (Zm s.data.toList 0=none):=by show _=_;rw[←HR.out,HD.out,if_neg (by omega)]
    go_wp2_with fail
    refine bodyPost_ret (v:= .tuple #[.int .i64 0,.bool false]) ?_ rfl ⟨by rw[HE.out];rfl,rfl⟩;simp (maxDischargeDepth:=9) [results,Tryz.results29,go_sem, *]
   have nb: ¬57<(s[k].toNat:Int):=by omega
   have HE:Hid (Zm (s.data.toList.drop (k+1)) (m*10+(s[k].toNat-48))=Zm s.data.toList 0):=by show _=_;rw[←HR.out,HD.out,if_pos (by omega)]
   go_wp2_with fail
   all_goals
    go_round
    case rel=>exact⟨k+1,m*10+(s[k].toNat-48),by omega,by congr 1;omega,by go_num,by have:=HM.out;rw[Nat.pow_succ];omega,HE.out⟩
    case measure=>simp[intOf];omega
  ·have q1: ¬(k:Int)<(s.size:Int):=by omega
   have HE:Hid (Zm s.data.toList 0=some m):=by show _=_;rw[←HR.out,List.drop_of_length_le (by simp;omega)];rfl
   go_wp2_with fail
   refine bodyPost_ret (v:= .tuple #[.int .i64 m,.bool true]) ?_ rfl ⟨by rw[HE.out];rfl,rfl⟩;simp (maxDischargeDepth:=9) [results,Tryz.results29,go_sem, *]
theorem Qa4(s:ByteArray)(w:World)(hs:s.size≤281474976710656):Calls Tryz.prog 29 #[.string s,.int .i64 10] w fun e w'=>
  e= .returned (o16 (lX s.data.toList))∧w'=w:=by
 by_cases h0:s.size<1
 ·have HE:Hid (lX s.data.toList=none):=Qpd (Or.inl h0);have h1:(s.size:Int)<1:=by omega
  go_enter Tryz.func29,Tryz.ntmps29;go_wp2
  refine bodyPost_ret (v:= .tuple #[.int .i64 0,.bool false]) ?_ rfl ⟨by rw[HE.out];rfl,rfl⟩;simp (maxDischargeDepth:=9) [results,Tryz.results29,go_sem, *]
 have k1: ¬(s.size:Int)<1:=by omega
 by_cases hX:10<s.size
 ·have HE:Hid (lX s.data.toList=none):=Qpd (Or.inr hX);have h1:(10:Int)<(s.size:Int):=by omega
  go_enter Tryz.func29,Tryz.ntmps29;go_wp2
  refine bodyPost_ret (v:= .tuple #[.int .i64 0,.bool false]) ?_ rfl ⟨by rw[HE.out];rfl,rfl⟩;simp (maxDischargeDepth:=9) [results,Tryz.results29,go_sem, *]
 have k2: ¬(10:Int)<(s.size:Int):=by omega
 have hp:0<s.size:=by omega
 have k3:(0:Int)<(s.size:Int):=by omega
 by_cases hz:(s[0]'hp).toNat=48∧1<s.size
 ·have HE:Hid (lX s.data.toList=none):=Qnx hz.2 hz.1;have h1:(1:Int)<(s.size:Int):=by omega
  have h2:((s[0]'hp).toNat:Int)=48:=by omega
  clear hz;go_enter Tryz.func29,Tryz.ntmps29;go_wp2
  refine bodyPost_ret (v:= .tuple #[.int .i64 0,.bool false]) ?_ rfl ⟨by rw[HE.out];rfl,rfl⟩;simp (maxDischargeDepth:=9) [results,Tryz.results29,go_sem, *]
 ·have hz':(s[0]'hp).toNat≠48∨s.size=1:=by omega
  rw[Qsf hp (by omega) hz'];exact Qcp s w hs hp (by omega) hz'
theorem Qjb{s:ByteArray}(h:nmB s=true): ∀z∈s.data.toList,z≠32∧z≠10:=by
 unfold nmB at h;simp only[Bool.and_eq_true,List.all_eq_true]at h;intro z hz;have h9:=h.2 z hz;unfold Qpx at h9;have h8:=of_decide_eq_true h9;constructor
 ·rintro rfl;exact absurd h8.1 (by decide)
 ·rintro rfl;exact absurd h8.1 (by decide)
theorem Qs{b:Int}(h0:0≤b): ∀z∈(itB b).data.toList,z≠32∧z≠10:=by
 intro z hz;rw[Qbr h0]at hz;have h9:=Qob _ z hz;exact⟨fun e=>by subst e;revert h9;decide,fun e=>by subst e;revert h9;decide⟩
theorem Qtt(b:Int)(h0:0≤b):(itB b).data.toList≠ []:=by
 rw[Qbr h0,Lib.decDigits];split
 ·simp
 ·simp
theorem Bu{c r:Int}(h:Qh c r=true): ∀z∈(plB c r).data.toList,z≠32∧z≠10:=by
 obtain⟨i,rfl,h1,h2⟩:=Qbq h;unfold plB;rw[if_pos h];simp only[Qh,decide_eq_true_eq]at h;exact Qaq c i (by omega) (by omega)
theorem Qhk(i:Nat)(h:i<100): ∃l d,(YV i).data.toList=l++ [d]∧48≤d.toNat∧d.toNat≤57:=by
 unfold YV;split
 ·exact⟨[],UInt8.ofNat (48+i),rfl,by simp;omega,by simp;omega⟩
 ·exact⟨[UInt8.ofNat (48+i/10)],UInt8.ofNat (48+i%10),rfl,by simp;omega,by simp;omega⟩
theorem Qi6{c r:Int}(h:Qh c r=true): ∃l d,(plB c r).data.toList=l++ [d]∧48≤d.toNat∧d.toNat≤57:=by
 obtain⟨i,rfl,h1,h2⟩:=Qbq h;unfold plB;rw[if_pos h];obtain⟨l,d,e,h3,h4⟩:=Qhk i (by omega);rw[Int.toNat_natCast,Qbx,e];exact⟨_,d,(List.append_assoc _ _ _).symm,h3,h4⟩
structure CQ where
 c:Int
 r:Int
 s:ByteArray
structure RV where
 id:Int
 ups:List Int
 cs:List CQ
structure RQ where
 next:Int
 bl:List BR
 vs:List RV
def qC(L:List CQ)(i:Nat):Int:=((L[i]?).map CQ.c).getD 0
def qR(L:List CQ)(i:Nat):Int:=((L[i]?).map CQ.r).getD 0
def qS(L:List CQ)(i:Nat):ByteArray:=((L[i]?).map CQ.s).getD ⟨#[]⟩
def vrQ(x:RV):VR:=⟨x.id,x.ups,x.cs.length,qC x.cs,qR x.cs,qS x.cs⟩
def dgQ(q:RQ):DG:=⟨q.next,q.vs.map vrQ,q.bl⟩
def q0:RQ:=⟨0,[],[]⟩
def lnQ(c:CQ):ByteArray:=plB c.c c.r++sSp++c.s
theorem Qh5(x:RV):JV (vrQ x) x.cs.length=x.cs.map lnQ:=by
 unfold JV;apply List.ext_getElem?;intro i;rw[List.getElem?_map,List.getElem?_map];by_cases h:i<x.cs.length
 ·rw[List.getElem?_range h,List.getElem?_eq_getElem h];show some (Qnd (vrQ x) i)=some (lnQ x.cs[i]);unfold Qnd lnQ vrQ qC qR qS;simp only[List.getElem?_eq_getElem h,Option.map_some,Option.getD_some]
 ·rw[List.getElem?_eq_none (by simpa using h),List.getElem?_eq_none (by omega)];rfl
def Qb7(vs:List RV)(c:CQ):Option (List RV):=match vs.getLast? with
 | none=>none
 | some x=>some (vs.dropLast++ [⟨x.id,x.ups,x.cs++ [c]⟩])
theorem Jx(vs:List RV)(x:RV)(c:CQ):Qb7 (vs++ [x]) c=some (vs++ [⟨x.id,x.ups,x.cs++ [c]⟩]):=by
 unfold Qb7;simp
def UF:List UInt8:= [100,97,103]
def wBr:List UInt8:= [98,114,97,110,99,104]
def wVr:List UInt8:= [118,101,114,115,105,111,110]
abbrev Zp:=List UInt8→Option Int
abbrev Yo:=List UInt8→Option (Int × List Int)
abbrev XA:=List UInt8→Option (Int × Int)
def stG(num:Zp)(ids:Yo)(pl:XA)(q:RQ)(l:List UInt8):Option RQ:=
 if cw 32 l=UF then(num (cr 32 l)).map fun n=>⟨n,q.bl,q.vs⟩
 else if cw 32 l=wBr then(num (cr 32 (cr 32 l))).map fun n=>⟨q.next,q.bl++ [⟨bs (cw 32 (cr 32 l)),n⟩],q.vs⟩
 else if cw 32 l=wVr then(ids (cr 32 l)).map fun p=>⟨q.next,q.bl,q.vs++ [⟨p.1,p.2,[]⟩]⟩
 else(pl (cw 32 l)).bind fun p=>(Qb7 q.vs ⟨p.1,p.2,bs (cr 32 l)⟩).map fun v=>⟨q.next,q.bl,v⟩
def Qy(num:Zp)(ids:Yo)(pl:XA):RQ→List (List UInt8)→Option RQ
 | q,[]=>some q
 | q,l::r=>(stG num ids pl q l).bind fun q'=>Qy num ids pl q' r
theorem ZE(num:Zp)(ids:Yo)(pl:XA): ∀(a b:List (List UInt8)) (q:RQ),Qy num ids pl q (a++b)=(Qy num ids pl q a).bind fun q'=>Qy num ids pl q' b
 | [],b,q=>rfl
 | l::a,b,q=>by
  show(stG num ids pl q l).bind _=((stG num ids pl q l).bind _).bind _;cases stG num ids pl q l with
  | none=>rfl
  | some q'=>exact ZE num ids pl a b q'
theorem Br(num:Zp)(ids:Yo)(pl:XA)(a:List (List UInt8))(l:List UInt8)(q:RQ):Qy num ids pl q (a++ [l])=(Qy num ids pl q a).bind fun q'=>stG num ids pl q' l:=by
 rw[ZE];congr 1
 funext q'
 show(stG num ids pl q' l).bind (fun q'=>some q')=_;cases stG num ids pl q' l<;>rfl
structure RqOk (q:RQ):Prop where
 nx:0≤q.next∧q.next≤1000000000
 br: ∀x∈q.bl,(∀z∈x.n.data.toList,z≠32∧z≠10)∧0≤x.h∧x.h≤1000000000
 vr: ∀x∈q.vs,(0≤x.id∧x.id≤1000000000)∧(∀u∈x.ups,0≤u∧u≤1000000000)∧ ∀c∈x.cs,Qh c.c c.r=true∧ ∀z∈c.s.data.toList,z≠10
def upL(ups:List Int):List UInt8:=ups.flatMap fun u=>32::(itB u).data.toList
structure GoodG (num:Zp) (ids:Yo) (pl:XA):Prop where
 hn: ∀b:Int,0≤b→b≤1000000000→num (itB b).data.toList=some b
 hi: ∀(b:Int) (ups:List Int),(0≤b∧b≤1000000000)→(∀u∈ups,0≤u∧u≤1000000000)→ids ((itB b).data.toList++upL ups)=some (b,ups)
 hp: ∀c r:Int,Qh c r=true→pl (plB c r).data.toList=some (c,r)
theorem Ev(n:Int):(Qi7 n).data.toList=UF++32::(itB n).data.toList:=by unfold Qi7 sDag UF;simp
theorem Qac(b:BR):(Qnh b).data.toList=wBr++32::(b.n.data.toList++32::(itB b.h).data.toList):=by unfold Qnh sBr sSp wBr;simp
theorem DZ: ∀(l:List Int) (a:ByteArray),(GO l a).data.toList=a.data.toList++upL l
 | [],a=>by simp[GO,upL]
 | u::l,a=>by
  show(GO l (a++(sSp++itB u))).data.toList=_;rw[DZ l];unfold upL sSp;simp
theorem DU(x:VR):(Ko x).data.toList=wVr++32::((itB x.id).data.toList++upL x.ups):=by
 unfold Ko;rw[DZ];unfold sVr wVr;simp
theorem Qc2(c:CQ):(lnQ c).data.toList=(plB c.c c.r).data.toList++32::c.s.data.toList:=by unfold lnQ sSp;simp
theorem Qfx(s:ByteArray):bs s.data.toList=s:=rfl
theorem Qow(l:List UInt8):cw 32 (UF++32::l)=UF∧cr 32 (UF++32::l)=l:=JC l (by decide)
theorem Qtb(l:List UInt8):cw 32 (wBr++32::l)=wBr∧cr 32 (wBr++32::l)=l:=JC l (by decide)
theorem Qs9(l:List UInt8):cw 32 (wVr++32::l)=wVr∧cr 32 (wVr++32::l)=l:=JC l (by decide)
theorem Ql5{num:Zp}{ids:Yo}{pl:XA}(hg:GoodG num ids pl)(q:RQ)(n:Int)(h:0≤n∧n≤1000000000):stG num ids pl q (Qi7 n).data.toList=some ⟨n,q.bl,q.vs⟩:=by
 obtain⟨a,b⟩:=Qow (itB n).data.toList;unfold stG;rw[Ev,a,b,if_pos rfl,hg.hn n h.1 h.2];rfl
theorem Qqs{num:Zp}{ids:Yo}{pl:XA}(hg:GoodG num ids pl)(q:RQ)(x:BR)(h:(∀z∈x.n.data.toList,z≠32∧z≠10)∧0≤x.h∧x.h≤1000000000):stG num ids pl q (Qnh x).data.toList=some ⟨q.next,q.bl++ [x],q.vs⟩:=by
 obtain⟨a,b⟩:=Qtb (x.n.data.toList++32::(itB x.h).data.toList);obtain⟨a2,b2⟩:=JC (b:=32) (itB x.h).data.toList (fun z hz=>(h.1 z hz).1);unfold stG;rw[Qac,a,b,a2,b2,if_neg (by decide),if_pos rfl,hg.hn x.h h.2.1 h.2.2,Qfx];rfl
theorem Qp8{num:Zp}{ids:Yo}{pl:XA}(hg:GoodG num ids pl)(q:RQ)(x:VR)(h:0≤x.id∧x.id≤1000000000)(hu: ∀u∈x.ups,0≤u∧u≤1000000000):stG num ids pl q (Ko x).data.toList=some ⟨q.next,q.bl,q.vs++ [⟨x.id,x.ups,[]⟩]⟩:=by
 obtain⟨a,b⟩:=Qs9 ((itB x.id).data.toList++upL x.ups);unfold stG;rw[DU,a,b,if_neg (by decide),if_neg (by decide),if_pos rfl,hg.hi x.id x.ups h hu];rfl
theorem Qne{c r:Int}(h:Qh c r=true):(plB c r).data.toList≠UF∧(plB c r).data.toList≠wBr∧(plB c r).data.toList≠wVr:=by
 obtain⟨l,d,e,h1,h2⟩:=Qi6 h
 have key: ∀(w:List UInt8),(∀z,w.getLast? =some z→ ¬(48≤z.toNat∧z.toNat≤57))→(plB c r).data.toList≠w:=fun w hw e2=>by
  rw[e]at e2;refine hw d ?_ ⟨h1,h2⟩;rw[←e2];simp
 refine⟨key _ ?_,key _ ?_,key _ ?_⟩;all_goals (intro z hz;simp[UF,wBr,wVr]at hz;subst hz;decide)
theorem Qql{num:Zp}{ids:Yo}{pl:XA}(hg:GoodG num ids pl)(q:RQ)(vs:List RV)(x:RV)(c:CQ)(h:Qh c.c c.r=true)(hv:q.vs=vs++ [x]):stG num ids pl q (lnQ c).data.toList=some ⟨q.next,q.bl,vs++ [⟨x.id,x.ups,x.cs++ [c]⟩]⟩:=by
 obtain⟨a,b⟩:=JC (b:=32) c.s.data.toList (fun z hz=>(Bu h z hz).1);obtain⟨n1,n2,n3⟩:=Qne h;unfold stG;rw[Qc2,a,b,if_neg n1,if_neg n2,if_neg n3,hg.hp _ _ h,Option.bind_some,hv];show(Qb7 (vs++ [x]) ⟨c.c,c.r,bs c.s.data.toList⟩).map _=_;rw[Qfx,Jx];rfl
def tl(ps:List ByteArray):List (List UInt8):=ps.map fun p=>p.data.toList
theorem Qkd{num:Zp}{ids:Yo}{pl:XA}(hg:GoodG num ids pl): ∀(L:List BR) (q:RQ),(∀x∈L,(∀z∈x.n.data.toList,z≠32∧z≠10)∧0≤x.h∧x.h≤1000000000)→Qy num ids pl q (tl (L.map Qnh))=some ⟨q.next,q.bl++L,q.vs⟩
 | [],q,_=>by simp[tl,Qy]
 | x::L,q,h=>by
  show(stG num ids pl q (Qnh x).data.toList).bind _=_;rw[Qqs hg q x (h x (List.mem_cons_self ..)),Option.bind_some];show Qy num ids pl _ (tl (L.map Qnh))=_;rw[Qkd hg L _ fun y hy=>h y (List.mem_cons_of_mem _ hy)];simp
theorem Qj9{num:Zp}{ids:Yo}{pl:XA}(hg:GoodG num ids pl)(vs:List RV): ∀(L:List CQ) (q:RQ) (x:RV),q.vs=vs++ [x]→(∀c∈L,Qh c.c c.r=true)→Qy num ids pl q (tl (L.map lnQ))=some ⟨q.next,q.bl,vs++ [⟨x.id,x.ups,x.cs++L⟩]⟩
 | [],q,x,hv,_=>by
  rcases q with⟨n,b,v⟩
  cases hv
  simp[tl,Qy]
 | c::L,q,x,hv,h=>by
  show(stG num ids pl q (lnQ c).data.toList).bind _=_;rw[Qql hg q vs x c (h c (List.mem_cons_self ..)) hv,Option.bind_some];show Qy num ids pl _ (tl (L.map lnQ))=_;rw[Qj9 hg vs L _ ⟨x.id,x.ups,x.cs++ [c]⟩ rfl fun y hy=>h y (List.mem_cons_of_mem _ hy)];simp
theorem DT(x:RV):Ql9 (vrQ x)=Ko (vrQ x)::x.cs.map lnQ:=by
 unfold Ql9;rw[show(vrQ x).m=x.cs.length from rfl,Qh5]
theorem Qj7{num:Zp}{ids:Yo}{pl:XA}(hg:GoodG num ids pl): ∀(L:List RV) (q:RQ),(∀x∈L,(0≤x.id∧x.id≤1000000000)∧(∀u∈x.ups,0≤u∧u≤1000000000)∧ ∀c∈x.cs,Qh c.c c.r=true∧ ∀z∈c.s.data.toList,z≠10)→Qy num ids pl q (tl ((L.map vrQ).flatMap Ql9))=some ⟨q.next,q.bl,q.vs++L⟩
 | [],q,_=>by simp[tl,Qy]
 | x::L,q,h=>by
  have e:tl (((x::L).map vrQ).flatMap Ql9)=((Ko (vrQ x)).data.toList::tl (x.cs.map lnQ))++tl ((L.map vrQ).flatMap Ql9):=by
   rw[List.map_cons,List.flatMap_cons,DT];unfold tl;simp
  obtain⟨h1,h2,h3⟩:=h x (List.mem_cons_self ..)
  have e1:Qy num ids pl q ((Ko (vrQ x)).data.toList::tl (x.cs.map lnQ))=some ⟨q.next,q.bl,q.vs++ [x]⟩:=by
   show(stG num ids pl q (Ko (vrQ x)).data.toList).bind _=_;rw[Qp8 hg q (vrQ x) h1 h2,Option.bind_some];exact(Qj9 hg q.vs x.cs _ ⟨x.id,x.ups,[]⟩ rfl fun c hc=>(h3 c hc).1).trans (by simp)
  rw[e,ZE,e1,Option.bind_some,Qj7 hg L _ fun y hy=>h y (List.mem_cons_of_mem _ hy)];simp
theorem Qef{num:Zp}{ids:Yo}{pl:XA}(hg:GoodG num ids pl){q:RQ}(h:RqOk q):Qy num ids pl q0 (tl (Qec (dgQ q)))=some q:=by
 have e:tl (Qec (dgQ q))= [(Qi7 q.next).data.toList]++(tl (q.bl.map Qnh)++tl ((q.vs.map vrQ).flatMap Ql9)):=by
  unfold tl Qec dgQ;simp
 rw[e,ZE]
 have e1:Qy num ids pl q0 [(Qi7 q.next).data.toList]=some ⟨q.next,[],[]⟩:=by
  show(stG num ids pl q0 _).bind _=_;rw[Ql5 hg q0 _ h.nx];rfl
 rw[e1,Option.bind_some,ZE,Qkd hg q.bl _ h.br,Option.bind_some,Qj7 hg q.vs _ h.vr];simp
theorem Qha{ups:List Int}(h: ∀u∈ups,0≤u∧u≤1000000000): ∀z∈upL ups,z≠10:=by
 intro z hz;unfold upL at hz;obtain⟨u,hu,hz⟩:=List.mem_flatMap.1 hz;rcases List.mem_cons.1 hz with rfl | hz
 ·decide
 ·exact(Qs (h u hu).1 z hz).2
theorem Qco{q:RQ}(h:RqOk q): ∀l∈tl (Qec (dgQ q)),∀z∈l,z≠10:=by
 intro l hl z hz;unfold tl at hl;obtain⟨p,hp,rfl⟩:=List.mem_map.1 hl;unfold Qec at hp;rcases List.mem_cons.1 hp with rfl | hp
 ·rw[Ev]at hz;rcases List.mem_append.1 hz with hz | hz
  ·exact(by decide: ∀z∈UF,z≠10) z hz
  rcases List.mem_cons.1 hz with rfl | hz
  ·decide
  ·exact(Qs h.nx.1 z hz).2
 rcases List.mem_append.1 hp with hp | hp
 ·obtain⟨x,hx,rfl⟩:=List.mem_map.1 hp;have hb:=h.br x hx;rw[Qac]at hz;rcases List.mem_append.1 hz with hz | hz
  ·exact(by decide: ∀z∈wBr,z≠10) z hz
  rcases List.mem_cons.1 hz with rfl | hz
  ·decide
  rcases List.mem_append.1 hz with hz | hz
  ·exact(hb.1 z hz).2
  rcases List.mem_cons.1 hz with rfl | hz
  ·decide
  ·exact(Qs hb.2.1 z hz).2
 ·obtain⟨y,hy,hp⟩:=List.mem_flatMap.1 hp;obtain⟨x,hx,rfl⟩:=List.mem_map.1 hy;obtain⟨h1,h2,h3⟩:=h.vr x hx;rw[DT]at hp;rcases List.mem_cons.1 hp with rfl | hp
  ·rw[DU]at hz;rcases List.mem_append.1 hz with hz | hz
   ·exact(by decide: ∀z∈wVr,z≠10) z hz
   rcases List.mem_cons.1 hz with rfl | hz
   ·decide
   rcases List.mem_append.1 hz with hz | hz
   ·exact(Qs h1.1 z hz).2
   ·exact Qha h2 z hz
  ·obtain⟨c,hc,rfl⟩:=List.mem_map.1 hp;rw[Qc2]at hz;rcases List.mem_append.1 hz with hz | hz
   ·exact(Bu (h3 c hc).1 z hz).2
   rcases List.mem_cons.1 hz with rfl | hz
   ·decide
   ·exact(h3 c hc).2 z hz
theorem Qo2(ps:List ByteArray):XV ps=lnT (tl ps):=by
 unfold XV lnT tl;rw[List.flatMap_map]
theorem Qq5{q:RQ}(h:RqOk q):ln (XV (Qec (dgQ q)))=(tl (Qec (dgQ q)),[]):=by rw[Qo2];exact Qvr (Qco h)
theorem Hi: ∀(ws:List (List UInt8)) (w:List UInt8) (k:Nat),(∀z∈w,z≠32)→(∀x∈ws,∀z∈x,z≠32)→ws.length≤k→Lib.splitK [32] 0 k (w++ws.flatMap fun x=>32::x)=w::ws
 | [],w,k,hw,_,_=>by
  have hn:(32:UInt8)∉w:=fun h=>hw 32 h rfl;simp only[List.flatMap_nil,List.append_nil];cases k with
  | zero=>rfl
  | succ k=>
   unfold Lib.splitK;rw[if_pos (by rw[(Dv 32 w).2 hn];rfl)]
 | x::ws,w,0,_,_,hk=>by simp at hk
 | x::ws,w,k+1,hw,hx,hk=>by
  have e:(w++(x::ws).flatMap fun x=>32::x)=w++32::(x++ws.flatMap fun x=>32::x):=by simp
  obtain⟨c1,c2⟩:=JC (b:=32) (x++ws.flatMap fun x=>32::x) hw;have hi:=(Dv 32 (w++32::(x++ws.flatMap fun x=>32::x))).1 (by simp);obtain⟨s1,s2⟩:=Nv 32 (w++32::(x++ws.flatMap fun x=>32::x));rw[e];unfold Lib.splitK;rw[hi];have hne: ¬((((cw 32 (w++32::(x++ws.flatMap fun x=>32::x))).length:Int)== -1)=true):=by rw[beq_iff_eq];omega
  rw[if_neg hne,Int.toNat_natCast,Nat.add_zero,s1,List.length_singleton,s2,c1,c2,Hi ws x k (hx x (List.mem_cons_self ..)) (fun y hy=>hx y (List.mem_cons_of_mem _ hy)) (by simp at hk;omega)]
theorem GQ: ∀(ws:List (List UInt8)) (w:List UInt8),ws.length≤(w++ws.flatMap fun x=>32::x).count 32
 | [],w=>by simp
 | x::ws,w=>by
  have ih:=GQ ws x;have e:(w++(x::ws).flatMap fun x=>32::x)=w++32::(x++ws.flatMap fun x=>32::x):=by simp
  rw[e,List.count_append,List.count_cons_self,List.length_cons];omega
theorem Qg6(ups:List Int):upL ups=(ups.map fun u=>(itB u).data.toList).flatMap fun x=>32::x:=by
 unfold upL;rw[List.flatMap_map]
def spl(l:List UInt8):List (List UInt8):=Lib.splitK [32] 0 (Lib.count l [32]) l
theorem Qme(b:Int)(ups:List Int)(hb:0≤b)(h: ∀u∈ups,0≤u∧u≤1000000000):spl ((itB b).data.toList++upL ups)=(itB b).data.toList::ups.map fun u=>(itB u).data.toList:=by
 unfold spl;rw[Lib.count_one,Qg6];refine Hi _ _ _ (fun z hz=>(Qs hb z hz).1) (fun x hx=> ?_) (GQ _ _);obtain⟨u,hu,rfl⟩:=List.mem_map.1 hx;exact fun z hz=>(Qs (h u hu).1 z hz).1
def Qn(num:Zp):List (List UInt8)→Option (List Int)
 | []=>some []
 | l::r=>(num l).bind fun a=>(Qn num r).map fun t=>a::t
theorem Mh(num:Zp): ∀(L:List (List UInt8)) (l:List UInt8),Qn num (L++ [l])=(Qn num L).bind fun t=>(num l).map fun a=>t++ [a]
 | [],l=>by cases h:num l<;>simp[Qn,h]
 | x::L,l=>by
  show(num x).bind (fun a=>(Qn num (L++ [l])).map fun t=>a::t)=((num x).bind fun a=>(Qn num L).map fun t=>a::t).bind fun t=>(num l).map fun a=>t++ [a];rw[Mh num L l];cases num x with
  | none=>rfl
  | some a=>
   cases Qn num L with
   | none=>rfl
   | some t=>cases num l<;>rfl
theorem BM{num:Zp}(hn: ∀b:Int,0≤b→b≤1000000000→num (itB b).data.toList=some b): ∀(ups:List Int),(∀u∈ups,0≤u∧u≤1000000000)→Qn num (ups.map fun u=>(itB u).data.toList)=some ups
 | [],_=>rfl
 | u::ups,h=>by
  have h1:=h u (List.mem_cons_self ..);show(num (itB u).data.toList).bind _=_;rw[hn u h1.1 h1.2,BM hn ups fun y hy=>h y (List.mem_cons_of_mem _ hy)];rfl
def Qke(num:Zp)(l:List UInt8):Option (Int × List Int):=(Qn num (spl l)).bind fun t=>match t with
 | []=>none
 | a::r=>some (a,r)
theorem Qhg{num:Zp}(hn: ∀b:Int,0≤b→b≤1000000000→num (itB b).data.toList=some b)(b:Int)(ups:List Int)(hb:0≤b∧b≤1000000000)(hu: ∀u∈ups,0≤u∧u≤1000000000):Qke num ((itB b).data.toList++upL ups)=some (b,ups):=by
 unfold Qke;rw[Qme b ups hb.1 hu]
 have e:Qn num ((itB b).data.toList::ups.map fun u=>(itB u).data.toList)=some (b::ups):=BM hn (b::ups) (fun u hu'=>by
  rcases List.mem_cons.1 hu' with rfl | hu'
  ·exact hb
  ·exact hu u hu')
 rw[e];rfl
def JD(f:List UInt8→Int):Nat→List UInt8→List Int
 | 0,_=> []
 | k+1,l=>if l= []then []else f (cw 32 l)::JD f k (cr 32 l)
def Qpw(f:List UInt8→Int)(l:List UInt8):Option (Int × List Int):=some (f (cw 32 l),JD f l.length (cr 32 l))
theorem Qlw{l:List UInt8}(h:l≠ []):(cr 32 l).length<l.length:=by
 have h1:=(Nv 32 l).2;rw[←h1,List.length_drop];have:0<l.length:=List.length_pos_iff.2 h;omega
theorem Gv(f:List UInt8→Int): ∀(k k':Nat) (l:List UInt8),l.length≤k→l.length≤k'→JD f k l=JD f k' l
 | 0,0,l,_,_=>rfl
 | 0,k'+1,l,h,_=>by
  have:l= []:=List.length_eq_zero_iff.1 (by omega);subst this;rfl
 | k+1,0,l,_,h=>by
  have:l= []:=List.length_eq_zero_iff.1 (by omega);subst this;rfl
 | k+1,k'+1,l,h,h'=>by
  unfold JD;by_cases e:l= []
  ·rw[if_pos e,if_pos e]
  ·have:=Qlw e;rw[if_neg e,if_neg e,Gv f k k' (cr 32 l) (by omega) (by omega)]
theorem Qir(f:List UInt8→Int)(k:Nat):JD f k []= []:=by
 cases k with
 | zero=>rfl
 | succ k=>unfold JD;rw[if_pos rfl]
theorem Qg3(f:List UInt8→Int)(l:List UInt8)(h:l≠ []):JD f l.length l=f (cw 32 l)::JD f (cr 32 l).length (cr 32 l):=by
 have h0:0<l.length:=List.length_pos_iff.2 h;have h1:=Qlw h;obtain⟨k,hk⟩: ∃k,l.length=k+1:=⟨l.length-1,by omega⟩;rw[hk];conv=>lhs;unfold JD
 rw[if_neg h,Gv f k (cr 32 l).length (cr 32 l) (by omega) (Nat.le_refl _)]
theorem UZ{f:List UInt8→Int}(hf: ∀b:Int,0≤b→b≤1000000000→f (itB b).data.toList=b): ∀(ups:List Int) (w:List UInt8) (k:Nat),(∀u∈ups,0≤u∧u≤1000000000)→(∀z∈w,z≠32)→ups.length≤k→JD f k (cr 32 (w++upL ups))=ups
 | [],w,k,_,hw,_=>by
  unfold upL;rw[List.flatMap_nil,List.append_nil,(Jg hw).2];exact Qir f k
 | u::ups,w,0,_,_,hk=>by simp at hk
 | u::ups,w,k+1,hu,hw,hk=>by
  have h1:=hu u (List.mem_cons_self ..);have e:w++upL (u::ups)=w++32::((itB u).data.toList++upL ups):=by unfold upL;simp
  rw[e,(JC _ hw).2];have hne:(itB u).data.toList++upL ups≠ []:=fun e9=>Qtt u h1.1 (List.append_eq_nil_iff.1 e9).1;unfold JD
  have hcw:cw 32 ((itB u).data.toList++upL ups)=(itB u).data.toList:=by
   cases ups with
   | nil=>unfold upL;rw[List.flatMap_nil,List.append_nil];exact(Jg fun z hz=>(Qs h1.1 z hz).1).1
   | cons y ys=>
    have e2:(itB u).data.toList++upL (y::ys)=(itB u).data.toList++32::((itB y).data.toList++upL ys):=by unfold upL;simp
    rw[e2];exact(JC _ fun z hz=>(Qs h1.1 z hz).1).1
  rw[if_neg hne,hcw,hf u h1.1 h1.2,UZ hf ups _ k (fun y hy=>hu y (List.mem_cons_of_mem _ hy)) (fun z hz=>(Qs h1.1 z hz).1) (by simp at hk;omega)]
theorem Qlx(ups:List Int):ups.length≤(upL ups).length:=by
 unfold upL;induction ups with
 | nil=>simp
 | cons u ups ih=>simp only[List.flatMap_cons,List.length_append,List.length_cons];omega
theorem Qhf{f:List UInt8→Int}(hf: ∀b:Int,0≤b→b≤1000000000→f (itB b).data.toList=b)(b:Int)(ups:List Int)(hb:0≤b∧b≤1000000000)(hu: ∀u∈ups,0≤u∧u≤1000000000):Qpw f ((itB b).data.toList++upL ups)=some (b,ups):=by
 unfold Qpw
 have e1:cw 32 ((itB b).data.toList++upL ups)=(itB b).data.toList:=by
  cases ups with
  | nil=>unfold upL;rw[List.flatMap_nil,List.append_nil];exact(Jg fun z hz=>(Qs hb.1 z hz).1).1
  | cons y ys=>
   have e2:(itB b).data.toList++upL (y::ys)=(itB b).data.toList++32::((itB y).data.toList++upL ys):=by unfold upL;simp
   rw[e2];exact(JC _ fun z hz=>(Qs hb.1 z hz).1).1
 rw[e1,hf b hb.1 hb.2,UZ hf ups _ _ hu (fun z hz=>(Qs hb.1 z hz).1) (by have:=Qlx ups;rw[List.length_append];omega)]
end Go.Proofs.YtbdhinckiccniaaGreatDoor
namespace Go.Proofs.YtbdhinckiccniaaGreatDoor
open Go.RowKit Go.Maps
def UpO(W:World)(B:Nat)(v:Value)(us:List Int):Prop:=
 (v= .slice none 0 0∧us= [])∨ ∃g o cap cur,v= .slice (some ⟨g,o,none⟩) us.length cap∧B≤g∧W.heap[g]? =some (.cells cur 2 (0,0))∧us.length≤maxLen∧o+us.length≤cur.size∧(cur.toList.drop o).take us.length=us.map (Value.int .i64)
theorem UpO.of_own{W:World}{B n:Nat}{v:Value}{us:List Int}(h:W.ownsRow B 2 1 v n (us.map (Value.int .i64))):UpO W B v us:=by
 have hl:=h.1;rw[List.length_map,Nat.mul_one]at hl;subst hl;rcases h.2 with⟨rfl,h9⟩ | ⟨g,cap,cur,rfl,hb,hg,h1,h2,h3,h4⟩
 ·exact Or.inl ⟨rfl,List.length_eq_zero_iff.1 h9⟩
 ·exact Or.inr ⟨g,0,cap,cur,rfl,hb,hg,Nat.le_trans h1 h2,by omega,by rw[List.drop_zero];simpa using h4⟩
theorem UpO.tail{W:World}{B n cap g:Nat}{a:Int}{us:List Int}(h:W.ownsRow B 2 1 (.slice (some ⟨g,0,none⟩) n cap) n ((a::us).map (Value.int .i64)))(c:Nat):UpO W B (.slice (some ⟨g,1,none⟩) us.length c) us:=by
 have hl:=h.1;rw[List.length_map,Nat.mul_one,List.length_cons]at hl;subst hl;rcases h.2 with⟨h8,h9⟩ | ⟨g',cap',cur,e,hb,hg,h1,h2,h3,h4⟩
 ·cases h8
 ·cases e
  refine Or.inr ⟨g,1,c,cur,rfl,hb,hg,by omega,by omega,?_⟩;rw[Nat.mul_one]at h4;rw[List.map_cons]at h4;have h5:=congrArg (List.drop 1) h4;rw[List.drop_take]at h5;simpa using h5
theorem UpO.lt{W:World}{B q:Nat}{v:Value}{us:List Int}(h:UpO W B v us)(hq:v.ownBlock=some q):B≤q∧q<W.heap.size:=by
 rcases h with⟨rfl,_⟩ | ⟨g,o,cap,cur,rfl,hb,hg,_⟩
 ·cases hq
 ·cases hq
  exact⟨hb,(Array.getElem?_eq_some_iff.1 hg).1⟩
theorem UpO.kept{W W':World}{B:Nat}{row:Option Nat}{v:Value}{us:List Int}(h:UpO W B v us)(hg:W.grownBy W' row)(hne:v.ownBlock=none∨v.ownBlock≠row):UpO W' B v us:=by
 rcases h with⟨rfl,h9⟩ | ⟨g,o,cap,cur,rfl,hb,hgg,rest⟩
 ·exact Or.inl ⟨rfl,h9⟩
 ·refine Or.inr ⟨g,o,cap,cur,rfl,hb,?_,rest⟩
  rw[hg.block g (Array.getElem?_eq_some_iff.1 hgg).1 (fun e=>by
   rcases hne with h9 | h9
   ·cases h9
   ·exact h9 e)]
  exact hgg
theorem UpO.below{W W':World}{B:Nat}{v:Value}{us:List Int}(h:UpO W B v us)(hb:Below W.heap.size W W'):UpO W' B v us:=h.kept (Qrc none hb) (by cases v.ownBlock<;>simp)
theorem UpO.mono{W:World}{B B':Nat}{v:Value}{us:List Int}(h:UpO W B v us)(hB:B'≤B):UpO W B' v us:=by
 rcases h with h9 | ⟨g,o,cap,cur,rfl,hb,rest⟩
 ·exact Or.inl h9
 ·exact Or.inr ⟨g,o,cap,cur,rfl,Nat.le_trans hB hb,rest⟩
theorem UpO.ne_ty{W:World}{B B':Nat}{e':TypeId}{s' n':Nat}{v v':Value}{us:List Int}{xs':List Value}(h:UpO W B v us)(h':W.ownsRow B' e' s' v' n' xs')(hne:2≠e'):v.ownBlock=none∨v.ownBlock≠v'.ownBlock:=by
 rcases h with⟨rfl,_⟩ | ⟨g,o,cap,cur,rfl,_,hg,_⟩
 ·exact Or.inl rfl
 ·rcases h'.2 with⟨rfl,_⟩ | ⟨g',cap',cur',rfl,_,hg',_⟩
  ·right;simp[Value.ownBlock]
  ·right
   intro e1;simp only[Value.ownBlock,Option.some.injEq]at e1;subst e1;rw[hg]at hg';simp only[Option.some.injEq,Obj.cells.injEq]at hg';exact hne hg'.2.1
theorem UpO.int{W:World}{B:Nat}{v:Value}{us:List Int}(h:UpO W B v us): ∃A c,v= .slice A us.length c∧IntRow W A us:=by
 rcases h with⟨rfl,rfl⟩ | ⟨g,o,cap,cur,rfl,hb,hg,h1,h2,h3⟩
 ·exact⟨none,0,rfl,Nat.zero_le _,fun i hi=>absurd hi (Nat.not_lt_zero _)⟩
 ·refine⟨_,cap,rfl,h1,fun i hi=>⟨g,o,rfl,(Array.getElem?_eq_some_iff.1 hg).1,?_⟩⟩
  have e:cur.toList[o+i]? =some (.int .i64 (us.getD i 0)):=by
   have h4:=congrArg (fun l=>l[i]?) h3;simp only[List.getElem?_take,List.getElem?_drop,if_pos hi,List.getElem?_map,List.getElem?_eq_getElem hi,Option.map_some]at h4;rw[h4,List.getD_eq_getElem?_getD,List.getElem?_eq_getElem hi];rfl
  have hh:(if h:g<W.heap.size then some (W.heap[g])else none)=some (.cells cur 2 (0,0)):=by rw[←hg];simp[Array.getElem?_eq_some_iff,getElem?_def]
  unfold World.cell?;simp only[hg];rw[←Array.getElem?_toList];exact e
def cqL(c:CQ):List Value:= [.int .i64 c.c,.int .i64 c.r,.string c.s]
theorem Qb0(c:CQ):(cqL c).length=3:=rfl
def VqP(W:World)(B:Nat)(ys:List Value)(L:List RV):Prop:=
 ∀(i:Nat) x,L[i]? =some x→ ∃u v,ys[i*3]? =some (.int .i64 x.id)∧ys[i*3+1]? =some u∧ys[i*3+2]? =some v∧UpO W B u x.ups∧W.ownsRow B 37 3 v x.cs.length (Za cqL x.cs)
theorem VqP.below{W W':World}{B:Nat}{ys:List Value}{L:List RV}(h:VqP W B ys L)(hb:Below W.heap.size W W'):VqP W' B ys L:=fun i x hx=>by
 obtain⟨u,v,y0,y1,y2,h1,h2⟩:=h i x hx;exact⟨u,v,y0,y1,y2,h1.below hb,Qf h2 hb⟩
theorem VqP.kept{W W':World}{B B' n' s':Nat}{e':TypeId}{v':Value}{xs':List Value}{ys:List Value}{L:List RV}(h:VqP W B ys L)(h':W.ownsRow B' e' s' v' n' xs')(hg:W.grownBy W' v'.ownBlock)(h1:2≠e')(h2:37≠e'):VqP W' B ys L:=fun i x hx=>by
 obtain⟨u,v,y0,y1,y2,k1,k2⟩:=h i x hx;exact⟨u,v,y0,y1,y2,k1.kept hg (k1.ne_ty h' h1),k2.kept hg (Qht k2 h' h2)⟩
structure DqP (W:World) (B b:Nat) (q:RQ) (v1 v2:Value) (ys:List Value):Prop where
 box:W.ownsRow B 43 3 (.slice (some ⟨b,0,none⟩) 1 1) 1 [.int .i64 q.next,v1,v2]
 vr:W.ownsRow B 72 3 v1 q.vs.length ys
 pt:VqP W B ys q.vs
 ap:Qnv ys q.vs.length
 br:W.ownsRow B 69 2 v2 q.bl.length (Za brL q.bl)
theorem DqP.below{W W':World}{B b:Nat}{q:RQ}{v1 v2:Value}{ys:List Value}(h:DqP W B b q v1 v2 ys)(hb:Below W.heap.size W W'):DqP W' B b q v1 v2 ys:=
 ⟨Qf h.box hb,Qf h.vr hb,h.pt.below hb,h.ap,Qf h.br hb⟩
theorem DqP.le{W:World}{B b:Nat}{q:RQ}{v1 v2:Value}{ys:List Value}(h:DqP W B b q v1 v2 ys):B≤b∧b<W.heap.size:=h.box.lt b rfl
theorem DqP.setNext{W:World}{B b:Nat}{q:RQ}{v1 v2:Value}{ys:List Value}(h:DqP W B b q v1 v2 ys)(n:Int):DqP (W.setCell ⟨b,0,none⟩ (.int .i64 n)) B b ⟨n,q.bl,q.vs⟩ v1 v2 ys∧W.grownBy (W.setCell ⟨b,0,none⟩ (.int .i64 n)) (some b):=by
 obtain⟨o,g⟩:=h.box.stored 0 (.int .i64 n);exact⟨⟨o,h.vr.kept g (Qht h.vr h.box (by decide)),h.pt.kept h.box g (by decide) (by decide),h.ap,h.br.kept g (Qht h.br h.box (by decide))⟩,g⟩
theorem DqP.setBr{W w:World}{B b:Nat}{q:RQ}{v1 v2 v2':Value}{ys:List Value}{x:BR}(h:DqP W B b q v1 v2 ys)(hg:W.grownBy w v2.ownBlock)(ho:w.ownsRow B 69 2 v2' (q.bl.length+1) (Za brL (q.bl++ [x]))):
  DqP (w.setCell ⟨b,2,none⟩ v2') B b ⟨q.next,q.bl++ [x],q.vs⟩ v1 v2' ys:=by
 have hbx:=h.box.kept hg (Qht h.box h.br (by decide));obtain⟨o,g⟩:=hbx.stored 2 v2';have hvr:=h.vr.kept hg (Qht h.vr h.br (by decide));have hpt:=h.pt.kept h.br hg (by decide) (by decide);refine⟨o,hvr.kept g (Qht hvr hbx (by decide)),hpt.kept hbx g (by decide) (by decide),h.ap,?_⟩;rw[List.length_append,List.length_singleton];exact ho.kept g (Qht ho hbx (by decide))
theorem DqP.setVr{W w:World}{B b:Nat}{q:RQ}{v1 v2 v1' u:Value}{ys:List Value}{id:Int}{ups:List Int}(h:DqP W B b q v1 v2 ys)(hg:W.grownBy w v1.ownBlock)(ho:w.ownsRow B 72 3 v1' (q.vs.length+1) (ys++ [.int .i64 id,u,.slice none 0 0]))
  (hu:UpO W B u ups) (hap: ∀k i,u.ownBlock=some k→i<q.vs.length→Ot ys (i*3+1)≠some k):
  DqP (w.setCell ⟨b,1,none⟩ v1') B b ⟨q.next,q.bl,q.vs++ [⟨id,ups,[]⟩]⟩ v1' v2 (ys++ [.int .i64 id,u,.slice none 0 0]):=by
 have hbx:=h.box.kept hg (Qht h.box h.vr (by decide));obtain⟨o,g⟩:=hbx.stored 1 v1';have hbr:=h.br.kept hg (Qht h.br h.vr (by decide));have hpt:=h.pt.kept h.vr hg (by decide) (by decide);have hu1:UpO w B u ups:=hu.kept hg (hu.ne_ty h.vr (by decide));have hl:=h.vr.1;refine⟨o,?_,fun i x hx=> ?_,fun i j hi hj hij=> ?_,hbr.kept g (Qht hbr hbx (by decide))⟩
 ·rw[List.length_append,List.length_singleton];exact ho.kept g (Qht ho hbx (by decide))
 ·by_cases hi:i<q.vs.length
  ·rw[List.getElem?_append_left hi]at hx;obtain⟨u',v',y0,y1,y2,k1,k2⟩:=(hpt.kept hbx g (by decide) (by decide)) i x hx;exact⟨u',v',by rw[List.getElem?_append_left (by omega)];exact y0,by rw[List.getElem?_append_left (by omega)];exact y1,by rw[List.getElem?_append_left (by omega)];exact y2,k1,k2⟩
  ·have hi2:i=q.vs.length:=by have:=(List.getElem?_eq_some_iff.1 hx).1;simp at this;omega
   subst hi2;rw[List.getElem?_append_right (Nat.le_refl _),Nat.sub_self]at hx;cases hx
   refine⟨u,.slice none 0 0,?_,?_,?_,hu1.kept g (hu1.ne_ty hbx (by decide)),⟨by simp[Za],Or.inl ⟨rfl,rfl⟩⟩⟩
   ·rw[List.getElem?_append_right (by omega),show q.vs.length*3-ys.length=0 by omega];rfl
   ·rw[List.getElem?_append_right (by omega),show q.vs.length*3+1-ys.length=1 by omega];rfl
   ·rw[List.getElem?_append_right (by omega),show q.vs.length*3+2-ys.length=2 by omega];rfl
 ·have old: ∀i a,i<q.vs.length→a<3→Ot (ys++ [.int .i64 id,u,.slice none 0 0]) (i*3+a)=Ot ys (i*3+a):=fun i a h1 h2=>by unfold Ot;rw[List.getElem?_append_left (by omega)]
  have n1:Ot (ys++ [.int .i64 id,u,.slice none 0 0]) (q.vs.length*3+1)=u.ownBlock:=by unfold Ot;rw[List.getElem?_append_right (by omega),show q.vs.length*3+1-ys.length=1 by omega];rfl
  have n2:Ot (ys++ [.int .i64 id,u,.slice none 0 0]) (q.vs.length*3+2)=none:=by unfold Ot;rw[List.getElem?_append_right (by omega),show q.vs.length*3+2-ys.length=2 by omega];rfl
  simp only[List.length_append,List.length_singleton]at hi hj;by_cases e1:i<q.vs.length
  ·by_cases e2:j<q.vs.length
   ·have:=h.ap i j e1 e2 hij;unfold Qno at this ⊢;rw[old i 1 e1 (by omega),old i 2 e1 (by omega),old j 1 e2 (by omega),old j 2 e2 (by omega)];exact this
   ·obtain rfl:j=q.vs.length:=by omega
    unfold Qno;rw[old i 1 e1 (by omega),old i 2 e1 (by omega),n1,n2];refine⟨?_,?_⟩
    ·cases hk:Ot ys (i*3+1)with
     | none=>exact Or.inl rfl
     | some k=>
      right
      intro e;exact hap k i e.symm e1 hk
    ·cases hk:Ot ys (i*3+2)with
     | none=>exact Or.inl rfl
     | some k=>right;intro e;cases e
  ·obtain rfl:i=q.vs.length:=by omega
   have e2:j<q.vs.length:=by omega
   unfold Qno;rw[n1,n2,old j 1 e2 (by omega),old j 2 e2 (by omega)];refine⟨?_,Or.inl rfl⟩;cases hk:u.ownBlock with
   | none=>exact Or.inl rfl
   | some k=>
    right
    intro e;exact hap k j hk e2 e.symm
theorem DqP.setCl{W w:World}{B b gv cap:Nat}{q:RQ}{v2 s s':Value}{ys:List Value}{vs:List RV}{x:RV}{c:CQ}(h:DqP W B b q (.slice (some ⟨gv,0,none⟩) q.vs.length cap) v2 ys)(hq:q.vs=vs++ [x])(hs:ys[vs.length*3+2]? =some s)
  (hg:W.grownBy w s.ownBlock) (ho:w.ownsRow B 37 3 s' (x.cs.length+1) (Za cqL (x.cs++ [c]))) (hn: ∀k,s'.ownBlock=some k→s.ownBlock=some k∨W.heap.size≤k):
  DqP (w.setCell ⟨gv,vs.length*3+2,none⟩ s') B b ⟨q.next,q.bl,vs++ [⟨x.id,x.ups,x.cs++ [c]⟩]⟩ (.slice (some ⟨gv,0,none⟩) q.vs.length cap) v2 (ys.set (vs.length*3+2) s'):=by
 have hlast:q.vs[vs.length]? =some x:=by rw[hq];simp
 have hlen:q.vs.length=vs.length+1:=by rw[hq];simp
 obtain⟨u0,s0,y0,y1,y2,k1,k2⟩:=h.pt vs.length x hlast;rw[hs]at y2;cases y2
 have hl:=h.vr.1;have hbx:=h.box.kept hg (Qht h.box k2 (by decide));have hvr:=h.vr.kept hg (Qht h.vr k2 (by decide));have hbr:=h.br.kept hg (Qht h.br k2 (by decide));obtain⟨o,g⟩:=hvr.stored (vs.length*3+2) s';have hlen2:(vs++ [(⟨x.id,x.ups,x.cs++ [c]⟩:RV)]).length=q.vs.length:=by rw[hlen];simp
 have hpt: ∀(i:Nat) z,q.vs[i]? =some z→i≠vs.length→ ∃u v,ys[i*3]? =some (.int .i64 z.id)∧ys[i*3+1]? =some u∧ys[i*3+2]? =some v∧UpO w B u z.ups∧w.ownsRow B 37 3 v z.cs.length (Za cqL z.cs):=fun i z hz hi=>by
  obtain⟨u,v,z0,z1,z2,m1,m2⟩:=h.pt i z hz;refine⟨u,v,z0,z1,z2,m1.kept hg (m1.ne_ty k2 (by decide)),m2.kept hg ?_⟩;have hap:=(h.ap i vs.length (by have:=(List.getElem?_eq_some_iff.1 hz).1;omega) (by omega) hi).2;unfold Qno at hap;rw[Jw z2,Jw hs]at hap;exact hap
 have hu0:UpO w B u0 x.ups:=k1.kept hg (k1.ne_ty k2 (by decide));refine⟨hbx.kept g (Qht hbx hvr (by decide)),by rw[hlen2];exact o,fun i z hz=> ?_,?_,hbr.kept g (Qht hbr hvr (by decide))⟩
 ·by_cases hi:i=vs.length
  ·subst hi;have hz':some (⟨x.id,x.ups,x.cs++ [c]⟩:RV)=some z:=by rw[←hz];simp
   cases hz'
   refine⟨u0,s',by rw[List.getElem?_set_ne (by omega)];exact y0,by rw[List.getElem?_set_ne (by omega)];exact y1,by rw[List.getElem?_set_self (by omega)],hu0.kept g (hu0.ne_ty hvr (by decide)),?_⟩;rw[List.length_append,List.length_singleton];exact ho.kept g (Qht ho hvr (by decide))
  ·have hz':q.vs[i]? =some z:=by
    have hb:i<vs.length:=by have:=(List.getElem?_eq_some_iff.1 hz).1;simp at this;omega
    rw[List.getElem?_append_left hb]at hz;rw[hq,List.getElem?_append_left hb];exact hz
   obtain⟨u,v,z0,z1,z2,m1,m2⟩:=hpt i z hz' hi;exact⟨u,v,by rw[List.getElem?_set_ne (by omega)];exact z0,by rw[List.getElem?_set_ne (by omega)];exact z1,by rw[List.getElem?_set_ne (by omega)];exact z2,m1.kept g (m1.ne_ty hvr (by decide)),m2.kept g (Qht m2 hvr (by decide))⟩
 ·show Qnv _ (vs++ [(⟨x.id,x.ups,x.cs++ [c]⟩:RV)]).length;rw[hlen2];have new:Ot (ys.set (vs.length*3+2) s') (vs.length*3+2)=s'.ownBlock:=Jw (by rw[List.getElem?_set_self (by omega)]);have old: ∀a,a≠vs.length*3+2→Ot (ys.set (vs.length*3+2) s') a=Ot ys a:=fun a ha=>by unfold Ot;rw[List.getElem?_set_ne (by omega)]
  have far: ∀i k,i<q.vs.length→i≠vs.length→Ot ys (i*3+2)=some k→s'.ownBlock=some k→False:=fun i k hi hne hk hk'=>by
   obtain⟨z,hz⟩: ∃z,q.vs[i]? =some z:=⟨_,List.getElem?_eq_getElem hi⟩;obtain⟨u,v,z0,z1,z2,m1,m2⟩:=h.pt i z hz;rw[Jw z2]at hk;rcases hn k hk' with h9 | h9
   ·have hap:=(h.ap i vs.length hi (by omega) hne).2;unfold Qno at hap;rw[Jw z2,Jw hs,hk,h9]at hap;rcases hap with h8 | h8
    ·cases h8
    ·exact h8 rfl
   ·have:=(m2.lt k hk).2;omega
  intro i j hi hj hij;have hap:=h.ap i j hi hj hij;unfold Qno at hap ⊢;rw[old (i*3+1) (by omega),old (j*3+1) (by omega)];refine⟨hap.1,?_⟩;by_cases e1:i=vs.length
  ·subst e1;rw[new,old (j*3+2) (by omega)];cases hk:s'.ownBlock with
   | none=>exact Or.inl rfl
   | some k=>
    right
    intro e;exact far j k hj (fun e9=>hij e9.symm) e.symm hk
  ·rw[old (i*3+2) (by omega)];by_cases e2:j=vs.length
   ·subst e2;rw[new];cases hk:Ot ys (i*3+2)with
    | none=>exact Or.inl rfl
    | some k=>
     right
     intro e;exact far i k hi e1 hk e.symm
   ·rw[old (j*3+2) (by omega)];exact hap.2
def DqV(W:World)(B:Nat)(v:Value)(q:RQ):Prop:= ∃v1 v2 ys,v= .agg #[.int .i64 q.next,v1,v2]∧W.ownsRow B 72 3 v1 q.vs.length ys∧VqP W B ys q.vs∧Qnv ys q.vs.length∧W.ownsRow B 69 2 v2 q.bl.length (Za brL q.bl)
theorem DqP.val{W:World}{B b:Nat}{q:RQ}{v1 v2:Value}{ys:List Value}(h:DqP W B b q v1 v2 ys):DqV W B (.agg #[.int .i64 q.next,v1,v2]) q:=⟨v1,v2,ys,rfl,h.vr,h.pt,h.ap,h.br⟩
theorem Qkn{L:List CQ}{i:Nat}{c:CQ}(h:L[i]? =some c):qC L i=c.c∧qR L i=c.r∧qS L i=c.s:=by unfold qC qR qS;rw[h];exact⟨rfl,rfl,rfl⟩
theorem Qo0{W:World}{B n cap:Nat}{A:Option Addr}{L:List CQ}(h:W.ownsRow B 37 3 (.slice A n cap) n (Za cqL L))(hL:L.length=n)(hs: ∀c∈L,c.s.size≤maxLen):ClRow W A n (qC L) (qR L) (qS L):=by
 obtain⟨A',cap',e,hn,hc⟩:=Qo h;cases e
 refine⟨hn,fun i hi=> ?_⟩;obtain⟨x,hx⟩: ∃x,L[i]? =some x:=⟨_,List.getElem?_eq_getElem (by omega)⟩;obtain⟨e0,e1,e2⟩:=Qkn hx;obtain⟨g,rfl,_,hl,d0,_⟩:=hc (i*3) (by omega);obtain⟨g1,eg1,_,_,d1,_⟩:=hc (i*3+1) (by omega);obtain⟨g2,eg2,_,_,d2,_⟩:=hc (i*3+2) (by omega);cases eg1;cases eg2
 have f0:=MP Qb0 0 (by omega) L i;have f1:=MP Qb0 1 (by omega) L i;have f2:=MP Qb0 2 (by omega) L i;rw[hx,Option.bind_some]at f0 f1 f2;rw[Nat.add_zero]at f0;rw[f0]at d0;rw[f1]at d1
 rw[f2]at d2;refine⟨g,0,rfl,hl,?_,?_,?_,?_⟩
 ·rw[Nat.zero_add,e0];exact d0
 ·rw[Nat.zero_add,e1];exact d1
 ·rw[Nat.zero_add,e2];exact d2
 ·rw[e2];exact hs x (List.mem_of_getElem? hx)
theorem DqV.row{W:World}{B:Nat}{v:Value}{q:RQ}(h:DqV W B v q)(hs: ∀x∈q.vs,∀c∈x.cs,c.s.size≤maxLen):DgRow W v (dgQ q):=by
 obtain⟨v1,v2,ys,rfl,h1,h2,_,h3⟩:=h;obtain⟨A1,c1,rfl,hm,hc⟩:=Qo h1;obtain⟨A2,c2,rfl,_,_⟩:=Qo h3;refine⟨A1,c1,A2,c2,by simp[dgQ],⟨by simpa[dgQ]using hm,fun i x hx=> ?_⟩,RowAt.of_own Qgw h3 rfl⟩;have hx':(q.vs.map vrQ)[i]? =some x:=hx;rw[List.getElem?_map]at hx';obtain⟨z,hz,rfl⟩:=Option.map_eq_some_iff.1 hx'
 have hi:i<q.vs.length:=(List.getElem?_eq_some_iff.1 hz).1;obtain⟨u,s,y0,y1,y2,k1,k2⟩:=h2 i z hz;obtain⟨UA,uc,rfl,hu⟩:=k1.int;obtain⟨SA,sc,rfl,_,_⟩:=Qo k2;obtain⟨g,e0,_,hl,d0,_⟩:=hc (i*3) (by omega);obtain⟨g1,e1,_,_,d1,_⟩:=hc (i*3+1) (by omega);obtain⟨g2,e2,_,_,d2,_⟩:=hc (i*3+2) (by omega)
 rw[e0]at e1 e2;cases e1;cases e2
 refine⟨g,0,UA,uc,SA,sc,e0,hl,?_,?_,?_,hu,Qo0 k2 rfl (hs z (List.mem_of_getElem? hz))⟩
 ·rw[Nat.zero_add];exact d0.trans y0
 ·rw[Nat.zero_add];exact d1.trans y1
 ·rw[Nat.zero_add];exact d2.trans y2
structure LimQ (m k:Nat) (q:RQ):Prop where
 bl: ∀x∈q.bl,x.n.size≤m∧(Lit.int .i64 x.h).wf=true
 vs: ∀x∈q.vs,(∀u∈x.ups,(Lit.int .i64 u).wf=true)∧(Lit.int .i64 x.id).wf=true∧x.ups.length≤m∧x.cs.length≤k∧ ∀c∈x.cs,c.s.size≤m
 nb:q.bl.length≤k
 nv:q.vs.length≤k
structure WfG (num:Zp) (ids:Yo):Prop where
 n: ∀l b,num l=some b→(Lit.int .i64 b).wf=true
 i: ∀l p,ids l=some p→(Lit.int .i64 p.1).wf=true∧(∀u∈p.2,(Lit.int .i64 u).wf=true)∧p.2.length≤l.length
theorem LimQ.zero(m:Nat):LimQ m 0 q0:=⟨fun x hx=>(nomatch hx),fun x hx=>(nomatch hx),Nat.le_refl _,Nat.le_refl _⟩
theorem Qj(l:List UInt8):(bs l).size=l.length:=by show l.toArray.size=_;simp
theorem Qif{vs vs':List RV}{c:CQ}(h:Qb7 vs c=some vs'): ∃v x,vs=v++ [x]∧vs'=v++ [⟨x.id,x.ups,x.cs++ [c]⟩]:=by
 rcases List.eq_nil_or_concat vs with rfl | ⟨v,x,rfl⟩
 ·cases h
 ·rw[List.concat_eq_append,Jx]at h;cases h
  exact⟨v,x,List.concat_eq_append ..,rfl⟩
theorem LimQ.step{num:Zp}{ids:Yo}{pl:XA}(hw:WfG num ids){m k:Nat}{q q':RQ}{l:List UInt8}(h:LimQ m k q)(hl:l.length≤m)(hs:stG num ids pl q l=some q'):LimQ m (k+1) q':=by
 have c1:=Qew 32 l;have c2:=Qew 32 (cr 32 l);have c3:=Qm5 32 (cr 32 l)
 have hv: ∀x∈q.vs,(∀u∈x.ups,(Lit.int .i64 u).wf=true)∧(Lit.int .i64 x.id).wf=true∧x.ups.length≤m∧x.cs.length≤k+1∧ ∀c∈x.cs,c.s.size≤m:=fun x hx=>by
  obtain⟨a,a2,b,c,d⟩:=h.vs x hx;exact⟨a,a2,b,Nat.le_succ_of_le c,d⟩
 unfold stG at hs;split at hs
 ·obtain⟨n,_,rfl⟩:=Option.map_eq_some_iff.1 hs;exact⟨h.bl,hv,Nat.le_succ_of_le h.nb,Nat.le_succ_of_le h.nv⟩
 split at hs
 ·obtain⟨n,hn,rfl⟩:=Option.map_eq_some_iff.1 hs;refine⟨fun x hx=> ?_,hv,by simpa using h.nb,Nat.le_succ_of_le h.nv⟩;rcases List.mem_append.1 hx with hx | hx
  ·exact h.bl x hx
  ·rw[List.mem_singleton]at hx;subst hx;exact⟨by show(bs _).size≤m;rw[Qj];omega,hw.n _ _ hn⟩
 split at hs
 ·obtain⟨p,hp,rfl⟩:=Option.map_eq_some_iff.1 hs;obtain⟨i0,i1,i2⟩:=hw.i _ _ hp;refine⟨h.bl,fun x hx=> ?_,Nat.le_succ_of_le h.nb,by simpa using h.nv⟩;rcases List.mem_append.1 hx with hx | hx
  ·exact hv x hx
  ·rw[List.mem_singleton]at hx;subst hx;exact⟨i1,i0,by show p.2.length≤m;omega,Nat.zero_le _,fun c hc=>(nomatch hc)⟩
 ·obtain⟨p,hp,hs⟩:=Option.bind_eq_some_iff.1 hs;obtain⟨vs',ha,rfl⟩:=Option.map_eq_some_iff.1 hs;obtain⟨v,x,e1,rfl⟩:=Qif ha;have hx9:=h.vs x (by rw[e1];simp);refine⟨h.bl,fun y hy=> ?_,Nat.le_succ_of_le h.nb,?_⟩
  ·rcases List.mem_append.1 hy with hy | hy
   ·exact hv y (by rw[e1];exact List.mem_append_left _ hy)
   ·rw[List.mem_singleton]at hy;subst hy;obtain⟨a,a2,b,c,d⟩:=hx9;refine⟨a,a2,b,by simpa using c,fun z hz=> ?_⟩;rcases List.mem_append.1 hz with hz | hz
    ·exact d z hz
    ·rw[List.mem_singleton]at hz;subst hz;show(bs _).size≤m;rw[Qj];omega
  ·have:=h.nv;rw[e1]at this;simp at this ⊢;omega
theorem LimQ.run{num:Zp}{ids:Yo}{pl:XA}(hw:WfG num ids){m:Nat}: ∀(ls:List (List UInt8)) (k:Nat) (q q':RQ),LimQ m k q→(∀l∈ls,l.length≤m)→Qy num ids pl q ls=some q'→LimQ m (k+ls.length) q'
 | [],k,q,q',h,_,hr=>by cases hr;exact h
 | l::ls,k,q,q',h,hl,hr=>by
  obtain⟨q1,h1,h2⟩:=Option.bind_eq_some_iff.1 (show(stG num ids pl q l).bind _=some q' from hr);have:=LimQ.run hw ls (k+1) q1 q' (h.step hw (hl l (List.mem_cons_self ..)) h1) (fun y hy=>hl y (List.mem_cons_of_mem _ hy)) h2;rw[List.length_cons,show k+(ls.length+1)=k+1+ls.length by omega];exact this
theorem LimQ.ok{m k:Nat}{q:RQ}(h:LimQ m k q)(hm:m≤1048577):DgOk (dgQ q):=by
 refine⟨fun x hx=> ?_,fun x hx=> ?_,fun x hx=>(h.bl x hx).2⟩
 ·obtain⟨z,hz,rfl⟩:=List.mem_map.1 hx;obtain⟨a,_,b,c,d⟩:=h.vs z hz;refine⟨fun i hi=> ?_,a⟩;have hi':i<z.cs.length:=hi;have e:=(Qkn (List.getElem?_eq_getElem hi')).2.2;show(qS z.cs i).size≤maxLen;rw[e]
  have:=d _ (List.getElem_mem hi');unfold maxLen;omega
 ·have:=(h.bl x hx).1;show x.n.size≤maxLen;unfold maxLen;omega
theorem LimQ.lil{m k:Nat}{q:RQ}(h:LimQ m k q)(hm:m≤1048576)(hk:k≤1048576):DgLil (dgQ q):=by
 refine⟨fun x hx=> ?_,fun x hx=> ?_,?_,?_⟩
 ·obtain⟨z,hz,rfl⟩:=List.mem_map.1 hx;obtain⟨a,_,b,c,d⟩:=h.vs z hz;exact⟨Nat.le_trans b hm,Nat.le_trans c hk⟩
 ·exact Nat.le_trans (h.bl x hx).1 hm
 ·show(q.vs.map vrQ).length≤_;rw[List.length_map];exact Nat.le_trans h.nv hk
 ·exact Nat.le_trans h.nb hk
theorem LimQ.srcs{m k:Nat}{q:RQ}(h:LimQ m k q)(hm:m≤1048577): ∀x∈q.vs,∀c∈x.cs,c.s.size≤maxLen:=fun x hx c hc=>by
 have:=(h.vs x hx).2.2.2.2 c hc;unfold maxLen;omega
theorem Qn2:(Tryz.prog.info? 69).map (fun i=>(i.zero,i.size,i.bytes))=some (some (.agg #[.string ⟨#[]⟩,.int .i64 0]),2,24):=by kernel_rfl
theorem Qfo:(Tryz.prog.info? 72).map (fun i=>(i.zero,i.size,i.bytes))=some (some (.agg #[.int .i64 0,.slice none 0 0,.slice none 0 0]),3,56):=by kernel_rfl
theorem Qsv:(Tryz.prog.info? 2).map (fun i=>(i.zero,i.size,i.bytes))=some (some (.int .i64 0),1,8):=by kernel_rfl
theorem Qi8{W:World}{B b o:Nat}{e:TypeId}{s n:Nat}{v x:Value}{xs:List Value}(h:W.ownsRow B e s v n xs)(hb:b<B):(W.setCell ⟨b,o,none⟩ x).ownsRow B e s v n xs:=
 Vr h ⟨rfl,rfl,rfl,by simp,fun k hk hr=>Below.heap_setCell _ _ _ _ (fun e=>hr (by simp at e;rw[e]))⟩ hb
theorem XR{ops:Array Oper}{rest:List Oper}{o:Oper}{a:Act}{Q:Exit→Act→World→Prop}{W:World}(hgd:o.guard=none)(s x:Operand)(ho:o.op= .call {callee:= .builtin .append,args:= #[s,x],argTypes:= #[41,41]})(B:Nat)(v:Value)(n:Nat)(L:List BR)(hs:a.eval s=v)
  (hown:W.ownsRow B 69 2 v n (Za brL L)) (z:BR) (g:Nat) (hx:a.eval x= .slice (some ⟨g,0,none⟩) 1 1) (h0:W.cell? ⟨g,0,none⟩=some (.string z.n)) (h1:W.cell? ⟨g,1,none⟩=some (.int .i64 z.h)) (hn:n≤1099511627776) (hB:B≤W.heap.size)
  (h: ∀A' c' w',w'.ownsRow B 69 2 (.slice A' (n+1) c') (n+1) (Za brL (L++ [z]))→W.grownBy w' v.ownBlock→wpList Tryz.prog ops Q rest (a.put o.dst (.slice A' (n+1) c')) w'):wpList Tryz.prog ops Q (o::rest) a W:=by
 obtain⟨i0,hi,iz0,iz1,iz2⟩:=info_parts Qn2;refine wpList_append_own W hgd s x 41 ho B 69 i0 (.agg #[.string ⟨#[]⟩,.int .i64 0]) 2 24 Tryz.underlying41 hi iz0 iz1 iz2 rfl (by decide) v n _ hs hown ⟨g,0,none⟩ 1 1 (brL z) hx rfl ?_ ?_ ?_ ?_ hB ?_
 ·intro q u hq;match q,hq with
  | 0,hq=>simp[brL]at hq;subst hq;simpa[Addr.add]using h0
  | 1,hq=>simp[brL]at hq;subst hq;simpa[Addr.add]using h1
 ·intro u hu;simp[brL]at hu;rcases hu with rfl | rfl<;>rfl
 ·unfold maxLen;omega
 ·omega
 ·intro v' w3 hown' hgrow _;obtain⟨A',cap',rfl,_,_⟩:=Qo hown';refine h A' cap' w3 ?_ hgrow;rw[Dx];exact hown'
theorem UK{ops:Array Oper}{rest:List Oper}{o:Oper}{a:Act}{Q:Exit→Act→World→Prop}{W:World}(hgd:o.guard=none)(s x:Operand)(ho:o.op= .call {callee:= .builtin .append,args:= #[s,x],argTypes:= #[40,40]})(B:Nat)(v:Value)(n:Nat)(ys:List Value)(hs:a.eval s=v)
  (hown:W.ownsRow B 72 3 v n ys) (id:Int) (u p:Value) (hu:u.oneCell'=true) (hp:p.oneCell'=true) (g:Nat) (hx:a.eval x= .slice (some ⟨g,0,none⟩) 1 1) (h0:W.cell? ⟨g,0,none⟩=some (.int .i64 id)) (h1:W.cell? ⟨g,1,none⟩=some u) (h2:W.cell? ⟨g,2,none⟩=some p) (hn:n≤1099511627776) (hB:B≤W.heap.size)
  (h: ∀A' c' w',w'.ownsRow B 72 3 (.slice A' (n+1) c') (n+1) (ys++ [.int .i64 id,u,p])→W.grownBy w' v.ownBlock→wpList Tryz.prog ops Q rest (a.put o.dst (.slice A' (n+1) c')) w'):wpList Tryz.prog ops Q (o::rest) a W:=by
 obtain⟨i0,hi,iz0,iz1,iz2⟩:=info_parts Qfo;refine wpList_append_own W hgd s x 40 ho B 72 i0 (.agg #[.int .i64 0,.slice none 0 0,.slice none 0 0]) 3 56 Tryz.underlying40 hi iz0 iz1 iz2 rfl (by decide) v n _ hs hown ⟨g,0,none⟩ 1 1 [.int .i64 id,u,p] hx rfl ?_ ?_ ?_ ?_ hB ?_
 ·intro q w hq;match q,hq with
  | 0,hq=>simp at hq;subst hq;simpa[Addr.add]using h0
  | 1,hq=>simp at hq;subst hq;simpa[Addr.add]using h1
  | 2,hq=>simp at hq;subst hq;simpa[Addr.add]using h2
 ·intro w hw;simp at hw;rcases hw with rfl | rfl | rfl
  ·rfl
  ·exact hu
  ·exact hp
 ·unfold maxLen;omega
 ·omega
 ·intro v' w3 hown' hgrow _;obtain⟨A',cap',rfl,_,_⟩:=Qo hown';exact h A' cap' w3 hown' hgrow
theorem KI{W:World}{ops:Array Oper}{o:Oper}{a:Act}{K:Act→World→Prop}{Q:Exit→Act→World→Prop}{E:Prop}(hgd:o.guard=none)(s x:Operand)(ho:o.op= .call {callee:= .builtin .append,args:= #[s,x],argTypes:= #[40,40]})(B:Nat)(v:Value)(n:Nat)(ys:List Value)(hs:a.eval s=v)
  (hown:W.ownsRow B 72 3 v n ys) (id:Int) (u p:Value) (hu:u.oneCell'=true) (hp:p.oneCell'=true) (g:Nat) (hx:a.eval x= .slice (some ⟨g,0,none⟩) 1 1) (h0:W.cell? ⟨g,0,none⟩=some (.int .i64 id)) (h1:W.cell? ⟨g,1,none⟩=some u) (h2:W.cell? ⟨g,2,none⟩=some p) (hn:n≤1099511627776) (hB:B≤W.heap.size)
  (h: ∀A' c' w',w'.ownsRow B 72 3 (.slice A' (n+1) c') (n+1) (ys++ [.int .i64 id,u,p])→W.grownBy w' v.ownBlock→K (a.put o.dst (.slice A' (n+1) c')) w'):
  if Region.wanted o (yielded ops a.tmps)=true then Oper.wp Tryz.prog o a W K Q else E:=by
 obtain⟨i0,hi,iz0,iz1,iz2⟩:=info_parts Qfo;refine step_append_lies W hgd s x 40 ho B 72 i0 (.agg #[.int .i64 0,.slice none 0 0,.slice none 0 0]) 3 56 Tryz.underlying40 hi iz0 iz1 iz2 rfl (by decide) v n _ hs hown ⟨g,0,none⟩ 1 1 [.int .i64 id,u,p] hx rfl ?_ ?_ (by decide) ?_ ?_ hB _ rfl ?_
 ·intro q w hq;match q,hq with
  | 0,hq=>simp at hq;subst hq;simpa[Addr.add]using h0
  | 1,hq=>simp at hq;subst hq;simpa[Addr.add]using h1
  | 2,hq=>simp at hq;subst hq;simpa[Addr.add]using h2
 ·intro w hw;simp at hw;rcases hw with rfl | rfl | rfl
  ·rfl
  ·exact hu
  ·exact hp
 ·unfold maxLen;omega
 ·omega
 ·intro g' cap w3 hown' hgrow _ _;exact h _ cap w3 hown' hgrow
theorem ZD{W:World}{ops:Array Oper}{o:Oper}{a:Act}{K:Act→World→Prop}{Q:Exit→Act→World→Prop}{E:Prop}(hgd:o.guard=none)(s x:Operand)(ho:o.op= .call {callee:= .builtin .append,args:= #[s,x],argTypes:= #[24,24]})(B:Nat)(v:Value)(n:Nat)(L:List CQ)(hs:a.eval s=v)
  (hown:W.ownsRow B 37 3 v n (Za cqL L)) (z:CQ) (g:Nat) (hx:a.eval x= .slice (some ⟨g,0,none⟩) 1 1) (h0:W.cell? ⟨g,0,none⟩=some (.int .i64 z.c)) (h1:W.cell? ⟨g,1,none⟩=some (.int .i64 z.r)) (h2:W.cell? ⟨g,2,none⟩=some (.string z.s)) (hn:n≤1099511627776) (hB:B≤W.heap.size)
  (h: ∀A' c' w',w'.ownsRow B 37 3 (.slice A' (n+1) c') (n+1) (Za cqL (L++ [z]))→W.grownBy w' v.ownBlock→(∀k,(Value.slice A' (n+1) c').ownBlock=some k→v.ownBlock=some k∨W.heap.size≤k)→K (a.put o.dst (.slice A' (n+1) c')) w'):
  if Region.wanted o (yielded ops a.tmps)=true then Oper.wp Tryz.prog o a W K Q else E:=by
 obtain⟨i0,hi,iz0,iz1,iz2⟩:=info_parts Qmz;refine step_append_lies W hgd s x 24 ho B 37 i0 (.agg #[.int .i64 0,.int .i64 0,.string ⟨#[]⟩]) 3 32 Tryz.underlying24 hi iz0 iz1 iz2 rfl (by decide) v n _ hs hown ⟨g,0,none⟩ 1 1 (cqL z) hx rfl ?_ ?_ (by decide) ?_ ?_ hB _ rfl ?_
 ·intro q w hq;match q,hq with
  | 0,hq=>simp[cqL]at hq;subst hq;simpa[Addr.add]using h0
  | 1,hq=>simp[cqL]at hq;subst hq;simpa[Addr.add]using h1
  | 2,hq=>simp[cqL]at hq;subst hq;simpa[Addr.add]using h2
 ·intro w hw;simp[cqL]at hw;rcases hw with rfl | rfl | rfl<;>rfl
 ·unfold maxLen;omega
 ·omega
 ·intro g' cap w3 hown' hgrow hl _;refine h _ cap w3 (by rw[Dx];exact hown') hgrow (fun k hk=> ?_);cases hk
  rcases hl with e | e
  ·exact Or.inl e
  ·exact Or.inr (by show W.heap.size≤g';omega)
theorem YK{ops:Array Oper}{rest:List Oper}{o:Oper}{a:Act}{Q:Exit→Act→World→Prop}{W:World}(hgd:o.guard=none)(s x:Operand)(ho:o.op= .call {callee:= .builtin .append,args:= #[s,x],argTypes:= #[70,70]})(B:Nat)(v:Value)(n:Nat)(L:List Int)(hs:a.eval s=v)
  (hown:W.ownsRow B 2 1 v n (L.map (Value.int .i64))) (z:Int) (g:Nat) (hx:a.eval x= .slice (some ⟨g,0,none⟩) 1 1) (h0:W.cell? ⟨g,0,none⟩=some (.int .i64 z)) (hn:n≤1099511627776) (hB:B≤W.heap.size)
  (h: ∀g' c' w',w'.ownsRow B 2 1 (.slice (some ⟨g',0,none⟩) (n+1) c') (n+1) ((L++ [z]).map (Value.int .i64))→W.grownBy w' v.ownBlock→wpList Tryz.prog ops Q rest (a.put o.dst (.slice (some ⟨g',0,none⟩) (n+1) c')) w'):wpList Tryz.prog ops Q (o::rest) a W:=by
 obtain⟨i0,hi,iz0,iz1,iz2⟩:=info_parts Qsv;refine wpList_append_lies W hgd s x 70 ho B 2 i0 (.int .i64 0) 1 8 Tryz.underlying70 hi iz0 iz1 iz2 rfl (by decide) v n _ hs hown ⟨g,0,none⟩ 1 1 [.int .i64 z] hx rfl ?_ ?_ (by decide) ?_ ?_ hB _ rfl ?_
 ·intro q u hq;match q,hq with
  | 0,hq=>simp at hq;subst hq;simpa[Addr.add]using h0
 ·intro u hu;simp at hu;subst hu;rfl
 ·unfold maxLen;omega
 ·omega
 ·intro g' c' w3 hown' hgrow _ _;refine h g' c' w3 ?_ hgrow;rw[List.map_append];exact hown'
theorem DqP.boxBr{W w:World}{B b:Nat}{q:RQ}{v1 v2:Value}{ys:List Value}(h:DqP W B b q v1 v2 ys)(hg:W.grownBy w v2.ownBlock):w.ownsRow B 43 3 (.slice (some ⟨b,0,none⟩) 1 1) 1 [.int .i64 q.next,v1,v2]:=h.box.kept hg (Qht h.box h.br (by decide))
theorem DqP.boxVr{W w:World}{B b:Nat}{q:RQ}{v1 v2:Value}{ys:List Value}(h:DqP W B b q v1 v2 ys)(hg:W.grownBy w v1.ownBlock):w.ownsRow B 43 3 (.slice (some ⟨b,0,none⟩) 1 1) 1 [.int .i64 q.next,v1,v2]:=h.box.kept hg (Qht h.box h.vr (by decide))
theorem DqP.fresh{W:World}{B b H:Nat}{q:RQ}{v1 v2 u:Value}{ys:List Value}(h:DqP W B b q v1 v2 ys)(hH:W.heap.size≤H)(hu: ∀k,u.ownBlock=some k→H≤k): ∀k i,u.ownBlock=some k→i<q.vs.length→Ot ys (i*3+1)≠some k:=fun k i hk hi e=>by
 obtain⟨z,hz⟩: ∃z,q.vs[i]? =some z:=⟨_,List.getElem?_eq_getElem hi⟩;obtain⟨u',v',z0,z1,z2,m1,m2⟩:=h.pt i z hz;rw[Jw z1]at e;have h1:=(m1.lt e).2;have h2:=hu k hk;omega
theorem bqm{b:Nat}{u W W':World}(h0:Below b u W)(hb:Below W.heap.size W W')(hl:b≤W.heap.size):Below b u W':=h0.trans (hb.mono hl)
theorem DqV.setB{W:World}{B b o:Nat}{v x:Value}{q:RQ}(h:DqV W B v q)(hb:b<B):DqV (W.setCell ⟨b,o,none⟩ x) B v q:=by
 obtain⟨v1,v2,ys,e,h1,h2,h3,h4⟩:=h;have hg:W.grownBy (W.setCell ⟨b,o,none⟩ x) (some b):=⟨rfl,rfl,rfl,by simp,fun k hk hr=>Below.heap_setCell _ _ _ _ (fun e=>hr (by simp at e;rw[e]))⟩;refine⟨v1,v2,ys,e,Vr h1 hg hb,fun i y hy=> ?_,h3,Vr h4 hg hb⟩;obtain⟨u,v,y0,y1,y2,k1,k2⟩:=h2 i y hy;refine⟨u,v,y0,y1,y2,k1.kept hg ?_,Vr k2 hg hb⟩;cases hu:u.ownBlock with
 | none=>exact Or.inl rfl
 | some k=>right;intro e;cases e;have:=(k1.lt hu).1;omega
theorem DqV.mono{W:World}{B B':Nat}{v:Value}{q:RQ}(h:DqV W B v q)(hB:B'≤B):DqV W B' v q:=by
 obtain⟨v1,v2,ys,e,h1,h2,h3,h4⟩:=h;refine⟨v1,v2,ys,e,Yv h1 hB,fun i y hy=> ?_,h3,Yv h4 hB⟩;obtain⟨u,v,y0,y1,y2,k1,k2⟩:=h2 i y hy;exact⟨u,v,y0,y1,y2,k1.mono hB,Yv k2 hB⟩
theorem DqP.lastRow{W:World}{B b:Nat}{q:RQ}{v1 v2 s:Value}{ys:List Value}{v0:List RV}{x:RV}(h:DqP W B b q v1 v2 ys)(hq:q.vs=v0++ [x])(hs:ys[v0.length*3+2]? =some s):W.ownsRow B 37 3 s x.cs.length (Za cqL x.cs):=by
 obtain⟨u0,s0,y0,y1,y2,k1,k2⟩:=h.pt v0.length x (by rw[hq];simp);rw[hs]at y2;cases y2
 exact k2
theorem DqP.lastAt{W:World}{B b:Nat}{q:RQ}{v1 v2:Value}{ys:List Value}{v0:List RV}{x:RV}(h:DqP W B b q v1 v2 ys)(hq:q.vs=v0++ [x]): ∃A c,ys[v0.length*3+2]? =some (.slice A x.cs.length c):=by
 obtain⟨u0,s0,y0,y1,y2,k1,k2⟩:=h.pt v0.length x (by rw[hq];simp);obtain⟨A,c,rfl,_,_⟩:=Qo k2;exact⟨A,c,y2⟩
theorem Qez{W:World}{B g n s cap:Nat}{e e':TypeId}{n' s':Nat}{v':Value}{xs xs':List Value}(h:W.ownsRow B e s (.slice (some ⟨g,0,none⟩) n cap) n xs)(h':W.ownsRow B e' s' v' n' xs')(hne:e≠e'):some g≠v'.ownBlock:=by
 rcases Qht h h' hne with h9 | h9
 ·cases h9
 ·exact h9
def Mf(e:TypeId):Prop:=e=43∨e=72∨e=69∨e=2∨e=37
structure KpQ (B:Nat) (W W':World):Prop where
 os:W'.os=W.os
 tape:W'.tape=W.tape
 output:W'.output=W.output
 size:W.heap.size≤W'.heap.size
 block: ∀k,k<W.heap.size→(k<B∨ ∀c e f,W.heap[k]? =some (.cells c e f)→ ¬Mf e)→W'.heap[k]? =W.heap[k]?
theorem KpQ.of_below{B:Nat}{W W':World}(h:Below W.heap.size W W'):KpQ B W W':=⟨h.os,h.tape,h.output,h.size,fun k hk _=>h.block k hk⟩
theorem KpQ.trans{B:Nat}{W W' W'':World}(h:KpQ B W W')(h':KpQ B W' W''):KpQ B W W'':=by
 refine⟨h'.os.trans h.os,h'.tape.trans h.tape,h'.output.trans h.output,Nat.le_trans h.size h'.size,fun k hk hr=> ?_⟩;have e1:=h.block k hk hr;refine(h'.block k (Nat.lt_of_lt_of_le hk h.size) ?_).trans e1;rcases hr with hr | hr
 ·exact Or.inl hr
 ·right
  intro c e f hc;rw[e1]at hc;exact hr c e f hc
theorem KpQ.own{B:Nat}{W W':World}{e:TypeId}{s n:Nat}{v:Value}{xs:List Value}(h:W.ownsRow B e s v n xs)(he:Mf e)(hg:W.grownBy W' v.ownBlock):KpQ B W W':=by
 refine⟨hg.os,hg.tape,hg.output,hg.size,fun k hk hr=>hg.block k hk fun e9=> ?_⟩;have hl:=h.lt k e9.symm;rcases hr with hr | hr
 ·omega
 ·rcases h.2 with⟨rfl,_⟩ | ⟨g,cap,cur,rfl,_,hg9,_⟩
  ·cases e9
  ·cases e9
   exact hr cur e (0,0) hg9 he
theorem KpQ.to_below{B:Nat}{W W':World}(h:KpQ B W W')(hB:B≤W.heap.size):Below B W W':=⟨h.os,h.tape,h.output,h.size,fun k hk=>h.block k (Nat.lt_of_lt_of_le hk hB) (Or.inl hk)⟩
theorem NT:Mf 43:=Or.inl rfl
theorem Qcg:Mf 72:=Or.inr (Or.inl rfl)
theorem Qkf:Mf 69:=Or.inr (Or.inr (Or.inl rfl))
theorem Qqu:Mf 2:=Or.inr (Or.inr (Or.inr (Or.inl rfl)))
theorem Qii:Mf 37:=Or.inr (Or.inr (Or.inr (Or.inr rfl)))
def PostL(b:Nat)(o:Option RQ)(w:World)(e:Ending)(w':World):Prop:=KpQ b w w'∧match o with
 | none=>e= .returned (.bool false)
 | some q'=>e= .returned (.bool true)∧ ∃v1 v2 ys,DqP w' b b q' v1 v2 ys
theorem PostL.no{b:Nat}{o:Option RQ}{w w':World}{e:Ending}(h:o=none)(hk:KpQ b w w')(he:e= .returned (.bool false)):PostL b o w e w':=by subst h;exact⟨hk,he⟩
theorem PostL.yes{b:Nat}{o:Option RQ}{q:RQ}{w w':World}{e:Ending}{v1 v2:Value}{ys:List Value}(h:o=some q)(hk:KpQ b w w')(he:e= .returned (.bool true))(hdq:DqP w' b b q v1 v2 ys):PostL b o w e w':=by subst h;exact⟨hk,he,v1,v2,ys,hdq⟩
theorem Ml{num:Zp}: ∀(L:List (List UInt8)) (k:Nat),Qn num (L.take k)=none→Qn num L=none
 | [],k,h=>by simp[Qn]at h
 | x::L,0,h=>by simp[Qn]at h
 | x::L,k+1,h=>by
  rw[List.take_succ_cons]at h;unfold Qn at h ⊢;cases hx:num x with
  | none=>rfl
  | some a=>
   rw[hx,Option.bind_some]at h
   have h9:Qn num (L.take k)=none:=by
    cases h8:Qn num (L.take k)with
    | none=>rfl
    | some t=>rw[h8]at h;cases h
   rw[Ml L k h9];rfl
theorem BK{num:Zp}: ∀(L:List (List UInt8)) (t:List Int),Qn num L=some t→t.length=L.length
 | [],t,h=>by cases h;rfl
 | x::L,t,h=>by
  unfold Qn at h;obtain⟨a,_,h⟩:=Option.bind_eq_some_iff.1 h;obtain⟨r,hr,rfl⟩:=Option.map_eq_some_iff.1 h;rw[List.length_cons,List.length_cons,BK L r hr]
theorem Qdl{num:Zp}{L:List (List UInt8)}{k:Nat}{t:List Int}{x:List UInt8}(h:Qn num (L.take k)=some t)(hx:L[k]? =some x):Qn num (L.take (k+1))=(num x).map fun a=>t++ [a]:=by
 rw[List.take_add_one,hx];show Qn num (L.take k++ [x])=_;rw[Mh,h];rfl
theorem Qqt(l:List UInt8):1≤(spl l).length:=by
 unfold spl;cases h:Lib.count l [32]with
 | zero=>exact Nat.le_refl 1
 | succ k=>
  unfold Lib.splitK;split
  ·exact Nat.le_refl 1
  ·rw[List.length_cons];omega
def MU(g cap k:Nat):Value:= .slice (if cap=1 then some ⟨g,0,none⟩else some ⟨g,1,none⟩) (k-1) (cap-1)
theorem Qfq{W:World}{B g cap k:Nat}{a:Int}{us:List Int}(h:W.ownsRow B 2 1 (.slice (some ⟨g,0,none⟩) k cap) k ((a::us).map (Value.int .i64))):UpO W B (MU g cap k) us:=by
 have hl:=h.1;rw[List.length_map,Nat.mul_one,List.length_cons]at hl;have h9:=UpO.tail h (cap-1);have e:us.length=k-1:=by omega
 unfold MU;by_cases hc:cap=1
 ·rw[if_pos hc,←e];rcases h.2 with⟨h8,_⟩ | ⟨g',cap',cur,e8,hb,hg,h1,h2,h3,h4⟩
  ·cases h8
  ·cases e8
   have:us.length=0:=by omega
   have hn:us= []:=List.length_eq_zero_iff.1 this;subst hn;exact Or.inr ⟨g,0,_,cur,rfl,hb,hg,Nat.zero_le _,by simp,by simp⟩
 ·rw[if_neg hc,←e];exact h9
theorem Qdd{g cap k j:Nat}(h:(MU g cap k).ownBlock=some j):j=g:=by
 unfold MU at h;split at h<;>(cases h;rfl)
theorem Ug{n:Nat}{w W:World}(h:Below n w W)(k:Nat):Below n w (W.drewN k):=by
 induction k with
 | zero=>exact h
 | succ k ih=>first | exact ih.drew | (rw[World.drewN_succ];exact ih.drew)
end Go.Proofs.YtbdhinckiccniaaGreatDoor
