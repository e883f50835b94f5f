import Derived.Test.YtomadadmakdkgaaGreatDoorGaq
import Derived.Test.YtomadadmakdkgaaGreatDoorGas
import Derived.WalkLawsBesides
import Derived.Test.YtomadadmakdkgaaGreatDoorGaf
import Derived.Test.YtomadadmakdkgaaGreatDoorGab
import Derived.Test.YtomadadmakdkgaaGreatDoorGao
import Derived.Deep.MidRow
open Go.Proofs.Tryz
open Go.Value renaming int → p, string → C, agg → D, slice → K
open Go.IntKind renaming i64 → B, wrap_i64 → E
open Ne renaming symm → F
open Option.some renaming injEq → G
open Go.Ending renaming returned → H
open Go.ByteArray renaming toList_eq → I
open Option renaming map_some → J
set_option linter.unusedSimpArgs false
set_option linter.unusedVariables false
set_option maxHeartbeats 8000000
set_option maxRecDepth 100000
namespace Go.Proofs.YtomadadmakdkgaaGreatDoor
open Go.RowKit
variable {m:Nat} {l:List UInt8}
def noF:List PanicEntry:= [{v:= .iface 9 (C ⟨#[110,111,32,102,111,114,109,117,108,97]⟩),recovered:=false}]
theorem ZN(w:World):Calls prog 219 #[] w fun e w'=>e= .panicked noF/\w'=w:=by
 go_enter func219,ntmps219;go_wp2
 exact⟨rfl,rfl,rfl⟩
def lnG:Nat->List UInt8->Nat
 | 0,_=>0
 | k+1,l=>if(sgT (k:Int)).isPrefixOf l then max (lnG k l) (sgT (k:Int)).length else lnG k l
theorem Qq4:lnG 12 []=(sgT (Zg [])).length:=by decide
theorem Quu(c b:UInt8)(t:List UInt8): [c].isPrefixOf (b::t)=(c==b):=by simp[List.isPrefixOf]
theorem Qut(c d b:UInt8)(t:List UInt8): [c,d].isPrefixOf (b::t)=(c==b&&decide (t.head? =some d)):=by
 cases t with
 | nil=>simp[List.isPrefixOf]
 | cons e u=>
  rw[Bool.eq_iff_iff];simp only[List.isPrefixOf,Bool.and_eq_true,beq_iff_eq,Bool.and_true,List.head?_cons,G,decide_eq_true_eq];constructor
  ·rintro⟨rfl,rfl⟩;exact⟨rfl,rfl⟩
  ·rintro⟨rfl,rfl⟩;exact⟨rfl,rfl⟩
theorem Qpl:sgT 0= []/\sgT 1= [43]/\sgT 2= [45]/\sgT 3= [42]/\sgT 4= [47]/\sgT 5= [38]/\sgT 6= [61]/\sgT 7= [60,62]/\sgT 8= [60]/\sgT 9= [60,61]/\sgT 10= [62]/\sgT 11= [62,61]:=by decide
theorem Quh(l:List UInt8):lnG 12 l=(sgT (Zg l)).length:=by
 cases l with
 | nil=>exact Qq4
 | cons b t=>
  obtain⟨e0,e1,e2,e3,e4,e5,e6,e7,e8,e9,h9,h8⟩:=Qpl;simp only[lnG,show((0:Nat):Int)=0 from rfl,show((1:Nat):Int)=1 from rfl,show((2:Nat):Int)=2 from rfl,show((3:Nat):Int)=3 from rfl,show((4:Nat):Int)=4 from rfl,show((5:Nat):Int)=5 from rfl,show((6:Nat):Int)=6 from rfl,show((7:Nat):Int)=7 from rfl,show((8:Nat):Int)=8 from rfl,show((9:Nat):Int)=9 from rfl,show((10:Nat):Int)=10 from rfl,show((11:Nat):Int)=11 from rfl,e0,e1,e2,e3,e4,e5,e6,e7,e8,e9,h9,h8,Quu,Qut];rw[Qgn];by_cases h5:b=43
  ·subst h5;simp[e1]
  by_cases h4:b=45
  ·subst h4;simp[e2]
  by_cases h6:b=42
  ·subst h6;simp[e3]
  by_cases h3:b=47
  ·subst h3;simp[e4]
  by_cases h7:b=38
  ·subst h7;simp[e5]
  by_cases h1:b=61
  ·subst h1;simp[e6]
  by_cases h2:b=60
  ·subst h2;by_cases g1:t.head? =some 62
   ·simp[g1,e7]
   by_cases g2:t.head? =some 61
   ·simp[g2,e9]
   simp[g1,g2,e8]
  by_cases h0:b=62
  ·subst h0;by_cases g2:t.head? =some 61
   ·simp[g2,h8]
   simp[g2,h9]
  have n1:(43==b)=false:=by simpa using F h5
  have n2:(45==b)=false:=by simpa using F h4
  have n3:(42==b)=false:=by simpa using F h6
  have n4:(47==b)=false:=by simpa using F h3
  have n5:(38==b)=false:=by simpa using F h7
  have n6:(61==b)=false:=by simpa using F h1
  have n7:(60==b)=false:=by simpa using F h2
  have n8:(62==b)=false:=by simpa using F h0
  simp[n1,n2,n3,n4,n5,n6,n7,n8,h5,h4,h6,h3,h7,h1,h2,h0,e0]
def ZJ(ps:List (List UInt8))(i:Nat):List UInt8:=ps.getD i []
theorem Qcq{ps:List (List UInt8)}{i:Nat}(h:ps.length<=i):ZJ ps i= []:=by
 unfold ZJ;rw[List.getD_eq_getElem?_getD,List.getElem?_eq_none h];rfl
def txt:Nat->List UInt8->List UInt8
 | 0,l=>l
 | k+1,l=>txt k (nx l)
theorem Qb7: ∀(k:Nat) (l:List UInt8),txt (k+1) l=nx (txt k l)
 | 0,l=>rfl
 | k+1,l=>by
  show txt (k+1) (nx l)=_;rw[Qb7 k (nx l)];rfl
theorem Qft: ∀(k:Nat) (l:List UInt8),(txt k l).length<=l.length
 | 0,l=>Nat.le_refl _
 | k+1,l=>by
  have h1:=Qft k (nx l);have h2:=Ul l;show(txt k (nx l)).length<=_;omega
structure Txt (ps:List (List UInt8)) (T:Nat->List UInt8):Prop where
 few:ps.length<=1000
 len: ∀k,(T k).length<=1000
 tp: ∀k,k<=ps.length->pk (T k)=ZJ ps k
 ne: ∀k,k<ps.length->ZJ ps k≠ []
 tn: ∀k,k<ps.length->nx (T k)=T (k+1)
 fin:sb (T ps.length)= []
theorem Ot: ∀(m:Nat) (l:List UInt8) (ws:List (List UInt8)),Xh m l=some ws->ws.length<=l.length
 | 0,l,ws,h=>by cases h
 | m+1,l,ws,h=>by
  rw[Xh]at h;by_cases hs:sb l= []
  ·rw[pS hs]at h;cases h
   exact Nat.zero_le _
  ·rw[nG hs]at h;cases ht:tok l with
   | none=>rw[ht]at h;cases h
   | some x=>
    rw[ht]at h;have h1:=(Hi (w:=x.1) (r:=x.2) ht).1;cases hq:Xh m x.2 with
    | none=>simp only[hq]at h;cases h
    | some ws'=>
     simp only[hq,J,G]at h;have h2:=Ot m x.2 ws' hq;rw[<-h,List.length_cons];omega
theorem Qca: ∀(m:Nat) (l:List UInt8) (ws:List (List UInt8)),Xh m l=some ws->(∀k,k<=ws.length->pk (txt k l)=ZJ ws k)/\(∀k,k<ws.length->ZJ ws k≠ [])/\sb (txt ws.length l)= []
 | 0,l,ws,h=>by cases h
 | m+1,l,ws,h=>by
  rw[Xh]at h;by_cases hs:sb l= []
  ·rw[pS hs]at h;cases h
   refine⟨fun k hk=> ?_,fun k hk=>absurd hk (Nat.not_lt_zero _),hs⟩;obtain rfl:k=0:=by simpa using hk
   show pk l=_;unfold pk;rw[Qfw hs];rfl
  ·rw[nG hs]at h;cases ht:tok l with
   | none=>rw[ht]at h;cases h
   | some x=>
    rw[ht]at h;have h1:=(Hi (w:=x.1) (r:=x.2) ht).2.1;have hn:nx l=x.2:=by unfold nx;rw[ht]
    have hp:pk l=x.1:=by unfold pk;rw[ht]
    cases hq:Xh m x.2 with
    | none=>simp only[hq]at h;cases h
    | some ws'=>
     simp only[hq,J,G]at h;obtain⟨i1,i2,i3⟩:=Qca m x.2 ws' hq;subst h;refine⟨fun k hk=> ?_,fun k hk=> ?_,?_⟩
     ·cases k with
      | zero=>exact hp
      | succ k=>
       show pk (txt k (nx l))=_;rw[hn,i1 k (by simpa using hk)];rfl
     ·cases k with
      | zero=>exact h1
      | succ k=>exact i2 k (by simpa using hk)
     ·show sb (txt ws'.length (nx l))= [];rw[hn];exact i3
theorem Qtf{ws:List (List UInt8)}(h:Xh m l=some ws)(hl:l.length<=1000):Txt ws (fun k=>txt k l):=by
 obtain⟨i1,i2,i3⟩:=Qca m l ws h;exact⟨Nat.le_trans (Ot m l ws h) hl,fun k=>Nat.le_trans (Qft k l) hl,i1,i2,fun k _=>(Qb7 k l).symm,i3⟩
theorem Qii(h:(pk l).head? =some 34): ∃q,pk l=34::(qt q++ [34])/\ZE (pk l).tail=some (q,[]):=by
 have h0:pk l≠ []:=fun e=>by rw[e]at h;cases h
 have hs:=Ue h0;cases hq:pk l with
 | nil=>exact absurd hq h0
 | cons b u=>
  rw[hq]at h;obtain rfl:b=34:=by simpa using h
  rw[hq]at hs;have h1:sb l=34::(u++nx l):=hs;cases hz:ZE (u++nx l)with
  | none=>
   have h9:=GN h1 hz;rw[Hr h0]at h9;cases h9
  | some x=>
   obtain⟨e1,e2,e3⟩:=Oz h1 (s:=x.1) (r:=x.2) hz;rw[hq]at e1 e3;exact⟨x.1,e1,e3⟩
theorem Qkd(h:sb l= []):Xh (m+1) l=some []:=by rw[Xh,pS h]
theorem Qhx(h:sb l≠ []):Xh (m+1) l=if XA (sb l)=0 then none else(Xh m ((sb l).drop (XA (sb l)))).map fun ws=>(sb l).take (XA (sb l))::ws:=by
 rw[Xh,nG h];unfold tok;by_cases hz:XA (sb l)=0
 ·rw[pS hz,pS hz]
 ·rw[nG hz,nG hz]
def PcRow(W:World)(A:Option Addr)(ps:List (List UInt8)):Prop:=
 ps.length<=1000/\ ∀i,i<ps.length-> ∃b o,A=some ⟨b,o,none⟩/\b<W.heap.size/\W.cell? ⟨b,o+i,none⟩=some (C (bs (ps.getD i [])))
def Ri(W:World)(r:Nat)(A:Option Addr)(cap:Nat)(ps:List (List UInt8))(k:Nat)(v:Value):Prop:=
 k<=ps.length/\(W.cell? ⟨r,0,none⟩=some (K A ps.length cap)/\W.cell? ⟨r,1,none⟩=some (p B k)/\W.cell? ⟨r,2,none⟩=some v)/\W.frozen? ⟨r,1,none⟩=false/\W.frozen? ⟨r,2,none⟩=false
theorem Qck(r:Nat)(A:Option Addr)(cap:Nat)(ps:List (List UInt8))(k m:Nat)(v:Value)(W:World)(h:Ri W r A cap ps k v)(hp:PcRow W A ps)(hm:m<=1):
  Calls prog 218 #[.pointer (some ⟨r,0,none⟩),p B (m:Int)] W fun e w'=>e= H (C (bs (ZJ ps (k+m))))/\ ∃n,w'=W.drewN n:=by
 obtain⟨hk,⟨c0,c1,c2⟩,f1,f2⟩:=h;have hl:=hp.1;have hw:IntKind.i64.wrap ((k:Int)+(m:Int))=(k:Int)+(m:Int):=by rw[E];omega
 by_cases h0:k+m<ps.length
 ·obtain⟨b,o,rfl,hb,hc⟩:=hp.2 (k+m) h0;have q1: ¬(ps.length:Int)<=(k:Int)+(m:Int):=by omega
  have q2:(0:Int)<=(k:Int)+(m:Int):=by omega
  have q3:(k:Int)+(m:Int)<(ps.length:Int):=by omega
  have q4:((k:Int)+(m:Int)).toNat=k+m:=by omega
  obtain⟨x,HX⟩: ∃x,Hid (bs (ZJ ps (k+m))=x):=⟨_,rfl⟩;have hc':W.cell? ⟨b,o+(k+m),none⟩=some (C x):=by rw[<-HX.out];exact hc
  rw[HX.out];clear hp hc;go_enter func218,ntmps218;go_wp2_with fail
  go_quiet (fail)
  go_wp2_with fail
  go_quiet (fail)
  go_wp2_with fail
  go_ret;exact⟨rfl,_,World.drewN_drewN _ _ _⟩
 ·have q1:(ps.length:Int)<=(k:Int)+(m:Int):=by omega
  have HX:Hid (bs (ZJ ps (k+m))=⟨#[]⟩):=by show _=_;rw[Qcq (by omega)];rfl
  rw[HX.out];clear hp;go_enter func218,ntmps218;go_wp2_with fail
  go_quiet (fail)
  go_wp2_with fail
  go_ret;exact⟨rfl,_,rfl⟩
theorem EW(r:Nat)(A:Option Addr)(cap:Nat)(ps:List (List UInt8))(k:Nat)(v:Value)(W:World)(h:Ri W r A cap ps k v)(hp:PcRow W A ps):
  Calls prog 244 #[.pointer (some ⟨r,0,none⟩)] W fun e w'=>
   (ZJ ps k= []/\e= .panicked noF/\ ∃n,w'=W.drewN n)\/(ZJ ps k≠ []/\e= H (C (bs (ZJ ps k)))/\ ∃n,w'=(W.drewN n).setCell ⟨r,1,none⟩ (p B ((k:Int)+1))):=by
 have HR:Hid (Ri W r A cap ps k v):=h;have HP:Hid (PcRow W A ps):=hp;obtain⟨hk,⟨c0,c1,c2⟩,f1,f2⟩:=h;have hl:=hp.1;have hw:IntKind.i64.wrap ((k:Int)+1)=(k:Int)+1:=by rw[E];omega
 clear hp;go_enter func244,ntmps244;go_wp2_with fail
 refine(Qck r A cap ps k 0 v W HR.out HP.out (by omega)).mono ?_;rintro _ w1 ⟨rfl,nq,hw1⟩;subst hw1;rw[Nat.add_zero];have c0:(W.drewN nq).cell? ⟨r,0,none⟩=some (K A ps.length cap):=c0;have c1:(W.drewN nq).cell? ⟨r,1,none⟩=some (p B k):=c1;have f1:(W.drewN nq).frozen? ⟨r,1,none⟩=false:=f1
 obtain⟨l,HL⟩: ∃l,Hid (ZJ ps k=l):=⟨_,rfl⟩;rw[HL.out];obtain⟨x,HX⟩: ∃x,Hid (bs l=x):=⟨_,rfl⟩;rw[HX.out];by_cases hn:l= []
 ·have h0:x.toList.isEmpty=true:=by rw[<-HX.out,I,hn];rfl
  have HN:Hid (l= []):=hn;clear hn;go_wp2_with fail
  refine(ZN _).mono ?_;rintro _ w2 ⟨rfl,hw2⟩;obtain rfl:=hw2.symm;clear hw2;go_wp2_with fail
  exact⟨rfl,Or.inl ⟨by rw[HL.out];exact HN.out,rfl,_,rfl⟩⟩
 ·have h0:x.toList.isEmpty=false:=by
   rw[<-HX.out,I];show l.isEmpty=false;cases hq:l with
   | nil=>exact absurd hq hn
   | cons a t=>rfl
  have HN:Hid (l≠ []):=hn;clear hn;go_wp2_with fail
  go_ret;exact Or.inr ⟨by rw[HL.out];exact HN.out,by rw[HL.out,HX.out];rfl,nq,rfl⟩
theorem Br(c:UInt8)(r:Nat)(A:Option Addr)(cap:Nat)(ps:List (List UInt8))(k:Nat)(v:Value)(W:World)(h:Ri W r A cap ps k v)(hp:PcRow W A ps):
  Calls prog 280 #[.pointer (some ⟨r,0,none⟩),C (bs [c])] W fun e w'=>
   (ZJ ps k= [c]/\(∃x,e= H x)/\ ∃n,w'=(W.drewN n).setCell ⟨r,1,none⟩ (p B ((k:Int)+1)))\/(ZJ ps k≠ [c]/\e= .panicked noF/\W.grownBy w' (some r)):=by
 have HR:Hid (Ri W r A cap ps k v):=h;have HP:Hid (PcRow W A ps):=hp;obtain⟨sg,h0⟩: ∃sg,Hid (bs [c]=sg):=⟨_,rfl⟩;rw[h0.out];clear h hp;go_enter func280,ntmps280;go_wp2_with fail
 refine(EW r A cap ps k v W HR.out HP.out).mono ?_;rintro e w1 (⟨hn,rfl,n,rfl⟩ | ⟨hn,rfl,n,rfl⟩)
 ·have HN:Hid (ZJ ps k≠ [c]):=by show _≠_;rw[hn];simp
  clear hn;go_wp2_with fail
  exact⟨rfl,Or.inr ⟨HN.out,rfl,Qv _ _ n⟩⟩
 ·obtain⟨l,HL⟩: ∃l,Hid (ZJ ps k=l):=⟨_,rfl⟩;rw[HL.out]at hn ⊢;obtain⟨x,HX⟩: ∃x,Hid (bs l=x):=⟨_,rfl⟩;rw[HX.out];have HG:Hid (W.grownBy ((W.drewN n).setCell ⟨r,1,none⟩ (p B ((k:Int)+1))) (some r)):=Qs (Qv _ _ n) (Ze _ _ _ _);by_cases hl:l= [c]
  ·have h2:(x.toList==sg.toList)=true:=by rw[<-HX.out,<-h0.out,MR];simpa using hl
   have h1:Hid (l= [c]):=hl;clear hl hn;go_wp2_with fail
   go_returns
   exact Or.inl ⟨by rw[HL.out];exact h1.out,⟨_,rfl⟩,n,rfl⟩
  ·have h2:(x.toList==sg.toList)=false:=by rw[<-HX.out,<-h0.out,MR];simpa using hl
   have h1:Hid (l≠ [c]):=hl;clear hl hn;go_wp2_with fail
   refine(ZN _).mono ?_;rintro _ w2 ⟨rfl,hw2⟩;obtain rfl:=hw2.symm;clear hw2;go_wp2_with fail
   exact⟨rfl,Or.inr ⟨by rw[HL.out];exact h1.out,rfl,HG.out⟩⟩
theorem Zf{ops:Array Oper}{rest:List Oper}{op:Oper}{a:Act}{w:World}{Q:Exit->Act->World->Prop}(hgd:op.guard=none)(ty:TypeId)(x y:Operand)(ho:op.op= .index ty x y)(vx vy v:Value)(hx:a.eval x=vx)(hy:a.eval y=vy)
  (hr:(Instr.index ty vx vy).run prog w= .ok v w) (h:wpList prog ops Q rest (a.put op.dst v) w):wpList prog ops Q (op::rest) a w:=
 wpList_plain hgd fun _ hK=>by
  unfold Oper.wp execOp;simp only[ho,hx,hy,Sem.run_bind,hr,Sem.run_pure,Result.andThen_ok];exact hK _ _ h
def Ml(f:Nat->ByteArray)(g:Nat->Int):List Value:= [C (f 0),p B (g 0),C (f 1),p B (g 1),C (f 2),p B (g 2),C (f 3),p B (g 3),C (f 4),p B (g 4),C (f 5),p B (g 5),C (f 6),p B (g 6),C (f 7),p B (g 7),C (f 8),p B (g 8),C (f 9),p B (g 9),C (f 10),p B (g 10),C (f 11),p B (g 11)]
theorem Qwu(f:Nat->ByteArray)(g:Nat->Int)(w:World):(Instr.index 217 (.agg (Ml f g).toArray) (p B 0)).run prog w= .ok (D #[C (f 0),p B (g 0)]) w:=by kernel_rfl
theorem Qwt(f:Nat->ByteArray)(g:Nat->Int)(w:World):(Instr.index 217 (.agg (Ml f g).toArray) (p B 1)).run prog w= .ok (D #[C (f 1),p B (g 1)]) w:=by kernel_rfl
theorem Qws(f:Nat->ByteArray)(g:Nat->Int)(w:World):(Instr.index 217 (.agg (Ml f g).toArray) (p B 2)).run prog w= .ok (D #[C (f 2),p B (g 2)]) w:=by kernel_rfl
theorem Qwr(f:Nat->ByteArray)(g:Nat->Int)(w:World):(Instr.index 217 (.agg (Ml f g).toArray) (p B 3)).run prog w= .ok (D #[C (f 3),p B (g 3)]) w:=by kernel_rfl
theorem Qwq(f:Nat->ByteArray)(g:Nat->Int)(w:World):(Instr.index 217 (.agg (Ml f g).toArray) (p B 4)).run prog w= .ok (D #[C (f 4),p B (g 4)]) w:=by kernel_rfl
theorem Qwp(f:Nat->ByteArray)(g:Nat->Int)(w:World):(Instr.index 217 (.agg (Ml f g).toArray) (p B 5)).run prog w= .ok (D #[C (f 5),p B (g 5)]) w:=by kernel_rfl
theorem Qwo(f:Nat->ByteArray)(g:Nat->Int)(w:World):(Instr.index 217 (.agg (Ml f g).toArray) (p B 6)).run prog w= .ok (D #[C (f 6),p B (g 6)]) w:=by kernel_rfl
theorem Qwn(f:Nat->ByteArray)(g:Nat->Int)(w:World):(Instr.index 217 (.agg (Ml f g).toArray) (p B 7)).run prog w= .ok (D #[C (f 7),p B (g 7)]) w:=by kernel_rfl
theorem Qwm(f:Nat->ByteArray)(g:Nat->Int)(w:World):(Instr.index 217 (.agg (Ml f g).toArray) (p B 8)).run prog w= .ok (D #[C (f 8),p B (g 8)]) w:=by kernel_rfl
theorem Qwl(f:Nat->ByteArray)(g:Nat->Int)(w:World):(Instr.index 217 (.agg (Ml f g).toArray) (p B 9)).run prog w= .ok (D #[C (f 9),p B (g 9)]) w:=by kernel_rfl
theorem Qun(f:Nat->ByteArray)(g:Nat->Int)(w:World):(Instr.index 217 (.agg (Ml f g).toArray) (p B 10)).run prog w= .ok (D #[C (f 10),p B (g 10)]) w:=by kernel_rfl
theorem Qum(f:Nat->ByteArray)(g:Nat->Int)(w:World):(Instr.index 217 (.agg (Ml f g).toArray) (p B 11)).run prog w= .ok (D #[C (f 11),p B (g 11)]) w:=by kernel_rfl
theorem ixO(f:Nat->ByteArray)(g:Nat->Int)(k:Nat)(hk:k<12)(w:World):(Instr.index 217 (.agg (Ml f g).toArray) (p B (k:Int))).run prog w= .ok (D #[C (f k),p B (g k)]) w:=by
 have hq:k=0\/k=1\/k=2\/k=3\/k=4\/k=5\/k=6\/k=7\/k=8\/k=9\/k=10\/k=11:=by omega
 rcases hq with rfl | rfl | rfl | rfl | rfl | rfl | rfl | rfl | rfl | rfl | rfl | rfl
 ·exact Qwu f g w
 ·exact Qwt f g w
 ·exact Qws f g w
 ·exact Qwr f g w
 ·exact Qwq f g w
 ·exact Qwp f g w
 ·exact Qwo f g w
 ·exact Qwn f g w
 ·exact Qwm f g w
 ·exact Qwl f g w
 ·exact Qun f g w
 ·exact Qum f g w
theorem rgO(f:Nat->ByteArray)(g:Nat->Int)(b:Nat)(w:World)(h0: ∀m:Nat,m<12->w.cell? ⟨b,m*2,none⟩=some (C (f m)))(h1: ∀m:Nat,m<12->w.cell? ⟨b,m*2+1,none⟩=some (p B (g m))):w.rangeAt b 0 (Ml f g):=by
 intro j v hv
 have hj:j<24:=by
  rcases Nat.lt_or_ge j 24 with h9 | h9
  ·exact h9
  ·rw[List.getElem?_eq_none (by simp only[Ml,List.length_cons,List.length_nil];omega)]at hv;cases hv
 have hq:j=0\/j=1\/j=2\/j=3\/j=4\/j=5\/j=6\/j=7\/j=8\/j=9\/j=10\/j=11\/j=12\/j=13\/j=14\/j=15\/j=16\/j=17\/j=18\/j=19\/j=20\/j=21\/j=22\/j=23:=by omega
 rcases hq with rfl | rfl | rfl | rfl | rfl | rfl | rfl | rfl | rfl | rfl | rfl | rfl | rfl | rfl | rfl | rfl | rfl | rfl | rfl | rfl | rfl | rfl | rfl | rfl
 ·cases hv;exact h0 0 (by omega)
 ·cases hv;exact h1 0 (by omega)
 ·cases hv;exact h0 1 (by omega)
 ·cases hv;exact h1 1 (by omega)
 ·cases hv;exact h0 2 (by omega)
 ·cases hv;exact h1 2 (by omega)
 ·cases hv;exact h0 3 (by omega)
 ·cases hv;exact h1 3 (by omega)
 ·cases hv;exact h0 4 (by omega)
 ·cases hv;exact h1 4 (by omega)
 ·cases hv;exact h0 5 (by omega)
 ·cases hv;exact h1 5 (by omega)
 ·cases hv;exact h0 6 (by omega)
 ·cases hv;exact h1 6 (by omega)
 ·cases hv;exact h0 7 (by omega)
 ·cases hv;exact h1 7 (by omega)
 ·cases hv;exact h0 8 (by omega)
 ·cases hv;exact h1 8 (by omega)
 ·cases hv;exact h0 9 (by omega)
 ·cases hv;exact h1 9 (by omega)
 ·cases hv;exact h0 10 (by omega)
 ·cases hv;exact h1 10 (by omega)
 ·cases hv;exact h0 11 (by omega)
 ·cases hv;exact h1 11 (by omega)
def MU(f:Nat->ByteArray)(g h:Nat->Int):List Value:= [C (f 0),p B (g 0),p B (h 0),C (f 1),p B (g 1),p B (h 1),C (f 2),p B (g 2),p B (h 2),C (f 3),p B (g 3),p B (h 3),C (f 4),p B (g 4),p B (h 4),C (f 5),p B (g 5),p B (h 5),C (f 6),p B (g 6),p B (h 6),C (f 7),p B (g 7),p B (h 7),C (f 8),p B (g 8),p B (h 8),C (f 9),p B (g 9),p B (h 9),C (f 10),p B (g 10),p B (h 10)]
theorem Qw4(f:Nat->ByteArray)(g h:Nat->Int)(w:World):(Instr.index 220 (.agg (MU f g h).toArray) (p B 0)).run prog w= .ok (D #[C (f 0),p B (g 0),p B (h 0)]) w:=by kernel_rfl
theorem Qw3(f:Nat->ByteArray)(g h:Nat->Int)(w:World):(Instr.index 220 (.agg (MU f g h).toArray) (p B 1)).run prog w= .ok (D #[C (f 1),p B (g 1),p B (h 1)]) w:=by kernel_rfl
theorem Qw2(f:Nat->ByteArray)(g h:Nat->Int)(w:World):(Instr.index 220 (.agg (MU f g h).toArray) (p B 2)).run prog w= .ok (D #[C (f 2),p B (g 2),p B (h 2)]) w:=by kernel_rfl
theorem Qw1(f:Nat->ByteArray)(g h:Nat->Int)(w:World):(Instr.index 220 (.agg (MU f g h).toArray) (p B 3)).run prog w= .ok (D #[C (f 3),p B (g 3),p B (h 3)]) w:=by kernel_rfl
theorem Qw0(f:Nat->ByteArray)(g h:Nat->Int)(w:World):(Instr.index 220 (.agg (MU f g h).toArray) (p B 4)).run prog w= .ok (D #[C (f 4),p B (g 4),p B (h 4)]) w:=by kernel_rfl
theorem Qwz(f:Nat->ByteArray)(g h:Nat->Int)(w:World):(Instr.index 220 (.agg (MU f g h).toArray) (p B 5)).run prog w= .ok (D #[C (f 5),p B (g 5),p B (h 5)]) w:=by kernel_rfl
theorem Qwy(f:Nat->ByteArray)(g h:Nat->Int)(w:World):(Instr.index 220 (.agg (MU f g h).toArray) (p B 6)).run prog w= .ok (D #[C (f 6),p B (g 6),p B (h 6)]) w:=by kernel_rfl
theorem Qwx(f:Nat->ByteArray)(g h:Nat->Int)(w:World):(Instr.index 220 (.agg (MU f g h).toArray) (p B 7)).run prog w= .ok (D #[C (f 7),p B (g 7),p B (h 7)]) w:=by kernel_rfl
theorem Qww(f:Nat->ByteArray)(g h:Nat->Int)(w:World):(Instr.index 220 (.agg (MU f g h).toArray) (p B 8)).run prog w= .ok (D #[C (f 8),p B (g 8),p B (h 8)]) w:=by kernel_rfl
theorem Qwv(f:Nat->ByteArray)(g h:Nat->Int)(w:World):(Instr.index 220 (.agg (MU f g h).toArray) (p B 9)).run prog w= .ok (D #[C (f 9),p B (g 9),p B (h 9)]) w:=by kernel_rfl
theorem Quo(f:Nat->ByteArray)(g h:Nat->Int)(w:World):(Instr.index 220 (.agg (MU f g h).toArray) (p B 10)).run prog w= .ok (D #[C (f 10),p B (g 10),p B (h 10)]) w:=by kernel_rfl
theorem ixF(f:Nat->ByteArray)(g h:Nat->Int)(k:Nat)(hk:k<11)(w:World):(Instr.index 220 (.agg (MU f g h).toArray) (p B (k:Int))).run prog w= .ok (D #[C (f k),p B (g k),p B (h k)]) w:=by
 have hq:k=0\/k=1\/k=2\/k=3\/k=4\/k=5\/k=6\/k=7\/k=8\/k=9\/k=10:=by omega
 rcases hq with rfl | rfl | rfl | rfl | rfl | rfl | rfl | rfl | rfl | rfl | rfl
 ·exact Qw4 f g h w
 ·exact Qw3 f g h w
 ·exact Qw2 f g h w
 ·exact Qw1 f g h w
 ·exact Qw0 f g h w
 ·exact Qwz f g h w
 ·exact Qwy f g h w
 ·exact Qwx f g h w
 ·exact Qww f g h w
 ·exact Qwv f g h w
 ·exact Quo f g h w
theorem rgF(f:Nat->ByteArray)(g h:Nat->Int)(b:Nat)(w:World)(h0: ∀m:Nat,m<11->w.cell? ⟨b,m*3,none⟩=some (C (f m)))(h1: ∀m:Nat,m<11->w.cell? ⟨b,m*3+1,none⟩=some (p B (g m)))(h2: ∀m:Nat,m<11->w.cell? ⟨b,m*3+2,none⟩=some (p B (h m))):w.rangeAt b 0 (MU f g h):=by
 intro j v hv
 have hj:j<33:=by
  rcases Nat.lt_or_ge j 33 with h9 | h9
  ·exact h9
  ·rw[List.getElem?_eq_none (by simp only[MU,List.length_cons,List.length_nil];omega)]at hv;cases hv
 have hq:j=0\/j=1\/j=2\/j=3\/j=4\/j=5\/j=6\/j=7\/j=8\/j=9\/j=10\/j=11\/j=12\/j=13\/j=14\/j=15\/j=16\/j=17\/j=18\/j=19\/j=20\/j=21\/j=22\/j=23\/j=24\/j=25\/j=26\/j=27\/j=28\/j=29\/j=30\/j=31\/j=32:=by omega
 rcases hq with rfl | rfl | rfl | rfl | rfl | rfl | rfl | rfl | rfl | rfl | rfl | rfl | rfl | rfl | rfl | rfl | rfl | rfl | rfl | rfl | rfl | rfl | rfl | rfl | rfl | rfl | rfl | rfl | rfl | rfl | rfl | rfl | rfl
 ·cases hv;exact h0 0 (by omega)
 ·cases hv;exact h1 0 (by omega)
 ·cases hv;exact h2 0 (by omega)
 ·cases hv;exact h0 1 (by omega)
 ·cases hv;exact h1 1 (by omega)
 ·cases hv;exact h2 1 (by omega)
 ·cases hv;exact h0 2 (by omega)
 ·cases hv;exact h1 2 (by omega)
 ·cases hv;exact h2 2 (by omega)
 ·cases hv;exact h0 3 (by omega)
 ·cases hv;exact h1 3 (by omega)
 ·cases hv;exact h2 3 (by omega)
 ·cases hv;exact h0 4 (by omega)
 ·cases hv;exact h1 4 (by omega)
 ·cases hv;exact h2 4 (by omega)
 ·cases hv;exact h0 5 (by omega)
 ·cases hv;exact h1 5 (by omega)
 ·cases hv;exact h2 5 (by omega)
 ·cases hv;exact h0 6 (by omega)
 ·cases hv;exact h1 6 (by omega)
 ·cases hv;exact h2 6 (by omega)
 ·cases hv;exact h0 7 (by omega)
 ·cases hv;exact h1 7 (by omega)
 ·cases hv;exact h2 7 (by omega)
 ·cases hv;exact h0 8 (by omega)
 ·cases hv;exact h1 8 (by omega)
 ·cases hv;exact h2 8 (by omega)
 ·cases hv;exact h0 9 (by omega)
 ·cases hv;exact h1 9 (by omega)
 ·cases hv;exact h2 9 (by omega)
 ·cases hv;exact h0 10 (by omega)
 ·cases hv;exact h1 10 (by omega)
 ·cases hv;exact h2 10 (by omega)
theorem Qnm{W:World}(h:OT W): ∃cs:List Value,cs.length=24/\W.rangeAt 0 0 cs/\ ∀k:Nat,k<12-> ∀w:World,(Instr.index 217 (.agg cs.toArray) (p B (k:Int))).run prog w= .ok (D #[C (bs (sgT (k:Int))),p B (bnO k)]) w:=
 ⟨Ml (fun m=>bs (sgT (m:Int))) bnO,rfl,rgO _ _ _ _ (fun m hm=>(h m (by omega)).1) (fun m hm=>(h m (by omega)).2),fun k hk w=>ixO _ _ k hk w⟩
def FTL(W:World):Prop:= ∃g h:Nat->Int,∀m:Nat,m<=10->W.cell? ⟨1,m*3+1,none⟩=some (p B (g m))/\W.cell? ⟨1,m*3+2,none⟩=some (p B (h m))
theorem Qu1{W:World}(hn:FTN W)(hl:FTL W): ∃(cs:List Value) (g h:Nat->Int),cs.length=33/\W.rangeAt 1 0 cs/\ ∀k:Nat,k<11-> ∀w:World,(Instr.index 220 (.agg cs.toArray) (p B (k:Int))).run prog w= .ok (D #[C (bs (fnT (k:Int))),p B (g k),p B (h k)]) w:=by
 obtain⟨g,h,h0⟩:=hl;exact⟨MU (fun m=>bs (fnT (m:Int))) g h,g,h,rfl,rgF _ _ _ _ _ (fun m hm=>hn m (by omega)) (fun m hm=>(h0 m (by omega)).1) (fun m hm=>(h0 m (by omega)).2),fun k hk w=>ixF _ _ _ k hk w⟩
theorem Qwi{k:Nat}(hk:k<12)(he:sgT (k:Int)=l):QR l=(k:Int):=by
 subst he;have hq:k=0\/k=1\/k=2\/k=3\/k=4\/k=5\/k=6\/k=7\/k=8\/k=9\/k=10\/k=11:=by omega
 rcases hq with rfl | rfl | rfl | rfl | rfl | rfl | rfl | rfl | rfl | rfl | rfl | rfl<;>decide
theorem Qle(h: ∀j:Nat,j<12->sgT (j:Int)≠l):QR l=0:=by
 unfold QR;rw[nG (fun e=>h 0 (by omega) (by rw[e];rfl)),nG (fun e=>h 1 (by omega) e.symm),nG (fun e=>h 2 (by omega) e.symm),nG (fun e=>h 3 (by omega) e.symm),nG (fun e=>h 4 (by omega) e.symm),nG (fun e=>h 5 (by omega) e.symm),nG (fun e=>h 6 (by omega) e.symm),nG (fun e=>h 7 (by omega) e.symm),nG (fun e=>h 8 (by omega) e.symm),nG (fun e=>h 9 (by omega) e.symm),nG (fun e=>h 10 (by omega) e.symm),nG (fun e=>h 11 (by omega) e.symm)]
theorem Qw8{k:Nat}(hk:k<11)(he:fnT (k:Int)=l):Xc l=(k:Int):=by
 subst he;have hq:k=0\/k=1\/k=2\/k=3\/k=4\/k=5\/k=6\/k=7\/k=8\/k=9\/k=10:=by omega
 rcases hq with rfl | rfl | rfl | rfl | rfl | rfl | rfl | rfl | rfl | rfl | rfl<;>decide
theorem Qml(h: ∀j:Nat,j<11->fnT (j:Int)≠l):Xc l=0:=by
 unfold Xc;rw[nG (fun e=>h 0 (by omega) (by rw[e];rfl)),nG (fun e=>h 1 (by omega) e.symm),nG (fun e=>h 2 (by omega) e.symm),nG (fun e=>h 3 (by omega) e.symm),nG (fun e=>h 4 (by omega) e.symm),nG (fun e=>h 5 (by omega) e.symm),nG (fun e=>h 6 (by omega) e.symm),nG (fun e=>h 7 (by omega) e.symm),nG (fun e=>h 8 (by omega) e.symm),nG (fun e=>h 9 (by omega) e.symm),nG (fun e=>h 10 (by omega) e.symm)]
theorem Gq(s:ByteArray)(w:World)(ho:OT w):Calls prog 243 #[C s] w fun e w'=>e= H (p B (QR s.data.toList))/\Below w.heap.size w w':=by
 obtain⟨cs,h0,h3,h5⟩:=Qnm ho;clear ho;have HL:Hid (cs.length=24):=h0;have HR:Hid (w.rangeAt 0 0 cs):=h3;have HI:Hid (∀k:Nat,k<12-> ∀w:World,(Instr.index 217 (.agg cs.toArray) (p B (k:Int))).run prog w= .ok (D #[C (bs (sgT (k:Int))),p B (bnO k)]) w):=h5;obtain⟨l,H0⟩: ∃l,Hid (s.data.toList=l):=⟨_,rfl⟩;rw[H0.out]
 clear h0 h3 h5;go_enter func243,ntmps243;go_wp2_with (refine wpList_load_mid rfl 217 (.global 0) rfl 0 0 rfl cs _ HR.out underlying217 rfl (by rw[HL.out];kernel_rfl) ?_)
 generalize (Value.agg cs.toArray)=tb at*
 go_loopw [6] (fun b wr=> ∃k:Nat,k<=12/\b= p B (k:Nat)/\(∀j:Nat,j<k->sgT (j:Int)≠l)/\Below w.heap.size w wr) (fun b _=>12-(intOf b).toNat)
 case atStart=>exact⟨0,Nat.zero_le _,rfl,fun j hj=>absurd hj (Nat.not_lt_zero _),Below.refl _ _⟩
 case round=>
  obtain⟨k,hk,rfl,h4,h6⟩:=hrel;have h2:Hid (Below w.heap.size w wr):=h6;have h8:Hid (∀j:Nat,j<k->sgT (j:Int)≠l):=h4;clear h6 h4;by_cases h7:k<12
  ·have q1:(k:Int)<12:=by omega
   have hw1:IntKind.i64.wrap ((k:Int)+1)=(k:Int)+1:=by rw[E];omega
   obtain⟨x,HX⟩: ∃x,Hid (bs (sgT (k:Int))=x):=⟨_,rfl⟩;obtain⟨y,HY⟩: ∃y,Hid (bnO k=y):=⟨_,rfl⟩;have H1:Hid (∀w:World,(Instr.index 217 tb (p B (k:Int))).run prog w= .ok (D #[C x,p B y]) w):=fun w=>by rw[<-HX.out,<-HY.out];exact HI.out k h7 w
   have h1:Hid ((x.toList==s.toList)=decide (sgT (k:Int)=l)):=by
    show _=_;rw[<-HX.out,<-H0.out,<-Ol s,MR,Ol]
   by_cases he:sgT (k:Int)=l
   ·have hb:(x.toList==s.toList)=true:=by rw[h1.out];exact decide_eq_true he
    have HE:Hid (QR l=(k:Int)):=Qwi h7 he;clear he h1;go_wp2_with (refine Zf rfl _ _ _ rfl tb (p B (k:Int)) _ rfl rfl (H1.out _) ?_)
    go_ret;exact⟨by rw[HE.out];rfl,Qb h2.out (by go_grown)⟩
   ·have hb:(x.toList==s.toList)=false:=by rw[h1.out];exact decide_eq_false he
    have HN:Hid (∀j:Nat,j<k+1->sgT (j:Int)≠l):=fun j hj=>by
     rcases Nat.lt_succ_iff_lt_or_eq.1 hj with h9 | rfl
     ·exact h8.out j h9
     ·exact he
    clear he h1;go_wp2_with (refine Zf rfl _ _ _ rfl tb (p B (k:Int)) _ rfl rfl (H1.out _) ?_)
    exact⟨⟨k+1,by omega,by simp,HN.out,Qb h2.out (by go_grown)⟩,by simp[intOf];omega⟩
  ·obtain rfl:k=12:=by omega
   have HE:Hid (QR l=0):=Qle h8.out;go_wp2_with fail
   go_ret;exact⟨by rw[HE.out];rfl,h2.out⟩
theorem Gr(s:ByteArray)(w:World)(hn:FTN w)(hl:FTL w):Calls prog 283 #[C s] w fun e w'=>e= H (p B (Xc s.data.toList))/\Below w.heap.size w w':=by
 obtain⟨cs,gg,hh,h0,h3,h5⟩:=Qu1 hn hl;clear hn hl;have HL:Hid (cs.length=33):=h0;have HR:Hid (w.rangeAt 1 0 cs):=h3;have HI:Hid (∀k:Nat,k<11-> ∀w:World,(Instr.index 220 (.agg cs.toArray) (p B (k:Int))).run prog w= .ok (D #[C (bs (fnT (k:Int))),p B (gg k),p B (hh k)]) w):=h5;obtain⟨l,H0⟩: ∃l,Hid (s.data.toList=l):=⟨_,rfl⟩;rw[H0.out]
 clear h0 h3 h5;go_enter func283,ntmps283;go_wp2_with (refine wpList_load_mid rfl 220 (.global 1) rfl 1 0 rfl cs _ HR.out underlying220 rfl (by rw[HL.out];kernel_rfl) ?_)
 generalize (Value.agg cs.toArray)=tb at*
 go_loopw [6] (fun b wr=> ∃k:Nat,k<=11/\b= p B (k:Nat)/\(∀j:Nat,j<k->fnT (j:Int)≠l)/\Below w.heap.size w wr) (fun b _=>11-(intOf b).toNat)
 case atStart=>exact⟨0,Nat.zero_le _,rfl,fun j hj=>absurd hj (Nat.not_lt_zero _),Below.refl _ _⟩
 case round=>
  obtain⟨k,hk,rfl,h4,h6⟩:=hrel;have h2:Hid (Below w.heap.size w wr):=h6;have h8:Hid (∀j:Nat,j<k->fnT (j:Int)≠l):=h4;clear h6 h4;by_cases h7:k<11
  ·have q1:(k:Int)<11:=by omega
   have hw1:IntKind.i64.wrap ((k:Int)+1)=(k:Int)+1:=by rw[E];omega
   obtain⟨x,HX⟩: ∃x,Hid (bs (fnT (k:Int))=x):=⟨_,rfl⟩;obtain⟨y,HY⟩: ∃y,Hid (gg k=y):=⟨_,rfl⟩;obtain⟨z,HZ⟩: ∃z,Hid (hh k=z):=⟨_,rfl⟩;have H1:Hid (∀w:World,(Instr.index 220 tb (p B (k:Int))).run prog w= .ok (D #[C x,p B y,p B z]) w):=fun w=>by rw[<-HX.out,<-HY.out,<-HZ.out];exact HI.out k h7 w
   have h1:Hid ((x.toList==s.toList)=decide (fnT (k:Int)=l)):=by
    show _=_;rw[<-HX.out,<-H0.out,<-Ol s,MR,Ol]
   by_cases he:fnT (k:Int)=l
   ·have hb:(x.toList==s.toList)=true:=by rw[h1.out];exact decide_eq_true he
    have HE:Hid (Xc l=(k:Int)):=Qw8 h7 he;clear he h1;go_wp2_with (refine Zf rfl _ _ _ rfl tb (p B (k:Int)) _ rfl rfl (H1.out _) ?_)
    go_ret;exact⟨by rw[HE.out];rfl,Qb h2.out (by go_grown)⟩
   ·have hb:(x.toList==s.toList)=false:=by rw[h1.out];exact decide_eq_false he
    have HN:Hid (∀j:Nat,j<k+1->fnT (j:Int)≠l):=fun j hj=>by
     rcases Nat.lt_succ_iff_lt_or_eq.1 hj with h9 | rfl
     ·exact h8.out j h9
     ·exact he
    clear he h1;go_wp2_with (refine Zf rfl _ _ _ rfl tb (p B (k:Int)) _ rfl rfl (H1.out _) ?_)
    exact⟨⟨k+1,by omega,by simp,HN.out,Qb h2.out (by go_grown)⟩,by simp[intOf];omega⟩
  ·obtain rfl:k=11:=by omega
   have HE:Hid (Xc l=0):=Qml h8.out;go_wp2_with fail
   go_ret;exact⟨by rw[HE.out];rfl,h2.out⟩
end Go.Proofs.YtomadadmakdkgaaGreatDoor
