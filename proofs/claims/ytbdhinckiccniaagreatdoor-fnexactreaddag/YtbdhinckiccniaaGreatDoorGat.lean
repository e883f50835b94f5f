import Derived.Test.YtbdhinckiccniaaGreatDoorGaq
import Derived.Test.YtbdhinckiccniaaGreatDoorGas
import Derived.WalkLawsBesides
import Derived.Test.YtbdhinckiccniaaGreatDoorGaf
import Derived.Test.YtbdhinckiccniaaGreatDoorGab
import Derived.Test.YtbdhinckiccniaaGreatDoorGao
import Derived.Deep.MidRow
set_option linter.unusedSimpArgs false
set_option linter.unusedVariables false
set_option maxHeartbeats 8000000
set_option maxRecDepth 100000
namespace Go.Proofs.YtbdhinckiccniaaGreatDoor
open Go.RowKit
def noF:List PanicEntry:= [{v:= .iface 9 (.string ⟨#[110,111,32,102,111,114,109,117,108,97]⟩),recovered:=false}]
theorem Zn (w:World):Calls Tryz.prog 289 #[] w fun e w'=>e= .panicked noF∧w'=w:=by
 go_enter Tryz.func289,Tryz.ntmps289;go_wp2
 exact⟨rfl,rfl,rfl⟩
def lnG:Nat→List UInt8→Nat
 | 0,_=>0
 | k+1,l=>if(sgT (k:Int)).isPrefixOf l then max (lnG k l) (sgT (k:Int)).length else lnG k l
theorem Qp0:lnG 12 []=(sgT (QV [])).length:=by decide
theorem Qs8 (c b:UInt8) (t:List UInt8): [c].isPrefixOf (b::t)=(c==b):=by simp [List.isPrefixOf]
theorem Qs7 (c d b:UInt8) (t:List UInt8): [c,d].isPrefixOf (b::t)=(c==b&&decide (t.head? =some d)):=by
 cases t with
 | nil=>simp [List.isPrefixOf]
 | cons e u=>
  rw [Bool.eq_iff_iff];simp only [List.isPrefixOf,Bool.and_eq_true,beq_iff_eq,Bool.and_true,List.head?_cons,Option.some.injEq,decide_eq_true_eq];constructor
  ·rintro⟨rfl,rfl⟩;exact⟨rfl,rfl⟩
  ·rintro⟨rfl,rfl⟩;exact⟨rfl,rfl⟩
theorem Qoh:sgT 0= []∧sgT 1= [43]∧sgT 2= [45]∧sgT 3= [42]∧sgT 4= [47]∧sgT 5= [38]∧sgT 6= [61]∧sgT 7= [60,62]∧sgT 8= [60]∧sgT 9= [60,61]∧sgT 10= [62]∧sgT 11= [62,61]:=by decide
theorem Qst (l:List UInt8):lnG 12 l=(sgT (QV l)).length:=by
 cases l with
 | nil=>exact Qp0
 | cons b t=>
  obtain⟨e0,e1,e2,e3,e4,e5,e6,e7,e8,e9,e10,e11⟩:=Qoh;simp only [lnG,show((0:Nat):Int)=0 from rfl,show((1:Nat):Int)=1 from rfl,show((2:Nat):Int)=2 from rfl,show((3:Nat):Int)=3 from rfl,show((4:Nat):Int)=4 from rfl,show((5:Nat):Int)=5 from rfl,show((6:Nat):Int)=6 from rfl,show((7:Nat):Int)=7 from rfl,show((8:Nat):Int)=8 from rfl,show((9:Nat):Int)=9 from rfl,show((10:Nat):Int)=10 from rfl,show((11:Nat):Int)=11 from rfl,e0,e1,e2,e3,e4,e5,e6,e7,e8,e9,e10,e11,Qs8,Qs7];rw [Qf1];by_cases h43:b=43
  ·subst h43;simp [e1]
  by_cases h45:b=45
  ·subst h45;simp [e2]
  by_cases h42:b=42
  ·subst h42;simp [e3]
  by_cases h47:b=47
  ·subst h47;simp [e4]
  by_cases h38:b=38
  ·subst h38;simp [e5]
  by_cases h61:b=61
  ·subst h61;simp [e6]
  by_cases h60:b=60
  ·subst h60;by_cases g1:t.head? =some 62
   ·simp [g1,e7]
   by_cases g2:t.head? =some 61
   ·simp [g2,e9]
   simp [g1,g2,e8]
  by_cases h62:b=62
  ·subst h62;by_cases g2:t.head? =some 61
   ·simp [g2,e11]
   simp [g2,e10]
  have n1:(43==b)=false:=by simpa using Ne.symm h43
  have n2:(45==b)=false:=by simpa using Ne.symm h45
  have n3:(42==b)=false:=by simpa using Ne.symm h42
  have n4:(47==b)=false:=by simpa using Ne.symm h47
  have n5:(38==b)=false:=by simpa using Ne.symm h38
  have n6:(61==b)=false:=by simpa using Ne.symm h61
  have n7:(60==b)=false:=by simpa using Ne.symm h60
  have n8:(62==b)=false:=by simpa using Ne.symm h62
  simp [n1,n2,n3,n4,n5,n6,n7,n8,h43,h45,h42,h47,h38,h61,h60,h62,e0]
def Zl (ps:List (List UInt8)) (i:Nat):List UInt8:=ps.getD i []
theorem Qbz {ps:List (List UInt8)} {i:Nat} (h:ps.length≤i):Zl ps i= []:=by
 unfold Zl;rw [List.getD_eq_getElem?_getD,List.getElem?_eq_none h];rfl
def txt:Nat→List UInt8→List UInt8
 | 0,l=>l
 | k+1,l=>txt k (nx l)
theorem Qbd: ∀(k:Nat) (l:List UInt8),txt (k+1) l=nx (txt k l)
 | 0,l=>rfl
 | k+1,l=>by
  show txt (k+1) (nx l)=_;rw [Qbd k (nx l)];rfl
theorem Qfc: ∀(k:Nat) (l:List UInt8),(txt k l).length≤l.length
 | 0,l=>Nat.le_refl _
 | k+1,l=>by
  have h1:=Qfc k (nx l);have h2:=Hm l;show(txt k (nx l)).length≤_;omega
structure Txt (ps:List (List UInt8)) (T:Nat→List UInt8):Prop where
 few:ps.length≤1000
 len: ∀k,(T k).length≤1000
 tp: ∀k,k≤ps.length→pk (T k)=Zl ps k
 ne: ∀k,k<ps.length→Zl ps k≠ []
 tn: ∀k,k<ps.length→nx (T k)=T (k+1)
 fin:sb (T ps.length)= []
theorem Nf: ∀(m:Nat) (l:List UInt8) (ws:List (List UInt8)),Yx m l=some ws→ws.length≤l.length
 | 0,l,ws,h=>by cases h
 | m+1,l,ws,h=>by
  rw [Yx]at h;by_cases hs:sb l= []
  ·rw [if_pos hs]at h;cases h
   exact Nat.zero_le _
  ·rw [if_neg hs]at h;cases ht:tok l with
   | none=>rw [ht]at h;cases h
   | some x=>
    rw [ht]at h;have h1:=(Vx (w:=x.1) (r:=x.2) ht).1;cases hq:Yx m x.2 with
    | none=>simp only [hq]at h;cases h
    | some ws'=>
     simp only [hq,Option.map_some,Option.some.injEq]at h;have h2:=Nf m x.2 ws' hq;rw [←h,List.length_cons];omega
theorem Qbf: ∀(m:Nat) (l:List UInt8) (ws:List (List UInt8)),Yx m l=some ws→(∀k,k≤ws.length→pk (txt k l)=Zl ws k)∧(∀k,k<ws.length→Zl ws k≠ [])∧sb (txt ws.length l)= []
 | 0,l,ws,h=>by cases h
 | m+1,l,ws,h=>by
  rw [Yx]at h;by_cases hs:sb l= []
  ·rw [if_pos hs]at h;cases h
   refine⟨fun k hk=> ?_,fun k hk=>absurd hk (Nat.not_lt_zero _),hs⟩;obtain rfl:k=0:=by simpa using hk
   show pk l=_;unfold pk;rw [Qfg hs];rfl
  ·rw [if_neg hs]at h;cases ht:tok l with
   | none=>rw [ht]at h;cases h
   | some x=>
    rw [ht]at h;have h1:=(Vx (w:=x.1) (r:=x.2) ht).2.1;have hn:nx l=x.2:=by unfold nx;rw [ht]
    have hp:pk l=x.1:=by unfold pk;rw [ht]
    cases hq:Yx m x.2 with
    | none=>simp only [hq]at h;cases h
    | some ws'=>
     simp only [hq,Option.map_some,Option.some.injEq]at h;obtain⟨i1,i2,i3⟩:=Qbf m x.2 ws' hq;subst h;refine⟨fun k hk=> ?_,fun k hk=> ?_,?_⟩
     ·cases k with
      | zero=>exact hp
      | succ k=>
       show pk (txt k (nx l))=_;rw [hn,i1 k (by simpa using hk)];rfl
     ·cases k with
      | zero=>exact h1
      | succ k=>exact i2 k (by simpa using hk)
     ·show sb (txt ws'.length (nx l))= [];rw [hn];exact i3
theorem Qr2 {m:Nat} {l:List UInt8} {ws:List (List UInt8)} (h:Yx m l=some ws) (hl:l.length≤1000):Txt ws (fun k=>txt k l):=by
 obtain⟨i1,i2,i3⟩:=Qbf m l ws h;exact⟨Nat.le_trans (Nf m l ws h) hl,fun k=>Nat.le_trans (Qfc k l) hl,i1,i2,fun k _=>(Qbd k l).symm,i3⟩
theorem Qhr {l:List UInt8} (h:(pk l).head? =some 34): ∃q,pk l=34::(qt q++ [34])∧Zh (pk l).tail=some (q,[]):=by
 have h0:pk l≠ []:=fun e=>by rw [e]at h;cases h
 have hs:=Hh h0;cases hq:pk l with
 | nil=>exact absurd hq h0
 | cons b u=>
  rw [hq]at h;obtain rfl:b=34:=by simpa using h
  rw [hq]at hs;have hs2:sb l=34::(u++nx l):=hs;cases hz:Zh (u++nx l)with
  | none=>
   have h9:=KN hs2 hz;rw [VH h0]at h9;cases h9
  | some x=>
   obtain⟨e1,e2,e3⟩:=Qby hs2 (s:=x.1) (r:=x.2) hz;rw [hq]at e1 e3;exact⟨x.1,e1,e3⟩
theorem Qje {m:Nat} {l:List UInt8} (h:sb l= []):Yx (m+1) l=some []:=by rw [Yx,if_pos h]
theorem Qg7 {m:Nat} {l:List UInt8} (h:sb l≠ []):Yx (m+1) l=if YM (sb l)=0 then none else(Yx m ((sb l).drop (YM (sb l)))).map fun ws=>(sb l).take (YM (sb l))::ws:=by
 rw [Yx,if_neg h];unfold tok;by_cases hz:YM (sb l)=0
 ·rw [if_pos hz,if_pos hz]
 ·rw [if_neg hz,if_neg hz]
def PcRow (W:World) (A:Option Addr) (ps:List (List UInt8)):Prop:=
 ps.length≤1000∧ ∀i,i<ps.length→ ∃b o,A=some ⟨b,o,none⟩∧b<W.heap.size∧W.cell? ⟨b,o+i,none⟩=some (.string (bs (ps.getD i [])))
def Ri (W:World) (r:Nat) (A:Option Addr) (cap:Nat) (ps:List (List UInt8)) (k:Nat) (v:Value):Prop:=
 k≤ps.length∧(W.cell? ⟨r,0,none⟩=some (.slice A ps.length cap)∧W.cell? ⟨r,1,none⟩=some (.int .i64 k)∧W.cell? ⟨r,2,none⟩=some v)∧W.frozen? ⟨r,1,none⟩=false∧W.frozen? ⟨r,2,none⟩=false
theorem Qbp (r:Nat) (A:Option Addr) (cap:Nat) (ps:List (List UInt8)) (k m:Nat) (v:Value) (W:World) (h:Ri W r A cap ps k v) (hp:PcRow W A ps) (hm:m≤1):
  Calls Tryz.prog 288 #[.pointer (some ⟨r,0,none⟩),.int .i64 (m:Int)] W fun e w'=>e= .returned (.string (bs (Zl ps (k+m))))∧ ∃n,w'=W.drewN n:=by
 obtain⟨hk,⟨c0,c1,c2⟩,f1,f2⟩:=h;have hl:=hp.1;have hw:IntKind.i64.wrap ((k:Int)+(m:Int))=(k:Int)+(m:Int):=by rw [IntKind.wrap_i64];omega
 by_cases hlt:k+m<ps.length
 ·obtain⟨b,o,rfl,hb,hc⟩:=hp.2 (k+m) hlt;have q1: ¬(ps.length:Int)≤(k:Int)+(m:Int):=by omega
  have q2:(0:Int)≤(k:Int)+(m:Int):=by omega
  have q3:(k:Int)+(m:Int)<(ps.length:Int):=by omega
  have q4:((k:Int)+(m:Int)).toNat=k+m:=by omega
  obtain⟨x,HX⟩: ∃x,Hid (bs (Zl ps (k+m))=x):=⟨_,rfl⟩;have hc':W.cell? ⟨b,o+(k+m),none⟩=some (.string x):=by rw [←HX.out];exact hc
  rw [HX.out];clear hp hc;go_enter Tryz.func288,Tryz.ntmps288;go_wp2_with fail
  go_quiet (fail)
  go_wp2_with fail
  go_quiet (fail)
  go_wp2_with fail
  go_ret;exact⟨rfl,_,World.drewN_drewN _ _ _⟩
 ·have q1:(ps.length:Int)≤(k:Int)+(m:Int):=by omega
  have HX:Hid (bs (Zl ps (k+m))=⟨#[]⟩):=by show _=_;rw [Qbz (by omega)];rfl
  rw [HX.out];clear hp;go_enter Tryz.func288,Tryz.ntmps288;go_wp2_with fail
  go_quiet (fail)
  go_wp2_with fail
  go_ret;exact⟨rfl,_,rfl⟩
theorem Ee (r:Nat) (A:Option Addr) (cap:Nat) (ps:List (List UInt8)) (k:Nat) (v:Value) (W:World) (h:Ri W r A cap ps k v) (hp:PcRow W A ps):
  Calls Tryz.prog 306 #[.pointer (some ⟨r,0,none⟩)] W fun e w'=>
   (Zl ps k= []∧e= .panicked noF∧ ∃n,w'=W.drewN n)∨(Zl ps k≠ []∧e= .returned (.string (bs (Zl ps k)))∧ ∃n,w'=(W.drewN n).setCell ⟨r,1,none⟩ (.int .i64 ((k:Int)+1))):=by
 have HR:Hid (Ri W r A cap ps k v):=h;have HP:Hid (PcRow W A ps):=hp;obtain⟨hk,⟨c0,c1,c2⟩,f1,f2⟩:=h;have hl:=hp.1;have hw:IntKind.i64.wrap ((k:Int)+1)=(k:Int)+1:=by rw [IntKind.wrap_i64];omega
 clear hp;go_enter Tryz.func306,Tryz.ntmps306;go_wp2_with fail
 refine(Qbp r A cap ps k 0 v W HR.out HP.out (by omega)).mono ?_;rintro _ w1 ⟨rfl,nq,hw1⟩;subst hw1;rw [Nat.add_zero];have c0:(W.drewN nq).cell? ⟨r,0,none⟩=some (.slice A ps.length cap):=c0;have c1:(W.drewN nq).cell? ⟨r,1,none⟩=some (.int .i64 k):=c1;have f1:(W.drewN nq).frozen? ⟨r,1,none⟩=false:=f1
 obtain⟨l,HL⟩: ∃l,Hid (Zl ps k=l):=⟨_,rfl⟩;rw [HL.out];obtain⟨x,HX⟩: ∃x,Hid (bs l=x):=⟨_,rfl⟩;rw [HX.out];by_cases hn:l= []
 ·have hbe:x.toList.isEmpty=true:=by rw [←HX.out,ByteArray.toList_eq,hn];rfl
  have HN:Hid (l= []):=hn;clear hn;go_wp2_with fail
  refine(Zn _).mono ?_;rintro _ w2 ⟨rfl,hw2⟩;obtain rfl:=hw2.symm;clear hw2;go_wp2_with fail
  exact⟨rfl,Or.inl ⟨by rw [HL.out];exact HN.out,rfl,_,rfl⟩⟩
 ·have hbe:x.toList.isEmpty=false:=by
   rw [←HX.out,ByteArray.toList_eq];show l.isEmpty=false;cases hq:l with
   | nil=>exact absurd hq hn
   | cons a t=>rfl
  have HN:Hid (l≠ []):=hn;clear hn;go_wp2_with fail
  go_ret;exact Or.inr ⟨by rw [HL.out];exact HN.out,by rw [HL.out,HX.out];rfl,nq,rfl⟩
theorem Di (c:UInt8) (r:Nat) (A:Option Addr) (cap:Nat) (ps:List (List UInt8)) (k:Nat) (v:Value) (W:World) (h:Ri W r A cap ps k v) (hp:PcRow W A ps):
  Calls Tryz.prog 324 #[.pointer (some ⟨r,0,none⟩),.string (bs [c])] W fun e w'=>
   (Zl ps k= [c]∧(∃x,e= .returned x)∧ ∃n,w'=(W.drewN n).setCell ⟨r,1,none⟩ (.int .i64 ((k:Int)+1)))∨(Zl ps k≠ [c]∧e= .panicked noF∧W.grownBy w' (some r)):=by
 have HR:Hid (Ri W r A cap ps k v):=h;have HP:Hid (PcRow W A ps):=hp;obtain⟨sg,HSG⟩: ∃sg,Hid (bs [c]=sg):=⟨_,rfl⟩;rw [HSG.out];clear h hp;go_enter Tryz.func324,Tryz.ntmps324;go_wp2_with fail
 refine(Ee r A cap ps k v W HR.out HP.out).mono ?_;rintro e w1 (⟨hn,rfl,n,rfl⟩ | ⟨hn,rfl,n,rfl⟩)
 ·have HN:Hid (Zl ps k≠ [c]):=by show _≠_;rw [hn];simp
  clear hn;go_wp2_with fail
  exact⟨rfl,Or.inr ⟨HN.out,rfl,Qq _ _ n⟩⟩
 ·obtain⟨l,HL⟩: ∃l,Hid (Zl ps k=l):=⟨_,rfl⟩;rw [HL.out]at hn ⊢;obtain⟨x,HX⟩: ∃x,Hid (bs l=x):=⟨_,rfl⟩;rw [HX.out];have HG:Hid (W.grownBy ((W.drewN n).setCell ⟨r,1,none⟩ (.int .i64 ((k:Int)+1))) (some r)):=Qm (Qq _ _ n) (QQ _ _ _ _);by_cases hl:l= [c]
  ·have hbq:(x.toList==sg.toList)=true:=by rw [←HX.out,←HSG.out,UC];simpa using hl
   have HLC:Hid (l= [c]):=hl;clear hl hn;go_wp2_with fail
   go_returns
   exact Or.inl ⟨by rw [HL.out];exact HLC.out,⟨_,rfl⟩,n,rfl⟩
  ·have hbq:(x.toList==sg.toList)=false:=by rw [←HX.out,←HSG.out,UC];simpa using hl
   have HLC:Hid (l≠ [c]):=hl;clear hl hn;go_wp2_with fail
   refine(Zn _).mono ?_;rintro _ w2 ⟨rfl,hw2⟩;obtain rfl:=hw2.symm;clear hw2;go_wp2_with fail
   exact⟨rfl,Or.inr ⟨by rw [HL.out];exact HLC.out,rfl,HG.out⟩⟩
theorem QR {ops:Array Oper} {rest:List Oper} {op:Oper} {a:Act} {w:World} {Q:Exit→Act→World→Prop} (hgd:op.guard=none) (ty:TypeId) (x y:Operand) (ho:op.op= .index ty x y) (vx vy v:Value) (hx:a.eval x=vx) (hy:a.eval y=vy)
  (hr:(Instr.index ty vx vy).run Tryz.prog w= .ok v w) (h:wpList Tryz.prog ops Q rest (a.put op.dst v) w):wpList Tryz.prog ops Q (op::rest) a w:=
 wpList_plain hgd fun _ hK=>by
  unfold Oper.wp execOp;simp only [ho,hx,hy,Sem.run_bind,hr,Sem.run_pure,Result.andThen_ok];exact hK _ _ h
def GP (f:Nat→ByteArray) (g:Nat→Int):List Value:= [.string (f 0),.int .i64 (g 0),.string (f 1),.int .i64 (g 1),.string (f 2),.int .i64 (g 2),.string (f 3),.int .i64 (g 3),.string (f 4),.int .i64 (g 4),.string (f 5),.int .i64 (g 5),.string (f 6),.int .i64 (g 6),.string (f 7),.int .i64 (g 7),.string (f 8),.int .i64 (g 8),.string (f 9),.int .i64 (g 9),.string (f 10),.int .i64 (g 10),.string (f 11),.int .i64 (g 11)]
theorem Quy (f:Nat→ByteArray) (g:Nat→Int) (w:World):(Instr.index 262 (.agg (GP f g).toArray) (.int .i64 0)).run Tryz.prog w= .ok (.agg #[.string (f 0),.int .i64 (g 0)]) w:=by kernel_rfl
theorem Qux (f:Nat→ByteArray) (g:Nat→Int) (w:World):(Instr.index 262 (.agg (GP f g).toArray) (.int .i64 1)).run Tryz.prog w= .ok (.agg #[.string (f 1),.int .i64 (g 1)]) w:=by kernel_rfl
theorem Quw (f:Nat→ByteArray) (g:Nat→Int) (w:World):(Instr.index 262 (.agg (GP f g).toArray) (.int .i64 2)).run Tryz.prog w= .ok (.agg #[.string (f 2),.int .i64 (g 2)]) w:=by kernel_rfl
theorem Quv (f:Nat→ByteArray) (g:Nat→Int) (w:World):(Instr.index 262 (.agg (GP f g).toArray) (.int .i64 3)).run Tryz.prog w= .ok (.agg #[.string (f 3),.int .i64 (g 3)]) w:=by kernel_rfl
theorem Quu (f:Nat→ByteArray) (g:Nat→Int) (w:World):(Instr.index 262 (.agg (GP f g).toArray) (.int .i64 4)).run Tryz.prog w= .ok (.agg #[.string (f 4),.int .i64 (g 4)]) w:=by kernel_rfl
theorem Qut (f:Nat→ByteArray) (g:Nat→Int) (w:World):(Instr.index 262 (.agg (GP f g).toArray) (.int .i64 5)).run Tryz.prog w= .ok (.agg #[.string (f 5),.int .i64 (g 5)]) w:=by kernel_rfl
theorem Qus (f:Nat→ByteArray) (g:Nat→Int) (w:World):(Instr.index 262 (.agg (GP f g).toArray) (.int .i64 6)).run Tryz.prog w= .ok (.agg #[.string (f 6),.int .i64 (g 6)]) w:=by kernel_rfl
theorem Qur (f:Nat→ByteArray) (g:Nat→Int) (w:World):(Instr.index 262 (.agg (GP f g).toArray) (.int .i64 7)).run Tryz.prog w= .ok (.agg #[.string (f 7),.int .i64 (g 7)]) w:=by kernel_rfl
theorem Quq (f:Nat→ByteArray) (g:Nat→Int) (w:World):(Instr.index 262 (.agg (GP f g).toArray) (.int .i64 8)).run Tryz.prog w= .ok (.agg #[.string (f 8),.int .i64 (g 8)]) w:=by kernel_rfl
theorem Qup (f:Nat→ByteArray) (g:Nat→Int) (w:World):(Instr.index 262 (.agg (GP f g).toArray) (.int .i64 9)).run Tryz.prog w= .ok (.agg #[.string (f 9),.int .i64 (g 9)]) w:=by kernel_rfl
theorem Qs0 (f:Nat→ByteArray) (g:Nat→Int) (w:World):(Instr.index 262 (.agg (GP f g).toArray) (.int .i64 10)).run Tryz.prog w= .ok (.agg #[.string (f 10),.int .i64 (g 10)]) w:=by kernel_rfl
theorem Qsz (f:Nat→ByteArray) (g:Nat→Int) (w:World):(Instr.index 262 (.agg (GP f g).toArray) (.int .i64 11)).run Tryz.prog w= .ok (.agg #[.string (f 11),.int .i64 (g 11)]) w:=by kernel_rfl
theorem ixO (f:Nat→ByteArray) (g:Nat→Int) (k:Nat) (hk:k<12) (w:World):(Instr.index 262 (.agg (GP f g).toArray) (.int .i64 (k:Int))).run Tryz.prog w= .ok (.agg #[.string (f k),.int .i64 (g k)]) w:=by
 have hq:k=0∨k=1∨k=2∨k=3∨k=4∨k=5∨k=6∨k=7∨k=8∨k=9∨k=10∨k=11:=by omega
 rcases hq with rfl | rfl | rfl | rfl | rfl | rfl | rfl | rfl | rfl | rfl | rfl | rfl
 ·exact Quy f g w
 ·exact Qux f g w
 ·exact Quw f g w
 ·exact Quv f g w
 ·exact Quu f g w
 ·exact Qut f g w
 ·exact Qus f g w
 ·exact Qur f g w
 ·exact Quq f g w
 ·exact Qup f g w
 ·exact Qs0 f g w
 ·exact Qsz f g w
theorem rgO (f:Nat→ByteArray) (g:Nat→Int) (b:Nat) (w:World) (h0: ∀m:Nat,m<12→w.cell? ⟨b,m*2,none⟩=some (.string (f m))) (h1: ∀m:Nat,m<12→w.cell? ⟨b,m*2+1,none⟩=some (.int .i64 (g m))):w.rangeAt b 0 (GP f g):=by
 intro j v hv
 have hj:j<24:=by
  rcases Nat.lt_or_ge j 24 with h9 | h9
  ·exact h9
  ·rw [List.getElem?_eq_none (by simp only [GP,List.length_cons,List.length_nil];omega)]at hv;cases hv
 have hq:j=0∨j=1∨j=2∨j=3∨j=4∨j=5∨j=6∨j=7∨j=8∨j=9∨j=10∨j=11∨j=12∨j=13∨j=14∨j=15∨j=16∨j=17∨j=18∨j=19∨j=20∨j=21∨j=22∨j=23:=by omega
 rcases hq with rfl | rfl | rfl | rfl | rfl | rfl | rfl | rfl | rfl | rfl | rfl | rfl | rfl | rfl | rfl | rfl | rfl | rfl | rfl | rfl | rfl | rfl | rfl | rfl
 ·cases hv;exact h0 0 (by omega)
 ·cases hv;exact h1 0 (by omega)
 ·cases hv;exact h0 1 (by omega)
 ·cases hv;exact h1 1 (by omega)
 ·cases hv;exact h0 2 (by omega)
 ·cases hv;exact h1 2 (by omega)
 ·cases hv;exact h0 3 (by omega)
 ·cases hv;exact h1 3 (by omega)
 ·cases hv;exact h0 4 (by omega)
 ·cases hv;exact h1 4 (by omega)
 ·cases hv;exact h0 5 (by omega)
 ·cases hv;exact h1 5 (by omega)
 ·cases hv;exact h0 6 (by omega)
 ·cases hv;exact h1 6 (by omega)
 ·cases hv;exact h0 7 (by omega)
 ·cases hv;exact h1 7 (by omega)
 ·cases hv;exact h0 8 (by omega)
 ·cases hv;exact h1 8 (by omega)
 ·cases hv;exact h0 9 (by omega)
 ·cases hv;exact h1 9 (by omega)
 ·cases hv;exact h0 10 (by omega)
 ·cases hv;exact h1 10 (by omega)
 ·cases hv;exact h0 11 (by omega)
 ·cases hv;exact h1 11 (by omega)
def UD (f:Nat→ByteArray) (g h:Nat→Int):List Value:= [.string (f 0),.int .i64 (g 0),.int .i64 (h 0),.string (f 1),.int .i64 (g 1),.int .i64 (h 1),.string (f 2),.int .i64 (g 2),.int .i64 (h 2),.string (f 3),.int .i64 (g 3),.int .i64 (h 3),.string (f 4),.int .i64 (g 4),.int .i64 (h 4),.string (f 5),.int .i64 (g 5),.int .i64 (h 5),.string (f 6),.int .i64 (g 6),.int .i64 (h 6),.string (f 7),.int .i64 (g 7),.int .i64 (h 7),.string (f 8),.int .i64 (g 8),.int .i64 (h 8),.string (f 9),.int .i64 (g 9),.int .i64 (h 9),.string (f 10),.int .i64 (g 10),.int .i64 (h 10)]
theorem Qu8 (f:Nat→ByteArray) (g h:Nat→Int) (w:World):(Instr.index 265 (.agg (UD f g h).toArray) (.int .i64 0)).run Tryz.prog w= .ok (.agg #[.string (f 0),.int .i64 (g 0),.int .i64 (h 0)]) w:=by kernel_rfl
theorem Qu7 (f:Nat→ByteArray) (g h:Nat→Int) (w:World):(Instr.index 265 (.agg (UD f g h).toArray) (.int .i64 1)).run Tryz.prog w= .ok (.agg #[.string (f 1),.int .i64 (g 1),.int .i64 (h 1)]) w:=by kernel_rfl
theorem Qu6 (f:Nat→ByteArray) (g h:Nat→Int) (w:World):(Instr.index 265 (.agg (UD f g h).toArray) (.int .i64 2)).run Tryz.prog w= .ok (.agg #[.string (f 2),.int .i64 (g 2),.int .i64 (h 2)]) w:=by kernel_rfl
theorem Qu5 (f:Nat→ByteArray) (g h:Nat→Int) (w:World):(Instr.index 265 (.agg (UD f g h).toArray) (.int .i64 3)).run Tryz.prog w= .ok (.agg #[.string (f 3),.int .i64 (g 3),.int .i64 (h 3)]) w:=by kernel_rfl
theorem Qu4 (f:Nat→ByteArray) (g h:Nat→Int) (w:World):(Instr.index 265 (.agg (UD f g h).toArray) (.int .i64 4)).run Tryz.prog w= .ok (.agg #[.string (f 4),.int .i64 (g 4),.int .i64 (h 4)]) w:=by kernel_rfl
theorem Qu3 (f:Nat→ByteArray) (g h:Nat→Int) (w:World):(Instr.index 265 (.agg (UD f g h).toArray) (.int .i64 5)).run Tryz.prog w= .ok (.agg #[.string (f 5),.int .i64 (g 5),.int .i64 (h 5)]) w:=by kernel_rfl
theorem Qu2 (f:Nat→ByteArray) (g h:Nat→Int) (w:World):(Instr.index 265 (.agg (UD f g h).toArray) (.int .i64 6)).run Tryz.prog w= .ok (.agg #[.string (f 6),.int .i64 (g 6),.int .i64 (h 6)]) w:=by kernel_rfl
theorem Qu1 (f:Nat→ByteArray) (g h:Nat→Int) (w:World):(Instr.index 265 (.agg (UD f g h).toArray) (.int .i64 7)).run Tryz.prog w= .ok (.agg #[.string (f 7),.int .i64 (g 7),.int .i64 (h 7)]) w:=by kernel_rfl
theorem Qu0 (f:Nat→ByteArray) (g h:Nat→Int) (w:World):(Instr.index 265 (.agg (UD f g h).toArray) (.int .i64 8)).run Tryz.prog w= .ok (.agg #[.string (f 8),.int .i64 (g 8),.int .i64 (h 8)]) w:=by kernel_rfl
theorem Quz (f:Nat→ByteArray) (g h:Nat→Int) (w:World):(Instr.index 265 (.agg (UD f g h).toArray) (.int .i64 9)).run Tryz.prog w= .ok (.agg #[.string (f 9),.int .i64 (g 9),.int .i64 (h 9)]) w:=by kernel_rfl
theorem Qs1 (f:Nat→ByteArray) (g h:Nat→Int) (w:World):(Instr.index 265 (.agg (UD f g h).toArray) (.int .i64 10)).run Tryz.prog w= .ok (.agg #[.string (f 10),.int .i64 (g 10),.int .i64 (h 10)]) w:=by kernel_rfl
theorem ixF (f:Nat→ByteArray) (g h:Nat→Int) (k:Nat) (hk:k<11) (w:World):(Instr.index 265 (.agg (UD f g h).toArray) (.int .i64 (k:Int))).run Tryz.prog w= .ok (.agg #[.string (f k),.int .i64 (g k),.int .i64 (h k)]) w:=by
 have hq:k=0∨k=1∨k=2∨k=3∨k=4∨k=5∨k=6∨k=7∨k=8∨k=9∨k=10:=by omega
 rcases hq with rfl | rfl | rfl | rfl | rfl | rfl | rfl | rfl | rfl | rfl | rfl
 ·exact Qu8 f g h w
 ·exact Qu7 f g h w
 ·exact Qu6 f g h w
 ·exact Qu5 f g h w
 ·exact Qu4 f g h w
 ·exact Qu3 f g h w
 ·exact Qu2 f g h w
 ·exact Qu1 f g h w
 ·exact Qu0 f g h w
 ·exact Quz f g h w
 ·exact Qs1 f g h w
theorem rgF (f:Nat→ByteArray) (g h:Nat→Int) (b:Nat) (w:World) (h0: ∀m:Nat,m<11→w.cell? ⟨b,m*3,none⟩=some (.string (f m))) (h1: ∀m:Nat,m<11→w.cell? ⟨b,m*3+1,none⟩=some (.int .i64 (g m))) (h2: ∀m:Nat,m<11→w.cell? ⟨b,m*3+2,none⟩=some (.int .i64 (h m))):w.rangeAt b 0 (UD f g h):=by
 intro j v hv
 have hj:j<33:=by
  rcases Nat.lt_or_ge j 33 with h9 | h9
  ·exact h9
  ·rw [List.getElem?_eq_none (by simp only [UD,List.length_cons,List.length_nil];omega)]at hv;cases hv
 have hq:j=0∨j=1∨j=2∨j=3∨j=4∨j=5∨j=6∨j=7∨j=8∨j=9∨j=10∨j=11∨j=12∨j=13∨j=14∨j=15∨j=16∨j=17∨j=18∨j=19∨j=20∨j=21∨j=22∨j=23∨j=24∨j=25∨j=26∨j=27∨j=28∨j=29∨j=30∨j=31∨j=32:=by omega
 rcases hq with rfl | rfl | rfl | rfl | rfl | rfl | rfl | rfl | rfl | rfl | rfl | rfl | rfl | rfl | rfl | rfl | rfl | rfl | rfl | rfl | rfl | rfl | rfl | rfl | rfl | rfl | rfl | rfl | rfl | rfl | rfl | rfl | rfl
 ·cases hv;exact h0 0 (by omega)
 ·cases hv;exact h1 0 (by omega)
 ·cases hv;exact h2 0 (by omega)
 ·cases hv;exact h0 1 (by omega)
 ·cases hv;exact h1 1 (by omega)
 ·cases hv;exact h2 1 (by omega)
 ·cases hv;exact h0 2 (by omega)
 ·cases hv;exact h1 2 (by omega)
 ·cases hv;exact h2 2 (by omega)
 ·cases hv;exact h0 3 (by omega)
 ·cases hv;exact h1 3 (by omega)
 ·cases hv;exact h2 3 (by omega)
 ·cases hv;exact h0 4 (by omega)
 ·cases hv;exact h1 4 (by omega)
 ·cases hv;exact h2 4 (by omega)
 ·cases hv;exact h0 5 (by omega)
 ·cases hv;exact h1 5 (by omega)
 ·cases hv;exact h2 5 (by omega)
 ·cases hv;exact h0 6 (by omega)
 ·cases hv;exact h1 6 (by omega)
 ·cases hv;exact h2 6 (by omega)
 ·cases hv;exact h0 7 (by omega)
 ·cases hv;exact h1 7 (by omega)
 ·cases hv;exact h2 7 (by omega)
 ·cases hv;exact h0 8 (by omega)
 ·cases hv;exact h1 8 (by omega)
 ·cases hv;exact h2 8 (by omega)
 ·cases hv;exact h0 9 (by omega)
 ·cases hv;exact h1 9 (by omega)
 ·cases hv;exact h2 9 (by omega)
 ·cases hv;exact h0 10 (by omega)
 ·cases hv;exact h1 10 (by omega)
 ·cases hv;exact h2 10 (by omega)
theorem Qmi {W:World} (h:OT W): ∃cs:List Value,cs.length=24∧W.rangeAt 1 0 cs∧ ∀k:Nat,k<12→ ∀w:World,(Instr.index 262 (.agg cs.toArray) (.int .i64 (k:Int))).run Tryz.prog w= .ok (.agg #[.string (bs (sgT (k:Int))),.int .i64 (bnO k)]) w:=
 ⟨GP (fun m=>bs (sgT (m:Int))) bnO,rfl,rgO _ _ _ _ (fun m hm=>(h m (by omega)).1) (fun m hm=>(h m (by omega)).2),fun k hk w=>ixO _ _ k hk w⟩
def FTL (W:World):Prop:= ∃g h:Nat→Int,∀m:Nat,m≤10→W.cell? ⟨2,m*3+1,none⟩=some (.int .i64 (g m))∧W.cell? ⟨2,m*3+2,none⟩=some (.int .i64 (h m))
theorem Qtf {W:World} (hn:FTN W) (hl:FTL W): ∃(cs:List Value) (g h:Nat→Int),cs.length=33∧W.rangeAt 2 0 cs∧ ∀k:Nat,k<11→ ∀w:World,(Instr.index 265 (.agg cs.toArray) (.int .i64 (k:Int))).run Tryz.prog w= .ok (.agg #[.string (bs (fnT (k:Int))),.int .i64 (g k),.int .i64 (h k)]) w:=by
 obtain⟨g,h,hgh⟩:=hl;exact⟨UD (fun m=>bs (fnT (m:Int))) g h,g,h,rfl,rgF _ _ _ _ _ (fun m hm=>hn m (by omega)) (fun m hm=>(hgh m (by omega)).1) (fun m hm=>(hgh m (by omega)).2),fun k hk w=>ixF _ _ _ k hk w⟩
theorem Qum {l:List UInt8} {k:Nat} (hk:k<12) (he:sgT (k:Int)=l):QI l=(k:Int):=by
 subst he;have hq:k=0∨k=1∨k=2∨k=3∨k=4∨k=5∨k=6∨k=7∨k=8∨k=9∨k=10∨k=11:=by omega
 rcases hq with rfl | rfl | rfl | rfl | rfl | rfl | rfl | rfl | rfl | rfl | rfl | rfl<;>decide
theorem Qkh {l:List UInt8} (h: ∀j:Nat,j<12→sgT (j:Int)≠l):QI l=0:=by
 unfold QI;rw [if_neg (fun e=>h 0 (by omega) (by rw [e];rfl)),if_neg (fun e=>h 1 (by omega) e.symm),if_neg (fun e=>h 2 (by omega) e.symm),if_neg (fun e=>h 3 (by omega) e.symm),if_neg (fun e=>h 4 (by omega) e.symm),if_neg (fun e=>h 5 (by omega) e.symm),if_neg (fun e=>h 6 (by omega) e.symm),if_neg (fun e=>h 7 (by omega) e.symm),if_neg (fun e=>h 8 (by omega) e.symm),if_neg (fun e=>h 9 (by omega) e.symm),if_neg (fun e=>h 10 (by omega) e.symm),if_neg (fun e=>h 11 (by omega) e.symm)]
theorem Qvd {l:List UInt8} {k:Nat} (hk:k<11) (he:fnT (k:Int)=l):Xc l=(k:Int):=by
 subst he;have hq:k=0∨k=1∨k=2∨k=3∨k=4∨k=5∨k=6∨k=7∨k=8∨k=9∨k=10:=by omega
 rcases hq with rfl | rfl | rfl | rfl | rfl | rfl | rfl | rfl | rfl | rfl | rfl<;>decide
theorem Qlh {l:List UInt8} (h: ∀j:Nat,j<11→fnT (j:Int)≠l):Xc l=0:=by
 unfold Xc;rw [if_neg (fun e=>h 0 (by omega) (by rw [e];rfl)),if_neg (fun e=>h 1 (by omega) e.symm),if_neg (fun e=>h 2 (by omega) e.symm),if_neg (fun e=>h 3 (by omega) e.symm),if_neg (fun e=>h 4 (by omega) e.symm),if_neg (fun e=>h 5 (by omega) e.symm),if_neg (fun e=>h 6 (by omega) e.symm),if_neg (fun e=>h 7 (by omega) e.symm),if_neg (fun e=>h 8 (by omega) e.symm),if_neg (fun e=>h 9 (by omega) e.symm),if_neg (fun e=>h 10 (by omega) e.symm)]
theorem Kl (s:ByteArray) (w:World) (ho:OT w):Calls Tryz.prog 305 #[.string s] w fun e w'=>e= .returned (.int .i64 (QI s.data.toList))∧Below w.heap.size w w':=by
 obtain⟨cs,hlen,hrg,hix⟩:=Qmi ho;clear ho;have HL:Hid (cs.length=24):=hlen;have HR:Hid (w.rangeAt 1 0 cs):=hrg;have HI:Hid (∀k:Nat,k<12→ ∀w:World,(Instr.index 262 (.agg cs.toArray) (.int .i64 (k:Int))).run Tryz.prog w= .ok (.agg #[.string (bs (sgT (k:Int))),.int .i64 (bnO k)]) w):=hix;obtain⟨l,HLL⟩: ∃l,Hid (s.data.toList=l):=⟨_,rfl⟩;rw [HLL.out]
 clear hlen hrg hix;go_enter Tryz.func305,Tryz.ntmps305;go_wp2_with (refine wpList_load_mid rfl 262 (.global 1) rfl 1 0 rfl cs _ HR.out Tryz.underlying262 rfl (by rw [HL.out];kernel_rfl) ?_)
 generalize (Value.agg cs.toArray)=tb at*
 go_loopw [6] (fun b wr=> ∃k:Nat,k≤12∧b= .int .i64 (k:Nat)∧(∀j:Nat,j<k→sgT (j:Int)≠l)∧Below w.heap.size w wr) (fun b _=>12-(intOf b).toNat)
 case atStart=>exact⟨0,Nat.zero_le _,rfl,fun j hj=>absurd hj (Nat.not_lt_zero _),Below.refl _ _⟩
 case round=>
  obtain⟨k,hk,rfl,hno,hbw⟩:=hrel;have HBW:Hid (Below w.heap.size w wr):=hbw;have HNO:Hid (∀j:Nat,j<k→sgT (j:Int)≠l):=hno;clear hbw hno;by_cases h12:k<12
  ·have q1:(k:Int)<12:=by omega
   have hw1:IntKind.i64.wrap ((k:Int)+1)=(k:Int)+1:=by rw [IntKind.wrap_i64];omega
   obtain⟨x,HX⟩: ∃x,Hid (bs (sgT (k:Int))=x):=⟨_,rfl⟩;obtain⟨y,HY⟩: ∃y,Hid (bnO k=y):=⟨_,rfl⟩;have HIK:Hid (∀w:World,(Instr.index 262 tb (.int .i64 (k:Int))).run Tryz.prog w= .ok (.agg #[.string x,.int .i64 y]) w):=fun w=>by rw [←HX.out,←HY.out];exact HI.out k h12 w
   have HBE:Hid ((x.toList==s.toList)=decide (sgT (k:Int)=l)):=by
    show _=_;rw [←HX.out,←HLL.out,←MY s,UC,MY]
   by_cases he:sgT (k:Int)=l
   ·have hb:(x.toList==s.toList)=true:=by rw [HBE.out];exact decide_eq_true he
    have HE:Hid (QI l=(k:Int)):=Qum h12 he;clear he HBE;go_wp2_with (refine QR rfl _ _ _ rfl tb (.int .i64 (k:Int)) _ rfl rfl (HIK.out _) ?_)
    go_ret;exact⟨by rw [HE.out];rfl,Qc HBW.out (by go_grown)⟩
   ·have hb:(x.toList==s.toList)=false:=by rw [HBE.out];exact decide_eq_false he
    have HN:Hid (∀j:Nat,j<k+1→sgT (j:Int)≠l):=fun j hj=>by
     rcases Nat.lt_succ_iff_lt_or_eq.1 hj with h9 | rfl
     ·exact HNO.out j h9
     ·exact he
    clear he HBE;go_wp2_with (refine QR rfl _ _ _ rfl tb (.int .i64 (k:Int)) _ rfl rfl (HIK.out _) ?_)
    exact⟨⟨k+1,by omega,by simp,HN.out,Qc HBW.out (by go_grown)⟩,by simp [intOf];omega⟩
  ·obtain rfl:k=12:=by omega
   have HE:Hid (QI l=0):=Qkh HNO.out;go_wp2_with fail
   go_ret;exact⟨by rw [HE.out];rfl,HBW.out⟩
theorem Km (s:ByteArray) (w:World) (hn:FTN w) (hl:FTL w):Calls Tryz.prog 327 #[.string s] w fun e w'=>e= .returned (.int .i64 (Xc s.data.toList))∧Below w.heap.size w w':=by
 obtain⟨cs,gg,hh,hlen,hrg,hix⟩:=Qtf hn hl;clear hn hl;have HL:Hid (cs.length=33):=hlen;have HR:Hid (w.rangeAt 2 0 cs):=hrg;have HI:Hid (∀k:Nat,k<11→ ∀w:World,(Instr.index 265 (.agg cs.toArray) (.int .i64 (k:Int))).run Tryz.prog w= .ok (.agg #[.string (bs (fnT (k:Int))),.int .i64 (gg k),.int .i64 (hh k)]) w):=hix;obtain⟨l,HLL⟩: ∃l,Hid (s.data.toList=l):=⟨_,rfl⟩;rw [HLL.out]
 clear hlen hrg hix;go_enter Tryz.func327,Tryz.ntmps327;go_wp2_with (refine wpList_load_mid rfl 265 (.global 2) rfl 2 0 rfl cs _ HR.out Tryz.underlying265 rfl (by rw [HL.out];kernel_rfl) ?_)
 generalize (Value.agg cs.toArray)=tb at*
 go_loopw [6] (fun b wr=> ∃k:Nat,k≤11∧b= .int .i64 (k:Nat)∧(∀j:Nat,j<k→fnT (j:Int)≠l)∧Below w.heap.size w wr) (fun b _=>11-(intOf b).toNat)
 case atStart=>exact⟨0,Nat.zero_le _,rfl,fun j hj=>absurd hj (Nat.not_lt_zero _),Below.refl _ _⟩
 case round=>
  obtain⟨k,hk,rfl,hno,hbw⟩:=hrel;have HBW:Hid (Below w.heap.size w wr):=hbw;have HNO:Hid (∀j:Nat,j<k→fnT (j:Int)≠l):=hno;clear hbw hno;by_cases h12:k<11
  ·have q1:(k:Int)<11:=by omega
   have hw1:IntKind.i64.wrap ((k:Int)+1)=(k:Int)+1:=by rw [IntKind.wrap_i64];omega
   obtain⟨x,HX⟩: ∃x,Hid (bs (fnT (k:Int))=x):=⟨_,rfl⟩;obtain⟨y,HY⟩: ∃y,Hid (gg k=y):=⟨_,rfl⟩;obtain⟨z,HZ⟩: ∃z,Hid (hh k=z):=⟨_,rfl⟩;have HIK:Hid (∀w:World,(Instr.index 265 tb (.int .i64 (k:Int))).run Tryz.prog w= .ok (.agg #[.string x,.int .i64 y,.int .i64 z]) w):=fun w=>by rw [←HX.out,←HY.out,←HZ.out];exact HI.out k h12 w
   have HBE:Hid ((x.toList==s.toList)=decide (fnT (k:Int)=l)):=by
    show _=_;rw [←HX.out,←HLL.out,←MY s,UC,MY]
   by_cases he:fnT (k:Int)=l
   ·have hb:(x.toList==s.toList)=true:=by rw [HBE.out];exact decide_eq_true he
    have HE:Hid (Xc l=(k:Int)):=Qvd h12 he;clear he HBE;go_wp2_with (refine QR rfl _ _ _ rfl tb (.int .i64 (k:Int)) _ rfl rfl (HIK.out _) ?_)
    go_ret;exact⟨by rw [HE.out];rfl,Qc HBW.out (by go_grown)⟩
   ·have hb:(x.toList==s.toList)=false:=by rw [HBE.out];exact decide_eq_false he
    have HN:Hid (∀j:Nat,j<k+1→fnT (j:Int)≠l):=fun j hj=>by
     rcases Nat.lt_succ_iff_lt_or_eq.1 hj with h9 | rfl
     ·exact HNO.out j h9
     ·exact he
    clear he HBE;go_wp2_with (refine QR rfl _ _ _ rfl tb (.int .i64 (k:Int)) _ rfl rfl (HIK.out _) ?_)
    exact⟨⟨k+1,by omega,by simp,HN.out,Qc HBW.out (by go_grown)⟩,by simp [intOf];omega⟩
  ·obtain rfl:k=11:=by omega
   have HE:Hid (Xc l=0):=Qlh HNO.out;go_wp2_with fail
   go_ret;exact⟨by rw [HE.out];rfl,HBW.out⟩
end Go.Proofs.YtbdhinckiccniaaGreatDoor
