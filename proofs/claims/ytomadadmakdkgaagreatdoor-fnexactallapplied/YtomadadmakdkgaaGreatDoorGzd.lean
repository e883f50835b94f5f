import Derived.Test.YtomadadmakdkgaaGreatDoorGaa
import Derived.Test.YtomadadmakdkgaaGreatDoorGad
open Go.Proofs.Tryz
open Go.Value renaming int → l, bool → u, string → C, slice → D, agg → G
open Go.IntKind renaming i64 → m
open Go renaming World → v
open Go.Ending renaming returned → y
open Go.RowKit renaming Below → z
open Bool renaming eq_iff_iff → E
set_option linter.unusedSimpArgs false
set_option linter.unusedVariables false
set_option maxHeartbeats 2000000
namespace Go.Proofs.YtomadadmakdkgaaGreatDoor
open Go.RowKit
variable {W W':v} {KA:Option Addr} {kc:Nat}
structure FN where
 k:Int
 o:Int
 ck:Int
 cn:Int
 cs:ByteArray
 ac:Int
 ar:Int
 af:Bool
 ag:Bool
 bc:Int
 br:Int
 bf:Bool
 bg:Bool
 kids:List Int
def NodeAt(W:v)(b p:Nat)(x:FN)(KA:Option Addr)(kc:Nat):Prop:=
 W.cell? ⟨b,p,none⟩=some (l m (x.k))/\W.cell? ⟨b,p+1,none⟩=some (l m (x.o))/\W.cell? ⟨b,p+2,none⟩=some (l m (x.ck))/\W.cell? ⟨b,p+3,none⟩=some (l m (x.cn))/\W.cell? ⟨b,p+4,none⟩=some (C (x.cs))/\W.cell? ⟨b,p+5,none⟩=some (l m (x.ac))/\W.cell? ⟨b,p+6,none⟩=some (l m (x.ar))/\W.cell? ⟨b,p+7,none⟩=some (u (x.af))/\W.cell? ⟨b,p+8,none⟩=some (u (x.ag))/\W.cell? ⟨b,p+9,none⟩=some (l m (x.bc))/\W.cell? ⟨b,p+10,none⟩=some (l m (x.br))/\W.cell? ⟨b,p+11,none⟩=some (u (x.bf))/\W.cell? ⟨b,p+12,none⟩=some (u (x.bg))/\W.cell? ⟨b,p+13,none⟩=some (D KA x.kids.length kc)
theorem NodeAt.below{b p:Nat}{x:FN}(h:NodeAt W b p x KA kc)(hl:b<W.heap.size)(hb:z W.heap.size W W'):NodeAt W' b p x KA kc:=by
 obtain⟨c0,c1,c2,c3,c4,c5,c6,c7,c8,c9,h3,h2,h1,h0⟩:=h;exact⟨(hb.cell (p:=⟨b,_,none⟩) hl).trans c0,(hb.cell (p:=⟨b,_,none⟩) hl).trans c1,(hb.cell (p:=⟨b,_,none⟩) hl).trans c2,(hb.cell (p:=⟨b,_,none⟩) hl).trans c3,(hb.cell (p:=⟨b,_,none⟩) hl).trans c4,(hb.cell (p:=⟨b,_,none⟩) hl).trans c5,(hb.cell (p:=⟨b,_,none⟩) hl).trans c6,(hb.cell (p:=⟨b,_,none⟩) hl).trans c7,(hb.cell (p:=⟨b,_,none⟩) hl).trans c8,(hb.cell (p:=⟨b,_,none⟩) hl).trans c9,(hb.cell (p:=⟨b,_,none⟩) hl).trans h3,(hb.cell (p:=⟨b,_,none⟩) hl).trans h2,(hb.cell (p:=⟨b,_,none⟩) hl).trans h1,(hb.cell (p:=⟨b,_,none⟩) hl).trans h0⟩
def FnRow(W:v)(A:Option Addr)(n:Nat)(F:Nat->FN):Prop:=
 n<=maxLen/\ ∀i,i<n-> ∃b o KA kc,A=some ⟨b,o,none⟩/\b<W.heap.size/\NodeAt W b (o+i*14) (F i) KA kc/\IntRow W KA (F i).kids/\(F i).cs.size<=maxLen
theorem FnRow.below{A:Option Addr}{n:Nat}{F:Nat->FN}(h:FnRow W A n F)(hb:z W.heap.size W W'):FnRow W' A n F:=
 ⟨h.1,fun i hi=>by
  obtain⟨b,o,KA,kc,e,hl,hn,hk,hs⟩:=h.2 i hi
  exact⟨b,o,KA,kc,e,Nat.lt_of_lt_of_le hl hb.size,hn.below hl hb,hk.below hb,hs⟩⟩
def Qx(x:FN)(KA:Option Addr)(kc:Nat):List Value:= [l m (x.k),l m (x.o),l m (x.ck),l m (x.cn),C (x.cs),l m (x.ac),l m (x.ar),u (x.af),u (x.ag),l m (x.bc),l m (x.br),u (x.bf),u (x.bg),D KA x.kids.length kc]
theorem MQ:(prog.info? 177).map (fun i=>(i.zero,i.size,i.bytes))=some (some (G #[l m 0,l m 0,l m 0,l m 0,C ⟨#[]⟩,l m 0,l m 0,u false,u false,l m 0,l m 0,u false,u false,D none 0 0]),14,120):=by kernel_rfl
def FnPart(W:v)(B:Nat)(ys:List Value)(F:Nat->FN)(t:Nat):Prop:=
 ∀i,i<t-> ∃KA kc,(∀j,j<14->ys[i*14+j]? =(Qx (F i) KA kc)[j]?)/\W.ownsRow B 2 1 (D KA (F i).kids.length kc) (F i).kids.length ((F i).kids.map (Value.int .i64))
theorem FnPart.below{B:Nat}{ys:List Value}{F:Nat->FN}{t:Nat}(h:FnPart W B ys F t)(hb:z W.heap.size W W'):FnPart W' B ys F t:=fun i hi=>by
 obtain⟨KA,kc,h1,h2⟩:=h i hi;exact⟨KA,kc,h1,Qd h2 hb⟩
theorem Qjf{B g n cap:Nat}{ys:List Value}{F:Nat->FN}(h:W.ownsRow B 177 14 (D (some ⟨g,0,none⟩) n cap) n ys){B':Nat}(hp:FnPart W B' ys F n)(hs: ∀i,i<n->(F i).cs.size<=maxLen):FnRow W (some ⟨g,0,none⟩) n F:=by
 obtain⟨A',cap',e,hn,hc⟩:=Qr h;cases e
 refine⟨hn,fun i hi=> ?_⟩;obtain⟨KA,kc,h1,h2⟩:=hp i hi
 have h0: ∀j,j<14->W.cell? ⟨g,0+i*14+j,none⟩=(Qx (F i) KA kc)[j]?:=fun j hj=>by
  obtain⟨g',e',_,_,c,_⟩:=hc (i*14+j) (by omega);cases e'
  rw[Nat.zero_add,c,h1 j hj]
 obtain⟨g',e',_,hl,_,_⟩:=hc (i*14) (by omega);cases e'
 refine⟨g,0,KA,kc,rfl,hl,⟨h0 0 (by omega),h0 1 (by omega),h0 2 (by omega),h0 3 (by omega),h0 4 (by omega),h0 5 (by omega),h0 6 (by omega),h0 7 (by omega),h0 8 (by omega),h0 9 (by omega),h0 10 (by omega),h0 11 (by omega),h0 12 (by omega),h0 13 (by omega)⟩,Vq h2,hs i hi⟩
def Ql(a b c d:Int):Bool:=Qf a b&&Qf c d&&decide (a<=c/\b<=d)
def zP(c r:Int)(f g:Bool):Bool:=decide (c=0)&&decide (r=0)&& !f&& !g
def zV(k n:Int)(s:ByteArray):Bool:=decide (k=0)&&decide (n=0)&&emp s
def cOk(k n:Int)(s:ByteArray):Bool:=okV k n s&& !decide (k=0)&&(!decide (k=1) || decide (0<=n))
def GH(o:Int)(n:Nat):Bool:=
 if o=5 then decide (2<=n/\n<=3)else if 8<=o/\o<=10 then decide (n=1)else if 1<=o/\o<=7 then decide (1<=n/\n<=10)else false
theorem YJ(a b c d:Int)(w:v):Calls prog 187 #[G #[l m a,l m b,l m c,l m d]] w fun e w'=>
  e= y (u (Ql a b c d))/\z w.heap.size w w':=by
 go_enter func187,ntmps187
 go_wp2_with (first
  | (go_at_call 67;refine(Zu _ _ _).mono ?_;rintro e w1 ⟨rfl,hb⟩;obtain⟨hc,hf,hC,hF,hz,hk,l0⟩:=bk1 (w:=w) hb;clear hb))
 all_goals
  go_ret;refine⟨Qc ?_,by go_grown⟩;unfold Ql;rw[E];simp[*];try omega
theorem YH(a b c d:Int)(w:v):Calls prog 62 #[G #[l m a,l m b,l m c,l m d]] w fun e w'=>
  e= y (u (Ql a b c d))/\z w.heap.size w w':=by
 go_enter func62,ntmps62
 go_wp2_with (first
  | (go_at_call 59;refine(Qz _ _ _).mono ?_;rintro e w1 ⟨rfl,hb⟩;obtain⟨hc,hf,hC,hF,hz,hk,l0⟩:=bk1 (w:=w) hb;clear hb))
 all_goals
  go_ret;refine⟨Qc ?_,by go_grown⟩;unfold Ql;rw[E];simp[*];try omega
theorem EG(k n:Int)(s:ByteArray)(w:v)(hs:s.size<=maxLen):Calls prog 186 #[G #[l m k,l m n,C s]] w fun e w'=>
  e= y (u (cOk k n s))/\z w.heap.size w w':=by
 cases ho:okV k n s
 ·have HO:Hid (okV k n s=false):=ho;clear ho;go_enter func186,ntmps186;go_wp2_with (go_at_call 177;refine(YY _ _ _ _ hs).mono ?_;rintro e w1 ⟨rfl,hb⟩;rw[HO.out];obtain⟨hc,hf,hC,hF,hz,hk,l0⟩:=bk1 (w:=w) hb;clear hb)
  all_goals
   go_ret;exact⟨Qc (by simp[cOk,HO.out]),by go_grown⟩
 have HO:Hid (okV k n s=true):=ho;clear ho;by_cases h0:k=0
 ·subst h0;go_enter func186,ntmps186;go_wp2_with (go_at_call 177;refine(YY _ _ _ _ hs).mono ?_;rintro e w1 ⟨rfl,hb⟩;rw[HO.out];obtain⟨hc,hf,hC,hF,hz,hk,l0⟩:=bk1 (w:=w) hb;clear hb)
  all_goals
   go_ret;exact⟨Qc (by simp[cOk]),by go_grown⟩
 have e0:(k !=0)=true:=by simpa using h0
 by_cases h1:k=1
 ·subst h1;clear e0;go_enter func186,ntmps186;go_wp2_with (go_at_call 177;refine(YY _ _ _ _ hs).mono ?_;rintro e w1 ⟨rfl,hb⟩;rw[HO.out];obtain⟨hc,hf,hC,hF,hz,hk,l0⟩:=bk1 (w:=w) hb;clear hb)
  all_goals
   go_ret;exact⟨Qc (by simp[cOk,HO.out]),by go_grown⟩
 ·have e1:(k !=1)=true:=by simpa using h1
  go_enter func186,ntmps186;go_wp2_with (go_at_call 177;refine(YY _ _ _ _ hs).mono ?_;rintro e w1 ⟨rfl,hb⟩;rw[HO.out];obtain⟨hc,hf,hC,hF,hz,hk,l0⟩:=bk1 (w:=w) hb;clear hb)
  all_goals
   go_ret;exact⟨Qc (by simp[cOk,HO.out,h0,h1]),by go_grown⟩
theorem Xm(o ck cn:Int)(cs:ByteArray)(ac ar:Int)(af ag:Bool)(bc br:Int)(bf bg:Bool){kl:Nat}(w:v):
  Calls prog 188 #[G #[l m 3,l m o,l m ck,l m cn,C cs,l m ac,l m ar,u af,u ag,l m bc,l m br,u bf,u bg,D KA kl kc]] w fun e w'=>
  e= y (G #[l m ac,l m ar,l m bc,l m br])/\z w.heap.size w w':=by
 go_enter func188,ntmps188;go_wp2
 go_returns
 exact⟨rfl,by go_grown⟩
theorem YD(k o ck cn:Int)(cs:ByteArray)(ac ar:Int)(af ag:Bool)(bc br:Int)(bf bg:Bool){kl:Nat}(w:v):
  Calls prog 189 #[G #[l m k,l m o,l m ck,l m cn,C cs,l m ac,l m ar,u af,u ag,l m bc,l m br,u bf,u bg,D KA kl kc]] w fun e w'=>
  e= y (u (zV ck cn cs&&zP ac ar af ag&&zP bc br bf bg))/\z w.heap.size w w':=by
 go_enter func189,ntmps189;go_wp2
 all_goals
  go_ret;exact⟨Qc (by simp[zV,zP,emp, *]),by go_grown⟩
end Go.Proofs.YtomadadmakdkgaaGreatDoor
