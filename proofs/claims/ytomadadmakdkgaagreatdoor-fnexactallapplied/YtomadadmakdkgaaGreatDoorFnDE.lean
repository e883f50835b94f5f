import Derived.Test.YtomadadmakdkgaaGreatDoorMn
import Derived.Test.YtomadadmakdkgaaGreatDoorGzd
open Go.Proofs.Tryz
open Go.Value renaming int → f, bool → i, string → j, slice → l, agg → E
open Go.IntKind renaming i64 → g
open Go.Ending renaming returned → r
open Bool renaming eq_iff_iff → t
open Go.RowKit renaming Below → u
open Go renaming World → v, maxLen → y, Calls → z, wp_region_held_drew → A, Addr → D, wpAnyH_done → F
open Go.Obj renaming cells → C
set_option linter.unusedSimpArgs false
set_option linter.unusedVariables false
set_option maxHeartbeats 4000000
set_option maxRecDepth 100000
namespace Go.Proofs.YtomadadmakdkgaaGreatDoor
open Go.RowKit
variable {KA:Option D} {kl kc:Nat}
def QI(k o ck cn:Int)(cs:ByteArray)(ac ar:Int)(af ag:Bool)(bc br:Int)(bf bg:Bool)(kl:Nat):Bool:=
 if k=1 then cOk ck cn cs&&decide (o=0)&&zP ac ar af ag&&zP bc br bf bg&&decide (kl=0)
 else if k=2 then Qf ac ar&&decide (o=0)&&zV ck cn cs&&zP bc br bf bg&&decide (kl=0)
 else if k=3 then Ql ac ar bc br&&decide (o=0)&&zV ck cn cs&&decide (kl=0)
 else if k=4 then decide (kl=1)&&decide (o=0)&&(zV ck cn cs&&zP ac ar af ag&&zP bc br bf bg)
 else if k=5 then decide (kl=2)&&decide (1<=o/\o<=11)&&(zV ck cn cs&&zP ac ar af ag&&zP bc br bf bg)
 else if k=6 then GH o kl&&(zV ck cn cs&&zP ac ar af ag&&zP bc br bf bg)
 else false
theorem Qnx(n:Nat):((n:Int)==0)=decide (n=0):=by rw[t];simp
theorem len1(n:Nat):((n:Int)==1)=decide (n=1):=by rw[t];simp;omega
theorem len2(n:Nat):((n:Int)==2)=decide (n=2):=by rw[t];simp;omega
theorem Qen(o ck cn:Int)(cs:ByteArray)(ac ar:Int)(af ag:Bool)(bc br:Int)(bf bg:Bool)(w:v)(hs:cs.size<=y):
  z prog 156 #[E #[f g 1,f g o,f g ck,f g cn,j cs,f g ac,f g ar,i af,i ag,f g bc,f g br,i bf,i bg,l KA kl kc]] w fun e w'=>e= r (i (QI 1 o ck cn cs ac ar af ag bc br bf bg kl))/\u w.heap.size w w':=by
 go_enter func156,ntmps156
 go_wp2_with (first
  | (go_at_call 186;refine(EG _ _ _ _ hs).mono ?_;rintro e w1 ⟨rfl,hb⟩;obtain⟨hc,hf,hC,hF,hz,hk,l0⟩:=bk1 (w:=w) hb;clear hb))
 all_goals
  go_ret;refine⟨Qc ?_,by go_grown⟩;simp[QI,zP,Qnx, *];try omega
theorem Qem(o ck cn:Int)(cs:ByteArray)(ac ar:Int)(af ag:Bool)(bc br:Int)(bf bg:Bool)(w:v)(hs:cs.size<=y):
  z prog 156 #[E #[f g 2,f g o,f g ck,f g cn,j cs,f g ac,f g ar,i af,i ag,f g bc,f g br,i bf,i bg,l KA kl kc]] w fun e w'=>e= r (i (QI 2 o ck cn cs ac ar af ag bc br bf bg kl))/\u w.heap.size w w':=by
 go_enter func156,ntmps156
 go_wp2_with (first
  | (go_at_call 67;refine(Zu _ _ _).mono ?_;rintro e w1 ⟨rfl,hb⟩;obtain⟨hc,hf,hC,hF,hz,hk,l0⟩:=bk1 (w:=w) hb;clear hb))
 all_goals
  go_ret;refine⟨Qc ?_,by go_grown⟩;simp[QI,zP,zV,emp,Qnx, *];try omega
theorem Qel(o ck cn:Int)(cs:ByteArray)(ac ar:Int)(af ag:Bool)(bc br:Int)(bf bg:Bool)(w:v)(hs:cs.size<=y):
  z prog 156 #[E #[f g 3,f g o,f g ck,f g cn,j cs,f g ac,f g ar,i af,i ag,f g bc,f g br,i bf,i bg,l KA kl kc]] w fun e w'=>e= r (i (QI 3 o ck cn cs ac ar af ag bc br bf bg kl))/\u w.heap.size w w':=by
 go_enter func156,ntmps156
 go_wp2_with (first
  | (go_at_call 188;refine(Xm _ _ _ _ _ _ _ _ _ _ _ _ _).mono ?_;rintro e w1 ⟨rfl,hb⟩;obtain⟨hc,hf,hC,hF,hz,hk,l0⟩:=bk1 (w:=w) hb;clear hb)
  | (go_at_call 187;refine(YJ _ _ _ _ _).mono ?_;rintro e w1 ⟨rfl,hb⟩;obtain⟨hc,hf,hC,hF,hz,hk,l0⟩:=bk1 (w:=w) hb;clear hb))
 all_goals
  go_ret;refine⟨Qc ?_,by go_grown⟩;simp[QI,zV,emp,Qnx, *];try omega
theorem Qek(o ck cn:Int)(cs:ByteArray)(ac ar:Int)(af ag:Bool)(bc br:Int)(bf bg:Bool)(w:v)(hs:cs.size<=y):
  z prog 156 #[E #[f g 4,f g o,f g ck,f g cn,j cs,f g ac,f g ar,i af,i ag,f g bc,f g br,i bf,i bg,l KA kl kc]] w fun e w'=>e= r (i (QI 4 o ck cn cs ac ar af ag bc br bf bg kl))/\u w.heap.size w w':=by
 go_enter func156,ntmps156
 go_wp2_with (first
  | (go_at_call 189;refine(YD _ _ _ _ _ _ _ _ _ _ _ _ _ _).mono ?_;rintro e w1 ⟨rfl,hb⟩;obtain⟨hc,hf,hC,hF,hz,hk,l0⟩:=bk1 (w:=w) hb;clear hb))
 all_goals
  go_ret;refine⟨Qc ?_,by go_grown⟩;simp[QI, *];try omega
theorem Qej(o ck cn:Int)(cs:ByteArray)(ac ar:Int)(af ag:Bool)(bc br:Int)(bf bg:Bool)(w:v)(hs:cs.size<=y):
  z prog 156 #[E #[f g 5,f g o,f g ck,f g cn,j cs,f g ac,f g ar,i af,i ag,f g bc,f g br,i bf,i bg,l KA kl kc]] w fun e w'=>e= r (i (QI 5 o ck cn cs ac ar af ag bc br bf bg kl))/\u w.heap.size w w':=by
 go_enter func156,ntmps156
 go_wp2_with (first
  | (go_at_call 189;refine(YD _ _ _ _ _ _ _ _ _ _ _ _ _ _).mono ?_;rintro e w1 ⟨rfl,hb⟩;obtain⟨hc,hf,hC,hF,hz,hk,l0⟩:=bk1 (w:=w) hb;clear hb))
 all_goals
  go_ret;refine⟨Qc ?_,by go_grown⟩;simp[QI, *];try omega
theorem Qeo(k:Int)(o ck cn:Int)(cs:ByteArray)(ac ar:Int)(af ag:Bool)(bc br:Int)(bf bg:Bool)(w:v)(hs:cs.size<=y)(h1: ¬k=1)(h2: ¬k=2)(h3: ¬k=3)(h4: ¬k=4)(h5: ¬k=5)(h6: ¬k=6):
  z prog 156 #[E #[f g k,f g o,f g ck,f g cn,j cs,f g ac,f g ar,i af,i ag,f g bc,f g br,i bf,i bg,l KA kl kc]] w fun e w'=>e= r (i (QI k o ck cn cs ac ar af ag bc br bf bg kl))/\u w.heap.size w w':=by
 have e1:(k==1)=false:=by simpa using h1
 have e2:(k==2)=false:=by simpa using h2
 have e3:(k==3)=false:=by simpa using h3
 have e4:(k==4)=false:=by simpa using h4
 have e5:(k==5)=false:=by simpa using h5
 have e6:(k==6)=false:=by simpa using h6
 go_enter func156,ntmps156;go_wp2_with fail
 all_goals
  go_ret;refine⟨Qc ?_,by go_grown⟩;simp[QI, *];try omega
def Hx(o:Nat):Int:=if o=5 then 2 else 1
def MO(o:Nat):Int:=if o=5 then 3 else if 8<=o then 1 else 10
def FT(W:v):Prop:= ∀m:Nat,1<=m->m<=10-> ∃s,W.cell? ⟨1,m*3,none⟩=some (j s)/\W.cell? ⟨1,m*3+1,none⟩=some (f g (Hx m))/\W.cell? ⟨1,m*3+2,none⟩=some (f g (MO m))
theorem FT.lt{W:v}(h:FT W):1<W.heap.size:=by
 obtain⟨s,c,_⟩:=h 1 (by omega) (by omega);exact World.block_lt_of_cell? W ⟨1,1*3,none⟩ c
theorem FT.below{W W':v}(h:FT W)(hb:u W.heap.size W W'):FT W':=fun m h1 h2=>by
 obtain⟨s,c0,c1,c2⟩:=h m h1 h2;exact⟨s,(hb.cell (p:=⟨1,_,none⟩) h.lt).trans c0,(hb.cell (p:=⟨1,_,none⟩) h.lt).trans c1,(hb.cell (p:=⟨1,_,none⟩) h.lt).trans c2⟩
theorem Qhp{m n:Nat}(h1:1<=m)(h2:m<=10):GH (m:Int) n=decide (Hx m<=(n:Int)/\(n:Int)<=MO m):=by
 unfold GH Hx MO;by_cases h5:m=5
 ·subst h5;rw[t];simp;omega
 ·have h3: ¬(m:Int)=5:=by omega
  by_cases h8:8<=m
  ·have h0:(8:Int)<=(m:Int)/\(m:Int)<=10:=by omega
   rw[nG h3,pS h0,nG h5,nG h5,pS h8,t];simp;omega
  ·have h0: ¬((8:Int)<=(m:Int)/\(m:Int)<=10):=by omega
   have h7:(1:Int)<=(m:Int)/\(m:Int)<=7:=by omega
   rw[nG h3,nG h0,pS h7,nG h5,nG h5,nG h8,t];simp;omega
theorem Dn{o:Int}{n:Nat}(h:o<1\/10<o):GH o n=false:=by
 unfold GH;rw[nG (by omega),nG (by omega),nG (by omega)]
theorem NU(s:ByteArray)(a b:Int)(n:Nat)(d:Bool)(w:v)(HT:Hid (decide (a<=(n:Int)/\(n:Int)<=b)=d)):z prog 190 #[E #[j s,f g a,f g b],f g n] w fun e w'=>
  e= r (i d)/\u w.heap.size w w':=by
 by_cases h1:a<=(n:Int)
 ·by_cases h2:(n:Int)<=b
  all_goals
   go_enter func190,ntmps190;go_wp2
   go_ret;exact⟨Qc (by rw[<-HT.out,eq_comm];simp;omega),by go_grown⟩
 ·go_enter func190,ntmps190;go_wp2
  all_goals
   go_ret;exact⟨Qc (by rw[<-HT.out,eq_comm];simp;omega),by go_grown⟩
theorem Qei(o ck cn:Int)(cs:ByteArray)(ac ar:Int)(af ag:Bool)(bc br:Int)(bf bg:Bool)(w:v)(hs:cs.size<=y)(hft:FT w):
  z prog 156 #[E #[f g 6,f g o,f g ck,f g cn,j cs,f g ac,f g ar,i af,i ag,f g bc,f g br,i bf,i bg,l KA kl kc]] w fun e w'=>e= r (i (QI 6 o ck cn cs ac ar af ag bc br bf bg kl))/\u w.heap.size w w':=by
 have h0w:=hft.lt;have h7:Hid (FT w):=hft;clear hft;by_cases h1:o<1
 ·have hg:decide (1<=o)=false:=by simp;omega
  have HE:Hid (QI 6 o ck cn cs ac ar af ag bc br bf bg kl=false):=by show QI _ _ _ _ _ _ _ _ _ _ _ _ _ _=_;simp[QI,Dn (Or.inl h1)]
  go_enter func156,ntmps156;go_wp2_with fail
  refine A (S:=(fun w'=>(∀bq oq,bq<w.heap.size+1->w'.cell? ⟨bq,oq,none⟩=(w.alloc (C #[f g 6,f g o,f g ck,f g cn,j cs,f g ac,f g ar,i af,i ag,f g bc,f g br,i bf,i bg,l KA kl kc] 177)).cell? ⟨bq,oq,none⟩)/\w.heap.size+1<=w'.heap.size/\u (w.heap.size+1) (w.alloc (C #[f g 6,f g o,f g ck,f g cn,j cs,f g ac,f g ar,i af,i ag,f g bc,f g br,i bf,i bg,l KA kl kc] 177)) w')) (by kernel_rfl) (QE (by go_size) (by go_grown)) (fun hHeld=> ?_);refine tkA 0 ?_;refine tkB 1 ?_;refine tkA 2 ?_;refine tkB 3 ?_;refine tnA 4 ?_;refine tnB 5 ?_
  refine tnA 6 ?_;refine tkB 7 ?_;refine tkA 8 ?_;refine tnB 9 ?_;refine tnA 10 ?_;refine tnB 11 ?_;refine tnA 12 ?_
  refine tnB 13 ?_;refine tnA 14 ?_;refine tnB 15 ?_;refine tnA 16 ?_;refine tkB 17 ?_;refine tkA 18 ?_;refine tnB 19 ?_
  refine tnA 20 ?_;refine tkB 21 ?_;refine tkB 22 ?_;refine F (by kernel_rfl) ?_ _;go_wp2_with fail
  go_ret;exact⟨Qc HE.out.symm,Yz (n:=1) (X:=(w.alloc (C #[f g 6,f g o,f g ck,f g cn,j cs,f g ac,f g ar,i af,i ag,f g bc,f g br,i bf,i bg,l KA kl kc] 177))) (by go_grown) (by go_grown)⟩
 have hg:1<=o:=by omega
 by_cases h2:10<o
 ·have hh:decide (o<=10)=false:=by simp;omega
  have HE:Hid (QI 6 o ck cn cs ac ar af ag bc br bf bg kl=false):=by show QI _ _ _ _ _ _ _ _ _ _ _ _ _ _=_;simp[QI,Dn (Or.inr h2)]
  go_enter func156,ntmps156;go_wp2_with fail
  refine A (S:=(fun w'=>(∀bq oq,bq<w.heap.size+1->w'.cell? ⟨bq,oq,none⟩=(w.alloc (C #[f g 6,f g o,f g ck,f g cn,j cs,f g ac,f g ar,i af,i ag,f g bc,f g br,i bf,i bg,l KA kl kc] 177)).cell? ⟨bq,oq,none⟩)/\w.heap.size+1<=w'.heap.size/\u (w.heap.size+1) (w.alloc (C #[f g 6,f g o,f g ck,f g cn,j cs,f g ac,f g ar,i af,i ag,f g bc,f g br,i bf,i bg,l KA kl kc] 177)) w')) (by kernel_rfl) (QE (by go_size) (by go_grown)) (fun hHeld=> ?_);refine tkA 0 ?_;refine tkB 1 ?_;refine tkA 2 ?_;refine tkB 3 ?_;refine tkA 4 ?_;refine tkB 5 ?_
  refine tkA 6 ?_;refine tkB 7 ?_;refine tkA 8 ?_;refine tnB 9 ?_;refine tnA 10 ?_;refine tnB 11 ?_;refine tnA 12 ?_
  refine tnB 13 ?_;refine tnA 14 ?_;refine tnB 15 ?_;refine tnA 16 ?_;refine tkB 17 ?_;refine tkA 18 ?_;refine tnB 19 ?_
  refine tnA 20 ?_;refine tkB 21 ?_;refine tkB 22 ?_;refine F (by kernel_rfl) ?_ _;go_wp2_with fail
  go_ret;exact⟨Qc HE.out.symm,Yz (n:=1) (X:=(w.alloc (C #[f g 6,f g o,f g ck,f g cn,j cs,f g ac,f g ar,i af,i ag,f g bc,f g br,i bf,i bg,l KA kl kc] 177))) (by go_grown) (by go_grown)⟩
 obtain⟨m,rfl⟩: ∃m:Nat,o=(m:Int):=⟨o.toNat,by omega⟩;have hh:(m:Int)<=10:=by omega
 have b0:(0:Int)<=(m:Int):=by omega
 have b1:(m:Int)<11:=by omega
 have b2: ¬(m:Int)<1:=by omega
 clear h1 h2;obtain⟨fs,t0,t1,t2⟩:=h7.out m (by omega) (by omega);have h3:1<w.heap.size:=h7.out.lt;have hgl1:1<w.heap.size+1:=Nat.lt_succ_of_lt h3;have hgl2:0<w.heap.size:=Nat.lt_of_le_of_lt (Nat.zero_le _) h3;obtain⟨lo,h4⟩: ∃x,Hid (Hx m=x):=⟨_,rfl⟩;obtain⟨hi,h5⟩: ∃x,Hid (MO m=x):=⟨_,rfl⟩
 rw[h4.out]at t1;rw[h5.out]at t2;cases ht:decide (lo<=(kl:Int)/\(kl:Int)<=hi)
 ·have HT:Hid (decide (lo<=(kl:Int)/\(kl:Int)<=hi)=false):=ht;have HE:Hid (QI 6 m ck cn cs ac ar af ag bc br bf bg kl=false):=by show QI _ _ _ _ _ _ _ _ _ _ _ _ _ _=_;simp only[QI,Qhp (n:=kl) (show 1<=m by omega) (show m<=10 by omega),h4.out,h5.out,ht];rfl
  clear ht;go_enter func156,ntmps156;go_wp2_with fail
  refine A (S:=(fun w'=>(∀bq oq,bq<w.heap.size+1->w'.cell? ⟨bq,oq,none⟩=(w.alloc (C #[f g 6,f g m,f g ck,f g cn,j cs,f g ac,f g ar,i af,i ag,f g bc,f g br,i bf,i bg,l KA kl kc] 177)).cell? ⟨bq,oq,none⟩)/\w.heap.size+1<=w'.heap.size/\u (w.heap.size+1) (w.alloc (C #[f g 6,f g m,f g ck,f g cn,j cs,f g ac,f g ar,i af,i ag,f g bc,f g br,i bf,i bg,l KA kl kc] 177)) w')) (by kernel_rfl) (QE (by go_size) (by go_grown)) (fun hHeld=> ?_);refine tkA 0 ?_;refine tkB 1 ?_;refine tkA 2 ?_;refine tkB 3 ?_;refine tkA 4 ?_;refine tkB 5 ?_
  refine tkA 6 ?_;refine tkB 7 ?_;refine tkA 8 ?_;refine tkB 9 ?_;refine tkA 10 ?_;refine tkB 11 ?_;refine tkA 12 ?_
  refine tkB 13 ?_;refine tkA 14 ?_;refine tkB 15 ?_;refine rqA 16 (fun Kq hKq=> ?_);go_simp
  (refine(NU _ _ _ _ _ _ HT).mono ?_;rintro e w1 ⟨rfl,hb⟩;obtain⟨h0,h6⟩:=Qk (B:=w.heap.size+1) (X:=(w.alloc (C #[f g 6,f g m,f g ck,f g cn,j cs,f g ac,f g ar,i af,i ag,f g bc,f g br,i bf,i bg,l KA kl kc] 177))) (by go_grown) (by go_size) hb;have hC:=fun b o h=>h0.cell (p:=⟨b,o,none⟩) h;clear hb)
  refine hkB hKq (QE (by go_size) (by go_grown)) fun hHeld=> ?_;clear hKq Kq;refine tkA 17 ?_;refine tkB 18 ?_;refine tnA 19 ?_;refine tnB 20 ?_;refine tkA 21 ?_
  refine tkB 22 ?_;refine F (by kernel_rfl) ?_ _;go_wp2_with fail
  go_ret;exact⟨Qc HE.out.symm,Yz (n:=1) (X:=(w.alloc (C #[f g 6,f g m,f g ck,f g cn,j cs,f g ac,f g ar,i af,i ag,f g bc,f g br,i bf,i bg,l KA kl kc] 177))) (by go_grown) (by go_grown)⟩
 ·have HT:Hid (decide (lo<=(kl:Int)/\(kl:Int)<=hi)=true):=ht;have HE:Hid (QI 6 m ck cn cs ac ar af ag bc br bf bg kl=(zV ck cn cs&&zP ac ar af ag&&zP bc br bf bg)):=by show QI _ _ _ _ _ _ _ _ _ _ _ _ _ _=_;simp only[QI,Qhp (n:=kl) (show 1<=m by omega) (show m<=10 by omega),h4.out,h5.out,ht];rfl
  clear ht;go_enter func156,ntmps156;go_wp2_with fail
  refine A (S:=(fun w'=>(∀bq oq,bq<w.heap.size+1->w'.cell? ⟨bq,oq,none⟩=(w.alloc (C #[f g 6,f g m,f g ck,f g cn,j cs,f g ac,f g ar,i af,i ag,f g bc,f g br,i bf,i bg,l KA kl kc] 177)).cell? ⟨bq,oq,none⟩)/\w.heap.size+1<=w'.heap.size/\u (w.heap.size+1) (w.alloc (C #[f g 6,f g m,f g ck,f g cn,j cs,f g ac,f g ar,i af,i ag,f g bc,f g br,i bf,i bg,l KA kl kc] 177)) w')) (by kernel_rfl) (QE (by go_size) (by go_grown)) (fun hHeld=> ?_);refine tkA 0 ?_;refine tkB 1 ?_;refine tkA 2 ?_;refine tkB 3 ?_;refine tkA 4 ?_;refine tkB 5 ?_
  refine tkA 6 ?_;refine tkB 7 ?_;refine tkA 8 ?_;refine tkB 9 ?_;refine tkA 10 ?_;refine tkB 11 ?_;refine tkA 12 ?_
  refine tkB 13 ?_;refine tkA 14 ?_;refine tkB 15 ?_;refine rqA 16 (fun Kq hKq=> ?_);go_simp
  (refine(NU _ _ _ _ _ _ HT).mono ?_;rintro e w1 ⟨rfl,hb⟩;obtain⟨h0,h6⟩:=Qk (B:=w.heap.size+1) (X:=(w.alloc (C #[f g 6,f g m,f g ck,f g cn,j cs,f g ac,f g ar,i af,i ag,f g bc,f g br,i bf,i bg,l KA kl kc] 177))) (by go_grown) (by go_size) hb;have hC:=fun b o h=>h0.cell (p:=⟨b,o,none⟩) h;clear hb)
  refine hkB hKq (QE (by go_size) (by go_grown)) fun hHeld=> ?_;clear hKq Kq;refine tkA 17 ?_;refine tkB 18 ?_;refine tkB 19 ?_;refine rqA 20 (fun Kq hKq=> ?_);go_simp
  (refine(YD _ _ _ _ _ _ _ _ _ _ _ _ _ _).mono ?_;rintro e w1 ⟨rfl,hb⟩;obtain⟨h0,h6⟩:=Qk (B:=w.heap.size+1) (X:=(w.alloc (C #[f g 6,f g m,f g ck,f g cn,j cs,f g ac,f g ar,i af,i ag,f g bc,f g br,i bf,i bg,l KA kl kc] 177))) (by go_grown) (by go_size) hb;have hC:=fun b o h=>h0.cell (p:=⟨b,o,none⟩) h;clear hb)
  refine hkB hKq (QE (by go_size) (by go_grown)) fun hHeld=> ?_;clear hKq Kq;refine tkA 21 ?_;refine tkB 22 ?_;refine F (by kernel_rfl) ?_ _;go_wp2_with fail
  go_ret;exact⟨Qc HE.out.symm,Yz (n:=1) (X:=(w.alloc (C #[f g 6,f g m,f g ck,f g cn,j cs,f g ac,f g ar,i af,i ag,f g bc,f g br,i bf,i bg,l KA kl kc] 177))) (by go_grown) (by go_grown)⟩
theorem Qbv(o:Int)(n:Nat)(w:v):z prog 172 #[f g o,f g n] w fun e w'=>
  e= r (i (GH o n))/\w'=w:=by
 by_cases h:1<=o/\o<=10
 ·obtain⟨m,rfl⟩: ∃m:Nat,o=(m:Int):=⟨o.toNat,by omega⟩;have hm:m=1\/m=2\/m=3\/m=4\/m=5\/m=6\/m=7\/m=8\/m=9\/m=10:=by omega
  rcases hm with rfl | rfl | rfl | rfl | rfl | rfl | rfl | rfl | rfl | rfl
  all_goals
   go_enter func172,ntmps172;go_wp2
   all_goals
    go_ret;exact⟨Qc (by rw[t];simp[GH]<;>omega),rfl⟩
 ·have HE:Hid (GH o n=false):=Dn (by omega);have e1:(o==1)=false:=by simp;omega
  have e2:(o==2)=false:=by simp;omega
  have e3:(o==3)=false:=by simp;omega
  have e4:(o==4)=false:=by simp;omega
  have e5:(o==5)=false:=by simp;omega
  have e6:(o==6)=false:=by simp;omega
  have e7:(o==7)=false:=by simp;omega
  have e8:(o==8)=false:=by simp;omega
  have e9:(o==9)=false:=by simp;omega
  have e10:(o==10)=false:=by simp;omega
  clear h;go_enter func172,ntmps172;go_wp2
  all_goals
   go_ret;exact⟨Qc HE.out.symm,rfl⟩
theorem Qd1(o ck cn:Int)(cs:ByteArray)(ac ar:Int)(af ag:Bool)(bc br:Int)(bf bg:Bool)(w:v)(hs:cs.size<=y):
  z prog 139 #[E #[f g 1,f g o,f g ck,f g cn,j cs,f g ac,f g ar,i af,i ag,f g bc,f g br,i bf,i bg,l KA kl kc]] w fun e w'=>e= r (i (QI 1 o ck cn cs ac ar af ag bc br bf bg kl))/\u w.heap.size w w':=by
 go_enter func139,ntmps139
 go_wp2_with (first
  | (go_at_call 136;refine(Qq _ _ _ _ hs).mono ?_;rintro e w1 ⟨rfl,hb⟩;obtain⟨hc,hf,hC,hF,hz,hk,l0,l1⟩:=bk2 (w:=w) hb;clear hb))
 all_goals
  go_ret;refine⟨Qc ?_,by go_grown⟩;simp[QI,cOk,zP,Qnx, *];try omega
  try (intro _;simp_all)
theorem Qd0(o ck cn:Int)(cs:ByteArray)(ac ar:Int)(af ag:Bool)(bc br:Int)(bf bg:Bool)(w:v)(hs:cs.size<=y):
  z prog 139 #[E #[f g 2,f g o,f g ck,f g cn,j cs,f g ac,f g ar,i af,i ag,f g bc,f g br,i bf,i bg,l KA kl kc]] w fun e w'=>e= r (i (QI 2 o ck cn cs ac ar af ag bc br bf bg kl))/\u w.heap.size w w':=by
 go_enter func139,ntmps139
 go_wp2_with (first
  | (go_at_call 59;refine(Qz _ _ _).mono ?_;rintro e w1 ⟨rfl,hb⟩;obtain⟨hc,hf,hC,hF,hz,hk,l0,l1⟩:=bk2 (w:=w) hb;clear hb))
 all_goals
  go_ret;refine⟨Qc ?_,by go_grown⟩;simp[QI,zP,zV,emp,Qnx, *];try omega
theorem Qdz(o ck cn:Int)(cs:ByteArray)(ac ar:Int)(af ag:Bool)(bc br:Int)(bf bg:Bool)(w:v)(hs:cs.size<=y):
  z prog 139 #[E #[f g 3,f g o,f g ck,f g cn,j cs,f g ac,f g ar,i af,i ag,f g bc,f g br,i bf,i bg,l KA kl kc]] w fun e w'=>e= r (i (QI 3 o ck cn cs ac ar af ag bc br bf bg kl))/\u w.heap.size w w':=by
 go_enter func139,ntmps139
 go_wp2_with (first
  | (go_at_call 62;refine(YH _ _ _ _ _).mono ?_;rintro e w1 ⟨rfl,hb⟩;obtain⟨hc,hf,hC,hF,hz,hk,l0,l1⟩:=bk2 (w:=w) hb;clear hb))
 all_goals
  go_ret;refine⟨Qc ?_,by go_grown⟩;simp[QI,zV,emp,Qnx, *];try omega
theorem Qdy(o ck cn:Int)(cs:ByteArray)(ac ar:Int)(af ag:Bool)(bc br:Int)(bf bg:Bool)(w:v)(hs:cs.size<=y):
  z prog 139 #[E #[f g 4,f g o,f g ck,f g cn,j cs,f g ac,f g ar,i af,i ag,f g bc,f g br,i bf,i bg,l KA kl kc]] w fun e w'=>e= r (i (QI 4 o ck cn cs ac ar af ag bc br bf bg kl))/\u w.heap.size w w':=by
 go_enter func139,ntmps139;go_wp2_with fail
 all_goals
  go_ret;refine⟨Qc ?_,by go_grown⟩;simp[QI,zP,zV,emp,len1, *];try omega
theorem Qdx(o ck cn:Int)(cs:ByteArray)(ac ar:Int)(af ag:Bool)(bc br:Int)(bf bg:Bool)(w:v)(hs:cs.size<=y):
  z prog 139 #[E #[f g 5,f g o,f g ck,f g cn,j cs,f g ac,f g ar,i af,i ag,f g bc,f g br,i bf,i bg,l KA kl kc]] w fun e w'=>e= r (i (QI 5 o ck cn cs ac ar af ag bc br bf bg kl))/\u w.heap.size w w':=by
 go_enter func139,ntmps139
 go_wp2_with (first
  | (go_at_call 102;refine(QG _ _ _ _).mono ?_;rintro e w1 ⟨rfl,rfl⟩))
 all_goals
  go_ret;refine⟨Qc ?_,by go_grown⟩;simp[QI,zP,zV,emp,len2, *];try omega
theorem Qdw(o ck cn:Int)(cs:ByteArray)(ac ar:Int)(af ag:Bool)(bc br:Int)(bf bg:Bool)(w:v)(hs:cs.size<=y):
  z prog 139 #[E #[f g 6,f g o,f g ck,f g cn,j cs,f g ac,f g ar,i af,i ag,f g bc,f g br,i bf,i bg,l KA kl kc]] w fun e w'=>e= r (i (QI 6 o ck cn cs ac ar af ag bc br bf bg kl))/\u w.heap.size w w':=by
 go_enter func139,ntmps139
 go_wp2_with (first
  | (go_at_call 172;refine(Qbv _ _ _).mono ?_;rintro e w1 ⟨rfl,rfl⟩))
 all_goals
  go_ret;refine⟨Qc ?_,by go_grown⟩;simp[QI,zP,zV,emp, *];try omega
theorem Qd2(k:Int)(o ck cn:Int)(cs:ByteArray)(ac ar:Int)(af ag:Bool)(bc br:Int)(bf bg:Bool)(w:v)(hs:cs.size<=y)(h1: ¬k=1)(h2: ¬k=2)(h3: ¬k=3)(h4: ¬k=4)(h5: ¬k=5)(h6: ¬k=6):
  z prog 139 #[E #[f g k,f g o,f g ck,f g cn,j cs,f g ac,f g ar,i af,i ag,f g bc,f g br,i bf,i bg,l KA kl kc]] w fun e w'=>e= r (i (QI k o ck cn cs ac ar af ag bc br bf bg kl))/\u w.heap.size w w':=by
 have e1:(k==1)=false:=by simpa using h1
 have e2:(k==2)=false:=by simpa using h2
 have e3:(k==3)=false:=by simpa using h3
 have e4:(k==4)=false:=by simpa using h4
 have e5:(k==5)=false:=by simpa using h5
 have e6:(k==6)=false:=by simpa using h6
 go_enter func139,ntmps139;go_wp2_with fail
 all_goals
  go_ret;refine⟨Qc ?_,by go_grown⟩;simp[QI, *];try omega
end Go.Proofs.YtomadadmakdkgaaGreatDoor
