import Derived.Test.YtomadadmakdkgaaGreatDoorGzd
import Derived.Deep.RegionHeld3
import Derived.Laws.AppendOwnNone
open Go.Proofs.Tryz
open Go.Value renaming int → f, bool → A, agg → G, slice → L, string → N, tuple → R
open Go.IntKind renaming i64 → i, wrap_i64 → M
open Go.Obj renaming cells → C
open Go.RowKit renaming Below → D
open Nat renaming lt_of_lt_of_le → E, le_add_right → I
open Go.Ending renaming returned → F
open Go renaming World → H, Calls → J, bodyPost_ret → K, results → O
open Bool renaming eq_iff_iff → S
set_option linter.unusedSimpArgs false
set_option linter.unusedVariables false
set_option maxHeartbeats 4000000
namespace Go.Proofs.YtomadadmakdkgaaGreatDoor
open Go.RowKit
variable {n row many o:Int} {p:Nat} {W:H}
def mvI(fix:Bool)(n d:Int):Int:=if fix=true then n else n+d
def opI(n row many:Int):Int:=if row<=n then n+many else n
def clI(n row many other:Int):Int:=if row+many<=n then n-many else if row<=n then other else n
theorem DJ(n m:Int)(w:H)(hm:0<=m)(hm':m<=1000):J prog 125 #[f i n,f i m] w fun e w'=>
  e= F (A (decide (-m<=n/\n<=m)))/\D w.heap.size w w':=by
 go_enter func125,ntmps125;go_wp2
 all_goals
  go_ret;refine⟨Qc ?_,by go_grown⟩;rw[S];simp;try omega
theorem Bh(n:Int)(w:H):J prog 121 #[f i n] w fun e w'=>
  e= F (A (decide (1<=n/\n<=99)))/\D w.heap.size w w':=by
 go_enter func121,ntmps121;go_wp2
 all_goals
  go_ret;refine⟨Qc ?_,by go_grown⟩;rw[S];simp;try omega
theorem EA(c r:Int)(x y:Bool)(d e:Int)(w:H)(hc: -1000<=c/\c<=1000)(hr: -1000<=r/\r<=1000)(hd: -1000<=d/\d<=1000)(he: -1000<=e/\e<=1000):
  J prog 127 #[G #[f i c,f i r,A x,A y],f i d,f i e] w fun z w'=>
  z= F (G #[f i (mvI x c d),f i (mvI y r e),A x,A y])/\D w.heap.size w w':=by
 cases x<;>cases y<;>
 ·go_enter func127,ntmps127;go_wp2
  go_returns
  exact⟨rfl,by go_grown⟩
theorem XV(c r:Int)(x y:Bool)(d e:Int)(w:H)(hc: -1000<=c/\c<=1000)(hr: -1000<=r/\r<=1000)(hd: -1000<=d/\d<=1000)(he: -1000<=e/\e<=1000):
  J prog 141 #[G #[f i c,f i r,A x,A y],f i d,f i e] w fun z w'=>
  z= F (G #[f i (mvI x c d),f i (mvI y r e),A x,A y])/\D w.heap.size w w':=by
 cases x<;>cases y<;>
 ·go_enter func141,ntmps141;go_wp2
  go_returns
  exact⟨rfl,by go_grown⟩
theorem Qqs(h:row<=n):opI n row many=n+many:=by unfold opI;rw[pS h]
theorem Quf(h: ¬row<=n):opI n row many=n:=by unfold opI;rw[nG h]
theorem Qr9(h:row+many<=n):clI n row many o=n-many:=by unfold clI;rw[pS h]
theorem Qvg(h: ¬row+many<=n)(h':row<=n):clI n row many o=o:=by unfold clI;rw[nG h,pS h']
theorem Qvf(h: ¬row+many<=n)(h': ¬row<=n):clI n row many o=n:=by unfold clI;rw[nG h,nG h']
theorem Qgh(c r:Int)(x y:Bool)(row many:Int)(w:H)(hr: -1000<=r/\r<=1000)(hm: -1000<=many/\many<=1000):
  J prog 81 #[G #[f i c,f i r,A x,A y],f i row,f i many] w fun z w'=>
  z= F (G #[f i c,f i (opI r row many),A x,A y])/\D w.heap.size w w':=by
 by_cases h:row<=r
 ·rw[Qqs h];go_enter func81,ntmps81;go_wp2
  go_returns
  exact⟨rfl,by go_grown⟩
 ·rw[Quf h];go_enter func81,ntmps81;go_wp2
  go_returns
  exact⟨rfl,by go_grown⟩
theorem Qhm(c r:Int)(x y:Bool)(row many other:Int)(w:H)(hr: -1000<=r/\r<=1000)(hm: -1000<=many/\many<=1000)(hw: -1000<=row/\row<=1000):
  J prog 86 #[G #[f i c,f i r,A x,A y],f i row,f i many,f i other] w fun z w'=>
  z= F (G #[f i c,f i (clI r row many other),A x,A y])/\D w.heap.size w w':=by
 by_cases h:row+many<=r
 ·rw[Qr9 h];go_enter func86,ntmps86;go_wp2
  go_returns
  exact⟨rfl,by go_grown⟩
 by_cases h':row<=r
 ·rw[Qvg h h'];go_enter func86,ntmps86;go_wp2
  go_returns
  exact⟨rfl,by go_grown⟩
 ·rw[Qvf h h'];go_enter func86,ntmps86;go_wp2
  go_returns
  exact⟨rfl,by go_grown⟩
theorem ZQ(n row many other:Int)(w:H)(hr: -1000<=n/\n<=1000)(hm: -1000<=many/\many<=1000):
  J prog 105 #[f i n,f i row,f i many,A false,f i other] w fun z w'=>
  z= F (f i (opI n row many))/\D w.heap.size w w':=by
 by_cases h:row<=n
 ·rw[Qqs h];have h': ¬n<row:=by omega
  go_enter func105,ntmps105;go_wp2
  go_returns
  exact⟨rfl,by go_grown⟩
 ·rw[Quf h];have h':n<row:=by omega
  go_enter func105,ntmps105;go_wp2
  go_returns
  exact⟨rfl,by go_grown⟩
theorem Zm(n row many other:Int)(w:H)(hr: -1000<=n/\n<=1000)(hm:0<=many/\many<=1000)(hw: -1000<=row/\row<=1000):
  J prog 105 #[f i n,f i row,f i many,A true,f i other] w fun z w'=>
  z= F (f i (clI n row many other))/\D w.heap.size w w':=by
 by_cases h:n<row
 ·rw[Qvf (by omega) (by omega)];go_enter func105,ntmps105;go_wp2
  go_returns
  exact⟨rfl,by go_grown⟩
 by_cases h':n<row+many
 ·rw[Qvg (by omega) (by omega)];go_enter func105,ntmps105;go_wp2
  go_returns
  exact⟨rfl,by go_grown⟩
 ·rw[Qr9 (by omega)];go_enter func105,ntmps105;go_wp2
  go_returns
  exact⟨rfl,by go_grown⟩
theorem Qtn{B q:Nat}{X:H}{d e:Value}(hs:B<=X.heap.size)(hp:p<B)(hq:q<B)(cp:X.cell? ⟨p,0,none⟩=some d)(cq:X.cell? ⟨q,0,none⟩=some e)(h:D B X W):
  W.cell? ⟨p,0,none⟩=some d/\W.cell? ⟨q,0,none⟩=some e/\(∀b o,b<B->W.cell? ⟨b,o,none⟩=X.cell? ⟨b,o,none⟩)/\B<=W.heap.size/\D B X W:=
 ⟨(h.cell (p:=⟨p,0,none⟩) hp).trans cp,(h.cell (p:=⟨q,0,none⟩) hq).trans cq,fun b o hb=>h.cell (p:=⟨b,o,none⟩) hb,Nat.le_trans hs h.size,h⟩
theorem Hz(w:H):J prog 192 #[] w fun e w'=>
  e= F (G #[f i 1,f i 0,f i 4,f i 3,N ⟨#[]⟩,f i 0,f i 0,A false,A false,f i 0,f i 0,A false,A false,L none 0 0])/\D w.heap.size w w':=by
 obtain⟨i0,hi,hz0,hz1,hz2⟩:=info_parts MQ;go_enter func192,ntmps192;go_wp2_with (go_at_call 227;refine(Xp _ _).mono ?_;rintro e w1 ⟨rfl,hb⟩;obtain⟨hc,hf,hC,hF,hz,hk,l0⟩:=bk1 (w:=w) hb;clear hb)
 refine K (v:= G #[f i 1,f i 0,f i 4,f i 3,N ⟨#[]⟩,f i 0,f i 0,A false,A false,f i 0,f i 0,A false,A false,L none 0 0]) ?_ rfl ⟨rfl,by go_grown⟩;simp (maxDischargeDepth:=9) [O,results192,go_sem, *]
theorem Yh(w:H):J prog 140 #[] w fun e w'=>
  e= F (G #[f i 1,f i 0,f i 4,f i 3,N ⟨#[]⟩,f i 0,f i 0,A false,A false,f i 0,f i 0,A false,A false,L none 0 0])/\D w.heap.size w w':=by
 obtain⟨i0,hi,hz0,hz1,hz2⟩:=info_parts MQ;go_enter func140,ntmps140;go_wp2_with (go_at_call 173;refine(GP _ _).mono ?_;rintro e w1 ⟨rfl,hb⟩;obtain⟨hc,hf,hC,hF,hz,hk,l0⟩:=bk1 (w:=w) hb;clear hb)
 refine K (v:= G #[f i 1,f i 0,f i 4,f i 3,N ⟨#[]⟩,f i 0,f i 0,A false,A false,f i 0,f i 0,A false,A false,L none 0 0]) ?_ rfl ⟨rfl,by go_grown⟩;simp (maxDischargeDepth:=9) [O,results140,go_sem, *]
theorem YT(c r:Int)(x y:Bool)(c' r':Int)(x' y':Bool)(d e:Int)(p q:Nat)(w:H)(hp:p<w.heap.size)(hq:q<w.heap.size)(cp:w.cell? ⟨p,0,none⟩=some (f i d))(cq:w.cell? ⟨q,0,none⟩=some (f i e))(hc: -1000<=c/\c<=1000)(hr: -1000<=r/\r<=1000)(hc1: -1000<=c'/\c'<=1000)(hr1: -1000<=r'/\r'<=1000)(hd: -1000<=d/\d<=1000)(he: -1000<=e/\e<=1000):
  J prog 126 #[G #[f i c,f i r,A x,A y],G #[f i c',f i r',A x',A y'],.pointer (some ⟨p,0,none⟩),.pointer (some ⟨q,0,none⟩)] w fun z w'=>
  z= F (R #[G #[f i (mvI x c d),f i (mvI y r e),A x,A y],G #[f i (mvI x' c' d),f i (mvI y' r' e),A x',A y']])/\D w.heap.size w w':=by
 have hx:D w.heap.size w (((w.alloc (C #[f i c,f i r,A x,A y] 126)).alloc (C #[f i c',f i r',A x',A y'] 126))):=by go_grown
 have HX:Hid (D w.heap.size w (((w.alloc (C #[f i c,f i r,A x,A y] 126)).alloc (C #[f i c',f i r',A x',A y'] 126)))):=hx;clear hx;have HP:Hid ((((w.alloc (C #[f i c,f i r,A x,A y] 126)).alloc (C #[f i c',f i r',A x',A y'] 126))).cell? ⟨p,0,none⟩=some (f i d)):=(HX.out.cell (p:=⟨p,0,none⟩) hp).trans cp;have HQ:Hid ((((w.alloc (C #[f i c,f i r,A x,A y] 126)).alloc (C #[f i c',f i r',A x',A y'] 126))).cell? ⟨q,0,none⟩=some (f i e)):=(HX.out.cell (p:=⟨q,0,none⟩) hq).trans cq;have hwr:IntKind.i64.wrap (d-1)=d-1:=by rw[M];omega
 have h1:Hid (p<w.heap.size+2):=E hp (I _ _);have h0:Hid (q<w.heap.size+2):=E hq (I _ _);go_enter func126,ntmps126;go_wp2_with fail
 go_region_held3 (fun w'=>w'.cell? ⟨p,0,none⟩=some (f i d)/\w'.cell? ⟨q,0,none⟩=some (f i e)/\(∀bq oq,bq<w.heap.size+2->w'.cell? ⟨bq,oq,none⟩=(((w.alloc (C #[f i c,f i r,A x,A y] 126)).alloc (C #[f i c',f i r',A x',A y'] 126))).cell? ⟨bq,oq,none⟩)/\w.heap.size+2<=w'.heap.size/\D (w.heap.size+2) (((w.alloc (C #[f i c,f i r,A x,A y] 126)).alloc (C #[f i c',f i r',A x',A y'] 126))) w')
  (exact Qtn (by go_size) h1.out h0.out HP.out HQ.out (by go_grown))
  (first
  | (go_at_call 127;refine(EA _ _ _ _ _ _ _ (by assumption) (by assumption) hd he).mono ?_;rintro e w1 ⟨rfl,hb⟩;obtain⟨hk,hz⟩:=Qk (B:=w.heap.size+2) (X:=(((w.alloc (C #[f i c,f i r,A x,A y] 126)).alloc (C #[f i c',f i r',A x',A y'] 126)))) (by go_grown) (by go_size) hb;obtain⟨hC,hF,hL,hE⟩:=kp hb;(try simp only[World.size_drew]at hC hF hL hE);(try (refine Qs0 (x:=w.heap.size+1+1) ?_ hb.size (fun hq=> ?_);(focus (go_size;done))));(try (refine Qs0 (x:=w.heap.size+1+1+1) ?_ hb.size (fun hq=> ?_);(focus (go_size;done))));clear hb))
 all_goals
  go_wp2_with fail
  refine K (v:= R #[G #[f i (mvI x c d),f i (mvI y r e),A x,A y],G #[f i (mvI x' c' d),f i (mvI y' r' e),A x',A y']]) ?_ rfl ⟨rfl,Yz (n:=2) HX.out (by go_grown)⟩;simp (maxDischargeDepth:=9) [O,results126,go_sem, *]
theorem Qo(c r:Int)(x y:Bool)(c' r':Int)(x' y':Bool)(d e:Int)(p q:Nat)(w:H)(hp:p<w.heap.size)(hq:q<w.heap.size)(cp:w.cell? ⟨p,0,none⟩=some (f i d))(cq:w.cell? ⟨q,0,none⟩=some (f i e))(hc: -1000<=c/\c<=1000)(hr: -1000<=r/\r<=1000)(hc1: -1000<=c'/\c'<=1000)(hr1: -1000<=r'/\r'<=1000)(hd: -1000<=d/\d<=1000)(he: -1000<=e/\e<=1000):
  J prog 123 #[G #[f i c,f i r,A x,A y],G #[f i c',f i r',A x',A y'],.pointer (some ⟨p,0,none⟩),.pointer (some ⟨q,0,none⟩)] w fun z w'=>
  z= F (R #[G #[f i c,f i (opI r d e),A x,A y],G #[f i c',f i (opI r' d e),A x',A y']])/\D w.heap.size w w':=by
 have hx:D w.heap.size w (((w.alloc (C #[f i c,f i r,A x,A y] 126)).alloc (C #[f i c',f i r',A x',A y'] 126))):=by go_grown
 have HX:Hid (D w.heap.size w (((w.alloc (C #[f i c,f i r,A x,A y] 126)).alloc (C #[f i c',f i r',A x',A y'] 126)))):=hx;clear hx;have HP:Hid ((((w.alloc (C #[f i c,f i r,A x,A y] 126)).alloc (C #[f i c',f i r',A x',A y'] 126))).cell? ⟨p,0,none⟩=some (f i d)):=(HX.out.cell (p:=⟨p,0,none⟩) hp).trans cp;have HQ:Hid ((((w.alloc (C #[f i c,f i r,A x,A y] 126)).alloc (C #[f i c',f i r',A x',A y'] 126))).cell? ⟨q,0,none⟩=some (f i e)):=(HX.out.cell (p:=⟨q,0,none⟩) hq).trans cq;have hwr:IntKind.i64.wrap (d-1)=d-1:=by rw[M];omega
 have h1:Hid (p<w.heap.size+2):=E hp (I _ _);have h0:Hid (q<w.heap.size+2):=E hq (I _ _);go_enter func123,ntmps123;go_wp2_with fail
 go_region_held3 (fun w'=>w'.cell? ⟨p,0,none⟩=some (f i d)/\w'.cell? ⟨q,0,none⟩=some (f i e)/\(∀bq oq,bq<w.heap.size+2->w'.cell? ⟨bq,oq,none⟩=(((w.alloc (C #[f i c,f i r,A x,A y] 126)).alloc (C #[f i c',f i r',A x',A y'] 126))).cell? ⟨bq,oq,none⟩)/\w.heap.size+2<=w'.heap.size/\D (w.heap.size+2) (((w.alloc (C #[f i c,f i r,A x,A y] 126)).alloc (C #[f i c',f i r',A x',A y'] 126))) w')
  (exact Qtn (by go_size) h1.out h0.out HP.out HQ.out (by go_grown))
  (first
  | (go_at_call 81;refine(Qgh _ _ _ _ _ _ _ (by assumption) he).mono ?_;rintro e w1 ⟨rfl,hb⟩;obtain⟨hk,hz⟩:=Qk (B:=w.heap.size+2) (X:=(((w.alloc (C #[f i c,f i r,A x,A y] 126)).alloc (C #[f i c',f i r',A x',A y'] 126)))) (by go_grown) (by go_size) hb;obtain⟨hC,hF,hL,hE⟩:=kp hb;(try simp only[World.size_drew]at hC hF hL hE);(try (refine Qs0 (x:=w.heap.size+1+1) ?_ hb.size (fun hq=> ?_);(focus (go_size;done))));(try (refine Qs0 (x:=w.heap.size+1+1+1) ?_ hb.size (fun hq=> ?_);(focus (go_size;done))));clear hb))
 all_goals
  go_wp2_with fail
  refine K (v:= R #[G #[f i c,f i (opI r d e),A x,A y],G #[f i c',f i (opI r' d e),A x',A y']]) ?_ rfl ⟨rfl,Yz (n:=2) HX.out (by go_grown)⟩;simp (maxDischargeDepth:=9) [O,results123,go_sem, *]
theorem Qt(c r:Int)(x y:Bool)(c' r':Int)(x' y':Bool)(d e:Int)(p q:Nat)(w:H)(hp:p<w.heap.size)(hq:q<w.heap.size)(cp:w.cell? ⟨p,0,none⟩=some (f i d))(cq:w.cell? ⟨q,0,none⟩=some (f i e))(hc: -1000<=c/\c<=1000)(hr: -1000<=r/\r<=1000)(hc1: -1000<=c'/\c'<=1000)(hr1: -1000<=r'/\r'<=1000)(hd: -1000<=d/\d<=1000)(he: -1000<=e/\e<=1000):
  J prog 124 #[G #[f i c,f i r,A x,A y],G #[f i c',f i r',A x',A y'],.pointer (some ⟨p,0,none⟩),.pointer (some ⟨q,0,none⟩)] w fun z w'=>
  z= F (R #[G #[f i c,f i (clI r d e d),A x,A y],G #[f i c',f i (clI r' d e (d-1)),A x',A y']])/\D w.heap.size w w':=by
 have hx:D w.heap.size w (((w.alloc (C #[f i c,f i r,A x,A y] 126)).alloc (C #[f i c',f i r',A x',A y'] 126))):=by go_grown
 have HX:Hid (D w.heap.size w (((w.alloc (C #[f i c,f i r,A x,A y] 126)).alloc (C #[f i c',f i r',A x',A y'] 126)))):=hx;clear hx;have HP:Hid ((((w.alloc (C #[f i c,f i r,A x,A y] 126)).alloc (C #[f i c',f i r',A x',A y'] 126))).cell? ⟨p,0,none⟩=some (f i d)):=(HX.out.cell (p:=⟨p,0,none⟩) hp).trans cp;have HQ:Hid ((((w.alloc (C #[f i c,f i r,A x,A y] 126)).alloc (C #[f i c',f i r',A x',A y'] 126))).cell? ⟨q,0,none⟩=some (f i e)):=(HX.out.cell (p:=⟨q,0,none⟩) hq).trans cq;have hwr:IntKind.i64.wrap (d-1)=d-1:=by rw[M];omega
 have h1:Hid (p<w.heap.size+2):=E hp (I _ _);have h0:Hid (q<w.heap.size+2):=E hq (I _ _);go_enter func124,ntmps124;go_wp2_with fail
 go_region_held3 (fun w'=>w'.cell? ⟨p,0,none⟩=some (f i d)/\w'.cell? ⟨q,0,none⟩=some (f i e)/\(∀bq oq,bq<w.heap.size+2->w'.cell? ⟨bq,oq,none⟩=(((w.alloc (C #[f i c,f i r,A x,A y] 126)).alloc (C #[f i c',f i r',A x',A y'] 126))).cell? ⟨bq,oq,none⟩)/\w.heap.size+2<=w'.heap.size/\D (w.heap.size+2) (((w.alloc (C #[f i c,f i r,A x,A y] 126)).alloc (C #[f i c',f i r',A x',A y'] 126))) w')
  (exact Qtn (by go_size) h1.out h0.out HP.out HQ.out (by go_grown))
  (first
  | (go_at_call 86;refine(Qhm _ _ _ _ _ _ _ _ (by assumption) he hd).mono ?_;rintro e w1 ⟨rfl,hb⟩;obtain⟨hk,hz⟩:=Qk (B:=w.heap.size+2) (X:=(((w.alloc (C #[f i c,f i r,A x,A y] 126)).alloc (C #[f i c',f i r',A x',A y'] 126)))) (by go_grown) (by go_size) hb;obtain⟨hC,hF,hL,hE⟩:=kp hb;(try simp only[World.size_drew]at hC hF hL hE);(try (refine Qs0 (x:=w.heap.size+1+1) ?_ hb.size (fun hq=> ?_);(focus (go_size;done))));(try (refine Qs0 (x:=w.heap.size+1+1+1) ?_ hb.size (fun hq=> ?_);(focus (go_size;done))));clear hb))
 all_goals
  go_wp2_with fail
  refine K (v:= R #[G #[f i c,f i (clI r d e d),A x,A y],G #[f i c',f i (clI r' d e (d-1)),A x',A y']]) ?_ rfl ⟨rfl,Yz (n:=2) HX.out (by go_grown)⟩;simp (maxDischargeDepth:=9) [O,results124,go_sem, *]
theorem Uw{w:H}{v:Value}(hb:D w.heap.size w W)(hp:p<w.heap.size)(c:w.cell? ⟨p,0,none⟩=some v):W.cell? ⟨p,0,none⟩=some v:=(hb.cell (p:=⟨p,0,none⟩) hp).trans c
theorem ltB{w:H}(hb:D w.heap.size w W)(hp:p<w.heap.size):p<W.heap.size:=E hp hb.size
theorem YV(a b c d:Int)(t:Bool)(w:H)(h:Ql a b c d=t):J prog 187 #[G #[f i a,f i b,f i c,f i d]] w fun e w'=>
  e= F (A t)/\D w.heap.size w w':=(YJ a b c d w).mono fun _ _ g=>⟨by rw[g.1,h],g.2⟩
theorem Vb{ops:Array Oper}{rest:List Oper}{o:Oper}{a:Act}{Q:Exit->Act->H->Prop}(w:H)(hgd:o.guard=none)(s x:Operand)
  (ho:o.op= .call {callee:= .builtin .append,args:= #[s,x],argTypes:= #[161,161]}) (v:Value) (hs:a.eval s=v) (base:Nat) (hb:base<=w.heap.size) (hown:w.ownsRow base 2 1 v 0 [])
  {KA:Option Addr} {kc:Nat} {l:List Int} (hx:a.eval x= L KA l.length kc) (h0:KA=none->kc=0) (hi:IntRow w KA l) (hn:l.length<=1048576)
  (h: ∀KB kb w',w'.ownsRow base 2 1 (L KB l.length kb) l.length (l.map (Value.int .i64))->w.grownBy w' v.ownBlock->wpList prog ops Q rest (a.put o.dst (L KB l.length kb)) w'):wpList prog ops Q (o::rest) a w:=by
 obtain⟨i0,h2,h5,h4,h3⟩:=info_parts Qah;cases KA with
 | none=>
  have hk:=h0 rfl;subst hk
  have hl:l= []:=by
   cases l with
   | nil=>rfl
   | cons y ys=>obtain⟨b,o',e,_⟩:=hi.2 0 (by simp);cases e
  subst hl;obtain⟨A',cap',rfl,_,_⟩:=Qr hown;exact wpList_append_own_none hgd s x 161 ho base 2 i0 1 underlying161 h2 _ 0 [] hs hown hx (h _ _ w hown (World.grownBy.refl _ _))
 | some ad=>
  refine wpList_append_own w hgd s x 161 ho base 2 i0 (f i 0) 1 8 underlying161 h2 h5 h4 h3 rfl (by decide) v 0 [] hs hown ad l.length kc (l.map (Value.int .i64)) hx (by simp) ?_ ?_ ?_ ?_ hb ?_
  ·intro j u hj
   have h1:j<l.length:=by
    have:=(List.getElem?_eq_some_iff.1 hj).1;simpa using this
   obtain⟨b,o',e,_,c⟩:=hi.2 j h1;cases e
   rw[Qnu l j h1]at hj;cases hj
   have ea:(⟨b,o',none⟩:Addr).add j=⟨b,o'+j,none⟩:=by
    unfold Addr.add;split
    ·rename_i hj0;subst hj0;rfl
    ·rfl
   rw[ea];exact c
  ·intro u hu;obtain⟨z,_,rfl⟩:=List.mem_map.1 hu;rfl
  ·unfold maxLen;omega
  ·omega
  ·intro v' w' ho' hg' _;rw[Nat.zero_add,List.nil_append]at ho';obtain⟨KB,kb,rfl,_,_⟩:=Qr ho';exact h KB kb w' ho' hg'
theorem GK(k:Int)(o ck cn:Int)(cs:ByteArray)(ac ar:Int)(af ag:Bool)(bc br:Int)(bf bg:Bool){KA:Option Addr}{kc:Nat}{l:List Int}(fv:Value)(w:H)(h2:k≠2)(h3:k≠3)(h0:KA=none->kc=0)(hi:IntRow w KA l)(hn:l.length<=1048576):
  J prog 160 #[G #[f i k,f i o,f i ck,f i cn,N cs,f i ac,f i ar,A af,A ag,f i bc,f i br,A bf,A bg,L KA l.length kc],fv] w fun z w'=> ∃KB kb,z= F (G #[f i k,f i o,f i ck,f i cn,N cs,f i ac,f i ar,A af,A ag,f i bc,f i br,A bf,A bg,L KB l.length kb])/\w'.ownsRow w.heap.size 2 1 (L KB l.length kb) l.length (l.map (Value.int .i64))/\D w.heap.size w w':=by
 have HI:Hid (IntRow w KA l):=hi;have HN:Hid (l.length<=1048576):=hn;have HK:Hid (KA=none->kc=0):=h0;clear hi hn h0;have e2:(k==2)=false:=by simpa using h2
 have e3:(k==3)=false:=by simpa using h3
 go_enter func160,ntmps160;go_wp2_with (at_builtin;refine Vb _ rfl _ _ rfl (L none 0 0) rfl (w.heap.size+2) ?kb ?kn rfl HK.out ?ki HN.out ?_)
 case kb=>go_size
 case kn=>exact⟨rfl,Or.inl ⟨rfl,rfl⟩⟩
 case ki=>exact HI.out.below (by go_grown)
 intro KB kb w9 hown hgrow;have HO:Hid (w9.ownsRow (w.heap.size+2) 2 1 (L KB l.length kb) l.length (l.map (Value.int .i64))):=hown;have hb:=(Below.refl _ _).grown hgrow (Nat.le_refl _) (fun k hk=>by cases hk);obtain⟨hc9,hf9,hC9,hF9,hz9,hk9,m0,m1⟩:=bk2 (w:=w) hb;clear hgrow hb hown;go_wp2_with fail
 refine K (v:= G #[f i k,f i o,f i ck,f i cn,N cs,f i ac,f i ar,A af,A ag,f i bc,f i br,A bf,A bg,L KB l.length kb]) ?_ rfl ⟨_,_,rfl,?_,by go_grown⟩
 ·simp (maxDischargeDepth:=9) [O,results160,go_sem, *]
 ·refine QU (B:=w.heap.size+2) ?_ (by omega);repeat (refine ownsRow_setCell_below ?_ (by simp) _)
  exact HO.out
end Go.Proofs.YtomadadmakdkgaaGreatDoor
