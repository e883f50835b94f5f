import Derived.Test.YtomadadmakdkgaaGreatDoorMn
import Derived.Test.YtomadadmakdkgaaGreatDoorQf
import Derived.Test.YtomadadmakdkgaaGreatDoorQj
import Derived.Test.YtomadadmakdkgaaGreatDoorGbe
import Derived.Test.YtomadadmakdkgaaGreatDoorGzw
import Derived.Test.YtomadadmakdkgaaGreatDoorQb
open Go.Proofs.Tryz
open Go.Value renaming int → l, slice → H, string → I, bool → M, tuple → N, agg → U
open Go.IntKind renaming i64 → u
open Go renaming bodyPost_ret → y, results → J, ownsRow_setCell_other → K
open Go.RowKit renaming Below → G
open Go.ByteArray renaming toList_eq → O
open Go.Obj renaming cells → Q
open Go.Ending renaming returned → T
set_option linter.unusedSimpArgs false
set_option linter.unusedVariables false
set_option maxHeartbeats 8000000
set_option maxRecDepth 100000
namespace Go.Proofs.YtomadadmakdkgaaGreatDoor
open Go.RowKit Go.Maps
variable {d e:Int} {C R:Nat->Int} {S:Nat->ByteArray} {k n cap:Nat} {A:Option Addr} {f g:Xy} {s t:ByteArray} {cl:Bool} {E:List CL}
theorem Qyj(h:inR d e (R k)=true):rwP true d e (clE C R S (k+1))=rwP true d e (clE C R S k):=by rw[Qcf,h];simp
theorem Qx2(d e r:Int)(w:World)(hdq:1<=d/\d<=99)(he:1<=e/\e<=99):Calls prog 85 #[U #[l u d,l u e],l u r] w fun z w'=>
  z= T (M (inR d e r))/\G w.heap.size w w':=by
 unfold inR;by_cases h1:d<=r
 ·rw[decide_eq_true h1];by_cases h2:r<d+e
  ·rw[decide_eq_true h2];go_enter func85,ntmps85;go_wp2
   go_returns
   exact⟨rfl,by go_grown⟩
  ·rw[decide_eq_false h2];go_enter func85,ntmps85;go_wp2
   go_returns
   exact⟨rfl,by go_grown⟩
 ·rw[decide_eq_false h1];go_enter func85,ntmps85;go_wp2
  go_returns
  exact⟨rfl,by go_grown⟩
theorem Qmv(w:World)(h:ClRow w A n C R S)(hok:QA C R S n=true)(hg:GI w)(hk:Yf d e=true):
  Calls prog 55 #[U #[l u d,l u e],H A n cap] w fun z w'=> ∃(B m:Nat) (D:DataW Value),z= T (.map (some B))/\w.heap.size<=B/\w'.ownsMap prog 26 YM B m D/\CmD D (rwP true d e (clE C R S n))/\G w.heap.size w w':=by
 have HR:Hid (ClRow w A n C R S):=h;have H8:Hid (QA C R S n=true):=hok;have HG:Hid (GI w):=hg;have HK:Hid (Yf d e=true):=hk;unfold Yf at hk;simp only[Bool.and_eq_true,decide_eq_true_eq]at hk;obtain⟨h120,H2,H1⟩:=Yj hok
 have H7:Hid (∀i,i<n->Qf (C i) (R i)=true):=H2;have g6:Hid ((clE C R S n).Pairwise (fun a b=>ltC a b=true)):=H1;clear h hok hg H2 H1;have hmm:= @run_makeMap prog;go_enter func55,ntmps55;go_wp2_with fail
 obtain⟨X,HX⟩: ∃X,Hid (w.alloc (Q #[l u d,l u e] 102)=X):=⟨_,rfl⟩;rw[HX.out];have ZX:Hid (X.heap.size=w.heap.size+1):=by show _=_;rw[<-HX.out];simp
 have x0:X.cell? ⟨w.heap.size,0,none⟩=some (l u d):=by rw[<-HX.out];go_simp
 have x1:X.cell? ⟨w.heap.size,1,none⟩=some (l u e):=by rw[<-HX.out];go_simp
 have KX:Hid (G w.heap.size w X):=by rw[<-HX.out];show G _ _ _;go_grown
 have RX:=hd (HR.out.below KX.out);have GX:=hd (HG.out.below KX.out);clear HX HR HG;have g3:Hid (X.cell? ⟨w.heap.size,0,none⟩=some (l u d)/\X.cell? ⟨w.heap.size,1,none⟩=some (l u e)):=⟨x0,x1⟩;clear x0 x1;go_loopw [12] (fun i wr=> ∃(k m:Nat) (D:DataW Value),k<=n/\i= l u k/\m<=k/\wr.ownsMap prog 26 YM (w.heap.size+1) m D/\CmD D (rwP true d e (clE C R S k))/\G X.heap.size X wr) (fun i _=>n-(intOf i).toNat)
 case atStart=>exact⟨0,0,_,Nat.zero_le _,rfl,Nat.le_refl _,(by have h9:=World.ownsMap_made X prog 26 YM;rw[ZX.out]at h9;exact h9),CmD.nil,by go_grown⟩
 case round=>
  obtain⟨k,m,D,hkn,rfl,hm,h4,H4,h2⟩:=hrel;have HW:Hid (wr.ownsMap prog 26 YM (w.heap.size+1) m D):=h4;have HC:Hid (CmD D (rwP true d e (clE C R S k))):=H4;have HB:Hid (G X.heap.size X wr):=h2;clear h4 H4;by_cases h3:k<n
  ·obtain⟨br,o,rfl,hl,c0,c1,c2,_⟩:=RX.out.2 k h3;obtain⟨y0,y1⟩:=g3.out;have hs:=h2.size;have zX:w.heap.size<X.heap.size:=by have:=ZX.out;omega
   have zr:w.heap.size<wr.heap.size:=by omega
   replace c0:=Qe h2 hl c0;replace c1:=Qe h2 hl c1;replace c2:=Qe h2 hl c2;replace y0:=Qe h2 (by omega) y0;replace y1:=Qe h2 (by omega) y1;clear h2;have hl2:br<wr.heap.size:=Nat.lt_of_lt_of_le hl hs
   have h0:(0:Int)<=(k:Int):=by omega
   have h1:(k:Int)<(n:Int):=by omega
   have g5:Hid (1<=C k/\C k<=52/\1<=R k/\R k<=99):=by have h9:=H7.out k h3;unfold Qf at h9;have h8:=of_decide_eq_true h9;exact h8
   obtain⟨kl,H3⟩:=Qyd (cl:=true) (H7.out k h3) HK.out;have H9:Hid (keyOf prog 26 (U #[l u (C k),l u (clI (R k) d e d)])=some kl):=H3;clear H3;go_wp2_with fail
   refine(Qx2 d e (R k) _ (by omega) (by omega)).mono ?_;rintro z wh ⟨rfl,hb⟩;have zh:wr.heap.size<wh.heap.size:=Nat.lt_of_lt_of_le (by go_size) hb.size;have d0:wh.cell? ⟨wr.heap.size,0,none⟩=some (l u (C k)):=Qe hb (by go_size) (by go_simp);have d3:wh.cell? ⟨wr.heap.size,1,none⟩=some (l u (R k)):=Qe hb (by go_size) (by go_simp);have d1:wh.cell? ⟨wr.heap.size,2,none⟩=some (I (S k)):=Qe hb (by go_size) (by go_simp);replace y0:wh.cell? ⟨w.heap.size,0,none⟩=some (l u d):=Qe hb (by go_size) (by go_simp)
   replace y1:wh.cell? ⟨w.heap.size,1,none⟩=some (l u e):=Qe hb (by go_size) (by go_simp);have h6:Hid (wh.ownsMap prog 26 YM (w.heap.size+1) m D):=Vp (HW.out.alloc _) hb;have H0:Hid (G X.heap.size X wh):=(HB.out.alloc hs _).trans (hb.mono (by go_size));clear hb c0 c1 c2 HW HB;cases hin:inR d e (R k)
   rotate_left
   ·have h7:Hid (rwP true d e (clE C R S (k+1))=rwP true d e (clE C R S k)):=Qyj hin;go_wp2_with fail
    go_roundw
    case rel=>exact⟨k+1,m,D,by omega,by go_num,by omega,h6.out,by rw[h7.out];exact HC.out,H0.out⟩
    case measure=>simp[intOf];omega
   have g0:Hid (inR d e (R k)=false):=hin;clear hin;have z9:wh.heap.size<=wh.heap.size:=Nat.le_refl _;go_wp2_with fail
   refine(Qhm (C k) (R k) false false d e d _ (by have:=g5.out;omega) (by omega) (by omega)).mono ?_;rintro z w1 ⟨rfl,hb⟩;have zw:=hb.size;have z1:wr.heap.size<w1.heap.size:=Nat.lt_of_lt_of_le zh hb.size;replace d1:=Qe hb (by omega) d1;replace y0:=Qe hb (by omega) y0;replace y1:=Qe hb (by omega) y1
   have H6:Hid (w1.ownsMap prog 26 YM (w.heap.size+1) m D):=Vp h6.out hb;have g2:=hd (Qb H0.out hb);clear hb h6 H0 d0 d3;go_upto_region 7 with fail
   obtain⟨Y,HY⟩: ∃Y,Hid (w1.alloc (Q #[l u (C k),l u (clI (R k) d e d),M false,M false] 126)=Y):=⟨_,rfl⟩;rw[HY.out];have KY:Hid (G w1.heap.size w1 Y):=by rw[<-HY.out];show G _ _ _;go_grown
   have ZY:Hid (Y.heap.size=w1.heap.size+1):=by show _=_;rw[<-HY.out];simp
   have u0:Y.cell? ⟨w1.heap.size,0,none⟩=some (l u (C k)):=by rw[<-HY.out];go_simp
   have u1:Y.cell? ⟨w1.heap.size,1,none⟩=some (l u (clI (R k) d e d)):=by rw[<-HY.out];go_simp
   replace d1:Y.cell? ⟨wr.heap.size,2,none⟩=some (I (S k)):=Qe KY.out z1 d1;replace y0:Y.cell? ⟨w.heap.size,0,none⟩=some (l u d):=Qe KY.out (by omega) y0;replace y1:Y.cell? ⟨w.heap.size,1,none⟩=some (l u e):=Qe KY.out (by omega) y1;have H5:Hid (Y.ownsMap prog 26 YM (w.heap.size+1) m D):=Vp H6.out KY.out;have g1:=hd (Qb g2.out KY.out);have zY:w1.heap.size<Y.heap.size:=by have:=ZY.out;omega
   have GY:=hd (GX.out.below g1.out);have g4:Hid ((S k).size<=200):=(JF H8.out h3).1;have g7:Hid ((rwS (Zi d e) (Zh d e) (S k)).toList.isEmpty=false):=Qfe (JF H8.out h3).2;have lw:w.heap.size<Y.heap.size:=by omega
   have lr:wr.heap.size<Y.heap.size:=by omega
   clear HY KY H6 g2;obtain⟨g,g8⟩: ∃g,Hid (w1.heap.size=g):=⟨_,rfl⟩;rw[g8.out]at u0 u1 zY ⊢
   go_region_with (first
    | (go_at_call 82;refine(Qqe d e w.heap.size _ g4.out (by go_size) (by go_simp) (by go_simp) (GY.out.below (by go_grown)) HK.out).mono ?_;rintro z wy ⟨rfl,hb⟩;obtain⟨h5,hz1⟩:=Qk (B:=Y.heap.size) (X:=Y) (by go_grown) (by go_size) hb;have v0:=Qe h5 zY u0;have v1:=Qe h5 zY u1;have MY:Hid (wy.ownsMap prog 26 YM (w.heap.size+1) m D):=Vp H5.out h5;have BY:Hid (G X.heap.size X wy):=Qb g1.out h5;clear hb h5)
    | (go_at_call 79;refine(Qcx (B:=X.heap.size) _ (Vp MY.out (by go_grown)) (by have:=ZX.out;omega) (by omega) H9.out).mono ?_;rintro z wz ⟨rfl,⟨m',hm',ho⟩,hb⟩;rw[nG (by rw[g7.out];decide)]at ho;have MZ:Hid (wz.ownsMap prog 26 YM (w.heap.size+1) m' (D.put kl (.held (U #[l u (C k),l u (clI (R k) d e d),I (rwS (Zi d e) (Zh d e) (S k))])))):=ho;have BZ:Hid (G X.heap.size X wz):=(Qb BY.out (by go_grown)).trans hb;clear ho hb))
   all_goals
    have h7:Hid (rwP true d e (clE C R S (k+1))=rwP true d e (clE C R S k)++ [mvC true d e ⟨C k,R k,S k⟩]):=by show _=_;rw[Qcf,g0.out];rfl
    have C2:CmD (D.put kl (.held (U #[l u (C k),l u (clI (R k) d e d),I (rwS (Zi d e) (Zh d e) (S k))]))) (rwP true d e (clE C R S (k+1))):=by
     have h9:=HC.out.on H5.out.isMap (x:=mvC true d e ⟨C k,R k,S k⟩) H9.out;rw[h7.out];have h8:=Qne (cl:=true) (d:=d) g6.out (by omega) h3 (e:=e) (by rw[g0.out];rfl);rw[show(mvC true d e ⟨C k,R k,S k⟩).c=C k from rfl,show(mvC true d e ⟨C k,R k,S k⟩).r=rI true (R k) d e from rfl,h8]at h9;exact h9
    go_wp2_with fail
    go_roundw
    case rel=>exact⟨k+1,m',_,by omega,by go_num,by omega,MZ.out,C2,BZ.out⟩
    case measure=>simp[intOf];omega
  ·have h1: ¬(k:Int)<(n:Int):=by omega
   obtain rfl:k=n:=by omega
   go_wp2_with fail
   refine y (v:= .map (some (w.heap.size+1))) ?_ rfl ⟨w.heap.size+1,rfl,by omega,m,D,HW.out,HC.out,Qb KX.out HB.out⟩;simp (maxDischargeDepth:=9) [J,results55,go_sem, *]
def sEq(t:ByteArray):ByteArray:=if 0<t.size/\t.size+1<=200 then(⟨#[61]⟩:ByteArray)++t else⟨#[]⟩
def rwX(f g:Xy)(s:ByteArray):ByteArray:=match lnF s with
 | none=>s
 | some o=>sEq (rwT f g o)
theorem Qfc(h:lnF s=none):rwX f g s=s:=by unfold rwX;rw[h]
theorem ES{o:List FN}(h:lnF s=some o):rwX f g s=sEq (ftx (fun i=>QB f g (ouF o i)) o.length):=by unfold rwX;rw[h];rfl
theorem MI(h:rwB f g s=true):rwX f g s=rwS f g s:=by
 unfold rwX rwS;unfold rwB at h;cases hl:lnF s with
 | none=>rfl
 | some o=>
  rw[hl]at h;simp only at h ⊢;unfold sEq;rw[pS (of_decide_eq_true h)]
theorem Qfd(hs:s.toList.isEmpty=false):(rwX f g s).toList.isEmpty= !rwB f g s:=by
 unfold rwX rwB;cases hl:lnF s with
 | none=>rw[hs];rfl
 | some o=>
  simp only;unfold sEq;by_cases h:0<(rwT f g o).size/\(rwT f g o).size+1<=200
  ·rw[pS h,decide_eq_true h,Qoq (by rw[Oc];omega)];rfl
  ·rw[nG h,decide_eq_false h,O];rfl
theorem Qpr(h:t.toList.isEmpty=true):sEq t=⟨#[]⟩:=by
 unfold sEq;rw[nG];intro h9;rw[Qoq h9.1]at h;cases h
theorem Qpq(h:200<t.size+1):sEq t=⟨#[]⟩:=by unfold sEq;rw[nG (by omega)]
theorem Qpp(h:t.toList.isEmpty=false)(h2:t.size+1<=200):sEq t=(⟨#[61]⟩:ByteArray)++t:=by
 unfold sEq;rw[pS];refine⟨?_,h2⟩;rcases Nat.eq_zero_or_pos t.size with e | e
 ·rw[Za e,O]at h;cases h
 ·exact e
theorem Js{F:Nat->FN}(w:World)(h:FnRow w A n F)(hn:n<=1048576)(hkn: ∀i,i<n->(F i).kids.length<=1048576):
  Calls prog 107 #[H A n cap,M true] w fun z w'=>z= T (I (sEq (ftx F n)))/\G w.heap.size w w':=by
 have HR:Hid (FnRow w A n F):=h;have h3:Hid (∀i,i<n->(F i).kids.length<=1048576):=hkn;clear h hkn;go_enter func107,ntmps107;go_wp2_with fail
 refine(Xi _ HR.out hn h3.out).mono ?_;rintro z w1 ⟨rfl,hb⟩;have K1:Hid (G w.heap.size w w1):=hb;have h2:=KH F n;clear hb;obtain⟨t,HT⟩: ∃t,Hid (ftx F n=t):=⟨_,rfl⟩;rw[HT.out]at h2 ⊢
 obtain⟨d0,h0⟩: ∃d0:Bool,Hid (t.toList.isEmpty=d0):=⟨_,rfl⟩;have hd0:=h0.out;cases d0
 rotate_left
 ·have HV:Hid (sEq t=⟨#[]⟩):=Qpr h0.out;go_wp2_with fail
  refine y (v:= I ⟨#[]⟩) ?_ rfl ⟨by rw[HT.out,HV.out],K1.out⟩;simp (maxDischargeDepth:=9) [J,results107,go_sem, *]
 by_cases hz:200<t.size+1
 ·have HV:Hid (sEq t=⟨#[]⟩):=Qpq hz;have h1:(200:Int)<(t.size:Int)+1:=by omega
  go_wp2_with fail
  refine y (v:= I ⟨#[]⟩) ?_ rfl ⟨by rw[HT.out,HV.out],K1.out⟩;simp (maxDischargeDepth:=9) [J,results107,go_sem, *]
 ·have HV:Hid (sEq t=(⟨#[61]⟩:ByteArray)++t):=Qpp h0.out (by omega);have h1: ¬(200:Int)<(t.size:Int)+1:=by omega
  go_wp2_with fail
  refine y (v:= I ((⟨#[61]⟩:ByteArray)++t)) ?_ rfl ⟨by rw[HT.out,HV.out],K1.out⟩;simp (maxDischargeDepth:=9) [J,results107,go_sem, *]
theorem Qpw(h:inR d e (R k)=true):rwP true d e (clE C R S (k+1))=rwP true d e (clE C R S k):=by rw[Qcf,h];simp
theorem Qtt(h:inR d e (R k)=true):rwG true d e (clE C R S (k+1))=rwG true d e (clE C R S k):=by rw[Qcg,h];simp
theorem Nw(h:(cl&&inR d e (R k))=false):rwP cl d e (clE C R S (k+1))=rwP cl d e (clE C R S k)++ [mvC cl d e ⟨C k,R k,S k⟩]:=by rw[Qcf,h];simp
theorem Nx(h:(cl&&inR d e (R k))=false):rwG cl d e (clE C R S (k+1))=(rwG cl d e (clE C R S k)&&(Qf (C k) (rI cl (R k) d e)&&rwB (rF cl d e) (rG cl d e) (S k))):=by rw[Qcg,h];simp
def rwO(cl:Bool)(d e:Int)(E:List CL):Option (List CL):=if Yf d e=true then(if rwG cl d e E=true then some (rwP cl d e E)else none)else none
theorem Qf5(h:Yf d e=false):rwO cl d e E=none:=by unfold rwO;rw[nG (by rw[h];decide)]
theorem Jw(h:rwG cl d e E=false):rwO cl d e E=none:=by unfold rwO;split;rw[nG (by rw[h];decide)];rfl
theorem Qf4(h:Yf d e=true)(h2:rwG cl d e E=true):rwO cl d e E=some (rwP cl d e E):=by unfold rwO;rw[pS h,pS h2]
theorem Qsy{r:Int}:decide (d<=r/\r<=d+e-1)=inR d e r:=by
 unfold inR;rw[Bool.eq_iff_iff];simp;omega
theorem Qr8{r o:Int}(h:inR d e r=false):clI r d e o=clI r d e d:=by
 unfold inR at h;rw[Bool.and_eq_false_iff,decide_eq_false_iff_not,decide_eq_false_iff_not]at h;unfold clI;split
 ·rfl
 ·split
  ·omega
  ·rfl
theorem Er{ea eb x1 x2 x3 x4:Int}{et:ByteArray}(w:World)(h:ClRow w A n C R S)(hok:QA C R S n=true):
  Calls prog 64 #[H A n cap,U #[l u 3,l u ea,l u eb,I et,l u x1,l u x2,l u x3,l u x4,l u d,l u e]] w fun z w'=>EnR w.heap.size w' (rwO false d e (clE C R S n)) z/\G w.heap.size w w':=by
 have HR:Hid (ClRow w A n C R S):=h;have g9:Hid (QA C R S n=true):=hok;obtain⟨h120,g7,G0⟩:=Yj hok;have G9:Hid (∀i,i<n->Qf (C i) (R i)=true):=g7;clear h hok g7 G0;obtain⟨ko,H7⟩: ∃ko,Hid (Yf d e=ko):=⟨_,rfl⟩;go_enter func64,ntmps64
 go_wp2_with fail
 obtain⟨X,HX⟩: ∃X,Hid (w.alloc (Q #[l u 3,l u ea,l u eb,I et,l u x1,l u x2,l u x3,l u x4,l u d,l u e] 30)=X):=⟨_,rfl⟩;rw[HX.out];have x0:X.cell? ⟨w.heap.size,0,none⟩=some (l u 3):=by rw[<-HX.out];go_simp
 have x8:X.cell? ⟨w.heap.size,8,none⟩=some (l u d):=by rw[<-HX.out];go_simp
 have x9:X.cell? ⟨w.heap.size,9,none⟩=some (l u e):=by rw[<-HX.out];go_simp
 have zX:w.heap.size<X.heap.size:=by rw[<-HX.out];simp
 have KX:Hid (G w.heap.size w X):=by rw[<-HX.out];show G _ _ _;go_grown
 have RX:=hd (HR.out.below KX.out);clear HX HR;refine(Mm d e X).mono ?_;rintro z wl ⟨rfl,hwl⟩;subst wl;rw[H7.out];cases ko
 ·have HV:Hid (rwO false d e (clE C R S n)=none):=Qf5 H7.out;go_wp2_with fail
  refine y (v:= N #[H none 0 0,M false]) ?_ rfl ⟨?_,KX.out⟩
  ·simp (maxDischargeDepth:=9) [J,results64,go_sem, *]
  ·rw[HV.out];exact rfl
 have hk:=H7.out;unfold Yf at hk;simp only[Bool.and_eq_true,decide_eq_true_eq]at hk;have G4:=hk.1.1;have G3:=hk.1.2;have G2:=hk.2.1;have G1:=hk.2.2
 clear hk;go_wp2_with fail
 have G5:Hid (X.cell? ⟨w.heap.size,0,none⟩=some (l u 3)/\X.cell? ⟨w.heap.size,8,none⟩=some (l u d)/\X.cell? ⟨w.heap.size,9,none⟩=some (l u e)):=⟨x0,x8,x9⟩;clear x0 x8 x9;go_loopw [6,7] (fun o i wr=> ∃(k m:Nat) (F:Option Addr) (cc:Nat) (L:List CL),k<=n/\i= l u k/\o= H F m cc/\L=rwP false d e (clE C R S k)/\rwG false d e (clE C R S k)=true/\L.length=m/\wr.ownsRow X.heap.size 70 3 (H F m cc) m (QH CL.cs L)/\G X.heap.size X wr) (fun _ i _=>n-(intOf i).toNat)
 case atStart=>exact⟨0,0,_,0,[],Nat.zero_le _,rfl,rfl,rfl,rfl,rfl,Zt (Nat.le_refl _) rfl,by go_grown⟩
 case round=>
  obtain⟨k,m,F,cc,L,hkn,rfl,rfl,hL,g8,H9,H4,h2⟩:=hrel;have HO:Hid (wr.ownsRow X.heap.size 70 3 (H F m cc) m (QH CL.cs L)):=H4;have HB:Hid (G X.heap.size X wr):=h2;have HL:Hid (L=rwP false d e (clE C R S k)):=hL;have g3:Hid (rwG false d e (clE C R S k)=true):=g8;have HM:Hid (L.length=m):=H9;have hmk:m<=k:=by rw[<-H9,hL];exact Qf3 false d e C R S k
  clear H4 hL H9 g8;by_cases h5:k<n
  ·obtain⟨br,o,rfl,hl,c0,c1,c2,_⟩:=RX.out.2 k h5;obtain⟨y0,y8,y9⟩:=G5.out;have hs:=h2.size;have zr:w.heap.size<wr.heap.size:=by omega
   replace c0:=Qe h2 hl c0;replace c1:=Qe h2 hl c1;replace c2:=Qe h2 hl c2;replace y0:=Qe h2 zX y0;replace y8:=Qe h2 zX y8;replace y9:=Qe h2 zX y9;clear h2
   have hl2:br<wr.heap.size:=Nat.lt_of_lt_of_le hl hs;have h0:(0:Int)<=(k:Int):=by omega
   have h1:(k:Int)<(n:Int):=by omega
   have G8:Hid (1<=C k/\C k<=52/\1<=R k/\R k<=99):=by have h9:=G9.out k h5;unfold Qf at h9;have h8:=of_decide_eq_true h9;exact h8
   have INB:=Qsy (r:=R k) (d:=d) (e:=e);have h6:Hid ((false&&inR d e (R k))=false):=rfl;go_wp2_with fail
   obtain⟨Y,HY⟩: ∃Y,Hid (wr.alloc (Q #[l u (C k),l u (R k),I (S k)] 70)=Y):=⟨_,rfl⟩;rw[HY.out];have KY:Hid (G wr.heap.size wr Y):=by rw[<-HY.out];show G _ _ _;go_grown
   have q0:Y.cell? ⟨wr.heap.size,0,none⟩=some (l u (C k)):=by rw[<-HY.out];go_simp
   have q2:Y.cell? ⟨wr.heap.size,2,none⟩=some (I (S k)):=by rw[<-HY.out];go_simp
   have q1:Y.cell? ⟨wr.heap.size,1,none⟩=some (l u (R k)):=by rw[<-HY.out];go_simp
   have f1:Y.frozen? ⟨wr.heap.size,1,none⟩=false:=by rw[<-HY.out];go_simp
   have f2:Y.frozen? ⟨wr.heap.size,2,none⟩=false:=by rw[<-HY.out];go_simp
   have zY:wr.heap.size<Y.heap.size:=by rw[<-HY.out];simp
   replace y8:=Qe KY.out zr y8;replace y9:=Qe KY.out zr y9;have OY:=hd (Qd HO.out KY.out);have BY:=hd (Qb HB.out KY.out);have NEG0:(Value.slice F m cc).ownBlock≠some wr.heap.size:=fun e=>by have:=(HO.out.lt _ e).2;omega
   clear HY KY HO HB y0 c0 c1 c2;obtain⟨g,g2⟩: ∃g,Hid (wr.heap.size=g):=⟨_,rfl⟩;rw[g2.out]at q0 q1 q2 f1 f2 zY NEG0 ⊢;have NEG:Hid ((Value.slice F m cc).ownBlock≠some g):=NEG0;clear NEG0;have g6:X.heap.size<=g:=by have:=g2.out;omega
   have zwg:w.heap.size<g:=by have:=g2.out;omega
   refine(ZQ (R k) d e 0 _ (by have:=G8.out;omega) (by omega)).mono ?_;rintro z wa ⟨rfl,hb⟩;replace q0:=Qe hb zY q0;replace q1:=Qe hb zY q1;replace q2:=Qe hb zY q2;replace f1:=(hb.frozen (p:=⟨g,1,none⟩) zY).trans f1;replace f2:=(hb.frozen (p:=⟨g,2,none⟩) zY).trans f2
   replace y8:=Qe hb (by omega) y8;replace y9:=Qe hb (by omega) y9;replace OY:=hd (Qd OY.out hb);replace BY:=hd (Qb BY.out hb);replace zY:=Nat.lt_of_lt_of_le zY hb.size;clear hb;go_upto_region 11 with fail
   obtain⟨Z,HZ⟩: ∃Z,Hid (wa.setCell ⟨g,1,none⟩ (l u (opI (R k) d e))=Z):=⟨_,rfl⟩;rw[HZ.out];have r0:Z.cell? ⟨g,0,none⟩=some (l u (C k)):=by rw[<-HZ.out];go_simp
   have r1:Z.cell? ⟨g,1,none⟩=some (l u (opI (R k) d e)):=by rw[<-HZ.out];go_simp
   have r2:Z.cell? ⟨g,2,none⟩=some (I (S k)):=by rw[<-HZ.out];go_simp
   replace f2:Z.frozen? ⟨g,2,none⟩=false:=by rw[<-HZ.out];go_simp
   replace y8:Z.cell? ⟨w.heap.size,8,none⟩=some (l u d):=by rw[<-HZ.out];go_simp
   replace y9:Z.cell? ⟨w.heap.size,9,none⟩=some (l u e):=by rw[<-HZ.out];go_simp
   replace OY:Hid (Z.ownsRow X.heap.size 70 3 (H F m cc) m (QH CL.cs L)):=by
    rw[<-HZ.out];exact K OY.out NEG.out _
   replace BY:Hid (G X.heap.size X Z):=by rw[<-HZ.out];exact BY.out.setCell g6 _
   replace zY:g<Z.heap.size:=by rw[<-HZ.out];simpa using zY
   clear HZ q0 q1 q2 f1;have G6:Hid ((S k).size<=200):=(JF g9.out h5).1;have G7:Hid ((S k).toList.isEmpty=false):=(JF g9.out h5).2;go_wp2_with fail
   refine(XI (S k) _ G6.out).mono ?_;rintro z wb ⟨hb,hz⟩;replace r0:=Qe hb zY r0;replace r1:=Qe hb zY r1;replace r2:=Qe hb zY r2;replace f2:=(hb.frozen (p:=⟨g,2,none⟩) zY).trans f2;replace y8:=Qe hb (by omega) y8
   replace y9:=Qe hb (by omega) y9;replace OY:=hd (Qd OY.out hb);replace BY:=hd (Qb BY.out hb);replace zY:=Nat.lt_of_lt_of_le zY hb.size;clear hb;have h3:=Qfd (f:=rF false d e) (g:=rG false d e) G7.out;rcases hz with⟨hl5,rfl⟩ | ⟨oo,A5,c5,hl5,hrd,rfl,H5⟩
   ·have H6:Hid (rwX (rF false d e) (rG false d e) (S k)=S k):=Qfc hl5;rw[H6.out]at h3;clear hl5;obtain⟨xs,H2⟩: ∃xs,Hid (S k=xs):=⟨_,rfl⟩;rw[H2.out]at r2;replace h3:xs.toList.isEmpty= !rwB (rF false d e) (rG false d e) (S k):=by rw[<-H2.out];exact h3
    have g5:Hid (rwX (rF false d e) (rG false d e) (S k)=xs):=H6.out.trans H2.out;have V0:Hid (wb=wb):=rfl;obtain⟨rb,h4⟩: ∃rb,Hid (rwB (rF false d e) (rG false d e) (S k)=rb):=⟨_,rfl⟩;rw[h4.out]at h3;cases rb
    ·have H8:xs.toList.isEmpty=true:=h3;have HV:Hid (rwO false d e (clE C R S n)=none):=Jw (Ho h5 h6.out (by rw[h4.out,Bool.and_false]));go_wp2_with fail
     refine y (v:= N #[H none 0 0,M false]) ?_ rfl ⟨?_,Qb KX.out BY.out⟩
     ·simp (maxDischargeDepth:=9) [J,results64,go_sem, *]
     ·rw[HV.out];exact rfl
    have H8:xs.toList.isEmpty=false:=h3;go_wp2_with fail
    refine(Qz (C k) (opI (R k) d e) _).mono ?_;rintro z wv ⟨rfl,hb⟩;obtain⟨rk,H0⟩: ∃rk,Hid (Qf (C k) (opI (R k) d e)=rk):=⟨_,rfl⟩;rw[H0.out];replace r0:=Qe hb zY r0;replace r1:=Qe hb zY r1;replace r2:=Qe hb zY r2
    replace OY:=hd (Qd OY.out hb);replace BY:=hd (Qb BY.out hb);replace zY:=Nat.lt_of_lt_of_le zY hb.size;clear hb;cases rk
    ·have HV:Hid (rwO false d e (clE C R S n)=none):=Jw (Ho h5 h6.out (by rw[show Qf (C k) (rI false (R k) d e)=false from H0.out,Bool.false_and]));go_wp2_with fail
     refine y (v:= N #[H none 0 0,M false]) ?_ rfl ⟨?_,Qb KX.out BY.out⟩
     ·simp (maxDischargeDepth:=9) [J,results64,go_sem, *]
     ·rw[HV.out];exact rfl
    have g0:Hid (rwP false d e (clE C R S (k+1))=L++ [⟨C k,(opI (R k) d e),xs⟩]):=by
     show _=_;rw[Nw h6.out,HL.out,<-g5.out,MI h4.out];rfl
    have g4:Hid (rwG false d e (clE C R S (k+1))=true):=by
     show _=_;rw[Nx h6.out,g3.out,h4.out,show Qf (C k) (rI false (R k) d e)=true from H0.out];rfl
    have zs:X.heap.size<=wv.heap.size:=BY.out.size
    go_wp2_with (first
     | (at_builtin;refine Qw rfl _ _ rfl X.heap.size (H F m cc) m L rfl (OY.out.alloc _) (C k) (opI (R k) d e) xs wv.heap.size rfl (by simp[go_sem, *]) (by simp[go_sem, *]) (by simp[go_sem, *]) (by omega) (by simp;omega) ?_)
     | fail)
    intro va w7 ho hg;obtain⟨F7,h7,rfl,_,_⟩:=Qr ho;have K7:Hid (G X.heap.size X w7):=(BY.out.alloc zs _).grown hg (by simp;omega) (fun j hj=>(OY.out.lt j hj).1);have g1:Hid (w7.ownsRow X.heap.size 70 3 (H F7 (m+1) h7) (m+1) (QH CL.cs (L++ [⟨C k,(opI (R k) d e),xs⟩]))):=ho;clear ho hg;go_wp2_with fail
    go_roundw
    case rel=>exact⟨k+1,m+1,F7,h7,_,by omega,by go_num,rfl,g0.out.symm,g4.out,by simp[HM.out],g1.out,K7.out⟩
    case measure=>simp[intOf];omega
   ·have H6:Hid (rwX (rF false d e) (rG false d e) (S k)=sEq (ftx (fun i=>QB (Zw d e) (Zv d e) (ouF oo i)) oo.length)):=ES hl5;have x5:Hid (FnRowS wb A5 oo.length (ouF oo)):=H5;have H3:Hid (rdF (JP (S k))=some oo):=hrd;clear hl5 H5 hrd;go_wp2_with fail
    refine(Gg d e _ x5.out (fun i hi=>((QN H3.out).2 i hi).2) (JN (XL H3.out).2.2) (QN H3.out).1 ⟨G4,G3⟩ ⟨G2,G1⟩).mono ?_;rintro z wc ⟨vv,ys,rfl,hr,hp,hb⟩;obtain⟨A6,c6,rfl,H5⟩:=YF hr hp (fun i hi=>Qj3 _ _ _ ((QN H3.out).2 i hi).1);have x6:Hid (FnRow wc A6 oo.length (fun i=>QB (Zw d e) (Zv d e) (ouF oo i))):=H5;replace r0:=Qe hb zY r0;replace r1:=Qe hb zY r1;replace r2:=Qe hb zY r2
    replace f2:=(hb.frozen (p:=⟨g,2,none⟩) zY).trans f2;replace OY:=hd (Qd OY.out hb);replace BY:=hd (Qb BY.out hb);replace zY:=Nat.lt_of_lt_of_le zY hb.size;clear hb hr hp H5 y8 y9;go_wp2_with fail
    refine(Js _ x6.out (by have:=(QN H3.out).1;omega) (Ud H3.out)).mono ?_;rintro z we ⟨rfl,hb⟩;replace r0:=Qe hb zY r0;replace r1:=Qe hb zY r1;replace r2:=Qe hb zY r2;replace f2:=(hb.frozen (p:=⟨g,2,none⟩) zY).trans f2;replace OY:=hd (Qd OY.out hb)
    replace BY:=hd (Qb BY.out hb);replace zY:=Nat.lt_of_lt_of_le zY hb.size;clear hb;rw[H6.out]at h3;obtain⟨xs,H2⟩: ∃xs,Hid (sEq (ftx (fun i=>QB (Zw d e) (Zv d e) (ouF oo i)) oo.length)=xs):=⟨_,rfl⟩;rw[H2.out]at h3 ⊢;have g5:Hid (rwX (rF false d e) (rG false d e) (S k)=xs):=H6.out.trans H2.out
    go_upto_region 14 with fail
    obtain⟨H1,HZ⟩: ∃Z,Hid (we.setCell ⟨g,2,none⟩ (I xs)=Z):=⟨_,rfl⟩;rw[HZ.out];have t0:H1.cell? ⟨g,0,none⟩=some (l u (C k)):=by rw[<-HZ.out];go_simp
    have t1:H1.cell? ⟨g,1,none⟩=some (l u (opI (R k) d e)):=by rw[<-HZ.out];go_simp
    have t2:H1.cell? ⟨g,2,none⟩=some (I xs):=by rw[<-HZ.out];go_simp
    replace OY:Hid (H1.ownsRow X.heap.size 70 3 (H F m cc) m (QH CL.cs L)):=by
     rw[<-HZ.out];exact K OY.out NEG.out _
    replace BY:Hid (G X.heap.size X H1):=by rw[<-HZ.out];exact BY.out.setCell g6 _
    replace zY:g<H1.heap.size:=by rw[<-HZ.out];simpa using zY
    clear HZ r0 r1 r2 f2;obtain⟨rb,h4⟩: ∃rb,Hid (rwB (rF false d e) (rG false d e) (S k)=rb):=⟨_,rfl⟩;rw[h4.out]at h3;cases rb
    ·have H8:xs.toList.isEmpty=true:=h3;have HV:Hid (rwO false d e (clE C R S n)=none):=Jw (Ho h5 h6.out (by rw[h4.out,Bool.and_false]));go_wp2_with fail
     refine y (v:= N #[H none 0 0,M false]) ?_ rfl ⟨?_,Qb KX.out BY.out⟩
     ·simp (maxDischargeDepth:=9) [J,results64,go_sem, *]
     ·rw[HV.out];exact rfl
    have H8:xs.toList.isEmpty=false:=h3;go_wp2_with fail
    refine(Qz (C k) (opI (R k) d e) _).mono ?_;rintro z wv ⟨rfl,hb⟩;obtain⟨rk,H0⟩: ∃rk,Hid (Qf (C k) (opI (R k) d e)=rk):=⟨_,rfl⟩;rw[H0.out];replace t0:=Qe hb zY t0;replace t1:=Qe hb zY t1;replace t2:=Qe hb zY t2
    replace OY:=hd (Qd OY.out hb);replace BY:=hd (Qb BY.out hb);replace zY:=Nat.lt_of_lt_of_le zY hb.size;clear hb;cases rk
    ·have HV:Hid (rwO false d e (clE C R S n)=none):=Jw (Ho h5 h6.out (by rw[show Qf (C k) (rI false (R k) d e)=false from H0.out,Bool.false_and]));go_wp2_with fail
     refine y (v:= N #[H none 0 0,M false]) ?_ rfl ⟨?_,Qb KX.out BY.out⟩
     ·simp (maxDischargeDepth:=9) [J,results64,go_sem, *]
     ·rw[HV.out];exact rfl
    have g0:Hid (rwP false d e (clE C R S (k+1))=L++ [⟨C k,(opI (R k) d e),xs⟩]):=by
     show _=_;rw[Nw h6.out,HL.out,<-g5.out,MI h4.out];rfl
    have g4:Hid (rwG false d e (clE C R S (k+1))=true):=by
     show _=_;rw[Nx h6.out,g3.out,h4.out,show Qf (C k) (rI false (R k) d e)=true from H0.out];rfl
    have zs:X.heap.size<=wv.heap.size:=BY.out.size
    go_wp2_with (first
     | (at_builtin;refine Qw rfl _ _ rfl X.heap.size (H F m cc) m L rfl (OY.out.alloc _) (C k) (opI (R k) d e) xs wv.heap.size rfl (by simp[go_sem, *]) (by simp[go_sem, *]) (by simp[go_sem, *]) (by omega) (by simp;omega) ?_)
     | fail)
    intro va w7 ho hg;obtain⟨F7,h7,rfl,_,_⟩:=Qr ho;have K7:Hid (G X.heap.size X w7):=(BY.out.alloc zs _).grown hg (by simp;omega) (fun j hj=>(OY.out.lt j hj).1);have g1:Hid (w7.ownsRow X.heap.size 70 3 (H F7 (m+1) h7) (m+1) (QH CL.cs (L++ [⟨C k,(opI (R k) d e),xs⟩]))):=ho;clear ho hg;go_wp2_with fail
    go_roundw
    case rel=>exact⟨k+1,m+1,F7,h7,_,by omega,by go_num,rfl,g0.out.symm,g4.out,by simp[HM.out],g1.out,K7.out⟩
    case measure=>simp[intOf];omega
  ·have h1: ¬(k:Int)<(n:Int):=by omega
   obtain rfl:k=n:=by omega
   have HV:Hid (rwO false d e (clE C R S k)=some L):=by show _=_;rw[Qf4 H7.out g3.out,HL.out]
   go_wp2_with fail
   refine y (v:= N #[H F m cc,M true]) ?_ rfl ⟨?_,?_⟩
   ·simp (maxDischargeDepth:=9) [J,results64,go_sem, *]
   ·rw[HV.out];exact⟨F,cc,m,rfl,HM.out,Go.Proofs.ownsRow_base_a HO.out KX.out.size⟩
   ·exact Qb KX.out HB.out
theorem Ep{ea eb x1 x2 x3 x4:Int}{et:ByteArray}(w:World)(h:ClRow w A n C R S)(hok:QA C R S n=true):
  Calls prog 64 #[H A n cap,U #[l u 4,l u ea,l u eb,I et,l u x1,l u x2,l u x3,l u x4,l u d,l u e]] w fun z w'=>EnR w.heap.size w' (rwO true d e (clE C R S n)) z/\G w.heap.size w w':=by
 have HR:Hid (ClRow w A n C R S):=h;have g9:Hid (QA C R S n=true):=hok;obtain⟨h120,g7,G0⟩:=Yj hok;have G9:Hid (∀i,i<n->Qf (C i) (R i)=true):=g7;clear h hok g7 G0;obtain⟨ko,H9⟩: ∃ko,Hid (Yf d e=ko):=⟨_,rfl⟩;go_enter func64,ntmps64
 go_wp2_with fail
 obtain⟨X,HX⟩: ∃X,Hid (w.alloc (Q #[l u 4,l u ea,l u eb,I et,l u x1,l u x2,l u x3,l u x4,l u d,l u e] 30)=X):=⟨_,rfl⟩;rw[HX.out];have x0:X.cell? ⟨w.heap.size,0,none⟩=some (l u 4):=by rw[<-HX.out];go_simp
 have x8:X.cell? ⟨w.heap.size,8,none⟩=some (l u d):=by rw[<-HX.out];go_simp
 have x9:X.cell? ⟨w.heap.size,9,none⟩=some (l u e):=by rw[<-HX.out];go_simp
 have zX:w.heap.size<X.heap.size:=by rw[<-HX.out];simp
 have KX:Hid (G w.heap.size w X):=by rw[<-HX.out];show G _ _ _;go_grown
 have RX:=hd (HR.out.below KX.out);clear HX HR;refine(Mm d e X).mono ?_;rintro z wl ⟨rfl,hwl⟩;subst wl;rw[H9.out];cases ko
 ·have HV:Hid (rwO true d e (clE C R S n)=none):=Qf5 H9.out;go_wp2_with fail
  refine y (v:= N #[H none 0 0,M false]) ?_ rfl ⟨?_,KX.out⟩
  ·simp (maxDischargeDepth:=9) [J,results64,go_sem, *]
  ·rw[HV.out];exact rfl
 have hk:=H9.out;unfold Yf at hk;simp only[Bool.and_eq_true,decide_eq_true_eq]at hk;have G4:=hk.1.1;have G3:=hk.1.2;have G2:=hk.2.1;have G1:=hk.2.2
 clear hk;go_wp2_with fail
 have G5:Hid (X.cell? ⟨w.heap.size,0,none⟩=some (l u 4)/\X.cell? ⟨w.heap.size,8,none⟩=some (l u d)/\X.cell? ⟨w.heap.size,9,none⟩=some (l u e)):=⟨x0,x8,x9⟩;clear x0 x8 x9;go_loopw [6,7] (fun o i wr=> ∃(k m:Nat) (F:Option Addr) (cc:Nat) (L:List CL),k<=n/\i= l u k/\o= H F m cc/\L=rwP true d e (clE C R S k)/\rwG true d e (clE C R S k)=true/\L.length=m/\wr.ownsRow X.heap.size 70 3 (H F m cc) m (QH CL.cs L)/\G X.heap.size X wr) (fun _ i _=>n-(intOf i).toNat)
 case atStart=>exact⟨0,0,_,0,[],Nat.zero_le _,rfl,rfl,rfl,rfl,rfl,Zt (Nat.le_refl _) rfl,by go_grown⟩
 case round=>
  obtain⟨k,m,F,cc,L,hkn,rfl,rfl,hL,g8,g2,H4,h2⟩:=hrel;have HO:Hid (wr.ownsRow X.heap.size 70 3 (H F m cc) m (QH CL.cs L)):=H4;have HB:Hid (G X.heap.size X wr):=h2;have HL:Hid (L=rwP true d e (clE C R S k)):=hL;have g0:Hid (rwG true d e (clE C R S k)=true):=g8;have HM:Hid (L.length=m):=g2;have hmk:m<=k:=by rw[<-g2,hL];exact Qf3 true d e C R S k
  clear H4 hL g2 g8;by_cases h5:k<n
  ·obtain⟨br,o,rfl,hl,c0,c1,c2,_⟩:=RX.out.2 k h5;obtain⟨y0,y8,y9⟩:=G5.out;have hs:=h2.size;have zr:w.heap.size<wr.heap.size:=by omega
   replace c0:=Qe h2 hl c0;replace c1:=Qe h2 hl c1;replace c2:=Qe h2 hl c2;replace y0:=Qe h2 zX y0;replace y8:=Qe h2 zX y8;replace y9:=Qe h2 zX y9;clear h2
   have hl2:br<wr.heap.size:=Nat.lt_of_lt_of_le hl hs;have h0:(0:Int)<=(k:Int):=by omega
   have h1:(k:Int)<(n:Int):=by omega
   have G8:Hid (1<=C k/\C k<=52/\1<=R k/\R k<=99):=by have h9:=G9.out k h5;unfold Qf at h9;have h8:=of_decide_eq_true h9;exact h8
   have INB:=Qsy (r:=R k) (d:=d) (e:=e);go_wp2_with fail
   refine(QG _ _ _ _).mono ?_;rintro z wi ⟨rfl,hwi⟩;subst wi;rw[INB];cases hin:inR d e (R k)
   rotate_left
   ·have H7:Hid (rwP true d e (clE C R S (k+1))=rwP true d e (clE C R S k)):=Qpw hin;have H8:Hid (rwG true d e (clE C R S (k+1))=true):=by show _=_;rw[Qtt hin];exact g0.out
    go_wp2_with fail
    go_roundw
    case rel=>exact⟨k+1,m,F,cc,L,by omega,by go_num,rfl,by rw[H7.out];exact HL.out,H8.out,HM.out,HO.out.alloc _,HB.out.alloc hs _⟩
    case measure=>simp[intOf];omega
   have h6:Hid ((true&&inR d e (R k))=false):=by show _=_;rw[hin];rfl
   have x5:Hid (inR d e (R k)=false):=hin;clear hin;go_wp2_with fail
   obtain⟨Y,HY⟩: ∃Y,Hid (wr.alloc (Q #[l u (C k),l u (R k),I (S k)] 70)=Y):=⟨_,rfl⟩;rw[HY.out];have KY:Hid (G wr.heap.size wr Y):=by rw[<-HY.out];show G _ _ _;go_grown
   have q0:Y.cell? ⟨wr.heap.size,0,none⟩=some (l u (C k)):=by rw[<-HY.out];go_simp
   have q2:Y.cell? ⟨wr.heap.size,2,none⟩=some (I (S k)):=by rw[<-HY.out];go_simp
   have q1:Y.cell? ⟨wr.heap.size,1,none⟩=some (l u (R k)):=by rw[<-HY.out];go_simp
   have f1:Y.frozen? ⟨wr.heap.size,1,none⟩=false:=by rw[<-HY.out];go_simp
   have f2:Y.frozen? ⟨wr.heap.size,2,none⟩=false:=by rw[<-HY.out];go_simp
   have zY:wr.heap.size<Y.heap.size:=by rw[<-HY.out];simp
   replace y8:=Qe KY.out zr y8;replace y9:=Qe KY.out zr y9;have OY:=hd (Qd HO.out KY.out);have BY:=hd (Qb HB.out KY.out);have NEG0:(Value.slice F m cc).ownBlock≠some wr.heap.size:=fun e=>by have:=(HO.out.lt _ e).2;omega
   clear HY KY HO HB y0 c0 c1 c2;obtain⟨g,g4⟩: ∃g,Hid (wr.heap.size=g):=⟨_,rfl⟩;rw[g4.out]at q0 q1 q2 f1 f2 zY NEG0 ⊢;have NEG:Hid ((Value.slice F m cc).ownBlock≠some g):=NEG0;clear NEG0;have g6:X.heap.size<=g:=by have:=g4.out;omega
   have zwg:w.heap.size<g:=by have:=g4.out;omega
   refine(Zm (R k) d e 0 _ (by have:=G8.out;omega) (by omega) (by omega)).mono ?_;rintro z wa ⟨rfl,hb⟩;rw[Qr8 x5.out];replace q0:=Qe hb zY q0;replace q1:=Qe hb zY q1;replace q2:=Qe hb zY q2;replace f1:=(hb.frozen (p:=⟨g,1,none⟩) zY).trans f1
   replace f2:=(hb.frozen (p:=⟨g,2,none⟩) zY).trans f2;replace y8:=Qe hb (by omega) y8;replace y9:=Qe hb (by omega) y9;replace OY:=hd (Qd OY.out hb);replace BY:=hd (Qb BY.out hb);replace zY:=Nat.lt_of_lt_of_le zY hb.size;clear hb
   go_upto_region 11 with fail
   obtain⟨Z,HZ⟩: ∃Z,Hid (wa.setCell ⟨g,1,none⟩ (l u (clI (R k) d e d))=Z):=⟨_,rfl⟩;rw[HZ.out];have r0:Z.cell? ⟨g,0,none⟩=some (l u (C k)):=by rw[<-HZ.out];go_simp
   have r1:Z.cell? ⟨g,1,none⟩=some (l u (clI (R k) d e d)):=by rw[<-HZ.out];go_simp
   have r2:Z.cell? ⟨g,2,none⟩=some (I (S k)):=by rw[<-HZ.out];go_simp
   replace f2:Z.frozen? ⟨g,2,none⟩=false:=by rw[<-HZ.out];go_simp
   replace y8:Z.cell? ⟨w.heap.size,8,none⟩=some (l u d):=by rw[<-HZ.out];go_simp
   replace y9:Z.cell? ⟨w.heap.size,9,none⟩=some (l u e):=by rw[<-HZ.out];go_simp
   replace OY:Hid (Z.ownsRow X.heap.size 70 3 (H F m cc) m (QH CL.cs L)):=by
    rw[<-HZ.out];exact K OY.out NEG.out _
   replace BY:Hid (G X.heap.size X Z):=by rw[<-HZ.out];exact BY.out.setCell g6 _
   replace zY:g<Z.heap.size:=by rw[<-HZ.out];simpa using zY
   clear HZ q0 q1 q2 f1;have G6:Hid ((S k).size<=200):=(JF g9.out h5).1;have G7:Hid ((S k).toList.isEmpty=false):=(JF g9.out h5).2;go_wp2_with fail
   refine(XI (S k) _ G6.out).mono ?_;rintro z wb ⟨hb,hz⟩;replace r0:=Qe hb zY r0;replace r1:=Qe hb zY r1;replace r2:=Qe hb zY r2;replace f2:=(hb.frozen (p:=⟨g,2,none⟩) zY).trans f2;replace y8:=Qe hb (by omega) y8
   replace y9:=Qe hb (by omega) y9;replace OY:=hd (Qd OY.out hb);replace BY:=hd (Qb BY.out hb);replace zY:=Nat.lt_of_lt_of_le zY hb.size;clear hb;have h3:=Qfd (f:=rF true d e) (g:=rG true d e) G7.out;rcases hz with⟨hl5,rfl⟩ | ⟨oo,A5,c5,hl5,hrd,rfl,H5⟩
   ·have H6:Hid (rwX (rF true d e) (rG true d e) (S k)=S k):=Qfc hl5;rw[H6.out]at h3;clear hl5;obtain⟨xs,H2⟩: ∃xs,Hid (S k=xs):=⟨_,rfl⟩;rw[H2.out]at r2;replace h3:xs.toList.isEmpty= !rwB (rF true d e) (rG true d e) (S k):=by rw[<-H2.out];exact h3
    have g5:Hid (rwX (rF true d e) (rG true d e) (S k)=xs):=H6.out.trans H2.out;have V0:Hid (wb=wb):=rfl;obtain⟨rb,h4⟩: ∃rb,Hid (rwB (rF true d e) (rG true d e) (S k)=rb):=⟨_,rfl⟩;rw[h4.out]at h3;cases rb
    ·have g1:xs.toList.isEmpty=true:=h3;have HV:Hid (rwO true d e (clE C R S n)=none):=Jw (Ho h5 h6.out (by rw[h4.out,Bool.and_false]));go_wp2_with fail
     refine y (v:= N #[H none 0 0,M false]) ?_ rfl ⟨?_,Qb KX.out BY.out⟩
     ·simp (maxDischargeDepth:=9) [J,results64,go_sem, *]
     ·rw[HV.out];exact rfl
    have g1:xs.toList.isEmpty=false:=h3;go_wp2_with fail
    refine(Qz (C k) (clI (R k) d e d) _).mono ?_;rintro z wv ⟨rfl,hb⟩;obtain⟨rk,H0⟩: ∃rk,Hid (Qf (C k) (clI (R k) d e d)=rk):=⟨_,rfl⟩;rw[H0.out];replace r0:=Qe hb zY r0;replace r1:=Qe hb zY r1;replace r2:=Qe hb zY r2
    replace OY:=hd (Qd OY.out hb);replace BY:=hd (Qb BY.out hb);replace zY:=Nat.lt_of_lt_of_le zY hb.size;clear hb;cases rk
    ·have HV:Hid (rwO true d e (clE C R S n)=none):=Jw (Ho h5 h6.out (by rw[show Qf (C k) (rI true (R k) d e)=false from H0.out,Bool.false_and]));go_wp2_with fail
     refine y (v:= N #[H none 0 0,M false]) ?_ rfl ⟨?_,Qb KX.out BY.out⟩
     ·simp (maxDischargeDepth:=9) [J,results64,go_sem, *]
     ·rw[HV.out];exact rfl
    have H7:Hid (rwP true d e (clE C R S (k+1))=L++ [⟨C k,(clI (R k) d e d),xs⟩]):=by
     show _=_;rw[Nw h6.out,HL.out,<-g5.out,MI h4.out];rfl
    have H8:Hid (rwG true d e (clE C R S (k+1))=true):=by
     show _=_;rw[Nx h6.out,g0.out,h4.out,show Qf (C k) (rI true (R k) d e)=true from H0.out];rfl
    have zs:X.heap.size<=wv.heap.size:=BY.out.size
    go_wp2_with (first
     | (at_builtin;refine Qw rfl _ _ rfl X.heap.size (H F m cc) m L rfl (OY.out.alloc _) (C k) (clI (R k) d e d) xs wv.heap.size rfl (by simp[go_sem, *]) (by simp[go_sem, *]) (by simp[go_sem, *]) (by omega) (by simp;omega) ?_)
     | fail)
    intro va w7 ho hg;obtain⟨F7,h7,rfl,_,_⟩:=Qr ho;have K7:Hid (G X.heap.size X w7):=(BY.out.alloc zs _).grown hg (by simp;omega) (fun j hj=>(OY.out.lt j hj).1);have g3:Hid (w7.ownsRow X.heap.size 70 3 (H F7 (m+1) h7) (m+1) (QH CL.cs (L++ [⟨C k,(clI (R k) d e d),xs⟩]))):=ho;clear ho hg;go_wp2_with fail
    go_roundw
    case rel=>exact⟨k+1,m+1,F7,h7,_,by omega,by go_num,rfl,H7.out.symm,H8.out,by simp[HM.out],g3.out,K7.out⟩
    case measure=>simp[intOf];omega
   ·have H6:Hid (rwX (rF true d e) (rG true d e) (S k)=sEq (ftx (fun i=>QB (Zi d e) (Zh d e) (ouF oo i)) oo.length)):=ES hl5;have x6:Hid (FnRowS wb A5 oo.length (ouF oo)):=H5;have H3:Hid (rdF (JP (S k))=some oo):=hrd;clear hl5 H5 hrd;go_wp2_with fail
    refine(Gh d e _ x6.out (fun i hi=>((QN H3.out).2 i hi).2) (JN (XL H3.out).2.2) (QN H3.out).1 ⟨G4,G3⟩ ⟨G2,G1⟩).mono ?_;rintro z wc ⟨vv,ys,rfl,hr,hp,hb⟩;obtain⟨A6,c6,rfl,H5⟩:=YF hr hp (fun i hi=>Qj3 _ _ _ ((QN H3.out).2 i hi).1);have x7:Hid (FnRow wc A6 oo.length (fun i=>QB (Zi d e) (Zh d e) (ouF oo i))):=H5;replace r0:=Qe hb zY r0;replace r1:=Qe hb zY r1;replace r2:=Qe hb zY r2
    replace f2:=(hb.frozen (p:=⟨g,2,none⟩) zY).trans f2;replace OY:=hd (Qd OY.out hb);replace BY:=hd (Qb BY.out hb);replace zY:=Nat.lt_of_lt_of_le zY hb.size;clear hb hr hp H5 y8 y9;go_wp2_with fail
    refine(Js _ x7.out (by have:=(QN H3.out).1;omega) (Ud H3.out)).mono ?_;rintro z we ⟨rfl,hb⟩;replace r0:=Qe hb zY r0;replace r1:=Qe hb zY r1;replace r2:=Qe hb zY r2;replace f2:=(hb.frozen (p:=⟨g,2,none⟩) zY).trans f2;replace OY:=hd (Qd OY.out hb)
    replace BY:=hd (Qb BY.out hb);replace zY:=Nat.lt_of_lt_of_le zY hb.size;clear hb;rw[H6.out]at h3;obtain⟨xs,H2⟩: ∃xs,Hid (sEq (ftx (fun i=>QB (Zi d e) (Zh d e) (ouF oo i)) oo.length)=xs):=⟨_,rfl⟩;rw[H2.out]at h3 ⊢;have g5:Hid (rwX (rF true d e) (rG true d e) (S k)=xs):=H6.out.trans H2.out
    go_upto_region 14 with fail
    obtain⟨H1,HZ⟩: ∃Z,Hid (we.setCell ⟨g,2,none⟩ (I xs)=Z):=⟨_,rfl⟩;rw[HZ.out];have t0:H1.cell? ⟨g,0,none⟩=some (l u (C k)):=by rw[<-HZ.out];go_simp
    have t1:H1.cell? ⟨g,1,none⟩=some (l u (clI (R k) d e d)):=by rw[<-HZ.out];go_simp
    have t2:H1.cell? ⟨g,2,none⟩=some (I xs):=by rw[<-HZ.out];go_simp
    replace OY:Hid (H1.ownsRow X.heap.size 70 3 (H F m cc) m (QH CL.cs L)):=by
     rw[<-HZ.out];exact K OY.out NEG.out _
    replace BY:Hid (G X.heap.size X H1):=by rw[<-HZ.out];exact BY.out.setCell g6 _
    replace zY:g<H1.heap.size:=by rw[<-HZ.out];simpa using zY
    clear HZ r0 r1 r2 f2;obtain⟨rb,h4⟩: ∃rb,Hid (rwB (rF true d e) (rG true d e) (S k)=rb):=⟨_,rfl⟩;rw[h4.out]at h3;cases rb
    ·have g1:xs.toList.isEmpty=true:=h3;have HV:Hid (rwO true d e (clE C R S n)=none):=Jw (Ho h5 h6.out (by rw[h4.out,Bool.and_false]));go_wp2_with fail
     refine y (v:= N #[H none 0 0,M false]) ?_ rfl ⟨?_,Qb KX.out BY.out⟩
     ·simp (maxDischargeDepth:=9) [J,results64,go_sem, *]
     ·rw[HV.out];exact rfl
    have g1:xs.toList.isEmpty=false:=h3;go_wp2_with fail
    refine(Qz (C k) (clI (R k) d e d) _).mono ?_;rintro z wv ⟨rfl,hb⟩;obtain⟨rk,H0⟩: ∃rk,Hid (Qf (C k) (clI (R k) d e d)=rk):=⟨_,rfl⟩;rw[H0.out];replace t0:=Qe hb zY t0;replace t1:=Qe hb zY t1;replace t2:=Qe hb zY t2
    replace OY:=hd (Qd OY.out hb);replace BY:=hd (Qb BY.out hb);replace zY:=Nat.lt_of_lt_of_le zY hb.size;clear hb;cases rk
    ·have HV:Hid (rwO true d e (clE C R S n)=none):=Jw (Ho h5 h6.out (by rw[show Qf (C k) (rI true (R k) d e)=false from H0.out,Bool.false_and]));go_wp2_with fail
     refine y (v:= N #[H none 0 0,M false]) ?_ rfl ⟨?_,Qb KX.out BY.out⟩
     ·simp (maxDischargeDepth:=9) [J,results64,go_sem, *]
     ·rw[HV.out];exact rfl
    have H7:Hid (rwP true d e (clE C R S (k+1))=L++ [⟨C k,(clI (R k) d e d),xs⟩]):=by
     show _=_;rw[Nw h6.out,HL.out,<-g5.out,MI h4.out];rfl
    have H8:Hid (rwG true d e (clE C R S (k+1))=true):=by
     show _=_;rw[Nx h6.out,g0.out,h4.out,show Qf (C k) (rI true (R k) d e)=true from H0.out];rfl
    have zs:X.heap.size<=wv.heap.size:=BY.out.size
    go_wp2_with (first
     | (at_builtin;refine Qw rfl _ _ rfl X.heap.size (H F m cc) m L rfl (OY.out.alloc _) (C k) (clI (R k) d e d) xs wv.heap.size rfl (by simp[go_sem, *]) (by simp[go_sem, *]) (by simp[go_sem, *]) (by omega) (by simp;omega) ?_)
     | fail)
    intro va w7 ho hg;obtain⟨F7,h7,rfl,_,_⟩:=Qr ho;have K7:Hid (G X.heap.size X w7):=(BY.out.alloc zs _).grown hg (by simp;omega) (fun j hj=>(OY.out.lt j hj).1);have g3:Hid (w7.ownsRow X.heap.size 70 3 (H F7 (m+1) h7) (m+1) (QH CL.cs (L++ [⟨C k,(clI (R k) d e d),xs⟩]))):=ho;clear ho hg;go_wp2_with fail
    go_roundw
    case rel=>exact⟨k+1,m+1,F7,h7,_,by omega,by go_num,rfl,H7.out.symm,H8.out,by simp[HM.out],g3.out,K7.out⟩
    case measure=>simp[intOf];omega
  ·have h1: ¬(k:Int)<(n:Int):=by omega
   obtain rfl:k=n:=by omega
   have HV:Hid (rwO true d e (clE C R S k)=some L):=by show _=_;rw[Qf4 H9.out g0.out,HL.out]
   go_wp2_with fail
   refine y (v:= N #[H F m cc,M true]) ?_ rfl ⟨?_,?_⟩
   ·simp (maxDischargeDepth:=9) [J,results64,go_sem, *]
   ·rw[HV.out];exact⟨F,cc,m,rfl,HM.out,Go.Proofs.ownsRow_base_a HO.out KX.out.size⟩
   ·exact Qb KX.out HB.out
end Go.Proofs.YtomadadmakdkgaaGreatDoor
