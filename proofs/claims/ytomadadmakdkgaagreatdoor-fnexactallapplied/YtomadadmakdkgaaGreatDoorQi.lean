import Derived.Test.YtomadadmakdkgaaGreatDoorMn
import Derived.Test.YtomadadmakdkgaaGreatDoorQf
open Go.Proofs.Tryz
open Go.Value renaming int → f, string → t, agg → u, slice → G
open Go.IntKind renaming i64 → g
open Go.RowKit renaming Below → l
open Go.Ending renaming returned → F
open Go.Obj renaming cells → H
set_option linter.unusedSimpArgs false
set_option linter.unusedVariables false
set_option maxHeartbeats 8000000
set_option maxRecDepth 100000
namespace Go.Proofs.YtomadadmakdkgaaGreatDoor
open Go.RowKit Go.Maps
theorem CmD.permE{D:DataW Value}{E L:List CL}(h:CmD D E)(hp:E.Perm L):CmD D L where
 nd:=(hp.pairwise_iff (fun{x y} (h:x.key≠y.key) e=>h e.symm)).1 h.nd
 into x hx:=h.into x (hp.mem_iff.2 hx)
 back kl hk:=by
  obtain⟨x,hx,e⟩:=h.back kl hk;exact⟨x,hp.mem_iff.1 hx,e⟩
theorem Quv{a b c d x y p q:Int}(hq:inQ a b c d p q=true)(ht:Ql x y (c+x-a) (d+y-b)=true):Qf (p+x-a) (q+y-b)=true:=by
 have hs:=Va ht;unfold inQ at hq;simp only[Bool.and_eq_true,decide_eq_true_eq]at hq;unfold Qf;exact decide_eq_true (by omega)
theorem Qu7(a b x y:Int)(z:CL):cpC (x-a) (y-b) z=⟨z.c+x-a,z.r+y-b,rwS (Qi (x-a) (y-b)) (Qh (x-a) (y-b)) z.s⟩:=by
 unfold cpC;rw[show z.c+(x-a)=z.c+x-a by omega,show z.r+(y-b)=z.r+y-b by omega]
theorem DM{A:Option Addr}{n cap:Nat}{C R:Nat->Int}{S:Nat->ByteArray}{a b c d x y:Int}(w:World)(h:ClRow w A n C R S)(hok:QA C R S n=true)(hg:GI w)(ha:Ql a b c d=true)(ht:Ql x y (c+x-a) (d+y-b)=true):
  Calls prog 56 #[u #[f g a,f g b,f g c,f g d,f g x,f g y],G A n cap] w fun z w'=> ∃(B m:Nat) (D:DataW Value),z= F (.map (some B))/\w.heap.size<=B/\w'.ownsMap prog 26 YM B m D/\CmD D (cpF a b c d (x-a) (y-b) (ZM x y (c+x-a) (d+y-b) (clE C R S n)) (clE C R S n))/\l w.heap.size w w':=by
 have HR:Hid (ClRow w A n C R S):=h;have g0:Hid (QA C R S n=true):=hok;have HG:Hid (GI w):=hg;have HA:Hid (Ql a b c d=true):=ha;have HT:Hid (Ql x y (c+x-a) (d+y-b)=true):=ht;have G2:Hid (Qf a b=true):=(Jb ha).1;have H9:Hid (Qf x y=true):=(Jb ht).1
 have hsa:=Va ha;have hst:=Va ht;obtain⟨H2,H1,H6⟩:=Yj hok;have g7:Hid (∀i,i<n->Qf (C i) (R i)=true):=H1;obtain⟨kk,H8⟩:=EU (n:=n) H1;have g9:Hid (∀i,i<n->keyOf prog 26 (u #[f g (C i),f g (R i)])=some (kk i)):=H8;have G1:Hid (∀i j,i<j->j<n-> ¬(C i=C j/\R i=R j)):=Eg H6
 clear h hok hg H1 H6 H8 ha ht;go_enter func56,ntmps56;go_wp2_with fail
 obtain⟨X0,HX⟩: ∃X,Hid (w.alloc (H #[f g a,f g b,f g c,f g d,f g x,f g y] 104)=X):=⟨_,rfl⟩;rw[HX.out];have x0:X0.cell? ⟨w.heap.size,0,none⟩=some (f g a):=by rw[<-HX.out];go_simp
 have x1:X0.cell? ⟨w.heap.size,1,none⟩=some (f g b):=by rw[<-HX.out];go_simp
 have x2:X0.cell? ⟨w.heap.size,2,none⟩=some (f g c):=by rw[<-HX.out];go_simp
 have x3:X0.cell? ⟨w.heap.size,3,none⟩=some (f g d):=by rw[<-HX.out];go_simp
 have x4:X0.cell? ⟨w.heap.size,4,none⟩=some (f g x):=by rw[<-HX.out];go_simp
 have x5:X0.cell? ⟨w.heap.size,5,none⟩=some (f g y):=by rw[<-HX.out];go_simp
 have zX:w.heap.size<X0.heap.size:=by rw[<-HX.out];simp
 have KX:Hid (l w.heap.size w X0):=by rw[<-HX.out];show l _ _ _;go_grown
 clear HX;refine(Mq a b c d x y _ HA.out H9.out).mono ?_;rintro z X ⟨rfl,hb⟩;replace x0:=Qe hb zX x0;replace x1:=Qe hb zX x1;replace x2:=Qe hb zX x2;replace x3:=Qe hb zX x3
 replace x4:=Qe hb zX x4;replace x5:=Qe hb zX x5;replace zX:=Nat.lt_of_lt_of_le zX hb.size;replace KX:=hd (Qb KX.out hb);have RX:=hd (HR.out.below KX.out);have GX:=hd (HG.out.below KX.out);clear hb HR HG
 have g4:Hid (X.cell? ⟨w.heap.size,0,none⟩=some (f g a)/\X.cell? ⟨w.heap.size,1,none⟩=some (f g b)/\X.cell? ⟨w.heap.size,2,none⟩=some (f g c)/\X.cell? ⟨w.heap.size,3,none⟩=some (f g d)/\X.cell? ⟨w.heap.size,4,none⟩=some (f g x)/\X.cell? ⟨w.heap.size,5,none⟩=some (f g y)):=⟨x0,x1,x2,x3,x4,x5⟩;go_wp2_with fail
 clear x0 x1 x2 x3 x4 x5;refine(Jm (a:=x) (b:=y) (c:=c+x-a) (d:=d+y-b) _ RX.out H2 g9.out G1.out).mono ?_;rintro z w2 ⟨B,m0,D0,rfl,hB,ho,h5,hb,hm0⟩;have g8:Hid (w2.ownsMap prog 26 YM B m0 D0):=ho;obtain⟨L0,g2⟩: ∃L0,Hid (ZM x y (c+x-a) (d+y-b) (clE C R S n)=L0):=⟨_,rfl⟩;rw[g2.out]at h5;have G0:Hid (CmD D0 L0):=h5
 have K0:Hid (l X.heap.size X w2):=hb;clear ho h5 hb;go_wp2_with fail
 go_loopw [14] (fun i wr=> ∃(k m:Nat) (D:DataW Value),k<=n/\i= f g k/\m<=m0+k/\wr.ownsMap prog 26 YM B m D/\CmD D (cpF a b c d (x-a) (y-b) L0 (clE C R S k))/\l X.heap.size X wr) (fun i _=>n-(intOf i).toNat)
 case atStart=>exact⟨0,m0,D0,Nat.zero_le _,rfl,by omega,g8.out,G0.out,K0.out⟩
 case round=>
  obtain⟨k,m,D,hkn,rfl,hm,h7,h5,h2⟩:=hrel;have HW:Hid (wr.ownsMap prog 26 YM B m D):=h7;have HC:Hid (CmD D (cpF a b c d (x-a) (y-b) L0 (clE C R S k))):=h5;have HB:Hid (l X.heap.size X wr):=h2;clear h7 h5;by_cases H0:k<n
  ·obtain⟨br,o,rfl,hl,c0,c1,c2,_⟩:=RX.out.2 k H0;obtain⟨y0,y1,y2,y3,y4,y5⟩:=g4.out;have hs:=h2.size;have zr:w.heap.size<wr.heap.size:=by omega
   replace c0:=Qe h2 hl c0;replace c1:=Qe h2 hl c1;replace c2:=Qe h2 hl c2;replace y0:=Qe h2 zX y0;replace y1:=Qe h2 zX y1;replace y2:=Qe h2 zX y2;replace y3:=Qe h2 zX y3
   replace y4:=Qe h2 zX y4;replace y5:=Qe h2 zX y5;clear h2;have hl2:br<wr.heap.size:=Nat.lt_of_lt_of_le hl hs;have h0:(0:Int)<=(k:Int):=by omega
   have h1:(k:Int)<(n:Int):=by omega
   have g6:Hid (1<=C k/\C k<=52/\1<=R k/\R k<=99):=by have h9:=g7.out k H0;unfold Qf at h9;have h8:=of_decide_eq_true h9;exact h8
   have h6:=Ut a b c d (x-a) (y-b) L0 C R S k;go_wp2_with fail
   refine(BN a b c d (C k) (R k) _).mono ?_;rintro z Y ⟨rfl,hb⟩;have zY:wr.heap.size<Y.heap.size:=Nat.lt_of_lt_of_le (by go_size) hb.size;have d0:Y.cell? ⟨wr.heap.size,0,none⟩=some (f g (C k)):=Qe hb (by go_size) (by go_simp);have d1:Y.cell? ⟨wr.heap.size,1,none⟩=some (f g (R k)):=Qe hb (by go_size) (by go_simp);have d2:Y.cell? ⟨wr.heap.size,2,none⟩=some (t (S k)):=Qe hb (by go_size) (by go_simp);replace y0:Y.cell? ⟨w.heap.size,0,none⟩=some (f g a):=Qe hb (by go_size) (by go_simp)
   replace y1:Y.cell? ⟨w.heap.size,1,none⟩=some (f g b):=Qe hb (by go_size) (by go_simp);replace y2:Y.cell? ⟨w.heap.size,2,none⟩=some (f g c):=Qe hb (by go_size) (by go_simp);replace y3:Y.cell? ⟨w.heap.size,3,none⟩=some (f g d):=Qe hb (by go_size) (by go_simp);replace y4:Y.cell? ⟨w.heap.size,4,none⟩=some (f g x):=Qe hb (by go_size) (by go_simp);replace y5:Y.cell? ⟨w.heap.size,5,none⟩=some (f g y):=Qe hb (by go_size) (by go_simp);have H3:Hid (Y.ownsMap prog 26 YM B m D):=Vp (HW.out.alloc _) hb;have H5:Hid (l X.heap.size X Y):=(HB.out.alloc hs _).trans (hb.mono (by go_size))
   clear hb c0 c1 c2 HW HB;cases hq:inQ a b c d (C k) (R k)
   ·rw[hq,nG (by decide)]at h6;have H4:Hid (cpF a b c d (x-a) (y-b) L0 (clE C R S (k+1))=cpF a b c d (x-a) (y-b) L0 (clE C R S k)):=h6;clear h6 hq;go_wp2_with fail
    go_roundw
    case rel=>exact⟨k+1,m,D,by omega,by go_num,by omega,H3.out,by rw[H4.out];exact HC.out,H5.out⟩
    case measure=>simp[intOf];omega
   rw[hq,pS rfl,Qu7]at h6;have H4:Hid (cpF a b c d (x-a) (y-b) L0 (clE C R S (k+1))=Xj ⟨C k+x-a,R k+y-b,rwS (Qi (x-a) (y-b)) (Qh (x-a) (y-b)) (S k)⟩ (cpF a b c d (x-a) (y-b) L0 (clE C R S k))):=h6;obtain⟨kl,H7⟩:=BK (Quv hq HT.out);have g3:Hid (keyOf prog 26 (u #[f g (C k+x-a),f g (R k+y-b)])=some kl):=H7;have g5:Hid ((S k).size<=200):=(JF g0.out H0).1;have g1:Hid ((rwS (Qi (x-a) (y-b)) (Qh (x-a) (y-b)) (S k)).toList.isEmpty=false):=Qfe (JF g0.out H0).2;have GY:=hd (GX.out.below H5.out)
   have lw:w.heap.size<Y.heap.size:=by omega
   have hrk:=g6.out;clear h6 hq H7;go_wp2_with fail
   go_region_with (first
    | (go_at_call 90;refine(GR a b c d x y (C k) (R k) _ (by omega) (by omega) (by omega) (by omega) (by omega) (by omega)).mono ?_;rintro z wq ⟨rfl,hb⟩;obtain⟨h4,hzq⟩:=Qk (B:=Y.heap.size) (X:=Y) (by go_grown) (by go_size) hb;have a0:=Qe h4 lw y0;have a1:=Qe h4 lw y1;have a2:=Qe h4 lw y2;have a3:=Qe h4 lw y3;have a4:=Qe h4 lw y4;have a5:=Qe h4 lw y5;have b0:=Qe h4 zY d0;have b1:=Qe h4 zY d1;have b2:=Qe h4 zY d2;clear hb)
    | (go_at_call 82;refine(Ex a b c d x y w.heap.size _ g5.out (by go_size) (by go_simp) (by go_simp) (by go_simp) (by go_simp) (GY.out.below (by go_grown)) G2.out H9.out).mono ?_;rintro z wy ⟨rfl,hb⟩;obtain⟨h3,hzy⟩:=Qk (B:=Y.heap.size) (X:=Y) (by go_grown) (by go_size) hb;have a0:=Qe h3 lw y0;have a1:=Qe h3 lw y1;have a2:=Qe h3 lw y2;have a3:=Qe h3 lw y3;have a4:=Qe h3 lw y4;have a5:=Qe h3 lw y5;have b0:=Qe h3 zY d0;have b1:=Qe h3 zY d1;have b2:=Qe h3 zY d2;clear hb)
    | (go_at_call 79;refine(Qcx (B:=X.heap.size) _ (Vp H3.out (by go_grown)) hB (by omega) g3.out).mono ?_;rintro z wz ⟨rfl,⟨m',hm',ho⟩,hb⟩;rw[nG (by rw[g1.out];decide)]at ho;have MZ:Hid (wz.ownsMap prog 26 YM B m' (D.put kl (.held (u #[f g (C k+x-a),f g (R k+y-b),t (rwS (Qi (x-a) (y-b)) (Qh (x-a) (y-b)) (S k))])))):=ho;have BZ:Hid (l X.heap.size X wz):=(Qb H5.out (by go_grown)).trans hb;clear ho hb))
   all_goals
    have C2:CmD (D.put kl (.held (u #[f g (C k+x-a),f g (R k+y-b),t (rwS (Qi (x-a) (y-b)) (Qh (x-a) (y-b)) (S k))]))) (cpF a b c d (x-a) (y-b) L0 (clE C R S (k+1))):=by
     have h9:=HC.out.on H3.out.isMap (x:=⟨C k+x-a,R k+y-b,rwS (Qi (x-a) (y-b)) (Qh (x-a) (y-b)) (S k)⟩) g3.out;rw[H4.out];refine CmD.permE h9 ?_;have h8:=Yp ⟨C k+x-a,R k+y-b,rwS (Qi (x-a) (y-b)) (Qh (x-a) (y-b)) (S k)⟩ (cpF a b c d (x-a) (y-b) L0 (clE C R S k));rw[nG (by rw[g1.out];decide)]at h8;exact h8.symm
    go_wp2_with fail
    go_roundw
    case rel=>exact⟨k+1,m',_,by omega,by go_num,by omega,MZ.out,C2,BZ.out⟩
    case measure=>simp[intOf];omega
  ·have h1: ¬(k:Int)<(n:Int):=by omega
   obtain rfl:k=n:=by omega
   go_wp2_with fail
   refine bodyPost_ret (v:= .map (some B)) ?_ rfl ⟨B,rfl,Nat.le_trans KX.out.size hB,m,D,HW.out,by have h9:=HC.out;rw[<-g2.out]at h9;exact h9,Qb KX.out HB.out⟩;simp (maxDischargeDepth:=9) [results,results56,go_sem, *]
end Go.Proofs.YtomadadmakdkgaaGreatDoor
