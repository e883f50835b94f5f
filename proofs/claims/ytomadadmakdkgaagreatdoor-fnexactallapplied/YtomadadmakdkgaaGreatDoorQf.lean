import Derived.Test.YtomadadmakdkgaaGreatDoorMn
import Derived.Test.YtomadadmakdkgaaGreatDoorQb
import Derived.Test.YtomadadmakdkgaaGreatDoorGzx
open Go.Proofs.Tryz
open Go.Value renaming int → f, agg → F, string → G, bool → K, slice → M
open Go.IntKind renaming i64 → s
open Go.RowKit renaming Below → u
open Go.Ending renaming returned → E
open Go renaming World → H, Calls → I
open Bool renaming and_eq_true → J
open Go.Obj renaming cells → L
set_option linter.unusedSimpArgs false
set_option linter.unusedVariables false
set_option maxHeartbeats 8000000
set_option maxRecDepth 100000
namespace Go.Proofs.YtomadadmakdkgaaGreatDoor
open Go.RowKit Go.Maps
variable {C R:Nat->Int} {S:Nat->ByteArray} {n:Nat} {d e:Int}
theorem Qyf{m:Nat}(h:(clE C R S n).Pairwise (fun a b=>ltC a b=true))(hm:m<=n):(clE C R S m).Pairwise (fun a b=>ltC a b=true):=by
 rw[List.pairwise_iff_getElem]at h ⊢;intro i j hi hj hij;rw[Yy]at hi hj;have h9:=h i j (by rw[Yy];omega) (by rw[Yy];omega) hij;simpa[clE]using h9
theorem Qne{cl:Bool}{k:Nat}(h:(clE C R S n).Pairwise (fun a b=>ltC a b=true))(he:1<=e)(hk:k<n)(hin:(cl&&inR d e (R k))=false):Kg (C k) (rI cl (R k) d e) (rwP cl d e (clE C R S k))=rwP cl d e (clE C R S k):=by
 have h1:=Qux (cl:=cl) (d:=d) he (Qyf h (m:=k+1) (by omega));rw[Qcf,hin,nG (by decide),List.pairwise_append]at h1;unfold Kg;rw[List.filter_eq_self];intro y hy;have h2:=of_decide_eq_true (h1.2.2 y hy _ (List.mem_singleton.2 rfl));simp only[mvC]at h2
 rw[decide_eq_false (by omega)];rfl
theorem Qyd{cl:Bool}{c r:Int}(h:Qf c r=true)(hk:Yf d e=true): ∃l,keyOf prog 26 (F #[f s c,f s (rI cl r d e)])=some l:=by
 unfold Qf at h;unfold Yf at hk;simp only[J,decide_eq_true_eq]at h hk;refine Qg0 c _ (Ub (by omega) (by omega)) ?_;unfold rI clI opI;split
 ·split
  ·exact Ub (by omega) (by omega)
  ·split
   ·exact Ub (by omega) (by omega)
   ·exact Ub (by omega) (by omega)
 ·split
  ·exact Ub (by omega) (by omega)
  ·exact Ub (by omega) (by omega)
theorem JF{k:Nat}(h:QA C R S n=true)(hk:k<n):(S k).size<=200/\(S k).toList.isEmpty=false:=by
 obtain⟨_,h2,h3⟩:=Qog h ⟨C k,R k,S k⟩ (List.mem_map.2 ⟨k,List.mem_range.2 hk,rfl⟩);exact⟨Qbd (Qgj h3),h2⟩
theorem Qky{A:Option Addr}{cap:Nat}(w:H)(h:ClRow w A n C R S)(hok:QA C R S n=true)(hg:GI w)(hk:Yf d e=true):
  I prog 54 #[F #[f s d,f s e],M A n cap] w fun z w'=> ∃(B m:Nat) (D:DataW Value),z= E (.map (some B))/\w.heap.size<=B/\w'.ownsMap prog 26 YM B m D/\CmD D (rwP false d e (clE C R S n))/\u w.heap.size w w':=by
 have HR:Hid (ClRow w A n C R S):=h;have H5:Hid (QA C R S n=true):=hok;have HG:Hid (GI w):=hg;have HK:Hid (Yf d e=true):=hk;unfold Yf at hk;simp only[J,decide_eq_true_eq]at hk;obtain⟨h120,h7,h6⟩:=Yj hok
 have H4:Hid (∀i,i<n->Qf (C i) (R i)=true):=h7;have g2:Hid ((clE C R S n).Pairwise (fun a b=>ltC a b=true)):=h6;clear h hok hg h7 h6;have hmm:= @run_makeMap prog;go_enter func54,ntmps54;go_wp2_with fail
 obtain⟨X,HX⟩: ∃X,Hid (w.alloc (L #[f s d,f s e] 100)=X):=⟨_,rfl⟩;rw[HX.out];have ZX:Hid (X.heap.size=w.heap.size+1):=by show _=_;rw[<-HX.out];simp
 have x0:X.cell? ⟨w.heap.size,0,none⟩=some (f s d):=by rw[<-HX.out];go_simp
 have x1:X.cell? ⟨w.heap.size,1,none⟩=some (f s e):=by rw[<-HX.out];go_simp
 have KX:Hid (u w.heap.size w X):=by rw[<-HX.out];show u _ _ _;go_grown
 have RX:=hd (HR.out.below KX.out);have GX:=hd (HG.out.below KX.out);clear HX HR HG;have H9:Hid (X.cell? ⟨w.heap.size,0,none⟩=some (f s d)/\X.cell? ⟨w.heap.size,1,none⟩=some (f s e)):=⟨x0,x1⟩;clear x0 x1;go_loopw [12] (fun i wr=> ∃(k m:Nat) (D:DataW Value),k<=n/\i= f s k/\m<=k/\wr.ownsMap prog 26 YM (w.heap.size+1) m D/\CmD D (rwP false d e (clE C R S k))/\u X.heap.size X wr) (fun i _=>n-(intOf i).toNat)
 case atStart=>exact⟨0,0,_,Nat.zero_le _,rfl,Nat.le_refl _,(by have h9:=World.ownsMap_made X prog 26 YM;rw[ZX.out]at h9;exact h9),CmD.nil,by go_grown⟩
 case round=>
  obtain⟨k,m,D,hkn,rfl,hm,h4,H1,h2⟩:=hrel;have HW:Hid (wr.ownsMap prog 26 YM (w.heap.size+1) m D):=h4;have HC:Hid (CmD D (rwP false d e (clE C R S k))):=H1;have HB:Hid (u X.heap.size X wr):=h2;clear h4 H1;by_cases h3:k<n
  ·obtain⟨br,o,rfl,hl,c0,c1,c2,_⟩:=RX.out.2 k h3;obtain⟨y0,y1⟩:=H9.out;have hs:=h2.size;have zX:w.heap.size<X.heap.size:=by have:=ZX.out;omega
   have zr:w.heap.size<wr.heap.size:=by omega
   replace c0:=Qe h2 hl c0;replace c1:=Qe h2 hl c1;replace c2:=Qe h2 hl c2;replace y0:=Qe h2 (by omega) y0;replace y1:=Qe h2 (by omega) y1;clear h2;have hl2:br<wr.heap.size:=Nat.lt_of_lt_of_le hl hs
   have h0:(0:Int)<=(k:Int):=by omega
   have h1:(k:Int)<(n:Int):=by omega
   have g1:Hid (1<=C k/\C k<=52/\1<=R k/\R k<=99):=by have h9:=H4.out k h3;unfold Qf at h9;have h8:=of_decide_eq_true h9;exact h8
   obtain⟨kl,H0⟩:=Qyd (cl:=false) (H4.out k h3) HK.out;have H6:Hid (keyOf prog 26 (F #[f s (C k),f s (opI (R k) d e)])=some kl):=H0;clear H0;go_wp2_with fail
   refine(Qgh (C k) (R k) false false d e _ (by have:=g1.out;omega) (by omega)).mono ?_;rintro z w1 ⟨rfl,hb⟩;have z1:wr.heap.size<w1.heap.size:=Nat.lt_of_lt_of_le (by go_size) hb.size;have d1:w1.cell? ⟨wr.heap.size,2,none⟩=some (G (S k)):=Qe hb (by go_size) (by go_simp);replace y0:w1.cell? ⟨w.heap.size,0,none⟩=some (f s d):=Qe hb (by go_size) (by go_simp);replace y1:w1.cell? ⟨w.heap.size,1,none⟩=some (f s e):=Qe hb (by go_size) (by go_simp);have H3:Hid (w1.ownsMap prog 26 YM (w.heap.size+1) m D):=Vp (HW.out.alloc _) hb
   have H8:Hid (u X.heap.size X w1):=(HB.out.alloc hs _).trans (hb.mono (by go_size));clear hb c0 c1 c2 HW HB;go_upto_region 6 with fail
   obtain⟨Y,HY⟩: ∃Y,Hid (w1.alloc (L #[f s (C k),f s (opI (R k) d e),K false,K false] 126)=Y):=⟨_,rfl⟩;rw[HY.out];have KY:Hid (u w1.heap.size w1 Y):=by rw[<-HY.out];show u _ _ _;go_grown
   have ZY:Hid (Y.heap.size=w1.heap.size+1):=by show _=_;rw[<-HY.out];simp
   have u0:Y.cell? ⟨w1.heap.size,0,none⟩=some (f s (C k)):=by rw[<-HY.out];go_simp
   have u1:Y.cell? ⟨w1.heap.size,1,none⟩=some (f s (opI (R k) d e)):=by rw[<-HY.out];go_simp
   replace d1:Y.cell? ⟨wr.heap.size,2,none⟩=some (G (S k)):=Qe KY.out z1 d1;replace y0:Y.cell? ⟨w.heap.size,0,none⟩=some (f s d):=Qe KY.out (by omega) y0;replace y1:Y.cell? ⟨w.heap.size,1,none⟩=some (f s e):=Qe KY.out (by omega) y1;have H2:Hid (Y.ownsMap prog 26 YM (w.heap.size+1) m D):=Vp H3.out KY.out;have H7:=hd (Qb H8.out KY.out);have zY:w1.heap.size<Y.heap.size:=by have:=ZY.out;omega
   have GY:=hd (GX.out.below H7.out);have g0:Hid ((S k).size<=200):=(JF H5.out h3).1;have g4:Hid ((rwS (Zw d e) (Zv d e) (S k)).toList.isEmpty=false):=Qfe (JF H5.out h3).2;have lw:w.heap.size<Y.heap.size:=by omega
   have lr:wr.heap.size<Y.heap.size:=by omega
   clear HY KY H3 H8;obtain⟨g,g5⟩: ∃g,Hid (w1.heap.size=g):=⟨_,rfl⟩;rw[g5.out]at u0 u1 zY ⊢
   go_region_with (first
    | (go_at_call 82;refine(Qqc d e w.heap.size _ g0.out (by go_size) (by go_simp) (by go_simp) (GY.out.below (by go_grown)) HK.out).mono ?_;rintro z wy ⟨rfl,hb⟩;obtain⟨h5,hz1⟩:=Qk (B:=Y.heap.size) (X:=Y) (by go_grown) (by go_size) hb;have v0:=Qe h5 zY u0;have v1:=Qe h5 zY u1;have MY:Hid (wy.ownsMap prog 26 YM (w.heap.size+1) m D):=Vp H2.out h5;have BY:Hid (u X.heap.size X wy):=Qb H7.out h5;clear hb h5)
    | (go_at_call 79;refine(Qcx (B:=X.heap.size) _ (Vp MY.out (by go_grown)) (by have:=ZX.out;omega) (by omega) H6.out).mono ?_;rintro z wz ⟨rfl,⟨m',hm',ho⟩,hb⟩;rw[nG (by rw[g4.out];decide)]at ho;have MZ:Hid (wz.ownsMap prog 26 YM (w.heap.size+1) m' (D.put kl (.held (F #[f s (C k),f s (opI (R k) d e),G (rwS (Zw d e) (Zv d e) (S k))])))):=ho;have BZ:Hid (u X.heap.size X wz):=(Qb BY.out (by go_grown)).trans hb;clear ho hb))
   all_goals
    have g3:Hid (rwP false d e (clE C R S (k+1))=rwP false d e (clE C R S k)++ [mvC false d e ⟨C k,R k,S k⟩]):=by show _=_;rw[Qcf];rfl
    have C2:CmD (D.put kl (.held (F #[f s (C k),f s (opI (R k) d e),G (rwS (Zw d e) (Zv d e) (S k))]))) (rwP false d e (clE C R S (k+1))):=by
     have h9:=HC.out.on H2.out.isMap (x:=mvC false d e ⟨C k,R k,S k⟩) H6.out;rw[g3.out];have h8:=Qne (cl:=false) (d:=d) g2.out (by omega) h3 (e:=e) rfl;rw[show(mvC false d e ⟨C k,R k,S k⟩).c=C k from rfl,show(mvC false d e ⟨C k,R k,S k⟩).r=rI false (R k) d e from rfl,h8]at h9;exact h9
    go_wp2_with fail
    go_roundw
    case rel=>exact⟨k+1,m',_,by omega,by go_num,by omega,MZ.out,C2,BZ.out⟩
    case measure=>simp[intOf];omega
  ·have h1: ¬(k:Int)<(n:Int):=by omega
   obtain rfl:k=n:=by omega
   go_wp2_with fail
   refine bodyPost_ret (v:= .map (some (w.heap.size+1))) ?_ rfl ⟨w.heap.size+1,rfl,by omega,m,D,HW.out,HC.out,Qb KX.out HB.out⟩;simp (maxDischargeDepth:=9) [results,results54,go_sem, *]
theorem Va{a b c:Int}(h:Ql a b c d=true):(1<=a/\a<=52)/\(1<=b/\b<=99)/\(1<=c/\c<=52)/\(1<=d/\d<=99)/\a<=c/\b<=d:=by
 obtain⟨r1,r2⟩:=Jb h;unfold Ql at h;unfold Qf at r1 r2;simp only[J,decide_eq_true_eq]at h r1 r2;omega
theorem GR(a b c d x y p q:Int)(w:H)(ha: -1000<=a/\a<=1000)(hb: -1000<=b/\b<=1000)(hx: -1000<=x/\x<=1000)(hy: -1000<=y/\y<=1000)(hp: -1000<=p/\p<=1000)(hq: -1000<=q/\q<=1000):
  I prog 90 #[F #[f s a,f s b,f s c,f s d,f s x,f s y],F #[f s p,f s q]] w fun z w'=>z= E (F #[f s (p+x-a),f s (q+y-b)])/\u w.heap.size w w':=by
 go_enter func90,ntmps90;go_wp2
 go_returns
 exact⟨rfl,by go_grown⟩
theorem DN(a b c d x y p q:Int)(w:H):
  I prog 90 #[F #[f s a,f s b,f s c,f s d,f s x,f s y],F #[f s p,f s q]] w fun z w'=>(∃p' q',z= E (F #[f s p',f s q']))/\u w.heap.size w w':=by
 go_enter func90,ntmps90;go_wp2
 go_returns
 exact⟨⟨_,_,rfl⟩,by go_grown⟩
theorem Mq(a b c d x y:Int)(w:H)(ha:Ql a b c d=true)(hr:Qf x y=true):
  I prog 89 #[F #[f s a,f s b,f s c,f s d,f s x,f s y]] w fun z w'=>z= E (F #[f s x,f s y,f s (c+x-a),f s (d+y-b)])/\u w.heap.size w w':=by
 have hs:=Va ha;unfold Qf at hr;have hr:=of_decide_eq_true hr;go_enter func89,ntmps89;go_wp2_with fail
 obtain⟨X,HX⟩: ∃X,Hid ((w.alloc (L #[f s a,f s b,f s c,f s d,f s x,f s y] 104)).alloc (L #[f s 0,f s 0,f s 0,f s 0] 28)=X):=⟨_,rfl⟩;rw[HX.out];have KX:Hid (u w.heap.size w X):=by rw[<-HX.out];show u _ _ _;go_grown
 have zX:w.heap.size+1<X.heap.size:=by rw[<-HX.out];simp
 have h0:w.heap.size<X.heap.size:=by omega
 have x0:X.cell? ⟨w.heap.size,0,none⟩=some (f s a):=by rw[<-HX.out];go_simp
 have x1:X.cell? ⟨w.heap.size,1,none⟩=some (f s b):=by rw[<-HX.out];go_simp
 have x2:X.cell? ⟨w.heap.size,2,none⟩=some (f s c):=by rw[<-HX.out];go_simp
 have x3:X.cell? ⟨w.heap.size,3,none⟩=some (f s d):=by rw[<-HX.out];go_simp
 have x4:X.cell? ⟨w.heap.size,4,none⟩=some (f s x):=by rw[<-HX.out];go_simp
 have x5:X.cell? ⟨w.heap.size,5,none⟩=some (f s y):=by rw[<-HX.out];go_simp
 have y0:X.cell? ⟨w.heap.size+1,0,none⟩=some (f s 0):=by rw[<-HX.out];go_simp
 have y1:X.cell? ⟨w.heap.size+1,1,none⟩=some (f s 0):=by rw[<-HX.out];go_simp
 have y2:X.cell? ⟨w.heap.size+1,2,none⟩=some (f s 0):=by rw[<-HX.out];go_simp
 have y3:X.cell? ⟨w.heap.size+1,3,none⟩=some (f s 0):=by rw[<-HX.out];go_simp
 have f0:X.frozen? ⟨w.heap.size+1,0,none⟩=false:=by rw[<-HX.out];go_simp
 have f1:X.frozen? ⟨w.heap.size+1,1,none⟩=false:=by rw[<-HX.out];go_simp
 have f2:X.frozen? ⟨w.heap.size+1,2,none⟩=false:=by rw[<-HX.out];go_simp
 have f3:X.frozen? ⟨w.heap.size+1,3,none⟩=false:=by rw[<-HX.out];go_simp
 clear HX
 go_region_with (first
  | (go_at_call 90;refine(GR a b c d x y c d _ (by omega) (by omega) (by omega) (by omega) (by omega) (by omega)).mono ?_;rintro z wq ⟨rfl,hb⟩;obtain⟨hk,hz⟩:=Qk (B:=X.heap.size) (X:=X) (by go_grown) (by go_size) hb;have u0:=Qe hk h0 x4;have u1:=Qe hk h0 x5;have v0:=Qe hk zX y0;have v1:=Qe hk zX y1;have v2:=Qe hk zX y2;have v3:=Qe hk zX y3;have e0:=(hk.frozen (p:=⟨w.heap.size+1,0,none⟩) zX).trans f0;have e1:=(hk.frozen (p:=⟨w.heap.size+1,1,none⟩) zX).trans f1;have e2:=(hk.frozen (p:=⟨w.heap.size+1,2,none⟩) zX).trans f2;have e3:=(hk.frozen (p:=⟨w.heap.size+1,3,none⟩) zX).trans f3;have KQ:Hid (u w.heap.size w wq):=Qb KX.out hk;clear hb hk))
 all_goals
  go_wp2_with fail
  refine bodyPost_ret (v:= F #[f s x,f s y,f s (c+x-a),f s (d+y-b)]) ?_ rfl ⟨rfl,?_⟩
  ·simp (maxDischargeDepth:=9) [results,results89,go_sem, *]
  ·exact(((KQ.out.setCell (by show _<=w.heap.size+1;omega) _).setCell (by show _<=w.heap.size+1;omega) _).setCell (by show _<=w.heap.size+1;omega) _).setCell (by show _<=w.heap.size+1;omega) _
theorem Qx5(p q a b c d r m:Int)(t:ByteArray)(w:H):I prog 33 #[F #[f s 1,f s p,f s q,G t,f s a,f s b,f s c,f s d,f s r,f s m]] w fun e w'=>
  e= E (.iface 92 (F #[f s p,f s q,G t]))/\u w.heap.size w w':=by
 go_enter func33,ntmps33;go_wp2
 go_ret;exact⟨rfl,by go_grown⟩
theorem Qx9(p q a b c d r m:Int)(t:ByteArray)(w:H):I prog 33 #[F #[f s 2,f s p,f s q,G t,f s a,f s b,f s c,f s d,f s r,f s m]] w fun e w'=>
  e= E (.iface 95 (F #[f s a,f s b,f s c,f s d]))/\u w.heap.size w w':=by
 go_enter func33,ntmps33;go_wp2
 go_ret;exact⟨rfl,by go_grown⟩
theorem Qx7(p q a b c d r m:Int)(t:ByteArray)(w:H):I prog 33 #[F #[f s 3,f s p,f s q,G t,f s a,f s b,f s c,f s d,f s r,f s m]] w fun e w'=>
  e= E (.iface 100 (F #[f s r,f s m]))/\u w.heap.size w w':=by
 go_enter func33,ntmps33;go_wp2
 go_ret;exact⟨rfl,by go_grown⟩
theorem Qx4(p q a b c d r m:Int)(t:ByteArray)(w:H):I prog 33 #[F #[f s 4,f s p,f s q,G t,f s a,f s b,f s c,f s d,f s r,f s m]] w fun e w'=>
  e= E (.iface 102 (F #[f s r,f s m]))/\u w.heap.size w w':=by
 go_enter func33,ntmps33;go_wp2
 go_ret;exact⟨rfl,by go_grown⟩
theorem Qx6(p q a b c d r m:Int)(t:ByteArray)(w:H):I prog 33 #[F #[f s 5,f s p,f s q,G t,f s a,f s b,f s c,f s d,f s r,f s m]] w fun e w'=>
  e= E (.iface 104 (F #[f s a,f s b,f s c,f s d,f s p,f s q]))/\u w.heap.size w w':=by
 go_enter func33,ntmps33;go_wp2
 go_ret;exact⟨rfl,by go_grown⟩
theorem Qx8(k p q a b c d r m:Int)(t:ByteArray)(w:H)(h1: ¬k=1)(h2: ¬k=2)(h3: ¬k=3)(h4: ¬k=4)(h5: ¬k=5):I prog 33 #[F #[f s k,f s p,f s q,G t,f s a,f s b,f s c,f s d,f s r,f s m]] w fun e w'=>
  e= E (.iface 107 (F #[]))/\u w.heap.size w w':=by
 go_enter func33,ntmps33;go_wp2
 go_ret;exact⟨rfl,by go_grown⟩
theorem Qi6(p q:Int)(t:ByteArray)(w:H):I prog 326 #[F #[f s p,f s q,G t]] w fun e w'=>
  e= E (K (Qf p q))/\u w.heap.size w w':=by
 go_enter func326,ntmps326;go_wp2_with fail
 refine(Zu p q _).mono ?_;rintro e w1 ⟨rfl,hb⟩;have KW:Hid (u w.heap.size w w1):=Qb (by go_grown) hb;clear hb;go_wp2_with fail
 go_ret;exact⟨rfl,KW.out⟩
theorem Qi8(w:H):I prog 330 #[F #[]] w fun e w'=>
  e= E (K false)/\u w.heap.size w w':=by
 go_enter func330,ntmps330;go_wp2
 go_ret;exact⟨rfl,by go_grown⟩
theorem Qn4(d e:Int)(w:H):I prog 328 #[F #[f s d,f s e]] w fun z w'=>
  z= E (K (Yf d e))/\u w.heap.size w w':=by
 obtain⟨o1,H1⟩: ∃o1,Hid (decide (1<=d/\d<=99)=o1):=⟨_,rfl⟩;obtain⟨o2,H2⟩: ∃o2,Hid (decide (1<=e/\e<=99)=o2):=⟨_,rfl⟩;have HV:Hid (Yf d e=(o1&&o2)):=by show _=_;unfold Yf;rw[H1.out,H2.out]
 go_enter func328,ntmps328;go_wp2_with fail
 refine(Bh d _).mono ?_;rintro z w1 ⟨rfl,hb⟩;rw[H1.out];have x1:w1.cell? ⟨w.heap.size,1,none⟩=some (f s e):=Qe hb (by go_size) (by go_simp);have zw:w.heap.size<w1.heap.size:=Nat.lt_of_lt_of_le (by go_size) hb.size;have KW:Hid (u w.heap.size w w1):=Qb (by go_grown) hb;clear hb
 cases o1
 ·go_wp2_with fail
  go_ret;exact⟨Qc HV.out.symm,KW.out⟩
 ·go_wp2_with fail
  refine(Bh e _).mono ?_;rintro z w2 ⟨rfl,hb⟩;rw[H2.out];have K2:=hd (Qb KW.out hb);clear hb;go_wp2_with fail
  go_ret;exact⟨Qc HV.out.symm,K2.out⟩
end Go.Proofs.YtomadadmakdkgaaGreatDoor
