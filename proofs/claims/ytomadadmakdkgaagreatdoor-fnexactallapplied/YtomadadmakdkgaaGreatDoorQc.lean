import Derived.Test.YtomadadmakdkgaaGreatDoorQg
open Go.Proofs.Tryz
open Go.Value renaming int → l, slice → H, tuple → K, bool → O, string → T, agg → V
open Go.IntKind renaming i64 → G, wrap_i64 → Y
open Go renaming bodyPost_ret → I, results → N, Value → Z, wp_region_held_drew → jc
open Go.RowKit renaming Below → J, run_makeMap → jd
open Go.Instr renaming typeAssert → Q
open Go.Ending renaming returned → U
open Bool renaming and_false → ja, and_eq_true → je
open Go.Obj renaming cells → jb
set_option linter.unusedSimpArgs false
set_option linter.unusedVariables false
set_option maxHeartbeats 16000000
set_option maxRecDepth 100000
namespace Go.Proofs.YtomadadmakdkgaaGreatDoor
open Go.RowKit Go.Maps
variable {W:World} {b k p q a c d r m:Int} {t:ByteArray} {E:List CL} {C R:Nat->Int} {S:Nat->ByteArray} {n cap:Nat} {A:Option Addr}
theorem Qn{B:Nat}{W':World}(hb:J B W W'){b o:Nat}{v:Z}(hl:b<B)(hc:W.cell? ⟨b,o,none⟩=some v):W'.cell? ⟨b,o,none⟩=some v:=(hb.cell (p:=⟨b,o,none⟩) hl).trans hc
structure edG (W:World) (g:Nat) (k p q:Int) (t:ByteArray) (a b c d r m:Int):Prop where
 lt:g<W.heap.size
 c0:W.cell? ⟨g,0,none⟩=some (l G k)
 c1:W.cell? ⟨g,1,none⟩=some (l G p)
 c2:W.cell? ⟨g,2,none⟩=some (l G q)
 c3:W.cell? ⟨g,3,none⟩=some (T t)
 c4:W.cell? ⟨g,4,none⟩=some (l G a)
 c5:W.cell? ⟨g,5,none⟩=some (l G b)
 c6:W.cell? ⟨g,6,none⟩=some (l G c)
 c7:W.cell? ⟨g,7,none⟩=some (l G d)
 c8:W.cell? ⟨g,8,none⟩=some (l G r)
 c9:W.cell? ⟨g,9,none⟩=some (l G m)
theorem Qhb(w:World)(k p q a b c d r m:Int)(t:ByteArray):edG (w.alloc (jb #[l G k,l G p,l G q,T t,l G a,l G b,l G c,l G d,l G r,l G m] 30)) w.heap.size k p q t a b c d r m:=by
 constructor<;>simp
theorem edG.below{W':World}{g:Nat}(h:edG W g k p q t a b c d r m)(hb:J W.heap.size W W'):edG W' g k p q t a b c d r m:=
 ⟨Nat.lt_of_lt_of_le h.lt hb.size,Qn hb h.lt h.c0,Qn hb h.lt h.c1,Qn hb h.lt h.c2,Qn hb h.lt h.c3,Qn hb h.lt h.c4,Qn hb h.lt h.c5,Qn hb h.lt h.c6,Qn hb h.lt h.c7,Qn hb h.lt h.c8,Qn hb h.lt h.c9⟩
def apO(C R:Nat->Int)(S:Nat->ByteArray)(n:Nat)(res:Option (List CL)):Option (List CL):=if QA C R S n=true then res else none
theorem Ez(a b c d x y:Int)(w:World):
  Calls prog 89 #[V #[l G a,l G b,l G c,l G d,l G x,l G y]] w fun z w'=>(∃p' q',z= U (V #[l G x,l G y,l G p',l G q']))/\J w.heap.size w w':=by
 go_enter func89,ntmps89;go_wp2_with fail
 obtain⟨X,HX⟩: ∃X,Hid ((w.alloc (jb #[l G a,l G b,l G c,l G d,l G x,l G y] 104)).alloc (jb #[l G 0,l G 0,l G 0,l G 0] 28)=X):=⟨_,rfl⟩;rw[HX.out];have KX:Hid (J w.heap.size w X):=by rw[<-HX.out];show J _ _ _;go_grown
 have zX:w.heap.size+1<X.heap.size:=by rw[<-HX.out];simp
 have h0:w.heap.size<X.heap.size:=by omega
 have x0:X.cell? ⟨w.heap.size,0,none⟩=some (l G a):=by rw[<-HX.out];go_simp
 have x1:X.cell? ⟨w.heap.size,1,none⟩=some (l G b):=by rw[<-HX.out];go_simp
 have x2:X.cell? ⟨w.heap.size,2,none⟩=some (l G c):=by rw[<-HX.out];go_simp
 have x3:X.cell? ⟨w.heap.size,3,none⟩=some (l G d):=by rw[<-HX.out];go_simp
 have x4:X.cell? ⟨w.heap.size,4,none⟩=some (l G x):=by rw[<-HX.out];go_simp
 have x5:X.cell? ⟨w.heap.size,5,none⟩=some (l G y):=by rw[<-HX.out];go_simp
 have y0:X.cell? ⟨w.heap.size+1,0,none⟩=some (l G 0):=by rw[<-HX.out];go_simp
 have y1:X.cell? ⟨w.heap.size+1,1,none⟩=some (l G 0):=by rw[<-HX.out];go_simp
 have y2:X.cell? ⟨w.heap.size+1,2,none⟩=some (l G 0):=by rw[<-HX.out];go_simp
 have y3:X.cell? ⟨w.heap.size+1,3,none⟩=some (l G 0):=by rw[<-HX.out];go_simp
 have f0:X.frozen? ⟨w.heap.size+1,0,none⟩=false:=by rw[<-HX.out];go_simp
 have f1:X.frozen? ⟨w.heap.size+1,1,none⟩=false:=by rw[<-HX.out];go_simp
 have f2:X.frozen? ⟨w.heap.size+1,2,none⟩=false:=by rw[<-HX.out];go_simp
 have f3:X.frozen? ⟨w.heap.size+1,3,none⟩=false:=by rw[<-HX.out];go_simp
 clear HX
 go_region_with (first
  | (go_at_call 90;refine(DN a b c d x y c d _).mono ?_;rintro z wq ⟨⟨p',q',rfl⟩,hb⟩;obtain⟨hk,hz⟩:=Qk (B:=X.heap.size) (X:=X) (by go_grown) (by go_size) hb;have u0:=Qe hk h0 x4;have u1:=Qe hk h0 x5;have v0:=Qe hk zX y0;have v1:=Qe hk zX y1;have v2:=Qe hk zX y2;have v3:=Qe hk zX y3;have e0:=(hk.frozen (p:=⟨w.heap.size+1,0,none⟩) zX).trans f0;have e1:=(hk.frozen (p:=⟨w.heap.size+1,1,none⟩) zX).trans f1;have e2:=(hk.frozen (p:=⟨w.heap.size+1,2,none⟩) zX).trans f2;have e3:=(hk.frozen (p:=⟨w.heap.size+1,3,none⟩) zX).trans f3;have KQ:Hid (J w.heap.size w wq):=Qb KX.out hk;clear hb hk))
 all_goals
  go_wp2_with fail
  refine I (v:= V #[l G x,l G y,l G p',l G q']) ?_ rfl ⟨⟨_,_,rfl⟩,?_⟩
  ·simp (maxDischargeDepth:=9) [N,results89,go_sem, *]
  ·exact(((KQ.out.setCell (by show _<=w.heap.size+1;omega) _).setCell (by show _<=w.heap.size+1;omega) _).setCell (by show _<=w.heap.size+1;omega) _).setCell (by show _<=w.heap.size+1;omega) _
def cpI(a b c d p q:Int):Bool:=Ql a b c d&&Ql p q (c+p-a) (d+q-b)
theorem Qau(h:Qf a b=false):Ql a b c d=false:=by unfold Ql;rw[h];rfl
theorem Qi7(a b c d p q:Int)(w:World):Calls prog 329 #[V #[l G a,l G b,l G c,l G d,l G p,l G q]] w fun z w'=>
  z= U (O (cpI a b c d p q))/\J w.heap.size w w':=by
 obtain⟨ao,h2⟩: ∃ao,Hid (Ql a b c d=ao):=⟨_,rfl⟩;obtain⟨ro,h1⟩: ∃ro,Hid (Qf p q=ro):=⟨_,rfl⟩;obtain⟨tt,h0⟩: ∃tt,Hid (Ql p q (c+p-a) (d+q-b)=tt):=⟨_,rfl⟩;have HV:Hid (cpI a b c d p q=(ao&&tt)):=by show _=_;unfold cpI;rw[h2.out,h0.out]
 go_enter func329,ntmps329;go_wp2_with fail
 obtain⟨X,HX⟩: ∃X,Hid (w.alloc (jb #[l G a,l G b,l G c,l G d,l G p,l G q] 104)=X):=⟨_,rfl⟩;rw[HX.out];have x0:X.cell? ⟨w.heap.size,0,none⟩=some (l G a):=by rw[<-HX.out];go_simp
 have x1:X.cell? ⟨w.heap.size,1,none⟩=some (l G b):=by rw[<-HX.out];go_simp
 have x2:X.cell? ⟨w.heap.size,2,none⟩=some (l G c):=by rw[<-HX.out];go_simp
 have x3:X.cell? ⟨w.heap.size,3,none⟩=some (l G d):=by rw[<-HX.out];go_simp
 have x4:X.cell? ⟨w.heap.size,4,none⟩=some (l G p):=by rw[<-HX.out];go_simp
 have x5:X.cell? ⟨w.heap.size,5,none⟩=some (l G q):=by rw[<-HX.out];go_simp
 have zX:w.heap.size<X.heap.size:=by rw[<-HX.out];simp
 have KX:Hid (J w.heap.size w X):=by rw[<-HX.out];show J _ _ _;go_grown
 clear HX;refine(YJ a b c d _).mono ?_;rintro z w1 ⟨rfl,hb⟩;rw[h2.out];replace x0:=Qe hb zX x0;replace x1:=Qe hb zX x1;replace x2:=Qe hb zX x2
 replace x3:=Qe hb zX x3;replace x4:=Qe hb zX x4;replace x5:=Qe hb zX x5;have K1:=hd (Qb KX.out hb);clear hb KX;cases ao
 ·go_wp2_with fail
  go_ret;exact⟨Qc HV.out.symm,K1.out⟩
 cases ro
 ·have h3:Hid (tt=false):=by show _=_;rw[<-h0.out];exact Qau h1.out
  go_wp2_with fail
  refine(Ez a b c d p q _).mono ?_;rintro z w2 ⟨⟨p',q',rfl⟩,hb⟩;have K2:=hd (Qb K1.out hb);clear hb;go_wp2_with fail
  refine(YJ p q p' q' _).mono ?_;rintro z w3 ⟨rfl,hb⟩;rw[Qau h1.out];have K3:=hd (Qb K2.out hb);clear hb;go_wp2_with fail
  go_ret;exact⟨Qc (by rw[HV.out,h3.out];rfl),K3.out⟩
 ·go_wp2_with fail
  refine(Mq a b c d p q _ h2.out h1.out).mono ?_;rintro z w2 ⟨rfl,hb⟩;have K2:=hd (Qb K1.out hb);clear hb;go_wp2_with fail
  refine(YJ p q _ _ _).mono ?_;rintro z w3 ⟨rfl,hb⟩;rw[h0.out];have K3:=hd (Qb K2.out hb);clear hb;go_wp2_with fail
  go_ret;exact⟨Qc (by rw[HV.out];rfl),K3.out⟩
def cpM(a b c d p q:Int)(E:List CL):List CL:=cpF a b c d (p-a) (q-b) (ZM p q (c+p-a) (d+q-b) E) E
def cpO(a b c d p q:Int)(E:List CL):Option (List CL):=if cpI a b c d p q=true then(if(decide ((cpM a b c d p q E).length<=120)&&cpG a b c d (p-a) (q-b) E)=true then some (cpM a b c d p q E)else none)else none
theorem Oi(h:cpI a b c d p q=false):cpO a b c d p q E=none:=by unfold cpO;rw[nG (by rw[h];decide)]
theorem Oh(h:(decide ((cpM a b c d p q E).length<=120)&&cpG a b c d (p-a) (q-b) E)=false):cpO a b c d p q E=none:=by unfold cpO;split;rw[nG (by rw[h];decide)];rfl
theorem Qhi(h:cpI a b c d p q=true)(h2:(decide ((cpM a b c d p q E).length<=120)&&cpG a b c d (p-a) (q-b) E)=true):cpO a b c d p q E=some (cpM a b c d p q E):=by unfold cpO;rw[pS h,pS h2]
theorem Qu6(h:QA C R S n=true)(ha:Ql a b c d=true)(ht:Ql p q (c+p-a) (d+q-b)=true){M:List CL}(hM:cpM a b c d p q (clE C R S n)=M)(hs: ∀x∈clE C R S n,x.s.size<=maxLen):
  M.Pairwise (fun a b=>ltC a b=true)/\QA (XH M) (XG M) (XT M) M.length=(decide (M.length<=120)&&cpG a b c d (p-a) (q-b) (clE C R S n))/\(∀x∈M,x.s.size<=maxLen)/\M.length<=240:=by
 have e1:ZM p q (c+p-a) (d+q-b) (clE C R S n)=ZM (a+(p-a)) (b+(q-b)) (c+(p-a)) (d+(q-b)) (clE C R S n):=by
  rw[show a+(p-a)=p by omega,show b+(q-b)=q by omega,show c+(p-a)=c+p-a by omega,show d+(q-b)=d+q-b by omega]
 have h0:=hM;unfold cpM at hM h0;rw[e1]at hM;obtain⟨h1,h2⟩:=Qxe h (by rw[show a+(p-a)=p by omega,show b+(q-b)=q by omega,show c+(p-a)=c+p-a by omega,show d+(q-b)=d+q-b by omega];exact ht) hM;refine⟨h1,h2,?_,?_⟩
 ·rw[<-h0];exact Qs1 (fun y hy=>hs y (List.mem_filter.1 hy).1) hs
 ·rw[<-h0];have h3:=Qhj a b c d (p-a) (q-b) (ZM p q (c+p-a) (d+q-b) (clE C R S n)) (clE C R S n);have h4:(ZM p q (c+p-a) (d+q-b) (clE C R S n)).length<=(clE C R S n).length:=List.length_filter_le _ _;have h5:=(Yj h).1;rw[Yy]at h3 h4;omega
theorem Qf9(h:ClRow W A n C R S): ∀x∈clE C R S n,x.s.size<=maxLen:=fun x hx=>by
 obtain⟨i,hi,rfl⟩:=List.mem_map.1 hx;obtain⟨_,_,_,_,_,_,_,h9⟩:=h.2 i (List.mem_range.1 hi);exact h9
theorem Qvz(v:Z)(w:World):(Q (.iface 100 v) 63 92 true).run prog w= .ok (K #[V #[l G 0,l G 0,T ⟨#[]⟩],O false]) w:=by kernel_rfl
theorem Qv2(v:Z)(w:World):(Q (.iface 100 v) 63 95 true).run prog w= .ok (K #[V #[l G 0,l G 0,l G 0,l G 0],O false]) w:=by kernel_rfl
theorem Qv0(v:Z)(w:World):(Q (.iface 100 v) 63 100 true).run prog w= .ok (K #[v,O true]) w:=by kernel_rfl
theorem Qrq{e:Int}(w:World)(h:ClRow w A n C R S)(hok:QA C R S n=true)(hg:GI w):
  Calls prog 32 #[H A n cap,.iface 100 (V #[l G d,l G e])] w fun z w'=>EnR w.heap.size w' (rwO false d e (clE C R S n)) z/\J w.heap.size w w':=by
 have HR:Hid (ClRow w A n C R S):=h;have HG:Hid (GI w):=hg;have h3:Hid (QA C R S n=true):=hok;clear h hg hok;obtain⟨ao,h1⟩: ∃ao,Hid (Yf d e=ao):=⟨_,rfl⟩;have hmm:= @jd prog;go_enter func32,ntmps32
 go_wp2_with fail
 refine(Qn4 d e _).mono ?_;rintro z w1 ⟨rfl,hb⟩;rw[h1.out];have K1:Hid (J w.heap.size w w1):=hb;clear hb;cases ao
 ·have HV:Hid (rwO false d e (clE C R S n)=none):=Qf5 h1.out;go_wp2_with fail
  refine I (v:= K #[H none 0 0,O false]) ?_ rfl ⟨?_,K1.out⟩
  ·simp (maxDischargeDepth:=9) [N,results32,go_sem, *]
  ·rw[HV.out];exact rfl
 have H1:1<=e:=by have h9:=h1.out;unfold Yf at h9;simp only[je,decide_eq_true_eq]at h9;omega
 have H5:Hid ((clE C R S n).Pairwise (fun a b=>ltC a b=true)):=(Yj h3.out).2.2;have h120:n<=120:=(Yj h3.out).1;have h6:=Qvz;have h5:=Qv2;have h4:=Qv0;go_wp2_with fail
 clear h6 h5 h4;refine(Qky (d:=d) (e:=e) _ (HR.out.below (Qb K1.out (by go_grown))) h3.out (HG.out.below (Qb K1.out (by go_grown))) h1.out).mono ?_;rintro z w2 ⟨B,m,D,rfl,hB,ho,hcm,hb⟩;have HM:Hid (w2.ownsMap prog 26 YM B m D):=ho;have H4:Hid (CmD D (rwP false d e (clE C R S n))):=hcm;have K2:Hid (J w.heap.size w w2):=Qb (Qb K1.out (by go_grown)) hb;clear ho hcm hb hB
 have h2:=Qyh (cl:=false) (d:=d) h3.out H1;have h7:=Qt2 (cl:=false) (d:=d) (e:=e) (Qf9 HR.out);have h8:=Qux (cl:=false) (d:=d) H1 H5.out;have H3:=Qf3 false d e C R S n;obtain⟨M,H2⟩: ∃M,Hid (rwP false d e (clE C R S n)=M):=⟨_,rfl⟩;rw[H2.out]at h2 h7 h8 H3 H4;have HZ:Hid (∀x∈M,x.s.size<=maxLen):=h7
 have HP:Hid (M.Pairwise (fun a b=>ltC a b=true)):=h8;obtain⟨mm,h0⟩: ∃mm,Hid (M.length=mm):=⟨_,rfl⟩;obtain⟨gd,H0⟩: ∃gd,Hid (rwG false d e (clE C R S n)=gd):=⟨_,rfl⟩;rw[h0.out,H0.out]at h2;have hmm2:mm<=120:=by have:=h0.out;omega
 have HS:Hid (QA (XH M) (XG M) (XT M) mm=gd):=h2;clear h2 h7 h8 H3;go_wp2_with fail
 refine(Vj _ HM.out H4.out (by rw[h0.out];omega)).mono ?_;rintro z w3 ⟨A',c',M',rfl,hp,hpw,ho,hb⟩;have H7:Hid (M'=M):=Qad hpw HP.out hp;rw[H7.out,h0.out]at ho;rw[h0.out];have HO:Hid (w3.ownsRow w.heap.size 70 3 (H A' mm c') mm (QH CL.cs M)):=Go.Proofs.ownsRow_base_a ho K2.out.size;have K3:=hd (Qb K2.out hb)
 have R3:Hid (ClRow w3 A' mm (XH M) (XG M) (XT M)):=YG ho h0.out HZ.out;clear ho hb hp hpw;go_wp2_with fail
 refine(YZ _ R3.out (HG.out.below K3.out)).mono ?_;rintro z w4 ⟨rfl,hb⟩;rw[HS.out];have H6:=hd (Qd HO.out hb);have K4:=hd (Qb K3.out hb);clear hb;cases gd
 ·have HV:Hid (rwO false d e (clE C R S n)=none):=Jw H0.out;go_wp2_with fail
  refine I (v:= K #[H none 0 0,O false]) ?_ rfl ⟨?_,K4.out⟩
  ·simp (maxDischargeDepth:=9) [N,results32,go_sem, *]
  ·rw[HV.out];exact rfl
 ·have HV:Hid (rwO false d e (clE C R S n)=some M):=by show _=_;rw[Qf4 h1.out H0.out,H2.out]
  go_wp2_with fail
  refine I (v:= K #[H A' mm c',O true]) ?_ rfl ⟨?_,K4.out⟩
  ·simp (maxDischargeDepth:=9) [N,results32,go_sem, *]
  ·rw[HV.out];exact⟨A',c',mm,rfl,h0.out,H6.out⟩
theorem Qv3(v:Z)(w:World):(Q (.iface 102 v) 63 92 true).run prog w= .ok (K #[V #[l G 0,l G 0,T ⟨#[]⟩],O false]) w:=by kernel_rfl
theorem Qxp(v:Z)(w:World):(Q (.iface 102 v) 63 95 true).run prog w= .ok (K #[V #[l G 0,l G 0,l G 0,l G 0],O false]) w:=by kernel_rfl
theorem Qxd(v:Z)(w:World):(Q (.iface 102 v) 63 100 true).run prog w= .ok (K #[V #[l G 0,l G 0],O false]) w:=by kernel_rfl
theorem Qxo(v:Z)(w:World):(Q (.iface 102 v) 63 102 true).run prog w= .ok (K #[v,O true]) w:=by kernel_rfl
theorem Qqo{e:Int}(w:World)(h:ClRow w A n C R S)(hok:QA C R S n=true)(hg:GI w):
  Calls prog 32 #[H A n cap,.iface 102 (V #[l G d,l G e])] w fun z w'=>EnR w.heap.size w' (rwO true d e (clE C R S n)) z/\J w.heap.size w w':=by
 have HR:Hid (ClRow w A n C R S):=h;have HG:Hid (GI w):=hg;have h3:Hid (QA C R S n=true):=hok;clear h hg hok;obtain⟨ao,h1⟩: ∃ao,Hid (Yf d e=ao):=⟨_,rfl⟩;have hmm:= @jd prog;go_enter func32,ntmps32
 go_wp2_with fail
 refine(Qn4 d e _).mono ?_;rintro z w1 ⟨rfl,hb⟩;rw[h1.out];have K1:Hid (J w.heap.size w w1):=hb;clear hb;cases ao
 ·have HV:Hid (rwO true d e (clE C R S n)=none):=Qf5 h1.out;go_wp2_with fail
  refine I (v:= K #[H none 0 0,O false]) ?_ rfl ⟨?_,K1.out⟩
  ·simp (maxDischargeDepth:=9) [N,results32,go_sem, *]
  ·rw[HV.out];exact rfl
 have H2:1<=e:=by have h9:=h1.out;unfold Yf at h9;simp only[je,decide_eq_true_eq]at h9;omega
 have H6:Hid ((clE C R S n).Pairwise (fun a b=>ltC a b=true)):=(Yj h3.out).2.2;have h120:n<=120:=(Yj h3.out).1;have h7:=Qv3;have h6:=Qxp;have h5:=Qxd;have h4:=Qxo;go_wp2_with fail
 clear h7 h6 h5 h4;refine(Qmv (d:=d) (e:=e) _ (HR.out.below (Qb K1.out (by go_grown))) h3.out (HG.out.below (Qb K1.out (by go_grown))) h1.out).mono ?_;rintro z w2 ⟨B,m,D,rfl,hB,ho,hcm,hb⟩;have HM:Hid (w2.ownsMap prog 26 YM B m D):=ho;have H5:Hid (CmD D (rwP true d e (clE C R S n))):=hcm;have K2:Hid (J w.heap.size w w2):=Qb (Qb K1.out (by go_grown)) hb;clear ho hcm hb hB
 have h2:=Qyh (cl:=true) (d:=d) h3.out H2;have h8:=Qt2 (cl:=true) (d:=d) (e:=e) (Qf9 HR.out);have H0:=Qux (cl:=true) (d:=d) H2 H6.out;have H4:=Qf3 true d e C R S n;obtain⟨M,H3⟩: ∃M,Hid (rwP true d e (clE C R S n)=M):=⟨_,rfl⟩;rw[H3.out]at h2 h8 H0 H4 H5;have HZ:Hid (∀x∈M,x.s.size<=maxLen):=h8
 have HP:Hid (M.Pairwise (fun a b=>ltC a b=true)):=H0;obtain⟨mm,h0⟩: ∃mm,Hid (M.length=mm):=⟨_,rfl⟩;obtain⟨gd,H1⟩: ∃gd,Hid (rwG true d e (clE C R S n)=gd):=⟨_,rfl⟩;rw[h0.out,H1.out]at h2;have hmm2:mm<=120:=by have:=h0.out;omega
 have HS:Hid (QA (XH M) (XG M) (XT M) mm=gd):=h2;clear h2 h8 H0 H4;go_wp2_with fail
 refine(Vj _ HM.out H5.out (by rw[h0.out];omega)).mono ?_;rintro z w3 ⟨A',c',M',rfl,hp,hpw,ho,hb⟩;have H8:Hid (M'=M):=Qad hpw HP.out hp;rw[H8.out,h0.out]at ho;rw[h0.out];have HO:Hid (w3.ownsRow w.heap.size 70 3 (H A' mm c') mm (QH CL.cs M)):=Go.Proofs.ownsRow_base_a ho K2.out.size;have K3:=hd (Qb K2.out hb)
 have R3:Hid (ClRow w3 A' mm (XH M) (XG M) (XT M)):=YG ho h0.out HZ.out;clear ho hb hp hpw;go_wp2_with fail
 refine(YZ _ R3.out (HG.out.below K3.out)).mono ?_;rintro z w4 ⟨rfl,hb⟩;rw[HS.out];have H7:=hd (Qd HO.out hb);have K4:=hd (Qb K3.out hb);clear hb;cases gd
 ·have HV:Hid (rwO true d e (clE C R S n)=none):=Jw H1.out;go_wp2_with fail
  refine I (v:= K #[H none 0 0,O false]) ?_ rfl ⟨?_,K4.out⟩
  ·simp (maxDischargeDepth:=9) [N,results32,go_sem, *]
  ·rw[HV.out];exact rfl
 ·have HV:Hid (rwO true d e (clE C R S n)=some M):=by show _=_;rw[Qf4 h1.out H1.out,H3.out]
  go_wp2_with fail
  refine I (v:= K #[H A' mm c',O true]) ?_ rfl ⟨?_,K4.out⟩
  ·simp (maxDischargeDepth:=9) [N,results32,go_sem, *]
  ·rw[HV.out];exact⟨A',c',mm,rfl,h0.out,H7.out⟩
theorem Qbs(v:Z)(w:World):(Q (.iface 92 v) 63 92 true).run prog w= .ok (K #[v,O true]) w:=by kernel_rfl
theorem Qo2(w:World):
  Calls prog 32 #[H A n cap,.iface 107 (V #[])] w fun z w'=>z= U (K #[H none 0 0,O false])/\J w.heap.size w w':=by
 go_enter func32,ntmps32;go_wp2_with fail
 refine(Qi8 _).mono ?_;rintro z w1 ⟨rfl,hb⟩;go_wp2_with fail
 refine I (v:= K #[H none 0 0,O false]) ?_ rfl ⟨rfl,hb⟩;simp (maxDischargeDepth:=9) [N,results32,go_sem, *]
theorem Qo0(w:World)(h:ClRow w A n C R S)(ht:t.size<=maxLen)(hg:GI w):
  Calls prog 32 #[H A n cap,.iface 92 (V #[l G p,l G q,T t])] w fun z w'=>EnR w.heap.size w' (enF C R S n p q t) z/\J w.heap.size w w':=by
 have HR:Hid (ClRow w A n C R S):=h;have HG:Hid (GI w):=hg;have HT:Hid (t.size<=maxLen):=ht;clear h hg ht;obtain⟨rk,h0⟩: ∃rk,Hid (Qf p q=rk):=⟨_,rfl⟩;have hmm:= @jd prog;go_enter func32,ntmps32
 go_wp2_with fail
 refine(Qi6 p q t _).mono ?_;rintro z w1 ⟨rfl,hb⟩;rw[h0.out];have K1:Hid (J w.heap.size w w1):=hb;clear hb;cases rk
 ·have HV:Hid (enF C R S n p q t=none):=Qao h0.out;go_wp2_with fail
  refine I (v:= K #[H none 0 0,O false]) ?_ rfl ⟨?_,K1.out⟩
  ·simp (maxDischargeDepth:=9) [N,results32,go_sem, *]
  ·rw[HV.out];exact rfl
 have h1:=Qbs;go_wp2_with fail
 clear h1;refine(Qep _ (HR.out.below (Qb K1.out (by go_grown))) HT.out (HG.out.below (Qb K1.out (by go_grown)))).mono ?_;rintro z w2 ⟨he,hb⟩;have K2:Hid (J w.heap.size w w2):=Qb (Qb K1.out (by go_grown)) hb;clear hb;cases hen:enF C R S n p q t with
 | none=>
  rw[hen]at he;obtain rfl:z= U (K #[H none 0 0,O false]):=he;go_wp2_with fail
  refine I (v:= K #[H none 0 0,O false]) ?_ rfl ⟨?_,K2.out⟩
  ·simp (maxDischargeDepth:=9) [N,results32,go_sem, *]
  ·rw[hen];exact rfl
 | some M=>
  rw[hen]at he;obtain⟨A3,c3,m,rfl,hm,ho⟩:=he;have h2:Hid (w2.ownsRow w.heap.size 70 3 (H A3 m c3) m (QH CL.cs M)):=Go.Proofs.ownsRow_base_a ho (by have:=K1.out.size;simp;omega);clear ho;go_wp2_with fail
  refine I (v:= K #[H A3 m c3,O true]) ?_ rfl ⟨?_,K2.out⟩
  ·simp (maxDischargeDepth:=9) [N,results32,go_sem, *]
  ·rw[hen];exact⟨A3,c3,m,rfl,hm,h2.out⟩
def EnW(B:Nat)(w':World)(r:Option (List CL))(e:Ending):Prop:=match r with
 | some L=>EnR B w' (some L) e
 | none=> ∃v,e= U (K #[v,O false])
theorem EnR.w{B:Nat}{w':World}{r:Option (List CL)}{e:Ending}(h:EnR B w' r e):EnW B w' r e:=by
 cases r with
 | none=>exact⟨_,h⟩
 | some L=>exact h
theorem Qj1{e1 e2 e8 e9:Int}{et:ByteArray}(w:World)(h:ClRow w A n C R S)(hn:n<=10000):
  Calls prog 35 #[H A n cap,V #[l G 2,l G e1,l G e2,T et,l G a,l G b,l G c,l G d,l G e8,l G e9]] w fun e w'=>EnR w.heap.size w' (Na a b c d C R S n) e/\J w.heap.size w w':=by
 have HR:Hid (ClRow w A n C R S):=h;clear h;obtain⟨ao,H1⟩: ∃ao,Hid (Ql a b c d=ao):=⟨_,rfl⟩;go_enter func35,ntmps35;go_wp2_with fail
 obtain⟨X,HX⟩: ∃X,Hid (w.alloc (jb #[l G 2,l G e1,l G e2,T et,l G a,l G b,l G c,l G d,l G e8,l G e9] 30)=X):=⟨_,rfl⟩;rw[HX.out];have zX:X.heap.size=w.heap.size+1:=by rw[<-HX.out];simp
 have x0:X.cell? ⟨w.heap.size,4,none⟩=some (l G a):=by rw[<-HX.out];go_simp
 have x1:X.cell? ⟨w.heap.size,5,none⟩=some (l G b):=by rw[<-HX.out];go_simp
 have x2:X.cell? ⟨w.heap.size,6,none⟩=some (l G c):=by rw[<-HX.out];go_simp
 have x3:X.cell? ⟨w.heap.size,7,none⟩=some (l G d):=by rw[<-HX.out];go_simp
 have KX:Hid (J w.heap.size w X):=by rw[<-HX.out];show J _ _ _;go_grown
 have RX:=hd (HR.out.below KX.out);clear HX HR;obtain⟨g,HG⟩: ∃g,Hid (w.heap.size=g):=⟨_,rfl⟩;rw[HG.out]at x0 x1 x2 x3 zX ⊢;refine(YH a b c d _).mono ?_;rintro e w1 ⟨rfl,hb⟩;rw[H1.out]
 replace x0:=Qe hb (by omega) x0;replace x1:=Qe hb (by omega) x1;replace x2:=Qe hb (by omega) x2;replace x3:=Qe hb (by omega) x3;have z1:g<w1.heap.size:=by have:=hb.size;omega
 have KW:=hd (Qb KX.out hb);have R1:=hd (RX.out.below hb);clear hb KX RX;cases ao
 ·go_wp2_with fail
  refine I (v:= K #[H none 0 0,O false]) ?_ rfl ⟨?_,?_⟩
  ·simp (maxDischargeDepth:=9) [N,results35,go_sem, *]
  ·unfold Na;rw[H1.out];exact rfl
  ·exact KW.out
 go_wp2_with fail
 have H6:Hid (w1.cell? ⟨g,4,none⟩=some (l G a)/\w1.cell? ⟨g,5,none⟩=some (l G b)/\w1.cell? ⟨g,6,none⟩=some (l G c)/\w1.cell? ⟨g,7,none⟩=some (l G d)):=⟨x0,x1,x2,x3⟩;clear x0 x1 x2 x3;go_loopw [6,7] (fun o i wr=> ∃(k m:Nat) (F:Option Addr) (cc:Nat) (L:List CL),k<=n/\i= l G k/\o= H F m cc/\L=ZM a b c d (clE C R S k)/\L.length=m/\wr.ownsRow w1.heap.size 70 3 (H F m cc) m (QH CL.cs L)/\J w1.heap.size w1 wr) (fun _ i _=>n-(intOf i).toNat)
 case atStart=>exact⟨0,0,_,0,[],Nat.zero_le _,rfl,rfl,rfl,rfl,Zt (Nat.le_refl _) rfl,by go_grown⟩
 case round=>
  obtain⟨k,m,F,cc,L,hk,rfl,rfl,hL,h8,h4,h2⟩:=hrel;have HO:Hid (wr.ownsRow w1.heap.size 70 3 (H F m cc) m (QH CL.cs L)):=h4;have HB:Hid (J w1.heap.size w1 wr):=h2;have HL:Hid (L=ZM a b c d (clE C R S k)):=hL;have HM:Hid (L.length=m):=h8;have hmk:m<=k:=by rw[<-h8,hL];exact Uk a b c d C R S k
  clear h4 hL h8;by_cases H5:k<n
  ·obtain⟨br,o,rfl,hl,c0,c1,c2,_⟩:=R1.out.2 k H5;obtain⟨y0,y1,y2,y3⟩:=H6.out;have hs:=h2.size;have zr:g<wr.heap.size:=by omega
   replace c0:=Qe h2 hl c0;replace c1:=Qe h2 hl c1;replace c2:=Qe h2 hl c2;replace y0:=Qe h2 (by omega) y0;replace y1:=Qe h2 (by omega) y1;replace y2:=Qe h2 (by omega) y2;replace y3:=Qe h2 (by omega) y3
   clear h2;have h5:br<wr.heap.size:=Nat.lt_of_lt_of_le hl hs;have h0:(0:Int)<=(k:Int):=by omega
   have h1:(k:Int)<(n:Int):=by omega
   have HP:=Hc a b c d C R S k;obtain⟨iq,HQ⟩: ∃iq,Hid (inQ a b c d (C k) (R k)=iq):=⟨_,rfl⟩;go_wp2_with fail
   go_region_held3 (fun w'=>(∀bq oq,bq<wr.heap.size->w'.cell? ⟨bq,oq,none⟩=wr.cell? ⟨bq,oq,none⟩)/\wr.heap.size<=w'.heap.size/\J wr.heap.size wr w')
    (exact QE (by go_size) (by go_grown))
    (first
    | (go_at_call 63;refine(YP a b c d (C k) (R k) _).mono ?_;rintro e wy ⟨rfl,hb⟩;rw[HQ.out];obtain⟨h3,H2⟩:=Qk (B:=wr.heap.size) (X:=wr) (by go_grown) (by go_size) hb;have H3:=fun b o h=>h3.cell (p:=⟨b,o,none⟩) h;clear hb))
   cases iq
   ·have h9:Hid (ZM a b c d (clE C R S (k+1))=L++ [⟨C k,R k,S k⟩]):=by show _=_;rw[HP,HQ.out,nG (by simp),HL.out]
    have e0:=Qe h3 h5 c0;have e1:=Qe h3 h5 c1;have e2:=Qe h3 h5 c2;replace h5:br<wy.heap.size:=Nat.lt_of_lt_of_le h5 H2;have h6:=hd (Qd HO.out h3);have H0:=hd (Qb HB.out h3);have H4:w1.heap.size<=wy.heap.size:=Nat.le_trans hs H2
    clear c0 c1 c2 y0 y1 y2 y3 HP HO HB H3
    go_wp2_with (first
     | (at_builtin;refine Qw rfl _ _ rfl w1.heap.size (H F m cc) m L rfl (h6.out.alloc _) (C k) (R k) (S k) wy.heap.size rfl (by simp[go_sem, *]) (by simp[go_sem, *]) (by simp[go_sem, *]) (by omega) (by simp;omega) ?_)
     | fail)
    intro va w7 ho hg;obtain⟨F7,h7,rfl,_,_⟩:=Qr ho;have K7:Hid (J w1.heap.size w1 w7):=(H0.out.alloc H4 _).grown hg (by simp;omega) (fun j hj=>(h6.out.lt j hj).1);have H7:Hid (w7.ownsRow w1.heap.size 70 3 (H F7 (m+1) h7) (m+1) (QH CL.cs (L++ [⟨C k,R k,S k⟩]))):=ho;clear ho hg;go_wp2_with fail
    go_roundw
    case rel=>exact⟨k+1,m+1,F7,h7,_,by omega,by go_num,rfl,h9.out.symm,by simp[HM.out],H7.out,K7.out⟩
    case measure=>simp[intOf];omega
   ·have h9:Hid (ZM a b c d (clE C R S (k+1))=L):=by show _=_;rw[HP,HQ.out,pS rfl,HL.out,List.append_nil]
    have h6:=hd (Qd HO.out h3);have H0:=hd (Qb HB.out h3);clear c0 c1 c2 y0 y1 y2 y3 HP HO HB H3;go_wp2_with fail
    go_roundw
    case rel=>exact⟨k+1,m,F,cc,L,by omega,by go_num,rfl,h9.out.symm,HM.out,h6.out,H0.out⟩
    case measure=>simp[intOf];omega
  ·have h1: ¬(k:Int)<(n:Int):=by omega
   obtain rfl:k=n:=by omega
   go_wp2_with fail
   refine I (v:= K #[H F m cc,O true]) ?_ rfl ⟨?_,?_⟩
   ·simp (maxDischargeDepth:=9) [N,results35,go_sem, *]
   ·unfold Na;rw[H1.out,pS rfl,<-HL.out];refine⟨F,cc,m,rfl,HM.out,?_⟩;exact Go.Proofs.ownsRow_base_a HO.out KW.out.size
   ·exact Qb KW.out HB.out
theorem Qjy(w:World)(h:ClRow w A n C R S)(ht:t.size<=maxLen):
  Calls prog 35 #[H A n cap,V #[l G 1,l G p,l G q,T t,l G a,l G b,l G c,l G d,l G r,l G m]] w fun z w'=>EnR w.heap.size w' (enF C R S n p q t) z/\J w.heap.size w w':=by
 have HR:Hid (ClRow w A n C R S):=h;clear h;obtain⟨h1,h0⟩: ∃h1,Hid (enF C R S n p q t=h1):=⟨_,rfl⟩;go_enter func35,ntmps35;go_wp2_with fail
 refine(Nt _ (HR.out.below (by go_grown)) ht).mono ?_;rintro z w2 ⟨he,hb⟩;have K2:Hid (J w.heap.size w w2):=Qb (by go_grown) hb;clear hb;rw[h0.out]at he;cases h1 with
 | none=>
  obtain rfl:z= U (K #[H none 0 0,O false]):=he;go_wp2_with fail
  refine I (v:= K #[H none 0 0,O false]) ?_ rfl ⟨?_,K2.out⟩
  ·simp (maxDischargeDepth:=9) [N,results35,go_sem, *]
  ·rw[h0.out];exact rfl
 | some M=>
  obtain⟨A3,c3,mm,rfl,hm,ho⟩:=he;have h2:Hid (w2.ownsRow w.heap.size 70 3 (H A3 mm c3) mm (QH CL.cs M)):=Go.Proofs.ownsRow_base_a ho (by simp);clear ho;go_wp2_with fail
  refine I (v:= K #[H A3 mm c3,O true]) ?_ rfl ⟨?_,K2.out⟩
  ·simp (maxDischargeDepth:=9) [N,results35,go_sem, *]
  ·rw[h0.out];exact⟨A3,c3,mm,rfl,hm,h2.out⟩
theorem Qjz(w:World)(h:ClRow w A n C R S)(hok:QA C R S n=true):
  Calls prog 35 #[H A n cap,V #[l G 3,l G p,l G q,T t,l G a,l G b,l G c,l G d,l G r,l G m]] w fun z w'=>EnR w.heap.size w' (rwO false r m (clE C R S n)) z/\J w.heap.size w w':=by
 have HR:Hid (ClRow w A n C R S):=h;clear h;obtain⟨h1,h0⟩: ∃h1,Hid (rwO false r m (clE C R S n)=h1):=⟨_,rfl⟩;go_enter func35,ntmps35;go_wp2_with fail
 refine(Er _ (HR.out.below (by go_grown)) hok).mono ?_;rintro z w2 ⟨he,hb⟩;have K2:Hid (J w.heap.size w w2):=Qb (by go_grown) hb;clear hb;rw[h0.out]at he;cases h1 with
 | none=>
  obtain rfl:z= U (K #[H none 0 0,O false]):=he;go_wp2_with fail
  refine I (v:= K #[H none 0 0,O false]) ?_ rfl ⟨?_,K2.out⟩
  ·simp (maxDischargeDepth:=9) [N,results35,go_sem, *]
  ·rw[h0.out];exact rfl
 | some M=>
  obtain⟨A3,c3,mm,rfl,hm,ho⟩:=he;have h2:Hid (w2.ownsRow w.heap.size 70 3 (H A3 mm c3) mm (QH CL.cs M)):=Go.Proofs.ownsRow_base_a ho (by simp);clear ho;go_wp2_with fail
  refine I (v:= K #[H A3 mm c3,O true]) ?_ rfl ⟨?_,K2.out⟩
  ·simp (maxDischargeDepth:=9) [N,results35,go_sem, *]
  ·rw[h0.out];exact⟨A3,c3,mm,rfl,hm,h2.out⟩
theorem Qjx(w:World)(h:ClRow w A n C R S)(hok:QA C R S n=true):
  Calls prog 35 #[H A n cap,V #[l G 4,l G p,l G q,T t,l G a,l G b,l G c,l G d,l G r,l G m]] w fun z w'=>EnR w.heap.size w' (rwO true r m (clE C R S n)) z/\J w.heap.size w w':=by
 have HR:Hid (ClRow w A n C R S):=h;clear h;obtain⟨h1,h0⟩: ∃h1,Hid (rwO true r m (clE C R S n)=h1):=⟨_,rfl⟩;go_enter func35,ntmps35;go_wp2_with fail
 refine(Ep _ (HR.out.below (by go_grown)) hok).mono ?_;rintro z w2 ⟨he,hb⟩;have K2:Hid (J w.heap.size w w2):=Qb (by go_grown) hb;clear hb;rw[h0.out]at he;cases h1 with
 | none=>
  obtain rfl:z= U (K #[H none 0 0,O false]):=he;go_wp2_with fail
  refine I (v:= K #[H none 0 0,O false]) ?_ rfl ⟨?_,K2.out⟩
  ·simp (maxDischargeDepth:=9) [N,results35,go_sem, *]
  ·rw[h0.out];exact rfl
 | some M=>
  obtain⟨A3,c3,mm,rfl,hm,ho⟩:=he;have h2:Hid (w2.ownsRow w.heap.size 70 3 (H A3 mm c3) mm (QH CL.cs M)):=Go.Proofs.ownsRow_base_a ho (by simp);clear ho;go_wp2_with fail
  refine I (v:= K #[H A3 mm c3,O true]) ?_ rfl ⟨?_,K2.out⟩
  ·simp (maxDischargeDepth:=9) [N,results35,go_sem, *]
  ·rw[h0.out];exact⟨A3,c3,mm,rfl,hm,h2.out⟩
theorem Qj0(w:World)(h1: ¬k=1)(h2: ¬k=2)(h3: ¬k=3)(h4: ¬k=4)(h5: ¬k=5):
  Calls prog 35 #[H A n cap,V #[l G k,l G p,l G q,T t,l G a,l G b,l G c,l G d,l G r,l G m]] w fun z w'=>z= U (K #[H none 0 0,O false])/\J w.heap.size w w':=by
 go_enter func35,ntmps35;go_wp2_with fail
 refine I (v:= K #[H none 0 0,O false]) ?_ rfl ⟨rfl,by go_grown⟩;simp (maxDischargeDepth:=9) [N,results35,go_sem, *]
theorem Qj2(res:Option (List CL))(w:World)(h:ClRow w A n C R S)
  (h2:QA C R S n=true-> ∀u:World,ClRow u A n C R S->Calls prog 35 #[H A n cap,V #[l G k,l G p,l G q,T t,l G a,l G b,l G c,l G d,l G r,l G m]] u fun e w'=>EnW u.heap.size w' res e/\J u.heap.size u w'):
  Calls prog 11 #[H A n cap,V #[l G k,l G p,l G q,T t,l G a,l G b,l G c,l G d,l G r,l G m]] w fun e w'=>EnR w.heap.size w' (apO C R S n res) e/\J w.heap.size w w':=by
 have HR:Hid (ClRow w A n C R S):=h;have H2:Hid (QA C R S n=true-> ∀u:World,ClRow u A n C R S->Calls prog 35 #[H A n cap,V #[l G k,l G p,l G q,T t,l G a,l G b,l G c,l G d,l G r,l G m]] u fun e w'=>EnW u.heap.size w' res e/\J u.heap.size u w'):=h2;clear h h2;obtain⟨ck,h0⟩: ∃ck,Hid (QA C R S n=ck):=⟨_,rfl⟩;go_enter func11,ntmps11;go_wp2_with fail
 obtain⟨X,HX⟩: ∃X,Hid (w.alloc (jb #[l G k,l G p,l G q,T t,l G a,l G b,l G c,l G d,l G r,l G m] 30)=X):=⟨_,rfl⟩;rw[HX.out];have HE:Hid (edG X w.heap.size k p q t a b c d r m):=by show edG _ _ _ _ _ _ _ _ _ _ _ _;rw[<-HX.out];exact Qhb w k p q a b c d r m t
 have KX:Hid (J w.heap.size w X):=by rw[<-HX.out];show J _ _ _;go_grown
 clear HX;refine(Ve _ (HR.out.below KX.out)).mono ?_;rintro e w1 ⟨rfl,hb⟩;rw[h0.out];have K1:=hd (Qb KX.out hb);have h3:=hd (HE.out.below hb);clear hb HE KX
 cases ck
 ·go_wp2_with fail
  refine I (v:= K #[H none 0 0,O false]) ?_ rfl ⟨?_,K1.out⟩
  ·simp (maxDischargeDepth:=9) [N,results11,go_sem, *]
  ·unfold apO;rw[h0.out];exact rfl
 have HF:Hid (apO C R S n res=res):=by show _=_;unfold apO;rw[h0.out,pS rfl]
 obtain⟨lz,y0,y1,y2,y3,y4,y5,y6,y7,y8,y9⟩:=h3.out;go_wp2_with fail
 refine(H2.out h0.out _ (HR.out.below K1.out)).mono ?_;rintro e w3 ⟨he,hb⟩;have K3:=hd (Qb K1.out hb);clear hb y0 y1 y2 y3 y4 y5 y6 y7 y8 y9;cases res with
 | none=>
  obtain⟨v0,rfl⟩: ∃v0,e= U (K #[v0,O false]):=he;go_wp2_with fail
  refine I (v:= K #[H none 0 0,O false]) ?_ rfl ⟨?_,K3.out⟩
  ·simp (maxDischargeDepth:=9) [N,results11,go_sem, *]
  ·rw[HF.out];exact rfl
 | some M=>
  obtain⟨A3,c3,mm,rfl,hm,ho⟩:=he;have h1:Hid (w3.ownsRow w.heap.size 70 3 (H A3 mm c3) mm (QH CL.cs M)):=Go.Proofs.ownsRow_base_a ho K1.out.size;clear ho;go_wp2_with fail
  refine I (v:= K #[H A3 mm c3,O true]) ?_ rfl ⟨?_,K3.out⟩
  ·simp (maxDischargeDepth:=9) [N,results11,go_sem, *]
  ·rw[HF.out];exact⟨A3,c3,mm,rfl,hm,h1.out⟩
theorem Qth(h:Ql a b c d=true)(hr:Qf p q=true):Ql p q (c+p-a) (d+q-b)=Qf (c+(p-a)) (d+(q-b)):=by
 have hs:=Va h;unfold Ql;rw[hr,show c+p-a=c+(p-a) by omega,show d+q-b=d+(q-b) by omega,decide_eq_true (show p<=c+(p-a)/\q<=d+(q-b) by omega)];simp
theorem Qr4(h:Ql a b c d=false):cpI a b c d p q=false:=by unfold cpI;rw[h];rfl
theorem Qr3(h:Qf p q=false):cpI a b c d p q=false:=by unfold cpI;rw[Qau h,ja]
theorem Qsi{k0 e8 e9:Int}{et:ByteArray}(w:World)(h:ClRow w A n C R S)(hok:QA C R S n=true):
  Calls prog 65 #[H A n cap,V #[l G k0,l G p,l G q,T et,l G a,l G b,l G c,l G d,l G e8,l G e9]] w fun z w'=>EnW w.heap.size w' (cpO a b c d p q (clE C R S n)) z/\J w.heap.size w w':=by
 have HR:Hid (ClRow w A n C R S):=h;have Y1:Hid (QA C R S n=true):=hok;obtain⟨h120,X8,X7⟩:=Yj hok;have HRF:Hid (∀i,i<n->Qf (C i) (R i)=true):=X8;have HRI:Hid ((clE C R S n).Pairwise (fun a b=>ltC a b=true)):=X7;clear h hok X8 X7;obtain⟨ao,g0⟩: ∃ao,Hid (Ql a b c d=ao):=⟨_,rfl⟩
 obtain⟨ro,g7⟩: ∃ro,Hid (Qf p q=ro):=⟨_,rfl⟩;cases ao
 ·have HV:Hid (cpO a b c d p q (clE C R S n)=none):=Oi (Qr4 g0.out);go_enter func65,ntmps65;go_wp2_with fail
  refine(YH a b c d _).mono ?_;rintro z w1 ⟨rfl,hb⟩;rw[g0.out];have K1:Hid (J w.heap.size w w1):=Qb (by go_grown) hb;clear hb;go_wp2_with fail
  refine I (v:= K #[H none 0 0,O false]) ?_ rfl ⟨?_,K1.out⟩
  ·simp (maxDischargeDepth:=9) [N,results65,go_sem, *]
  ·rw[HV.out];exact⟨_,rfl⟩
 cases ro
 ·have HV:Hid (cpO a b c d p q (clE C R S n)=none):=Oi (Qr3 g7.out);go_enter func65,ntmps65;go_wp2_with fail
  refine(YH a b c d _).mono ?_;rintro z w1 ⟨rfl,hb⟩;rw[g0.out];have x1:w1.cell? ⟨w.heap.size,1,none⟩=some (l G p):=Qe hb (by go_size) (by go_simp);have x2:w1.cell? ⟨w.heap.size,2,none⟩=some (l G q):=Qe hb (by go_size) (by go_simp);have zw:w.heap.size<w1.heap.size:=Nat.lt_of_lt_of_le (by go_size) hb.size;have K1:Hid (J w.heap.size w w1):=Qb (by go_grown) hb
  clear hb;go_wp2_with fail
  refine(Qz p q _).mono ?_;rintro z w2 ⟨rfl,hb⟩;rw[g7.out];have K2:=hd (Qb K1.out hb);clear hb;go_wp2_with fail
  refine I (v:= K #[H none 0 0,O false]) ?_ rfl ⟨?_,K2.out⟩
  ·simp (maxDischargeDepth:=9) [N,results65,go_sem, *]
  ·rw[HV.out];exact⟨_,rfl⟩
 have hsa:=Va g0.out;have G7:=g7.out;unfold Qf at G7;have G7:=of_decide_eq_true G7;obtain⟨tk,y3⟩: ∃tk,Hid (Qf (c+(p-a)) (d+(q-b))=tk):=⟨_,rfl⟩;have Y4:Hid (cpI a b c d p q=tk):=by show _=_;unfold cpI;rw[g0.out,Qth g0.out g7.out,y3.out];rfl
 go_enter func65,ntmps65;go_wp2_with fail
 obtain⟨X,HX⟩: ∃X,Hid ((w.alloc (jb #[l G k0,l G p,l G q,T et,l G a,l G b,l G c,l G d,l G e8,l G e9] 30)).alloc (jb #[l G (c+(p-a)),l G (d+(q-b))] 26)=X):=⟨_,rfl⟩;rw[HX.out];have x1:X.cell? ⟨w.heap.size,1,none⟩=some (l G p):=by rw[<-HX.out];go_simp
 have x2:X.cell? ⟨w.heap.size,2,none⟩=some (l G q):=by rw[<-HX.out];go_simp
 have x4:X.cell? ⟨w.heap.size,4,none⟩=some (l G a):=by rw[<-HX.out];go_simp
 have x5:X.cell? ⟨w.heap.size,5,none⟩=some (l G b):=by rw[<-HX.out];go_simp
 have x6:X.cell? ⟨w.heap.size,6,none⟩=some (l G c):=by rw[<-HX.out];go_simp
 have x7:X.cell? ⟨w.heap.size,7,none⟩=some (l G d):=by rw[<-HX.out];go_simp
 have t0:X.cell? ⟨w.heap.size+1,0,none⟩=some (l G (c+(p-a))):=by rw[<-HX.out];go_simp
 have t1:X.cell? ⟨w.heap.size+1,1,none⟩=some (l G (d+(q-b))):=by rw[<-HX.out];go_simp
 have zX:w.heap.size+1<X.heap.size:=by rw[<-HX.out];simp
 have H4:w.heap.size<X.heap.size:=by omega
 have KX:Hid (J w.heap.size w X):=by rw[<-HX.out];show J _ _ _;go_grown
 have RX:=hd (HR.out.below KX.out);clear HX HR;refine(YH a b c d _).mono ?_;rintro z w1 ⟨rfl,hb⟩;rw[g0.out];obtain⟨h4,H3⟩:=Qk (B:=X.heap.size) (X:=X) (Below.refl _ _) (Nat.le_refl _) hb;have y1:=Qe h4 H4 x1
 have y2:=Qe h4 H4 x2;have s0:=Qe h4 zX t0;have s1:=Qe h4 zX t1;clear hb;go_wp2_with fail
 refine(Qz p q _).mono ?_;rintro z w2 ⟨rfl,hb⟩;rw[g7.out];obtain⟨G2,X6⟩:=Qk (B:=X.heap.size) (X:=X) h4 H3 hb;replace s0:=Qe G2 zX t0;replace s1:=Qe G2 zX t1;clear hb h4 H3 y1 y2
 go_wp2_with fail
 refine(Qz (c+(p-a)) (d+(q-b)) _).mono ?_;rintro z w3 ⟨rfl,hb⟩;rw[y3.out];obtain⟨H1,Y5⟩:=Qk (B:=X.heap.size) (X:=X) G2 X6 hb;have K3:=hd (Qb KX.out H1);clear hb G2 X6 s0 s1;cases tk
 ·have HV:Hid (cpO a b c d p q (clE C R S n)=none):=Oi Y4.out;go_wp2_with fail
  refine I (v:= K #[H none 0 0,O false]) ?_ rfl ⟨?_,K3.out⟩
  ·simp (maxDischargeDepth:=9) [N,results65,go_sem, *]
  ·rw[HV.out];exact⟨_,rfl⟩
 replace x1:=Qe H1 H4 x1;replace x2:=Qe H1 H4 x2;replace x4:=Qe H1 H4 x4;replace x5:=Qe H1 H4 x5;replace x6:=Qe H1 H4 x6;replace x7:=Qe H1 H4 x7;replace t0:=Qe H1 zX t0
 replace t1:=Qe H1 zX t1;replace zX:w.heap.size+1<w3.heap.size:=by omega
 replace H4:w.heap.size<w3.heap.size:=by omega
 have R3:=hd (RX.out.below H1);clear H1 Y5 RX KX;go_wp2_with fail
 have y0:Hid ((w3.cell? ⟨w.heap.size,1,none⟩=some (l G p)/\w3.cell? ⟨w.heap.size,2,none⟩=some (l G q))/\(w3.cell? ⟨w.heap.size,4,none⟩=some (l G a)/\w3.cell? ⟨w.heap.size,5,none⟩=some (l G b)/\w3.cell? ⟨w.heap.size,6,none⟩=some (l G c)/\w3.cell? ⟨w.heap.size,7,none⟩=some (l G d))/\w3.cell? ⟨w.heap.size+1,0,none⟩=some (l G (c+(p-a)))/\w3.cell? ⟨w.heap.size+1,1,none⟩=some (l G (d+(q-b)))):=⟨⟨x1,x2⟩,⟨x4,x5,x6,x7⟩,t0,t1⟩;clear x1 x2 x4 x5 x6 x7 t0 t1;go_loopw [9,10] (fun o i wr=> ∃(k m:Nat) (F:Option Addr) (cc:Nat) (L:List CL),k<=n/\i= l G k/\o= H F m cc/\L=ZM p q (c+(p-a)) (d+(q-b)) (clE C R S k)/\L.length=m/\wr.ownsRow w3.heap.size 70 3 (H F m cc) m (QH CL.cs L)/\J w3.heap.size w3 wr) (fun _ i _=>n-(intOf i).toNat)
 case atStart=>exact⟨0,0,_,0,[],Nat.zero_le _,rfl,rfl,rfl,rfl,Zt (Nat.le_refl _) rfl,by go_grown⟩
 case round=>
  obtain⟨k,m,F,cc,L,hk,rfl,rfl,hL,g1,H0,h3⟩:=hrel;have HO:Hid (wr.ownsRow w3.heap.size 70 3 (H F m cc) m (QH CL.cs L)):=H0;have HB:Hid (J w3.heap.size w3 wr):=h3;have HL:Hid (L=ZM p q (c+(p-a)) (d+(q-b)) (clE C R S k)):=hL;have HM:Hid (L.length=m):=g1;have hmk:m<=k:=by rw[<-g1,hL];exact Uk p q (c+(p-a)) (d+(q-b)) C R S k
  clear H0 hL g1;by_cases H7:k<n
  ·obtain⟨br,o,rfl,hl,c0,c1,c2,_⟩:=R3.out.2 k H7;obtain⟨⟨y1,y2⟩,_,s0,s1⟩:=y0.out;have hs:=h3.size;have zr:w.heap.size<wr.heap.size:=by omega
   have zr1:w.heap.size+1<wr.heap.size:=by omega
   replace c0:=Qe h3 hl c0;replace c1:=Qe h3 hl c1;replace c2:=Qe h3 hl c2;replace y1:=Qe h3 (by omega) y1;replace y2:=Qe h3 (by omega) y2;replace s0:=Qe h3 (by omega) s0;replace s1:=Qe h3 (by omega) s1
   clear h3;have h5:br<wr.heap.size:=Nat.lt_of_lt_of_le hl hs;have h0:(0:Int)<=(k:Int):=by omega
   have h1:(k:Int)<(n:Int):=by omega
   have HP:=Hc p q (c+(p-a)) (d+(q-b)) C R S k;obtain⟨iq,HQ⟩: ∃iq,Hid (inQ p q (c+(p-a)) (d+(q-b)) (C k) (R k)=iq):=⟨_,rfl⟩;go_wp2_with fail
   go_region_held3 (fun w'=>(∀bq oq,bq<wr.heap.size->w'.cell? ⟨bq,oq,none⟩=wr.cell? ⟨bq,oq,none⟩)/\wr.heap.size<=w'.heap.size/\J wr.heap.size wr w')
    (exact QE (by go_size) (by go_grown))
    (first
    | (go_at_call 63;refine(YP p q (c+(p-a)) (d+(q-b)) (C k) (R k) _).mono ?_;rintro z wy ⟨rfl,hb⟩;rw[HQ.out];obtain⟨h4,H3⟩:=Qk (B:=wr.heap.size) (X:=wr) (by go_grown) (by go_size) hb;have H8:=fun b o h=>h4.cell (p:=⟨b,o,none⟩) h;clear hb))
   cases iq
   ·have X0:Hid (ZM p q (c+(p-a)) (d+(q-b)) (clE C R S (k+1))=L++ [⟨C k,R k,S k⟩]):=by show _=_;rw[HP,HQ.out,nG (by simp),HL.out]
    have e0:=Qe h4 h5 c0;have e1:=Qe h4 h5 c1;have e2:=Qe h4 h5 c2;replace h5:br<wy.heap.size:=Nat.lt_of_lt_of_le h5 H3;have G3:=hd (Qd HO.out h4);have X4:=hd (Qb HB.out h4);have Y6:w3.heap.size<=wy.heap.size:=Nat.le_trans hs H3
    clear c0 c1 c2 y1 y2 s0 s1 HP HO HB H8
    go_wp2_with (first
     | (at_builtin;refine Qw rfl _ _ rfl w3.heap.size (H F m cc) m L rfl (G3.out.alloc _) (C k) (R k) (S k) wy.heap.size rfl (by simp[go_sem, *]) (by simp[go_sem, *]) (by simp[go_sem, *]) (by omega) (by simp;omega) ?_)
     | fail)
    intro va w7 ho hg;obtain⟨F7,h7,rfl,_,_⟩:=Qr ho;have K7:Hid (J w3.heap.size w3 w7):=(X4.out.alloc Y6 _).grown hg (by simp;omega) (fun j hj=>(G3.out.lt j hj).1);have HO7:Hid (w7.ownsRow w3.heap.size 70 3 (H F7 (m+1) h7) (m+1) (QH CL.cs (L++ [⟨C k,R k,S k⟩]))):=ho;clear ho hg;go_wp2_with fail
    go_roundw
    case rel=>exact⟨k+1,m+1,F7,h7,_,by omega,by go_num,rfl,X0.out.symm,by simp[HM.out],HO7.out,K7.out⟩
    case measure=>simp[intOf];omega
   ·have X0:Hid (ZM p q (c+(p-a)) (d+(q-b)) (clE C R S (k+1))=L):=by show _=_;rw[HP,HQ.out,pS rfl,HL.out,List.append_nil]
    have G3:=hd (Qd HO.out h4);have X4:=hd (Qb HB.out h4);clear c0 c1 c2 y1 y2 s0 s1 HP HO HB H8;go_wp2_with fail
    go_roundw
    case rel=>exact⟨k+1,m,F,cc,L,by omega,by go_num,rfl,X0.out.symm,HM.out,G3.out,X4.out⟩
    case measure=>simp[intOf];omega
  ·have h1: ¬(k:Int)<(n:Int):=by omega
   obtain rfl:k=n:=by omega
   have G0:Hid (ZM p q (c+(p-a)) (d+(q-b)) (clE C R S k)=L):=HL.out.symm;have Y2:Hid (L.length=m):=HM.out;have g6:Hid (∀y∈clE C R S k,y.s.size<=maxLen):=Qf9 R3.out;obtain⟨L0,Y3⟩: ∃L0,Hid (L=L0):=⟨_,rfl⟩;rw[Y3.out]at G0 Y2;have HOL:Hid (wr.ownsRow w3.heap.size 70 3 (H F m cc) m (QH CL.cs L0)):=by show World.ownsRow _ _ _ _ _ _ _;rw[<-Y3.out];exact HO.out
   clear HO HL HM;go_wp2_with fail
   go_loopw [9,11] (fun o i wz=> ∃(j m2:Nat) (F2:Option Addr) (c2:Nat) (L2:List CL),j<=k/\i= l G j/\o= H F2 m2 c2/\L2=cpF a b c d (p-a) (q-b) L0 (clE C R S j)/\(∀i,i<j->inQ a b c d (C i) (R i)=true->rwB (Qi (p-a) (q-b)) (Qh (p-a) (q-b)) (S i)=true)/\L2.length=m2/\wz.ownsRow w3.heap.size 70 3 (H F2 m2 c2) m2 (QH CL.cs L2)/\J w3.heap.size w3 wz) (fun _ i _=>k-(intOf i).toNat)
   case atStart=>exact⟨0,m,F,cc,L0,Nat.zero_le _,rfl,rfl,rfl,fun i hi=>absurd hi (Nat.not_lt_zero _),Y2.out,HOL.out,HB.out⟩
   case round=>
    obtain⟨j,m2,F2,c2,L2,hj,rfl,rfl,hL,g4,g1,H0,h3⟩:=hrel;have OZ:Hid (wr.ownsRow w3.heap.size 70 3 (H F2 m2 c2) m2 (QH CL.cs L2)):=H0;have BZ:Hid (J w3.heap.size w3 wr):=h3;have G4:Hid (L2=cpF a b c d (p-a) (q-b) L0 (clE C R S j)):=hL;have H6:Hid (∀i,i<j->inQ a b c d (C i) (R i)=true->rwB (Qi (p-a) (q-b)) (Qh (p-a) (q-b)) (S i)=true):=g4;have H9:Hid (L2.length=m2):=g1
    have Y0:Hid (L2.Pairwise (fun a b=>ltC a b=true)):=by
     show List.Pairwise _ _;rw[hL,<-G0.out];exact Qak (HRI.out.filter _)
    have y8:Hid (∀x∈L2,x.s.size<=maxLen):=by
     show∀x∈L2,_;rw[hL,<-G0.out]
     exact Qs1 (fun y hy=>g6.out y (List.mem_filter.1 hy).1) (fun y hy=>by
      obtain⟨i,hi,rfl⟩:=List.mem_map.1 hy
      exact g6.out _ (List.mem_map.2 ⟨i,List.mem_range.2 (by have:=List.mem_range.1 hi;omega),rfl⟩))
    have hm2:m2<=240:=by
     have h1:=Qhj a b c d (p-a) (q-b) L0 (clE C R S j);have h2:L0.length<=(clE C R S k).length:=by rw[<-G0.out];exact List.length_filter_le _ _
     rw[<-hL,Yy]at h1;rw[Yy]at h2;omega
    clear H0 hL g1 g4;by_cases H7:j<k
    ·obtain⟨br,o,rfl,hl,d0,d1,d2,_⟩:=R3.out.2 j H7;obtain⟨_,⟨y4,y5,y6,y7⟩,_⟩:=y0.out;have hs:=h3.size;have zr:w.heap.size<wr.heap.size:=by omega
     replace d0:=Qe h3 hl d0;replace d1:=Qe h3 hl d1;replace d2:=Qe h3 hl d2;replace y4:=Qe h3 (by omega) y4;replace y5:=Qe h3 (by omega) y5;replace y6:=Qe h3 (by omega) y6;replace y7:=Qe h3 (by omega) y7
     clear h3;have h5:br<wr.heap.size:=Nat.lt_of_lt_of_le hl hs;have h0:(0:Int)<=(j:Int):=by omega
     have h1:(j:Int)<(k:Int):=by omega
     have y9:Hid (1<=C j/\C j<=52/\1<=R j/\R j<=99):=by have h9:=HRF.out j H7;unfold Qf at h9;have h8:=of_decide_eq_true h9;exact h8
     have x0:=Ut a b c d (p-a) (q-b) L0 C R S j;obtain⟨iq,HQ⟩: ∃iq,Hid (inQ a b c d (C j) (R j)=iq):=⟨_,rfl⟩;go_wp2_with fail
     go_region_held3 (fun w'=>(∀bq oq,bq<wr.heap.size->w'.cell? ⟨bq,oq,none⟩=wr.cell? ⟨bq,oq,none⟩)/\wr.heap.size<=w'.heap.size/\J wr.heap.size wr w')
      (exact QE (by go_size) (by go_grown))
      (first
      | (go_at_call 63;refine(YP a b c d (C j) (R j) _).mono ?_;rintro z wy ⟨rfl,hb⟩;rw[HQ.out];obtain⟨h4,H3⟩:=Qk (B:=wr.heap.size) (X:=wr) (by go_grown) (by go_size) hb;have H8:=fun b o h=>h4.cell (p:=⟨b,o,none⟩) h;clear hb))
     all_goals
      replace d0:=Qe h4 h5 d0;replace d1:=Qe h4 h5 d1;replace d2:=Qe h4 h5 d2;replace h5:br<wy.heap.size:=Nat.lt_of_lt_of_le h5 H3;replace OZ:=hd (Qd OZ.out h4);replace BZ:=hd (Qb BZ.out h4);clear H8 h4 H3 y4 y5 y6 y7 zr hs
     cases iq
     ·rw[HQ.out,nG (by decide)]at x0;have HS':Hid (cpF a b c d (p-a) (q-b) L0 (clE C R S (j+1))=L2):=by show _=_;rw[x0,G4.out]
      have h6:Hid (∀i,i<j+1->inQ a b c d (C i) (R i)=true->rwB (Qi (p-a) (q-b)) (Qh (p-a) (q-b)) (S i)=true):=fun i hi hq=>by
       by_cases e:i=j
       ·subst e;rw[HQ.out]at hq;cases hq
       ·exact H6.out i (by omega) hq
      go_wp2_with fail
      go_roundw
      case rel=>exact⟨j+1,m2,F2,c2,L2,by omega,by go_num,rfl,HS'.out.symm,h6.out,H9.out,OZ.out,BZ.out⟩
      case measure=>simp[intOf];omega
     have Y9:Hid ((S j).size<=200):=(JF Y1.out H7).1;have x3:Hid ((S j).toList.isEmpty=false):=(JF Y1.out H7).2;clear x0;go_wp2_with fail
     refine(XI (S j) _ Y9.out).mono ?_;rintro z wb ⟨hb,hz⟩;replace d0:=Qe hb h5 d0;replace d1:=Qe hb h5 d1;replace h5:=Nat.lt_of_lt_of_le h5 hb.size;replace OZ:=hd (Qd OZ.out hb);replace BZ:=hd (Qb BZ.out hb)
     clear hb d2;have H2:=Qfd (f:=(Qi (p-a) (q-b))) (g:=(Qh (p-a) (q-b))) x3.out;rcases hz with⟨hl5,rfl⟩ | ⟨oo,A5,c5,hl5,hrd,rfl,g3⟩
     ·have g5:Hid (rwX (Qi (p-a) (q-b)) (Qh (p-a) (q-b)) (S j)=S j):=Qfc hl5;rw[g5.out]at H2;clear hl5;obtain⟨xs,g2⟩: ∃xs,Hid (S j=xs):=⟨_,rfl⟩;replace H2:xs.toList.isEmpty= !rwB (Qi (p-a) (q-b)) (Qh (p-a) (q-b)) (S j):=by rw[<-g2.out];exact H2
      have X3:Hid (rwX (Qi (p-a) (q-b)) (Qh (p-a) (q-b)) (S j)=xs):=g5.out.trans g2.out;obtain⟨wv,G9⟩: ∃wv,Hid (wb=wv):=⟨_,rfl⟩;rw[G9.out]at d0 d1 h5 OZ BZ;rw[g2.out,G9.out];clear G9;have OY:Hid (wv.ownsRow w3.heap.size 70 3 (H F2 m2 c2) m2 (QH CL.cs L2)):=OZ;have BY:Hid (J w3.heap.size w3 wv):=BZ
      clear OZ BZ;obtain⟨rb,H5⟩: ∃rb,Hid (rwB (Qi (p-a) (q-b)) (Qh (p-a) (q-b)) (S j)=rb):=⟨_,rfl⟩;rw[H5.out]at H2;cases rb
      ·have G8:xs.toList.isEmpty=true:=H2;have HV:Hid (cpO a b c d p q (clE C R S k)=none):=Oh (by rw[Qoc H7 HQ.out H5.out,ja]);go_wp2_with fail
       refine I (v:= K #[H none 0 0,O false]) ?_ rfl ⟨?_,Qb K3.out BY.out⟩
       ·simp (maxDischargeDepth:=9) [N,results65,go_sem, *]
       ·rw[HV.out];exact⟨_,rfl⟩
      have G8:xs.toList.isEmpty=false:=H2;have Y8:=y9.out;have Y7:=x3.out;have zs:w3.heap.size<=wv.heap.size:=BY.out.size;have x8:Hid (ClRow wv F2 m2 (XH L2) (XG L2) (XT L2)):=YG OY.out H9.out y8.out;have G6:IntKind.i64.wrap (C j+(p-a))=C j+(p-a):=by rw[Y];omega
      have G5:IntKind.i64.wrap (R j+(q-b))=R j+(q-b):=by rw[Y];omega
      go_wp2_with fail
      refine jc (S:=(fun w'=>(∀bq oq,bq<wv.heap.size->w'.cell? ⟨bq,oq,none⟩=wv.cell? ⟨bq,oq,none⟩)/\wv.heap.size<=w'.heap.size/\J wv.heap.size wv w')) (by kernel_rfl) (QE (by go_size) (by go_grown)) (fun hHeld=> ?_);refine tkA 0 ?_;refine tkB 1 ?_;refine tkA 2 ?_;refine tkB 3 ?_;refine tkA 4 ?_;refine tkB 5 ?_
      refine tkA 6 ?_;refine tkB 7 ?_;refine tkA 8 ?_;refine tkB 9 ?_;refine tkA 10 ?_;refine tkB 11 ?_;refine tkA 12 ?_
      refine tkB 13 ?_;refine tkA 14 ?_;refine tkB 15 ?_;refine tkA 16 ?_;refine tkB 17 ?_;refine tkB 18 ?_;refine rqA 19 (fun Kq hKq=> ?_)
      go_simp
      (try (rw[G6,G5]));(refine(Gu (p:=C j+(p-a)) (q:=R j+(q-b)) (s:=xs) _ (x8.out.below (by go_grown)) (by omega)).mono ?_;rintro z wy ⟨A',c',m2',rfl,hln,ho,hb⟩;have g9:Hid (wy.ownsRow w3.heap.size 70 3 (H A' m2' c') m2' (QH CL.cs (Qan ⟨C j+(p-a),R j+(q-b),xs⟩ (clE (XH L2) (XG L2) (XT L2) m2)))):=Go.Proofs.ownsRow_base_a ho (by go_size);obtain⟨h4,H3⟩:=Qk (B:=wv.heap.size) (X:=wv) (by go_grown) (by go_size) hb;have H8:=fun b o h=>h4.cell (p:=⟨b,o,none⟩) h;clear hb ho)
      refine hkB hKq (QE (by go_size) (by go_grown)) fun hHeld=> ?_;clear hKq Kq;refine tkB 20 ?_;refine wpAnyH_done (by kernel_rfl) ?_ _
      have G1:Hid (Qan ⟨C j+(p-a),R j+(q-b),xs⟩ (clE (XH L2) (XG L2) (XT L2) m2)=cpF a b c d (p-a) (q-b) L0 (clE C R S (j+1))):=by
       show _=_;rw[<-H9.out,Qfm,Ut,HQ.out,pS rfl,<-G4.out,<-X3.out,MI H5.out];exact(Ou Y0.out).symm
      have X5:=hd (Qb BY.out h4);rw[G1.out]at hln;have X1:Hid (wy.ownsRow w3.heap.size 70 3 (H A' m2' c') m2' (QH CL.cs (cpF a b c d (p-a) (q-b) L0 (clE C R S (j+1))))):=by have h9:=g9.out;rw[G1.out]at h9;exact h9
      have h6:Hid (∀i,i<j+1->inQ a b c d (C i) (R i)=true->rwB (Qi (p-a) (q-b)) (Qh (p-a) (q-b)) (S i)=true):=fun i hi hq=>by
       by_cases e:i=j
       ·subst e;exact H5.out
       ·exact H6.out i (by omega) hq
      clear H8 g9;go_wp2_with fail
      go_roundw
      case rel=>exact⟨j+1,m2',A',c',_,by omega,by go_num,rfl,rfl,h6.out,hln,X1.out,X5.out⟩
      case measure=>simp[intOf];omega
     ·have g5:Hid (rwX (Qi (p-a) (q-b)) (Qh (p-a) (q-b)) (S j)=sEq (ftx (fun i=>QB (Qi (p-a) (q-b)) (Qh (p-a) (q-b)) (ouF oo i)) oo.length)):=ES hl5;have HFR:Hid (FnRowS wb A5 oo.length (ouF oo)):=g3;have g8:Hid (rdF (JP (S j))=some oo):=hrd;clear hl5 g3 hrd;go_wp2_with fail
      refine(UC (p-a) (q-b) _ HFR.out (fun i hi=>((QN g8.out).2 i hi).2) (XL g8.out).2.2 (by omega) (by omega)).mono ?_;rintro z wc ⟨vv,ys,rfl,hr,hp,hb⟩;obtain⟨A6,c6,rfl,g3⟩:=YF hr hp (fun i hi=>Qj3 _ _ _ ((QN g8.out).2 i hi).1);have HF6:Hid (FnRow wc A6 oo.length (fun i=>QB (Qi (p-a) (q-b)) (Qh (p-a) (q-b)) (ouF oo i))):=g3;replace d0:=Qe hb h5 d0;replace d1:=Qe hb h5 d1;replace h5:=Nat.lt_of_lt_of_le h5 hb.size
      replace OZ:=hd (Qd OZ.out hb);replace BZ:=hd (Qb BZ.out hb);clear hb hr hp g3;go_wp2_with fail
      refine(Js _ HF6.out (by have:=(QN g8.out).1;omega) (Ud g8.out)).mono ?_;rintro z wv ⟨rfl,hb⟩;replace d0:=Qe hb h5 d0;replace d1:=Qe hb h5 d1;replace h5:=Nat.lt_of_lt_of_le h5 hb.size;have OY:=hd (Qd OZ.out hb);have BY:=hd (Qb BZ.out hb)
      clear hb OZ BZ;rw[g5.out]at H2;obtain⟨xs,g2⟩: ∃xs,Hid (sEq (ftx (fun i=>QB (Qi (p-a) (q-b)) (Qh (p-a) (q-b)) (ouF oo i)) oo.length)=xs):=⟨_,rfl⟩;rw[g2.out]at H2 ⊢;have X3:Hid (rwX (Qi (p-a) (q-b)) (Qh (p-a) (q-b)) (S j)=xs):=g5.out.trans g2.out;obtain⟨rb,H5⟩: ∃rb,Hid (rwB (Qi (p-a) (q-b)) (Qh (p-a) (q-b)) (S j)=rb):=⟨_,rfl⟩;rw[H5.out]at H2
      cases rb
      ·have G8:xs.toList.isEmpty=true:=H2;have HV:Hid (cpO a b c d p q (clE C R S k)=none):=Oh (by rw[Qoc H7 HQ.out H5.out,ja]);go_wp2_with fail
       refine I (v:= K #[H none 0 0,O false]) ?_ rfl ⟨?_,Qb K3.out BY.out⟩
       ·simp (maxDischargeDepth:=9) [N,results65,go_sem, *]
       ·rw[HV.out];exact⟨_,rfl⟩
      have G8:xs.toList.isEmpty=false:=H2;have Y8:=y9.out;have Y7:=x3.out;have zs:w3.heap.size<=wv.heap.size:=BY.out.size;have x8:Hid (ClRow wv F2 m2 (XH L2) (XG L2) (XT L2)):=YG OY.out H9.out y8.out;have G6:IntKind.i64.wrap (C j+(p-a))=C j+(p-a):=by rw[Y];omega
      have G5:IntKind.i64.wrap (R j+(q-b))=R j+(q-b):=by rw[Y];omega
      go_wp2_with fail
      refine jc (S:=(fun w'=>(∀bq oq,bq<wv.heap.size->w'.cell? ⟨bq,oq,none⟩=wv.cell? ⟨bq,oq,none⟩)/\wv.heap.size<=w'.heap.size/\J wv.heap.size wv w')) (by kernel_rfl) (QE (by go_size) (by go_grown)) (fun hHeld=> ?_);refine tkA 0 ?_;refine tkB 1 ?_;refine tkA 2 ?_;refine tkB 3 ?_;refine tkA 4 ?_;refine tkB 5 ?_
      refine tkA 6 ?_;refine tkB 7 ?_;refine tkA 8 ?_;refine tkB 9 ?_;refine tkA 10 ?_;refine tkB 11 ?_;refine tkA 12 ?_
      refine tkB 13 ?_;refine tkA 14 ?_;refine tkB 15 ?_;refine tkA 16 ?_;refine tkB 17 ?_;refine tkB 18 ?_;refine rqA 19 (fun Kq hKq=> ?_)
      go_simp
      (try (rw[G6,G5]));(refine(Gu (p:=C j+(p-a)) (q:=R j+(q-b)) (s:=xs) _ (x8.out.below (by go_grown)) (by omega)).mono ?_;rintro z wy ⟨A',c',m2',rfl,hln,ho,hb⟩;have g9:Hid (wy.ownsRow w3.heap.size 70 3 (H A' m2' c') m2' (QH CL.cs (Qan ⟨C j+(p-a),R j+(q-b),xs⟩ (clE (XH L2) (XG L2) (XT L2) m2)))):=Go.Proofs.ownsRow_base_a ho (by go_size);obtain⟨h4,H3⟩:=Qk (B:=wv.heap.size) (X:=wv) (by go_grown) (by go_size) hb;have H8:=fun b o h=>h4.cell (p:=⟨b,o,none⟩) h;clear hb ho)
      refine hkB hKq (QE (by go_size) (by go_grown)) fun hHeld=> ?_;clear hKq Kq;refine tkB 20 ?_;refine wpAnyH_done (by kernel_rfl) ?_ _
      have G1:Hid (Qan ⟨C j+(p-a),R j+(q-b),xs⟩ (clE (XH L2) (XG L2) (XT L2) m2)=cpF a b c d (p-a) (q-b) L0 (clE C R S (j+1))):=by
       show _=_;rw[<-H9.out,Qfm,Ut,HQ.out,pS rfl,<-G4.out,<-X3.out,MI H5.out];exact(Ou Y0.out).symm
      have X5:=hd (Qb BY.out h4);rw[G1.out]at hln;have X1:Hid (wy.ownsRow w3.heap.size 70 3 (H A' m2' c') m2' (QH CL.cs (cpF a b c d (p-a) (q-b) L0 (clE C R S (j+1))))):=by have h9:=g9.out;rw[G1.out]at h9;exact h9
      have h6:Hid (∀i,i<j+1->inQ a b c d (C i) (R i)=true->rwB (Qi (p-a) (q-b)) (Qh (p-a) (q-b)) (S i)=true):=fun i hi hq=>by
       by_cases e:i=j
       ·subst e;exact H5.out
       ·exact H6.out i (by omega) hq
      clear H8 g9;go_wp2_with fail
      go_roundw
      case rel=>exact⟨j+1,m2',A',c',_,by omega,by go_num,rfl,rfl,h6.out,hln,X1.out,X5.out⟩
      case measure=>simp[intOf];omega
    ·have h1: ¬(j:Int)<(k:Int):=by omega
     obtain rfl:j=k:=by omega
     have X2:Hid (cpM a b c d p q (clE C R S j)=L2):=by
      show _=_;unfold cpM;rw[show c+p-a=c+(p-a) by omega,show d+q-b=d+(q-b) by omega,G0.out,G4.out]
     have HG9:Hid (cpG a b c d (p-a) (q-b) (clE C R S j)=true):=Qr5 H6.out;by_cases h9:m2<=120
     ·have HV:Hid (cpO a b c d p q (clE C R S j)=some L2):=by
       show _=_;rw[Qhi Y4.out (by rw[X2.out,HG9.out,H9.out,decide_eq_true h9];rfl),X2.out]
      have h8:(m2:Int)<=120:=by omega
      go_wp2_with fail
      refine I (v:= K #[H F2 m2 c2,O true]) ?_ rfl ⟨?_,Qb K3.out BZ.out⟩
      ·simp (maxDischargeDepth:=9) [N,results65,go_sem, *]
      ·rw[HV.out];exact⟨F2,c2,m2,rfl,H9.out,Go.Proofs.ownsRow_base_a OZ.out K3.out.size⟩
     ·have HV:Hid (cpO a b c d p q (clE C R S j)=none):=Oh (by rw[X2.out,H9.out,decide_eq_false h9,Bool.false_and]);have h8: ¬(m2:Int)<=120:=by omega
      go_wp2_with fail
      refine I (v:= K #[H F2 m2 c2,O false]) ?_ rfl ⟨?_,Qb K3.out BZ.out⟩
      ·simp (maxDischargeDepth:=9) [N,results65,go_sem, *]
      ·rw[HV.out];exact⟨_,rfl⟩
end Go.Proofs.YtomadadmakdkgaaGreatDoor
