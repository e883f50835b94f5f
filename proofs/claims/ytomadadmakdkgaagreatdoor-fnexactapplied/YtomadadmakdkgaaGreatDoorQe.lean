import Derived.Test.YtomadadmakdkgaaGreatDoorMn
import Derived.Test.YtomadadmakdkgaaGreatDoorQb
import Derived.Test.YtomadadmakdkgaaGreatDoorGzw
import Derived.Test.YtomadadmakdkgaaGreatDoorGzx
import Derived.Test.YtomadadmakdkgaaGreatDoorQi
import Derived.Test.YtomadadmakdkgaaGreatDoorQc
import Derived.Test.YtomadadmakdkgaaGreatDoorGzs
import Derived.Test.YtomadadmakdkgaaGreatDoorGpp
import Derived.Test.YtomadadmakdkgaaGreatDoorGzeA
import Derived.Test.YtomadadmakdkgaaGreatDoorGyq
import Derived.Test.YtomadadmakdkgaaGreatDoorGzj
import Derived.Laws.AppendOwnNone
import Derived.WideShapes
import Derived.Test.YtomadadmakdkgaaGreatDoorBase
import Derived.OpenShut
import Derived.Deep.Slices
import Derived.ChangeSame
open Go.Proofs.Tryz
open Go.Value renaming int → f, slice → E, string → G, agg → O, bool → U, tuple → V
open Go.IntKind renaming i64 → y
open Go.RowKit renaming Below → F
open Go renaming World → I, bodyPost_ret → K, Calls → T, results → Z, Addr → ja
open Go.Instr renaming typeAssert → J
open Go.Ending renaming returned → N
open Go.World renaming block_lt_of_cell? → Y
open Go.ChangeShapes renaming trod_struct2 → jb
open Go.RowKit.Below renaming refl → jc
open Go.Obj renaming cells → jd
set_option linter.unusedSimpArgs false
set_option linter.unusedVariables false
set_option maxHeartbeats 16000000
set_option maxRecDepth 100000
namespace Go.Proofs.YtomadadmakdkgaaGreatDoor
open Go.RowKit Go.Maps
variable {C R:Nat->Int} {S:Nat->ByteArray} {n cap:Nat} {A:Option ja} {a b c d p q r m k:Int} {t:ByteArray}
theorem UT(a b c d:Int)(w:I):T prog 327 #[O #[f y a,f y b,f y c,f y d]] w fun e w'=>
  e= N (U (Ql a b c d))/\F w.heap.size w w':=by
 go_enter func327,ntmps327;go_wp2_with fail
 refine(YJ a b c d _).mono ?_;rintro e w1 ⟨rfl,hb⟩;have KW:Hid (F w.heap.size w w1):=Qb (by go_grown) hb;clear hb;go_wp2_with fail
 go_ret;exact⟨rfl,KW.out⟩
theorem Qe3(h:(clE C R S n).Pairwise (fun a b=>ltC a b=true)): ∀i j,i<j->j<n-> ¬(C i=C j/\R i=R j):=fun i j hij hj e=>by
 have h9:=List.pairwise_iff_getElem.1 h i j (by rw[Yy];omega) (by rw[Yy];exact hj) hij;simp only[clE,List.getElem_map,List.getElem_range]at h9;have h8:=of_decide_eq_true h9;simp only at h8;omega
theorem Qp4{W:I}(h:ClRow W A n C R S){M:List CL}(hM:ClrM a b c d C R S n M): ∀x∈M,x.s.size<=maxLen:=fun x hx=>by
 obtain⟨i,hi,rfl⟩:=hM.sub x hx;obtain⟨_,_,_,_,_,_,_,h9⟩:=h.2 i hi;exact h9
theorem Qdt(v:Value)(w:I):(J (.iface 95 v) 63 92 true).run prog w= .ok (V #[O #[f y 0,f y 0,G ⟨#[]⟩],U false]) w:=by kernel_rfl
theorem Qdu(v:Value)(w:I):(J (.iface 95 v) 63 95 true).run prog w= .ok (V #[v,U true]) w:=by kernel_rfl
theorem ED(w:I)(h:ClRow w A n C R S)(hok:QA C R S n=true)(hg:GI w):
  T prog 32 #[E A n cap,.iface 95 (O #[f y a,f y b,f y c,f y d])] w fun e w'=>EnR w.heap.size w' (Na a b c d C R S n) e/\F w.heap.size w w':=by
 have HR:Hid (ClRow w A n C R S):=h;have HG:Hid (GI w):=hg;have H0:Hid (QA C R S n=true):=hok;clear h hg hok;obtain⟨ao,h6⟩: ∃ao,Hid (Ql a b c d=ao):=⟨_,rfl⟩;have hmm:= @run_makeMap prog;go_enter func32,ntmps32
 go_wp2_with fail
 refine(UT a b c d _).mono ?_;rintro e w1 ⟨rfl,hb⟩;rw[h6.out];have K1:Hid (F w.heap.size w w1):=hb;clear hb;cases ao
 ·go_wp2_with fail
  refine K (v:= V #[E none 0 0,U false]) ?_ rfl ⟨?_,K1.out⟩
  ·simp (maxDischargeDepth:=9) [Z,results32,go_sem, *]
  ·unfold Na;rw[h6.out];exact rfl
 obtain⟨h3,h7,h2⟩:=Yj H0.out;obtain⟨kl,h8⟩:=EU (n:=n) h7;have H9:Hid (∀i,i<n->keyOf prog 26 (O #[f y (C i),f y (R i)])=some (kl i)):=h8;have g1:Hid (∀i j,i<j->j<n-> ¬(C i=C j/\R i=R j)):=Qe3 h2;have H6:Hid ((clE C R S n).Pairwise (fun a b=>ltC a b=true)):=h2;clear h8 h7 h2;have H4:=Qdt
 have H3:=Qdu;go_wp2_with fail
 clear H4 H3;refine(Jm (a:=a) (b:=b) (c:=c) (d:=d) _ (HR.out.below (Qb K1.out (by go_grown))) h3 H9.out g1.out).mono ?_;rintro e w2 ⟨B,m,D,rfl,hB,ho,hcm,hb,_⟩;have HM:Hid (w2.ownsMap prog 26 YM B m D):=ho;have H2:Hid (CmD D (ZM a b c d (clE C R S n))):=hcm;have K2:Hid (F w.heap.size w w2):=Qb (Qb K1.out (by go_grown)) hb;clear ho hcm hb hB
 have h1:=Qmz (a:=a) (b:=b) (c:=c) (d:=d) H0.out;have h4:=Qp4 HR.out h1;have h5:(ZM a b c d (clE C R S n)).Pairwise (fun a b=>ltC a b=true):=H6.out.filter _;have HF:Hid (Na a b c d C R S n=some (ZM a b c d (clE C R S n))):=by show _=_;unfold Na;rw[h6.out,pS rfl]
 obtain⟨M,H1⟩: ∃M,ZM a b c d (clE C R S n)=M:=⟨_,rfl⟩;rw[H1]at h1 h4 h5 HF H2;have g0:Hid (ClrM a b c d C R S n M):=h1;have HZ:Hid (∀x∈M,x.s.size<=maxLen):=h4;have HP:Hid (M.Pairwise (fun a b=>ltC a b=true)):=h5;obtain⟨mm,h0⟩: ∃mm,Hid (M.length=mm):=⟨_,rfl⟩;have hmm2:mm<=120:=by have:=h1.len;rw[h0.out]at this;omega
 clear h1 h4 h5 H1;go_wp2_with fail
 refine(Vj _ HM.out H2.out (by rw[h0.out];omega)).mono ?_;rintro e w3 ⟨A',c',M',rfl,hp,hpw,ho,hb⟩;have H8:Hid (M'=M):=Qad hpw HP.out hp;rw[H8.out,h0.out]at ho;rw[h0.out];have HO:Hid (w3.ownsRow w.heap.size 70 3 (E A' mm c') mm (QH CL.cs M)):=Go.Proofs.ownsRow_base_a ho K2.out.size;have K3:=hd (Qb K2.out hb)
 have R3:Hid (ClRow w3 A' mm (XH M) (XG M) (XT M)):=YG ho h0.out HZ.out;clear ho hb hp hpw;go_wp2_with fail
 refine(YZ _ R3.out (HG.out.below K3.out)).mono ?_;rintro e w4 ⟨rfl,hb⟩;have H5:QA (XH M) (XG M) (XT M) mm=true:=by have h9:=g0.out.ok;rw[h0.out]at h9;exact h9
 rw[H5];have H7:=hd (Qd HO.out hb);have K4:=hd (Qb K3.out hb);clear hb;go_wp2_with fail
 refine K (v:= V #[E A' mm c',U true]) ?_ rfl ⟨?_,K4.out⟩
 ·simp (maxDischargeDepth:=9) [Z,results32,go_sem, *]
 ·rw[HF.out];exact⟨A',c',mm,rfl,h0.out,H7.out⟩
theorem Qdo(v:Value)(w:I):(J (.iface 104 v) 63 92 true).run prog w= .ok (V #[O #[f y 0,f y 0,G ⟨#[]⟩],U false]) w:=by kernel_rfl
theorem Qds(v:Value)(w:I):(J (.iface 104 v) 63 95 true).run prog w= .ok (V #[O #[f y 0,f y 0,f y 0,f y 0],U false]) w:=by kernel_rfl
theorem Qdp(v:Value)(w:I):(J (.iface 104 v) 63 100 true).run prog w= .ok (V #[O #[f y 0,f y 0],U false]) w:=by kernel_rfl
theorem Qdr(v:Value)(w:I):(J (.iface 104 v) 63 102 true).run prog w= .ok (V #[O #[f y 0,f y 0],U false]) w:=by kernel_rfl
theorem Qdq(v:Value)(w:I):(J (.iface 104 v) 63 104 true).run prog w= .ok (V #[v,U true]) w:=by kernel_rfl
theorem Qo1(w:I)(h:ClRow w A n C R S)(hok:QA C R S n=true)(hg:GI w):
  T prog 32 #[E A n cap,.iface 104 (O #[f y a,f y b,f y c,f y d,f y p,f y q])] w fun z w'=>EnR w.heap.size w' (cpO a b c d p q (clE C R S n)) z/\F w.heap.size w w':=by
 have HR:Hid (ClRow w A n C R S):=h;have HG:Hid (GI w):=hg;have H1:Hid (QA C R S n=true):=hok;clear h hg hok;obtain⟨ao,h3⟩: ∃ao,Hid (cpI a b c d p q=ao):=⟨_,rfl⟩;have hmm:= @run_makeMap prog;go_enter func32,ntmps32
 go_wp2_with fail
 refine(Qi7 a b c d p q _).mono ?_;rintro z w1 ⟨rfl,hb⟩;rw[h3.out];have K1:Hid (F w.heap.size w w1):=hb;clear hb;cases ao
 ·have HV:Hid (cpO a b c d p q (clE C R S n)=none):=Oi h3.out;go_wp2_with fail
  refine K (v:= V #[E none 0 0,U false]) ?_ rfl ⟨?_,K1.out⟩
  ·simp (maxDischargeDepth:=9) [Z,results32,go_sem, *]
  ·rw[HV.out];exact rfl
 have h2:Hid (Ql a b c d=true/\Ql p q (c+p-a) (d+q-b)=true):=by have h9:=h3.out;unfold cpI at h9;rw[Bool.and_eq_true]at h9;exact h9
 have h120:n<=120:=(Yj H1.out).1;have h8:=Qdo;have h7:=Qds;have h6:=Qdp;have h5:=Qdr;have h4:=Qdq;go_wp2_with fail
 clear h8 h7 h6 h5 h4;refine(DM _ (HR.out.below (Qb K1.out (by go_grown))) H1.out (HG.out.below (Qb K1.out (by go_grown))) h2.out.1 h2.out.2).mono ?_;rintro z w2 ⟨B,m,D,rfl,hB,ho,hcm,hb⟩;have HM:Hid (w2.ownsMap prog 26 YM B m D):=ho;have H5:Hid (CmD D (cpM a b c d p q (clE C R S n))):=hcm;have K2:Hid (F w.heap.size w w2):=Qb (Qb K1.out (by go_grown)) hb;clear ho hcm hb hB
 obtain⟨M,h1⟩: ∃M,Hid (cpM a b c d p q (clE C R S n)=M):=⟨_,rfl⟩;obtain⟨H4,H0,H3,H8⟩:=Qu6 H1.out h2.out.1 h2.out.2 h1.out (Qf9 HR.out);rw[h1.out]at H5;have HZ:Hid (∀x∈M,x.s.size<=maxLen):=H3;have HP:Hid (M.Pairwise (fun a b=>ltC a b=true)):=H4;obtain⟨mm,h0⟩: ∃mm,Hid (M.length=mm):=⟨_,rfl⟩;obtain⟨gd,H2⟩: ∃gd,Hid ((decide (M.length<=120)&&cpG a b c d (p-a) (q-b) (clE C R S n))=gd):=⟨_,rfl⟩
 rw[H2.out,h0.out]at H0;have hmm2:mm<=240:=by have:=h0.out;omega
 have HS:Hid (QA (XH M) (XG M) (XT M) mm=gd):=H0;clear H0 H3 H4 H8;go_wp2_with fail
 refine(Vj _ HM.out H5.out (by rw[h0.out];omega)).mono ?_;rintro z w3 ⟨A',c',M',rfl,hp,hpw,ho,hb⟩;have H7:Hid (M'=M):=Qad hpw HP.out hp;rw[H7.out,h0.out]at ho;rw[h0.out];have HO:Hid (w3.ownsRow w.heap.size 70 3 (E A' mm c') mm (QH CL.cs M)):=Go.Proofs.ownsRow_base_a ho K2.out.size;have K3:=hd (Qb K2.out hb)
 have R3:Hid (ClRow w3 A' mm (XH M) (XG M) (XT M)):=YG ho h0.out HZ.out;clear ho hb hp hpw;go_wp2_with fail
 refine(YZ _ R3.out (HG.out.below K3.out)).mono ?_;rintro z w4 ⟨rfl,hb⟩;rw[HS.out];have H6:=hd (Qd HO.out hb);have K4:=hd (Qb K3.out hb);clear hb;cases gd
 ·have HV:Hid (cpO a b c d p q (clE C R S n)=none):=Oh (by rw[h1.out];exact H2.out);go_wp2_with fail
  refine K (v:= V #[E none 0 0,U false]) ?_ rfl ⟨?_,K4.out⟩
  ·simp (maxDischargeDepth:=9) [Z,results32,go_sem, *]
  ·rw[HV.out];exact rfl
 ·have HV:Hid (cpO a b c d p q (clE C R S n)=some M):=by show _=_;rw[Qhi h3.out (by rw[h1.out];exact H2.out),h1.out]
  go_wp2_with fail
  refine K (v:= V #[E A' mm c',U true]) ?_ rfl ⟨?_,K4.out⟩
  ·simp (maxDischargeDepth:=9) [Z,results32,go_sem, *]
  ·rw[HV.out];exact⟨A',c',mm,rfl,h0.out,H6.out⟩
theorem Qhu(w:I)(h:ClRow w A n C R S)(hok:QA C R S n=true):
  T prog 35 #[E A n cap,O #[f y 5,f y p,f y q,G t,f y a,f y b,f y c,f y d,f y r,f y m]] w fun z w'=>EnW w.heap.size w' (cpO a b c d p q (clE C R S n)) z/\F w.heap.size w w':=by
 have HR:Hid (ClRow w A n C R S):=h;clear h;obtain⟨h1,h0⟩: ∃h1,Hid (cpO a b c d p q (clE C R S n)=h1):=⟨_,rfl⟩;go_enter func35,ntmps35;go_wp2_with fail
 refine(Qsi _ (HR.out.below (by go_grown)) hok).mono ?_;rintro z w2 ⟨he,hb⟩;have K2:Hid (F w.heap.size w w2):=Qb (by go_grown) hb;clear hb;rw[h0.out]at he;cases h1 with
 | none=>
  obtain⟨v0,rfl⟩: ∃v0,z= N (V #[v0,U false]):=he;go_wp2_with fail
  refine K (v:= V #[v0,U false]) ?_ rfl ⟨?_,K2.out⟩
  ·simp (maxDischargeDepth:=9) [Z,results35,go_sem, *]
  ·rw[h0.out];exact⟨_,rfl⟩
 | some M=>
  obtain⟨A3,c3,mm,rfl,hm,ho⟩:=he;have h2:Hid (w2.ownsRow w.heap.size 70 3 (E A3 mm c3) mm (QH CL.cs M)):=Go.Proofs.ownsRow_base_a ho (by simp);clear ho;go_wp2_with fail
  refine K (v:= V #[E A3 mm c3,U true]) ?_ rfl ⟨?_,K2.out⟩
  ·simp (maxDischargeDepth:=9) [Z,results35,go_sem, *]
  ·rw[h0.out];exact⟨A3,c3,mm,rfl,hm,h2.out⟩
def edO(k p q a b c d r m:Int)(t:ByteArray)(C R:Nat->Int)(S:Nat->ByteArray)(n:Nat):Option (List CL):=
 if k=1 then enF C R S n p q t else if k=2 then Na a b c d C R S n else if k=3 then rwO false r m (clE C R S n)else if k=4 then rwO true r m (clE C R S n)else if k=5 then cpO a b c d p q (clE C R S n)else none
def edV(k p q a b c d r m:Int)(t:ByteArray):Value:=
 if k=1 then .iface 92 (O #[f y p,f y q,G t])else if k=2 then .iface 95 (O #[f y a,f y b,f y c,f y d])else if k=3 then .iface 100 (O #[f y r,f y m])else if k=4 then .iface 102 (O #[f y r,f y m])else if k=5 then .iface 104 (O #[f y a,f y b,f y c,f y d,f y p,f y q])else .iface 107 (O #[])
theorem Qst(w:I):T prog 33 #[O #[f y k,f y p,f y q,G t,f y a,f y b,f y c,f y d,f y r,f y m]] w fun e w'=>e= N (edV k p q a b c d r m t)/\F w.heap.size w w':=by
 unfold edV;split
 ·subst k;exact Qx5 p q a b c d r m t w
 split
 ·subst k;exact Qx9 p q a b c d r m t w
 split
 ·subst k;exact Qx7 p q a b c d r m t w
 split
 ·subst k;exact Qx4 p q a b c d r m t w
 split
 ·subst k;exact Qx6 p q a b c d r m t w
 ·exact Qx8 k p q a b c d r m t w ‹_› ‹_› ‹_› ‹_› ‹_›
theorem Qsc(w:I)(h:ClRow w A n C R S)(hok:QA C R S n=true)(ht:t.size<=maxLen)(hg:GI w):
  T prog 32 #[E A n cap,edV k p q a b c d r m t] w fun z w'=>EnR w.heap.size w' (edO k p q a b c d r m t C R S n) z/\F w.heap.size w w':=by
 unfold edV edO;by_cases h1:k=1
 ·simp only[pS h1];exact Qo0 w h ht hg
 by_cases h2:k=2
 ·simp only[nG h1,pS h2];exact ED w h hok hg
 by_cases h3:k=3
 ·simp only[nG h1,nG h2,pS h3];exact Qrq w h hok hg
 by_cases h4:k=4
 ·simp only[nG h1,nG h2,nG h3,pS h4];exact Qqo w h hok hg
 by_cases h5:k=5
 ·simp only[nG h1,nG h2,nG h3,nG h4,pS h5];exact Qo1 w h hok hg
 ·simp only[nG h1,nG h2,nG h3,nG h4,nG h5];exact(Qo2 w).mono fun _ _ h9=>⟨h9.1,h9.2⟩
theorem Qik(w:I)(h:ClRow w A n C R S)(hok:QA C R S n=true)(ht:t.size<=maxLen):
  T prog 35 #[E A n cap,O #[f y k,f y p,f y q,G t,f y a,f y b,f y c,f y d,f y r,f y m]] w fun z w'=>EnW w.heap.size w' (edO k p q a b c d r m t C R S n) z/\F w.heap.size w w':=by
 unfold edO;by_cases h1:k=1
 ·subst h1;simp only[if_true];exact(Qjy w h ht).mono fun _ _ h9=>⟨h9.1.w,h9.2⟩
 by_cases h2:k=2
 ·subst h2;simp only[nG h1,if_true];exact(Qj1 w h (by have:=(Yj hok).1;omega)).mono fun _ _ h9=>⟨h9.1.w,h9.2⟩
 by_cases h3:k=3
 ·subst h3;simp only[nG h1,nG h2,if_true];exact(Qjz w h hok).mono fun _ _ h9=>⟨h9.1.w,h9.2⟩
 by_cases h4:k=4
 ·subst h4;simp only[nG h1,nG h2,nG h3,if_true];exact(Qjx w h hok).mono fun _ _ h9=>⟨h9.1.w,h9.2⟩
 by_cases h5:k=5
 ·subst h5;simp only[nG h1,nG h2,nG h3,nG h4,if_true];exact Qhu w h hok
 ·simp only[nG h1,nG h2,nG h3,nG h4,nG h5];exact(Qj0 w h1 h2 h3 h4 h5).mono fun _ _ h9=>⟨⟨_,h9.1⟩,h9.2⟩
def apF(k p q a b c d r m:Int)(t:ByteArray)(C R:Nat->Int)(S:Nat->ByteArray)(n:Nat):Option (List CL):=apO C R S n (edO k p q a b c d r m t C R S n)
theorem Qc6(w:I)(h:ClRow w A n C R S)(ht:t.size<=maxLen)(hg:GI w):
  T prog 10 #[E A n cap,O #[f y k,f y p,f y q,G t,f y a,f y b,f y c,f y d,f y r,f y m]] w fun z w'=>EnR w.heap.size w' (apF k p q a b c d r m t C R S n) z/\F w.heap.size w w':=
 Qj5 (edV k p q a b c d r m t) (edO k p q a b c d r m t C R S n) w h hg (fun u=>Qst u) (fun hok u hu hgu=>Qsc u hu hok ht hgu)
theorem Qpn(w:I)(h:ClRow w A n C R S)(ht:t.size<=maxLen):
  T prog 11 #[E A n cap,O #[f y k,f y p,f y q,G t,f y a,f y b,f y c,f y d,f y r,f y m]] w fun z w'=>EnR w.heap.size w' (apF k p q a b c d r m t C R S n) z/\F w.heap.size w w':=
 Qj2 (edO k p q a b c d r m t C R S n) w h (fun hok u hu=>Qik u hu hok ht)
theorem Qvw(hs: ∀i,i<n->(S i).size<=maxLen){M:List CL}(h:apF k p q a b c d r m t C R S n=some M):(∀x∈M,x.s.size<=maxLen)/\M.length<=240:=by
 have hE: ∀x∈clE C R S n,x.s.size<=maxLen:=fun x hx=>by
  obtain⟨i,hi,rfl⟩:=List.mem_map.1 hx;exact hs i (List.mem_range.1 hi)
 unfold apF apO at h;split at h
 case isFalse=>cases h
 rename_i hok
 have hn:=(Yj hok).1;unfold edO at h;split at h
 ·have h1:=Qxb (C:=C) (R:=R) (S:=S) (n:=n) (p:=p) (q:=q) (s:=t) hs;have h2:=Qu3 (C:=C) (R:=R) (S:=S) (n:=n) (p:=p) (q:=q) (s:=t);rw[h]at h1 h2;exact⟨h1,by have:M.length<=120:=h2;omega⟩
 split at h
 ·unfold Na at h;split at h
  case isFalse=>cases h
  cases h
  exact⟨fun x hx=>hE x (List.mem_filter.1 hx).1,by have:=Uk a b c d C R S n;omega⟩
 split at h
 ·unfold rwO at h;split at h
  case isFalse=>cases h
  split at h
  case isFalse=>cases h
  cases h
  exact⟨Qt2 hE,by have:=Qf3 false r m C R S n;omega⟩
 split at h
 ·unfold rwO at h;split at h
  case isFalse=>cases h
  split at h
  case isFalse=>cases h
  cases h
  exact⟨Qt2 hE,by have:=Qf3 true r m C R S n;omega⟩
 split at h
 ·unfold cpO at h;split at h
  case isFalse=>cases h
  rename_i hci
  split at h
  case isFalse=>cases h
  unfold cpI at hci;rw[Bool.and_eq_true]at hci;obtain⟨_,_,h3,h4⟩:=Qu6 hok hci.1 hci.2 rfl hE;cases h
  exact⟨h3,h4⟩
 ·cases h
theorem Qyn(hs: ∀i,i<n->(S i).size<=maxLen): ∀x∈(apF k p q a b c d r m t C R S n).getD [],x.s.size<=maxLen:=by
 cases h:apF k p q a b c d r m t C R S n with
 | none=>intro x hx;cases hx
 | some M=>exact(Qvw hs h).1
theorem Qyl(hs: ∀i,i<n->(S i).size<=maxLen):((apF k p q a b c d r m t C R S n).getD []).length<=240:=by
 cases h:apF k p q a b c d r m t C R S n with
 | none=>exact Nat.zero_le _
 | some M=>exact(Qvw hs h).2
theorem Qqg(a b c d:Int)(w:I):T prog 47 #[O #[f y a,f y b,f y c,f y d]] w fun e w'=>
  e= N (O #[f y a,f y b,f y c,f y d])/\F w.heap.size w w':=by
 go_enter func47,ntmps47;go_wp2
 go_returns
 exact⟨rfl,by go_grown⟩
theorem Qu4(lf:Int)(w:I)(h0:0<=lf)(h1:lf<=1048576)(ht:t.size<=maxLen):T prog 19 #[O #[f y k,f y p,f y q,G t,f y a,f y b,f y c,f y d,f y r,f y m],f y lf] w fun e w'=>
  ∃z:Int,e= N (f y z)/\z<=1048576/\F w.heap.size w w':=by
 unfold maxLen at ht;by_cases hbig:lf-(t.size:Int)<0
 ·go_enter func19,ntmps19;go_wp2_with fail
  go_ret;exact⟨-1,rfl,by omega,by go_grown⟩
 ·go_enter func19,ntmps19;go_wp2_with fail
  go_ret;exact⟨_,rfl,by omega,by go_grown⟩
theorem EL(w:I):T prog 21 #[O #[f y k,f y p,f y q,G t,f y a,f y b,f y c,f y d,f y r,f y m]] w fun e w'=>
  e= N (O #[f y k,f y p,f y q,G t,f y a,f y b,f y c,f y d,f y r,f y m])/\F w.heap.size w w':=by
 go_enter func21,ntmps21;go_wp2_with fail
 refine(Qsw _ _ _).mono ?_;rintro e w1 ⟨rfl,hb⟩;have X0:edG w1 w.heap.size k p q t a b c d r m:=by constructor<;>first | exact Qn hb (by go_size) (by go_simp) | exact Nat.lt_of_lt_of_le (by go_size) hb.size
 have O0:edG w1 (w.heap.size+1+1) k 0 0 ⟨#[]⟩ 0 0 0 0 0 0:=by constructor<;>first | exact Qn hb (by go_size) (by go_simp) | exact Nat.lt_of_lt_of_le (by go_size) hb.size
 have R0:edG w1 (w.heap.size+1) 0 0 0 ⟨#[]⟩ 0 0 0 0 0 0:=by constructor<;>first | exact Qn hb (by go_size) (by go_simp) | exact Nat.lt_of_lt_of_le (by go_size) hb.size
 have f1: ∀o,w1.frozen? ⟨w.heap.size+1,o,none⟩=false:=fun o=>(hb.frozen (p:=⟨_,o,none⟩) (by go_size)).trans (by go_simp);have f2: ∀o,w1.frozen? ⟨w.heap.size+1+1,o,none⟩=false:=fun o=>(hb.frozen (p:=⟨_,o,none⟩) (by go_size)).trans (by go_simp);have KW:Hid (F w.heap.size w w1):=Qb (by go_grown) hb;clear hb;obtain⟨_,x0,x1,x2,x3,x4,x5,x6,x7,x8,x9⟩:=X0;obtain⟨_,o0,o1,o2,o3,o4,o5,o6,o7,o8,o9⟩:=O0;obtain⟨_,r0,r1,r2,r3,r4,r5,r6,r7,r8,r9⟩:=R0
 have zw:w.heap.size+1+1<w1.heap.size:=by have:=Y w1 ⟨_,0,none⟩ o0;exact this
 go_wp2_with fail
 refine(Qqg _ _ _ _ _).mono ?_;rintro e w2 ⟨rfl,hb⟩;have X0:edG w2 w.heap.size k p q t a b c d r m:=by constructor<;>first | exact Qn hb (by go_size) (by go_simp) | exact Nat.lt_of_lt_of_le (by go_size) hb.size
 have O0:edG w2 (w.heap.size+1+1) k p q t 0 0 0 0 0 0:=by constructor<;>first | exact Qn hb (by go_size) (by go_simp) | exact Nat.lt_of_lt_of_le (by go_size) hb.size
 have R0:edG w2 (w.heap.size+1) 0 0 0 ⟨#[]⟩ 0 0 0 0 0 0:=by constructor<;>first | exact Qn hb (by go_size) (by go_simp) | exact Nat.lt_of_lt_of_le (by go_size) hb.size
 replace f1: ∀o,w2.frozen? ⟨w.heap.size+1,o,none⟩=false:=fun o=>(hb.frozen (p:=⟨_,o,none⟩) (by go_size)).trans (by go_simp);replace f2: ∀o,w2.frozen? ⟨w.heap.size+1+1,o,none⟩=false:=fun o=>(hb.frozen (p:=⟨_,o,none⟩) (by go_size)).trans (by go_simp);have KV:Hid (F w.heap.size w w2):=Qb (by have h9:=KW.out;go_grown) hb;clear hb zw KW x0 x1 x2 x3 x4 x5 x6 x7 x8 x9 o0 o1 o2 o3 o4 o5 o6 o7 o8 o9 r0 r1 r2 r3 r4 r5 r6 r7 r8 r9;obtain⟨_,x0,x1,x2,x3,x4,x5,x6,x7,x8,x9⟩:=X0;obtain⟨_,o0,o1,o2,o3,o4,o5,o6,o7,o8,o9⟩:=O0;obtain⟨_,r0,r1,r2,r3,r4,r5,r6,r7,r8,r9⟩:=R0
 have zv:w.heap.size+1+1<w2.heap.size:=by have:=Y w2 ⟨_,0,none⟩ o0;exact this
 go_upto_region 8 with fail
 obtain⟨X,HX⟩: ∃X,Hid ((((((w2.setCell ⟨w.heap.size+1+1,4,none⟩ (f y a)).setCell ⟨w.heap.size+1+1,5,none⟩ (f y b)).setCell ⟨w.heap.size+1+1,6,none⟩ (f y c)).setCell ⟨w.heap.size+1+1,7,none⟩ (f y d)).setCell ⟨w.heap.size+1+1,8,none⟩ (f y r)).setCell ⟨w.heap.size+1+1,9,none⟩ (f y m)=X):=⟨_,rfl⟩;rw[HX.out];have O0:edG X (w.heap.size+1+1) k p q t a b c d r m:=by rw[<-HX.out];constructor<;>first | go_simp | simpa using zv
 have R0:edG X (w.heap.size+1) 0 0 0 ⟨#[]⟩ 0 0 0 0 0 0:=by rw[<-HX.out];constructor<;>first | go_simp | (go_simp;omega)
 have h1: ∀o,X.frozen? ⟨w.heap.size+1,o,none⟩=false:=fun o=>by rw[<-HX.out];go_simp
 have KX:Hid (F w.heap.size w X):=by rw[<-HX.out];show F _ _ _;have h9:=KV.out;go_grown
 clear HX KV zv f1 f2 x0 x1 x2 x3 x4 x5 x6 x7 x8 x9 o0 o1 o2 o3 o4 o5 o6 o7 o8 o9 r0 r1 r2 r3 r4 r5 r6 r7 r8 r9;obtain⟨_,u0,u1,u2,u3,u4,u5,u6,u7,u8,u9⟩:=O0;obtain⟨_,v0,v1,v2,v3,v4,v5,v6,v7,v8,v9⟩:=R0;have zX:w.heap.size+1+1<X.heap.size:=by have:=Y X ⟨_,0,none⟩ u0;exact this
 go_wp2_with fail
 refine K (v:= O #[f y k,f y p,f y q,G t,f y a,f y b,f y c,f y d,f y r,f y m]) ?_ rfl ⟨rfl,by have h9:=KX.out;go_grown⟩;simp (maxDischargeDepth:=9) [Z,results21,go_sem, *]
def szv(l:Int)(m:Nat):Int:=if l-m<0 then-1 else l-m
theorem Qx0{W:I}{B g t:Nat}{ys:List Value}(h:W.ownsRow B 70 3 (E (some ⟨g,0,none⟩) n cap) n ys)(ht:t<n)(hy: ∀j,j<t*3->ys[j]? =(clX C R S n)[j]?):
  ∃zs,(((W.setCell ⟨g,t*3,none⟩ (f y (C t))).setCell ⟨g,t*3+1,none⟩ (f y (R t))).setCell ⟨g,t*3+2,none⟩ (G (S t))).ownsRow B 70 3 (E (some ⟨g,0,none⟩) n cap) n zs/\
   (∀j,j<(t+1)*3->zs[j]? =(clX C R S n)[j]?)/\W.grownBy (((W.setCell ⟨g,t*3,none⟩ (f y (C t))).setCell ⟨g,t*3+1,none⟩ (f y (R t))).setCell ⟨g,t*3+2,none⟩ (G (S t))) (some g):=by
 obtain⟨o1,g1⟩:=h.stored (t*3) (f y (C t));obtain⟨o2,g2⟩:=o1.stored (t*3+1) (f y (R t));obtain⟨o3,g3⟩:=o2.stored (t*3+2) (G (S t));refine⟨_,o3,fun j hj=> ?_,Qb2 (Qb2 g1 g2) g3⟩;have hl:=h.1;by_cases e2:t*3+2=j
 ·subst e2;rw[List.getElem?_set_self (by simp;omega),Qfl C R S n t 2 ht (by omega)];rfl
 rw[List.getElem?_set_ne e2];by_cases e1:t*3+1=j
 ·subst e1;rw[List.getElem?_set_self (by simp;omega),Qfl C R S n t 1 ht (by omega)];rfl
 rw[List.getElem?_set_ne e1];by_cases e0:t*3=j
 ·subst e0;rw[List.getElem?_set_self (by omega)];exact(Qfl C R S n t 0 ht (by omega)).symm
 rw[List.getElem?_set_ne e0];exact hy j (by omega)
theorem Qxq{ys:List Value}(hl:ys.length=n*3)(hy: ∀j,j<n*3->ys[j]? =(clX C R S n)[j]?):ys=clX C R S n:=by
 apply List.ext_getElem?;intro j;by_cases h:j<n*3
 ·exact hy j h
 ·rw[List.getElem?_eq_none (by omega),List.getElem?_eq_none (by rw[Qr7];omega)]
theorem Qvc(c r:Int)(s:ByteArray)(l:Int)(w:I)(hs:s.size<=maxLen)(h0:0<=l)(h1:l<=1048576):T prog 44 #[O #[f y c,f y r,G s],f y l] w fun e w'=>
  e= N (f y (szv l s.size))/\F w.heap.size w w':=by
 unfold maxLen at hs;by_cases hz:l-(s.size:Int)<0
 ·have he:Hid (szv l s.size= -1):=by show _=_;unfold szv;rw[pS hz]
  go_enter func44,ntmps44;go_wp2_with fail
  go_ret;exact⟨Zn he.out.symm,by go_grown⟩
 ·have he:Hid (szv l s.size=l-(s.size:Int)):=by show _=_;unfold szv;rw[nG hz]
  go_enter func44,ntmps44;go_wp2_with fail
  go_ret;exact⟨Zn he.out.symm,by go_grown⟩
theorem Quy(c r:Int)(s:ByteArray)(w:I):T prog 45 #[O #[f y c,f y r,G s]] w fun e w'=>
  e= N (O #[f y c,f y r,G s])/\F w.heap.size w w':=by
 go_enter func45,ntmps45
 go_wp2_with (first
  | (go_at_call 46;refine(Qsw _ _ _).mono ?_;rintro e w1 ⟨rfl,hb⟩;obtain⟨hc,hf,hC,hF,hz,hk,l0,l1,l2⟩:=bk3 (w:=w) hb;clear hb))
 refine K (v:= O #[f y c,f y r,G s]) ?_ rfl ⟨rfl,by go_grown⟩;simp (maxDischargeDepth:=9) [Z,results45,go_sem, *]
theorem Jy(w:I)(h:ClRow w A n C R S)(hn:n<=1048576):
  T prog 20 #[E A n cap] w fun e w'=> ∃v,e= N v/\w'.ownsRow w.heap.size 70 3 v n (clX C R S n)/\F w.heap.size w w':=by
 have HR:Hid (ClRow w A n C R S):=h;clear h;obtain⟨i0,hi,h9,h8,h7⟩:=info_parts Qn3;go_enter func20,ntmps20;go_wp2_with (refine wpList_make_full _ rfl _ _ 24 rfl w.heap.size 70 i0 _ 3 underlying24 hi h9 h8 _ _ _ _ n rfl rfl rfl rfl ?m1 ?m2 ?m3 ?_)
 case m1=>rw[h7];omega
 case m2=>unfold maxLen;omega
 case m3=>exact Nat.le_refl _
 intro w1 h0 hgrow;have h5:F w.heap.size w w1:=(jc _ _).grown hgrow (Nat.le_refl _) (fun k hk=>by cases hk);obtain⟨ys,h0⟩: ∃ys,w1.ownsRow w.heap.size 70 3 (E (some ⟨w.heap.size,0,none⟩) n n) n ys:=⟨_,h0⟩;clear hgrow;have HO:Hid (w1.ownsRow w.heap.size 70 3 (E (some ⟨w.heap.size,0,none⟩) n n) n ys):=h0;clear h0;go_wp2_with fail
 go_loopw [4] (fun i wr=> ∃t:Nat,t<=n/\i= f y t/\(∃ys,wr.ownsRow w.heap.size 70 3 (E (some ⟨w.heap.size,0,none⟩) n n) n ys/\ ∀j,j<t*3->ys[j]? =(clX C R S n)[j]?)/\F w.heap.size w wr) (fun i _=>n-(intOf i).toNat)
 case atStart=>exact⟨0,Nat.zero_le _,rfl,⟨ys,HO.out,fun j hj=>by omega⟩,h5⟩
 case round=>
  clear HO h5;obtain⟨t,ht,rfl,⟨ys,h0,h3⟩,h1⟩:=hrel;by_cases h4:t<n
  ·obtain⟨b,o,rfl,hl,c0,c1,c2,hs⟩:=HR.out.2 t h4;rw[<-h1.cell (p:=⟨_,_,none⟩) hl]at c0 c1 c2;have q0:(0:Int)<=(t:Int):=by omega
   have q1:(t:Int)<(n:Int):=by omega
   have HO:Hid (wr.ownsRow w.heap.size 70 3 (E (some ⟨w.heap.size,0,none⟩) n n) n ys):=h0;have HY:Hid (∀j,j<t*3->ys[j]? =(clX C R S n)[j]?):=h3;have HB:Hid (F w.heap.size w wr):=h1;clear h0 h3 h1;go_wp2_with fail
   refine(Quy _ _ _ _).mono ?_;rintro e w2 ⟨rfl,hb⟩;have h2:=hd (Qd HO.out hb);have h6:=hd (Qb HB.out hb);obtain⟨A',cap',e,_,hc⟩:=Qr h2.out;cases e
   obtain⟨g0,e0,_,hg,d0,f0⟩:=hc (t*3) (by omega);obtain⟨g1,e1,_,_,d1,f1⟩:=hc (t*3+1) (by omega);obtain⟨g2,e2,_,_,d2,f2⟩:=hc (t*3+2) (by omega);cases e0
   cases e1
   cases e2
   clear hc hb c0 c1 c2 HO HB;have H0:=h2.out.1;obtain⟨x0,y0⟩: ∃x,ys[t*3]? =some x:=⟨_,List.getElem?_eq_getElem (by omega)⟩;obtain⟨x1,y1⟩: ∃x,ys[t*3+1]? =some x:=⟨_,List.getElem?_eq_getElem (by omega)⟩;obtain⟨x2,y2⟩: ∃x,ys[t*3+2]? =some x:=⟨_,List.getElem?_eq_getElem (by omega)⟩;rw[y0]at d0;rw[y1]at d1
   rw[y2]at d2;clear y0 y1 y2 H0
   have HT:Hid (∃zs,(((w2.setCell ⟨w.heap.size,t*3,none⟩ (f y (C t))).setCell ⟨w.heap.size,t*3+1,none⟩ (f y (R t))).setCell ⟨w.heap.size,t*3+2,none⟩ (G (S t))).ownsRow w.heap.size 70 3 (E (some ⟨w.heap.size,0,none⟩) n n) n zs/\
    (∀j,j<(t+1)*3->zs[j]? =(clX C R S n)[j]?)/\w2.grownBy (((w2.setCell ⟨w.heap.size,t*3,none⟩ (f y (C t))).setCell ⟨w.heap.size,t*3+1,none⟩ (f y (R t))).setCell ⟨w.heap.size,t*3+2,none⟩ (G (S t))) (some w.heap.size)):=Qx0 h2.out h4 HY.out
   clear h2 HY;go_wp2_with fail
   all_goals
    go_roundw
    case rel=>
     obtain⟨zs,z1,z2,z3⟩:=HT.out;exact⟨t+1,by omega,by simp,⟨zs,z1,z2⟩,h6.out.grown z3 h6.out.size (fun k hk=>by cases hk;exact Nat.le_refl _)⟩
    case measure=>simp[intOf];omega
  ·have q1: ¬(t:Int)<(n:Int):=by omega
   obtain rfl:t=n:=by omega
   go_wp2_with fail
   go_ret;exact⟨_,rfl,by rw[Qxq h0.1 h3]at h0;exact h0,h1⟩
structure CE where
 c:Int
 r:Int
 s:ByteArray
def ceL(x:CE):List Value:= [f y x.c,f y x.r,G x.s]
theorem Qjd(x:CE):(ceL x).length=3:=rfl
abbrev Qyi(W:I)(A:Option ja)(L:List CE):Prop:=RowAt 3 ceL W A L
def Qx1(k:Int):CE:=⟨k,(k+1),mtx (k+1+1)⟩
theorem Ei{B:Nat}{v:Value}{xs:List Value}(k0:Int)(w:I)(h:w.ownsRow B 70 3 v n xs)(hn:n<=1048576)(hk0:0<k0)(hk1:k0<=70368744177664):
  T prog 23 #[v,f y k0] w fun e w'=>e= N (f y (k0+(n:Int)*3))/\w'.ownsRow B 70 3 v n (QH ceL (mkL Qx1 3 k0 n))/\w.grownBy w' v.ownBlock:=by
 have HO:Hid (w.ownsRow B 70 3 v n xs):=h;obtain⟨A,h3,rfl,_,_⟩:=Qr h;clear h;obtain⟨LL,h6⟩: ∃LL,Hid (mkL Qx1 3 k0 n=LL):=⟨_,rfl⟩;rw[h6.out];go_enter func23,ntmps23;go_wp2_with fail
 go_loopw [1,5] (fun q i wr=> ∃t:Nat,t<=n/\i= f y t/\q= f y (k0+(t:Int)*3)/\(∃ys,wr.ownsRow B 70 3 (E A n h3) n ys/\ ∀j,j<t*3->ys[j]? =(QH ceL LL)[j]?)/\w.grownBy wr (Value.slice A n h3).ownBlock) (fun _ i _=>n-(intOf i).toNat)
 case atStart=>exact⟨0,Nat.zero_le _,rfl,by simp,⟨xs,HO.out,fun j hj=>by omega⟩,World.grownBy.refl _ _⟩
 case round=>
  clear HO;obtain⟨t,ht,rfl,rfl,⟨ys,h0,h4⟩,h5⟩:=hrel;by_cases H4:t<n
  ·obtain⟨k,HK⟩: ∃k:Int,Hid (k0+(t:Int)*3=k):=⟨_,rfl⟩;have hp0:0<k:=by have:=HK.out;omega
   have hp1:k<=70378744177664:=by have:=HK.out;omega
   have HX:Hid (∀j,j<3->(QH ceL LL)[t*3+j]? =(ceL (Qx1 k))[j]?):=fun j hj=>by
    rw[<-h6.out,Ob Qjd j hj,Qyc _ _ _ _ _ H4,<-HK.out];rfl
   rw[HK.out]
   obtain⟨g,rfl⟩: ∃g,A=some ⟨g,0,none⟩:=by
    obtain⟨A',h2,e,_,hc⟩:=Qr h0;cases e
    obtain⟨g,e,_⟩:=hc (t*3) (by omega);exact⟨g,e⟩
   have H0:Hid (∃ys,wr.ownsRow B 70 3 (E (some ⟨g,0,none⟩) n h3) n ys/\(∀j,j<t*3->ys[j]? =(QH ceL LL)[j]?)/\w.grownBy wr (some g)):=⟨ys,h0,h4,h5⟩;clear h0 h4 h5;have q0:(0:Int)<=(t:Int):=by omega
   have q1:(t:Int)<(n:Int):=by omega
   obtain⟨H3,o0,p0,r0⟩:=H0.out;obtain⟨A',h2,e,_,hc⟩:=Qr o0;cases e
   obtain⟨gg,e0,_,hg0,d0,f0⟩:=hc (t*3) (by omega);cases e0
   clear hc;have hl:=o0.1;obtain⟨x0,y0⟩: ∃x,H3[t*3]? =some x:=⟨_,List.getElem?_eq_getElem (by omega)⟩;rw[y0]at d0;clear y0 hl
   have h8:Hid (∃ys,((wr.setCell ⟨g,t*3,none⟩ (f y (k)))).ownsRow B 70 3 (E (some ⟨g,0,none⟩) n h3) n ys/\(∀j,j<t*3+1->ys[j]? =(QH ceL LL)[j]?)/\w.grownBy ((wr.setCell ⟨g,t*3,none⟩ (f y (k)))) (some g)):=by
    obtain⟨oq,gq⟩:=o0.stored (t*3) (f y (k));refine⟨_,oq,fun j hj=> ?_,Qb2 r0 gq⟩;by_cases e:t*3=j
    ·subst e;rw[List.getElem?_set_self (by have:=o0.1;omega)];exact(HX.out 0 (by omega)).symm
    ·rw[List.getElem?_set_ne e];exact p0 j (by omega)
   clear o0 p0 r0;clear H0;obtain⟨H2,o1,p1,r1⟩:=h8.out;obtain⟨A',h2,e,_,hc⟩:=Qr o1;cases e
   obtain⟨gg,e1,_,hg1,d1,f1⟩:=hc (t*3+1) (by omega);cases e1
   clear hc;have hl:=o1.1;obtain⟨x1,y1⟩: ∃x,H2[t*3+1]? =some x:=⟨_,List.getElem?_eq_getElem (by omega)⟩;rw[y1]at d1;clear y1 hl
   have h7:Hid (∃ys,(((wr.setCell ⟨g,t*3,none⟩ (f y (k))).setCell ⟨g,t*3+1,none⟩ (f y (k+1)))).ownsRow B 70 3 (E (some ⟨g,0,none⟩) n h3) n ys/\(∀j,j<t*3+2->ys[j]? =(QH ceL LL)[j]?)/\w.grownBy (((wr.setCell ⟨g,t*3,none⟩ (f y (k))).setCell ⟨g,t*3+1,none⟩ (f y (k+1)))) (some g)):=by
    obtain⟨oq,gq⟩:=o1.stored (t*3+1) (f y (k+1));refine⟨_,oq,fun j hj=> ?_,Qb2 r1 gq⟩;by_cases e:t*3+1=j
    ·subst e;rw[List.getElem?_set_self (by have:=o1.1;omega)];exact(HX.out 1 (by omega)).symm
    ·rw[List.getElem?_set_ne e];exact p1 j (by omega)
   clear o1 p1 r1;clear h8;go_wp2_with fail
   refine(Qka _ _ (by omega) (by omega)).mono ?_;rintro e w2 ⟨rfl,hb⟩
   have h9:Hid (∃ys,w2.ownsRow B 70 3 (E (some ⟨g,0,none⟩) n h3) n ys/\(∀j,j<t*3+2->ys[j]? =(QH ceL LL)[j]?)/\w.grownBy w2 (some g)):=by
    obtain⟨z,o1,p1,g1⟩:=h7.out;exact⟨z,Qd o1 hb,p1,Qb2 g1 (Qsj _ hb)⟩
   clear hb h7 d0 f0 d1 f1;obtain⟨H1,o2,p2,r2⟩:=h9.out;obtain⟨A',h2,e,_,hc⟩:=Qr o2;cases e
   obtain⟨gg,e2,_,hg2,d2,f2⟩:=hc (t*3+2) (by omega);cases e2
   clear hc;have hl:=o2.1;obtain⟨x2,y2⟩: ∃x,H1[t*3+2]? =some x:=⟨_,List.getElem?_eq_getElem (by omega)⟩;rw[y2]at d2;clear y2 hl
   have H5:Hid (∃ys,((w2.setCell ⟨g,t*3+2,none⟩ (G (mtx (k+1+1))))).ownsRow B 70 3 (E (some ⟨g,0,none⟩) n h3) n ys/\(∀j,j<t*3+3->ys[j]? =(QH ceL LL)[j]?)/\w.grownBy ((w2.setCell ⟨g,t*3+2,none⟩ (G (mtx (k+1+1))))) (some g)):=by
    obtain⟨oq,gq⟩:=o2.stored (t*3+2) (G (mtx (k+1+1)));refine⟨_,oq,fun j hj=> ?_,Qb2 r2 gq⟩;by_cases e:t*3+2=j
    ·subst e;rw[List.getElem?_set_self (by have:=o2.1;omega)];exact(HX.out 2 (by omega)).symm
    ·rw[List.getElem?_set_ne e];exact p2 j (by omega)
   clear o2 p2 r2;clear h9;go_wp2_with fail
   all_goals
    go_roundw
    case rel=>
     obtain⟨z,o1,p1,g1⟩:=H5.out;exact⟨t+1,by omega,by simp,by have:=HK.out;congr 1;omega,⟨z,o1,fun j hj=>p1 j (by omega)⟩,g1⟩
    case measure=>simp[intOf];omega
  ·have h1: ¬(t:Int)<(n:Int):=by omega
   obtain rfl:t=n:=by omega
   go_wp2_with fail
   go_ret;exact⟨rfl,by rw[Qxs Qjd h0.1 (by rw[<-h6.out];exact Qxr _ _ _ _) h4]at h0;exact h0,h5⟩
theorem EF(k0:Int)(w:I)(h:Qyi w A (mkL Qx1 3 k0 n))(hn:n<=1048576)(hk0:0<k0)(hk1:k0<=70368744177664):
  T prog 24 #[E A n cap,f y k0] w fun e w'=>e= N (f y (k0+(n:Int)*3))/\F w.heap.size w w':=by
 have HR:Hid (Qyi w A (mkL Qx1 3 k0 n)):=h;clear h;go_enter func24,ntmps24;go_wp2_with fail
 go_loopw [1,5] (fun q i wr=> ∃t:Nat,t<=n/\i= f y t/\q= f y (k0+(t:Int)*3)/\F w.heap.size w wr) (fun _ i _=>n-(intOf i).toNat)
 case atStart=>exact⟨0,Nat.zero_le _,rfl,by simp,jc _ _⟩
 case round=>
  obtain⟨t,ht,rfl,rfl,h0⟩:=hrel;by_cases h4:t<n
  ·obtain⟨k,HK⟩: ∃k:Int,Hid (k0+(t:Int)*3=k):=⟨_,rfl⟩;have hp0:0<k:=by have:=HK.out;omega
   have hp1:k<=70378744177664:=by have:=HK.out;omega
   have hx:=Qyc Qx1 3 k0 n t h4;have h2:k0+(t:Int)*((3:Nat):Int)=k:=HK.out;rw[h2]at hx;rw[HK.out];obtain⟨b,o,rfl,hl,hc⟩:=HR.out.2 t _ hx;have h7:Hid (w.cell? ⟨b,o+t*3,none⟩=some (f y (k))):=hc 0 _ rfl;have h6:Hid (w.cell? ⟨b,o+t*3+1,none⟩=some (f y (k+1))):=hc 1 _ rfl
   have h5:Hid (w.cell? ⟨b,o+t*3+2,none⟩=some (G (mtx (k+1+1)))):=hc 2 _ rfl;clear hc hx h2;have h3:=h0.size;have hl2:b<wr.heap.size:=Nat.lt_of_lt_of_le hl h3;have c0:=h7.out;rw[<-h0.cell (p:=⟨_,_,none⟩) hl]at c0;have c1:=h6.out
   rw[<-h0.cell (p:=⟨_,_,none⟩) hl]at c1;have c2:=h5.out;rw[<-h0.cell (p:=⟨_,_,none⟩) hl]at c2;have q0:(0:Int)<=(t:Int):=by omega
   have q1:(t:Int)<(n:Int):=by omega
   have HB:Hid (F w.heap.size w wr):=h0;clear h0;go_wp2_with fail
   go_region_held3 (fun w'=>(∀bq oq,bq<wr.heap.size->w'.cell? ⟨bq,oq,none⟩=wr.cell? ⟨bq,oq,none⟩)/\wr.heap.size<=w'.heap.size/\F wr.heap.size wr w')
    (exact QE (Nat.le_refl _) (by go_grown))
    (first
    | (go_at_call 49;refine(Qka _ _ (by omega) (by omega)).mono ?_;rintro e v0 ⟨rfl,hb⟩;obtain⟨hk0,hz0⟩:=Qk (B:=wr.heap.size) (X:=wr) (by go_grown) (by go_size) hb;have hW0: ∀b o,b<wr.heap.size->v0.cell? ⟨b,o,none⟩=wr.cell? ⟨b,o,none⟩:=(fun b o h=>hk0.cell (p:=⟨b,o,none⟩) h);clear hb))
   all_goals go_wp2_with fail
   all_goals
    go_roundw
    case rel=>exact⟨t+1,by omega,by simp,by have:=HK.out;congr 1;omega,Qb HB.out (by go_grown)⟩
    case measure=>simp[intOf];omega
  ·have h1: ¬(t:Int)<(n:Int):=by omega
   obtain rfl:t=n:=by omega
   go_wp2_with fail
   go_ret;exact⟨rfl,h0⟩
section
variable {P:Program} {ops:Array Oper} {rest:List Oper} {o:Oper} {a:Act} {Q:Exit->Act->I->Prop}
end
theorem Qkx(lf:Int)(w:I)(h:ClRow w A n C R S)(hl0:0<=lf)(hl1:lf<=1048576):
  T prog 18 #[E A n cap,f y lf] w fun e w'=> ∃z:Int,e= N (f y z)/\z<=1048576/\(0<=z->n<=1048576)/\F w.heap.size w w':=by
 have HR:Hid (ClRow w A n C R S):=h;have hm:=h.1;clear h;unfold maxLen at hm;by_cases hbig:lf-(n:Int)<0
 ·go_enter func18,ntmps18;go_wp2_with fail
  go_ret;exact⟨-1,rfl,by omega,fun h=>by omega,by go_grown⟩
 ·go_enter func18,ntmps18;go_wp2_with fail
  go_loopw [1,5] (fun l i wr=> ∃(t:Nat) (z:Int),t<=n/\i= f y t/\l= f y z/\0<=z/\z<=1048576/\F w.heap.size w wr) (fun _ i _=>n-(intOf i).toNat)
  case atStart=>exact⟨0,_,Nat.zero_le _,rfl,rfl,by omega,by omega,jc _ _⟩
  case round=>
   obtain⟨t,z,ht,rfl,rfl,z0,z1,h0⟩:=hrel;by_cases h2:t<n
   ·obtain⟨b,o,rfl,hl,c0,c1,c2,hs⟩:=HR.out.2 t h2;rw[<-h0.cell (p:=⟨_,_,none⟩) hl]at c0 c1 c2;have q0:(0:Int)<=(t:Int):=by omega
    have q1:(t:Int)<(n:Int):=by omega
    have HB:Hid (F w.heap.size w wr):=h0;clear h0;go_wp2_with fail
    refine(Qvc _ _ _ _ _ hs z0 z1).mono ?_;rintro e w2 ⟨rfl,hb⟩;have h1:=hd (Qb HB.out hb);clear hb c0 c1 c2;have HZ:Hid (szv z (S t).size<=1048576):=by show _<=_;unfold szv;split<;>omega
    by_cases hz:szv z (S t).size<0
    ·go_wp2_with fail
     go_ret;exact⟨_,rfl,by omega,fun h=>by omega,h1.out⟩
    ·go_wp2_with fail
     go_roundw
     case rel=>exact⟨t+1,_,by omega,by go_num,rfl,by omega,HZ.out,h1.out⟩
     case measure=>simp[intOf];omega
   ·have q1: ¬(t:Int)<(n:Int):=by omega
    go_wp2_with fail
    go_ret;exact⟨_,rfl,z1,fun h=>by omega,h0⟩
theorem Qvx(w:I)(h:ClRow w A n C R S)(hs:t.size<=maxLen)(hg:GI w):T prog 5 #[E A n cap,O #[f y k,f y p,f y q,G t,f y a,f y b,f y c,f y d,f y r,f y m]] w fun e w'=>
  e= N (U true)/\F w.heap.size w w':=by
 have HR:Hid (ClRow w A n C R S):=h;have HS:Hid (t.size<=maxLen):=hs;have HG:Hid (GI w):=hg;have h4:Hid (∀i,i<n->(S i).size<=maxLen):=fun i hi=>by obtain⟨_,_,_,_,_,_,_,h9⟩:=h.2 i hi;exact h9
 obtain⟨L,HL⟩: ∃L,Hid ((apF k p q a b c d r m t C R S n).getD []=L):=⟨_,rfl⟩;have H3:Hid (∀x∈L,x.s.size<=maxLen):=by rw[<-HL.out];exact Qyn h4.out
 obtain⟨ob,H2⟩: ∃ob:Bool,Hid ((apF k p q a b c d r m t C R S n).isSome=ob):=⟨_,rfl⟩;obtain⟨mn,h5⟩: ∃mn,Hid (L.length=mn):=⟨_,rfl⟩;obtain⟨xx,h0⟩: ∃xx,Hid (QH CL.cs L=xx):=⟨_,rfl⟩;have H1:mn<=1048576:=by rw[<-h5.out,<-HL.out];have:=Qyl (k:=k) (p:=p) (q:=q) (a:=a) (b:=b) (c:=c) (d:=d) (r:=r) (m:=m) (t:=t) (C:=C) (R:=R) (S:=S) (n:=n) h4.out;omega
 have eb:(ob !=ob)=false:=by simp
 clear h hg hs;go_enter func5,ntmps5;go_wp2_with fail
 obtain⟨X,HX⟩: ∃X,Hid (w.alloc (jd #[f y k,f y p,f y q,G t,f y a,f y b,f y c,f y d,f y r,f y m] 48)=X):=⟨_,rfl⟩;rw[HX.out];have HE:Hid (edG X w.heap.size k p q t a b c d r m):=by show edG _ _ _ _ _ _ _ _ _ _ _ _;rw[<-HX.out];exact edG_newL w k p q a b c d r m t
 have zX:w.heap.size<X.heap.size:=HE.out.lt;have KX:Hid (F w.heap.size w X):=by rw[<-HX.out];show F _ _ _;go_grown
 clear HX;refine(Qkx 1048576 _ (HR.out.below KX.out) (by omega) (by omega)).mono ?_;rintro e u1 ⟨z,rfl,h7,hz,hb⟩;replace HE:=hd (HE.out.below hb);replace zX:w.heap.size<u1.heap.size:=Nat.lt_of_lt_of_le zX hb.size;replace KX:=hd (Qb KX.out hb);clear hb
 by_cases hneg:z<0
 ·go_wp2_with fail
  go_ret;exact⟨rfl,KX.out⟩
 have hn:n<=1048576:=hz (by omega);clear hz;obtain⟨lz,y0,y1,y2,y3,y4,y5,y6,y7,y8,y9⟩:=HE.out;go_wp2_with fail
 refine(Qu4 (k:=k) (p:=p) (q:=q) (a:=a) (b:=b) (c:=c) (d:=d) (r:=r) (m:=m) (t:=t) z _ (by omega) h7 HS.out).mono ?_;rintro e u2 ⟨z2,rfl,H0,hb⟩;clear lz y0 y1 y2 y3 y4 y5 y6 y7 y8 y9;replace HE:=hd (HE.out.below hb);replace zX:w.heap.size<u2.heap.size:=Nat.lt_of_lt_of_le zX hb.size;replace KX:=hd (Qb KX.out hb);clear hb
 by_cases hneg2:z2<0
 ·go_wp2_with fail
  go_ret;exact⟨rfl,KX.out⟩
 clear h7 H0;obtain⟨lz,y0,y1,y2,y3,y4,y5,y6,y7,y8,y9⟩:=HE.out;go_upto_region 8 with fail
 go_cut [6,7] (fun a b wx=> ∃Aw cw,a= E Aw mn cw/\b= U ob/\wx.ownsRow u2.heap.size 70 3 (E Aw mn cw) mn xx/\F u2.heap.size u2 wx)
 case first=>
  go_region_held3 (fun w'=>(∀bq oq,bq<u2.heap.size->w'.cell? ⟨bq,oq,none⟩=u2.cell? ⟨bq,oq,none⟩)/\u2.heap.size<=w'.heap.size/\F u2.heap.size u2 w')
   (exact QE (Nat.le_refl _) (by go_grown))
   (first
   | (go_at_call 20;refine(Jy _ (HR.out.below (Qb KX.out (by go_grown))) hn).mono ?_;rintro e y1 ⟨v,rfl,ho,hbA⟩;obtain⟨A1,c1,rfl,_,_⟩:=Qr ho;have R1:Hid (ClRow y1 A1 n C R S):=Qjj ho h4.out;obtain⟨g0,h7⟩:=Qk (B:=u2.heap.size) (X:=u2) (by go_grown) (by go_size) hbA;clear ho)
   | (go_at_call 21;refine(EL (k:=k) (p:=p) (q:=q) (a:=a) (b:=b) (c:=c) (d:=d) (r:=r) (m:=m) (t:=t) _).mono ?_;rintro e y2 ⟨rfl,hbB⟩;obtain⟨H9,H0⟩:=Qk (B:=u2.heap.size) (X:=u2) (by go_grown) (by go_size) hbB)
   | (go_at_call 11;refine(Qpn (k:=k) (p:=p) (q:=q) (a:=a) (b:=b) (c:=c) (d:=d) (r:=r) (m:=m) (t:=t) _ (R1.out.below (by go_grown)) HS.out).mono ?_;rintro e y3 ⟨her,hbC⟩;obtain⟨Aw,cw,rfl,ho⟩:=Qv4 HL.out h5.out h0.out H2.out her;obtain⟨H8,H7⟩:=Qk (B:=u2.heap.size) (X:=u2) (by go_grown) (by go_size) hbC;have OQ:Hid (y3.ownsRow u2.heap.size 70 3 (E Aw mn cw) mn xx):=ownsRow_base_a ho (by go_size);clear ho her))
  all_goals
   go_wp2_with fail
   go_meet;exact⟨Aw,cw,rfl,rfl,Qd OQ.out (by go_grown),by go_grown⟩
 case rest=>
 clear lz y0 y1 y2 y3 y4 y5 y6 y7 y8 y9;obtain⟨Aw,cw,rfl,rfl,ho,hb⟩:=hcut;have OW:Hid (wc.ownsRow u2.heap.size 70 3 (E Aw mn cw) mn xx):=ho;clear ho;replace HE:=hd (HE.out.below hb);replace zX:w.heap.size<wc.heap.size:=Nat.lt_of_lt_of_le zX hb.size;replace KX:=hd (Qb KX.out hb)
 clear hb;have H5:Hid (∀k,(Value.slice Aw mn cw).ownBlock=some k->k<wc.heap.size):=fun k hk=>(OW.out.lt k hk).2;have ZA:Hid (w.heap.size<wc.heap.size):=zX;have ZC:Hid (wc.heap.size<=wc.heap.size):=Nat.le_refl _;go_wp2_with fail
 refine(Jy _ (HR.out.below KX.out) hn).mono ?_;rintro e u4 ⟨v,rfl,ho,hb⟩;obtain⟨A4,c4,rfl,_,_⟩:=Qr ho;have OX:Hid (u4.ownsRow wc.heap.size 70 3 (E A4 n c4) n (clX C R S n)):=ho;replace ZC:Hid (wc.heap.size<=u4.heap.size):=hb.size;clear ho;replace HE:=hd (HE.out.below hb)
 replace zX:w.heap.size<u4.heap.size:=Nat.lt_of_lt_of_le zX hb.size;replace KX:=hd (Qb KX.out hb);replace OW:=hd (Qd OW.out hb);clear hb;obtain⟨lz,y0,y1,y2,y3,y4,y5,y6,y7,y8,y9⟩:=HE.out;go_wp2_with fail
 refine(EL (k:=k) (p:=p) (q:=q) (a:=a) (b:=b) (c:=c) (d:=d) (r:=r) (m:=m) (t:=t) _).mono ?_;rintro e u5 ⟨rfl,hb⟩;replace ZC:Hid (wc.heap.size<=u5.heap.size):=Nat.le_trans ZC.out hb.size;clear lz y0 y1 y2 y3 y4 y5 y6 y7 y8 y9;replace HE:=hd (HE.out.below hb);replace zX:w.heap.size<u5.heap.size:=Nat.lt_of_lt_of_le zX hb.size;replace KX:=hd (Qb KX.out hb)
 replace OW:=hd (Qd OW.out hb);replace OX:=hd (Qd OX.out hb);clear hb;have H4:Hid (∀k,(Value.slice A4 n c4).ownBlock=some k->wc.heap.size<=k/\k<u5.heap.size):=fun k hk=>OX.out.lt k hk;have ZB:Hid (w.heap.size<u5.heap.size):=zX;have ZWC:Hid (wc.heap.size<=u5.heap.size):=ZC.out;go_wp2_with fail
 refine(Qc6 (k:=k) (p:=p) (q:=q) (a:=a) (b:=b) (c:=c) (d:=d) (r:=r) (m:=m) (t:=t) _ (Qjj OX.out h4.out) HS.out (HG.out.below KX.out)).mono ?_;rintro e u6 ⟨her,hb⟩;obtain⟨Ag,cg,rfl,ho⟩:=Qv4 HL.out h5.out h0.out H2.out her;have OG:Hid (u6.ownsRow u5.heap.size 70 3 (E Ag mn cg) mn xx):=ho;clear ho her;replace HE:=hd (HE.out.below hb);replace zX:w.heap.size<u6.heap.size:=Nat.lt_of_lt_of_le zX hb.size
 replace KX:=hd (Qb KX.out hb);replace OW:=hd (Qd OW.out hb);replace OX:=hd (Qd OX.out hb);clear hb;go_wp2_with fail
 refine(Qsk h5.out H3.out (by rw[h0.out];exact OG.out) (by rw[h0.out];exact OW.out)).mono ?_;rintro e u7 ⟨rfl,hb⟩;replace HE:=hd (HE.out.below hb);replace zX:w.heap.size<u7.heap.size:=Nat.lt_of_lt_of_le zX hb.size;replace KX:=hd (Qb KX.out hb);replace OW:=hd (Qd OW.out hb);replace OX:=hd (Qd OX.out hb)
 replace OG:=hd (Qd OG.out hb);clear hb;go_wp2_with fail
 refine(Jy _ (HR.out.below KX.out) hn).mono ?_;rintro e u8 ⟨v,rfl,ho,hb⟩;obtain⟨A8,c8,rfl,_,_⟩:=Qr ho;have OY:Hid (u8.ownsRow u7.heap.size 70 3 (E A8 n c8) n (clX C R S n)):=ho;clear ho;replace HE:=hd (HE.out.below hb);replace zX:w.heap.size<u8.heap.size:=Nat.lt_of_lt_of_le zX hb.size
 replace KX:=hd (Qb KX.out hb);replace OW:=hd (Qd OW.out hb);replace OX:=hd (Qd OX.out hb);replace OG:=hd (Qd OG.out hb);clear hb;go_wp2_with fail
 refine(Ey _ (Qjj OX.out h4.out) (Qjj OY.out h4.out)).mono ?_;rintro e u9 ⟨rfl,hb⟩;replace HE:=hd (HE.out.below hb);replace zX:w.heap.size<u9.heap.size:=Nat.lt_of_lt_of_le zX hb.size;replace KX:=hd (Qb KX.out hb);replace OW:=hd (Qd OW.out hb);replace OX:=hd (Qd OX.out hb)
 replace OG:=hd (Qd OG.out hb);clear hb;clear OY;go_wp2_with fail
 refine(Ei 1 _ OX.out hn (by omega) (by omega)).mono ?_;rintro e u10 ⟨rfl,hog,hgr⟩;replace HE:=hd (HE.out.grown OX.out hgr ZA.out);have h6:w.heap.size<u10.heap.size:=Nat.lt_of_lt_of_le zX hgr.size;replace KX:=hd (KX.out.grown hgr (Nat.le_of_lt zX) (fun k hk=>Nat.le_trans (Nat.le_of_lt ZA.out) (OX.out.lt k hk).1));replace zX:=h6;replace OW:Hid (u10.ownsRow u2.heap.size 70 3 (E Aw mn cw) mn xx):=Qye OX.out hgr OW.out (fun k hk e=>by have h1:=H5.out k hk;have h2:=(H4.out k e).1;omega)
 have OG0:=OG.out;replace OG:Hid (u10.ownsRow u5.heap.size 70 3 (E Ag mn cg) mn xx):=Qye OX.out hgr OG.out (fun k hk e=>by have h1:=(OG0.lt k hk).1;have h2:=(H4.out k e).2;omega);clear hog hgr h6 OX OG0;obtain⟨mx,H6⟩: ∃mx:Int,Hid ((1+(n:Int)*3)=mx):=⟨_,rfl⟩;have hmx: ¬mx<0:=by have:=H6.out;omega
 rw[H6.out];go_wp2_with fail
 refine(Qsk h5.out H3.out (by rw[h0.out];exact OG.out) (by rw[h0.out];exact OW.out)).mono ?_;rintro e u11 ⟨rfl,hb⟩;replace HE:=hd (HE.out.below hb);replace zX:w.heap.size<u11.heap.size:=Nat.lt_of_lt_of_le zX hb.size;replace KX:=hd (Qb KX.out hb);replace OW:=hd (Qd OW.out hb);replace OG:=hd (Qd OG.out hb)
 clear hb;go_wp2_with fail
 refine(Ei 1 _ OG.out H1 (by omega) (by omega)).mono ?_;rintro e u12 ⟨rfl,hog,hgr⟩;replace HE:=hd (HE.out.grown OG.out hgr ZB.out);have h6:w.heap.size<u12.heap.size:=Nat.lt_of_lt_of_le zX hgr.size;replace KX:=hd (KX.out.grown hgr (Nat.le_of_lt zX) (fun k hk=>Nat.le_trans (Nat.le_of_lt ZB.out) (OG.out.lt k hk).1));replace zX:=h6;have OG0:=OG.out
 have ZW:Hid (wc.heap.size<=u5.heap.size):=ZWC.out;replace OW:Hid (u12.ownsRow u2.heap.size 70 3 (E Aw mn cw) mn xx):=Qye OG.out hgr OW.out (fun k hk e=>by have h1:=H5.out k hk;have h2:=(OG0.lt k e).1;have h3:=ZW.out;omega);replace OG:Hid (u12.ownsRow u5.heap.size 70 3 (E Ag mn cg) mn (QH ceL (mkL Qx1 3 1 mn))):=hog;clear hog hgr h6 OG0;obtain⟨mv,h8⟩: ∃mv:Int,Hid ((1+(mn:Int)*3)=mv):=⟨_,rfl⟩;have hmv0: ¬mv<0:=by have:=h8.out;omega
 have hmv1:(mv !=mv)=false:=by simp
 rw[h8.out];go_wp2_with fail
 refine(EF 1 _ (RowAt.of_own Qjd OG.out (Qxr _ _ _ _)) H1 (by omega) (by omega)).mono ?_;rintro e u13 ⟨rfl,hb⟩;replace HE:=hd (HE.out.below hb);replace zX:w.heap.size<u13.heap.size:=Nat.lt_of_lt_of_le zX hb.size;replace KX:=hd (Qb KX.out hb);replace OW:=hd (Qd OW.out hb);replace OG:=hd (Qd OG.out hb)
 clear hb;rw[h8.out];obtain⟨lz,y0,y1,y2,y3,y4,y5,y6,y7,y8,y9⟩:=HE.out;go_upto_region 27 with fail
 go_cut [14,15] (fun a b wx=> ∃Aw cw,a= E Aw mn cw/\b= U ob/\wx.ownsRow u13.heap.size 70 3 (E Aw mn cw) mn xx/\F u13.heap.size u13 wx)
 case first=>
  go_region_held3 (fun w'=>(∀bq oq,bq<u13.heap.size->w'.cell? ⟨bq,oq,none⟩=u13.cell? ⟨bq,oq,none⟩)/\u13.heap.size<=w'.heap.size/\F u13.heap.size u13 w')
   (exact QE (Nat.le_refl _) (by go_grown))
   (first
   | (go_at_call 20;refine(Jy _ (HR.out.below (Qb KX.out (by go_grown))) hn).mono ?_;rintro e y1 ⟨v,rfl,ho,hbA⟩;obtain⟨A1,c1,rfl,_,_⟩:=Qr ho;have R1:Hid (ClRow y1 A1 n C R S):=Qjj ho h4.out;obtain⟨g0,h7⟩:=Qk (B:=u13.heap.size) (X:=u13) (by go_grown) (by go_size) hbA;clear ho)
   | (go_at_call 21;refine(EL (k:=k) (p:=p) (q:=q) (a:=a) (b:=b) (c:=c) (d:=d) (r:=r) (m:=m) (t:=t) _).mono ?_;rintro e y2 ⟨rfl,hbB⟩;obtain⟨H9,H0⟩:=Qk (B:=u13.heap.size) (X:=u13) (by go_grown) (by go_size) hbB)
   | (go_at_call 10;refine(Qc6 (k:=k) (p:=p) (q:=q) (a:=a) (b:=b) (c:=c) (d:=d) (r:=r) (m:=m) (t:=t) _ (R1.out.below (by go_grown)) HS.out (HG.out.below (Qb KX.out (by go_grown)))).mono ?_;rintro e y3 ⟨her,hbC⟩;obtain⟨Aw,cw,rfl,ho⟩:=Qv4 HL.out h5.out h0.out H2.out her;obtain⟨H8,H7⟩:=Qk (B:=u13.heap.size) (X:=u13) (by go_grown) (by go_size) hbC;have OQ:Hid (y3.ownsRow u13.heap.size 70 3 (E Aw mn cw) mn xx):=ownsRow_base_a ho (by go_size);clear ho her))
  all_goals
   go_wp2_with fail
   go_meet;exact⟨Aw,cw,rfl,rfl,Qd OQ.out (by go_grown),by go_grown⟩
 case rest=>
 clear lz y0 y1 y2 y3 y4 y5 y6 y7 y8 y9;obtain⟨Ah,ch,rfl,rfl,ho,hb⟩:=hcut;have OH:Hid (wc.ownsRow u13.heap.size 70 3 (E Ah mn ch) mn xx):=ho;clear ho;replace HE:=hd (HE.out.below hb);replace zX:w.heap.size<wc.heap.size:=Nat.lt_of_lt_of_le zX hb.size;replace KX:=hd (Qb KX.out hb)
 replace OW:=hd (Qd OW.out hb);replace OG:=hd (Qd OG.out hb);clear hb;go_wp2_with fail
 refine(Qsk h5.out H3.out (by rw[h0.out];exact OH.out) (by rw[h0.out];exact OW.out)).mono ?_;rintro e u15 ⟨rfl,hb⟩;replace HE:=hd (HE.out.below hb);replace zX:w.heap.size<u15.heap.size:=Nat.lt_of_lt_of_le zX hb.size;replace KX:=hd (Qb KX.out hb);replace OW:=hd (Qd OW.out hb);replace OG:=hd (Qd OG.out hb)
 replace OH:=hd (Qd OH.out hb);clear hb;go_wp2_with fail
 refine(EF 1 _ (RowAt.of_own Qjd OG.out (Qxr _ _ _ _)) H1 (by omega) (by omega)).mono ?_;rintro e u16 ⟨rfl,hb⟩;replace HE:=hd (HE.out.below hb);replace zX:w.heap.size<u16.heap.size:=Nat.lt_of_lt_of_le zX hb.size;replace KX:=hd (Qb KX.out hb);replace OW:=hd (Qd OW.out hb);replace OG:=hd (Qd OG.out hb)
 replace OH:=hd (Qd OH.out hb);clear hb;rw[h8.out];go_wp2_with fail
 go_ret;exact⟨rfl,KX.out⟩
end Go.Proofs.YtomadadmakdkgaaGreatDoor
namespace Go.Proofs.YtomadadmakdkgaaGreatDoor
open Go.ChangeShapes Go.WideShapes Go.ChangeAt Go.RowKit Go.Joins
theorem Qvy{H:Type}{enc:TypeId × Value->H}{P:Program}{w:I}{base:Nat}{spare:Nat->Bool}{held:Bool}{t:TypeId}{f0 f1 f2 f3 f4 f5:Field}{fuel:Nat}{cs:List Value}{x:DataW H × List MemPlace}(ht:P.underlying t=some (.struct #[f0,f1,f2,f3,f4,f5]))(h:DataW.trod enc P w base spare held fuel t cs=some x):
  ∃y0 y1 y2 y3 y4 y5 n,DataW.trod enc P w base spare held n f0.type ((cs.drop f0.offset).take (P.cellsOf f0.type))=some y0/\DataW.trod enc P w base spare held n f1.type ((cs.drop f1.offset).take (P.cellsOf f1.type))=some y1/\DataW.trod enc P w base spare held n f2.type ((cs.drop f2.offset).take (P.cellsOf f2.type))=some y2/\DataW.trod enc P w base spare held n f3.type ((cs.drop f3.offset).take (P.cellsOf f3.type))=some y3/\DataW.trod enc P w base spare held n f4.type ((cs.drop f4.offset).take (P.cellsOf f4.type))=some y4/\DataW.trod enc P w base spare held n f5.type ((cs.drop f5.offset).take (P.cellsOf f5.type))=some y5:=by
 obtain⟨xs,n,_,rfl,hl,h0,hf⟩:=DataW.trod_struct ht h;match xs,h0 with
 | [y0,y1,y2,y3,y4,y5],_=>exact⟨y0,y1,y2,y3,y4,y5,n,by simpa using hf 0 f0 rfl,by simpa using hf 1 f1 rfl,by simpa using hf 2 f2 rfl,by simpa using hf 3 f3 rfl,by simpa using hf 4 f4 rfl,by simpa using hf 5 f5 rfl⟩
theorem Qyb{α:Type}{cs:Array α}(h:cs.size=10): ∃c0 c1 c2 c3 c4 c5 c6 c7 c8 c9,cs= #[c0,c1,c2,c3,c4,c5,c6,c7,c8,c9]:=by
 obtain⟨l⟩:=cs;match l,h with
 | [c0,c1,c2,c3,c4,c5,c6,c7,c8,c9],_=>exact⟨_,_,_,_,_,_,_,_,_,_,rfl⟩
theorem Qyg:prog.cellsOf 48=10:=by kernel_rfl
theorem Qxz{H:Type}{enc:TypeId × Value->H}{W:I}{base:Nat}{spare:Nat->Bool}{held:Bool}{fuel:Nat}{c0 c1 c2 c3 c4 c5 c6 c7 c8 c9:Value}{x:DataW H × List MemPlace}(hf:DataW.trod enc prog W base spare held fuel 48 [c0,c1,c2,c3,c4,c5,c6,c7,c8,c9]=some x):
  ∃k p q t a b c d r m,c0= f y k/\c1= f y p/\c2= f y q/\c3= G t/\c4= f y a/\c5= f y b/\c6= f y c/\c7= f y d/\c8= f y r/\c9= f y m/\t.size<=maxLen:=by
 have k2:prog.cellsOf 2=1:=by kernel_rfl
 have k4:prog.cellsOf 9=1:=by kernel_rfl
 have kr:prog.cellsOf 44=2:=by kernel_rfl
 have ka:prog.cellsOf 46=4:=by kernel_rfl
 obtain⟨y0,y1,y2,y3,y4,y5,n,h0,h1,h2,h3,h4,h5⟩:=Qvy underlying48 hf;simp only[k2,k4,kr,ka,List.drop_zero,List.take_succ_cons,List.take_zero,List.drop_succ_cons]at h0 h1 h2 h3 h4 h5;obtain⟨z0,z1,n2,_,_,q0,q1⟩:=jb underlying44 h1;obtain⟨u0,u1,n3,_,_,g0,g1⟩:=jb underlying46 h3;simp only[k2,kr,List.drop_zero,List.take_succ_cons,List.take_zero,List.drop_succ_cons]at q0 q1 g0 g1;obtain⟨s0,s1,n4,_,_,j0,j1⟩:=jb underlying44 g0;obtain⟨s2,s3,n5,_,_,j2,j3⟩:=jb underlying44 g1
 simp only[k2,List.drop_zero,List.take_succ_cons,List.take_zero,List.drop_succ_cons]at j0 j1 j2 j3;obtain⟨k,e0,_,_⟩:=DataW.trod_int underlying2 h0;obtain⟨p,e1,_,_⟩:=DataW.trod_int underlying2 q0;obtain⟨q,e2,_,_⟩:=DataW.trod_int underlying2 q1;obtain⟨t,e3,_,wt⟩:=DataW.trod_string underlying9 h2;obtain⟨a,e4,_,_⟩:=DataW.trod_int underlying2 j0;obtain⟨b,e5,_,_⟩:=DataW.trod_int underlying2 j1
 obtain⟨c,e6,_,_⟩:=DataW.trod_int underlying2 j2;obtain⟨d,e7,_,_⟩:=DataW.trod_int underlying2 j3;obtain⟨r,e8,_,_⟩:=DataW.trod_int underlying2 h4;obtain⟨m,e9,_,_⟩:=DataW.trod_int underlying2 h5;simp at e0 e1 e2 e3 e4 e5 e6 e7 e8 e9;exact⟨k,p,q,t,a,b,c,d,r,m,e0,e1,e2,e3,e4,e5,e6,e7,e8,e9,wt⟩
theorem Qym{H:Type}{enc:TypeId × Value->H}{W:I}{r:Reach}{b0 base:Nat}{spare:Nat->Bool}{held:Bool}{v:Value}{d:DataW H}{p:List MemPlace}
  (hv:Value.okWide prog W r b0 48 v) (h:DataW.Trod enc prog W base spare held 48 v d p):
  ∃k p q t a b c d r m,v= O #[f y k,f y p,f y q,G t,f y a,f y b,f y c,f y d,f y r,f y m]/\t.size<=maxLen:=by
 obtain⟨cs,rfl,h0⟩:=okWide_struct underlying48 hv;obtain⟨c0,c1,c2,c3,c4,c5,c6,c7,c8,c9,rfl⟩:=Qyb (h0.trans Qyg);obtain⟨fuel,hf⟩:=h;obtain⟨k,p,q,t,a,b,c,d,r,m,rfl,rfl,rfl,rfl,rfl,rfl,rfl,rfl,rfl,rfl,wt⟩:=Qxz hf;exact⟨k,p,q,t,a,b,c,d,r,m,rfl,wt⟩
end Go.Proofs.YtomadadmakdkgaaGreatDoor
