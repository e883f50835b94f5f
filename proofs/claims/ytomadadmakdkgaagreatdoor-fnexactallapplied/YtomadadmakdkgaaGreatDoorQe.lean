import Derived.Test.YtomadadmakdkgaaGreatDoorQi
import Derived.Test.YtomadadmakdkgaaGreatDoorQc
open Go.Proofs.Tryz
open Go.Value renaming int → G, slice → J, string → U, tuple → ja, bool → jb, agg → je
open Go.IntKind renaming i64 → I
open Or renaming inl → N, inr → jh
open Go.RowKit renaming Below → O
open Go renaming World → T, bodyPost_ret → V, Calls → Z, results → jc, TypeId → ji, info_parts → jm
open Go.Ending renaming returned → Y
open Go.Instr renaming typeAssert → jd
open Go.World renaming block_lt_of_cell? → jf, cells?_some → jo, ownsRow → jp
open Go.RowKit.Below renaming refl → jg
open Go.World.grownBy renaming refl → jj
open Go.ChangeShapes renaming trod_struct2 → jk
open Go.WideShapes renaming add_plain → jl
open Go.Obj renaming cells → jq
set_option linter.unusedSimpArgs false
set_option linter.unusedVariables false
set_option maxHeartbeats 8000000
set_option maxRecDepth 100000
namespace Go.Proofs.YtomadadmakdkgaaGreatDoor
open Go.RowKit Go.Maps
variable {C R:Nat->Int} {S:Nat->ByteArray} {n cap B g cap':Nat} {W w:T} {A A':Option Addr} {a b c d p q r m k:Int} {M E L:List CL} {t s:ByteArray} {ys X:List Value} {v:Value}
theorem UT(a b c d:Int)(w:T):Z prog 327 #[je #[G I a,G I b,G I c,G I d]] w fun e w'=>
  e= Y (jb (Ql a b c d))/\O w.heap.size w w':=by
 go_enter func327,ntmps327;go_wp2_with fail
 refine(YJ a b c d _).mono ?_;rintro e w1 ⟨rfl,hb⟩;have KW:Hid (O w.heap.size w w1):=Qb (by go_grown) hb;clear hb;go_wp2_with fail
 go_ret;exact⟨rfl,KW.out⟩
theorem Qe3(h:(clE C R S n).Pairwise (fun a b=>ltC a b=true)): ∀i j,i<j->j<n-> ¬(C i=C j/\R i=R j):=fun i j hij hj e=>by
 have h9:=List.pairwise_iff_getElem.1 h i j (by rw[Yy];omega) (by rw[Yy];exact hj) hij;simp only[clE,List.getElem_map,List.getElem_range]at h9;have h8:=of_decide_eq_true h9;simp only at h8;omega
theorem Qp4(h:ClRow W A n C R S)(hM:ClrM a b c d C R S n M): ∀x∈M,x.s.size<=maxLen:=fun x hx=>by
 obtain⟨i,hi,rfl⟩:=hM.sub x hx;obtain⟨_,_,_,_,_,_,_,h9⟩:=h.2 i hi;exact h9
theorem Qdt(v:Value)(w:T):(jd (.iface 95 v) 63 92 true).run prog w= .ok (ja #[je #[G I 0,G I 0,U ⟨#[]⟩],jb false]) w:=by kernel_rfl
theorem Qdu(v:Value)(w:T):(jd (.iface 95 v) 63 95 true).run prog w= .ok (ja #[v,jb true]) w:=by kernel_rfl
theorem ED(w:T)(h:ClRow w A n C R S)(hok:QA C R S n=true)(hg:GI w):
  Z prog 32 #[J A n cap,.iface 95 (je #[G I a,G I b,G I c,G I d])] w fun e w'=>EnR w.heap.size w' (Na a b c d C R S n) e/\O w.heap.size w w':=by
 have HR:Hid (ClRow w A n C R S):=h;have HG:Hid (GI w):=hg;have H0:Hid (QA C R S n=true):=hok;clear h hg hok;obtain⟨ao,h6⟩: ∃ao,Hid (Ql a b c d=ao):=⟨_,rfl⟩;have hmm:= @run_makeMap prog;go_enter func32,ntmps32
 go_wp2_with fail
 refine(UT a b c d _).mono ?_;rintro e w1 ⟨rfl,hb⟩;rw[h6.out];have K1:Hid (O w.heap.size w w1):=hb;clear hb;cases ao
 ·go_wp2_with fail
  refine V (v:= ja #[J none 0 0,jb false]) ?_ rfl ⟨?_,K1.out⟩
  ·simp (maxDischargeDepth:=9) [jc,results32,go_sem, *]
  ·unfold Na;rw[h6.out];exact rfl
 obtain⟨h3,h7,h2⟩:=Yj H0.out;obtain⟨kl,h8⟩:=EU (n:=n) h7;have H9:Hid (∀i,i<n->keyOf prog 26 (je #[G I (C i),G I (R i)])=some (kl i)):=h8;have g1:Hid (∀i j,i<j->j<n-> ¬(C i=C j/\R i=R j)):=Qe3 h2;have H6:Hid ((clE C R S n).Pairwise (fun a b=>ltC a b=true)):=h2;clear h8 h7 h2;have H4:=Qdt
 have H3:=Qdu;go_wp2_with fail
 clear H4 H3;refine(Jm (a:=a) (b:=b) (c:=c) (d:=d) _ (HR.out.below (Qb K1.out (by go_grown))) h3 H9.out g1.out).mono ?_;rintro e w2 ⟨B,m,D,rfl,hB,ho,hcm,hb,_⟩;have HM:Hid (w2.ownsMap prog 26 YM B m D):=ho;have H2:Hid (CmD D (ZM a b c d (clE C R S n))):=hcm;have K2:Hid (O w.heap.size w w2):=Qb (Qb K1.out (by go_grown)) hb;clear ho hcm hb hB
 have h1:=Qmz (a:=a) (b:=b) (c:=c) (d:=d) H0.out;have h4:=Qp4 HR.out h1;have h5:(ZM a b c d (clE C R S n)).Pairwise (fun a b=>ltC a b=true):=H6.out.filter _;have HF:Hid (Na a b c d C R S n=some (ZM a b c d (clE C R S n))):=by show _=_;unfold Na;rw[h6.out,pS rfl]
 obtain⟨M,H1⟩: ∃M,ZM a b c d (clE C R S n)=M:=⟨_,rfl⟩;rw[H1]at h1 h4 h5 HF H2;have g0:Hid (ClrM a b c d C R S n M):=h1;have HZ:Hid (∀x∈M,x.s.size<=maxLen):=h4;have HP:Hid (M.Pairwise (fun a b=>ltC a b=true)):=h5;obtain⟨mm,h0⟩: ∃mm,Hid (M.length=mm):=⟨_,rfl⟩;have hmm2:mm<=120:=by have:=h1.len;rw[h0.out]at this;omega
 clear h1 h4 h5 H1;go_wp2_with fail
 refine(Vj _ HM.out H2.out (by rw[h0.out];omega)).mono ?_;rintro e w3 ⟨A',c',M',rfl,hp,hpw,ho,hb⟩;have H8:Hid (M'=M):=Qad hpw HP.out hp;rw[H8.out,h0.out]at ho;rw[h0.out];have HO:Hid (w3.ownsRow w.heap.size 70 3 (J A' mm c') mm (QH CL.cs M)):=Go.Proofs.ownsRow_base_a ho K2.out.size;have K3:=hd (Qb K2.out hb)
 have R3:Hid (ClRow w3 A' mm (XH M) (XG M) (XT M)):=YG ho h0.out HZ.out;clear ho hb hp hpw;go_wp2_with fail
 refine(YZ _ R3.out (HG.out.below K3.out)).mono ?_;rintro e w4 ⟨rfl,hb⟩;have H5:QA (XH M) (XG M) (XT M) mm=true:=by have h9:=g0.out.ok;rw[h0.out]at h9;exact h9
 rw[H5];have H7:=hd (Qd HO.out hb);have K4:=hd (Qb K3.out hb);clear hb;go_wp2_with fail
 refine V (v:= ja #[J A' mm c',jb true]) ?_ rfl ⟨?_,K4.out⟩
 ·simp (maxDischargeDepth:=9) [jc,results32,go_sem, *]
 ·rw[HF.out];exact⟨A',c',mm,rfl,h0.out,H7.out⟩
theorem Qdo(v:Value)(w:T):(jd (.iface 104 v) 63 92 true).run prog w= .ok (ja #[je #[G I 0,G I 0,U ⟨#[]⟩],jb false]) w:=by kernel_rfl
theorem Qds(v:Value)(w:T):(jd (.iface 104 v) 63 95 true).run prog w= .ok (ja #[je #[G I 0,G I 0,G I 0,G I 0],jb false]) w:=by kernel_rfl
theorem Qdp(v:Value)(w:T):(jd (.iface 104 v) 63 100 true).run prog w= .ok (ja #[je #[G I 0,G I 0],jb false]) w:=by kernel_rfl
theorem Qdr(v:Value)(w:T):(jd (.iface 104 v) 63 102 true).run prog w= .ok (ja #[je #[G I 0,G I 0],jb false]) w:=by kernel_rfl
theorem Qdq(v:Value)(w:T):(jd (.iface 104 v) 63 104 true).run prog w= .ok (ja #[v,jb true]) w:=by kernel_rfl
theorem Qo1(w:T)(h:ClRow w A n C R S)(hok:QA C R S n=true)(hg:GI w):
  Z prog 32 #[J A n cap,.iface 104 (je #[G I a,G I b,G I c,G I d,G I p,G I q])] w fun z w'=>EnR w.heap.size w' (cpO a b c d p q (clE C R S n)) z/\O w.heap.size w w':=by
 have HR:Hid (ClRow w A n C R S):=h;have HG:Hid (GI w):=hg;have H1:Hid (QA C R S n=true):=hok;clear h hg hok;obtain⟨ao,h3⟩: ∃ao,Hid (cpI a b c d p q=ao):=⟨_,rfl⟩;have hmm:= @run_makeMap prog;go_enter func32,ntmps32
 go_wp2_with fail
 refine(Qi7 a b c d p q _).mono ?_;rintro z w1 ⟨rfl,hb⟩;rw[h3.out];have K1:Hid (O w.heap.size w w1):=hb;clear hb;cases ao
 ·have HV:Hid (cpO a b c d p q (clE C R S n)=none):=Oi h3.out;go_wp2_with fail
  refine V (v:= ja #[J none 0 0,jb false]) ?_ rfl ⟨?_,K1.out⟩
  ·simp (maxDischargeDepth:=9) [jc,results32,go_sem, *]
  ·rw[HV.out];exact rfl
 have h2:Hid (Ql a b c d=true/\Ql p q (c+p-a) (d+q-b)=true):=by have h9:=h3.out;unfold cpI at h9;rw[Bool.and_eq_true]at h9;exact h9
 have h120:n<=120:=(Yj H1.out).1;have h8:=Qdo;have h7:=Qds;have h6:=Qdp;have h5:=Qdr;have h4:=Qdq;go_wp2_with fail
 clear h8 h7 h6 h5 h4;refine(DM _ (HR.out.below (Qb K1.out (by go_grown))) H1.out (HG.out.below (Qb K1.out (by go_grown))) h2.out.1 h2.out.2).mono ?_;rintro z w2 ⟨B,m,D,rfl,hB,ho,hcm,hb⟩;have HM:Hid (w2.ownsMap prog 26 YM B m D):=ho;have H5:Hid (CmD D (cpM a b c d p q (clE C R S n))):=hcm;have K2:Hid (O w.heap.size w w2):=Qb (Qb K1.out (by go_grown)) hb;clear ho hcm hb hB
 obtain⟨M,h1⟩: ∃M,Hid (cpM a b c d p q (clE C R S n)=M):=⟨_,rfl⟩;obtain⟨H4,H0,H3,H8⟩:=Qu6 H1.out h2.out.1 h2.out.2 h1.out (Qf9 HR.out);rw[h1.out]at H5;have HZ:Hid (∀x∈M,x.s.size<=maxLen):=H3;have HP:Hid (M.Pairwise (fun a b=>ltC a b=true)):=H4;obtain⟨mm,h0⟩: ∃mm,Hid (M.length=mm):=⟨_,rfl⟩;obtain⟨gd,H2⟩: ∃gd,Hid ((decide (M.length<=120)&&cpG a b c d (p-a) (q-b) (clE C R S n))=gd):=⟨_,rfl⟩
 rw[H2.out,h0.out]at H0;have hmm2:mm<=240:=by have:=h0.out;omega
 have HS:Hid (QA (XH M) (XG M) (XT M) mm=gd):=H0;clear H0 H3 H4 H8;go_wp2_with fail
 refine(Vj _ HM.out H5.out (by rw[h0.out];omega)).mono ?_;rintro z w3 ⟨A',c',M',rfl,hp,hpw,ho,hb⟩;have H7:Hid (M'=M):=Qad hpw HP.out hp;rw[H7.out,h0.out]at ho;rw[h0.out];have HO:Hid (w3.ownsRow w.heap.size 70 3 (J A' mm c') mm (QH CL.cs M)):=Go.Proofs.ownsRow_base_a ho K2.out.size;have K3:=hd (Qb K2.out hb)
 have R3:Hid (ClRow w3 A' mm (XH M) (XG M) (XT M)):=YG ho h0.out HZ.out;clear ho hb hp hpw;go_wp2_with fail
 refine(YZ _ R3.out (HG.out.below K3.out)).mono ?_;rintro z w4 ⟨rfl,hb⟩;rw[HS.out];have H6:=hd (Qd HO.out hb);have K4:=hd (Qb K3.out hb);clear hb;cases gd
 ·have HV:Hid (cpO a b c d p q (clE C R S n)=none):=Oh (by rw[h1.out];exact H2.out);go_wp2_with fail
  refine V (v:= ja #[J none 0 0,jb false]) ?_ rfl ⟨?_,K4.out⟩
  ·simp (maxDischargeDepth:=9) [jc,results32,go_sem, *]
  ·rw[HV.out];exact rfl
 ·have HV:Hid (cpO a b c d p q (clE C R S n)=some M):=by show _=_;rw[Qhi h3.out (by rw[h1.out];exact H2.out),h1.out]
  go_wp2_with fail
  refine V (v:= ja #[J A' mm c',jb true]) ?_ rfl ⟨?_,K4.out⟩
  ·simp (maxDischargeDepth:=9) [jc,results32,go_sem, *]
  ·rw[HV.out];exact⟨A',c',mm,rfl,h0.out,H6.out⟩
theorem Qhu(w:T)(h:ClRow w A n C R S)(hok:QA C R S n=true):
  Z prog 35 #[J A n cap,je #[G I 5,G I p,G I q,U t,G I a,G I b,G I c,G I d,G I r,G I m]] w fun z w'=>EnW w.heap.size w' (cpO a b c d p q (clE C R S n)) z/\O w.heap.size w w':=by
 have HR:Hid (ClRow w A n C R S):=h;clear h;obtain⟨h1,h0⟩: ∃h1,Hid (cpO a b c d p q (clE C R S n)=h1):=⟨_,rfl⟩;go_enter func35,ntmps35;go_wp2_with fail
 refine(Qsi _ (HR.out.below (by go_grown)) hok).mono ?_;rintro z w2 ⟨he,hb⟩;have K2:Hid (O w.heap.size w w2):=Qb (by go_grown) hb;clear hb;rw[h0.out]at he;cases h1 with
 | none=>
  obtain⟨v0,rfl⟩: ∃v0,z= Y (ja #[v0,jb false]):=he;go_wp2_with fail
  refine V (v:= ja #[v0,jb false]) ?_ rfl ⟨?_,K2.out⟩
  ·simp (maxDischargeDepth:=9) [jc,results35,go_sem, *]
  ·rw[h0.out];exact⟨_,rfl⟩
 | some M=>
  obtain⟨A3,c3,mm,rfl,hm,ho⟩:=he;have h2:Hid (w2.ownsRow w.heap.size 70 3 (J A3 mm c3) mm (QH CL.cs M)):=Go.Proofs.ownsRow_base_a ho (by simp);clear ho;go_wp2_with fail
  refine V (v:= ja #[J A3 mm c3,jb true]) ?_ rfl ⟨?_,K2.out⟩
  ·simp (maxDischargeDepth:=9) [jc,results35,go_sem, *]
  ·rw[h0.out];exact⟨A3,c3,mm,rfl,hm,h2.out⟩
def edO(k p q a b c d r m:Int)(t:ByteArray)(C R:Nat->Int)(S:Nat->ByteArray)(n:Nat):Option (List CL):=
 if k=1 then enF C R S n p q t else if k=2 then Na a b c d C R S n else if k=3 then rwO false r m (clE C R S n)else if k=4 then rwO true r m (clE C R S n)else if k=5 then cpO a b c d p q (clE C R S n)else none
def edV(k p q a b c d r m:Int)(t:ByteArray):Value:=
 if k=1 then .iface 92 (je #[G I p,G I q,U t])else if k=2 then .iface 95 (je #[G I a,G I b,G I c,G I d])else if k=3 then .iface 100 (je #[G I r,G I m])else if k=4 then .iface 102 (je #[G I r,G I m])else if k=5 then .iface 104 (je #[G I a,G I b,G I c,G I d,G I p,G I q])else .iface 107 (je #[])
theorem Qst(w:T):Z prog 33 #[je #[G I k,G I p,G I q,U t,G I a,G I b,G I c,G I d,G I r,G I m]] w fun e w'=>e= Y (edV k p q a b c d r m t)/\O w.heap.size w w':=by
 unfold edV;split
 ·subst k;exact Qx5 p q a b c d r m t w
 split
 ·subst k;exact Qx9 p q a b c d r m t w
 split
 ·subst k;exact Qx7 p q a b c d r m t w
 split
 ·subst k;exact Qx4 p q a b c d r m t w
 split
 ·subst k;exact Qx6 p q a b c d r m t w
 ·exact Qx8 k p q a b c d r m t w ‹_› ‹_› ‹_› ‹_› ‹_›
theorem Qsc(w:T)(h:ClRow w A n C R S)(hok:QA C R S n=true)(ht:t.size<=maxLen)(hg:GI w):
  Z prog 32 #[J A n cap,edV k p q a b c d r m t] w fun z w'=>EnR w.heap.size w' (edO k p q a b c d r m t C R S n) z/\O w.heap.size w w':=by
 unfold edV edO;by_cases h1:k=1
 ·simp only[pS h1];exact Qo0 w h ht hg
 by_cases h2:k=2
 ·simp only[nG h1,pS h2];exact ED w h hok hg
 by_cases h3:k=3
 ·simp only[nG h1,nG h2,pS h3];exact Qrq w h hok hg
 by_cases h4:k=4
 ·simp only[nG h1,nG h2,nG h3,pS h4];exact Qqo w h hok hg
 by_cases h5:k=5
 ·simp only[nG h1,nG h2,nG h3,nG h4,pS h5];exact Qo1 w h hok hg
 ·simp only[nG h1,nG h2,nG h3,nG h4,nG h5];exact(Qo2 w).mono fun _ _ h9=>⟨h9.1,h9.2⟩
theorem Qik(w:T)(h:ClRow w A n C R S)(hok:QA C R S n=true)(ht:t.size<=maxLen):
  Z prog 35 #[J A n cap,je #[G I k,G I p,G I q,U t,G I a,G I b,G I c,G I d,G I r,G I m]] w fun z w'=>EnW w.heap.size w' (edO k p q a b c d r m t C R S n) z/\O w.heap.size w w':=by
 unfold edO;by_cases h1:k=1
 ·subst h1;simp only[if_true];exact(Qjy w h ht).mono fun _ _ h9=>⟨h9.1.w,h9.2⟩
 by_cases h2:k=2
 ·subst h2;simp only[nG h1,if_true];exact(Qj1 w h (by have:=(Yj hok).1;omega)).mono fun _ _ h9=>⟨h9.1.w,h9.2⟩
 by_cases h3:k=3
 ·subst h3;simp only[nG h1,nG h2,if_true];exact(Qjz w h hok).mono fun _ _ h9=>⟨h9.1.w,h9.2⟩
 by_cases h4:k=4
 ·subst h4;simp only[nG h1,nG h2,nG h3,if_true];exact(Qjx w h hok).mono fun _ _ h9=>⟨h9.1.w,h9.2⟩
 by_cases h5:k=5
 ·subst h5;simp only[nG h1,nG h2,nG h3,nG h4,if_true];exact Qhu w h hok
 ·simp only[nG h1,nG h2,nG h3,nG h4,nG h5];exact(Qj0 w h1 h2 h3 h4 h5).mono fun _ _ h9=>⟨⟨_,h9.1⟩,h9.2⟩
def apF(k p q a b c d r m:Int)(t:ByteArray)(C R:Nat->Int)(S:Nat->ByteArray)(n:Nat):Option (List CL):=apO C R S n (edO k p q a b c d r m t C R S n)
theorem Qpn(w:T)(h:ClRow w A n C R S)(ht:t.size<=maxLen):
  Z prog 11 #[J A n cap,je #[G I k,G I p,G I q,U t,G I a,G I b,G I c,G I d,G I r,G I m]] w fun z w'=>EnR w.heap.size w' (apF k p q a b c d r m t C R S n) z/\O w.heap.size w w':=
 Qj2 (edO k p q a b c d r m t C R S n) w h (fun hok u hu=>Qik u hu hok ht)
theorem Qvw(hs: ∀i,i<n->(S i).size<=maxLen)(h:apF k p q a b c d r m t C R S n=some M):(∀x∈M,x.s.size<=maxLen)/\M.length<=240:=by
 have hE: ∀x∈clE C R S n,x.s.size<=maxLen:=fun x hx=>by
  obtain⟨i,hi,rfl⟩:=List.mem_map.1 hx;exact hs i (List.mem_range.1 hi)
 unfold apF apO at h;split at h
 case isFalse=>cases h
 rename_i hok
 have hn:=(Yj hok).1;unfold edO at h;split at h
 ·have h1:=Qxb (C:=C) (R:=R) (S:=S) (n:=n) (p:=p) (q:=q) (s:=t) hs;have h2:=Qu3 (C:=C) (R:=R) (S:=S) (n:=n) (p:=p) (q:=q) (s:=t);rw[h]at h1 h2;exact⟨h1,by have:M.length<=120:=h2;omega⟩
 split at h
 ·unfold Na at h;split at h
  case isFalse=>cases h
  cases h
  exact⟨fun x hx=>hE x (List.mem_filter.1 hx).1,by have:=Uk a b c d C R S n;omega⟩
 split at h
 ·unfold rwO at h;split at h
  case isFalse=>cases h
  split at h
  case isFalse=>cases h
  cases h
  exact⟨Qt2 hE,by have:=Qf3 false r m C R S n;omega⟩
 split at h
 ·unfold rwO at h;split at h
  case isFalse=>cases h
  split at h
  case isFalse=>cases h
  cases h
  exact⟨Qt2 hE,by have:=Qf3 true r m C R S n;omega⟩
 split at h
 ·unfold cpO at h;split at h
  case isFalse=>cases h
  rename_i hci
  split at h
  case isFalse=>cases h
  unfold cpI at hci;rw[Bool.and_eq_true]at hci;obtain⟨_,_,h3,h4⟩:=Qu6 hok hci.1 hci.2 rfl hE;cases h
  exact⟨h3,h4⟩
 ·cases h
theorem Qqg(a b c d:Int)(w:T):Z prog 47 #[je #[G I a,G I b,G I c,G I d]] w fun e w'=>
  e= Y (je #[G I a,G I b,G I c,G I d])/\O w.heap.size w w':=by
 go_enter func47,ntmps47;go_wp2
 go_returns
 exact⟨rfl,by go_grown⟩
theorem Qu4(lf:Int)(w:T)(h0:0<=lf)(h1:lf<=1048576)(ht:t.size<=maxLen):Z prog 19 #[je #[G I k,G I p,G I q,U t,G I a,G I b,G I c,G I d,G I r,G I m],G I lf] w fun e w'=>
  ∃z:Int,e= Y (G I z)/\z<=1048576/\O w.heap.size w w':=by
 unfold maxLen at ht;by_cases hbig:lf-(t.size:Int)<0
 ·go_enter func19,ntmps19;go_wp2_with fail
  go_ret;exact⟨-1,rfl,by omega,by go_grown⟩
 ·go_enter func19,ntmps19;go_wp2_with fail
  go_ret;exact⟨_,rfl,by omega,by go_grown⟩
theorem EL(w:T):Z prog 21 #[je #[G I k,G I p,G I q,U t,G I a,G I b,G I c,G I d,G I r,G I m]] w fun e w'=>
  e= Y (je #[G I k,G I p,G I q,U t,G I a,G I b,G I c,G I d,G I r,G I m])/\O w.heap.size w w':=by
 go_enter func21,ntmps21;go_wp2_with fail
 refine(Qsw _ _ _).mono ?_;rintro e w1 ⟨rfl,hb⟩;have X0:edG w1 w.heap.size k p q t a b c d r m:=by constructor<;>first | exact Qn hb (by go_size) (by go_simp) | exact Nat.lt_of_lt_of_le (by go_size) hb.size
 have O0:edG w1 (w.heap.size+1+1) k 0 0 ⟨#[]⟩ 0 0 0 0 0 0:=by constructor<;>first | exact Qn hb (by go_size) (by go_simp) | exact Nat.lt_of_lt_of_le (by go_size) hb.size
 have R0:edG w1 (w.heap.size+1) 0 0 0 ⟨#[]⟩ 0 0 0 0 0 0:=by constructor<;>first | exact Qn hb (by go_size) (by go_simp) | exact Nat.lt_of_lt_of_le (by go_size) hb.size
 have f1: ∀o,w1.frozen? ⟨w.heap.size+1,o,none⟩=false:=fun o=>(hb.frozen (p:=⟨_,o,none⟩) (by go_size)).trans (by go_simp);have f2: ∀o,w1.frozen? ⟨w.heap.size+1+1,o,none⟩=false:=fun o=>(hb.frozen (p:=⟨_,o,none⟩) (by go_size)).trans (by go_simp);have KW:Hid (O w.heap.size w w1):=Qb (by go_grown) hb;clear hb;obtain⟨_,x0,x1,x2,x3,x4,x5,x6,x7,x8,x9⟩:=X0;obtain⟨_,o0,o1,o2,o3,o4,o5,o6,o7,o8,o9⟩:=O0;obtain⟨_,r0,r1,r2,r3,r4,r5,r6,r7,r8,r9⟩:=R0
 have zw:w.heap.size+1+1<w1.heap.size:=by have:=jf w1 ⟨_,0,none⟩ o0;exact this
 go_wp2_with fail
 refine(Qqg _ _ _ _ _).mono ?_;rintro e w2 ⟨rfl,hb⟩;have X0:edG w2 w.heap.size k p q t a b c d r m:=by constructor<;>first | exact Qn hb (by go_size) (by go_simp) | exact Nat.lt_of_lt_of_le (by go_size) hb.size
 have O0:edG w2 (w.heap.size+1+1) k p q t 0 0 0 0 0 0:=by constructor<;>first | exact Qn hb (by go_size) (by go_simp) | exact Nat.lt_of_lt_of_le (by go_size) hb.size
 have R0:edG w2 (w.heap.size+1) 0 0 0 ⟨#[]⟩ 0 0 0 0 0 0:=by constructor<;>first | exact Qn hb (by go_size) (by go_simp) | exact Nat.lt_of_lt_of_le (by go_size) hb.size
 replace f1: ∀o,w2.frozen? ⟨w.heap.size+1,o,none⟩=false:=fun o=>(hb.frozen (p:=⟨_,o,none⟩) (by go_size)).trans (by go_simp);replace f2: ∀o,w2.frozen? ⟨w.heap.size+1+1,o,none⟩=false:=fun o=>(hb.frozen (p:=⟨_,o,none⟩) (by go_size)).trans (by go_simp);have KV:Hid (O w.heap.size w w2):=Qb (by have h9:=KW.out;go_grown) hb;clear hb zw KW x0 x1 x2 x3 x4 x5 x6 x7 x8 x9 o0 o1 o2 o3 o4 o5 o6 o7 o8 o9 r0 r1 r2 r3 r4 r5 r6 r7 r8 r9;obtain⟨_,x0,x1,x2,x3,x4,x5,x6,x7,x8,x9⟩:=X0;obtain⟨_,o0,o1,o2,o3,o4,o5,o6,o7,o8,o9⟩:=O0;obtain⟨_,r0,r1,r2,r3,r4,r5,r6,r7,r8,r9⟩:=R0
 have zv:w.heap.size+1+1<w2.heap.size:=by have:=jf w2 ⟨_,0,none⟩ o0;exact this
 go_upto_region 8 with fail
 obtain⟨X,HX⟩: ∃X,Hid ((((((w2.setCell ⟨w.heap.size+1+1,4,none⟩ (G I a)).setCell ⟨w.heap.size+1+1,5,none⟩ (G I b)).setCell ⟨w.heap.size+1+1,6,none⟩ (G I c)).setCell ⟨w.heap.size+1+1,7,none⟩ (G I d)).setCell ⟨w.heap.size+1+1,8,none⟩ (G I r)).setCell ⟨w.heap.size+1+1,9,none⟩ (G I m)=X):=⟨_,rfl⟩;rw[HX.out];have O0:edG X (w.heap.size+1+1) k p q t a b c d r m:=by rw[<-HX.out];constructor<;>first | go_simp | simpa using zv
 have R0:edG X (w.heap.size+1) 0 0 0 ⟨#[]⟩ 0 0 0 0 0 0:=by rw[<-HX.out];constructor<;>first | go_simp | (go_simp;omega)
 have h1: ∀o,X.frozen? ⟨w.heap.size+1,o,none⟩=false:=fun o=>by rw[<-HX.out];go_simp
 have KX:Hid (O w.heap.size w X):=by rw[<-HX.out];show O _ _ _;have h9:=KV.out;go_grown
 clear HX KV zv f1 f2 x0 x1 x2 x3 x4 x5 x6 x7 x8 x9 o0 o1 o2 o3 o4 o5 o6 o7 o8 o9 r0 r1 r2 r3 r4 r5 r6 r7 r8 r9;obtain⟨_,u0,u1,u2,u3,u4,u5,u6,u7,u8,u9⟩:=O0;obtain⟨_,v0,v1,v2,v3,v4,v5,v6,v7,v8,v9⟩:=R0;have zX:w.heap.size+1+1<X.heap.size:=by have:=jf X ⟨_,0,none⟩ u0;exact this
 go_wp2_with fail
 refine V (v:= je #[G I k,G I p,G I q,U t,G I a,G I b,G I c,G I d,G I r,G I m]) ?_ rfl ⟨rfl,by have h9:=KX.out;go_grown⟩;simp (maxDischargeDepth:=9) [jc,results21,go_sem, *]
def szv(l:Int)(m:Nat):Int:=if l-m<0 then-1 else l-m
theorem Qx0{t:Nat}(h:W.ownsRow B 70 3 (J (some ⟨g,0,none⟩) n cap) n ys)(ht:t<n)(hy: ∀j,j<t*3->ys[j]? =(clX C R S n)[j]?):
  ∃zs,(((W.setCell ⟨g,t*3,none⟩ (G I (C t))).setCell ⟨g,t*3+1,none⟩ (G I (R t))).setCell ⟨g,t*3+2,none⟩ (U (S t))).ownsRow B 70 3 (J (some ⟨g,0,none⟩) n cap) n zs/\
   (∀j,j<(t+1)*3->zs[j]? =(clX C R S n)[j]?)/\W.grownBy (((W.setCell ⟨g,t*3,none⟩ (G I (C t))).setCell ⟨g,t*3+1,none⟩ (G I (R t))).setCell ⟨g,t*3+2,none⟩ (U (S t))) (some g):=by
 obtain⟨o1,g1⟩:=h.stored (t*3) (G I (C t));obtain⟨o2,g2⟩:=o1.stored (t*3+1) (G I (R t));obtain⟨o3,g3⟩:=o2.stored (t*3+2) (U (S t));refine⟨_,o3,fun j hj=> ?_,Qb2 (Qb2 g1 g2) g3⟩;have hl:=h.1;by_cases e2:t*3+2=j
 ·subst e2;rw[List.getElem?_set_self (by simp;omega),Qfl C R S n t 2 ht (by omega)];rfl
 rw[List.getElem?_set_ne e2];by_cases e1:t*3+1=j
 ·subst e1;rw[List.getElem?_set_self (by simp;omega),Qfl C R S n t 1 ht (by omega)];rfl
 rw[List.getElem?_set_ne e1];by_cases e0:t*3=j
 ·subst e0;rw[List.getElem?_set_self (by omega)];exact(Qfl C R S n t 0 ht (by omega)).symm
 rw[List.getElem?_set_ne e0];exact hy j (by omega)
theorem Qxq(hl:ys.length=n*3)(hy: ∀j,j<n*3->ys[j]? =(clX C R S n)[j]?):ys=clX C R S n:=by
 apply List.ext_getElem?;intro j;by_cases h:j<n*3
 ·exact hy j h
 ·rw[List.getElem?_eq_none (by omega),List.getElem?_eq_none (by rw[Qr7];omega)]
theorem Qvc(c r:Int)(s:ByteArray)(l:Int)(w:T)(hs:s.size<=maxLen)(h0:0<=l)(h1:l<=1048576):Z prog 44 #[je #[G I c,G I r,U s],G I l] w fun e w'=>
  e= Y (G I (szv l s.size))/\O w.heap.size w w':=by
 unfold maxLen at hs;by_cases hz:l-(s.size:Int)<0
 ·have he:Hid (szv l s.size= -1):=by show _=_;unfold szv;rw[pS hz]
  go_enter func44,ntmps44;go_wp2_with fail
  go_ret;exact⟨Zn he.out.symm,by go_grown⟩
 ·have he:Hid (szv l s.size=l-(s.size:Int)):=by show _=_;unfold szv;rw[nG hz]
  go_enter func44,ntmps44;go_wp2_with fail
  go_ret;exact⟨Zn he.out.symm,by go_grown⟩
theorem Quy(c r:Int)(s:ByteArray)(w:T):Z prog 45 #[je #[G I c,G I r,U s]] w fun e w'=>
  e= Y (je #[G I c,G I r,U s])/\O w.heap.size w w':=by
 go_enter func45,ntmps45
 go_wp2_with (first
  | (go_at_call 46;refine(Qsw _ _ _).mono ?_;rintro e w1 ⟨rfl,hb⟩;obtain⟨hc,hf,hC,hF,hz,hk,l0,l1,l2⟩:=bk3 (w:=w) hb;clear hb))
 refine V (v:= je #[G I c,G I r,U s]) ?_ rfl ⟨rfl,by go_grown⟩;simp (maxDischargeDepth:=9) [jc,results45,go_sem, *]
theorem Jy(w:T)(h:ClRow w A n C R S)(hn:n<=1048576):
  Z prog 20 #[J A n cap] w fun e w'=> ∃v,e= Y v/\w'.ownsRow w.heap.size 70 3 v n (clX C R S n)/\O w.heap.size w w':=by
 have HR:Hid (ClRow w A n C R S):=h;clear h;obtain⟨i0,hi,h9,h8,h7⟩:=jm Qn3;go_enter func20,ntmps20;go_wp2_with (refine wpList_make_full _ rfl _ _ 24 rfl w.heap.size 70 i0 _ 3 underlying24 hi h9 h8 _ _ _ _ n rfl rfl rfl rfl ?m1 ?m2 ?m3 ?_)
 case m1=>rw[h7];omega
 case m2=>unfold maxLen;omega
 case m3=>exact Nat.le_refl _
 intro w1 h0 hgrow;have h5:O w.heap.size w w1:=(jg _ _).grown hgrow (Nat.le_refl _) (fun k hk=>by cases hk);obtain⟨ys,h0⟩: ∃ys,w1.ownsRow w.heap.size 70 3 (J (some ⟨w.heap.size,0,none⟩) n n) n ys:=⟨_,h0⟩;clear hgrow;have HO:Hid (w1.ownsRow w.heap.size 70 3 (J (some ⟨w.heap.size,0,none⟩) n n) n ys):=h0;clear h0;go_wp2_with fail
 go_loopw [4] (fun i wr=> ∃t:Nat,t<=n/\i= G I t/\(∃ys,wr.ownsRow w.heap.size 70 3 (J (some ⟨w.heap.size,0,none⟩) n n) n ys/\ ∀j,j<t*3->ys[j]? =(clX C R S n)[j]?)/\O w.heap.size w wr) (fun i _=>n-(intOf i).toNat)
 case atStart=>exact⟨0,Nat.zero_le _,rfl,⟨ys,HO.out,fun j hj=>by omega⟩,h5⟩
 case round=>
  clear HO h5;obtain⟨t,ht,rfl,⟨ys,h0,h3⟩,h1⟩:=hrel;by_cases h4:t<n
  ·obtain⟨b,o,rfl,hl,c0,c1,c2,hs⟩:=HR.out.2 t h4;rw[<-h1.cell (p:=⟨_,_,none⟩) hl]at c0 c1 c2;have q0:(0:Int)<=(t:Int):=by omega
   have q1:(t:Int)<(n:Int):=by omega
   have HO:Hid (wr.ownsRow w.heap.size 70 3 (J (some ⟨w.heap.size,0,none⟩) n n) n ys):=h0;have HY:Hid (∀j,j<t*3->ys[j]? =(clX C R S n)[j]?):=h3;have HB:Hid (O w.heap.size w wr):=h1;clear h0 h3 h1;go_wp2_with fail
   refine(Quy _ _ _ _).mono ?_;rintro e w2 ⟨rfl,hb⟩;have h2:=hd (Qd HO.out hb);have h6:=hd (Qb HB.out hb);obtain⟨A',cap',e,_,hc⟩:=Qr h2.out;cases e
   obtain⟨g0,e0,_,hg,d0,f0⟩:=hc (t*3) (by omega);obtain⟨g1,e1,_,_,d1,f1⟩:=hc (t*3+1) (by omega);obtain⟨g2,e2,_,_,d2,f2⟩:=hc (t*3+2) (by omega);cases e0
   cases e1
   cases e2
   clear hc hb c0 c1 c2 HO HB;have H0:=h2.out.1;obtain⟨x0,y0⟩: ∃x,ys[t*3]? =some x:=⟨_,List.getElem?_eq_getElem (by omega)⟩;obtain⟨x1,y1⟩: ∃x,ys[t*3+1]? =some x:=⟨_,List.getElem?_eq_getElem (by omega)⟩;obtain⟨x2,y2⟩: ∃x,ys[t*3+2]? =some x:=⟨_,List.getElem?_eq_getElem (by omega)⟩;rw[y0]at d0;rw[y1]at d1
   rw[y2]at d2;clear y0 y1 y2 H0
   have HT:Hid (∃zs,(((w2.setCell ⟨w.heap.size,t*3,none⟩ (G I (C t))).setCell ⟨w.heap.size,t*3+1,none⟩ (G I (R t))).setCell ⟨w.heap.size,t*3+2,none⟩ (U (S t))).ownsRow w.heap.size 70 3 (J (some ⟨w.heap.size,0,none⟩) n n) n zs/\
    (∀j,j<(t+1)*3->zs[j]? =(clX C R S n)[j]?)/\w2.grownBy (((w2.setCell ⟨w.heap.size,t*3,none⟩ (G I (C t))).setCell ⟨w.heap.size,t*3+1,none⟩ (G I (R t))).setCell ⟨w.heap.size,t*3+2,none⟩ (U (S t))) (some w.heap.size)):=Qx0 h2.out h4 HY.out
   clear h2 HY;go_wp2_with fail
   all_goals
    go_roundw
    case rel=>
     obtain⟨zs,z1,z2,z3⟩:=HT.out;exact⟨t+1,by omega,by simp,⟨zs,z1,z2⟩,h6.out.grown z3 h6.out.size (fun k hk=>by cases hk;exact Nat.le_refl _)⟩
    case measure=>simp[intOf];omega
  ·have q1: ¬(t:Int)<(n:Int):=by omega
   obtain rfl:t=n:=by omega
   go_wp2_with fail
   go_ret;exact⟨_,rfl,by rw[Qxq h0.1 h3]at h0;exact h0,h1⟩
structure CE where
 c:Int
 r:Int
 s:ByteArray
def ceL(x:CE):List Value:= [G I x.c,G I x.r,U x.s]
theorem Qjd(x:CE):(ceL x).length=3:=rfl
abbrev Qyi(W:T)(A:Option Addr)(L:List CE):Prop:=RowAt 3 ceL W A L
def Qx1(k:Int):CE:=⟨k,(k+1),mtx (k+1+1)⟩
theorem Ei{xs:List Value}(k0:Int)(w:T)(h:w.ownsRow B 70 3 v n xs)(hn:n<=1048576)(hk0:0<k0)(hk1:k0<=70368744177664):
  Z prog 23 #[v,G I k0] w fun e w'=>e= Y (G I (k0+(n:Int)*3))/\w'.ownsRow B 70 3 v n (QH ceL (mkL Qx1 3 k0 n))/\w.grownBy w' v.ownBlock:=by
 have HO:Hid (w.ownsRow B 70 3 v n xs):=h;obtain⟨A,h3,rfl,_,_⟩:=Qr h;clear h;obtain⟨LL,h6⟩: ∃LL,Hid (mkL Qx1 3 k0 n=LL):=⟨_,rfl⟩;rw[h6.out];go_enter func23,ntmps23;go_wp2_with fail
 go_loopw [1,5] (fun q i wr=> ∃t:Nat,t<=n/\i= G I t/\q= G I (k0+(t:Int)*3)/\(∃ys,wr.ownsRow B 70 3 (J A n h3) n ys/\ ∀j,j<t*3->ys[j]? =(QH ceL LL)[j]?)/\w.grownBy wr (Value.slice A n h3).ownBlock) (fun _ i _=>n-(intOf i).toNat)
 case atStart=>exact⟨0,Nat.zero_le _,rfl,by simp,⟨xs,HO.out,fun j hj=>by omega⟩,jj _ _⟩
 case round=>
  clear HO;obtain⟨t,ht,rfl,rfl,⟨ys,h0,h4⟩,h5⟩:=hrel;by_cases H4:t<n
  ·obtain⟨k,HK⟩: ∃k:Int,Hid (k0+(t:Int)*3=k):=⟨_,rfl⟩;have hp0:0<k:=by have:=HK.out;omega
   have hp1:k<=70378744177664:=by have:=HK.out;omega
   have HX:Hid (∀j,j<3->(QH ceL LL)[t*3+j]? =(ceL (Qx1 k))[j]?):=fun j hj=>by
    rw[<-h6.out,Ob Qjd j hj,Qyc _ _ _ _ _ H4,<-HK.out];rfl
   rw[HK.out]
   obtain⟨g,rfl⟩: ∃g,A=some ⟨g,0,none⟩:=by
    obtain⟨A',h2,e,_,hc⟩:=Qr h0;cases e
    obtain⟨g,e,_⟩:=hc (t*3) (by omega);exact⟨g,e⟩
   have H0:Hid (∃ys,wr.ownsRow B 70 3 (J (some ⟨g,0,none⟩) n h3) n ys/\(∀j,j<t*3->ys[j]? =(QH ceL LL)[j]?)/\w.grownBy wr (some g)):=⟨ys,h0,h4,h5⟩;clear h0 h4 h5;have q0:(0:Int)<=(t:Int):=by omega
   have q1:(t:Int)<(n:Int):=by omega
   obtain⟨H3,o0,p0,r0⟩:=H0.out;obtain⟨A',h2,e,_,hc⟩:=Qr o0;cases e
   obtain⟨gg,e0,_,hg0,d0,f0⟩:=hc (t*3) (by omega);cases e0
   clear hc;have hl:=o0.1;obtain⟨x0,y0⟩: ∃x,H3[t*3]? =some x:=⟨_,List.getElem?_eq_getElem (by omega)⟩;rw[y0]at d0;clear y0 hl
   have h8:Hid (∃ys,((wr.setCell ⟨g,t*3,none⟩ (G I (k)))).ownsRow B 70 3 (J (some ⟨g,0,none⟩) n h3) n ys/\(∀j,j<t*3+1->ys[j]? =(QH ceL LL)[j]?)/\w.grownBy ((wr.setCell ⟨g,t*3,none⟩ (G I (k)))) (some g)):=by
    obtain⟨oq,gq⟩:=o0.stored (t*3) (G I (k));refine⟨_,oq,fun j hj=> ?_,Qb2 r0 gq⟩;by_cases e:t*3=j
    ·subst e;rw[List.getElem?_set_self (by have:=o0.1;omega)];exact(HX.out 0 (by omega)).symm
    ·rw[List.getElem?_set_ne e];exact p0 j (by omega)
   clear o0 p0 r0;clear H0;obtain⟨H2,o1,p1,r1⟩:=h8.out;obtain⟨A',h2,e,_,hc⟩:=Qr o1;cases e
   obtain⟨gg,e1,_,hg1,d1,f1⟩:=hc (t*3+1) (by omega);cases e1
   clear hc;have hl:=o1.1;obtain⟨x1,y1⟩: ∃x,H2[t*3+1]? =some x:=⟨_,List.getElem?_eq_getElem (by omega)⟩;rw[y1]at d1;clear y1 hl
   have h7:Hid (∃ys,(((wr.setCell ⟨g,t*3,none⟩ (G I (k))).setCell ⟨g,t*3+1,none⟩ (G I (k+1)))).ownsRow B 70 3 (J (some ⟨g,0,none⟩) n h3) n ys/\(∀j,j<t*3+2->ys[j]? =(QH ceL LL)[j]?)/\w.grownBy (((wr.setCell ⟨g,t*3,none⟩ (G I (k))).setCell ⟨g,t*3+1,none⟩ (G I (k+1)))) (some g)):=by
    obtain⟨oq,gq⟩:=o1.stored (t*3+1) (G I (k+1));refine⟨_,oq,fun j hj=> ?_,Qb2 r1 gq⟩;by_cases e:t*3+1=j
    ·subst e;rw[List.getElem?_set_self (by have:=o1.1;omega)];exact(HX.out 1 (by omega)).symm
    ·rw[List.getElem?_set_ne e];exact p1 j (by omega)
   clear o1 p1 r1;clear h8;go_wp2_with fail
   refine(Qka _ _ (by omega) (by omega)).mono ?_;rintro e w2 ⟨rfl,hb⟩
   have h9:Hid (∃ys,w2.ownsRow B 70 3 (J (some ⟨g,0,none⟩) n h3) n ys/\(∀j,j<t*3+2->ys[j]? =(QH ceL LL)[j]?)/\w.grownBy w2 (some g)):=by
    obtain⟨z,o1,p1,g1⟩:=h7.out;exact⟨z,Qd o1 hb,p1,Qb2 g1 (Qsj _ hb)⟩
   clear hb h7 d0 f0 d1 f1;obtain⟨H1,o2,p2,r2⟩:=h9.out;obtain⟨A',h2,e,_,hc⟩:=Qr o2;cases e
   obtain⟨gg,e2,_,hg2,d2,f2⟩:=hc (t*3+2) (by omega);cases e2
   clear hc;have hl:=o2.1;obtain⟨x2,y2⟩: ∃x,H1[t*3+2]? =some x:=⟨_,List.getElem?_eq_getElem (by omega)⟩;rw[y2]at d2;clear y2 hl
   have H5:Hid (∃ys,((w2.setCell ⟨g,t*3+2,none⟩ (U (mtx (k+1+1))))).ownsRow B 70 3 (J (some ⟨g,0,none⟩) n h3) n ys/\(∀j,j<t*3+3->ys[j]? =(QH ceL LL)[j]?)/\w.grownBy ((w2.setCell ⟨g,t*3+2,none⟩ (U (mtx (k+1+1))))) (some g)):=by
    obtain⟨oq,gq⟩:=o2.stored (t*3+2) (U (mtx (k+1+1)));refine⟨_,oq,fun j hj=> ?_,Qb2 r2 gq⟩;by_cases e:t*3+2=j
    ·subst e;rw[List.getElem?_set_self (by have:=o2.1;omega)];exact(HX.out 2 (by omega)).symm
    ·rw[List.getElem?_set_ne e];exact p2 j (by omega)
   clear o2 p2 r2;clear h9;go_wp2_with fail
   all_goals
    go_roundw
    case rel=>
     obtain⟨z,o1,p1,g1⟩:=H5.out;exact⟨t+1,by omega,by simp,by have:=HK.out;congr 1;omega,⟨z,o1,fun j hj=>p1 j (by omega)⟩,g1⟩
    case measure=>simp[intOf];omega
  ·have h1: ¬(t:Int)<(n:Int):=by omega
   obtain rfl:t=n:=by omega
   go_wp2_with fail
   go_ret;exact⟨rfl,by rw[Qxs Qjd h0.1 (by rw[<-h6.out];exact Qxr _ _ _ _) h4]at h0;exact h0,h5⟩
theorem EF(k0:Int)(w:T)(h:Qyi w A (mkL Qx1 3 k0 n))(hn:n<=1048576)(hk0:0<k0)(hk1:k0<=70368744177664):
  Z prog 24 #[J A n cap,G I k0] w fun e w'=>e= Y (G I (k0+(n:Int)*3))/\O w.heap.size w w':=by
 have HR:Hid (Qyi w A (mkL Qx1 3 k0 n)):=h;clear h;go_enter func24,ntmps24;go_wp2_with fail
 go_loopw [1,5] (fun q i wr=> ∃t:Nat,t<=n/\i= G I t/\q= G I (k0+(t:Int)*3)/\O w.heap.size w wr) (fun _ i _=>n-(intOf i).toNat)
 case atStart=>exact⟨0,Nat.zero_le _,rfl,by simp,jg _ _⟩
 case round=>
  obtain⟨t,ht,rfl,rfl,h0⟩:=hrel;by_cases h4:t<n
  ·obtain⟨k,HK⟩: ∃k:Int,Hid (k0+(t:Int)*3=k):=⟨_,rfl⟩;have hp0:0<k:=by have:=HK.out;omega
   have hp1:k<=70378744177664:=by have:=HK.out;omega
   have hx:=Qyc Qx1 3 k0 n t h4;have h2:k0+(t:Int)*((3:Nat):Int)=k:=HK.out;rw[h2]at hx;rw[HK.out];obtain⟨b,o,rfl,hl,hc⟩:=HR.out.2 t _ hx;have h7:Hid (w.cell? ⟨b,o+t*3,none⟩=some (G I (k))):=hc 0 _ rfl;have h6:Hid (w.cell? ⟨b,o+t*3+1,none⟩=some (G I (k+1))):=hc 1 _ rfl
   have h5:Hid (w.cell? ⟨b,o+t*3+2,none⟩=some (U (mtx (k+1+1)))):=hc 2 _ rfl;clear hc hx h2;have h3:=h0.size;have hl2:b<wr.heap.size:=Nat.lt_of_lt_of_le hl h3;have c0:=h7.out;rw[<-h0.cell (p:=⟨_,_,none⟩) hl]at c0;have c1:=h6.out
   rw[<-h0.cell (p:=⟨_,_,none⟩) hl]at c1;have c2:=h5.out;rw[<-h0.cell (p:=⟨_,_,none⟩) hl]at c2;have q0:(0:Int)<=(t:Int):=by omega
   have q1:(t:Int)<(n:Int):=by omega
   have HB:Hid (O w.heap.size w wr):=h0;clear h0;go_wp2_with fail
   go_region_held3 (fun w'=>(∀bq oq,bq<wr.heap.size->w'.cell? ⟨bq,oq,none⟩=wr.cell? ⟨bq,oq,none⟩)/\wr.heap.size<=w'.heap.size/\O wr.heap.size wr w')
    (exact QE (Nat.le_refl _) (by go_grown))
    (first
    | (go_at_call 49;refine(Qka _ _ (by omega) (by omega)).mono ?_;rintro e v0 ⟨rfl,hb⟩;obtain⟨hk0,hz0⟩:=Qk (B:=wr.heap.size) (X:=wr) (by go_grown) (by go_size) hb;have hW0: ∀b o,b<wr.heap.size->v0.cell? ⟨b,o,none⟩=wr.cell? ⟨b,o,none⟩:=(fun b o h=>hk0.cell (p:=⟨b,o,none⟩) h);clear hb))
   all_goals go_wp2_with fail
   all_goals
    go_roundw
    case rel=>exact⟨t+1,by omega,by simp,by have:=HK.out;congr 1;omega,Qb HB.out (by go_grown)⟩
    case measure=>simp[intOf];omega
  ·have h1: ¬(t:Int)<(n:Int):=by omega
   obtain rfl:t=n:=by omega
   go_wp2_with fail
   go_ret;exact⟨rfl,h0⟩
theorem Y0a{P:Program}(base:Nat)(t ty e:ji)(i:TypeInfo)(size c:Nat)(ht:P.underlying t=some (.slice e))(hi:P.info? e=some i)
  (v:Value) (n:Nat) (xs:List Value) (hown:w.ownsRow base e size v n xs):(Builtin.append_ #[t,t] ty #[v,J none 0 c]).run P w= .ok v w:=by
 rcases hown.2 with⟨rfl,rfl⟩ | ⟨g,cap,cur,rfl,_,_,hnc,_⟩
 ·simp[Builtin.append_,run_underlying ht,sizeOf,typeInfo,hi,Builtin.lenOf,Builtin.firstCells]
 ·simp[Builtin.append_,run_underlying ht,sizeOf,typeInfo,hi,Builtin.lenOf,Builtin.firstCells,hnc,storeCells]
section
variable {P:Program} {ops:Array Oper} {rest:List Oper} {o:Oper} {a:Act} {Q:Exit->Act->T->Prop}
theorem Y0b{w:T}(hgd:o.guard=none)(s x:Operand)(t:ji)
  (ho:o.op= .call {callee:= .builtin .append,args:= #[s,x],argTypes:= #[t,t]})
  (base:Nat) (e:ji) (i:TypeInfo) (size c:Nat) (ht:P.underlying t=some (.slice e)) (hi:P.info? e=some i)
  (v:Value) (n:Nat) (xs:List Value) (hs:a.eval s=v) (hown:w.ownsRow base e size v n xs) (hx:a.eval x= J none 0 c)
  (h:wpList P ops Q rest (a.put o.dst v) w):wpList P ops Q (o::rest) a w:=by
 refine wpList_plain hgd fun K hK=> ?_;have h0:=Y0a (P:=P) (w:=w) base t o.type e i size c ht hi v n xs hown;unfold Oper.wp;simp[execOp,ho,resolve,invoke,builtin,hs,hx,h0,Result.andThen];exact hK _ _ h
theorem Y0c{W:T}(t e:ji)(i:TypeInfo)(z:Value)(size bytes:Nat)(ht:P.underlying t=some (.slice e))(hi:P.info? e=some i)(hz:i.zero=some z)(hsize:i.size=size)(hby:i.bytes=bytes)(hzs:z.cells.size=size)(hsz:0<size)
  (hgd:o.guard=none) (s x:Operand) (ho:o.op= .call {callee:= .builtin .append,args:= #[s,x],argTypes:= #[t,t]}) (B:Nat) (hB:B<=W.heap.size) (v:Value) (hs:a.eval s=v) (hown:W.ownsRow B e size v 0 [])
  (A:Option Addr) (n c:Nat) (xs:List Value) (hx:a.eval x= J A n c) (hl:xs.length=n*size) (hA:A=none->n=0) (hc: ∀ad,A=some ad-> ∀j u,xs[j]? =some u->W.cell? (ad.add j)=some u) (h1: ∀u∈xs,u.oneCell'=true) (hn:n<=maxLen) (hb:n*bytes<=140737488355328)
  (h: ∀A' c' w',w'.ownsRow B e size (J A' n c') n xs->W.grownBy w' v.ownBlock->wpList P ops Q rest (a.put o.dst (J A' n c')) w'):wpList P ops Q (o::rest) a W:=by
 cases A with
 | none=>
  have h3:=hA rfl;subst h3;have h2:xs= []:=by cases xs with | nil=>rfl | cons y ys=>simp at hl
  subst h2;obtain⟨A',h0,rfl,_,_⟩:=Qr hown;exact Y0b hgd s x t ho B e i size c ht hi _ 0 [] hs hown hx (h _ _ W hown (jj _ _))
 | some ad=>
  refine wpList_append_own W hgd s x t ho B e i z size bytes ht hi hz hsize hby hzs hsz v 0 [] hs hown ad n c xs hx hl (hc ad rfl) h1 (by omega) (by rw[Nat.zero_add];exact hb) hB ?_;intro v' w' ho' hg' _;rw[Nat.zero_add,List.nil_append]at ho';obtain⟨A',h0,rfl,_,_⟩:=Qr ho';exact h A' h0 w' ho' hg'
end
theorem Y0d(h:ClRow W A n C R S): ∀ad,A=some ad-> ∀j u,(clX C R S n)[j]? =some u->W.cell? (ad.add j)=some u:=by
 intro ad hA j u hu;have hj:j<n*3:=by rw[<-Qr7 C R S n];exact(List.getElem?_eq_some_iff.1 hu).1
 obtain⟨b,o,e,_,c0,c1,c2,_⟩:=h.2 (j/3) (by omega);rw[hA]at e;cases e
 have e1:j=(j/3)*3+j%3:=by omega
 have hm:j%3<3:=by omega
 rw[e1,Qfl C R S n (j/3) (j%3) (by omega) hm]at hu
 have e2:(⟨b,o,none⟩:Addr).add j=⟨b,o+j/3*3+j%3,none⟩:=by
  rw[jl];congr 1
  omega
 rw[e2];rcases(show j%3=0\/j%3=1\/j%3=2 by omega)with h9 | h9 | h9
 ·rw[h9]at hu ⊢;cases hu;exact c0
 ·rw[h9]at hu ⊢;cases hu;exact c1
 ·rw[h9]at hu ⊢;cases hu;exact c2
theorem Y0e(h:ClRow W A n C R S)(hA:A=none):n=0:=by
 cases n with
 | zero=>rfl
 | succ m=>obtain⟨b,o,e,_⟩:=h.2 0 (by omega);rw[hA]at e;cases e
theorem Y0f(C R:Nat->Int)(S:Nat->ByteArray)(n:Nat): ∀u∈clX C R S n,u.oneCell'=true:=by
 intro u hu;obtain⟨i,_,hi⟩:=List.mem_flatMap.1 hu;simp only[List.mem_cons,List.not_mem_nil,or_false]at hi;rcases hi with rfl | rfl | rfl<;>rfl
theorem Qkx(lf:Int)(w:T)(h:ClRow w A n C R S)(hl0:0<=lf)(hl1:lf<=1048576):
  Z prog 18 #[J A n cap,G I lf] w fun e w'=> ∃z:Int,e= Y (G I z)/\z<=1048576/\(0<=z->n<=1048576)/\O w.heap.size w w':=by
 have HR:Hid (ClRow w A n C R S):=h;have hm:=h.1;clear h;unfold maxLen at hm;by_cases hbig:lf-(n:Int)<0
 ·go_enter func18,ntmps18;go_wp2_with fail
  go_ret;exact⟨-1,rfl,by omega,fun h=>by omega,by go_grown⟩
 ·go_enter func18,ntmps18;go_wp2_with fail
  go_loopw [1,5] (fun l i wr=> ∃(t:Nat) (z:Int),t<=n/\i= G I t/\l= G I z/\0<=z/\z<=1048576/\O w.heap.size w wr) (fun _ i _=>n-(intOf i).toNat)
  case atStart=>exact⟨0,_,Nat.zero_le _,rfl,rfl,by omega,by omega,jg _ _⟩
  case round=>
   obtain⟨t,z,ht,rfl,rfl,z0,z1,h0⟩:=hrel;by_cases h2:t<n
   ·obtain⟨b,o,rfl,hl,c0,c1,c2,hs⟩:=HR.out.2 t h2;rw[<-h0.cell (p:=⟨_,_,none⟩) hl]at c0 c1 c2;have q0:(0:Int)<=(t:Int):=by omega
    have q1:(t:Int)<(n:Int):=by omega
    have HB:Hid (O w.heap.size w wr):=h0;clear h0;go_wp2_with fail
    refine(Qvc _ _ _ _ _ hs z0 z1).mono ?_;rintro e w2 ⟨rfl,hb⟩;have h1:=hd (Qb HB.out hb);clear hb c0 c1 c2;have HZ:Hid (szv z (S t).size<=1048576):=by show _<=_;unfold szv;split<;>omega
    by_cases hz:szv z (S t).size<0
    ·go_wp2_with fail
     go_ret;exact⟨_,rfl,by omega,fun h=>by omega,h1.out⟩
    ·go_wp2_with fail
     go_roundw
     case rel=>exact⟨t+1,_,by omega,by go_num,rfl,by omega,HZ.out,h1.out⟩
     case measure=>simp[intOf];omega
   ·have q1: ¬(t:Int)<(n:Int):=by omega
    go_wp2_with fail
    go_ret;exact⟨_,rfl,z1,fun h=>by omega,h0⟩
theorem Y0g(n:Int):eqH (itB n)=false/\(itB n).data.toList.head?≠some 43:=by
 obtain⟨h0,h1⟩:=Qcv n
 have e:(itB n).data.toList.head? =some (itB n)[0]:=by
  rw[List.head?_eq_getElem?,List.getElem?_eq_getElem (by simpa using h0)];rfl
 refine⟨?_,?_⟩
 ·unfold eqH;rw[dif_pos h0];rw[beq_eq_false_iff_ne];intro e';rw[e']at h1;revert h1
  decide
 ·rw[e];intro e';have e2:=Option.some.inj e';rw[e2]at h1;revert h1
  decide
theorem Y0h{n:Int}(h:Ym n=true):n5 (itB n).data.toList=some n:=by
 obtain⟨_,hp⟩:=Md (Qqb h);have h0:=(Y0g n).2;rw[<-Qnq];unfold nT;rw[hp,decide_eq_false h0,Qgw h]
theorem tx1{n:Int}(h:Ym n=true):txV 1 n ⟨#[]⟩=itB n/\okV 1 n ⟨#[]⟩=true:=by
 have ho:okV 1 n ⟨#[]⟩=true:=by simp[okV,Jh,h]
 exact⟨by rw[txV,ho,pS rfl,txB,pS rfl],ho⟩
def Y0i(t:ByteArray):Prop:=inF t=some t/\((eqH t=true/\ ∃out,rdF (t.extract 1 t.size)=some out/\(⟨#[61]⟩:ByteArray)++ftx (ouF out) out.length=t)\/(eqH t=false/\gOk (Qu t)=true))
theorem Y0j(h:inF s=some t):Y0i t/\(t.size=0↔s.size=0):=by
 unfold inF at h;by_cases hw:QJ s=true
 ·rw[pS hw]at h
  obtain⟨hs,hz⟩:srT s=some t/\t.size<=200:=by
   unfold lim at h;split at h
   ·rename_i t' ht
    split at h
    ·rename_i hz
     cases h
     exact⟨ht,hz⟩
    ·cases h
   ·cases h
  have h4: ∀{t:ByteArray},QJ t=true->srT t=some t->t.size<=200->inF t=some t:=fun{t} h1 h2 h3=>by
   unfold inF;rw[pS h1,h2];unfold lim;exact pS h3
  unfold srT at hs;by_cases he:eqH s=true
  ·rw[pS he]at hs;unfold fsT at hs;split at hs
   ·rename_i out ho
    split at hs
    ·cases hs
    ·rename_i hn
     cases hs
     obtain⟨f1,f2,f3⟩:=Qmg hn;obtain⟨g1,g2⟩:=Qrx (t:=ftx (ouF out) out.length);refine⟨⟨h4 (Qpu (by decide) f2 hz) ?_ hz,N ⟨g1,out,by rw[g2];exact f3,rfl⟩⟩,?_⟩
     ·unfold srT;rw[pS g1,g2,f3];unfold fsT;simp only;rw[nG hn]
     ·have h1:((⟨#[61]⟩:ByteArray)++ftx (ouF out) out.length).size≠0:=by
       rw[ByteArray.size_append];show 1+_≠0;omega
      have h2:s.size≠0:=fun e=>by
       unfold eqH at he;rw[dif_neg (by omega)]at he;cases he
      exact⟨fun e=>absurd e h1,fun e=>absurd e h2⟩
   ·cases hs
  ·rw[nG he]at hs;have H1:eqH s=false:=by simpa using he
   cases hq:n5 s.data.toList with
   | some n=>
    simp only[hq]at hs;have hr:Ym n=true:=(JU n).2 (n5_b hq);obtain⟨e1,ho⟩:=tx1 hr;rw[e1]at hs;cases hs
    have hg:Qu (itB n)=(1,n,⟨#[]⟩):=Qjb hr;refine⟨⟨h4 ?_ ?_ hz,jh ⟨(Y0g n).1,by rw[hg];simp[gOk,hr]⟩⟩,?_⟩
    ·unfold QJ;rw[Bool.and_eq_true];exact⟨decide_eq_true hz,(DW _).2 Qxl⟩
    ·unfold srT;rw[nG (by rw[(Y0g n).1];simp),Y0h hr];simp only;rw[e1]
    ·obtain⟨h0,_⟩:=Qcv n
     have h2:s.size≠0:=fun e=>by
      have:s=⟨#[]⟩:=Za e;rw[this]at hq;cases hq
     exact⟨fun e=>by omega,fun e=>absurd e h2⟩
   | none=>
    simp only[hq]at hs;by_cases hg:gOk (Qu s)=true
    ·rw[pS hg]at hs;cases hs
     refine⟨⟨?_,jh ⟨H1,hg⟩⟩,Iff.rfl⟩;exact h4 hw (by unfold srT;rw[nG he,hq];simp only;rw[pS hg]) hz
    ·rw[nG hg]at hs;cases hs
     have H0:Qu ((⟨#[39]⟩:ByteArray)++s)=(2,0,s):=Qey s;have h5:gOk (Qu ((⟨#[39]⟩:ByteArray)++s))=true:=by rw[H0];simp[gOk,hw]
     have h7:((⟨#[39]⟩:ByteArray)++s).data.toList=39::s.data.toList:=GG s
     have h6:eqH ((⟨#[39]⟩:ByteArray)++s)=false:=by
      have e2:(⟨#[39]⟩:ByteArray)++s=bs (39::s.data.toList):=by rw[<-h7];rfl
      rw[e2];rfl
     have h8:n5 ((⟨#[39]⟩:ByteArray)++s).data.toList=none:=by
      rw[h7];unfold n5;rw[nG (by simp),nG (by simp)]
      have hu:u15 (39::s.data.toList)=none:=by
       cases hq:u15 (39::s.data.toList)with
       | none=>rfl
       | some m=>
        have h9:=((Qb6 (l:=39::s.data.toList) (by simp)).1 hq).1;rw[ZL,nG (by decide)]at h9;cases h9
      rw[hu];rfl
     refine⟨⟨h4 (Qpu (by decide) hw hz) ?_ hz,jh ⟨h6,h5⟩⟩,?_⟩
     ·unfold srT;rw[nG (by rw[h6];simp),h8];simp only;rw[pS h5]
     ·have h1:=Qe4 s;refine⟨fun e=>by omega,fun e=> ?_⟩;exfalso
      apply hg;rw[Za e];rfl
 ·rw[nG hw]at h;cases h
theorem setC_iffE{w:CL}{z:CL}:z∈Xj w E↔(z∈E/\ ¬(z.c=w.c/\z.r=w.r))\/(z=w/\w.s.toList.isEmpty=false):=by
 rw[(Yp w E).mem_iff];by_cases h:w.s.toList.isEmpty=true
 ·rw[pS h,offP_mem];simp[h]
 ·rw[nG h,List.mem_append,offP_mem,List.mem_singleton];simp[Bool.eq_false_iff.2 h]
structure EdI9 where
 k:Int
 p:Int
 q:Int
 t:ByteArray
 a:Int
 b:Int
 c:Int
 d:Int
 r:Int
 m:Int
def edL(x:EdI9):List Value:= [G I x.k,G I x.p,G I x.q,U x.t,G I x.a,G I x.b,G I x.c,G I x.d,G I x.r,G I x.m]
def EdRow(W:T)(A:Option Addr)(n:Nat)(D:Nat->EdI9):Prop:=
 n<=maxLen/\ ∀i,i<n-> ∃b o,A=some ⟨b,o,none⟩/\b<W.heap.size/\W.cell? ⟨b,o+i*10,none⟩=some (G I (D i).k)/\W.cell? ⟨b,o+i*10+1,none⟩=some (G I (D i).p)/\W.cell? ⟨b,o+i*10+2,none⟩=some (G I (D i).q)/\W.cell? ⟨b,o+i*10+3,none⟩=some (U (D i).t)/\W.cell? ⟨b,o+i*10+4,none⟩=some (G I (D i).a)/\W.cell? ⟨b,o+i*10+5,none⟩=some (G I (D i).b)/\W.cell? ⟨b,o+i*10+6,none⟩=some (G I (D i).c)/\W.cell? ⟨b,o+i*10+7,none⟩=some (G I (D i).d)/\W.cell? ⟨b,o+i*10+8,none⟩=some (G I (D i).r)/\W.cell? ⟨b,o+i*10+9,none⟩=some (G I (D i).m)/\(D i).t.size<=maxLen
theorem EdRow.below{W':T}{D:Nat->EdI9}(h:EdRow W A n D)(hb:O W.heap.size W W'):EdRow W' A n D:=
 ⟨h.1,fun i hi=>by
  obtain⟨b,o,e,hl,c0,c1,c2,c3,c4,c5,c6,c7,c8,c9,hs⟩:=h.2 i hi
  exact⟨b,o,e,Nat.lt_of_lt_of_le hl hb.size,(hb.cell (p:=⟨b,_,none⟩) hl).trans c0,(hb.cell (p:=⟨b,_,none⟩) hl).trans c1,(hb.cell (p:=⟨b,_,none⟩) hl).trans c2,(hb.cell (p:=⟨b,_,none⟩) hl).trans c3,(hb.cell (p:=⟨b,_,none⟩) hl).trans c4,(hb.cell (p:=⟨b,_,none⟩) hl).trans c5,(hb.cell (p:=⟨b,_,none⟩) hl).trans c6,(hb.cell (p:=⟨b,_,none⟩) hl).trans c7,(hb.cell (p:=⟨b,_,none⟩) hl).trans c8,(hb.cell (p:=⟨b,_,none⟩) hl).trans c9,hs⟩⟩
def edX(D:Nat->EdI9)(m:Nat):List Value:=(List.range m).flatMap fun i=>edL (D i)
theorem Y0k(D:Nat->EdI9)(m:Nat):edX D (m+1)=edX D m++edL (D m):=by
 simp[edX,List.range_succ,List.flatMap_append]
theorem Y0l(D:Nat->EdI9)(m:Nat):(edX D m).length=m*10:=by
 induction m with
 | zero=>rfl
 | succ m ih=>rw[Y0k,List.length_append,ih];simp[edL];omega
theorem Y0m(D:Nat->EdI9)(m i j:Nat)(hi:i<m)(hj:j<10):(edX D m)[i*10+j]? =(edL (D i))[j]?:=by
 induction m with
 | zero=>omega
 | succ m ih=>
  rw[Y0k];have hl:=Y0l D m;by_cases h:i<m
  ·rw[List.getElem?_append_left (by omega)];exact ih h
  ·obtain rfl:i=m:=by omega
   rw[List.getElem?_append_right (by omega),hl];congr 1
   omega
theorem Y0n:(prog.info? 30).map (fun i=>(i.zero,i.size,i.bytes))=some (some (je #[G I 0,G I 0,G I 0,U ⟨#[]⟩,G I 0,G I 0,G I 0,G I 0,G I 0,G I 0]),10,88):=by kernel_rfl
theorem Y0o{D:Nat->EdI9}(h:W.ownsRow B 30 10 (J A n cap) n (edX D n))(hs: ∀i,i<n->(D i).t.size<=maxLen):EdRow W A n D:=by
 obtain⟨A',cap',e,hn,hc⟩:=Qr h;cases e
 refine⟨hn,fun i hi=> ?_⟩;obtain⟨g,rfl,_,hl,c0,_⟩:=hc (i*10) (by omega);obtain⟨g1,e1,_,_,c1,_⟩:=hc (i*10+1) (by omega);obtain⟨g2,e2,_,_,c2,_⟩:=hc (i*10+2) (by omega);obtain⟨g3,e3,_,_,c3,_⟩:=hc (i*10+3) (by omega);obtain⟨g4,e4,_,_,c4,_⟩:=hc (i*10+4) (by omega);obtain⟨g5,e5,_,_,c5,_⟩:=hc (i*10+5) (by omega)
 obtain⟨g6,e6,_,_,c6,_⟩:=hc (i*10+6) (by omega);obtain⟨g7,e7,_,_,c7,_⟩:=hc (i*10+7) (by omega);obtain⟨g8,e8,_,_,c8,_⟩:=hc (i*10+8) (by omega);obtain⟨g9,e9,_,_,c9,_⟩:=hc (i*10+9) (by omega);cases e1
 cases e2
 cases e3
 cases e4
 cases e5
 cases e6
 cases e7
 cases e8
 cases e9
 refine⟨g,0,rfl,hl,?_,?_,?_,?_,?_,?_,?_,?_,?_,?_,hs i hi⟩
 ·rw[Nat.zero_add,c0];exact Y0m D n i 0 hi (by omega)
 ·rw[Nat.zero_add,c1];exact Y0m D n i 1 hi (by omega)
 ·rw[Nat.zero_add,c2];exact Y0m D n i 2 hi (by omega)
 ·rw[Nat.zero_add,c3];exact Y0m D n i 3 hi (by omega)
 ·rw[Nat.zero_add,c4];exact Y0m D n i 4 hi (by omega)
 ·rw[Nat.zero_add,c5];exact Y0m D n i 5 hi (by omega)
 ·rw[Nat.zero_add,c6];exact Y0m D n i 6 hi (by omega)
 ·rw[Nat.zero_add,c7];exact Y0m D n i 7 hi (by omega)
 ·rw[Nat.zero_add,c8];exact Y0m D n i 8 hi (by omega)
 ·rw[Nat.zero_add,c9];exact Y0m D n i 9 hi (by omega)
theorem Y0p{m:Nat}{e:ji}{u:Value}{Q:Nat->Prop}(h:W.ownsRow B e 10 (J (some ⟨g,0,none⟩) n cap) n ys)(hm:m<n*10)(hu:X[m]? =some u)(hy: ∀j,Q j->ys[j]? =X[j]?):
  ∃zs,(W.setCell ⟨g,m,none⟩ u).ownsRow B e 10 (J (some ⟨g,0,none⟩) n cap) n zs/\(∀j,Q j\/j=m->zs[j]? =X[j]?)/\W.grownBy (W.setCell ⟨g,m,none⟩ u) (some g):=by
 obtain⟨o1,g1⟩:=h.stored m u;refine⟨_,o1,fun j hj=> ?_,g1⟩;have hl:=h.1;by_cases e:m=j
 ·subst e;rw[List.getElem?_set_self (by omega)];exact hu.symm
 ·rw[List.getElem?_set_ne e];rcases hj with hj | hj
  ·exact hy j hj
  ·exact absurd hj.symm e
theorem Y0q{D:Nat->EdI9}(hl:ys.length=n*10)(hy: ∀j,j<n*10->ys[j]? =(edX D n)[j]?):ys=edX D n:=by
 apply List.ext_getElem?;intro j;by_cases h:j<n*10
 ·exact hy j h
 ·rw[List.getElem?_eq_none (by omega),List.getElem?_eq_none (by rw[Y0l];omega)]
def Y0r(W:T)(g t:Nat)(x:EdI9):T:=(((((((((W.setCell ⟨g,t*10,none⟩ (G I x.k)).setCell ⟨g,t*10+1,none⟩ (G I x.p)).setCell ⟨g,t*10+2,none⟩ (G I x.q)).setCell ⟨g,t*10+3,none⟩ (U x.t)).setCell ⟨g,t*10+4,none⟩ (G I x.a)).setCell ⟨g,t*10+5,none⟩ (G I x.b)).setCell ⟨g,t*10+6,none⟩ (G I x.c)).setCell ⟨g,t*10+7,none⟩ (G I x.d)).setCell ⟨g,t*10+8,none⟩ (G I x.r)).setCell ⟨g,t*10+9,none⟩ (G I x.m)
theorem Y0s{t:Nat}{e:ji}{D:Nat->EdI9}{Q:Nat->Prop}(x:EdI9)(hx:D t=x)(h:W.ownsRow B e 10 (J (some ⟨g,0,none⟩) n cap) n ys)(ht:t<n)(hy: ∀j,Q j->ys[j]? =(edX D n)[j]?):
  ∃zs,(Y0r W g t x).ownsRow B e 10 (J (some ⟨g,0,none⟩) n cap) n zs/\(∀j,Q j\/(t*10<=j/\j<(t+1)*10)->zs[j]? =(edX D n)[j]?)/\W.grownBy (Y0r W g t x) (some g):=by
 subst hx;obtain⟨y1,o1,q1,g1⟩:=Y0p h (by omega) (Y0m D n t 0 ht (by omega)) hy;obtain⟨y2,o2,q2,g2⟩:=Y0p o1 (by omega) (Y0m D n t 1 ht (by omega)) q1;obtain⟨y3,o3,q3,g3⟩:=Y0p o2 (by omega) (Y0m D n t 2 ht (by omega)) q2;obtain⟨y4,o4,q4,g4⟩:=Y0p o3 (by omega) (Y0m D n t 3 ht (by omega)) q3;obtain⟨y5,o5,q5,g5⟩:=Y0p o4 (by omega) (Y0m D n t 4 ht (by omega)) q4;obtain⟨y6,o6,q6,g6⟩:=Y0p o5 (by omega) (Y0m D n t 5 ht (by omega)) q5
 obtain⟨y7,o7,q7,g7⟩:=Y0p o6 (by omega) (Y0m D n t 6 ht (by omega)) q6;obtain⟨y8,o8,q8,g8⟩:=Y0p o7 (by omega) (Y0m D n t 7 ht (by omega)) q7;obtain⟨y9,o9,q9,g9⟩:=Y0p o8 (by omega) (Y0m D n t 8 ht (by omega)) q8;obtain⟨h0,h2,h1,h3⟩:=Y0p o9 (by omega) (Y0m D n t 9 ht (by omega)) q9
 exact⟨h0,h2,fun j hj=>h1 j (by
  rcases hj with hj | hj
  ·exact N (N (N (N (N (N (N (N (N (N hj)))))))))
  ·by_cases e9:j=t*10+9
   ·exact jh e9
   by_cases e8:j=t*10+8
   ·exact N (jh e8)
   by_cases e7:j=t*10+7
   ·exact N (N (jh e7))
   by_cases e6:j=t*10+6
   ·exact N (N (N (jh e6)))
   by_cases e5:j=t*10+5
   ·exact N (N (N (N (jh e5))))
   by_cases e4:j=t*10+4
   ·exact N (N (N (N (N (jh e4)))))
   by_cases e3:j=t*10+3
   ·exact N (N (N (N (N (N (jh e3))))))
   by_cases e2:j=t*10+2
   ·exact N (N (N (N (N (N (N (jh e2)))))))
   by_cases e1:j=t*10+1
   ·exact N (N (N (N (N (N (N (N (jh e1))))))))
   exact N (N (N (N (N (N (N (N (N (jh (by omega))))))))))),(Qb2 (Qb2 (Qb2 (Qb2 (Qb2 (Qb2 (Qb2 (Qb2 (Qb2 g1 g2) g3) g4) g5) g6) g7) g8) g9) h3)⟩
theorem Y0t(a b c d:Int)(w:T):Z prog 77 #[je #[G I a,G I b,G I c,G I d],je #[G I a,G I b,G I c,G I d]] w fun e w'=>
  e= Y (jb true)/\O w.heap.size w w':=by
 go_enter func77,ntmps77
 go_wp2_with (first
  | (go_at_call 76;refine(Qef _ _ _).mono ?_;rintro e w1 ⟨rfl,hb⟩;obtain⟨hc,hf,hC,hF,hz,hk,l0,l1⟩:=bk2 (w:=w) hb;clear hb))
 all_goals
  go_ret;exact⟨rfl,by go_grown⟩
theorem Y0u(k:Int)(p:Int)(q:Int)(t:ByteArray)(a:Int)(b:Int)(c:Int)(d:Int)(r:Int)(m:Int)(w:T):Z prog 51 #[je #[G I k,G I p,G I q,U t,G I a,G I b,G I c,G I d,G I r,G I m],je #[G I k,G I p,G I q,U t,G I a,G I b,G I c,G I d,G I r,G I m]] w fun e w'=>
  e= Y (jb true)/\O w.heap.size w w':=by
 go_enter func51,ntmps51
 go_wp2_with (first
  | (go_at_call 76;refine(Qef _ _ _).mono ?_;rintro e w1 ⟨rfl,hb⟩;obtain⟨hc,hf,hC,hF,hz,hk,l0,l1⟩:=bk2 (w:=w) hb;clear hb)
  | (go_at_call 77;refine(Y0t _ _ _ _ _).mono ?_;rintro e w2 ⟨rfl,hb⟩;obtain⟨hc',hf',hC',hF',hz',hk',l0',l1'⟩:=bk2 (w:=w) hb;clear hb))
 all_goals
  go_ret;exact⟨rfl,by go_grown⟩
theorem Y0v{D:Nat->EdI9}(lf:Int)(w:T)(h:EdRow w A n D)(hl0:0<=lf)(hl1:lf<=1048576):
  Z prog 29 #[J A n cap,G I lf] w fun e w'=> ∃z:Int,e= Y (G I z)/\z<=1048576/\(0<=z->n<=1048576)/\O w.heap.size w w':=by
 have HR:Hid (EdRow w A n D):=h;have hm:=h.1;clear h;unfold maxLen at hm;by_cases hbig:lf-(n:Int)<0
 ·go_enter func29,ntmps29;go_wp2_with fail
  go_ret;exact⟨-1,rfl,by omega,fun h=>by omega,by go_grown⟩
 ·go_enter func29,ntmps29;go_wp2_with fail
  go_loopw [1,5] (fun l i wr=> ∃(t:Nat) (z:Int),t<=n/\i= G I t/\l= G I z/\0<=z/\z<=1048576/\O w.heap.size w wr) (fun _ i _=>n-(intOf i).toNat)
  case atStart=>exact⟨0,_,Nat.zero_le _,rfl,rfl,by omega,by omega,jg _ _⟩
  case round=>
   obtain⟨t,z,ht,rfl,rfl,z0,z1,h0⟩:=hrel;by_cases h2:t<n
   ·obtain⟨b,o,rfl,hl,c0,c1,c2,c3,c4,c5,c6,c7,c8,c9,hs⟩:=HR.out.2 t h2;rw[<-h0.cell (p:=⟨_,_,none⟩) hl]at c0 c1 c2 c3 c4 c5 c6 c7 c8 c9;have q0:(0:Int)<=(t:Int):=by omega
    have q1:(t:Int)<(n:Int):=by omega
    have HB:Hid (O w.heap.size w wr):=h0;clear h0;go_wp2_with fail
    refine(Qu4 _ _ z0 z1 hs).mono ?_;rintro e w2 ⟨y,rfl,hy,hb⟩;have h1:=hd (Qb HB.out hb);clear hb c0 c1 c2 c3 c4 c5 c6 c7 c8 c9;by_cases hz:y<0
    ·go_wp2_with fail
     go_ret;exact⟨_,rfl,by omega,fun h=>by omega,h1.out⟩
    ·go_wp2_with fail
     go_roundw
     case rel=>exact⟨t+1,_,by omega,by go_num,rfl,by omega,hy,h1.out⟩
     case measure=>simp[intOf];omega
   ·have q1: ¬(t:Int)<(n:Int):=by omega
    go_wp2_with fail
    go_ret;exact⟨_,rfl,z1,fun h=>by omega,h0⟩
theorem Y0w{D:Nat->EdI9}(w:T)(h:EdRow w A n D)(h':EdRow w A' n D):
  Z prog 26 #[J A n cap,J A' n cap'] w fun e w'=>e= Y (jb true)/\O w.heap.size w w':=by
 have HR:Hid (EdRow w A n D):=h;have h4:Hid (EdRow w A' n D):=h';have hn:=h.1;unfold maxLen at hn;clear h h';go_enter func26,ntmps26;go_wp2_with fail
 go_loopw [5] (fun i wr=> ∃k:Nat,k<=n/\i= G I k/\O w.heap.size w wr) (fun i _=>n-(intOf i).toNat)
 case atStart=>exact⟨0,Nat.zero_le _,rfl,jg _ _⟩
 case round=>
  obtain⟨k,hk,rfl,h2⟩:=hrel;by_cases h3:k<n
  ·obtain⟨b,o,rfl,hl,c0,c1,c2,c3,c4,c5,c6,c7,c8,c9,hs⟩:=HR.out.2 k h3;obtain⟨b',o',rfl,hl',c0',c1',c2',c3',c4',c5',c6',c7',c8',c9',_⟩:=h4.out.2 k h3;have hs:=h2.size;have hW:=fun b o h=>h2.cell (p:=⟨b,o,none⟩) h;have h0:(0:Int)<=(k:Int):=by omega
   have h1:(k:Int)<(n:Int):=by omega
   go_wp2_with fail
   go_region_held3 (fun w'=>(∀bq oq,bq<w.heap.size->w'.cell? ⟨bq,oq,none⟩=w.cell? ⟨bq,oq,none⟩)/\w.heap.size<=w'.heap.size/\O w.heap.size w w')
    (exact QE (Nat.le_refl _) (by go_grown))
    (first
    | (go_at_call 51;refine(Y0u (D k).k (D k).p (D k).q (D k).t (D k).a (D k).b (D k).c (D k).d (D k).r (D k).m _).mono ?_;rintro e w1 ⟨rfl,hb⟩;obtain⟨hk1,hz1⟩:=Qk (B:=w.heap.size) (X:=w) (by go_grown) (by go_size) hb;clear hb))
   all_goals go_wp2_with fail
   all_goals
    go_roundw
    case rel=>exact⟨k+1,by omega,by go_num,by go_grown⟩
    case measure=>simp[intOf];omega
  ·have h1: ¬(k:Int)<(n:Int):=by omega
   go_wp2_with fail
   go_ret;exact⟨rfl,h2⟩
theorem Y0x{D:Nat->EdI9}(w:T)(h:EdRow w A n D)(hn:n<=1048576):
  Z prog 30 #[J A n cap] w fun e w'=> ∃v,e= Y v/\w'.ownsRow w.heap.size 30 10 v n (edX D n)/\O w.heap.size w w':=by
 have HR:Hid (EdRow w A n D):=h;clear h;obtain⟨i0,hi,h9,h8,h7⟩:=jm Y0n;go_enter func30,ntmps30;go_wp2_with (refine wpList_make_full _ rfl _ _ 35 rfl w.heap.size 30 i0 _ 10 underlying35 hi h9 h8 _ _ _ _ n rfl rfl rfl rfl ?m1 ?m2 ?m3 ?_)
 case m1=>rw[h7];omega
 case m2=>unfold maxLen;omega
 case m3=>exact Nat.le_refl _
 intro w1 h0 hgrow;have h5:O w.heap.size w w1:=(jg _ _).grown hgrow (Nat.le_refl _) (fun k hk=>by cases hk);obtain⟨ys,h0⟩: ∃ys,w1.ownsRow w.heap.size 30 10 (J (some ⟨w.heap.size,0,none⟩) n n) n ys:=⟨_,h0⟩;clear hgrow;have HO:Hid (w1.ownsRow w.heap.size 30 10 (J (some ⟨w.heap.size,0,none⟩) n n) n ys):=h0;clear h0;go_wp2_with fail
 go_loopw [4] (fun i wr=> ∃t:Nat,t<=n/\i= G I t/\(∃ys,wr.ownsRow w.heap.size 30 10 (J (some ⟨w.heap.size,0,none⟩) n n) n ys/\ ∀j,j<t*10->ys[j]? =(edX D n)[j]?)/\O w.heap.size w wr) (fun i _=>n-(intOf i).toNat)
 case atStart=>exact⟨0,Nat.zero_le _,rfl,⟨ys,HO.out,fun j hj=>by omega⟩,h5⟩
 case round=>
  clear HO h5;obtain⟨t,ht,rfl,⟨ys,h0,h3⟩,h1⟩:=hrel;by_cases h4:t<n
  ·obtain⟨b,o,rfl,hl,c0,c1,c2,c3,c4,c5,c6,c7,c8,c9,hs⟩:=HR.out.2 t h4;rw[<-h1.cell (p:=⟨_,_,none⟩) hl]at c0 c1 c2 c3 c4 c5 c6 c7 c8 c9;have q0:(0:Int)<=(t:Int):=by omega
   have q1:(t:Int)<(n:Int):=by omega
   have HO:Hid (wr.ownsRow w.heap.size 30 10 (J (some ⟨w.heap.size,0,none⟩) n n) n ys):=h0;have HY:Hid (∀j,j<t*10->ys[j]? =(edX D n)[j]?):=h3;have HB:Hid (O w.heap.size w wr):=h1;clear h0 h3 h1;go_wp2_with fail
   refine(EL _).mono ?_;rintro e w2 ⟨rfl,hb⟩;have h2:=hd (Qd HO.out hb);have h6:=hd (Qb HB.out hb);obtain⟨A',cap',e,_,hc⟩:=Qr h2.out;cases e
   have H0:=h2.out.1
   have hx: ∀j,j<10-> ∃x,w2.cell? ⟨w.heap.size,t*10+j,none⟩=some x/\w2.frozen? ⟨w.heap.size,t*10+j,none⟩=false:=fun j hj=>by
    obtain⟨g',e',_,_,d,f⟩:=hc (t*10+j) (by omega);cases e'
    exact⟨_,d.trans (List.getElem?_eq_getElem (by omega)),f⟩
   obtain⟨x0,d0,f0⟩:=hx 0 (by omega);obtain⟨x1,d1,f1⟩:=hx 1 (by omega);obtain⟨x2,d2,f2⟩:=hx 2 (by omega);obtain⟨x3,d3,f3⟩:=hx 3 (by omega);obtain⟨x4,d4,f4⟩:=hx 4 (by omega);obtain⟨x5,d5,f5⟩:=hx 5 (by omega);obtain⟨x6,d6,f6⟩:=hx 6 (by omega)
   obtain⟨x7,d7,f7⟩:=hx 7 (by omega);obtain⟨x8,d8,f8⟩:=hx 8 (by omega);obtain⟨x9,d9,f9⟩:=hx 9 (by omega);rw[Nat.add_zero]at d0 f0;clear hx H0;clear hc hb c0 c1 c2 c3 c4 c5 c6 c7 c8 c9 HO HB
   have HT:Hid (∃zs,((((((((((w2.setCell ⟨w.heap.size,t*10,none⟩ (G I (D t).k)).setCell ⟨w.heap.size,t*10+1,none⟩ (G I (D t).p)).setCell ⟨w.heap.size,t*10+2,none⟩ (G I (D t).q)).setCell ⟨w.heap.size,t*10+3,none⟩ (U (D t).t)).setCell ⟨w.heap.size,t*10+4,none⟩ (G I (D t).a)).setCell ⟨w.heap.size,t*10+5,none⟩ (G I (D t).b)).setCell ⟨w.heap.size,t*10+6,none⟩ (G I (D t).c)).setCell ⟨w.heap.size,t*10+7,none⟩ (G I (D t).d)).setCell ⟨w.heap.size,t*10+8,none⟩ (G I (D t).r)).setCell ⟨w.heap.size,t*10+9,none⟩ (G I (D t).m)).ownsRow w.heap.size 30 10 (J (some ⟨w.heap.size,0,none⟩) n n) n zs/\
    (∀j,j<t*10\/(t*10<=j/\j<(t+1)*10)->zs[j]? =(edX D n)[j]?)/\w2.grownBy ((((((((((w2.setCell ⟨w.heap.size,t*10,none⟩ (G I (D t).k)).setCell ⟨w.heap.size,t*10+1,none⟩ (G I (D t).p)).setCell ⟨w.heap.size,t*10+2,none⟩ (G I (D t).q)).setCell ⟨w.heap.size,t*10+3,none⟩ (U (D t).t)).setCell ⟨w.heap.size,t*10+4,none⟩ (G I (D t).a)).setCell ⟨w.heap.size,t*10+5,none⟩ (G I (D t).b)).setCell ⟨w.heap.size,t*10+6,none⟩ (G I (D t).c)).setCell ⟨w.heap.size,t*10+7,none⟩ (G I (D t).d)).setCell ⟨w.heap.size,t*10+8,none⟩ (G I (D t).r)).setCell ⟨w.heap.size,t*10+9,none⟩ (G I (D t).m)) (some w.heap.size)):=Y0s (D t) rfl h2.out h4 HY.out
   clear h2 HY;go_wp2_with fail
   all_goals
    go_roundw
    case rel=>
     obtain⟨zs,z1,z2,z3⟩:=HT.out;exact⟨t+1,by omega,by simp,⟨zs,z1,fun j hj=>z2 j (by omega)⟩,h6.out.grown z3 h6.out.size (fun k hk=>by cases hk;exact Nat.le_refl _)⟩
    case measure=>simp[intOf];omega
  ·have q1: ¬(t:Int)<(n:Int):=by omega
   obtain rfl:t=n:=by omega
   go_wp2_with fail
   go_ret;exact⟨_,rfl,by rw[Y0q h0.1 h3]at h0;exact h0,h1⟩
def edMk(k:Int):EdI9:=⟨(k),(k+1),(k+1+1),mtx (k+1+1+1),(k+1+1+1+1),(k+1+1+1+1+1),(k+1+1+1+1+1+1),(k+1+1+1+1+1+1+1),(k+1+1+1+1+1+1+1+1),(k+1+1+1+1+1+1+1+1+1)⟩
theorem Y0y(x:EdI9):(edL x).length=10:=rfl
def MkR(w W:T)(B g n cap m:Nat)(X:List Value):Prop:= ∃ys,W.ownsRow B 30 10 (J (some ⟨g,0,none⟩) n cap) n ys/\(∀j,j<m->ys[j]? =X[j]?)/\w.grownBy W (some g)
theorem Y0z{W':T}{m:Nat}(h:Hid (MkR w W B g n cap m X))(hb:O W.heap.size W W'):Hid (MkR w W' B g n cap m X):=by
 obtain⟨z,o1,p1,g1⟩:=h.out;show MkR _ _ _ _ _ _ _ _;exact⟨z,Qd o1 hb,p1,Qb2 g1 (Qsj _ hb)⟩
theorem Y1a{m:Nat}(h:Hid (MkR w W B g n cap m X))(hm:m<n*10)(hv:X[m]? =some v): ∃x,W.cell? ⟨g,m,none⟩=some x/\W.frozen? ⟨g,m,none⟩=false/\Hid (MkR w (W.setCell ⟨g,m,none⟩ v) B g n cap (m+1) X):=by
 obtain⟨ys,o,q,r⟩:=h.out;obtain⟨A',cap',e,_,hc⟩:=Qr o;cases e
 obtain⟨gg,e0,_,_,d,f⟩:=hc m hm;cases e0
 have hl:=o.1;obtain⟨oq,gq⟩:=o.stored m v;refine⟨_,d.trans (List.getElem?_eq_getElem (by omega)),f,?_⟩;show MkR _ _ _ _ _ _ _ _;refine⟨_,oq,fun j hj=> ?_,Qb2 r gq⟩;by_cases e:m=j
 ·subst e;rw[List.getElem?_set_self (by omega)];exact hv.symm
 ·rw[List.getElem?_set_ne e];exact q j (by omega)
theorem Y1b{xs:List Value}(k0:Int)(w:T)(h:w.ownsRow B 30 10 v n xs)(hn:n<=1048576)(hk0:0<k0)(hk1:k0<=70368744177664):
  Z prog 27 #[v,G I k0] w fun e w'=>e= Y (G I (k0+(n:Int)*10))/\w'.ownsRow B 30 10 v n (QH edL (mkL edMk 10 k0 n))/\w.grownBy w' v.ownBlock:=by
 have HO:Hid (w.ownsRow B 30 10 v n xs):=h;obtain⟨A,h4,rfl,_,_⟩:=Qr h;clear h;obtain⟨LL,H1⟩: ∃LL,Hid (mkL edMk 10 k0 n=LL):=⟨_,rfl⟩;rw[H1.out];go_enter func27,ntmps27;go_wp2_with fail
 go_loopw [1,5] (fun q i wr=> ∃t:Nat,t<=n/\i= G I t/\q= G I (k0+(t:Int)*10)/\(∃ys,wr.ownsRow B 30 10 (J A n h4) n ys/\ ∀j,j<t*10->ys[j]? =(QH edL LL)[j]?)/\w.grownBy wr (Value.slice A n h4).ownBlock) (fun _ i _=>n-(intOf i).toNat)
 case atStart=>exact⟨0,Nat.zero_le _,rfl,by simp,⟨xs,HO.out,fun j hj=>by omega⟩,jj _ _⟩
 case round=>
  clear HO;obtain⟨t,ht,rfl,rfl,⟨ys,h0,h2⟩,h3⟩:=hrel;by_cases g4:t<n
  ·obtain⟨k,HK⟩: ∃k:Int,Hid (k0+(t:Int)*10=k):=⟨_,rfl⟩;have hp0:0<k:=by have:=HK.out;omega
   have hp1:k<=70378744177664:=by have:=HK.out;omega
   have HX:Hid (∀j,j<10->(QH edL LL)[t*10+j]? =(edL (edMk k))[j]?):=fun j hj=>by
    rw[<-H1.out,Ob Y0y j hj,Qyc _ _ _ _ _ g4,<-HK.out];rfl
   rw[HK.out]
   obtain⟨g,rfl⟩: ∃g,A=some ⟨g,0,none⟩:=by
    obtain⟨A',cap',e,_,hc⟩:=Qr h0;cases e
    obtain⟨g,e,_⟩:=hc (t*10) (by omega);exact⟨g,e⟩
   have g3:Hid (MkR w wr B g n h4 (t*10) (QH edL LL)):=⟨ys,h0,h2,h3⟩;clear h0 h2 h3;have q0:(0:Int)<=(t:Int):=by omega
   have q1:(t:Int)<(n:Int):=by omega
   obtain⟨x0,d0,f0,g0⟩:=Y1a (m:=t*10) (v:= G I (k)) g3 (by omega) (HX.out 0 (by omega));clear g3;obtain⟨x1,d1,f1,H9⟩:=Y1a (m:=t*10+1) (v:= G I (k+1)) g0 (by omega) (HX.out 1 (by omega));clear g0;obtain⟨x2,d2,f2,H8⟩:=Y1a (m:=t*10+2) (v:= G I (k+1+1)) H9 (by omega) (HX.out 2 (by omega));clear H9;go_wp2_with fail
   refine(Qka _ _ (by omega) (by omega)).mono ?_;rintro e w2 ⟨rfl,hb⟩;have g2:=Y0z H8 hb;clear hb H8 d0 f0 d1 f1 d2 f2;obtain⟨x3,d3,f3,H0⟩:=Y1a (m:=t*10+3) (v:= U (mtx (k+1+1+1))) g2 (by omega) (HX.out 3 (by omega));clear g2;go_upto_region 12 with fail
   obtain⟨W4,H7⟩: ∃W,Hid (w2.setCell ⟨g,t*10+3,none⟩ (U (mtx (k+1+1+1)))=W):=⟨_,rfl⟩;rw[H7.out]at H0 ⊢;clear H7 d3 f3;obtain⟨x4,d4,f4,h9⟩:=Y1a (m:=t*10+4) (v:= G I (k+1+1+1+1)) H0 (by omega) (HX.out 4 (by omega));clear H0;go_upto_region 14 with fail
   obtain⟨W5,H6⟩: ∃W,Hid (W4.setCell ⟨g,t*10+4,none⟩ (G I (k+1+1+1+1))=W):=⟨_,rfl⟩;rw[H6.out]at h9 ⊢;clear H6 d4 f4;obtain⟨x5,d5,f5,h8⟩:=Y1a (m:=t*10+5) (v:= G I (k+1+1+1+1+1)) h9 (by omega) (HX.out 5 (by omega));clear h9;go_upto_region 16 with fail
   obtain⟨W6,H5⟩: ∃W,Hid (W5.setCell ⟨g,t*10+5,none⟩ (G I (k+1+1+1+1+1))=W):=⟨_,rfl⟩;rw[H5.out]at h8 ⊢;clear H5 d5 f5;obtain⟨x6,d6,f6,h7⟩:=Y1a (m:=t*10+6) (v:= G I (k+1+1+1+1+1+1)) h8 (by omega) (HX.out 6 (by omega));clear h8;go_upto_region 18 with fail
   obtain⟨W7,H4⟩: ∃W,Hid (W6.setCell ⟨g,t*10+6,none⟩ (G I (k+1+1+1+1+1+1))=W):=⟨_,rfl⟩;rw[H4.out]at h7 ⊢;clear H4 d6 f6;obtain⟨x7,d7,f7,h6⟩:=Y1a (m:=t*10+7) (v:= G I (k+1+1+1+1+1+1+1)) h7 (by omega) (HX.out 7 (by omega));clear h7;go_upto_region 20 with fail
   obtain⟨W8,H3⟩: ∃W,Hid (W7.setCell ⟨g,t*10+7,none⟩ (G I (k+1+1+1+1+1+1+1))=W):=⟨_,rfl⟩;rw[H3.out]at h6 ⊢;clear H3 d7 f7;obtain⟨x8,d8,f8,h5⟩:=Y1a (m:=t*10+8) (v:= G I (k+1+1+1+1+1+1+1+1)) h6 (by omega) (HX.out 8 (by omega));clear h6;go_upto_region 22 with fail
   obtain⟨W9,H2⟩: ∃W,Hid (W8.setCell ⟨g,t*10+8,none⟩ (G I (k+1+1+1+1+1+1+1+1))=W):=⟨_,rfl⟩;rw[H2.out]at h5 ⊢;clear H2 d8 f8;obtain⟨x9,d9,f9,g5⟩:=Y1a (m:=t*10+9) (v:= G I (k+1+1+1+1+1+1+1+1+1)) h5 (by omega) (HX.out 9 (by omega));clear h5;go_wp2_with fail
   all_goals
    go_roundw
    case rel=>
     obtain⟨z,o1,p1,g1⟩:=g5.out;exact⟨t+1,by omega,by simp,by have:=HK.out;congr 1;omega,⟨z,o1,fun j hj=>p1 j (by omega)⟩,g1⟩
    case measure=>simp[intOf];omega
  ·have h1: ¬(t:Int)<(n:Int):=by omega
   obtain rfl:t=n:=by omega
   go_wp2_with fail
   go_ret;exact⟨rfl,by rw[Qxs Y0y h0.1 (by rw[<-H1.out];exact Qxr _ _ _ _) h2]at h0;exact h0,h3⟩
theorem Y1c(h:QA (XH L) (XG L) (XT L) L.length=true)(hr:Qf p q=true)(hs:inF s=some t)(hl:(Xj ⟨p,q,t⟩ L).length<=120):QA (XH (Xj ⟨p,q,t⟩ L)) (XG (Xj ⟨p,q,t⟩ L)) (XT (Xj ⟨p,q,t⟩ L)) (Xj ⟨p,q,t⟩ L).length=true:=by
 obtain⟨_,r1,r2⟩:=Yj h;have hm:=Qog h;rw[Qfm]at r2 hm;rw[Qjk (Mb r2),decide_eq_true hl,Bool.true_and,List.all_eq_true];intro z hz;rcases setC_iffE.1 hz with⟨hz,_⟩ | ⟨rfl,hz9⟩
 ·obtain⟨a,b,c⟩:=hm z hz;unfold okC;rw[a,b,c];rfl
 ·have ho:Vn t=true:=by
   have h9:=(Y0j hs).1.1;unfold Vn;rw[h9];simp
  have h8:t.toList.isEmpty=false:=hz9;show(Qf p q&&(!t.toList.isEmpty&&Vn t))=true;rw[hr,h8,ho];rfl
theorem Y1d(hn:L.length=n)(h:enF (XH L) (XG L) (XT L) n p q s=some M):QA (XH M) (XG M) (XT M) M.length=true:=by
 subst hn;unfold enF at h;split at h
 ·rename_i hc
  cases hi:inF s with
  | none=>rw[hi]at h;cases h
  | some t=>
   rw[hi]at h;simp only[Qfm]at h;split at h
   ·cases h
   ·rename_i hl
    cases h
    exact Y1c hc.1 hc.2 hi (by omega)
 ·cases h
def OkL(L:List CL):Prop:=QA (XH L) (XG L) (XT L) L.length=true/\ ∀x∈L,x.s.size<=maxLen
theorem OkL.len(h:OkL L):L.length<=120:=(Yj h.1).1
theorem Y1e(h: ∀x∈L,x.s.size<=maxLen): ∀i,i<L.length->(XT L i).size<=maxLen:=fun i hi=>by
 rw[(VE hi).2.2];exact h _ (List.getElem_mem hi)
theorem Y1f(h:OkL L)(hm:edO k p q a b c d r m t (XH L) (XG L) (XT L) L.length=some M):QA (XH M) (XG M) (XT M) M.length=true:=by
 unfold edO at hm;split at hm
 ·exact Y1d rfl hm
 split at hm
 ·unfold Na at hm;split at hm
  case isFalse=>cases hm
  cases hm
  exact(Qmz h.1).ok
 split at hm
 ·unfold rwO at hm;split at hm
  case isFalse=>cases hm
  rename_i ho
  split at hm
  case isFalse=>cases hm
  rename_i hg
  cases hm
  unfold Yf at ho;simp only[Bool.and_eq_true,decide_eq_true_eq]at ho;rw[Qyh h.1 ho.2.1];exact hg
 split at hm
 ·unfold rwO at hm;split at hm
  case isFalse=>cases hm
  rename_i ho
  split at hm
  case isFalse=>cases hm
  rename_i hg
  cases hm
  unfold Yf at ho;simp only[Bool.and_eq_true,decide_eq_true_eq]at ho;rw[Qyh h.1 ho.2.1];exact hg
 split at hm
 ·unfold cpO at hm;split at hm
  case isFalse=>cases hm
  rename_i hci
  split at hm
  case isFalse=>cases hm
  rename_i hgd
  unfold cpI at hci;rw[Bool.and_eq_true]at hci;obtain⟨_,h2,_,_⟩:=Qu6 h.1 hci.1 hci.2 rfl (by rw[Qfm];exact h.2);cases hm
  rw[h2];exact hgd
 ·cases hm
def apL(x:EdI9)(L:List CL):Option (List CL):=edO x.k x.p x.q x.a x.b x.c x.d x.r x.m x.t (XH L) (XG L) (XT L) L.length
theorem Y1g{x:EdI9}(h:OkL L):apF x.k x.p x.q x.a x.b x.c x.d x.r x.m x.t (XH L) (XG L) (XT L) L.length=apL x L:=by unfold apF apO apL;rw[pS h.1]
theorem Y1h{x:EdI9}(h:OkL L)(hm:apL x L=some M):OkL M:=
 ⟨Y1f h hm,(Qvw (Y1e h.2) ((Y1g h).trans hm)).1⟩
def alL(D:Nat->EdI9)(E:List CL):Nat->Option (List CL)
 | 0=>some E
 | t+1=>match alL D E t with
  | none=>none
  | some L=>apL (D t) L
theorem Y1i{D:Nat->EdI9}{t:Nat}(h:alL D E t=some L):alL D E (t+1)=apL (D t) L:=by show(match alL D E t with | none=>none | some L=>apL (D t) L)=_;rw[h]
theorem Y1j{D:Nat->EdI9}{t:Nat}(h:alL D E t=none): ∀j,alL D E (t+j)=none
 | 0=>h
 | j+1=>by show(match alL D E (t+j)with | none=>none | some L=>apL (D (t+j)) L)=_;rw[Y1j h j]
theorem Y1k{D:Nat->EdI9}(h:OkL E): ∀t L,alL D E t=some L->OkL L
 | 0,L,hl=>by cases hl;exact h
 | t+1,L,hl=>by
  cases hm:alL D E t with
  | none=>rw[Y1j hm 1]at hl;cases hl
  | some M=>
   rw[Y1i hm]at hl;exact Y1h (Y1k h t M hm) hl
theorem Y1l(h:QA C R S n=true)(hs: ∀i,i<n->(S i).size<=maxLen):OkL (clE C R S n):=by
 have h1:=Qmz (a:=1) (b:=1) (c:=0) (d:=0) h
 have e:ZM 1 1 0 0 (clE C R S n)=clE C R S n:=by
  unfold ZM;rw[List.filter_eq_self];intro z _;simp only[inQ,Bool.not_eq_true',Bool.and_eq_false_imp,Bool.and_eq_true,decide_eq_true_eq,decide_eq_false_iff_not];omega
 rw[e]at h1;exact⟨h1.ok,fun x hx=>by obtain⟨i,hi,rfl⟩:=List.mem_map.1 hx;exact hs i (List.mem_range.1 hi)⟩
def alF(C R:Nat->Int)(S:Nat->ByteArray)(n:Nat)(D:Nat->EdI9)(m:Nat):Option (List CL):=if QA C R S n=true then(if m<=360 then alL D (clE C R S n) m else none)else none
section
variable {C R:Nat->Int} {S:Nat->ByteArray} {n:Nat} {D:Nat->EdI9} {m:Nat}
theorem Y1m(h:QA C R S n=false):alF C R S n D m=none:=by unfold alF;rw[nG (by rw[h];decide)]
theorem Y1n(h:360<m):alF C R S n D m=none:=by unfold alF;split;rw[nG (by omega)];rfl
theorem Y1o{t:Nat}(h:alL D (clE C R S n) t=none)(ht:t<=m):alF C R S n D m=none:=by
 unfold alF;split
 ·split
  ·obtain⟨j,rfl⟩:=Nat.exists_eq_add_of_le ht;exact Y1j h j
  ·rfl
 ·rfl
theorem Y1p(h:QA C R S n=true)(hm:m<=360)(hl:alL D (clE C R S n) m=some L):alF C R S n D m=some L:=by unfold alF;rw[pS h,pS hm,hl]
theorem Y1q(hs: ∀i,i<n->(S i).size<=maxLen)(h:alF C R S n D m=some L):OkL L:=by
 unfold alF at h;split at h
 case isFalse=>cases h
 rename_i h1
 split at h
 case isFalse=>cases h
 exact Y1k (Y1l h1 hs) m L h
theorem Y1r(hs: ∀i,i<n->(S i).size<=maxLen): ∀x∈(alF C R S n D m).getD [],x.s.size<=maxLen:=by
 cases h:alF C R S n D m with
 | none=>intro x hx;cases hx
 | some M=>exact(Y1q hs h).2
theorem Y1s(hs: ∀i,i<n->(S i).size<=maxLen):((alF C R S n D m).getD []).length<=120:=by
 cases h:alF C R S n D m with
 | none=>exact Nat.zero_le _
 | some M=>exact(Y1q hs h).len
end
theorem Y1t(W:T)(B:Nat)(e:ji)(s:Nat):W.ownsRow B e s (J none 0 0) 0 []:=⟨by simp,N ⟨rfl,rfl⟩⟩
theorem Y1u{m:Nat}{D:Nat->EdI9}(w:T)(h:ClRow w A n C R S)(h':EdRow w A' m D)(hg:GI w):
  Z prog 14 #[J A n cap,J A' m cap'] w fun e w'=>EnR w.heap.size w' (alF C R S n D m) e/\O w.heap.size w w':=by
 have HR:Hid (ClRow w A n C R S):=h;have HD:Hid (EdRow w A' m D):=h';have g6:Hid (∀i,i<n->(S i).size<=maxLen):=fun i hi=>by obtain⟨_,_,_,_,_,_,_,h9⟩:=h.2 i hi;exact h9
 have HG:Hid (GI w):=hg;obtain⟨i0,hi,g2,g1,g0⟩:=jm Qn3;have HI:Hid (_=_):=hi;clear h h' hi hg;obtain⟨ck,h5⟩: ∃ck,Hid (QA C R S n=ck):=⟨_,rfl⟩;go_enter func14,ntmps14;go_wp2_with fail
 refine(YZ _ HR.out HG.out).mono ?_;rintro e u1 ⟨rfl,hb⟩;have K1:Hid (O w.heap.size w u1):=hb;clear hb;rw[h5.out];cases ck
 ·have HV:Hid (alF C R S n D m=none):=Y1m h5.out;go_wp2_with fail
  refine V (v:= ja #[J none 0 0,jb false]) ?_ rfl ⟨?_,K1.out⟩
  ·simp (maxDischargeDepth:=9) [jc,results14,go_sem, *]
  ·rw[HV.out];exact rfl
 by_cases hm:360<m
 ·have HV:Hid (alF C R S n D m=none):=Y1n hm;have q1:(360:Int)<((m:Nat):Int):=by omega
  go_wp2_with fail
  refine V (v:= ja #[J none 0 0,jb false]) ?_ rfl ⟨?_,K1.out⟩
  ·simp (maxDischargeDepth:=9) [jc,results14,go_sem, *]
  ·rw[HV.out];exact rfl
 have q1: ¬(360:Int)<((m:Nat):Int):=by omega
 have hn:n<=120:=(Yj h5.out).1;have g7:Hid (OkL (clE C R S n)):=Y1l h5.out g6.out;have h6:=hd (HR.out.below K1.out);have H9:Hid (u1.ownsRow u1.heap.size 70 3 (J none 0 0) 0 []):=Y1t _ _ _ _
 go_wp2_with (first
  | (at_builtin;refine Y0c 24 70 i0 (je #[G I 0,G I 0,U ⟨#[]⟩]) 3 32 underlying24 HI.out g2 g1 g0 rfl (by decide) rfl _ _ rfl u1.heap.size (Nat.le_refl _) _ rfl H9.out A n cap (clX C R S n) rfl (Qr7 C R S n) (Y0e h6.out) (Y0d h6.out) (Y0f C R S n) h6.out.1 (by omega) ?_)
  | fail)
 intro A2 c2 u2 ho hg;have H7:Hid (u2.ownsRow w.heap.size 70 3 (J A2 n c2) n (QH CL.cs (clE C R S n))):=by show jp _ _ _ _ _ _ _;rw[<-Qda];exact Go.Proofs.ownsRow_base_a ho K1.out.size
 have K2:=hd (K1.out.grown hg K1.out.size (fun j hj=>by cases hj));clear ho hg H9 h6 HI;go_wp2_with fail
 go_loopw [6,23] (fun v i wr=> ∃(t:Nat) (L:List CL) (F:Option Addr) (k c:Nat),t<=m/\v= J F k c/\i= G I t/\alL D (clE C R S n) t=some L/\L.length=k/\wr.ownsRow w.heap.size 70 3 (J F k c) k (QH CL.cs L)/\O w.heap.size w wr) (fun _ i _=>m-(intOf i).toNat)
 case atStart=>exact⟨0,_,A2,n,c2,Nat.zero_le _,rfl,rfl,rfl,Yy _ _ _ _,H7.out,K2.out⟩
 case round=>
  clear H7 K2;obtain⟨t,L,F,k,c,ht,rfl,rfl,h0,H3,h1,h2⟩:=hrel;have h3:Hid (alL D (clE C R S n) t=some L):=h0;have H6:Hid (OkL L):=Y1k g7.out t L h0;have h8:Hid (L.length=k):=H3;have h7:Hid (wr.ownsRow w.heap.size 70 3 (J F k c) k (QH CL.cs L)):=h1;have KA:Hid (O w.heap.size w wr):=h2
  clear h0 H3 h1 h2;by_cases g4:t<m
  ·obtain⟨b,o,rfl,hl,c0,c1,c2,c3,c4,c5,c6,c7,c8,c9,hs⟩:=HD.out.2 t g4;rw[<-KA.out.cell (p:=⟨_,_,none⟩) hl]at c0 c1 c2 c3 c4 c5 c6 c7 c8 c9;have HT:Hid ((D t).t.size<=maxLen):=hs;have H5:Hid (ClRow wr F k (XH L) (XG L) (XT L)):=YG h7.out h8.out H6.out.2;have q0:(0:Int)<=(t:Int):=by omega
   have q2:(t:Int)<(m:Int):=by omega
   have g5:b<wr.heap.size:=Nat.lt_of_lt_of_le hl KA.out.size;clear hl hs;go_upto_region 7 with fail
   obtain⟨X,HX⟩: ∃X,Hid (wr.alloc (jq #[G I (D t).k,G I (D t).p,G I (D t).q,U (D t).t,G I (D t).a,G I (D t).b,G I (D t).c,G I (D t).d,G I (D t).r,G I (D t).m] 30)=X):=⟨_,rfl⟩;rw[HX.out]
   have HE:Hid (edG X wr.heap.size (D t).k (D t).p (D t).q (D t).t (D t).a (D t).b (D t).c (D t).d (D t).r (D t).m):=by
    rw[<-HX.out];exact Qhb _ _ _ _ _ _ _ _ _ _ _
   have KX0:Hid (O wr.heap.size wr X):=by rw[<-HX.out];show O _ _ _;go_grown
   have KX:=hd (Qb KA.out KX0.out);have g9:=hd (Qd h7.out KX0.out);have H4:=hd (H5.out.below KX0.out);clear HX c0 c1 c2 c3 c4 c5 c6 c7 c8 c9 g5 h7 H5;obtain⟨lz,y0,y1,y2,y3,y4,y5,y6,y7,y8,y9⟩:=HE.out;go_wp2_with fail
   refine(Qst (k:=(D t).k) (p:=(D t).p) (q:=(D t).q) (a:=(D t).a) (b:=(D t).b) (c:=(D t).c) (d:=(D t).d) (r:=(D t).r) (m:=(D t).m) (t:=(D t).t) _).mono ?_;rintro e w3 ⟨rfl,hb⟩;clear lz y0 y1 y2 y3 y4 y5 y6 y7 y8 y9 HE;have K3:=hd (Qb KX.out hb);have g8:=hd (H4.out.below hb);clear hb g9 H4 KX KX0;obtain⟨ev,H8⟩: ∃ev,Hid (edV (D t).k (D t).p (D t).q (D t).a (D t).b (D t).c (D t).d (D t).r (D t).m (D t).t=ev):=⟨_,rfl⟩
   rw[H8.out];go_wp2_with fail
   rw[<-H8.out];refine(Qsc (k:=(D t).k) (p:=(D t).p) (q:=(D t).q) (a:=(D t).a) (b:=(D t).b) (c:=(D t).c) (d:=(D t).d) (r:=(D t).r) (m:=(D t).m) (t:=(D t).t) _ g8.out (by rw[<-h8.out];exact H6.out.1) HT.out (HG.out.below K3.out)).mono ?_;rintro e w4 ⟨he,hb⟩;rw[<-h8.out]at he;replace he:EnR w3.heap.size w4 (apL (D t) L) e:=he;have K4:=hd (Qb K3.out hb);clear hb
   have h4:=Y1i h3.out;obtain⟨H0,H1⟩: ∃H0,Hid (apL (D t) L=H0):=⟨_,rfl⟩;rw[H1.out]at he h4;cases H0 with
   | none=>
    obtain rfl:e= Y (ja #[J none 0 0,jb false]):=he;have HV:Hid (alF C R S n D m=none):=Y1o h4 (by omega);clear h4;go_wp2_with fail
    refine V (v:= ja #[J none 0 0,jb false]) ?_ rfl ⟨?_,K4.out⟩
    ·simp (maxDischargeDepth:=9) [jc,results14,go_sem, *]
    ·rw[HV.out];exact rfl
   | some M=>
    obtain⟨A3,c3,mm,rfl,g3,ho⟩:=he;have G0:Hid (w4.ownsRow w.heap.size 70 3 (J A3 mm c3) mm (QH CL.cs M)):=Go.Proofs.ownsRow_base_a ho K3.out.size;have H2:Hid (alL D (clE C R S n) (t+1)=some M):=h4;clear ho h4;go_wp2_with fail
    go_roundw
    case rel=>exact⟨t+1,M,A3,mm,c3,by omega,rfl,by go_num,H2.out,g3,G0.out,K4.out⟩
    case measure=>simp[intOf];omega
  ·have q2: ¬(t:Int)<(m:Int):=by omega
   obtain rfl:t=m:=by omega
   have HV:Hid (alF C R S n D t=some L):=Y1p h5.out (by omega) h3.out;go_wp2_with fail
   refine V (v:= ja #[J F k c,jb true]) ?_ rfl ⟨?_,KA.out⟩
   ·simp (maxDischargeDepth:=9) [jc,results14,go_sem, *]
   ·rw[HV.out];exact⟨F,c,k,rfl,h8.out,h7.out⟩
theorem Y1v{m:Nat}{D:Nat->EdI9}(w:T)(h:ClRow w A n C R S)(h':EdRow w A' m D):
  Z prog 17 #[J A n cap,J A' m cap'] w fun e w'=>EnR w.heap.size w' (alF C R S n D m) e/\O w.heap.size w w':=by
 have HR:Hid (ClRow w A n C R S):=h;have HD:Hid (EdRow w A' m D):=h';have g4:Hid (∀i,i<n->(S i).size<=maxLen):=fun i hi=>by obtain⟨_,_,_,_,_,_,_,h9⟩:=h.2 i hi;exact h9
 obtain⟨i0,hi,g1,g0,H9⟩:=jm Qn3;have HI:Hid (_=_):=hi;clear h h' hi;obtain⟨ck,h5⟩: ∃ck,Hid (QA C R S n=ck):=⟨_,rfl⟩;go_enter func17,ntmps17;go_wp2_with fail
 refine(Ve _ HR.out).mono ?_;rintro e u1 ⟨rfl,hb⟩;have K1:Hid (O w.heap.size w u1):=hb;clear hb;rw[h5.out];cases ck
 ·have HV:Hid (alF C R S n D m=none):=Y1m h5.out;go_wp2_with fail
  refine V (v:= ja #[J none 0 0,jb false]) ?_ rfl ⟨?_,K1.out⟩
  ·simp (maxDischargeDepth:=9) [jc,results17,go_sem, *]
  ·rw[HV.out];exact rfl
 by_cases hm:360<m
 ·have HV:Hid (alF C R S n D m=none):=Y1n hm;have q1:(360:Int)<((m:Nat):Int):=by omega
  go_wp2_with fail
  refine V (v:= ja #[J none 0 0,jb false]) ?_ rfl ⟨?_,K1.out⟩
  ·simp (maxDischargeDepth:=9) [jc,results17,go_sem, *]
  ·rw[HV.out];exact rfl
 have q1: ¬(360:Int)<((m:Nat):Int):=by omega
 have hn:n<=120:=(Yj h5.out).1;have g5:Hid (OkL (clE C R S n)):=Y1l h5.out g4.out;have H6:=hd (HR.out.below K1.out);have H3:Hid ((u1.alloc (jq #[] 70)).ownsRow u1.heap.size 70 3 (J (some ⟨u1.heap.size,0,none⟩) 0 0) 0 []):=Zt (Nat.le_refl _) rfl;have h6:Hid (ClRow (u1.alloc (jq #[] 70)) A n C R S):=by exact H6.out.below ((jg _ _).alloc (Nat.le_refl _) _)
 go_wp2_with (first
  | (at_builtin;refine Y0c 24 70 i0 (je #[G I 0,G I 0,U ⟨#[]⟩]) 3 32 underlying24 HI.out g1 g0 H9 rfl (by decide) rfl _ _ rfl u1.heap.size (by simp) _ rfl H3.out A n cap (clX C R S n) rfl (Qr7 C R S n) (Y0e h6.out) (Y0d h6.out) (Y0f C R S n) h6.out.1 (by omega) ?_)
  | fail)
 intro A2 c2 u2 ho hg;have H8:Hid (u2.ownsRow w.heap.size 70 3 (J A2 n c2) n (QH CL.cs (clE C R S n))):=by show jp _ _ _ _ _ _ _;rw[<-Qda];exact Go.Proofs.ownsRow_base_a ho K1.out.size
 have K2:Hid (O w.heap.size w u2):=K1.out.trans ((((jg _ _).alloc (Nat.le_refl _) _).grown hg (by simp) (fun j hj=>(H3.out.lt j hj).1)).mono K1.out.size);clear ho hg H3 h6 H6 HI;go_wp2_with fail
 go_loopw [6,7] (fun v i wr=> ∃(t:Nat) (L:List CL) (F:Option Addr) (k c:Nat),t<=m/\v= J F k c/\i= G I t/\alL D (clE C R S n) t=some L/\L.length=k/\wr.ownsRow w.heap.size 70 3 (J F k c) k (QH CL.cs L)/\O w.heap.size w wr) (fun _ i _=>m-(intOf i).toNat)
 case atStart=>exact⟨0,_,A2,n,c2,Nat.zero_le _,rfl,rfl,rfl,Yy _ _ _ _,H8.out,K2.out⟩
 case round=>
  clear H8 K2;obtain⟨t,L,F,k,c,ht,rfl,rfl,h0,H4,h1,h2⟩:=hrel;have h3:Hid (alL D (clE C R S n) t=some L):=h0;have H7:Hid (OkL L):=Y1k g5.out t L h0;have H2:Hid (L.length=k):=H4;have H0:Hid (wr.ownsRow w.heap.size 70 3 (J F k c) k (QH CL.cs L)):=h1;have KA:Hid (O w.heap.size w wr):=h2
  clear h0 H4 h1 h2;by_cases g3:t<m
  ·obtain⟨b,o,rfl,hl,c0,c1,c2,c3,c4,c5,c6,c7,c8,c9,hs⟩:=HD.out.2 t g3;rw[<-KA.out.cell (p:=⟨_,_,none⟩) hl]at c0 c1 c2 c3 c4 c5 c6 c7 c8 c9;have HT:Hid ((D t).t.size<=maxLen):=hs;have H5:Hid (ClRow wr F k (XH L) (XG L) (XT L)):=YG H0.out H2.out H7.out.2;have q0:(0:Int)<=(t:Int):=by omega
   have q2:(t:Int)<(m:Int):=by omega
   have hl2:b<wr.heap.size:=Nat.lt_of_lt_of_le hl KA.out.size;clear hl hs;go_wp2_with fail
   refine(Qpn (k:=(D t).k) (p:=(D t).p) (q:=(D t).q) (a:=(D t).a) (b:=(D t).b) (c:=(D t).c) (d:=(D t).d) (r:=(D t).r) (m:=(D t).m) (t:=(D t).t) _ H5.out HT.out).mono ?_;rintro e w4 ⟨he,hb⟩;have K3:Hid (O w.heap.size w wr):=KA.out;rw[<-H2.out,Y1g H7.out]at he;have K4:=hd (Qb K3.out hb);clear hb c0 c1 c2 c3 c4 c5 c6 c7 c8 c9 H0 H5;have h4:=Y1i h3.out
   obtain⟨h7,h8⟩: ∃h7,Hid (apL (D t) L=h7):=⟨_,rfl⟩;rw[h8.out]at he h4;cases h7 with
   | none=>
    obtain rfl:e= Y (ja #[J none 0 0,jb false]):=he;have HV:Hid (alF C R S n D m=none):=Y1o h4 (by omega);clear h4;go_wp2_with fail
    refine V (v:= ja #[J none 0 0,jb false]) ?_ rfl ⟨?_,K4.out⟩
    ·simp (maxDischargeDepth:=9) [jc,results17,go_sem, *]
    ·rw[HV.out];exact rfl
   | some M=>
    obtain⟨A3,c3,mm,rfl,g2,ho⟩:=he;have g6:Hid (w4.ownsRow w.heap.size 70 3 (J A3 mm c3) mm (QH CL.cs M)):=Go.Proofs.ownsRow_base_a ho K3.out.size;have H1:Hid (alL D (clE C R S n) (t+1)=some M):=h4;clear ho h4;go_wp2_with fail
    go_roundw
    case rel=>exact⟨t+1,M,A3,mm,c3,by omega,rfl,by go_num,H1.out,g2,g6.out,K4.out⟩
    case measure=>simp[intOf];omega
  ·have q2: ¬(t:Int)<(m:Int):=by omega
   obtain rfl:t=m:=by omega
   have HV:Hid (alF C R S n D t=some L):=Y1p h5.out (by omega) h3.out;go_wp2_with fail
   refine V (v:= ja #[J F k c,jb true]) ?_ rfl ⟨?_,KA.out⟩
   ·simp (maxDischargeDepth:=9) [jc,results17,go_sem, *]
   ·rw[HV.out];exact⟨F,c,k,rfl,H2.out,H0.out⟩
theorem law_FnExactAllApplied{m:Nat}{D:Nat->EdI9}(w:T)(h:ClRow w A n C R S)(h':EdRow w A' m D)(hg:GI w):Z prog 7 #[J A n cap,J A' m cap'] w fun e w'=>
  e= Y (jb true)/\O w.heap.size w w':=by
 have HR:Hid (ClRow w A n C R S):=h;have HD:Hid (EdRow w A' m D):=h';have HG:Hid (GI w):=hg;have h5:Hid (∀i,i<n->(S i).size<=maxLen):=fun i hi=>by obtain⟨_,_,_,_,_,_,_,h9⟩:=h.2 i hi;exact h9
 have H0:Hid (∀i,i<m->(D i).t.size<=maxLen):=fun i hi=>by obtain⟨_,_,_,_,_,_,_,_,_,_,_,_,_,_,h9⟩:=h'.2 i hi;exact h9
 obtain⟨L,HL⟩: ∃L,Hid ((alF C R S n D m).getD []=L):=⟨_,rfl⟩;have g0:Hid (∀x∈L,x.s.size<=maxLen):=by rw[<-HL.out];exact Y1r h5.out
 obtain⟨ob,H9⟩: ∃ob:Bool,Hid ((alF C R S n D m).isSome=ob):=⟨_,rfl⟩;obtain⟨mn,h6⟩: ∃mn,Hid (L.length=mn):=⟨_,rfl⟩;obtain⟨xx,h0⟩: ∃xx,Hid (QH CL.cs L=xx):=⟨_,rfl⟩;have H2:mn<=1048576:=by rw[<-h6.out,<-HL.out];have:=Y1s (C:=C) (R:=R) (S:=S) (n:=n) (D:=D) (m:=m) h5.out;omega
 have eb:(ob !=ob)=false:=by simp
 clear h h' hg;go_enter func7,ntmps7;have KX:Hid (O w.heap.size w w):=jg _ _;go_wp2_with fail
 refine(Qkx 1048576 _ HR.out (by omega) (by omega)).mono ?_;rintro e u1 ⟨z,rfl,hz1,hz,hb⟩;replace KX:=hd (Qb KX.out hb);clear hb;by_cases hneg:z<0
 ·go_wp2_with fail
  go_ret;exact⟨rfl,KX.out⟩
 have hn:n<=1048576:=hz (by omega);clear hz;go_wp2_with fail
 refine(Y0v z _ (HD.out.below KX.out) (by omega) hz1).mono ?_;rintro e u2 ⟨y,rfl,hy1,hy,hb⟩;replace KX:=hd (Qb KX.out hb);clear hb;by_cases hneg2:y<0
 ·go_wp2_with fail
  go_ret;exact⟨rfl,KX.out⟩
 have hm:m<=1048576:=hy (by omega);clear hy;go_wp2_with fail
 refine(Jy _ (HR.out.below KX.out) hn).mono ?_;rintro e u3 ⟨v,rfl,ho,hb⟩;obtain⟨Au3,g5,rfl,_,_⟩:=Qr ho;have OS:Hid (u3.ownsRow u2.heap.size 70 3 (J Au3 n g5) n (clX C R S n)):=ho;have Su3:Hid (u2.heap.size<=u3.heap.size):=hb.size;clear ho;replace KX:=hd (Qb KX.out hb)
 clear hb;go_wp2_with fail
 refine(Y0x _ (HD.out.below KX.out) hm).mono ?_;rintro e u4 ⟨v,rfl,ho,hb⟩;obtain⟨Au4,g4,rfl,_,_⟩:=Qr ho;have OC:Hid (u4.ownsRow u3.heap.size 30 10 (J Au4 m g4) m (edX D m)):=ho;have Su4:Hid (u3.heap.size<=u4.heap.size):=hb.size;clear ho;replace KX:=hd (Qb KX.out hb)
 replace OS:=hd (Qd OS.out hb);clear hb;go_wp2_with fail
 refine(Y1v _ (Qjj OS.out h5.out) (Y0o OC.out H0.out)).mono ?_;rintro e u5 ⟨her,hb⟩;obtain⟨Au5,h8,rfl,ho⟩:=Qv4 HL.out h6.out h0.out H9.out her;have OW:Hid (u5.ownsRow u4.heap.size 70 3 (J Au5 mn h8) mn xx):=ho;have Su5:Hid (u4.heap.size<=u5.heap.size):=hb.size;have BW:Hid (∀k,(Value.slice Au5 mn h8).ownBlock=some k->k<u5.heap.size):=fun k hk=>(OW.out.lt k hk).2;clear ho her
 replace KX:=hd (Qb KX.out hb);replace OS:=hd (Qd OS.out hb);replace OC:=hd (Qd OC.out hb);clear hb;clear OS OC;go_wp2_with fail
 refine(Jy _ (HR.out.below KX.out) hn).mono ?_;rintro e u6 ⟨v,rfl,ho,hb⟩;obtain⟨Au6,g1,rfl,_,_⟩:=Qr ho;have OX:Hid (u6.ownsRow u5.heap.size 70 3 (J Au6 n g1) n (clX C R S n)):=ho;have Su6:Hid (u5.heap.size<=u6.heap.size):=hb.size;have BX:Hid (∀k,(Value.slice Au6 n g1).ownBlock=some k->u5.heap.size<=k/\k<u6.heap.size):=fun k hk=>OX.out.lt k hk;have W5:Hid (w.heap.size<=u5.heap.size):=KX.out.size
 clear ho;replace KX:=hd (Qb KX.out hb);replace OW:=hd (Qd OW.out hb);clear hb;go_wp2_with fail
 refine(Y0x _ (HD.out.below KX.out) hm).mono ?_;rintro e u7 ⟨v,rfl,ho,hb⟩;obtain⟨Au7,H3,rfl,_,_⟩:=Qr ho;have OZ:Hid (u7.ownsRow u6.heap.size 30 10 (J Au7 m H3) m (edX D m)):=ho;have Su7:Hid (u6.heap.size<=u7.heap.size):=hb.size;have BZ:Hid (∀k,(Value.slice Au7 m H3).ownBlock=some k->u6.heap.size<=k/\k<u7.heap.size):=fun k hk=>OZ.out.lt k hk;clear ho
 replace KX:=hd (Qb KX.out hb);replace OW:=hd (Qd OW.out hb);replace OX:=hd (Qd OX.out hb);clear hb;go_wp2_with fail
 refine(Y1u _ (Qjj OX.out h5.out) (Y0o OZ.out H0.out) (HG.out.below KX.out)).mono ?_;rintro e u8 ⟨her,hb⟩;obtain⟨Au8,h7,rfl,ho⟩:=Qv4 HL.out h6.out h0.out H9.out her;have OG:Hid (u8.ownsRow u7.heap.size 70 3 (J Au8 mn h7) mn xx):=ho;have Su8:Hid (u7.heap.size<=u8.heap.size):=hb.size;have BG:Hid (∀k,(Value.slice Au8 mn h7).ownBlock=some k->u7.heap.size<=k):=fun k hk=>(OG.out.lt k hk).1;clear ho her
 replace KX:=hd (Qb KX.out hb);replace OW:=hd (Qd OW.out hb);replace OX:=hd (Qd OX.out hb);replace OZ:=hd (Qd OZ.out hb);clear hb;go_wp2_with fail
 refine(Qsk h6.out g0.out (by rw[h0.out];exact OG.out) (by rw[h0.out];exact OW.out)).mono ?_;rintro e u9 ⟨rfl,hb⟩;replace KX:=hd (Qb KX.out hb);replace OW:=hd (Qd OW.out hb);replace OX:=hd (Qd OX.out hb);replace OZ:=hd (Qd OZ.out hb);replace OG:=hd (Qd OG.out hb)
 clear hb;go_wp2_with fail
 refine(Jy _ (HR.out.below KX.out) hn).mono ?_;rintro e u10 ⟨v,rfl,ho,hb⟩;obtain⟨Au10,H8,rfl,_,_⟩:=Qr ho;have OY:Hid (u10.ownsRow u9.heap.size 70 3 (J Au10 n H8) n (clX C R S n)):=ho;have Su10:Hid (u9.heap.size<=u10.heap.size):=hb.size;clear ho;replace KX:=hd (Qb KX.out hb)
 replace OW:=hd (Qd OW.out hb);replace OX:=hd (Qd OX.out hb);replace OZ:=hd (Qd OZ.out hb);replace OG:=hd (Qd OG.out hb);clear hb;go_wp2_with fail
 refine(Ey _ (Qjj OX.out h5.out) (Qjj OY.out h5.out)).mono ?_;rintro e u11 ⟨rfl,hb⟩;replace KX:=hd (Qb KX.out hb);replace OW:=hd (Qd OW.out hb);replace OX:=hd (Qd OX.out hb);replace OZ:=hd (Qd OZ.out hb);replace OG:=hd (Qd OG.out hb)
 replace OY:=hd (Qd OY.out hb);clear hb;clear OY;go_wp2_with fail
 refine(Y0x _ (HD.out.below KX.out) hm).mono ?_;rintro e u12 ⟨v,rfl,ho,hb⟩;obtain⟨Au12,H7,rfl,_,_⟩:=Qr ho;have OY:Hid (u12.ownsRow u11.heap.size 30 10 (J Au12 m H7) m (edX D m)):=ho;have Su12:Hid (u11.heap.size<=u12.heap.size):=hb.size;clear ho;replace KX:=hd (Qb KX.out hb)
 replace OW:=hd (Qd OW.out hb);replace OX:=hd (Qd OX.out hb);replace OZ:=hd (Qd OZ.out hb);replace OG:=hd (Qd OG.out hb);clear hb;go_wp2_with fail
 refine(Y0w _ (Y0o OZ.out H0.out) (Y0o OY.out H0.out)).mono ?_;rintro e u13 ⟨rfl,hb⟩;replace KX:=hd (Qb KX.out hb);replace OW:=hd (Qd OW.out hb);replace OX:=hd (Qd OX.out hb);replace OZ:=hd (Qd OZ.out hb);replace OG:=hd (Qd OG.out hb)
 replace OY:=hd (Qd OY.out hb);clear hb;clear OY;go_wp2_with fail
 refine(Ei 1 _ OX.out hn (by omega) (by omega)).mono ?_;rintro e u14 ⟨rfl,hog,hgr⟩;replace KX:Hid (O w.heap.size w u14):=KX.out.grown hgr KX.out.size (fun k hk=>by have h1:=(OX.out.lt k hk).1;have h2:=W5.out;have h3:=Su6.out;have h4:=Su7.out;omega);replace OW:Hid (u14.ownsRow u4.heap.size 70 3 (J Au5 mn h8) mn (xx)):=Qye OX.out hgr OW.out (fun k hk e=>by have h1:=BW.out k hk;have h2:=(BX.out k e).1;have h3:=Su6.out;have h4:=Su7.out;omega);replace OZ:Hid (u14.ownsRow u6.heap.size 30 10 (J Au7 m H3) m (edX D m)):=Qye OX.out hgr OZ.out (fun k hk e=>by have h1:=(BZ.out k hk).1;have h2:=(BX.out k e).2;have h3:=Su6.out;have h4:=Su7.out;omega);replace OG:Hid (u14.ownsRow u7.heap.size 70 3 (J Au8 mn h7) mn (xx)):=Qye OX.out hgr OG.out (fun k hk e=>by have h1:=BG.out k hk;have h2:=(BX.out k e).2;have h3:=Su6.out;have h4:=Su7.out;omega);clear hog hgr
 obtain⟨mx,g3⟩: ∃mx:Int,Hid ((1+(n:Int)*3)=mx):=⟨_,rfl⟩;have hmx:0<mx/\mx<=70368744177664:=by have:=g3.out;omega
 rw[g3.out];clear OX;go_wp2_with fail
 refine(Y1b mx _ OZ.out hm (by omega) (by omega)).mono ?_;rintro e u15 ⟨rfl,hog,hgr⟩;replace KX:Hid (O w.heap.size w u15):=KX.out.grown hgr KX.out.size (fun k hk=>by have h1:=(OZ.out.lt k hk).1;have h2:=W5.out;have h3:=Su6.out;have h4:=Su7.out;omega);replace OW:Hid (u15.ownsRow u4.heap.size 70 3 (J Au5 mn h8) mn (xx)):=Qye OZ.out hgr OW.out (fun k hk e=>by have h1:=BW.out k hk;have h2:=(BZ.out k e).1;have h3:=Su6.out;have h4:=Su7.out;omega);replace OG:Hid (u15.ownsRow u7.heap.size 70 3 (J Au8 mn h7) mn (xx)):=Qye OZ.out hgr OG.out (fun k hk e=>by have h1:=BG.out k hk;have h2:=(BZ.out k e).2;have h3:=Su6.out;have h4:=Su7.out;omega);clear hog hgr;obtain⟨my,g2⟩: ∃my:Int,Hid ((mx+(m:Int)*10)=my):=⟨_,rfl⟩
 have hmy: ¬my<0:=by have:=g2.out;omega
 rw[g2.out];clear OZ;go_wp2_with fail
 refine(Qsk h6.out g0.out (by rw[h0.out];exact OG.out) (by rw[h0.out];exact OW.out)).mono ?_;rintro e u16 ⟨rfl,hb⟩;replace KX:=hd (Qb KX.out hb);replace OW:=hd (Qd OW.out hb);replace OG:=hd (Qd OG.out hb);clear hb;go_wp2_with fail
 refine(Ei 1 _ OG.out H2 (by omega) (by omega)).mono ?_;rintro e u17 ⟨rfl,hog,hgr⟩;replace KX:Hid (O w.heap.size w u17):=KX.out.grown hgr KX.out.size (fun k hk=>by have h1:=(OG.out.lt k hk).1;have h2:=W5.out;have h3:=Su6.out;have h4:=Su7.out;omega);replace OW:Hid (u17.ownsRow u4.heap.size 70 3 (J Au5 mn h8) mn (xx)):=Qye OG.out hgr OW.out (fun k hk e=>by have h1:=BW.out k hk;have h2:=BG.out k e;have h3:=Su6.out;have h4:=Su7.out;omega);replace OG:Hid (u17.ownsRow u7.heap.size 70 3 (J Au8 mn h7) mn (QH ceL (mkL Qx1 3 1 mn))):=hog;clear hog hgr;obtain⟨mv,H1⟩: ∃mv:Int,Hid ((1+(mn:Int)*3)=mv):=⟨_,rfl⟩
 have hmv0: ¬mv<0:=by have:=H1.out;omega
 have hmv1:(mv !=mv)=false:=by simp
 rw[H1.out];go_wp2_with fail
 refine(EF 1 _ (RowAt.of_own Qjd OG.out (Qxr _ _ _ _)) H2 (by omega) (by omega)).mono ?_;rintro e u18 ⟨rfl,hb⟩;replace KX:=hd (Qb KX.out hb);replace OW:=hd (Qd OW.out hb);replace OG:=hd (Qd OG.out hb);clear hb;rw[H1.out]
 go_wp2_with fail
 refine(Jy _ (HR.out.below KX.out) hn).mono ?_;rintro e u19 ⟨v,rfl,ho,hb⟩;obtain⟨Au19,H6,rfl,_,_⟩:=Qr ho;have OS:Hid (u19.ownsRow u18.heap.size 70 3 (J Au19 n H6) n (clX C R S n)):=ho;have Su19:Hid (u18.heap.size<=u19.heap.size):=hb.size;clear ho;replace KX:=hd (Qb KX.out hb)
 replace OW:=hd (Qd OW.out hb);replace OG:=hd (Qd OG.out hb);clear hb;go_wp2_with fail
 refine(Y0x _ (HD.out.below KX.out) hm).mono ?_;rintro e u20 ⟨v,rfl,ho,hb⟩;obtain⟨Au20,H5,rfl,_,_⟩:=Qr ho;have OC:Hid (u20.ownsRow u19.heap.size 30 10 (J Au20 m H5) m (edX D m)):=ho;have Su20:Hid (u19.heap.size<=u20.heap.size):=hb.size;clear ho;replace KX:=hd (Qb KX.out hb)
 replace OW:=hd (Qd OW.out hb);replace OG:=hd (Qd OG.out hb);replace OS:=hd (Qd OS.out hb);clear hb;go_wp2_with fail
 refine(Y1u _ (Qjj OS.out h5.out) (Y0o OC.out H0.out) (HG.out.below KX.out)).mono ?_;rintro e u21 ⟨her,hb⟩;obtain⟨Au21,H4,rfl,ho⟩:=Qv4 HL.out h6.out h0.out H9.out her;have OH:Hid (u21.ownsRow u20.heap.size 70 3 (J Au21 mn H4) mn xx):=ho;have Su21:Hid (u20.heap.size<=u21.heap.size):=hb.size;clear ho her;replace KX:=hd (Qb KX.out hb)
 replace OW:=hd (Qd OW.out hb);replace OG:=hd (Qd OG.out hb);replace OS:=hd (Qd OS.out hb);replace OC:=hd (Qd OC.out hb);clear hb;clear OS OC;go_wp2_with fail
 refine(Qsk h6.out g0.out (by rw[h0.out];exact OH.out) (by rw[h0.out];exact OW.out)).mono ?_;rintro e u22 ⟨rfl,hb⟩;replace KX:=hd (Qb KX.out hb);replace OW:=hd (Qd OW.out hb);replace OG:=hd (Qd OG.out hb);replace OH:=hd (Qd OH.out hb);clear hb
 go_wp2_with fail
 refine(EF 1 _ (RowAt.of_own Qjd OG.out (Qxr _ _ _ _)) H2 (by omega) (by omega)).mono ?_;rintro e u23 ⟨rfl,hb⟩;replace KX:=hd (Qb KX.out hb);replace OW:=hd (Qd OW.out hb);replace OG:=hd (Qd OG.out hb);replace OH:=hd (Qd OH.out hb);clear hb
 rw[H1.out];go_wp2_with fail
 go_ret;exact⟨rfl,KX.out⟩
end Go.Proofs.YtomadadmakdkgaaGreatDoor
namespace Go.Proofs.YtomadadmakdkgaaGreatDoor
open Go.ChangeShapes Go.WideShapes Go.ChangeAt Go.RowKit Go.Joins
theorem Qvy{H:Type}{enc:ji × Value->H}{P:Program}{w:T}{base:Nat}{spare:Nat->Bool}{held:Bool}{t:ji}{f0 f1 f2 f3 f4 f5:Field}{fuel:Nat}{cs:List Value}{x:DataW H × List MemPlace}(ht:P.underlying t=some (.struct #[f0,f1,f2,f3,f4,f5]))(h:DataW.trod enc P w base spare held fuel t cs=some x):
  ∃y0 y1 y2 y3 y4 y5 n,DataW.trod enc P w base spare held n f0.type ((cs.drop f0.offset).take (P.cellsOf f0.type))=some y0/\DataW.trod enc P w base spare held n f1.type ((cs.drop f1.offset).take (P.cellsOf f1.type))=some y1/\DataW.trod enc P w base spare held n f2.type ((cs.drop f2.offset).take (P.cellsOf f2.type))=some y2/\DataW.trod enc P w base spare held n f3.type ((cs.drop f3.offset).take (P.cellsOf f3.type))=some y3/\DataW.trod enc P w base spare held n f4.type ((cs.drop f4.offset).take (P.cellsOf f4.type))=some y4/\DataW.trod enc P w base spare held n f5.type ((cs.drop f5.offset).take (P.cellsOf f5.type))=some y5:=by
 obtain⟨xs,n,_,rfl,hl,h0,hf⟩:=DataW.trod_struct ht h;match xs,h0 with
 | [y0,y1,y2,y3,y4,y5],_=>exact⟨y0,y1,y2,y3,y4,y5,n,by simpa using hf 0 f0 rfl,by simpa using hf 1 f1 rfl,by simpa using hf 2 f2 rfl,by simpa using hf 3 f3 rfl,by simpa using hf 4 f4 rfl,by simpa using hf 5 f5 rfl⟩
theorem Qyg:prog.cellsOf 48=10:=by kernel_rfl
theorem Qxz{H:Type}{enc:ji × Value->H}{W:T}{base:Nat}{spare:Nat->Bool}{held:Bool}{fuel:Nat}{c0 c1 c2 c3 c4 c5 c6 c7 c8 c9:Value}{x:DataW H × List MemPlace}(hf:DataW.trod enc prog W base spare held fuel 48 [c0,c1,c2,c3,c4,c5,c6,c7,c8,c9]=some x):
  ∃k p q t a b c d r m,c0= G I k/\c1= G I p/\c2= G I q/\c3= U t/\c4= G I a/\c5= G I b/\c6= G I c/\c7= G I d/\c8= G I r/\c9= G I m/\t.size<=maxLen:=by
 have k2:prog.cellsOf 2=1:=by kernel_rfl
 have k4:prog.cellsOf 9=1:=by kernel_rfl
 have kr:prog.cellsOf 44=2:=by kernel_rfl
 have ka:prog.cellsOf 46=4:=by kernel_rfl
 obtain⟨y0,y1,y2,y3,y4,y5,n,h0,h1,h2,h3,h4,h5⟩:=Qvy underlying48 hf;simp only[k2,k4,kr,ka,List.drop_zero,List.take_succ_cons,List.take_zero,List.drop_succ_cons]at h0 h1 h2 h3 h4 h5;obtain⟨z0,z1,n2,_,_,q0,q1⟩:=jk underlying44 h1;obtain⟨u0,u1,n3,_,_,g0,g1⟩:=jk underlying46 h3;simp only[k2,kr,List.drop_zero,List.take_succ_cons,List.take_zero,List.drop_succ_cons]at q0 q1 g0 g1;obtain⟨s0,s1,n4,_,_,j0,j1⟩:=jk underlying44 g0;obtain⟨s2,s3,n5,_,_,j2,j3⟩:=jk underlying44 g1
 simp only[k2,List.drop_zero,List.take_succ_cons,List.take_zero,List.drop_succ_cons]at j0 j1 j2 j3;obtain⟨k,e0,_,_⟩:=DataW.trod_int underlying2 h0;obtain⟨p,e1,_,_⟩:=DataW.trod_int underlying2 q0;obtain⟨q,e2,_,_⟩:=DataW.trod_int underlying2 q1;obtain⟨t,e3,_,wt⟩:=DataW.trod_string underlying9 h2;obtain⟨a,e4,_,_⟩:=DataW.trod_int underlying2 j0;obtain⟨b,e5,_,_⟩:=DataW.trod_int underlying2 j1
 obtain⟨c,e6,_,_⟩:=DataW.trod_int underlying2 j2;obtain⟨d,e7,_,_⟩:=DataW.trod_int underlying2 j3;obtain⟨r,e8,_,_⟩:=DataW.trod_int underlying2 h4;obtain⟨m,e9,_,_⟩:=DataW.trod_int underlying2 h5;simp at e0 e1 e2 e3 e4 e5 e6 e7 e8 e9;exact⟨k,p,q,t,a,b,c,d,r,m,e0,e1,e2,e3,e4,e5,e6,e7,e8,e9,wt⟩
theorem Y1w{H:Type}{enc:ji × Value->H}{W:T}{r:Reach}{b0 base:Nat}{sp:Nat->Bool}{held:Bool}{v:Value}{d:DataW H}{p:List MemPlace}
  (hv:Value.okWide prog W r b0 57 v) (h:DataW.Trod enc prog W base sp held 57 v d p):
  ∃A len cap D,v= J A len cap/\EdRow W A len D:=by
 obtain⟨a0,len,cap,rfl⟩:=okWide_slice underlying57 hv;obtain⟨fuel,hf⟩:=h;rcases Go.Deep.open_slice underlying57 hf with⟨hcs,_⟩ | ⟨a,len',cap',m,n,D,Pl,hcs,_,hl,hm,hmm,_,hx⟩
 ·simp[Value.cells]at hcs;obtain⟨rfl,rfl,rfl⟩:=hcs;exact⟨none,0,0,fun _=>⟨0,0,0,⟨#[]⟩,0,0,0,0,0,0⟩,rfl,Nat.zero_le _,fun i hi=>absurd hi (Nat.not_lt_zero _)⟩
 ·simp[Value.cells]at hcs;obtain⟨rfl,rfl,rfl⟩:=hcs;rw[Qyg]at hx;have hlm:len<=m:=by rw[hmm];split<;>omega
  have h7: ∀i,i<len-> ∃q:EdI9,∃b o,some a=some (⟨b,o,none⟩:Addr)/\b<W.heap.size/\W.cell? ⟨b,o+i*10,none⟩=some (G I q.k)/\W.cell? ⟨b,o+i*10+1,none⟩=some (G I q.p)/\W.cell? ⟨b,o+i*10+2,none⟩=some (G I q.q)/\W.cell? ⟨b,o+i*10+3,none⟩=some (U q.t)/\W.cell? ⟨b,o+i*10+4,none⟩=some (G I q.a)/\W.cell? ⟨b,o+i*10+5,none⟩=some (G I q.b)/\W.cell? ⟨b,o+i*10+6,none⟩=some (G I q.c)/\W.cell? ⟨b,o+i*10+7,none⟩=some (G I q.d)/\W.cell? ⟨b,o+i*10+8,none⟩=some (G I q.r)/\W.cell? ⟨b,o+i*10+9,none⟩=some (G I q.m)/\q.t.size<=maxLen:=by
   intro i hi;obtain⟨H1,h1,h2⟩:=hx i (by omega);obtain⟨_,h6,h0⟩:=jo h1;match H1,h6 with
   | [v0,v1,v2,v3,v4,v5,v6,v7,v8,v9],_=>
    obtain⟨x0,x1,x2,x3,x4,x5,x6,x7,x8,x9,rfl,rfl,rfl,rfl,rfl,rfl,rfl,rfl,rfl,rfl,wt⟩:=Qxz h2;have d0:=h0 0 (by omega);have d1:=h0 1 (by omega);have d2:=h0 2 (by omega);have d3:=h0 3 (by omega);have d4:=h0 4 (by omega);have d5:=h0 5 (by omega)
    have d6:=h0 6 (by omega);have d7:=h0 7 (by omega);have d8:=h0 8 (by omega);have d9:=h0 9 (by omega);obtain⟨b,off,h5⟩:=a
    have h4:h5=none:=by
     obtain⟨cs0,H0,_⟩:=hx 0 (by omega);obtain⟨_,hlen0,h3⟩:=jo H0;have h8:=h3 0 (by omega);rw[List.getElem?_eq_getElem (by omega)]at h8;have h9:=World.cell?_spot h8;simpa[Addr.add]using h9
    subst h4;simp only[jl]at d0 d1 d2 d3 d4 d5 d6 d7 d8 d9;refine⟨⟨x0,x1,x2,x3,x4,x5,x6,x7,x8,x9⟩,b,off,rfl,jf W ⟨b,off+i*10+0,none⟩ d0,d0,d1,d2,d3,d4,d5,d6,d7,d8,d9,wt⟩
  haveI:Inhabited EdI9:=⟨⟨0,0,0,⟨#[]⟩,0,0,0,0,0,0⟩⟩
  obtain⟨q,hq⟩:=Go.Deep.choose_lt h7;exact⟨some a,len,cap,q,rfl,Nat.le_trans hl hm,hq⟩
end Go.Proofs.YtomadadmakdkgaaGreatDoor
