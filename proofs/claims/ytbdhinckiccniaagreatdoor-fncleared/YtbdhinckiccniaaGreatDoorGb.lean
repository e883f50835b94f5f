import Derived.Test.YtbdhinckiccniaaGreatDoorMn
import Derived.Test.YtbdhinckiccniaaGreatDoorGa
import Derived.Test.YtbdhinckiccniaaGreatDoorGzw
import Derived.Test.YtbdhinckiccniaaGreatDoorGzx
import Derived.Test.YtbdhinckiccniaaGreatDoorGzb
import Derived.Test.YtbdhinckiccniaaGreatDoorGzs
set_option linter.unusedSimpArgs false
set_option linter.unusedVariables false
set_option maxHeartbeats 8000000
set_option maxRecDepth 100000
namespace Go.Proofs.YtbdhinckiccniaaGreatDoor
open Go.RowKit Go.Maps
structure edAt (W:World) (g:Nat) (a b c d:Int):Prop where
 lt:g<W.heap.size
 c0:W.cell? ⟨g,0,none⟩=some (.int .i64 2)
 c1:W.cell? ⟨g,1,none⟩=some (.int .i64 0)
 c2:W.cell? ⟨g,2,none⟩=some (.int .i64 0)
 c3:W.cell? ⟨g,3,none⟩=some (.string ⟨#[]⟩)
 c4:W.cell? ⟨g,4,none⟩=some (.int .i64 a)
 c5:W.cell? ⟨g,5,none⟩=some (.int .i64 b)
 c6:W.cell? ⟨g,6,none⟩=some (.int .i64 c)
 c7:W.cell? ⟨g,7,none⟩=some (.int .i64 d)
 c8:W.cell? ⟨g,8,none⟩=some (.int .i64 0)
 c9:W.cell? ⟨g,9,none⟩=some (.int .i64 0)
theorem Np (w:World) (a b c d:Int):edAt (w.alloc (.cells #[.int .i64 2,.int .i64 0,.int .i64 0,.string ⟨#[]⟩,.int .i64 a,.int .i64 b,.int .i64 c,.int .i64 d,.int .i64 0,.int .i64 0] 32)) w.heap.size a b c d:=by
 constructor<;>simp
theorem edAt.below {W W':World} {g:Nat} {a b c d:Int} (h:edAt W g a b c d) (hb:Below W.heap.size W W'):edAt W' g a b c d:=
 ⟨Nat.lt_of_lt_of_le h.lt hb.size,QH hb h.lt h.c0,QH hb h.lt h.c1,QH hb h.lt h.c2,QH hb h.lt h.c3,QH hb h.lt h.c4,QH hb h.lt h.c5,QH hb h.lt h.c6,QH hb h.lt h.c7,QH hb h.lt h.c8,QH hb h.lt h.c9⟩
theorem Bv (a b c d:Int) (w:World):Calls Tryz.prog 23 #[.agg #[.int .i64 2,.int .i64 0,.int .i64 0,.string ⟨#[]⟩,.int .i64 a,.int .i64 b,.int .i64 c,.int .i64 d,.int .i64 0,.int .i64 0]] w fun e w'=>
  e= .returned (.iface 101 (.agg #[.int .i64 a,.int .i64 b,.int .i64 c,.int .i64 d]))∧Below w.heap.size w w':=by
 go_enter Tryz.func23,Tryz.ntmps23;go_wp2
 go_ret;exact⟨rfl,by go_grown⟩
theorem Gv (a b c d:Int) (w:World):Calls Tryz.prog 351 #[.agg #[.int .i64 a,.int .i64 b,.int .i64 c,.int .i64 d]] w fun e w'=>
  e= .returned (.bool (Yk a b c d))∧Below w.heap.size w w':=by
 go_enter Tryz.func351,Tryz.ntmps351;go_wp2_with fail
 refine(Ub a b c d _).mono ?_;rintro e w1 ⟨rfl,hb⟩;have KW:Hid (Below w.heap.size w w1):=Qc (by go_grown) hb;clear hb;go_wp2_with fail
 go_ret;exact⟨rfl,KW.out⟩
theorem Qeg {C R:Nat→Int} {S:Nat→ByteArray} {n:Nat} (h:(clE C R S n).Pairwise (fun a b=>ltC a b=true)): ∀i j,i<j→j<n→ ¬(C i=C j∧R i=R j):=fun i j hij hj e=>by
 have h9:=List.pairwise_iff_getElem.1 h i j (by rw [VU];omega) (by rw [VU];exact hj) hij;simp only [clE,List.getElem_map,List.getElem_range]at h9;have h8:=of_decide_eq_true h9;simp only at h8;omega
theorem Qfm {W:World} {A:Option Addr} {n:Nat} {C R:Nat→Int} {S:Nat→ByteArray} (h:ClRow W A n C R S) {a b c d:Int} {M:List CL} (hM:ClrM a b c d C R S n M): ∀x∈M,x.s.size≤maxLen:=fun x hx=>by
 obtain⟨i,hi,rfl⟩:=hM.sub x hx;obtain⟨_,_,_,_,_,_,_,h9⟩:=h.2 i hi;exact h9
theorem Qc1 (v:Value) (w:World):(Instr.typeAssert (.iface 101 v) 56 99 true).run Tryz.prog w= .ok (.tuple #[.agg #[.int .i64 0,.int .i64 0,.string ⟨#[]⟩],.bool false]) w:=by kernel_rfl
theorem Qc2 (v:Value) (w:World):(Instr.typeAssert (.iface 101 v) 56 101 true).run Tryz.prog w= .ok (.tuple #[v,.bool true]) w:=by kernel_rfl
theorem Bu {A:Option Addr} {n cap:Nat} {C R:Nat→Int} {S:Nat→ByteArray} {a b c d:Int} (w:World) (h:ClRow w A n C R S) (hok:Qx C R S n=true) (hg:GI w):
  Calls Tryz.prog 22 #[.slice A n cap,.iface 101 (.agg #[.int .i64 a,.int .i64 b,.int .i64 c,.int .i64 d])] w fun e w'=>EnR w.heap.size w' (MU a b c d C R S n) e∧Below w.heap.size w w':=by
 have HR:Hid (ClRow w A n C R S):=h;have HG:Hid (GI w):=hg;have HOK:Hid (Qx C R S n=true):=hok;clear h hg hok;obtain⟨ao,HAO⟩: ∃ao,Hid (Yk a b c d=ao):=⟨_,rfl⟩;have hmm:= @run_makeMap Tryz.prog;go_enter Tryz.func22,Tryz.ntmps22
 go_wp2_with fail
 refine(Gv a b c d _).mono ?_;rintro e w1 ⟨rfl,hb⟩;rw [HAO.out];have K1:Hid (Below w.heap.size w w1):=hb;clear hb;cases ao
 ·go_wp2_with fail
  refine bodyPost_ret (v:= .tuple #[.slice none 0 0,.bool false]) ?_ rfl ⟨?_,K1.out⟩
  ·simp (maxDischargeDepth:=9) [results,Tryz.results22,go_sem, *]
  ·unfold MU;rw [HAO.out];exact rfl
 obtain⟨h120,hrf,hri⟩:=MW HOK.out;obtain⟨kl,hkl⟩:=Qfo (n:=n) hrf;have HKL:Hid (∀i,i<n→keyOf Tryz.prog 27 (.agg #[.int .i64 (C i),.int .i64 (R i)])=some (kl i)):=hkl;have HAP:Hid (∀i j,i<j→j<n→ ¬(C i=C j∧R i=R j)):=Qeg hri;have HRI:Hid ((clE C R S n).Pairwise (fun a b=>ltC a b=true)):=hri;clear hkl hrf hri;have hta:=Qc1
 have htb:=Qc2;go_wp2_with fail
 clear hta htb;refine(KI (a:=a) (b:=b) (c:=c) (d:=d) _ (HR.out.below (Qc K1.out (by go_grown))) h120 HKL.out HAP.out).mono ?_;rintro e w2 ⟨B,m,D,rfl,hB,ho,hcm,hb⟩;have HM:Hid (w2.ownsMap Tryz.prog 27 XG B m D):=ho;have HCM:Hid (CmD D (YP a b c d (clE C R S n))):=hcm;have K2:Hid (Below w.heap.size w w2):=Qc (Qc K1.out (by go_grown)) hb;clear ho hcm hb hB
 have HLM:=Qco (a:=a) (b:=b) (c:=c) (d:=d) HOK.out;have HSZ:=Qfm HR.out HLM;have HPW:(YP a b c d (clE C R S n)).Pairwise (fun a b=>ltC a b=true):=HRI.out.filter _;have HF:Hid (MU a b c d C R S n=some (YP a b c d (clE C R S n))):=by show _=_;unfold MU;rw [HAO.out,if_pos rfl]
 obtain⟨M,HMM⟩: ∃M,YP a b c d (clE C R S n)=M:=⟨_,rfl⟩;rw [HMM]at HLM HSZ HPW HF HCM;have HCL:Hid (ClrM a b c d C R S n M):=HLM;have HZ:Hid (∀x∈M,x.s.size≤maxLen):=HSZ;have HP:Hid (M.Pairwise (fun a b=>ltC a b=true)):=HPW;obtain⟨mm,HLN⟩: ∃mm,Hid (M.length=mm):=⟨_,rfl⟩;have hmm2:mm≤120:=by have:=HLM.len;rw [HLN.out]at this;omega
 clear HLM HSZ HPW HMM;go_wp2_with fail
 refine(Br _ HM.out HCM.out (by rw [HLN.out];omega)).mono ?_;rintro e w3 ⟨A',c',M',rfl,hp,hpw,ho,hb⟩;have HMS:Hid (M'=M):=Qpw hpw HP.out hp;rw [HMS.out,HLN.out]at ho;rw [HLN.out];have HO:Hid (w3.ownsRow w.heap.size 37 3 (.slice A' mm c') mm (Za CL.cs M)):=Go.Proofs.ownsRow_base_a ho K2.out.size;have K3:=hd (Qc K2.out hb)
 have R3:Hid (ClRow w3 A' mm (ZE M) (ZD M) (Yg M)):=YK ho HLN.out HZ.out;clear ho hb hp hpw;go_wp2_with fail
 refine(Ys _ R3.out (HG.out.below K3.out)).mono ?_;rintro e w4 ⟨rfl,hb⟩;have hso:Qx (ZE M) (ZD M) (Yg M) mm=true:=by have h9:=HCL.out.ok;rw [HLN.out]at h9;exact h9
 rw [hso];have HO4:=hd (Qf HO.out hb);have K4:=hd (Qc K3.out hb);clear hb;go_wp2_with fail
 refine bodyPost_ret (v:= .tuple #[.slice A' mm c',.bool true]) ?_ rfl ⟨?_,K4.out⟩
 ·simp (maxDischargeDepth:=9) [results,Tryz.results22,go_sem, *]
 ·rw [HF.out];exact⟨A',c',mm,rfl,HLN.out,HO4.out⟩
def Ug (a b c d:Int) (C R:Nat→Int) (S:Nat→ByteArray) (n:Nat):Option (List CL):=if Qx C R S n=true then MU a b c d C R S n else none
theorem VP {A:Option Addr} {n cap:Nat} {C R:Nat→Int} {S:Nat→ByteArray} {a b c d:Int} (w:World) (h:ClRow w A n C R S) (hg:GI w):
  Calls Tryz.prog 8 #[.slice A n cap,.agg #[.int .i64 2,.int .i64 0,.int .i64 0,.string ⟨#[]⟩,.int .i64 a,.int .i64 b,.int .i64 c,.int .i64 d,.int .i64 0,.int .i64 0]] w fun e w'=>EnR w.heap.size w' (Ug a b c d C R S n) e∧Below w.heap.size w w':=by
 have HR:Hid (ClRow w A n C R S):=h;have HG:Hid (GI w):=hg;clear h hg;obtain⟨ck,HCK⟩: ∃ck,Hid (Qx C R S n=ck):=⟨_,rfl⟩;go_enter Tryz.func8,Tryz.ntmps8;go_wp2_with fail
 obtain⟨X,HX⟩: ∃X,Hid (w.alloc (.cells #[.int .i64 2,.int .i64 0,.int .i64 0,.string ⟨#[]⟩,.int .i64 a,.int .i64 b,.int .i64 c,.int .i64 d,.int .i64 0,.int .i64 0] 32)=X):=⟨_,rfl⟩;rw [HX.out];have HE:Hid (edAt X w.heap.size a b c d):=by show edAt _ _ _ _ _ _;rw [←HX.out];exact Np w a b c d
 have KX:Hid (Below w.heap.size w X):=by rw [←HX.out];show Below _ _ _;go_grown
 clear HX;refine(Ys _ (HR.out.below KX.out) (HG.out.below KX.out)).mono ?_;rintro e w1 ⟨rfl,hb⟩;rw [HCK.out];have K1:=hd (Qc KX.out hb);have HE1:=hd (HE.out.below hb);clear hb HE KX
 cases ck
 ·go_wp2_with fail
  refine bodyPost_ret (v:= .tuple #[.slice none 0 0,.bool false]) ?_ rfl ⟨?_,K1.out⟩
  ·simp (maxDischargeDepth:=9) [results,Tryz.results8,go_sem, *]
  ·unfold Ug;rw [HCK.out];exact rfl
 have HF:Hid (Ug a b c d C R S n=MU a b c d C R S n):=by show _=_;unfold Ug;rw [HCK.out,if_pos rfl]
 obtain⟨lz,y0,y1,y2,y3,y4,y5,y6,y7,y8,y9⟩:=HE1.out;go_wp2_with fail
 refine(Bv a b c d _).mono ?_;rintro e w2 ⟨rfl,hb⟩;have K2:=hd (Qc K1.out hb);clear hb y0 y1 y2 y3 y4 y5 y6 y7 y8 y9;go_wp2_with fail
 refine(Bu (a:=a) (b:=b) (c:=c) (d:=d) _ (HR.out.below K2.out) HCK.out (HG.out.below K2.out)).mono ?_;rintro e w3 ⟨he,hb⟩;have K3:=hd (Qc K2.out hb);clear hb;cases hcr:MU a b c d C R S n with
 | none=>
  rw [hcr]at he;obtain rfl:e= .returned (.tuple #[.slice none 0 0,.bool false]):=he;go_wp2_with fail
  refine bodyPost_ret (v:= .tuple #[.slice none 0 0,.bool false]) ?_ rfl ⟨?_,K3.out⟩
  ·simp (maxDischargeDepth:=9) [results,Tryz.results8,go_sem, *]
  ·rw [HF.out,hcr];exact rfl
 | some M=>
  rw [hcr]at he;obtain⟨A3,c3,m,rfl,hm,ho⟩:=he;have HO3:Hid (w3.ownsRow w.heap.size 37 3 (.slice A3 m c3) m (Za CL.cs M)):=Go.Proofs.ownsRow_base_a ho K2.out.size;clear ho;go_wp2_with fail
  refine bodyPost_ret (v:= .tuple #[.slice A3 m c3,.bool true]) ?_ rfl ⟨?_,K3.out⟩
  ·simp (maxDischargeDepth:=9) [results,Tryz.results8,go_sem, *]
  ·rw [HF.out,hcr];exact⟨A3,c3,m,rfl,hm,HO3.out⟩
theorem VA {A:Option Addr} {n cap:Nat} {C R:Nat→Int} {S:Nat→ByteArray} {a b c d:Int} (w:World) (h:ClRow w A n C R S) (hn:n≤10000):
  Calls Tryz.prog 9 #[.slice A n cap,.agg #[.int .i64 2,.int .i64 0,.int .i64 0,.string ⟨#[]⟩,.int .i64 a,.int .i64 b,.int .i64 c,.int .i64 d,.int .i64 0,.int .i64 0]] w fun e w'=>EnR w.heap.size w' (Ug a b c d C R S n) e∧Below w.heap.size w w':=by
 have HR:Hid (ClRow w A n C R S):=h;clear h;obtain⟨ck,HCK⟩: ∃ck,Hid (Qx C R S n=ck):=⟨_,rfl⟩;go_enter Tryz.func9,Tryz.ntmps9;go_wp2_with fail
 obtain⟨X,HX⟩: ∃X,Hid (w.alloc (.cells #[.int .i64 2,.int .i64 0,.int .i64 0,.string ⟨#[]⟩,.int .i64 a,.int .i64 b,.int .i64 c,.int .i64 d,.int .i64 0,.int .i64 0] 32)=X):=⟨_,rfl⟩;rw [HX.out];have HE:Hid (edAt X w.heap.size a b c d):=by show edAt _ _ _ _ _ _;rw [←HX.out];exact Np w a b c d
 have KX:Hid (Below w.heap.size w X):=by rw [←HX.out];show Below _ _ _;go_grown
 clear HX;refine(YY _ (HR.out.below KX.out)).mono ?_;rintro e w1 ⟨rfl,hb⟩;rw [HCK.out];have K1:=hd (Qc KX.out hb);have HE1:=hd (HE.out.below hb);clear hb HE KX
 cases ck
 ·go_wp2_with fail
  refine bodyPost_ret (v:= .tuple #[.slice none 0 0,.bool false]) ?_ rfl ⟨?_,K1.out⟩
  ·simp (maxDischargeDepth:=9) [results,Tryz.results9,go_sem, *]
  ·unfold Ug;rw [HCK.out];exact rfl
 have HF:Hid (Ug a b c d C R S n=MU a b c d C R S n):=by show _=_;unfold Ug;rw [HCK.out,if_pos rfl]
 obtain⟨lz,y0,y1,y2,y3,y4,y5,y6,y7,y8,y9⟩:=HE1.out;go_wp2_with fail
 refine(Uh (a:=a) (b:=b) (c:=c) (d:=d) _ (HR.out.below K1.out) hn).mono ?_;rintro e w3 ⟨he,hb⟩;have K3:=hd (Qc K1.out hb);clear hb y0 y1 y2 y3 y4 y5 y6 y7 y8 y9;cases hcr:MU a b c d C R S n with
 | none=>
  rw [hcr]at he;obtain rfl:e= .returned (.tuple #[.slice none 0 0,.bool false]):=he;go_wp2_with fail
  refine bodyPost_ret (v:= .tuple #[.slice none 0 0,.bool false]) ?_ rfl ⟨?_,K3.out⟩
  ·simp (maxDischargeDepth:=9) [results,Tryz.results9,go_sem, *]
  ·rw [HF.out,hcr];exact rfl
 | some M=>
  rw [hcr]at he;obtain⟨A3,c3,m,rfl,hm,ho⟩:=he;have HO3:Hid (w3.ownsRow w.heap.size 37 3 (.slice A3 m c3) m (Za CL.cs M)):=Go.Proofs.ownsRow_base_a ho K1.out.size;clear ho;go_wp2_with fail
  refine bodyPost_ret (v:= .tuple #[.slice A3 m c3,.bool true]) ?_ rfl ⟨?_,K3.out⟩
  ·simp (maxDischargeDepth:=9) [results,Tryz.results9,go_sem, *]
  ·rw [HF.out,hcr];exact⟨A3,c3,m,rfl,hm,HO3.out⟩
end Go.Proofs.YtbdhinckiccniaaGreatDoor
namespace Go.Proofs.YtbdhinckiccniaaGreatDoor
open Go.RowKit
theorem Om (H1:FtX 1 69) (H2:FtX 2 228) (A:Option Addr) (len cap:Nat) (w:World) (h:Cd w A len):Calls Tryz.prog 6 #[.slice A len cap] w fun e w'=>
  ∃(L:List CL) (B:Option Addr) (c:Nat),e= .returned (.slice B L.length c)∧ClRow w' B L.length (ZE L) (ZD L) (Yg L)∧L.length≤121∧Below w.heap.size w w':=by
 have HH:Hid (Cd w A len):=h;clear h;go_enter Tryz.func6,Tryz.ntmps6;go_wp2_with fail
 refine(GQ A len cap _).mono ?_;rintro e w1 ⟨rfl,hw1⟩;have HR1:Hid (Rd w1 w.heap.size A len cap):=by show Rd _ _ _ _ _;rw [←hw1];exact HH.out.open (Below.refl _ _) rfl
 have B1:Hid (Below w.heap.size w w1):=by show Below _ _ _;rw [←hw1];exact(Below.refl _ _).alloc (Nat.le_refl _) _
 clear hw1;go_wp2_with fail
 refine(Qj7 H1 H2 w.heap.size A len cap 12 _ HR1.out (by omega) (by omega)).mono ?_;rintro e w2 ⟨L,B,c,rfl,hsh⟩;have HR:Hid (ClRow w2 B L.length (ZE L) (ZD L) (Yg L)):=YK hsh.own rfl hsh.sz;have h121:L.length≤121:=hsh.lim;have B2:Hid (Below w.heap.size w w2):=B1.out.trans hsh.upd.2.2.2.1;clear hsh;go_wp2_with fail
 go_ret;exact⟨L,B,c,rfl,HR.out,h121,B2.out⟩
theorem BM (A:Option Addr) (len cap:Nat) (w:World) (h:Cd w A len):Calls Tryz.prog 7 #[.slice A len cap] w fun e w'=>
  ∃a b c d,e= .returned (.agg #[.int .i64 a,.int .i64 b,.int .i64 c,.int .i64 d])∧Below w.heap.size w w':=by
 have HH:Hid (Cd w A len):=h;clear h;go_enter Tryz.func7,Tryz.ntmps7;go_wp2_with fail
 obtain⟨X,HX⟩: ∃X,Hid (w.alloc (.cells #[.int .i64 0,.int .i64 0,.int .i64 0,.int .i64 0] 29)=X):=⟨_,rfl⟩;rw [HX.out];have zX:Hid (w.heap.size<X.heap.size):=by show _<_;rw [←HX.out];simp
 have x0:Hid (∀o,X.cell? ⟨w.heap.size,o,none⟩=(w.alloc (.cells #[.int .i64 0,.int .i64 0,.int .i64 0,.int .i64 0] 29)).cell? ⟨w.heap.size,o,none⟩∧X.frozen? ⟨w.heap.size,o,none⟩=(w.alloc (.cells #[.int .i64 0,.int .i64 0,.int .i64 0,.int .i64 0] 29)).frozen? ⟨w.heap.size,o,none⟩):=fun o=>by rw [←HX.out];exact⟨rfl,rfl⟩
 have BX:Hid (Below w.heap.size w X):=by show Below _ _ _;rw [←HX.out];exact(Below.refl _ _).alloc (Nat.le_refl _) _
 clear HX;refine(GQ A len cap _).mono ?_;rintro e w1 ⟨rfl,hw1⟩;have HR1:Hid (Rd w1 X.heap.size A len cap):=by show Rd _ _ _ _ _;rw [←hw1];exact HH.out.open BX.out rfl
 have B1:Hid (Below X.heap.size X w1):=by show Below _ _ _;rw [←hw1];exact(Below.refl _ _).alloc (Nat.le_refl _) _
 clear hw1;go_wp2_with fail
 refine(Qfq X.heap.size A len cap _ HR1.out).mono ?_;rintro e w2 ⟨a,b,c,d,rfl,hr,hu⟩;have hzz:=zX.out;have b0: ∀o,w2.cell? ⟨w.heap.size,o,none⟩=(w.alloc (.cells #[.int .i64 0,.int .i64 0,.int .i64 0,.int .i64 0] 29)).cell? ⟨w.heap.size,o,none⟩:=fun o=>(hu.1 _ _ (Nat.lt_of_lt_of_le hzz B1.out.size) (by omega)).trans ((B1.out.cell (p:=⟨w.heap.size,o,none⟩) hzz).trans (x0.out o).1);have b1: ∀o,w2.frozen? ⟨w.heap.size,o,none⟩=(w.alloc (.cells #[.int .i64 0,.int .i64 0,.int .i64 0,.int .i64 0] 29)).frozen? ⟨w.heap.size,o,none⟩:=fun o=>(hu.2.1 _ _ (Nat.lt_of_lt_of_le hzz B1.out.size) (by omega)).trans ((B1.out.frozen (p:=⟨w.heap.size,o,none⟩) hzz).trans (x0.out o).2);have hl:w.heap.size<w2.heap.size:=Nat.lt_of_lt_of_le (Nat.lt_of_lt_of_le hzz B1.out.size) hu.2.2.1;have B2:Hid (Below w.heap.size w w2):=(Qc BX.out B1.out).trans (hu.2.2.2.1.mono (Nat.le_of_lt hzz))
 clear hr hu zX x0 BX B1 HR1 hzz;go_wp2_with fail
 refine bodyPost_ret (v:= .agg #[.int .i64 a,.int .i64 b,.int .i64 c,.int .i64 d]) ?_ rfl ⟨_,_,_,_,rfl,(by have hB:=B2.out;go_grown)⟩;simp (maxDischargeDepth:=9) [results,Tryz.results7,go_sem, *]
structure arAt (W:World) (g:Nat) (a b c d:Int):Prop where
 lt:g<W.heap.size
 c0:W.cell? ⟨g,0,none⟩=some (.int .i64 a)
 c1:W.cell? ⟨g,1,none⟩=some (.int .i64 b)
 c2:W.cell? ⟨g,2,none⟩=some (.int .i64 c)
 c3:W.cell? ⟨g,3,none⟩=some (.int .i64 d)
theorem Ql5 (w:World) (a b c d:Int):arAt (w.alloc (.cells #[.int .i64 a,.int .i64 b,.int .i64 c,.int .i64 d] 29)) w.heap.size a b c d:=by
 constructor<;>simp
theorem arAt.below {W W':World} {g:Nat} {a b c d:Int} (h:arAt W g a b c d) (hb:Below W.heap.size W W'):arAt W' g a b c d:=
 ⟨Nat.lt_of_lt_of_le h.lt hb.size,QH hb h.lt h.c0,QH hb h.lt h.c1,QH hb h.lt h.c2,QH hb h.lt h.c3⟩
theorem Qlv {a b c d:Int} {C R:Nat→Int} {S:Nat→ByteArray} {n:Nat} {M:List CL} (h:Ug a b c d C R S n=some M):Qx C R S n=true∧Yk a b c d=true∧ClrM a b c d C R S n M:=by
 unfold Ug MU at h;split at h
 ·rename_i h1
  split at h
  ·rename_i h2
   cases h
   exact⟨h1,h2,Qco h1⟩
  ·cases h
 ·cases h
theorem Qir {a b c d:Int} {C R:Nat→Int} {S:Nat→ByteArray} {n:Nat} {M:List CL} (h:Yk a b c d=true) (hM:ClrM a b c d C R S n M):Ug a b c d (ZE M) (ZD M) (Yg M) M.length=some M:=by
 unfold Ug MU;rw [hM.ok,if_pos rfl,h,if_pos rfl,Qne,hM.again]
theorem Ml {p q:Int} (h:Qh p q=true):(Lit.int .i64 p).wf=true∧(Lit.int .i64 q).wf=true:=by
 have hb:IntKind.i64.min= -9223372036854775808∧IntKind.i64.max=9223372036854775807:=⟨by kernel_rfl,by kernel_rfl⟩;simp only [Qh,Bool.and_eq_true,decide_eq_true_eq]at h;simp only [Lit.wf,hb.1,hb.2,Bool.and_eq_true,decide_eq_true_eq];omega
theorem Hi (W:World) (C R:Nat→Int) (S:Nat→ByteArray):ClRow W none 0 C R S:=⟨Nat.zero_le _,fun i hi=>absurd hi (Nat.not_lt_zero _)⟩
end Go.Proofs.YtbdhinckiccniaaGreatDoor
namespace Go.Proofs.YtbdhinckiccniaaGreatDoor
open Go.RowKit Go.Maps
theorem Qmt (H1:FtX 1 69) (H2:FtX 2 228) (A:Option Addr) (len cap:Nat) (w:World) (hz:len≤1048576→Cd w A len) (hg:GI w):Calls Tryz.prog 3 #[.slice A len cap] w fun e w'=>
  e= .returned (.bool true)∧Below w.heap.size w w':=by
 have HG:Hid (GI w):=hg;clear hg;by_cases hbig:(1048576:Int)<(len:Int)
 ·go_enter Tryz.func3,Tryz.ntmps3;go_wp2_with fail
  refine(Qb7 A len cap _).mono ?_;rintro e wq ⟨rfl,hw⟩;subst wq;go_wp2_with fail
  go_ret;exact⟨rfl,by go_grown⟩
 have HC:Hid (Cd w A len):=hz (by omega);clear hz;go_enter Tryz.func3,Tryz.ntmps3;go_wp2_with fail
 refine(Qb7 A len cap _).mono ?_;rintro e wq ⟨rfl,hw⟩;subst wq;go_wp2_with fail
 refine(Om H1 H2 A len cap _ HC.out).mono ?_;rintro e w1 ⟨L,B,cp,rfl,hrow,hlim,hb⟩;obtain⟨n,HLn⟩: ∃n,Hid (L.length=n):=⟨_,rfl⟩;rw [HLn.out]at hrow hlim ⊢;have K1:Hid (Below w.heap.size w w1):=hb;have R1:Hid (ClRow w1 B n (ZE L) (ZD L) (Yg L)):=hrow;clear hb hrow
 go_wp2_with fail
 refine(BM A len cap _ (HC.out.below K1.out)).mono ?_;rintro e w2 ⟨a,b,c,d,rfl,hb⟩;have K2:=hd (Qc K1.out hb);have R2:=hd (R1.out.below hb);clear hb K1 R1;go_wp2_with fail
 obtain⟨X,HX⟩: ∃X,Hid (w2.alloc (.cells #[.int .i64 a,.int .i64 b,.int .i64 c,.int .i64 d] 29)=X):=⟨_,rfl⟩;rw [HX.out];have AX:Hid (arAt X w2.heap.size a b c d):=by show arAt _ _ _ _ _ _;rw [←HX.out];exact Ql5 w2 a b c d
 have BX:Hid (Below w2.heap.size w2 X):=by show Below _ _ _;rw [←HX.out];exact(Below.refl _ _).alloc (Nat.le_refl _) _
 have ZX:Hid (X.heap.size=w2.heap.size+1):=by show _=_;rw [←HX.out];simp
 obtain⟨Y,HY⟩: ∃Y,Hid (X.alloc (.cells #[.int .i64 2,.int .i64 0,.int .i64 0,.string ⟨#[]⟩,.int .i64 a,.int .i64 b,.int .i64 c,.int .i64 d,.int .i64 0,.int .i64 0] 32)=Y):=⟨_,rfl⟩;rw [HY.out];have EY:Hid (edAt Y X.heap.size a b c d):=by show edAt _ _ _ _ _ _;rw [←HY.out];exact Np X a b c d
 have BY:Hid (Below X.heap.size X Y):=by show Below _ _ _;rw [←HY.out];exact(Below.refl _ _).alloc (Nat.le_refl _) _
 have AY:=hd (AX.out.below BY.out);have KY:=hd (Qc (Qc K2.out BX.out) BY.out);have RY:Hid (ClRow Y B n (ZE L) (ZD L) (Yg L)):=(R2.out.below BX.out).below BY.out;rw [ZX.out]at EY;obtain⟨g,HGG⟩: ∃g,Hid (w2.heap.size=g):=⟨_,rfl⟩;rw [HGG.out]at EY AY ⊢;clear HX HY AX BX BY R2 K2 ZX HGG
 refine(VP _ RY.out (HG.out.below KY.out)).mono ?_;rintro e w3 ⟨he,hb⟩;have E3:=hd (EY.out.below hb);have A3:=hd (AY.out.below hb);have R3:=hd (RY.out.below hb);have K3:=hd (Qc KY.out hb);obtain⟨lz,y0,y1,y2,y3,y4,y5,y6,y7,y8,y9⟩:=E3.out
 clear hb EY AY RY KY;cases hen:Ug a b c d (ZE L) (ZD L) (Yg L) n with
 | none=>
  have HE:Hid (Ug a b c d (ZE L) (ZD L) (Yg L) n=none):=hen;rw [hen]at he;obtain rfl:e= .returned (.tuple #[.slice none 0 0,.bool false]):=he;clear hen;go_wp2_with fail
  refine(VA (a:=a) (b:=b) (c:=c) (d:=d) _ R3.out (by omega)).mono ?_;rintro e w4 ⟨he,hb⟩;rw [HE.out]at he;obtain rfl:e= .returned (.tuple #[.slice none 0 0,.bool false]):=he;have K4:=hd (Qc K3.out hb);clear hb lz y0 y1 y2 y3 y4 y5 y6 y7 y8 y9;go_wp2_with fail
  refine(Yo (C:=ZE L) (R:=ZD L) (S:=Yg L) _ (Hi _ _ _ _) (Hi _ _ _ _)).mono ?_;rintro e w5 ⟨rfl,hb⟩;have K5:=hd (Qc K4.out hb);clear hb;go_wp2_with fail
  refine(Yo (C:=ZE L) (R:=ZD L) (S:=Yg L) _ (Hi _ _ _ _) (Hi _ _ _ _)).mono ?_;rintro e w6 ⟨rfl,hb⟩;have K6:=hd (Qc K5.out hb);clear hb;go_wp2_with fail
  go_ret;exact⟨rfl,K6.out⟩
 | some M=>
  have HE:Hid (Ug a b c d (ZE L) (ZD L) (Yg L) n=some M):=hen;obtain⟨hok,hao,hM⟩:=Qlv hen;have HRS:Hid (∀i,i<n→Qh (ZE L i) (ZD L i)=true):=(MW hok).2.1;have HZ:Hid (∀x∈M,x.s.size≤maxLen):=Qfm R3.out hM;have HAG:Hid (Ug a b c d (ZE M) (ZD M) (Yg M) M.length=some M):=Qir hao hM;have HCL:Hid (ClrM a b c d (ZE L) (ZD L) (Yg L) n M):=hM;rw [hen]at he
  obtain⟨A2,c2,m,rfl,hm,ho⟩:=he;have HMn:Hid (M.length=m):=hm;have Q3:Hid (ClRow w3 A2 m (ZE M) (ZD M) (Yg M)):=YK ho hm HZ.out;have hmn:(m:Int)≤(n:Int):=by have:=hM.len;rw [hm]at this;omega
  clear hen hM ho hm hok hao;go_wp2_with fail
  refine(VA (a:=a) (b:=b) (c:=c) (d:=d) _ R3.out (by omega)).mono ?_;rintro e w4 ⟨he,hb⟩;rw [HE.out]at he;obtain⟨A3',c3,m',rfl,hm',ho'⟩:=he;obtain rfl:m=m':=by rw [←HMn.out,hm']
  have P4:Hid (ClRow w4 A3' m (ZE M) (ZD M) (Yg M)):=YK ho' hm' HZ.out;have Q4:=hd (Q3.out.below hb);have R4:=hd (R3.out.below hb);have E4:=hd (E3.out.below hb);have A4:=hd (A3.out.below hb);have K4:=hd (Qc K3.out hb);clear hb ho' hm' Q3 R3 E3 A3 lz y0 y1 y2 y3 y4 y5 y6 y7 y8 y9
  go_wp2_with fail
  refine(Yo _ Q4.out P4.out).mono ?_;rintro e w5 ⟨rfl,hb⟩;have Q5:=hd (Q4.out.below hb);have R5:=hd (R4.out.below hb);have E5:=hd (E4.out.below hb);have A5:=hd (A4.out.below hb);have K5:=hd (Qc K4.out hb)
  clear hb Q4 R4 E4 A4 P4;go_wp2_with fail
  go_loopw [10,11] (fun i _ wr=> ∃k:Nat,k≤n∧i= .int .i64 k∧Below w5.heap.size w5 wr) (fun i _ _=>n-(intOf i).toNat)
  case atStart=>exact⟨0,Nat.zero_le _,rfl,Below.refl _ _⟩
  case round=>
   obtain⟨k,hk,rfl,hbel⟩:=hrel;have HB:Hid (Below w5.heap.size w5 wr):=hbel;have HQ:=hd (Q5.out.below hbel);have HGR:=hd (HG.out.below (Qc K5.out hbel));by_cases hlt:k<n
   ·obtain⟨bF,oF,rfl,hl,c0,c1,c2,_⟩:=R5.out.2 k hlt;obtain⟨lg,x0,x1,x2,x3⟩:=A5.out.below hbel;replace c0:=QH hbel hl c0;replace c1:=QH hbel hl c1;replace c2:=QH hbel hl c2;have hll:=Nat.lt_of_lt_of_le hl hbel.size;have HRK:Hid (Qh (ZE L k) (ZD L k)=true):=HRS.out k hlt
    have HSK:=HCL.out.at_ k hlt;rw [HMn.out]at HSK;clear hbel;obtain⟨cc,HCC⟩: ∃cc,Hid (ZE L k=cc):=⟨_,rfl⟩;obtain⟨rr,HRR⟩: ∃rr,Hid (ZD L k=rr):=⟨_,rfl⟩;obtain⟨ss,HSS⟩: ∃ss,Hid (Yg L k=ss):=⟨_,rfl⟩;rw [HCC.out]at c0 HRK HSK
    rw [HRR.out]at c1 HRK HSK;rw [HSS.out]at c2 HSK;obtain⟨iq,HIQ⟩: ∃iq,Hid (inQ a b c d cc rr=iq):=⟨_,rfl⟩;rw [HIQ.out]at HSK;have HSK':Hid (Qbk (ZE M) (ZD M) (Yg M) m cc rr=if iq=true then⟨#[]⟩else ss):=HSK;clear HSK;have hbs:(ss.toList==ss.toList)=true:=by simp
    have h0:(0:Int)≤(k:Int):=by omega
    have h1:(k:Int)<(n:Int):=by omega
    go_wp2_with fail
    go_region_held3 (fun w'=>(∀bq oq,bq<wr.heap.size→w'.cell? ⟨bq,oq,none⟩=wr.cell? ⟨bq,oq,none⟩)∧wr.heap.size≤w'.heap.size∧Below wr.heap.size wr w')
     (exact Qp (by go_size) (by go_grown))
     (first
     | (go_at_call 11;refine(Bp a b c d cc rr _).mono ?_;rintro e wy ⟨rfl,hb⟩;rw [HIQ.out];obtain⟨hk1,hz1⟩:=Qg (B:=wr.heap.size) (X:=wr) (by go_grown) (by go_size) hb;have hCy:=fun b o h=>hk1.cell (p:=⟨b,o,none⟩) h;clear hb))
    have KYY:Hid (Below wr.heap.size wr wy):=hk1;have HQy:=hd (HQ.out.below hk1);have HGy:=hd (HGR.out.below hk1);replace c0:=QH hk1 hll c0;replace c1:=QH hk1 hll c1;replace hll:=Nat.lt_of_lt_of_le hll hz1;clear hk1 hz1 hCy x0 x1 x2 x3 c2 lg
    cases iq
    ·have hse:Qbk (ZE M) (ZD M) (Yg M) m cc rr=ss:=HSK'.out;go_wp2_with fail
     refine(VO cc rr _ HQy.out HGy.out (Ml HRK.out).1 (Ml HRK.out).2).mono ?_;rintro e wz ⟨rfl,hb⟩;rw [hse];have KZ:=hd (Qc (Qc HB.out KYY.out) hb);clear hb;go_wp2_with fail
     go_roundw
     case rel=>exact⟨k+1,by omega,by go_num,KZ.out⟩
     case measure=>simp [intOf];omega
    ·have hse:Qbk (ZE M) (ZD M) (Yg M) m cc rr=⟨#[]⟩:=HSK'.out;go_wp2_with fail
     refine(VO cc rr _ HQy.out HGy.out (Ml HRK.out).1 (Ml HRK.out).2).mono ?_;rintro e wz ⟨rfl,hb⟩;rw [hse];have KZ:=hd (Qc (Qc HB.out KYY.out) hb);clear hb;go_wp2_with fail
     go_roundw
     case rel=>exact⟨k+1,by omega,by go_num,KZ.out⟩
     case measure=>simp [intOf];omega
   ·have h1: ¬(k:Int)<(n:Int):=by omega
    have EE:=hd (E5.out.below hbel);have KR:=hd (Qc K5.out hbel);obtain⟨lz,y0,y1,y2,y3,y4,y5,y6,y7,y8,y9⟩:=EE.out;clear hbel;go_wp2_with fail
    refine(VP (a:=a) (b:=b) (c:=c) (d:=d) _ HQ.out HGR.out).mono ?_;rintro e w7 ⟨he,hb⟩;have hag:=HAG.out;rw [HMn.out]at hag;rw [hag]at he;obtain⟨A7,c7,m7,rfl,hm7,ho7⟩:=he;obtain rfl:m=m7:=by rw [←HMn.out,hm7]
    have P7:Hid (ClRow w7 A7 m (ZE M) (ZD M) (Yg M)):=YK ho7 hm7 HZ.out;have Q7:=hd (HQ.out.below hb);have K7:=hd (Qc KR.out hb);clear hb ho7 hm7 hag lz y0 y1 y2 y3 y4 y5 y6 y7 y8 y9;go_wp2_with fail
    refine(Yo _ P7.out Q7.out).mono ?_;rintro e w8 ⟨rfl,hb⟩;have K8:=hd (Qc K7.out hb);clear hb;go_wp2_with fail
    go_ret;exact⟨rfl,K8.out⟩
end Go.Proofs.YtbdhinckiccniaaGreatDoor
