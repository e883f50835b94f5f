import Derived.Test.YtojadpoabbhphaaGreatDoorMn
import Derived.Test.YtojadpoabbhphaaGreatDoorGze
import Derived.Test.YtojadpoabbhphaaGreatDoorJa
import Derived.Test.YtojadpoabbhphaaGreatDoorGbf
import Derived.Test.YtojadpoabbhphaaGreatDoorGbg
import Derived.Test.YtojadpoabbhphaaGreatDoorGzj
set_option linter.unusedSimpArgs false
set_option linter.unusedVariables false
set_option maxHeartbeats 8000000
set_option maxRecDepth 100000
namespace Go.Proofs.YtojadpoabbhphaaGreatDoor
open Go.RowKit
theorem impl_isOwnSource (s:ByteArray) (w:World) (hs:s.size≤maxLen) (hg:GI w):Calls Tryz.prog 36 #[.string s] w fun e w'=>e= .returned (.bool (Qf5 s))∧Below w.heap.size w w':=by
 have HG:Hid (GI w):=hg;clear hg;cases ho:inF s with
 | none=>
  have HO:Hid (inF s=none):=ho;have HB:Hid (Qf5 s=false):=by show _=_;unfold Qf5;rw [ho]
  clear ho;go_enter Tryz.func36,Tryz.ntmps36;go_wp2_with fail
  refine(Qc5 s w hs HG.out).mono ?_;rintro e u1 ⟨he,hb⟩;rw [HO.out]at he;obtain rfl:e= .returned (.tuple #[.string ⟨#[]⟩,.bool false]):=he;go_wp2_with fail
  go_ret;exact⟨Qa HB.out.symm,hb⟩
 | some t=>
  have HO:Hid (inF s=some t):=ho;have HB:Hid (Qf5 s=(t.toList==s.toList)):=by show _=_;unfold Qf5;rw [ho]
  clear ho;go_enter Tryz.func36,Tryz.ntmps36;go_wp2_with fail
  refine(Qc5 s w hs HG.out).mono ?_;rintro e u1 ⟨he,hb⟩;rw [HO.out]at he;obtain rfl:e= .returned (.tuple #[.string t,.bool true]):=he;go_wp2_with fail
  go_ret;exact⟨Qa HB.out.symm,hb⟩
theorem impl_SheetOk {A:Option Addr} {n cap:Nat} {C R:Nat→Int} {S:Nat→ByteArray} (w:World) (h:ClRow w A n C R S) (hg:GI w):
  Calls Tryz.prog 26 #[.slice A n cap] w fun e w'=>e= .returned (.bool (YO C R S n))∧Below w.heap.size w w':=by
 have HR:Hid (ClRow w A n C R S):=h;have HG:Hid (GI w):=hg;have hn:=h.1;unfold maxLen at hn;clear h hg;by_cases hbig:(120:Int)<(n:Int)
 ·have HF:Hid (YO C R S n=false):=Qbm (by omega);go_enter Tryz.func26,Tryz.ntmps26;go_wp2_with fail
  go_ret;exact⟨Qa HF.out.symm,by go_grown⟩
 cases hrs:Md C R n
 ·have HRS:Hid (Md C R n=false):=hrs;have HF:Hid (YO C R S n=false):=Ub hrs;clear hrs;go_enter Tryz.func26,Tryz.ntmps26;go_wp2_with (go_at_call 48;refine(NF _ HR.out).mono ?_;rintro e w1 ⟨rfl,hb⟩;rw [HRS.out])
  go_ret;exact⟨Qa HF.out.symm,by go_grown⟩
 have HRS:Hid (Md C R n=true):=hrs;clear hrs;go_enter Tryz.func26,Tryz.ntmps26;go_wp2_with fail
 refine(NF _ HR.out).mono ?_;rintro e w1 ⟨rfl,hb1⟩;rw [HRS.out];go_wp2_with fail
 go_loopw [15] (fun i wr=> ∃k:Nat,k≤n∧i= .int .i64 k∧(∀i,i<k→Xn S i=true)∧Below w.heap.size w wr) (fun i _=>n-(intOf i).toNat)
 case atStart=>exact⟨0,Nat.zero_le _,rfl,fun i hi=>by omega,hb1⟩
 case round=>
  clear hb1;obtain⟨k,hk,rfl,hr,hbel⟩:=hrel;have HI:Hid (∀i,i<k→Xn S i=true):=hr;clear hr;by_cases hlt:k<n
  ·obtain⟨b,o,rfl,hl,c0,c1,c2,hsz⟩:=HR.out.2 k hlt;have HS:Hid ((S k).size≤maxLen):=hsz;clear hsz;have hs:=hbel.size;have HGr:=hd (HG.out.below hbel);rw [←hbel.cell (p:=⟨_,_,none⟩) hl]at c0 c1 c2;have hl2:b<wr.heap.size:=Nat.lt_of_lt_of_le hl hs
   have h0:(0:Int)≤(k:Int):=by omega
   have h1:(k:Int)<(n:Int):=by omega
   cases he:(S k).toList.isEmpty
   ·cases hv:Qf5 (S k)
    ·have HV:Hid (Qf5 (S k)=false):=hv;have HF:Hid (YO C R S n=false):=Hp hlt (by simp [Xn,hv]);clear hv;go_wp2_with (go_at_call 36;refine(impl_isOwnSource _ _ HS.out (HGr.out.below (by go_grown))).mono ?_;rintro e w2 ⟨rfl,hb⟩;rw [HV.out];have hk1:=Qd (w:=wr) (by go_grown) hb;clear hb)
     go_ret;exact⟨Qa HF.out.symm,Qd hbel (by go_grown)⟩
    ·have HV:Hid (Qf5 (S k)=true):=hv;have HT:Hid (Xn S k=true):=by show _=_;simp [Xn,hv,he]
     clear hv;go_wp2_with (go_at_call 36;refine(impl_isOwnSource _ _ HS.out (HGr.out.below (by go_grown))).mono ?_;rintro e w2 ⟨rfl,hb⟩;rw [HV.out];have hk1:=Qd (w:=wr) (by go_grown) hb;clear hb)
     go_roundw
     case rel=>exact⟨k+1,by omega,by go_num,fun i hi=>by
      by_cases e:i=k
      ·subst e;exact HT.out
      ·exact HI.out i (by omega),Qd hbel (by go_grown)⟩
     case measure=>simp [intOf];omega
   ·have HF:Hid (YO C R S n=false):=Hp hlt (by simp [Xn,he]);go_wp2_with fail
    go_ret;exact⟨Qa HF.out.symm,Qd hbel (by go_grown)⟩
  ·have h1: ¬(k:Int)<(n:Int):=by omega
   obtain rfl:k=n:=by omega
   go_wp2_with fail
   go_ret;exact⟨Qa (Qbl (by omega) HRS.out (Ht HI.out)).symm,hbel⟩
end Go.Proofs.YtojadpoabbhphaaGreatDoor
namespace Go.Proofs.YtojadpoabbhphaaGreatDoor
open Go.RowKit Go.Maps
theorem cyE {W w':World} {b o:Nat} {x:Value} (hb:Below W.heap.size W w') (c:W.cell? ⟨b,o,none⟩=some x):w'.cell? ⟨b,o,none⟩=some x:=
 (hb.cell (p:=⟨b,o,none⟩) (World.block_lt_of_cell? W ⟨b,o,none⟩ c)).trans c
def enF (C R:Nat→Int) (S:Nat→ByteArray) (n:Nat) (p q:Int) (s:ByteArray):Option (List CL):=if YO C R S n=true∧Qj p q=true then(match inF s with
 | some t=>if 120<(setC ⟨p,q,t⟩ (clE C R S n)).length then none else some (setC ⟨p,q,t⟩ (clE C R S n))
 | none=>none)else none
def EnR (B:Nat) (w':World) (r:Option (List CL)) (e:Ending):Prop:=match r with
 | some L=> ∃A c m,e= .returned (.tuple #[.slice A m c,.bool true])∧L.length=m∧w'.ownsRow B 52 3 (.slice A m c) m (VU CL.cs L)
 | none=>e= .returned (.tuple #[.slice none 0 0,.bool false])
theorem enF_no1 {C R:Nat→Int} {S:Nat→ByteArray} {n:Nat} {p q:Int} {s:ByteArray} (h:YO C R S n=false):enF C R S n p q s=none:=by rw [enF,if_neg (fun e=>by rw [h]at e;cases e.1)]
theorem enF_no2 {C R:Nat→Int} {S:Nat→ByteArray} {n:Nat} {p q:Int} {s:ByteArray} (h:Qj p q=false):enF C R S n p q s=none:=by rw [enF,if_neg (fun e=>by rw [h]at e;cases e.2)]
theorem enF_no3 {C R:Nat→Int} {S:Nat→ByteArray} {n:Nat} {p q:Int} {s:ByteArray} (h:inF s=none):enF C R S n p q s=none:=by rw [enF,h];split<;>rfl
theorem enF_yes {C R:Nat→Int} {S:Nat→ByteArray} {n:Nat} {p q:Int} {s t:ByteArray} (h1:YO C R S n=true) (h2:Qj p q=true) (h3:inF s=some t):enF C R S n p q s=if 120<(setC ⟨p,q,t⟩ (clE C R S n)).length then none else some (setC ⟨p,q,t⟩ (clE C R S n)):=by rw [enF,if_pos ⟨h1,h2⟩,h3]
theorem spec_Enter {A:Option Addr} {n cap:Nat} {C R:Nat→Int} {S:Nat→ByteArray} {p q:Int} {s:ByteArray} (w:World) (h:ClRow w A n C R S) (hs:s.size≤maxLen):
  Calls Tryz.prog 6 #[.slice A n cap,.agg #[.int .i64 p,.int .i64 q],.string s] w fun e w'=>EnR w.heap.size w' (enF C R S n p q s) e∧Below w.heap.size w w':=by
 have HR:Hid (ClRow w A n C R S):=h;have HS:Hid (s.size≤maxLen):=hs;clear h;obtain⟨ck,HCK⟩: ∃ck,Hid (YO C R S n=ck):=⟨_,rfl⟩;obtain⟨rk,HRK⟩: ∃rk,Hid (Qj p q=rk):=⟨_,rfl⟩;obtain⟨io,HIO⟩: ∃io,Hid (inF s=io):=⟨_,rfl⟩;go_enter Tryz.func6,Tryz.ntmps6
 go_wp2_with fail
 obtain⟨X,HX⟩: ∃X,Hid (w.alloc (.cells #[.int .i64 p,.int .i64 q] 30)=X):=⟨_,rfl⟩;rw [HX.out];have x0:X.cell? ⟨w.heap.size,0,none⟩=some (.int .i64 p):=by rw [←HX.out];go_simp
 have x1:X.cell? ⟨w.heap.size,1,none⟩=some (.int .i64 q):=by rw [←HX.out];go_simp
 have zX:w.heap.size<X.heap.size:=by rw [←HX.out];simp
 have KX:Hid (Below w.heap.size w X):=by rw [←HX.out];show Below _ _ _;go_grown
 clear HX;refine(Zi s X HS.out).mono ?_;rintro e u0 ⟨hop,hb⟩;replace x0:=cyE hb x0;replace x1:=cyE hb x1;replace zX:w.heap.size<u0.heap.size:=Nat.lt_of_lt_of_le zX hb.size;replace KX:=hd (Qd KX.out hb)
 clear hb;rw [HIO.out]at hop;have HOP:Hid (opA io e):=hop;clear hop
 obtain⟨tx,ok,HE,HTX⟩: ∃(tx:ByteArray) (ok:Bool),Hid (e= .returned (.tuple #[.string tx,.bool ok]))∧Hid (io=if ok=true then some tx else none):=by
  cases io with
  | none=>exact⟨⟨#[]⟩,false,HOP.out,rfl⟩
  | some t=>exact⟨t,true,HOP.out,rfl⟩
 rw [HE.out];clear HE HOP;go_wp2_with fail
 refine(Qc1 _ (HR.out.below KX.out)).mono ?_;rintro e u1 ⟨rfl,hb⟩;replace x0:=cyE hb x0;replace x1:=cyE hb x1;replace zX:w.heap.size<u1.heap.size:=Nat.lt_of_lt_of_le zX hb.size;replace KX:=hd (Qd KX.out hb);clear hb
 rw [HCK.out];cases ck
 ·have HV:Hid (enF C R S n p q s=none):=enF_no1 HCK.out;go_wp2_with fail
  refine bodyPost_ret (v:= .tuple #[.slice none 0 0,.bool false]) ?_ rfl ⟨?_,KX.out⟩
  ·simp (maxDischargeDepth:=9) [results,Tryz.results6,go_sem, *]
  ·rw [HV.out];exact rfl
 go_wp2_with fail
 refine(QC p q _).mono ?_;rintro e u2 ⟨rfl,hb⟩;replace x0:=cyE hb x0;replace x1:=cyE hb x1;replace zX:w.heap.size<u2.heap.size:=Nat.lt_of_lt_of_le zX hb.size;replace KX:=hd (Qd KX.out hb);clear hb
 rw [HRK.out];cases rk
 ·have HV:Hid (enF C R S n p q s=none):=enF_no2 HRK.out;go_wp2_with fail
  refine bodyPost_ret (v:= .tuple #[.slice none 0 0,.bool false]) ?_ rfl ⟨?_,KX.out⟩
  ·simp (maxDischargeDepth:=9) [results,Tryz.results6,go_sem, *]
  ·rw [HV.out];exact rfl
 cases ok
 ·have HV:Hid (enF C R S n p q s=none):=enF_no3 (HIO.out.trans HTX.out);go_wp2_with fail
  refine bodyPost_ret (v:= .tuple #[.slice none 0 0,.bool false]) ?_ rfl ⟨?_,KX.out⟩
  ·simp (maxDischargeDepth:=9) [results,Tryz.results6,go_sem, *]
  ·rw [HV.out];exact rfl
 have HIT:Hid (inF s=some tx):=HIO.out.trans HTX.out;obtain⟨hn,hrf,hri⟩:=cl_rise HCK.out;have HRI:Hid ((clE C R S n).Pairwise (fun a b=>ltC a b=true)):=hri;have HRF:Hid (∀i,i<n→Qj (C i) (R i)=true):=hrf;have HV:Hid (enF C R S n p q s=if 120<(setC ⟨p,q,tx⟩ (clE C R S n)).length then none else some (setC ⟨p,q,tx⟩ (clE C R S n))):=enF_yes HCK.out HRK.out HIT.out;clear hri hrf;go_wp2_with fail
 refine(spec_l5Set _ (HR.out.below KX.out) (by omega)).mono ?_;rintro e u3 ⟨A',c',m,rfl,hl,ho,hb⟩;have HEQ:Hid (endC ⟨p,q,tx⟩ (clE C R S n)=setC ⟨p,q,tx⟩ (clE C R S n)):=(setC_run HRI.out).symm;rw [HEQ.out]at hl ho;have HLN:Hid ((setC ⟨p,q,tx⟩ (clE C R S n)).length=m):=hl;have HO:Hid (u3.ownsRow w.heap.size 52 3 (.slice A' m c') m (VU CL.cs (setC ⟨p,q,tx⟩ (clE C R S n)))):=Go.Proofs.ownsRow_base_a ho KX.out.size;clear hl ho
 replace x0:=cyE hb x0;replace x1:=cyE hb x1;replace zX:w.heap.size<u3.heap.size:=Nat.lt_of_lt_of_le zX hb.size;replace KX:=hd (Qd KX.out hb);clear hb;by_cases h120:120<m
 ·have q1:(120:Int)<((m:Nat):Int):=by omega
  go_wp2_with fail
  refine bodyPost_ret (v:= .tuple #[.slice none 0 0,.bool false]) ?_ rfl ⟨?_,KX.out⟩
  ·simp (maxDischargeDepth:=9) [results,Tryz.results6,go_sem, *]
  ·rw [HV.out,HLN.out,if_pos h120];exact rfl
 ·have q1: ¬(120:Int)<((m:Nat):Int):=by omega
  go_wp2_with fail
  refine bodyPost_ret (v:= .tuple #[.slice A' m c',.bool true]) ?_ rfl ⟨?_,KX.out⟩
  ·simp (maxDischargeDepth:=9) [results,Tryz.results6,go_sem, *]
  ·rw [HV.out,HLN.out,if_neg h120];exact⟨A',c',m,rfl,HLN.out,HO.out⟩
theorem key_refok {p q:Int} (h:Qj p q=true): ∃l,keyOf Tryz.prog 30 (.agg #[.int .i64 p,.int .i64 q])=some l:=by
 simp only [Qj,decide_eq_true_eq]at h;exact Qe4 p q (MJ (by omega) (by omega)) (MJ (by omega) (by omega))
theorem clE_apart {C R:Nat→Int} {S:Nat→ByteArray} {n:Nat} (h:(clE C R S n).Pairwise (fun a b=>ltC a b=true)): ∀i j,i<j→j<n→ ¬(C i=C j∧R i=R j):=fun i j hij hj e=>by
 have h9:=List.pairwise_iff_getElem.1 h i j (by rw [clE_len];omega) (by rw [clE_len];exact hj) hij;simp only [clE,List.getElem_map,List.getElem_range]at h9;have h8:=of_decide_eq_true h9;simp only at h8;omega
theorem impl_Enter {A:Option Addr} {n cap:Nat} {C R:Nat→Int} {S:Nat→ByteArray} {p q:Int} {s:ByteArray} (w:World) (h:ClRow w A n C R S) (hs:s.size≤maxLen) (hg:GI w):
  Calls Tryz.prog 9 #[.slice A n cap,.agg #[.int .i64 p,.int .i64 q],.string s] w fun e w'=>EnR w.heap.size w' (enF C R S n p q s) e∧Below w.heap.size w w':=by
 have HR:Hid (ClRow w A n C R S):=h;have HS:Hid (s.size≤maxLen):=hs;have HG:Hid (GI w):=hg;clear h hg;obtain⟨ck,HCK⟩: ∃ck,Hid (YO C R S n=ck):=⟨_,rfl⟩;obtain⟨rk,HRK⟩: ∃rk,Hid (Qj p q=rk):=⟨_,rfl⟩;obtain⟨io,HIO⟩: ∃io,Hid (inF s=io):=⟨_,rfl⟩
 go_enter Tryz.func9,Tryz.ntmps9;go_wp2_with fail
 obtain⟨X,HX⟩: ∃X,Hid (w.alloc (.cells #[.int .i64 p,.int .i64 q] 30)=X):=⟨_,rfl⟩;rw [HX.out];have x0:X.cell? ⟨w.heap.size,0,none⟩=some (.int .i64 p):=by rw [←HX.out];go_simp
 have x1:X.cell? ⟨w.heap.size,1,none⟩=some (.int .i64 q):=by rw [←HX.out];go_simp
 have zX:w.heap.size<X.heap.size:=by rw [←HX.out];simp
 have KX:Hid (Below w.heap.size w X):=by rw [←HX.out];show Below _ _ _;go_grown
 clear HX;refine(Qc5 s X HS.out (HG.out.below KX.out)).mono ?_;rintro e u0 ⟨hop,hb⟩;replace x0:=cyE hb x0;replace x1:=cyE hb x1;replace zX:w.heap.size<u0.heap.size:=Nat.lt_of_lt_of_le zX hb.size;replace KX:=hd (Qd KX.out hb)
 clear hb;rw [HIO.out]at hop;have HOP:Hid (opA io e):=hop;clear hop
 obtain⟨tx,ok,HE,HTX⟩: ∃(tx:ByteArray) (ok:Bool),Hid (e= .returned (.tuple #[.string tx,.bool ok]))∧Hid (io=if ok=true then some tx else none):=by
  cases io with
  | none=>exact⟨⟨#[]⟩,false,HOP.out,rfl⟩
  | some t=>exact⟨t,true,HOP.out,rfl⟩
 rw [HE.out];clear HE HOP;go_wp2_with fail
 refine(impl_SheetOk _ (HR.out.below KX.out) (HG.out.below KX.out)).mono ?_;rintro e u1 ⟨rfl,hb⟩;replace x0:=cyE hb x0;replace x1:=cyE hb x1;replace zX:w.heap.size<u1.heap.size:=Nat.lt_of_lt_of_le zX hb.size;replace KX:=hd (Qd KX.out hb);clear hb
 rw [HCK.out];cases ck
 ·have HV:Hid (enF C R S n p q s=none):=enF_no1 HCK.out;go_wp2_with fail
  refine bodyPost_ret (v:= .tuple #[.slice none 0 0,.bool false]) ?_ rfl ⟨?_,KX.out⟩
  ·simp (maxDischargeDepth:=9) [results,Tryz.results9,go_sem, *]
  ·rw [HV.out];exact rfl
 go_wp2_with fail
 refine(Zc p q _).mono ?_;rintro e u2 ⟨rfl,hb⟩;replace x0:=cyE hb x0;replace x1:=cyE hb x1;replace zX:w.heap.size<u2.heap.size:=Nat.lt_of_lt_of_le zX hb.size;replace KX:=hd (Qd KX.out hb);clear hb
 rw [HRK.out];cases rk
 ·have HV:Hid (enF C R S n p q s=none):=enF_no2 HRK.out;go_wp2_with fail
  refine bodyPost_ret (v:= .tuple #[.slice none 0 0,.bool false]) ?_ rfl ⟨?_,KX.out⟩
  ·simp (maxDischargeDepth:=9) [results,Tryz.results9,go_sem, *]
  ·rw [HV.out];exact rfl
 cases ok
 ·have HV:Hid (enF C R S n p q s=none):=enF_no3 (HIO.out.trans HTX.out);go_wp2_with fail
  refine bodyPost_ret (v:= .tuple #[.slice none 0 0,.bool false]) ?_ rfl ⟨?_,KX.out⟩
  ·simp (maxDischargeDepth:=9) [results,Tryz.results9,go_sem, *]
  ·rw [HV.out];exact rfl
 have HIT:Hid (inF s=some tx):=HIO.out.trans HTX.out;obtain⟨hn,hrf,hri⟩:=cl_rise HCK.out;have HRI:Hid ((clE C R S n).Pairwise (fun a b=>ltC a b=true)):=hri;have HRF:Hid (∀i,i<n→Qj (C i) (R i)=true):=hrf;have HV:Hid (enF C R S n p q s=if 120<(setC ⟨p,q,tx⟩ (clE C R S n)).length then none else some (setC ⟨p,q,tx⟩ (clE C R S n))):=enF_yes HCK.out HRK.out HIT.out;clear hri hrf;go_wp2_with fail
 obtain⟨kl,hkl⟩:=Qjr (n:=n) HRF.out;have HKL:Hid (∀i,i<n→keyOf Tryz.prog 30 (.agg #[.int .i64 (C i),.int .i64 (R i)])=some (kl i)):=hkl;obtain⟨k0,hk0⟩:=key_refok HRK.out;have HK0:Hid (keyOf Tryz.prog 30 (.agg #[.int .i64 p,.int .i64 q])=some k0):=hk0;clear hkl hk0;refine(Ex _ (HR.out.below KX.out) hn HKL.out).mono ?_;rintro e u3 ⟨rfl,ho,hb⟩
 have HM:Hid (u3.ownsMap Tryz.prog 30 Qf4 u2.heap.size n (clD kl C R S n)):=ho;have HCD:Hid (CmD (clD kl C R S n) (clE C R S n)):=clD_cm n HKL.out (clE_apart HRI.out);have ZB:Hid (w.heap.size≤u2.heap.size):=KX.out.size;clear ho;replace x0:=cyE hb x0;replace x1:=cyE hb x1;replace zX:w.heap.size<u3.heap.size:=Nat.lt_of_lt_of_le zX hb.size
 replace KX:=hd (Qd KX.out hb);clear hb;go_wp2_with fail
 refine(impl_put (B:=w.heap.size) (s:=tx) u3 HM.out ZB.out (by omega) HK0.out).mono ?_;rintro e u4 ⟨rfl,⟨m4,hm4,ho⟩,hb⟩;obtain⟨D4,HD4⟩: ∃D4,Hid ((if tx.toList.isEmpty=true then(clD kl C R S n).del k0 else(clD kl C R S n).put k0 (.held (.agg #[.int .i64 p,.int .i64 q,.string tx])))=D4):=⟨_,rfl⟩;rw [HD4.out]at ho;obtain⟨E4,HE4⟩: ∃E4:List CL,Hid ((if tx.toList.isEmpty=true then offP p q (clE C R S n)else offP p q (clE C R S n)++ [(⟨p,q,tx⟩:CL)])=E4):=⟨_,rfl⟩;have HM4:Hid (u4.ownsMap Tryz.prog 30 Qf4 u2.heap.size m4 D4):=ho
 have HC4:Hid (CmD D4 E4):=by
  show CmD D4 E4;rw [←HD4.out,←HE4.out];by_cases he:tx.toList.isEmpty=true
  ·rw [if_pos he,if_pos he];exact HCD.out.off HK0.out
  ·rw [if_neg he,if_neg he];exact HCD.out.on (Uc kl C R S n) (x:=⟨p,q,tx⟩) HK0.out
 have HP4:Hid ((setC ⟨p,q,tx⟩ (clE C R S n)).Perm E4):=by
  show List.Perm _ _;rw [←HE4.out];exact setC_perm ⟨p,q,tx⟩ _
 obtain⟨mm,HLN⟩: ∃mm,Hid ((setC ⟨p,q,tx⟩ (clE C R S n)).length=mm):=⟨_,rfl⟩;have HL4:Hid (E4.length=mm):=by show _=_;rw [←HP4.out.length_eq,HLN.out]
 have hsz:Maps.size D4=mm:=by rw [HC4.out.size HM4.out,HL4.out]
 replace KX:Hid (Below w.heap.size w u4):=KX.out.trans hb;clear ho hb x0 x1 HD4 HE4;by_cases h120:120<mm
 ·have q1:(120:Int)<((mm:Nat):Int):=by omega
  go_wp2_with (first
   | (at_len;refine wpList_len_own _ rfl _ 55 rfl 30 52 Tryz.underlying55 _ u2.heap.size m4 D4 rfl HM4.out ?_;rw [hsz])
   | fail)
  go_wp2_with fail
  refine bodyPost_ret (v:= .tuple #[.slice none 0 0,.bool false]) ?_ rfl ⟨?_,KX.out⟩
  ·simp (maxDischargeDepth:=9) [results,Tryz.results9,go_sem, *]
  ·rw [HV.out,HLN.out,if_pos h120];exact rfl
 ·have q1: ¬(120:Int)<((mm:Nat):Int):=by omega
  go_wp2_with (first
   | (at_len;refine wpList_len_own _ rfl _ 55 rfl 30 52 Tryz.underlying55 _ u2.heap.size m4 D4 rfl HM4.out ?_;rw [hsz])
   | fail)
  go_wp2_with fail
  refine(impl_inOrder _ HM4.out HC4.out (by rw [HL4.out];omega)).mono ?_;rintro e u5 ⟨A',c',M,rfl,hp,hpw,ho,hb⟩;have HMS:Hid (M=setC ⟨p,q,tx⟩ (clE C R S n)):=ltC_one hpw (setC_rise HRI.out) (hp.trans HP4.out.symm);rw [HMS.out,HL4.out]at ho;rw [HL4.out];have HO:Hid (u5.ownsRow w.heap.size 52 3 (.slice A' mm c') mm (VU CL.cs (setC ⟨p,q,tx⟩ (clE C R S n)))):=Go.Proofs.ownsRow_base_a ho KX.out.size;replace KX:=hd (Qd KX.out hb)
  clear ho hb hp hpw;go_wp2_with fail
  refine bodyPost_ret (v:= .tuple #[.slice A' mm c',.bool true]) ?_ rfl ⟨?_,KX.out⟩
  ·simp (maxDischargeDepth:=9) [results,Tryz.results9,go_sem, *]
  ·rw [HV.out,HLN.out,if_neg h120];exact⟨A',c',mm,rfl,HLN.out,HO.out⟩
end Go.Proofs.YtojadpoabbhphaaGreatDoor
namespace Go.Proofs.YtojadpoabbhphaaGreatDoor
open Go.RowKit
structure CE where
 c:Int
 r:Int
 s:ByteArray
def ceL (x:CE):List Value:= [.int .i64 x.c,.int .i64 x.r,.string x.s]
theorem ceL_len (x:CE):(ceL x).length=3:=rfl
abbrev CeRow (W:World) (A:Option Addr) (L:List CE):Prop:=RowAt 3 ceL W A L
def ceMk (k:Int):CE:=⟨k,(k+1),mtx (k+1+1)⟩
theorem laws_markCellS {B n:Nat} {v:Value} {xs:List Value} (k0:Int) (w:World) (h:w.ownsRow B 52 3 v n xs) (hn:n≤1048576) (hk0:0<k0) (hk1:k0≤70368744177664):
  Calls Tryz.prog 11 #[v,.int .i64 k0] w fun e w'=>e= .returned (.int .i64 (k0+(n:Int)*3))∧w'.ownsRow B 52 3 v n (VU ceL (mkL ceMk 3 k0 n))∧w.grownBy w' v.ownBlock:=by
 have HO:Hid (w.ownsRow B 52 3 v n xs):=h;obtain⟨A,cap,rfl,_,_⟩:=QP h;clear h;obtain⟨LL,HLL⟩: ∃LL,Hid (mkL ceMk 3 k0 n=LL):=⟨_,rfl⟩;rw [HLL.out];go_enter Tryz.func11,Tryz.ntmps11;go_wp2_with fail
 go_loopw [1,5] (fun q i wr=> ∃t:Nat,t≤n∧i= .int .i64 t∧q= .int .i64 (k0+(t:Int)*3)∧(∃ys,wr.ownsRow B 52 3 (.slice A n cap) n ys∧ ∀j,j<t*3→ys[j]? =(VU ceL LL)[j]?)∧w.grownBy wr (Value.slice A n cap).ownBlock) (fun _ i _=>n-(intOf i).toNat)
 case atStart=>exact⟨0,Nat.zero_le _,rfl,by simp,⟨xs,HO.out,fun j hj=>by omega⟩,World.grownBy.refl _ _⟩
 case round=>
  clear HO;obtain⟨t,ht,rfl,rfl,⟨ys,hown,hys⟩,hgr⟩:=hrel;by_cases hlt:t<n
  ·obtain⟨k,HK⟩: ∃k:Int,Hid (k0+(t:Int)*3=k):=⟨_,rfl⟩;have hp0:0<k:=by have:=HK.out;omega
   have hp1:k≤70378744177664:=by have:=HK.out;omega
   have HX:Hid (∀j,j<3→(VU ceL LL)[t*3+j]? =(ceL (ceMk k))[j]?):=fun j hj=>by
    rw [←HLL.out,UN ceL_len j hj,mkL_at _ _ _ _ _ hlt,←HK.out];rfl
   rw [HK.out]
   obtain⟨g,rfl⟩: ∃g,A=some ⟨g,0,none⟩:=by
    obtain⟨A',cap',e,_,hc⟩:=QP hown;cases e
    obtain⟨g,e,_⟩:=hc (t*3) (by omega);exact⟨g,e⟩
   have HA0:Hid (∃ys,wr.ownsRow B 52 3 (.slice (some ⟨g,0,none⟩) n cap) n ys∧(∀j,j<t*3→ys[j]? =(VU ceL LL)[j]?)∧w.grownBy wr (some g)):=⟨ys,hown,hys,hgr⟩;clear hown hys hgr;have q0:(0:Int)≤(t:Int):=by omega
   have q1:(t:Int)<(n:Int):=by omega
   obtain⟨ys0,o0,p0,r0⟩:=HA0.out;obtain⟨A',cap',e,_,hc⟩:=QP o0;cases e
   obtain⟨gg,e0,_,hg0,d0,f0⟩:=hc (t*3) (by omega);cases e0
   clear hc;have hl:=o0.1;obtain⟨x0,y0⟩: ∃x,ys0[t*3]? =some x:=⟨_,List.getElem?_eq_getElem (by omega)⟩;rw [y0]at d0;clear y0 hl
   have HP0:Hid (∃ys,((wr.setCell ⟨g,t*3,none⟩ (.int .i64 (k)))).ownsRow B 52 3 (.slice (some ⟨g,0,none⟩) n cap) n ys∧(∀j,j<t*3+1→ys[j]? =(VU ceL LL)[j]?)∧w.grownBy ((wr.setCell ⟨g,t*3,none⟩ (.int .i64 (k)))) (some g)):=by
    obtain⟨oq,gq⟩:=o0.stored (t*3) (.int .i64 (k));refine⟨_,oq,fun j hj=> ?_,XG r0 gq⟩;by_cases e:t*3=j
    ·subst e;rw [List.getElem?_set_self (by have:=o0.1;omega)];exact(HX.out 0 (by omega)).symm
    ·rw [List.getElem?_set_ne e];exact p0 j (by omega)
   clear o0 p0 r0;clear HA0;obtain⟨ys1,o1,p1,r1⟩:=HP0.out;obtain⟨A',cap',e,_,hc⟩:=QP o1;cases e
   obtain⟨gg,e1,_,hg1,d1,f1⟩:=hc (t*3+1) (by omega);cases e1
   clear hc;have hl:=o1.1;obtain⟨x1,y1⟩: ∃x,ys1[t*3+1]? =some x:=⟨_,List.getElem?_eq_getElem (by omega)⟩;rw [y1]at d1;clear y1 hl
   have HP1:Hid (∃ys,(((wr.setCell ⟨g,t*3,none⟩ (.int .i64 (k))).setCell ⟨g,t*3+1,none⟩ (.int .i64 (k+1)))).ownsRow B 52 3 (.slice (some ⟨g,0,none⟩) n cap) n ys∧(∀j,j<t*3+2→ys[j]? =(VU ceL LL)[j]?)∧w.grownBy (((wr.setCell ⟨g,t*3,none⟩ (.int .i64 (k))).setCell ⟨g,t*3+1,none⟩ (.int .i64 (k+1)))) (some g)):=by
    obtain⟨oq,gq⟩:=o1.stored (t*3+1) (.int .i64 (k+1));refine⟨_,oq,fun j hj=> ?_,XG r1 gq⟩;by_cases e:t*3+1=j
    ·subst e;rw [List.getElem?_set_self (by have:=o1.1;omega)];exact(HX.out 1 (by omega)).symm
    ·rw [List.getElem?_set_ne e];exact p1 j (by omega)
   clear o1 p1 r1;clear HP0;go_wp2_with fail
   refine(Ew _ _ (by omega) (by omega)).mono ?_;rintro e w2 ⟨rfl,hb⟩
   have HB2:Hid (∃ys,w2.ownsRow B 52 3 (.slice (some ⟨g,0,none⟩) n cap) n ys∧(∀j,j<t*3+2→ys[j]? =(VU ceL LL)[j]?)∧w.grownBy w2 (some g)):=by
    obtain⟨z,o1,p1,g1⟩:=HP1.out;exact⟨z,Qp o1 hb,p1,XG g1 (Qfx _ hb)⟩
   clear hb HP1 d0 f0 d1 f1;obtain⟨ys2,o2,p2,r2⟩:=HB2.out;obtain⟨A',cap',e,_,hc⟩:=QP o2;cases e
   obtain⟨gg,e2,_,hg2,d2,f2⟩:=hc (t*3+2) (by omega);cases e2
   clear hc;have hl:=o2.1;obtain⟨x2,y2⟩: ∃x,ys2[t*3+2]? =some x:=⟨_,List.getElem?_eq_getElem (by omega)⟩;rw [y2]at d2;clear y2 hl
   have HP2:Hid (∃ys,((w2.setCell ⟨g,t*3+2,none⟩ (.string (mtx (k+1+1))))).ownsRow B 52 3 (.slice (some ⟨g,0,none⟩) n cap) n ys∧(∀j,j<t*3+3→ys[j]? =(VU ceL LL)[j]?)∧w.grownBy ((w2.setCell ⟨g,t*3+2,none⟩ (.string (mtx (k+1+1))))) (some g)):=by
    obtain⟨oq,gq⟩:=o2.stored (t*3+2) (.string (mtx (k+1+1)));refine⟨_,oq,fun j hj=> ?_,XG r2 gq⟩;by_cases e:t*3+2=j
    ·subst e;rw [List.getElem?_set_self (by have:=o2.1;omega)];exact(HX.out 2 (by omega)).symm
    ·rw [List.getElem?_set_ne e];exact p2 j (by omega)
   clear o2 p2 r2;clear HB2;go_wp2_with fail
   all_goals
    go_roundw
    case rel=>
     obtain⟨z,o1,p1,g1⟩:=HP2.out;exact⟨t+1,by omega,by simp,by have:=HK.out;congr 1;omega,⟨z,o1,fun j hj=>p1 j (by omega)⟩,g1⟩
    case measure=>simp [intOf];omega
  ·have h1: ¬(t:Int)<(n:Int):=by omega
   obtain rfl:t=n:=by omega
   go_wp2_with fail
   go_ret;exact⟨rfl,by rw [Qjv ceL_len hown.1 (by rw [←HLL.out];exact Qju _ _ _ _) hys]at hown;exact hown,hgr⟩
theorem laws_heldCellS {A:Option Addr} {n cap:Nat} (k0:Int) (w:World) (h:CeRow w A (mkL ceMk 3 k0 n)) (hn:n≤1048576) (hk0:0<k0) (hk1:k0≤70368744177664):
  Calls Tryz.prog 12 #[.slice A n cap,.int .i64 k0] w fun e w'=>e= .returned (.int .i64 (k0+(n:Int)*3))∧Below w.heap.size w w':=by
 have HR:Hid (CeRow w A (mkL ceMk 3 k0 n)):=h;clear h;go_enter Tryz.func12,Tryz.ntmps12;go_wp2_with fail
 go_loopw [1,5] (fun q i wr=> ∃t:Nat,t≤n∧i= .int .i64 t∧q= .int .i64 (k0+(t:Int)*3)∧Below w.heap.size w wr) (fun _ i _=>n-(intOf i).toNat)
 case atStart=>exact⟨0,Nat.zero_le _,rfl,by simp,Below.refl _ _⟩
 case round=>
  obtain⟨t,ht,rfl,rfl,hbel⟩:=hrel;by_cases hlt:t<n
  ·obtain⟨k,HK⟩: ∃k:Int,Hid (k0+(t:Int)*3=k):=⟨_,rfl⟩;have hp0:0<k:=by have:=HK.out;omega
   have hp1:k≤70378744177664:=by have:=HK.out;omega
   have hx:=mkL_at ceMk 3 k0 n t hlt;have hkk:k0+(t:Int)*((3:Nat):Int)=k:=HK.out;rw [hkk]at hx;rw [HK.out];obtain⟨b,o,rfl,hl,hc⟩:=HR.out.2 t _ hx;have HC0:Hid (w.cell? ⟨b,o+t*3,none⟩=some (.int .i64 (k))):=hc 0 _ rfl;have HC1:Hid (w.cell? ⟨b,o+t*3+1,none⟩=some (.int .i64 (k+1))):=hc 1 _ rfl
   have HC2:Hid (w.cell? ⟨b,o+t*3+2,none⟩=some (.string (mtx (k+1+1)))):=hc 2 _ rfl;clear hc hx hkk;have hlw:=hbel.size;have hl2:b<wr.heap.size:=Nat.lt_of_lt_of_le hl hlw;have c0:=HC0.out;rw [←hbel.cell (p:=⟨_,_,none⟩) hl]at c0;have c1:=HC1.out
   rw [←hbel.cell (p:=⟨_,_,none⟩) hl]at c1;have c2:=HC2.out;rw [←hbel.cell (p:=⟨_,_,none⟩) hl]at c2;have q0:(0:Int)≤(t:Int):=by omega
   have q1:(t:Int)<(n:Int):=by omega
   have HB:Hid (Below w.heap.size w wr):=hbel;clear hbel;go_wp2_with fail
   go_region_held3 (fun w'=>(∀bq oq,bq<wr.heap.size→w'.cell? ⟨bq,oq,none⟩=wr.cell? ⟨bq,oq,none⟩)∧wr.heap.size≤w'.heap.size∧Below wr.heap.size wr w')
    (exact Qo (Nat.le_refl _) (by go_grown))
    (first
    | (go_at_call 32;refine(Ew _ _ (by omega) (by omega)).mono ?_;rintro e v0 ⟨rfl,hb⟩;obtain⟨hk0,hz0⟩:=Qf (B:=wr.heap.size) (X:=wr) (by go_grown) (by go_size) hb;have hW0: ∀b o,b<wr.heap.size→v0.cell? ⟨b,o,none⟩=wr.cell? ⟨b,o,none⟩:=(fun b o h=>hk0.cell (p:=⟨b,o,none⟩) h);clear hb))
   all_goals go_wp2_with fail
   all_goals
    go_roundw
    case rel=>exact⟨t+1,by omega,by simp,by have:=HK.out;congr 1;omega,Qd HB.out (by go_grown)⟩
    case measure=>simp [intOf];omega
  ·have h1: ¬(t:Int)<(n:Int):=by omega
   obtain rfl:t=n:=by omega
   go_wp2_with fail
   go_ret;exact⟨rfl,hbel⟩
end Go.Proofs.YtojadpoabbhphaaGreatDoor
namespace Go.Proofs.YtojadpoabbhphaaGreatDoor
open Go.RowKit Go.Maps
def cofC (L:List CL) (i:Nat):Int:=((L[i]?).map CL.c).getD 0
def cofR (L:List CL) (i:Nat):Int:=((L[i]?).map CL.r).getD 0
def cofS (L:List CL) (i:Nat):ByteArray:=((L[i]?).map CL.s).getD ⟨#[]⟩
theorem clE_of (L:List CL):clE (cofC L) (cofR L) (cofS L) L.length=L:=by
 apply List.ext_getElem (clE_len _ _ _ _);intro i h1 h2;simp only [clE,List.getElem_map,List.getElem_range,cofC,cofR,cofS,List.getElem?_eq_getElem h2,Option.map_some,Option.getD_some]
theorem clX_flat (C R:Nat→Int) (S:Nat→ByteArray): ∀n,clX C R S n=VU CL.cs (clE C R S n)
 | 0=>rfl
 | n+1=>by rw [Ny,clE_succ,Qih,clX_flat C R S n];rfl
theorem cl_of_list {W:World} {B n cap:Nat} {A:Option Addr} {L:List CL} (h:W.ownsRow B 52 3 (.slice A n cap) n (VU CL.cs L)) (hL:L.length=n) (hs: ∀x∈L,x.s.size≤maxLen):ClRow W A n (cofC L) (cofR L) (cofS L):=by
 subst hL;refine Qii (B:=B) (cap:=cap) ?_ (fun i hi=> ?_)
 ·rw [clX_flat,clE_of];exact h
 ·simp only [cofS,List.getElem?_eq_getElem hi,Option.map_some,Option.getD_some];exact hs _ (List.getElem_mem hi)
theorem eq_of_lists {W:World} {B B' n cap cap':Nat} {A A':Option Addr} {L:List CL} (hL:L.length=n) (hs: ∀x∈L,x.s.size≤maxLen) (h:W.ownsRow B 52 3 (.slice A n cap) n (VU CL.cs L)) (h':W.ownsRow B' 52 3 (.slice A' n cap') n (VU CL.cs L)):
  Calls Tryz.prog 10 #[.slice A n cap,.slice A' n cap'] W fun e w'=>e= .returned (.bool true)∧Below W.heap.size W w':=
 Qc4 W (cl_of_list h hL hs) (cl_of_list h' hL hs)
theorem en_form {B:Nat} {w':World} {r:Option (List CL)} {e:Ending} (h:EnR B w' r e): ∃A c,e= .returned (.tuple #[.slice A (r.getD []).length c,.bool r.isSome])∧w'.ownsRow B 52 3 (.slice A (r.getD []).length c) (r.getD []).length (VU CL.cs (r.getD [])):=by
 cases r with
 | none=>exact⟨none,0,h,rfl,.inl ⟨rfl,rfl⟩⟩
 | some L=>
  obtain⟨A,c,m,he,hm,ho⟩:=h;subst hm;exact⟨A,c,he,ho⟩
theorem en_sz {C R:Nat→Int} {S:Nat→ByteArray} {n:Nat} {p q:Int} {s:ByteArray} (hs: ∀i,i<n→(S i).size≤maxLen): ∀x∈(enF C R S n p q s).getD [],x.s.size≤maxLen:=by
 intro x hx;rw [enF]at hx;split at hx
 ·cases hi:inF s with
  | none=>rw [hi]at hx;cases hx
  | some t=>
   rw [hi]at hx;simp only at hx;split at hx
   ·cases hx
   ·have h9:=(setC_perm ⟨p,q,t⟩ (clE C R S n)).mem_iff.1 hx
    have hm: ∀y∈clE C R S n,y.s.size≤maxLen:=fun y hy=>by
     obtain⟨i,hi,rfl⟩:=List.mem_map.1 hy;exact hs i (List.mem_range.1 hi)
    split at h9
    ·exact hm x (offP_mem.1 h9).1
    ·rcases List.mem_append.1 h9 with h9 | h9
     ·exact hm x (offP_mem.1 h9).1
     ·rw [List.mem_singleton]at h9;subst h9;have:=in_lim hi;unfold maxLen;show t.size≤_;omega
 ·cases hx
theorem en_len {C R:Nat→Int} {S:Nat→ByteArray} {n:Nat} {p q:Int} {s:ByteArray}:((enF C R S n p q s).getD []).length≤120:=by
 rw [enF];split
 ·cases hi:inF s with
  | none=>simp
  | some t=>
   simp only;split
   ·simp
   ·simp only [Option.getD_some];omega
 ·simp
theorem en_form2 {B mn:Nat} {w':World} {r:Option (List CL)} {L:List CL} {xx:List Value} {ob:Bool} {e:Ending} (h1:r.getD []=L) (h2:L.length=mn) (h3:VU CL.cs L=xx) (h4:r.isSome=ob) (h:EnR B w' r e): ∃A c,e= .returned (.tuple #[.slice A mn c,.bool ob])∧w'.ownsRow B 52 3 (.slice A mn c) mn xx:=by
 obtain⟨A,c,he,ho⟩:=en_form h;rw [h1,h2]at he ho;rw [h3]at ho;rw [h4]at he;exact⟨A,c,he,ho⟩
theorem gcell {W w':World} {b o B n s:Nat} {e:TypeId} {v x:Value} {xs:List Value} (h:W.ownsRow B e s v n xs) (hg:W.grownBy w' v.ownBlock) (hb:b<B) (c:W.cell? ⟨b,o,none⟩=some x):w'.cell? ⟨b,o,none⟩=some x:=
 (World.cell?_of_block (hg.block b (World.block_lt_of_cell? W ⟨b,o,none⟩ c) (fun e=>by have:=(h.lt b e.symm).1;omega))).trans c
theorem gkeep {W w':World} {B B' n n' s s':Nat} {e e':TypeId} {v v':Value} {xs xs':List Value} (h:W.ownsRow B e s v n xs) (hg:W.grownBy w' v.ownBlock) (h':W.ownsRow B' e' s' v' n' xs') (hb: ∀k,v'.ownBlock=some k→v.ownBlock≠some k):w'.ownsRow B' e' s' v' n' xs':=
 h'.kept hg (by
  cases hv:v'.ownBlock with
  | none=>exact Or.inl rfl
  | some q=>exact Or.inr (fun e=>hb q hv e.symm))
theorem law_FnExactEnter {A:Option Addr} {n cap:Nat} {C R:Nat→Int} {S:Nat→ByteArray} {p q:Int} {s:ByteArray} (w:World) (h:ClRow w A n C R S) (hs:s.size≤maxLen) (hg:GI w):Calls Tryz.prog 3 #[.slice A n cap,.agg #[.int .i64 p,.int .i64 q],.string s] w fun e w'=>
  e= .returned (.bool true)∧Below w.heap.size w w':=by
 have HR:Hid (ClRow w A n C R S):=h;have HS:Hid (s.size≤maxLen):=hs;have HG:Hid (GI w):=hg;have HSS:Hid (∀i,i<n→(S i).size≤maxLen):=fun i hi=>by obtain⟨_,_,_,_,_,_,_,h9⟩:=h.2 i hi;exact h9
 obtain⟨L,HL⟩: ∃L,Hid ((enF C R S n p q s).getD []=L):=⟨_,rfl⟩;have HLS:Hid (∀x∈L,x.s.size≤maxLen):=by rw [←HL.out];exact en_sz HSS.out
 obtain⟨ob,HOB⟩: ∃ob:Bool,Hid ((enF C R S n p q s).isSome=ob):=⟨_,rfl⟩;obtain⟨mn,HMN⟩: ∃mn,Hid (L.length=mn):=⟨_,rfl⟩;obtain⟨xx,HXX⟩: ∃xx,Hid (VU CL.cs L=xx):=⟨_,rfl⟩;have hmn:mn≤1048576:=by rw [←HMN.out,←HL.out];have:=en_len (C:=C) (R:=R) (S:=S) (n:=n) (p:=p) (q:=q) (s:=s);omega
 have eb:(ob !=ob)=false:=by simp
 clear h hg;go_enter Tryz.func3,Tryz.ntmps3;by_cases hbig:1048576<s.size
 ·have q1:(1048576:Int)<(s.size:Int):=by omega
  go_wp2_with fail
  go_ret;exact⟨rfl,by go_grown⟩
 have q1: ¬(1048576:Int)<(s.size:Int):=by omega
 go_wp2_with fail
 obtain⟨X,HX⟩: ∃X,Hid (w.alloc (.cells #[.int .i64 p,.int .i64 q] 24)=X):=⟨_,rfl⟩;rw [HX.out];have c_0:X.cell? ⟨w.heap.size,0,none⟩=some (.int .i64 p):=by rw [←HX.out];go_simp
 have c_1:X.cell? ⟨w.heap.size,1,none⟩=some (.int .i64 q):=by rw [←HX.out];go_simp
 have zX:w.heap.size<X.heap.size:=by rw [←HX.out];simp
 have KX:Hid (Below w.heap.size w X):=by rw [←HX.out];show Below _ _ _;go_grown
 clear HX;refine(Qc3 _ (HR.out.below KX.out)).mono ?_;rintro e u1 ⟨z,rfl,hz,hb⟩;replace c_0:=cyE hb c_0;replace c_1:=cyE hb c_1;replace zX:w.heap.size<u1.heap.size:=Nat.lt_of_lt_of_le zX hb.size;replace KX:=hd (Qd KX.out hb)
 clear hb;by_cases hneg:z<0
 ·go_wp2_with fail
  go_ret;exact⟨rfl,KX.out⟩
 have hn:n≤1048576:=hz (by omega);clear hz;go_upto_region 7 with fail
 go_cut [8,9] (fun a b wx=> ∃Aw cw,a= .slice Aw mn cw∧b= .bool ob∧wx.ownsRow u1.heap.size 52 3 (.slice Aw mn cw) mn xx∧Below u1.heap.size u1 wx)
 case first=>
  go_region_held3 (fun w'=>(∀bq oq,bq<u1.heap.size→w'.cell? ⟨bq,oq,none⟩=u1.cell? ⟨bq,oq,none⟩)∧u1.heap.size≤w'.heap.size∧Below u1.heap.size u1 w')
   (exact Qo (Nat.le_refl _) (by go_grown))
   (first
   | (go_at_call 7;refine(Qc2 _ (HR.out.below (Qd KX.out (by go_grown))) hn).mono ?_;rintro e y1 ⟨v,rfl,ho,hbA⟩;obtain⟨A1,c1,rfl,_,_⟩:=QP ho;have R1:Hid (ClRow y1 A1 n C R S):=Qii ho HSS.out;obtain⟨hk1,hz1⟩:=Qf (B:=u1.heap.size) (X:=u1) (by go_grown) (by go_size) hbA;clear ho)
   | (go_at_call 8;refine(NY _ _ _).mono ?_;rintro e y2 ⟨rfl,hbB⟩;obtain⟨hk2,hz2⟩:=Qf (B:=u1.heap.size) (X:=u1) (by go_grown) (by go_size) hbB)
   | (go_at_call 6;refine(spec_Enter _ (R1.out.below (by go_grown)) HS.out).mono ?_;rintro e y3 ⟨her,hbC⟩;obtain⟨Aw,cw,rfl,ho⟩:=en_form2 HL.out HMN.out HXX.out HOB.out her;obtain⟨hk3,hz3⟩:=Qf (B:=u1.heap.size) (X:=u1) (by go_grown) (by go_size) hbC;have OQ:Hid (y3.ownsRow u1.heap.size 52 3 (.slice Aw mn cw) mn xx):=ownsRow_base_a ho (by go_size);clear ho her))
  all_goals
   go_wp2_with fail
   go_meet;exact⟨Aw,cw,rfl,rfl,Qp OQ.out (by go_grown),by go_grown⟩
 case rest=>
 obtain⟨Aw,cw,rfl,rfl,ho,hb⟩:=hcut;have OW:Hid (wc.ownsRow u1.heap.size 52 3 (.slice Aw mn cw) mn xx):=ho;clear ho;replace c_0:=cyE hb c_0;replace c_1:=cyE hb c_1;replace zX:w.heap.size<wc.heap.size:=Nat.lt_of_lt_of_le zX hb.size;replace KX:=hd (Qd KX.out hb)
 clear hb;have HWB:Hid (∀k,(Value.slice Aw mn cw).ownBlock=some k→k<wc.heap.size):=fun k hk=>(OW.out.lt k hk).2;have ZA:Hid (w.heap.size<wc.heap.size):=zX;have ZC:Hid (wc.heap.size≤wc.heap.size):=Nat.le_refl _;go_wp2_with fail
 refine(Qc2 _ (HR.out.below KX.out) hn).mono ?_;rintro e u4 ⟨v,rfl,ho,hb⟩;obtain⟨A4,c4,rfl,_,_⟩:=QP ho;have OX:Hid (u4.ownsRow wc.heap.size 52 3 (.slice A4 n c4) n (clX C R S n)):=ho;replace ZC:Hid (wc.heap.size≤u4.heap.size):=hb.size;clear ho;replace c_0:=cyE hb c_0
 replace c_1:=cyE hb c_1;replace zX:w.heap.size<u4.heap.size:=Nat.lt_of_lt_of_le zX hb.size;replace KX:=hd (Qd KX.out hb);replace OW:=hd (Qp OW.out hb);clear hb;go_wp2_with fail
 refine(NY p q _).mono ?_;rintro e u5 ⟨rfl,hb⟩;replace ZC:Hid (wc.heap.size≤u5.heap.size):=Nat.le_trans ZC.out hb.size;replace c_0:=cyE hb c_0;replace c_1:=cyE hb c_1;replace zX:w.heap.size<u5.heap.size:=Nat.lt_of_lt_of_le zX hb.size;replace KX:=hd (Qd KX.out hb)
 replace OW:=hd (Qp OW.out hb);replace OX:=hd (Qp OX.out hb);clear hb;have HXB:Hid (∀k,(Value.slice A4 n c4).ownBlock=some k→wc.heap.size≤k∧k<u5.heap.size):=fun k hk=>OX.out.lt k hk;have ZB:Hid (w.heap.size<u5.heap.size):=zX;have ZWC:Hid (wc.heap.size≤u5.heap.size):=ZC.out;go_wp2_with fail
 refine(impl_Enter _ (Qii OX.out HSS.out) HS.out (HG.out.below KX.out)).mono ?_;rintro e u6 ⟨her,hb⟩;obtain⟨Ag,cg,rfl,ho⟩:=en_form2 HL.out HMN.out HXX.out HOB.out her;have OG:Hid (u6.ownsRow u5.heap.size 52 3 (.slice Ag mn cg) mn xx):=ho;clear ho her;replace c_0:=cyE hb c_0;replace c_1:=cyE hb c_1
 replace zX:w.heap.size<u6.heap.size:=Nat.lt_of_lt_of_le zX hb.size;replace KX:=hd (Qd KX.out hb);replace OW:=hd (Qp OW.out hb);replace OX:=hd (Qp OX.out hb);clear hb;go_wp2_with fail
 refine(eq_of_lists HMN.out HLS.out (by rw [HXX.out];exact OG.out) (by rw [HXX.out];exact OW.out)).mono ?_;rintro e u7 ⟨rfl,hb⟩;replace c_0:=cyE hb c_0;replace c_1:=cyE hb c_1;replace zX:w.heap.size<u7.heap.size:=Nat.lt_of_lt_of_le zX hb.size;replace KX:=hd (Qd KX.out hb);replace OW:=hd (Qp OW.out hb)
 replace OX:=hd (Qp OX.out hb);replace OG:=hd (Qp OG.out hb);clear hb;go_wp2_with fail
 refine(Qc2 _ (HR.out.below KX.out) hn).mono ?_;rintro e u8 ⟨v,rfl,ho,hb⟩;obtain⟨A8,c8,rfl,_,_⟩:=QP ho;have OY:Hid (u8.ownsRow u7.heap.size 52 3 (.slice A8 n c8) n (clX C R S n)):=ho;clear ho;replace c_0:=cyE hb c_0;replace c_1:=cyE hb c_1
 replace zX:w.heap.size<u8.heap.size:=Nat.lt_of_lt_of_le zX hb.size;replace KX:=hd (Qd KX.out hb);replace OW:=hd (Qp OW.out hb);replace OX:=hd (Qp OX.out hb);replace OG:=hd (Qp OG.out hb);clear hb;go_wp2_with fail
 refine(Qc4 _ (Qii OX.out HSS.out) (Qii OY.out HSS.out)).mono ?_;rintro e u9 ⟨rfl,hb⟩;replace c_0:=cyE hb c_0;replace c_1:=cyE hb c_1;replace zX:w.heap.size<u9.heap.size:=Nat.lt_of_lt_of_le zX hb.size;replace KX:=hd (Qd KX.out hb);replace OW:=hd (Qp OW.out hb)
 replace OX:=hd (Qp OX.out hb);replace OG:=hd (Qp OG.out hb);clear hb;clear OY;go_wp2_with fail
 refine(laws_markCellS 1 _ OX.out hn (by omega) (by omega)).mono ?_;rintro e u10 ⟨rfl,hog,hgr⟩;replace c_0:=gcell OX.out hgr ZA.out c_0;replace c_1:=gcell OX.out hgr ZA.out c_1;have zX':w.heap.size<u10.heap.size:=Nat.lt_of_lt_of_le zX hgr.size;replace KX:=hd (KX.out.grown hgr (Nat.le_of_lt zX) (fun k hk=>Nat.le_trans (Nat.le_of_lt ZA.out) (OX.out.lt k hk).1));replace zX:=zX'
 replace OW:Hid (u10.ownsRow u1.heap.size 52 3 (.slice Aw mn cw) mn xx):=gkeep OX.out hgr OW.out (fun k hk e=>by have h1:=HWB.out k hk;have h2:=(HXB.out k e).1;omega);have OG0:=OG.out;replace OG:Hid (u10.ownsRow u5.heap.size 52 3 (.slice Ag mn cg) mn xx):=gkeep OX.out hgr OG.out (fun k hk e=>by have h1:=(OG0.lt k hk).1;have h2:=(HXB.out k e).2;omega);clear hog hgr zX' OX OG0;obtain⟨mx,HMX⟩: ∃mx:Int,Hid ((1+(n:Int)*3)=mx):=⟨_,rfl⟩;have hmx: ¬mx<0:=by have:=HMX.out;omega
 rw [HMX.out];go_wp2_with fail
 refine(eq_of_lists HMN.out HLS.out (by rw [HXX.out];exact OG.out) (by rw [HXX.out];exact OW.out)).mono ?_;rintro e u11 ⟨rfl,hb⟩;replace c_0:=cyE hb c_0;replace c_1:=cyE hb c_1;replace zX:w.heap.size<u11.heap.size:=Nat.lt_of_lt_of_le zX hb.size;replace KX:=hd (Qd KX.out hb);replace OW:=hd (Qp OW.out hb)
 replace OG:=hd (Qp OG.out hb);clear hb;go_wp2_with fail
 refine(laws_markCellS 1 _ OG.out hmn (by omega) (by omega)).mono ?_;rintro e u12 ⟨rfl,hog,hgr⟩;replace c_0:=gcell OG.out hgr ZB.out c_0;replace c_1:=gcell OG.out hgr ZB.out c_1;have zX':w.heap.size<u12.heap.size:=Nat.lt_of_lt_of_le zX hgr.size;replace KX:=hd (KX.out.grown hgr (Nat.le_of_lt zX) (fun k hk=>Nat.le_trans (Nat.le_of_lt ZB.out) (OG.out.lt k hk).1));replace zX:=zX'
 have OG0:=OG.out;have ZW:Hid (wc.heap.size≤u5.heap.size):=ZWC.out;replace OW:Hid (u12.ownsRow u1.heap.size 52 3 (.slice Aw mn cw) mn xx):=gkeep OG.out hgr OW.out (fun k hk e=>by have h1:=HWB.out k hk;have h2:=(OG0.lt k e).1;have h3:=ZW.out;omega);replace OG:Hid (u12.ownsRow u5.heap.size 52 3 (.slice Ag mn cg) mn (VU ceL (mkL ceMk 3 1 mn))):=hog;clear hog hgr zX' OG0;obtain⟨mv,HMV⟩: ∃mv:Int,Hid ((1+(mn:Int)*3)=mv):=⟨_,rfl⟩;have hmv0: ¬mv<0:=by have:=HMV.out;omega
 have hmv1:(mv !=mv)=false:=by simp
 rw [HMV.out];go_wp2_with fail
 refine(laws_heldCellS 1 _ (RowAt.of_own ceL_len OG.out (Qju _ _ _ _)) hmn (by omega) (by omega)).mono ?_;rintro e u13 ⟨rfl,hb⟩;replace c_0:=cyE hb c_0;replace c_1:=cyE hb c_1;replace zX:w.heap.size<u13.heap.size:=Nat.lt_of_lt_of_le zX hb.size;replace KX:=hd (Qd KX.out hb);replace OW:=hd (Qp OW.out hb)
 replace OG:=hd (Qp OG.out hb);clear hb;rw [HMV.out];go_upto_region 26 with fail
 go_cut [16,17] (fun a b wx=> ∃Aw cw,a= .slice Aw mn cw∧b= .bool ob∧wx.ownsRow u13.heap.size 52 3 (.slice Aw mn cw) mn xx∧Below u13.heap.size u13 wx)
 case first=>
  go_region_held3 (fun w'=>(∀bq oq,bq<u13.heap.size→w'.cell? ⟨bq,oq,none⟩=u13.cell? ⟨bq,oq,none⟩)∧u13.heap.size≤w'.heap.size∧Below u13.heap.size u13 w')
   (exact Qo (Nat.le_refl _) (by go_grown))
   (first
   | (go_at_call 7;refine(Qc2 _ (HR.out.below (Qd KX.out (by go_grown))) hn).mono ?_;rintro e y1 ⟨v,rfl,ho,hbA⟩;obtain⟨A1,c1,rfl,_,_⟩:=QP ho;have R1:Hid (ClRow y1 A1 n C R S):=Qii ho HSS.out;obtain⟨hk1,hz1⟩:=Qf (B:=u13.heap.size) (X:=u13) (by go_grown) (by go_size) hbA;clear ho)
   | (go_at_call 8;refine(NY _ _ _).mono ?_;rintro e y2 ⟨rfl,hbB⟩;obtain⟨hk2,hz2⟩:=Qf (B:=u13.heap.size) (X:=u13) (by go_grown) (by go_size) hbB)
   | (go_at_call 9;refine(impl_Enter _ (R1.out.below (by go_grown)) HS.out (HG.out.below (Qd KX.out (by go_grown)))).mono ?_;rintro e y3 ⟨her,hbC⟩;obtain⟨Aw,cw,rfl,ho⟩:=en_form2 HL.out HMN.out HXX.out HOB.out her;obtain⟨hk3,hz3⟩:=Qf (B:=u13.heap.size) (X:=u13) (by go_grown) (by go_size) hbC;have OQ:Hid (y3.ownsRow u13.heap.size 52 3 (.slice Aw mn cw) mn xx):=ownsRow_base_a ho (by go_size);clear ho her))
  all_goals
   go_wp2_with fail
   go_meet;exact⟨Aw,cw,rfl,rfl,Qp OQ.out (by go_grown),by go_grown⟩
 case rest=>
 obtain⟨Ah,ch,rfl,rfl,ho,hb⟩:=hcut;have OH:Hid (wc.ownsRow u13.heap.size 52 3 (.slice Ah mn ch) mn xx):=ho;clear ho;replace c_0:=cyE hb c_0;replace c_1:=cyE hb c_1;replace zX:w.heap.size<wc.heap.size:=Nat.lt_of_lt_of_le zX hb.size;replace KX:=hd (Qd KX.out hb)
 replace OW:=hd (Qp OW.out hb);replace OG:=hd (Qp OG.out hb);clear hb;go_wp2_with fail
 refine(eq_of_lists HMN.out HLS.out (by rw [HXX.out];exact OH.out) (by rw [HXX.out];exact OW.out)).mono ?_;rintro e u15 ⟨rfl,hb⟩;replace c_0:=cyE hb c_0;replace c_1:=cyE hb c_1;replace zX:w.heap.size<u15.heap.size:=Nat.lt_of_lt_of_le zX hb.size;replace KX:=hd (Qd KX.out hb);replace OW:=hd (Qp OW.out hb)
 replace OG:=hd (Qp OG.out hb);replace OH:=hd (Qp OH.out hb);clear hb;go_wp2_with fail
 refine(laws_heldCellS 1 _ (RowAt.of_own ceL_len OG.out (Qju _ _ _ _)) hmn (by omega) (by omega)).mono ?_;rintro e u16 ⟨rfl,hb⟩;replace c_0:=cyE hb c_0;replace c_1:=cyE hb c_1;replace zX:w.heap.size<u16.heap.size:=Nat.lt_of_lt_of_le zX hb.size;replace KX:=hd (Qd KX.out hb);replace OW:=hd (Qp OW.out hb)
 replace OG:=hd (Qp OG.out hb);replace OH:=hd (Qp OH.out hb);clear hb;rw [HMV.out];go_wp2_with fail
 go_ret;exact⟨rfl,KX.out⟩
end Go.Proofs.YtojadpoabbhphaaGreatDoor
