import Derived.Test.YtejbnnacghbhoaaGreatDoorMn
import Derived.Test.YtejbnnacghbhoaaGreatDoorMa
import Derived.Test.YtejbnnacghbhoaaGreatDoorGas
import Derived.Deep.RegionHeld3
set_option linter.unusedSimpArgs false
set_option linter.unusedVariables false
set_option maxHeartbeats 8000000
set_option maxRecDepth 100000
namespace Go.Proofs.YtejbnnacghbhoaaGreatDoor
open Go.RowKit
def Un (k:Int):ByteArray:=if k=1 then⟨#[115,101,116]⟩else if k=2 then⟨#[112,117,116]⟩else if k=3 then⟨#[117,110,108,101,115,115]⟩else if k=4 then⟨#[119,104,105,108,101]⟩else⟨#[97,98,111,114,116]⟩
def SWD (W:World):Prop:= ∀k:Nat,1≤k→k≤5→W.cell? ⟨0,k,none⟩=some (.string (Un k))
def SWG (W:World):Prop:=SWD W∧0<W.heap.size
theorem SWG.below {W W':World} (h:SWG W) (hb:Below W.heap.size W W'):SWG W':=⟨fun k h1 h2=>(hb.cell (p:=⟨0,k,none⟩) h.2).trans (h.1 k h1 h2),Nat.lt_of_lt_of_le h.2 hb.size⟩
def spc:ByteArray:=⟨#[32]⟩
def nlb:ByteArray:=⟨#[10]⟩
def JI (k c r m:Int):ByteArray:=if k=1∨k=2 then Qr c r.toNat false false++spc else if k=3∨k=4 then Yd m.toNat++spc else⟨#[]⟩
def Kl (k c r:Int) (t:ByteArray) (m:Int):ByteArray:=Un k++spc++JI k c r m++t
theorem ba_assocM (x y z:ByteArray):x++y++z=x++(y++z):=ByteArray.append_assoc
theorem ba_nil (x:ByteArray):x++(⟨#[]⟩:ByteArray)=x:=by apply ByteArray.ext;simp
theorem Qan (k:Int):(Un k).size≤6:=by
 unfold Un;split
 ·exact(by decide:(⟨#[115,101,116]⟩:ByteArray).size≤6)
 split
 ·exact(by decide:(⟨#[112,117,116]⟩:ByteArray).size≤6)
 split
 ·exact(by decide:(⟨#[117,110,108,101,115,115]⟩:ByteArray).size≤6)
 split
 ·exact(by decide:(⟨#[119,104,105,108,101]⟩:ByteArray).size≤6)
 ·exact(by decide:(⟨#[97,98,111,114,116]⟩:ByteArray).size≤6)
theorem JN (c:Int) (i:Nat):(Qr c i false false).size≤8:=by
 unfold Qr;have s1:=Xl false;have s3:=Xg c;have s4:=Yb i;rw [ByteArray.size_append,ByteArray.size_append,ByteArray.size_append];omega
theorem Qe4 (k c r m:Int):(JI k c r m).size≤9:=by
 unfold JI;have h1:=JN c r.toNat;have h2:=Yb m.toNat;have h3:spc.size=1:=rfl;split
 ·rw [ByteArray.size_append];omega
 split
 ·rw [ByteArray.size_append];omega
 ·exact Nat.zero_le _
theorem Qa7 (k c r:Int) (t:ByteArray) (m:Int):(Kl k c r t m).size≤t.size+16:=by
 unfold Kl;have h1:=Qan k;have h2:=Qe4 k c r m;have h3:spc.size=1:=rfl;rw [ByteArray.size_append,ByteArray.size_append,ByteArray.size_append];omega
theorem impl_decimal (i:Nat) (hi:i<100) (w:World):Calls Tryz.prog 84 #[.int .i64 i] w fun e w'=>e= .returned (.string (Yd i))∧w'=w:=by
 go_enter Tryz.func84,Tryz.ntmps84;go_wp2_with (go_at_call 108;refine(MU i hi _).mono ?_;rintro e w1 ⟨rfl,rfl⟩)
 go_ret;exact⟨rfl,rfl⟩
theorem UJ {k c r:Int} {t:ByteArray} {m a b:Int} (h:Zt k c r t m a b=true):(k=1∧Qg c r=true)∨(k=2∧Qg c r=true)∨(k=3∧c=0∧r=0∧1≤m∧m≤b)∨(k=4∧c=0∧r=0∧1≤m∧m≤a)∨(k=5∧c=0∧r=0):=by
 unfold Zt MD at h;split at h
 ·rename_i e
  simp only [Bool.and_eq_true]at h;exact Or.inl ⟨e,h.1.1⟩
 split at h
 ·rename_i e
  simp only [Bool.and_eq_true]at h;exact Or.inr (Or.inl ⟨e,h.1.1⟩)
 split at h
 ·rename_i e
  simp only [Bool.and_eq_true,decide_eq_true_eq]at h;exact Or.inr (Or.inr (Or.inl ⟨e,h.1.1.1,h.1.1.2,h.2.1,h.2.2⟩))
 split at h
 ·rename_i e
  simp only [Bool.and_eq_true,decide_eq_true_eq]at h;exact Or.inr (Or.inr (Or.inr (Or.inl ⟨e,h.1.1.1,h.1.1.2,h.2.1,h.2.2⟩)))
 split at h
 ·rename_i e
  simp only [Bool.and_eq_true,decide_eq_true_eq]at h;exact Or.inr (Or.inr (Or.inr (Or.inr ⟨e,h.1.1.1,h.1.1.2⟩)))
 ·cases h
theorem Vi {c r:Int} (h:Qg c r=true): ∃i:Nat,r=(i:Int)∧i<100:=by
 simp only [Qg,decide_eq_true_eq]at h;exact⟨r.toNat,by omega,by omega⟩
theorem impl_line (k c r:Int) (t:ByteArray) (m a b:Int) (w:World) (ht:t.size≤1048576) (ha:a<100) (hb9:b<100) (h:Zt k c r t m a b=true) (hw:SWG w):
  Calls Tryz.prog 44 #[.agg #[.int .i64 k,.int .i64 c,.int .i64 r,.string t,.int .i64 m]] w fun e w'=>e= .returned (.string (Kl k c r t m))∧Below w.heap.size w w':=by
 have HSW:Hid (SWG w):=hw;have hgz:=hw.2;clear hw;have key: ∀(K:Nat) (x:ByteArray),1≤K→K≤5→x=Un K→w.cell? ⟨0,K,none⟩=some (.string x):=fun K x h1 h2 e=>by rw [e];exact HSW.out.1 K h1 h2
 rcases UJ h with⟨rfl,ho⟩ | ⟨rfl,ho⟩ | ⟨rfl,rfl,rfl,m1,m2⟩ | ⟨rfl,rfl,rfl,m1,m2⟩ | ⟨rfl,rfl,rfl⟩
 ·obtain⟨i,rfl,hi⟩:=Vi ho;have HO:Hid (Qg c i=true):=ho;have c1:=key 1 ⟨#[115,101,116]⟩ (by omega) (by omega) rfl;clear key h ho;have HP:Hid ((Qr c i false false).size≤8):=JN c i;have HE:Hid (Kl 1 c i t m=(⟨#[115,101,116]⟩:ByteArray)++spc++Qr c i false false++spc++t):=by show _=_;unfold Kl JI;rw [if_pos (by omega),←ba_assocM];rfl
  obtain⟨p,HPP⟩: ∃p:ByteArray,Hid (p=Qr c i false false):=⟨_,rfl⟩;rw [←HPP.out]at HE HP;have hp:=HP.out;obtain⟨u,HU⟩: ∃u:ByteArray,Hid (u=(⟨#[115,101,116]⟩:ByteArray)++(⟨#[32]⟩:ByteArray)):=⟨_,rfl⟩;have hu:u.size=4:=by rw [HU.out];rfl
  have hU:(⟨#[115,101,116]⟩:ByteArray)++(⟨#[32]⟩:ByteArray)=u:=HU.out.symm;have r1: ∀W,(Op.stringOp .add u p).run Tryz.prog W= .ok (.string (u++p)) W:=fun W=>run_string_add_sum W _ _ (by omega);have r2: ∀W,(Op.stringOp .add (u++p) ⟨#[32]⟩).run Tryz.prog W= .ok (.string (u++p++⟨#[32]⟩)) W:=fun W=>run_string_add_sum W _ _ (by rw [ByteArray.size_append];have:(⟨#[32]⟩:ByteArray).size=1:=rfl;omega);have r3: ∀W,(Op.stringOp .add (u++p++⟨#[32]⟩) t).run Tryz.prog W= .ok (.string (u++p++⟨#[32]⟩++t)) W:=fun W=>run_string_add_sum W _ _ (by rw [ByteArray.size_append,ByteArray.size_append];have:(⟨#[32]⟩:ByteArray).size=1:=rfl;omega);have HE2:Hid (Kl 1 c i t m=u++p++⟨#[32]⟩++t):=by show _=_;rw [HE.out,HU.out];rfl
  go_enter Tryz.func44,Tryz.ntmps44;go_wp2_with fail
  go_region_held3 (fun w'=>(∀bq oq,bq<w.heap.size+1→w'.cell? ⟨bq,oq,none⟩=(w.alloc (.cells #[.int .i64 1,.int .i64 c,.int .i64 i,.string t,.int .i64 m] 69)).cell? ⟨bq,oq,none⟩)∧w.heap.size+1≤w'.heap.size∧Below (w.heap.size+1) (w.alloc (.cells #[.int .i64 1,.int .i64 c,.int .i64 i,.string t,.int .i64 m] 69)) w')
   (exact Qq (by go_size) (by go_grown))
   (first
   | (go_at_call 83;refine(Yt c i false false _ hi HO.out).mono ?_;rintro e w1 ⟨rfl,hb⟩;rw [←HPP.out];obtain⟨hk1,hz1⟩:=Qh (B:=w.heap.size+1) (X:=(w.alloc (.cells #[.int .i64 1,.int .i64 c,.int .i64 i,.string t,.int .i64 m] 69))) (by go_grown) (by go_size) hb;have hC:=fun b o h=>hk1.cell (p:=⟨b,o,none⟩) h;clear hb))
  all_goals go_wp2_with fail
  all_goals go_ret
  all_goals exact⟨Qv HE2.out.symm,Yn (n:=1) (X:=(w.alloc (.cells #[.int .i64 1,.int .i64 c,.int .i64 i,.string t,.int .i64 m] 69))) (by go_grown) (by go_grown)⟩
 ·obtain⟨i,rfl,hi⟩:=Vi ho;have HO:Hid (Qg c i=true):=ho;have c1:=key 2 ⟨#[112,117,116]⟩ (by omega) (by omega) rfl;clear key h ho;have HP:Hid ((Qr c i false false).size≤8):=JN c i;have HE:Hid (Kl 2 c i t m=(⟨#[112,117,116]⟩:ByteArray)++spc++Qr c i false false++spc++t):=by show _=_;unfold Kl JI;rw [if_pos (by omega),←ba_assocM];rfl
  obtain⟨p,HPP⟩: ∃p:ByteArray,Hid (p=Qr c i false false):=⟨_,rfl⟩;rw [←HPP.out]at HE HP;have hp:=HP.out;obtain⟨u,HU⟩: ∃u:ByteArray,Hid (u=(⟨#[112,117,116]⟩:ByteArray)++(⟨#[32]⟩:ByteArray)):=⟨_,rfl⟩;have hu:u.size=4:=by rw [HU.out];rfl
  have hU:(⟨#[112,117,116]⟩:ByteArray)++(⟨#[32]⟩:ByteArray)=u:=HU.out.symm;have r1: ∀W,(Op.stringOp .add u p).run Tryz.prog W= .ok (.string (u++p)) W:=fun W=>run_string_add_sum W _ _ (by omega);have r2: ∀W,(Op.stringOp .add (u++p) ⟨#[32]⟩).run Tryz.prog W= .ok (.string (u++p++⟨#[32]⟩)) W:=fun W=>run_string_add_sum W _ _ (by rw [ByteArray.size_append];have:(⟨#[32]⟩:ByteArray).size=1:=rfl;omega);have r3: ∀W,(Op.stringOp .add (u++p++⟨#[32]⟩) t).run Tryz.prog W= .ok (.string (u++p++⟨#[32]⟩++t)) W:=fun W=>run_string_add_sum W _ _ (by rw [ByteArray.size_append,ByteArray.size_append];have:(⟨#[32]⟩:ByteArray).size=1:=rfl;omega);have HE2:Hid (Kl 2 c i t m=u++p++⟨#[32]⟩++t):=by show _=_;rw [HE.out,HU.out];rfl
  go_enter Tryz.func44,Tryz.ntmps44;go_wp2_with fail
  go_region_held3 (fun w'=>(∀bq oq,bq<w.heap.size+1→w'.cell? ⟨bq,oq,none⟩=(w.alloc (.cells #[.int .i64 2,.int .i64 c,.int .i64 i,.string t,.int .i64 m] 69)).cell? ⟨bq,oq,none⟩)∧w.heap.size+1≤w'.heap.size∧Below (w.heap.size+1) (w.alloc (.cells #[.int .i64 2,.int .i64 c,.int .i64 i,.string t,.int .i64 m] 69)) w')
   (exact Qq (by go_size) (by go_grown))
   (first
   | (go_at_call 83;refine(Yt c i false false _ hi HO.out).mono ?_;rintro e w1 ⟨rfl,hb⟩;rw [←HPP.out];obtain⟨hk1,hz1⟩:=Qh (B:=w.heap.size+1) (X:=(w.alloc (.cells #[.int .i64 2,.int .i64 c,.int .i64 i,.string t,.int .i64 m] 69))) (by go_grown) (by go_size) hb;have hC:=fun b o h=>hk1.cell (p:=⟨b,o,none⟩) h;clear hb))
  all_goals go_wp2_with fail
  all_goals go_ret
  all_goals exact⟨Qv HE2.out.symm,Yn (n:=1) (X:=(w.alloc (.cells #[.int .i64 2,.int .i64 c,.int .i64 i,.string t,.int .i64 m] 69))) (by go_grown) (by go_grown)⟩
 ·obtain⟨i,rfl,hi⟩: ∃i:Nat,m=(i:Int)∧i<100:=⟨m.toNat,by omega,by omega⟩;have c1:=key 3 ⟨#[117,110,108,101,115,115]⟩ (by omega) (by omega) rfl;clear key h;have HP:Hid ((Yd i).size≤2):=Yb i;have HE:Hid (Kl 3 0 0 t i=(⟨#[117,110,108,101,115,115]⟩:ByteArray)++spc++Yd i++spc++t):=by show _=_;unfold Kl JI;rw [if_neg (by omega),if_pos (by omega),←ba_assocM];rfl
  obtain⟨p,HPP⟩: ∃p:ByteArray,Hid (p=Yd i):=⟨_,rfl⟩;rw [←HPP.out]at HE HP;have hp:=HP.out;obtain⟨u,HU⟩: ∃u:ByteArray,Hid (u=(⟨#[117,110,108,101,115,115]⟩:ByteArray)++(⟨#[32]⟩:ByteArray)):=⟨_,rfl⟩;have hu:u.size=7:=by rw [HU.out];rfl
  have hU:(⟨#[117,110,108,101,115,115]⟩:ByteArray)++(⟨#[32]⟩:ByteArray)=u:=HU.out.symm;have r1: ∀W,(Op.stringOp .add u p).run Tryz.prog W= .ok (.string (u++p)) W:=fun W=>run_string_add_sum W _ _ (by omega);have r2: ∀W,(Op.stringOp .add (u++p) ⟨#[32]⟩).run Tryz.prog W= .ok (.string (u++p++⟨#[32]⟩)) W:=fun W=>run_string_add_sum W _ _ (by rw [ByteArray.size_append];have:(⟨#[32]⟩:ByteArray).size=1:=rfl;omega);have r3: ∀W,(Op.stringOp .add (u++p++⟨#[32]⟩) t).run Tryz.prog W= .ok (.string (u++p++⟨#[32]⟩++t)) W:=fun W=>run_string_add_sum W _ _ (by rw [ByteArray.size_append,ByteArray.size_append];have:(⟨#[32]⟩:ByteArray).size=1:=rfl;omega);have HE2:Hid (Kl 3 0 0 t i=u++p++⟨#[32]⟩++t):=by show _=_;rw [HE.out,HU.out];rfl
  go_enter Tryz.func44,Tryz.ntmps44;go_wp2_with fail
  go_region_held3 (fun w'=>(∀bq oq,bq<w.heap.size+1→w'.cell? ⟨bq,oq,none⟩=(w.alloc (.cells #[.int .i64 3,.int .i64 0,.int .i64 0,.string t,.int .i64 i] 69)).cell? ⟨bq,oq,none⟩)∧w.heap.size+1≤w'.heap.size∧Below (w.heap.size+1) (w.alloc (.cells #[.int .i64 3,.int .i64 0,.int .i64 0,.string t,.int .i64 i] 69)) w')
   (exact Qq (by go_size) (by go_grown))
   (first
   | (go_at_call 84;refine(impl_decimal i hi _).mono ?_;rintro e w1 ⟨rfl,rfl⟩;rw [←HPP.out]))
  all_goals go_wp2_with fail
  all_goals go_ret
  all_goals exact⟨Qv HE2.out.symm,Yn (n:=1) (X:=(w.alloc (.cells #[.int .i64 3,.int .i64 0,.int .i64 0,.string t,.int .i64 i] 69))) (by go_grown) (by go_grown)⟩
 ·obtain⟨i,rfl,hi⟩: ∃i:Nat,m=(i:Int)∧i<100:=⟨m.toNat,by omega,by omega⟩;have c1:=key 4 ⟨#[119,104,105,108,101]⟩ (by omega) (by omega) rfl;clear key h;have HP:Hid ((Yd i).size≤2):=Yb i;have HE:Hid (Kl 4 0 0 t i=(⟨#[119,104,105,108,101]⟩:ByteArray)++spc++Yd i++spc++t):=by show _=_;unfold Kl JI;rw [if_neg (by omega),if_pos (by omega),←ba_assocM];rfl
  obtain⟨p,HPP⟩: ∃p:ByteArray,Hid (p=Yd i):=⟨_,rfl⟩;rw [←HPP.out]at HE HP;have hp:=HP.out;obtain⟨u,HU⟩: ∃u:ByteArray,Hid (u=(⟨#[119,104,105,108,101]⟩:ByteArray)++(⟨#[32]⟩:ByteArray)):=⟨_,rfl⟩;have hu:u.size=6:=by rw [HU.out];rfl
  have hU:(⟨#[119,104,105,108,101]⟩:ByteArray)++(⟨#[32]⟩:ByteArray)=u:=HU.out.symm;have r1: ∀W,(Op.stringOp .add u p).run Tryz.prog W= .ok (.string (u++p)) W:=fun W=>run_string_add_sum W _ _ (by omega);have r2: ∀W,(Op.stringOp .add (u++p) ⟨#[32]⟩).run Tryz.prog W= .ok (.string (u++p++⟨#[32]⟩)) W:=fun W=>run_string_add_sum W _ _ (by rw [ByteArray.size_append];have:(⟨#[32]⟩:ByteArray).size=1:=rfl;omega);have r3: ∀W,(Op.stringOp .add (u++p++⟨#[32]⟩) t).run Tryz.prog W= .ok (.string (u++p++⟨#[32]⟩++t)) W:=fun W=>run_string_add_sum W _ _ (by rw [ByteArray.size_append,ByteArray.size_append];have:(⟨#[32]⟩:ByteArray).size=1:=rfl;omega);have HE2:Hid (Kl 4 0 0 t i=u++p++⟨#[32]⟩++t):=by show _=_;rw [HE.out,HU.out];rfl
  go_enter Tryz.func44,Tryz.ntmps44;go_wp2_with fail
  go_region_held3 (fun w'=>(∀bq oq,bq<w.heap.size+1→w'.cell? ⟨bq,oq,none⟩=(w.alloc (.cells #[.int .i64 4,.int .i64 0,.int .i64 0,.string t,.int .i64 i] 69)).cell? ⟨bq,oq,none⟩)∧w.heap.size+1≤w'.heap.size∧Below (w.heap.size+1) (w.alloc (.cells #[.int .i64 4,.int .i64 0,.int .i64 0,.string t,.int .i64 i] 69)) w')
   (exact Qq (by go_size) (by go_grown))
   (first
   | (go_at_call 84;refine(impl_decimal i hi _).mono ?_;rintro e w1 ⟨rfl,rfl⟩;rw [←HPP.out]))
  all_goals go_wp2_with fail
  all_goals go_ret
  all_goals exact⟨Qv HE2.out.symm,Yn (n:=1) (X:=(w.alloc (.cells #[.int .i64 4,.int .i64 0,.int .i64 0,.string t,.int .i64 i] 69))) (by go_grown) (by go_grown)⟩
 ·have c1:=key 5 ⟨#[97,98,111,114,116]⟩ (by omega) (by omega) rfl;clear key h;obtain⟨u,HU⟩: ∃u:ByteArray,Hid (u=(⟨#[97,98,111,114,116]⟩:ByteArray)++(⟨#[32]⟩:ByteArray)):=⟨_,rfl⟩;have hu:u.size=6:=by rw [HU.out];rfl
  have hU:(⟨#[97,98,111,114,116]⟩:ByteArray)++(⟨#[32]⟩:ByteArray)=u:=HU.out.symm;have HE2:Hid (Kl 5 0 0 t m=u++t):=by show _=_;unfold Kl JI;rw [if_neg (by omega),if_neg (by omega),ba_nil,HU.out];rfl
  have q1: ¬9223372036854775807<u.size+t.size:=by omega
  go_enter Tryz.func44,Tryz.ntmps44;go_wp2_with fail
  go_ret;exact⟨Qv HE2.out.symm,by go_grown⟩
def mtT (K C R:Nat→Int) (T:Nat→ByteArray) (M:Nat→Int):Nat→ByteArray
 | 0=>⟨#[]⟩
 | n+1=>mtT K C R T M n++(Kl (K n) (C n) (R n) (T n) (M n)++nlb)
theorem ED {K C R:Nat→Int} {T:Nat→ByteArray} {M:Nat→Int}: ∀n:Nat,(∀i,i<n→(T i).size≤1048576)→(mtT K C R T M n).size≤n*1048593
 | 0,_=>Nat.zero_le _
 | n+1,h=>by
  have h1:=ED (K:=K) (C:=C) (R:=R) (M:=M) n (fun i hi=>h i (by omega));have h2:=Qa7 (K n) (C n) (R n) (T n) (M n);have h3:=h n (by omega);have h4:nlb.size=1:=rfl;rw [mtT,ByteArray.size_append,ByteArray.size_append];omega
def mtO (K C R:Nat→Int) (T:Nat→ByteArray) (M:Nat→Int) (n:Nat):ByteArray:=if Zb K C R T M n then mtT K C R T M n else⟨#[]⟩
theorem EH {K C R:Nat→Int} {T:Nat→ByteArray} {M:Nat→Int} {n:Nat} (h:Zb K C R T M n=true):n≤30∧ ∀i,i<n→Zt (K i) (C i) (R i) (T i) (M i) i ((n:Int)-1-i)=true:=by
 unfold Zb at h;simp only [Bool.and_eq_true,decide_eq_true_eq,List.all_eq_true,List.mem_range]at h;exact h
theorem impl_MacroText {A:Option Addr} {n cap:Nat} {K C R:Nat→Int} {T:Nat→ByteArray} {M:Nat→Int} (w:World) (h:MsRow w A n K C R T M) (hT: ∀i,i<n→(T i).size≤1048576) (hg:GI w) (hsw:SWG w):
  Calls Tryz.prog 16 #[.slice A n cap] w fun e w'=>e= .returned (.string (mtO K C R T M n))∧Below w.heap.size w w':=by
 have HR:Hid (MsRow w A n K C R T M):=h;have HG:Hid (GI w):=hg;have HSW:Hid (SWG w):=hsw;have HT:Hid (∀i,i<n→(T i).size≤1048576):=hT;have hn:=h.1;unfold maxLen at hn;clear h hg hT hsw
 cases hok:Zb K C R T M n
 ·have HOK:Hid (Zb K C R T M n=false):=hok;have HF:Hid (mtO K C R T M n=⟨#[]⟩):=by show _=_;unfold mtO;rw [hok];exact(rfl:_=_)
  clear hok;go_enter Tryz.func16,Tryz.ntmps16;go_wp2_with (go_at_call 19;refine(impl_MacroOk _ HR.out HT.out HG.out).mono ?_;rintro e w1 ⟨rfl,hb⟩;rw [HOK.out])
  go_ret;exact⟨Qv HF.out.symm,hb⟩
 have HOK:Hid (Zb K C R T M n=true):=hok;have HF:Hid (mtO K C R T M n=mtT K C R T M n):=by show _=_;unfold mtO;rw [hok,if_pos rfl]
 obtain⟨hn30,hall⟩:=EH hok;have HALL:Hid (∀i,i<n→Zt (K i) (C i) (R i) (T i) (M i) i ((n:Int)-1-i)=true):=hall;clear hok hall;go_enter Tryz.func16,Tryz.ntmps16;go_wp2_with (go_at_call 19;refine(impl_MacroOk _ HR.out HT.out HG.out).mono ?_;rintro e w1 ⟨rfl,hb1⟩;rw [HOK.out])
 go_loopw [3,11] (fun s i wr=> ∃k:Nat,k≤n∧i= .int .i64 k∧s= .string (mtT K C R T M k)∧Below w.heap.size w wr) (fun _ i _=>n-(intOf i).toNat)
 case atStart=>exact⟨0,Nat.zero_le _,rfl,rfl,hb1⟩
 case round=>
  clear hb1;obtain⟨k,hk,rfl,rfl,hbel⟩:=hrel;by_cases hlt:k<n
  ·obtain⟨b,o,rfl,hl,c0,c1,c2,c3,c4,_⟩:=HR.out.2 k hlt;have HTk:Hid ((T k).size≤1048576):=HT.out k hlt;have HM:Hid (_=_):=HALL.out k hlt;have hs:=hbel.size;have HSr:=hd (HSW.out.below hbel);have HZ:Hid ((mtT K C R T M k).size≤31457790):=by have:=ED (K:=K) (C:=C) (R:=R) (M:=M) k (fun i hi=>HT.out i (by omega));exact(by omega:(mtT K C R T M k).size≤31457790)
   have HL:Hid ((Kl (K k) (C k) (R k) (T k) (M k)).size≤1048592):=by have h1:=Qa7 (K k) (C k) (R k) (T k) (M k);have h2:=HTk.out;exact(by omega:(Kl (K k) (C k) (R k) (T k) (M k)).size≤1048592)
   have HN:Hid (mtT K C R T M (k+1)=mtT K C R T M k++(Kl (K k) (C k) (R k) (T k) (M k)++⟨#[10]⟩)):=rfl;rw [←hbel.cell (p:=⟨_,_,none⟩) hl]at c0 c1 c2 c3 c4;have hl2:b<wr.heap.size:=Nat.lt_of_lt_of_le hl hs;have h0:(0:Int)≤(k:Int):=by omega
   have h1:(k:Int)<(n:Int):=by omega
   obtain⟨s,HS⟩: ∃s:ByteArray,Hid (s=mtT K C R T M k):=⟨_,rfl⟩;obtain⟨l,HLL⟩: ∃l:ByteArray,Hid (l=Kl (K k) (C k) (R k) (T k) (M k)):=⟨_,rfl⟩;rw [←HS.out]at HZ HN ⊢;rw [←HLL.out]at HL HN;have hz:=HZ.out;have hl9:=HL.out;have e1:(⟨#[10]⟩:ByteArray).size=1:=rfl
   have r1: ∀W,(Op.stringOp .add l ⟨#[10]⟩).run Tryz.prog W= .ok (.string (l++⟨#[10]⟩)) W:=fun W=>run_string_add_sum W _ _ (by omega);have r2: ∀W,(Op.stringOp .add s (l++⟨#[10]⟩)).run Tryz.prog W= .ok (.string (s++(l++⟨#[10]⟩))) W:=fun W=>run_string_add_sum W _ _ (by rw [ByteArray.size_append];omega);have q1: ¬9223372036854775807<l.size+1:=by omega
   have q2: ¬9223372036854775807<s.size+(l++(⟨#[10]⟩:ByteArray)).size:=by rw [ByteArray.size_append];omega
   have q3: ¬9223372036854775807<s.size+(l.size+1):=by omega
   go_wp2_with (go_at_call 44;refine(impl_line _ _ _ _ _ _ _ _ HTk.out (by omega) (by omega) HM.out (HSr.out.below (by go_grown))).mono ?_;rintro e w2 ⟨rfl,hb⟩;rw [←HLL.out];have hk1:=Qc (w:=wr) (by go_grown) hb;clear hb)
   go_roundw
   case rel=>exact⟨k+1,by omega,by go_num,by rw [HN.out],Qc hbel (by go_grown)⟩
   case measure=>simp [intOf];omega
  ·have h1: ¬(k:Int)<(n:Int):=by omega
   obtain rfl:k=n:=by omega
   go_wp2_with fail
   go_ret;exact⟨Qv HF.out.symm,hbel⟩
theorem Mc (s w v p x:ByteArray):s++(w++v++(p++(⟨#[32]⟩:ByteArray))++x++nlb)=s++(w++v)++p++⟨#[32]⟩++x++⟨#[10]⟩:=by
 apply ByteArray.ext;simp [nlb,Array.append_assoc]
theorem Qip (s w v x:ByteArray):s++(w++v++(⟨#[]⟩:ByteArray)++x++nlb)=s++(w++v)++x++⟨#[10]⟩:=by
 apply ByteArray.ext;simp [nlb,Array.append_assoc]
theorem Yl (c r:Int) (x y:Bool) (w:World) (ho:Qg c r=false):Calls Tryz.prog 49 #[.agg #[.int .i64 c,.int .i64 r,.bool x,.bool y]] w fun e w'=>
  e= .returned (.string ⟨#[]⟩)∧Below w.heap.size w w':=by
 have HO:Hid (Qg c r=false):=ho;clear ho;go_enter Tryz.func49,Tryz.ntmps49
 go_wp2_with (first
  | (go_at_call 52;refine(Qp _ _ _).mono ?_;rintro e w1 ⟨rfl,hb⟩;rw [HO.out];obtain⟨hc,hf,hC,hF,hz,hk,l0⟩:=bk1 (w:=w) (by go_grown) (by go_size) hb;clear hb))
 go_ret;exact⟨rfl,by go_grown⟩
theorem Qgb {A:Option Addr} {n cap:Nat} {K C R:Nat→Int} {T:Nat→ByteArray} {M:Nat→Int} (w:World) (h:MsRow w A n K C R T M) (hT: ∀i,i<n→(T i).size≤1048576):
  Calls Tryz.prog 18 #[.slice A n cap] w fun e w'=>e= .returned (.string (mtO K C R T M n))∧Below w.heap.size w w':=by
 have HR:Hid (MsRow w A n K C R T M):=h;have HT:Hid (∀i,i<n→(T i).size≤1048576):=hT;have hn:=h.1;unfold maxLen at hn;clear h hT;cases hok:Zb K C R T M n
 ·have HOK:Hid (Zb K C R T M n=false):=hok;have HF:Hid (mtO K C R T M n=⟨#[]⟩):=by show _=_;unfold mtO;rw [hok];exact(rfl:_=_)
  clear hok;go_enter Tryz.func18,Tryz.ntmps18;go_wp2_with (go_at_call 20;refine(Kw _ HR.out HT.out).mono ?_;rintro e w1 ⟨rfl,hb⟩;rw [HOK.out])
  go_ret;exact⟨Qv HF.out.symm,hb⟩
 have HOK:Hid (Zb K C R T M n=true):=hok;have HF:Hid (mtO K C R T M n=mtT K C R T M n):=by show _=_;unfold mtO;rw [hok,if_pos rfl]
 obtain⟨hn30,hall⟩:=EH hok;have HALL:Hid (∀i,i<n→Zt (K i) (C i) (R i) (T i) (M i) i ((n:Int)-1-i)=true):=hall;clear hok hall;go_enter Tryz.func18,Tryz.ntmps18;go_wp2_with (go_at_call 20;refine(Kw _ HR.out HT.out).mono ?_;rintro e w1 ⟨rfl,hb1⟩;rw [HOK.out])
 go_loopw [3,4] (fun s i wr=> ∃k:Nat,k≤n∧i= .int .i64 k∧s= .string (mtT K C R T M k)∧Below w.heap.size w wr) (fun _ i _=>n-(intOf i).toNat)
 case atStart=>exact⟨0,Nat.zero_le _,rfl,rfl,hb1⟩
 case round=>
  clear hb1;obtain⟨k,hk0,rfl,rfl,hbel⟩:=hrel;by_cases hlt:k<n
  ·obtain⟨b,o,rfl,hl,c0,c1,c2,c3,c4,_⟩:=HR.out.2 k hlt;have HTk:Hid ((T k).size≤1048576):=HT.out k hlt;have hM:=HALL.out k hlt;have hs:=hbel.size;have HZ:Hid ((mtT K C R T M k).size≤31457790):=by have:=ED (K:=K) (C:=C) (R:=R) (M:=M) k (fun i hi=>HT.out i (by omega));exact(by omega:(mtT K C R T M k).size≤31457790)
   have HN0:Hid (mtT K C R T M (k+1)=mtT K C R T M k++(Kl (K k) (C k) (R k) (T k) (M k)++nlb)):=rfl;rw [←hbel.cell (p:=⟨_,_,none⟩) hl]at c0 c1 c2 c3 c4;have hl2:b<wr.heap.size:=Nat.lt_of_lt_of_le hl hs;have h0:(0:Int)≤(k:Int):=by omega
   have h1:(k:Int)<(n:Int):=by omega
   obtain⟨s,HS⟩: ∃s:ByteArray,Hid (s=mtT K C R T M k):=⟨_,rfl⟩;obtain⟨x,HX⟩: ∃x:ByteArray,Hid (x=T k):=⟨_,rfl⟩;rw [←HS.out]at HZ HN0 ⊢;rw [←HX.out]at HTk HN0 c3;have hz0:=HZ.out;have hx:=HTk.out;have e10:(⟨#[10]⟩:ByteArray).size=1:=rfl
   have e32:(⟨#[32]⟩:ByteArray).size=1:=rfl;rcases UJ hM with⟨hK,ho⟩ | ⟨hK,ho⟩ | ⟨hK,hC0,hR0,m1,m2⟩ | ⟨hK,hC0,hR0,m1,m2⟩ | ⟨hK,hC0,hR0⟩
   ·rw [hK]at c0;obtain⟨i,hRi,hi⟩:=Vi ho;rw [hRi]at c2;have HO:Hid (Qg (C k) i=true):=by rw [hRi]at ho;exact ho
    have HN:Hid (mtT K C R T M (k+1)=s++⟨#[115,101,116,32]⟩++Qr (C k) i false false++⟨#[32]⟩++x++⟨#[10]⟩):=by
     show _=_;rw [HN0.out,hK,hRi];unfold Kl JI;rw [if_pos (by omega)];exact Mc _ _ _ _ _
    have hp:(Qr (C k) i false false).size≤8:=JN _ _;obtain⟨p,HPP⟩: ∃p:ByteArray,Hid (p=Qr (C k) i false false):=⟨_,rfl⟩;rw [←HPP.out]at HN hp;clear ho hK hRi;obtain⟨u,HU⟩: ∃u:ByteArray,Hid (u=⟨#[115,101,116,32]⟩):=⟨_,rfl⟩;have hu:u.size=4:=by rw [HU.out];rfl
    have a1: ∀W,(Op.stringOp .add s ⟨#[115,101,116,32]⟩).run Tryz.prog W= .ok (.string (s++u)) W:=fun W=>by rw [←HU.out];exact run_string_add_sum W _ _ (by omega)
    have a2: ∀W,(Op.stringOp .add (s++u) p).run Tryz.prog W= .ok (.string (s++u++p)) W:=fun W=>run_string_add_sum W _ _ (by rw [ByteArray.size_append];omega);have a3: ∀W,(Op.stringOp .add (s++u++p) ⟨#[32]⟩).run Tryz.prog W= .ok (.string (s++u++p++⟨#[32]⟩)) W:=fun W=>run_string_add_sum W _ _ (by rw [ByteArray.size_append,ByteArray.size_append];omega);have a4: ∀W,(Op.stringOp .add (s++u++p++⟨#[32]⟩) x).run Tryz.prog W= .ok (.string (s++u++p++⟨#[32]⟩++x)) W:=fun W=>run_string_add_sum W _ _ (by rw [ByteArray.size_append,ByteArray.size_append,ByteArray.size_append];omega);have a5: ∀W,(Op.stringOp .add (s++u++p++⟨#[32]⟩++x) ⟨#[10]⟩).run Tryz.prog W= .ok (.string (s++u++p++⟨#[32]⟩++x++⟨#[10]⟩)) W:=fun W=>run_string_add_sum W _ _ (by rw [ByteArray.size_append,ByteArray.size_append,ByteArray.size_append,ByteArray.size_append];omega);rw [←HU.out]at HN;go_wp2_with (go_at_call 49;refine(QT (C k) i false false _ hi HO.out).mono ?_;rintro e w1 ⟨rfl,hb⟩;rw [←HPP.out];obtain⟨hc,hf,hC,hF,hz,hk,l0⟩:=bk1 (w:=wr) (by go_grown) (by go_size) hb;clear hb)
    all_goals
     go_roundw
     case rel=>exact⟨k+1,by omega,by go_num,by rw [HN.out],Qc hbel (by go_grown)⟩
     case measure=>simp [intOf];omega
   ·rw [hK]at c0;obtain⟨i,hRi,hi⟩:=Vi ho;rw [hRi]at c2;have HO:Hid (Qg (C k) i=true):=by rw [hRi]at ho;exact ho
    have HN:Hid (mtT K C R T M (k+1)=s++⟨#[112,117,116,32]⟩++Qr (C k) i false false++⟨#[32]⟩++x++⟨#[10]⟩):=by
     show _=_;rw [HN0.out,hK,hRi];unfold Kl JI;rw [if_pos (by omega)];exact Mc _ _ _ _ _
    have hp:(Qr (C k) i false false).size≤8:=JN _ _;obtain⟨p,HPP⟩: ∃p:ByteArray,Hid (p=Qr (C k) i false false):=⟨_,rfl⟩;rw [←HPP.out]at HN hp;clear ho hK hRi;obtain⟨u,HU⟩: ∃u:ByteArray,Hid (u=⟨#[112,117,116,32]⟩):=⟨_,rfl⟩;have hu:u.size=4:=by rw [HU.out];rfl
    have a1: ∀W,(Op.stringOp .add s ⟨#[112,117,116,32]⟩).run Tryz.prog W= .ok (.string (s++u)) W:=fun W=>by rw [←HU.out];exact run_string_add_sum W _ _ (by omega)
    have a2: ∀W,(Op.stringOp .add (s++u) p).run Tryz.prog W= .ok (.string (s++u++p)) W:=fun W=>run_string_add_sum W _ _ (by rw [ByteArray.size_append];omega);have a3: ∀W,(Op.stringOp .add (s++u++p) ⟨#[32]⟩).run Tryz.prog W= .ok (.string (s++u++p++⟨#[32]⟩)) W:=fun W=>run_string_add_sum W _ _ (by rw [ByteArray.size_append,ByteArray.size_append];omega);have a4: ∀W,(Op.stringOp .add (s++u++p++⟨#[32]⟩) x).run Tryz.prog W= .ok (.string (s++u++p++⟨#[32]⟩++x)) W:=fun W=>run_string_add_sum W _ _ (by rw [ByteArray.size_append,ByteArray.size_append,ByteArray.size_append];omega);have a5: ∀W,(Op.stringOp .add (s++u++p++⟨#[32]⟩++x) ⟨#[10]⟩).run Tryz.prog W= .ok (.string (s++u++p++⟨#[32]⟩++x++⟨#[10]⟩)) W:=fun W=>run_string_add_sum W _ _ (by rw [ByteArray.size_append,ByteArray.size_append,ByteArray.size_append,ByteArray.size_append];omega);rw [←HU.out]at HN;go_wp2_with (go_at_call 49;refine(QT (C k) i false false _ hi HO.out).mono ?_;rintro e w1 ⟨rfl,hb⟩;rw [←HPP.out];obtain⟨hc,hf,hC,hF,hz,hk,l0⟩:=bk1 (w:=wr) (by go_grown) (by go_size) hb;clear hb)
    all_goals
     go_roundw
     case rel=>exact⟨k+1,by omega,by go_num,by rw [HN.out],Qc hbel (by go_grown)⟩
     case measure=>simp [intOf];omega
   ·rw [hK]at c0;rw [hC0]at c1;rw [hR0]at c2;obtain⟨i,hMi,hi⟩: ∃i:Nat,M k=(i:Int)∧i<100:=⟨(M k).toNat,by omega,by omega⟩;rw [hMi]at c4
    have HN:Hid (mtT K C R T M (k+1)=s++⟨#[117,110,108,101,115,115,32]⟩++Yd i++⟨#[32]⟩++x++⟨#[10]⟩):=by
     show _=_;rw [HN0.out,hK,hMi];unfold Kl JI;rw [if_neg (by omega),if_pos (by omega)];exact Mc _ _ _ _ _
    have hp:(Yd i).size≤2:=Yb i;obtain⟨p,HPP⟩: ∃p:ByteArray,Hid (p=Yd i):=⟨_,rfl⟩;rw [←HPP.out]at HN hp;clear hK hC0 hR0 hMi m1 m2;obtain⟨u,HU⟩: ∃u:ByteArray,Hid (u=⟨#[117,110,108,101,115,115,32]⟩):=⟨_,rfl⟩;have hu:u.size=7:=by rw [HU.out];rfl
    have a1: ∀W,(Op.stringOp .add s ⟨#[117,110,108,101,115,115,32]⟩).run Tryz.prog W= .ok (.string (s++u)) W:=fun W=>by rw [←HU.out];exact run_string_add_sum W _ _ (by omega)
    have a2: ∀W,(Op.stringOp .add (s++u) p).run Tryz.prog W= .ok (.string (s++u++p)) W:=fun W=>run_string_add_sum W _ _ (by rw [ByteArray.size_append];omega);have a3: ∀W,(Op.stringOp .add (s++u++p) ⟨#[32]⟩).run Tryz.prog W= .ok (.string (s++u++p++⟨#[32]⟩)) W:=fun W=>run_string_add_sum W _ _ (by rw [ByteArray.size_append,ByteArray.size_append];omega);have a4: ∀W,(Op.stringOp .add (s++u++p++⟨#[32]⟩) x).run Tryz.prog W= .ok (.string (s++u++p++⟨#[32]⟩++x)) W:=fun W=>run_string_add_sum W _ _ (by rw [ByteArray.size_append,ByteArray.size_append,ByteArray.size_append];omega);have a5: ∀W,(Op.stringOp .add (s++u++p++⟨#[32]⟩++x) ⟨#[10]⟩).run Tryz.prog W= .ok (.string (s++u++p++⟨#[32]⟩++x++⟨#[10]⟩)) W:=fun W=>run_string_add_sum W _ _ (by rw [ByteArray.size_append,ByteArray.size_append,ByteArray.size_append,ByteArray.size_append];omega);rw [←HU.out]at HN;go_wp2_with (go_at_call 49;refine(Yl 0 0 false false _ (by decide)).mono ?_;rintro e w1 ⟨rfl,hb⟩;obtain⟨hc,hf,hC,hF,hz,hk,l0⟩:=bk1 (w:=wr) (by go_grown) (by go_size) hb;clear hb)
    have d3:w1.cell? ⟨wr.heap.size,3,none⟩=some (.string x):=by rw [hc _ _ (by omega)];simp
    have d4:w1.cell? ⟨wr.heap.size,4,none⟩=some (.int .i64 i):=by rw [hc _ _ (by omega)];simp
    go_region_held3 (fun w'=>(∀bq oq,bq<w1.heap.size→w'.cell? ⟨bq,oq,none⟩=w1.cell? ⟨bq,oq,none⟩)∧w1.heap.size≤w'.heap.size∧Below w1.heap.size w1 w')
     (exact Qq (by go_size) (by go_grown))
     (first
     | (go_at_call 50;refine(Kg i hi _).mono ?_;rintro e w2 ⟨rfl,hb⟩;rw [←HPP.out];obtain⟨hk1,hz1⟩:=Qh (B:=w1.heap.size) (X:=w1) (by go_grown) (by go_size) hb;have hC2:=fun b o h=>hk1.cell (p:=⟨b,o,none⟩) h;clear hb))
    all_goals go_wp2_with fail
    all_goals
     go_roundw
     case rel=>exact⟨k+1,by omega,by go_num,by rw [HN.out],Qc hbel (Qc hk (by go_grown))⟩
     case measure=>simp [intOf];omega
   ·rw [hK]at c0;rw [hC0]at c1;rw [hR0]at c2;obtain⟨i,hMi,hi⟩: ∃i:Nat,M k=(i:Int)∧i<100:=⟨(M k).toNat,by omega,by omega⟩;rw [hMi]at c4
    have HN:Hid (mtT K C R T M (k+1)=s++⟨#[119,104,105,108,101,32]⟩++Yd i++⟨#[32]⟩++x++⟨#[10]⟩):=by
     show _=_;rw [HN0.out,hK,hMi];unfold Kl JI;rw [if_neg (by omega),if_pos (by omega)];exact Mc _ _ _ _ _
    have hp:(Yd i).size≤2:=Yb i;obtain⟨p,HPP⟩: ∃p:ByteArray,Hid (p=Yd i):=⟨_,rfl⟩;rw [←HPP.out]at HN hp;clear hK hC0 hR0 hMi m1 m2;obtain⟨u,HU⟩: ∃u:ByteArray,Hid (u=⟨#[119,104,105,108,101,32]⟩):=⟨_,rfl⟩;have hu:u.size=6:=by rw [HU.out];rfl
    have a1: ∀W,(Op.stringOp .add s ⟨#[119,104,105,108,101,32]⟩).run Tryz.prog W= .ok (.string (s++u)) W:=fun W=>by rw [←HU.out];exact run_string_add_sum W _ _ (by omega)
    have a2: ∀W,(Op.stringOp .add (s++u) p).run Tryz.prog W= .ok (.string (s++u++p)) W:=fun W=>run_string_add_sum W _ _ (by rw [ByteArray.size_append];omega);have a3: ∀W,(Op.stringOp .add (s++u++p) ⟨#[32]⟩).run Tryz.prog W= .ok (.string (s++u++p++⟨#[32]⟩)) W:=fun W=>run_string_add_sum W _ _ (by rw [ByteArray.size_append,ByteArray.size_append];omega);have a4: ∀W,(Op.stringOp .add (s++u++p++⟨#[32]⟩) x).run Tryz.prog W= .ok (.string (s++u++p++⟨#[32]⟩++x)) W:=fun W=>run_string_add_sum W _ _ (by rw [ByteArray.size_append,ByteArray.size_append,ByteArray.size_append];omega);have a5: ∀W,(Op.stringOp .add (s++u++p++⟨#[32]⟩++x) ⟨#[10]⟩).run Tryz.prog W= .ok (.string (s++u++p++⟨#[32]⟩++x++⟨#[10]⟩)) W:=fun W=>run_string_add_sum W _ _ (by rw [ByteArray.size_append,ByteArray.size_append,ByteArray.size_append,ByteArray.size_append];omega);rw [←HU.out]at HN;go_wp2_with (go_at_call 49;refine(Yl 0 0 false false _ (by decide)).mono ?_;rintro e w1 ⟨rfl,hb⟩;obtain⟨hc,hf,hC,hF,hz,hk,l0⟩:=bk1 (w:=wr) (by go_grown) (by go_size) hb;clear hb)
    have d3:w1.cell? ⟨wr.heap.size,3,none⟩=some (.string x):=by rw [hc _ _ (by omega)];simp
    have d4:w1.cell? ⟨wr.heap.size,4,none⟩=some (.int .i64 i):=by rw [hc _ _ (by omega)];simp
    go_region_held3 (fun w'=>(∀bq oq,bq<w1.heap.size→w'.cell? ⟨bq,oq,none⟩=w1.cell? ⟨bq,oq,none⟩)∧w1.heap.size≤w'.heap.size∧Below w1.heap.size w1 w')
     (exact Qq (by go_size) (by go_grown))
     (first
     | (go_at_call 50;refine(Kg i hi _).mono ?_;rintro e w2 ⟨rfl,hb⟩;rw [←HPP.out];obtain⟨hk1,hz1⟩:=Qh (B:=w1.heap.size) (X:=w1) (by go_grown) (by go_size) hb;have hC2:=fun b o h=>hk1.cell (p:=⟨b,o,none⟩) h;clear hb))
    all_goals go_wp2_with fail
    all_goals
     go_roundw
     case rel=>exact⟨k+1,by omega,by go_num,by rw [HN.out],Qc hbel (Qc hk (by go_grown))⟩
     case measure=>simp [intOf];omega
   ·rw [hK]at c0;rw [hC0]at c1;rw [hR0]at c2
    have HN:Hid (mtT K C R T M (k+1)=s++⟨#[97,98,111,114,116,32]⟩++x++⟨#[10]⟩):=by
     show _=_;rw [HN0.out,hK];unfold Kl JI;rw [if_neg (by omega),if_neg (by omega)];exact Qip _ _ _ _
    clear hK hC0 hR0;obtain⟨u,HU⟩: ∃u:ByteArray,Hid (u=⟨#[97,98,111,114,116,32]⟩):=⟨_,rfl⟩;have hu:u.size=6:=by rw [HU.out];rfl
    have a1: ∀W,(Op.stringOp .add s ⟨#[97,98,111,114,116,32]⟩).run Tryz.prog W= .ok (.string (s++u)) W:=fun W=>by rw [←HU.out];exact run_string_add_sum W _ _ (by omega)
    have a2: ∀W,(Op.stringOp .add (s++u) x).run Tryz.prog W= .ok (.string (s++u++x)) W:=fun W=>run_string_add_sum W _ _ (by rw [ByteArray.size_append];omega);have a3: ∀W,(Op.stringOp .add (s++u++x) ⟨#[10]⟩).run Tryz.prog W= .ok (.string (s++u++x++⟨#[10]⟩)) W:=fun W=>run_string_add_sum W _ _ (by rw [ByteArray.size_append,ByteArray.size_append];omega);rw [←HU.out]at HN;go_wp2_with (go_at_call 49;refine(Yl 0 0 false false _ (by decide)).mono ?_;rintro e w1 ⟨rfl,hb⟩;obtain⟨hc,hf,hC,hF,hz,hk,l0⟩:=bk1 (w:=wr) (by go_grown) (by go_size) hb;clear hb)
    all_goals
     go_roundw
     case rel=>exact⟨k+1,by omega,by go_num,by rw [HN.out],Qc hbel (by go_grown)⟩
     case measure=>simp [intOf];omega
  ·have h1: ¬(k:Int)<(n:Int):=by omega
   obtain rfl:k=n:=by omega
   go_wp2_with fail
   go_ret;exact⟨Qv HF.out.symm,hbel⟩
end Go.Proofs.YtejbnnacghbhoaaGreatDoor
