import Derived.Test.YtonhcgkagdpdlaaGreatDoorGah
import Derived.Laws.BytesString
set_option linter.unusedSimpArgs false
set_option linter.unusedVariables false
set_option maxHeartbeats 2000000
set_option maxRecDepth 100000
namespace Go.Proofs.YtonhcgkagdpdlaaGreatDoor
open Go.RowKit
theorem conv0V (W:World) (b:Nat) (v:Int) (hv:W.cell? ⟨b,0,none⟩=some (.int .u8 v)):
  (convert 22 9 (.slice (some ⟨b,0,none⟩) 1 1)).run Tryz.prog W= .ok (.string ⟨#[UInt8.ofNat v.toNat]⟩) W:=by
 rw [run_convert_bytes_string W 22 9 5 (some ⟨b,0,none⟩) 1 1 Tryz.underlying22 Tryz.underlying5 Tryz.underlying9]
 have hl:=run_loadCells_list (P:=Tryz.prog) W ⟨b,0,none⟩ [.int .u8 v] (fun j x hj=>by
  match j,hj with
  | 0,hj=>simp at hj;simpa [Addr.add,←hj]using hv)
 rw [run_bytesToString W ⟨b,0,none⟩ 1 1 [v] (by simpa using hl)]
 rfl
theorem conv1V (W:World) (v:Int):(convert 22 9 (.slice (some ⟨W.heap.size,0,none⟩) 1 1)).run Tryz.prog (W.alloc (.cells #[.int .u8 v] 5))=
  .ok (.string ⟨#[UInt8.ofNat v.toNat]⟩) (W.alloc (.cells #[.int .u8 v] 5)):=conv0V _ _ v (by simp)
def VarT (W : World) : Prop := Lib.TabIs Tryz.prog W "internal/strconv.uint64pow10" .u64 Lib.pow10Tab
theorem VarT.below {W w':World} (h:VarT W) (hb:Below W.heap.size W w'):VarT w':=var_keep h hb
def itB (n:Int):ByteArray:=⟨(Lib.itoa n).toArray⟩
theorem rNum_b {n:Int} (h:rNum n=true): -1000000000000000≤n∧n≤1000000000000000:=of_decide_eq_true h
def dcGo (m:Nat) (s:ByteArray):ByteArray:=if h:m<10 then(⟨#[48+UInt8.ofNat m]⟩:ByteArray)++s else dcGo (m/10) ((⟨#[48+UInt8.ofNat (m%10)]⟩:ByteArray)++s)
 termination_by m
 decreasing_by omega
theorem dcGo_low {m:Nat} (h:m<10) (s:ByteArray):dcGo m s=(⟨#[48+UInt8.ofNat m]⟩:ByteArray)++s:=by rw [dcGo,dif_pos h]
theorem dcGo_step {m:Nat} (h: ¬m<10) (s:ByteArray):dcGo m s=dcGo (m/10) ((⟨#[48+UInt8.ofNat (m%10)]⟩:ByteArray)++s):=by rw [dcGo,dif_neg h]
theorem ba_cat (l r:List UInt8):(⟨l.toArray⟩:ByteArray)++(⟨r.toArray⟩:ByteArray)=⟨(l++r).toArray⟩:=by apply ByteArray.ext;simp
theorem ba_assoc (x y z:ByteArray):(x++y)++z=x++(y++z):=by apply ByteArray.ext;simp [Array.append_assoc]
theorem dg_byte (m:Nat) (h:m<10):(48:UInt8)+UInt8.ofNat m=UInt8.ofNat (48+m):=by
 apply UInt8.toNat_inj.1
 simp [UInt8.toNat_add]
theorem dcGo_eq (m:Nat): ∀s,dcGo m s=(⟨(Lib.decDigits m).toArray⟩:ByteArray)++s:=by
 induction m using Nat.strongRecOn with
 | ind m ih=>
  intro s
  by_cases h:m<10
  ·rw [dcGo_low h,Lib.decDigits_one h,dg_byte m h]
  ·rw [dcGo_step h,ih (m/10) (by omega),Lib.decDigits.eq_1 m,dif_neg h,←ba_cat,ba_assoc,dg_byte (m%10) (by omega)]
theorem cat_nil' (x:ByteArray):x++(⟨#[]⟩:ByteArray)=x:=by apply ByteArray.ext;simp
theorem dcGo_it (m:Nat):dcGo m ⟨#[]⟩=itB (m:Int):=by rw [dcGo_eq,cat_nil',itB,Lib.itoa_nonneg]
theorem it_neg (m:Nat) (h:1≤m):(⟨#[45]⟩:ByteArray)++itB (m:Int)=itB (-(m:Int)):=by
 unfold itB
 rw [Lib.itoa_neg m h,Lib.itoa_nonneg]
 exact ba_cat [45] _
theorem itB_size {m:Nat} (h:m<10000000000000000):(itB (m:Int)).size≤16:=by
 have h1:=dec_len 15 m (by simpa using h)
 unfold itB
 rw [Lib.itoa_nonneg]
 exact h1
theorem l1Dec_pos (m:Nat) (w:World) (hm:m≤1000000000000000):Calls Tryz.prog 50 #[.int .i64 m] w fun e w'=>e= .returned (.string (itB (m:Int)))∧Below w.heap.size w w':=by
 have HD:Hid (dcGo m ⟨#[]⟩=itB (m:Int)):=dcGo_it m
 have hn0: ¬(m:Int)<0:=by omega
 go_enter Tryz.func50,Tryz.ntmps50
 go_wp2_with fail
 go_loopw [0,3] (fun q o wr=> ∃(j:Nat) (s:ByteArray),q= .int .i64 j∧o= .string s∧s.size+j≤m∧dcGo j s=itB (m:Int)∧Below w.heap.size w wr) (fun q _ _=>(intOf q).toNat)
 case atStart=>exact⟨m,⟨#[]⟩,rfl,rfl,by show 0+m≤m;omega,HD.out,Below.refl _ _⟩
 case round=>
  clear HD
  obtain⟨j,s,rfl,rfl,hsm,hgo,hbel⟩:=hrel
  have HG:Hid (dcGo j s=itB (m:Int)):=hgo
  clear hgo
  have hcv:= @conv1V
  have hs1: ¬9223372036854775807<1+s.size:=by omega
  by_cases hlo:j<10
  ·have hj: ¬10≤(j:Int):=by omega
   have hj':(j:Int)<10:=by omega
   have HF:Hid ((⟨#[48+UInt8.ofNat j]⟩:ByteArray)++s=itB (m:Int)):=by show _=_;rw [←HG.out,dcGo_low hlo]
   go_wp2_with fail
   go_ret
   exact⟨by rw [←HF.out];rfl,by have hbs:=hbel.size;go_grown⟩
  ·have hj:10≤(j:Int):=by omega
   have HS:=HG.out
   rw [dcGo_step hlo]at HS
   have HT:Hid (dcGo (j/10) ((⟨#[48+UInt8.ofNat (j%10)]⟩:ByteArray)++s)=itB (m:Int)):=HS
   clear HS HG
   go_wp2_with fail
   all_goals
    go_roundw
    case rel=>exact⟨j/10,_,by congr 1,rfl,by rw [ByteArray.size_append];show(1+s.size)+j/10≤m;omega,HT.out,by have hbs:=hbel.size;go_grown⟩
    case measure=>simp [intOf];omega
theorem l1Dec_neg (m:Nat) (w:World) (h0:1≤m) (hm:m≤1000000000000000):Calls Tryz.prog 50 #[.int .i64 (-(m:Int))] w fun e w'=>e= .returned (.string (itB (-(m:Int))))∧Below w.heap.size w w':=by
 have HD:Hid ((⟨#[45]⟩:ByteArray)++itB (m:Int)=itB (-(m:Int))):=it_neg m h0
 have hz:=itB_size (m:=m) (by omega)
 obtain⟨t,HT⟩: ∃t,Hid (itB (m:Int)=t):=⟨_,rfl⟩
 rw [HT.out]at hz
 have hs1: ¬9223372036854775807<1+t.size:=by omega
 have hn0: -(m:Int)<0:=by omega
 have hn1:(0:Int)<(m:Int):=by omega
 have hn2:(0:Nat)<m:=by omega
 have hn3: - -(m:Int)=(m:Int):=by omega
 go_enter Tryz.func50,Tryz.ntmps50
 go_wp2_with (first
  | (go_at_call 50;refine(l1Dec_pos m _ hm).mono ?_;rintro e w1 ⟨rfl,hb⟩;rw [HT.out]))
 go_ret
 exact⟨by rw [←HD.out,HT.out];rfl,hb⟩
theorem spec_l1DecV (n:Int) (w:World) (h:rNum n=true):Calls Tryz.prog 50 #[.int .i64 n] w fun e w'=>e= .returned (.string (itB n))∧Below w.heap.size w w':=by
 have hb:=rNum_b h
 by_cases hn:n<0
 ·obtain⟨m,rfl⟩: ∃m:Nat,n= -(m:Int):=⟨n.natAbs,by omega⟩
  exact l1Dec_neg m w (by omega) (by omega)
 ·obtain⟨m,rfl⟩: ∃m:Nat,n=(m:Int):=⟨n.toNat,by omega⟩
  exact l1Dec_pos m w (by omega)
end Go.Proofs.YtonhcgkagdpdlaaGreatDoor
