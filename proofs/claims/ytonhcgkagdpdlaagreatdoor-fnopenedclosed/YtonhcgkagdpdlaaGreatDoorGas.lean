import Derived.Test.YtonhcgkagdpdlaaGreatDoorGai
import Derived.Test.YtonhcgkagdpdlaaGreatDoorGaa
import Derived.Deep.RegionHeld3
set_option linter.unusedSimpArgs false
set_option linter.unusedVariables false
set_option maxHeartbeats 4000000
namespace Go.Proofs.YtonhcgkagdpdlaaGreatDoor
open Go.RowKit
def decS (i:Nat):ByteArray:=if i<10 then⟨#[UInt8.ofNat (48+i)]⟩else⟨#[UInt8.ofNat (48+i/10),UInt8.ofNat (48+i%10)]⟩
theorem dec1: ∀i,i<10→(⟨#[48+UInt8.ofNat i]⟩:ByteArray)=decS i:=by decide+kernel
theorem dec2: ∀q,q<10→ ∀r,r<10→ ¬10*q+r<10→(⟨#[48+UInt8.ofNat q,48+UInt8.ofNat r]⟩:ByteArray)=decS (10*q+r):=by decide+kernel
theorem spec_l1Dec (i:Nat) (hi:i<100) (w:World):Calls Tryz.prog 50 #[.int .i64 i] w fun e w'=>
  e= .returned (.string (decS i))∧Below w.heap.size w w':=by
 have hc0:=fun W v=>conv1P W v
 by_cases h:i<10
 ·have h1: ¬(i:Int)<0:=by omega
  have h2: ¬10≤(i:Int):=by omega
  go_enter Tryz.func50,Tryz.ntmps50
  go_wp2
  refine wp_loop_rounds 4 ?_
  rw [rounds_succ]
  go_wp2
  go_ret
  exact⟨ret_str (by rw [cat_nilP];exact dec1 i h),by go_grown⟩
 ·obtain⟨q,r,hq,hr,rfl⟩: ∃q r,q<10∧r<10∧i=10*q+r:=⟨i/10,i%10,by omega,by omega,by omega⟩
  have hc2:=fun W o v=>conv2 W o v
  have e1:((10*q+r:Nat):Int)%10=(r:Int):=by omega
  have e2:((10*q+r:Nat):Int)/10=(q:Int):=by omega
  obtain⟨n,hn⟩: ∃n:Int,n=((10*q+r:Nat):Int):=⟨_,rfl⟩
  rw [←hn]at e1 e2
  have h1: ¬n<0:=by omega
  have h2:10≤n:=by omega
  have h3:n≤99:=by omega
  have h4: ¬10≤(q:Int):=by omega
  have HD:Hid (¬10*q+r<10):=h
  rw [←hn]
  clear hn hi h
  go_enter Tryz.func50,Tryz.ntmps50
  go_wp2
  refine wp_loop_rounds 4 ?_
  rw [rounds_succ]
  go_wp2
  rw [rounds_succ]
  go_wp2
  go_ret
  exact⟨ret_str (by rw [cat_nilP,cat_oneP];exact dec2 q hq r hr HD.out),by go_grown⟩
def fx (b:Bool):ByteArray:=if b then⟨#[36]⟩else⟨#[]⟩
theorem fx_size (b:Bool):(fx b).size≤1:=by cases b<;>decide
theorem colT_size (n:Int):(colT n).size≤2:=by
 unfold colT
 split
 ·exact Nat.le_succ 1
 ·split
  ·exact Nat.le_refl 2
  ·exact Nat.zero_le 2
theorem decS_size (i:Nat):(decS i).size≤2:=by
 unfold decS
 split
 ·exact Nat.le_succ 1
 ·exact Nat.le_refl 2
def placeT (c:Int) (i:Nat) (x y:Bool):ByteArray:=fx x++colT c++fx y++decS i
theorem spec_PlaceText_no (c r:Int) (x y:Bool) (w:World) (ho:refOkB c r=false):Calls Tryz.prog 48 #[.agg #[.int .i64 c,.int .i64 r,.bool x,.bool y]] w fun e w'=>
  e= .returned (.string ⟨#[]⟩)∧Below w.heap.size w w':=by
 have HO:Hid (refOkB c r=false):=ho
 clear ho
 go_enter Tryz.func48,Tryz.ntmps48
 go_wp2_with (first
  | (go_at_call 62;refine(spec_RefOk _ _ _).mono ?_;rintro e w1 ⟨rfl,hb⟩;rw [HO.out];obtain⟨hc,hf,hC,hF,hz,hk,l0⟩:=bk1 (w:=w) (by go_grown) (by go_size) hb;clear hb))
 go_ret
 exact⟨rfl,by go_grown⟩
theorem nil_cat (x:ByteArray):(⟨#[]⟩:ByteArray)++x=x:=by apply ByteArray.ext;simp
theorem spec_PlaceText_ok (c:Int) (i:Nat) (x y:Bool) (w:World) (hi:i<100) (ho:refOkB c i=true):Calls Tryz.prog 48 #[.agg #[.int .i64 c,.int .i64 i,.bool x,.bool y]] w fun e w'=>
  e= .returned (.string (placeT c i x y))∧Below w.heap.size w w':=by
 have HO:Hid (refOkB c i=true):=ho
 clear ho
 obtain⟨r1,r2,r3,r4,r5⟩:(∀W,(Op.stringOp .add ⟨#[36]⟩ (colT c)).run Tryz.prog W= .ok (.string (⟨#[36]⟩++colT c)) W)∧(∀W,(Op.stringOp .add (⟨#[36]⟩++colT c) ⟨#[36]⟩).run Tryz.prog W= .ok (.string (⟨#[36]⟩++colT c++⟨#[36]⟩)) W)∧(∀W,(Op.stringOp .add (colT c) ⟨#[36]⟩).run Tryz.prog W= .ok (.string (colT c++⟨#[36]⟩)) W)∧
   (∀s:ByteArray,s.size≤10→ ∀W,(Op.stringOp .add s (decS i)).run Tryz.prog W= .ok (.string (s++decS i)) W)∧(colT c).size≤2:=by
  have s3:=colT_size c
  have s4:=decS_size i
  have s5:(⟨#[36]⟩:ByteArray).size=1:=rfl
  refine⟨fun W=>run_string_add_sum W _ _ ?_,fun W=>run_string_add_sum W _ _ ?_,fun W=>run_string_add_sum W _ _ ?_,fun s hs W=>run_string_add_sum W _ _ ?_,s3⟩
  ·omega
  ·rw [ByteArray.size_append];omega
  ·omega
  ·omega
 have q1:=r4 (colT c) (by omega)
 have q2:=r4 (⟨#[36]⟩++colT c) (by rw [ByteArray.size_append];have:(⟨#[36]⟩:ByteArray).size=1:=rfl;omega)
 have q3:=r4 (colT c++⟨#[36]⟩) (by rw [ByteArray.size_append];have:(⟨#[36]⟩:ByteArray).size=1:=rfl;omega)
 have q4:=r4 (⟨#[36]⟩++colT c++⟨#[36]⟩) (by rw [ByteArray.size_append,ByteArray.size_append];have:(⟨#[36]⟩:ByteArray).size=1:=rfl;omega)
 clear r4 r5
 cases x<;>cases y
 all_goals
  go_enter Tryz.func48,Tryz.ntmps48
  go_wp2_with (first
   | (go_at_call 62;refine(spec_RefOk _ _ _).mono ?_;rintro e w1 ⟨rfl,hb⟩;rw [HO.out];obtain⟨hc,hf,hC,hF,hz,hk,l0⟩:=bk1 (w:=w) (by go_grown) (by go_size) hb;clear hb)
   | (go_at_call 69;refine(spec_ColText _ _).mono ?_;rintro e w1 ⟨rfl,hb⟩;obtain⟨hc,hf,hC,hF,hz,hk,l0⟩:=bk1 (w:=w) (by go_grown) (by go_size) hb;clear hb)
   | (go_at_call 50;refine(spec_l1Dec i hi _).mono ?_;rintro e w1 ⟨rfl,hb⟩;obtain⟨hc,hf,hC,hF,hz,hk,l0⟩:=bk1 (w:=w) (by go_grown) (by go_size) hb;clear hb))
  go_ret
  exact⟨ret_str (by simp [placeT,fx,nil_cat,cat_nilP]),by go_grown⟩
end Go.Proofs.YtonhcgkagdpdlaaGreatDoor
