import Derived.Test.YtbdhinckiccniaaGreatDoorMn
import Derived.Test.YtbdhinckiccniaaGreatDoorGzb
set_option linter.unusedSimpArgs false
set_option linter.unusedVariables false
set_option maxHeartbeats 40000000
set_option maxRecDepth 100000
namespace Go.Proofs.YtbdhinckiccniaaGreatDoor
open Go.RowKit
def FtD (n:Int) (B:Nat):Prop:= ∀(r:Nat) (A:Option Addr) (len cap:Nat) (w:World),Rd w r A len cap→Calls Tryz.prog 93 #[.pointer (some ⟨r,0,none⟩),.int .i64 n] w fun e w'=>
  ∃t:ByteArray,e= .returned (.string t)∧t.size≤B∧Rd w' r A len cap∧Upd r w w'
theorem Qs {x y:ByteArray} {B:Nat} (h:x.size+y.size≤B) (hB:B≤1000000): ∀W,(Op.stringOp .add x y).run Tryz.prog W= .ok (.string (x++y)) W:=Qg3 x y (by omega)
def Jx (n:Nat):ByteArray:=match n with
 | 0=>⟨#[78,79,84]⟩
 | 1=>⟨#[65,66,83]⟩
 | _=>⟨#[76,69,78]⟩
theorem OK (n:Nat):(Jx n).size=3:=by unfold Jx;split<;>rfl
def XA (n:Nat):ByteArray:=match n with
 | 0=>⟨#[83,85,77]⟩
 | 1=>⟨#[77,73,78]⟩
 | 2=>⟨#[77,65,88]⟩
 | 3=>⟨#[67,79,85,78,84]⟩
 | 4=>⟨#[65,78,68]⟩
 | _=>⟨#[79,82]⟩
theorem Qk (n:Nat):(XA n).size≤5:=by unfold XA;split<;>decide
theorem Qn (b:UInt8):(⟨#[b]⟩:ByteArray).size=1:=rfl
theorem af1 (m:Nat) (t5:ByteArray) (h:t5.size≤100000): ∀W,(Op.stringOp .add (XA m++⟨#[40]⟩) t5).run Tryz.prog W= .ok (.string (XA m++⟨#[40]⟩++t5)) W:=Qs (B:=200000) (by have:=Qk m;simp only [ByteArray.size_append,Qn];omega) (by omega)
theorem af2 (m:Nat) (t5:ByteArray) (h:t5.size≤100000): ∀W,(Op.stringOp .add (XA m++⟨#[40]⟩++t5) (⟨#[58]⟩:ByteArray)).run Tryz.prog W= .ok (.string (XA m++⟨#[40]⟩++t5++(⟨#[58]⟩:ByteArray))) W:=Qs (B:=200000) (by have:=Qk m;simp only [ByteArray.size_append,Qn];omega) (by omega)
theorem af3 (m:Nat) (t5 t6:ByteArray) (h:t5.size+t6.size≤100000): ∀W,(Op.stringOp .add (XA m++⟨#[40]⟩++t5++⟨#[58]⟩) t6).run Tryz.prog W= .ok (.string (XA m++⟨#[40]⟩++t5++⟨#[58]⟩++t6)) W:=Qs (B:=200000) (by have:=Qk m;simp only [ByteArray.size_append,Qn];omega) (by omega)
theorem af4 (m:Nat) (t5 t6:ByteArray) (h:t5.size+t6.size≤100000): ∀W,(Op.stringOp .add (XA m++⟨#[40]⟩++t5++⟨#[58]⟩++t6) (⟨#[44]⟩:ByteArray)).run Tryz.prog W= .ok (.string (XA m++⟨#[40]⟩++t5++⟨#[58]⟩++t6++(⟨#[44]⟩:ByteArray))) W:=Qs (B:=200000) (by have:=Qk m;simp only [ByteArray.size_append,Qn];omega) (by omega)
theorem af5 (m:Nat) (t5 t6 t7:ByteArray) (h:t5.size+t6.size+t7.size≤100000): ∀W,(Op.stringOp .add (XA m++⟨#[40]⟩++t5++⟨#[58]⟩++t6++⟨#[44]⟩) t7).run Tryz.prog W= .ok (.string (XA m++⟨#[40]⟩++t5++⟨#[58]⟩++t6++⟨#[44]⟩++t7)) W:=Qs (B:=200000) (by have:=Qk m;simp only [ByteArray.size_append,Qn];omega) (by omega)
theorem af6 (m:Nat) (t5 t6 t7:ByteArray) (h:t5.size+t6.size+t7.size≤100000): ∀W,(Op.stringOp .add (XA m++⟨#[40]⟩++t5++⟨#[58]⟩++t6++⟨#[44]⟩++t7) (⟨#[41]⟩:ByteArray)).run Tryz.prog W= .ok (.string (XA m++⟨#[40]⟩++t5++⟨#[58]⟩++t6++⟨#[44]⟩++t7++(⟨#[41]⟩:ByteArray))) W:=Qs (B:=200000) (by have:=Qk m;simp only [ByteArray.size_append,Qn];omega) (by omega)
theorem Ev {n : Int} {B : Nat} (IH : FtD (n - 1) B) (h1 : 1 ≤ n) (h3 : n ≤ 3) (hB : 16 ≤ B) (hB2 : B ≤ 1000) : FtD n (3 * B + 21) := by
  intro r A len cap w hr;have FB : ∀ {t : ByteArray}, t.size ≤ 6 → t.size ≤ 3 * B + 21 := fun h => by omega
  have FC : ∀ {t : ByteArray}, t.size ≤ 16 → t.size ≤ 3 * B + 21 := fun h => by omega
  have HR0 : Hid (Rd w r A len cap) := hr;clear hr;have hn0 : (n == 0) = false := by simp; omega
  go_enter Tryz.func93, Tryz.ntmps93;go_wp2_with fail
  refine (XF r A len cap 3 _ HR0.out (by omega) (by omega)).mono ?_;rintro e w1 ⟨lf, rfl, hr, hu⟩;have HR1 : Hid (Rd w1 r A len cap) := hr;have HU1 : Hid (Upd r w w1) := hu;clear hr hu HR0;cases lf
  rotate_left
  ·
    go_wp2_with fail
    refine (Qy r A len cap 7 _ HR1.out (by omega) (by omega)).mono ?_;rintro e w2 ⟨v, rfl, v0, v1, hr, hu⟩;have HR2 : Hid (Rd w2 r A len cap) := hr;have HU2 : Hid (Upd r w w2) := HU1.out.trans hu;clear hr hu HR1 HU1;have hv : v = 0 ∨ v = 1 ∨ v = 2 ∨ v = 3 ∨ v = 4 ∨ v = 5 ∨ v = 6 := by omega
    clear v0 v1;rcases hv with rfl | rfl | rfl | rfl | rfl | rfl | rfl
    iterate 3
      (rotate_left 0
       go_wp2_with fail
       refine (Ux r A len cap _ HR2.out).mono ?_;rintro e w3 ⟨x, y, rfl, x0, x1, y0, y1, hr, hu⟩;have HR3 : Hid (Rd w3 r A len cap) := hr;have HU3 : Hid (Upd r w w3) := HU2.out.trans hu;clear hr hu;go_wp2_with fail
       refine (XF r A len cap 5 _ HR3.out (by omega) (by omega)).mono ?_;rintro e w4 ⟨p, rfl, hr, hu⟩;have HR4 : Hid (Rd w4 r A len cap) := hr;have HU4 : Hid (Upd r w w4) := HU3.out.trans hu;clear hr hu;go_wp2_with fail
       refine (XF r A len cap 5 _ HR4.out (by omega) (by omega)).mono ?_;rintro e w5 ⟨q, rfl, hr, hu⟩;have HR5 : Hid (Rd w5 r A len cap) := hr;have HU5 : Hid (Upd r w w5) := HU4.out.trans hu;clear hr hu;go_wp2_with fail
       refine (Qj _ _ _ _ _).mono ?_;rintro e w6 ⟨t, rfl, ht, hb⟩;have HT : Hid (t.size ≤ 6) := ht;have HR6 : Hid (Rd w6 r A len cap) := HR5.out.below hb;have HU6 : Hid (Upd r w w6) := HU5.out.trans (Upd.of_below (Nat.le_of_lt HR5.out.lt) hb);clear hb ht;go_wp2_with fail
       go_ret
       exact ⟨t, rfl, FB HT.out, HR6.out, HU6.out⟩)
    · go_wp2_with fail
      refine (Qy r A len cap 6 _ (HR2.out.below (by go_grown)) (by omega) (by omega)).mono ?_;rintro e w3 ⟨v, rfl, v0, v1, hr, hu⟩;have hl2 := HR2.out.lt;have HR3 : Hid (Rd w3 r A len cap) := hr;have HU3 : Hid (Upd r w w3) := HU2.out.trans ((Upd.of_below (Nat.le_of_lt hl2) (by go_grown)).trans hu);have nr : ¬ w2.heap.size = r := by omega
      obtain ⟨uc, uf, uz, ub⟩ := hu;clear hr ub;have hv : v = 0 ∨ v = 1 ∨ v = 2 ∨ v = 3 ∨ v = 4 ∨ v = 5 := by omega
      rcases hv with rfl | rfl | rfl | rfl | rfl | rfl
      all_goals
        go_wp2_with fail
        go_ret;exact ⟨_, rfl, FB (by decide), HR3.out, HU3.out⟩
    all_goals
      go_wp2_with fail
      refine (Qy r A len cap 12 _ HR2.out (by omega) (by omega)).mono ?_;rintro e w3 ⟨v, rfl, v0, v1, hr, hu⟩;have HR3 : Hid (Rd w3 r A len cap) := hr;have HU3 : Hid (Upd r w w3) := HU2.out.trans hu;clear hr hu;go_wp2_with fail
      refine (YN v _ (decide_eq_true (by omega))).mono ?_;rintro e w4 ⟨rfl, hb⟩
      have HT : Hid ((itB v).size ≤ 16) := (by
        obtain ⟨m, rfl⟩ : ∃ m : Nat, v = (m : Int) := ⟨v.toNat, by omega⟩
        exact Jd (by omega))
      obtain ⟨t, HTT⟩ : ∃ t, Hid (itB v = t) := ⟨_, rfl⟩;rw [HTT.out] at HT ⊢;have HR4 : Hid (Rd w4 r A len cap) := HR3.out.below hb;have HU4 : Hid (Upd r w w4) := HU3.out.trans (Upd.of_below (Nat.le_of_lt HR3.out.lt) hb);clear hb;go_wp2_with fail
      go_ret;exact ⟨t, rfl, FC HT.out, HR4.out, HU4.out⟩
  go_wp2_with fail
  refine (Qy r A len cap 8 _ HR1.out (by omega) (by omega)).mono ?_;rintro e w2 ⟨v, rfl, v0, v1, hr, hu⟩;have HR2 : Hid (Rd w2 r A len cap) := hr;have HU2 : Hid (Upd r w w2) := HU1.out.trans hu;clear hr hu HR1 HU1;have hv : v = 0 ∨ v = 1 ∨ (v = 2 ∨ v = 3) ∨ v = 4 ∨ v = 5 ∨ v = 6 ∨ v = 7 := by omega
  clear v0 v1;rcases hv with rfl | rfl | h23 | rfl | rfl | rfl | rfl
  · go_wp2_with fail
    refine (IH r A len cap _ HR2.out).mono ?_;rintro e w3 ⟨t3, rfl, ht3, hr, hu⟩;have HR3 : Hid (Rd w3 r A len cap) := hr;have HU3 : Hid (Upd r w w3) := HU2.out.trans hu;clear hr hu HR2 HU2;have a1 := Qs (x := ⟨#[45]⟩) (y := t3) (B := 1001) (by show 1 + t3.size ≤ _; omega) (by omega);go_wp2_with fail
    go_ret;exact ⟨_, rfl, by rw [ByteArray.size_append]; show 1 + t3.size ≤ _; omega, HR3.out, HU3.out⟩
  · go_wp2_with fail
    refine (IH r A len cap _ HR2.out).mono ?_;rintro e w3 ⟨t3, rfl, ht3, hr, hu⟩;have HR3 : Hid (Rd w3 r A len cap) := hr;have HU3 : Hid (Upd r w w3) := HU2.out.trans hu;clear hr hu HR2 HU2;have z1 : ((⟨#[40]⟩ : ByteArray) ++ t3).size = 1 + t3.size := by rw [ByteArray.size_append]; rfl
    have a1 := Qs (x := ⟨#[40]⟩) (y := t3) (B := 1001) (by show 1 + t3.size ≤ _; omega) (by omega);have a2 := Qs (x := (⟨#[40]⟩ : ByteArray) ++ t3) (y := ⟨#[41]⟩) (B := 1002) (by rw [z1]; show 1 + t3.size + 1 ≤ _; omega) (by omega);go_wp2_with fail
    go_ret;exact ⟨_, rfl, by rw [ByteArray.size_append, z1]; show 1 + t3.size + 1 ≤ _; omega, HR3.out, HU3.out⟩
  · rcases h23 with rfl | rfl
    all_goals
      go_wp2_with fail
      refine (Qfq r A len cap _ HR2.out).mono ?_;rintro e w3 ⟨ca, cb, cc, cd, rfl, hr, hu⟩;have HR3 : Hid (Rd w3 r A len cap) := hr;have HU3 : Hid (Upd r w w3) := HU2.out.trans hu;clear hr hu HR2 HU2;have hwr : IntKind.i64.wrap (n - 1) = n - 1 := by rw [IntKind.wrap_i64]; omega
      have nr3 : ¬ w3.heap.size = r := by have := HR3.out.lt; omega
      have a5 := fun m => Qs (x := XA m) (y := ⟨#[40]⟩) (B := 6) (by have := Qk m; rw [Qn]; omega) (by omega)
      have htab : ∀ n, n < 6 → ∀ W : World, (W.alloc (.cells #[.string ⟨#[83, 85, 77]⟩, .string ⟨#[77, 73, 78]⟩, .string ⟨#[77, 65, 88]⟩, .string ⟨#[67, 79, 85, 78, 84]⟩, .string ⟨#[65, 78, 68]⟩, .string ⟨#[79, 82]⟩] 9)).cell? ⟨W.heap.size, n, none⟩ = some (.string (XA n)) := fun n hn W => by
        have hn' : n = 0 ∨ n = 1 ∨ n = 2 ∨ n = 3 ∨ n = 4 ∨ n = 5 := by omega
        rcases hn' with rfl | rfl | rfl | rfl | rfl | rfl <;> simp [XA]
      go_wp2_with fail
      refine wp_region_held_drew (S := fun W => C4 W w3.heap.size (.int .i64 ca) (.int .i64 cb) (.int .i64 cc) (.int .i64 cd)) (by kernel_rfl) (C4.new _ _ _ _ _ _) (fun hHeld => ?_);refine tjA 1 ?_ rfl (by kernel_rfl) (by rfl) ?_ ?_;rotate_left
      · (intro wq hSw; (try dsimp only at hSw); obtain ⟨sl, ⟨s0, s1, s2, s3⟩, sf⟩ := hSw; go_simp <;> with_reducible rfl)
      try simp only [Act.put, List.getElem_toArray, List.getElem_cons_zero, List.getElem_cons_succ, List.setIfInBounds_toArray, List.set_cons_zero, List.set_cons_succ]
      refine tjA 6 ?_ rfl (by kernel_rfl) (by rfl) ?_ ?_;rotate_left
      · (intro wq hSw; (try dsimp only at hSw); obtain ⟨sl, ⟨s0, s1, s2, s3⟩, sf⟩ := hSw; go_simp <;> with_reducible rfl)
      try simp only [Act.put, List.getElem_toArray, List.getElem_cons_zero, List.getElem_cons_succ, List.setIfInBounds_toArray, List.set_cons_zero, List.set_cons_succ]
      refine tjA 7 ?_ rfl (by kernel_rfl) (by rfl) ?_ ?_;rotate_left
      · (intro wq hSw; (try dsimp only at hSw); obtain ⟨sl, ⟨s0, s1, s2, s3⟩, sf⟩ := hSw; go_simp <;> with_reducible rfl)
      try simp only [Act.put, List.getElem_toArray, List.getElem_cons_zero, List.getElem_cons_succ, List.setIfInBounds_toArray, List.set_cons_zero, List.set_cons_succ]
      refine tjA 8 ?_ rfl (by kernel_rfl) (by rfl) ?_ ?_;rotate_left
      · (intro wq hSw; (try dsimp only at hSw); obtain ⟨sl, ⟨s0, s1, s2, s3⟩, sf⟩ := hSw; go_simp <;> with_reducible rfl)
      try simp only [Act.put, List.getElem_toArray, List.getElem_cons_zero, List.getElem_cons_succ, List.setIfInBounds_toArray, List.set_cons_zero, List.set_cons_succ]
      refine tjA 12 ?_ rfl (by kernel_rfl) (by rfl) ?_ ?_;rotate_left
      · (intro wq hSw; (try dsimp only at hSw); obtain ⟨sl, ⟨s0, s1, s2, s3⟩, sf⟩ := hSw; go_simp <;> with_reducible rfl)
      try simp only [Act.put, List.getElem_toArray, List.getElem_cons_zero, List.getElem_cons_succ, List.setIfInBounds_toArray, List.set_cons_zero, List.set_cons_succ]
      refine tjA 13 ?_ rfl (by kernel_rfl) (by rfl) ?_ ?_;rotate_left
      · (intro wq hSw; (try dsimp only at hSw); obtain ⟨sl, ⟨s0, s1, s2, s3⟩, sf⟩ := hSw; go_simp <;> with_reducible rfl)
      try simp only [Act.put, List.getElem_toArray, List.getElem_cons_zero, List.getElem_cons_succ, List.setIfInBounds_toArray, List.set_cons_zero, List.set_cons_succ]
      refine tjA 14 ?_ rfl (by kernel_rfl) (by rfl) ?_ ?_;rotate_left
      · (intro wq hSw; (try dsimp only at hSw); obtain ⟨sl, ⟨s0, s1, s2, s3⟩, sf⟩ := hSw; go_simp <;> with_reducible rfl)
      try simp only [Act.put, List.getElem_toArray, List.getElem_cons_zero, List.getElem_cons_succ, List.setIfInBounds_toArray, List.set_cons_zero, List.set_cons_succ]
      refine tjA 18 ?_ rfl (by kernel_rfl) (by rfl) ?_ ?_;rotate_left
      · (intro wq hSw; (try dsimp only at hSw); obtain ⟨sl, ⟨s0, s1, s2, s3⟩, sf⟩ := hSw; go_simp <;> with_reducible rfl)
      try simp only [Act.put, List.getElem_toArray, List.getElem_cons_zero, List.getElem_cons_succ, List.setIfInBounds_toArray, List.set_cons_zero, List.set_cons_succ]
      refine tjA 19 ?_ rfl (by kernel_rfl) (by rfl) ?_ ?_;rotate_left
      · (intro wq hSw; (try dsimp only at hSw); obtain ⟨sl, ⟨s0, s1, s2, s3⟩, sf⟩ := hSw; go_simp <;> with_reducible rfl)
      try simp only [Act.put, List.getElem_toArray, List.getElem_cons_zero, List.getElem_cons_succ, List.setIfInBounds_toArray, List.set_cons_zero, List.set_cons_succ]
      refine tjA 20 ?_ rfl (by kernel_rfl) (by rfl) ?_ ?_;rotate_left
      · (intro wq hSw; (try dsimp only at hSw); obtain ⟨sl, ⟨s0, s1, s2, s3⟩, sf⟩ := hSw; go_simp <;> with_reducible rfl)
      try simp only [Act.put, List.getElem_toArray, List.getElem_cons_zero, List.getElem_cons_succ, List.setIfInBounds_toArray, List.set_cons_zero, List.set_cons_succ]
      refine rqB 0 2 (fun Kq hKq => ?_) (fun Kq hKq => ?_)
      · go_simp
        refine hKq.out _ _ ?_ (fun hHeld => ?_)
        · first | exact SH9 | exact hHeld | exact C4.below (C4.new w3 (.int .i64 ca) (.int .i64 cb) (.int .i64 cc) (.int .i64 cd) 29) (by go_grown)
        clear hKq Kq;try simp only [Act.put, List.getElem_toArray, List.getElem_cons_zero, List.getElem_cons_succ, List.setIfInBounds_toArray, List.set_cons_zero, List.set_cons_succ]
        refine rqA 2 (fun Kq hKq => ?_)
        · go_simp
          refine (Qy r A len cap 6 _ (HR3.out.below (by go_grown)) (by omega) (by omega)).mono ?_;rintro e w4 ⟨q, rfl, q0, q1, hr, hu⟩;obtain ⟨nq, rfl⟩ : ∃ n : Nat, q = (n : Int) := ⟨q.toNat, by omega⟩;have hq6 : nq < 6 := (by omega);have hq7 : (nq : Int) < 6 := (by omega);have hq8 : (0 : Int) ≤ (nq : Int) := (by omega);have htb := htab nq hq6
          have HR4 : Hid (Rd w4 r A len cap) := hr;have HU4 : Hid (Upd r w w4) := HU3.out.trans ((Upd.of_below (Nat.le_of_lt HR3.out.lt) (by go_grown)).trans hu);have SH9 := C4.upd (C4.below hHeld (by go_grown)) hu nr3;obtain ⟨uc4, uf4, uz4, ub⟩ := hu
          (try simp only [World.size_drew] at uc4 uf4 uz4)
          clear hr ub;have hT4 : w3.heap.size + 1 < w4.heap.size := (by have h := uz4; (try simp at h); omega);have hcl4 : w4.cell? ⟨w3.heap.size + 1, nq, none⟩ = some (.string (XA nq)) := (uc4 _ _ (by simp) (by have := HR3.out.lt; omega)).trans (by have h := htb (w3.alloc (.cells #[.int .i64 ca, .int .i64 cb, .int .i64 cc, .int .i64 cd] 29)); simpa using h);refine hKq.out _ _ ?_ (fun hHeld => ?_)
          · first | exact SH9 | exact hHeld | exact C4.below hHeld (by go_grown)
          clear hKq Kq;try simp only [Act.put, List.getElem_toArray, List.getElem_cons_zero, List.getElem_cons_succ, List.setIfInBounds_toArray, List.set_cons_zero, List.set_cons_succ]
          refine tkB 3 ?_;refine rqB 4 9 (fun Kq hKq => ?_) (fun Kq hKq => ?_)
          · go_simp
            refine hKq.out _ _ ?_ (fun hHeld => ?_)
            · first | exact SH9 | exact hHeld | exact C4.below hHeld (by go_grown)
            clear hKq Kq;try simp only [Act.put, List.getElem_toArray, List.getElem_cons_zero, List.getElem_cons_succ, List.setIfInBounds_toArray, List.set_cons_zero, List.set_cons_succ]
            refine tkB 5 ?_;refine rqA 9 (fun Kq hKq => ?_)
            · go_simp
              refine (Qj _ _ _ _ _).mono ?_;rintro e w5 ⟨t5, rfl, ht5, hb⟩;have HR5 : Hid (Rd w5 r A len cap) := (HR4.out.below (by go_grown)).below hb;have HU5 : Hid (Upd r w w5) := HU4.out.trans ((Upd.of_below (Nat.le_of_lt HR4.out.lt) (by go_grown)).trans (Upd.of_below (Nat.le_of_lt (HR4.out.below (by go_grown)).lt) hb));have SH9 := C4.below (C4.below hHeld (by go_grown)) hb;have uc5 := fun b o (h : b < _) => hb.cell (p := ⟨b, o, none⟩) h;have uz5 := hb.size
              (try simp only [World.size_drew] at uc5 uz5)
              clear hb;have a10 := fun m => af1 m t5 (by omega);have a11 := fun m => af2 m t5 (by omega);refine hKq.out _ _ ?_ (fun hHeld => ?_)
              · first | exact SH9 | exact hHeld | exact C4.below hHeld (by go_grown)
              clear hKq Kq;try simp only [Act.put, List.getElem_toArray, List.getElem_cons_zero, List.getElem_cons_succ, List.setIfInBounds_toArray, List.set_cons_zero, List.set_cons_succ]
              refine tkA 10 ?_;refine tkB 11 ?_;refine rqA 15 (fun Kq hKq => ?_)
              · go_simp
                refine (Qj _ _ _ _ _).mono ?_;rintro e w6 ⟨t6, rfl, ht6, hb⟩;have HR6 : Hid (Rd w6 r A len cap) := (HR5.out.below (by go_grown)).below hb;have HU6 : Hid (Upd r w w6) := HU5.out.trans ((Upd.of_below (Nat.le_of_lt HR5.out.lt) (by go_grown)).trans (Upd.of_below (Nat.le_of_lt (HR5.out.below (by go_grown)).lt) hb));have SH9 := C4.below (C4.below hHeld (by go_grown)) hb;have uc6 := fun b o (h : b < _) => hb.cell (p := ⟨b, o, none⟩) h;have uz6 := hb.size
                (try simp only [World.size_drew] at uc6 uz6)
                clear hb;have a16 := fun m => af3 m t5 t6 (by omega);have a17 := fun m => af4 m t5 t6 (by omega);refine hKq.out _ _ ?_ (fun hHeld => ?_)
                · first | exact SH9 | exact hHeld | exact C4.below hHeld (by go_grown)
                clear hKq Kq;try simp only [Act.put, List.getElem_toArray, List.getElem_cons_zero, List.getElem_cons_succ, List.setIfInBounds_toArray, List.set_cons_zero, List.set_cons_succ]
                refine tkA 16 ?_;refine tkB 17 ?_;refine rqA 21 (fun Kq hKq => ?_)
                · go_simp
                  refine (IH r A len cap _ (HR6.out.below (by go_grown))).mono ?_;rintro e w7 ⟨t7, rfl, ht7, hr, hu⟩;have HR7 : Hid (Rd w7 r A len cap) := hr;have HU7 : Hid (Upd r w w7) := HU6.out.trans ((Upd.of_below (Nat.le_of_lt HR6.out.lt) (by go_grown)).trans hu);have SH9 := C4.upd (C4.below hHeld (by go_grown)) hu nr3;obtain ⟨uc7, uf7, uz7, ub⟩ := hu
                  (try simp only [World.size_drew] at uc7 uf7 uz7)
                  clear hr ub;have a22 := fun m => af5 m t5 t6 t7 (by omega);have a23 := fun m => af6 m t5 t6 t7 (by omega);refine hKq.out _ _ ?_ (fun hHeld => ?_)
                  · first | exact SH9 | exact hHeld | exact C4.below hHeld (by go_grown)
                  clear hKq Kq;try simp only [Act.put, List.getElem_toArray, List.getElem_cons_zero, List.getElem_cons_succ, List.setIfInBounds_toArray, List.set_cons_zero, List.set_cons_succ]
                  refine tkA 22 ?_;refine tkB 23 ?_;refine tkB 24 ?_;refine wpAnyH_done (by kernel_rfl) ?_ _;go_wp2_with fail
                  go_ret;first
                  | exact ⟨_, rfl, (by have := Qk nq; simp only [ByteArray.size_append, Qn]; omega), HR7.out, HU7.out⟩
                  | exact ⟨_, rfl, (by have := Qk nq; simp only [ByteArray.size_append, Qn]; omega), HR7.out.below (by go_grown), HU7.out.trans (Upd.of_below (Nat.le_of_lt HR7.out.lt) (by go_grown))⟩
          · go_simp
            refine (Qj _ _ _ _ _).mono ?_;rintro e w5 ⟨t5, rfl, ht5, hb⟩;have HR5 : Hid (Rd w5 r A len cap) := (HR4.out.below (by go_grown)).below hb;have HU5 : Hid (Upd r w w5) := HU4.out.trans ((Upd.of_below (Nat.le_of_lt HR4.out.lt) (by go_grown)).trans (Upd.of_below (Nat.le_of_lt (HR4.out.below (by go_grown)).lt) hb));have SH9 := C4.below (C4.below hHeld (by go_grown)) hb;have uc5 := fun b o (h : b < _) => hb.cell (p := ⟨b, o, none⟩) h;have uz5 := hb.size
            (try simp only [World.size_drew] at uc5 uz5)
            clear hb;have hT5 : w3.heap.size + 1 < w5.heap.size := (by have h := uz5; have h2 := hT4; (try simp at h); omega);have hcl5 : w5.cell? ⟨w3.heap.size + 1, nq, none⟩ = some (.string (XA nq)) := (uc5 _ _ (by have h2 := hT4; simp; omega)).trans hcl4;have a10 := fun m => af1 m t5 (by omega);have a11 := fun m => af2 m t5 (by omega);refine hKq.out _ _ ?_ (fun hHeld => ?_)
            · first | exact SH9 | exact hHeld | exact C4.below hHeld (by go_grown)
            clear hKq Kq;try simp only [Act.put, List.getElem_toArray, List.getElem_cons_zero, List.getElem_cons_succ, List.setIfInBounds_toArray, List.set_cons_zero, List.set_cons_succ]
            refine rqB 4 15 (fun Kq hKq => ?_) (fun Kq hKq => ?_)
            · go_simp
              refine hKq.out _ _ ?_ (fun hHeld => ?_)
              · first | exact SH9 | exact hHeld | exact C4.below hHeld (by go_grown)
              clear hKq Kq;try simp only [Act.put, List.getElem_toArray, List.getElem_cons_zero, List.getElem_cons_succ, List.setIfInBounds_toArray, List.set_cons_zero, List.set_cons_succ]
              refine tkA 5 ?_;refine tkB 10 ?_;refine tkB 11 ?_;refine rqA 15 (fun Kq hKq => ?_)
              · go_simp
                refine (Qj _ _ _ _ _).mono ?_;rintro e w6 ⟨t6, rfl, ht6, hb⟩;have HR6 : Hid (Rd w6 r A len cap) := (HR5.out.below (by go_grown)).below hb;have HU6 : Hid (Upd r w w6) := HU5.out.trans ((Upd.of_below (Nat.le_of_lt HR5.out.lt) (by go_grown)).trans (Upd.of_below (Nat.le_of_lt (HR5.out.below (by go_grown)).lt) hb));have SH9 := C4.below (C4.below hHeld (by go_grown)) hb;have uc6 := fun b o (h : b < _) => hb.cell (p := ⟨b, o, none⟩) h;have uz6 := hb.size
                (try simp only [World.size_drew] at uc6 uz6)
                clear hb;have a16 := fun m => af3 m t5 t6 (by omega);have a17 := fun m => af4 m t5 t6 (by omega);refine hKq.out _ _ ?_ (fun hHeld => ?_)
                · first | exact SH9 | exact hHeld | exact C4.below hHeld (by go_grown)
                clear hKq Kq;try simp only [Act.put, List.getElem_toArray, List.getElem_cons_zero, List.getElem_cons_succ, List.setIfInBounds_toArray, List.set_cons_zero, List.set_cons_succ]
                refine tkA 16 ?_;refine tkB 17 ?_;refine rqA 21 (fun Kq hKq => ?_)
                · go_simp
                  refine (IH r A len cap _ (HR6.out.below (by go_grown))).mono ?_;rintro e w7 ⟨t7, rfl, ht7, hr, hu⟩;have HR7 : Hid (Rd w7 r A len cap) := hr;have HU7 : Hid (Upd r w w7) := HU6.out.trans ((Upd.of_below (Nat.le_of_lt HR6.out.lt) (by go_grown)).trans hu);have SH9 := C4.upd (C4.below hHeld (by go_grown)) hu nr3;obtain ⟨uc7, uf7, uz7, ub⟩ := hu
                  (try simp only [World.size_drew] at uc7 uf7 uz7)
                  clear hr ub;have a22 := fun m => af5 m t5 t6 t7 (by omega);have a23 := fun m => af6 m t5 t6 t7 (by omega);refine hKq.out _ _ ?_ (fun hHeld => ?_)
                  · first | exact SH9 | exact hHeld | exact C4.below hHeld (by go_grown)
                  clear hKq Kq;try simp only [Act.put, List.getElem_toArray, List.getElem_cons_zero, List.getElem_cons_succ, List.setIfInBounds_toArray, List.set_cons_zero, List.set_cons_succ]
                  refine tkA 22 ?_;refine tkB 23 ?_;refine tkB 24 ?_;refine wpAnyH_done (by kernel_rfl) ?_ _;go_wp2_with fail
                  go_ret;first
                  | exact ⟨_, rfl, (by have := Qk nq; simp only [ByteArray.size_append, Qn]; omega), HR7.out, HU7.out⟩
                  | exact ⟨_, rfl, (by have := Qk nq; simp only [ByteArray.size_append, Qn]; omega), HR7.out.below (by go_grown), HU7.out.trans (Upd.of_below (Nat.le_of_lt HR7.out.lt) (by go_grown))⟩
            · go_simp
              refine (Qj _ _ _ _ _).mono ?_;rintro e w6 ⟨t6, rfl, ht6, hb⟩;have HR6 : Hid (Rd w6 r A len cap) := (HR5.out.below (by go_grown)).below hb;have HU6 : Hid (Upd r w w6) := HU5.out.trans ((Upd.of_below (Nat.le_of_lt HR5.out.lt) (by go_grown)).trans (Upd.of_below (Nat.le_of_lt (HR5.out.below (by go_grown)).lt) hb));have SH9 := C4.below (C4.below hHeld (by go_grown)) hb;have uc6 := fun b o (h : b < _) => hb.cell (p := ⟨b, o, none⟩) h;have uz6 := hb.size
              (try simp only [World.size_drew] at uc6 uz6)
              clear hb;have hT6 : w3.heap.size + 1 < w6.heap.size := (by have h := uz6; have h2 := hT5; (try simp at h); omega);have hcl6 : w6.cell? ⟨w3.heap.size + 1, nq, none⟩ = some (.string (XA nq)) := (uc6 _ _ (by have h2 := hT5; simp; omega)).trans hcl5;have a16 := fun m => af3 m t5 t6 (by omega);have a17 := fun m => af4 m t5 t6 (by omega);refine hKq.out _ _ ?_ (fun hHeld => ?_)
              · first | exact SH9 | exact hHeld | exact C4.below hHeld (by go_grown)
              clear hKq Kq;try simp only [Act.put, List.getElem_toArray, List.getElem_cons_zero, List.getElem_cons_succ, List.setIfInBounds_toArray, List.set_cons_zero, List.set_cons_succ]
              refine rqB 4 21 (fun Kq hKq => ?_) (fun Kq hKq => ?_)
              · go_simp
                refine hKq.out _ _ ?_ (fun hHeld => ?_)
                · first | exact SH9 | exact hHeld | exact C4.below hHeld (by go_grown)
                clear hKq Kq;try simp only [Act.put, List.getElem_toArray, List.getElem_cons_zero, List.getElem_cons_succ, List.setIfInBounds_toArray, List.set_cons_zero, List.set_cons_succ]
                refine tkA 5 ?_;refine tkB 10 ?_;refine tkA 11 ?_;refine tkB 16 ?_;refine tkB 17 ?_;refine rqA 21 (fun Kq hKq => ?_)
                · go_simp
                  refine (IH r A len cap _ (HR6.out.below (by go_grown))).mono ?_;rintro e w7 ⟨t7, rfl, ht7, hr, hu⟩;have HR7 : Hid (Rd w7 r A len cap) := hr;have HU7 : Hid (Upd r w w7) := HU6.out.trans ((Upd.of_below (Nat.le_of_lt HR6.out.lt) (by go_grown)).trans hu);have SH9 := C4.upd (C4.below hHeld (by go_grown)) hu nr3;obtain ⟨uc7, uf7, uz7, ub⟩ := hu
                  (try simp only [World.size_drew] at uc7 uf7 uz7)
                  clear hr ub;have a22 := fun m => af5 m t5 t6 t7 (by omega);have a23 := fun m => af6 m t5 t6 t7 (by omega);refine hKq.out _ _ ?_ (fun hHeld => ?_)
                  · first | exact SH9 | exact hHeld | exact C4.below hHeld (by go_grown)
                  clear hKq Kq;try simp only [Act.put, List.getElem_toArray, List.getElem_cons_zero, List.getElem_cons_succ, List.setIfInBounds_toArray, List.set_cons_zero, List.set_cons_succ]
                  refine tkA 22 ?_;refine tkB 23 ?_;refine tkB 24 ?_;refine wpAnyH_done (by kernel_rfl) ?_ _;go_wp2_with fail
                  go_ret;first
                  | exact ⟨_, rfl, (by have := Qk nq; simp only [ByteArray.size_append, Qn]; omega), HR7.out, HU7.out⟩
                  | exact ⟨_, rfl, (by have := Qk nq; simp only [ByteArray.size_append, Qn]; omega), HR7.out.below (by go_grown), HU7.out.trans (Upd.of_below (Nat.le_of_lt HR7.out.lt) (by go_grown))⟩
              · go_simp
                refine (IH r A len cap _ (HR6.out.below (by go_grown))).mono ?_;rintro e w7 ⟨t7, rfl, ht7, hr, hu⟩;have HR7 : Hid (Rd w7 r A len cap) := hr;have HU7 : Hid (Upd r w w7) := HU6.out.trans ((Upd.of_below (Nat.le_of_lt HR6.out.lt) (by go_grown)).trans hu);have SH9 := C4.upd (C4.below hHeld (by go_grown)) hu nr3;obtain ⟨uc7, uf7, uz7, ub⟩ := hu
                (try simp only [World.size_drew] at uc7 uf7 uz7)
                clear hr ub;have hT7 : w3.heap.size + 1 < w7.heap.size := (by have h := uz7; have h2 := hT6; (try simp at h); omega);have hcl7 : w7.cell? ⟨w3.heap.size + 1, nq, none⟩ = some (.string (XA nq)) := (uc7 _ _ (by have h2 := hT6; simp; omega) (by have := HR3.out.lt; omega)).trans hcl6;have a22 := fun m => af5 m t5 t6 t7 (by omega);have a23 := fun m => af6 m t5 t6 t7 (by omega);refine hKq.out _ _ ?_ (fun hHeld => ?_)
                · first | exact SH9 | exact hHeld | exact C4.below hHeld (by go_grown)
                clear hKq Kq;try simp only [Act.put, List.getElem_toArray, List.getElem_cons_zero, List.getElem_cons_succ, List.setIfInBounds_toArray, List.set_cons_zero, List.set_cons_succ]
                refine rqA 4 (fun Kq hKq => ?_)
                · go_simp
                  refine hKq.out _ _ ?_ (fun hHeld => ?_)
                  · first | exact SH9 | exact hHeld | exact C4.below hHeld (by go_grown)
                  clear hKq Kq;try simp only [Act.put, List.getElem_toArray, List.getElem_cons_zero, List.getElem_cons_succ, List.setIfInBounds_toArray, List.set_cons_zero, List.set_cons_succ]
                  refine tkA 5 ?_;refine tkB 10 ?_;refine tkA 11 ?_;refine tkB 16 ?_;refine tkA 17 ?_;refine tkB 22 ?_;refine tkA 23 ?_
                  refine tkB 24 ?_;refine wpAnyH_done (by kernel_rfl) ?_ _;go_wp2_with fail
                  go_ret;first
                  | exact ⟨_, rfl, (by have := Qk nq; simp only [ByteArray.size_append, Qn]; omega), HR7.out, HU7.out⟩
                  | exact ⟨_, rfl, (by have := Qk nq; simp only [ByteArray.size_append, Qn]; omega), HR7.out.below (by go_grown), HU7.out.trans (Upd.of_below (Nat.le_of_lt HR7.out.lt) (by go_grown))⟩
      · go_simp
        refine (Qy r A len cap 6 _ (HR3.out.below (by go_grown)) (by omega) (by omega)).mono ?_;rintro e w4 ⟨q, rfl, q0, q1, hr, hu⟩;obtain ⟨nq, rfl⟩ : ∃ n : Nat, q = (n : Int) := ⟨q.toNat, by omega⟩;have hq6 : nq < 6 := (by omega);have hq7 : (nq : Int) < 6 := (by omega);have hq8 : (0 : Int) ≤ (nq : Int) := (by omega);have htb := htab nq hq6
        have HR4 : Hid (Rd w4 r A len cap) := hr;have HU4 : Hid (Upd r w w4) := HU3.out.trans ((Upd.of_below (Nat.le_of_lt HR3.out.lt) (by go_grown)).trans hu);have SH9 := C4.upd (C4.below hHeld (by go_grown)) hu nr3;obtain ⟨uc4, uf4, uz4, ub⟩ := hu
        (try simp only [World.size_drew] at uc4 uf4 uz4)
        clear hr ub;refine hKq.out _ _ ?_ (fun hHeld => ?_)
        · first | exact SH9 | exact hHeld | exact C4.below hHeld (by go_grown)
        clear hKq Kq;try simp only [Act.put, List.getElem_toArray, List.getElem_cons_zero, List.getElem_cons_succ, List.setIfInBounds_toArray, List.set_cons_zero, List.set_cons_succ]
        refine rqB 0 9 (fun Kq hKq => ?_) (fun Kq hKq => ?_)
        · go_simp
          refine hKq.out _ _ ?_ (fun hHeld => ?_)
          · first | exact SH9 | exact hHeld | exact C4.below hHeld (by go_grown)
          clear hKq Kq;try simp only [Act.put, List.getElem_toArray, List.getElem_cons_zero, List.getElem_cons_succ, List.setIfInBounds_toArray, List.set_cons_zero, List.set_cons_succ]
          refine tkB 3 ?_;refine rqB 4 9 (fun Kq hKq => ?_) (fun Kq hKq => ?_)
          · go_simp
            refine hKq.out _ _ ?_ (fun hHeld => ?_)
            · first | exact SH9 | exact hHeld | exact C4.below hHeld (by go_grown)
            clear hKq Kq;try simp only [Act.put, List.getElem_toArray, List.getElem_cons_zero, List.getElem_cons_succ, List.setIfInBounds_toArray, List.set_cons_zero, List.set_cons_succ]
            refine tkB 5 ?_;refine rqA 9 (fun Kq hKq => ?_)
            · go_simp
              refine (Qj _ _ _ _ _).mono ?_;rintro e w5 ⟨t5, rfl, ht5, hb⟩;have HR5 : Hid (Rd w5 r A len cap) := (HR4.out.below (by go_grown)).below hb;have HU5 : Hid (Upd r w w5) := HU4.out.trans ((Upd.of_below (Nat.le_of_lt HR4.out.lt) (by go_grown)).trans (Upd.of_below (Nat.le_of_lt (HR4.out.below (by go_grown)).lt) hb));have SH9 := C4.below (C4.below hHeld (by go_grown)) hb;have uc5 := fun b o (h : b < _) => hb.cell (p := ⟨b, o, none⟩) h;have uz5 := hb.size
              (try simp only [World.size_drew] at uc5 uz5)
              clear hb;have a10 := fun m => af1 m t5 (by omega);have a11 := fun m => af2 m t5 (by omega);refine hKq.out _ _ ?_ (fun hHeld => ?_)
              · first | exact SH9 | exact hHeld | exact C4.below hHeld (by go_grown)
              clear hKq Kq;try simp only [Act.put, List.getElem_toArray, List.getElem_cons_zero, List.getElem_cons_succ, List.setIfInBounds_toArray, List.set_cons_zero, List.set_cons_succ]
              refine tkA 10 ?_;refine tkB 11 ?_;refine rqA 15 (fun Kq hKq => ?_)
              · go_simp
                refine (Qj _ _ _ _ _).mono ?_;rintro e w6 ⟨t6, rfl, ht6, hb⟩;have HR6 : Hid (Rd w6 r A len cap) := (HR5.out.below (by go_grown)).below hb;have HU6 : Hid (Upd r w w6) := HU5.out.trans ((Upd.of_below (Nat.le_of_lt HR5.out.lt) (by go_grown)).trans (Upd.of_below (Nat.le_of_lt (HR5.out.below (by go_grown)).lt) hb));have SH9 := C4.below (C4.below hHeld (by go_grown)) hb;have uc6 := fun b o (h : b < _) => hb.cell (p := ⟨b, o, none⟩) h;have uz6 := hb.size
                (try simp only [World.size_drew] at uc6 uz6)
                clear hb;have a16 := fun m => af3 m t5 t6 (by omega);have a17 := fun m => af4 m t5 t6 (by omega);refine hKq.out _ _ ?_ (fun hHeld => ?_)
                · first | exact SH9 | exact hHeld | exact C4.below hHeld (by go_grown)
                clear hKq Kq;try simp only [Act.put, List.getElem_toArray, List.getElem_cons_zero, List.getElem_cons_succ, List.setIfInBounds_toArray, List.set_cons_zero, List.set_cons_succ]
                refine tkA 16 ?_;refine tkB 17 ?_;refine rqA 21 (fun Kq hKq => ?_)
                · go_simp
                  refine (IH r A len cap _ (HR6.out.below (by go_grown))).mono ?_;rintro e w7 ⟨t7, rfl, ht7, hr, hu⟩;have HR7 : Hid (Rd w7 r A len cap) := hr;have HU7 : Hid (Upd r w w7) := HU6.out.trans ((Upd.of_below (Nat.le_of_lt HR6.out.lt) (by go_grown)).trans hu);have SH9 := C4.upd (C4.below hHeld (by go_grown)) hu nr3;obtain ⟨uc7, uf7, uz7, ub⟩ := hu
                  (try simp only [World.size_drew] at uc7 uf7 uz7)
                  clear hr ub;have a22 := fun m => af5 m t5 t6 t7 (by omega);have a23 := fun m => af6 m t5 t6 t7 (by omega);refine hKq.out _ _ ?_ (fun hHeld => ?_)
                  · first | exact SH9 | exact hHeld | exact C4.below hHeld (by go_grown)
                  clear hKq Kq;try simp only [Act.put, List.getElem_toArray, List.getElem_cons_zero, List.getElem_cons_succ, List.setIfInBounds_toArray, List.set_cons_zero, List.set_cons_succ]
                  refine tkA 22 ?_;refine tkB 23 ?_;refine tkB 24 ?_;refine wpAnyH_done (by kernel_rfl) ?_ _;go_wp2_with fail
                  go_ret;first
                  | exact ⟨_, rfl, (by have := Qk nq; simp only [ByteArray.size_append, Qn]; omega), HR7.out, HU7.out⟩
                  | exact ⟨_, rfl, (by have := Qk nq; simp only [ByteArray.size_append, Qn]; omega), HR7.out.below (by go_grown), HU7.out.trans (Upd.of_below (Nat.le_of_lt HR7.out.lt) (by go_grown))⟩
          · go_simp
            refine (Qj _ _ _ _ _).mono ?_;rintro e w5 ⟨t5, rfl, ht5, hb⟩;have HR5 : Hid (Rd w5 r A len cap) := (HR4.out.below (by go_grown)).below hb;have HU5 : Hid (Upd r w w5) := HU4.out.trans ((Upd.of_below (Nat.le_of_lt HR4.out.lt) (by go_grown)).trans (Upd.of_below (Nat.le_of_lt (HR4.out.below (by go_grown)).lt) hb));have SH9 := C4.below (C4.below hHeld (by go_grown)) hb;have uc5 := fun b o (h : b < _) => hb.cell (p := ⟨b, o, none⟩) h;have uz5 := hb.size
            (try simp only [World.size_drew] at uc5 uz5)
            clear hb;have hT5 : w4.heap.size < w5.heap.size := (by have h := uz5; (try simp at h); omega);have hcl5 : w5.cell? ⟨w4.heap.size, nq, none⟩ = some (.string (XA nq)) := (uc5 _ _ (by simp)).trans (htb _);have a10 := fun m => af1 m t5 (by omega);have a11 := fun m => af2 m t5 (by omega);refine hKq.out _ _ ?_ (fun hHeld => ?_)
            · first | exact SH9 | exact hHeld | exact C4.below hHeld (by go_grown)
            clear hKq Kq;try simp only [Act.put, List.getElem_toArray, List.getElem_cons_zero, List.getElem_cons_succ, List.setIfInBounds_toArray, List.set_cons_zero, List.set_cons_succ]
            refine rqB 4 15 (fun Kq hKq => ?_) (fun Kq hKq => ?_)
            · go_simp
              refine hKq.out _ _ ?_ (fun hHeld => ?_)
              · first | exact SH9 | exact hHeld | exact C4.below hHeld (by go_grown)
              clear hKq Kq;try simp only [Act.put, List.getElem_toArray, List.getElem_cons_zero, List.getElem_cons_succ, List.setIfInBounds_toArray, List.set_cons_zero, List.set_cons_succ]
              refine tkA 5 ?_;refine tkB 10 ?_;refine tkB 11 ?_;refine rqA 15 (fun Kq hKq => ?_)
              · go_simp
                refine (Qj _ _ _ _ _).mono ?_;rintro e w6 ⟨t6, rfl, ht6, hb⟩;have HR6 : Hid (Rd w6 r A len cap) := (HR5.out.below (by go_grown)).below hb;have HU6 : Hid (Upd r w w6) := HU5.out.trans ((Upd.of_below (Nat.le_of_lt HR5.out.lt) (by go_grown)).trans (Upd.of_below (Nat.le_of_lt (HR5.out.below (by go_grown)).lt) hb));have SH9 := C4.below (C4.below hHeld (by go_grown)) hb;have uc6 := fun b o (h : b < _) => hb.cell (p := ⟨b, o, none⟩) h;have uz6 := hb.size
                (try simp only [World.size_drew] at uc6 uz6)
                clear hb;have a16 := fun m => af3 m t5 t6 (by omega);have a17 := fun m => af4 m t5 t6 (by omega);refine hKq.out _ _ ?_ (fun hHeld => ?_)
                · first | exact SH9 | exact hHeld | exact C4.below hHeld (by go_grown)
                clear hKq Kq;try simp only [Act.put, List.getElem_toArray, List.getElem_cons_zero, List.getElem_cons_succ, List.setIfInBounds_toArray, List.set_cons_zero, List.set_cons_succ]
                refine tkA 16 ?_;refine tkB 17 ?_;refine rqA 21 (fun Kq hKq => ?_)
                · go_simp
                  refine (IH r A len cap _ (HR6.out.below (by go_grown))).mono ?_;rintro e w7 ⟨t7, rfl, ht7, hr, hu⟩;have HR7 : Hid (Rd w7 r A len cap) := hr;have HU7 : Hid (Upd r w w7) := HU6.out.trans ((Upd.of_below (Nat.le_of_lt HR6.out.lt) (by go_grown)).trans hu);have SH9 := C4.upd (C4.below hHeld (by go_grown)) hu nr3;obtain ⟨uc7, uf7, uz7, ub⟩ := hu
                  (try simp only [World.size_drew] at uc7 uf7 uz7)
                  clear hr ub;have a22 := fun m => af5 m t5 t6 t7 (by omega);have a23 := fun m => af6 m t5 t6 t7 (by omega);refine hKq.out _ _ ?_ (fun hHeld => ?_)
                  · first | exact SH9 | exact hHeld | exact C4.below hHeld (by go_grown)
                  clear hKq Kq;try simp only [Act.put, List.getElem_toArray, List.getElem_cons_zero, List.getElem_cons_succ, List.setIfInBounds_toArray, List.set_cons_zero, List.set_cons_succ]
                  refine tkA 22 ?_;refine tkB 23 ?_;refine tkB 24 ?_;refine wpAnyH_done (by kernel_rfl) ?_ _;go_wp2_with fail
                  go_ret;first
                  | exact ⟨_, rfl, (by have := Qk nq; simp only [ByteArray.size_append, Qn]; omega), HR7.out, HU7.out⟩
                  | exact ⟨_, rfl, (by have := Qk nq; simp only [ByteArray.size_append, Qn]; omega), HR7.out.below (by go_grown), HU7.out.trans (Upd.of_below (Nat.le_of_lt HR7.out.lt) (by go_grown))⟩
            · go_simp
              refine (Qj _ _ _ _ _).mono ?_;rintro e w6 ⟨t6, rfl, ht6, hb⟩;have HR6 : Hid (Rd w6 r A len cap) := (HR5.out.below (by go_grown)).below hb;have HU6 : Hid (Upd r w w6) := HU5.out.trans ((Upd.of_below (Nat.le_of_lt HR5.out.lt) (by go_grown)).trans (Upd.of_below (Nat.le_of_lt (HR5.out.below (by go_grown)).lt) hb));have SH9 := C4.below (C4.below hHeld (by go_grown)) hb;have uc6 := fun b o (h : b < _) => hb.cell (p := ⟨b, o, none⟩) h;have uz6 := hb.size
              (try simp only [World.size_drew] at uc6 uz6)
              clear hb;have hT6 : w4.heap.size < w6.heap.size := (by have h := uz6; have h2 := hT5; (try simp at h); omega);have hcl6 : w6.cell? ⟨w4.heap.size, nq, none⟩ = some (.string (XA nq)) := (uc6 _ _ (by have h2 := hT5; simp; omega)).trans hcl5;have a16 := fun m => af3 m t5 t6 (by omega);have a17 := fun m => af4 m t5 t6 (by omega);refine hKq.out _ _ ?_ (fun hHeld => ?_)
              · first | exact SH9 | exact hHeld | exact C4.below hHeld (by go_grown)
              clear hKq Kq;try simp only [Act.put, List.getElem_toArray, List.getElem_cons_zero, List.getElem_cons_succ, List.setIfInBounds_toArray, List.set_cons_zero, List.set_cons_succ]
              refine rqB 4 21 (fun Kq hKq => ?_) (fun Kq hKq => ?_)
              · go_simp
                refine hKq.out _ _ ?_ (fun hHeld => ?_)
                · first | exact SH9 | exact hHeld | exact C4.below hHeld (by go_grown)
                clear hKq Kq;try simp only [Act.put, List.getElem_toArray, List.getElem_cons_zero, List.getElem_cons_succ, List.setIfInBounds_toArray, List.set_cons_zero, List.set_cons_succ]
                refine tkA 5 ?_;refine tkB 10 ?_;refine tkA 11 ?_;refine tkB 16 ?_;refine tkB 17 ?_;refine rqA 21 (fun Kq hKq => ?_)
                · go_simp
                  refine (IH r A len cap _ (HR6.out.below (by go_grown))).mono ?_;rintro e w7 ⟨t7, rfl, ht7, hr, hu⟩;have HR7 : Hid (Rd w7 r A len cap) := hr;have HU7 : Hid (Upd r w w7) := HU6.out.trans ((Upd.of_below (Nat.le_of_lt HR6.out.lt) (by go_grown)).trans hu);have SH9 := C4.upd (C4.below hHeld (by go_grown)) hu nr3;obtain ⟨uc7, uf7, uz7, ub⟩ := hu
                  (try simp only [World.size_drew] at uc7 uf7 uz7)
                  clear hr ub;have a22 := fun m => af5 m t5 t6 t7 (by omega);have a23 := fun m => af6 m t5 t6 t7 (by omega);refine hKq.out _ _ ?_ (fun hHeld => ?_)
                  · first | exact SH9 | exact hHeld | exact C4.below hHeld (by go_grown)
                  clear hKq Kq;try simp only [Act.put, List.getElem_toArray, List.getElem_cons_zero, List.getElem_cons_succ, List.setIfInBounds_toArray, List.set_cons_zero, List.set_cons_succ]
                  refine tkA 22 ?_;refine tkB 23 ?_;refine tkB 24 ?_;refine wpAnyH_done (by kernel_rfl) ?_ _;go_wp2_with fail
                  go_ret;first
                  | exact ⟨_, rfl, (by have := Qk nq; simp only [ByteArray.size_append, Qn]; omega), HR7.out, HU7.out⟩
                  | exact ⟨_, rfl, (by have := Qk nq; simp only [ByteArray.size_append, Qn]; omega), HR7.out.below (by go_grown), HU7.out.trans (Upd.of_below (Nat.le_of_lt HR7.out.lt) (by go_grown))⟩
              · go_simp
                refine (IH r A len cap _ (HR6.out.below (by go_grown))).mono ?_;rintro e w7 ⟨t7, rfl, ht7, hr, hu⟩;have HR7 : Hid (Rd w7 r A len cap) := hr;have HU7 : Hid (Upd r w w7) := HU6.out.trans ((Upd.of_below (Nat.le_of_lt HR6.out.lt) (by go_grown)).trans hu);have SH9 := C4.upd (C4.below hHeld (by go_grown)) hu nr3;obtain ⟨uc7, uf7, uz7, ub⟩ := hu
                (try simp only [World.size_drew] at uc7 uf7 uz7)
                clear hr ub;have hT7 : w4.heap.size < w7.heap.size := (by have h := uz7; have h2 := hT6; (try simp at h); omega);have hcl7 : w7.cell? ⟨w4.heap.size, nq, none⟩ = some (.string (XA nq)) := (uc7 _ _ (by have h2 := hT6; simp; omega) (by have := HR4.out.lt; omega)).trans hcl6;have a22 := fun m => af5 m t5 t6 t7 (by omega);have a23 := fun m => af6 m t5 t6 t7 (by omega);refine hKq.out _ _ ?_ (fun hHeld => ?_)
                · first | exact SH9 | exact hHeld | exact C4.below hHeld (by go_grown)
                clear hKq Kq;try simp only [Act.put, List.getElem_toArray, List.getElem_cons_zero, List.getElem_cons_succ, List.setIfInBounds_toArray, List.set_cons_zero, List.set_cons_succ]
                refine rqA 4 (fun Kq hKq => ?_)
                · go_simp
                  refine hKq.out _ _ ?_ (fun hHeld => ?_)
                  · first | exact SH9 | exact hHeld | exact C4.below hHeld (by go_grown)
                  clear hKq Kq;try simp only [Act.put, List.getElem_toArray, List.getElem_cons_zero, List.getElem_cons_succ, List.setIfInBounds_toArray, List.set_cons_zero, List.set_cons_succ]
                  refine tkA 5 ?_;refine tkB 10 ?_;refine tkA 11 ?_;refine tkB 16 ?_;refine tkA 17 ?_;refine tkB 22 ?_;refine tkA 23 ?_
                  refine tkB 24 ?_;refine wpAnyH_done (by kernel_rfl) ?_ _;go_wp2_with fail
                  go_ret;first
                  | exact ⟨_, rfl, (by have := Qk nq; simp only [ByteArray.size_append, Qn]; omega), HR7.out, HU7.out⟩
                  | exact ⟨_, rfl, (by have := Qk nq; simp only [ByteArray.size_append, Qn]; omega), HR7.out.below (by go_grown), HU7.out.trans (Upd.of_below (Nat.le_of_lt HR7.out.lt) (by go_grown))⟩
        · go_simp
          refine (Qj _ _ _ _ _).mono ?_;rintro e w5 ⟨t5, rfl, ht5, hb⟩;have HR5 : Hid (Rd w5 r A len cap) := (HR4.out.below (by go_grown)).below hb;have HU5 : Hid (Upd r w w5) := HU4.out.trans ((Upd.of_below (Nat.le_of_lt HR4.out.lt) (by go_grown)).trans (Upd.of_below (Nat.le_of_lt (HR4.out.below (by go_grown)).lt) hb));have SH9 := C4.below (C4.below hHeld (by go_grown)) hb;have uc5 := fun b o (h : b < _) => hb.cell (p := ⟨b, o, none⟩) h;have uz5 := hb.size
          (try simp only [World.size_drew] at uc5 uz5)
          clear hb;have a10 := fun m => af1 m t5 (by omega);have a11 := fun m => af2 m t5 (by omega);refine hKq.out _ _ ?_ (fun hHeld => ?_)
          · first | exact SH9 | exact hHeld | exact C4.below hHeld (by go_grown)
          clear hKq Kq;try simp only [Act.put, List.getElem_toArray, List.getElem_cons_zero, List.getElem_cons_succ, List.setIfInBounds_toArray, List.set_cons_zero, List.set_cons_succ]
          refine rqB 0 15 (fun Kq hKq => ?_) (fun Kq hKq => ?_)
          · go_simp
            refine hKq.out _ _ ?_ (fun hHeld => ?_)
            · first | exact SH9 | exact hHeld | exact C4.below hHeld (by go_grown)
            clear hKq Kq;try simp only [Act.put, List.getElem_toArray, List.getElem_cons_zero, List.getElem_cons_succ, List.setIfInBounds_toArray, List.set_cons_zero, List.set_cons_succ]
            refine tkB 3 ?_;refine rqB 4 15 (fun Kq hKq => ?_) (fun Kq hKq => ?_)
            · go_simp
              refine hKq.out _ _ ?_ (fun hHeld => ?_)
              · first | exact SH9 | exact hHeld | exact C4.below hHeld (by go_grown)
              clear hKq Kq;try simp only [Act.put, List.getElem_toArray, List.getElem_cons_zero, List.getElem_cons_succ, List.setIfInBounds_toArray, List.set_cons_zero, List.set_cons_succ]
              refine tkA 5 ?_;refine tkB 10 ?_;refine tkB 11 ?_;refine rqA 15 (fun Kq hKq => ?_)
              · go_simp
                refine (Qj _ _ _ _ _).mono ?_;rintro e w6 ⟨t6, rfl, ht6, hb⟩;have HR6 : Hid (Rd w6 r A len cap) := (HR5.out.below (by go_grown)).below hb;have HU6 : Hid (Upd r w w6) := HU5.out.trans ((Upd.of_below (Nat.le_of_lt HR5.out.lt) (by go_grown)).trans (Upd.of_below (Nat.le_of_lt (HR5.out.below (by go_grown)).lt) hb));have SH9 := C4.below (C4.below hHeld (by go_grown)) hb;have uc6 := fun b o (h : b < _) => hb.cell (p := ⟨b, o, none⟩) h;have uz6 := hb.size
                (try simp only [World.size_drew] at uc6 uz6)
                clear hb;have a16 := fun m => af3 m t5 t6 (by omega);have a17 := fun m => af4 m t5 t6 (by omega);refine hKq.out _ _ ?_ (fun hHeld => ?_)
                · first | exact SH9 | exact hHeld | exact C4.below hHeld (by go_grown)
                clear hKq Kq;try simp only [Act.put, List.getElem_toArray, List.getElem_cons_zero, List.getElem_cons_succ, List.setIfInBounds_toArray, List.set_cons_zero, List.set_cons_succ]
                refine tkA 16 ?_;refine tkB 17 ?_;refine rqA 21 (fun Kq hKq => ?_)
                · go_simp
                  refine (IH r A len cap _ (HR6.out.below (by go_grown))).mono ?_;rintro e w7 ⟨t7, rfl, ht7, hr, hu⟩;have HR7 : Hid (Rd w7 r A len cap) := hr;have HU7 : Hid (Upd r w w7) := HU6.out.trans ((Upd.of_below (Nat.le_of_lt HR6.out.lt) (by go_grown)).trans hu);have SH9 := C4.upd (C4.below hHeld (by go_grown)) hu nr3;obtain ⟨uc7, uf7, uz7, ub⟩ := hu
                  (try simp only [World.size_drew] at uc7 uf7 uz7)
                  clear hr ub;have a22 := fun m => af5 m t5 t6 t7 (by omega);have a23 := fun m => af6 m t5 t6 t7 (by omega);refine hKq.out _ _ ?_ (fun hHeld => ?_)
                  · first | exact SH9 | exact hHeld | exact C4.below hHeld (by go_grown)
                  clear hKq Kq;try simp only [Act.put, List.getElem_toArray, List.getElem_cons_zero, List.getElem_cons_succ, List.setIfInBounds_toArray, List.set_cons_zero, List.set_cons_succ]
                  refine tkA 22 ?_;refine tkB 23 ?_;refine tkB 24 ?_;refine wpAnyH_done (by kernel_rfl) ?_ _;go_wp2_with fail
                  go_ret;first
                  | exact ⟨_, rfl, (by have := Qk nq; simp only [ByteArray.size_append, Qn]; omega), HR7.out, HU7.out⟩
                  | exact ⟨_, rfl, (by have := Qk nq; simp only [ByteArray.size_append, Qn]; omega), HR7.out.below (by go_grown), HU7.out.trans (Upd.of_below (Nat.le_of_lt HR7.out.lt) (by go_grown))⟩
            · go_simp
              refine (Qj _ _ _ _ _).mono ?_;rintro e w6 ⟨t6, rfl, ht6, hb⟩;have HR6 : Hid (Rd w6 r A len cap) := (HR5.out.below (by go_grown)).below hb;have HU6 : Hid (Upd r w w6) := HU5.out.trans ((Upd.of_below (Nat.le_of_lt HR5.out.lt) (by go_grown)).trans (Upd.of_below (Nat.le_of_lt (HR5.out.below (by go_grown)).lt) hb));have SH9 := C4.below (C4.below hHeld (by go_grown)) hb;have uc6 := fun b o (h : b < _) => hb.cell (p := ⟨b, o, none⟩) h;have uz6 := hb.size
              (try simp only [World.size_drew] at uc6 uz6)
              clear hb;have hT6 : w5.heap.size < w6.heap.size := (by have h := uz6; (try simp at h); omega);have hcl6 : w6.cell? ⟨w5.heap.size, nq, none⟩ = some (.string (XA nq)) := (uc6 _ _ (by simp)).trans (htb _);have a16 := fun m => af3 m t5 t6 (by omega);have a17 := fun m => af4 m t5 t6 (by omega);refine hKq.out _ _ ?_ (fun hHeld => ?_)
              · first | exact SH9 | exact hHeld | exact C4.below hHeld (by go_grown)
              clear hKq Kq;try simp only [Act.put, List.getElem_toArray, List.getElem_cons_zero, List.getElem_cons_succ, List.setIfInBounds_toArray, List.set_cons_zero, List.set_cons_succ]
              refine rqB 4 21 (fun Kq hKq => ?_) (fun Kq hKq => ?_)
              · go_simp
                refine hKq.out _ _ ?_ (fun hHeld => ?_)
                · first | exact SH9 | exact hHeld | exact C4.below hHeld (by go_grown)
                clear hKq Kq;try simp only [Act.put, List.getElem_toArray, List.getElem_cons_zero, List.getElem_cons_succ, List.setIfInBounds_toArray, List.set_cons_zero, List.set_cons_succ]
                refine tkA 5 ?_;refine tkB 10 ?_;refine tkA 11 ?_;refine tkB 16 ?_;refine tkB 17 ?_;refine rqA 21 (fun Kq hKq => ?_)
                · go_simp
                  refine (IH r A len cap _ (HR6.out.below (by go_grown))).mono ?_;rintro e w7 ⟨t7, rfl, ht7, hr, hu⟩;have HR7 : Hid (Rd w7 r A len cap) := hr;have HU7 : Hid (Upd r w w7) := HU6.out.trans ((Upd.of_below (Nat.le_of_lt HR6.out.lt) (by go_grown)).trans hu);have SH9 := C4.upd (C4.below hHeld (by go_grown)) hu nr3;obtain ⟨uc7, uf7, uz7, ub⟩ := hu
                  (try simp only [World.size_drew] at uc7 uf7 uz7)
                  clear hr ub;have a22 := fun m => af5 m t5 t6 t7 (by omega);have a23 := fun m => af6 m t5 t6 t7 (by omega);refine hKq.out _ _ ?_ (fun hHeld => ?_)
                  · first | exact SH9 | exact hHeld | exact C4.below hHeld (by go_grown)
                  clear hKq Kq;try simp only [Act.put, List.getElem_toArray, List.getElem_cons_zero, List.getElem_cons_succ, List.setIfInBounds_toArray, List.set_cons_zero, List.set_cons_succ]
                  refine tkA 22 ?_;refine tkB 23 ?_;refine tkB 24 ?_;refine wpAnyH_done (by kernel_rfl) ?_ _;go_wp2_with fail
                  go_ret;first
                  | exact ⟨_, rfl, (by have := Qk nq; simp only [ByteArray.size_append, Qn]; omega), HR7.out, HU7.out⟩
                  | exact ⟨_, rfl, (by have := Qk nq; simp only [ByteArray.size_append, Qn]; omega), HR7.out.below (by go_grown), HU7.out.trans (Upd.of_below (Nat.le_of_lt HR7.out.lt) (by go_grown))⟩
              · go_simp
                refine (IH r A len cap _ (HR6.out.below (by go_grown))).mono ?_;rintro e w7 ⟨t7, rfl, ht7, hr, hu⟩;have HR7 : Hid (Rd w7 r A len cap) := hr;have HU7 : Hid (Upd r w w7) := HU6.out.trans ((Upd.of_below (Nat.le_of_lt HR6.out.lt) (by go_grown)).trans hu);have SH9 := C4.upd (C4.below hHeld (by go_grown)) hu nr3;obtain ⟨uc7, uf7, uz7, ub⟩ := hu
                (try simp only [World.size_drew] at uc7 uf7 uz7)
                clear hr ub;have hT7 : w5.heap.size < w7.heap.size := (by have h := uz7; have h2 := hT6; (try simp at h); omega);have hcl7 : w7.cell? ⟨w5.heap.size, nq, none⟩ = some (.string (XA nq)) := (uc7 _ _ (by have h2 := hT6; simp; omega) (by have := HR5.out.lt; omega)).trans hcl6;have a22 := fun m => af5 m t5 t6 t7 (by omega);have a23 := fun m => af6 m t5 t6 t7 (by omega);refine hKq.out _ _ ?_ (fun hHeld => ?_)
                · first | exact SH9 | exact hHeld | exact C4.below hHeld (by go_grown)
                clear hKq Kq;try simp only [Act.put, List.getElem_toArray, List.getElem_cons_zero, List.getElem_cons_succ, List.setIfInBounds_toArray, List.set_cons_zero, List.set_cons_succ]
                refine rqA 4 (fun Kq hKq => ?_)
                · go_simp
                  refine hKq.out _ _ ?_ (fun hHeld => ?_)
                  · first | exact SH9 | exact hHeld | exact C4.below hHeld (by go_grown)
                  clear hKq Kq;try simp only [Act.put, List.getElem_toArray, List.getElem_cons_zero, List.getElem_cons_succ, List.setIfInBounds_toArray, List.set_cons_zero, List.set_cons_succ]
                  refine tkA 5 ?_;refine tkB 10 ?_;refine tkA 11 ?_;refine tkB 16 ?_;refine tkA 17 ?_;refine tkB 22 ?_;refine tkA 23 ?_
                  refine tkB 24 ?_;refine wpAnyH_done (by kernel_rfl) ?_ _;go_wp2_with fail
                  go_ret;first
                  | exact ⟨_, rfl, (by have := Qk nq; simp only [ByteArray.size_append, Qn]; omega), HR7.out, HU7.out⟩
                  | exact ⟨_, rfl, (by have := Qk nq; simp only [ByteArray.size_append, Qn]; omega), HR7.out.below (by go_grown), HU7.out.trans (Upd.of_below (Nat.le_of_lt HR7.out.lt) (by go_grown))⟩
          · go_simp
            refine (Qj _ _ _ _ _).mono ?_;rintro e w6 ⟨t6, rfl, ht6, hb⟩;have HR6 : Hid (Rd w6 r A len cap) := (HR5.out.below (by go_grown)).below hb;have HU6 : Hid (Upd r w w6) := HU5.out.trans ((Upd.of_below (Nat.le_of_lt HR5.out.lt) (by go_grown)).trans (Upd.of_below (Nat.le_of_lt (HR5.out.below (by go_grown)).lt) hb));have SH9 := C4.below (C4.below hHeld (by go_grown)) hb;have uc6 := fun b o (h : b < _) => hb.cell (p := ⟨b, o, none⟩) h;have uz6 := hb.size
            (try simp only [World.size_drew] at uc6 uz6)
            clear hb;have a16 := fun m => af3 m t5 t6 (by omega);have a17 := fun m => af4 m t5 t6 (by omega);refine hKq.out _ _ ?_ (fun hHeld => ?_)
            · first | exact SH9 | exact hHeld | exact C4.below hHeld (by go_grown)
            clear hKq Kq;try simp only [Act.put, List.getElem_toArray, List.getElem_cons_zero, List.getElem_cons_succ, List.setIfInBounds_toArray, List.set_cons_zero, List.set_cons_succ]
            refine rqB 0 21 (fun Kq hKq => ?_) (fun Kq hKq => ?_)
            · go_simp
              refine hKq.out _ _ ?_ (fun hHeld => ?_)
              · first | exact SH9 | exact hHeld | exact C4.below hHeld (by go_grown)
              clear hKq Kq;try simp only [Act.put, List.getElem_toArray, List.getElem_cons_zero, List.getElem_cons_succ, List.setIfInBounds_toArray, List.set_cons_zero, List.set_cons_succ]
              refine tkB 3 ?_;refine rqB 4 21 (fun Kq hKq => ?_) (fun Kq hKq => ?_)
              · go_simp
                refine hKq.out _ _ ?_ (fun hHeld => ?_)
                · first | exact SH9 | exact hHeld | exact C4.below hHeld (by go_grown)
                clear hKq Kq;try simp only [Act.put, List.getElem_toArray, List.getElem_cons_zero, List.getElem_cons_succ, List.setIfInBounds_toArray, List.set_cons_zero, List.set_cons_succ]
                refine tkA 5 ?_;refine tkB 10 ?_;refine tkA 11 ?_;refine tkB 16 ?_;refine tkB 17 ?_;refine rqA 21 (fun Kq hKq => ?_)
                · go_simp
                  refine (IH r A len cap _ (HR6.out.below (by go_grown))).mono ?_;rintro e w7 ⟨t7, rfl, ht7, hr, hu⟩;have HR7 : Hid (Rd w7 r A len cap) := hr;have HU7 : Hid (Upd r w w7) := HU6.out.trans ((Upd.of_below (Nat.le_of_lt HR6.out.lt) (by go_grown)).trans hu);have SH9 := C4.upd (C4.below hHeld (by go_grown)) hu nr3;obtain ⟨uc7, uf7, uz7, ub⟩ := hu
                  (try simp only [World.size_drew] at uc7 uf7 uz7)
                  clear hr ub;have a22 := fun m => af5 m t5 t6 t7 (by omega);have a23 := fun m => af6 m t5 t6 t7 (by omega);refine hKq.out _ _ ?_ (fun hHeld => ?_)
                  · first | exact SH9 | exact hHeld | exact C4.below hHeld (by go_grown)
                  clear hKq Kq;try simp only [Act.put, List.getElem_toArray, List.getElem_cons_zero, List.getElem_cons_succ, List.setIfInBounds_toArray, List.set_cons_zero, List.set_cons_succ]
                  refine tkA 22 ?_;refine tkB 23 ?_;refine tkB 24 ?_;refine wpAnyH_done (by kernel_rfl) ?_ _;go_wp2_with fail
                  go_ret;first
                  | exact ⟨_, rfl, (by have := Qk nq; simp only [ByteArray.size_append, Qn]; omega), HR7.out, HU7.out⟩
                  | exact ⟨_, rfl, (by have := Qk nq; simp only [ByteArray.size_append, Qn]; omega), HR7.out.below (by go_grown), HU7.out.trans (Upd.of_below (Nat.le_of_lt HR7.out.lt) (by go_grown))⟩
              · go_simp
                refine (IH r A len cap _ (HR6.out.below (by go_grown))).mono ?_;rintro e w7 ⟨t7, rfl, ht7, hr, hu⟩;have HR7 : Hid (Rd w7 r A len cap) := hr;have HU7 : Hid (Upd r w w7) := HU6.out.trans ((Upd.of_below (Nat.le_of_lt HR6.out.lt) (by go_grown)).trans hu);have SH9 := C4.upd (C4.below hHeld (by go_grown)) hu nr3;obtain ⟨uc7, uf7, uz7, ub⟩ := hu
                (try simp only [World.size_drew] at uc7 uf7 uz7)
                clear hr ub;have hT7 : w6.heap.size < w7.heap.size := (by have h := uz7; (try simp at h); omega);have hcl7 : w7.cell? ⟨w6.heap.size, nq, none⟩ = some (.string (XA nq)) := (uc7 _ _ (by simp) (by have := HR6.out.lt; omega)).trans (htb _);have a22 := fun m => af5 m t5 t6 t7 (by omega);have a23 := fun m => af6 m t5 t6 t7 (by omega);refine hKq.out _ _ ?_ (fun hHeld => ?_)
                · first | exact SH9 | exact hHeld | exact C4.below hHeld (by go_grown)
                clear hKq Kq;try simp only [Act.put, List.getElem_toArray, List.getElem_cons_zero, List.getElem_cons_succ, List.setIfInBounds_toArray, List.set_cons_zero, List.set_cons_succ]
                refine rqA 4 (fun Kq hKq => ?_)
                · go_simp
                  refine hKq.out _ _ ?_ (fun hHeld => ?_)
                  · first | exact SH9 | exact hHeld | exact C4.below hHeld (by go_grown)
                  clear hKq Kq;try simp only [Act.put, List.getElem_toArray, List.getElem_cons_zero, List.getElem_cons_succ, List.setIfInBounds_toArray, List.set_cons_zero, List.set_cons_succ]
                  refine tkA 5 ?_;refine tkB 10 ?_;refine tkA 11 ?_;refine tkB 16 ?_;refine tkA 17 ?_;refine tkB 22 ?_;refine tkA 23 ?_
                  refine tkB 24 ?_;refine wpAnyH_done (by kernel_rfl) ?_ _;go_wp2_with fail
                  go_ret;first
                  | exact ⟨_, rfl, (by have := Qk nq; simp only [ByteArray.size_append, Qn]; omega), HR7.out, HU7.out⟩
                  | exact ⟨_, rfl, (by have := Qk nq; simp only [ByteArray.size_append, Qn]; omega), HR7.out.below (by go_grown), HU7.out.trans (Upd.of_below (Nat.le_of_lt HR7.out.lt) (by go_grown))⟩
            · go_simp
              refine (IH r A len cap _ (HR6.out.below (by go_grown))).mono ?_;rintro e w7 ⟨t7, rfl, ht7, hr, hu⟩;have HR7 : Hid (Rd w7 r A len cap) := hr;have HU7 : Hid (Upd r w w7) := HU6.out.trans ((Upd.of_below (Nat.le_of_lt HR6.out.lt) (by go_grown)).trans hu);have SH9 := C4.upd (C4.below hHeld (by go_grown)) hu nr3;obtain ⟨uc7, uf7, uz7, ub⟩ := hu
              (try simp only [World.size_drew] at uc7 uf7 uz7)
              clear hr ub;have a22 := fun m => af5 m t5 t6 t7 (by omega);have a23 := fun m => af6 m t5 t6 t7 (by omega);refine hKq.out _ _ ?_ (fun hHeld => ?_)
              · first | exact SH9 | exact hHeld | exact C4.below hHeld (by go_grown)
              clear hKq Kq;try simp only [Act.put, List.getElem_toArray, List.getElem_cons_zero, List.getElem_cons_succ, List.setIfInBounds_toArray, List.set_cons_zero, List.set_cons_succ]
              refine rqA 0 (fun Kq hKq => ?_)
              · go_simp
                refine hKq.out _ _ ?_ (fun hHeld => ?_)
                · first | exact SH9 | exact hHeld | exact C4.below hHeld (by go_grown)
                clear hKq Kq;try simp only [Act.put, List.getElem_toArray, List.getElem_cons_zero, List.getElem_cons_succ, List.setIfInBounds_toArray, List.set_cons_zero, List.set_cons_succ]
                refine tkB 3 ?_;refine rqA 4 (fun Kq hKq => ?_)
                · go_simp
                  refine hKq.out _ _ ?_ (fun hHeld => ?_)
                  · first | exact SH9 | exact hHeld | exact C4.below hHeld (by go_grown)
                  clear hKq Kq;try simp only [Act.put, List.getElem_toArray, List.getElem_cons_zero, List.getElem_cons_succ, List.setIfInBounds_toArray, List.set_cons_zero, List.set_cons_succ]
                  refine tkA 5 ?_;refine tkB 10 ?_;refine tkA 11 ?_;refine tkB 16 ?_;refine tkA 17 ?_;refine tkB 22 ?_;refine tkA 23 ?_
                  refine tkB 24 ?_;refine wpAnyH_done (by kernel_rfl) ?_ _;go_wp2_with fail
                  go_ret;first
                  | exact ⟨_, rfl, (by have := Qk nq; simp only [ByteArray.size_append, Qn]; omega), HR7.out, HU7.out⟩
                  | exact ⟨_, rfl, (by have := Qk nq; simp only [ByteArray.size_append, Qn]; omega), HR7.out.below (by go_grown), HU7.out.trans (Upd.of_below (Nat.le_of_lt HR7.out.lt) (by go_grown))⟩
  · go_wp2_with fail
    refine (IH r A len cap _ HR2.out).mono ?_;rintro e w3 ⟨t3, rfl, ht3, hr, hu⟩;have HR3 : Hid (Rd w3 r A len cap) := hr;have HU3 : Hid (Upd r w w3) := HU2.out.trans hu;clear hr hu HR2 HU2;have z1 : ((⟨#[73, 70, 40]⟩ : ByteArray) ++ t3).size = 3 + t3.size := by rw [ByteArray.size_append]; rfl
    have a1 := Qs (x := ⟨#[73, 70, 40]⟩) (y := t3) (B := 1003) (by show 3 + t3.size ≤ _; omega) (by omega);obtain ⟨s1, hs1⟩ : ∃ s, (⟨#[73, 70, 40]⟩ : ByteArray) ++ t3 = s := ⟨_, rfl⟩;rw [hs1] at a1 z1;clear hs1;have z2 : (s1 ++ (⟨#[44]⟩ : ByteArray)).size = s1.size + 1 := by rw [ByteArray.size_append]; rfl
    have a2 := Qs (x := s1) (y := ⟨#[44]⟩) (B := 1005) (by show s1.size + 1 ≤ _; omega) (by omega);obtain ⟨s2, hs2⟩ : ∃ s, s1 ++ (⟨#[44]⟩ : ByteArray) = s := ⟨_, rfl⟩;rw [hs2] at a2 z2;clear hs2;go_wp2_with fail
    refine (IH r A len cap _ HR3.out).mono ?_;rintro e w4 ⟨t4, rfl, ht4, hr, hu⟩;have HR4 : Hid (Rd w4 r A len cap) := hr;have HU4 : Hid (Upd r w w4) := HU3.out.trans hu;clear hr hu HR3 HU3;have z3 : (s2 ++ t4).size = s2.size + t4.size := by rw [ByteArray.size_append]
    have a3 := Qs (x := s2) (y := t4) (B := 2005) (by omega) (by omega);obtain ⟨s3, hs3⟩ : ∃ s, s2 ++ t4 = s := ⟨_, rfl⟩;rw [hs3] at a3 z3;clear hs3;have z4 : (s3 ++ (⟨#[44]⟩ : ByteArray)).size = s3.size + 1 := by rw [ByteArray.size_append]; rfl
    have a4 := Qs (x := s3) (y := ⟨#[44]⟩) (B := 2007) (by show s3.size + 1 ≤ _; omega) (by omega);obtain ⟨s4, hs4⟩ : ∃ s, s3 ++ (⟨#[44]⟩ : ByteArray) = s := ⟨_, rfl⟩;rw [hs4] at a4 z4;clear hs4;go_wp2_with fail
    refine (IH r A len cap _ HR4.out).mono ?_;rintro e w5 ⟨t5, rfl, ht5, hr, hu⟩;have HR5 : Hid (Rd w5 r A len cap) := hr;have HU5 : Hid (Upd r w w5) := HU4.out.trans hu;clear hr hu HR4 HU4;have z5 : (s4 ++ t5).size = s4.size + t5.size := by rw [ByteArray.size_append]
    have a5 := Qs (x := s4) (y := t5) (B := 3007) (by omega) (by omega);obtain ⟨s5, hs5⟩ : ∃ s, s4 ++ t5 = s := ⟨_, rfl⟩;rw [hs5] at a5 z5;clear hs5;have a6 := Qs (x := s5) (y := ⟨#[41]⟩) (B := 3009) (by show s5.size + 1 ≤ _; omega) (by omega);go_wp2_with fail
    go_ret;exact ⟨_, rfl, by rw [ByteArray.size_append]; show s5.size + 1 ≤ _; omega, HR5.out, HU5.out⟩
  · have hwr : IntKind.i64.wrap (n - 1) = n - 1 := by rw [IntKind.wrap_i64]; omega
    have nr : ¬ w2.heap.size = r := by have := HR2.out.lt; omega
    have hrl := HR2.out.lt;have z3 : ∀ m, (Jx m ++ (⟨#[40]⟩ : ByteArray)).size = 4 := fun m => by rw [ByteArray.size_append, OK]; rfl
    have a1 := fun m => Qs (x := Jx m) (y := ⟨#[40]⟩) (B := 4) (by rw [OK]; decide) (by omega)
    have htab : ∀ n, n < 3 → ∀ W : World, (W.alloc (.cells #[.string ⟨#[78, 79, 84]⟩, .string ⟨#[65, 66, 83]⟩, .string ⟨#[76, 69, 78]⟩] 9)).cell? ⟨W.heap.size, n, none⟩ = some (.string (Jx n)) := fun n hn W => by
      have hn' : n = 0 ∨ n = 1 ∨ n = 2 := by omega
      rcases hn' with rfl | rfl | rfl <;> simp [Jx]
    go_wp2_with fail
    refine wp_region_held_drew (S := fun _ => True) (by kernel_rfl) trivial (fun hHeld => ?_);refine tkA 1 ?_;refine tkB 6 ?_;refine tkA 7 ?_;refine tkB 8 ?_;refine rqB 0 2 (fun Kq hKq => ?_) (fun Kq hKq => ?_)
    · go_simp
      refine hKq.out _ _ trivial (fun hHeld => ?_);clear hKq Kq;try simp only [Act.put, List.getElem_toArray, List.getElem_cons_zero, List.getElem_cons_succ, List.setIfInBounds_toArray, List.set_cons_zero, List.set_cons_succ]
      refine rqA 2 (fun Kq hKq => ?_)
      · go_simp
        refine (Qy r A len cap 3 _ (HR2.out.below (by go_grown)) (by omega) (by omega)).mono ?_;rintro e w3 ⟨q, rfl, q0, q1, hr, hu⟩;obtain ⟨nq, rfl⟩ : ∃ n : Nat, q = (n : Int) := ⟨q.toNat, by omega⟩;have hq6 : nq < 3 := (by omega);have hq7 : (nq : Int) < 3 := (by omega);have hq8 : (0 : Int) ≤ (nq : Int) := (by omega);have ht7 := htab nq hq6
        have HR3 : Hid (Rd w3 r A len cap) := hr;have HU3 : Hid (Upd r w w3) := HU2.out.trans ((Upd.of_below (Nat.le_of_lt HR2.out.lt) (by go_grown)).trans hu);obtain ⟨uc3, uf3, uz3, ub⟩ := hu
        (try simp only [World.size_drew] at uc3 uf3 uz3)
        clear hr ub;refine hKq.out _ _ trivial (fun hHeld => ?_);clear hKq Kq;try simp only [Act.put, List.getElem_toArray, List.getElem_cons_zero, List.getElem_cons_succ, List.setIfInBounds_toArray, List.set_cons_zero, List.set_cons_succ]
        refine tkB 3 ?_;refine rqB 4 9 (fun Kq hKq => ?_) (fun Kq hKq => ?_)
        · go_simp
          refine hKq.out _ _ trivial (fun hHeld => ?_);clear hKq Kq;try simp only [Act.put, List.getElem_toArray, List.getElem_cons_zero, List.getElem_cons_succ, List.setIfInBounds_toArray, List.set_cons_zero, List.set_cons_succ]
          refine tkB 5 ?_;refine rqA 9 (fun Kq hKq => ?_)
          · go_simp
            refine (IH r A len cap _ (HR3.out.below (by go_grown))).mono ?_;rintro e w4 ⟨t4, rfl, ht4, hr, hu⟩;have HR4 : Hid (Rd w4 r A len cap) := hr;have HU4 : Hid (Upd r w w4) := HU3.out.trans ((Upd.of_below (Nat.le_of_lt HR3.out.lt) (by go_grown)).trans hu);obtain ⟨uc4, uf4, uz4, ub⟩ := hu
            (try simp only [World.size_drew] at uc4 uf4 uz4)
            clear hr ub;have a2 := fun m => Qs (x := Jx m ++ ⟨#[40]⟩) (y := t4) (B := 1005) (by rw [z3 m]; omega) (by omega);have z4 : ∀ m, (Jx m ++ ⟨#[40]⟩ ++ t4).size = 4 + t4.size := fun m => by rw [ByteArray.size_append, z3 m]
            have a3 := fun m => Qs (x := Jx m ++ ⟨#[40]⟩ ++ t4) (y := ⟨#[41]⟩) (B := 1005) (by rw [z4 m]; show 4 + t4.size + 1 ≤ _; omega) (by omega);refine hKq.out _ _ trivial (fun hHeld => ?_);clear hKq Kq;try simp only [Act.put, List.getElem_toArray, List.getElem_cons_zero, List.getElem_cons_succ, List.setIfInBounds_toArray, List.set_cons_zero, List.set_cons_succ]
            refine tkA 10 ?_;refine tkB 11 ?_;refine tkB 12 ?_;refine wpAnyH_done (by kernel_rfl) ?_ _;go_wp2_with fail
            go_ret;first
            | exact ⟨_, rfl, by rw [ByteArray.size_append, z4]; show 4 + t4.size + 1 ≤ _; omega, HR4.out, HU4.out⟩
            | exact ⟨_, rfl, by rw [ByteArray.size_append, z4]; show 4 + t4.size + 1 ≤ _; omega, HR4.out.below (by go_grown), HU4.out.trans (Upd.of_below (Nat.le_of_lt HR4.out.lt) (by go_grown))⟩
        · go_simp
          refine (IH r A len cap _ (HR3.out.below (by go_grown))).mono ?_;rintro e w4 ⟨t4, rfl, ht4, hr, hu⟩;have HR4 : Hid (Rd w4 r A len cap) := hr;have HU4 : Hid (Upd r w w4) := HU3.out.trans ((Upd.of_below (Nat.le_of_lt HR3.out.lt) (by go_grown)).trans hu);obtain ⟨uc4, uf4, uz4, ub⟩ := hu
          (try simp only [World.size_drew] at uc4 uf4 uz4)
          clear hr ub;have a2 := fun m => Qs (x := Jx m ++ ⟨#[40]⟩) (y := t4) (B := 1005) (by rw [z3 m]; omega) (by omega);have z4 : ∀ m, (Jx m ++ ⟨#[40]⟩ ++ t4).size = 4 + t4.size := fun m => by rw [ByteArray.size_append, z3 m]
          have a3 := fun m => Qs (x := Jx m ++ ⟨#[40]⟩ ++ t4) (y := ⟨#[41]⟩) (B := 1005) (by rw [z4 m]; show 4 + t4.size + 1 ≤ _; omega) (by omega)
          have hcl : w4.cell? ⟨w2.heap.size, nq, none⟩ = some (.string (Jx nq)) := (by
            rw [uc4 _ _ (by have h := uz3; simp at h; omega) nr, uc3 _ _ (by simp) nr]
            exact ht7 _)
          refine hKq.out _ _ trivial (fun hHeld => ?_);clear hKq Kq;try simp only [Act.put, List.getElem_toArray, List.getElem_cons_zero, List.getElem_cons_succ, List.setIfInBounds_toArray, List.set_cons_zero, List.set_cons_succ]
          refine rqA 4 (fun Kq hKq => ?_)
          · go_simp
            refine hKq.out _ _ trivial (fun hHeld => ?_);clear hKq Kq;try simp only [Act.put, List.getElem_toArray, List.getElem_cons_zero, List.getElem_cons_succ, List.setIfInBounds_toArray, List.set_cons_zero, List.set_cons_succ]
            refine tkA 5 ?_;refine tkB 10 ?_;refine tkA 11 ?_;refine tkB 12 ?_;refine wpAnyH_done (by kernel_rfl) ?_ _;go_wp2_with fail
            go_ret;first
            | exact ⟨_, rfl, by rw [ByteArray.size_append, z4]; show 4 + t4.size + 1 ≤ _; omega, HR4.out, HU4.out⟩
            | exact ⟨_, rfl, by rw [ByteArray.size_append, z4]; show 4 + t4.size + 1 ≤ _; omega, HR4.out.below (by go_grown), HU4.out.trans (Upd.of_below (Nat.le_of_lt HR4.out.lt) (by go_grown))⟩
    · go_simp
      refine (Qy r A len cap 3 _ (HR2.out.below (by go_grown)) (by omega) (by omega)).mono ?_;rintro e w3 ⟨q, rfl, q0, q1, hr, hu⟩;obtain ⟨nq, rfl⟩ : ∃ n : Nat, q = (n : Int) := ⟨q.toNat, by omega⟩;have hq6 : nq < 3 := (by omega);have hq7 : (nq : Int) < 3 := (by omega);have hq8 : (0 : Int) ≤ (nq : Int) := (by omega);have ht7 := htab nq hq6
      have HR3 : Hid (Rd w3 r A len cap) := hr;have HU3 : Hid (Upd r w w3) := HU2.out.trans ((Upd.of_below (Nat.le_of_lt HR2.out.lt) (by go_grown)).trans hu);obtain ⟨uc3, uf3, uz3, ub⟩ := hu
      (try simp only [World.size_drew] at uc3 uf3 uz3)
      clear hr ub;refine hKq.out _ _ trivial (fun hHeld => ?_);clear hKq Kq;try simp only [Act.put, List.getElem_toArray, List.getElem_cons_zero, List.getElem_cons_succ, List.setIfInBounds_toArray, List.set_cons_zero, List.set_cons_succ]
      refine rqB 0 9 (fun Kq hKq => ?_) (fun Kq hKq => ?_)
      · go_simp
        refine hKq.out _ _ trivial (fun hHeld => ?_);clear hKq Kq;try simp only [Act.put, List.getElem_toArray, List.getElem_cons_zero, List.getElem_cons_succ, List.setIfInBounds_toArray, List.set_cons_zero, List.set_cons_succ]
        refine tkB 3 ?_;refine rqB 4 9 (fun Kq hKq => ?_) (fun Kq hKq => ?_)
        · go_simp
          refine hKq.out _ _ trivial (fun hHeld => ?_);clear hKq Kq;try simp only [Act.put, List.getElem_toArray, List.getElem_cons_zero, List.getElem_cons_succ, List.setIfInBounds_toArray, List.set_cons_zero, List.set_cons_succ]
          refine tkB 5 ?_;refine rqA 9 (fun Kq hKq => ?_)
          · go_simp
            refine (IH r A len cap _ (HR3.out.below (by go_grown))).mono ?_;rintro e w4 ⟨t4, rfl, ht4, hr, hu⟩;have HR4 : Hid (Rd w4 r A len cap) := hr;have HU4 : Hid (Upd r w w4) := HU3.out.trans ((Upd.of_below (Nat.le_of_lt HR3.out.lt) (by go_grown)).trans hu);obtain ⟨uc4, uf4, uz4, ub⟩ := hu
            (try simp only [World.size_drew] at uc4 uf4 uz4)
            clear hr ub;have a2 := fun m => Qs (x := Jx m ++ ⟨#[40]⟩) (y := t4) (B := 1005) (by rw [z3 m]; omega) (by omega);have z4 : ∀ m, (Jx m ++ ⟨#[40]⟩ ++ t4).size = 4 + t4.size := fun m => by rw [ByteArray.size_append, z3 m]
            have a3 := fun m => Qs (x := Jx m ++ ⟨#[40]⟩ ++ t4) (y := ⟨#[41]⟩) (B := 1005) (by rw [z4 m]; show 4 + t4.size + 1 ≤ _; omega) (by omega);refine hKq.out _ _ trivial (fun hHeld => ?_);clear hKq Kq;try simp only [Act.put, List.getElem_toArray, List.getElem_cons_zero, List.getElem_cons_succ, List.setIfInBounds_toArray, List.set_cons_zero, List.set_cons_succ]
            refine tkA 10 ?_;refine tkB 11 ?_;refine tkB 12 ?_;refine wpAnyH_done (by kernel_rfl) ?_ _;go_wp2_with fail
            go_ret;first
            | exact ⟨_, rfl, by rw [ByteArray.size_append, z4]; show 4 + t4.size + 1 ≤ _; omega, HR4.out, HU4.out⟩
            | exact ⟨_, rfl, by rw [ByteArray.size_append, z4]; show 4 + t4.size + 1 ≤ _; omega, HR4.out.below (by go_grown), HU4.out.trans (Upd.of_below (Nat.le_of_lt HR4.out.lt) (by go_grown))⟩
        · go_simp
          refine (IH r A len cap _ (HR3.out.below (by go_grown))).mono ?_;rintro e w4 ⟨t4, rfl, ht4, hr, hu⟩;have HR4 : Hid (Rd w4 r A len cap) := hr;have HU4 : Hid (Upd r w w4) := HU3.out.trans ((Upd.of_below (Nat.le_of_lt HR3.out.lt) (by go_grown)).trans hu);obtain ⟨uc4, uf4, uz4, ub⟩ := hu
          (try simp only [World.size_drew] at uc4 uf4 uz4)
          clear hr ub;have a2 := fun m => Qs (x := Jx m ++ ⟨#[40]⟩) (y := t4) (B := 1005) (by rw [z3 m]; omega) (by omega);have z4 : ∀ m, (Jx m ++ ⟨#[40]⟩ ++ t4).size = 4 + t4.size := fun m => by rw [ByteArray.size_append, z3 m]
          have a3 := fun m => Qs (x := Jx m ++ ⟨#[40]⟩ ++ t4) (y := ⟨#[41]⟩) (B := 1005) (by rw [z4 m]; show 4 + t4.size + 1 ≤ _; omega) (by omega)
          have hcl : w4.cell? ⟨w3.heap.size, nq, none⟩ = some (.string (Jx nq)) := (by
            rw [uc4 _ _ (by simp) (by have := HR3.out.lt; omega)]
            exact ht7 _)
          refine hKq.out _ _ trivial (fun hHeld => ?_);clear hKq Kq;try simp only [Act.put, List.getElem_toArray, List.getElem_cons_zero, List.getElem_cons_succ, List.setIfInBounds_toArray, List.set_cons_zero, List.set_cons_succ]
          refine rqA 4 (fun Kq hKq => ?_)
          · go_simp
            refine hKq.out _ _ trivial (fun hHeld => ?_);clear hKq Kq;try simp only [Act.put, List.getElem_toArray, List.getElem_cons_zero, List.getElem_cons_succ, List.setIfInBounds_toArray, List.set_cons_zero, List.set_cons_succ]
            refine tkA 5 ?_;refine tkB 10 ?_;refine tkA 11 ?_;refine tkB 12 ?_;refine wpAnyH_done (by kernel_rfl) ?_ _;go_wp2_with fail
            go_ret;first
            | exact ⟨_, rfl, by rw [ByteArray.size_append, z4]; show 4 + t4.size + 1 ≤ _; omega, HR4.out, HU4.out⟩
            | exact ⟨_, rfl, by rw [ByteArray.size_append, z4]; show 4 + t4.size + 1 ≤ _; omega, HR4.out.below (by go_grown), HU4.out.trans (Upd.of_below (Nat.le_of_lt HR4.out.lt) (by go_grown))⟩
      · go_simp
        refine (IH r A len cap _ (HR3.out.below (by go_grown))).mono ?_;rintro e w4 ⟨t4, rfl, ht4, hr, hu⟩;have HR4 : Hid (Rd w4 r A len cap) := hr;have HU4 : Hid (Upd r w w4) := HU3.out.trans ((Upd.of_below (Nat.le_of_lt HR3.out.lt) (by go_grown)).trans hu);obtain ⟨uc4, uf4, uz4, ub⟩ := hu
        (try simp only [World.size_drew] at uc4 uf4 uz4)
        clear hr ub;have a2 := fun m => Qs (x := Jx m ++ ⟨#[40]⟩) (y := t4) (B := 1005) (by rw [z3 m]; omega) (by omega);have z4 : ∀ m, (Jx m ++ ⟨#[40]⟩ ++ t4).size = 4 + t4.size := fun m => by rw [ByteArray.size_append, z3 m]
        have a3 := fun m => Qs (x := Jx m ++ ⟨#[40]⟩ ++ t4) (y := ⟨#[41]⟩) (B := 1005) (by rw [z4 m]; show 4 + t4.size + 1 ≤ _; omega) (by omega);refine hKq.out _ _ trivial (fun hHeld => ?_);clear hKq Kq;try simp only [Act.put, List.getElem_toArray, List.getElem_cons_zero, List.getElem_cons_succ, List.setIfInBounds_toArray, List.set_cons_zero, List.set_cons_succ]
        refine rqA 0 (fun Kq hKq => ?_)
        · go_simp
          refine hKq.out _ _ trivial (fun hHeld => ?_);clear hKq Kq;try simp only [Act.put, List.getElem_toArray, List.getElem_cons_zero, List.getElem_cons_succ, List.setIfInBounds_toArray, List.set_cons_zero, List.set_cons_succ]
          refine tkB 3 ?_;refine rqA 4 (fun Kq hKq => ?_)
          · go_simp
            refine hKq.out _ _ trivial (fun hHeld => ?_);clear hKq Kq;try simp only [Act.put, List.getElem_toArray, List.getElem_cons_zero, List.getElem_cons_succ, List.setIfInBounds_toArray, List.set_cons_zero, List.set_cons_succ]
            refine tkA 5 ?_;refine tkB 10 ?_;refine tkA 11 ?_;refine tkB 12 ?_;refine wpAnyH_done (by kernel_rfl) ?_ _;go_wp2_with fail
            go_ret;first
            | exact ⟨_, rfl, by rw [ByteArray.size_append, z4]; show 4 + t4.size + 1 ≤ _; omega, HR4.out, HU4.out⟩
            | exact ⟨_, rfl, by rw [ByteArray.size_append, z4]; show 4 + t4.size + 1 ≤ _; omega, HR4.out.below (by go_grown), HU4.out.trans (Upd.of_below (Nat.le_of_lt HR4.out.lt) (by go_grown))⟩
  · go_wp2_with fail
    refine (IH r A len cap _ HR2.out).mono ?_;rintro e w3 ⟨t3, rfl, ht3, hr, hu⟩;have HR3 : Hid (Rd w3 r A len cap) := hr;have HU3 : Hid (Upd r w w3) := HU2.out.trans hu;clear hr hu HR2 HU2;go_wp2_with fail
    refine (Qy r A len cap 11 _ HR3.out (by omega) (by omega)).mono ?_;rintro e w4 ⟨u, rfl, u0, u1, hr, hu⟩;have HR4 : Hid (Rd w4 r A len cap) := hr;have HU4 : Hid (Upd r w w4) := HU3.out.trans hu;clear hr hu HR3 HU3;go_wp2_with fail
    refine (Xv (1 + u) _ (by omega) (by omega)).mono ?_;rintro e w5 ⟨rfl, hb⟩;have HR5 : Hid (Rd w5 r A len cap) := HR4.out.below hb;have HU5 : Hid (Upd r w w5) := HU4.out.trans (Upd.of_below (Nat.le_of_lt HR4.out.lt) hb);have zg : (bs (sgT (1 + u))).size ≤ 2 := VE _;obtain ⟨g, hg⟩ : ∃ g, bs (sgT (1 + u)) = g := ⟨_, rfl⟩;rw [hg] at zg ⊢
    clear hg hb HR4 HU4 u0 u1;have z1 : (t3 ++ g).size = t3.size + g.size := by rw [ByteArray.size_append]
    have a1 := Qs (x := t3) (y := g) (B := 1002) (by omega) (by omega);obtain ⟨s1, hs1⟩ : ∃ s, t3 ++ g = s := ⟨_, rfl⟩;rw [hs1] at a1 z1;clear hs1;go_wp2_with fail
    refine (IH r A len cap _ HR5.out).mono ?_;rintro e w6 ⟨t6, rfl, ht6, hr, hu⟩;have HR6 : Hid (Rd w6 r A len cap) := hr;have HU6 : Hid (Upd r w w6) := HU5.out.trans hu;clear hr hu HR5 HU5;have a2 := Qs (x := s1) (y := t6) (B := 2002) (by omega) (by omega);go_wp2_with fail
    go_ret;exact ⟨_, rfl, by rw [ByteArray.size_append]; omega, HR6.out, HU6.out⟩
  · go_wp2_with fail
    refine (IH r A len cap _ HR2.out).mono ?_;rintro e w3 ⟨t3, rfl, ht3, hr, hu⟩;have HR3 : Hid (Rd w3 r A len cap) := hr;have HU3 : Hid (Upd r w w3) := HU2.out.trans hu;clear hr hu HR2 HU2;go_wp2_with fail
    refine (Qy r A len cap 11 _ HR3.out (by omega) (by omega)).mono ?_;rintro e w4 ⟨u, rfl, u0, u1, hr, hu⟩;have HR4 : Hid (Rd w4 r A len cap) := hr;have HU4 : Hid (Upd r w w4) := HU3.out.trans hu;clear hr hu HR3 HU3;go_wp2_with fail
    refine (Xv (1 + u) _ (by omega) (by omega)).mono ?_;rintro e w5 ⟨rfl, hb⟩;have HR5 : Hid (Rd w5 r A len cap) := HR4.out.below hb;have HU5 : Hid (Upd r w w5) := HU4.out.trans (Upd.of_below (Nat.le_of_lt HR4.out.lt) hb);have zg : (bs (sgT (1 + u))).size ≤ 2 := VE _;obtain ⟨g, hg⟩ : ∃ g, bs (sgT (1 + u)) = g := ⟨_, rfl⟩;rw [hg] at zg ⊢
    clear hg hb HR4 HU4 u0 u1;have z1 : (t3 ++ g).size = t3.size + g.size := by rw [ByteArray.size_append]
    have a1 := Qs (x := t3) (y := g) (B := 1002) (by omega) (by omega);obtain ⟨s1, hs1⟩ : ∃ s, t3 ++ g = s := ⟨_, rfl⟩;rw [hs1] at a1 z1;clear hs1;go_wp2_with fail
    refine (IH r A len cap _ HR5.out).mono ?_;rintro e w6 ⟨t6, rfl, ht6, hr, hu⟩;have HR6 : Hid (Rd w6 r A len cap) := hr;have HU6 : Hid (Upd r w w6) := HU5.out.trans hu;clear hr hu HR5 HU5;have a2 := Qs (x := s1) (y := t6) (B := 2002) (by omega) (by omega);go_wp2_with fail
    go_ret;exact ⟨_, rfl, by rw [ByteArray.size_append]; omega, HR6.out, HU6.out⟩
theorem Qql:FtX 0 16:=Qii
theorem Qtc:FtX 1 69:=Ev (n:=1) (B:=16) (show FtD (1-1) 16 from Qql) (by omega) (by omega) (by omega) (by omega)
theorem Qtb:FtX 2 228:=Ev (n:=2) (B:=69) (show FtD (2-1) 69 from Qtc) (by omega) (by omega) (by omega) (by omega)
theorem Qua:FtX 3 705:=Ev (n:=3) (B:=228) (show FtD (3-1) 228 from Qtb) (by omega) (by omega) (by omega) (by omega)
end Go.Proofs.YtbdhinckiccniaaGreatDoor
