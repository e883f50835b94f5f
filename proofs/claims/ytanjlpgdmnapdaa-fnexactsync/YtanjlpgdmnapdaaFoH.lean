import Derived.Test.YtanjlpgdmnapdaaFoG
namespace Go.Proofs.Ytanjlpgdmnapdaa
open Go.RowKit Go.Maps
set_option linter.unusedSimpArgs false
set_option linter.unusedVariables false

theorem getK_feI (u : List UInt8) (E : List FE) : (getK fiK u (E.map feI)).isSome = (getK feK u E).isSome := by
  rw [map_getK feI_key]
  cases getK feK u E <;> rfl
def hasB (s : ByteArray) (L : List FI) : Bool := (getK fiK s.data.toList L).isSome
set_option maxRecDepth 100000 in
theorem impl_has {B b m : Nat} {L : List FI} (s : ByteArray) (w : World) (h : FoldL w B b m L) (hs : s.size ≤ maxLen) :
    Calls Try.prog 149 #[.map (some b), .string s] w fun e w' => e = .returned (.bool (hasB s L)) ∧ Below w.heap.size w w' := by
  obtain ⟨E, hF, rfl, _⟩ := h
  have HF : Hid (Fold w B b m E) := hF
  have HS : Hid (s.size ≤ maxLen) := hs
  have HH : Hid (hasB s (E.map feI) = (getK feK s.data.toList E).isSome) := getK_feI _ _
  obtain ⟨bb, HBB⟩ : ∃ bb, Hid ((getK feK s.data.toList E).isSome = bb) := ⟨_, rfl⟩
  rw [HH.out, HBB.out]
  have hrow := hF.row s.data.toList
  obtain ⟨A, cap, HV0, x1, x2⟩ := own_shape hrow
  have HV : Hid (foV E s.data.toList = .slice A (foP E s.data.toList).length cap) := HV0
  obtain ⟨pn, HPN⟩ : ∃ pn, Hid ((foP E s.data.toList).length = pn) := ⟨_, rfl⟩
  obtain ⟨zz, HZZ⟩ : ∃ zz : Int, Hid ((sumZ (foP E s.data.toList) : Nat) = zz) := ⟨_, rfl⟩
  clear hF hs hrow x1 x2 HV0
  go_enter Try.func149, Try.ntmps149
  go_wp2_with (first
    | (at_lookup; refine wpList_look2_fo _ rfl _ _ rfl b m E rfl (by first | exact HF.out.own | exact HF.out.own.alloc _) s rfl HS.out ?_; rw [HBB.out, HV.out, HPN.out, HZZ.out]))
  go_ret
  exact ⟨rfl, by go_grown⟩

theorem appending_finds {b : Nat} (n d : ByteArray) (w : World) : Calls Try.prog 144 #[.agg #[.string n, .string d], .map (some b)] w fun e w' => e = .returned (.bool true) ∧ Below w.heap.size w w' := by
  go_enter Try.func144, Try.ntmps144
  go_wp2_with fail
  go_ret
  exact ⟨rfl, by go_grown⟩
theorem renaming_finds {B b m : Nat} {L : List FI} (n t : ByteArray) (w : World) (h : FoldL w B b m L) (hs : n.size ≤ maxLen) : Calls Try.prog 147 #[.agg #[.string n, .string t], .map (some b)] w fun e w' => e = .returned (.bool (hasB n L)) ∧ Below w.heap.size w w' := by
  have HF : Hid (FoldL w B b m L) := h
  have HS : Hid (n.size ≤ maxLen) := hs
  clear h hs
  go_enter Try.func147, Try.ntmps147
  go_wp2_with (first
    | (go_at_call 149; refine (impl_has n _ (HF.out.below (by go_grown)) HS.out).mono ?_; rintro e w1 ⟨rfl, hb⟩))
  go_ret
  exact ⟨rfl, Below.trans (by go_grown) (hb.mono (by simp))⟩
theorem removing_finds {B b m : Nat} {L : List FI} (n : ByteArray) (w : World) (h : FoldL w B b m L) (hs : n.size ≤ maxLen) : Calls Try.prog 151 #[.agg #[.string n], .map (some b)] w fun e w' => e = .returned (.bool (hasB n L)) ∧ Below w.heap.size w w' := by
  have HF : Hid (FoldL w B b m L) := h
  have HS : Hid (n.size ≤ maxLen) := hs
  clear h hs
  go_enter Try.func151, Try.ntmps151
  go_wp2_with (first
    | (go_at_call 149; refine (impl_has n _ (HF.out.below (by go_grown)) HS.out).mono ?_; rintro e w1 ⟨rfl, hb⟩))
  go_ret
  exact ⟨rfl, Below.trans (by go_grown) (hb.mono (by simp))⟩
theorem appending_doOn {B b m : Nat} {L : List FI} (n d : ByteArray) (w : World) (h : FoldL w B b m L) (hB : B ≤ w.heap.size) (hs : n.size ≤ maxLen) (hm : m < 1073741824) (hd : d.size ≤ 1099511627776) (ht : totL L ≤ 1099511627776) :
    Calls Try.prog 143 #[.agg #[.string n, .string d], .map (some b)] w fun e w' => e = .returned (.tuple #[]) ∧ FoldL w' B b (m + 1) (addK n d L) ∧ Below B w w' := by
  have HF : Hid (FoldL w B b m L) := h
  have HS : Hid (n.size ≤ maxLen) := hs
  have HT : Hid (totL L ≤ 1099511627776) := ht
  clear h hs ht
  go_enter Try.func143, Try.ntmps143
  go_wp2_with fail
  refine (impl_putL n d _ (HF.out.below (by go_grown)) (by simp; omega) HS.out hm hd HT.out).mono ?_
  rintro e w1 ⟨rfl, h1, hb⟩
  have H1 : Hid (FoldL w1 B b (m + 1) (addK n d L)) := h1
  have H2 : Hid (Below B w w1) := Below.trans (by go_grown) hb
  clear h1 hb
  go_wp2_with fail
  go_returns
  exact ⟨rfl, H1.out, H2.out⟩
/-- One file less. -/
theorem Fold.cut {w w' : World} {B b m : Nat} {E : List FE} {u : List UInt8} (h : Fold w B b m E) (ho : w'.ownsMap Try.prog 9 pcE b m (FD (cutK feK u E))) (hg : w.grownBy w' (some b)) : Fold w' B b m (cutK feK u E) :=
  ⟨ho, up_cutK h.up, h.base, fun x hx => (h.rows x (mem_cutK.1 hx).1).kept hg (Or.inr fun e => own_map_ne h.own (h.rows x (mem_cutK.1 hx).1) e.symm), fun x hx y hy => h.apart x (mem_cutK.1 hx).1 y (mem_cutK.1 hy).1, fun x hx => h.names x (mem_cutK.1 hx).1⟩
theorem FoldL.cut {w w' : World} {B b m : Nat} {E : List FE} {u : List UInt8} (h : Fold w B b m E) (h3 : ∀ x ∈ E, x.ps.length ≤ m) (ho : w'.ownsMap Try.prog 9 pcE b m (FD (cutK feK u E))) (hg : w.grownBy w' (some b)) : FoldL w' B b (m + 1) (cutK fiK u (E.map feI)) := by
  have h1 := h.cut ho hg
  exact ⟨_, ⟨h1.own.mono (Nat.le_succ _), h1.up, h1.base, h1.rows, h1.apart, h1.names⟩, map_cutK feI_key _ _, fun x hx => Nat.le_succ_of_le (h3 x (mem_cutK.1 hx).1)⟩
set_option maxRecDepth 100000 in
theorem removing_doOn {B b m : Nat} {L : List FI} (n : ByteArray) (w : World) (h : FoldL w B b m L) (hB : B ≤ w.heap.size) (hs : n.size ≤ maxLen) :
    Calls Try.prog 150 #[.agg #[.string n], .map (some b)] w fun e w' => e = .returned (.tuple #[]) ∧ FoldL w' B b (m + 1) (cutK fiK n.data.toList L) ∧ Below B w w' := by
  obtain ⟨E, hF, rfl, h3⟩ := h
  have HF : Hid (Fold w B b m E) := hF
  have HS : Hid (n.size ≤ maxLen) := hs
  have H3 : Hid (∀ x ∈ E, x.ps.length ≤ m) := h3
  clear hF hs h3
  go_enter Try.func150, Try.ntmps150
  go_wp2_with (first
    | (at_delete; refine wpList_delete_own _ rfl _ _ 71 9 rfl 118 strK Try.underlying71 pcE b m (FD E) rfl (HF.out.own.alloc _) _ _ rfl (foKey HS.out) ?_; intro w1 hown1 hturn1; rw [FD_del] at hown1; have H1 : Hid (FoldL w1 B b (m + 1) (cutK fiK n.data.toList (E.map feI))) := (FoldL.cut (HF.out.below (by go_grown)) H3.out hown1 hturn1.grown); have H2 : Hid (Below B w w1) := (Below.trans (by go_grown) (Below.grown (Below.refl _ _) hturn1.grown (by simp; omega) (fun q hq => by cases hq; exact HF.out.base))); clear hown1 hturn1)
    | go_in)
  go_returns
  exact ⟨rfl, H1.out, H2.out⟩
end Go.Proofs.Ytanjlpgdmnapdaa
