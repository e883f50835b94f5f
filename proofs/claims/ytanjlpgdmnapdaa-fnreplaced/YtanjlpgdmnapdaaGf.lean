import Derived.Test.YtanjlpgdmnapdaaGe
import Derived.Test.YtanjlpgdmnapdaaDpA
import Derived.WalkSmall
namespace Go.Proofs.Ytanjlpgdmnapdaa
open Go.RowKit Go.Maps
set_option linter.unusedSimpArgs false
set_option linter.unusedVariables false

def noB (s : ByteArray) : Bool := s.toList.isEmpty
set_option maxRecDepth 100000 in
set_option maxHeartbeats 2000000 in
theorem fileOpOf_1 (n t d : ByteArray) (w : World) (hn : n.size ≤ maxLen) (ht : t.size ≤ maxLen) :
    Calls Try.prog 51 #[.agg #[.int .i64 1, .string n, .string t, .string d]] w fun e w' => e = .returned (.tuple #[.iface 123 (.agg #[.string n, .string d]), .bool (nameB n && noB t)]) ∧ Below w.heap.size w w' := by
  have HN : Hid (n.size ≤ maxLen) := hn
  have HT : Hid (t.size ≤ maxLen) := ht
  clear hn ht
  cases hnamen : nameB n
  · have HMn : Hid (nameB n = false) := hnamen
    clear hnamen
    go_enter Try.func51, Try.ntmps51
    go_wp2_with (first
      | (go_at_call 78; refine (impl_isFileName n _ HN.out).mono ?_; rintro e w1 ⟨rfl, rfl⟩; rw [HMn.out]))
    go_quiet (fail)
    go_wp2_with fail
    refine bodyPost_ret (v := .tuple #[.iface 123 (.agg #[.string n, .string d]), .bool false]) ?_ rfl ⟨rfl, below_drewN (by go_grown) _⟩
    simp (maxDischargeDepth := 9) [results, Try.results51, go_sem, *]
  · have HMn : Hid (nameB n = true) := hnamen
    clear hnamen
    cases hnot : noB t
    · have Et : Hid (noB t = false) := hnot
      have et : t.toList.isEmpty = false := hnot
      clear hnot
      go_enter Try.func51, Try.ntmps51
      go_wp2_with (first
        | (go_at_call 78; refine (impl_isFileName n _ HN.out).mono ?_; rintro e w1 ⟨rfl, rfl⟩; rw [HMn.out]))
      go_quiet (fail)
      go_wp2_with fail
      refine bodyPost_ret (v := .tuple #[.iface 123 (.agg #[.string n, .string d]), .bool false]) ?_ rfl ⟨rfl, below_drewN (by go_grown) _⟩
      simp (maxDischargeDepth := 9) [results, Try.results51, go_sem, *]
    · have Et : Hid (noB t = true) := hnot
      have et : t.toList.isEmpty = true := hnot
      clear hnot
      go_enter Try.func51, Try.ntmps51
      go_wp2_with (first
        | (go_at_call 78; refine (impl_isFileName n _ HN.out).mono ?_; rintro e w1 ⟨rfl, rfl⟩; rw [HMn.out]))
      go_quiet (fail)
      go_wp2_with fail
      refine bodyPost_ret (v := .tuple #[.iface 123 (.agg #[.string n, .string d]), .bool true]) ?_ rfl ⟨rfl, below_drewN (by go_grown) _⟩
      simp (maxDischargeDepth := 9) [results, Try.results51, go_sem, *]

set_option maxRecDepth 100000 in
set_option maxHeartbeats 2000000 in
theorem fileOpOf_2 (n t d : ByteArray) (w : World) (hn : n.size ≤ maxLen) (ht : t.size ≤ maxLen) :
    Calls Try.prog 51 #[.agg #[.int .i64 2, .string n, .string t, .string d]] w fun e w' => e = .returned (.tuple #[.iface 125 (.agg #[.string n, .string t]), .bool (nameB n && (nameB t && noB d))]) ∧ Below w.heap.size w w' := by
  have HN : Hid (n.size ≤ maxLen) := hn
  have HT : Hid (t.size ≤ maxLen) := ht
  clear hn ht
  cases hnamen : nameB n
  · have HMn : Hid (nameB n = false) := hnamen
    clear hnamen
    go_enter Try.func51, Try.ntmps51
    go_wp2_with (first
      | (go_at_call 78; refine (impl_isFileName n _ HN.out).mono ?_; rintro e w1 ⟨rfl, rfl⟩; rw [HMn.out]))
    go_quiet (fail)
    go_wp2_with fail
    refine bodyPost_ret (v := .tuple #[.iface 125 (.agg #[.string n, .string t]), .bool false]) ?_ rfl ⟨rfl, below_drewN (by go_grown) _⟩
    simp (maxDischargeDepth := 9) [results, Try.results51, go_sem, *]
  · have HMn : Hid (nameB n = true) := hnamen
    clear hnamen
    cases hnamet : nameB t
    · have HMt : Hid (nameB t = false) := hnamet
      clear hnamet
      have FT : Hid (∀ W : World, Calls Try.prog 78 #[.string t] W fun e w' => e = .returned (.bool false) ∧ w' = W) := fun W => by
        have hh := impl_isFileName t W HT.out
        rw [HMt.out] at hh
        exact hh
      go_enter Try.func51, Try.ntmps51
      go_wp2_with (first
        | (go_at_call 78; refine (impl_isFileName n _ HN.out).mono ?_; rintro e w1 ⟨rfl, rfl⟩; rw [HMn.out]))
      go_quiet ((go_at_call 78; refine Calls.quiet_of_same (FT.out _)))
      go_wp2_with fail
      refine bodyPost_ret (v := .tuple #[.iface 125 (.agg #[.string n, .string t]), .bool false]) ?_ rfl ⟨rfl, below_drewN (by go_grown) _⟩
      simp (maxDischargeDepth := 9) [results, Try.results51, go_sem, *]
    · have HMt : Hid (nameB t = true) := hnamet
      clear hnamet
      have FT : Hid (∀ W : World, Calls Try.prog 78 #[.string t] W fun e w' => e = .returned (.bool true) ∧ w' = W) := fun W => by
        have hh := impl_isFileName t W HT.out
        rw [HMt.out] at hh
        exact hh
      cases hnod : noB d
      · have Ed : Hid (noB d = false) := hnod
        have ed : d.toList.isEmpty = false := hnod
        clear hnod
        go_enter Try.func51, Try.ntmps51
        go_wp2_with (first
          | (go_at_call 78; refine (impl_isFileName n _ HN.out).mono ?_; rintro e w1 ⟨rfl, rfl⟩; rw [HMn.out]))
        go_quiet ((go_at_call 78; refine Calls.quiet_of_same (FT.out _)))
        go_wp2_with fail
        refine bodyPost_ret (v := .tuple #[.iface 125 (.agg #[.string n, .string t]), .bool false]) ?_ rfl ⟨rfl, below_drewN (by go_grown) _⟩
        simp (maxDischargeDepth := 9) [results, Try.results51, go_sem, *]
      · have Ed : Hid (noB d = true) := hnod
        have ed : d.toList.isEmpty = true := hnod
        clear hnod
        go_enter Try.func51, Try.ntmps51
        go_wp2_with (first
          | (go_at_call 78; refine (impl_isFileName n _ HN.out).mono ?_; rintro e w1 ⟨rfl, rfl⟩; rw [HMn.out]))
        go_quiet ((go_at_call 78; refine Calls.quiet_of_same (FT.out _)))
        go_wp2_with fail
        refine bodyPost_ret (v := .tuple #[.iface 125 (.agg #[.string n, .string t]), .bool true]) ?_ rfl ⟨rfl, below_drewN (by go_grown) _⟩
        simp (maxDischargeDepth := 9) [results, Try.results51, go_sem, *]

set_option maxRecDepth 100000 in
set_option maxHeartbeats 2000000 in
theorem fileOpOf_3 (n t d : ByteArray) (w : World) (hn : n.size ≤ maxLen) (ht : t.size ≤ maxLen) :
    Calls Try.prog 51 #[.agg #[.int .i64 3, .string n, .string t, .string d]] w fun e w' => e = .returned (.tuple #[.iface 127 (.agg #[.string n]), .bool (nameB n && (noB t && noB d))]) ∧ Below w.heap.size w w' := by
  have HN : Hid (n.size ≤ maxLen) := hn
  have HT : Hid (t.size ≤ maxLen) := ht
  clear hn ht
  cases hnamen : nameB n
  · have HMn : Hid (nameB n = false) := hnamen
    clear hnamen
    go_enter Try.func51, Try.ntmps51
    go_wp2_with (first
      | (go_at_call 78; refine (impl_isFileName n _ HN.out).mono ?_; rintro e w1 ⟨rfl, rfl⟩; rw [HMn.out]))
    go_quiet (fail)
    go_wp2_with fail
    refine bodyPost_ret (v := .tuple #[.iface 127 (.agg #[.string n]), .bool false]) ?_ rfl ⟨rfl, below_drewN (by go_grown) _⟩
    simp (maxDischargeDepth := 9) [results, Try.results51, go_sem, *]
  · have HMn : Hid (nameB n = true) := hnamen
    clear hnamen
    cases hnot : noB t
    · have Et : Hid (noB t = false) := hnot
      have et : t.toList.isEmpty = false := hnot
      clear hnot
      go_enter Try.func51, Try.ntmps51
      go_wp2_with (first
        | (go_at_call 78; refine (impl_isFileName n _ HN.out).mono ?_; rintro e w1 ⟨rfl, rfl⟩; rw [HMn.out]))
      go_quiet (fail)
      go_wp2_with fail
      refine bodyPost_ret (v := .tuple #[.iface 127 (.agg #[.string n]), .bool false]) ?_ rfl ⟨rfl, below_drewN (by go_grown) _⟩
      simp (maxDischargeDepth := 9) [results, Try.results51, go_sem, *]
    · have Et : Hid (noB t = true) := hnot
      have et : t.toList.isEmpty = true := hnot
      clear hnot
      cases hnod : noB d
      · have Ed : Hid (noB d = false) := hnod
        have ed : d.toList.isEmpty = false := hnod
        clear hnod
        go_enter Try.func51, Try.ntmps51
        go_wp2_with (first
          | (go_at_call 78; refine (impl_isFileName n _ HN.out).mono ?_; rintro e w1 ⟨rfl, rfl⟩; rw [HMn.out]))
        go_quiet (fail)
        go_wp2_with fail
        refine bodyPost_ret (v := .tuple #[.iface 127 (.agg #[.string n]), .bool false]) ?_ rfl ⟨rfl, below_drewN (by go_grown) _⟩
        simp (maxDischargeDepth := 9) [results, Try.results51, go_sem, *]
      · have Ed : Hid (noB d = true) := hnod
        have ed : d.toList.isEmpty = true := hnod
        clear hnod
        go_enter Try.func51, Try.ntmps51
        go_wp2_with (first
          | (go_at_call 78; refine (impl_isFileName n _ HN.out).mono ?_; rintro e w1 ⟨rfl, rfl⟩; rw [HMn.out]))
        go_quiet (fail)
        go_wp2_with fail
        refine bodyPost_ret (v := .tuple #[.iface 127 (.agg #[.string n]), .bool true]) ?_ rfl ⟨rfl, below_drewN (by go_grown) _⟩
        simp (maxDischargeDepth := 9) [results, Try.results51, go_sem, *]

set_option maxRecDepth 100000 in
set_option maxHeartbeats 2000000 in
theorem fileOpOf_0 (k : Int) (n t d : ByteArray) (w : World) (hn : n.size ≤ maxLen) (h1 : ¬ k = 1) (h2 : ¬ k = 2) (h3 : ¬ k = 3) :
    Calls Try.prog 51 #[.agg #[.int .i64 k, .string n, .string t, .string d]] w fun e w' => e = .returned (.tuple #[.nilIface, .bool false]) ∧ Below w.heap.size w w' := by
  have HN : Hid (n.size ≤ maxLen) := hn
  have q1 : (k == 1) = false := by simpa using h1
  have q2 : (k == 2) = false := by simpa using h2
  have q3 : (k == 3) = false := by simpa using h3
  clear hn
  obtain ⟨bb, HMn⟩ : ∃ bb, Hid (nameB n = bb) := ⟨_, rfl⟩
  go_enter Try.func51, Try.ntmps51
  go_wp2_with (first
    | (go_at_call 78; refine (impl_isFileName n _ HN.out).mono ?_; rintro e w1 ⟨rfl, rfl⟩; rw [HMn.out]))
  refine bodyPost_ret (v := .tuple #[.nilIface, .bool false]) ?_ rfl ⟨rfl, by go_grown⟩
  simp (maxDischargeDepth := 9) [results, Try.results51, go_sem, *]
end Go.Proofs.Ytanjlpgdmnapdaa
namespace Go.Proofs.Ytanjlpgdmnapdaa
open Go.RowKit Go.Maps
set_option linter.unusedSimpArgs false
set_option linter.unusedVariables false

theorem getK_feI (u : List UInt8) (E : List FE) : (getK fiK u (E.map feI)).isSome = (getK feK u E).isSome := by
  rw [map_getK feI_key]
  cases getK feK u E <;> rfl
def hasB (s : ByteArray) (L : List FI) : Bool := (getK fiK s.data.toList L).isSome
set_option maxRecDepth 100000 in
theorem impl_has {B b m : Nat} {L : List FI} (s : ByteArray) (w : World) (h : FoldL w B b m L) (hs : s.size ≤ maxLen) :
    Calls Try.prog 149 #[.map (some b), .string s] w fun e w' => e = .returned (.bool (hasB s L)) ∧ Below w.heap.size w w' := by
  obtain ⟨E, hF, rfl, _⟩ := h
  have HF : Hid (Fold w B b m E) := hF
  have HS : Hid (s.size ≤ maxLen) := hs
  have HH : Hid (hasB s (E.map feI) = (getK feK s.data.toList E).isSome) := getK_feI _ _
  obtain ⟨bb, HBB⟩ : ∃ bb, Hid ((getK feK s.data.toList E).isSome = bb) := ⟨_, rfl⟩
  rw [HH.out, HBB.out]
  have hrow := hF.row s.data.toList
  obtain ⟨A, cap, HV0, x1, x2⟩ := own_shape hrow
  have HV : Hid (foV E s.data.toList = .slice A (foP E s.data.toList).length cap) := HV0
  obtain ⟨pn, HPN⟩ : ∃ pn, Hid ((foP E s.data.toList).length = pn) := ⟨_, rfl⟩
  obtain ⟨zz, HZZ⟩ : ∃ zz : Int, Hid ((sumZ (foP E s.data.toList) : Nat) = zz) := ⟨_, rfl⟩
  clear hF hs hrow x1 x2 HV0
  go_enter Try.func149, Try.ntmps149
  go_wp2_with (first
    | (at_lookup; refine wpList_look2_fo _ rfl _ _ rfl b m E rfl (by first | exact HF.out.own | exact HF.out.own.alloc _) s rfl HS.out ?_; rw [HBB.out, HV.out, HPN.out, HZZ.out]))
  go_ret
  exact ⟨rfl, by go_grown⟩

theorem appending_finds {b : Nat} (n d : ByteArray) (w : World) : Calls Try.prog 144 #[.agg #[.string n, .string d], .map (some b)] w fun e w' => e = .returned (.bool true) ∧ Below w.heap.size w w' := by
  go_enter Try.func144, Try.ntmps144
  go_wp2_with fail
  go_ret
  exact ⟨rfl, by go_grown⟩
theorem renaming_finds {B b m : Nat} {L : List FI} (n t : ByteArray) (w : World) (h : FoldL w B b m L) (hs : n.size ≤ maxLen) : Calls Try.prog 147 #[.agg #[.string n, .string t], .map (some b)] w fun e w' => e = .returned (.bool (hasB n L)) ∧ Below w.heap.size w w' := by
  have HF : Hid (FoldL w B b m L) := h
  have HS : Hid (n.size ≤ maxLen) := hs
  clear h hs
  go_enter Try.func147, Try.ntmps147
  go_wp2_with (first
    | (go_at_call 149; refine (impl_has n _ (HF.out.below (by go_grown)) HS.out).mono ?_; rintro e w1 ⟨rfl, hb⟩))
  go_ret
  exact ⟨rfl, Below.trans (by go_grown) (hb.mono (by simp))⟩
theorem removing_finds {B b m : Nat} {L : List FI} (n : ByteArray) (w : World) (h : FoldL w B b m L) (hs : n.size ≤ maxLen) : Calls Try.prog 151 #[.agg #[.string n], .map (some b)] w fun e w' => e = .returned (.bool (hasB n L)) ∧ Below w.heap.size w w' := by
  have HF : Hid (FoldL w B b m L) := h
  have HS : Hid (n.size ≤ maxLen) := hs
  clear h hs
  go_enter Try.func151, Try.ntmps151
  go_wp2_with (first
    | (go_at_call 149; refine (impl_has n _ (HF.out.below (by go_grown)) HS.out).mono ?_; rintro e w1 ⟨rfl, hb⟩))
  go_ret
  exact ⟨rfl, Below.trans (by go_grown) (hb.mono (by simp))⟩
theorem appending_doOn {B b m : Nat} {L : List FI} (n d : ByteArray) (w : World) (h : FoldL w B b m L) (hB : B ≤ w.heap.size) (hs : n.size ≤ maxLen) (hm : m < 1073741824) (hd : d.size ≤ 1099511627776) (ht : totL L ≤ 1099511627776) :
    Calls Try.prog 143 #[.agg #[.string n, .string d], .map (some b)] w fun e w' => e = .returned (.tuple #[]) ∧ FoldL w' B b (m + 1) (addK n d L) ∧ Below B w w' := by
  have HF : Hid (FoldL w B b m L) := h
  have HS : Hid (n.size ≤ maxLen) := hs
  have HT : Hid (totL L ≤ 1099511627776) := ht
  clear h hs ht
  go_enter Try.func143, Try.ntmps143
  go_wp2_with fail
  refine (impl_putL n d _ (HF.out.below (by go_grown)) (by simp; omega) HS.out hm hd HT.out).mono ?_
  rintro e w1 ⟨rfl, h1, hb⟩
  have H1 : Hid (FoldL w1 B b (m + 1) (addK n d L)) := h1
  have H2 : Hid (Below B w w1) := Below.trans (by go_grown) hb
  clear h1 hb
  go_wp2_with fail
  go_returns
  exact ⟨rfl, H1.out, H2.out⟩
/-- One file less. -/
theorem Fold.cut {w w' : World} {B b m : Nat} {E : List FE} {u : List UInt8} (h : Fold w B b m E) (ho : w'.ownsMap Try.prog 9 pcE b m (FD (cutK feK u E))) (hg : w.grownBy w' (some b)) : Fold w' B b m (cutK feK u E) :=
  ⟨ho, up_cutK h.up, h.base, fun x hx => (h.rows x (mem_cutK.1 hx).1).kept hg (Or.inr fun e => own_map_ne h.own (h.rows x (mem_cutK.1 hx).1) e.symm), fun x hx y hy => h.apart x (mem_cutK.1 hx).1 y (mem_cutK.1 hy).1, fun x hx => h.names x (mem_cutK.1 hx).1⟩
theorem FoldL.cut {w w' : World} {B b m : Nat} {E : List FE} {u : List UInt8} (h : Fold w B b m E) (h3 : ∀ x ∈ E, x.ps.length ≤ m) (ho : w'.ownsMap Try.prog 9 pcE b m (FD (cutK feK u E))) (hg : w.grownBy w' (some b)) : FoldL w' B b (m + 1) (cutK fiK u (E.map feI)) := by
  have h1 := h.cut ho hg
  exact ⟨_, ⟨h1.own.mono (Nat.le_succ _), h1.up, h1.base, h1.rows, h1.apart, h1.names⟩, map_cutK feI_key _ _, fun x hx => Nat.le_succ_of_le (h3 x (mem_cutK.1 hx).1)⟩
set_option maxRecDepth 100000 in
theorem removing_doOn {B b m : Nat} {L : List FI} (n : ByteArray) (w : World) (h : FoldL w B b m L) (hB : B ≤ w.heap.size) (hs : n.size ≤ maxLen) :
    Calls Try.prog 150 #[.agg #[.string n], .map (some b)] w fun e w' => e = .returned (.tuple #[]) ∧ FoldL w' B b (m + 1) (cutK fiK n.data.toList L) ∧ Below B w w' := by
  obtain ⟨E, hF, rfl, h3⟩ := h
  have HF : Hid (Fold w B b m E) := hF
  have HS : Hid (n.size ≤ maxLen) := hs
  have H3 : Hid (∀ x ∈ E, x.ps.length ≤ m) := h3
  clear hF hs h3
  go_enter Try.func150, Try.ntmps150
  go_wp2_with (first
    | (at_delete; refine wpList_delete_own _ rfl _ _ 71 9 rfl 118 strK Try.underlying71 pcE b m (FD E) rfl (HF.out.own.alloc _) _ _ rfl (foKey HS.out) ?_; intro w1 hown1 hturn1; rw [FD_del] at hown1; have H1 : Hid (FoldL w1 B b (m + 1) (cutK fiK n.data.toList (E.map feI))) := (FoldL.cut (HF.out.below (by go_grown)) H3.out hown1 hturn1.grown); have H2 : Hid (Below B w w1) := (Below.trans (by go_grown) (Below.grown (Below.refl _ _) hturn1.grown (by simp; omega) (fun q hq => by cases hq; exact HF.out.base))); clear hown1 hturn1)
    | go_in)
  go_returns
  exact ⟨rfl, H1.out, H2.out⟩
end Go.Proofs.Ytanjlpgdmnapdaa
namespace Go.Proofs.Ytanjlpgdmnapdaa
open Go.RowKit Go.Maps
set_option linter.unusedSimpArgs false
set_option linter.unusedVariables false

theorem Fold.move {w w2 : World} {B b m n : Nat} {E : List FE} {e : FE} (h : Fold w B b m E) (hr : w.ownsRow B 9 1 e.v e.ps.length (e.ps.map Value.string)) (hap : ∀ y ∈ E, feK y ≠ feK e → y.v.ownBlock = none ∨ y.v.ownBlock ≠ e.v.ownBlock) (hs : e.n.size ≤ maxLen)
    (ho : w2.ownsMap Try.prog 9 pcE b n (FD (putK feK e E))) (hg : w.grownBy w2 (some b)) : Fold w2 B b n (putK feK e E) := by
  refine ⟨ho, up_putK h.up, h.base, fun x hx => ?_, fun x hx y hy hne => ?_, fun x hx => ?_⟩
  · rcases mem_putK.1 hx with rfl | ⟨h1, h2⟩
    · exact hr.kept hg (Or.inr fun e2 => own_map_ne h.own hr e2.symm)
    · exact (h.rows x h1).kept hg (Or.inr fun e2 => own_map_ne h.own (h.rows x h1) e2.symm)
  · rcases mem_putK.1 hx with rfl | ⟨h1, h2⟩ <;> rcases mem_putK.1 hy with rfl | ⟨h3, h4⟩
    · exact absurd rfl hne
    · rcases hap y h3 h4 with k | k
      · rw [k]; cases x.v.ownBlock <;> simp
      · exact Or.inr k.symm
    · exact hap x h1 h2
    · exact h.apart x h1 y h3 hne
  · rcases mem_putK.1 hx with rfl | ⟨h1, h2⟩
    · exact hs
    · exact h.names x h1
theorem dataK_feI {E : List FE} {u : List UInt8} {x : FE} (h : getK feK u E = some x) : dataK u (E.map feI) = joinL x.ps := by
  rw [dataK, map_getK feI_key, h]; rfl
set_option maxRecDepth 100000 in
set_option maxHeartbeats 2000000 in
theorem renaming_doOn {B b m : Nat} {L : List FI} (n t : ByteArray) (w : World) (h : FoldL w B b m L) (hB : B ≤ w.heap.size) (hs : n.size ≤ maxLen) (ht : t.size ≤ maxLen) (hm : m < 1073741824) (hf : hasB n L = true) :
    Calls Try.prog 146 #[.agg #[.string n, .string t], .map (some b)] w fun e w' => e = .returned (.tuple #[]) ∧ FoldL w' B b (m + 1) (putK fiK ⟨t, dataK n.data.toList L⟩ (cutK fiK n.data.toList L)) ∧ Below B w w' := by
  obtain ⟨E, hF, rfl, h3⟩ := h
  have HF : Hid (Fold w B b m E) := hF
  have HS : Hid (n.size ≤ maxLen) := hs
  have HT : Hid (t.size ≤ maxLen) := ht
  have H3 : Hid (∀ x ∈ E, x.ps.length ≤ m) := h3
  obtain ⟨x, hx⟩ : ∃ x, getK feK n.data.toList E = some x := by
    rw [hasB, getK_feI] at hf
    exact Option.isSome_iff_exists.1 hf
  have HX : Hid (getK feK n.data.toList E = some x) := hx
  have HV : Hid (foV E n.data.toList = x.v) := by show _ = _; rw [foV, hx]
  have HP : Hid (foP E n.data.toList = x.ps) := by show _ = _; rw [foP, hx]
  have hrow := hF.rows x (getK_some hx).1
  have HR : Hid (w.ownsRow B 9 1 x.v x.ps.length (x.ps.map Value.string)) := hrow
  obtain ⟨A, cap, hv0, x1, x2⟩ := own_shape hrow
  have HV2 : Hid (x.v = .slice A x.ps.length cap) := hv0
  obtain ⟨pn, HPN⟩ : ∃ pn, Hid (x.ps.length = pn) := ⟨_, rfl⟩
  obtain ⟨zz, HZZ⟩ : ∃ zz : Int, Hid ((sumZ x.ps : Nat) = zz) := ⟨_, rfl⟩
  have HPE : Hid (∀ E', (FD E').put (.string t.data.toList) (.held (.agg #[.slice A pn cap, .int .i64 zz])) = FD (putK feK ⟨t, x.ps, x.v⟩ E')) := fun E' => by
    rw [← FD_put ⟨t, x.ps, x.v⟩ E']
    show _ = (FD E').put (.string t.data.toList) (.held (.agg #[x.v, .int .i64 (sumZ x.ps : Nat)]))
    rw [HV2.out, HPN.out, HZZ.out]
  rw [dataK_feI hx]
  clear hF hs ht h3 hx hrow x1 x2 hv0 hf
  go_enter Try.func146, Try.ntmps146
  go_wp2_with (first
    | (at_lookup; refine wpList_lookup_fo _ rfl _ _ rfl b m E rfl (HF.out.own.alloc _) n rfl HS.out ?_; rw [HV.out, HP.out, HZZ.out, HV2.out, HPN.out])
    | (at_delete; refine wpList_delete_own _ rfl _ _ 71 9 rfl 118 strK Try.underlying71 pcE b m (FD E) rfl ((HF.out.own.alloc _).alloc _) _ _ rfl (foKey HS.out) ?_; intro w1 hown1 hturn1; rw [FD_del] at hown1; have H1 : Hid (Fold w1 B b m (cutK feK n.data.toList E)) := (Fold.cut (HF.out.below (by go_grown)) hown1 hturn1.grown); have G1 := hturn1.grown; have hbl := HF.out.own.lt; have k0 := G1.cell (a := ⟨w.heap.size, 0, none⟩) (v := .string n) (by simp) (fun e => by cases e; exact absurd hbl (Nat.lt_irrefl _)); have k1 := G1.cell (a := ⟨w.heap.size, 1, none⟩) (v := .string t) (by simp) (fun e => by cases e; exact absurd hbl (Nat.lt_irrefl _)); have k2 := G1.cell (a := ⟨w.heap.size + 1, 0, none⟩) (v := .slice A pn cap) (by simp) (fun e => by simp at e; omega); have k3 := G1.cell (a := ⟨w.heap.size + 1, 1, none⟩) (v := .int .i64 zz) (by simp) (fun e => by simp at e; omega); have H2 : Hid (Below B w w1) := (Below.trans (by go_grown) (Below.grown (Below.refl _ _) G1 (by simp; omega) (fun q hq => by cases hq; exact HF.out.base))); have HG : Hid (w.grownBy w1 (some b)) := (grown_trans (grown_below _ (by go_grown)) G1); clear hown1 hturn1 G1)
    | (at_mapUpdate; refine wpList_mapUpdate_own _ rfl _ _ _ 71 rfl 9 118 strK Try.underlying71 pcE b m (FD (cutK feK n.data.toList E)) rfl H1.out.own (by unfold maxLen; omega) _ _ _ rfl rfl (foKey HT.out) _ [] (pcE_mk _ _) ?_; intro w2 hown2 hgrow2; rw [HPE.out] at hown2)
    | go_in)
  have FIN : Hid (FoldL w2 B b (m + 1) (putK fiK ⟨t, joinL x.ps⟩ (cutK fiK n.data.toList (E.map feI)))) := by
    have hr1 : w1.ownsRow B 9 1 x.v x.ps.length (x.ps.map Value.string) := HR.out.kept HG.out (Or.inr fun e2 => own_map_ne HF.out.own HR.out e2.symm)
    have h1 := H1.out.move (e := ⟨t, x.ps, x.v⟩) hr1 (fun y hy _ => HF.out.apart y (mem_cutK.1 hy).1 x (getK_some HX.out).1 (by rw [(getK_some HX.out).2]; exact (mem_cutK.1 hy).2)) HT.out hown2 hgrow2
    refine ⟨_, h1, ?_, fun y hy => ?_⟩
    · rw [map_putK feI_key, map_cutK feI_key]; rfl
    · rcases mem_putK.1 hy with rfl | ⟨h4, _⟩
      · have := H3.out x (getK_some HX.out).1
        show x.ps.length ≤ _
        omega
      · have := H3.out y (mem_cutK.1 h4).1; omega
  have BEL : Hid (Below B w w2) := H2.out.grown hgrow2 (Nat.le_trans hB H2.out.size) (fun q hq => by cases hq; exact HF.out.base)
  clear hown2 hgrow2
  go_returns
  exact ⟨rfl, FIN.out, BEL.out⟩
end Go.Proofs.Ytanjlpgdmnapdaa
namespace Go.Proofs.Ytanjlpgdmnapdaa
open Go.RowKit Go.Maps
set_option linter.unusedSimpArgs false
set_option linter.unusedVariables false

def formB (x : DP) : Bool := if x.k = 1 then nameB x.n && noB x.t else if x.k = 2 then nameB x.n && (nameB x.t && noB x.d) else if x.k = 3 then nameB x.n && (noB x.t && noB x.d) else false
def findB (x : DP) (L : List FI) : Bool := if x.k = 1 then true else hasB x.n L
def doL (x : DP) (L : List FI) : List FI := if x.k = 1 then addK x.n x.d L else if x.k = 2 then putK fiK ⟨x.t, dataK x.n.data.toList L⟩ (cutK fiK x.n.data.toList L) else cutK fiK x.n.data.toList L
def doC (x : DP) (L : List FI) : Int := if formB x = false then 2 else if findB x L = false then 3 else if fitB (doL x L) = false then 4 else 0
def doG (x : DP) (L : List FI) : List FI := if formB x = true ∧ findB x L = true then doL x L else L
theorem totL_put (x : FI) (L : List FI) : totL (putK fiK x L) ≤ totL L + x.d.size := by
  have h := totL_cut (fiK x) L
  unfold putK
  rw [totL_ins]
  omega
theorem totL_do (x : DP) (L : List FI) : totL (doL x L) ≤ totL L + x.d.size := by
  unfold doL
  split
  · exact totL_add _ _ _
  · split
    · have h1 := totL_cut_get x.n.data.toList L
      have h2 := totL_put ⟨x.t, dataK x.n.data.toList L⟩ (cutK fiK x.n.data.toList L)
      have h3 : (FI.mk x.t (dataK x.n.data.toList L)).d.size = (dataK x.n.data.toList L).size := rfl
      omega
    · have := totL_cut x.n.data.toList L
      omega
theorem FoldL.more {w : World} {B b m : Nat} {L : List FI} (h : FoldL w B b m L) : FoldL w B b (m + 1) L := by
  obtain ⟨E, h1, h2, h3⟩ := h
  exact ⟨E, ⟨h1.own.mono (Nat.le_succ _), h1.up, h1.base, h1.rows, h1.apart, h1.names⟩, h2, fun x hx => Nat.le_succ_of_le (h3 x hx)⟩
theorem below_up {B : Nat} {w w' : World} (hB : B ≤ w.heap.size) (h : Below w.heap.size w w') : Below B w w' := h.mono hB

set_option maxRecDepth 100000 in
set_option maxHeartbeats 4000000 in
theorem impl_do_1 {B b m : Nat} {L : List FI} (n t d : ByteArray) (w : World) (h : FoldL w B b m L) (hB : B ≤ w.heap.size) (hn : n.size ≤ maxLen) (ht : t.size ≤ maxLen) (hd : d.size ≤ 1048576) (hm : m < 1073741823) (hT : totL L ≤ 1099510000000) :
    Calls Try.prog 43 #[.map (some b), .agg #[.int .i64 1, .string n, .string t, .string d]] w fun e w' => e = .returned (.int .i64 (doC ⟨1, n, t, d⟩ L)) ∧ FoldL w' B b (m + 1) (doG ⟨1, n, t, d⟩ L) ∧ Below B w w' := by
  have HF : Hid (FoldL w B b m L) := h
  have HN : Hid (n.size ≤ maxLen) := hn
  have HTT : Hid (t.size ≤ maxLen) := ht
  have HT : Hid (totL L ≤ 1099510000000) := hT
  obtain ⟨fm, HFM⟩ : ∃ fm, Hid ((nameB n && noB t) = fm) := ⟨_, rfl⟩
  have HE1 : Hid (formB ⟨1, n, t, d⟩ = fm) := HFM.out
  clear h hn ht hT
  cases fm
  · have HC : Hid (doC ⟨1, n, t, d⟩ L = 2) := by show _ = _; rw [doC, if_pos HE1.out]
    have HG : Hid (doG ⟨1, n, t, d⟩ L = L) := by show _ = _; rw [doG, if_neg (by rw [HE1.out]; simp)]
    rw [HC.out, HG.out]
    go_enter Try.func43, Try.ntmps43
    go_wp2_with (first
      | (go_at_call 51; refine (fileOpOf_1 n t d _ HN.out HTT.out).mono ?_; rintro e w1 ⟨rfl, hb⟩; rw [HFM.out]; have HB1 : Hid (Below w.heap.size w w1) := (Below.trans (by go_grown) (hb.mono (by simp))); clear hb))
    go_ret
    exact ⟨rfl, (HF.out.below HB1.out).more, below_up hB HB1.out⟩
  · have HE2 : Hid (findB ⟨1, n, t, d⟩ L = true) := rfl
    have HD : Hid (doG ⟨1, n, t, d⟩ L = addK n d L) := by show _ = _; rw [doG, if_pos ⟨HE1.out, HE2.out⟩]; rfl
    have HTD : Hid (totL (addK n d L) ≤ 1099511627776) := by
      have h1 := totL_do ⟨1, n, t, d⟩ L
      have h2 : doL ⟨1, n, t, d⟩ L = addK n d L := rfl
      have h3 : (DP.mk 1 n t d).d.size = d.size := rfl
      have h4 := HT.out
      rw [h2] at h1
      show _ ≤ _
      omega
    obtain ⟨ft, HFT⟩ : ∃ ft, Hid (fitB (addK n d L) = ft) := ⟨_, rfl⟩
    have HC : Hid (doC ⟨1, n, t, d⟩ L = if ft = false then 4 else 0) := by
      show _ = _
      rw [doC, if_neg (by rw [HE1.out]; simp), if_neg (by rw [HE2.out]; simp)]
      have h2 : doL ⟨1, n, t, d⟩ L = addK n d L := rfl
      rw [h2, HFT.out]
    rw [HC.out, HD.out]
    cases ft
    · go_enter Try.func43, Try.ntmps43
      go_wp2_with (first
        | (go_at_call 51; refine (fileOpOf_1 n t d _ HN.out HTT.out).mono ?_; rintro e w1 ⟨rfl, hb⟩; rw [HFM.out]; have HB1 : Hid (Below w.heap.size w w1) := (Below.trans (by go_grown) (hb.mono (by simp))); clear hb)
        | (go_at_call 144; refine (appending_finds n d _).mono ?_; rintro e w2 ⟨rfl, hb⟩; have HB2 : Hid (Below w.heap.size w w2) := bchain HB1.out hb; clear hb)
        | (go_at_call 143; refine (appending_doOn n d _ (HF.out.below HB2.out) (Nat.le_trans hB HB2.out.size) HN.out (by omega) (by omega) (Nat.le_trans HT.out (by omega))).mono ?_; rintro e w3 ⟨rfl, hF3, hb⟩; have HF3 : Hid (FoldL w3 B b (m + 1) (addK n d L)) := hF3; have HB3 : Hid (Below B w w3) := (Below.trans (below_up hB HB2.out) hb); clear hb hF3)
        | (go_at_call 52; refine (impl_fits _ HF3.out HTD.out (by omega)).mono ?_; rintro e w4 ⟨rfl, hb⟩; rw [HFT.out]; have HF4 : Hid (FoldL w4 B b (m + 1) (addK n d L)) := HF3.out.below hb; have HB4 : Hid (Below B w w4) := HB3.out.trans (hb.mono (Nat.le_trans hB HB3.out.size)); clear hb))
      go_ret
      exact ⟨rfl, HF4.out, HB4.out⟩
    · go_enter Try.func43, Try.ntmps43
      go_wp2_with (first
        | (go_at_call 51; refine (fileOpOf_1 n t d _ HN.out HTT.out).mono ?_; rintro e w1 ⟨rfl, hb⟩; rw [HFM.out]; have HB1 : Hid (Below w.heap.size w w1) := (Below.trans (by go_grown) (hb.mono (by simp))); clear hb)
        | (go_at_call 144; refine (appending_finds n d _).mono ?_; rintro e w2 ⟨rfl, hb⟩; have HB2 : Hid (Below w.heap.size w w2) := bchain HB1.out hb; clear hb)
        | (go_at_call 143; refine (appending_doOn n d _ (HF.out.below HB2.out) (Nat.le_trans hB HB2.out.size) HN.out (by omega) (by omega) (Nat.le_trans HT.out (by omega))).mono ?_; rintro e w3 ⟨rfl, hF3, hb⟩; have HF3 : Hid (FoldL w3 B b (m + 1) (addK n d L)) := hF3; have HB3 : Hid (Below B w w3) := (Below.trans (below_up hB HB2.out) hb); clear hb hF3)
        | (go_at_call 52; refine (impl_fits _ HF3.out HTD.out (by omega)).mono ?_; rintro e w4 ⟨rfl, hb⟩; rw [HFT.out]; have HF4 : Hid (FoldL w4 B b (m + 1) (addK n d L)) := HF3.out.below hb; have HB4 : Hid (Below B w w4) := HB3.out.trans (hb.mono (Nat.le_trans hB HB3.out.size)); clear hb))
      go_ret
      exact ⟨rfl, HF4.out, HB4.out⟩

set_option maxRecDepth 100000 in
set_option maxHeartbeats 4000000 in
theorem impl_do_2 {B b m : Nat} {L : List FI} (n t d : ByteArray) (w : World) (h : FoldL w B b m L) (hB : B ≤ w.heap.size) (hn : n.size ≤ maxLen) (ht : t.size ≤ maxLen) (hd : d.size ≤ 1048576) (hm : m < 1073741823) (hT : totL L ≤ 1099510000000) :
    Calls Try.prog 43 #[.map (some b), .agg #[.int .i64 2, .string n, .string t, .string d]] w fun e w' => e = .returned (.int .i64 (doC ⟨2, n, t, d⟩ L)) ∧ FoldL w' B b (m + 1) (doG ⟨2, n, t, d⟩ L) ∧ Below B w w' := by
  have HF : Hid (FoldL w B b m L) := h
  have HN : Hid (n.size ≤ maxLen) := hn
  have HTT : Hid (t.size ≤ maxLen) := ht
  have HT : Hid (totL L ≤ 1099510000000) := hT
  obtain ⟨fm, HFM⟩ : ∃ fm, Hid ((nameB n && (nameB t && noB d)) = fm) := ⟨_, rfl⟩
  have HE1 : Hid (formB ⟨2, n, t, d⟩ = fm) := HFM.out
  clear h hn ht hT
  cases fm
  · have HC : Hid (doC ⟨2, n, t, d⟩ L = 2) := by show _ = _; rw [doC, if_pos HE1.out]
    have HG : Hid (doG ⟨2, n, t, d⟩ L = L) := by show _ = _; rw [doG, if_neg (by rw [HE1.out]; simp)]
    rw [HC.out, HG.out]
    go_enter Try.func43, Try.ntmps43
    go_wp2_with (first
      | (go_at_call 51; refine (fileOpOf_2 n t d _ HN.out HTT.out).mono ?_; rintro e w1 ⟨rfl, hb⟩; rw [HFM.out]; have HB1 : Hid (Below w.heap.size w w1) := (Below.trans (by go_grown) (hb.mono (by simp))); clear hb))
    go_ret
    exact ⟨rfl, (HF.out.below HB1.out).more, below_up hB HB1.out⟩
  · obtain ⟨fi, HFI⟩ : ∃ fi, Hid (hasB n L = fi) := ⟨_, rfl⟩
    have HE2 : Hid (findB ⟨2, n, t, d⟩ L = fi) := HFI.out
    cases fi
    · have HC : Hid (doC ⟨2, n, t, d⟩ L = 3) := by show _ = _; rw [doC, if_neg (by rw [HE1.out]; simp), if_pos HE2.out]
      have HG : Hid (doG ⟨2, n, t, d⟩ L = L) := by show _ = _; rw [doG, if_neg (by rw [HE2.out]; simp)]
      rw [HC.out, HG.out]
      go_enter Try.func43, Try.ntmps43
      go_wp2_with (first
        | (go_at_call 51; refine (fileOpOf_2 n t d _ HN.out HTT.out).mono ?_; rintro e w1 ⟨rfl, hb⟩; rw [HFM.out]; have HB1 : Hid (Below w.heap.size w w1) := (Below.trans (by go_grown) (hb.mono (by simp))); clear hb)
        | (go_at_call 147; refine (renaming_finds n t _ (HF.out.below HB1.out) HN.out).mono ?_; rintro e w2 ⟨rfl, hb⟩; rw [HFI.out]; have HB2 : Hid (Below w.heap.size w w2) := bchain HB1.out hb; clear hb))
      go_ret
      exact ⟨rfl, (HF.out.below HB2.out).more, below_up hB HB2.out⟩
    · have HD : Hid (doG ⟨2, n, t, d⟩ L = putK fiK ⟨t, dataK n.data.toList L⟩ (cutK fiK n.data.toList L)) := by show _ = _; rw [doG, if_pos ⟨HE1.out, HE2.out⟩]; rfl
      have HTD : Hid (totL (putK fiK ⟨t, dataK n.data.toList L⟩ (cutK fiK n.data.toList L)) ≤ 1099511627776) := by
        have h1 := totL_do ⟨2, n, t, d⟩ L
        have h2 : doL ⟨2, n, t, d⟩ L = putK fiK ⟨t, dataK n.data.toList L⟩ (cutK fiK n.data.toList L) := rfl
        have h3 : (DP.mk 2 n t d).d.size = d.size := rfl
        have h4 := HT.out
        rw [h2] at h1
        show _ ≤ _
        omega
      obtain ⟨ft, HFT⟩ : ∃ ft, Hid (fitB (putK fiK ⟨t, dataK n.data.toList L⟩ (cutK fiK n.data.toList L)) = ft) := ⟨_, rfl⟩
      have HC : Hid (doC ⟨2, n, t, d⟩ L = if ft = false then 4 else 0) := by
        show _ = _
        rw [doC, if_neg (by rw [HE1.out]; simp), if_neg (by rw [HE2.out]; simp)]
        have h2 : doL ⟨2, n, t, d⟩ L = putK fiK ⟨t, dataK n.data.toList L⟩ (cutK fiK n.data.toList L) := rfl
        rw [h2, HFT.out]
      rw [HC.out, HD.out]
      cases ft
      · go_enter Try.func43, Try.ntmps43
        go_wp2_with (first
          | (go_at_call 51; refine (fileOpOf_2 n t d _ HN.out HTT.out).mono ?_; rintro e w1 ⟨rfl, hb⟩; rw [HFM.out]; have HB1 : Hid (Below w.heap.size w w1) := (Below.trans (by go_grown) (hb.mono (by simp))); clear hb)
          | (go_at_call 147; refine (renaming_finds n t _ (HF.out.below HB1.out) HN.out).mono ?_; rintro e w2 ⟨rfl, hb⟩; rw [HFI.out]; have HB2 : Hid (Below w.heap.size w w2) := bchain HB1.out hb; clear hb)
          | (go_at_call 146; refine (renaming_doOn n t _ (HF.out.below HB2.out) (Nat.le_trans hB HB2.out.size) HN.out HTT.out (by omega) HFI.out).mono ?_; rintro e w3 ⟨rfl, hF3, hb⟩; have HF3 : Hid (FoldL w3 B b (m + 1) (putK fiK ⟨t, dataK n.data.toList L⟩ (cutK fiK n.data.toList L))) := hF3; have HB3 : Hid (Below B w w3) := (Below.trans (below_up hB HB2.out) hb); clear hb hF3)
          | (go_at_call 52; refine (impl_fits _ HF3.out HTD.out (by omega)).mono ?_; rintro e w4 ⟨rfl, hb⟩; rw [HFT.out]; have HF4 : Hid (FoldL w4 B b (m + 1) (putK fiK ⟨t, dataK n.data.toList L⟩ (cutK fiK n.data.toList L))) := HF3.out.below hb; have HB4 : Hid (Below B w w4) := HB3.out.trans (hb.mono (Nat.le_trans hB HB3.out.size)); clear hb))
        go_ret
        exact ⟨rfl, HF4.out, HB4.out⟩
      · go_enter Try.func43, Try.ntmps43
        go_wp2_with (first
          | (go_at_call 51; refine (fileOpOf_2 n t d _ HN.out HTT.out).mono ?_; rintro e w1 ⟨rfl, hb⟩; rw [HFM.out]; have HB1 : Hid (Below w.heap.size w w1) := (Below.trans (by go_grown) (hb.mono (by simp))); clear hb)
          | (go_at_call 147; refine (renaming_finds n t _ (HF.out.below HB1.out) HN.out).mono ?_; rintro e w2 ⟨rfl, hb⟩; rw [HFI.out]; have HB2 : Hid (Below w.heap.size w w2) := bchain HB1.out hb; clear hb)
          | (go_at_call 146; refine (renaming_doOn n t _ (HF.out.below HB2.out) (Nat.le_trans hB HB2.out.size) HN.out HTT.out (by omega) HFI.out).mono ?_; rintro e w3 ⟨rfl, hF3, hb⟩; have HF3 : Hid (FoldL w3 B b (m + 1) (putK fiK ⟨t, dataK n.data.toList L⟩ (cutK fiK n.data.toList L))) := hF3; have HB3 : Hid (Below B w w3) := (Below.trans (below_up hB HB2.out) hb); clear hb hF3)
          | (go_at_call 52; refine (impl_fits _ HF3.out HTD.out (by omega)).mono ?_; rintro e w4 ⟨rfl, hb⟩; rw [HFT.out]; have HF4 : Hid (FoldL w4 B b (m + 1) (putK fiK ⟨t, dataK n.data.toList L⟩ (cutK fiK n.data.toList L))) := HF3.out.below hb; have HB4 : Hid (Below B w w4) := HB3.out.trans (hb.mono (Nat.le_trans hB HB3.out.size)); clear hb))
        go_ret
        exact ⟨rfl, HF4.out, HB4.out⟩

set_option maxRecDepth 100000 in
set_option maxHeartbeats 4000000 in
theorem impl_do_3 {B b m : Nat} {L : List FI} (n t d : ByteArray) (w : World) (h : FoldL w B b m L) (hB : B ≤ w.heap.size) (hn : n.size ≤ maxLen) (ht : t.size ≤ maxLen) (hd : d.size ≤ 1048576) (hm : m < 1073741823) (hT : totL L ≤ 1099510000000) :
    Calls Try.prog 43 #[.map (some b), .agg #[.int .i64 3, .string n, .string t, .string d]] w fun e w' => e = .returned (.int .i64 (doC ⟨3, n, t, d⟩ L)) ∧ FoldL w' B b (m + 1) (doG ⟨3, n, t, d⟩ L) ∧ Below B w w' := by
  have HF : Hid (FoldL w B b m L) := h
  have HN : Hid (n.size ≤ maxLen) := hn
  have HTT : Hid (t.size ≤ maxLen) := ht
  have HT : Hid (totL L ≤ 1099510000000) := hT
  obtain ⟨fm, HFM⟩ : ∃ fm, Hid ((nameB n && (noB t && noB d)) = fm) := ⟨_, rfl⟩
  have HE1 : Hid (formB ⟨3, n, t, d⟩ = fm) := HFM.out
  clear h hn ht hT
  cases fm
  · have HC : Hid (doC ⟨3, n, t, d⟩ L = 2) := by show _ = _; rw [doC, if_pos HE1.out]
    have HG : Hid (doG ⟨3, n, t, d⟩ L = L) := by show _ = _; rw [doG, if_neg (by rw [HE1.out]; simp)]
    rw [HC.out, HG.out]
    go_enter Try.func43, Try.ntmps43
    go_wp2_with (first
      | (go_at_call 51; refine (fileOpOf_3 n t d _ HN.out HTT.out).mono ?_; rintro e w1 ⟨rfl, hb⟩; rw [HFM.out]; have HB1 : Hid (Below w.heap.size w w1) := (Below.trans (by go_grown) (hb.mono (by simp))); clear hb))
    go_ret
    exact ⟨rfl, (HF.out.below HB1.out).more, below_up hB HB1.out⟩
  · obtain ⟨fi, HFI⟩ : ∃ fi, Hid (hasB n L = fi) := ⟨_, rfl⟩
    have HE2 : Hid (findB ⟨3, n, t, d⟩ L = fi) := HFI.out
    cases fi
    · have HC : Hid (doC ⟨3, n, t, d⟩ L = 3) := by show _ = _; rw [doC, if_neg (by rw [HE1.out]; simp), if_pos HE2.out]
      have HG : Hid (doG ⟨3, n, t, d⟩ L = L) := by show _ = _; rw [doG, if_neg (by rw [HE2.out]; simp)]
      rw [HC.out, HG.out]
      go_enter Try.func43, Try.ntmps43
      go_wp2_with (first
        | (go_at_call 51; refine (fileOpOf_3 n t d _ HN.out HTT.out).mono ?_; rintro e w1 ⟨rfl, hb⟩; rw [HFM.out]; have HB1 : Hid (Below w.heap.size w w1) := (Below.trans (by go_grown) (hb.mono (by simp))); clear hb)
        | (go_at_call 151; refine (removing_finds n _ (HF.out.below HB1.out) HN.out).mono ?_; rintro e w2 ⟨rfl, hb⟩; rw [HFI.out]; have HB2 : Hid (Below w.heap.size w w2) := bchain HB1.out hb; clear hb))
      go_ret
      exact ⟨rfl, (HF.out.below HB2.out).more, below_up hB HB2.out⟩
    · have HD : Hid (doG ⟨3, n, t, d⟩ L = cutK fiK n.data.toList L) := by show _ = _; rw [doG, if_pos ⟨HE1.out, HE2.out⟩]; rfl
      have HTD : Hid (totL (cutK fiK n.data.toList L) ≤ 1099511627776) := by
        have h1 := totL_do ⟨3, n, t, d⟩ L
        have h2 : doL ⟨3, n, t, d⟩ L = cutK fiK n.data.toList L := rfl
        have h3 : (DP.mk 3 n t d).d.size = d.size := rfl
        have h4 := HT.out
        rw [h2] at h1
        show _ ≤ _
        omega
      obtain ⟨ft, HFT⟩ : ∃ ft, Hid (fitB (cutK fiK n.data.toList L) = ft) := ⟨_, rfl⟩
      have HC : Hid (doC ⟨3, n, t, d⟩ L = if ft = false then 4 else 0) := by
        show _ = _
        rw [doC, if_neg (by rw [HE1.out]; simp), if_neg (by rw [HE2.out]; simp)]
        have h2 : doL ⟨3, n, t, d⟩ L = cutK fiK n.data.toList L := rfl
        rw [h2, HFT.out]
      rw [HC.out, HD.out]
      cases ft
      · go_enter Try.func43, Try.ntmps43
        go_wp2_with (first
          | (go_at_call 51; refine (fileOpOf_3 n t d _ HN.out HTT.out).mono ?_; rintro e w1 ⟨rfl, hb⟩; rw [HFM.out]; have HB1 : Hid (Below w.heap.size w w1) := (Below.trans (by go_grown) (hb.mono (by simp))); clear hb)
          | (go_at_call 151; refine (removing_finds n _ (HF.out.below HB1.out) HN.out).mono ?_; rintro e w2 ⟨rfl, hb⟩; rw [HFI.out]; have HB2 : Hid (Below w.heap.size w w2) := bchain HB1.out hb; clear hb)
          | (go_at_call 150; refine (removing_doOn n _ (HF.out.below HB2.out) (Nat.le_trans hB HB2.out.size) HN.out).mono ?_; rintro e w3 ⟨rfl, hF3, hb⟩; have HF3 : Hid (FoldL w3 B b (m + 1) (cutK fiK n.data.toList L)) := hF3; have HB3 : Hid (Below B w w3) := (Below.trans (below_up hB HB2.out) hb); clear hb hF3)
          | (go_at_call 52; refine (impl_fits _ HF3.out HTD.out (by omega)).mono ?_; rintro e w4 ⟨rfl, hb⟩; rw [HFT.out]; have HF4 : Hid (FoldL w4 B b (m + 1) (cutK fiK n.data.toList L)) := HF3.out.below hb; have HB4 : Hid (Below B w w4) := HB3.out.trans (hb.mono (Nat.le_trans hB HB3.out.size)); clear hb))
        go_ret
        exact ⟨rfl, HF4.out, HB4.out⟩
      · go_enter Try.func43, Try.ntmps43
        go_wp2_with (first
          | (go_at_call 51; refine (fileOpOf_3 n t d _ HN.out HTT.out).mono ?_; rintro e w1 ⟨rfl, hb⟩; rw [HFM.out]; have HB1 : Hid (Below w.heap.size w w1) := (Below.trans (by go_grown) (hb.mono (by simp))); clear hb)
          | (go_at_call 151; refine (removing_finds n _ (HF.out.below HB1.out) HN.out).mono ?_; rintro e w2 ⟨rfl, hb⟩; rw [HFI.out]; have HB2 : Hid (Below w.heap.size w w2) := bchain HB1.out hb; clear hb)
          | (go_at_call 150; refine (removing_doOn n _ (HF.out.below HB2.out) (Nat.le_trans hB HB2.out.size) HN.out).mono ?_; rintro e w3 ⟨rfl, hF3, hb⟩; have HF3 : Hid (FoldL w3 B b (m + 1) (cutK fiK n.data.toList L)) := hF3; have HB3 : Hid (Below B w w3) := (Below.trans (below_up hB HB2.out) hb); clear hb hF3)
          | (go_at_call 52; refine (impl_fits _ HF3.out HTD.out (by omega)).mono ?_; rintro e w4 ⟨rfl, hb⟩; rw [HFT.out]; have HF4 : Hid (FoldL w4 B b (m + 1) (cutK fiK n.data.toList L)) := HF3.out.below hb; have HB4 : Hid (Below B w w4) := HB3.out.trans (hb.mono (Nat.le_trans hB HB3.out.size)); clear hb))
        go_ret
        exact ⟨rfl, HF4.out, HB4.out⟩

set_option maxRecDepth 100000 in
set_option maxHeartbeats 4000000 in
theorem impl_do {B b m : Nat} {L : List FI} (x : DP) (w : World) (h : FoldL w B b m L) (hB : B ≤ w.heap.size) (hx : dpLil x) (hm : m < 1073741823) (hT : totL L ≤ 1099510000000) :
    Calls Try.prog 43 #[.map (some b), .agg #[.int .i64 x.k, .string x.n, .string x.t, .string x.d]] w fun e w' => e = .returned (.int .i64 (doC x L)) ∧ FoldL w' B b (m + 1) (doG x L) ∧ Below B w w' := by
  obtain ⟨k, n, t, d⟩ := x
  have hok := dpOk_of hx
  by_cases h1 : k = 1
  · subst h1; exact impl_do_1 n t d w h hB hok.1 hok.2.1 hx.2.2 hm hT
  by_cases h2 : k = 2
  · subst h2; exact impl_do_2 n t d w h hB hok.1 hok.2.1 hx.2.2 hm hT
  by_cases h3 : k = 3
  · subst h3; exact impl_do_3 n t d w h hB hok.1 hok.2.1 hx.2.2 hm hT
  have HE : Hid (formB ⟨k, n, t, d⟩ = false) := by
    show _ = _
    simp only [formB, h1, h2, h3, if_false]
  have HC : Hid (doC ⟨k, n, t, d⟩ L = 2) := by show _ = _; rw [doC, if_pos HE.out]
  have HG : Hid (doG ⟨k, n, t, d⟩ L = L) := by show _ = _; rw [doG, if_neg (by rw [HE.out]; simp)]
  have HF : Hid (FoldL w B b m L) := h
  have HN : Hid (n.size ≤ maxLen) := hok.1
  have H123 : Hid (¬ k = 1 ∧ ¬ k = 2 ∧ ¬ k = 3) := ⟨h1, h2, h3⟩
  rw [HC.out, HG.out]
  clear h hx hok hT h1 h2 h3
  show Calls Try.prog 43 #[.map (some b), .agg #[.int .i64 k, .string n, .string t, .string d]] w _
  go_enter Try.func43, Try.ntmps43
  go_wp2_with (first
    | (go_at_call 51; refine (fileOpOf_0 k n t d _ HN.out H123.out.1 H123.out.2.1 H123.out.2.2).mono ?_; rintro e w1 ⟨rfl, hb⟩; have HB1 : Hid (Below w.heap.size w w1) := (Below.trans (by go_grown) (hb.mono (by simp))); clear hb))
  go_ret
  exact ⟨rfl, (HF.out.below HB1.out).more, below_up hB HB1.out⟩
end Go.Proofs.Ytanjlpgdmnapdaa
