/- FnMerged: for every code the law returns true: three drawn sheets are merged as the specification says; where all three are right, a merge has, place by place, what one side changed or both alike, what both changed otherwise is told, with a side that changed nothing it is the other side, and it does not ask which side stands first (codes above 1048576 bytes the law passes by itself). The listed variables (the program's tables of operators and functions, the library's tables and two errors) read as the program's text lays them: the card ties them, over the pruned copy of the project. -/
import Derived.Test.YthjldgbfgapbcaaGreatDoorRows
import Derived.Test.YthjldgbfgapbcaaGreatDoorJd
import Derived.Test.YthjldgbfgapbcaaGreatDoorGbb
import Derived.Test.YthjldgbfgapbcaaGreatDoorGzk
import Derived.ProofKit
import Derived.OpenVars
import Derived.LaidMore
import Derived.OpenShut
import Derived.Stop.Joined
import Derived.Lay
import Derived.Test.YthjldgbfgapbcaaGreatDoorTie
import Derived.Test.YthjldgbfgapbcaaGreatDoorCards
import Derived.SevenTiedAt
namespace Go.Proofs.YthjldgbfgapbcaaGreatDoor
open Go.ChangeShapes Go.WideShapes Go.ChangeAt Go.RowKit Go.Joins
open Go.ChangeMaps (open_string shut_string)
set_option linter.unusedVariables false

theorem RowMerged2.gt {W : World} (h : laidMetH Tryz.prog Rows.fnMergedRow.laid W) (hs : W.ShapedOpen Tryz.prog) : GI W := by
  rw [MakeChecks.laidMetH_plain _ _ _ (by kernel_rfl)] at h
  have h2 := h.tail.tail
  have h4 := h2.tail.tail
  have h6 := h4.tail.tail
  have h7 := h6.tail
  obtain ⟨f1, f2⟩ := Qrp h7
  obtain ⟨e1, e2⟩ := Qtq h4
  exact ⟨⟨f1, f2, ot_of h6, mx_of hs, vt_of h2⟩, fl_of h7, ⟨vt_of h2, e1, e2⟩⟩
set_option maxRecDepth 100000 in
theorem RowMerged2.lifted (os : Os) (started : os.Started) (H : Type) (enc : TypeId × Value → H) :
    ReturnsInHanded {} Tryz.checked os 5 .any (fun w args => (Rows.fnMergedSpec.pre enc Tryz.prog Tryz.f5 [] false w args ∧ laidMetH Tryz.prog Rows.fnMergedRow.laid w) ∧ sizedMet enc Tryz.prog Tryz.f5 (OpenSpec.ofChange Rows.fnMergedSpec) false w args) (Rows.fnMergedSpec.post enc Tryz.prog Tryz.f5 false true false false) := by
  refine Qba (C := Tryz.checked) (X := fun w _ => laidMetH Tryz.prog Rows.fnMergedRow.laid w) (fun _ _ _ hh h => h.of_heap hh) ownK started (by kernel_rfl) Tryz.func5
    (ChangeSpec.witness_shaped (enc := enc) (C := Tryz.checked) (os := os) (X := fun w _ => laidMetH Tryz.prog Rows.fnMergedRow.laid w) false (World.laidAll Tryz.prog os Rows.fnMergedRow.laid) #[.slice none 0 0] 8 (World.laidAll_os _ _ _)
      (World.shaped_of_ZipB (by kernel_rfl) (by kernel_rfl)) (by kernel_rfl) (by kernel_rfl) (by kernel_rfl)
      (by rw [MakeChecks.laidMetH_plain _ _ _ (by kernel_rfl)]; exact laidMet_laidAll _ (by kernel_rfl) (by kernel_rfl))) ?_
  intro W base args ds gs before hval0 hW hL hsh
  have hval : ∀ (j : Nat) t v, Tryz.f5.params[j]? = some t → args[j]? = some v → Value.okWide Tryz.prog W .any base t v := hval0
  have hW' := hW
  obtain ⟨p, q, hA0, hV, rfl, hfz, hnd⟩ := hW
  have hA : DataW.TrodAll enc Tryz.prog W 0 (fun _ => true) true Tryz.f5.params.toList args.toList ds p := hA0
  rw [Tryz.params5] at hA hval
  obtain ⟨v0, vs0, d0, ds0, p0, q0, hargs, rfl, rfl, h0, r0⟩ := trodAll_cons hA
  obtain ⟨rfl, rfl, rfl⟩ := trodAll_nil r0
  obtain rfl : args = #[v0] := by cases args; simp_all
  have hV0 := hV
  obtain ⟨_, _, _, _, g1, _, _, _, _, _, g2, _, rfl, _⟩ := trodVars_two hV
  have k0 := h0
  have lt0 : ∀ x ∈ p0, x.block < W.heap.size := by obtain ⟨m, hm⟩ := k0; exact DataW.trod_lt m _ _ _ hm
  obtain ⟨a0, Qkx, cap0, rfl, wz0⟩ := Qsi (hval 0 22 v0 rfl rfl) h0
  clear hA0 hval0
  refine (Ql3 Qrn Qrm a0 Qkx cap0 W (fun h9 => ⟨h9, wz0.2⟩) (RowMerged2.gt hL hsh)).mono fun e W' ⟨he, bel⟩ => ?_
  subst he
  exact ⟨_, rfl, _, _, _, [], _, _, hW', trodAll_mk1 (shut_bool Tryz.underlying4 _), (trodAll_cons_mk (Below.trod Qoe (by kernel_rfl) (of_decide_eq_true (by kernel_rfl)) k0 bel lt0) trodAll_mk0), Below.trodVars Qoe bel (by kernel_rfl) hV0, bel.frame _, fun h => by cases h⟩

theorem RowMerged2.over : Rows.fnMergedRow.holds Tryz.pinned (OpenSpec.ofChange Rows.fnMergedSpec) :=
  OpenClaim.holds_of_wide 5 Tryz.f5 rfl rfl rfl rfl rfl rfl rfl ⟨rfl, rfl, rfl, rfl, rfl⟩ rfl rfl rfl rfl rfl (by kernel_rfl) Tryz.func5 (by kernel_rfl)
    (of_decide_eq_true (by kernel_rfl)) (by unfold Func.isWrapper; first | (rw [if_pos (by decide +kernel)]; kernel_rfl) | (rw [if_neg (by decide +kernel)]; exact ⟨rfl, rfl⟩))
    (fun os started H enc _ => RowMerged2.lifted os started H enc)

theorem proved_FnMerged : Rows.FnMergedCardSaid :=
  Claim7.holds_tied_plain_at .later [] [.data, .data, .data, .data, .sentinel, .sentinel, .data, .wider, .pinned] true Rows.fnMergedCard.stood.harness true
    RowMerged2.over (fun _ h => by cases h) (by kernel_rfl) (fun _ h => by cases h) fnMerged_row_tie rfl ⟨rfl, rfl⟩ (by kernel_rfl) rfl
    (fun f fn hf hfn => by
      obtain rfl : f = 5 := Option.some.inj ((show Tryz.prog.funcNamed Rows.fnMergedRow.func = some 5 by kernel_rfl).symm.trans hf) |>.symm
      obtain rfl : fn = Tryz.f5 := (Option.some.inj (Tryz.func5.symm.trans hfn)).symm
      exact ⟨by kernel_rfl, fun j t ht => by
        rw [Tryz.params5] at ht
        have hm : t ∈ [22] := by simpa using Array.mem_of_getElem? ht
        have hall : ([22].all fun u => !Tryz.prog.wantsStandIn u) = true := by kernel_rfl
        exact (show Tryz.prog.wantsStandIn t = false by simpa using List.all_eq_true.1 hall t hm)⟩)
    (by kernel_rfl)
#print axioms proved_FnMerged
end Go.Proofs.YthjldgbfgapbcaaGreatDoor
