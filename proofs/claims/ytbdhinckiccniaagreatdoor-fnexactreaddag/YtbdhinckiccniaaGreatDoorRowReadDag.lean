/- FnExactReadDag: for every text the exact law of ReadDag returns true: impl.ReadDag answers as spec.ReadDag, field by field; its answer owns its memory, behind another call too (texts above 1048576 bytes the law passes by itself). The listed variables (the program's tables of operators and functions, the library's tables and two errors) read as the program's text lays them: the card ties them, over the pruned copy of the project. -/
import Derived.Test.YtbdhinckiccniaaGreatDoorRows
import Derived.Test.YtbdhinckiccniaaGreatDoorRf
import Derived.Test.YtbdhinckiccniaaGreatDoorGbb
import Derived.ProofKit
import Derived.OpenVars
import Derived.LaidMore
import Derived.OpenShut
import Derived.Stop.Joined
import Derived.Lay
import Derived.Test.YtbdhinckiccniaaGreatDoorTie
import Derived.Test.YtbdhinckiccniaaGreatDoorCards
import Derived.SevenTiedAt
namespace Go.Proofs.YtbdhinckiccniaaGreatDoor
open Go.ChangeShapes Go.WideShapes Go.ChangeAt Go.RowKit Go.Joins
open Go.ChangeMaps (open_string shut_string)
set_option linter.unusedVariables false

theorem RowReadDag.gt {W : World} (h : laidMetH Tryz.prog Rows.fnExactReadDagRow.laid W) (hs : W.ShapedOpen Tryz.prog) : GI W := by
  rw [MakeChecks.laidMetH_plain _ _ _ (by kernel_rfl)] at h
  have h2 := h.tail.tail
  have h4 := h2.tail.tail
  have h6 := h4.tail.tail
  have h7 := h6.tail
  obtain ⟨f1, f2⟩ := Qte h7
  obtain ⟨e1, e2⟩ := Qvt h4
  exact ⟨⟨f1, f2, ot_of h6, mx_of hs, vt_of h2⟩, fl_of h7, ⟨vt_of h2, e1, e2⟩⟩
set_option maxRecDepth 100000 in
theorem RowReadDag.lifted (os : Os) (started : os.Started) (H : Type) (enc : TypeId × Value → H) :
    ReturnsInHanded {} Tryz.checked os 4 .any (fun w args => (Rows.fnExactReadDagSpec.pre enc Tryz.prog Tryz.f4 [] false w args ∧ laidMetH Tryz.prog Rows.fnExactReadDagRow.laid w) ∧ sizedMet enc Tryz.prog Tryz.f4 (OpenSpec.ofChange Rows.fnExactReadDagSpec) false w args) (Rows.fnExactReadDagSpec.post enc Tryz.prog Tryz.f4 false true false false) := by
  refine Qcy (C := Tryz.checked) (X := fun w _ => laidMetH Tryz.prog Rows.fnExactReadDagRow.laid w) (fun _ _ _ hh h => h.of_heap hh) ownK started (by kernel_rfl) Tryz.func4
    (ChangeSpec.witness_shaped (enc := enc) (C := Tryz.checked) (os := os) (X := fun w _ => laidMetH Tryz.prog Rows.fnExactReadDagRow.laid w) false (World.laidAll Tryz.prog os Rows.fnExactReadDagRow.laid) #[.string ByteArray.empty] 8 (World.laidAll_os _ _ _)
      (World.shaped_of_ZipB (by kernel_rfl) (by kernel_rfl)) (by kernel_rfl) (by kernel_rfl) (by kernel_rfl)
      (by rw [MakeChecks.laidMetH_plain _ _ _ (by kernel_rfl)]; exact laidMet_laidAll _ (by kernel_rfl) (by kernel_rfl))) ?_
  intro W base args ds gs before hval0 hW hL hsh
  have hval : ∀ (j : Nat) t v, Tryz.f4.params[j]? = some t → args[j]? = some v → Value.okWide Tryz.prog W .any base t v := hval0
  have hW' := hW
  obtain ⟨p, q, hA0, hV, rfl, hfz, hnd⟩ := hW
  have hA : DataW.TrodAll enc Tryz.prog W 0 (fun _ => true) true Tryz.f4.params.toList args.toList ds p := hA0
  rw [Tryz.params4] at hA hval
  obtain ⟨v0, vs0, d0, ds0, p0, q0, hargs, rfl, rfl, h0, r0⟩ := trodAll_cons hA
  obtain ⟨rfl, rfl, rfl⟩ := trodAll_nil r0
  obtain rfl : args = #[v0] := by cases args; simp_all
  have hV0 := hV
  obtain ⟨_, _, _, _, g1, _, _, _, _, _, g2, _, rfl, _⟩ := trodVars_two hV
  have k0 := h0
  have lt0 : ∀ x ∈ p0, x.block < W.heap.size := by obtain ⟨m, hm⟩ := k0; exact DataW.trod_lt m _ _ _ hm
  obtain ⟨s0, rfl, rfl, rfl, ws0⟩ := open_string Tryz.underlying9 (hval 0 9 v0 rfl rfl) h0
  clear hA0 hval0
  refine (Qdh s0 W (RowReadDag.gt hL hsh)).mono fun e W' ⟨he, bel⟩ => ?_
  subst he
  exact ⟨_, rfl, _, _, _, [], _, _, hW', trodAll_mk1 (shut_bool Tryz.underlying4 _), (trodAll_cons_mk (Below.trod Qp3 (by kernel_rfl) (of_decide_eq_true (by kernel_rfl)) k0 bel lt0) trodAll_mk0), Below.trodVars Qp3 bel (by kernel_rfl) hV0, bel.frame _, fun h => by cases h⟩

set_option maxHeartbeats 400000000 in
theorem RowReadDag.closed : joinedFacts Tryz.pinned.checked.prog 4 Tryz.f4 Rows.fnExactReadDagSpec Rows.fnExactReadDagRow = true := by
  unfold joinedFacts
  simp only [Bool.and_eq_true]
  repeat' apply And.intro
  all_goals as_aux_lemma => kernel_rfl

theorem RowReadDag.over : Rows.fnExactReadDagRow.holds Tryz.pinned (OpenSpec.ofChange Rows.fnExactReadDagSpec) :=
  OpenClaim.holds_of_wide 4 Tryz.f4 rfl rfl rfl rfl rfl rfl rfl ⟨rfl, rfl, rfl, rfl, rfl⟩ rfl rfl rfl rfl rfl (by as_aux_lemma => kernel_rfl) Tryz.func4 RowReadDag.closed
    (of_decide_eq_true (by as_aux_lemma => kernel_rfl)) (by unfold Func.isWrapper; first | (rw [if_pos (by decide +kernel)]; kernel_rfl) | (rw [if_neg (by decide +kernel)]; exact ⟨rfl, rfl⟩))
    (fun os started H enc _ => RowReadDag.lifted os started H enc)

theorem proved_FnExactReadDag : Rows.FnExactReadDagCardSaid :=
  Claim7.holds_tied_plain_at .later [] [.data, .data, .data, .data, .sentinel, .sentinel, .data, .wider, .pinned] true Rows.fnExactReadDagCard.stood.harness true
    RowReadDag.over (fun _ h => by cases h) (by as_aux_lemma => kernel_rfl) (fun _ h => by cases h) fnExactReadDag_row_tie rfl ⟨rfl, rfl⟩ (by as_aux_lemma => kernel_rfl) rfl
    (fun f fn hf hfn => by
      obtain rfl : f = 4 := Option.some.inj ((show Tryz.prog.funcNamed Rows.fnExactReadDagRow.func = some 4 by kernel_rfl).symm.trans hf) |>.symm
      obtain rfl : fn = Tryz.f4 := (Option.some.inj (Tryz.func4.symm.trans hfn)).symm
      exact ⟨by kernel_rfl, fun j t ht => by
        rw [Tryz.params4] at ht
        have hm : t ∈ [9] := by simpa using Array.mem_of_getElem? ht
        have hall : ([9].all fun u => !Tryz.prog.wantsStandIn u) = true := by kernel_rfl
        exact (show Tryz.prog.wantsStandIn t = false by simpa using List.all_eq_true.1 hall t hm)⟩)
    (by as_aux_lemma => kernel_rfl)
#print axioms proved_FnExactReadDag
end Go.Proofs.YtbdhinckiccniaaGreatDoor
