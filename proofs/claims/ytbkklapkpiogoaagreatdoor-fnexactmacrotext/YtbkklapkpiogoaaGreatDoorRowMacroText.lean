import Derived.Test.YtbkklapkpiogoaaGreatDoorRows
import Derived.Test.YtbkklapkpiogoaaGreatDoorMtO
import Derived.Test.YtbkklapkpiogoaaGreatDoorLaidMt
import Derived.ProofKit
import Derived.OpenVars
import Derived.LaidMore
import Derived.OpenShut
import Derived.Stop.Joined
import Derived.Lay
import Derived.Test.YtbkklapkpiogoaaGreatDoorTie
import Derived.Test.YtbkklapkpiogoaaGreatDoorCards
import Derived.SevenTiedAt
/- FnExactMacroText: for every row of statements the exact law of MacroText returns true: impl.MacroText answers as spec.MacroText; the argument reads as before. The listed variables (the program's tables of operators, functions and statements' words, the library's tables and two errors) read as the program's text lays them: the card ties them, over the pruned copy of the project. -/
namespace Go.Proofs.YtbkklapkpiogoaaGreatDoor
open Go.ChangeShapes Go.WideShapes Go.ChangeAt Go.RowKit Go.Joins
open Go.ChangeMaps (open_string shut_string)
set_option linter.unusedVariables false

theorem RowMacroText.gt {W : World} (h : laidMetH Tryz.prog Rows.fnExactMacroTextRow.laid W) (hs : W.ShapedOpen Tryz.prog) : GI W ∧ SWG W := by
  rw [MakeChecks.laidMetH_plain _ _ _ (by kernel_rfl)] at h
  have h2 := h.tail.tail
  have h4 := h2.tail.tail
  have h6 := h4.tail.tail
  have h7 := h6.tail
  obtain ⟨f1, f2⟩ := fns_of h7
  obtain ⟨e1, e2⟩ := errs_of h4
  have h8 := h7.tail
  exact ⟨⟨⟨f1, f2, ot_of h6, mx_of hs, vt_of h2⟩, fl_of h7, ⟨vt_of h2, e1, e2⟩⟩, sw_of h8⟩
set_option maxRecDepth 100000 in
theorem RowMacroText.lifted (os : Os) (started : os.Started) (H : Type) (enc : TypeId × Value → H) :
    ReturnsInHanded {} Tryz.checked os 8 .any (fun w args => (Rows.fnExactMacroTextSpec.pre enc Tryz.prog Tryz.f8 [] false w args ∧ laidMetH Tryz.prog Rows.fnExactMacroTextRow.laid w) ∧ sizedMet enc Tryz.prog Tryz.f8 (OpenSpec.ofChange Rows.fnExactMacroTextSpec) false w args) (Rows.fnExactMacroTextSpec.post enc Tryz.prog Tryz.f8 false true false false) := by
  refine returns_and_shaped (C := Tryz.checked) (X := fun w _ => laidMetH Tryz.prog Rows.fnExactMacroTextRow.laid w) (fun _ _ _ hh h => h.of_heap hh) ownK started (by kernel_rfl) Tryz.func8
    (ChangeSpec.witness_shaped (enc := enc) (C := Tryz.checked) (os := os) (X := fun w _ => laidMetH Tryz.prog Rows.fnExactMacroTextRow.laid w) false (World.laidAll Tryz.prog os Rows.fnExactMacroTextRow.laid) #[.slice none 0 0] 8 (World.laidAll_os _ _ _)
      (World.shaped_of_ZipB (by kernel_rfl) (by kernel_rfl)) (by kernel_rfl) (by kernel_rfl) (by kernel_rfl)
      (by rw [MakeChecks.laidMetH_plain _ _ _ (by kernel_rfl)]; exact laidMet_laidAll _ (by kernel_rfl) (by kernel_rfl))) ?_
  intro W base args ds gs before hval0 hW hL hsh
  have hval : ∀ (j : Nat) t v, Tryz.f8.params[j]? = some t → args[j]? = some v → Value.okWide Tryz.prog W .any base t v := hval0
  have hW' := hW
  obtain ⟨p, q, hA0, hV, rfl, hfz, hnd⟩ := hW
  have hA : DataW.TrodAll enc Tryz.prog W 0 (fun _ => true) true Tryz.f8.params.toList args.toList ds p := hA0
  rw [Tryz.params8] at hA hval
  obtain ⟨v0, vs0, d0, ds0, p0, q0, hargs, rfl, rfl, h0, r0⟩ := trodAll_cons hA
  obtain ⟨rfl, rfl, rfl⟩ := trodAll_nil r0
  obtain rfl : args = #[v0] := by cases args; simp_all
  have hV0 := hV
  obtain ⟨g1, g2, g3, rfl⟩ := trodVars3 hV
  have k0 := h0
  have lt0 : ∀ x ∈ p0, x.block < W.heap.size := by obtain ⟨m, hm⟩ := k0; exact DataW.trod_lt m _ _ _ hm
  obtain ⟨A0, len0, cap0, K0, C0, R0, T0, M0, rfl, wz0⟩ := open_mss (hval 0 53 v0 rfl rfl) h0
  clear hA0 hval0
  refine (law_FnExactMacroText A0 len0 cap0 K0 C0 R0 T0 M0 W wz0 (RowMacroText.gt hL hsh).1 (RowMacroText.gt hL hsh).2).mono fun e W' ⟨he, bel⟩ => ?_
  subst he
  exact ⟨_, rfl, _, _, _, [], _, _, hW', trodAll_mk1 (shut_bool Tryz.underlying4 _), (trodAll_cons_mk (Below.trod laidOut (by kernel_rfl) (of_decide_eq_true (by kernel_rfl)) k0 bel lt0) trodAll_mk0), Below.trodVars laidOut bel (by kernel_rfl) hV0, bel.frame _, fun h => by cases h⟩

theorem RowMacroText.over : Rows.fnExactMacroTextRow.holds Tryz.pinned (OpenSpec.ofChange Rows.fnExactMacroTextSpec) :=
  OpenClaim.holds_of_wide 8 Tryz.f8 rfl rfl rfl rfl rfl rfl rfl ⟨rfl, rfl, rfl, rfl, rfl⟩ rfl rfl rfl rfl rfl (by kernel_rfl) Tryz.func8 (by kernel_rfl)
    (of_decide_eq_true (by kernel_rfl)) (by unfold Func.isWrapper; first | (rw [if_pos (by decide +kernel)]; kernel_rfl) | (rw [if_neg (by decide +kernel)]; exact ⟨rfl, rfl⟩))
    (fun os started H enc _ => RowMacroText.lifted os started H enc)

theorem proved_FnExactMacroText : Rows.FnExactMacroTextCardSaid :=
  Claim7.holds_tied_plain_at .later [] [.data, .data, .data, .data, .sentinel, .sentinel, .data, .wider, .data, .pinned] true Rows.fnExactMacroTextCard.stood.harness true
    RowMacroText.over (fun _ h => by cases h) (by kernel_rfl) (fun _ h => by cases h) fnExactMacroText_row_tie rfl ⟨rfl, rfl⟩ (by kernel_rfl) rfl
    (fun f fn hf hfn => by
      obtain rfl : f = 8 := Option.some.inj ((show Tryz.prog.funcNamed Rows.fnExactMacroTextRow.func = some 8 by kernel_rfl).symm.trans hf) |>.symm
      obtain rfl : fn = Tryz.f8 := (Option.some.inj (Tryz.func8.symm.trans hfn)).symm
      exact ⟨by kernel_rfl, fun j t ht => by
        rw [Tryz.params8] at ht
        have hm : t ∈ [53] := by simpa using Array.mem_of_getElem? ht
        have hall : ([53].all fun u => !Tryz.prog.wantsStandIn u) = true := by kernel_rfl
        exact (show Tryz.prog.wantsStandIn t = false by simpa using List.all_eq_true.1 hall t hm)⟩)
    (by kernel_rfl)
#print axioms proved_FnExactMacroText
end Go.Proofs.YtbkklapkpiogoaaGreatDoor
