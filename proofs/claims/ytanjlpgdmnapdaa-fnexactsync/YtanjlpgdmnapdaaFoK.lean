import Derived.Test.YtanjlpgdmnapdaaFoH
namespace Go.Proofs.Ytanjlpgdmnapdaa
open Go.RowKit Go.Maps
set_option linter.unusedSimpArgs false
set_option linter.unusedVariables false

theorem Fold.move {w w2 : World} {B b m n : Nat} {E : List FE} {e : FE} (h : Fold w B b m E) (hr : w.ownsRow B 9 1 e.v e.ps.length (e.ps.map Value.string)) (hap : ∀ y ∈ E, feK y ≠ feK e → y.v.ownBlock = none ∨ y.v.ownBlock ≠ e.v.ownBlock) (hs : e.n.size ≤ maxLen)
    (ho : w2.ownsMap Try.prog 9 pcE b n (FD (putK feK e E))) (hg : w.grownBy w2 (some b)) : Fold w2 B b n (putK feK e E) := by
  refine ⟨ho, up_putK h.up, h.base, fun x hx => ?_, fun x hx y hy hne => ?_, fun x hx => ?_⟩
  · rcases mem_putK.1 hx with rfl | ⟨h1, h2⟩
    · exact hr.kept hg (Or.inr fun e2 => own_map_ne h.own hr e2.symm)
    · exact (h.rows x h1).kept hg (Or.inr fun e2 => own_map_ne h.own (h.rows x h1) e2.symm)
  · rcases mem_putK.1 hx with rfl | ⟨h1, h2⟩ <;> rcases mem_putK.1 hy with rfl | ⟨h3, h4⟩
    · exact absurd rfl hne
    · rcases hap y h3 h4 with k | k
      · rw [k]; cases x.v.ownBlock <;> simp
      · exact Or.inr k.symm
    · exact hap x h1 h2
    · exact h.apart x h1 y h3 hne
  · rcases mem_putK.1 hx with rfl | ⟨h1, h2⟩
    · exact hs
    · exact h.names x h1
theorem dataK_feI {E : List FE} {u : List UInt8} {x : FE} (h : getK feK u E = some x) : dataK u (E.map feI) = joinL x.ps := by
  rw [dataK, map_getK feI_key, h]; rfl
set_option maxRecDepth 100000 in
set_option maxHeartbeats 2000000 in
theorem renaming_doOn {B b m : Nat} {L : List FI} (n t : ByteArray) (w : World) (h : FoldL w B b m L) (hB : B ≤ w.heap.size) (hs : n.size ≤ maxLen) (ht : t.size ≤ maxLen) (hm : m < 1073741824) (hf : hasB n L = true) :
    Calls Try.prog 146 #[.agg #[.string n, .string t], .map (some b)] w fun e w' => e = .returned (.tuple #[]) ∧ FoldL w' B b (m + 1) (putK fiK ⟨t, dataK n.data.toList L⟩ (cutK fiK n.data.toList L)) ∧ Below B w w' := by
  obtain ⟨E, hF, rfl, h3⟩ := h
  have HF : Hid (Fold w B b m E) := hF
  have HS : Hid (n.size ≤ maxLen) := hs
  have HT : Hid (t.size ≤ maxLen) := ht
  have H3 : Hid (∀ x ∈ E, x.ps.length ≤ m) := h3
  obtain ⟨x, hx⟩ : ∃ x, getK feK n.data.toList E = some x := by
    rw [hasB, getK_feI] at hf
    exact Option.isSome_iff_exists.1 hf
  have HX : Hid (getK feK n.data.toList E = some x) := hx
  have HV : Hid (foV E n.data.toList = x.v) := by show _ = _; rw [foV, hx]
  have HP : Hid (foP E n.data.toList = x.ps) := by show _ = _; rw [foP, hx]
  have hrow := hF.rows x (getK_some hx).1
  have HR : Hid (w.ownsRow B 9 1 x.v x.ps.length (x.ps.map Value.string)) := hrow
  obtain ⟨A, cap, hv0, x1, x2⟩ := own_shape hrow
  have HV2 : Hid (x.v = .slice A x.ps.length cap) := hv0
  obtain ⟨pn, HPN⟩ : ∃ pn, Hid (x.ps.length = pn) := ⟨_, rfl⟩
  obtain ⟨zz, HZZ⟩ : ∃ zz : Int, Hid ((sumZ x.ps : Nat) = zz) := ⟨_, rfl⟩
  have HPE : Hid (∀ E', (FD E').put (.string t.data.toList) (.held (.agg #[.slice A pn cap, .int .i64 zz])) = FD (putK feK ⟨t, x.ps, x.v⟩ E')) := fun E' => by
    rw [← FD_put ⟨t, x.ps, x.v⟩ E']
    show _ = (FD E').put (.string t.data.toList) (.held (.agg #[x.v, .int .i64 (sumZ x.ps : Nat)]))
    rw [HV2.out, HPN.out, HZZ.out]
  rw [dataK_feI hx]
  clear hF hs ht h3 hx hrow x1 x2 hv0 hf
  go_enter Try.func146, Try.ntmps146
  go_wp2_with (first
    | (at_lookup; refine wpList_lookup_fo _ rfl _ _ rfl b m E rfl (HF.out.own.alloc _) n rfl HS.out ?_; rw [HV.out, HP.out, HZZ.out, HV2.out, HPN.out])
    | (at_delete; refine wpList_delete_own _ rfl _ _ 71 9 rfl 118 strK Try.underlying71 pcE b m (FD E) rfl ((HF.out.own.alloc _).alloc _) _ _ rfl (foKey HS.out) ?_; intro w1 hown1 hturn1; rw [FD_del] at hown1; have H1 : Hid (Fold w1 B b m (cutK feK n.data.toList E)) := (Fold.cut (HF.out.below (by go_grown)) hown1 hturn1.grown); have G1 := hturn1.grown; have hbl := HF.out.own.lt; have k0 := G1.cell (a := ⟨w.heap.size, 0, none⟩) (v := .string n) (by simp) (fun e => by cases e; exact absurd hbl (Nat.lt_irrefl _)); have k1 := G1.cell (a := ⟨w.heap.size, 1, none⟩) (v := .string t) (by simp) (fun e => by cases e; exact absurd hbl (Nat.lt_irrefl _)); have k2 := G1.cell (a := ⟨w.heap.size + 1, 0, none⟩) (v := .slice A pn cap) (by simp) (fun e => by simp at e; omega); have k3 := G1.cell (a := ⟨w.heap.size + 1, 1, none⟩) (v := .int .i64 zz) (by simp) (fun e => by simp at e; omega); have H2 : Hid (Below B w w1) := (Below.trans (by go_grown) (Below.grown (Below.refl _ _) G1 (by simp; omega) (fun q hq => by cases hq; exact HF.out.base))); have HG : Hid (w.grownBy w1 (some b)) := (grown_trans (grown_below _ (by go_grown)) G1); clear hown1 hturn1 G1)
    | (at_mapUpdate; refine wpList_mapUpdate_own _ rfl _ _ _ 71 rfl 9 118 strK Try.underlying71 pcE b m (FD (cutK feK n.data.toList E)) rfl H1.out.own (by unfold maxLen; omega) _ _ _ rfl rfl (foKey HT.out) _ [] (pcE_mk _ _) ?_; intro w2 hown2 hgrow2; rw [HPE.out] at hown2)
    | go_in)
  have FIN : Hid (FoldL w2 B b (m + 1) (putK fiK ⟨t, joinL x.ps⟩ (cutK fiK n.data.toList (E.map feI)))) := by
    have hr1 : w1.ownsRow B 9 1 x.v x.ps.length (x.ps.map Value.string) := HR.out.kept HG.out (Or.inr fun e2 => own_map_ne HF.out.own HR.out e2.symm)
    have h1 := H1.out.move (e := ⟨t, x.ps, x.v⟩) hr1 (fun y hy _ => HF.out.apart y (mem_cutK.1 hy).1 x (getK_some HX.out).1 (by rw [(getK_some HX.out).2]; exact (mem_cutK.1 hy).2)) HT.out hown2 hgrow2
    refine ⟨_, h1, ?_, fun y hy => ?_⟩
    · rw [map_putK feI_key, map_cutK feI_key]; rfl
    · rcases mem_putK.1 hy with rfl | ⟨h4, _⟩
      · have := H3.out x (getK_some HX.out).1
        show x.ps.length ≤ _
        omega
      · have := H3.out y (mem_cutK.1 h4).1; omega
  have BEL : Hid (Below B w w2) := H2.out.grown hgrow2 (Nat.le_trans hB H2.out.size) (fun q hq => by cases hq; exact HF.out.base)
  clear hown2 hgrow2
  go_returns
  exact ⟨rfl, FIN.out, BEL.out⟩
end Go.Proofs.Ytanjlpgdmnapdaa
