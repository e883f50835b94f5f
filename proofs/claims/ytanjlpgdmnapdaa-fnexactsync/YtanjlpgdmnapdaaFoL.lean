import Derived.Test.YtanjlpgdmnapdaaFoK
namespace Go.Proofs.Ytanjlpgdmnapdaa
open Go.RowKit Go.Maps
set_option linter.unusedSimpArgs false
set_option linter.unusedVariables false

def formB (x : DP) : Bool := if x.k = 1 then nameB x.n && noB x.t else if x.k = 2 then nameB x.n && (nameB x.t && noB x.d) else if x.k = 3 then nameB x.n && (noB x.t && noB x.d) else false
def findB (x : DP) (L : List FI) : Bool := if x.k = 1 then true else hasB x.n L
def doL (x : DP) (L : List FI) : List FI := if x.k = 1 then addK x.n x.d L else if x.k = 2 then putK fiK ⟨x.t, dataK x.n.data.toList L⟩ (cutK fiK x.n.data.toList L) else cutK fiK x.n.data.toList L
def doC (x : DP) (L : List FI) : Int := if formB x = false then 2 else if findB x L = false then 3 else if fitB (doL x L) = false then 4 else 0
def doG (x : DP) (L : List FI) : List FI := if formB x = true ∧ findB x L = true then doL x L else L
theorem totL_put (x : FI) (L : List FI) : totL (putK fiK x L) ≤ totL L + x.d.size := by
  have h := totL_cut (fiK x) L
  unfold putK
  rw [totL_ins]
  omega
theorem totL_do (x : DP) (L : List FI) : totL (doL x L) ≤ totL L + x.d.size := by
  unfold doL
  split
  · exact totL_add _ _ _
  · split
    · have h1 := totL_cut_get x.n.data.toList L
      have h2 := totL_put ⟨x.t, dataK x.n.data.toList L⟩ (cutK fiK x.n.data.toList L)
      have h3 : (FI.mk x.t (dataK x.n.data.toList L)).d.size = (dataK x.n.data.toList L).size := rfl
      omega
    · have := totL_cut x.n.data.toList L
      omega
theorem FoldL.more {w : World} {B b m : Nat} {L : List FI} (h : FoldL w B b m L) : FoldL w B b (m + 1) L := by
  obtain ⟨E, h1, h2, h3⟩ := h
  exact ⟨E, ⟨h1.own.mono (Nat.le_succ _), h1.up, h1.base, h1.rows, h1.apart, h1.names⟩, h2, fun x hx => Nat.le_succ_of_le (h3 x hx)⟩
theorem below_up {B : Nat} {w w' : World} (hB : B ≤ w.heap.size) (h : Below w.heap.size w w') : Below B w w' := h.mono hB

set_option maxRecDepth 100000 in
set_option maxHeartbeats 4000000 in
theorem impl_do_1 {B b m : Nat} {L : List FI} (n t d : ByteArray) (w : World) (h : FoldL w B b m L) (hB : B ≤ w.heap.size) (hn : n.size ≤ maxLen) (ht : t.size ≤ maxLen) (hd : d.size ≤ 1048576) (hm : m < 1073741823) (hT : totL L ≤ 1099510000000) :
    Calls Try.prog 43 #[.map (some b), .agg #[.int .i64 1, .string n, .string t, .string d]] w fun e w' => e = .returned (.int .i64 (doC ⟨1, n, t, d⟩ L)) ∧ FoldL w' B b (m + 1) (doG ⟨1, n, t, d⟩ L) ∧ Below B w w' := by
  have HF : Hid (FoldL w B b m L) := h
  have HN : Hid (n.size ≤ maxLen) := hn
  have HTT : Hid (t.size ≤ maxLen) := ht
  have HT : Hid (totL L ≤ 1099510000000) := hT
  obtain ⟨fm, HFM⟩ : ∃ fm, Hid ((nameB n && noB t) = fm) := ⟨_, rfl⟩
  have HE1 : Hid (formB ⟨1, n, t, d⟩ = fm) := HFM.out
  clear h hn ht hT
  cases fm
  · have HC : Hid (doC ⟨1, n, t, d⟩ L = 2) := by show _ = _; rw [doC, if_pos HE1.out]
    have HG : Hid (doG ⟨1, n, t, d⟩ L = L) := by show _ = _; rw [doG, if_neg (by rw [HE1.out]; simp)]
    rw [HC.out, HG.out]
    go_enter Try.func43, Try.ntmps43
    go_wp2_with (first
      | (go_at_call 51; refine (fileOpOf_1 n t d _ HN.out HTT.out).mono ?_; rintro e w1 ⟨rfl, hb⟩; rw [HFM.out]; have HB1 : Hid (Below w.heap.size w w1) := (Below.trans (by go_grown) (hb.mono (by simp))); clear hb))
    go_ret
    exact ⟨rfl, (HF.out.below HB1.out).more, below_up hB HB1.out⟩
  · have HE2 : Hid (findB ⟨1, n, t, d⟩ L = true) := rfl
    have HD : Hid (doG ⟨1, n, t, d⟩ L = addK n d L) := by show _ = _; rw [doG, if_pos ⟨HE1.out, HE2.out⟩]; rfl
    have HTD : Hid (totL (addK n d L) ≤ 1099511627776) := by
      have h1 := totL_do ⟨1, n, t, d⟩ L
      have h2 : doL ⟨1, n, t, d⟩ L = addK n d L := rfl
      have h3 : (DP.mk 1 n t d).d.size = d.size := rfl
      have h4 := HT.out
      rw [h2] at h1
      show _ ≤ _
      omega
    obtain ⟨ft, HFT⟩ : ∃ ft, Hid (fitB (addK n d L) = ft) := ⟨_, rfl⟩
    have HC : Hid (doC ⟨1, n, t, d⟩ L = if ft = false then 4 else 0) := by
      show _ = _
      rw [doC, if_neg (by rw [HE1.out]; simp), if_neg (by rw [HE2.out]; simp)]
      have h2 : doL ⟨1, n, t, d⟩ L = addK n d L := rfl
      rw [h2, HFT.out]
    rw [HC.out, HD.out]
    cases ft
    · go_enter Try.func43, Try.ntmps43
      go_wp2_with (first
        | (go_at_call 51; refine (fileOpOf_1 n t d _ HN.out HTT.out).mono ?_; rintro e w1 ⟨rfl, hb⟩; rw [HFM.out]; have HB1 : Hid (Below w.heap.size w w1) := (Below.trans (by go_grown) (hb.mono (by simp))); clear hb)
        | (go_at_call 144; refine (appending_finds n d _).mono ?_; rintro e w2 ⟨rfl, hb⟩; have HB2 : Hid (Below w.heap.size w w2) := bchain HB1.out hb; clear hb)
        | (go_at_call 143; refine (appending_doOn n d _ (HF.out.below HB2.out) (Nat.le_trans hB HB2.out.size) HN.out (by omega) (by omega) (Nat.le_trans HT.out (by omega))).mono ?_; rintro e w3 ⟨rfl, hF3, hb⟩; have HF3 : Hid (FoldL w3 B b (m + 1) (addK n d L)) := hF3; have HB3 : Hid (Below B w w3) := (Below.trans (below_up hB HB2.out) hb); clear hb hF3)
        | (go_at_call 52; refine (impl_fits _ HF3.out HTD.out (by omega)).mono ?_; rintro e w4 ⟨rfl, hb⟩; rw [HFT.out]; have HF4 : Hid (FoldL w4 B b (m + 1) (addK n d L)) := HF3.out.below hb; have HB4 : Hid (Below B w w4) := HB3.out.trans (hb.mono (Nat.le_trans hB HB3.out.size)); clear hb))
      go_ret
      exact ⟨rfl, HF4.out, HB4.out⟩
    · go_enter Try.func43, Try.ntmps43
      go_wp2_with (first
        | (go_at_call 51; refine (fileOpOf_1 n t d _ HN.out HTT.out).mono ?_; rintro e w1 ⟨rfl, hb⟩; rw [HFM.out]; have HB1 : Hid (Below w.heap.size w w1) := (Below.trans (by go_grown) (hb.mono (by simp))); clear hb)
        | (go_at_call 144; refine (appending_finds n d _).mono ?_; rintro e w2 ⟨rfl, hb⟩; have HB2 : Hid (Below w.heap.size w w2) := bchain HB1.out hb; clear hb)
        | (go_at_call 143; refine (appending_doOn n d _ (HF.out.below HB2.out) (Nat.le_trans hB HB2.out.size) HN.out (by omega) (by omega) (Nat.le_trans HT.out (by omega))).mono ?_; rintro e w3 ⟨rfl, hF3, hb⟩; have HF3 : Hid (FoldL w3 B b (m + 1) (addK n d L)) := hF3; have HB3 : Hid (Below B w w3) := (Below.trans (below_up hB HB2.out) hb); clear hb hF3)
        | (go_at_call 52; refine (impl_fits _ HF3.out HTD.out (by omega)).mono ?_; rintro e w4 ⟨rfl, hb⟩; rw [HFT.out]; have HF4 : Hid (FoldL w4 B b (m + 1) (addK n d L)) := HF3.out.below hb; have HB4 : Hid (Below B w w4) := HB3.out.trans (hb.mono (Nat.le_trans hB HB3.out.size)); clear hb))
      go_ret
      exact ⟨rfl, HF4.out, HB4.out⟩

set_option maxRecDepth 100000 in
set_option maxHeartbeats 4000000 in
theorem impl_do_2 {B b m : Nat} {L : List FI} (n t d : ByteArray) (w : World) (h : FoldL w B b m L) (hB : B ≤ w.heap.size) (hn : n.size ≤ maxLen) (ht : t.size ≤ maxLen) (hd : d.size ≤ 1048576) (hm : m < 1073741823) (hT : totL L ≤ 1099510000000) :
    Calls Try.prog 43 #[.map (some b), .agg #[.int .i64 2, .string n, .string t, .string d]] w fun e w' => e = .returned (.int .i64 (doC ⟨2, n, t, d⟩ L)) ∧ FoldL w' B b (m + 1) (doG ⟨2, n, t, d⟩ L) ∧ Below B w w' := by
  have HF : Hid (FoldL w B b m L) := h
  have HN : Hid (n.size ≤ maxLen) := hn
  have HTT : Hid (t.size ≤ maxLen) := ht
  have HT : Hid (totL L ≤ 1099510000000) := hT
  obtain ⟨fm, HFM⟩ : ∃ fm, Hid ((nameB n && (nameB t && noB d)) = fm) := ⟨_, rfl⟩
  have HE1 : Hid (formB ⟨2, n, t, d⟩ = fm) := HFM.out
  clear h hn ht hT
  cases fm
  · have HC : Hid (doC ⟨2, n, t, d⟩ L = 2) := by show _ = _; rw [doC, if_pos HE1.out]
    have HG : Hid (doG ⟨2, n, t, d⟩ L = L) := by show _ = _; rw [doG, if_neg (by rw [HE1.out]; simp)]
    rw [HC.out, HG.out]
    go_enter Try.func43, Try.ntmps43
    go_wp2_with (first
      | (go_at_call 51; refine (fileOpOf_2 n t d _ HN.out HTT.out).mono ?_; rintro e w1 ⟨rfl, hb⟩; rw [HFM.out]; have HB1 : Hid (Below w.heap.size w w1) := (Below.trans (by go_grown) (hb.mono (by simp))); clear hb))
    go_ret
    exact ⟨rfl, (HF.out.below HB1.out).more, below_up hB HB1.out⟩
  · obtain ⟨fi, HFI⟩ : ∃ fi, Hid (hasB n L = fi) := ⟨_, rfl⟩
    have HE2 : Hid (findB ⟨2, n, t, d⟩ L = fi) := HFI.out
    cases fi
    · have HC : Hid (doC ⟨2, n, t, d⟩ L = 3) := by show _ = _; rw [doC, if_neg (by rw [HE1.out]; simp), if_pos HE2.out]
      have HG : Hid (doG ⟨2, n, t, d⟩ L = L) := by show _ = _; rw [doG, if_neg (by rw [HE2.out]; simp)]
      rw [HC.out, HG.out]
      go_enter Try.func43, Try.ntmps43
      go_wp2_with (first
        | (go_at_call 51; refine (fileOpOf_2 n t d _ HN.out HTT.out).mono ?_; rintro e w1 ⟨rfl, hb⟩; rw [HFM.out]; have HB1 : Hid (Below w.heap.size w w1) := (Below.trans (by go_grown) (hb.mono (by simp))); clear hb)
        | (go_at_call 147; refine (renaming_finds n t _ (HF.out.below HB1.out) HN.out).mono ?_; rintro e w2 ⟨rfl, hb⟩; rw [HFI.out]; have HB2 : Hid (Below w.heap.size w w2) := bchain HB1.out hb; clear hb))
      go_ret
      exact ⟨rfl, (HF.out.below HB2.out).more, below_up hB HB2.out⟩
    · have HD : Hid (doG ⟨2, n, t, d⟩ L = putK fiK ⟨t, dataK n.data.toList L⟩ (cutK fiK n.data.toList L)) := by show _ = _; rw [doG, if_pos ⟨HE1.out, HE2.out⟩]; rfl
      have HTD : Hid (totL (putK fiK ⟨t, dataK n.data.toList L⟩ (cutK fiK n.data.toList L)) ≤ 1099511627776) := by
        have h1 := totL_do ⟨2, n, t, d⟩ L
        have h2 : doL ⟨2, n, t, d⟩ L = putK fiK ⟨t, dataK n.data.toList L⟩ (cutK fiK n.data.toList L) := rfl
        have h3 : (DP.mk 2 n t d).d.size = d.size := rfl
        have h4 := HT.out
        rw [h2] at h1
        show _ ≤ _
        omega
      obtain ⟨ft, HFT⟩ : ∃ ft, Hid (fitB (putK fiK ⟨t, dataK n.data.toList L⟩ (cutK fiK n.data.toList L)) = ft) := ⟨_, rfl⟩
      have HC : Hid (doC ⟨2, n, t, d⟩ L = if ft = false then 4 else 0) := by
        show _ = _
        rw [doC, if_neg (by rw [HE1.out]; simp), if_neg (by rw [HE2.out]; simp)]
        have h2 : doL ⟨2, n, t, d⟩ L = putK fiK ⟨t, dataK n.data.toList L⟩ (cutK fiK n.data.toList L) := rfl
        rw [h2, HFT.out]
      rw [HC.out, HD.out]
      cases ft
      · go_enter Try.func43, Try.ntmps43
        go_wp2_with (first
          | (go_at_call 51; refine (fileOpOf_2 n t d _ HN.out HTT.out).mono ?_; rintro e w1 ⟨rfl, hb⟩; rw [HFM.out]; have HB1 : Hid (Below w.heap.size w w1) := (Below.trans (by go_grown) (hb.mono (by simp))); clear hb)
          | (go_at_call 147; refine (renaming_finds n t _ (HF.out.below HB1.out) HN.out).mono ?_; rintro e w2 ⟨rfl, hb⟩; rw [HFI.out]; have HB2 : Hid (Below w.heap.size w w2) := bchain HB1.out hb; clear hb)
          | (go_at_call 146; refine (renaming_doOn n t _ (HF.out.below HB2.out) (Nat.le_trans hB HB2.out.size) HN.out HTT.out (by omega) HFI.out).mono ?_; rintro e w3 ⟨rfl, hF3, hb⟩; have HF3 : Hid (FoldL w3 B b (m + 1) (putK fiK ⟨t, dataK n.data.toList L⟩ (cutK fiK n.data.toList L))) := hF3; have HB3 : Hid (Below B w w3) := (Below.trans (below_up hB HB2.out) hb); clear hb hF3)
          | (go_at_call 52; refine (impl_fits _ HF3.out HTD.out (by omega)).mono ?_; rintro e w4 ⟨rfl, hb⟩; rw [HFT.out]; have HF4 : Hid (FoldL w4 B b (m + 1) (putK fiK ⟨t, dataK n.data.toList L⟩ (cutK fiK n.data.toList L))) := HF3.out.below hb; have HB4 : Hid (Below B w w4) := HB3.out.trans (hb.mono (Nat.le_trans hB HB3.out.size)); clear hb))
        go_ret
        exact ⟨rfl, HF4.out, HB4.out⟩
      · go_enter Try.func43, Try.ntmps43
        go_wp2_with (first
          | (go_at_call 51; refine (fileOpOf_2 n t d _ HN.out HTT.out).mono ?_; rintro e w1 ⟨rfl, hb⟩; rw [HFM.out]; have HB1 : Hid (Below w.heap.size w w1) := (Below.trans (by go_grown) (hb.mono (by simp))); clear hb)
          | (go_at_call 147; refine (renaming_finds n t _ (HF.out.below HB1.out) HN.out).mono ?_; rintro e w2 ⟨rfl, hb⟩; rw [HFI.out]; have HB2 : Hid (Below w.heap.size w w2) := bchain HB1.out hb; clear hb)
          | (go_at_call 146; refine (renaming_doOn n t _ (HF.out.below HB2.out) (Nat.le_trans hB HB2.out.size) HN.out HTT.out (by omega) HFI.out).mono ?_; rintro e w3 ⟨rfl, hF3, hb⟩; have HF3 : Hid (FoldL w3 B b (m + 1) (putK fiK ⟨t, dataK n.data.toList L⟩ (cutK fiK n.data.toList L))) := hF3; have HB3 : Hid (Below B w w3) := (Below.trans (below_up hB HB2.out) hb); clear hb hF3)
          | (go_at_call 52; refine (impl_fits _ HF3.out HTD.out (by omega)).mono ?_; rintro e w4 ⟨rfl, hb⟩; rw [HFT.out]; have HF4 : Hid (FoldL w4 B b (m + 1) (putK fiK ⟨t, dataK n.data.toList L⟩ (cutK fiK n.data.toList L))) := HF3.out.below hb; have HB4 : Hid (Below B w w4) := HB3.out.trans (hb.mono (Nat.le_trans hB HB3.out.size)); clear hb))
        go_ret
        exact ⟨rfl, HF4.out, HB4.out⟩

set_option maxRecDepth 100000 in
set_option maxHeartbeats 4000000 in
theorem impl_do_3 {B b m : Nat} {L : List FI} (n t d : ByteArray) (w : World) (h : FoldL w B b m L) (hB : B ≤ w.heap.size) (hn : n.size ≤ maxLen) (ht : t.size ≤ maxLen) (hd : d.size ≤ 1048576) (hm : m < 1073741823) (hT : totL L ≤ 1099510000000) :
    Calls Try.prog 43 #[.map (some b), .agg #[.int .i64 3, .string n, .string t, .string d]] w fun e w' => e = .returned (.int .i64 (doC ⟨3, n, t, d⟩ L)) ∧ FoldL w' B b (m + 1) (doG ⟨3, n, t, d⟩ L) ∧ Below B w w' := by
  have HF : Hid (FoldL w B b m L) := h
  have HN : Hid (n.size ≤ maxLen) := hn
  have HTT : Hid (t.size ≤ maxLen) := ht
  have HT : Hid (totL L ≤ 1099510000000) := hT
  obtain ⟨fm, HFM⟩ : ∃ fm, Hid ((nameB n && (noB t && noB d)) = fm) := ⟨_, rfl⟩
  have HE1 : Hid (formB ⟨3, n, t, d⟩ = fm) := HFM.out
  clear h hn ht hT
  cases fm
  · have HC : Hid (doC ⟨3, n, t, d⟩ L = 2) := by show _ = _; rw [doC, if_pos HE1.out]
    have HG : Hid (doG ⟨3, n, t, d⟩ L = L) := by show _ = _; rw [doG, if_neg (by rw [HE1.out]; simp)]
    rw [HC.out, HG.out]
    go_enter Try.func43, Try.ntmps43
    go_wp2_with (first
      | (go_at_call 51; refine (fileOpOf_3 n t d _ HN.out HTT.out).mono ?_; rintro e w1 ⟨rfl, hb⟩; rw [HFM.out]; have HB1 : Hid (Below w.heap.size w w1) := (Below.trans (by go_grown) (hb.mono (by simp))); clear hb))
    go_ret
    exact ⟨rfl, (HF.out.below HB1.out).more, below_up hB HB1.out⟩
  · obtain ⟨fi, HFI⟩ : ∃ fi, Hid (hasB n L = fi) := ⟨_, rfl⟩
    have HE2 : Hid (findB ⟨3, n, t, d⟩ L = fi) := HFI.out
    cases fi
    · have HC : Hid (doC ⟨3, n, t, d⟩ L = 3) := by show _ = _; rw [doC, if_neg (by rw [HE1.out]; simp), if_pos HE2.out]
      have HG : Hid (doG ⟨3, n, t, d⟩ L = L) := by show _ = _; rw [doG, if_neg (by rw [HE2.out]; simp)]
      rw [HC.out, HG.out]
      go_enter Try.func43, Try.ntmps43
      go_wp2_with (first
        | (go_at_call 51; refine (fileOpOf_3 n t d _ HN.out HTT.out).mono ?_; rintro e w1 ⟨rfl, hb⟩; rw [HFM.out]; have HB1 : Hid (Below w.heap.size w w1) := (Below.trans (by go_grown) (hb.mono (by simp))); clear hb)
        | (go_at_call 151; refine (removing_finds n _ (HF.out.below HB1.out) HN.out).mono ?_; rintro e w2 ⟨rfl, hb⟩; rw [HFI.out]; have HB2 : Hid (Below w.heap.size w w2) := bchain HB1.out hb; clear hb))
      go_ret
      exact ⟨rfl, (HF.out.below HB2.out).more, below_up hB HB2.out⟩
    · have HD : Hid (doG ⟨3, n, t, d⟩ L = cutK fiK n.data.toList L) := by show _ = _; rw [doG, if_pos ⟨HE1.out, HE2.out⟩]; rfl
      have HTD : Hid (totL (cutK fiK n.data.toList L) ≤ 1099511627776) := by
        have h1 := totL_do ⟨3, n, t, d⟩ L
        have h2 : doL ⟨3, n, t, d⟩ L = cutK fiK n.data.toList L := rfl
        have h3 : (DP.mk 3 n t d).d.size = d.size := rfl
        have h4 := HT.out
        rw [h2] at h1
        show _ ≤ _
        omega
      obtain ⟨ft, HFT⟩ : ∃ ft, Hid (fitB (cutK fiK n.data.toList L) = ft) := ⟨_, rfl⟩
      have HC : Hid (doC ⟨3, n, t, d⟩ L = if ft = false then 4 else 0) := by
        show _ = _
        rw [doC, if_neg (by rw [HE1.out]; simp), if_neg (by rw [HE2.out]; simp)]
        have h2 : doL ⟨3, n, t, d⟩ L = cutK fiK n.data.toList L := rfl
        rw [h2, HFT.out]
      rw [HC.out, HD.out]
      cases ft
      · go_enter Try.func43, Try.ntmps43
        go_wp2_with (first
          | (go_at_call 51; refine (fileOpOf_3 n t d _ HN.out HTT.out).mono ?_; rintro e w1 ⟨rfl, hb⟩; rw [HFM.out]; have HB1 : Hid (Below w.heap.size w w1) := (Below.trans (by go_grown) (hb.mono (by simp))); clear hb)
          | (go_at_call 151; refine (removing_finds n _ (HF.out.below HB1.out) HN.out).mono ?_; rintro e w2 ⟨rfl, hb⟩; rw [HFI.out]; have HB2 : Hid (Below w.heap.size w w2) := bchain HB1.out hb; clear hb)
          | (go_at_call 150; refine (removing_doOn n _ (HF.out.below HB2.out) (Nat.le_trans hB HB2.out.size) HN.out).mono ?_; rintro e w3 ⟨rfl, hF3, hb⟩; have HF3 : Hid (FoldL w3 B b (m + 1) (cutK fiK n.data.toList L)) := hF3; have HB3 : Hid (Below B w w3) := (Below.trans (below_up hB HB2.out) hb); clear hb hF3)
          | (go_at_call 52; refine (impl_fits _ HF3.out HTD.out (by omega)).mono ?_; rintro e w4 ⟨rfl, hb⟩; rw [HFT.out]; have HF4 : Hid (FoldL w4 B b (m + 1) (cutK fiK n.data.toList L)) := HF3.out.below hb; have HB4 : Hid (Below B w w4) := HB3.out.trans (hb.mono (Nat.le_trans hB HB3.out.size)); clear hb))
        go_ret
        exact ⟨rfl, HF4.out, HB4.out⟩
      · go_enter Try.func43, Try.ntmps43
        go_wp2_with (first
          | (go_at_call 51; refine (fileOpOf_3 n t d _ HN.out HTT.out).mono ?_; rintro e w1 ⟨rfl, hb⟩; rw [HFM.out]; have HB1 : Hid (Below w.heap.size w w1) := (Below.trans (by go_grown) (hb.mono (by simp))); clear hb)
          | (go_at_call 151; refine (removing_finds n _ (HF.out.below HB1.out) HN.out).mono ?_; rintro e w2 ⟨rfl, hb⟩; rw [HFI.out]; have HB2 : Hid (Below w.heap.size w w2) := bchain HB1.out hb; clear hb)
          | (go_at_call 150; refine (removing_doOn n _ (HF.out.below HB2.out) (Nat.le_trans hB HB2.out.size) HN.out).mono ?_; rintro e w3 ⟨rfl, hF3, hb⟩; have HF3 : Hid (FoldL w3 B b (m + 1) (cutK fiK n.data.toList L)) := hF3; have HB3 : Hid (Below B w w3) := (Below.trans (below_up hB HB2.out) hb); clear hb hF3)
          | (go_at_call 52; refine (impl_fits _ HF3.out HTD.out (by omega)).mono ?_; rintro e w4 ⟨rfl, hb⟩; rw [HFT.out]; have HF4 : Hid (FoldL w4 B b (m + 1) (cutK fiK n.data.toList L)) := HF3.out.below hb; have HB4 : Hid (Below B w w4) := HB3.out.trans (hb.mono (Nat.le_trans hB HB3.out.size)); clear hb))
        go_ret
        exact ⟨rfl, HF4.out, HB4.out⟩

set_option maxRecDepth 100000 in
set_option maxHeartbeats 4000000 in
theorem impl_do {B b m : Nat} {L : List FI} (x : DP) (w : World) (h : FoldL w B b m L) (hB : B ≤ w.heap.size) (hx : dpLil x) (hm : m < 1073741823) (hT : totL L ≤ 1099510000000) :
    Calls Try.prog 43 #[.map (some b), .agg #[.int .i64 x.k, .string x.n, .string x.t, .string x.d]] w fun e w' => e = .returned (.int .i64 (doC x L)) ∧ FoldL w' B b (m + 1) (doG x L) ∧ Below B w w' := by
  obtain ⟨k, n, t, d⟩ := x
  have hok := dpOk_of hx
  by_cases h1 : k = 1
  · subst h1; exact impl_do_1 n t d w h hB hok.1 hok.2.1 hx.2.2 hm hT
  by_cases h2 : k = 2
  · subst h2; exact impl_do_2 n t d w h hB hok.1 hok.2.1 hx.2.2 hm hT
  by_cases h3 : k = 3
  · subst h3; exact impl_do_3 n t d w h hB hok.1 hok.2.1 hx.2.2 hm hT
  have HE : Hid (formB ⟨k, n, t, d⟩ = false) := by
    show _ = _
    simp only [formB, h1, h2, h3, if_false]
  have HC : Hid (doC ⟨k, n, t, d⟩ L = 2) := by show _ = _; rw [doC, if_pos HE.out]
  have HG : Hid (doG ⟨k, n, t, d⟩ L = L) := by show _ = _; rw [doG, if_neg (by rw [HE.out]; simp)]
  have HF : Hid (FoldL w B b m L) := h
  have HN : Hid (n.size ≤ maxLen) := hok.1
  have H123 : Hid (¬ k = 1 ∧ ¬ k = 2 ∧ ¬ k = 3) := ⟨h1, h2, h3⟩
  rw [HC.out, HG.out]
  clear h hx hok hT h1 h2 h3
  show Calls Try.prog 43 #[.map (some b), .agg #[.int .i64 k, .string n, .string t, .string d]] w _
  go_enter Try.func43, Try.ntmps43
  go_wp2_with (first
    | (go_at_call 51; refine (fileOpOf_0 k n t d _ HN.out H123.out.1 H123.out.2.1 H123.out.2.2).mono ?_; rintro e w1 ⟨rfl, hb⟩; have HB1 : Hid (Below w.heap.size w w1) := (Below.trans (by go_grown) (hb.mono (by simp))); clear hb))
  go_ret
  exact ⟨rfl, (HF.out.below HB1.out).more, below_up hB HB1.out⟩
end Go.Proofs.Ytanjlpgdmnapdaa
