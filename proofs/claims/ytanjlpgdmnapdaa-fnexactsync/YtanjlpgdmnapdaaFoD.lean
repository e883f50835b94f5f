import Derived.Test.YtanjlpgdmnapdaaFoC
namespace Go.Proofs.Ytanjlpgdmnapdaa
open Go.RowKit Go.Maps
set_option linter.unusedSimpArgs false
set_option linter.unusedVariables false

def joinL (ps : List ByteArray) : ByteArray := ⟨((ps.map (·.data.toList)).flatten).toArray⟩
theorem joinL_size (ps : List ByteArray) : (joinL ps).size = sumZ ps := by
  show ((ps.map (·.data.toList)).flatten).toArray.size = _
  rw [List.size_toArray, List.length_flatten, List.map_map]
  rfl
theorem joinL_one (d : ByteArray) : joinL [d] = d := by
  unfold joinL
  simp
theorem joinL_snoc (ps : List ByteArray) (d : ByteArray) : joinL (ps ++ [d]) = joinL ps ++ d := by
  apply ByteArray.ext
  unfold joinL
  simp
/-- A file of a folder. -/
def feI (x : FE) : FI := ⟨x.n, joinL x.ps⟩
theorem feI_key (x : FE) : fiK (feI x) = feK x := rfl
def dataK (u : List UInt8) (L : List FI) : ByteArray := match getK fiK u L with | some x => x.d | none => ⟨#[]⟩
theorem foP_data (E : List FE) (u : List UInt8) : joinL (foP E u) = dataK u (E.map feI) := by
  rw [foP, dataK, map_getK feI_key]
  cases getK feK u E <;> rfl
def addK (s d : ByteArray) (L : List FI) : List FI := putK fiK ⟨s, dataK s.data.toList L ++ d⟩ L
theorem add_fold (E : List FE) (s d : ByteArray) (v : Value) : (putK feK ⟨s, foP E s.data.toList ++ [d], v⟩ E).map feI = addK s d (E.map feI) := by
  rw [map_putK feI_key, addK, ← foP_data]
  show putK fiK ⟨s, joinL (foP E s.data.toList ++ [d])⟩ _ = _
  rw [joinL_snoc]
/-- The bytes of all. -/
def totL (L : List FI) : Nat := (L.map (·.d.size)).sum
theorem totL_ins (x : FI) : ∀ L : List FI, totL (insK fiK x L) = x.d.size + totL L
  | [] => rfl
  | y :: r => by
    have h := totL_ins x r
    unfold insK
    split
    · simp [totL]
    · simp only [totL, List.map_cons, List.sum_cons] at h ⊢
      rw [h]; omega
theorem totL_cut (u : List UInt8) : ∀ L : List FI, totL (cutK fiK u L) ≤ totL L
  | [] => Nat.le_refl _
  | y :: r => by
    have h := totL_cut u r
    simp only [cutK, totL, List.filter_cons] at h ⊢
    split <;> simp <;> omega
theorem tot_mem {x : FI} : ∀ {L : List FI}, x ∈ L → x.d.size ≤ totL L
  | y :: r, h => by
    simp only [totL, List.map_cons, List.sum_cons]
    rcases List.mem_cons.1 h with rfl | h
    · omega
    · have := tot_mem h
      unfold totL at this
      omega
theorem totL_app (a b : List FI) : totL (a ++ b) = totL a + totL b := by simp [totL]
theorem dataK_le (u : List UInt8) (L : List FI) : (dataK u L).size ≤ totL L := by
  unfold dataK
  cases hg : getK fiK u L with
  | none => exact Nat.zero_le _
  | some x =>
    obtain ⟨h1, _⟩ := getK_some hg
    exact tot_mem h1
theorem totL_cut_get (u : List UInt8) : ∀ L : List FI, totL (cutK fiK u L) + (dataK u L).size ≤ totL L
  | [] => Nat.le_refl _
  | y :: r => by
    by_cases e : fiK y = u
    · have h1 : dataK u (y :: r) = y.d := by simp [dataK, getK, e]
      have h2 := totL_cut u r
      rw [h1]
      simp only [cutK, totL, List.filter_cons, e, List.map_cons, List.sum_cons] at h2 ⊢
      simp; omega
    · have h1 : dataK u (y :: r) = dataK u r := by simp [dataK, getK, e]
      have h2 := totL_cut_get u r
      rw [h1]
      simp only [cutK, totL, List.filter_cons, List.map_cons, List.sum_cons] at h2 ⊢
      simp [e]; omega
theorem totL_add (s d : ByteArray) (L : List FI) : totL (addK s d L) ≤ totL L + d.size := by
  have h := totL_cut_get s.data.toList L
  unfold addK putK
  rw [totL_ins]
  show (dataK s.data.toList L ++ d).size + totL (cutK fiK s.data.toList L) ≤ _
  rw [ByteArray.size_append]
  omega
theorem foP_len {E : List FE} {k : Nat} (h : ∀ x ∈ E, x.ps.length ≤ k) (u : List UInt8) : (foP E u).length ≤ k := by
  unfold foP
  cases hg : getK feK u E with
  | none => exact Nat.zero_le _
  | some x => exact h x (getK_some hg).1

/-- What a folder holds: files L; at most m entries were ever made, each of at most m pieces. -/
def FoldL (w : World) (B b m : Nat) (L : List FI) : Prop := ∃ E, Fold w B b m E ∧ E.map feI = L ∧ ∀ x ∈ E, x.ps.length ≤ m
theorem FoldL.up {w : World} {B b m : Nat} {L : List FI} (h : FoldL w B b m L) : Up fiK L := by
  obtain ⟨E, h1, rfl, _⟩ := h
  have := h1.up
  unfold Up at this ⊢
  rw [List.pairwise_map]
  exact this
theorem FoldL.below {w w' : World} {B b m : Nat} {L : List FI} (h : FoldL w B b m L) (hb : Below w.heap.size w w') : FoldL w' B b m L := by
  obtain ⟨E, h1, h2, h3⟩ := h
  exact ⟨E, h1.below hb, h2, h3⟩
theorem FoldL.mono {w : World} {B B' b m : Nat} {L : List FI} (h : FoldL w B b m L) (hB : B' ≤ B) : FoldL w B' b m L := by
  obtain ⟨E, h1, h2, h3⟩ := h
  exact ⟨E, h1.mono hB, h2, h3⟩
theorem impl_putL {B b m : Nat} {L : List FI} (s d : ByteArray) (w : World) (h : FoldL w B b m L) (hB : B ≤ w.heap.size) (hs : s.size ≤ maxLen) (hm : m < 1073741824) (hd : d.size ≤ 1099511627776) (ht : totL L ≤ 1099511627776) :
    Calls Try.prog 79 #[.map (some b), .string s, .string d] w fun e w' => e = .returned (.tuple #[]) ∧ FoldL w' B b (m + 1) (addK s d L) ∧ Below B w w' := by
  obtain ⟨E, h1, rfl, h3⟩ := h
  have hz : sumZ (foP E s.data.toList) ≤ 1099511627776 := by
    have := dataK_le s.data.toList (E.map feI)
    rw [← foP_data, joinL_size] at this
    omega
  have hl := foP_len h3 s.data.toList
  refine (impl_put s d w h1 hB hs hm hd hz (by omega)).mono ?_
  rintro e w' ⟨rfl, ⟨v, hF⟩, hb⟩
  refine ⟨rfl, ⟨_, hF, add_fold _ _ _ _, fun x hx => ?_⟩, hb⟩
  rcases mem_putK.1 hx with rfl | ⟨h4, _⟩
  · simp; omega
  · have := h3 x h4; omega
theorem take_last {L : List FI} {t : Nat} {x : FI} (hU : Up fiK L) (hx : L[t]? = some x) : addK x.n x.d (L.take t) = L.take (t + 1) := by
  have ht : t < L.length := (List.getElem?_eq_some_iff.1 hx).1
  have hall : ∀ y ∈ L.take t, bytesBefore (fiK y) (fiK x) = true := fun y hy => by
    obtain ⟨i, hi, rfl⟩ := List.getElem_of_mem hy
    have hi' : i < t := by simp at hi; omega
    have hp := List.pairwise_iff_getElem.1 hU i t (by omega) ht hi'
    rw [List.getElem_take]
    have e : L[t] = x := (List.getElem?_eq_some_iff.1 hx).2
    rw [e] at hp
    exact hp
  have hnone : getK fiK x.n.data.toList (L.take t) = none := by
    cases hg : getK fiK x.n.data.toList (L.take t) with
    | none => rfl
    | some y =>
      obtain ⟨h1, h2⟩ := getK_some hg
      exact absurd h2 (bb_ne (hall y h1))
  have hd : dataK x.n.data.toList (L.take t) ++ x.d = x.d := by
    unfold dataK
    rw [hnone]
    apply ByteArray.ext
    simp
  rw [addK, hd, putK_last hall, List.take_add_one, hx]
  rfl
theorem totL_take (L : List FI) (t : Nat) : totL (L.take t) ≤ totL L := by
  have h := totL_app (L.take t) (L.drop t)
  rw [List.take_append_drop] at h
  omega

set_option maxHeartbeats 2000000 in
theorem impl_folderOf {A : Option Addr} {n cap : Nat} {L : List FI} (w : World) (h : FiRow w A L) (hL : L.length = n) (hU : Up fiK L) (hn : n < 1073741824) (hx : ∀ x ∈ L, fiOk x) (ht : totL L ≤ 1099511627776) :
    Calls Try.prog 42 #[.slice A n cap] w fun e w' => e = .returned (.map (some w.heap.size)) ∧ FoldL w' w.heap.size w.heap.size n L ∧ Below w.heap.size w w' := by
  have HR : Hid (FiRow w A L) := h
  have HL : Hid (L.length = n) := hL
  have HU : Hid (Up fiK L) := hU
  have HX : Hid (∀ x ∈ L, fiOk x) := hx
  have HT : Hid (totL L ≤ 1099511627776) := ht
  clear h hL hU hx ht
  have hmm := @run_makeMap Try.prog
  go_enter Try.func42, Try.ntmps42
  go_wp2_with fail
  go_loopw [9] (fun i wr => ∃ t : Nat, t ≤ n ∧ i = .int .i64 t ∧ FoldL wr w.heap.size w.heap.size t (L.take t) ∧ Below w.heap.size w wr) (fun i _ => n - (intOf i).toNat)
  case atStart => exact ⟨0, Nat.zero_le _, rfl, ⟨[], ⟨World.ownsMap_made _ _ _ _, List.Pairwise.nil, Nat.le_refl _, fun x hx => (by cases hx), fun x hx => (by cases hx), fun x hx => (by cases hx)⟩, by simp, fun x hx => (by cases hx)⟩, by go_grown⟩
  case round =>
    obtain ⟨t, ht, rfl, hF, hbel⟩ := hrel
    have HF : Hid (FoldL wr w.heap.size w.heap.size t (L.take t)) := hF
    clear hF
    by_cases hlt : t < n
    · obtain ⟨x, hx⟩ := at_lt HL.out hlt
      have HXT : Hid (L[t]? = some x) := hx
      obtain ⟨b, o, rfl, hl, hc⟩ := HR.out.2 t x hx
      have c0 : w.cell? ⟨b, o + t * 2, none⟩ = some (.string x.n) := hc 0 _ rfl
      have c1 : w.cell? ⟨b, o + t * 2 + 1, none⟩ = some (.string x.d) := hc 1 _ rfl
      clear hc hx
      have hs := hbel.size
      rw [← hbel.cell (p := ⟨_, _, none⟩) hl] at c0 c1
      have hl2 : b < wr.heap.size := Nat.lt_of_lt_of_le hl hs
      have h0 : (0 : Int) ≤ (t : Int) := by omega
      have h1 : (t : Int) < (n : Int) := by omega
      have HB : Hid (Below w.heap.size w wr) := hbel
      clear hbel
      go_wp2_with fail
      refine (impl_putL x.n x.d _ (HF.out.below (by go_grown)) (by simp; omega) ?_ (by omega) ?_ ?_).mono ?_
      · exact (HX.out x (List.mem_of_getElem? HXT.out)).1
      · have h1 := HT.out
        have h2 : x.d.size ≤ totL L := tot_mem (List.mem_of_getElem? HXT.out)
        omega
      · have h1 := HT.out
        have h2 := totL_take L t
        omega
      rintro e w2 ⟨rfl, hF2, hb⟩
      rw [take_last HU.out HXT.out] at hF2
      have HF2 : Hid (FoldL w2 w.heap.size w.heap.size (t + 1) (L.take (t + 1))) := hF2
      have HB2 : Hid (Below w.heap.size w w2) := HB.out.trans (Below.trans (by go_grown) hb)
      clear hb hF2 c0 c1
      go_wp2_with fail
      go_roundw
      case rel => exact ⟨t + 1, by omega, by go_num, HF2.out, HB2.out⟩
      case measure => simp [intOf]; omega
    · have h1 : ¬ (t : Int) < (n : Int) := by omega
      obtain rfl : t = n := by omega
      go_wp2_with fail
      go_ret
      refine ⟨rfl, ?_, hbel⟩
      have := HF.out
      rwa [List.take_of_length_le (by rw [HL.out]; exact Nat.le_refl _)] at this
end Go.Proofs.Ytanjlpgdmnapdaa
