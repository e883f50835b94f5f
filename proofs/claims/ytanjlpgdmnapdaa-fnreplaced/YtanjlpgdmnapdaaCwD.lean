import Derived.Test.YtanjlpgdmnapdaaCwM
import Derived.Test.YtanjlpgdmnapdaaDjA
import Derived.Test.YtanjlpgdmnapdaaRpM
namespace Go.Proofs.Ytanjlpgdmnapdaa
open Go.RowKit Go.Maps
set_option linter.unusedSimpArgs false
set_option linter.unusedVariables false

/-! ### What is done is seen -/
theorem up_live {d : DK} (h : diskB d = true) : Up fiK d.live := filesB_up (disk_parts h).1
theorem get_add {s x : ByteArray} {L : List FI} (h : Up fiK L) : getK fiK s.data.toList (addK s x L) = some ⟨s, dataK s.data.toList L ++ x⟩ := getK_put_same (key := fiK) (x := ⟨s, dataK s.data.toList L ++ x⟩) h
theorem get_add_other {s t x : ByteArray} {L : List FI} (h : Up fiK L) (hne : t.data.toList ≠ s.data.toList) : getK fiK t.data.toList (addK s x L) = getK fiK t.data.toList L := getK_put_other (key := fiK) (x := ⟨s, dataK s.data.toList L ++ x⟩) h hne
theorem dataK_some {u : List UInt8} {L : List FI} {y : FI} (h : getK fiK u L = some y) : dataK u L = y.d := by rw [dataK, h]
theorem dataK_none {u : List UInt8} {L : List FI} (h : getK fiK u L = none) : dataK u L = ⟨#[]⟩ := by rw [dataK, h]
theorem has_some {s : ByteArray} {L : List FI} {y : FI} (h : getK fiK s.data.toList L = some y) : hasB s L = true := by rw [hasB, h]; rfl
theorem has_none {s : ByteArray} {L : List FI} (h : getK fiK s.data.toList L = none) : hasB s L = false := by rw [hasB, h]; rfl
theorem none_has {s : ByteArray} {L : List FI} (h : hasB s L = false) : getK fiK s.data.toList L = none := by
  rw [hasB] at h
  cases e : getK fiK s.data.toList L with
  | none => rfl
  | some y => rw [e] at h; cases h
theorem doL_1 {x : DP} (h : x.k = 1) (L : List FI) : doL x L = addK x.n x.d L := by rw [doL, if_pos h]
theorem doL_2 {x : DP} (h : x.k = 2) (L : List FI) : doL x L = putK fiK ⟨x.t, dataK x.n.data.toList L⟩ (cutK fiK x.n.data.toList L) := by rw [doL, if_neg (by omega), if_pos h]
theorem doL_3 {x : DP} (h : x.k = 3) (L : List FI) : doL x L = cutK fiK x.n.data.toList L := by rw [doL, if_neg (by omega), if_neg (by omega)]
theorem rdS_of {d : DK} (s : ByteArray) (h : diskB d = true) : rdS d s = dataK s.data.toList d.live := by rw [rdS, if_pos h]
theorem rdB_of {d : DK} (s : ByteArray) (h : diskB d = true) : rdB d s = hasB s d.live := by rw [rdB, h]; rfl
theorem acd_live {d : DK} {x : DP} (h : doK d x = 0) : (acD d x).live = doL x d.live := by rw [acD_yes h]
theorem done_1 {d : DK} {x : DP} (hd : diskB d = true) (h : doK d x = 0) (hk : x.k = 1) : rdB (acD d x) x.n = true ∧ rdS (acD d x) x.n = rdS d x.n ++ x.d := by
  have ha := act_disk hd h
  have hg := get_add (s := x.n) (x := x.d) (up_live hd)
  rw [rdB_of _ ha, rdS_of _ ha, rdS_of _ hd, acd_live h, doL_1 hk]
  exact ⟨has_some hg, dataK_some hg⟩
theorem done_2 {d : DK} {x : DP} (hd : diskB d = true) (h : doK d x = 0) (hk : x.k = 2) : rdB (acD d x) x.t = true ∧ rdS (acD d x) x.t = rdS d x.n ∧ rdB (acD d x) x.n = (x.t.toList == x.n.toList) := by
  have ha := act_disk hd h
  have hU := up_cutK (key := fiK) (u := x.n.data.toList) (up_live hd)
  have hg := getK_put_same (key := fiK) (x := ⟨x.t, dataK x.n.data.toList d.live⟩) hU
  rw [rdB_of _ ha, rdB_of _ ha, rdS_of _ ha, rdS_of _ hd, acd_live h, doL_2 hk]
  refine ⟨has_some hg, dataK_some hg, ?_⟩
  cases e : (x.t.toList == x.n.toList) with
  | true =>
    have e9 : x.t = x.n := str_of e
    have hg2 : getK fiK x.n.data.toList (putK fiK ⟨x.t, dataK x.n.data.toList d.live⟩ (cutK fiK x.n.data.toList d.live)) = some ⟨x.t, dataK x.n.data.toList d.live⟩ := by
      have h9 : x.n.data.toList = fiK ⟨x.t, dataK x.n.data.toList d.live⟩ := by rw [fiK, e9]
      exact (congrArg (fun u => getK fiK u _) h9).trans hg
    exact has_some hg2
  | false =>
    have hne : x.n.data.toList ≠ x.t.data.toList := fun e9 => by
      have : x.t = x.n := ByteArray.ext (Array.toList_inj.1 e9.symm)
      rw [this] at e
      simp at e
    refine has_none ?_
    rw [getK_put_other (key := fiK) (x := ⟨x.t, dataK x.n.data.toList d.live⟩) hU hne]
    exact getK_cut_same
theorem done_3 {d : DK} {x : DP} (hd : diskB d = true) (h : doK d x = 0) (hk : x.k = 3) : rdB (acD d x) x.n = false := by
  have ha := act_disk hd h
  rw [rdB_of _ ha, acd_live h, doL_3 hk]
  exact has_none getK_cut_same
theorem done_kind {d : DK} {x : DP} (h : doK d x = 0) : x.k = 1 ∨ x.k = 2 ∨ x.k = 3 := form_kind (doC_zero (doK_zero h).1).1
end Go.Proofs.Ytanjlpgdmnapdaa
