import Derived.Test.YthdclafkcondmaaGreatDoorPpD
set_option linter.unusedSimpArgs false
set_option linter.unusedVariables false
namespace Go.Proofs.YthdclafkcondmaaGreatDoor
open Go.RowKit
/-! ### A node's text, read again -/
theorem climbG {t l : List UInt8} {x : Int} {out o1 : List FN} {hi : Int} (h4 : hi ≤ 5) (ht : t.length ≤ 1000) (hl : l.length ≤ 1000) (h : PB RF 1 hi 0 [] t out = some (x, sb l, o1)) : ∀ (d : Nat) (lv : Int), lv = hi - (d : Int) → 1 ≤ lv → stopAt lv l → PB RF 1 lv 0 [] t out = some (x, sb l, o1) := by
  intro d
  induction d with
  | zero =>
    intro lv e _ _
    obtain rfl : lv = hi := by omega
    exact h
  | succ d ih =>
    intro lv e h1 hs
    have h9 := ih (lv + 1) (by omega) (by omega) (stop_mono hs (by omega))
    rw [climb1 (by omega) (by omega) ht h9, PB2_stop (by omega) (by omega) hl hs]
/-- What reading a node's text gives. -/
structure RdP (F : Nat → FN) (i : Nat) : Prop where
  one : (F i).k ≠ 5 → (F i).k ≠ 3 → ∀ (l : List UInt8) (out : List FN), tree (fG F) i = (out.length : Int) → Sep l → (TX F i ++ l).length ≤ 1000 → PB RF 3 0 0 [] (TX F i ++ l) out = some ((i : Int), sb l, upto F out i)
  two : (F i).k = 5 → ∀ (l : List UInt8) (out : List FN), tree (fG F) i = (out.length : Int) → Sep l → stopAt (lvl (F i).o + 1) l → (TX F i ++ l).length ≤ 1000 → PB RF 1 (lvl (F i).o) 0 [] (TX F i ++ l) out = PB RF 2 (lvl (F i).o) i [] l (upto F out i)
theorem RdP.row {F : Nat → FN} {i : Nat} (H : RdP F i) (h3 : (F i).k ≠ 3) {lv : Int} (h1 : 1 ≤ lv) (h5 : lv ≤ 5) (ho : (F i).k = 5 → lv ≤ lvl (F i).o) {l : List UInt8} {out : List FN} (ht : tree (fG F) i = (out.length : Int)) (hs : Sep l) (hst : stopAt lv l) (hn : (TX F i ++ l).length ≤ 1000) :
    PB RF 1 lv 0 [] (TX F i ++ l) out = some ((i : Int), sb l, upto F out i) := by
  have hl : l.length ≤ 1000 := by rw [List.length_append] at hn; omega
  by_cases hk : (F i).k = 5
  · have hb := lvl_pos (F i).o
    have hlv := ho hk
    have h9 := H.two hk l out ht hs (stop_mono hst (by omega)) hn
    rw [PB2_stop hb.1 hb.2 hl (stop_mono hst hlv)] at h9
    exact climbG (by omega) hn hl h9 (lvl (F i).o - lv).toNat lv (by omega) h1 hst
  · have h9 := H.one hk h3 l out ht hs hn
    rw [← PB15 hn] at h9
    exact climbG (by omega) hn hl h9 (5 - lv).toNat lv (by omega) h1 hst
theorem RdP.go {F : Nat → FN} {i : Nat} (H : RdP F i) (h3 : (F i).k ≠ 3) {lv : Int} (h1 : 1 ≤ lv) (h4 : lv ≤ 4) (ho : (F i).k = 5 → lv ≤ lvl (F i).o) {l : List UInt8} {out : List FN} (ht : tree (fG F) i = (out.length : Int)) (hs : Sep l) (hst : stopAt (lv + 1) l) (hn : (TX F i ++ l).length ≤ 1000) :
    PB RF 1 lv 0 [] (TX F i ++ l) out = PB RF 2 lv i [] l (upto F out i) := by
  by_cases hk : (F i).k = 5 ∧ lvl (F i).o = lv
  · rw [← hk.2]
    exact H.two hk.1 l out ht hs (by rw [hk.2]; exact hst) hn
  · exact climb1 h1 h4 hn (H.row h3 (by omega) (by omega) (fun e => by have := ho e; have : lvl (F i).o ≠ lv := fun e' => hk ⟨e, e'⟩; omega) ht hs hst hn)
/-- In brackets. -/
theorem RdP.par {F : Nat → FN} {i : Nat} (H : RdP F i) (h3 : (F i).k ≠ 3) {l : List UInt8} {out : List FN} (ht : tree (fG F) i = (out.length : Int)) (hn : ([40] ++ TX F i ++ [41] ++ l).length ≤ 1000) :
    PB RF 3 0 0 [] ([40] ++ TX F i ++ [41] ++ l) out = some ((i : Int), sb l, upto F out i) := by
  have e : [40] ++ TX F i ++ [41] ++ l = 40 :: (TX F i ++ 41 :: l) := by simp
  rw [e] at hn ⊢
  have hn2 : (TX F i ++ 41 :: l).length ≤ 1000 := by rw [List.length_cons] at hn; omega
  have hb := lvl_pos (F i).o
  obtain ⟨q1, q2⟩ := pk_sign (c := 41) (l := l) (by simp)
  have hr := H.row h3 (lv := 1) (by omega) (by omega) (fun _ => by omega) (l := 41 :: l) (out := out) ht (sep_sign (by simp) l) (Or.inl (by rw [q1]; decide)) hn2
  rw [one_par hn (sb_at (by decide)), hr]
  show (if pk (sb (41 :: l)) = [41] then some ((i : Int), sb (nx (sb (41 :: l))), upto F out i) else none) = _
  rw [sb_at (by decide), q1, q2, if_pos rfl]
/-- With brackets where the level asks for them. -/
theorem RdP.bd {F : Nat → FN} {i : Nat} (H : RdP F i) (h3 : (F i).k ≠ 3) {lv : Int} (h1 : 1 ≤ lv) (h5 : lv ≤ 5) {l : List UInt8} {out : List FN} (ht : tree (fG F) i = (out.length : Int)) (hs : Sep l) (hst : stopAt lv l) (hn : (bdX F i lv ++ l).length ≤ 1000) :
    PB RF 1 lv 0 [] (bdX F i lv ++ l) out = some ((i : Int), sb l, upto F out i) := by
  have hl : l.length ≤ 1000 := by rw [List.length_append] at hn; omega
  unfold bdX at hn ⊢
  split
  · rename_i hc
    rw [if_pos hc] at hn
    have h9 := H.par h3 (l := l) (out := out) ht hn
    rw [← PB15 hn] at h9
    exact climbG (by omega) hn hl h9 (5 - lv).toNat lv (by omega) h1 hst
  · rename_i hc
    rw [if_neg hc] at hn
    exact H.row h3 h1 h5 (fun e => by have : ¬ lvl (F i).o < lv := fun e' => hc ⟨e, e'⟩; omega) ht hs hst hn
theorem RdP.bdgo {F : Nat → FN} {i : Nat} (H : RdP F i) (h3 : (F i).k ≠ 3) {lv : Int} (h1 : 1 ≤ lv) (h4 : lv ≤ 4) {l : List UInt8} {out : List FN} (ht : tree (fG F) i = (out.length : Int)) (hs : Sep l) (hst : stopAt (lv + 1) l) (hn : (bdX F i lv ++ l).length ≤ 1000) :
    PB RF 1 lv 0 [] (bdX F i lv ++ l) out = PB RF 2 lv i [] l (upto F out i) := by
  have hl : l.length ≤ 1000 := by rw [List.length_append] at hn; omega
  unfold bdX at hn ⊢
  split
  · rename_i hc
    rw [if_pos hc] at hn
    have h9 := H.par h3 (l := l) (out := out) ht hn
    rw [← PB15 hn] at h9
    exact climb1 h1 h4 hn (climbG (by omega) hn hl h9 (5 - (lv + 1)).toNat (lv + 1) (by omega) (by omega) hst)
  · rename_i hc
    rw [if_neg hc] at hn
    exact H.go h3 h1 h4 (fun e => by have : ¬ lvl (F i).o < lv := fun e' => hc ⟨e, e'⟩; omega) ht hs hst hn
/-- An argument. -/
theorem arg_read {F : Nat → FN} {n : Nat} (R : Rt F n) {i : Nat} (hi : i < n) (H : RdP F i) {l : List UInt8} {out : List FN} (ht : tree (fG F) i = (out.length : Int)) (hs : Sep l) (hst : stopAt 1 l) (hn : (TX F i ++ l).length ≤ 1000) :
    PB RF 6 0 0 [] (TX F i ++ l) out = some ((i : Int), sb l, upto F out i) := by
  by_cases h3 : (F i).k = 3
  · have hx := R.node i hi
    have hk := node_kinds hx
    obtain ⟨hc, hc', hg⟩ : refOkB (F i).ac (F i).ar = true ∧ refOkB (F i).bc (F i).br = true ∧ (F i).kids = [] := by
      rcases hk with ⟨hk, _⟩ | ⟨hk, _⟩ | ⟨hk, hc, hc', hg⟩ | ⟨hk, _⟩ | ⟨hk, _⟩ | ⟨hk, _⟩
      · omega
      · omega
      · exact ⟨hc, hc', hg⟩
      · omega
      · omega
      · omega
    have hlen : (i : Int) = out.length := by
      have h9 := tree_eq (fG F) i (by omega)
      have e : fG F (i : Int).toNat = [] := hg
      rw [e] at h9
      simp only [List.reverse_nil, loopT] at h9
      omega
    rw [TX_leaf (by omega) (by omega) (by omega), leafT, if_neg (by omega), if_neg (by omega)] at hn ⊢
    rw [are_read hc hc' hn hs, ← node_are hx h3, upto_one (by omega), hlen]
  · have hb := lvl_pos (F i).o
    rw [PB6 hn, if_neg (fun e => TX_second R i hi h3 l hs e.2)]
    exact H.row h3 (by omega) (by omega) (fun _ => by omega) ht hs hst hn
/-- The arguments behind the first, to the bracket. -/
theorem args_read {F : Nat → FN} {n : Nat} (R : Rt F n) {i : Nat} (hi : i < n) (H : ∀ j, j < i → RdP F j) {fn : Int} {l : List UInt8} : ∀ (ks k0 : List Int) (out : List FN), F i = RF.cal fn (k0 ++ ks) → Chain (tree (fG F)) (out.length : Int) ks i → (∀ k ∈ ks, 0 ≤ k ∧ k < i) → (((ks.map fun c => TX F c.toNat).map ([44] ++ ·)).flatten ++ 41 :: l).length ≤ 1000 →
    PB RF 5 fn 0 k0 (((ks.map fun c => TX F c.toNat).map ([44] ++ ·)).flatten ++ 41 :: l) out = some ((i : Int), sb l, upto F out i) := by
  intro ks
  induction ks with
  | nil =>
    intro k0 out hF hc hk hn
    obtain ⟨q1, q2⟩ := pk_sign (c := 41) (l := l) (by simp)
    rw [Chain] at hc
    simp only [List.map_nil, List.flatten_nil, List.nil_append] at hn ⊢
    rw [PB5 hn, q1, q2, if_neg (by decide), if_pos rfl, hc, upto_one (by omega), hF, List.append_nil]
  | cons k ks ih =>
    intro k0 out hF hc hk hn
    obtain ⟨c1, c2, c3⟩ := hc
    have hk0 := hk k (by simp)
    have e : (((k :: ks).map fun c => TX F c.toNat).map ([44] ++ ·)).flatten ++ 41 :: l = 44 :: (TX F k.toNat ++ (((ks.map fun c => TX F c.toNat).map ([44] ++ ·)).flatten ++ 41 :: l)) := by simp
    rw [e] at hn ⊢
    have hn2 : (TX F k.toNat ++ (((ks.map fun c => TX F c.toNat).map ([44] ++ ·)).flatten ++ 41 :: l)).length ≤ 1000 := by rw [List.length_cons] at hn; omega
    have hn3 : (((ks.map fun c => TX F c.toNat).map ([44] ++ ·)).flatten ++ 41 :: l).length ≤ 1000 := by rw [List.length_append] at hn2; omega
    obtain ⟨q1, q2⟩ := pk_sign (c := 44) (l := TX F k.toNat ++ (((ks.map fun c => TX F c.toNat).map ([44] ++ ·)).flatten ++ 41 :: l)) (by simp)
    have hsep : Sep (((ks.map fun c => TX F c.toNat).map ([44] ++ ·)).flatten ++ 41 :: l) ∧ stopAt 1 (((ks.map fun c => TX F c.toNat).map ([44] ++ ·)).flatten ++ 41 :: l) := by
      cases ks with
      | nil => exact ⟨sep_sign (by simp) l, Or.inl (by rw [show ((([] : List Int).map fun c => TX F c.toNat).map ([44] ++ ·)).flatten ++ 41 :: l = 41 :: l from rfl, (pk_sign (c := 41) (by simp)).1]; decide)⟩
      | cons k' ks' =>
        have e' : (((k' :: ks').map fun c => TX F c.toNat).map ([44] ++ ·)).flatten ++ 41 :: l = 44 :: (TX F k'.toNat ++ (((ks'.map fun c => TX F c.toNat).map ([44] ++ ·)).flatten ++ 41 :: l)) := by simp
        rw [e']
        exact ⟨sep_sign (by simp) _, Or.inl (by rw [(pk_sign (c := 44) (by simp)).1]; decide)⟩
    have ek : ((k.toNat : Nat) : Int) = k := by omega
    have hlen : out.length ≤ k.toNat + 1 := by omega
    have ha := arg_read R (i := k.toNat) (by omega) (H k.toNat (by omega)) (out := out) (by rw [ek]; exact c1) hsep.1 hsep.2 hn2
    rw [PB5 hn, q1, q2, if_pos rfl, ha]
    show PB RF 5 fn 0 (k0 ++ [((k.toNat : Nat) : Int)]) (sb _) (upto F out k.toNat) = _
    rw [PB_sb (sb_sb _), ek, ih (k0 ++ [k]) (upto F out k.toNat) (by rw [hF]; simp) (by rw [upto_len hlen]; rw [show ((k.toNat + 1 : Nat) : Int) = k + 1 by omega]; exact c3) (fun c hc => hk c (by simp [hc])) hn3, upto_upto hlen (by omega)]
theorem rd_all {F : Nat → FN} {n : Nat} (R : Rt F n) : ∀ i, i < n → RdP F i := by
  intro i
  induction i using Nat.strongRecOn with
  | ind i ih =>
    intro hi
    have hx := R.node i hi
    have hch : ∀ {a : Nat}, tree (fG F) i = (a : Int) → Chain (tree (fG F)) (a : Int) (F i).kids i := fun {a} h => tree_chain (by omega) h (by omega)
    have leaf : ∀ {a : Nat}, (F i).kids = [] → tree (fG F) i = (a : Int) → a = i := fun {a} hg h => by
      have := hch h
      rw [hg] at this
      have h2 : (a : Int) = i := this
      omega
    rcases node_kinds hx with ⟨hk, hc, hg⟩ | ⟨hk, hc, hg⟩ | ⟨hk, hc, hc', hg⟩ | ⟨hk, c, hg⟩ | ⟨hk, o1, o2, a, b, hg⟩ | ⟨hk, o1, o2, k1, k2⟩
    · refine ⟨fun _ _ l out ht hs hn => ?_, fun e => by omega⟩
      have hlen := leaf hg ht
      rw [TX_leaf (by omega) (by omega) (by omega), leafT, if_pos hk] at hn ⊢
      rw [cst_read hc hn hs, ← node_cst hx hk, upto_one hlen, hlen]
    · refine ⟨fun _ _ l out ht hs hn => ?_, fun e => by omega⟩
      have hlen := leaf hg ht
      rw [TX_leaf (by omega) (by omega) (by omega), leafT, if_neg (by omega), if_pos hk] at hn ⊢
      rw [cel_read hc hn hs, ← node_cel hx hk, upto_one hlen, hlen]
    · exact ⟨fun _ e => absurd hk e, fun e => by omega⟩
    · refine ⟨fun _ _ l out ht hs hn => ?_, fun e => by omega⟩
      have hcn := hch ht
      rw [hg] at hcn
      obtain ⟨c1, c2, c3⟩ := hcn
      have c3' : c + 1 = (i : Int) := c3
      have ec : ((c.toNat : Nat) : Int) = c := by omega
      have h3c := R.ars i hi (by omega) c (by rw [hg]; simp)
      rw [TX_neg R.rng hi hk hg] at hn ⊢
      have e : [45] ++ bdX F c.toNat 5 ++ l = 45 :: (bdX F c.toNat 5 ++ l) := by simp
      rw [e] at hn ⊢
      have hn2 : (bdX F c.toNat 5 ++ l).length ≤ 1000 := by rw [List.length_cons] at hn; omega
      have hb := (ih c.toNat (by omega) (by omega)).bd h3c (lv := 5) (by omega) (by omega) (out := out) (by rw [ec]; exact c1) hs (stop5 l) hn2
      rw [PB15 hn2] at hb
      have hlen : out.length ≤ c.toNat + 1 := by omega
      rw [one_neg hn (sb_at (by decide)), hb]
      show some (((upto F out c.toNat).length : Int), sb (sb l), upto F out c.toNat ++ [RF.neg ((c.toNat : Nat) : Int)]) = _
      rw [upto_len hlen, sb_sb, ec, ← node_neg hx hk hg, show ((c.toNat + 1 : Nat) : Int) = (i : Int) by omega]
      have h9 := upto_snoc (F := F) hlen
      rw [show c.toNat + 1 = i by omega] at h9
      rw [h9]
    · refine ⟨fun e => absurd hk e, fun _ l out ht hs hst hn => ?_⟩
      have hcn := hch ht
      rw [hg] at hcn
      obtain ⟨c1, c2, d1, d2, d3⟩ := hcn
      have d3' : b + 1 = (i : Int) := d3
      have ea : ((a.toNat : Nat) : Int) = a := by omega
      have eb : ((b.toNat : Nat) : Int) = b := by omega
      have h3a := R.ars i hi (by omega) a (by rw [hg]; simp)
      have h3b := R.ars i hi (by omega) b (by rw [hg]; simp)
      have hlv := lvl_pos (F i).o
      rw [TX_bin R.rng hi hk hg] at hn ⊢
      have e : bdX F a.toNat (lvl (F i).o) ++ sgT (F i).o ++ bdX F b.toNat (lvl (F i).o + 1) ++ l = bdX F a.toNat (lvl (F i).o) ++ (sgT (F i).o ++ (bdX F b.toNat (lvl (F i).o + 1) ++ l)) := by simp
      rw [e] at hn ⊢
      have hn2 : (sgT (F i).o ++ (bdX F b.toNat (lvl (F i).o + 1) ++ l)).length ≤ 1000 := by rw [List.length_append] at hn; omega
      have hn3 : (bdX F b.toNat (lvl (F i).o + 1) ++ l).length ≤ 1000 := by rw [List.length_append] at hn2; omega
      obtain ⟨d, t, ed, hbeg⟩ := bdX_head (z := lvl (F i).o + 1) (TX_head R b.toNat (by omega))
      obtain ⟨q1, q2⟩ := pk_op (F i).o o1 o2 (r := t ++ l) hbeg
      have ed2 : bdX F b.toNat (lvl (F i).o + 1) ++ l = d :: (t ++ l) := by rw [ed]; rfl
      rw [← ed2] at q1 q2
      have hop : opOf (pk (sgT (F i).o ++ (bdX F b.toNat (lvl (F i).o + 1) ++ l))) = (F i).o := by rw [q1]; exact opOf_sg _ o1 o2
      have hlen : out.length ≤ a.toNat + 1 := by omega
      have hlen2 : (upto F out a.toNat).length = a.toNat + 1 := upto_len hlen
      rw [(ih a.toNat (by omega) (by omega)).bdgo h3a hlv.1 hlv.2 (out := out) (by rw [ea]; exact c1) (sep_op _ o1 o2 _) (Or.inr (by rw [hop]; omega)) hn]
      rw [PB2 hlv.1 hlv.2 hn2, hop, if_neg (by omega), q2]
      rw [(ih b.toNat (by omega) (by omega)).bd h3b (lv := lvl (F i).o + 1) (by omega) (by omega) (out := upto F out a.toNat) (by rw [eb, hlen2, d1]; omega) hs hst hn3]
      have hlen3 : (upto F out a.toNat).length ≤ b.toNat + 1 := by omega
      show PB RF 2 (lvl (F i).o) (((upto F (upto F out a.toNat) b.toNat).length : Nat) : Int) [] (sb l) (upto F (upto F out a.toNat) b.toNat ++ [RF.bin (F i).o ((a.toNat : Nat) : Int) ((b.toNat : Nat) : Int)]) = _
      rw [upto_len hlen3, PB_sb (sb_sb l), ea, eb, ← node_bin hx hk hg, upto_upto hlen (by omega), show ((b.toNat + 1 : Nat) : Int) = (i : Int) by omega]
      have h9 := upto_snoc (F := F) (out := out) (i := b.toNat) (by omega)
      rw [show b.toNat + 1 = i by omega] at h9
      rw [h9]
    · refine ⟨fun _ _ l out ht hs hn => ?_, fun e => by omega⟩
      have hcn := hch ht
      have hrg : ∀ k ∈ (F i).kids, 0 ≤ k ∧ k < (i : Int) := R.rng i hi
      have hnode := node_cal hx hk
      obtain ⟨f1, f2, f3⟩ := fn_head _ o1 o2
      rw [TX_call R.rng hi hk] at hn ⊢
      cases hq : (F i).kids with
      | nil => rw [hq] at k1; simp at k1
      | cons k ks =>
        rw [hq] at hcn hrg hn hnode
        obtain ⟨c1, c2, c3⟩ := hcn
        have e : fnT (F i).o ++ [40] ++ jn ((k :: ks).map fun c => TX F c.toNat) ++ [41] ++ l = fnT (F i).o ++ 40 :: (TX F k.toNat ++ (((ks.map fun c => TX F c.toNat).map ([44] ++ ·)).flatten ++ 41 :: l)) := by simp [jn]
        rw [e] at hn ⊢
        have hn1 : (40 :: (TX F k.toNat ++ (((ks.map fun c => TX F c.toNat).map ([44] ++ ·)).flatten ++ 41 :: l))).length ≤ 1000 := by rw [List.length_append] at hn; omega
        have hn2 : (TX F k.toNat ++ (((ks.map fun c => TX F c.toNat).map ([44] ++ ·)).flatten ++ 41 :: l)).length ≤ 1000 := by rw [List.length_cons] at hn1; omega
        have hn3 : (((ks.map fun c => TX F c.toNat).map ([44] ++ ·)).flatten ++ 41 :: l).length ≤ 1000 := by rw [List.length_append] at hn2; omega
        obtain ⟨p1, p2⟩ := pk_wd (l := 40 :: (TX F k.toNat ++ (((ks.map fun c => TX F c.toNat).map ([44] ++ ·)).flatten ++ 41 :: l))) f2 (fun b hb => List.all_eq_true.1 f1 b hb) (fun b hb => by rw [← Option.some.inj hb]; decide)
        obtain ⟨q1, q2⟩ := pk_sign (c := 40) (l := TX F k.toNat ++ (((ks.map fun c => TX F c.toNat).map ([44] ++ ·)).flatten ++ 41 :: l)) (by simp)
        have hk0 := hrg k (by simp)
        have ek : ((k.toNat : Nat) : Int) = k := by omega
        have hsep : Sep (((ks.map fun c => TX F c.toNat).map ([44] ++ ·)).flatten ++ 41 :: l) ∧ stopAt 1 (((ks.map fun c => TX F c.toNat).map ([44] ++ ·)).flatten ++ 41 :: l) := by
          cases ks with
          | nil => exact ⟨sep_sign (by simp) l, Or.inl (by rw [show ((([] : List Int).map fun c => TX F c.toNat).map ([44] ++ ·)).flatten ++ 41 :: l = 41 :: l from rfl, (pk_sign (c := 41) (by simp)).1]; decide)⟩
          | cons k' ks' =>
            have e' : (((k' :: ks').map fun c => TX F c.toNat).map ([44] ++ ·)).flatten ++ 41 :: l = 44 :: (TX F k'.toNat ++ (((ks'.map fun c => TX F c.toNat).map ([44] ++ ·)).flatten ++ 41 :: l)) := by simp
            rw [e']
            exact ⟨sep_sign (by simp) _, Or.inl (by rw [(pk_sign (c := 44) (by simp)).1]; decide)⟩
        have hlen : out.length ≤ k.toNat + 1 := by omega
        have ha := arg_read R (i := k.toNat) (by omega) (ih k.toNat (by omega) (by omega)) (out := out) (by rw [ek]; exact c1) hsep.1 hsep.2 hn2
        have hw : ∀ d t, fnT (F i).o = d :: t → isW d = true := fun d t e => List.all_eq_true.1 f1 d (by rw [e]; simp)
        have hp : pk (fnT (F i).o ++ 40 :: (TX F k.toNat ++ (((ks.map fun c => TX F c.toNat).map ([44] ++ ·)).flatten ++ 41 :: l))) ≠ [40] ∧ pk (fnT (F i).o ++ 40 :: (TX F k.toNat ++ (((ks.map fun c => TX F c.toNat).map ([44] ++ ·)).flatten ++ 41 :: l))) ≠ [45] ∧ (pk (fnT (F i).o ++ 40 :: (TX F k.toNat ++ (((ks.map fun c => TX F c.toNat).map ([44] ++ ·)).flatten ++ 41 :: l)))).head? ≠ some 34 := by
          rw [p1]
          cases hf : fnT (F i).o with
          | nil => exact absurd hf f2
          | cons d t =>
            obtain ⟨n1, n2, n3, n4⟩ := isW_ne (hw d t hf)
            exact ⟨fun e => n2 (List.cons.inj e).1, fun e => n3 (List.cons.inj e).1, fun e => n1 (Option.some.inj e)⟩
        rw [PB3 hn, if_neg hp.2.1, PB4_fn (by rw [p1]; exact f2) hp.1 hp.2.2 (by rw [p1, f3]; omega) hn, p1, p2, q1, q2, if_pos rfl, ha, f3]
        show PB RF 5 (F i).o 0 [((k.toNat : Nat) : Int)] (sb _) (upto F out k.toNat) = _
        rw [PB_sb (sb_sb _), ek, args_read R hi (fun j hj => ih j hj (by omega)) ks [k] (upto F out k.toNat) hnode (by rw [upto_len hlen]; rw [show ((k.toNat + 1 : Nat) : Int) = k + 1 by omega]; exact c3) (fun c hc => hrg c (by simp [hc])) hn3, upto_upto hlen (by omega)]
/-- A right formula's text read as a row. -/
theorem text_back {F : Nat → FN} {n : Nat} (h : fOkB F n = true) (hn : (TX F (n - 1)).length ≤ 1000) : PB RF 1 1 0 [] (TX F (n - 1)) [] = some (((n - 1 : Nat) : Int), [], seg F 0 n) := by
  obtain ⟨R, h3, ht⟩ := rt_of h
  obtain ⟨h1, _⟩ := fOk_in h
  have hb := lvl_pos (F (n - 1)).o
  have h9 := (rd_all R (n - 1) (by omega)).row h3 (lv := 1) (by omega) (by omega) (fun _ => by omega) (l := []) (out := []) ht sep_nil (Or.inl (by decide)) (by rw [List.append_nil]; exact hn)
  rw [List.append_nil] at h9
  rw [h9]
  have e : upto F [] (n - 1) = seg F 0 n := by
    unfold upto
    simp only [List.nil_append, List.length_nil]
    rw [show n - 1 + 1 - 0 = n by omega]
  rw [e]
  rfl
end Go.Proofs.YthdclafkcondmaaGreatDoor
