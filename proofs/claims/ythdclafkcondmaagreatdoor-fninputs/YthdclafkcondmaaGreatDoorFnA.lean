import Derived.Test.YthdclafkcondmaaGreatDoorGaa
import Derived.Test.YthdclafkcondmaaGreatDoorGad
namespace Go.Proofs.YthdclafkcondmaaGreatDoor
open Go.RowKit
/-! ### A node of a formula, and a row of them -/
structure FN where
  k : Int
  o : Int
  ck : Int
  cn : Int
  cs : ByteArray
  ac : Int
  ar : Int
  af : Bool
  ag : Bool
  bc : Int
  br : Int
  bf : Bool
  bg : Bool
  kids : List Int
/-- The fourteen cells of a node, from the place p of block b on. -/
def NodeAt (W : World) (b p : Nat) (x : FN) (KA : Option Addr) (kc : Nat) : Prop :=
  W.cell? ⟨b, p, none⟩ = some (.int .i64 (x.k)) ∧ W.cell? ⟨b, p + 1, none⟩ = some (.int .i64 (x.o)) ∧ W.cell? ⟨b, p + 2, none⟩ = some (.int .i64 (x.ck)) ∧ W.cell? ⟨b, p + 3, none⟩ = some (.int .i64 (x.cn)) ∧ W.cell? ⟨b, p + 4, none⟩ = some (.string (x.cs)) ∧ W.cell? ⟨b, p + 5, none⟩ = some (.int .i64 (x.ac)) ∧ W.cell? ⟨b, p + 6, none⟩ = some (.int .i64 (x.ar)) ∧ W.cell? ⟨b, p + 7, none⟩ = some (.bool (x.af)) ∧ W.cell? ⟨b, p + 8, none⟩ = some (.bool (x.ag)) ∧ W.cell? ⟨b, p + 9, none⟩ = some (.int .i64 (x.bc)) ∧ W.cell? ⟨b, p + 10, none⟩ = some (.int .i64 (x.br)) ∧ W.cell? ⟨b, p + 11, none⟩ = some (.bool (x.bf)) ∧ W.cell? ⟨b, p + 12, none⟩ = some (.bool (x.bg)) ∧ W.cell? ⟨b, p + 13, none⟩ = some (.slice KA x.kids.length kc)
theorem NodeAt.below {W W' : World} {b p : Nat} {x : FN} {KA : Option Addr} {kc : Nat} (h : NodeAt W b p x KA kc) (hl : b < W.heap.size) (hb : Below W.heap.size W W') : NodeAt W' b p x KA kc := by
  obtain ⟨c0, c1, c2, c3, c4, c5, c6, c7, c8, c9, c10, c11, c12, c13⟩ := h
  exact ⟨(hb.cell (p := ⟨b, _, none⟩) hl).trans c0, (hb.cell (p := ⟨b, _, none⟩) hl).trans c1, (hb.cell (p := ⟨b, _, none⟩) hl).trans c2, (hb.cell (p := ⟨b, _, none⟩) hl).trans c3, (hb.cell (p := ⟨b, _, none⟩) hl).trans c4, (hb.cell (p := ⟨b, _, none⟩) hl).trans c5, (hb.cell (p := ⟨b, _, none⟩) hl).trans c6, (hb.cell (p := ⟨b, _, none⟩) hl).trans c7, (hb.cell (p := ⟨b, _, none⟩) hl).trans c8, (hb.cell (p := ⟨b, _, none⟩) hl).trans c9, (hb.cell (p := ⟨b, _, none⟩) hl).trans c10, (hb.cell (p := ⟨b, _, none⟩) hl).trans c11, (hb.cell (p := ⟨b, _, none⟩) hl).trans c12, (hb.cell (p := ⟨b, _, none⟩) hl).trans c13⟩
def FnRow (W : World) (A : Option Addr) (n : Nat) (F : Nat → FN) : Prop :=
  n ≤ maxLen ∧ ∀ i, i < n → ∃ b o KA kc, A = some ⟨b, o, none⟩ ∧ b < W.heap.size ∧ NodeAt W b (o + i * 14) (F i) KA kc ∧ IntRow W KA (F i).kids ∧ (F i).cs.size ≤ maxLen
theorem FnRow.below {W W' : World} {A : Option Addr} {n : Nat} {F : Nat → FN} (h : FnRow W A n F) (hb : Below W.heap.size W W') : FnRow W' A n F :=
  ⟨h.1, fun i hi => by
    obtain ⟨b, o, KA, kc, e, hl, hn, hk, hs⟩ := h.2 i hi
    exact ⟨b, o, KA, kc, e, Nat.lt_of_lt_of_le hl hb.size, hn.below hl hb, hk.below hb, hs⟩⟩
def nodeL (x : FN) (KA : Option Addr) (kc : Nat) : List Value := [.int .i64 (x.k), .int .i64 (x.o), .int .i64 (x.ck), .int .i64 (x.cn), .string (x.cs), .int .i64 (x.ac), .int .i64 (x.ar), .bool (x.af), .bool (x.ag), .int .i64 (x.bc), .int .i64 (x.br), .bool (x.bf), .bool (x.bg), .slice KA x.kids.length kc]
theorem infoFn : (Tryz.prog.info? 54).map (fun i => (i.zero, i.size, i.bytes)) = some (some (.agg #[.int .i64 0, .int .i64 0, .int .i64 0, .int .i64 0, .string ⟨#[]⟩, .int .i64 0, .int .i64 0, .bool false, .bool false, .int .i64 0, .int .i64 0, .bool false, .bool false, .slice none 0 0]), 14, 120) := by kernel_rfl
end Go.Proofs.YthdclafkcondmaaGreatDoor
