import Derived.Test.YtanjlpgdmnapdaaDkB
import Derived.Test.YtanjlpgdmnapdaaGj
namespace Go.Proofs.Ytanjlpgdmnapdaa
open Go.RowKit Go.Maps
set_option linter.unusedSimpArgs false
set_option linter.unusedVariables false

theorem cell_kept3 {u y u' : World} {v : Value} {b o : Nat} {x : Value} (c : u.cell? ⟨b, o, none⟩ = some x) (hb : Below u.heap.size u y) (g : Grown3 y u' v) (hne : ¬ some b ∈ blks v) : u'.cell? ⟨b, o, none⟩ = some x := by
  obtain ⟨r1, r2, r3, wa, wb, e, g1, g2, g3⟩ := g
  rw [e] at hne
  simp only [List.mem_cons, List.not_mem_nil, or_false, not_or] at hne
  exact g3.cell (a := ⟨b, o, none⟩) (g2.cell (a := ⟨b, o, none⟩) (g1.cell (a := ⟨b, o, none⟩) (cy hb c) hne.1) hne.2.1) hne.2.2
theorem syD_len {d : DK} (h : DkLil d) : (syD d).live.length ≤ 1048576 ∧ (syD d).safe.length ≤ 1048576 ∧ (syD d).ops.length ≤ 1048576 := by
  unfold syD
  split
  · exact ⟨h.n1, h.n1, Nat.zero_le _⟩
  · exact ⟨Nat.zero_le _, Nat.zero_le _, Nat.zero_le _⟩
end Go.Proofs.Ytanjlpgdmnapdaa
