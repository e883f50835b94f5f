import Derived.Test.YtonhcgkagdpdlaaGreatDoorGas
import Derived.Test.YtonhcgkagdpdlaaGreatDoorGza
import Derived.Laws.BytesString
import Derived.Laws.OwnMore
import Derived.Laws.AppendOwn
import Derived.Deep.RegionHeld3
set_option linter.unusedSimpArgs false
set_option linter.unusedVariables false
namespace Go.Proofs.YtonhcgkagdpdlaaGreatDoor
open Go.RowKit
def UpdG (r:Nat) (W w':World):Prop:=Upd r W w'∧W.grownBy w' (some r)
theorem grown_trans' {a b c:World} {row:Option Nat} (h:a.grownBy b row) (h':b.grownBy c row):a.grownBy c row:=
 ⟨h'.os.trans h.os,h'.tape.trans h.tape,h'.output.trans h.output,Nat.le_trans h.size h'.size,fun k hk hr=>(h'.block k (Nat.lt_of_lt_of_le hk h.size) hr).trans (h.block k hk hr)⟩
theorem UpdG.draws (r:Nat) (W:World) (n:Nat):UpdG r W (W.drewN n):=⟨Upd.draws r W n,⟨rfl,rfl,rfl,Nat.le_refl _,fun _ _ _=>rfl⟩⟩
theorem UpdG.trans {r:Nat} {W w1 w2:World} (h:UpdG r W w1) (h':UpdG r w1 w2):UpdG r W w2:=⟨h.1.trans h'.1,grown_trans' h.2 h'.2⟩
theorem UpdG.set {r o:Nat} {W:World} {v:Value}:UpdG r W (W.setCell ⟨r,o,none⟩ v):=
 ⟨Upd.set,⟨rfl,rfl,rfl,by simp,fun k _ hk=>Below.heap_setCell W ⟨r,o,none⟩ v k (fun e=>hk (by rw [e]))⟩⟩
theorem UpdG.of_below {r:Nat} {W w1:World} (hr:r≤W.heap.size) (h:Below W.heap.size W w1):UpdG r W w1:=
 ⟨Upd.of_below hr h,⟨h.os,h.tape,h.output,h.size,fun k hk _=>h.block k hk⟩⟩
theorem add_run (x y:ByteArray) (h:x.size+y.size≤1000000): ∀W,(Op.stringOp .add x y).run Tryz.prog W= .ok (.string (x++y)) W:=by
 intro W
 have h': ¬9223372036854775807<x.size+y.size:=by omega
 simp [Op.stringOp,go_sem,h']
 omega
end Go.Proofs.YtonhcgkagdpdlaaGreatDoor
