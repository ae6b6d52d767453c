/-
  What the rows of the layers on hashes share: how ints come in, what stays below.
-/
import Derived.Test.YtconibmdlfkopaaGreatDoorHI
import Derived.Test.YtconibmdlfkopaaGreatDoorCards
import Derived.Test.YtconibmdlfkopaaGreatDoorTie
import Derived.ProofKit
import Derived.OpenShut
import Derived.Deep.DeepHandedRow
import Derived.Lib.LaidTab
import Derived.Carry
namespace Go.Proofs.YtconibmdlfkopaaGreatDoor
open Go.ChangeShapes Go.WideShapes Go.ChangeAt Go.RowKit
theorem Tryz.own : ownKnob Tryz.prog.godebug = none := by kernel_rfl
theorem Tryz.laidOut : laidOutB Tryz.prog = true := by kernel_rfl
theorem int_of_wf {x : Int} (h : (Lit.int .i64 x).wf = true) : -9223372036854775808 ≤ x ∧ x ≤ 9223372036854775807 := by
  simp [Lit.wf, IntKind.min, IntKind.max, IntKind.signed, IntKind.bits] at h
  exact ⟨by omega, by omega⟩
theorem Sm.below {w w' : World} (h : Sm w w') : Below w.heap.size w w' := Kp.below h _ (Nat.le_refl _) fun _ h => h.elim
end Go.Proofs.YtconibmdlfkopaaGreatDoor
