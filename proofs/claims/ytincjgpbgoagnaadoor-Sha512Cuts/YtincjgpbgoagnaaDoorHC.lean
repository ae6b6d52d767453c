/-
  The rounds over a state: sha256's mixed and turn.
-/
import Derived.Test.YtincjgpbgoagnaaDoorHB
namespace Go.Proofs.YtincjgpbgoagnaaDoor
open Go.RowKit
/-- The constants lie in block 0. -/
def Kk (w : World) : Prop := ∀ i, i < 64 → w.cell? ⟨0, i, none⟩ = some (.int .u32 ((kc i : Nat) : Int))
theorem Kk.lt {w : World} (h : Kk w) : 0 < w.heap.size := by
  have h0 := h 0 (by decide)
  unfold World.cell? at h0
  cases e : w.heap[0]? with
  | none => simp [e] at h0
  | some o => exact (Array.getElem?_eq_some_iff.1 e).1
theorem Kk.kp {S : Nat → Prop} {w w' : World} (h : Kk w) (k : Kp S w w') (hn : ¬ S 0) : Kk w' := fun i hi => (k.cell 0 i h.lt hn).trans (h i hi)
theorem Kk.sm {w w' : World} (h : Kk w) (k : Sm w w') : Kk w' := h.kp k fun h => h
end Go.Proofs.YtincjgpbgoagnaaDoor
