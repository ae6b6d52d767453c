/-
  What the rows lay where both tables of constants are on the road: a world that holds both.
-/
import Derived.Test.YtoplcdcjclbckaaDoorYD
import Derived.Test.YtoplcdcjclbckaaDoorOpenH
import Derived.Test.YtoplcdcjclbckaaDoorOpenI
import Derived.Stop.LaidErr
namespace Go.Proofs.YtoplcdcjclbckaaDoor
open Go.ChangeShapes Go.WideShapes Go.ChangeAt Go.RowKit
theorem kk2_of {W : World} (h : laidMetH Tryd.prog [("curvet/sha256.constants", Rows.laid_curvet_sha256_constants), ("curvet/sha512.constants", Rows.laid_curvet_sha512_constants)] W) : KK W :=
  have h' : laidMet Tryd.prog [("curvet/sha256.constants", Rows.laid_curvet_sha256_constants), ("curvet/sha512.constants", Rows.laid_curvet_sha512_constants)] W := h
  ⟨kk_met h', L8.kk_met (laidMet.tail h')⟩
/-- A world for the witness: the settled one, both tables laid. -/
def kWorld2 (P : Program) (os : Os) : World :=
  { kWorld P os with heap := (kWorld P os).heap.modify 1 fun
      | .cells _ t frozen => .cells ((L8.KL.map fun (x : Nat) => Value.int .u64 (x : Int)).toArray) t frozen
      | o => o }
end Go.Proofs.YtoplcdcjclbckaaDoor
