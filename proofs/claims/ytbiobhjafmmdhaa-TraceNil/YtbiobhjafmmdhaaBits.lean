/-
  What math/bits.Add64, Sub64, Mul64 and Len64 hand back at this translation, and nat.mulAdd: contracts for the walks.
-/
import Derived.Test.YtbiobhjafmmdhaaRows
import Derived.WalkKit
import Derived.WalkSpells
import Derived.WalkLawsBesides
import Derived.StillTactics
import Derived.Laws.Pointers
import Derived.Deep.RegionHeld3
import Derived.Laws.Externs
import Derived.Shelf.Spec.BitsCarry
import Derived.Lib.Mul64
import Derived.Laws.Bits64b
import Derived.RowKit3
namespace Go.Proofs.Ytbiobhjafmmdhaa
open Go.RowKit

end Go.Proofs.Ytbiobhjafmmdhaa
