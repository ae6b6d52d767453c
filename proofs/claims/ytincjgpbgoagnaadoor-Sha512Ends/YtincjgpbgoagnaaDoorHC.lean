/-
  The rounds over a state: sha256's mixed and turn.
-/
import Derived.Test.YtincjgpbgoagnaaDoorHB
namespace Go.Proofs.YtincjgpbgoagnaaDoor
open Go.RowKit
end Go.Proofs.YtincjgpbgoagnaaDoor
