/-
  sha256's Of: what it hands back.
-/
import Derived.Test.YtoplcdcjclbckaaDoorHH
import Derived.Test.YtoplcdcjclbckaaDoorLG7
namespace Go.Proofs.YtoplcdcjclbckaaDoor
open Go.RowKit
end Go.Proofs.YtoplcdcjclbckaaDoor
