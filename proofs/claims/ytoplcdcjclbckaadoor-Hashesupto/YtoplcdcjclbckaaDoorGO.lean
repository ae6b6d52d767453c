/-
  sha512's Of: what it hands back.
-/
import Derived.Test.YtoplcdcjclbckaaDoorGH
import Derived.Test.YtoplcdcjclbckaaDoorLG7
namespace Go.Proofs.YtoplcdcjclbckaaDoor.L8
open Go.RowKit
end Go.Proofs.YtoplcdcjclbckaaDoor.L8
