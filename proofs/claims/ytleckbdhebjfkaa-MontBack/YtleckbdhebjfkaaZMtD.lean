/-
  How many digits a number has.
-/
import Derived.Test.YtleckbdhebjfkaaZRFrom
import Derived.Test.YtleckbdhebjfkaaZSl
namespace Go.Proofs.Ytleckbdhebjfkaa
open Go.RowKit
theorem dl_M (a : Nat) (ha : a < M) : dl a ≤ 18 := (dl_le _ 18).2 (by rw [pq_M]; exact ha)

end Go.Proofs.Ytleckbdhebjfkaa
