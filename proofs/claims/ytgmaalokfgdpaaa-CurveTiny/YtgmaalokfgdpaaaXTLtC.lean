import Derived.Test.YtgmaalokfgdpaaaRows
namespace Go.Proofs.Ytgmaalokfgdpaaa
theorem lc8 {i : Nat} (h : i < 8) : i = 0 ∨ i = 1 ∨ i = 2 ∨ i = 3 ∨ i = 4 ∨ i = 5 ∨ i = 6 ∨ i = 7 := by omega
end Go.Proofs.Ytgmaalokfgdpaaa
