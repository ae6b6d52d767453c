/-
  math/bits.Mul64 of a number and 8: no carry beyond one word below 2^61.
-/
import Derived.Test.YtoplcdcjclbckaaDoorGE
namespace Go.Proofs.YtoplcdcjclbckaaDoor.L8
open Go.RowKit
theorem low32 (x : Nat) (hx : x < 18446744073709551616) : bits .and .u64 (x : Int) 4294967295 = ((x % 4294967296 : Nat) : Int) := by
  rw [show (4294967295 : Int) = ((4294967295 : Nat) : Int) from rfl, u64_and_nat _ _ hx (by decide)]
  exact congrArg _ (Nat.and_two_pow_sub_one_eq_mod x 32)
set_option maxRecDepth 100000 in
set_option maxHeartbeats 1000000 in
theorem mul8_any (x : Nat) (hx : x < 2305843009213693952) (w : World) :
    Calls Tryd.prog 61 #[.int .u64 (x : Int), .int .u64 8] w fun e w' => e = .returned (.tuple #[.int .u64 0, .int .u64 ((x * 8 : Nat) : Int)]) ∧ w = w' := by
  have x1 : (x : Int) < 2305843009213693952 := by omega
  have h8 : bits .and .u64 8 4294967295 = 8 := low32 8 (by decide)
  obtain ⟨a, ha⟩ : ∃ a, x % 4294967296 = a := ⟨_, rfl⟩
  have hx0 := low32 x (by omega)
  rw [ha] at hx0
  obtain ⟨T, hT⟩ : ∃ T, x / 4294967296 * 8 + a * 8 / 4294967296 = T := ⟨_, rfl⟩
  have HT : IntKind.u64.wrap ((x : Int) / 4294967296 * 8 + IntKind.u64.wrap ((a : Int) * 8) / 4294967296) = (T : Int) := by
    rw [IntKind.wrap_u64, IntKind.wrap_u64]; omega
  have hT1 : T < 4294967296 := by omega
  have hT0 := low32 T (by omega)
  rw [Nat.mod_eq_of_lt hT1] at hT0
  have hT3 : (T : Int) < 4294967296 := by omega
  have hT2 : (T : Int) / 4294967296 = 0 := by omega
  have HE : Hid (Unit → (x : Int) * 8 = ((x * 8 : Nat) : Int)) := fun _ => by omega
  clear hx ha hT
  go_enter Tryd.func61, Tryd.ntmps61
  go_wp2
  go_ret2
  refine ⟨?_, rfl⟩
  rw [← HE.out ()]
  first | rfl | trace_state
end Go.Proofs.YtoplcdcjclbckaaDoor.L8
