/-
  sha256's text, New, Write, Sum, Of: what they hand back.
-/
import Derived.Test.YtincjgpbgoagnaaDoorHF
namespace Go.Proofs.YtincjgpbgoagnaaDoor
open Go.RowKit
attribute [local go_sem ↓] mkS_is cvS_is
theorem br32_zero : #[Value.int .u8 0, Value.int .u8 0, Value.int .u8 0, Value.int .u8 0, Value.int .u8 0, Value.int .u8 0, Value.int .u8 0, Value.int .u8 0, Value.int .u8 0, Value.int .u8 0, Value.int .u8 0, Value.int .u8 0, Value.int .u8 0, Value.int .u8 0, Value.int .u8 0, Value.int .u8 0, Value.int .u8 0, Value.int .u8 0, Value.int .u8 0, Value.int .u8 0, Value.int .u8 0, Value.int .u8 0, Value.int .u8 0, Value.int .u8 0, Value.int .u8 0, Value.int .u8 0, Value.int .u8 0, Value.int .u8 0, Value.int .u8 0, Value.int .u8 0, Value.int .u8 0, Value.int .u8 0] = br 32 fun _ => 0 := by unfold br; rfl
/-- The row of a state's bytes when n of them are laid. -/
def tx (f : Nat → Nat) (n i : Nat) : Nat := if i < n then dg8 f i else 0
theorem tx_put (f : Nat → Nat) (k j : Nat) (hj : j < 4) : (br 32 (tx f (4 * k + j))).setIfInBounds (4 * k + j) (.int .u8 ((f k / 2 ^ (24 - 8 * j) % 256 : Nat) : Int)) = br 32 (tx f (4 * k + j + 1)) := by
  refine br_put 32 _ _ _ _ ?_ fun i _ hne => ?_
  · unfold tx dg8
    rw [if_pos (by omega), show (4 * k + j) / 4 = k by omega, show 8 * (3 - (4 * k + j) % 4) = 24 - 8 * j by omega]
  · unfold tx
    by_cases c : i < 4 * k + j
    · rw [if_pos c, if_pos (by omega)]
    · rw [if_neg c, if_neg (by omega)]
/-! ### New -/
def buildS (ty : TypeId) (p : Array (Nat × Value)) : Sem Value := Instr.build ty p
theorem wz8_zero : #[Value.int .u32 0, Value.int .u32 0, Value.int .u32 0, Value.int .u32 0, Value.int .u32 0, Value.int .u32 0, Value.int .u32 0, Value.int .u32 0] = wz 8 fun _ => 0 := by unfold wz; rfl
theorem hc_zero : #[Value.int .u32 0, Value.int .u32 0, Value.int .u32 0, Value.int .u32 0, Value.int .u32 0, Value.int .u32 0, Value.int .u32 0, Value.int .u32 0, Value.int .u8 0, Value.int .u8 0, Value.int .u8 0, Value.int .u8 0, Value.int .u8 0, Value.int .u8 0, Value.int .u8 0, Value.int .u8 0, Value.int .u8 0, Value.int .u8 0, Value.int .u8 0, Value.int .u8 0, Value.int .u8 0, Value.int .u8 0, Value.int .u8 0, Value.int .u8 0, Value.int .u8 0, Value.int .u8 0, Value.int .u8 0, Value.int .u8 0, Value.int .u8 0, Value.int .u8 0, Value.int .u8 0, Value.int .u8 0, Value.int .u8 0, Value.int .u8 0, Value.int .u8 0, Value.int .u8 0, Value.int .u8 0, Value.int .u8 0, Value.int .u8 0, Value.int .u8 0, Value.int .u8 0, Value.int .u8 0, Value.int .u8 0, Value.int .u8 0, Value.int .u8 0, Value.int .u8 0, Value.int .u8 0, Value.int .u8 0, Value.int .u8 0, Value.int .u8 0, Value.int .u8 0, Value.int .u8 0, Value.int .u8 0, Value.int .u8 0, Value.int .u8 0, Value.int .u8 0, Value.int .u8 0, Value.int .u8 0, Value.int .u8 0, Value.int .u8 0, Value.int .u8 0, Value.int .u8 0, Value.int .u8 0, Value.int .u8 0, Value.int .u8 0, Value.int .u8 0, Value.int .u8 0, Value.int .u8 0, Value.int .u8 0, Value.int .u8 0, Value.int .u8 0, Value.int .u8 0, Value.int .i64 0, Value.int .u64 0, Value.int .i64 0] = hc (fun _ => 0) (fun _ => 0) 0 0 0 := by kernel_rfl
/-- Which hash: how many bits, where it begins, how many bytes. -/
structure Kd (bits : Int) (iv : Nat → Nat) (z : Nat) : Prop where
  is : (bits = 224 ∧ iv = iv224 ∧ z = 28) ∨ (bits = 256 ∧ iv = iv256 ∧ z = 32)
theorem Kd.lt {bits : Int} {iv : Nat → Nat} {z : Nat} (h : Kd bits iv z) (i : Nat) : iv i < 4294967296 := by
  rcases h.is with ⟨_, rfl, _⟩ | ⟨_, rfl, _⟩
  · exact iv224_lt i
  · exact iv256_lt i
theorem Kd.le {bits : Int} {iv : Nat → Nat} {z : Nat} (h : Kd bits iv z) : z ≤ 32 := by
  rcases h.is with ⟨_, _, rfl⟩ | ⟨_, _, rfl⟩ <;> decide
attribute [local go_sem] wz8_zero
end Go.Proofs.YtincjgpbgoagnaaDoor
