/-
  mask.Zero, Equal, Less, between; the statements' own all: what they hand back.
-/
import Derived.Test.YthfndlhjhlmcfaaMNum
import Derived.Test.YthfndlhjhlmcfaaSmA
namespace Go.Proofs.Ythfndlhjhlmcfaa
open Go.RowKit

theorem spread_any (x : Nat) (hx : x < 18446744073709551616) (w : World) :
    Calls Try.prog 17 #[.int .u64 (x : Int)] w fun e w' => e = .returned (.int .u64 (((18446744073709551616 - x) % 18446744073709551616 : Nat) : Int)) ∧ w' = w := by
  rw [← neg_u64 x hx]
  go_enter Try.func17, Try.ntmps17
  go_wp2
  go_ret
  exact ⟨rfl, rfl⟩

theorem zero_any (x : Nat) (hx : x < 18446744073709551616) (w : World) :
    Calls Try.prog 8 #[.int .u64 (x : Int)] w fun e w' => e = .returned (.int .u64 ((msk (decide (x = 0)) : Nat) : Int)) ∧ w' = w := by
  rw [← zero_val x hx]
  go_enter Try.func8, Try.ntmps8
  go_wp2
  go_ret
  exact ⟨rfl, rfl⟩

theorem xor_zero {a b : Nat} : decide (a ^^^ b = 0) = decide (a = b) := by
  rw [decide_eq_decide]
  constructor
  · intro h
    apply Nat.eq_of_testBit_eq; intro i
    have : (a ^^^ b).testBit i = false := by rw [h]; exact Nat.zero_testBit i
    rw [Nat.testBit_xor] at this
    cases ha : a.testBit i <;> cases hb : b.testBit i <;> simp_all
  · intro h; subst h; exact Nat.xor_self a
theorem equal_any (a b : Nat) (ha : a < 18446744073709551616) (hb : b < 18446744073709551616) (w : World) :
    Calls Try.prog 10 #[.int .u64 (a : Int), .int .u64 (b : Int)] w fun e w' => e = .returned (.int .u64 ((msk (decide (a = b)) : Nat) : Int)) ∧ w' = w := by
  have hx := xor_lt ha hb
  have hz := fun w => zero_any (a ^^^ b) hx w
  rw [xor_zero, ← bits_xor_u64_nat a b ha hb] at hz
  go_enter Try.func10, Try.ntmps10
  go_wp2_with (go_at_call 8; refine (hz _).mono ?_; rintro e w' ⟨rfl, rfl⟩)
  go_ret
  exact ⟨rfl, rfl⟩

theorem less_any (a b : Nat) (hb : b < 18446744073709551616) (w : World) :
    Calls Try.prog 11 #[.int .u64 (a : Int), .int .u64 (b : Int)] w fun e w' => e = .returned (.int .u64 ((msk (decide (a < b)) : Nat) : Int)) ∧ w' = w := by
  have hs := fun w => sub64 (a : Int) (b : Int) 0 (by omega) (by omega) (by omega) (by decide) (by decide) w
  generalize ((a : Int) - (b : Int) - 0) % 18446744073709551616 = d at hs
  have key : ∃ k : Nat, k ≤ 1 ∧ (if (a : Int) < (b : Int) + 0 then 1 else 0 : Int) = (k : Int) ∧ (18446744073709551616 - k) % 18446744073709551616 = msk (decide (a < b)) := by
    by_cases h : a < b
    · exact ⟨1, by omega, by rw [if_pos (by omega)]; rfl, by rw [decide_eq_true h]; rfl⟩
    · exact ⟨0, by omega, by rw [if_neg (by omega)]; rfl, by rw [decide_eq_false h]; rfl⟩
  obtain ⟨k, hk, e1, e2⟩ := key
  rw [e1] at hs
  have hp := fun w => spread_any k (by omega) w
  rw [e2] at hp
  clear hk e1 e2 hb
  go_enter Try.func11, Try.ntmps11
  go_wp2_with (go_at_call 17; refine (hp _).mono ?_; rintro e w' ⟨rfl, rfl⟩)
  go_ret
  exact ⟨rfl, rfl⟩

theorem all_any (p : Bool) (w : World) :
    Calls Try.prog 9 #[.bool p] w fun e w' => e = .returned (.int .u64 ((msk p : Nat) : Int)) ∧ w' = w := by
  cases p
  all_goals
    go_enter Try.func9, Try.ntmps9
    go_wp2
    go_ret
    exact ⟨rfl, rfl⟩

theorem between_any (m x y : Nat) (hm : m < 18446744073709551616) (hx : x < 18446744073709551616) (hy : y < 18446744073709551616) (w : World) :
    Calls Try.prog 20 #[.int .u64 (m : Int), .int .u64 (x : Int), .int .u64 (y : Int)] w fun e w' => e = .returned (.int .u64 ((sel m x y : Nat) : Int)) ∧ w' = w := by
  rw [← between_val m x y hm hx hy]
  go_enter Try.func20, Try.ntmps20
  go_wp2
  go_ret
  exact ⟨rfl, rfl⟩
end Go.Proofs.Ythfndlhjhlmcfaa
