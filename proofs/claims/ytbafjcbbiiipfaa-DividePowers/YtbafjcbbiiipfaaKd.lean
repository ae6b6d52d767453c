/-
  Plain arithmetic of a digit's guess by two digits of the divisor (math/bits.Div64, the documents' step). No Go text is walked here.
-/
import Derived.Test.YtbafjcbbiiipfaaKn
namespace Go.Proofs.Ytbafjcbbiiipfaa
open Go.RowKit

/-- What a guess d of the digit q keeps: x is what two digits hold, r its rest by the highest digit. -/
def Gs (x v q d r : Nat) : Prop := x = d * v + r ∧ q ≤ d
/-- What the guess comes to. -/
def Gf (x v1 v0 u0 q d : Nat) : Prop := q ≤ d ∧ d < 4294967296 ∧ d * (v1 * 4294967296 + v0) ≤ x * 4294967296 + u0
theorem gs_start (x v q : Nat) (hv : 0 < v) (h : q * v ≤ x) : Gs x v q (x / v) (x % v) := by
  refine ⟨?_, ?_⟩
  · have := Nat.div_add_mod x v
    rw [Nat.mul_comm] at this
    exact this.symm
  · rw [Nat.le_div_iff_mul_le hv]
    exact h
theorem gs_dec (x v1 v0 u0 q d r : Nat) (h : Gs x v1 q d r) (hq : q < 4294967296) (hX : q * (v1 * 4294967296 + v0) ≤ x * 4294967296 + u0) (ht : 4294967296 ≤ d ∨ r * 4294967296 + u0 < d * v0) :
    0 < d ∧ Gs x v1 q (d - 1) (r + v1) := by
  obtain ⟨h1, h2⟩ := h
  have hlt : q < d := by
    rcases ht with ht | ht
    · omega
    · by_cases hc : q < d
      · exact hc
      · exfalso
        obtain rfl : q = d := by omega
        have e : q * (v1 * 4294967296 + v0) = q * v1 * 4294967296 + q * v0 := by grind
        rw [e] at hX
        rw [h1, Nat.add_mul] at hX
        omega
  refine ⟨by omega, ?_, by omega⟩
  obtain ⟨n, rfl⟩ : ∃ n, d = n + 1 := ⟨d - 1, by omega⟩
  rw [h1, Nat.add_sub_cancel, Nat.add_mul]
  omega
theorem gs_break (x v1 v0 u0 q d r : Nat) (h0 : v0 < 4294967296) (h : Gs x v1 q d r) (hr : 4294967296 ≤ r) (hx : x ≤ v1 * 4294967296 + 4294967295) : Gf x v1 v0 u0 q d := by
  obtain ⟨h1, h2⟩ := h
  have hd : d < 4294967296 := by
    have : d * v1 < 4294967296 * v1 := by omega
    exact Nat.lt_of_mul_lt_mul_right this
  refine ⟨h2, hd, ?_⟩
  have h3 : d * v0 ≤ 4294967295 * 4294967295 := Nat.mul_le_mul (by omega) (by omega)
  have e : d * (v1 * 4294967296 + v0) = d * v1 * 4294967296 + d * v0 := by grind
  rw [e, h1, Nat.add_mul]
  omega
theorem gs_stop (x v1 v0 u0 q d r : Nat) (h : Gs x v1 q d r) (h1 : d < 4294967296) (h2 : d * v0 ≤ r * 4294967296 + u0) : Gf x v1 v0 u0 q d := by
  obtain ⟨h3, h4⟩ := h
  refine ⟨h4, h1, ?_⟩
  have e : d * (v1 * 4294967296 + v0) = d * v1 * 4294967296 + d * v0 := by grind
  rw [e, h3, Nat.add_mul]
  omega
/-- By a divisor of two digits the guess is the quotient. -/
theorem gf_two (x v1 v0 u0 y d : Nat) (hy : y = v1 * 4294967296 + v0) (h0 : 0 < y) (h : Gf x v1 v0 u0 ((x * 4294967296 + u0) / y) d) : d = (x * 4294967296 + u0) / y := by
  obtain ⟨h1, h2, h3⟩ := h
  rw [← hy, ← Nat.le_div_iff_mul_le h0] at h3
  omega
/-- Two digits of a quotient. -/
theorem two_digits (h l1 l0 y q1 q0 r : Nat) (hy : 0 < y) (e1 : q1 = (h * 4294967296 + l1) / y) (er : r = (h * 4294967296 + l1) % y) (e0 : q0 = (r * 4294967296 + l0) / y) :
    (h * 18446744073709551616 + (l1 * 4294967296 + l0)) / y = q1 * 4294967296 + q0 := by
  have hd := Nat.div_add_mod (h * 4294967296 + l1) y
  rw [← e1, ← er] at hd
  have e : h * 18446744073709551616 + (l1 * 4294967296 + l0) = r * 4294967296 + l0 + y * (q1 * 4294967296) := by
    have : (h * 4294967296 + l1) * 4294967296 = (y * q1 + r) * 4294967296 := by rw [hd]
    grind
  rw [e, Nat.add_mul_div_left _ _ hy, ← e0, Nat.add_comm]

end Go.Proofs.Ytbafjcbbiiipfaa
