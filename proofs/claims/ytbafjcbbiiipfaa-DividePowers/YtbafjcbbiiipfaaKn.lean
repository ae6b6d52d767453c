/-
  Plain arithmetic of long division, word by word. No Go text is walked here.
-/
import Derived.Test.YtbafjcbbiiipfaaNumM
import Derived.Test.YtbafjcbbiiipfaaNumS
namespace Go.Proofs.Ytbafjcbbiiipfaa
open Go.RowKit

theorem wset_eq (V p x : Nat) : wset V p x + wd V p * pw p = V + x * pw p := by
  have h := parts V p
  unfold wset
  omega
/-- A row's word that is taken down. -/
theorem sub_step (V0 V D t o i carry bor y low carry' bor' : Nat) (h : V + t * (D % pw i) * pw o = V0 + (carry + bor) * pw (o + i))
    (hl : low + carry' * 18446744073709551616 = t * wd D i + carry) (hy : y + low + bor = wd V (o + i) + bor' * 18446744073709551616) :
    wset V (o + i) y + t * (D % pw (i + 1)) * pw o = V0 + (carry' + bor') * pw (o + (i + 1)) := by
  have h1 := wset_eq V (o + i) y
  rw [mod_succ, show o + (i + 1) = o + i + 1 from rfl, pow_succ64]
  have h2 : pw (o + i) = pw o * pw i := pw_add o i
  generalize pw (o + i) = P at *
  generalize D % pw i = E at *
  generalize pw o = Q at *
  generalize pw i = R at *
  generalize wd D i = d at *
  generalize wd V (o + i) = x at *
  generalize wset V (o + i) y = Z at *
  subst h2
  grind
theorem sub_last (V0 V E t o k carry bor y bor' : Nat) (h : V + t * E * pw o = V0 + (carry + bor) * pw (o + k))
    (hy : y + carry + bor = wd V (o + k) + bor' * 18446744073709551616) :
    wset V (o + k) y + t * E * pw o = V0 + bor' * pw (o + (k + 1)) := by
  have h1 := wset_eq V (o + k) y
  rw [show o + (k + 1) = o + k + 1 from rfl, pow_succ64]
  generalize pw (o + k) = P at *
  generalize pw o = Q at *
  generalize wd V (o + k) = x at *
  generalize wset V (o + k) y = Z at *
  grind
theorem back_step (V0 V D o i c y c' : Nat) (h : V + c * pw (o + i) = V0 + (D % pw i) * pw o)
    (hy : y + c' * 18446744073709551616 = wd V (o + i) + wd D i + c) :
    wset V (o + i) y + c' * pw (o + (i + 1)) = V0 + (D % pw (i + 1)) * pw o := by
  have h1 := wset_eq V (o + i) y
  rw [mod_succ, show o + (i + 1) = o + i + 1 from rfl, pow_succ64]
  have h2 : pw (o + i) = pw o * pw i := pw_add o i
  generalize pw (o + i) = P at *
  generalize D % pw i = E at *
  generalize pw o = Q at *
  generalize pw i = R at *
  generalize wd D i = d at *
  generalize wd V (o + i) = x at *
  generalize wset V (o + i) y = Z at *
  subst h2
  grind
theorem back_last (V0 V E o k c y c' : Nat) (h : V + c * pw (o + k) = V0 + E * pw o)
    (hy : y + c' * 18446744073709551616 = wd V (o + k) + c) :
    wset V (o + k) y + c' * pw (o + (k + 1)) = V0 + E * pw o := by
  have h1 := wset_eq V (o + k) y
  rw [show o + (k + 1) = o + k + 1 from rfl, pow_succ64]
  generalize pw (o + k) = P at *
  generalize pw o = Q at *
  generalize wd V (o + k) = x at *
  generalize wset V (o + k) y = Z at *
  grind
theorem div_step2 (a j : Nat) : a / pw j = a / pw (j + 1) * 18446744073709551616 + wd a j := by
  unfold wd
  rw [pow_succ64, ← Nat.div_div_eq_div_mul]
  have := Nat.div_add_mod (a / pw j) 18446744073709551616
  omega
theorem top_one (V j : Nat) (h : V < pw (j + 1)) : V / pw j = wd V j := by
  rw [div_step2 V j, Nat.div_eq_of_lt h, Nat.zero_mul, Nat.zero_add]
theorem top_two (V j : Nat) (h : V < pw (j + 2)) : V / pw j = wd V (j + 1) * 18446744073709551616 + wd V j := by
  rw [div_step2 V j, top_one V (j + 1) h]
/-- A guess from the highest words is never too small. -/
theorem guess_ge (V D P1 Po top : Nat) (hP1 : 0 < P1) (hPo : 0 < Po) (ht : 0 < top) (hD : top * P1 ≤ D) : V / (D * Po) ≤ V / (P1 * Po) / top := by
  rw [Nat.le_div_iff_mul_le ht, Nat.le_div_iff_mul_le (Nat.mul_pos hP1 hPo)]
  have h := Nat.div_mul_le_self V (D * Po)
  generalize V / (D * Po) = q at *
  have h1 : q * (top * P1 * Po) ≤ q * (D * Po) := Nat.mul_le_mul_left _ (Nat.mul_le_mul_right _ hD)
  have e : q * top * (P1 * Po) = q * (top * P1 * Po) := by grind
  rw [e]
  omega
theorem guess_word (V D n o : Nat) (hD : D < pw (n + 1)) (hV : V < pw (o + n + 2)) (ht : 0 < wd D n) :
    V / (D * pw o) ≤ (wd V (o + n + 1) * 18446744073709551616 + wd V (o + n)) / wd D n := by
  have h1 := top_two V (o + n) hV
  have h2 : wd D n * pw n ≤ D := by rw [← top_one D n hD]; exact Nat.div_mul_le_self _ _
  have h3 := guess_ge V D (pw n) (pw o) (wd D n) (pw_pos n) (pw_pos o) ht h2
  rw [← pw_add, Nat.add_comm n o, h1] at h3
  exact h3
/-- No quotient is beyond a word. -/
theorem guess_full (V D o : Nat) (hV : V < D * pw (o + 1)) : V / (D * pw o) ≤ 18446744073709551615 := by
  have h : V / (D * pw o) < 18446744073709551616 := by
    rw [pow_succ64] at hV
    by_cases h0 : 0 < D * pw o
    · rw [Nat.div_lt_iff_lt_mul h0]
      have e : 18446744073709551616 * (D * pw o) = D * (pw o * 18446744073709551616) := by grind
      omega
    · rw [show D * pw o = 0 from by omega, Nat.div_zero]
      decide
  omega
/-- A guess that is not too small, and its rest. -/
theorem take_ok (V U t Z : Nat) (hU : 0 < U) (ht : V / U ≤ t) (h : Z + t * U = V) : Z < U := by
  have h1 := Nat.lt_div_mul_add (a := V) hU
  have h2 : V / U * U ≤ t * U := Nat.mul_le_mul_right _ ht
  omega
theorem take_pos (V U R t Z : Nat) (hZ : Z < R) (h : Z + t * U = V + R) : 0 < t := by
  cases t with
  | zero => omega
  | succ n => omega
theorem take_back (V U R t Z Y c : Nat) (ht : 0 < t) (h : Z + t * U = V + R) (hb : Y + c * R = Z + U) : Y + c * R + (t - 1) * U = V + R := by
  obtain ⟨n, rfl⟩ : ∃ n, t = n + 1 := ⟨t - 1, by omega⟩
  rw [Nat.add_sub_cancel]
  rw [Nat.add_mul] at h
  omega
/-- How a quotient grows by a word. -/
theorem split_step (X V Q D o t Z : Nat) (h : X = V + D * Q) (hz : Z + t * (D * pw o) = V) : X = Z + D * (Q + t * pw o) := by
  generalize pw o = P at *
  grind
theorem split_end (W D u Q V m : Nat) (hD : D = m * u) (hu : 0 < u) (h : W * u = V + D * Q) (hV : V < D) : W / m = Q ∧ V / u = W % m := by
  subst hD
  have hm : 0 < m := by
    cases m with
    | zero => rw [Nat.zero_mul] at hV; omega
    | succ n => omega
  have h1 : W = V / u + m * Q := by
    have e : V + m * u * Q = V + m * Q * u := by grind
    rw [e] at h
    have h2 : W * u / u = (V + m * Q * u) / u := by rw [h]
    rw [Nat.mul_div_cancel _ hu, Nat.add_mul_div_right _ _ hu] at h2
    exact h2
  have h3 : V / u < m := by rw [Nat.div_lt_iff_lt_mul hu]; exact hV
  refine ⟨?_, ?_⟩
  · rw [h1, Nat.add_mul_div_left _ _ hm, Nat.div_eq_of_lt h3, Nat.zero_add]
  · rw [h1, Nat.add_mul_mod_self_left, Nat.mod_eq_of_lt h3]

end Go.Proofs.Ytbafjcbbiiipfaa
