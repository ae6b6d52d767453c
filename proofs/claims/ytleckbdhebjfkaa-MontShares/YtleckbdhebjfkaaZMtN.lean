/-
  Plain arithmetic of shifts, word by word. No Go text is walked here.
-/
/-
  Plain arithmetic of long division, word by word. No Go text is walked here.
-/
/-
  Plain arithmetic of a digit's guess by two digits of the divisor (math/bits.Div64, the documents' step). No Go text is walked here.
-/
/-
  Plain arithmetic of Euclid's way with factors. No Go text is walked here.
-/
/-
  Plain arithmetic of Montgomery's way: words cleared from the lowest up; the inverse of an odd word; products with the inverse of R. No Go text is walked here.
-/
/-
  Plain arithmetic of bytes in a number. No Go text is walked here.
-/
import Derived.Laws.Bits64b
import Derived.Test.YtleckbdhebjfkaaZNumM
namespace Go.Proofs.Ytleckbdhebjfkaa
open Go.RowKit

theorem pow64 (p : Nat) (h : p ≤ 64) : 2 ^ (64 - p) * 2 ^ p = 18446744073709551616 := by
  rw [← Nat.pow_add, show 64 - p + p = 64 from by omega]
theorem int_pow (p : Nat) : (2 : Int) ^ p = ((2 ^ p : Nat) : Int) := by simp
theorem or_add (x d p : Nat) (hd : d < 2 ^ p) : x * 2 ^ p ||| d = x * 2 ^ p + d := by
  rw [← Nat.shiftLeft_eq, Nat.shiftLeft_add_eq_or_of_lt hd]
theorem shl_mod (x p : Nat) (hp : p ≤ 64) : x * 2 ^ p % 18446744073709551616 = (x % 2 ^ (64 - p)) * 2 ^ p := by
  rw [← pow64 p hp, Nat.mul_mod_mul_right]
theorem shl_div (x p : Nat) (hp : p ≤ 64) : x * 2 ^ p / 18446744073709551616 = x / 2 ^ (64 - p) := by
  rw [← pow64 p hp, Nat.mul_div_mul_right _ _ (Nat.two_pow_pos p)]
theorem shl_lt (x d p : Nat) (hp : p ≤ 64) (hd : d < 2 ^ p) : x * 2 ^ p % 18446744073709551616 + d < 18446744073709551616 := by
  rw [shl_mod x p hp]
  have h1 := Nat.mod_lt x (Nat.two_pow_pos (64 - p))
  have h2 := pow64 p hp
  have h3 : (x % 2 ^ (64 - p) + 1) * 2 ^ p ≤ 2 ^ (64 - p) * 2 ^ p := Nat.mul_le_mul_right _ h1
  rw [Nat.add_mul] at h3
  omega
theorem pow_lt64 (p : Nat) (hp : p < 64) : 2 ^ p < 18446744073709551616 := by
  have := Nat.pow_lt_pow_right (a := 2) (by decide) hp
  exact this
theorem shl_word (x d p : Nat) (hp : p < 64) (hd : d < 2 ^ p) :
    bits BinOp.or IntKind.u64 (IntKind.u64.wrap ((x : Int) * 2 ^ p)) (d : Int) = ((x * 2 ^ p % 18446744073709551616 + d : Nat) : Int) := by
  have e : IntKind.u64.wrap ((x : Int) * 2 ^ p) = ((x * 2 ^ p % 18446744073709551616 : Nat) : Int) := by
    rw [IntKind.wrap_u64, int_pow, ← Int.natCast_mul]; omega
  have h1 := pow_lt64 p hp
  rw [e, bits_or_u64_nat _ _ (Nat.mod_lt _ (by decide)) (by omega), shl_mod x p (by omega), or_add _ _ _ hd]
theorem shl_carry (x p : Nat) (hp : p < 64) : (x : Int) / 2 ^ (64 - p) = ((x * 2 ^ p / 18446744073709551616 : Nat) : Int) := by
  rw [shl_div x p (by omega), int_pow, ← Int.natCast_ediv]
theorem shl_carry_lt (x p : Nat) (hx : x < 18446744073709551616) : x * 2 ^ p / 18446744073709551616 < 2 ^ p := by
  rw [Nat.div_lt_iff_lt_mul (by decide), Nat.mul_comm]
  exact Nat.mul_lt_mul_of_pos_left hx (Nat.two_pow_pos p)
theorem shl_step (a s p j U d : Nat) (h : U + d * pw (s + j) = (a % pw j) * (pw s * 2 ^ p)) :
    U + (wd a j * 2 ^ p % 18446744073709551616 + d) * pw (s + j) + wd a j * 2 ^ p / 18446744073709551616 * pw (s + (j + 1)) = (a % pw (j + 1)) * (pw s * 2 ^ p) := by
  have hd := Nat.div_add_mod (wd a j * 2 ^ p) 18446744073709551616
  rw [mod_succ, Nat.add_mul (a % pw j), ← h]
  have e1 : wd a j * pw j * (pw s * 2 ^ p) = wd a j * 2 ^ p * pw (s + j) := by
    rw [pw_add, Nat.mul_assoc, Nat.mul_assoc, ← Nat.mul_assoc (pw j), Nat.mul_comm (pw j * pw s), Nat.mul_comm (pw j)]
  rw [e1, show s + (j + 1) = s + j + 1 from rfl, pow_succ64]
  generalize wd a j * 2 ^ p = m at *
  generalize m / 18446744073709551616 = q at *
  generalize m % 18446744073709551616 = r at *
  generalize pw (s + j) = P at *
  have e2 : (18446744073709551616 * q + r) * P = m * P := by rw [hd]
  rw [Nat.add_mul] at e2
  have e3 : q * (P * 18446744073709551616) = 18446744073709551616 * q * P := by
    rw [Nat.mul_comm P, ← Nat.mul_assoc, Nat.mul_comm q]
  rw [e3, Nat.add_mul]
  omega
theorem shl_next_lt (U x n : Nat) (hU : U < pw n) (hx : x < 18446744073709551616) : U + x * pw n < pw (n + 1) := by
  rw [pow_succ64]
  have : x * pw n ≤ 18446744073709551615 * pw n := Nat.mul_le_mul_right _ (by omega)
  omega
theorem shl_end (a s p j U d : Nat) (hsj : s + j = 9) (hU : U < pw (s + j)) (h : U + d * pw (s + j) = (a % pw j) * (pw s * 2 ^ p)) : a * 2 ^ (64 * s + p) % M = U := by
  have hM : pw (s + j) = M := by rw [hsj]; rfl
  have hd := Nat.div_add_mod a (pw j)
  have e : a * 2 ^ (64 * s + p) = U + (d + a / pw j * 2 ^ p) * M := by
    rw [Nat.pow_add, show 2 ^ (64 * s) = pw s from rfl]
    have e1 : a * (pw s * 2 ^ p) = (pw j * (a / pw j) + a % pw j) * (pw s * 2 ^ p) := by rw [hd]
    rw [e1, Nat.add_mul, ← h, Nat.add_mul, hM, ← hM, pw_add]
    have e2 : pw j * (a / pw j) * (pw s * 2 ^ p) = a / pw j * 2 ^ p * (pw s * pw j) := by
      rw [Nat.mul_comm (pw j), Nat.mul_assoc, Nat.mul_assoc, ← Nat.mul_assoc (pw j), Nat.mul_comm (pw j * pw s), Nat.mul_comm (pw j)]
    rw [e2]
    omega
  rw [e, Nat.add_mul_mod_self_right, Nat.mod_eq_of_lt (by rw [← hM]; exact hU)]

/-! ### to the right -/
theorem shr_word (x A p : Nat) (hx : x < 18446744073709551616) (hp : p < 64) :
    bits BinOp.or IntKind.u64 ((x : Int) / 2 ^ p) (((A % 2 ^ p) * 2 ^ (64 - p) : Nat) : Int) = ((x / 2 ^ p + (A % 2 ^ p) * 2 ^ (64 - p) : Nat) : Int) := by
  have h1 := Nat.mod_lt A (Nat.two_pow_pos p)
  have h2 := pow64 p (by omega)
  have h3 : (A % 2 ^ p + 1) * 2 ^ (64 - p) ≤ 2 ^ p * 2 ^ (64 - p) := Nat.mul_le_mul_right _ h1
  rw [Nat.add_mul, Nat.mul_comm (2 ^ p), h2] at h3
  have h4 := Nat.two_pow_pos (64 - p)
  have h5 : x / 2 ^ p < 2 ^ (64 - p) := by rw [Nat.div_lt_iff_lt_mul (Nat.two_pow_pos p), h2]; exact hx
  have h6 : x / 2 ^ p ≤ x := Nat.div_le_self _ _
  rw [int_pow, ← Int.natCast_ediv, bits_or_u64_nat _ _ (by omega) (by omega), Nat.or_comm, or_add _ _ _ h5, Nat.add_comm]
theorem shr_carry (x p : Nat) (hp : p < 64) : IntKind.u64.wrap ((x : Int) * 2 ^ (64 - p)) = (((x % 2 ^ p) * 2 ^ (64 - p) : Nat) : Int) := by
  have e := shl_mod x (64 - p) (by omega)
  rw [show 64 - (64 - p) = p from by omega] at e
  rw [← e, IntKind.wrap_u64, int_pow, ← Int.natCast_mul]
  omega
theorem shr_word_lt (x A p : Nat) (hx : x < 18446744073709551616) (hp : p < 64) : x / 2 ^ p + (A % 2 ^ p) * 2 ^ (64 - p) < 18446744073709551616 := by
  have h1 := Nat.mod_lt A (Nat.two_pow_pos p)
  have h2 := pow64 p (by omega)
  have h3 : (A % 2 ^ p + 1) * 2 ^ (64 - p) ≤ 2 ^ p * 2 ^ (64 - p) := Nat.mul_le_mul_right _ h1
  rw [Nat.add_mul, Nat.mul_comm (2 ^ p), h2] at h3
  have h5 : x / 2 ^ p < 2 ^ (64 - p) := by rw [Nat.div_lt_iff_lt_mul (Nat.two_pow_pos p), h2]; exact hx
  omega
/-- What is above word n, and word n beside it. -/
theorem shr_div (A x p : Nat) (hp : p < 64) : (A * 18446744073709551616 + x) / 2 ^ p = A / 2 ^ p * 18446744073709551616 + (x / 2 ^ p + (A % 2 ^ p) * 2 ^ (64 - p)) := by
  have h2 := pow64 p (by omega)
  have h3 := Nat.div_add_mod A (2 ^ p)
  have e : A * 18446744073709551616 + x = x + A * 2 ^ (64 - p) * 2 ^ p := by rw [Nat.mul_assoc, h2]; omega
  rw [e, Nat.add_mul_div_right _ _ (Nat.two_pow_pos p)]
  have e2 : A * 2 ^ (64 - p) = A / 2 ^ p * 18446744073709551616 + (A % 2 ^ p) * 2 ^ (64 - p) := by
    rw [← h2, Nat.mul_comm (2 ^ (64 - p)), ← Nat.mul_assoc, ← Nat.add_mul, Nat.mul_comm (A / 2 ^ p), h3]
  rw [e2]
  omega
theorem shr_mod (A x p : Nat) (hp : p < 64) : (A * 18446744073709551616 + x) % 2 ^ p = x % 2 ^ p := by
  have h2 := pow64 p (by omega)
  rw [← h2, ← Nat.mul_assoc, Nat.add_comm, Nat.add_mul_mod_self_right]
theorem div_step' (a j : Nat) : a / pw j = a / pw (j + 1) * 18446744073709551616 + wd a j := by
  have h := Nat.div_add_mod (a / pw j) 18446744073709551616
  rw [pow_succ64, ← Nat.div_div_eq_div_mul, wd]
  omega
/-- The array behind one round more. -/
theorem shr_step (a p n m : Nat) (hp : p < 64) :
    a / pw (n + 1) / 2 ^ p * pw (m + 1) + (wd a n / 2 ^ p + (a / pw (n + 1) % 2 ^ p) * 2 ^ (64 - p)) * pw m = a / pw n / 2 ^ p * pw m := by
  rw [div_step' a n, shr_div _ _ p hp, pow_succ64 m]
  generalize wd a n / 2 ^ p + (a / pw (n + 1) % 2 ^ p) * 2 ^ (64 - p) = t
  generalize a / pw (n + 1) / 2 ^ p = H
  rw [Nat.add_mul, Nat.mul_comm (pw m), Nat.mul_assoc]
/-- A store below words that are whole. -/
theorem nw_set_low (N H m x : Nat) (hx : x < 18446744073709551616) : (nw N (H * pw (m + 1))).setIfInBounds m (Value.int .u64 (x : Int)) = nw N (H * pw (m + 1) + x * pw m) := by
  have e1 : H * pw (m + 1) % pw m = 0 := by rw [pow_succ64, ← Nat.mul_assoc, Nat.mul_right_comm, Nat.mul_mod_left]
  have e2 : H * pw (m + 1) / pw (m + 1) = H := Nat.mul_div_cancel _ (pw_pos _)
  rw [nw_set N _ m x hx, e1, e2, Nat.zero_add, Nat.add_comm]

end Go.Proofs.Ytleckbdhebjfkaa
namespace Go.Proofs.Ytleckbdhebjfkaa
open Go.RowKit

theorem wset_eq (V p x : Nat) : wset V p x + wd V p * pw p = V + x * pw p := by
  have h := parts V p
  unfold wset
  omega
/-- A row's word that is taken down. -/
theorem sub_step (V0 V D t o i carry bor y low carry' bor' : Nat) (h : V + t * (D % pw i) * pw o = V0 + (carry + bor) * pw (o + i))
    (hl : low + carry' * 18446744073709551616 = t * wd D i + carry) (hy : y + low + bor = wd V (o + i) + bor' * 18446744073709551616) :
    wset V (o + i) y + t * (D % pw (i + 1)) * pw o = V0 + (carry' + bor') * pw (o + (i + 1)) := by
  have h1 := wset_eq V (o + i) y
  rw [mod_succ, show o + (i + 1) = o + i + 1 from rfl, pow_succ64]
  have h2 : pw (o + i) = pw o * pw i := pw_add o i
  generalize pw (o + i) = P at *
  generalize D % pw i = E at *
  generalize pw o = Q at *
  generalize pw i = R at *
  generalize wd D i = d at *
  generalize wd V (o + i) = x at *
  generalize wset V (o + i) y = Z at *
  subst h2
  grind
theorem sub_last (V0 V E t o k carry bor y bor' : Nat) (h : V + t * E * pw o = V0 + (carry + bor) * pw (o + k))
    (hy : y + carry + bor = wd V (o + k) + bor' * 18446744073709551616) :
    wset V (o + k) y + t * E * pw o = V0 + bor' * pw (o + (k + 1)) := by
  have h1 := wset_eq V (o + k) y
  rw [show o + (k + 1) = o + k + 1 from rfl, pow_succ64]
  generalize pw (o + k) = P at *
  generalize pw o = Q at *
  generalize wd V (o + k) = x at *
  generalize wset V (o + k) y = Z at *
  grind
theorem back_step (V0 V D o i c y c' : Nat) (h : V + c * pw (o + i) = V0 + (D % pw i) * pw o)
    (hy : y + c' * 18446744073709551616 = wd V (o + i) + wd D i + c) :
    wset V (o + i) y + c' * pw (o + (i + 1)) = V0 + (D % pw (i + 1)) * pw o := by
  have h1 := wset_eq V (o + i) y
  rw [mod_succ, show o + (i + 1) = o + i + 1 from rfl, pow_succ64]
  have h2 : pw (o + i) = pw o * pw i := pw_add o i
  generalize pw (o + i) = P at *
  generalize D % pw i = E at *
  generalize pw o = Q at *
  generalize pw i = R at *
  generalize wd D i = d at *
  generalize wd V (o + i) = x at *
  generalize wset V (o + i) y = Z at *
  subst h2
  grind
theorem back_last (V0 V E o k c y c' : Nat) (h : V + c * pw (o + k) = V0 + E * pw o)
    (hy : y + c' * 18446744073709551616 = wd V (o + k) + c) :
    wset V (o + k) y + c' * pw (o + (k + 1)) = V0 + E * pw o := by
  have h1 := wset_eq V (o + k) y
  rw [show o + (k + 1) = o + k + 1 from rfl, pow_succ64]
  generalize pw (o + k) = P at *
  generalize pw o = Q at *
  generalize wd V (o + k) = x at *
  generalize wset V (o + k) y = Z at *
  grind
theorem div_step2 (a j : Nat) : a / pw j = a / pw (j + 1) * 18446744073709551616 + wd a j := by
  unfold wd
  rw [pow_succ64, ← Nat.div_div_eq_div_mul]
  have := Nat.div_add_mod (a / pw j) 18446744073709551616
  omega
theorem top_one (V j : Nat) (h : V < pw (j + 1)) : V / pw j = wd V j := by
  rw [div_step2 V j, Nat.div_eq_of_lt h, Nat.zero_mul, Nat.zero_add]
theorem top_two (V j : Nat) (h : V < pw (j + 2)) : V / pw j = wd V (j + 1) * 18446744073709551616 + wd V j := by
  rw [div_step2 V j, top_one V (j + 1) h]
/-- A guess from the highest words is never too small. -/
theorem guess_ge (V D P1 Po top : Nat) (hP1 : 0 < P1) (hPo : 0 < Po) (ht : 0 < top) (hD : top * P1 ≤ D) : V / (D * Po) ≤ V / (P1 * Po) / top := by
  rw [Nat.le_div_iff_mul_le ht, Nat.le_div_iff_mul_le (Nat.mul_pos hP1 hPo)]
  have h := Nat.div_mul_le_self V (D * Po)
  generalize V / (D * Po) = q at *
  have h1 : q * (top * P1 * Po) ≤ q * (D * Po) := Nat.mul_le_mul_left _ (Nat.mul_le_mul_right _ hD)
  have e : q * top * (P1 * Po) = q * (top * P1 * Po) := by grind
  rw [e]
  omega
theorem guess_word (V D n o : Nat) (hD : D < pw (n + 1)) (hV : V < pw (o + n + 2)) (ht : 0 < wd D n) :
    V / (D * pw o) ≤ (wd V (o + n + 1) * 18446744073709551616 + wd V (o + n)) / wd D n := by
  have h1 := top_two V (o + n) hV
  have h2 : wd D n * pw n ≤ D := by rw [← top_one D n hD]; exact Nat.div_mul_le_self _ _
  have h3 := guess_ge V D (pw n) (pw o) (wd D n) (pw_pos n) (pw_pos o) ht h2
  rw [← pw_add, Nat.add_comm n o, h1] at h3
  exact h3
/-- No quotient is beyond a word. -/
theorem guess_full (V D o : Nat) (hV : V < D * pw (o + 1)) : V / (D * pw o) ≤ 18446744073709551615 := by
  have h : V / (D * pw o) < 18446744073709551616 := by
    rw [pow_succ64] at hV
    by_cases h0 : 0 < D * pw o
    · rw [Nat.div_lt_iff_lt_mul h0]
      have e : 18446744073709551616 * (D * pw o) = D * (pw o * 18446744073709551616) := by grind
      omega
    · rw [show D * pw o = 0 from by omega, Nat.div_zero]
      decide
  omega
/-- A guess that is not too small, and its rest. -/
theorem take_ok (V U t Z : Nat) (hU : 0 < U) (ht : V / U ≤ t) (h : Z + t * U = V) : Z < U := by
  have h1 := Nat.lt_div_mul_add (a := V) hU
  have h2 : V / U * U ≤ t * U := Nat.mul_le_mul_right _ ht
  omega
theorem take_pos (V U R t Z : Nat) (hZ : Z < R) (h : Z + t * U = V + R) : 0 < t := by
  cases t with
  | zero => omega
  | succ n => omega
theorem take_back (V U R t Z Y c : Nat) (ht : 0 < t) (h : Z + t * U = V + R) (hb : Y + c * R = Z + U) : Y + c * R + (t - 1) * U = V + R := by
  obtain ⟨n, rfl⟩ : ∃ n, t = n + 1 := ⟨t - 1, by omega⟩
  rw [Nat.add_sub_cancel]
  rw [Nat.add_mul] at h
  omega
/-- How a quotient grows by a word. -/
theorem split_step (X V Q D o t Z : Nat) (h : X = V + D * Q) (hz : Z + t * (D * pw o) = V) : X = Z + D * (Q + t * pw o) := by
  generalize pw o = P at *
  grind
theorem split_end (W D u Q V m : Nat) (hD : D = m * u) (hu : 0 < u) (h : W * u = V + D * Q) (hV : V < D) : W / m = Q ∧ V / u = W % m := by
  subst hD
  have hm : 0 < m := by
    cases m with
    | zero => rw [Nat.zero_mul] at hV; omega
    | succ n => omega
  have h1 : W = V / u + m * Q := by
    have e : V + m * u * Q = V + m * Q * u := by grind
    rw [e] at h
    have h2 : W * u / u = (V + m * Q * u) / u := by rw [h]
    rw [Nat.mul_div_cancel _ hu, Nat.add_mul_div_right _ _ hu] at h2
    exact h2
  have h3 : V / u < m := by rw [Nat.div_lt_iff_lt_mul hu]; exact hV
  refine ⟨?_, ?_⟩
  · rw [h1, Nat.add_mul_div_left _ _ hm, Nat.div_eq_of_lt h3, Nat.zero_add]
  · rw [h1, Nat.add_mul_mod_self_left, Nat.mod_eq_of_lt h3]

end Go.Proofs.Ytleckbdhebjfkaa
namespace Go.Proofs.Ytleckbdhebjfkaa
open Go.RowKit

/-- What a guess d of the digit q keeps: x is what two digits hold, r its rest by the highest digit. -/
def Gs (x v q d r : Nat) : Prop := x = d * v + r ∧ q ≤ d
/-- What the guess comes to. -/
def Gf (x v1 v0 u0 q d : Nat) : Prop := q ≤ d ∧ d < 4294967296 ∧ d * (v1 * 4294967296 + v0) ≤ x * 4294967296 + u0
theorem gs_start (x v q : Nat) (hv : 0 < v) (h : q * v ≤ x) : Gs x v q (x / v) (x % v) := by
  refine ⟨?_, ?_⟩
  · have := Nat.div_add_mod x v
    rw [Nat.mul_comm] at this
    exact this.symm
  · rw [Nat.le_div_iff_mul_le hv]
    exact h
theorem gs_dec (x v1 v0 u0 q d r : Nat) (h : Gs x v1 q d r) (hq : q < 4294967296) (hX : q * (v1 * 4294967296 + v0) ≤ x * 4294967296 + u0) (ht : 4294967296 ≤ d ∨ r * 4294967296 + u0 < d * v0) :
    0 < d ∧ Gs x v1 q (d - 1) (r + v1) := by
  obtain ⟨h1, h2⟩ := h
  have hlt : q < d := by
    rcases ht with ht | ht
    · omega
    · by_cases hc : q < d
      · exact hc
      · exfalso
        obtain rfl : q = d := by omega
        have e : q * (v1 * 4294967296 + v0) = q * v1 * 4294967296 + q * v0 := by grind
        rw [e] at hX
        rw [h1, Nat.add_mul] at hX
        omega
  refine ⟨by omega, ?_, by omega⟩
  obtain ⟨n, rfl⟩ : ∃ n, d = n + 1 := ⟨d - 1, by omega⟩
  rw [h1, Nat.add_sub_cancel, Nat.add_mul]
  omega
theorem gs_break (x v1 v0 u0 q d r : Nat) (h0 : v0 < 4294967296) (h : Gs x v1 q d r) (hr : 4294967296 ≤ r) (hx : x ≤ v1 * 4294967296 + 4294967295) : Gf x v1 v0 u0 q d := by
  obtain ⟨h1, h2⟩ := h
  have hd : d < 4294967296 := by
    have : d * v1 < 4294967296 * v1 := by omega
    exact Nat.lt_of_mul_lt_mul_right this
  refine ⟨h2, hd, ?_⟩
  have h3 : d * v0 ≤ 4294967295 * 4294967295 := Nat.mul_le_mul (by omega) (by omega)
  have e : d * (v1 * 4294967296 + v0) = d * v1 * 4294967296 + d * v0 := by grind
  rw [e, h1, Nat.add_mul]
  omega
theorem gs_stop (x v1 v0 u0 q d r : Nat) (h : Gs x v1 q d r) (h1 : d < 4294967296) (h2 : d * v0 ≤ r * 4294967296 + u0) : Gf x v1 v0 u0 q d := by
  obtain ⟨h3, h4⟩ := h
  refine ⟨h4, h1, ?_⟩
  have e : d * (v1 * 4294967296 + v0) = d * v1 * 4294967296 + d * v0 := by grind
  rw [e, h3, Nat.add_mul]
  omega
/-- By a divisor of two digits the guess is the quotient. -/
theorem gf_two (x v1 v0 u0 y d : Nat) (hy : y = v1 * 4294967296 + v0) (h0 : 0 < y) (h : Gf x v1 v0 u0 ((x * 4294967296 + u0) / y) d) : d = (x * 4294967296 + u0) / y := by
  obtain ⟨h1, h2, h3⟩ := h
  rw [← hy, ← Nat.le_div_iff_mul_le h0] at h3
  omega
/-- Two digits of a quotient. -/
theorem two_digits (h l1 l0 y q1 q0 r : Nat) (hy : 0 < y) (e1 : q1 = (h * 4294967296 + l1) / y) (er : r = (h * 4294967296 + l1) % y) (e0 : q0 = (r * 4294967296 + l0) / y) :
    (h * 18446744073709551616 + (l1 * 4294967296 + l0)) / y = q1 * 4294967296 + q0 := by
  have hd := Nat.div_add_mod (h * 4294967296 + l1) y
  rw [← e1, ← er] at hd
  have e : h * 18446744073709551616 + (l1 * 4294967296 + l0) = r * 4294967296 + l0 + y * (q1 * 4294967296) := by
    have : (h * 4294967296 + l1) * 4294967296 = (y * q1 + r) * 4294967296 := by rw [hd]
    grind
  rw [e, Nat.add_mul_div_left _ _ hy, ← e0, Nat.add_comm]

end Go.Proofs.Ytleckbdhebjfkaa
namespace Go.Proofs.Ytleckbdhebjfkaa
open Go.RowKit

/-- Euclid's way: the last and this number with their factors, and whether the last one's factor is below 0. -/
def euF : Nat → Nat → Nat → Nat → Nat → Bool → Nat × Nat × Bool
  | 0, lv, lf, _, _, β => (lv, lf, β)
  | n + 1, lv, lf, tv, tf, β => if tv = 0 then (lv, lf, β) else euF n tv tf (lv % tv) (lf + lv / tv * tf) (!β)
/-- The steps given are enough: more of them change nothing. -/
theorem euF_more : ∀ (n k lv lf tv tf : Nat) (β : Bool), tv ≤ n → tv ≤ k → euF n lv lf tv tf β = euF k lv lf tv tf β
  | 0, 0, _, _, _, _, _, _, _ => rfl
  | 0, k + 1, lv, lf, tv, tf, β, h, _ => by
    have e : tv = 0 := by omega
    subst e
    rfl
  | n + 1, 0, lv, lf, tv, tf, β, _, h => by
    have e : tv = 0 := by omega
    subst e
    rfl
  | n + 1, k + 1, lv, lf, tv, tf, β, h1, h2 => by
    show (if tv = 0 then (lv, lf, β) else euF n tv tf (lv % tv) (lf + lv / tv * tf) (!β)) = (if tv = 0 then (lv, lf, β) else euF k tv tf (lv % tv) (lf + lv / tv * tf) (!β))
    by_cases h0 : tv = 0
    · rw [if_pos h0, if_pos h0]
    · have hl := Nat.mod_lt lv (show tv > 0 by omega)
      rw [if_neg h0, if_neg h0, euF_more n k tv tf (lv % tv) _ _ (by omega) (by omega)]
def eu (lv lf tv tf : Nat) (β : Bool) : Nat × Nat × Bool := euF tv lv lf tv tf β
theorem eu_zero (lv lf tf : Nat) (β : Bool) : eu lv lf 0 tf β = (lv, lf, β) := rfl
theorem eu_step (lv lf tv tf : Nat) (β : Bool) (h : 0 < tv) : eu lv lf tv tf β = eu tv tf (lv % tv) (lf + lv / tv * tf) (!β) := by
  obtain ⟨n, rfl⟩ : ∃ n, tv = n + 1 := ⟨tv - 1, by omega⟩
  have hl := Nat.mod_lt lv h
  show (if n + 1 = 0 then (lv, lf, β) else euF n (n + 1) tf (lv % (n + 1)) (lf + lv / (n + 1) * tf) (!β)) = euF (lv % (n + 1)) (n + 1) tf (lv % (n + 1)) (lf + lv / (n + 1) * tf) (!β)
  rw [if_neg (by omega)]
  exact euF_more _ _ _ _ _ _ _ (by omega) (Nat.le_refl _)
def sg (β : Bool) : Int := if β then -1 else 1
theorem sg_not (β : Bool) : sg (!β) = - sg β := by cases β <;> rfl
/-- What Euclid's way keeps. -/
structure EI (a m lv lf tv tf : Nat) (β : Bool) : Prop where
  lt : tv < lv
  sum : lv * tf + tv * lf = m
  le : lf ≤ m
  last : (m : Int) ∣ (a : Int) * lf - sg β * lv
  this : (m : Int) ∣ (a : Int) * tf + sg β * tv
  gcd : Nat.gcd lv tv = Nat.gcd m a
theorem EI.start (a m : Nat) (h : a < m) : EI a m m 0 a 1 true := by
  refine ⟨h, by simp, by omega, ?_, ?_, rfl⟩
  · refine ⟨1, ?_⟩
    simp [sg]
  · refine ⟨0, ?_⟩
    simp [sg]
    omega
theorem EI.step {a m lv lf tv tf : Nat} {β : Bool} (h : EI a m lv lf tv tf β) (h0 : 0 < tv) : EI a m tv tf (lv % tv) (lf + lv / tv * tf) (!β) := by
  have hd := Nat.div_add_mod lv tv
  have hs := h.sum
  have hl := h.lt
  generalize hq : lv / tv = q at *
  generalize hr : lv % tv = r at *
  have hrt : r < tv := by rw [← hr]; exact Nat.mod_lt _ h0
  refine ⟨hrt, ?_, ?_, ?_, ?_, ?_⟩
  · rw [← hs, ← hd]
    grind
  · have h1 : 1 * tf ≤ lv * tf := Nat.mul_le_mul_right _ (by omega)
    omega
  · rw [sg_not]
    obtain ⟨c, hc⟩ := h.this
    exact ⟨c, by rw [← hc]; grind⟩
  · rw [sg_not]
    obtain ⟨c, hc⟩ := h.this
    obtain ⟨d, hd'⟩ := h.last
    refine ⟨d + q * c, ?_⟩
    have hd2 : (lv : Int) = (tv : Int) * q + r := by
      have : ((tv * q + r : Nat) : Int) = (lv : Int) := by rw [hd]
      rw [← this]
      simp
    rw [Int.mul_add, ← hd']
    have e : (m : Int) * (q * c) = q * (m * c) := by grind
    rw [e, ← hc, hd2]
    have e2 : ((lf + q * tf : Nat) : Int) = (lf : Int) + (q : Int) * (tf : Int) := by simp
    rw [e2]
    grind
  · rw [← h.gcd, ← hr, Nat.gcd_comm lv tv, Nat.gcd_rec tv lv, Nat.gcd_comm]
/-- No factor on the way is beyond m. -/
theorem EI.fits {a m lv lf tv tf : Nat} {β : Bool} (h : EI a m lv lf tv tf β) (h0 : 0 < tv) : lf + lv / tv * tf ≤ m := by
  have hs := (h.step h0).sum
  have h1 : 1 * (lf + lv / tv * tf) ≤ tv * (lf + lv / tv * tf) := Nat.mul_le_mul_right _ h0
  omega
theorem EI.fac {a m lv lf tv tf : Nat} {β : Bool} (h : EI a m lv lf tv tf β) : tf ≤ m := by
  have hs := h.sum
  have hl := h.lt
  have h1 : 1 * tf ≤ lv * tf := Nat.mul_le_mul_right _ (by omega)
  omega
theorem EI.val {a m lv lf tv tf : Nat} {β : Bool} (h : EI a m lv lf tv tf β) (h0 : 0 < tf ∨ lv ≤ m) : lv ≤ m := by
  rcases h0 with h0 | h0
  · have hs := h.sum
    have h1 : lv * 1 ≤ lv * tf := Nat.mul_le_mul_left _ h0
    omega
  · exact h0
/-- What it ends with. -/
theorem eu_end (a m : Nat) : ∀ (tv lv lf tf : Nat) (β : Bool), EI a m lv lf tv tf β → ∃ g f δ, eu lv lf tv tf β = (g, f, δ) ∧ g = Nat.gcd m a ∧ f ≤ m ∧ (m : Int) ∣ (a : Int) * f - sg δ * g := by
  intro tv
  induction tv using Nat.strongRecOn with
  | _ tv ih =>
    intro lv lf tf β h
    by_cases h0 : tv = 0
    · subst h0
      refine ⟨lv, lf, β, eu_zero lv lf tf β, ?_, h.le, h.last⟩
      have := h.gcd
      rw [Nat.gcd_zero_right] at this
      exact this
    · rw [eu_step lv lf tv tf β (by omega)]
      exact ih (lv % tv) (Nat.mod_lt _ (by omega)) tv tf (lf + lv / tv * tf) (!β) (h.step (by omega))
theorem inv_pos (x m : Nat) (c : Int) (hm : 1 < m) (h : (x : Int) - 1 = (m : Int) * c) : ∃ k : Nat, x = 1 + m * k := by
  have hc : 0 ≤ c := by
    by_cases hc : 0 ≤ c
    · exact hc
    · exfalso
      have h1 : (m : Int) * c ≤ (m : Int) * (-1) := Int.mul_le_mul_of_nonneg_left (by omega) (by omega)
      omega
  obtain ⟨k, rfl⟩ := Int.eq_ofNat_of_zero_le hc
  refine ⟨k, ?_⟩
  have : (m : Int) * (k : Int) = ((m * k : Nat) : Int) := by simp
  rw [this] at h
  omega
theorem inv_neg (x m : Nat) (c : Int) (h : (x : Int) + 1 = (m : Int) * c) : ∃ k : Nat, x + 1 = m * k := by
  have hc : 0 ≤ c := by
    by_cases hc : 0 ≤ c
    · exact hc
    · exfalso
      have h1 : (m : Int) * c ≤ (m : Int) * 0 := Int.mul_le_mul_of_nonneg_left (by omega) (by omega)
      omega
  obtain ⟨k, rfl⟩ := Int.eq_ofNat_of_zero_le hc
  refine ⟨k, ?_⟩
  have : (m : Int) * (k : Int) = ((m * k : Nat) : Int) := by simp
  rw [this] at h
  omega
/-- The inverse that Euclid's way leads to. -/
theorem inv_of (a m f : Nat) (δ : Bool) (hm : 1 < m) (hf : f ≤ m) (h : (m : Int) ∣ (a : Int) * f - sg δ * 1) :
    (if δ then m - f else f) < m ∧ a * (if δ then m - f else f) % m = 1 := by
  have h1 : 1 % m = 1 := Nat.mod_eq_of_lt hm
  obtain ⟨c, hc⟩ := h
  cases δ with
  | false =>
    simp only [sg, Bool.false_eq_true, if_false, Int.one_mul] at hc ⊢
    obtain ⟨k, hk⟩ := inv_pos (a * f) m c hm (by rw [Int.natCast_mul]; exact hc)
    have hd : a * f % m = 1 := by rw [hk, Nat.add_mul_mod_self_left, h1]
    refine ⟨?_, hd⟩
    by_cases e : f = m
    · subst e; rw [Nat.mul_mod_left] at hd; omega
    · omega
  | true =>
    simp only [sg, if_true] at hc ⊢
    obtain ⟨k, hk⟩ := inv_neg (a * f) m c (by rw [Int.natCast_mul, ← hc]; omega)
    have hd : a * (m - f) % m = 1 := by
      have e : a * (m - f) + m * k = 1 + m * a := by
        rw [← hk, Nat.mul_comm m a]
        have : a * (m - f) + a * f = a * m := by rw [← Nat.mul_add, Nat.sub_add_cancel hf]
        omega
      have e2 : (a * (m - f) + m * k) % m = (1 + m * a) % m := by rw [e]
      rw [Nat.add_mul_mod_self_left, Nat.add_mul_mod_self_left, h1] at e2
      exact e2
    refine ⟨?_, hd⟩
    by_cases e : f = 0
    · subst e; rw [Nat.sub_zero, Nat.mul_mod_left] at hd; omega
    · omega
/-- There is but one inverse. -/
theorem inv_one (a m x y : Nat) (hx : x < m) (hy : y < m) (ex : a * x % m = 1) (ey : a * y % m = 1) : x = y := by
  have h1 : x * (a * y) % m = x % m := by rw [Nat.mul_mod, ey, Nat.mul_one, Nat.mod_mod]
  have h2 : y * (a * x) % m = y % m := by rw [Nat.mul_mod, ex, Nat.mul_one, Nat.mod_mod]
  have e : x * (a * y) = y * (a * x) := by grind
  rw [e, h2, Nat.mod_eq_of_lt hx, Nat.mod_eq_of_lt hy] at h1
  exact h1.symm

end Go.Proofs.Ytleckbdhebjfkaa
namespace Go.Proofs.Ytleckbdhebjfkaa
open Go.RowKit

/-- One word of the modulus, taken so many times, added to the row. -/
theorem cl_step (V0 V m t o i c y c' : Nat) (h : V + c * pw (o + i) = V0 + t * (m % pw i) * pw o)
    (hy : y + c' * 18446744073709551616 = t * wd m i + wd V (o + i) + c) :
    wset V (o + i) y + c' * pw (o + (i + 1)) = V0 + t * (m % pw (i + 1)) * pw o := by
  have h1 := wset_eq V (o + i) y
  rw [mod_succ, show o + (i + 1) = o + i + 1 from rfl, pow_succ64]
  have h2 : pw (o + i) = pw o * pw i := pw_add o i
  generalize pw (o + i) = P at *
  generalize m % pw i = E at *
  generalize pw o = Q at *
  generalize pw i = R at *
  generalize wd m i = d at *
  generalize wd V (o + i) = x at *
  generalize wset V (o + i) y = Z at *
  subst h2
  grind
/-- The word above them, with what was left over. -/
theorem cl_last (V0 V E t o k c v y v' : Nat) (h : V + c * pw (o + k) = V0 + t * E * pw o)
    (hy : y + v' * 18446744073709551616 = wd V (o + k) + c + v) :
    wset V (o + k) y + v' * pw (o + (k + 1)) = V0 + t * E * pw o + v * pw (o + k) := by
  have h1 := wset_eq V (o + k) y
  rw [show o + (k + 1) = o + k + 1 from rfl, pow_succ64]
  generalize pw (o + k) = P at *
  generalize pw o = Q at *
  generalize wd V (o + k) = x at *
  generalize wset V (o + k) y = Z at *
  grind
/-- The factor takes the lowest word away. -/
def Fac (m f : Nat) : Prop := (f * m + 1) % 18446744073709551616 = 0
/-- Where the row stands after i rounds. -/
structure Rd (T m k i V v : Nat) : Prop where
  v1 : v ≤ 1
  lt : V < pw (2 * k)
  low : V % pw i = 0
  eq : ∃ Q, Q < pw i ∧ V + v * pw (i + k) = T + Q * m
theorem Rd.start (T m k : Nat) (h : T < pw (2 * k)) : Rd T m k 0 T 0 := by
  refine ⟨by omega, h, by rw [pw_zero, Nat.mod_one], 0, pw_pos 0, by simp⟩
theorem low_word (x t m f : Nat) (hf : Fac m f) (ht : t = x % 18446744073709551616 * f % 18446744073709551616) : (x + t * m) % 18446744073709551616 = 0 := by
  unfold Fac at hf
  have e : (x + t * m) % 18446744073709551616 = (x * (f * m + 1)) % 18446744073709551616 := by
    have e1 : t * m % 18446744073709551616 = x * f * m % 18446744073709551616 := by
      rw [ht, Nat.mul_mod, Nat.mod_mod, ← Nat.mul_mod, Nat.mul_assoc, Nat.mul_mod, Nat.mod_mod, ← Nat.mul_mod, ← Nat.mul_assoc]
    rw [Nat.add_mod, e1, ← Nat.add_mod]
    congr 1
    grind
  rw [e, Nat.mul_mod, hf, Nat.mul_zero, Nat.zero_mod]
theorem dvd_low (V' v' P A Y v B : Nat) (he : V' + v' * (P * A) = P * Y + v * (P * B)) : V' % P = 0 := by
  have h1 : P ∣ V' + v' * (P * A) := ⟨Y + v * B, by rw [he]; grind⟩
  exact Nat.mod_eq_zero_of_dvd ((Nat.dvd_add_left ⟨v' * A, by grind⟩).1 h1)
theorem Rd.step {T m k i V v f t V' v' : Nat} (h : Rd T m k i V v) (hk : 0 < k) (hi : i < k) (hf : Fac m f) (ht : t = wd V i * f % 18446744073709551616)
    (hv : v' ≤ 1) (hl : V' < pw (2 * k)) (he : V' + v' * pw (i + (k + 1)) = V + t * m * pw i + v * pw (i + k)) : Rd T m k (i + 1) V' v' := by
  obtain ⟨-, -, low, Q, hQ, eq⟩ := h
  refine ⟨hv, hl, ?_, Q + t * pw i, ?_, ?_⟩
  · obtain ⟨X, hX⟩ : ∃ X, V = pw i * X := ⟨V / pw i, by have := Nat.div_add_mod V (pw i); omega⟩
    have hw : wd V i = X % 18446744073709551616 := by
      unfold wd
      rw [hX, Nat.mul_div_cancel_left _ (pw_pos i)]
    have h1 := low_word X t m f hf (by rw [ht, hw])
    obtain ⟨j, rfl⟩ : ∃ j, k = j + 1 := ⟨k - 1, by omega⟩
    have e1 : pw (i + (j + 1)) = pw (i + 1) * pw j := by rw [← pw_add]; exact congrArg pw (by omega)
    have e2 : pw (i + (j + 1 + 1)) = pw (i + 1) * pw (j + 1) := by rw [← pw_add]; exact congrArg pw (by omega)
    obtain ⟨Y, hY⟩ : ∃ Y, X + t * m = 18446744073709551616 * Y := ⟨(X + t * m) / 18446744073709551616, by have := Nat.div_add_mod (X + t * m) 18446744073709551616; omega⟩
    have e3 : V + t * m * pw i = pw (i + 1) * Y := by
      rw [hX, pow_succ64]
      have : pw i * X + t * m * pw i = pw i * (X + t * m) := by grind
      rw [this, hY]
      grind
    rw [e1, e2, e3] at he
    exact dvd_low V' v' (pw (i + 1)) (pw (j + 1)) Y v (pw j) he
  · rw [pow_succ64]
    have : t * pw i ≤ 18446744073709551615 * pw i := Nat.mul_le_mul_right _ (by omega)
    omega
  · rw [show i + 1 + k = i + (k + 1) by omega, he]
    have : (Q + t * pw i) * m = Q * m + t * m * pw i := by grind
    omega
/-- What stands above the words that were cleared. -/
theorem Rd.last {T m k V v : Nat} (h : Rd T m k k V v) (hT : T < m * pw k) :
    ∃ t, t * pw k = wset V (2 * k) v ∧ wset V (2 * k) v < pw (2 * k + 1) ∧ t < 2 * m ∧ t % pw k + v * pw k = t ∧ ∃ Q, t * pw k = T + Q * m := by
  obtain ⟨hv, lt, low, Q, hQ, eq⟩ := h
  have hw : wset V (2 * k) v = V + v * pw (2 * k) := by
    unfold wset
    rw [Nat.mod_eq_of_lt lt, Nat.div_eq_of_lt (Nat.lt_of_lt_of_le lt (pw_mono _ 1))]
    simp
  obtain ⟨X, hX⟩ : ∃ X, V = pw k * X := ⟨V / pw k, by have := Nat.div_add_mod V (pw k); omega⟩
  have e1 : pw (2 * k) = pw k * pw k := by rw [← pw_add]; exact congrArg pw (by omega)
  have hXl : X < pw k := by
    rw [hX, e1] at lt
    exact Nat.lt_of_mul_lt_mul_left lt
  have h1 : (X + v * pw k) * pw k = wset V (2 * k) v := by rw [hw, hX, e1]; grind
  have h2 : (X + v * pw k) * pw k = T + Q * m := by
    rw [h1, hw, show 2 * k = k + k by omega]
    exact eq
  refine ⟨X + v * pw k, h1, ?_, ?_, ?_, Q, h2⟩
  · rw [hw, pow_succ64]
    have : v * pw (2 * k) ≤ 1 * pw (2 * k) := Nat.mul_le_mul_right _ hv
    have := pw_pos (2 * k)
    omega
  · have h3 : Q * m ≤ pw k * m := Nat.mul_le_mul_right _ (by omega)
    have h4 : (X + v * pw k) * pw k < (2 * m) * pw k := by
      rw [h2]
      have : (2 * m) * pw k = m * pw k + pw k * m := by grind
      omega
    exact Nat.lt_of_mul_lt_mul_right h4
  · rw [Nat.add_mul_mod_self_right, Nat.mod_eq_of_lt hXl]
/-- Below the modulus, and with R what it was. -/
theorem red_end (T m k t Q : Nat) (ht : t < 2 * m) (h : t * pw k = T + Q * m) : ∃ r, r = (if t < m then t else t - m) ∧ r < m ∧ r * pw k % m = T % m := by
  refine ⟨_, rfl, ?_, ?_⟩
  · split <;> omega
  · split
    · rw [h, Nat.add_mul_mod_self_right]
    · rename_i hc
      obtain ⟨s, rfl⟩ : ∃ s, t = s + m := ⟨t - m, by omega⟩
      rw [Nat.add_sub_cancel]
      have e : s * pw k % m = (s * pw k + pw k * m) % m := by rw [Nat.add_mul_mod_self_right]
      have e2 : s * pw k + pw k * m = (s + m) * pw k := by grind
      rw [e, e2, h, Nat.add_mul_mod_self_right]

/-! ### the inverse of an odd word -/
theorem inv_round (a x y r : Nat) (h : ((2 ^ r : Nat) : Int) ∣ 1 - (a : Int) * x) (hy : (y : Int) = ((x : Int) * ((2 - (a : Int) * x) % 18446744073709551616)) % 18446744073709551616) (s : Nat) (hs : s ≤ 2 * r) (h64 : s ≤ 64) : ((2 ^ s : Nat) : Int) ∣ 1 - (a : Int) * y := by
  have d1 : ((2 ^ (2 * r) : Nat) : Int) ∣ (1 - (a : Int) * x) * (1 - (a : Int) * x) := by
    rw [show 2 * r = r + r by omega, Nat.pow_add]
    push_cast
    push_cast at h
    exact Int.mul_dvd_mul h h
  have d2 : ((2 ^ s : Nat) : Int) ∣ ((2 ^ (2 * r) : Nat) : Int) := Int.ofNat_dvd.2 (Nat.pow_dvd_pow 2 hs)
  have d3 : ((2 ^ s : Nat) : Int) ∣ (18446744073709551616 : Int) := by
    have : ((2 ^ s : Nat) : Int) ∣ ((2 ^ 64 : Nat) : Int) := Int.ofNat_dvd.2 (Nat.pow_dvd_pow 2 h64)
    exact this
  obtain ⟨c1, e1⟩ : ∃ c : Int, (2 - (a : Int) * x) % 18446744073709551616 = (2 - (a : Int) * x) + 18446744073709551616 * c := ⟨-((2 - (a : Int) * x) / 18446744073709551616), by have := Int.mul_ediv_add_emod (2 - (a : Int) * x) 18446744073709551616; omega⟩
  rw [e1] at hy
  obtain ⟨c2, e2⟩ : ∃ c : Int, ((x : Int) * ((2 - (a : Int) * x) + 18446744073709551616 * c1)) % 18446744073709551616 = (x : Int) * ((2 - (a : Int) * x) + 18446744073709551616 * c1) + 18446744073709551616 * c := ⟨-(((x : Int) * ((2 - (a : Int) * x) + 18446744073709551616 * c1)) / 18446744073709551616), by have := Int.mul_ediv_add_emod ((x : Int) * ((2 - (a : Int) * x) + 18446744073709551616 * c1)) 18446744073709551616; omega⟩
  rw [e2] at hy
  have e3 : 1 - (a : Int) * y = (1 - (a : Int) * x) * (1 - (a : Int) * x) + 18446744073709551616 * (-((a : Int) * x * c1) - a * c2) := by rw [hy]; grind
  rw [e3]
  exact Int.dvd_add (Int.dvd_trans d2 d1) (Int.dvd_mul_of_dvd_left d3)
theorem inv_first (a : Nat) (h : a % 2 = 1) : ((2 ^ 3 : Nat) : Int) ∣ 1 - (a : Int) * a := by
  obtain ⟨q, r, hr, e⟩ : ∃ q r : Nat, r < 8 ∧ a = 8 * q + r := ⟨a / 8, a % 8, Nat.mod_lt _ (by decide), by omega⟩
  have hr2 : r % 2 = 1 := by omega
  have : r = 1 ∨ r = 3 ∨ r = 5 ∨ r = 7 := by omega
  have e2 : (a : Int) * a = 8 * (8 * (q : Int) * q + 2 * q * r) + (r : Int) * r := by rw [e]; push_cast; grind
  rw [e2]
  generalize (8 * (q : Int) * q + 2 * q * r) = z at *
  obtain rfl | rfl | rfl | rfl := this
  all_goals
    rw [show ((2 ^ 3 : Nat) : Int) = 8 from rfl]
    omega
theorem fac_of (m a x f : Nat) (hm : m % 18446744073709551616 = a) (hx : ((2 ^ 64 : Nat) : Int) ∣ 1 - (a : Int) * x) (hf : (f : Int) = (-(x : Int)) % 18446744073709551616) : Fac m f := by
  unfold Fac
  obtain ⟨c, hc⟩ := hx
  obtain ⟨d, hd⟩ : ∃ d : Int, (f : Int) = -(x : Int) + 18446744073709551616 * d := ⟨-(-(x : Int) / 18446744073709551616), by have := Int.mul_ediv_add_emod (-(x : Int)) 18446744073709551616; omega⟩
  obtain ⟨q, hq⟩ : ∃ q : Nat, m = 18446744073709551616 * q + a := ⟨m / 18446744073709551616, by omega⟩
  have e : ((f * m + 1 : Nat) : Int) = 18446744073709551616 * (c + d * m - x * q) := by
    have hc' : 1 - (a : Int) * x = 18446744073709551616 * c := hc
    have hm' : (m : Int) = 18446744073709551616 * q + a := by omega
    rw [Int.natCast_add, Int.natCast_mul, hd, Int.natCast_one]
    grind
  omega

/-! ### products with the inverse of R -/
/-- An odd modulus of k words, and R's inverse by it. -/
structure Mo (m k u : Nat) : Prop where
  odd : m % 2 = 1
  ge : 3 ≤ m
  lt : m < pw k
  k1 : 0 < k
  k9 : k ≤ 9
  ul : u < m
  inv : pw k * u % m = 1
theorem pw_le9 (k : Nat) (h : k ≤ 9) : pw k ≤ M := by
  obtain ⟨d, hd⟩ := Nat.exists_eq_add_of_le h
  unfold M
  rw [hd]
  exact pw_mono k d
theorem Mo.M {m k u : Nat} (h : Mo m k u) : m < M := Nat.lt_of_lt_of_le h.lt (pw_le9 k h.k9)
theorem odd_cop (m e : Nat) (h : m % 2 = 1) : Nat.Coprime (2 ^ e) m := by
  apply Nat.Coprime.pow_left
  have h1 : Nat.gcd 2 m ∣ 2 := Nat.gcd_dvd_left 2 m
  have h2 : Nat.gcd 2 m ∣ m := Nat.gcd_dvd_right 2 m
  have h3 := Nat.le_of_dvd (by decide) h1
  have h4 : Nat.gcd 2 m ≠ 0 := fun h => by rw [h] at h1; omega
  have h5 : Nat.gcd 2 m ≠ 2 := fun h => by rw [h] at h2; omega
  unfold Nat.Coprime
  omega
theorem cop_inv (a m : Nat) (hm : 1 < m) (h : Nat.Coprime a m) : ∃ u, u < m ∧ a * u % m = 1 := by
  have hlt : a % m < m := Nat.mod_lt _ (by omega)
  obtain ⟨g, f, δ, e1, e2, e3, e4⟩ := eu_end (a % m) m (a % m) m 0 1 true (EI.start (a % m) m hlt)
  have hg : g = 1 := by
    have h' : Nat.gcd m a = 1 := by rw [Nat.gcd_comm]; exact h
    rw [Nat.gcd_rec, Nat.gcd_comm] at h'
    rw [e2, Nat.gcd_comm, Nat.gcd_comm]
    exact h'
  subst hg
  obtain ⟨h1, h2⟩ := inv_of (a % m) m f δ hm e3 e4
  exact ⟨_, h1, by rw [← h2, Nat.mul_mod (a % m), Nat.mod_mod, ← Nat.mul_mod]⟩
theorem Mo.ex {m k : Nat} (h1 : m % 2 = 1) (h2 : 3 ≤ m) (h3 : m < pw k) (h4 : 0 < k) (h5 : k ≤ 9) : ∃ u, Mo m k u := by
  obtain ⟨u, hu, e⟩ := cop_inv (pw k) m (by omega) (odd_cop m _ h1)
  exact ⟨u, h1, h2, h3, h4, h5, hu, e⟩
/-- The one number below m whose product with R is T. -/
theorem Mo.red {m k u : Nat} (h : Mo m k u) (T r : Nat) (hr : r < m) (e : r * pw k % m = T % m) : r = T * u % m := by
  have e1 : T * u % m = r * (pw k * u) % m := by
    rw [Nat.mul_mod, ← e, ← Nat.mul_mod, Nat.mul_assoc]
  rw [e1, Nat.mul_mod, h.inv, Nat.mul_one, Nat.mod_mod, Nat.mod_eq_of_lt hr]
theorem mod_mul1 (a b m : Nat) : a % m * b % m = a * b % m := by rw [Nat.mul_mod, Nat.mod_mod, ← Nat.mul_mod]
theorem mod_mul2 (a b m : Nat) : a * (b % m) % m = a * b % m := by rw [Nat.mul_mod, Nat.mod_mod, ← Nat.mul_mod]
/-- a R: what To answers. -/
theorem Mo.to {m k u : Nat} (h : Mo m k u) (a : Nat) : a * (pw k % m * (pw k % m) % m) * u % m = a * pw k % m := by
  have e : a * (pw k % m * (pw k % m) % m) * u % m = a * pw k * (pw k * u) % m := by
    have h1 : a * (pw k % m * (pw k % m) % m) * u = (pw k % m * (pw k % m) % m) * (a * u) := by grind
    rw [h1, mod_mul1, Nat.mul_assoc, mod_mul1]
    have h2 : pw k * (pw k % m * (a * u)) = (pw k % m) * (pw k * (a * u)) := by grind
    rw [h2, mod_mul1]
    congr 1
    grind
  rw [e, Nat.mul_mod, h.inv, Nat.mul_one, Nat.mod_mod]
theorem Mo.un {m k u : Nat} (h : Mo m k u) (a : Nat) : a * pw k * u % m = a % m := by
  rw [Nat.mul_assoc, Nat.mul_mod, h.inv, Nat.mul_one, Nat.mod_mod]

end Go.Proofs.Ytleckbdhebjfkaa
namespace Go.Proofs.Ytleckbdhebjfkaa
open Go.RowKit

/-- The number of bytes, the highest first. -/
def bn (l : List UInt8) : Nat := l.foldl (fun n b => n * 256 + b.toNat) 0
theorem bn_nil : bn [] = 0 := rfl
theorem bn_snoc (l : List UInt8) (b : UInt8) : bn (l ++ [b]) = bn l * 256 + b.toNat := by simp [bn]
theorem take_snoc (s : ByteArray) (k : Nat) (h : k < s.size) : s.data.toList.take (k + 1) = s.data.toList.take k ++ [s[k]] := by
  rw [List.take_succ_eq_append_getElem (by simpa using h)]; rfl
/-- One byte more at place P of a number that is 0 from there down. -/
theorem byte_step (X P b : Nat) : (X * 256 + b) * 2 ^ (8 * P) = X * 2 ^ (8 * (P + 1)) + b * 2 ^ (8 * P) := by
  rw [Nat.add_mul, Nat.mul_assoc, show 8 * (P + 1) = 8 * P + 8 from by omega, Nat.pow_add 2 (8 * P), Nat.mul_comm (2 ^ (8 * P))]
theorem byte_place (b q r : Nat) : b * 2 ^ (8 * (8 * q + r)) = b * 2 ^ (8 * r) * pw q := by
  unfold pw
  rw [show 8 * (8 * q + r) = 8 * r + 64 * q from by omega, Nat.pow_add, Nat.mul_assoc]
theorem byte_wd (X q r : Nat) (hr : r < 8) : wd (X * 2 ^ (8 * (8 * q + r + 1))) q = (X % 2 ^ (64 - 8 * (r + 1))) * 2 ^ (8 * (r + 1)) := by
  unfold wd pw
  rw [show 8 * (8 * q + r + 1) = 8 * (r + 1) + 64 * q from by omega, Nat.pow_add, ← Nat.mul_assoc, Nat.mul_div_cancel _ (Nat.two_pow_pos _)]
  exact shl_mod X (8 * (r + 1)) (by omega)
theorem byte_lt (b r : Nat) (hb : b < 256) : b * 2 ^ (8 * r) < 2 ^ (8 * (r + 1)) := by
  rw [show 8 * (r + 1) = 8 + 8 * r from by omega, Nat.pow_add]
  exact Nat.mul_lt_mul_of_pos_right hb (Nat.two_pow_pos _)
theorem byte_le (r : Nat) (hr : r < 8) : 2 ^ (8 * (r + 1)) ≤ 18446744073709551616 := by
  have := Nat.pow_le_pow_right (n := 2) (by decide) (show 8 * (r + 1) ≤ 64 by omega)
  exact this
/-- What the program lays into a word. -/
theorem byte_or (X q r b : Nat) (hr : r < 8) (hb : b < 256) :
    bits BinOp.or IntKind.u64 ((wd (X * 2 ^ (8 * (8 * q + r + 1))) q : Nat) : Int) (IntKind.u64.wrap ((b : Int) * 2 ^ (8 * r))) = ((wd (X * 2 ^ (8 * (8 * q + r + 1))) q + b * 2 ^ (8 * r) : Nat) : Int) := by
  have h1 := byte_lt b r hb
  have h2 := byte_le r hr
  have h3 := wd_lt (X * 2 ^ (8 * (8 * q + r + 1))) q
  have e : IntKind.u64.wrap ((b : Int) * 2 ^ (8 * r)) = ((b * 2 ^ (8 * r) : Nat) : Int) := by
    rw [IntKind.wrap_u64, int_pow, ← Int.natCast_mul]
    generalize b * 2 ^ (8 * r) = y at *
    omega
  rw [e, bits_or_u64_nat _ _ h3 (by omega), byte_wd X q r hr, or_add _ _ _ h1]
theorem byte_word_lt (X q r b : Nat) (hr : r < 8) (hb : b < 256) : wd (X * 2 ^ (8 * (8 * q + r + 1))) q + b * 2 ^ (8 * r) < 18446744073709551616 := by
  have h1 := byte_lt b r hb
  rw [byte_wd X q r hr, ← pow64 (8 * (r + 1)) (by omega)]
  have h2 := Nat.mod_lt X (Nat.two_pow_pos (64 - 8 * (r + 1)))
  have h3 : (X % 2 ^ (64 - 8 * (r + 1)) + 1) * 2 ^ (8 * (r + 1)) ≤ 2 ^ (64 - 8 * (r + 1)) * 2 ^ (8 * (r + 1)) := Nat.mul_le_mul_right _ h2
  rw [Nat.add_mul] at h3
  omega
theorem byte_set (X q r b : Nat) (hr : r < 8) (hb : b < 256) :
    (nw 9 (X * 2 ^ (8 * (8 * q + r + 1)))).setIfInBounds q (Value.int .u64 ((wd (X * 2 ^ (8 * (8 * q + r + 1))) q + b * 2 ^ (8 * r) : Nat) : Int)) = nw 9 ((X * 256 + b) * 2 ^ (8 * (8 * q + r))) := by
  rw [nw_set 9 _ q _ (byte_word_lt X q r b hr hb), byte_step, byte_place]
  have hp := parts (X * 2 ^ (8 * (8 * q + r + 1))) q
  generalize X * 2 ^ (8 * (8 * q + r + 1)) = V at *
  refine congrArg (nw 9) ?_
  rw [Nat.add_mul]
  generalize V / pw (q + 1) * pw (q + 1) = z at *
  generalize b * 2 ^ (8 * r) * pw q = y at *
  generalize wd V q * pw q = t at *
  omega

end Go.Proofs.Ytleckbdhebjfkaa
