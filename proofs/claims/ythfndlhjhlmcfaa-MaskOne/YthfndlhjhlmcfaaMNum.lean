/-
  Words chosen bit by bit, and numbers made of words: plain laws of numbers.
-/
import Derived.Test.YthfndlhjhlmcfaaEq
import Derived.Laws.Bits64
import Derived.Laws.Bits64b
import Derived.Laws.Unary
namespace Go.Proofs.Ythfndlhjhlmcfaa
open Go.RowKit

/-- All ones, if it is so; else 0. -/
def msk (p : Bool) : Nat := if p then 18446744073709551615 else 0
theorem msk_lt (p : Bool) : msk p < 18446744073709551616 := by cases p <;> decide
/-- x where m has 1, y where it has 0. -/
def sel (m x y : Nat) : Nat := y ^^^ (m &&& (x ^^^ y))
def not64 (m : Nat) : Nat := 18446744073709551615 - m
theorem xor_lt {a b : Nat} (ha : a < 18446744073709551616) (hb : b < 18446744073709551616) : a ^^^ b < 18446744073709551616 := Nat.xor_lt_two_pow (n := 64) (by omega) (by omega)
theorem or_lt {a b : Nat} (ha : a < 18446744073709551616) (hb : b < 18446744073709551616) : a ||| b < 18446744073709551616 := Nat.or_lt_two_pow (n := 64) (by omega) (by omega)
theorem and_lt (a : Nat) {b : Nat} (hb : b < 18446744073709551616) : a &&& b < 18446744073709551616 := Nat.and_lt_two_pow (n := 64) a (by omega)
theorem sel_lt (m : Nat) {x y : Nat} (hx : x < 18446744073709551616) (hy : y < 18446744073709551616) : sel m x y < 18446744073709551616 := xor_lt hy (and_lt m (xor_lt hx hy))
theorem not64_lt (m : Nat) : not64 m < 18446744073709551616 := by unfold not64; omega
theorem sel_testBit (m x y i : Nat) : (sel m x y).testBit i = if m.testBit i then x.testBit i else y.testBit i := by
  simp only [sel, Nat.testBit_xor, Nat.testBit_and]
  cases m.testBit i <;> cases x.testBit i <;> cases y.testBit i <;> rfl
theorem not64_testBit (m i : Nat) (h : m < 18446744073709551616) : (not64 m).testBit i = (decide (i < 64) && !m.testBit i) := by
  have := Nat.testBit_two_pow_sub_succ (n := 64) (x := m) (by omega) i
  rw [← this]
  congr 1
  unfold not64
  omega
theorem bit_past {x i : Nat} (hx : x < 18446744073709551616) (hi : ¬ i < 64) : x.testBit i = false :=
  Nat.testBit_lt_two_pow (Nat.lt_of_lt_of_le (show x < 2 ^ 64 by omega) (Nat.pow_le_pow_right (by decide) (by omega)))
theorem sel_self (m x : Nat) : sel m x x = x := by
  apply Nat.eq_of_testBit_eq; intro i; rw [sel_testBit]; simp
theorem sel_twice (m x y : Nat) : sel m (sel m x y) (sel m y x) = x := by
  apply Nat.eq_of_testBit_eq; intro i; simp only [sel_testBit]; cases m.testBit i <;> simp
theorem sel_not (m x y : Nat) (hm : m < 18446744073709551616) (hx : x < 18446744073709551616) (hy : y < 18446744073709551616) : sel (not64 m) y x = sel m x y := by
  apply Nat.eq_of_testBit_eq; intro i
  simp only [sel_testBit, not64_testBit m i hm]
  by_cases hi : i < 64
  · cases m.testBit i <;> simp [hi]
  · simp [bit_past hm hi, bit_past hx hi, bit_past hy hi]
/-- As the statement picks: x where m has 1, and y where the bits that m has not. -/
theorem pick_sel (m x y : Nat) (hm : m < 18446744073709551616) (hx : x < 18446744073709551616) (hy : y < 18446744073709551616) : (x &&& m) ||| (y &&& not64 m) = sel m x y := by
  apply Nat.eq_of_testBit_eq; intro i
  simp only [sel_testBit, Nat.testBit_or, Nat.testBit_and, not64_testBit m i hm]
  by_cases hi : i < 64
  · cases m.testBit i <;> simp [hi]
  · simp [bit_past hm hi, bit_past hx hi, bit_past hy hi]

/-! ### the model's own words -/
theorem wrap_id (x : Nat) (hx : x < 18446744073709551616) : IntKind.u64.wrap (x : Int) = (x : Int) := by rw [IntKind.wrap_u64]; omega
theorem neg_u64 (x : Nat) (hx : x < 18446744073709551616) : IntKind.u64.wrap (-(x : Int)) = (((18446744073709551616 - x) % 18446744073709551616 : Nat) : Int) := by rw [IntKind.wrap_u64]; omega
theorem ofInt_nat (a : Nat) (ha : a < 18446744073709551616) : (BitVec.ofInt 64 (a : Int)).toNat = a := by
  rw [BitVec.ofInt_natCast, BitVec.toNat_ofNat]; exact Nat.mod_eq_of_lt (by omega)
theorem bits_andNot_u64_nat (a b : Nat) (ha : a < 18446744073709551616) (hb : b < 18446744073709551616) : bits .andNot .u64 (a : Int) (b : Int) = ((a &&& not64 b : Nat) : Int) := by
  have hx := and_lt a (not64_lt b)
  show IntKind.u64.wrap ((BitVec.ofInt 64 (a : Int) &&& ~~~ BitVec.ofInt 64 (b : Int)).toNat : Int) = _
  rw [BitVec.toNat_and, BitVec.toNat_not, ofInt_nat a ha, ofInt_nat b hb, show 2 ^ 64 - 1 - b = not64 b from rfl, IntKind.wrap_u64]
  omega

theorem max_xor (v : Nat) (hv : v < 18446744073709551616) : 18446744073709551615 ^^^ v = not64 v := by
  apply Nat.eq_of_testBit_eq; intro i
  rw [Nat.testBit_xor, not64_testBit v i hv, show (18446744073709551615 : Nat) = 2 ^ 64 - 1 from rfl, Nat.testBit_two_pow_sub_one]
  by_cases hi : i < 64
  · simp [hi]
  · simp [hi, bit_past hv hi]
theorem not_u64 (v : Nat) (hv : v < 18446744073709551616) : bits .xor .u64 IntKind.u64.max (v : Int) = ((not64 v : Nat) : Int) := by
  have h := bits_xor_u64_nat 18446744073709551615 v (by decide) hv
  rw [max_xor v hv] at h
  exact h
theorem zero_val (x : Nat) (hx : x < 18446744073709551616) : IntKind.u64.wrap (-(bits .xor .u64 IntKind.u64.max (bits .or .u64 (x : Int) (IntKind.u64.wrap (-(x : Int)))) / 9223372036854775808)) = ((msk (decide (x = 0)) : Nat) : Int) := by
  have hn : (18446744073709551616 - x) % 18446744073709551616 < 18446744073709551616 := Nat.mod_lt _ (by decide)
  rw [neg_u64 x hx, bits_or_u64_nat _ _ hx hn, not_u64 _ (or_lt hx hn)]
  have h1 : x ≤ x ||| (18446744073709551616 - x) % 18446744073709551616 := Nat.left_le_or
  have h2 : (18446744073709551616 - x) % 18446744073709551616 ≤ x ||| (18446744073709551616 - x) % 18446744073709551616 := Nat.right_le_or
  by_cases h : x = 0
  · subst h; decide
  · have h3 : (18446744073709551616 - x) % 18446744073709551616 = 18446744073709551616 - x := Nat.mod_eq_of_lt (by omega)
    have hl := or_lt hx hn
    rw [h3] at h2 h1 hl ⊢
    rw [IntKind.wrap_u64, decide_eq_false h]
    show _ = (0 : Int)
    have h4 : ((not64 (x ||| (18446744073709551616 - x)) : Nat) : Int) / 9223372036854775808 = 0 := by unfold not64; omega
    rw [h4]; rfl
theorem between_val (m x y : Nat) (hm : m < 18446744073709551616) (hx : x < 18446744073709551616) (hy : y < 18446744073709551616) : bits .xor .u64 (y : Int) (bits .and .u64 (m : Int) (bits .xor .u64 (x : Int) (y : Int))) = ((sel m x y : Nat) : Int) := by
  rw [bits_xor_u64_nat _ _ hx hy, bits_and_u64_nat _ _ hm (xor_lt hx hy), bits_xor_u64_nat _ _ hy (and_lt m (xor_lt hx hy))]; rfl

/-! ### numbers of words -/
/-- The number whose words are f's, the first k of them. -/
def ofw (f : Nat → Nat) : Nat → Nat
  | 0 => 0
  | k + 1 => ofw f k + f k * pw k
theorem ofw_lt (f : Nat → Nat) (hf : ∀ i, f i < 18446744073709551616) : ∀ k, ofw f k < pw k
  | 0 => pw_pos 0
  | k + 1 => by
    have ih := ofw_lt f hf k
    rw [ofw, pow_succ64]
    have : f k * pw k ≤ 18446744073709551615 * pw k := Nat.mul_le_mul_right _ (by have := hf k; omega)
    omega
theorem ofw_set (f : Nat → Nat) (hf : ∀ i, f i < 18446744073709551616) (n k : Nat) : (nw n (ofw f k)).setIfInBounds k (Value.int .u64 ((f k : Nat) : Int)) = nw n (ofw f (k + 1)) := by
  rw [nw_set_top n (ofw f k) k (f k) (hf k) (ofw_lt f hf k)]; rfl
theorem ofw_wd (a : Nat) : ∀ k, ofw (fun i => wd a i) k = a % pw k
  | 0 => by rw [pw_zero, Nat.mod_one]; rfl
  | k + 1 => by rw [ofw, ofw_wd a k, mod_succ]
theorem ofw_congr {f g : Nat → Nat} (h : ∀ i, f i = g i) (k : Nat) : ofw f k = ofw g k := by
  have : f = g := funext h
  rw [this]
theorem ofw_of (f : Nat → Nat) (a : Nat) (ha : a < M) (h : ∀ i, f i = wd a i) : ofw f 9 = a := by
  rw [ofw_congr h, ofw_wd]; exact Nat.mod_eq_of_lt ha
theorem wd_ofw (f : Nat → Nat) (hf : ∀ i, f i < 18446744073709551616) : ∀ k i, i < k → wd (ofw f k) i = f i
  | 0, i, h => by omega
  | k + 1, i, h => by
    have hl := ofw_lt f hf k
    have e : ofw f (k + 1) = ofw f k % pw k + f k * pw k + ofw f k / pw (k + 1) * pw (k + 1) := by
      have h2 : pw k ≤ pw (k + 1) := by rw [pow_succ64]; omega
      rw [Nat.mod_eq_of_lt hl, Nat.div_eq_of_lt (show ofw f k < pw (k + 1) by omega), Nat.zero_mul, ofw, Nat.add_zero]
    rw [e, wd_set (ofw f k) k (f k) i (hf k)]
    by_cases hi : i = k
    · rw [if_pos hi, hi]
    · rw [if_neg hi, wd_ofw f hf k i (by omega)]
theorem wd_past (a k i : Nat) (ha : a < pw k) (h : k ≤ i) : wd a i = 0 := by
  unfold wd
  have : pw k ≤ pw i := Nat.pow_le_pow_right (by decide) (by omega)
  rw [Nat.div_eq_of_lt (by omega)]

/-- Select's answer. -/
def selN (m a b : Nat) : Nat := ofw (fun i => sel m (wd a i) (wd b i)) 9
theorem selF_lt (m a b : Nat) : ∀ i, (fun i => sel m (wd a i) (wd b i)) i < 18446744073709551616 := fun i => sel_lt m (wd_lt a i) (wd_lt b i)
theorem selN_lt (m a b : Nat) : selN m a b < M := ofw_lt _ (selF_lt m a b) 9
theorem sel_zero (m : Nat) : sel m 0 0 = 0 := sel_self m 0
theorem wd_selN (m a b i : Nat) (ha : a < M) (hb : b < M) : wd (selN m a b) i = sel m (wd a i) (wd b i) := by
  by_cases h : i < 9
  · exact wd_ofw _ (selF_lt m a b) 9 i h
  · rw [wd_past _ 9 i (selN_lt m a b) (by omega), wd_past a 9 i ha (by omega), wd_past b 9 i hb (by omega), sel_zero]
theorem selN_self (m a : Nat) (ha : a < M) : selN m a a = a := ofw_of _ a ha fun _ => sel_self m _
theorem selN_twice (m a b : Nat) (ha : a < M) (hb : b < M) : selN m (selN m a b) (selN m b a) = a :=
  ofw_of _ a ha fun i => by rw [wd_selN m a b i ha hb, wd_selN m b a i hb ha, sel_twice]
theorem selN_not (m a b : Nat) (hm : m < 18446744073709551616) : selN (not64 m) b a = selN m a b :=
  ofw_congr (fun i => sel_not m _ _ hm (wd_lt a i) (wd_lt b i)) 9

end Go.Proofs.Ythfndlhjhlmcfaa
