/-
  What the walks of the statements over package mont have in common.
-/
import Derived.Test.YtleckbdhebjfkaaZMtNw
import Derived.Test.YtleckbdhebjfkaaZQt
import Derived.Test.YtleckbdhebjfkaaZMixP
import Derived.Test.YtleckbdhebjfkaaZEq
import Derived.Test.YtleckbdhebjfkaaZDI
import Derived.Test.YtleckbdhebjfkaaZDF
namespace Go.Proofs.Ytleckbdhebjfkaa
open Go.RowKit

theorem num5_gr (x : Int) (w : World) : Calls Try.prog 12 #[.int .i64 x] w fun e w' => e = .returned (.int .i64 x) ∧ Gr w w' :=
  (num_any x w).mono fun _ _ ⟨h1, h2⟩ => ⟨h1, h2 ▸ Gr.refl _⟩

/-- A number whose lowest bits are set. -/
theorem odd_of (m c : Nat) (hm : m < M) (hc : c < 18446744073709551616) (hodd : c % 2 = 1) (h3 : 3 ≤ c) :
    ∃ y O : Nat, bits BinOp.or IntKind.u64 ((wd m 0 : Nat) : Int) (c : Int) = (y : Int) ∧ (nw 9 m).setIfInBounds 0 (.int .u64 (y : Int)) = nw 9 O ∧ O % 2 = 1 ∧ 3 ≤ O ∧ O < M ∧ ∀ n, 0 < n → m < pw n → O < pw n := by
  have hl := wd_lt m 0
  have hy : wd m 0 ||| c < 18446744073709551616 := Nat.or_lt_two_pow (n := 64) hl hc
  have hge : c ≤ wd m 0 ||| c := Nat.right_le_or
  have h2 : (wd m 0 ||| c) % 2 = 1 := by
    have := Nat.or_mod_two_pow (a := wd m 0) (b := c) (n := 1)
    rw [Nat.pow_one, hodd] at this
    rw [this]
    obtain e | e : wd m 0 % 2 = 0 ∨ wd m 0 % 2 = 1 := by omega
    · rw [e]; rfl
    · rw [e]; rfl
  refine ⟨wd m 0 ||| c, wset m 0 (wd m 0 ||| c), bits_or_u64_nat _ _ hl hc, nw_wset 9 m 0 _ hy, ?_, ?_, wset_lt m 0 _ 9 hm (by decide) hy, fun n h0 hn => wset_lt m 0 _ n hn h0 hy⟩
  · unfold wset
    rw [pw_zero, Nat.mod_one, Nat.mul_one, Nat.zero_add, show pw (0 + 1) = 18446744073709551616 from rfl]
    omega
  · unfold wset
    rw [pw_zero, Nat.mod_one, Nat.mul_one, Nat.zero_add]
    omega
theorem kw_one (m : Nat) (h0 : 0 < m) (h : m < 18446744073709551616) : kw m = 1 := by
  unfold kw
  have h1 := bl_le64 m h
  obtain ⟨s, hs⟩ : ∃ s, bl m = s := ⟨_, rfl⟩
  have h2 := (bl_facts m s h0 hs).1
  omega
/-- A product there, brought back. -/
theorem Mo.prod {m k u : Nat} (h : Mo m k u) (a b : Nat) : (a * pw k % m) * (b * pw k % m) * u % m * u % m = a * b % m := by
  have e1 : (a * pw k % m) * (b * pw k % m) * u % m * u % m = a * pw k * (b * pw k) * u * u % m := by
    rw [mod_mul1, Nat.mul_assoc, Nat.mul_assoc, mod_mul1]
    have : a * pw k * (b * pw k % m * (u * u)) = (b * pw k % m) * (a * pw k * (u * u)) := by grind
    rw [this, mod_mul1]
    congr 1
    grind
  have e2 : a * pw k * (b * pw k) * u * u = (a * b * pw k * u) * pw k * u := by grind
  rw [e1, e2, h.un, h.un]
theorem Mo.pos {m k u : Nat} (h : Mo m k u) : 0 < m := by have := h.ge; omega
/-- To and From. -/
theorem Mo.back {m k u : Nat} (h : Mo m k u) (a : Nat) (ha : a < m) : a * pw k % m * u % m = a := by
  rw [mod_mul1, h.un, Nat.mod_eq_of_lt ha]
/-- To of 1 is neutral. -/
theorem Mo.one {m k u : Nat} (h : Mo m k u) (a : Nat) (ha : a < m) : a * (1 * pw k % m) * u % m = a := by
  have : a * (1 * pw k % m) * u = (1 * pw k % m) * (a * u) := by grind
  rw [this, mod_mul1, Nat.one_mul, show pw k * (a * u) = a * pw k * u by grind, h.un, Nat.mod_eq_of_lt ha]
/-- A number and its inverse there. -/
theorem Mo.inv1 {m k u : Nat} (h : Mo m k u) (a x : Nat) (hx : a * x % m = 1) : a * (x * pw k % m * pw k % m) * u % m = 1 * pw k % m := by
  have e1 : a * (x * pw k % m * pw k % m) * u % m = a * x * pw k * pw k * u % m := by
    have h1 : a * (x * pw k % m * pw k % m) * u = (x * pw k % m * pw k % m) * (a * u) := by grind
    rw [h1, mod_mul1, Nat.mul_assoc, mod_mul1]
    congr 1
    grind
  rw [e1, h.un, Nat.mul_mod, hx, Nat.one_mul, Nat.mod_mod, Nat.one_mul]
/-- A product shares out over a sum. -/
theorem Mo.share {m k u : Nat} (h : Mo m k u) (p q r : Nat) : p * ((q + r) % m) * u % m = (p * q * u % m + p * r * u % m) % m := by
  have h1 : p * ((q + r) % m) * u = ((q + r) % m) * (p * u) := by grind
  rw [h1, mod_mul1, ← Nat.add_mod]
  have := h.pos
  congr 1
  grind

end Go.Proofs.Ytleckbdhebjfkaa
