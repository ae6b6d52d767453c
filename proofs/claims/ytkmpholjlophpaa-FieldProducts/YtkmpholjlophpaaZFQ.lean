/-
  Square roots modulo a prime: Euler's criterion, the way of Tonelli and Shanks; what that means for the root that field.Sqrt answers. No Go text is walked here.
-/
import Derived.Test.YtkmpholjlophpaaZFJ
import Derived.Test.YtkmpholjlophpaaZPC
namespace Go.Proofs.Ytkmpholjlophpaa
open Go.RowKit

theorem sq1 {m y : Nat} (hp : Prm m) (hy : y < m) (h : y * y % m = 1) : y = 1 ∨ y = m - 1 := by
  have h2 := hp.1
  have y0 : 1 ≤ y := by
    rcases Nat.eq_zero_or_pos y with e | e
    · subst e; simp at h
    · exact e
  have hd : m ∣ (y - 1) * (y + 1) := by
    refine Nat.dvd_of_mod_eq_zero ?_
    have e : (y - 1) * (y + 1) = y * y - 1 := by
      obtain ⟨z, rfl⟩ : ∃ z, y = z + 1 := ⟨y - 1, by omega⟩
      simp
      grind
    rw [e, Nat.sub_mod_eq_zero_of_mod_eq]
    rw [h, Nat.mod_eq_of_lt (by omega)]
  rcases hp.dvd_mul hd with d | d
  · left
    rcases Nat.eq_zero_or_pos (y - 1) with e | e
    · omega
    · have := Nat.le_of_dvd e d; omega
  · right
    have := Nat.le_of_dvd (by omega) d
    omega
theorem neg_neg (m : Nat) (h : 1 < m) : (m - 1) * (m - 1) % m = 1 := by
  obtain ⟨n, rfl⟩ : ∃ n, m = n + 2 := ⟨m - 2, by omega⟩
  have e : (n + 2 - 1) * (n + 2 - 1) = 1 + (n + 2) * n := by
    rw [show n + 2 - 1 = n + 1 by omega]
    grind
  rw [e, Nat.add_mul_mod_self_left, Nat.mod_eq_of_lt (by omega)]
theorem odd_half (m : Nat) (h : m % 2 = 1) : m - 1 = 2 * ((m - 1) / 2) := by omega
theorem not_dvd {m a : Nat} (h0 : a ≠ 0) (ha : a < m) : ¬ m ∣ a := fun d => by
  have := Nat.le_of_dvd (by omega) d
  omega
theorem euler {m a : Nat} (hp : Prm m) (ho : m % 2 = 1) (h0 : a ≠ 0) (ha : a < m) : a ^ ((m - 1) / 2) % m = 1 ∨ a ^ ((m - 1) / 2) % m = m - 1 := by
  have h2 := hp.1
  refine sq1 hp (Nat.mod_lt _ (by omega)) ?_
  rw [← Nat.mul_mod, ← Nat.pow_add, show (m - 1) / 2 + (m - 1) / 2 = m - 1 by omega]
  exact hp.fermat (not_dvd h0 ha)
theorem of_sq {m a c : Nat} (hp : Prm m) (ho : m % 2 = 1) (h0 : a ≠ 0) (h : c * c % m = a) : a ^ ((m - 1) / 2) % m = 1 := by
  have nc : ¬ m ∣ c := fun d => h0 (by rw [← h]; exact Nat.mod_eq_zero_of_dvd (Nat.dvd_trans d (Nat.dvd_mul_left c c)))
  rw [← h, ← Nat.pow_mod, ← Nat.pow_two, ← Nat.pow_mul, ← odd_half m ho]
  exact hp.fermat nc
theorem ts_root {m : Nat} (hp : Prm m) (a : Nat) : ∀ o r x c, r * r % m = a * x % m → x ^ (2 ^ o) % m = 1 → c ^ (2 ^ o) % m = m - 1 → ts m o r x c * ts m o r x c % m = a % m
  | 0, r, x, c, h1, h2, _ => by
    rw [Nat.pow_zero, Nat.pow_one] at h2
    rw [ts, h1, Nat.mul_mod, h2, Nat.mul_one, Nat.mod_mod]
  | o + 1, r, x, c, h1, h2, h3 => by
    have hm := hp.1
    have e2 : ∀ y : Nat, y ^ (2 ^ (o + 1)) = y ^ (2 ^ o) * y ^ (2 ^ o) := fun y => by rw [← Nat.pow_add, Nat.pow_succ]; congr 1; omega
    have hn : (c * c % m) ^ (2 ^ o) % m = m - 1 := by
      rw [← Nat.pow_mod, Nat.mul_pow, ← e2]; exact h3
    have hy : x ^ (2 ^ o) % m * (x ^ (2 ^ o) % m) % m = 1 := by
      rw [← Nat.mul_mod, ← e2]; exact h2
    rw [ts]
    split
    · rename_i h
      exact ts_root hp a o r x (c * c % m) h1 h hn
    · rename_i h
      have hy2 : x ^ (2 ^ o) % m = m - 1 := by
        rcases sq1 hp (Nat.mod_lt _ (by omega)) hy with e | e
        · exact absurd e h
        · exact e
      refine ts_root hp a o (r * c % m) (x * (c * c % m) % m) (c * c % m) ?_ ?_ hn
      · have e3 : r * c * (r * c) = r * r * (c * c) := by grind
        have e4 : a * (x * (c * c)) = a * x * (c * c) := by grind
        rw [← Nat.mul_mod, e3, Nat.mul_mod, h1, ← Nat.mul_mod, ← e4, Nat.mul_mod a, Nat.mul_mod a (x * (c * c % m) % m), Nat.mod_mod, Nat.mul_mod x (c * c % m), Nat.mod_mod, ← Nat.mul_mod x]
      · rw [← Nat.pow_mod, Nat.mul_pow, Nat.mul_mod, hy2, hn]
        exact neg_neg m (by omega)
theorem sq_neg (m c : Nat) (h : c ≤ m) : (m - c) * (m - c) % m = c * c % m := by
  obtain ⟨d, rfl⟩ : ∃ d, m = d + c := ⟨m - c, by omega⟩
  rw [Nat.add_sub_cancel]
  have e : d * d + (d + c) * c = c * c + (d + c) * d := by grind
  have := congrArg (· % (d + c)) e
  simpa [Nat.add_mul_mod_self_left] using this
theorem sq_pm {m s t : Nat} (hp : Prm m) (hs : s < m) (ht : t < m) (h : s * s % m = t * t % m) : s = t ∨ s + t = m := by
  have key : ∀ u v : Nat, v ≤ u → u < m → v < m → u * u % m = v * v % m → u = v ∨ u + v = m := by
    intro u v hle hu hv e
    have hd : m ∣ (u - v) * (u + v) := by
      obtain ⟨w, rfl⟩ : ∃ w, u = v + w := ⟨u - v, by omega⟩
      have e1 : (v + w - v) * (v + w + v) = (v + w) * (v + w) - v * v := by
        rw [Nat.add_sub_cancel_left]
        have : (v + w) * (v + w) = w * (v + w + v) + v * v := by grind
        omega
      rw [e1]
      exact Nat.dvd_of_mod_eq_zero (Nat.sub_mod_eq_zero_of_mod_eq e)
    rcases hp.dvd_mul hd with d | d
    · left
      rcases Nat.eq_zero_or_pos (u - v) with z | z
      · omega
      · have := Nat.le_of_dvd z d; omega
    · rcases Nat.eq_zero_or_pos (u + v) with z | z
      · left; omega
      · right
        obtain ⟨q, hq⟩ := d
        have : q = 1 := by
          rcases Nat.lt_or_ge q 1 with a | a
          · have : q = 0 := by omega
            subst this; omega
          · rcases Nat.lt_or_ge q 2 with b | b
            · omega
            · have := Nat.mul_le_mul_left m b; omega
        subst this; omega
  rcases Nat.le_total t s with l | l
  · exact key s t l hs ht h
  · rcases key t s l ht hs h.symm with e | e
    · left; exact e.symm
    · right; omega
theorem root_form (m a b : Nat) : b * a % m * (b * a % m) % m = a * (b * b % m * a % m) % m := by
  rw [← Nat.mul_mod, Nat.mul_mod_mod, show a * (b * b % m * a) = b * b % m * (a * a) by grind, Nat.mod_mul_mod, show b * a * (b * a) = b * b * (a * a) by grind]
theorem pow_form (m a q : Nat) (hq : q % 2 = 1) : a ^ (q / 2) % m * (a ^ (q / 2) % m) % m * a % m = a ^ q % m := by
  rw [← Nat.mul_mod, Nat.mod_mul_mod, ← Nat.pow_add, ← Nat.pow_succ, show (q / 2 + q / 2).succ = q by omega]
theorem ts_start {m : Nat} (hp : Prm m) (a q s z : Nat) (hq : q % 2 = 1) (hm : m = q * 2 ^ (s + 1) + 1) (he : a ^ ((m - 1) / 2) % m = 1) (hz : z ^ ((m - 1) / 2) % m = m - 1) :
    ts m s (a ^ (q / 2) % m * a % m) (a ^ (q / 2) % m * (a ^ (q / 2) % m) % m * a % m) (z ^ q % m) * ts m s (a ^ (q / 2) % m * a % m) (a ^ (q / 2) % m * (a ^ (q / 2) % m) % m * a % m) (z ^ q % m) % m = a % m := by
  have e : (m - 1) / 2 = q * 2 ^ s := by
    rw [Nat.pow_succ, ← Nat.mul_assoc] at hm
    omega
  rw [e] at he hz
  refine ts_root hp a s _ _ _ (root_form m a _) ?_ ?_
  · rw [pow_form m a q hq, ← Nat.pow_mod, ← Nat.pow_mul]; exact he
  · rw [← Nat.pow_mod, ← Nat.pow_mul]; exact hz
theorem cN_sq (k a : Nat) (h1 : 1 ≤ k) (h2 : k ≤ 15) (ha : a < pN k) (he : a ^ ((pN k - 1) / 2) % pN k = 1) : cN k a * cN k a % pN k = a := by
  have hp := prm_pN k h1 h2
  unfold cN
  split
  · rename_i h; subst h
    rw [ts_start hp a qP2 95 11 (by decide +kernel) (by decide +kernel) he (wit_of (f := 224) (by decide +kernel) (by decide +kernel)), Nat.mod_eq_of_lt ha]
  · split
    · rename_i h; subst h
      rw [ts_start hp a 15 3 7 (by decide) (by decide) he (wit_of (f := 8) (by decide) (by decide +kernel)), Nat.mod_eq_of_lt ha]
    · rename_i n2 n14
      have ho := (not2_14 k h1 h2 n2 n14).1
      rw [root_form, pow_form _ _ _ ho, he, Nat.mul_one, Nat.mod_eq_of_lt ha]
theorem zero_form (m e : Nat) : 0 ^ e % m * 0 % m = 0 := by rw [Nat.mul_zero, Nat.zero_mod]
theorem zero_form2 (m b : Nat) : b % m * 0 % m = 0 := by rw [Nat.mul_zero, Nat.zero_mod]
theorem ts_zero (m : Nat) : ∀ o c, ts m o 0 0 c = 0
  | 0, _ => rfl
  | o + 1, c => by
    rw [ts]
    split
    · exact ts_zero m o _
    · rw [Nat.zero_mul, Nat.zero_mul, Nat.zero_mod]; exact ts_zero m o _
theorem cN_zero (k : Nat) : cN k 0 = 0 := by
  unfold cN
  split
  · rw [zero_form, zero_form2]; exact ts_zero _ _ _
  · split
    · rw [zero_form, zero_form2]; exact ts_zero _ _ _
    · exact zero_form _ _
/-- The root that is answered. -/
theorem sq_spec (k a : Nat) (h1 : 1 ≤ k) (h2 : k ≤ 15) (h : cN k a * cN k a % pN k = a) : sqE k a = 0 ∧ sqR k a < pN k ∧ sqR k a % 2 = 0 ∧ sqR k a * sqR k a % pN k = a := by
  have hb := pN_bd k h1 h2
  have hc := cN_lt k a h1 h2
  unfold sqE sqR
  rw [if_pos h, if_pos h]
  refine ⟨rfl, ?_⟩
  by_cases hc2 : cN k a % 2 = 1
  · rw [if_pos hc2]
    exact ⟨by omega, by omega, by rw [sq_neg _ _ (by omega)]; exact h⟩
  · rw [if_neg hc2]
    exact ⟨hc, by omega, h⟩
theorem sq_none (k a : Nat) (h : cN k a * cN k a % pN k ≠ a) : sqE k a = 503 ∧ sqR k a = 0 := by
  unfold sqE sqR
  rw [if_neg h, if_neg h]
  exact ⟨rfl, rfl⟩
theorem sq_iff (k a : Nat) (h1 : 1 ≤ k) (h2 : k ≤ 15) (h0 : a ≠ 0) (ha : a < pN k) : cN k a * cN k a % pN k = a ↔ a ^ ((pN k - 1) / 2) % pN k = 1 :=
  ⟨fun h => of_sq (prm_pN k h1 h2) (pN_bd k h1 h2).2.2 h0 h, fun h => cN_sq k a h1 h2 ha h⟩

end Go.Proofs.Ytkmpholjlophpaa
