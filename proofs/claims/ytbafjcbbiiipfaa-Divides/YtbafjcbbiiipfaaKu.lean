/-
  Plain arithmetic of Euclid's way with factors. No Go text is walked here.
-/
import Derived.Test.YtbafjcbbiiipfaaKn
namespace Go.Proofs.Ytbafjcbbiiipfaa
open Go.RowKit

/-- Euclid's way: the last and this number with their factors, and whether the last one's factor is below 0. -/
def euF : Nat → Nat → Nat → Nat → Nat → Bool → Nat × Nat × Bool
  | 0, lv, lf, _, _, β => (lv, lf, β)
  | n + 1, lv, lf, tv, tf, β => if tv = 0 then (lv, lf, β) else euF n tv tf (lv % tv) (lf + lv / tv * tf) (!β)
/-- The steps given are enough: more of them change nothing. -/
theorem euF_more : ∀ (n k lv lf tv tf : Nat) (β : Bool), tv ≤ n → tv ≤ k → euF n lv lf tv tf β = euF k lv lf tv tf β
  | 0, 0, _, _, _, _, _, _, _ => rfl
  | 0, k + 1, lv, lf, tv, tf, β, h, _ => by
    have e : tv = 0 := by omega
    subst e
    rfl
  | n + 1, 0, lv, lf, tv, tf, β, _, h => by
    have e : tv = 0 := by omega
    subst e
    rfl
  | n + 1, k + 1, lv, lf, tv, tf, β, h1, h2 => by
    show (if tv = 0 then (lv, lf, β) else euF n tv tf (lv % tv) (lf + lv / tv * tf) (!β)) = (if tv = 0 then (lv, lf, β) else euF k tv tf (lv % tv) (lf + lv / tv * tf) (!β))
    by_cases h0 : tv = 0
    · rw [if_pos h0, if_pos h0]
    · have hl := Nat.mod_lt lv (show tv > 0 by omega)
      rw [if_neg h0, if_neg h0, euF_more n k tv tf (lv % tv) _ _ (by omega) (by omega)]
def eu (lv lf tv tf : Nat) (β : Bool) : Nat × Nat × Bool := euF tv lv lf tv tf β
theorem eu_zero (lv lf tf : Nat) (β : Bool) : eu lv lf 0 tf β = (lv, lf, β) := rfl
theorem eu_step (lv lf tv tf : Nat) (β : Bool) (h : 0 < tv) : eu lv lf tv tf β = eu tv tf (lv % tv) (lf + lv / tv * tf) (!β) := by
  obtain ⟨n, rfl⟩ : ∃ n, tv = n + 1 := ⟨tv - 1, by omega⟩
  have hl := Nat.mod_lt lv h
  show (if n + 1 = 0 then (lv, lf, β) else euF n (n + 1) tf (lv % (n + 1)) (lf + lv / (n + 1) * tf) (!β)) = euF (lv % (n + 1)) (n + 1) tf (lv % (n + 1)) (lf + lv / (n + 1) * tf) (!β)
  rw [if_neg (by omega)]
  exact euF_more _ _ _ _ _ _ _ (by omega) (Nat.le_refl _)
def sg (β : Bool) : Int := if β then -1 else 1
theorem sg_not (β : Bool) : sg (!β) = - sg β := by cases β <;> rfl
/-- What Euclid's way keeps. -/
structure EI (a m lv lf tv tf : Nat) (β : Bool) : Prop where
  lt : tv < lv
  sum : lv * tf + tv * lf = m
  le : lf ≤ m
  last : (m : Int) ∣ (a : Int) * lf - sg β * lv
  this : (m : Int) ∣ (a : Int) * tf + sg β * tv
  gcd : Nat.gcd lv tv = Nat.gcd m a
theorem EI.start (a m : Nat) (h : a < m) : EI a m m 0 a 1 true := by
  refine ⟨h, by simp, by omega, ?_, ?_, rfl⟩
  · refine ⟨1, ?_⟩
    simp [sg]
  · refine ⟨0, ?_⟩
    simp [sg]
    omega
theorem EI.step {a m lv lf tv tf : Nat} {β : Bool} (h : EI a m lv lf tv tf β) (h0 : 0 < tv) : EI a m tv tf (lv % tv) (lf + lv / tv * tf) (!β) := by
  have hd := Nat.div_add_mod lv tv
  have hs := h.sum
  have hl := h.lt
  generalize hq : lv / tv = q at *
  generalize hr : lv % tv = r at *
  have hrt : r < tv := by rw [← hr]; exact Nat.mod_lt _ h0
  refine ⟨hrt, ?_, ?_, ?_, ?_, ?_⟩
  · rw [← hs, ← hd]
    grind
  · have h1 : 1 * tf ≤ lv * tf := Nat.mul_le_mul_right _ (by omega)
    omega
  · rw [sg_not]
    obtain ⟨c, hc⟩ := h.this
    exact ⟨c, by rw [← hc]; grind⟩
  · rw [sg_not]
    obtain ⟨c, hc⟩ := h.this
    obtain ⟨d, hd'⟩ := h.last
    refine ⟨d + q * c, ?_⟩
    have hd2 : (lv : Int) = (tv : Int) * q + r := by
      have : ((tv * q + r : Nat) : Int) = (lv : Int) := by rw [hd]
      rw [← this]
      simp
    rw [Int.mul_add, ← hd']
    have e : (m : Int) * (q * c) = q * (m * c) := by grind
    rw [e, ← hc, hd2]
    have e2 : ((lf + q * tf : Nat) : Int) = (lf : Int) + (q : Int) * (tf : Int) := by simp
    rw [e2]
    grind
  · rw [← h.gcd, ← hr, Nat.gcd_comm lv tv, Nat.gcd_rec tv lv, Nat.gcd_comm]
/-- No factor on the way is beyond m. -/
theorem EI.fits {a m lv lf tv tf : Nat} {β : Bool} (h : EI a m lv lf tv tf β) (h0 : 0 < tv) : lf + lv / tv * tf ≤ m := by
  have hs := (h.step h0).sum
  have h1 : 1 * (lf + lv / tv * tf) ≤ tv * (lf + lv / tv * tf) := Nat.mul_le_mul_right _ h0
  omega
theorem EI.fac {a m lv lf tv tf : Nat} {β : Bool} (h : EI a m lv lf tv tf β) : tf ≤ m := by
  have hs := h.sum
  have hl := h.lt
  have h1 : 1 * tf ≤ lv * tf := Nat.mul_le_mul_right _ (by omega)
  omega
theorem EI.val {a m lv lf tv tf : Nat} {β : Bool} (h : EI a m lv lf tv tf β) (h0 : 0 < tf ∨ lv ≤ m) : lv ≤ m := by
  rcases h0 with h0 | h0
  · have hs := h.sum
    have h1 : lv * 1 ≤ lv * tf := Nat.mul_le_mul_left _ h0
    omega
  · exact h0
/-- What it ends with. -/
theorem eu_end (a m : Nat) : ∀ (tv lv lf tf : Nat) (β : Bool), EI a m lv lf tv tf β → ∃ g f δ, eu lv lf tv tf β = (g, f, δ) ∧ g = Nat.gcd m a ∧ f ≤ m ∧ (m : Int) ∣ (a : Int) * f - sg δ * g := by
  intro tv
  induction tv using Nat.strongRecOn with
  | _ tv ih =>
    intro lv lf tf β h
    by_cases h0 : tv = 0
    · subst h0
      refine ⟨lv, lf, β, eu_zero lv lf tf β, ?_, h.le, h.last⟩
      have := h.gcd
      rw [Nat.gcd_zero_right] at this
      exact this
    · rw [eu_step lv lf tv tf β (by omega)]
      exact ih (lv % tv) (Nat.mod_lt _ (by omega)) tv tf (lf + lv / tv * tf) (!β) (h.step (by omega))
theorem inv_pos (x m : Nat) (c : Int) (hm : 1 < m) (h : (x : Int) - 1 = (m : Int) * c) : ∃ k : Nat, x = 1 + m * k := by
  have hc : 0 ≤ c := by
    by_cases hc : 0 ≤ c
    · exact hc
    · exfalso
      have h1 : (m : Int) * c ≤ (m : Int) * (-1) := Int.mul_le_mul_of_nonneg_left (by omega) (by omega)
      omega
  obtain ⟨k, rfl⟩ := Int.eq_ofNat_of_zero_le hc
  refine ⟨k, ?_⟩
  have : (m : Int) * (k : Int) = ((m * k : Nat) : Int) := by simp
  rw [this] at h
  omega
theorem inv_neg (x m : Nat) (c : Int) (h : (x : Int) + 1 = (m : Int) * c) : ∃ k : Nat, x + 1 = m * k := by
  have hc : 0 ≤ c := by
    by_cases hc : 0 ≤ c
    · exact hc
    · exfalso
      have h1 : (m : Int) * c ≤ (m : Int) * 0 := Int.mul_le_mul_of_nonneg_left (by omega) (by omega)
      omega
  obtain ⟨k, rfl⟩ := Int.eq_ofNat_of_zero_le hc
  refine ⟨k, ?_⟩
  have : (m : Int) * (k : Int) = ((m * k : Nat) : Int) := by simp
  rw [this] at h
  omega
/-- The inverse that Euclid's way leads to. -/
theorem inv_of (a m f : Nat) (δ : Bool) (hm : 1 < m) (hf : f ≤ m) (h : (m : Int) ∣ (a : Int) * f - sg δ * 1) :
    (if δ then m - f else f) < m ∧ a * (if δ then m - f else f) % m = 1 := by
  have h1 : 1 % m = 1 := Nat.mod_eq_of_lt hm
  obtain ⟨c, hc⟩ := h
  cases δ with
  | false =>
    simp only [sg, Bool.false_eq_true, if_false, Int.one_mul] at hc ⊢
    obtain ⟨k, hk⟩ := inv_pos (a * f) m c hm (by rw [Int.natCast_mul]; exact hc)
    have hd : a * f % m = 1 := by rw [hk, Nat.add_mul_mod_self_left, h1]
    refine ⟨?_, hd⟩
    by_cases e : f = m
    · subst e; rw [Nat.mul_mod_left] at hd; omega
    · omega
  | true =>
    simp only [sg, if_true] at hc ⊢
    obtain ⟨k, hk⟩ := inv_neg (a * f) m c (by rw [Int.natCast_mul, ← hc]; omega)
    have hd : a * (m - f) % m = 1 := by
      have e : a * (m - f) + m * k = 1 + m * a := by
        rw [← hk, Nat.mul_comm m a]
        have : a * (m - f) + a * f = a * m := by rw [← Nat.mul_add, Nat.sub_add_cancel hf]
        omega
      have e2 : (a * (m - f) + m * k) % m = (1 + m * a) % m := by rw [e]
      rw [Nat.add_mul_mod_self_left, Nat.add_mul_mod_self_left, h1] at e2
      exact e2
    refine ⟨?_, hd⟩
    by_cases e : f = 0
    · subst e; rw [Nat.sub_zero, Nat.mul_mod_left] at hd; omega
    · omega
/-- There is but one inverse. -/
theorem inv_one (a m x y : Nat) (hx : x < m) (hy : y < m) (ex : a * x % m = 1) (ey : a * y % m = 1) : x = y := by
  have h1 : x * (a * y) % m = x % m := by rw [Nat.mul_mod, ey, Nat.mul_one, Nat.mod_mod]
  have h2 : y * (a * x) % m = y % m := by rw [Nat.mul_mod, ex, Nat.mul_one, Nat.mod_mod]
  have e : x * (a * y) = y * (a * x) := by grind
  rw [e, h2, Nat.mod_eq_of_lt hx, Nat.mod_eq_of_lt hy] at h1
  exact h1.symm

end Go.Proofs.Ytbafjcbbiiipfaa
