/-
  Square roots modulo a prime: Euler's criterion, the way of Tonelli and Shanks; what that means for the root that field.Sqrt answers. No Go text is walked here.
-/
/-
  The documents' numbers: Sqrt.
-/
/-
  The documents' numbers: Sqrt of a number that has a root.
-/
/-
  What the documents' Sqrt finds out of each curve's P: the odd part of P - 1, the least number that is no square; Inverse and Sqrt at a curve's P as one answer. No Go text is walked here.
-/
import Derived.Test.YtkmpholjlophpaaZFJ
import Derived.Test.YtkmpholjlophpaaZPC
import Derived.Test.YtkmpholjlophpaaZRInv
import Derived.Test.YtkmpholjlophpaaZFL
namespace Go.Proofs.Ytkmpholjlophpaa
open Go.RowKit

theorem sq1 {m y : Nat} (hp : Prm m) (hy : y < m) (h : y * y % m = 1) : y = 1 ∨ y = m - 1 := by
  have h2 := hp.1
  have y0 : 1 ≤ y := by
    rcases Nat.eq_zero_or_pos y with e | e
    · subst e; simp at h
    · exact e
  have hd : m ∣ (y - 1) * (y + 1) := by
    refine Nat.dvd_of_mod_eq_zero ?_
    have e : (y - 1) * (y + 1) = y * y - 1 := by
      obtain ⟨z, rfl⟩ : ∃ z, y = z + 1 := ⟨y - 1, by omega⟩
      simp
      grind
    rw [e, Nat.sub_mod_eq_zero_of_mod_eq]
    rw [h, Nat.mod_eq_of_lt (by omega)]
  rcases hp.dvd_mul hd with d | d
  · left
    rcases Nat.eq_zero_or_pos (y - 1) with e | e
    · omega
    · have := Nat.le_of_dvd e d; omega
  · right
    have := Nat.le_of_dvd (by omega) d
    omega
theorem neg_neg (m : Nat) (h : 1 < m) : (m - 1) * (m - 1) % m = 1 := by
  obtain ⟨n, rfl⟩ : ∃ n, m = n + 2 := ⟨m - 2, by omega⟩
  have e : (n + 2 - 1) * (n + 2 - 1) = 1 + (n + 2) * n := by
    rw [show n + 2 - 1 = n + 1 by omega]
    grind
  rw [e, Nat.add_mul_mod_self_left, Nat.mod_eq_of_lt (by omega)]
theorem odd_half (m : Nat) (h : m % 2 = 1) : m - 1 = 2 * ((m - 1) / 2) := by omega
theorem not_dvd {m a : Nat} (h0 : a ≠ 0) (ha : a < m) : ¬ m ∣ a := fun d => by
  have := Nat.le_of_dvd (by omega) d
  omega
theorem euler {m a : Nat} (hp : Prm m) (ho : m % 2 = 1) (h0 : a ≠ 0) (ha : a < m) : a ^ ((m - 1) / 2) % m = 1 ∨ a ^ ((m - 1) / 2) % m = m - 1 := by
  have h2 := hp.1
  refine sq1 hp (Nat.mod_lt _ (by omega)) ?_
  rw [← Nat.mul_mod, ← Nat.pow_add, show (m - 1) / 2 + (m - 1) / 2 = m - 1 by omega]
  exact hp.fermat (not_dvd h0 ha)
theorem of_sq {m a c : Nat} (hp : Prm m) (ho : m % 2 = 1) (h0 : a ≠ 0) (h : c * c % m = a) : a ^ ((m - 1) / 2) % m = 1 := by
  have nc : ¬ m ∣ c := fun d => h0 (by rw [← h]; exact Nat.mod_eq_zero_of_dvd (Nat.dvd_trans d (Nat.dvd_mul_left c c)))
  rw [← h, ← Nat.pow_mod, ← Nat.pow_two, ← Nat.pow_mul, ← odd_half m ho]
  exact hp.fermat nc
theorem ts_root {m : Nat} (hp : Prm m) (a : Nat) : ∀ o r x c, r * r % m = a * x % m → x ^ (2 ^ o) % m = 1 → c ^ (2 ^ o) % m = m - 1 → ts m o r x c * ts m o r x c % m = a % m
  | 0, r, x, c, h1, h2, _ => by
    rw [Nat.pow_zero, Nat.pow_one] at h2
    rw [ts, h1, Nat.mul_mod, h2, Nat.mul_one, Nat.mod_mod]
  | o + 1, r, x, c, h1, h2, h3 => by
    have hm := hp.1
    have e2 : ∀ y : Nat, y ^ (2 ^ (o + 1)) = y ^ (2 ^ o) * y ^ (2 ^ o) := fun y => by rw [← Nat.pow_add, Nat.pow_succ]; congr 1; omega
    have hn : (c * c % m) ^ (2 ^ o) % m = m - 1 := by
      rw [← Nat.pow_mod, Nat.mul_pow, ← e2]; exact h3
    have hy : x ^ (2 ^ o) % m * (x ^ (2 ^ o) % m) % m = 1 := by
      rw [← Nat.mul_mod, ← e2]; exact h2
    rw [ts]
    split
    · rename_i h
      exact ts_root hp a o r x (c * c % m) h1 h hn
    · rename_i h
      have hy2 : x ^ (2 ^ o) % m = m - 1 := by
        rcases sq1 hp (Nat.mod_lt _ (by omega)) hy with e | e
        · exact absurd e h
        · exact e
      refine ts_root hp a o (r * c % m) (x * (c * c % m) % m) (c * c % m) ?_ ?_ hn
      · have e3 : r * c * (r * c) = r * r * (c * c) := by grind
        have e4 : a * (x * (c * c)) = a * x * (c * c) := by grind
        rw [← Nat.mul_mod, e3, Nat.mul_mod, h1, ← Nat.mul_mod, ← e4, Nat.mul_mod a, Nat.mul_mod a (x * (c * c % m) % m), Nat.mod_mod, Nat.mul_mod x (c * c % m), Nat.mod_mod, ← Nat.mul_mod x]
      · rw [← Nat.pow_mod, Nat.mul_pow, Nat.mul_mod, hy2, hn]
        exact neg_neg m (by omega)
theorem sq_neg (m c : Nat) (h : c ≤ m) : (m - c) * (m - c) % m = c * c % m := by
  obtain ⟨d, rfl⟩ : ∃ d, m = d + c := ⟨m - c, by omega⟩
  rw [Nat.add_sub_cancel]
  have e : d * d + (d + c) * c = c * c + (d + c) * d := by grind
  have := congrArg (· % (d + c)) e
  simpa [Nat.add_mul_mod_self_left] using this
theorem sq_pm {m s t : Nat} (hp : Prm m) (hs : s < m) (ht : t < m) (h : s * s % m = t * t % m) : s = t ∨ s + t = m := by
  have key : ∀ u v : Nat, v ≤ u → u < m → v < m → u * u % m = v * v % m → u = v ∨ u + v = m := by
    intro u v hle hu hv e
    have hd : m ∣ (u - v) * (u + v) := by
      obtain ⟨w, rfl⟩ : ∃ w, u = v + w := ⟨u - v, by omega⟩
      have e1 : (v + w - v) * (v + w + v) = (v + w) * (v + w) - v * v := by
        rw [Nat.add_sub_cancel_left]
        have : (v + w) * (v + w) = w * (v + w + v) + v * v := by grind
        omega
      rw [e1]
      exact Nat.dvd_of_mod_eq_zero (Nat.sub_mod_eq_zero_of_mod_eq e)
    rcases hp.dvd_mul hd with d | d
    · left
      rcases Nat.eq_zero_or_pos (u - v) with z | z
      · omega
      · have := Nat.le_of_dvd z d; omega
    · rcases Nat.eq_zero_or_pos (u + v) with z | z
      · left; omega
      · right
        obtain ⟨q, hq⟩ := d
        have : q = 1 := by
          rcases Nat.lt_or_ge q 1 with a | a
          · have : q = 0 := by omega
            subst this; omega
          · rcases Nat.lt_or_ge q 2 with b | b
            · omega
            · have := Nat.mul_le_mul_left m b; omega
        subst this; omega
  rcases Nat.le_total t s with l | l
  · exact key s t l hs ht h
  · rcases key t s l ht hs h.symm with e | e
    · left; exact e.symm
    · right; omega
theorem root_form (m a b : Nat) : b * a % m * (b * a % m) % m = a * (b * b % m * a % m) % m := by
  rw [← Nat.mul_mod, Nat.mul_mod_mod, show a * (b * b % m * a) = b * b % m * (a * a) by grind, Nat.mod_mul_mod, show b * a * (b * a) = b * b * (a * a) by grind]
theorem pow_form (m a q : Nat) (hq : q % 2 = 1) : a ^ (q / 2) % m * (a ^ (q / 2) % m) % m * a % m = a ^ q % m := by
  rw [← Nat.mul_mod, Nat.mod_mul_mod, ← Nat.pow_add, ← Nat.pow_succ, show (q / 2 + q / 2).succ = q by omega]
theorem ts_start {m : Nat} (hp : Prm m) (a q s z : Nat) (hq : q % 2 = 1) (hm : m = q * 2 ^ (s + 1) + 1) (he : a ^ ((m - 1) / 2) % m = 1) (hz : z ^ ((m - 1) / 2) % m = m - 1) :
    ts m s (a ^ (q / 2) % m * a % m) (a ^ (q / 2) % m * (a ^ (q / 2) % m) % m * a % m) (z ^ q % m) * ts m s (a ^ (q / 2) % m * a % m) (a ^ (q / 2) % m * (a ^ (q / 2) % m) % m * a % m) (z ^ q % m) % m = a % m := by
  have e : (m - 1) / 2 = q * 2 ^ s := by
    rw [Nat.pow_succ, ← Nat.mul_assoc] at hm
    omega
  rw [e] at he hz
  refine ts_root hp a s _ _ _ (root_form m a _) ?_ ?_
  · rw [pow_form m a q hq, ← Nat.pow_mod, ← Nat.pow_mul]; exact he
  · rw [← Nat.pow_mod, ← Nat.pow_mul]; exact hz
theorem cN_sq (k a : Nat) (h1 : 1 ≤ k) (h2 : k ≤ 15) (ha : a < pN k) (he : a ^ ((pN k - 1) / 2) % pN k = 1) : cN k a * cN k a % pN k = a := by
  have hp := prm_pN k h1 h2
  unfold cN
  split
  · rename_i h; subst h
    rw [ts_start hp a qP2 95 11 (by decide +kernel) (by decide +kernel) he (wit_of (f := 224) (by decide +kernel) (by decide +kernel)), Nat.mod_eq_of_lt ha]
  · split
    · rename_i h; subst h
      rw [ts_start hp a 15 3 7 (by decide) (by decide) he (wit_of (f := 8) (by decide) (by decide +kernel)), Nat.mod_eq_of_lt ha]
    · rename_i n2 n14
      have ho := (not2_14 k h1 h2 n2 n14).1
      rw [root_form, pow_form _ _ _ ho, he, Nat.mul_one, Nat.mod_eq_of_lt ha]
theorem zero_form (m e : Nat) : 0 ^ e % m * 0 % m = 0 := by rw [Nat.mul_zero, Nat.zero_mod]
theorem zero_form2 (m b : Nat) : b % m * 0 % m = 0 := by rw [Nat.mul_zero, Nat.zero_mod]
theorem ts_zero (m : Nat) : ∀ o c, ts m o 0 0 c = 0
  | 0, _ => rfl
  | o + 1, c => by
    rw [ts]
    split
    · exact ts_zero m o _
    · rw [Nat.zero_mul, Nat.zero_mul, Nat.zero_mod]; exact ts_zero m o _
theorem cN_zero (k : Nat) : cN k 0 = 0 := by
  unfold cN
  split
  · rw [zero_form, zero_form2]; exact ts_zero _ _ _
  · split
    · rw [zero_form, zero_form2]; exact ts_zero _ _ _
    · exact zero_form _ _
/-- The root that is answered. -/
theorem sq_spec (k a : Nat) (h1 : 1 ≤ k) (h2 : k ≤ 15) (h : cN k a * cN k a % pN k = a) : sqE k a = 0 ∧ sqR k a < pN k ∧ sqR k a % 2 = 0 ∧ sqR k a * sqR k a % pN k = a := by
  have hb := pN_bd k h1 h2
  have hc := cN_lt k a h1 h2
  unfold sqE sqR
  rw [if_pos h, if_pos h]
  refine ⟨rfl, ?_⟩
  by_cases hc2 : cN k a % 2 = 1
  · rw [if_pos hc2]
    exact ⟨by omega, by omega, by rw [sq_neg _ _ (by omega)]; exact h⟩
  · rw [if_neg hc2]
    exact ⟨hc, by omega, h⟩
theorem sq_none (k a : Nat) (h : cN k a * cN k a % pN k ≠ a) : sqE k a = 503 ∧ sqR k a = 0 := by
  unfold sqE sqR
  rw [if_neg h, if_neg h]
  exact ⟨rfl, rfl⟩
theorem sq_iff (k a : Nat) (h1 : 1 ≤ k) (h2 : k ≤ 15) (h0 : a ≠ 0) (ha : a < pN k) : cN k a * cN k a % pN k = a ↔ a ^ ((pN k - 1) / 2) % pN k = 1 :=
  ⟨fun h => of_sq (prm_pN k h1 h2) (pN_bd k h1 h2).2.2 h0 h, fun h => cN_sq k a h1 h2 ha h⟩

end Go.Proofs.Ytkmpholjlophpaa
namespace Go.Proofs.Ytkmpholjlophpaa
open Go.RowKit
attribute [local go_sem ↓] loadNat_is loadArr_is loadWide_is loadArrW_is storeNat_is storeWide_is
attribute [local go_sem] loadNat loadArr loadWide loadArrW storeNat storeWide idxArr fold9 fold18 nw_size nw_elem pre_self pre_1 pre_2 pre_3 pre_4 pre_5 pre_6 pre_7 pre_8 pre_9 pre_10 pre_11 pre_12 pre_13 pre_14 pre_15 pre_16 pre_17 pre_18 pre_19 pre_20 pre_21 pre_22 pre_23 pre_24 pre_25 pre_26 pre_27 pre_28 pre_29 pre_30 pre_31 pre_32 pre_33 pre_34 pre_35 pre_36 pre_37 pre_38 pre_39 pre_40 gro_size gro_drew gro_drewN drew_gro drewN_gro gro_gro blk_gro frz_gro blk_drew frz_drew blk_drewN frz_drewN blk_alloc_at frz_alloc_at blk_alloc frz_alloc cell_gro frozen_gro cell_alloc_pre frozen_alloc_pre setCell_drewN alloc_drewN setBlk_drew setBlk_drewN setBlk_alloc_at setBlk_alloc setBlk_gro setCell_gro setCell_alloc_pre size_setBlk size_setCell
attribute [local go_sem ↓] bsl_is

/-- What the loop of Sqrt keeps. -/
structure TI (m a S s c x t : Nat) : Prop where
  s1 : 1 ≤ s
  sS : s ≤ S
  cm : c < m
  xm : x < m
  tm : t < m
  e1 : x * x % m = a * t % m
  e2 : t ^ (2 ^ (s - 1)) % m = 1
  e3 : c ^ (2 ^ (s - 1)) % m = m - 1
/-- The least power of 2 by which t comes to 1. -/
theorem least_i (m t : Nat) (h1 : t % m ≠ 1) : ∀ n, t ^ (2 ^ n) % m = 1 → ∃ i, i + 1 ≤ n ∧ t ^ (2 ^ (i + 1)) % m = 1 ∧ t ^ (2 ^ i) % m ≠ 1 ∧ ∀ j, j ≤ i → t ^ (2 ^ j) % m ≠ 1
  | 0, h => absurd (by rw [Nat.pow_zero, Nat.pow_one] at h; exact h) h1
  | n + 1, h => by
    by_cases hn : ∃ j, j ≤ n ∧ t ^ (2 ^ j) % m = 1
    · obtain ⟨j, hj, e⟩ := hn
      obtain ⟨i, i1, i2⟩ := least_i m t h1 j e
      exact ⟨i, by omega, i2⟩
    · exact ⟨n, by omega, h, fun e => hn ⟨n, by omega, e⟩, fun j hj e => hn ⟨j, hj, e⟩⟩
theorem TI.step {m a S s c x t i : Nat} (hp : Prm m) (h : TI m a S s c x t) (hi : i + 1 ≤ s - 1) (hy : t ^ (2 ^ (i + 1)) % m = 1) (hn : t ^ (2 ^ i) % m ≠ 1) :
    TI m a S (i + 1) (c ^ (2 ^ (s - (i + 1) - 1)) % m * (c ^ (2 ^ (s - (i + 1) - 1)) % m) % m) (x * (c ^ (2 ^ (s - (i + 1) - 1)) % m) % m) (t * (c ^ (2 ^ (s - (i + 1) - 1)) % m * (c ^ (2 ^ (s - (i + 1) - 1)) % m) % m) % m) := by
  have hm := hp.1
  obtain ⟨b, hb⟩ : ∃ b, c ^ (2 ^ (s - (i + 1) - 1)) % m = b := ⟨_, rfl⟩
  have hbi : b ^ (2 ^ (i + 1)) % m = m - 1 := by
    rw [← hb, ← Nat.pow_mod, ← Nat.pow_mul, ← Nat.pow_add, show s - (i + 1) - 1 + (i + 1) = s - 1 by omega]
    exact h.e3
  have e2 : ∀ y : Nat, y ^ (2 ^ (i + 1)) = y ^ (2 ^ i) * y ^ (2 ^ i) := fun y => by rw [← Nat.pow_add, Nat.pow_succ]; congr 1; omega
  have hci : (b * b % m) ^ (2 ^ i) % m = m - 1 := by
    rw [← Nat.pow_mod, Nat.mul_pow, ← e2]; exact hbi
  have hti : t ^ (2 ^ i) % m = m - 1 := by
    have : t ^ (2 ^ i) % m * (t ^ (2 ^ i) % m) % m = 1 := by rw [← Nat.mul_mod, ← e2]; exact hy
    rcases sq1 hp (Nat.mod_lt _ (by omega)) this with e | e
    · exact absurd e hn
    · exact e
  rw [hb]
  refine ⟨by omega, by have := h.sS; omega, Nat.mod_lt _ (by omega), Nat.mod_lt _ (by omega), Nat.mod_lt _ (by omega), ?_, ?_, ?_⟩
  · have e3 : x * b * (x * b) = x * x * (b * b) := by grind
    rw [← Nat.mul_mod, e3, Nat.mul_mod, h.e1, ← Nat.mul_mod, Nat.mul_mod_mod, show a * (t * (b * b % m)) = b * b % m * (a * t) by grind, Nat.mod_mul_mod, show a * t * (b * b) = b * b * (a * t) by grind]
  · rw [Nat.add_sub_cancel, ← Nat.pow_mod, Nat.mul_pow, Nat.mul_mod, hti, hci]
    exact neg_neg m (by omega)
  · rw [Nat.add_sub_cancel]; exact hci
/-- What Sqrt hands back. -/
def SqR (a m : Nat) (w : World) (e : Ending) (w' : World) : Prop :=
  ∃ x p n, x < m ∧ x % 2 = 0 ∧ x * x % m = a ∧ e = .returned (.tuple #[.slice p (dl x) n, .bool true]) ∧ Sl w' p x ∧ Gr w w'
set_option maxRecDepth 100000 in
set_option maxHeartbeats 4000000 in
theorem rsqrt_no (a m n na : Nat) (pa p : Option Addr) (w : World) (ha : Sl w pa a) (hp : Sl w p m) (hm : dl m ≤ 400) (ham : a < m) (h0 : a ≠ 0) (h1 : 2 < m) (hE : a ^ ((m - 1) / 2) % m = m - 1) :
    Calls Try.prog 31 #[.slice pa (dl a) na, .slice p (dl m) n] w fun e w' => e = .returned (.tuple #[.slice none 0 0, .bool false]) ∧ Gr w w' := by
  obtain ⟨L, hL⟩ : ∃ L, m - 1 = L := ⟨_, rfl⟩
  rw [hL] at hE
  obtain ⟨h, hh⟩ : ∃ h, L / 2 = h := ⟨_, rfl⟩
  rw [hh] at hE
  have hla : dl a ≠ 0 := fun e => h0 (dl_eq_zero a e)
  have hla2 : ¬ ((dl a : Nat) : Int) = 0 := by omega
  have hla3 : (((dl a : Nat) : Int) == 0) = false := by rw [beq_eq_false_iff_ne]; exact hla2
  have HS : Hid (∀ w' k' p', Gr w w' → Sl w' p' 1 → Calls Try.prog 40 #[.slice p (dl m) n, .slice p' 1 k'] w' (Nm L w')) := fun w' k' p' g s => hL ▸ rsub_any m 1 n k' p p' w' (hp.gr g) s (by omega) (by omega)
  have HR : Hid (∀ w' k' p', Sl w' p' L → Calls Try.prog 50 #[.slice p' (dl L) k', .int .i64 1] w' (Nm h w')) := fun w' k' p' s => by
    have := rshr_any L k' 1 p' w' s (by have := dl_low L m 400 (by omega) hm; omega) (by decide)
    rw [Nat.pow_one, hh] at this
    exact this
  have HP : Hid (∀ w' k' p', Gr w w' → Sl w' p' h → Calls Try.prog 51 #[.slice pa (dl a) na, .slice p' (dl h) k', .slice p (dl m) n] w' (Nm L w')) := fun w' k' p' g s => hE ▸ rpow_any a h m na k' n pa p' p w' (ha.gr g) s (hp.gr g) (dl_low a m 400 (by omega) hm) (dl_low h m 400 (by omega) hm) hm (by omega)
  have HC : Hid (∀ w' k k' p1 p', Sl w' p1 L → Sl w' p' 1 → Calls Try.prog 24 #[.slice p1 (dl L) k, .slice p' 1 k'] w' fun e w'' => e = .returned (.int .i64 1) ∧ Gr w' w'') := fun w' k k' p1 p' s1 s2 => by
    have := rcmp_any L 1 k k' p1 p' w' s1 s2 (by have := dl_low L m 400 (by omega) hm; omega) (by decide)
    rw [show cmpZ L 1 = 1 by unfold cmpZ; rw [if_neg (by omega), if_pos (by omega)]] at this
    exact this
  have hb1 : ∀ w, (bslS 30 1 #[(0, .int .u32 1)]).run Try.prog w = .ok (.slice (some ⟨w.heap.size, 0, none⟩) 1 1) (w.alloc (.cells (nd 1 1) 63)) := fun w => build1 1 (by decide) w
  have hg0 : Gr w (w.alloc (.cells (nd 1 1) 63)) := (Gr.refl w).alloc _
  have hs0 := sl_new w
  clear hE hL hh hla ham h0 h1 hm ha hp
  go_enter Try.func31, Try.ntmps31
  go_wp2_with (first
    | (go_at_call 40; refine (HS.out _ _ _ hg0 hs0).mono ?_; rintro e W1 ⟨p1, n1, rfl, S1, G1⟩)
    | (go_at_call 50; refine (HR.out _ _ _ S1).mono ?_; rintro e W2 ⟨p2, n2, rfl, S2, G2⟩)
    | (go_at_call 51; refine (HP.out _ _ _ (hg0.trans (G1.trans G2)) S2).mono ?_; rintro e W3 ⟨p3, n3, rfl, S3, G3⟩)
    | (go_at_call 24; refine (HC.out _ _ _ _ _ S3 (hs0.gr (G1.trans (G2.trans G3)))).mono ?_; rintro e W4 ⟨rfl, G4⟩))
  go_ret2
  exact ⟨rfl, hg0.trans (G1.trans (G2.trans (G3.trans G4)))⟩

end Go.Proofs.Ytkmpholjlophpaa
namespace Go.Proofs.Ytkmpholjlophpaa
open Go.RowKit
attribute [local go_sem ↓] loadNat_is loadArr_is loadWide_is loadArrW_is storeNat_is storeWide_is
attribute [local go_sem] loadNat loadArr loadWide loadArrW storeNat storeWide idxArr fold9 fold18 nw_size nw_elem pre_self pre_1 pre_2 pre_3 pre_4 pre_5 pre_6 pre_7 pre_8 pre_9 pre_10 pre_11 pre_12 pre_13 pre_14 pre_15 pre_16 pre_17 pre_18 pre_19 pre_20 pre_21 pre_22 pre_23 pre_24 pre_25 pre_26 pre_27 pre_28 pre_29 pre_30 pre_31 pre_32 pre_33 pre_34 pre_35 pre_36 pre_37 pre_38 pre_39 pre_40 gro_size gro_drew gro_drewN drew_gro drewN_gro gro_gro blk_gro frz_gro blk_drew frz_drew blk_drewN frz_drewN blk_alloc_at frz_alloc_at blk_alloc frz_alloc cell_gro frozen_gro cell_alloc_pre frozen_alloc_pre setCell_drewN alloc_drewN setBlk_drew setBlk_drewN setBlk_alloc_at setBlk_alloc setBlk_gro setCell_gro setCell_alloc_pre size_setBlk size_setCell
attribute [local go_sem ↓] bsl_is
theorem cmp1_ne (y : Nat) (h : y ≠ 1) : cmpZ y 1 ≠ 0 := by
  unfold cmpZ
  split
  · decide
  · split
    · decide
    · omega
theorem cmp1_eq : cmpZ 1 1 = 0 := rfl
theorem TI.start {m a S q z h L : Nat} (hS : 1 ≤ S) (hm : 2 < m) (hq : q % 2 = 1) (hL : q * 2 ^ S = L) (hLm : L + 1 = m) (hh : L / 2 = h) (hE : a ^ h % m = 1) (hz : z ^ h % m = L) :
    TI m a S S (z ^ q % m) (a ^ ((q + 1) / 2) % m) (a ^ q % m) := by
  have e : h = q * 2 ^ (S - 1) := by
    rw [show S = S - 1 + 1 by omega, Nat.pow_succ, ← Nat.mul_assoc] at hL
    omega
  refine ⟨hS, Nat.le_refl _, Nat.mod_lt _ (by omega), Nat.mod_lt _ (by omega), Nat.mod_lt _ (by omega), ?_, ?_, ?_⟩
  · rw [← Nat.mul_mod, ← Nat.pow_add, Nat.mul_mod_mod, Nat.mul_comm a, ← Nat.pow_succ, show (q + 1) / 2 + (q + 1) / 2 = q.succ by omega]
  · rw [← Nat.pow_mod, ← Nat.pow_mul, ← e]; exact hE
  · rw [← Nat.pow_mod, ← Nat.pow_mul, ← e]; omega
theorem sl_two (w : World) : Sl (w.alloc (.cells (nd 1 2) 63)) (some ⟨w.heap.size, 0, none⟩) 2 := Sl.of_blk (n := 1) (by simp [go_sem]) (by simp [go_sem]) (by decide)
set_option maxRecDepth 100000 in
set_option maxHeartbeats 8000000 in
theorem rsqrt_yes (a m n na q S z : Nat) (pa p : Option Addr) (w : World) (ha : Sl w pa a) (hp : Sl w p m) (hm : dl m ≤ 400) (hprm : Prm m) (hodd : m % 2 = 1) (ham : a < m) (h0 : a ≠ 0) (h1 : 2 < m) (hE : a ^ ((m - 1) / 2) % m = 1)
    (hq : q % 2 = 1) (hqS : m = q * 2 ^ S + 1) (hS : 1 ≤ S) (hS2 : S < 1000) (hz2 : 2 ≤ z) (hzm : z < m) (hzE : z ^ ((m - 1) / 2) % m = m - 1) (hzn : ∀ x, 2 ≤ x → x < z → x ^ ((m - 1) / 2) % m = 1) :
    Calls Try.prog 31 #[.slice pa (dl a) na, .slice p (dl m) n] w (SqR a m w) := by
  obtain ⟨L, hL⟩ : ∃ L, m - 1 = L := ⟨_, rfl⟩
  rw [hL] at hE hzE hzn
  obtain ⟨h, hh⟩ : ∃ h, L / 2 = h := ⟨_, rfl⟩
  rw [hh] at hE hzE hzn
  have hLq : q * 2 ^ S = L := by omega
  have hla : dl a ≠ 0 := fun e => h0 (dl_eq_zero a e)
  have hla2 : ¬ ((dl a : Nat) : Int) = 0 := by omega
  have hla3 : (((dl a : Nat) : Int) == 0) = false := by rw [beq_eq_false_iff_ne]; exact hla2
  have HD : Hid (∀ x, x ≤ m → dl x ≤ 400) := fun x hx => dl_low x m 400 hx hm
  have HS : Hid (∀ w' k' p', Gr w w' → Sl w' p' 1 → Calls Try.prog 40 #[.slice p (dl m) n, .slice p' 1 k'] w' (Nm L w')) := fun w' k' p' g s => hL ▸ rsub_any m 1 n k' p p' w' (hp.gr g) s (by omega) (by omega)
  have HSx : Hid (∀ w' x k' p', Gr w w' → Sl w' p' x → x ≤ m → Calls Try.prog 40 #[.slice p (dl m) n, .slice p' (dl x) k'] w' (Nm (m - x) w')) := fun w' x k' p' g s hx => rsub_any m x n k' p p' w' (hp.gr g) s (by omega) hx
  have HR : Hid (∀ w' x y k' p', Sl w' p' x → x ≤ m → x / 2 = y → Calls Try.prog 50 #[.slice p' (dl x) k', .int .i64 1] w' (Nm y w')) := fun w' x y k' p' s hx e => by
    have := rshr_any x k' 1 p' w' s (by have := HD.out x hx; omega) (by decide)
    rw [Nat.pow_one, e] at this
    exact this
  have HP : Hid (∀ w' x e r k k' p1 p', Gr w w' → Sl w' p1 x → Sl w' p' e → x ≤ m → e ≤ m → x ^ e % m = r → Calls Try.prog 51 #[.slice p1 (dl x) k, .slice p' (dl e) k', .slice p (dl m) n] w' (Nm r w')) := fun w' x e r k k' p1 p' g s1 s2 hx he e1 => e1 ▸ rpow_any x e m k k' n p1 p' p w' s1 s2 (hp.gr g) (HD.out x hx) (HD.out e he) hm (by omega)
  have HM : Hid (∀ w' x y r k k' p1 p2, Gr w w' → Sl w' p1 x → Sl w' p2 y → x ≤ m → y ≤ m → x * y % m = r → Calls Try.prog 27 #[.slice p1 (dl x) k, .slice p2 (dl y) k', .slice p (dl m) n] w' (Nm r w')) := fun w' x y r k k' p1 p2 g s1 s2 hx hy e1 => e1 ▸ rmulmod_any x y m k k' n p1 p2 p w' s1 s2 (hp.gr g) (HD.out x hx) (HD.out y hy) hm (by omega)
  have HC : Hid (∀ w' x c k k' p1 p', Sl w' p1 x → Sl w' p' 1 → x ≤ m → cmpZ x 1 = c → Calls Try.prog 24 #[.slice p1 (dl x) k, .slice p' 1 k'] w' fun e w'' => e = .returned (.int .i64 c) ∧ Gr w' w'') := fun w' x c k k' p1 p' s1 s2 hx e => e ▸ rcmp_any x 1 k k' p1 p' w' s1 s2 (by have := HD.out x hx; omega) (by decide)
  have HA : Hid (∀ w' x k k' p1 p', Sl w' p1 x → Sl w' p' 1 → x ≤ m → Calls Try.prog 47 #[.slice p1 (dl x) k, .slice p' 1 k'] w' (Nm (x + 1) w')) := fun w' x k k' p1 p' s1 s2 hx => radd_any x 1 k k' p1 p' w' s1 s2 (by have := HD.out x hx; omega) (by decide)
  have HB : Hid (∀ w' x b k p1, Sl w' p1 x → x % 2 = b → Calls Try.prog 52 #[.slice p1 (dl x) k, .int .i64 0] w' fun e w'' => e = .returned (.int .i64 (b : Int)) ∧ w'' = w') := fun w' x b k p1 s e => by
    have := rbit_any x k 0 p1 w' s (by decide)
    unfold bitN at this
    rw [Nat.pow_zero, Nat.div_one, e] at this
    exact this
  have hb1 : ∀ w, (bslS 30 1 #[(0, .int .u32 1)]).run Try.prog w = .ok (.slice (some ⟨w.heap.size, 0, none⟩) 1 1) (w.alloc (.cells (nd 1 1) 63)) := fun w => build1 1 (by decide) w
  have hb2 : ∀ w, (bslS 30 1 #[(0, .int .u32 2)]).run Try.prog w = .ok (.slice (some ⟨w.heap.size, 0, none⟩) 1 1) (w.alloc (.cells (nd 1 2) 63)) := fun w => build1 2 (by decide) w
  have hg0 : Gr w (w.alloc (.cells (nd 1 1) 63)) := (Gr.refl w).alloc _
  have hs0 := sl_new w
  obtain ⟨E, hEE⟩ : ∃ E, E = 1 := ⟨_, rfl⟩
  rw [← hEE] at hE
  have HE : Hid (cmpZ E 1 = 0 ∧ E ≤ m ∧ a ^ h % m = E ∧ a ≤ m ∧ h ≤ m ∧ L ≤ m ∧ L / 2 = h) := ⟨by rw [hEE]; rfl, by omega, hE, by omega, by omega, by omega, hh⟩
  have HK : Hid (Prm m ∧ m % 2 = 1 ∧ a < m ∧ 2 < m ∧ q % 2 = 1 ∧ q * 2 ^ S = L ∧ 1 ≤ S ∧ S < 1000 ∧ 2 ≤ z ∧ z < m ∧ z ^ h % m = L ∧ (∀ x, 2 ≤ x → x < z → x ^ h % m = 1) ∧ L + 1 = m ∧ L / 2 = h ∧ a ^ h % m = 1) := ⟨hprm, hodd, ham, h1, hq, hLq, hS, hS2, hz2, hzm, hzE, hzn, by omega, hh, by rw [hE, hEE]⟩
  have HSa : Hid (Sl w pa a) := ha
  have s2 : (S : Int) < 1000 := by omega
  clear hE hEE hL hh hla ham h0 h1 hm ha hp hprm hodd hq hqS hS hS2 hz2 hzm hzE hzn hLq
  go_enter Try.func31, Try.ntmps31
  go_upto_region 7 with (first
    | (go_at_call 40; refine (HS.out _ _ _ hg0 hs0).mono ?_; rintro e W1 ⟨p1, n1, rfl, S1, G1⟩)
    | (go_at_call 50; refine (HR.out _ _ h _ _ S1 HE.out.2.2.2.2.2.1 HE.out.2.2.2.2.2.2).mono ?_; rintro e W2 ⟨p2, n2, rfl, S2, G2⟩)
    | (go_at_call 51; refine (HP.out _ a h E _ _ _ _ (hg0.trans (G1.trans G2)) (HSa.out.gr (hg0.trans (G1.trans G2))) S2 HE.out.2.2.2.1 HE.out.2.2.2.2.1 HE.out.2.2.1).mono ?_; rintro e W3 ⟨p3, n3, rfl, S3, G3⟩)
    | (go_at_call 24; refine (HC.out _ E 0 _ _ _ _ S3 (hs0.gr (G1.trans (G2.trans G3))) HE.out.2.1 HE.out.1).mono ?_; rintro e W4 ⟨rfl, G4⟩))
  have GA : Gr w W4 := hg0.trans (G1.trans (G2.trans (G3.trans G4)))
  have SO : Sl W4 (some ⟨w.heap.size, 0, none⟩) 1 := hs0.gr (G1.trans (G2.trans (G3.trans G4)))
  have SH : Sl W4 p2 h := S2.gr (G3.trans G4)
  generalize (some ⟨w.heap.size, 0, none⟩ : Option Addr) = po at SO ⊢
  clear S1 S2 S3 G1 G2 G3 G4 hg0 hs0 HE
  go_wp2_with (go_at_call 40; refine (HS.out _ _ _ GA SO).mono ?_; rintro e W5 ⟨p5, n5, rfl, S5, G5⟩)
  have H5 : Hid (Gr w W5 ∧ Sl W5 po 1 ∧ Sl W5 p2 h ∧ Sl W5 p5 L) := ⟨GA.trans G5, SO.gr G5, SH.gr G5, S5⟩
  clear GA SO SH S5 G5 HS
  go_loopw [8, 9] (fun a8 a9 wr => ∃ (j v n8 : Nat) (p8 : Option Addr), a8 = .slice p8 (dl v) n8 ∧ a9 = .int .i64 (j : Int) ∧ Hid (Unit → j ≤ S ∧ q * 2 ^ (S - j) = v) ∧ Hid (Gr W5 wr ∧ Sl wr p8 v)) (fun _ a9 _ => ((S : Int) - intOf a9).toNat)
  case atStart => exact ⟨0, L, n5, p5, rfl, rfl, fun _ => ⟨Nat.zero_le _, HK.out.2.2.2.2.2.1⟩, Gr.refl _, H5.out.2.2.2⟩
  case round =>
    obtain ⟨j, v, n8, p8, rfl, rfl, HJ, HV⟩ := hrel
    have hS := HK.out.2.2.2.2.2.2.2.1
    by_cases hj : j < S
    · have e2 : q * 2 ^ (S - j) = (q * 2 ^ (S - (j + 1))) * 2 := by
        rw [show S - j = S - (j + 1) + 1 by omega, Nat.pow_succ, Nat.mul_assoc]
      obtain ⟨y, hy⟩ : ∃ y, v / 2 = y := ⟨_, rfl⟩
      have hvm : v ≤ m := by
        have h3 := HK.out.2.2.2.2.2.1
        have h4 := HK.out.2.2.2.2.2.2.2.2.2.2.2.2.1
        have h5 : q * 2 ^ (S - j) ≤ q * 2 ^ S := Nat.mul_le_mul_left q (Nat.pow_le_pow_right (by decide) (by omega))
        have := (HJ.out ()).2
        omega
      have HF : Hid (v % 2 = 0 ∧ v ≤ m ∧ v / 2 = y ∧ j + 1 ≤ S ∧ q * 2 ^ (S - (j + 1)) = y) := ⟨by have := (HJ.out ()).2; omega, hvm, hy, hj, by have := (HJ.out ()).2; omega⟩
      have j1 : (j : Int) < 1000 := by omega
      have j0 : (0 : Int) ≤ (j : Int) := by omega
      have j2 : (j : Int) < (S : Int) := by omega
      clear e2 hy hvm hj hS
      go_wp2_with (first
        | (go_at_call 52; refine (HB.out _ v 0 _ _ HV.out.2 HF.out.1).mono ?_; rintro e w' ⟨rfl, rfl⟩)
        | (go_at_call 50; refine (HR.out _ v y _ _ HV.out.2 HF.out.2.1 HF.out.2.2.1).mono ?_; rintro e W6 ⟨p6, n6, rfl, S6, G6⟩))
      go_roundw
      case rel => exact ⟨j + 1, y, n6, p6, rfl, by go_num, fun _ => HF.out.2.2.2, HV.out.1.trans G6, S6⟩
      case measure => simp [intOf]; omega
    · have hjS : j = S := by have := (HJ.out ()).1; omega
      subst hjS
      have hvq : v = q := by have := (HJ.out ()).2; rw [Nat.sub_self, Nat.pow_zero, Nat.mul_one] at this; exact this.symm
      subst hvq
      have H6 : Hid (Gr w wr ∧ Sl wr po 1 ∧ Sl wr p2 h ∧ Sl wr p8 v) := ⟨H5.out.1.trans HV.out.1, H5.out.2.1.gr HV.out.1, H5.out.2.2.1.gr HV.out.1, HV.out.2⟩
      have hv1 : v % 2 = 1 := HK.out.2.2.2.2.1
      clear HJ HV H5 hj hS
      go_wp2_with (go_at_call 52; refine (HB.out _ v 1 _ _ H6.out.2.2.2 hv1).mono ?_; rintro e w' ⟨rfl, rfl⟩)
      have hg2 : Gr w' (w'.alloc (.cells (nd 1 2) 63)) := (Gr.refl w').alloc _
      have HB0 : Hid (Sl (w'.alloc (.cells (nd 1 2) 63)) (some ⟨w'.heap.size, 0, none⟩) 2) := sl_two w'
      obtain ⟨WB, hWB⟩ : ∃ W, w'.alloc (.cells (nd 1 2) 63) = W := ⟨_, rfl⟩
      rw [hWB] at hg2 HB0 ⊢
      generalize (some ⟨w'.heap.size, 0, none⟩ : Option Addr) = pz at HB0 ⊢
      have H7 : Hid (Gr w WB ∧ Sl WB po 1 ∧ Sl WB p2 h ∧ Sl WB p8 v ∧ Sl WB pz 2) := ⟨H6.out.1.trans hg2, H6.out.2.1.gr hg2, H6.out.2.2.1.gr hg2, H6.out.2.2.2.gr hg2, HB0.out⟩
      clear hWB hg2 HB0 H6 hb1 hb2
      go_loopw [10] (fun a10 wr => ∃ (x k : Nat) (p10 : Option Addr), a10 = .slice p10 (dl x) k ∧ Hid (2 ≤ x ∧ x ≤ z) ∧ Hid (Gr WB wr ∧ Sl wr p10 x)) (fun a10 wr => z - mS wr a10)
      case atStart => exact ⟨2, 1, pz, rfl, ⟨Nat.le_refl _, HK.out.2.2.2.2.2.2.2.2.1⟩, Gr.refl _, H7.out.2.2.2.2⟩
      case round =>
        obtain ⟨x, k, p10, rfl, HX, HV⟩ := hrel
        have hzm := HK.out.2.2.2.2.2.2.2.2.2.1
        have hLm := HK.out.2.2.2.2.2.2.2.2.2.2.2.2.1
        have hhL := HK.out.2.2.2.2.2.2.2.2.2.2.2.2.2.1
        obtain ⟨Y, hY⟩ : ∃ Y, x ^ h % m = Y := ⟨_, rfl⟩
        have hYm : Y ≤ m := by rw [← hY]; exact Nat.le_of_lt (Nat.mod_lt _ (by omega))
        have hxz := HX.out.2
        have hx2 := HX.out.1
        by_cases hx : x < z
        · have hY1 : Y = 1 := by rw [← hY]; exact HK.out.2.2.2.2.2.2.2.2.2.2.2.1 x HX.out.1 hx
          have HF : Hid (x ≤ m ∧ h ≤ m ∧ x ^ h % m = Y ∧ Y ≤ m ∧ cmpZ Y 1 = 0 ∧ 2 ≤ x + 1 ∧ x + 1 ≤ z) := ⟨by omega, by omega, hY, hYm, by rw [hY1]; rfl, by omega, hx⟩
          obtain ⟨u, hu⟩ : ∃ u, x + 1 = u := ⟨_, rfl⟩
          have HA1 : Hid (∀ w' k k' p1 p', Sl w' p1 x → Sl w' p' 1 → x ≤ m → Calls Try.prog 47 #[.slice p1 (dl x) k, .slice p' 1 k'] w' (Nm u w')) := fun w' k k' p1 p' s1 s2 hx => hu ▸ HA.out w' x k k' p1 p' s1 s2 hx
          have HG : Hid (Gr w wr ∧ Sl wr po 1 ∧ Sl wr p2 h) := ⟨H7.out.1.trans HV.out.1, H7.out.2.1.gr HV.out.1, H7.out.2.2.1.gr HV.out.1⟩
          have HM2 : Hid (2 ≤ u ∧ u ≤ z ∧ z - u < z - x) := ⟨by omega, by omega, by omega⟩
          clear hzm hLm hhL hY hYm hxz hx2 hx hY1 hu HA
          go_wp2_with (first
            | (go_at_call 51; refine (HP.out _ x h Y _ _ _ _ HG.out.1 HV.out.2 HG.out.2.2 HF.out.1 HF.out.2.1 HF.out.2.2.1).mono ?_; rintro e W1 ⟨p1, n1, rfl, S1, G1⟩)
            | (go_at_call 24; refine (HC.out _ Y 0 _ _ _ _ S1 (HG.out.2.1.gr G1) HF.out.2.2.2.1 HF.out.2.2.2.2.1).mono ?_; rintro e W2 ⟨rfl, G2⟩)
            | (go_at_call 47; refine (HA1.out _ _ _ _ _ (HV.out.2.gr (G1.trans G2)) (HG.out.2.1.gr (G1.trans G2)) HF.out.1).mono ?_; rintro e W3 ⟨p3, n3, rfl, S3, G3⟩))
          go_roundw
          case rel => exact ⟨u, n3, p3, rfl, ⟨HM2.out.1, HM2.out.2.1⟩, HV.out.1.trans (G1.trans (G2.trans G3)), S3⟩
          case measure => rw [mS_is S3, mS_is HV.out.2]; exact HM2.out.2.2
        · have hxe : x = z := by omega
          subst hxe
          have hYL : Y = L := by rw [← hY]; exact HK.out.2.2.2.2.2.2.2.2.2.2.1
          subst hYL
          have HF : Hid (x ≤ m ∧ h ≤ m ∧ x ^ h % m = Y ∧ Y ≤ m ∧ cmpZ Y 1 = 1) := ⟨by omega, by omega, hY, hYm, by
            have := HK.out.2.2.2.1
            unfold cmpZ; rw [if_neg (by omega), if_pos (by omega)]⟩
          have HG : Hid (Gr w wr ∧ Sl wr po 1 ∧ Sl wr p2 h ∧ Sl wr p8 v ∧ Sl wr p10 x) := ⟨H7.out.1.trans HV.out.1, H7.out.2.1.gr HV.out.1, H7.out.2.2.1.gr HV.out.1, H7.out.2.2.2.1.gr HV.out.1, HV.out.2⟩
          clear hzm hLm hhL hY hYm hxz hx2 hx HV HX H7
          go_upto_region 15 with (first
            | (go_at_call 51; refine (HP.out _ x h Y _ _ _ _ HG.out.1 HG.out.2.2.2.2 HG.out.2.2.1 HF.out.1 HF.out.2.1 HF.out.2.2.1).mono ?_; rintro e W1 ⟨p1, n1, rfl, S1, G1⟩)
            | (go_at_call 24; refine (HC.out _ Y 1 _ _ _ _ S1 (HG.out.2.1.gr G1) HF.out.2.2.2.1 HF.out.2.2.2.2).mono ?_; rintro e W2 ⟨rfl, G2⟩))
          have G12 := G1.trans G2
          have HG2 : Hid (Gr w W2 ∧ Sl W2 po 1 ∧ Sl W2 p8 v ∧ Sl W2 p10 x) := ⟨HG.out.1.trans G12, HG.out.2.1.gr G12, HG.out.2.2.2.1.gr G12, HG.out.2.2.2.2.gr G12⟩
          clear S1 G1 G2 G12 HG
          obtain ⟨c0, hc0⟩ : ∃ c, x ^ v % m = c := ⟨_, rfl⟩
          obtain ⟨u, hu⟩ : ∃ u, (v + 1) / 2 = u := ⟨_, rfl⟩
          obtain ⟨v1, hv11⟩ : ∃ u, v + 1 = u := ⟨_, rfl⟩
          obtain ⟨x0, hx0⟩ : ∃ c, a ^ u % m = c := ⟨_, rfl⟩
          obtain ⟨t0, ht0⟩ : ∃ c, a ^ v % m = c := ⟨_, rfl⟩
          have HT : Hid (TI m a j j c0 x0 t0) := by
            have := TI.start (z := x) HK.out.2.2.2.2.2.2.1 HK.out.2.2.2.1 HK.out.2.2.2.2.1 HK.out.2.2.2.2.2.1 HK.out.2.2.2.2.2.2.2.2.2.2.2.2.1 HK.out.2.2.2.2.2.2.2.2.2.2.2.2.2.1 HK.out.2.2.2.2.2.2.2.2.2.2.2.2.2.2 HF.out.2.2.1
            rw [hu, hc0, hx0, ht0] at this
            exact this
          have hvL : v ≤ Y := by
            have := HK.out.2.2.2.2.2.1
            rw [← this]
            exact Nat.le_mul_of_pos_right v (Nat.two_pow_pos j)
          have HN : Hid (x ≤ m ∧ v ≤ m ∧ a ≤ m ∧ u ≤ m ∧ v1 ≤ m ∧ v1 / 2 = u ∧ x ^ v % m = c0 ∧ a ^ u % m = x0 ∧ a ^ v % m = t0) := ⟨HF.out.1, by have := HF.out.2.2.2.1; omega, by have := HK.out.2.2.1; omega, by have := HF.out.2.2.2.1; have := HK.out.2.2.2.2.2.2.2.2.2.2.2.2.1; omega, by have := HF.out.2.2.2.1; have := HK.out.2.2.2.2.2.2.2.2.2.2.2.2.1; omega, by omega, hc0, hx0, ht0⟩
          have HA1 : Hid (∀ w' k k' p1 p', Sl w' p1 v → Sl w' p' 1 → v ≤ m → Calls Try.prog 47 #[.slice p1 (dl v) k, .slice p' 1 k'] w' (Nm v1 w')) := fun w' k k' p1 p' s1 s2 hx => hv11 ▸ HA.out w' v k k' p1 p' s1 s2 hx
          clear hc0 hu hv11 hx0 ht0 hvL HA HF
          go_upto_region 16 with (go_at_call 51; refine (HP.out _ x v c0 _ _ _ _ HG2.out.1 HG2.out.2.2.2 HG2.out.2.2.1 HN.out.1 HN.out.2.1 HN.out.2.2.2.2.2.2.1).mono ?_; rintro e W3 ⟨p3, n3, rfl, S3, G3⟩)
          have HG3 : Hid (Gr w W3 ∧ Sl W3 po 1 ∧ Sl W3 p8 v ∧ Sl W3 p3 c0) := ⟨HG2.out.1.trans G3, HG2.out.2.1.gr G3, HG2.out.2.2.1.gr G3, S3⟩
          clear HG2 S3 G3
          go_upto_region 17 with (first
            | (go_at_call 47; refine (HA1.out _ _ _ _ _ HG3.out.2.2.1 HG3.out.2.1 HN.out.2.1).mono ?_; rintro e W4 ⟨p4, n4, rfl, S4, G4⟩)
            | (go_at_call 50; refine (HR.out _ v1 u _ _ S4 HN.out.2.2.2.2.1 HN.out.2.2.2.2.2.1).mono ?_; rintro e W5 ⟨p5', n5', rfl, S5, G5⟩)
            | (go_at_call 51; refine (HP.out _ a u x0 _ _ _ _ (HG3.out.1.trans (G4.trans G5)) (HSa.out.gr (HG3.out.1.trans (G4.trans G5))) S5 HN.out.2.2.1 HN.out.2.2.2.1 HN.out.2.2.2.2.2.2.2.1).mono ?_; rintro e W6 ⟨p6, n6, rfl, S6, G6⟩))
          have G46 := G4.trans (G5.trans G6)
          have HG4 : Hid (Gr w W6 ∧ Sl W6 po 1 ∧ Sl W6 p8 v ∧ Sl W6 p3 c0 ∧ Sl W6 p6 x0) := ⟨HG3.out.1.trans G46, HG3.out.2.1.gr G46, HG3.out.2.2.1.gr G46, HG3.out.2.2.2.gr G46, S6⟩
          clear HG3 S4 S5 S6 G4 G5 G6 G46 HA1
          go_wp2_with (go_at_call 51; refine (HP.out _ a v t0 _ _ _ _ HG4.out.1 (HSa.out.gr HG4.out.1) HG4.out.2.2.1 HN.out.2.2.1 HN.out.2.1 HN.out.2.2.2.2.2.2.2.2).mono ?_; rintro e W7 ⟨p7, n7, rfl, S7, G7⟩)
          have HW : Hid (Gr w W7 ∧ Sl W7 po 1 ∧ Sl W7 p3 c0 ∧ Sl W7 p6 x0 ∧ Sl W7 p7 t0) := ⟨HG4.out.1.trans G7, HG4.out.2.1.gr G7, HG4.out.2.2.2.1.gr G7, HG4.out.2.2.2.2.gr G7, S7⟩
          clear HG4 S7 G7 HN HP HR HSa
          go_loopw [9, 11, 12, 13] (fun a9 a11 a12 a13 wr => ∃ (s c x t n11 n12 n13 : Nat) (p11 p12 p13 : Option Addr), a9 = .int .i64 (s : Int) ∧ a11 = .slice p11 (dl c) n11 ∧ a12 = .slice p12 (dl x) n12 ∧ a13 = .slice p13 (dl t) n13 ∧ Hid (TI m a j s c x t) ∧ Hid (Gr W7 wr ∧ Sl wr p11 c ∧ Sl wr p12 x ∧ Sl wr p13 t)) (fun a9 _ _ _ _ => (intOf a9).toNat)
          case atStart => exact ⟨j, c0, x0, t0, n3, n6, n7, p3, p6, p7, rfl, rfl, rfl, rfl, HT, Gr.refl _, HW.out.2.2.1, HW.out.2.2.2.1, HW.out.2.2.2.2⟩
          case round =>
            obtain ⟨s, c, x, t, n11, n12, n13, p11, p12, p13, rfl, rfl, rfl, rfl, HI, HV⟩ := hrel
            have hm2 := HK.out.2.2.2.1
            have hprm := HK.out.1
            have hti := HI.out
            have hsj := hti.sS
            have hj := HK.out.2.2.2.2.2.2.2.1
            have HG : Hid (Gr w wr ∧ Sl wr po 1) := ⟨HW.out.1.trans HV.out.1, HW.out.2.1.gr HV.out.1⟩
            by_cases ht1 : t = 1
            · subst ht1
              have hxa : x * x % m = a := by
                have := hti.e1
                rw [Nat.mul_one, Nat.mod_eq_of_lt HK.out.2.2.1] at this
                exact this
              have hxm := hti.xm
              by_cases hx2 : x % 2 = 1
              · have HF : Hid (x ≤ m ∧ m - x < m ∧ (m - x) % 2 = 0 ∧ (m - x) * (m - x) % m = a) := ⟨by omega, by omega, by have := HK.out.2.1; omega, by rw [sq_neg _ _ (by omega)]; exact hxa⟩
                obtain ⟨f, hf⟩ : ∃ f, m - x = f := ⟨_, rfl⟩
                rw [hf] at HF
                have HSx1 : Hid (∀ w' k' p', Gr w w' → Sl w' p' x → x ≤ m → Calls Try.prog 40 #[.slice p (dl m) n, .slice p' (dl x) k'] w' (Nm f w')) := fun w' k' p' g s1 hx => hf ▸ HSx.out w' x k' p' g s1 hx
                clear hm2 hprm hti hsj hj hxa hxm hf HM HD HI HT HW HSx
                go_wp2_with (first
                  | (go_at_call 24; refine (HC.out _ 1 0 _ _ _ _ HV.out.2.2.2 HG.out.2 ?_ cmp1_eq).mono ?_; have := HK.out.2.2.2.1; omega; rintro e W1 ⟨rfl, G1⟩)
                  | (go_at_call 52; refine (HB.out _ x 1 _ _ (HV.out.2.2.1.gr G1) hx2).mono ?_; rintro e W2 ⟨rfl, rfl⟩)
                  | (go_at_call 40; refine (HSx1.out _ _ _ (HG.out.1.trans G1) (HV.out.2.2.1.gr G1) HF.out.1).mono ?_; rintro e W3 ⟨p3', n3', rfl, S3, G3⟩))
                go_ret2
                exact ⟨f, p3', n3', HF.out.2.1, HF.out.2.2.1, HF.out.2.2.2, rfl, S3, HG.out.1.trans (G1.trans G3)⟩
              · have hx3 : x % 2 = 0 := by omega
                have HF : Hid (x < m ∧ x % 2 = 0 ∧ x * x % m = a) := ⟨hxm, hx3, hxa⟩
                clear hm2 hprm hti hsj hj hxa hxm hx2 HM HD HI HT HW HSx
                go_wp2_with (first
                  | (go_at_call 24; refine (HC.out _ 1 0 _ _ _ _ HV.out.2.2.2 HG.out.2 ?_ cmp1_eq).mono ?_; have := HK.out.2.2.2.1; omega; rintro e W1 ⟨rfl, G1⟩)
                  | (go_at_call 52; refine (HB.out _ x 0 _ _ (HV.out.2.2.1.gr G1) hx3).mono ?_; rintro e W2 ⟨rfl, rfl⟩))
                go_ret2
                exact ⟨x, p12, n12, HF.out.1, HF.out.2.1, HF.out.2.2, rfl, HV.out.2.2.1.gr G1, HG.out.1.trans G1⟩
            · have ht0' : t % m ≠ 1 := by rw [Nat.mod_eq_of_lt hti.tm]; exact ht1
              obtain ⟨i, i1, iy, ine, iall⟩ := least_i m t ht0' (s - 1) hti.e2
              have HST := hti.step hprm (i := i) i1 iy ine
              obtain ⟨D, hD⟩ : ∃ D, s - (i + 1) - 1 = D := ⟨_, rfl⟩
              rw [hD] at HST
              obtain ⟨b, hb⟩ : ∃ b, c ^ (2 ^ D) % m = b := ⟨_, rfl⟩
              rw [hb] at HST
              obtain ⟨c', hc'⟩ : ∃ y, b * b % m = y := ⟨_, rfl⟩
              rw [hc'] at HST
              obtain ⟨t', ht'⟩ : ∃ y, t * c' % m = y := ⟨_, rfl⟩
              obtain ⟨x', hx'⟩ : ∃ y, x * b % m = y := ⟨_, rfl⟩
              rw [ht', hx'] at HST
              obtain ⟨I, hI⟩ : ∃ I, i + 1 = I := ⟨_, rfl⟩
              rw [hI] at HST iy
              have HST' : Hid (TI m a j I c' x' t') := HST
              have hbm : b < m := by rw [← hb]; exact Nat.mod_lt _ (by omega)
              have HF : Hid (t ≤ m ∧ c < m ∧ x ≤ m ∧ b ≤ m ∧ c' ≤ m ∧ b * b % m = c' ∧ t * c' % m = t' ∧ x * b % m = x' ∧ t < m) := ⟨Nat.le_of_lt hti.tm, hti.cm, Nat.le_of_lt hti.xm, by omega, Nat.le_of_lt HST.cm, hc', ht', hx', hti.tm⟩
              have HL : Hid (t ^ (2 ^ I) % m = 1 ∧ (∀ r, r < I → t ^ (2 ^ r) % m ≠ 1) ∧ c ^ (2 ^ D) % m = b ∧ I < s) := ⟨iy, fun r hr => iall r (by omega), hb, by omega⟩
              obtain ⟨ct, hct⟩ : ∃ z, cmpZ t 1 = z := ⟨_, rfl⟩
              have ct0 : ¬ ct = 0 := by rw [← hct]; exact cmp1_ne t ht1
              have ct1 : (ct == 0) = false := by rw [beq_eq_false_iff_ne]; exact ct0
              have ct2 : (ct != 0) = true := by rw [bne, ct1]; rfl
              have hsD : (s : Int) - (I : Int) - 1 = (D : Int) := by omega
              have I0 : (0 : Int) ≤ (I : Int) := by omega
              have I1 : (I : Int) < 1000 := by omega
              have D0 : (D : Int) < 1000 := by omega
              have s10 : (s : Int) < 1000 := by omega
              have sI : (I : Int) < (s : Int) := by have := HL.out.2.2.2; omega
              clear hm2 hti hsj hj ht1 ht0' i1 iy ine iall HST hD hb hc' ht' hx' hI hbm HI HT
              go_wp2_with (go_at_call 24; refine (HC.out _ t ct _ _ _ _ HV.out.2.2.2 HG.out.2 HF.out.1 hct).mono ?_; rintro e W8 ⟨rfl, G8⟩)
              have HQ : Hid (Gr W7 W8 ∧ Gr w W8 ∧ Sl W8 po 1 ∧ Sl W8 p11 c ∧ Sl W8 p12 x ∧ Sl W8 p13 t) := ⟨HV.out.1.trans G8, HG.out.1.trans G8, HG.out.2.gr G8, HV.out.2.1.gr G8, HV.out.2.2.1.gr G8, HV.out.2.2.2.gr G8⟩
              clear HV HG G8 ct0 ct1 ct2 hct
              go_loopw [14, 15] (fun a14 a15 wr' => ∃ (r y n15 : Nat) (p15 : Option Addr), a14 = .int .i64 (r : Int) ∧ a15 = .slice p15 (dl y) n15 ∧ Hid (r ≤ I ∧ t ^ (2 ^ r) % m = y) ∧ Hid (Gr W8 wr' ∧ Sl wr' p15 y)) (fun a14 _ _ => ((I : Int) - intOf a14).toNat)
              case atStart => exact ⟨0, t, n13, p13, rfl, rfl, ⟨Nat.zero_le _, by rw [Nat.pow_zero, Nat.pow_one]; exact Nat.mod_eq_of_lt HF.out.2.2.2.2.2.2.2.2⟩, Gr.refl _, HQ.out.2.2.2.2.2⟩
              case round =>
                obtain ⟨r, y, n15, p15, rfl, rfl, HJ, HY⟩ := hrel
                have hm0 : 0 < m := by have := HK.out.2.2.2.1; omega
                have hym : y ≤ m := by rw [← HJ.out.2]; exact Nat.le_of_lt (Nat.mod_lt _ hm0)
                have HG : Hid (Gr w wr ∧ Sl wr po 1) := ⟨HQ.out.2.1.trans HY.out.1, HQ.out.2.2.1.gr HY.out.1⟩
                have r0 : (0 : Int) ≤ (r : Int) := by omega
                by_cases hr : r < I
                · have hy1 : y ≠ 1 := by rw [← HJ.out.2]; exact HL.out.2.1 r hr
                  obtain ⟨cy, hcy⟩ : ∃ z, cmpZ y 1 = z := ⟨_, rfl⟩
                  have cy0 : ¬ cy = 0 := by rw [← hcy]; exact cmp1_ne y hy1
                  have cy1 : (cy == 0) = false := by rw [beq_eq_false_iff_ne]; exact cy0
                  obtain ⟨y2, hy2⟩ : ∃ z, y * y % m = z := ⟨_, rfl⟩
                  have HF2 : Hid (y ≤ m ∧ cmpZ y 1 = cy ∧ y * y % m = y2 ∧ r + 1 ≤ I ∧ t ^ (2 ^ (r + 1)) % m = y2) := ⟨hym, hcy, hy2, hr, by
                    rw [← hy2, ← HJ.out.2, ← Nat.mul_mod, ← Nat.pow_add, Nat.pow_succ, show 2 ^ r * 2 = 2 ^ r + 2 ^ r by omega]⟩
                  have r2 : (r : Int) < (I : Int) := by omega
                  clear hm0 hym hy1 hcy hy2 hr HJ
                  go_wp2_with (first
                    | (go_at_call 24; refine (HC.out _ y cy _ _ _ _ HY.out.2 HG.out.2 HF2.out.1 HF2.out.2.1).mono ?_; rintro e W9 ⟨rfl, G9⟩)
                    | (go_at_call 27; refine (HM.out _ y y y2 _ _ _ _ (HG.out.1.trans G9) (HY.out.2.gr G9) (HY.out.2.gr G9) HF2.out.1 HF2.out.1 HF2.out.2.2.1).mono ?_; rintro e W10 ⟨p10', n10', rfl, S10, G10⟩))
                  go_roundw
                  case rel => exact ⟨r + 1, y2, n10', p10', by go_num, rfl, HF2.out.2.2.2, HY.out.1.trans (G9.trans G10), S10⟩
                  case measure => simp [intOf]; omega
                · have hrI : r = I := by have := HJ.out.1; omega
                  subst hrI
                  have hy1 : y = 1 := by rw [← HJ.out.2]; exact HL.out.1
                  subst hy1
                  have hm1 : 1 ≤ m := hm0
                  clear hr hm0 hym HJ
                  go_wp2_with (go_at_call 24; refine (HC.out _ 1 0 _ _ _ _ HY.out.2 HG.out.2 hm1 cmp1_eq).mono ?_; rintro e W9 ⟨rfl, G9⟩)
                  have G89 := HY.out.1.trans G9
                  have HQ2 : Hid (Gr W7 W9 ∧ Gr w W9 ∧ Sl W9 p11 c ∧ Sl W9 p12 x ∧ Sl W9 p13 t) := ⟨HQ.out.1.trans G89, HQ.out.2.1.trans G89, HQ.out.2.2.2.1.gr G89, HQ.out.2.2.2.2.1.gr G89, HQ.out.2.2.2.2.2.gr G89⟩
                  clear HY HG HQ G9 G89 hm1
                  go_loopw [16, 17] (fun a16 a17 wr' => ∃ (d b' n16 : Nat) (p16 : Option Addr), a16 = .slice p16 (dl b') n16 ∧ a17 = .int .i64 (d : Int) ∧ Hid (d ≤ D ∧ c ^ (2 ^ d) % m = b') ∧ Hid (Gr W9 wr' ∧ Sl wr' p16 b')) (fun _ a17 _ => ((D : Int) - intOf a17).toNat)
                  case atStart => exact ⟨0, c, n11, p11, rfl, rfl, ⟨Nat.zero_le _, by rw [Nat.pow_zero, Nat.pow_one]; exact Nat.mod_eq_of_lt HF.out.2.1⟩, Gr.refl _, HQ2.out.2.2.1⟩
                  case round =>
                    obtain ⟨d, b', n16, p16, rfl, rfl, HJ, HY⟩ := hrel
                    have hm0 : 0 < m := by have := HK.out.2.2.2.1; omega
                    have hbm : b' ≤ m := by rw [← HJ.out.2]; exact Nat.le_of_lt (Nat.mod_lt _ hm0)
                    have HG : Hid (Gr w wr) := HQ2.out.2.1.trans HY.out.1
                    have d0 : (0 : Int) ≤ (d : Int) := by omega
                    by_cases hd : d < D
                    · obtain ⟨y2, hy2⟩ : ∃ z, b' * b' % m = z := ⟨_, rfl⟩
                      have HF2 : Hid (b' ≤ m ∧ b' * b' % m = y2 ∧ d + 1 ≤ D ∧ c ^ (2 ^ (d + 1)) % m = y2) := ⟨hbm, hy2, hd, by
                        rw [← hy2, ← HJ.out.2, ← Nat.mul_mod, ← Nat.pow_add, Nat.pow_succ, show 2 ^ d * 2 = 2 ^ d + 2 ^ d by omega]⟩
                      have d2 : (d : Int) < (D : Int) := by omega
                      clear hm0 hbm hy2 hd HJ
                      go_wp2_with (go_at_call 27; refine (HM.out _ b' b' y2 _ _ _ _ HG.out HY.out.2 HY.out.2 HF2.out.1 HF2.out.1 HF2.out.2.1).mono ?_; rintro e W10 ⟨p10', n10', rfl, S10, G10⟩)
                      go_roundw
                      case rel => exact ⟨d + 1, y2, n10', p10', rfl, by go_num, HF2.out.2.2, HY.out.1.trans G10, S10⟩
                      case measure => simp [intOf]; omega
                    · have hdD : d = D := by have := HJ.out.1; omega
                      subst hdD
                      have hbb : b' = b := by rw [← HJ.out.2]; exact HL.out.2.2.1
                      subst hbb
                      have HQ3 : Hid (Gr W7 wr ∧ Sl wr p12 x ∧ Sl wr p13 t ∧ Sl wr p16 b') := ⟨HQ2.out.1.trans HY.out.1, HQ2.out.2.2.2.1.gr HY.out.1, HQ2.out.2.2.2.2.gr HY.out.1, HY.out.2⟩
                      clear hd hm0 hbm HJ HY HQ2
                      go_upto_region 31 with (go_at_call 27; refine (HM.out _ b' b' c' _ _ _ _ HG.out HQ3.out.2.2.2 HQ3.out.2.2.2 HF.out.2.2.2.1 HF.out.2.2.2.1 HF.out.2.2.2.2.2.1).mono ?_; rintro e W10 ⟨p20, n20, rfl, S10, G10⟩)
                      go_upto_region 32 with (go_at_call 27; refine (HM.out _ t c' t' _ _ _ _ (HG.out.trans G10) (HQ3.out.2.2.1.gr G10) S10 HF.out.1 HF.out.2.2.2.2.1 HF.out.2.2.2.2.2.2.1).mono ?_; rintro e W11 ⟨p21, n21, rfl, S11, G11⟩)
                      have G1011 := G10.trans G11
                      go_wp2_with (go_at_call 27; refine (HM.out _ x b' x' _ _ _ _ (HG.out.trans G1011) (HQ3.out.2.1.gr G1011) (HQ3.out.2.2.2.gr G1011) HF.out.2.2.1 HF.out.2.2.2.1 HF.out.2.2.2.2.2.2.2.1).mono ?_; rintro e W12 ⟨p22, n22, rfl, S12, G12⟩)
                      go_roundw
                      case rel => exact ⟨r, c', x', t', n20, n22, n21, p20, p22, p21, rfl, rfl, rfl, rfl, HST', HQ3.out.1.trans (G1011.trans G12), S10.gr (G11.trans G12), S12, S11.gr G12⟩
                      case measure => simp [intOf]; exact HL.out.2.2.2

end Go.Proofs.Ytkmpholjlophpaa
namespace Go.Proofs.Ytkmpholjlophpaa
open Go.RowKit
/-- What Sqrt wants to know of a modulus. -/
structure RtP (m q S z : Nat) : Prop where
  odd : q % 2 = 1
  is : m = q * 2 ^ S + 1
  s1 : 1 ≤ S
  s2 : S < 1000
  z2 : 2 ≤ z
  zm : z < m
  zE : z ^ ((m - 1) / 2) % m = m - 1
  zn : ∀ x, 2 ≤ x → x < z → x ^ ((m - 1) / 2) % m = 1
theorem RtP.of {m : Nat} (q S y f : Nat) (hp : Prm m) (ho : m % 2 = 1) (odd : q % 2 = 1) (is : m = q * 2 ^ S + 1) (s1 : 1 ≤ S) (s2 : S < 1000) (zm : y + 2 < m)
    (he : (m - 1) / 2 < 2 ^ f) (zE : Nat.beq (pmF f (y + 2) ((m - 1) / 2) m) (m - 1) = true) (zn : noWit f m ((m - 1) / 2) (m - 1) y = true) : RtP m q S (y + 2) :=
  ⟨odd, is, s1, s2, by omega, zm, wit_of he zE, fun x h1 h2 => by
    rcases euler hp ho (show x ≠ 0 by omega) (show x < m by omega) with h | h
    · exact h
    · exact absurd h (noWit_is f m _ _ he y zn x h1 h2)⟩
theorem rp_any (k : Nat) (h1 : 1 ≤ k) (h2 : k ≤ 15) : ∃ q S z, RtP (pN k) q S z := by
  have hp := prm_pN k h1 h2
  have hB := pN_bd k h1 h2
  obtain rfl | rfl | rfl | rfl | rfl | rfl | rfl | rfl | rfl | rfl | rfl | rfl | rfl | rfl | rfl : k = 1 ∨ k = 2 ∨ k = 3 ∨ k = 4 ∨ k = 5 ∨ k = 6 ∨ k = 7 ∨ k = 8 ∨ k = 9 ∨ k = 10 ∨ k = 11 ∨ k = 12 ∨ k = 13 ∨ k = 14 ∨ k = 15 := by omega
  · exact ⟨_, _, _, RtP.of 3138550867693340381917894711603833208041954350195162480639 1 9 192 hp hB.2.2 (by decide +kernel) (by decide +kernel) (by decide +kernel) (by decide +kernel) (by decide +kernel) (by decide +kernel) (by decide +kernel) (by decide +kernel)⟩
  · exact ⟨_, _, _, RtP.of 340282366920938463463374607431768211455 96 9 224 hp hB.2.2 (by decide +kernel) (by decide +kernel) (by decide +kernel) (by decide +kernel) (by decide +kernel) (by decide +kernel) (by decide +kernel) (by decide +kernel)⟩
  · exact ⟨_, _, _, RtP.of 57896044605178124381348723474703786765043071707645157097766815654433548926975 1 1 256 hp hB.2.2 (by decide +kernel) (by decide +kernel) (by decide +kernel) (by decide +kernel) (by decide +kernel) (by decide +kernel) (by decide +kernel) (by decide +kernel)⟩
  · exact ⟨_, _, _, RtP.of 19701003098197239606139520050071806902539869635232723333974146702122860885748435164523633044129469000930803486556159 1 17 384 hp hB.2.2 (by decide +kernel) (by decide +kernel) (by decide +kernel) (by decide +kernel) (by decide +kernel) (by decide +kernel) (by decide +kernel) (by decide +kernel)⟩
  · exact ⟨_, _, _, RtP.of 3432398830065304857490950399540696608634717650071652704697231729592771591698828026061279820330727277488648155695740429018560993999858321906287014145557528575 1 1 521 hp hB.2.2 (by decide +kernel) (by decide +kernel) (by decide +kernel) (by decide +kernel) (by decide +kernel) (by decide +kernel) (by decide +kernel) (by decide +kernel)⟩
  · exact ⟨_, _, _, RtP.of 57896044618658097711785492504343953926634992332820282019728792003954417335831 1 1 256 hp hB.2.2 (by decide +kernel) (by decide +kernel) (by decide +kernel) (by decide +kernel) (by decide +kernel) (by decide +kernel) (by decide +kernel) (by decide +kernel)⟩
  · exact ⟨_, _, _, RtP.of 666148799220022437413542779401245871878596899079 1 1 160 hp hB.2.2 (by decide +kernel) (by decide +kernel) (by decide +kernel) (by decide +kernel) (by decide +kernel) (by decide +kernel) (by decide +kernel) (by decide +kernel)⟩
  · exact ⟨_, _, _, RtP.of 11360811466227176393776268997955464036670366072972496152217736470655 1 1 224 hp hB.2.2 (by decide +kernel) (by decide +kernel) (by decide +kernel) (by decide +kernel) (by decide +kernel) (by decide +kernel) (by decide +kernel) (by decide +kernel)⟩
  · exact ⟨_, _, _, RtP.of 38442478198522672110404873314500824546518975100471527601867800722515758098875 1 9 256 hp hB.2.2 (by decide +kernel) (by decide +kernel) (by decide +kernel) (by decide +kernel) (by decide +kernel) (by decide +kernel) (by decide +kernel) (by decide +kernel)⟩
  · exact ⟨_, _, _, RtP.of 881796661119583177080954921223009760444756386359757596386480207644320434401074909047750749951763 1 3 320 hp hB.2.2 (by decide +kernel) (by decide +kernel) (by decide +kernel) (by decide +kernel) (by decide +kernel) (by decide +kernel) (by decide +kernel) (by decide +kernel)⟩
  · exact ⟨_, _, _, RtP.of 10829635385059658086534618421166302489898058193508824300040809251910544967012980911118280991422267044220354208986665 1 0 384 hp hB.2.2 (by decide +kernel) (by decide +kernel) (by decide +kernel) (by decide +kernel) (by decide +kernel) (by decide +kernel) (by decide +kernel) (by decide +kernel)⟩
  · exact ⟨_, _, _, RtP.of 4474481103825116275828301407579576711081304822049177255672298593600028505206776219958967152095978471382723265193213672968981947154961964268035267303908473 1 0 512 hp hB.2.2 (by decide +kernel) (by decide +kernel) (by decide +kernel) (by decide +kernel) (by decide +kernel) (by decide +kernel) (by decide +kernel) (by decide +kernel)⟩
  · exact ⟨_, _, _, RtP.of 125 1 0 8 hp hB.2.2 (by decide +kernel) (by decide +kernel) (by decide +kernel) (by decide +kernel) (by decide +kernel) (by decide +kernel) (by decide +kernel) (by decide +kernel)⟩
  · exact ⟨_, _, _, RtP.of 15 4 5 8 hp hB.2.2 (by decide +kernel) (by decide +kernel) (by decide +kernel) (by decide +kernel) (by decide +kernel) (by decide +kernel) (by decide +kernel) (by decide +kernel)⟩
  · exact ⟨_, _, _, RtP.of 119 1 5 8 hp hB.2.2 (by decide +kernel) (by decide +kernel) (by decide +kernel) (by decide +kernel) (by decide +kernel) (by decide +kernel) (by decide +kernel) (by decide +kernel)⟩
/-- A pair of a slice that holds x, and a Bool. -/
def Nt (x : Nat) (b : Bool) (w : World) (e : Ending) (w' : World) : Prop :=
  ∃ p n, e = .returned (.tuple #[.slice p (dl x) n, .bool b]) ∧ Sl w' p x ∧ Gr w w'
theorem inv_pN (a m u : Nat) (hp : Prm m) (hd : dl m ≤ 18) (h0 : a ≠ 0) (ha : a < m) (hu : u < m) (hau : a * u % m = 1) (pa p : Option Addr) (na n : Nat) (w : World) (sa : Sl w pa a) (sp : Sl w p m) :
    Calls Try.prog 30 #[.slice pa (dl a) na, .slice p (dl m) n] w (Nt u true w) := by
  have h2 := hp.1
  refine (rinv_any a m na n pa p w sa sp (by have := dl_low a m 400 (by omega) (by omega); omega) (by omega) (by omega)).mono ?_
  intro e w' h
  obtain ⟨t, p', n', ht, hat, he, hs⟩ := h.1 (hp.cop (not_dvd h0 ha))
  have : t = u := inv_one a m t u ht hu hat hau
  subst this
  exact ⟨p', n', he, hs, h.2.2⟩
theorem sqrt_pN (a m s : Nat) {q S z : Nat} (hR : RtP m q S z) (hp : Prm m) (ho : m % 2 = 1) (hd : dl m ≤ 18) (h0 : a ≠ 0) (ha : a < m) (hE : a ^ ((m - 1) / 2) % m = 1) (hs : s < m) (hs2 : s % 2 = 0) (hss : s * s % m = a)
    (pa p : Option Addr) (na n : Nat) (w : World) (sa : Sl w pa a) (sp : Sl w p m) :
    Calls Try.prog 31 #[.slice pa (dl a) na, .slice p (dl m) n] w (Nt s true w) := by
  have h2 := hp.1
  refine (rsqrt_yes a m n na q S z pa p w sa sp (by omega) hp ho ha h0 (by have := hR.z2; have := hR.zm; omega) hE hR.odd hR.is hR.s1 hR.s2 hR.z2 hR.zm hR.zE hR.zn).mono ?_
  intro e w' h
  obtain ⟨x, p', n', hx, hx2, hxx, he, hsl, hg⟩ := h
  have : x = s := by
    rcases sq_pm hp hx hs (hxx.trans hss.symm) with h | h
    · exact h
    · omega
  subst this
  exact ⟨p', n', he, hsl, hg⟩
theorem sqrt_none_pN (a m : Nat) (hp : Prm m) (ho : m % 2 = 1) (hd : dl m ≤ 18) (h0 : a ≠ 0) (ha : a < m) (hE : a ^ ((m - 1) / 2) % m ≠ 1)
    (pa p : Option Addr) (na n : Nat) (w : World) (sa : Sl w pa a) (sp : Sl w p m) :
    Calls Try.prog 31 #[.slice pa (dl a) na, .slice p (dl m) n] w fun e w' => e = .returned (.tuple #[.slice none 0 0, .bool false]) ∧ Gr w w' := by
  have h2 := hp.1
  exact rsqrt_no a m n na pa p w sa sp (by omega) ha h0 (by omega) ((euler hp ho h0 ha).resolve_left hE)
end Go.Proofs.Ytkmpholjlophpaa
