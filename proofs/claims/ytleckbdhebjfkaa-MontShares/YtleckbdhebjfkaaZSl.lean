/-
  Plain arithmetic: a number's digits of 32 bits, and the arrays of values that hold them. No Go text is walked here.
-/
/-
  The documents' numbers, slices of digits: making one; digit and trim.
-/
/-
  Plain arithmetic of the documents' long division, digit by digit. No Go text is walked here.
-/
import Derived.Laws.MakeOwn
import Derived.Test.YtleckbdhebjfkaaZNumB
import Derived.Test.YtleckbdhebjfkaaZInst
import Derived.Test.YtleckbdhebjfkaaZMtN
namespace Go.Proofs.Ytleckbdhebjfkaa
open Go.RowKit

/-- 2^(64 k), under a name: nothing reckons it out. -/
def pq (k : Nat) : Nat := 2 ^ (32 * k)
theorem pq_pos (k : Nat) : 0 < pq k := Nat.two_pow_pos _
theorem pq_zero : pq 0 = 1 := rfl
theorem pq_add (j k : Nat) : pq (j + k) = pq j * pq k := by
  unfold pq
  rw [Nat.mul_add, Nat.pow_add]
theorem pq_one : pq 1 = 4294967296 := rfl
/-- Word k of a number: 32 bits. -/
def dg (a k : Nat) : Nat := a / pq k % 4294967296
/-- The first n words of a number, as Go's values. -/
def nd (n a : Nat) : Array Value := ((List.range n).map fun k => Value.int .u32 ((dg a k : Nat) : Int)).toArray
theorem dg_lt (a k : Nat) : dg a k < 4294967296 := Nat.mod_lt _ (by decide)
theorem nd_size (n a : Nat) : (nd n a).size = n := by simp [nd]
theorem nd_get (n a k : Nat) (h : k < n) : (nd n a)[k]? = some (Value.int .u32 ((dg a k : Nat) : Int)) := by
  simp [nd, h]
theorem pq_succ (k : Nat) : pq (k + 1) = pq k * 4294967296 := by
  rw [pq_add, pq_one]
/-- A number by its lowest words, one word, and what is above. -/
theorem dparts (a k : Nat) : a = a % pq k + dg a k * pq k + a / pq (k + 1) * pq (k + 1) := by
  have h1 := Nat.div_add_mod a (pq k)
  have h2 := Nat.div_add_mod (a / pq k) 4294967296
  have h3 : a / pq k / 4294967296 = a / pq (k + 1) := by rw [Nat.div_div_eq_div_mul, pq_succ]
  rw [h3] at h2
  unfold dg
  rw [pq_succ] at *
  generalize pq k = P at *
  generalize a / (P * 4294967296) = q at *
  generalize a / P % 4294967296 = r at *
  have h4 : P * (4294967296 * q + r) = r * P + q * (P * 4294967296) := by
    rw [Nat.mul_add, Nat.mul_comm P r, Nat.mul_comm q, Nat.mul_assoc, Nat.add_comm]
  rw [← h2] at h1
  rw [h4] at h1
  omega
theorem dmod_succ (a k : Nat) : a % pq (k + 1) = a % pq k + dg a k * pq k := by
  rw [pq_succ, Nat.mod_mul, dg, Nat.mul_comm (pq k)]
theorem pq_pos2 (k : Nat) : 0 < pq k := pq_pos k
/-- Word j of a number whose word k is set anew. -/
theorem dg_set (a k x j : Nat) (hx : x < 4294967296) :
    dg (a % pq k + x * pq k + a / pq (k + 1) * pq (k + 1)) j = if j = k then x else dg a j := by
  have hlt : a % pq k < pq k := Nat.mod_lt _ (pq_pos2 k)
  have e : a % pq k + x * pq k + a / pq (k + 1) * pq (k + 1) = a % pq k + (x + a / pq (k + 1) * 4294967296) * pq k := by
    rw [Nat.add_mul, Nat.mul_assoc _ 4294967296, Nat.mul_comm 4294967296, ← pq_succ, Nat.add_assoc]
  rcases Nat.lt_trichotomy j k with h | h | h
  · rw [if_neg (by omega)]
    rw [e]
    generalize x + a / pq (k + 1) * 4294967296 = t
    obtain ⟨d, rfl⟩ : ∃ d, k = j + 1 + d := ⟨k - (j + 1), by omega⟩
    unfold dg
    have e2 : pq (j + 1 + d) = pq j * (4294967296 * pq d) := by
      rw [pq_add, pq_add, pq_one, Nat.mul_assoc]
    rw [e2, ← Nat.mul_assoc t, Nat.mul_right_comm t, Nat.add_mul_div_right _ _ (pq_pos2 j), Nat.mod_mul_right_div_self, Nat.mul_left_comm, Nat.add_mul_mod_self_left, Nat.mod_mul_right_mod]
  · subst h
    rw [if_pos rfl]
    rw [e]
    unfold dg
    rw [div_at _ _ _ hlt, Nat.add_mul_mod_self_right, Nat.mod_eq_of_lt hx]
  · rw [if_neg (by omega)]
    obtain ⟨d, rfl⟩ : ∃ d, j = k + 1 + d := ⟨j - (k + 1), by omega⟩
    unfold dg
    have e2 : pq (k + 1 + d) = pq (k + 1) * pq d := by
      rw [pq_add]
    have hlt2 : a % pq k + x * pq k < pq (k + 1) := by
      rw [pq_succ]
      have : x * pq k ≤ 4294967295 * pq k := Nat.mul_le_mul_right _ (by omega)
      omega
    rw [e2, ← Nat.div_div_eq_div_mul, ← Nat.div_div_eq_div_mul, div_at _ _ _ hlt2]
/-- A store into word k. -/
theorem nd_set (n a k x : Nat) (hx : x < 4294967296) :
    (nd n a).setIfInBounds k (Value.int .u32 (x : Int)) = nd n (a % pq k + x * pq k + a / pq (k + 1) * pq (k + 1)) := by
  apply Array.ext_getElem?
  intro j
  rw [Array.getElem?_setIfInBounds]
  by_cases hj : j < n
  · by_cases hk : k = j
    · subst hk
      rw [if_pos rfl, nd_get _ _ _ hj, dg_set a k x k hx, if_pos rfl, if_pos (by simpa [nd_size] using hj)]
    · rw [if_neg hk, nd_get _ _ _ hj, nd_get _ _ _ hj, dg_set a k x j hx, if_neg (by omega)]
  · have h1 : (nd n a)[j]? = none := by simp [nd]; omega
    have h2 : (nd n (a % pq k + x * pq k + a / pq (k + 1) * pq (k + 1)))[j]? = none := by simp [nd]; omega
    rw [h1, h2]
    by_cases hk : k = j
    · rw [if_pos hk, if_neg (by simp [nd_size]; omega)]
    · rw [if_neg hk]
/-- A store into word k of a number below that word. -/
theorem nd_set_top (n a k x : Nat) (hx : x < 4294967296) (ha : a < pq k) :
    (nd n a).setIfInBounds k (Value.int .u32 (x : Int)) = nd n (a + x * pq k) := by
  have h2 : pq k ≤ pq (k + 1) := by rw [pq_succ]; omega
  rw [nd_set n a k x hx, Nat.mod_eq_of_lt ha, Nat.div_eq_of_lt (show a < pq (k + 1) by omega), Nat.zero_mul, Nat.add_zero]
theorem dg_zero (k : Nat) : dg 0 k = 0 := by simp [dg]
/-- The array of noughts. -/
theorem nd_zero (n : Nat) : nd n 0 = ((List.range n).map fun _ => Value.int .u32 0).toArray := by simp [nd, dg_zero]
/-- The sum of the first k words, and its carry. -/
def daddS (a b k : Nat) : Nat := (a % pq k + b % pq k) % pq k
def daddC (a b k : Nat) : Nat := (a % pq k + b % pq k) / pq k
theorem daddS_lt (a b k : Nat) : daddS a b k < pq k := Nat.mod_lt _ (pq_pos2 k)
theorem daddC_le (a b k : Nat) : daddC a b k ≤ 1 := by
  have h1 := Nat.mod_lt a (pq_pos2 k)
  have h2 := Nat.mod_lt b (pq_pos2 k)
  unfold daddC
  generalize pq k = P at *
  have : (a % P + b % P) / P < 2 := by rw [Nat.div_lt_iff_lt_mul (by omega)]; omega
  omega
theorem dadd_eq (a b k : Nat) : a % pq (k + 1) + b % pq (k + 1) = daddS a b k + (dg a k + dg b k + daddC a b k) * pq k := by
  rw [dmod_succ, dmod_succ, daddS, daddC]
  have h := Nat.div_add_mod (a % pq k + b % pq k) (pq k)
  generalize pq k = P at *
  generalize (a % P + b % P) / P = q at *
  generalize (a % P + b % P) % P = r at *
  rw [Nat.add_mul, Nat.add_mul, Nat.mul_comm q]
  omega
theorem daddS_succ (a b k : Nat) : daddS a b (k + 1) = daddS a b k + (dg a k + dg b k + daddC a b k) % 4294967296 * pq k := by
  rw [daddS, dadd_eq, pq_succ, mod_at2 _ _ _ _ (daddS_lt a b k)]
theorem daddC_succ (a b k : Nat) : daddC a b (k + 1) = (dg a k + dg b k + daddC a b k) / 4294967296 := by
  rw [daddC, dadd_eq, pq_succ, div_at2 _ _ _ _ (daddS_lt a b k)]
theorem daddS_zero (a b : Nat) : daddS a b 0 = 0 := by simp [daddS, pq_zero, Nat.mod_one]
theorem daddC_zero (a b : Nat) : daddC a b 0 = 0 := by simp [daddC, pq_zero, Nat.mod_one]
/-- The difference of the first k words, and what it borrows. -/
def dsubC (a b k : Nat) : Nat := if a % pq k < b % pq k then 1 else 0
def dsubS (a b k : Nat) : Nat := a % pq k + dsubC a b k * pq k - b % pq k
theorem dsubC_le (a b k : Nat) : dsubC a b k ≤ 1 := by unfold dsubC; split <;> omega
theorem dsubS_lt (a b k : Nat) : dsubS a b k < pq k := by
  have h1 := Nat.mod_lt a (pq_pos2 k)
  have h2 := Nat.mod_lt b (pq_pos2 k)
  unfold dsubS dsubC
  split <;> omega
theorem dsubC_succ (a b k : Nat) : dsubC a b (k + 1) = if dg a k < dg b k + dsubC a b k then 1 else 0 := by
  have h1 := Nat.mod_lt a (pq_pos2 k)
  have h2 := Nat.mod_lt b (pq_pos2 k)
  unfold dsubC
  rw [dmod_succ, dmod_succ]
  generalize pq k = P at *
  generalize a % P = r at *
  generalize b % P = s at *
  generalize dg a k = x
  generalize dg b k = y
  rcases Nat.lt_trichotomy x y with h | h | h
  · have : (x + 1) * P ≤ y * P := Nat.mul_le_mul_right _ h
    rw [Nat.add_mul] at this
    rw [if_pos (by omega), if_pos (by split <;> omega)]
  · subst h
    by_cases hr : r < s
    · rw [if_pos (by omega), if_pos (by rw [if_pos hr]; omega)]
    · rw [if_neg (by omega), if_neg (by rw [if_neg hr]; omega)]
  · have : (y + 1) * P ≤ x * P := Nat.mul_le_mul_right _ h
    rw [Nat.add_mul] at this
    rw [if_neg (by omega), if_neg (by split <;> omega)]
theorem dsubS_succ (a b k : Nat) : dsubS a b (k + 1) = dsubS a b k + (dg a k + 4294967296 - dg b k - dsubC a b k) % 4294967296 * pq k := by
  have h1 := Nat.mod_lt a (pq_pos2 k)
  have h2 := Nat.mod_lt b (pq_pos2 k)
  have hx := dg_lt a k
  have hy := dg_lt b k
  have hc := dsubC_succ a b k
  have hs := dsubS_lt a b k
  have hc0 := dsubC_le a b k
  have e : dsubS a b k + b % pq k = a % pq k + dsubC a b k * pq k := by
    unfold dsubS dsubC
    split <;> omega
  have e' : dsubS a b (k + 1) + b % pq (k + 1) = a % pq (k + 1) + dsubC a b (k + 1) * pq (k + 1) := by
    have h3 := Nat.mod_lt a (pq_pos2 (k + 1))
    have h4 := Nat.mod_lt b (pq_pos2 (k + 1))
    unfold dsubS dsubC
    split <;> omega
  rw [dmod_succ, dmod_succ, pq_succ] at e'
  generalize dsubS a b (k + 1) = S' at *
  generalize dsubS a b k = S at *
  generalize dsubC a b (k + 1) = c' at *
  generalize dsubC a b k = c at *
  generalize pq k = P at *
  generalize a % P = r at *
  generalize b % P = s at *
  generalize dg a k = x at *
  generalize dg b k = y at *
  -- S' + s + y P = r + x P + c' P B,  S + s = r + c P
  by_cases hl : x < y + c
  · rw [if_pos hl] at hc
    subst hc
    obtain ⟨z, hz⟩ : ∃ z, x + 4294967296 = y + c + z := ⟨x + 4294967296 - (y + c), by omega⟩
    have e2 : (x + 4294967296 - y - c) % 4294967296 = z := by omega
    rw [e2]
    have e3 : x * P + 4294967296 * P = y * P + c * P + z * P := by rw [← Nat.add_mul, ← Nat.add_mul, ← Nat.add_mul, hz]
    rw [Nat.mul_comm P] at e'
    omega
  · rw [if_neg hl] at hc
    subst hc
    obtain ⟨z, hz⟩ : ∃ z, x = y + c + z := ⟨x - (y + c), by omega⟩
    have e2 : (x + 4294967296 - y - c) % 4294967296 = z := by omega
    rw [e2]
    have e3 : x * P = y * P + c * P + z * P := by rw [← Nat.add_mul, ← Nat.add_mul, hz]
    omega
theorem dsubS_zero (a b : Nat) : dsubS a b 0 = 0 := by simp [dsubS, dsubC, pq_zero, Nat.mod_one]
theorem dsubC_zero (a b : Nat) : dsubC a b 0 = 0 := by simp [dsubC, pq_zero, Nat.mod_one]
/-- V with word p set to x. -/
def dset (V p x : Nat) : Nat := V % pq p + x * pq p + V / pq (p + 1) * pq (p + 1)
theorem nd_dset (n V p x : Nat) (hx : x < 4294967296) : (nd n V).setIfInBounds p (Value.int .u32 (x : Int)) = nd n (dset V p x) := nd_set n V p x hx
theorem dset_lt (V p x q : Nat) (hV : V < pq q) (hp : p < q) (hx : x < 4294967296) : dset V p x < pq q := by
  obtain ⟨m, rfl⟩ : ∃ m, q = m + (p + 1) := ⟨q - (p + 1), by omega⟩
  have h1 : V % pq p < pq p := Nat.mod_lt _ (pq_pos p)
  have h2 : V / pq (p + 1) < pq m := by
    rw [Nat.div_lt_iff_lt_mul (pq_pos _), ← pq_add]; exact hV
  have h3 : x * pq p ≤ 4294967295 * pq p := Nat.mul_le_mul_right _ (by omega)
  have h4 : (V / pq (p + 1) + 1) * pq (p + 1) ≤ pq m * pq (p + 1) := Nat.mul_le_mul_right _ h2
  have h5 := pq_succ p
  unfold dset
  rw [pq_add m (p + 1)]
  rw [Nat.add_mul] at h4
  generalize V / pq (p + 1) * pq (p + 1) = z at *
  generalize pq m * pq (p + 1) = t at *
  omega
theorem dmul_step (a b i j V c : Nat) (h : V + c * pq (i + j) = (a % pq i) * b + dg a i * pq i * (b % pq j)) :
    dset V (i + j) ((dg a i * dg b j + dg V (i + j) + c) % 4294967296) + (dg a i * dg b j + dg V (i + j) + c) / 4294967296 * pq (i + (j + 1)) = (a % pq i) * b + dg a i * pq i * (b % pq (j + 1)) := by
  have hp := dparts V (i + j)
  have hd := Nat.div_add_mod (dg a i * dg b j + dg V (i + j) + c) 4294967296
  rw [dmod_succ b j, Nat.mul_add, ← Nat.add_assoc ((a % pq i) * b), ← h]
  have e1 : dg a i * pq i * (dg b j * pq j) = dg a i * dg b j * pq (i + j) := by
    rw [pq_add, Nat.mul_mul_mul_comm]
  rw [e1]
  unfold dset
  rw [show i + (j + 1) = i + j + 1 from rfl]
  generalize V / pq (i + j + 1) = z at *
  rw [pq_succ (i + j)] at *
  generalize dg V (i + j) = o at *
  generalize dg a i * dg b j = m at *
  generalize (m + o + c) / 4294967296 = q at *
  generalize (m + o + c) % 4294967296 = r at *
  generalize V % pq (i + j) = v at *
  generalize pq (i + j) = P at *
  have e2 : (4294967296 * q + r) * P = (m + o + c) * P := by rw [hd]
  rw [Nat.add_mul, Nat.add_mul, Nat.add_mul] at e2
  have e3 : q * (P * 4294967296) = 4294967296 * q * P := by
    rw [Nat.mul_comm P, ← Nat.mul_assoc, Nat.mul_comm q]
  rw [e3]
  omega
theorem dmulAdd_lt (x y o c : Nat) (hx : x < 4294967296) (hy : y < 4294967296) (ho : o < 4294967296) (hc : c < 4294967296) : (x * y + o + c) / 4294967296 < 4294967296 := by
  have : x * y ≤ 4294967295 * 4294967295 := Nat.mul_le_mul (by omega) (by omega)
  omega

/-- How many digits a number has. -/
def dl (x : Nat) : Nat := (bl x + 31) / 32
theorem dl_le (x k : Nat) : dl x ≤ k ↔ x < pq k := by
  unfold dl pq
  rw [← bl_le]
  omega
theorem dl_lt (x : Nat) : x < pq (dl x) := (dl_le x (dl x)).1 (Nat.le_refl _)
theorem dl_zero : dl 0 = 0 := rfl
theorem dl_eq_zero (x : Nat) (h : dl x = 0) : x = 0 := by
  have := dl_lt x
  rw [h, pq_zero] at this
  omega
/-- A number whose top digit is none has one digit less; else it has so many. -/
theorem dl_top_zero (x k : Nat) (hx : x < pq (k + 1)) (h : dg x k = 0) : x < pq k := by
  have e := dmod_succ x k
  rw [Nat.mod_eq_of_lt hx, h, Nat.zero_mul, Nat.add_zero] at e
  rw [e]
  exact Nat.mod_lt _ (pq_pos k)
theorem dl_top (x k : Nat) (hx : x < pq (k + 1)) (h : dg x k ≠ 0) : dl x = k + 1 := by
  have h1 := (dl_le x (k + 1)).2 hx
  have h2 : ¬ dl x ≤ k := fun h2 => h (by
    have h3 := (dl_le x k).1 h2
    unfold dg
    rw [Nat.div_eq_of_lt h3])
  omega
theorem dg_beyond (x k : Nat) (h : dl x ≤ k) : dg x k = 0 := by
  have h3 := (dl_le x k).1 h
  unfold dg
  rw [Nat.div_eq_of_lt h3]
theorem pq_mono (i k : Nat) (h : i ≤ k) : pq i ≤ pq k := Nat.pow_le_pow_right (by decide) (by omega)
theorem nd_elem (n a k : Nat) (h : k < (nd n a).size) : (nd n a)[k] = Value.int .u32 ((dg a k : Nat) : Int) := by simp [nd]
/-- A word is two digits. -/
theorem pq_two (k : Nat) : pq (2 * k) = pw k := by unfold pq pw; rw [show 32 * (2 * k) = 64 * k by omega]
theorem dg_even (a k : Nat) : dg a (2 * k) = wd a k % 4294967296 := by
  unfold dg wd
  rw [pq_two, show (18446744073709551616 : Nat) = 4294967296 * 4294967296 from rfl, Nat.mod_mul_right_mod]
theorem dg_odd (a k : Nat) : dg a (2 * k + 1) = wd a k / 4294967296 := by
  unfold dg wd
  rw [pq_succ, pq_two, ← Nat.div_div_eq_div_mul, show (18446744073709551616 : Nat) = 4294967296 * 4294967296 from rfl, Nat.mod_mul_right_div_self]
theorem wd_two (a k : Nat) : wd a k = dg a (2 * k) + dg a (2 * k + 1) * 4294967296 := by
  rw [dg_even, dg_odd]
  omega

/-- A digit laid at its place over the lower ones. -/
theorem nd_next (n a k : Nat) : (nd n (a % pq k)).setIfInBounds k (.int .u32 ((dg a k : Nat) : Int)) = nd n (a % pq (k + 1)) := by
  rw [nd_set_top n _ k _ (dg_lt a k) (Nat.mod_lt _ (pq_pos k)), dmod_succ]

end Go.Proofs.Ytleckbdhebjfkaa
namespace Go.Proofs.Ytleckbdhebjfkaa
open Go.RowKit
attribute [local go_sem ↓] loadNat_is loadArr_is loadWide_is loadArrW_is storeNat_is storeWide_is
attribute [local go_sem] loadNat loadArr loadWide loadArrW storeNat storeWide idxArr fold9 fold18 nw_size nw_elem pre_self pre_1 pre_2 pre_3 pre_4 pre_5 pre_6 pre_7 pre_8 pre_9 pre_10 pre_11 pre_12 pre_13 pre_14 pre_15 pre_16 pre_17 pre_18 pre_19 pre_20 pre_21 pre_22 pre_23 pre_24 pre_25 pre_26 pre_27 pre_28 pre_29 pre_30 pre_31 pre_32 pre_33 pre_34 pre_35 pre_36 pre_37 pre_38 pre_39 pre_40 gro_size gro_drew gro_drewN drew_gro drewN_gro gro_gro blk_gro frz_gro blk_drew frz_drew blk_drewN frz_drewN blk_alloc_at frz_alloc_at blk_alloc frz_alloc cell_gro frozen_gro cell_alloc_pre frozen_alloc_pre setCell_drewN alloc_drewN setBlk_drew setBlk_drewN setBlk_alloc_at setBlk_alloc setBlk_gro setCell_gro setCell_alloc_pre size_setBlk size_setCell

/-- What a slice's address holds: the digits of x, as many as it has. -/
def Sl (w : World) (p : Option Addr) (x : Nat) : Prop :=
  ∀ i, i < dl x → ∃ b, p = some ⟨b, 0, none⟩ ∧ Pre (b + 1) w.heap.size ∧ (blk w b)[i]? = some (.int .u32 ((dg x i : Nat) : Int))
theorem Sl.gr {w v : World} {p : Option Addr} {x : Nat} (h : Sl w p x) (g : Gr w v) : Sl v p x := fun i hi => by
  obtain ⟨b, h1, h2, h3⟩ := h i hi
  obtain ⟨k, rfl⟩ := g
  exact ⟨b, h1, by rw [gro_size]; exact pre_add _ _ _ h2, by rw [blk_gro w k b h2]; exact h3⟩
theorem Sl.zero (w : World) (p : Option Addr) : Sl w p 0 := fun i hi => by rw [dl_zero] at hi; omega
/-- A slice all of whose cells are digits of x. -/
theorem Sl.of_blk {w : World} {b n x : Nat} (hb : Pre (b + 1) w.heap.size) (hc : blk w b = nd n x) (hx : x < pq n) : Sl w (some ⟨b, 0, none⟩) x := fun i hi =>
  ⟨b, rfl, hb, by rw [hc]; exact nd_get n x i (Nat.lt_of_lt_of_le hi ((dl_le x n).2 hx))⟩

/-- A call hands back a slice that holds x. -/
def Nm (x : Nat) (w : World) (e : Ending) (w' : World) : Prop := ∃ p n, e = .returned (.slice p (dl x) n) ∧ Sl w' p x ∧ Gr w w'
theorem nd_made (n : Nat) : madeCells #[.int .u32 0] n = nd n 0 := by
  apply Array.ext_getElem?
  intro j
  by_cases hj : j < n
  · simp [madeCells, nd, hj, Nat.mod_one, dg_zero]
  · rw [Array.getElem?_eq_none (by rw [size_madeCells]; omega), Array.getElem?_eq_none (by rw [nd_size]; omega)]
theorem make_digits (n : Nat) (hn : n ≤ 100000) (v : World) :
    (Instr.makeSlice 31 (.int .i64 (n : Int)) (.int .i64 (n : Int))).run Try.prog v = .ok (.slice (some ⟨v.heap.size, 0, none⟩) n n) (v.alloc (.cells (nd n 0) 35)) := by
  have hz : (Try.prog.info? 35).map (·.zero) = some (some (.int .u32 0)) := by kernel_rfl
  have hs : (Try.prog.info? 35).map (·.size) = some 1 := by kernel_rfl
  have hby : (Try.prog.info? 35).map (·.bytes) = some 4 := by kernel_rfl
  obtain ⟨i, hi⟩ : ∃ i : TypeInfo, Try.prog.info? 35 = some i := by
    cases h : Try.prog.info? 35 with
    | none => rw [h] at hs; cases hs
    | some i => exact ⟨i, rfl⟩
  rw [hi] at hz hs hby
  replace hz : i.zero = some (.int .u32 0) := by simpa using hz
  replace hs : i.size = 1 := by simpa using hs
  replace hby : i.bytes = 4 := by simpa using hby
  rw [run_make v 31 35 i (.int .u32 0) Try.underlying31 hi hz .i64 .i64 (n : Int) (n : Int) (by omega) (by omega) (by rw [hby]; omega) (by omega), hs, Int.toNat_natCast, Nat.mul_one, ← nd_made n]
  rfl

set_option maxRecDepth 100000 in
set_option maxHeartbeats 400000 in
theorem digit_any (w : World) (p : Option Addr) (x n i : Nat) (h : Sl w p x) :
    Calls Try.prog 38 #[.slice p (dl x) n, .int .i64 (i : Int)] w fun e w' => e = .returned (.int .u64 ((dg x i : Nat) : Int)) ∧ w' = w := by
  by_cases hi : i < dl x
  · obtain ⟨b, rfl, hb, hc⟩ := h i hi
    have hi' : (i : Int) < (dl x : Int) := by omega
    have i0 : (0 : Int) ≤ (i : Int) := by omega
    have hg : w.cell? ⟨b, i, none⟩ = some (.int .u32 ((dg x i : Nat) : Int)) := by rw [cell_blk]; exact hc
    have hl := dg_lt x i
    clear h
    go_enter Try.func38, Try.ntmps38
    go_wp2
    go_ret
    exact ⟨rfl, rfl⟩
  · have hi' : ¬ (i : Int) < (dl x : Int) := by omega
    have i0 : (0 : Int) ≤ (i : Int) := by omega
    have hz := dg_beyond x i (by omega)
    clear h hi
    go_enter Try.func38, Try.ntmps38
    go_wp2
    go_ret
    exact ⟨rfl, rfl⟩

set_option maxRecDepth 100000 in
set_option maxHeartbeats 400000 in
theorem trim_any (w : World) (b L n x : Nat) (hL : L ≤ n) (hn : n ≤ 100000) (hx : x < pq L) (hc : ∀ i, i < L → (blk w b)[i]? = some (.int .u32 ((dg x i : Nat) : Int))) :
    Calls Try.prog 37 #[.slice (some ⟨b, 0, none⟩) L n] w fun e w' => e = .returned (.slice (some ⟨b, 0, none⟩) (dl x) n) ∧ w' = w := by
  have n0 : (n : Int) ≤ 100000 := by omega
  have L0 : (L : Int) ≤ (n : Int) := by omega
  have HC : Hid (∀ i, i < L → (blk w b)[i]? = some (.int .u32 ((dg x i : Nat) : Int))) := hc
  have HX : Hid (Unit → x < pq L) := fun _ => hx
  clear hc hx
  go_enter Try.func37, Try.ntmps37
  go_wp2
  go_loopw [3] (fun i wr => ∃ k : Nat, k ≤ L ∧ i = .int .i64 (k : Int) ∧ Hid (Unit → x < pq k) ∧ wr = w) (fun i _ => (intOf i).toNat)
  case atStart => exact ⟨L, by omega, rfl, HX, rfl⟩
  case round =>
    obtain ⟨k, hk, rfl, HK, rfl⟩ := hrel
    obtain rfl | ⟨j, rfl⟩ : k = 0 ∨ ∃ j, k = j + 1 := by cases k with | zero => exact Or.inl rfl | succ j => exact Or.inr ⟨j, rfl⟩
    · have HD : Hid (Unit → dl x = 0) := fun _ => Nat.le_zero.1 ((dl_le x 0).2 (HK.out ()))
      clear HC HX HK
      go_wp2
      go_ret
      exact ⟨by rw [HD.out ()]; rfl, rfl⟩
    · have hg : wr.cell? ⟨b, j, none⟩ = some (.int .u32 ((dg x j : Nat) : Int)) := by rw [cell_blk]; exact HC.out j (by omega)
      have j0 : (0 : Int) ≤ (j : Int) := by omega
      have j1 : (j : Int) < (L : Int) := by omega
      have e1 : ((j + 1 : Nat) : Int) - 1 = (j : Int) := by omega
      have e2 : (0 : Int) < ((j + 1 : Nat) : Int) := by omega
      by_cases hz : dg x j = 0
      · have HN : Hid (Unit → x < pq j) := fun _ => dl_top_zero x j (HK.out ()) hz
        rw [hz] at hg
        clear HC HX HK
        go_wp2
        go_roundw
        case rel => exact ⟨j, by omega, by go_num, HN, trivial⟩
        case measure => simp [intOf]
      · have HD : Hid (Unit → dl x = j + 1) := fun _ => dl_top x j (HK.out ()) hz
        have hz' : (((dg x j : Nat) : Int) == 0) = false := by rw [beq_eq_false_iff_ne]; omega
        clear HC HX HK
        go_wp2
        go_ret
        exact ⟨by rw [HD.out ()]; rfl, rfl⟩

theorem trim_nd (w : World) (b n x : Nat) (hn : n ≤ 100000) (hx : x < pq n) (hc : blk w b = nd n x) :
    Calls Try.prog 37 #[.slice (some ⟨b, 0, none⟩) n n] w fun e w' => e = .returned (.slice (some ⟨b, 0, none⟩) (dl x) n) ∧ w' = w :=
  trim_any w b n n x (Nat.le_refl _) hn hx fun i hi => by rw [hc]; exact nd_get n x i hi
theorem Nm.mk {x V b n : Nat} {w w' : World} (e : V = x) (hV : V < pq n) (hb : Pre (b + 1) w'.heap.size) (hc : blk w' b = nd n V) (hg : Gr w w') : Nm x w (.returned (.slice (some ⟨b, 0, none⟩) (dl V) n)) w' := by
  subst e
  exact ⟨_, n, rfl, Sl.of_blk hb hc hV, hg⟩

end Go.Proofs.Ytleckbdhebjfkaa
namespace Go.Proofs.Ytleckbdhebjfkaa
open Go.RowKit

theorem dset_eq (V p x : Nat) : dset V p x + dg V p * pq p = V + x * pq p := by
  have h := dparts V p
  unfold dset
  omega
/-- A row's word that is taken down. -/
theorem sub_step32 (V0 V D t o i carry bor y low carry' bor' : Nat) (h : V + t * (D % pq i) * pq o = V0 + (carry + bor) * pq (o + i))
    (hl : low + carry' * 4294967296 = t * dg D i + carry) (hy : y + low + bor = dg V (o + i) + bor' * 4294967296) :
    dset V (o + i) y + t * (D % pq (i + 1)) * pq o = V0 + (carry' + bor') * pq (o + (i + 1)) := by
  have h1 := dset_eq V (o + i) y
  rw [dmod_succ, show o + (i + 1) = o + i + 1 from rfl, pq_succ]
  have h2 : pq (o + i) = pq o * pq i := pq_add o i
  generalize pq (o + i) = P at *
  generalize D % pq i = E at *
  generalize pq o = Q at *
  generalize pq i = R at *
  generalize dg D i = d at *
  generalize dg V (o + i) = x at *
  generalize dset V (o + i) y = Z at *
  subst h2
  grind
theorem sub_last32 (V0 V E t o k carry bor y bor' : Nat) (h : V + t * E * pq o = V0 + (carry + bor) * pq (o + k))
    (hy : y + carry + bor = dg V (o + k) + bor' * 4294967296) :
    dset V (o + k) y + t * E * pq o = V0 + bor' * pq (o + (k + 1)) := by
  have h1 := dset_eq V (o + k) y
  rw [show o + (k + 1) = o + k + 1 from rfl, pq_succ]
  generalize pq (o + k) = P at *
  generalize pq o = Q at *
  generalize dg V (o + k) = x at *
  generalize dset V (o + k) y = Z at *
  grind
theorem back_step32 (V0 V D o i c y c' : Nat) (h : V + c * pq (o + i) = V0 + (D % pq i) * pq o)
    (hy : y + c' * 4294967296 = dg V (o + i) + dg D i + c) :
    dset V (o + i) y + c' * pq (o + (i + 1)) = V0 + (D % pq (i + 1)) * pq o := by
  have h1 := dset_eq V (o + i) y
  rw [dmod_succ, show o + (i + 1) = o + i + 1 from rfl, pq_succ]
  have h2 : pq (o + i) = pq o * pq i := pq_add o i
  generalize pq (o + i) = P at *
  generalize D % pq i = E at *
  generalize pq o = Q at *
  generalize pq i = R at *
  generalize dg D i = d at *
  generalize dg V (o + i) = x at *
  generalize dset V (o + i) y = Z at *
  subst h2
  grind
theorem back_last32 (V0 V E o k c y c' : Nat) (h : V + c * pq (o + k) = V0 + E * pq o)
    (hy : y + c' * 4294967296 = dg V (o + k) + c) :
    dset V (o + k) y + c' * pq (o + (k + 1)) = V0 + E * pq o := by
  have h1 := dset_eq V (o + k) y
  rw [show o + (k + 1) = o + k + 1 from rfl, pq_succ]
  generalize pq (o + k) = P at *
  generalize pq o = Q at *
  generalize dg V (o + k) = x at *
  generalize dset V (o + k) y = Z at *
  grind
theorem ddiv_step2 (a j : Nat) : a / pq j = a / pq (j + 1) * 4294967296 + dg a j := by
  unfold dg
  rw [pq_succ, ← Nat.div_div_eq_div_mul]
  have := Nat.div_add_mod (a / pq j) 4294967296
  omega
theorem top_one32 (V j : Nat) (h : V < pq (j + 1)) : V / pq j = dg V j := by
  rw [ddiv_step2 V j, Nat.div_eq_of_lt h, Nat.zero_mul, Nat.zero_add]
theorem top_two32 (V j : Nat) (h : V < pq (j + 2)) : V / pq j = dg V (j + 1) * 4294967296 + dg V j := by
  rw [ddiv_step2 V j, top_one32 V (j + 1) h]
theorem guess_full32 (V D o : Nat) (hV : V < D * pq (o + 1)) : V / (D * pq o) < 4294967296 := by
  rw [pq_succ] at hV
  by_cases h0 : 0 < D * pq o
  · rw [Nat.div_lt_iff_lt_mul h0]
    have e : 4294967296 * (D * pq o) = D * (pq o * 4294967296) := by grind
    omega
  · rw [show D * pq o = 0 from by omega, Nat.div_zero]
    decide
/-- The two highest digits of the divisor, and the three of the row. -/
theorem three (U n j : Nat) (hU : U < pq (j + n + 3)) : U / pq (j + n) = (dg U (j + n + 2) * 4294967296 + dg U (j + n + 1)) * 4294967296 + dg U (j + n) := by
  rw [ddiv_step2 U (j + n), top_two32 U (j + n + 1) hU]
theorem two_up (V n : Nat) (hV : V < pq (n + 2)) : V / pq n = dg V (n + 1) * 4294967296 + dg V n := top_two32 V n hV
/-- What is known of the quotient's digit ahead of the guess. -/
theorem step_pre (U V n j : Nat) (hV : V < pq (n + 2)) (hv : 0 < dg V (n + 1)) (hU : U < V * pq (j + 1)) :
    U < pq (j + n + 3) ∧ U / (V * pq j) < 4294967296 ∧ U / (V * pq j) * dg V (n + 1) ≤ dg U (j + n + 2) * 4294967296 + dg U (j + n + 1) ∧
    U / (V * pq j) * (dg V (n + 1) * 4294967296 + dg V n) ≤ (dg U (j + n + 2) * 4294967296 + dg U (j + n + 1)) * 4294967296 + dg U (j + n) ∧
    dg U (j + n + 2) * 4294967296 + dg U (j + n + 1) ≤ dg V (n + 1) * 4294967296 + 4294967295 := by
  have hUR : U < pq (j + n + 3) := by
    have e : pq (j + n + 3) = pq (n + 2) * pq (j + 1) := by rw [← pq_add]; congr 1; omega
    rw [e]
    exact Nat.lt_trans hU (Nat.mul_lt_mul_of_pos_right hV (pq_pos _))
  have h3 := three U n j hUR
  have h2 := two_up V n hV
  have hx : U / pq (j + n + 1) = dg U (j + n + 2) * 4294967296 + dg U (j + n + 1) := top_two32 U (j + n + 1) hUR
  have hq := Nat.div_mul_le_self U (V * pq j)
  have g1 := guess_ge U V (pq (n + 1)) (pq j) (dg V (n + 1)) (pq_pos _) (pq_pos _) hv (by rw [← top_one32 V (n + 1) hV]; exact Nat.div_mul_le_self _ _)
  rw [← pq_add, show n + 1 + j = j + n + 1 by omega, hx, Nat.le_div_iff_mul_le hv] at g1
  have h0 : 0 < dg V (n + 1) * 4294967296 + dg V n := by omega
  have g2 := guess_ge U V (pq n) (pq j) (dg V (n + 1) * 4294967296 + dg V n) (pq_pos _) (pq_pos _) h0 (by rw [← h2]; exact Nat.div_mul_le_self _ _)
  rw [← pq_add, show n + j = j + n by omega, h3, Nat.le_div_iff_mul_le h0] at g2
  refine ⟨hUR, guess_full32 U V j hU, g1, g2, ?_⟩
  -- the row is below V B^(j+1)
  have h4 : U / pq (j + n + 1) < V / pq n + 1 := by
    rw [Nat.div_lt_iff_lt_mul (pq_pos _)]
    have h5 : V < (V / pq n + 1) * pq n := by
      have := Nat.lt_div_mul_add (a := V) (pq_pos n)
      rw [Nat.add_mul]
      omega
    have e : (V / pq n + 1) * pq (j + n + 1) = (V / pq n + 1) * pq n * pq (j + 1) := by
      rw [Nat.mul_assoc, ← pq_add]
      congr 2
      omega
    rw [e]
    exact Nat.lt_of_lt_of_le hU (Nat.mul_le_mul_right _ (Nat.le_of_lt h5))
  rw [hx, h2] at h4
  have := dg_lt V n
  omega
/-- The guess is at most one too great. -/
theorem step_up (U V n j d : Nat) (hV : V < pq (n + 2)) (hv : 0 < dg V (n + 1)) (hUR : U < pq (j + n + 3)) (hd : d < 4294967296)
    (h : d * (dg V (n + 1) * 4294967296 + dg V n) ≤ (dg U (j + n + 2) * 4294967296 + dg U (j + n + 1)) * 4294967296 + dg U (j + n)) : (d - 1) * (V * pq j) ≤ U := by
  rw [← three U n j hUR, ← two_up V n hV] at h
  have h1 : V < (V / pq n + 1) * pq n := by
    have := Nat.lt_div_mul_add (a := V) (pq_pos n)
    rw [Nat.add_mul]
    omega
  have h2 : pq (n + 1) ≤ V := by
    have h3 := Nat.div_mul_le_self V (pq (n + 1))
    rw [top_one32 V (n + 1) hV] at h3
    have h4 : 1 * pq (n + 1) ≤ dg V (n + 1) * pq (n + 1) := Nat.mul_le_mul_right _ hv
    omega
  have h5 := Nat.div_mul_le_self U (pq (j + n))
  cases d with
  | zero => simp
  | succ e =>
    rw [Nat.add_sub_cancel]
    generalize U / pq (j + n) = Y at *
    generalize V / pq n = W at *
    have h6 : (e + 1) * W * pq n ≤ Y * pq n := Nat.mul_le_mul_right _ h
    have h7 : (e + 1) * V ≤ (e + 1) * ((W + 1) * pq n) := Nat.mul_le_mul_left _ (Nat.le_of_lt h1)
    have e1 : (e + 1) * ((W + 1) * pq n) = (e + 1) * W * pq n + (e + 1) * pq n := by grind
    have h8 : (e + 1) * pq n ≤ 4294967296 * pq n := Nat.mul_le_mul_right _ (by omega)
    have e2 : pq (n + 1) = 4294967296 * pq n := by rw [pq_succ, Nat.mul_comm]
    have e3 : (e + 1) * V = e * V + V := by grind
    have h9 : e * V ≤ Y * pq n := by omega
    have h10 : e * V * pq j ≤ Y * pq n * pq j := Nat.mul_le_mul_right _ h9
    have e4 : Y * pq n * pq j = Y * pq (j + n) := by rw [Nat.mul_assoc, ← pq_add, Nat.add_comm n j]
    rw [← Nat.mul_assoc]
    omega
/-- Behind a guess that went too far one divisor is laid on again. -/
theorem step_back (U T R d Z Y c : Nat) (hd : 0 < d) (hZ : Z < R) (hY : Y < R) (h : Z + d * T = U + R) (hb : Y + c * R = Z + T) (hc : c ≤ 1) (hup : (d - 1) * T ≤ U) : Y + (d - 1) * T = U ∧ Y < T := by
  have h1 := take_back U T R d Z Y c hd h hb
  rcases (show c = 0 ∨ c = 1 by omega) with rfl | rfl
  · rw [Nat.zero_mul] at h1
    omega
  · rw [Nat.one_mul] at h1 hb
    exact ⟨by omega, by omega⟩

end Go.Proofs.Ytleckbdhebjfkaa
