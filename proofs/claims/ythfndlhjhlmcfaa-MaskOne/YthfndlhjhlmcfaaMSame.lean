/-
  mask.Same: what it hands back.
-/
import Derived.Test.YthfndlhjhlmcfaaMA
import Derived.BigRegion
namespace Go.Proofs.Ythfndlhjhlmcfaa
open Go.RowKit
attribute [local go_sem ↓] loadNat_is loadArr_is storeNat_is
attribute [local go_sem] loadNat loadArr storeNat idxArr fold9 fold18 nw_size nw_elem pre_self pre_1 pre_2 pre_3 pre_4 pre_5 pre_6 pre_7 pre_8 pre_9 pre_10 pre_11 pre_12 pre_13 pre_14 pre_15 pre_16 pre_17 pre_18 pre_19 pre_20 pre_21 pre_22 pre_23 pre_24 pre_25 pre_26 pre_27 pre_28 pre_29 pre_30 pre_31 pre_32 pre_33 pre_34 pre_35 pre_36 pre_37 pre_38 pre_39 pre_40 gro_size gro_drew gro_drewN drew_gro drewN_gro gro_gro blk_gro frz_gro blk_drew frz_drew blk_drewN frz_drewN blk_alloc_at frz_alloc_at blk_alloc frz_alloc cell_gro frozen_gro cell_alloc_pre frozen_alloc_pre setCell_drewN alloc_drewN setBlk_drew setBlk_drewN setBlk_alloc_at setBlk_alloc setBlk_gro setCell_gro setCell_alloc_pre size_setBlk size_setCell
/-- A text's byte k; 0 beyond its end. -/
def tb (s : ByteArray) (k : Nat) : Nat := if h : k < s.size then s[k].toNat else 0
theorem tb_at (s : ByteArray) (k : Nat) (h : k < s.size) : tb s k = s[k].toNat := dif_pos h
theorem tb_lt (s : ByteArray) (k : Nat) : tb s k < 256 := by
  unfold tb
  split
  · exact UInt8.toNat_lt _
  · decide
/-- What the first k bytes of two texts have apart, or-ed to c. -/
def apart (s t : ByteArray) (c : Nat) : Nat → Nat
  | 0 => c
  | k + 1 => apart s t c k ||| (tb s k ^^^ tb t k)
theorem xor8_lt (s t : ByteArray) (k : Nat) : tb s k ^^^ tb t k < 256 := Nat.xor_lt_two_pow (n := 8) (tb_lt s k) (tb_lt t k)
theorem apart_lt (s t : ByteArray) (c : Nat) (hc : c < 18446744073709551616) : ∀ k, apart s t c k < 18446744073709551616
  | 0 => hc
  | k + 1 => or_lt (apart_lt s t c hc k) (by have := xor8_lt s t k; omega)
theorem xor_nil (a b : Nat) : a ^^^ b = 0 ↔ a = b := by
  have := @xor_zero a b
  rw [decide_eq_decide] at this
  exact this
theorem or_nil (a b : Nat) : a ||| b = 0 ↔ a = 0 ∧ b = 0 := by
  constructor
  · intro h
    have h1 : a ≤ a ||| b := Nat.left_le_or
    have h2 : b ≤ a ||| b := Nat.right_le_or
    omega
  · rintro ⟨rfl, rfl⟩; rfl
theorem apart_nil (s t : ByteArray) (c : Nat) : ∀ k, apart s t c k = 0 ↔ c = 0 ∧ ∀ i, i < k → tb s i = tb t i
  | 0 => by simp [apart]
  | k + 1 => by
    rw [apart, or_nil, apart_nil s t c k, xor_nil]
    constructor
    · rintro ⟨⟨h1, h2⟩, h3⟩
      refine ⟨h1, fun i hi => ?_⟩
      by_cases h : i = k
      · rw [h]; exact h3
      · exact h2 i (by omega)
    · rintro ⟨h1, h2⟩
      exact ⟨⟨h1, fun i hi => h2 i (by omega)⟩, h2 k (by omega)⟩
theorem text_ext (s t : ByteArray) (hz : s.size = t.size) (h : ∀ i, i < s.size → tb s i = tb t i) : s = t := by
  apply ByteArray.ext
  apply Array.ext
  · exact hz
  · intro i h1 h2
    have h1' : i < s.size := h1
    have h2' : i < t.size := h2
    have := h i h1'
    rw [tb_at s i h1', tb_at t i h2'] at this
    exact UInt8.toNat_inj.1 this
theorem apart_end (s t : ByteArray) (k : Nat) (h2 : k = s.size ∨ k = t.size) : decide (apart s t (s.size ^^^ t.size) k = 0) = decide (s = t) := by
  rw [decide_eq_decide, apart_nil, xor_nil]
  constructor
  · rintro ⟨h3, h4⟩
    exact text_ext s t h3 fun i hi => h4 i (by omega)
  · rintro rfl
    exact ⟨rfl, fun _ _ => rfl⟩
theorem size_xor (a b : Nat) (ha : a ≤ 9223372036854775807) (hb : b ≤ 9223372036854775807) : IntKind.u64.wrap (bits .xor .i64 (a : Int) (b : Int)) = ((a ^^^ b : Nat) : Int) := by
  have hx : a ^^^ b < 2 ^ 63 := Nat.xor_lt_two_pow (by omega) (by omega)
  have h : bits .xor .i64 (a : Int) (b : Int) = ((a ^^^ b : Nat) : Int) := by
    show IntKind.i64.wrap ((BitVec.ofInt 64 (a : Int) ^^^ BitVec.ofInt 64 (b : Int)).toNat : Int) = _
    rw [BitVec.toNat_xor, ofInt_nat a (by omega), ofInt_nat b (by omega), IntKind.wrap_i64]
    omega
  rw [h, IntKind.wrap_u64]
  omega
theorem byte_xor (s t : ByteArray) (k : Nat) (h1 : k < s.size) (h2 : k < t.size) : IntKind.u64.wrap (bits .xor .u8 (s[k].toNat : Int) (t[k].toNat : Int)) = ((tb s k ^^^ tb t k : Nat) : Int) := by
  have hx := xor8_lt s t k
  have b1 := tb_lt s k
  have b2 := tb_lt t k
  rw [← tb_at s k h1, ← tb_at t k h2]
  have e : ∀ x : Nat, x < 256 → (BitVec.ofInt 8 (x : Int)).toNat = x := fun x hx => by
    rw [BitVec.ofInt_natCast, BitVec.toNat_ofNat]; exact Nat.mod_eq_of_lt (by omega)
  have h : bits .xor .u8 ((tb s k : Nat) : Int) ((tb t k : Nat) : Int) = ((tb s k ^^^ tb t k : Nat) : Int) := by
    show IntKind.u8.wrap ((BitVec.ofInt 8 ((tb s k : Nat) : Int) ^^^ BitVec.ofInt 8 ((tb t k : Nat) : Int)).toNat : Int) = _
    rw [BitVec.toNat_xor, e _ b1, e _ b2, IntKind.wrap_u8]
    omega
  rw [h, IntKind.wrap_u64]
  omega

set_option maxRecDepth 100000 in
set_option maxHeartbeats 400000 in
theorem same_any (s t : ByteArray) (hs : s.size ≤ 9223372036854775807) (ht : t.size ≤ 9223372036854775807) (w : World) :
    Calls Try.prog 12 #[.string s, .string t] w fun e w' => e = .returned (.int .u64 ((msk (decide (s = t)) : Nat) : Int)) ∧ Gr w w' := by
  have hc : s.size ^^^ t.size < 18446744073709551616 := xor_lt (by omega) (by omega)
  have hsx := size_xor s.size t.size hs ht
  obtain ⟨C, hC⟩ : ∃ C, s.size ^^^ t.size = C := ⟨_, rfl⟩
  rw [hC] at hsx
  by_cases hm : t.size < s.size
  all_goals
    go_enter Try.func12, Try.ntmps12
    go_wp2
    go_loopw [5, 18] (fun c i wr => ∃ k n : Nat, k ≤ s.size ∧ k ≤ t.size ∧ i = .int .i64 (k : Int) ∧ c = .int .u64 ((apart s t C k : Nat) : Int) ∧ wr = w.drewN n) (fun _ i _ => s.size - (intOf i).toNat)
    case atStart => exact ⟨0, 0, by omega, by omega, rfl, rfl, rfl⟩
    case round =>
      obtain ⟨k, n, hk1, hk2, rfl, rfl, rfl⟩ := hrel
      have ha := apart_lt s t C (hC ▸ hc) k
      by_cases hlt : k < s.size ∧ k < t.size
      · obtain ⟨hl1, hl2⟩ := hlt
        have k0 : (0 : Int) ≤ (k : Int) := by omega
        have k1 : (k : Int) < (s.size : Int) := by omega
        have k2 : (k : Int) < (t.size : Int) := by omega
        go_wp2
        go_big_region
        go_wp2
        go_roundw
        case rel =>
          refine ⟨k + 1, n + 1, by omega, by omega, by go_num, ?_, rfl⟩
          rw [byte_xor s t k hl1 hl2, bits_or_u64_nat _ _ ha (by have := xor8_lt s t k; omega)]
          rfl
        case measure => simp [intOf]; omega
      · have he : Hid (k = s.size ∨ k = t.size) := show k = s.size ∨ k = t.size from by omega
        have hz := fun w => zero_any (apart s t C k) ha w
        rw [← hC, apart_end s t k he.out, hC] at hz
        first | (have hx : (t.size : Int) ≤ (k : Int) := by omega) | (have hx : (s.size : Int) ≤ (k : Int) := by omega)
        go_wp2_with (go_at_call 8; refine (hz _).mono ?_; rintro e w' ⟨rfl, rfl⟩)
        go_ret
        exact ⟨rfl, (Gr.refl w).drewN _⟩
end Go.Proofs.Ythfndlhjhlmcfaa
