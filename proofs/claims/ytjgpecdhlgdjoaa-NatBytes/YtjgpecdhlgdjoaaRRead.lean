/-
  The documents' numbers: Read and Bytes.
-/
import Derived.Test.YtjgpecdhlgdjoaaRNat
import Derived.Test.YtjgpecdhlgdjoaaRShl
import Derived.Test.YtjgpecdhlgdjoaaRBits
import Derived.Test.YtjgpecdhlgdjoaaNumY
import Derived.BigRegion
namespace Go.Proofs.Ytjgpecdhlgdjoaa
open Go.RowKit
attribute [local go_sem ↓] loadNat_is loadArr_is loadWide_is loadArrW_is storeNat_is storeWide_is
attribute [local go_sem] loadNat loadArr loadWide loadArrW storeNat storeWide idxArr fold9 fold18 nw_size nw_elem pre_self pre_1 pre_2 pre_3 pre_4 pre_5 pre_6 pre_7 pre_8 pre_9 pre_10 pre_11 pre_12 pre_13 pre_14 pre_15 pre_16 pre_17 pre_18 pre_19 pre_20 pre_21 pre_22 pre_23 pre_24 pre_25 pre_26 pre_27 pre_28 pre_29 pre_30 pre_31 pre_32 pre_33 pre_34 pre_35 pre_36 pre_37 pre_38 pre_39 pre_40 gro_size gro_drew gro_drewN drew_gro drewN_gro gro_gro blk_gro frz_gro blk_drew frz_drew blk_drewN frz_drewN blk_alloc_at frz_alloc_at blk_alloc frz_alloc cell_gro frozen_gro cell_alloc_pre frozen_alloc_pre setCell_drewN alloc_drewN setBlk_drew setBlk_drewN setBlk_alloc_at setBlk_alloc setBlk_gro setCell_gro setCell_alloc_pre size_setBlk size_setCell
theorem pow32k (k : Nat) (hk : k ≤ 32) : 2 ^ (32 - k) * 2 ^ k = 4294967296 := by
  rw [← Nat.pow_add, show 32 - k + k = 32 by omega]
theorem rbyte_place (b q r : Nat) : b * 2 ^ (8 * (4 * q + r)) = b * 2 ^ (8 * r) * pq q := by
  unfold pq
  rw [show 8 * (4 * q + r) = 8 * r + 32 * q from by omega, Nat.pow_add, Nat.mul_assoc]
theorem rbyte_dg (X q r : Nat) (hr : r < 4) : dg (X * 2 ^ (8 * (4 * q + r + 1))) q = (X % 2 ^ (32 - 8 * (r + 1))) * 2 ^ (8 * (r + 1)) := by
  unfold dg pq
  rw [show 8 * (4 * q + r + 1) = 8 * (r + 1) + 32 * q from by omega, Nat.pow_add, ← Nat.mul_assoc, Nat.mul_div_cancel _ (Nat.two_pow_pos _), ← pow32k (8 * (r + 1)) (by omega), Nat.mul_mod_mul_right]
theorem rbyte_lt (X q r b : Nat) (hr : r < 4) (hb : b < 256) : dg (X * 2 ^ (8 * (4 * q + r + 1))) q + b * 2 ^ (8 * r) < 4294967296 := by
  have h1 := byte_lt b r hb
  rw [rbyte_dg X q r hr, ← pow32k (8 * (r + 1)) (by omega)]
  have h2 := Nat.mod_lt X (Nat.two_pow_pos (32 - 8 * (r + 1)))
  have h3 : (X % 2 ^ (32 - 8 * (r + 1)) + 1) * 2 ^ (8 * (r + 1)) ≤ 2 ^ (32 - 8 * (r + 1)) * 2 ^ (8 * (r + 1)) := Nat.mul_le_mul_right _ h2
  rw [Nat.add_mul] at h3
  omega
theorem rbyte_set (N X q r b : Nat) (hr : r < 4) (hb : b < 256) :
    (nd N (X * 2 ^ (8 * (4 * q + r + 1)))).setIfInBounds q (Value.int .u32 ((dg (X * 2 ^ (8 * (4 * q + r + 1))) q + b * 2 ^ (8 * r) : Nat) : Int)) = nd N ((X * 256 + b) * 2 ^ (8 * (4 * q + r))) := by
  rw [nd_dset N _ q _ (rbyte_lt X q r b hr hb), byte_step, rbyte_place]
  have hp := dparts (X * 2 ^ (8 * (4 * q + r + 1))) q
  generalize X * 2 ^ (8 * (4 * q + r + 1)) = V at *
  refine congrArg (nd N) ?_
  unfold dset
  rw [Nat.add_mul]
  generalize V / pq (q + 1) * pq (q + 1) = z at *
  generalize b * 2 ^ (8 * r) * pq q = y at *
  generalize dg V q * pq q = t at *
  omega
/-- All that one round of Read reckons. -/
theorem read_round (N X q r b t V : Nat) (hr : r < 4) (hb : b < 256) (ht : t = 8 * r) (hV : V = X * 2 ^ (8 * (4 * q + r + 1))) :
    ∃ y o : Nat, IntKind.u32.wrap (b : Int) = (b : Int) ∧ IntKind.u32.wrap ((b : Int) * 2 ^ t) = (y : Int) ∧ bits BinOp.or IntKind.u32 ((dg V q : Nat) : Int) (y : Int) = (o : Int) ∧
      (nd N V).setIfInBounds q (Value.int .u32 (o : Int)) = nd N ((X * 256 + b) * 2 ^ (8 * (4 * q + r))) := by
  subst ht hV
  have h1 := byte_lt b r hb
  have h2 : 2 ^ (8 * (r + 1)) ≤ 4294967296 := by
    rw [← pow32k (8 * (r + 1)) (by omega)]
    exact Nat.le_mul_of_pos_left _ (Nat.two_pow_pos _)
  refine ⟨b * 2 ^ (8 * r), dg (X * 2 ^ (8 * (4 * q + r + 1))) q + b * 2 ^ (8 * r), ?_, ?_, ?_, rbyte_set N X q r b hr hb⟩
  · rw [IntKind.wrap_u32]; omega
  · rw [IntKind.wrap_u32, int_pow, ← Int.natCast_mul]
    generalize b * 2 ^ (8 * r) = y at *
    omega
  · rw [bits_or32 _ _ (dg_lt _ _) (by omega), rbyte_dg X q r hr, or_add _ _ _ h1]
theorem bn_lt : ∀ (l : List UInt8), bn l < 2 ^ (8 * l.length) := fun l => by
  have key : ∀ n (l : List UInt8), l.length = n → bn l < 2 ^ (8 * l.length) := by
    intro n
    induction n with
    | zero => intro l h; rw [List.length_eq_zero_iff.1 h]; exact Nat.one_pos
    | succ n ih =>
      intro l h
      have hne : l ≠ [] := fun e => by rw [e] at h; cases h
      have e := List.dropLast_concat_getLast hne
      have hl : l.dropLast.length = n := by rw [List.length_dropLast]; omega
      have h1 := ih l.dropLast hl
      rw [← e, bn_snoc, List.length_append, hl, List.length_singleton, show 8 * (n + 1) = 8 * n + 8 by omega, Nat.pow_add]
      rw [hl] at h1
      have h2 := (l.getLast hne).toNat_lt
      have h3 : (2 : Nat) ^ 8 = 256 := rfl
      rw [h3]
      omega
  exact key l.length l rfl
theorem read_lt (s : ByteArray) (N : Nat) (hN : s.size / 4 + 1 = N) : bn s.data.toList < pq N := by
  refine Nat.lt_of_lt_of_le (bn_lt _) ?_
  unfold pq
  refine Nat.pow_le_pow_right (by decide) ?_
  have : s.data.toList.length = s.size := by simp
  omega
set_option maxRecDepth 100000 in
set_option maxHeartbeats 800000 in
theorem rread_any (s : ByteArray) (hs : s.size ≤ 72) (w : World) : Calls Try.prog 40 #[.string s] w (Nm (bn s.data.toList) w) := by
  have h : (s.size : Int) ≤ 72 := by omega
  obtain ⟨m, hm⟩ : ∃ m, s.size / 4 = m := ⟨_, rfl⟩
  obtain ⟨N, hN⟩ : ∃ N, m + 1 = N := ⟨_, rfl⟩
  have HB : Hid (Unit → bn s.data.toList < pq N) := fun _ => read_lt s N (by omega)
  have m1 : (s.size : Int) / 4 = (m : Int) := by omega
  have m2 : (m : Int) + 1 = (N : Int) := by omega
  have HM : Hid (Unit → s.size < 4 * N) := fun _ => by omega
  have n0 : (0 : Int) ≤ (s.size : Int) := by omega
  have mb : (m : Int) ≤ 18 := by omega
  have kb : Hid (Unit → N ≤ 100000) := fun _ => by omega
  have hmk : ∀ w, (Instr.makeSlice 27 (.int .i64 (N : Int)) (.int .i64 (N : Int))).run Try.prog w = .ok (.slice (some ⟨w.heap.size, 0, none⟩) N N) (w.alloc (.cells (nd N 0) 34)) := fun w => make_digits N (by omega) w
  clear hm hN
  go_enter Try.func40, Try.ntmps40
  go_wp2
  clear hmk
  go_loopw [4] (fun i wr => ∃ k X : Nat, k ≤ s.size ∧ i = .int .i64 (k : Int) ∧ bn (s.data.toList.take k) = X ∧ ∃ q, wr = (w.alloc (.cells (nd N (X * 2 ^ (8 * (s.size - k)))) 34)).drewN q) (fun i _ => s.size - (intOf i).toNat)
  case atStart => exact ⟨0, 0, by omega, rfl, rfl, 0, by rw [Nat.zero_mul]; rfl⟩
  case round =>
    obtain ⟨k, X, hk, rfl, hX, n, rfl⟩ := hrel
    have HX : Hid (Unit → bn (s.data.toList.take k) = X) := fun _ => hX
    clear hX
    by_cases hlt : k < s.size
    · obtain ⟨P, hP⟩ : ∃ P, s.size = k + (P + 1) := ⟨s.size - k - 1, by omega⟩
      obtain ⟨q, r, hq, hr⟩ : ∃ q r, P = 4 * q + r ∧ r < 4 := ⟨P / 4, P % 4, by omega, by omega⟩
      obtain ⟨t, ht⟩ : ∃ t, t = 8 * r := ⟨_, rfl⟩
      have e1 : (s.size : Int) - 1 - (k : Int) = (P : Int) := by omega
      have e2 : (P : Int) / 4 = (q : Int) := by omega
      have e3 : (P : Int) % 4 = (r : Int) := by omega
      have e4 : (r : Int) * 8 = (t : Int) := by omega
      have d2 : (P : Int).tdiv 4 = (q : Int) := by rw [Int.tdiv_eq_ediv_of_nonneg (by omega)]; exact e2
      have d3 : (P : Int).tmod 4 = (r : Int) := by rw [Int.tmod_eq_emod_of_nonneg (by omega)]; exact e3
      have w2 : IntKind.i64.wrap (q : Int) = (q : Int) := by rw [IntKind.wrap_i64]; omega
      have w3 : IntKind.i64.wrap (r : Int) = (r : Int) := by rw [IntKind.wrap_i64]; omega
      have w4 : IntKind.i64.wrap (t : Int) = (t : Int) := by rw [IntKind.wrap_i64]; omega
      have t0 : (0 : Int) ≤ (t : Int) := by omega
      have t1 : (t : Int) < 32 := by omega
      have q0 : (0 : Int) ≤ (q : Int) := by omega
      have qN : q < N := by have := HM.out (); omega
      have q1 : (q : Int) < (N : Int) := by omega
      have p0 : (0 : Int) ≤ (P : Int) := by omega
      have k0 : (0 : Int) ≤ (k : Int) := by omega
      have k1 : (k : Int) < (s.size : Int) := by omega
      obtain ⟨V, hV⟩ : ∃ V, V = X * 2 ^ (8 * (s.size - k)) := ⟨_, rfl⟩
      rw [← hV]
      have gV := nd_get N V q qN
      have hV2 : V = X * 2 ^ (8 * (4 * q + r + 1)) := by rw [hV, show s.size - k = 4 * q + r + 1 by omega]
      obtain ⟨y, o, f1, f2, f3, f4⟩ := read_round N X q r s[k].toNat t V hr s[k].toNat_lt ht hV2
      have HS : Hid (Unit → (nd N V).setIfInBounds q (Value.int .u32 (o : Int)) = nd N ((X * 256 + s[k].toNat) * 2 ^ (8 * (s.size - (k + 1))))) := fun _ => by
        rw [f4, show s.size - (k + 1) = 4 * q + r by omega]
      clear hV hV2 ht hq hr hs hk hP f4
      go_wp2
      go_big_region
      go_wp2
      go_roundw
      case rel =>
        refine ⟨k + 1, X * 256 + s[k].toNat, by omega, by go_num, ?_, n + 1, ?_⟩
        · rw [take_snoc s k hlt, bn_snoc, HX.out ()]
        · rw [HS.out ()]
      case measure => simp [intOf]; omega
    · have hks : Hid (Unit → k = s.size) := fun _ => by omega
      obtain ⟨V, hV⟩ : ∃ V, V = X * 2 ^ (8 * (s.size - k)) := ⟨_, rfl⟩
      rw [← hV]
      have HF : Hid (Unit → V = bn s.data.toList) := fun _ => by
        rw [hV, hks.out (), Nat.sub_self, Nat.mul_zero, Nat.pow_zero, Nat.mul_one, ← HX.out (), hks.out (), List.take_of_length_le (by simp)]
      have HV : Hid (Unit → V < pq N) := fun _ => by rw [HF.out ()]; exact HB.out ()
      have hki : ¬ (k : Int) < (s.size : Int) := by omega
      clear hV hlt hk hs
      go_wp2_with (go_at_call 44; refine (trim_nd _ _ N V (kb.out ()) (HV.out ()) (by simp [go_sem])).mono ?_; rintro e w' ⟨rfl, rfl⟩)
      go_ret
      exact Nm.mk (HF.out ()) (HV.out ()) (by simp [go_sem]) (by simp [go_sem]) (by repeat (first | exact Gr.refl _ | apply Gr.drewN | apply Gr.drew | apply Gr.alloc | apply Gr.gro))

/-! ### Bytes -/
/-- The last k of n bytes; noughts ahead of them. -/
def zs (n a k : Nat) : List Int := (List.range n).map fun i => if n ≤ i + k then ((byt a (n - 1 - i) : Nat) : Int) else 0
def bz (n a k : Nat) : Array Value := ((zs n a k).map (Value.int .u8)).toArray
theorem bz_size (n a k : Nat) : (bz n a k).size = n := by simp [bz, zs]
theorem bz_get (n a k j : Nat) (h : j + k + 1 = n) : (bz n a k)[j]? = some (.int .u8 0) := by
  have h1 : j < n := by omega
  have h2 : ¬ n ≤ j + k := by omega
  simp [bz, zs, h1, h2]
theorem bz_set (n a k j : Nat) (h : j + k + 1 = n) : (bz n a k).setIfInBounds j (.int .u8 ((byt a k : Nat) : Int)) = bz n a (k + 1) := by
  apply Array.ext_getElem?
  intro i
  rw [Array.getElem?_setIfInBounds]
  by_cases hi : i < n
  · by_cases hk : j = i
    · subst hk
      have e1 : n ≤ j + (k + 1) := by omega
      have e2 : n - 1 - j = k := by omega
      simp [bz, zs, hi, e1, e2]
    · rw [if_neg hk]
      simp only [bz, zs, List.map_map, List.getElem?_toArray, List.getElem?_map, List.getElem?_range hi, Option.map_some, Function.comp]
      have : (n ≤ i + (k + 1)) ↔ (n ≤ i + k) := by omega
      simp only [this]
  · have h1 : (bz n a k)[i]? = none := Array.getElem?_eq_none (by rw [bz_size]; omega)
    have h2 : (bz n a (k + 1))[i]? = none := Array.getElem?_eq_none (by rw [bz_size]; omega)
    rw [h1, h2]
    by_cases hk : j = i
    · rw [if_pos hk, if_neg (by rw [bz_size]; omega)]
    · rw [if_neg hk]
theorem bz_zero (n a : Nat) : bx n a 0 = bz n a 0 := by
  have : xs n a 0 = zs n a 0 := by
    refine List.map_congr_left fun i hi => ?_
    have : i < n := by simpa using hi
    simp [show ¬ n ≤ i by omega]
  unfold bx bz
  rw [this]
theorem bz_all (n a : Nat) : bz n a n = bx n a n := by
  have : xs n a n = zs n a n := by
    refine List.map_congr_left fun i hi => ?_
    have : i < n := by simpa using hi
    simp [this]
  unfold bx bz
  rw [this]
theorem byt_dg (a q r : Nat) (hr : r < 4) : dg a q / 2 ^ (8 * r) % 256 = byt a (4 * q + r) := by
  unfold byt dg pq
  obtain ⟨d, hd⟩ : ∃ d, 32 = 8 * r + (8 + d) := ⟨24 - 8 * r, by omega⟩
  have e2 : (4294967296 : Nat) = 2 ^ (8 * r) * (256 * 2 ^ d) := by
    rw [show (256 : Nat) * 2 ^ d = 2 ^ (8 + d) from by rw [Nat.pow_add], ← Nat.pow_add, ← hd]
  rw [e2, Nat.mod_mul_right_div_self, Nat.mod_mul_right_mod, Nat.div_div_eq_div_mul, ← Nat.pow_add, show 32 * q + 8 * r = 8 * (4 * q + r) from by omega]
theorem and_255 (x : Nat) (h : x < 18446744073709551616) : bits BinOp.and IntKind.u64 (x : Int) 255 = ((x % 256 : Nat) : Int) := by
  have h1 : (BitVec.ofInt 64 (x : Int)).toNat = x := by
    rw [BitVec.ofInt_natCast, BitVec.toNat_ofNat]; exact Nat.mod_eq_of_lt (by omega)
  show IntKind.u64.wrap ((BitVec.ofInt 64 (x : Int) &&& BitVec.ofInt 64 255).toNat : Int) = _
  rw [BitVec.toNat_and, h1, show (BitVec.ofInt 64 255).toNat = 2 ^ 8 - 1 from rfl, Nat.and_two_pow_sub_one_eq_mod, IntKind.wrap_u64]
  omega
/-- All that one round of Bytes reckons. -/
theorem bytes_round (a q r t : Nat) (hr : r < 4) (ht : t = 8 * r) : ∃ y b : Nat, ((dg a q : Nat) : Int) / 2 ^ t = (y : Int) ∧ bits BinOp.and IntKind.u64 (y : Int) 255 = (b : Int) ∧ b = byt a (4 * q + r) := by
  subst ht
  refine ⟨dg a q / 2 ^ (8 * r), byt a (4 * q + r), ?_, ?_, rfl⟩
  · rw [int_pow, ← Int.natCast_ediv]
  · have h1 := dg_lt a q
    have h2 : dg a q / 2 ^ (8 * r) ≤ dg a q := Nat.div_le_self _ _
    rw [and_255 _ (by omega), byt_dg a q r hr]
set_option maxRecDepth 100000 in
set_option maxHeartbeats 800000 in
theorem rbytes_any (a m n : Nat) (p : Option Addr) (w : World) (hp : Sl w p a) (hx : dl a ≤ 50000) (hn : n ≤ 72) (hb : bl a ≤ 8 * n) :
    Calls Try.prog 39 #[.slice p (dl a) m, .int .i64 (n : Int)] w fun e w' => e = .returned (.tuple #[.string ⟨(bs n a).toArray⟩, .bool true]) ∧ Gr w w' := by
  have cb := fun w (h : Sl w p a) => rbits_any a m p w h hx
  have cd := digits_in w p a m hp
  have n0 : (0 : Int) ≤ (n : Int) := by omega
  have n1 : (n : Int) ≤ 72 := by omega
  obtain ⟨B, hB⟩ : ∃ B : Nat, bl a = B := ⟨_, rfl⟩
  rw [hB] at cb
  obtain ⟨X, hX⟩ : ∃ L, dl a = L := ⟨_, rfl⟩
  rw [hX] at cb cd ⊢
  have CB : Hid (Unit → Calls Try.prog 22 #[.slice p X m] w fun e w' => e = .returned (.int .i64 (B : Int)) ∧ w = w') := fun _ => (cb w hp).mono fun _ _ ⟨he, hw⟩ => ⟨he, hw.symm⟩
  have CD : Hid (∀ (i : Int) (j : Nat) (v : World), i = (j : Int) → Gr w v → Calls Try.prog 47 #[.slice p X m, .int .i64 i] v fun e w' => e = .returned (.int .u64 ((dg a j : Nat) : Int)) ∧ w' = v) := cd
  have b1 : (B : Int) ≤ 8 * (n : Int) := by omega
  have hmk : ∀ w, (Instr.makeSlice 69 (.int .i64 (n : Int)) (.int .i64 (n : Int))).run Try.prog w = .ok (.slice (some ⟨w.heap.size, 0, none⟩) n n) (w.alloc (.cells (bz n a 0) 5)) := fun w => by rw [← bz_zero]; exact make_bytes n a hn w
  clear cb cd hB hX hp hx hb hn
  go_enter Try.func39, Try.ntmps39
  go_wp2_with (go_at_call 22; refine (CB.out ()).mono ?_; rintro e w' ⟨rfl, rfl⟩)
  clear hmk CB
  go_loopw [7] (fun i wr => ∃ k : Nat, k ≤ n ∧ i = .int .i64 (k : Int) ∧ wr = w.alloc (.cells (bz n a k) 5)) (fun i _ => n - (intOf i).toNat)
  case atStart => exact ⟨0, by omega, rfl, rfl⟩
  case round =>
    obtain ⟨k, hk, rfl, rfl⟩ := hrel
    by_cases hlt : k < n
    · obtain ⟨j, hj⟩ : ∃ j, j + k + 1 = n := ⟨n - k - 1, by omega⟩
      obtain ⟨q, r, hq, hr⟩ : ∃ q r, k = 4 * q + r ∧ r < 4 := ⟨k / 4, k % 4, by omega, by omega⟩
      obtain ⟨t, ht⟩ : ∃ t, t = 8 * r := ⟨_, rfl⟩
      have e1 : (n : Int) - 1 - (k : Int) = (j : Int) := by omega
      have e2 : (k : Int) / 4 = (q : Int) := by omega
      have e3 : (k : Int) % 4 = (r : Int) := by omega
      have e4 : (r : Int) * 8 = (t : Int) := by omega
      have t0 : (0 : Int) ≤ (t : Int) := by omega
      have t1 : (t : Int) < 32 := by omega
      have j0 : (0 : Int) ≤ (j : Int) := by omega
      have j1 : (j : Int) < (n : Int) := by omega
      have k0 : (0 : Int) ≤ (k : Int) := by omega
      have k1 : (k : Int) < (n : Int) := by omega
      have q1 : (q : Int) ≤ 72 := by omega
      have gx := bz_get n a k j hj
      obtain ⟨y, b, f1, f2, f3⟩ := bytes_round a q r t hr ht
      have f4 : (b : Int) % 256 = (b : Int) := by have := byt_lt a (4 * q + r); omega
      have HS : Hid (Unit → (bz n a k).setIfInBounds j (.int .u8 (b : Int)) = bz n a (k + 1)) := fun _ => by rw [f3, ← hq, bz_set n a k j hj]
      clear ht hq hr hj f3
      go_wp2_with (go_at_call 47; refine (CD.out _ q _ ?_ ?_).mono ?_; omega; exact (by repeat (first | exact Gr.refl _ | apply Gr.drewN | apply Gr.drew | apply Gr.alloc | apply Gr.gro)); rintro e w' ⟨rfl, rfl⟩)
      go_roundw
      case rel => exact ⟨k + 1, by omega, by go_num, by rw [HS.out ()]⟩
      case measure => simp [intOf]; omega
    · have hkn : Hid (Unit → k = n) := fun _ => by omega
      have hki : ¬ (k : Int) < (n : Int) := by omega
      have hcv : ∀ (v : World) (b : Nat), blk v b = bz n a k → (convert 69 9 (.slice (some ⟨b, 0, none⟩) n n)).run Try.prog v = .ok (.string ⟨(bs n a).toArray⟩) v := fun v b h => conv_bytes n a v b (by rw [h, hkn.out (), bz_all])
      clear hlt hk
      go_wp2
      go_ret2
      exact ⟨rfl, (by repeat (first | exact Gr.refl _ | apply Gr.drewN | apply Gr.drew | apply Gr.alloc | apply Gr.gro))⟩

set_option maxRecDepth 100000 in
set_option maxHeartbeats 800000 in
theorem rbytes_no (a m : Nat) (n : Int) (p : Option Addr) (w : World) (hp : Sl w p a) (hx : dl a ≤ 50000) (hn : n < 0 ∨ 72 < n ∨ 8 * n < bl a) :
    Calls Try.prog 39 #[.slice p (dl a) m, .int .i64 n] w fun e w' => e = .returned (.tuple #[.string ⟨#[]⟩, .bool false]) ∧ Gr w w' := by
  have cb := rbits_any a m p w hp hx
  obtain ⟨B, hB⟩ : ∃ B : Nat, bl a = B := ⟨_, rfl⟩
  rw [hB] at cb hn
  obtain ⟨X, hX⟩ : ∃ L, dl a = L := ⟨_, rfl⟩
  rw [hX] at cb ⊢
  have CB : Hid (Unit → Calls Try.prog 22 #[.slice p X m] w fun e w' => e = .returned (.int .i64 (B : Int)) ∧ w' = w) := fun _ => cb
  clear cb hB hX hp hx
  by_cases h0 : n < 0
  · clear hn CB
    go_enter Try.func39, Try.ntmps39
    go_wp2
    go_ret2
    exact ⟨rfl, (by repeat (first | exact Gr.refl _ | apply Gr.drewN | apply Gr.drew | apply Gr.alloc | apply Gr.gro))⟩
  · by_cases h1 : 72 < n
    · clear hn CB
      go_enter Try.func39, Try.ntmps39
      go_wp2
      go_ret2
      exact ⟨rfl, (by repeat (first | exact Gr.refl _ | apply Gr.drewN | apply Gr.drew | apply Gr.alloc | apply Gr.gro))⟩
    · have b1 : 8 * n < (B : Int) := by omega
      have n0 : 0 ≤ n := by omega
      have n1 : n ≤ 72 := by omega
      clear hn
      go_enter Try.func39, Try.ntmps39
      go_wp2_with (go_at_call 22; refine (CB.out ()).mono ?_; rintro e w' ⟨rfl, rfl⟩)
      go_ret2
      exact ⟨rfl, (by repeat (first | exact Gr.refl _ | apply Gr.drewN | apply Gr.drew | apply Gr.alloc | apply Gr.gro))⟩

end Go.Proofs.Ytjgpecdhlgdjoaa
