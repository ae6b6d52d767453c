/-
  The statement MaskOne, walked: it answers true for every text and every two ints.
-/
import Derived.Test.YthfndlhjhlmcfaaMAw
import Derived.Laws.IdiomStrings
import Derived.Laws.Concat
namespace Go.Proofs.Ythfndlhjhlmcfaa
open Go.RowKit
attribute [local go_sem ↓] loadNat_is loadArr_is storeNat_is
attribute [local go_sem] loadNat loadArr storeNat idxArr fold9 fold18 nw_size nw_elem pre_self pre_1 pre_2 pre_3 pre_4 pre_5 pre_6 pre_7 pre_8 pre_9 pre_10 pre_11 pre_12 pre_13 pre_14 pre_15 pre_16 pre_17 pre_18 pre_19 pre_20 pre_21 pre_22 pre_23 pre_24 pre_25 pre_26 pre_27 pre_28 pre_29 pre_30 pre_31 pre_32 pre_33 pre_34 pre_35 pre_36 pre_37 pre_38 pre_39 pre_40 gro_size gro_drew gro_drewN drew_gro drewN_gro gro_gro blk_gro frz_gro blk_drew frz_drew blk_drewN frz_drewN blk_alloc_at frz_alloc_at blk_alloc frz_alloc cell_gro frozen_gro cell_alloc_pre frozen_alloc_pre setCell_drewN alloc_drewN setBlk_drew setBlk_drewN setBlk_alloc_at setBlk_alloc setBlk_gro setCell_gro setCell_alloc_pre size_setBlk size_setCell
attribute [local go_sem] nw_ext9 nw_ext18 eqArr9

theorem tmod_w64 (i : Int) (m : Nat) (h0 : 0 < m) : ∃ p : Nat, (IntKind.u64.wrap i).tmod (m : Int) = (p : Int) ∧ p < m := by
  have h : 0 ≤ IntKind.u64.wrap i := by rw [IntKind.wrap_u64]; omega
  refine ⟨(IntKind.u64.wrap i % (m : Int)).toNat, ?_, ?_⟩
  · rw [Int.tmod_eq_emod_of_nonneg h]
    have := Int.emod_nonneg (IntKind.u64.wrap i) (show (m : Int) ≠ 0 by omega)
    omega
  · have h2 := Int.emod_lt_of_pos (IntKind.u64.wrap i) (show (0 : Int) < (m : Int) by omega)
    omega
/-! ### a text's bytes as a new row -/
theorem cell_mark (w : World) (C : Array Value) (t : TypeId) (f : Nat × Nat) (n k : Nat) (h : n = w.heap.size) : (w.alloc (.cells C t f)).cell? ⟨n, k, none⟩ = C[k]? := by
  subst h; exact World.cell?_alloc_mark w C t f k
theorem frozen_mark (w : World) (C : Array Value) (t : TypeId) (n k : Nat) (h : n = w.heap.size) (hk : k < C.size) : (w.alloc (.cells C t (C.size, C.size + 1))).frozen? ⟨n, k, none⟩ = false := by
  subst h
  rw [World.frozen?_alloc_mark w C t C.size (C.size + 1) k, decide_eq_false (show ¬ C.size ≤ k by omega)]; rfl
theorem set_mark (w : World) (C : Array Value) (t : TypeId) (f : Nat × Nat) (n k : Nat) (v : Value) (h : n = w.heap.size) : (w.alloc (.cells C t f)).setCell ⟨n, k, none⟩ v = w.alloc (.cells (C.setIfInBounds k v) t f) := by
  rw [setCell_setBlk, blk_alloc_at w C t f n h, setBlk_alloc_at w C t f n _ h]
theorem get_data (t : ByteArray) (j : Nat) (h : j < t.size) : t[j] = t.data[j] := rfl
theorem row_size (t : ByteArray) (c : Nat) : t.size ≤ (bytesRow t c).size := by
  unfold bytesRow
  rw [Array.size_append, Array.size_map]
  exact Nat.le_add_right _ _
theorem row_at (t : ByteArray) (c j : Nat) (h : j < t.size) : (bytesRow t c)[j]? = some (.int .u8 ((tb t j : Nat) : Int)) := by
  rw [bytesRow_at t c j h, tb_at t j h, get_data t j h]
theorem xor_byte (x p : Nat) (hx : x < 256) (hp : p < 256) : bits .xor .u8 (x : Int) (p : Int) = ((x ^^^ p : Nat) : Int) := by
  have hz : x ^^^ p < 256 := Nat.xor_lt_two_pow (n := 8) hx hp
  have e : ∀ x : Nat, x < 256 → (BitVec.ofInt 8 (x : Int)).toNat = x := fun x hx => by
    rw [BitVec.ofInt_natCast, BitVec.toNat_ofNat]; exact Nat.mod_eq_of_lt (by omega)
  show IntKind.u8.wrap ((BitVec.ofInt 8 (x : Int) ^^^ BitVec.ofInt 8 (p : Int)).toNat : Int) = _
  rw [BitVec.toNat_xor, e _ hx, e _ hp, IntKind.wrap_u8]
  omega
/-- The text with byte k set to x. -/
def setB (t : ByteArray) (k x : Nat) : ByteArray := ⟨(t.data.toList.set k (UInt8.ofNat x)).toArray⟩
theorem setB_size (t : ByteArray) (k x : Nat) : (setB t k x).size = t.size := by
  show ((t.data.toList.set k (UInt8.ofNat x)).toArray).size = t.data.size
  simp
theorem setB_list (t : ByteArray) (k x j : Nat) (hx : x < 256) (hj : j < (t.data.toList.set k (UInt8.ofNat x)).length) : ((t.data.toList.set k (UInt8.ofNat x))[j]).toNat = if j = k then x else tb t j := by
  have hj' : j < t.size := by simpa using hj
  rw [List.getElem_set]
  by_cases h : k = j
  · rw [if_pos h, if_pos h.symm]
    simp
    omega
  · rw [if_neg h, if_neg (fun e => h e.symm), tb_at t j hj', get_data t j hj', Array.getElem_toList]
theorem setB_ne (t : ByteArray) (k x : Nat) (hk : k < t.size) (hx : x < 256) (h : x ≠ tb t k) : t ≠ setB t k x := fun e => by
  have hj : k < (t.data.toList.set k (UInt8.ofNat x)).length := by simpa using hk
  have h1 := setB_list t k x k hx hj
  rw [if_pos rfl] at h1
  have h2 : k < (setB t k x).size := by rw [setB_size]; exact hk
  have h3 : tb (setB t k x) k = x := by
    rw [tb_at (setB t k x) k h2, get_data (setB t k x) k h2]
    exact h1
  rw [← e] at h3
  exact h h3.symm
theorem back_row (t : ByteArray) (k x : Nat) (hx : x < 256) (v : World) (n c c' : Nat) (f : Nat × Nat) (h : n = v.heap.size) :
    (convert 37 9 (.slice (some ⟨n, 0, none⟩) t.size c')).run Try.prog (v.alloc (.cells ((bytesRow t c).setIfInBounds k (.int .u8 (x : Int))) 5 f)) =
      .ok (.string (setB t k x)) (v.alloc (.cells ((bytesRow t c).setIfInBounds k (.int .u8 (x : Int))) 5 f)) := by
  have hl : (t.data.toList.set k (UInt8.ofNat x)).length = t.size := by simp
  have := run_convert_bytes_back (P := Try.prog) (v.alloc (.cells ((bytesRow t c).setIfInBounds k (.int .u8 (x : Int))) 5 f)) 37 9 5 ⟨n, 0, none⟩ c' (t.data.toList.set k (UInt8.ofNat x)) Try.underlying37 Try.underlying5 Try.underlying9 (fun j hj => by
    have hj' : j < t.size := by rw [← hl]; exact hj
    have e : (⟨n, 0, none⟩ : Addr).add j = ⟨n, j, none⟩ := by simp [Addr.add]; omega
    rw [e, cell_mark _ _ _ _ _ _ h, setB_list t k x j hx hj, Array.getElem?_setIfInBounds]
    by_cases hjk : k = j
    · have h3 : k < (bytesRow t c).size := Nat.lt_of_lt_of_le (by omega) (row_size t c)
      rw [if_pos hjk, if_pos h3, if_pos hjk.symm]
    · rw [if_neg hjk, if_neg (fun e => hjk e.symm), row_at t c j hj'])
  rw [hl] at this
  exact this
theorem wrap64_nat (k : Nat) (h : k < 4611686018427387904) : wrap64 ((k : Nat) : Int) = (k : Int) := by unfold wrap64; omega
theorem wrap64_one (p : Nat) (h : p < 255) : wrap64 (1 + (p : Int)) = ((p + 1 : Nat) : Int) := by unfold wrap64; omega
attribute [local go_sem] cell_mark frozen_mark set_mark
set_option maxRecDepth 100000 in
set_option maxHeartbeats 1600000 in
theorem mone_any (s : ByteArray) (at_ by_ : Int) (hs : s.size ≤ 140737488355328) (w : World) :
    Calls Try.prog 5 #[.string s, .int .i64 at_, .int .i64 by_] w fun e w' => e = .returned (.bool true) ∧ Gr w w' := by
  have hadd := fun w => run_string_add_sum (P := Try.prog) (w := w) s ⟨#[113]⟩ (by show s.size + 1 ≤ _; omega)
  obtain ⟨t, ht⟩ : ∃ t, s ++ (⟨#[113]⟩ : ByteArray) = t := ⟨_, rfl⟩
  rw [ht] at hadd
  have hz : t.size = s.size + 1 := by rw [← ht, ByteArray.size_append]; rfl
  obtain ⟨k, hk, hkl⟩ := tmod_w64 at_ t.size (by omega)
  obtain ⟨p, hp, hpl⟩ := tmod_w64 by_ 255 (by decide)
  have HK : Hid ((IntKind.u64.wrap at_).tmod (t.size : Int) = (k : Int)) := hk
  have HP : Hid ((IntKind.u64.wrap by_).tmod 255 = (p : Int)) := hp
  clear hk hp
  have t0 : (0 : Int) < (t.size : Int) := by omega
  have w1 : IntKind.u64.wrap (t.size : Int) = (t.size : Int) := wrap_id _ (by omega)
  have hconv := fun w => run_bytes_of_string (P := Try.prog) w 9 37 5 t Try.underlying9 Try.underlying37 Try.underlying5
  have kB : k < 4611686018427387904 := Nat.lt_of_lt_of_le hkl (by rw [hz]; exact Nat.le_trans (Nat.succ_le_succ hs) (by decide))
  have wk := wrap64_nat k kB
  have wp := wrap64_nat p (Nat.lt_trans hpl (by decide))
  obtain ⟨q, hq⟩ : ∃ q, q = p + 1 := ⟨_, rfl⟩
  have wp1 : wrap64 (1 + (p : Int)) = (q : Int) := by rw [hq]; exact wrap64_one p hpl
  have wp8 : ((p : Int) + 1) % 256 = (q : Int) := by omega
  have wp9 : (q : Int) % 256 = (q : Int) := by omega
  have k0 : (0 : Int) ≤ (k : Int) := Int.natCast_nonneg k
  have k1 : (k : Int) < (t.size : Int) := Int.ofNat_lt.2 hkl
  have gC : ∀ c, (bytesRow t c)[k]? = some (.int .u8 ((tb t k : Nat) : Int)) := fun c => row_at t c k hkl
  have gE : ∀ c (h : k < (bytesRow t c).size), (bytesRow t c)[k] = .int .u8 ((tb t k : Nat) : Int) := fun c h => by
    have := gC c
    rw [Array.getElem?_eq_getElem h] at this
    exact Option.some.inj this
  have gk : ∀ c, k < (bytesRow t c).size := fun c => Nat.lt_of_lt_of_le hkl (row_size t c)
  have hb := tb_lt t k
  have hx := xor_byte (tb t k) q hb (by omega)
  obtain ⟨x, ex⟩ : ∃ x, tb t k ^^^ q = x := ⟨_, rfl⟩
  rw [ex] at hx
  have x256 : x < 256 := by rw [← ex]; exact Nat.xor_lt_two_pow (n := 8) hb (by omega)
  have hne : x ≠ tb t k := fun e => by
    have e2 : tb t k ^^^ (tb t k ^^^ q) = tb t k ^^^ tb t k := by rw [ex, e]
    rw [← Nat.xor_assoc, Nat.xor_self, Nat.zero_xor] at e2
    omega
  have c1 := fun w => same_any t (setB t k x) (by omega) (by rw [setB_size]; omega) w
  rw [decide_eq_false (setB_ne t k x hkl x256 hne)] at c1
  have c2 := fun w => same_any t s (by omega) (by omega) w
  rw [decide_eq_false (show ¬ t = s from fun e => by rw [e] at hz; omega)] at c2
  have c3 := fun w => same_any t t (by omega) (by omega) w
  rw [decide_eq_true rfl] at c3
  have hbk := fun v n c c' f h => back_row t k x x256 v n c c' f h
  obtain ⟨u, hu⟩ : ∃ u, setB t k x = u := ⟨_, rfl⟩
  rw [hu] at c1
  simp only [hu] at hbk
  have C1 : Hid (∀ w, Calls Try.prog 12 #[.string t, .string u] w fun e w' => e = .returned (.int .u64 0) ∧ Gr w w') := c1
  have C2 : Hid (∀ w, Calls Try.prog 12 #[.string t, .string s] w fun e w' => e = .returned (.int .u64 0) ∧ Gr w w') := c2
  have C3 : Hid (∀ w, Calls Try.prog 12 #[.string t, .string t] w fun e w' => e = .returned (.int .u64 18446744073709551615) ∧ Gr w w') := c3
  have HZ : Hid (t.size = s.size + 1) := hz
  have HT : Hid (s ++ (⟨#[113]⟩ : ByteArray) = t) := ht
  have hk := HK.out
  have hp := HP.out
  clear HK HP hz ht hq c1 c2 c3 hu hne x256 ex hb hkl hpl hs
  go_enter Try.func5, Try.ntmps5
  go_wp2_with (first
    | (go_at_call 13; refine (awake2_any _).mono ?_; rintro e w' ⟨rfl, g, rfl⟩)
    | (go_at_call_of 12 (Value.string u); refine (C1.out _).mono ?_; rintro e w' ⟨rfl, g, rfl⟩)
    | (go_at_call_of 12 (Value.string s); refine (C2.out _).mono ?_; rintro e w' ⟨rfl, g, rfl⟩)
    | (go_at_call 12; refine (C3.out _).mono ?_; rintro e w' ⟨rfl, g, rfl⟩))
  go_ret
  exact ⟨rfl, (by repeat (first | exact Gr.refl _ | apply Gr.drewN | apply Gr.drew | apply Gr.alloc | apply Gr.gro))⟩
end Go.Proofs.Ythfndlhjhlmcfaa
