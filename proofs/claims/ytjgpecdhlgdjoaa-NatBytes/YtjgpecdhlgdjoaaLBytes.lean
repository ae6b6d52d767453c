/-
  The statement NatBytes, walked: it answers true for every number, text and size.
-/
import Derived.Test.YtjgpecdhlgdjoaaMixP
import Derived.Test.YtjgpecdhlgdjoaaRFrom
import Derived.Test.YtjgpecdhlgdjoaaRRead
import Derived.Test.YtjgpecdhlgdjoaaOf
import Derived.Test.YtjgpecdhlgdjoaaByt
import Derived.Test.YtjgpecdhlgdjoaaAwake
import Derived.Test.YtjgpecdhlgdjoaaEq
import Derived.Test.YtjgpecdhlgdjoaaQt
namespace Go.Proofs.Ytjgpecdhlgdjoaa
open Go.RowKit
attribute [local go_sem ↓] loadNat_is loadArr_is loadWide_is loadArrW_is storeNat_is storeWide_is
attribute [local go_sem] loadNat loadArr loadWide loadArrW storeNat storeWide idxArr fold9 fold18 nw_size nw_elem pre_self pre_1 pre_2 pre_3 pre_4 pre_5 pre_6 pre_7 pre_8 pre_9 pre_10 pre_11 pre_12 pre_13 pre_14 pre_15 pre_16 pre_17 pre_18 pre_19 pre_20 pre_21 pre_22 pre_23 pre_24 pre_25 pre_26 pre_27 pre_28 pre_29 pre_30 pre_31 pre_32 pre_33 pre_34 pre_35 pre_36 pre_37 pre_38 pre_39 pre_40 gro_size gro_drew gro_drewN drew_gro drewN_gro blk_gro frz_gro blk_drew frz_drew blk_drewN frz_drewN blk_alloc_at frz_alloc_at blk_alloc frz_alloc cell_gro frozen_gro cell_alloc_pre frozen_alloc_pre setCell_drewN alloc_drewN setBlk_drew setBlk_drewN setBlk_alloc_at setBlk_alloc setBlk_gro setCell_gro setCell_alloc_pre size_setBlk size_setCell
attribute [local go_sem] nw_ext9 nw_ext18 eqArr9 eqArr18 all_grow

attribute [local go_sem] loadNat2 loadArr2 loadWide2 loadK_nw ppre_1 ppre_2 ppre_3 ppre_4 ppre_5 ppre_6 ppre_7 ppre_8 ppre_9 ppre_10 ppre_11 ppre_12 ppre_13 ppre_14 ppre_15 ppre_16 ppre_17 ppre_18 ppre_19 ppre_20

attribute [local go_sem] eqN_self
theorem dl_M2 (a : Nat) (h : a < M) : dl a ≤ 18 := (dl_le a 18).2 (by rw [pq_M]; exact h)
/-- What is known of a number's bytes, whatever their number. -/
theorem bytes_cases (a : Nat) (n : Int) (ha : a < M) : ∃ (t : ByteArray) (f : Int) (ok : Bool), Hid (∀ w, Calls Try.prog 38 #[.agg (nw 9 a), .int .i64 n] w fun e w' => e = .returned (.tuple #[.string t, .int .i64 f]) ∧ Gr w w') ∧
    Hid (∀ w p m, Sl w p a → Calls Try.prog 39 #[.slice p (dl a) m, .int .i64 n] w fun e w' => e = .returned (.tuple #[.string t, .bool ok]) ∧ Gr w w') ∧ ((f = 0 ∧ ok = true) ∨ (f = 101 ∧ ok = false)) := by
  have la := dl_M2 a ha
  by_cases hn : n < 0 ∨ 72 < n ∨ 8 * n < bl a
  · exact ⟨_, _, _, fun w => bytes_no a n ha hn w, fun w p m h => rbytes_no a m n p w h (by omega) hn, Or.inr ⟨rfl, rfl⟩⟩
  · obtain ⟨k, rfl⟩ := Int.eq_ofNat_of_zero_le (show 0 ≤ n by omega)
    exact ⟨_, _, _, fun w => bytes_any a k ha (by omega) (by omega) w, fun w p m h => rbytes_any a m k p w h (by omega) (by omega) (by omega), Or.inl ⟨rfl, rfl⟩⟩
set_option maxRecDepth 100000 in
set_option maxHeartbeats 4000000 in
theorem bytes_long (a : Nat) (s : ByteArray) (n : Int) (ha : a < M) (hs : 72 < s.size) (w : World) :
    Calls Try.prog 5 #[.agg (nw 9 a), .string s, .int .i64 n] w fun e w' => e = .returned (.bool true) ∧ Gr w w' := by
  obtain ⟨t, f, ok, C1, C2, hor⟩ := bytes_cases a n ha
  have C0 : Hid (∀ w, Calls Try.prog 14 #[.agg (nw 9 a)] w (Nm a w)) := fun w => from_any a ha w
  have E1 : Hid (∀ w, Calls Try.prog 37 #[.string s] w fun e w' => e = .returned (.tuple #[.agg (nw 9 0), .int .i64 100]) ∧ Gr w w') := fun w => of_long s hs w
  have s1 : (72 : Int) < (s.size : Int) := by omega
  clear ha hs
  obtain ⟨rfl, rfl⟩ | ⟨rfl, rfl⟩ := hor
  all_goals
    go_enter Try.func5, Try.ntmps5
    go_wp2_with (first
      | (go_at_call 37; refine (E1.out _).mono ?_; rintro e w' ⟨rfl, g0, rfl⟩)
      | (go_at_call 38; refine (C1.out _).mono ?_; rintro e w' ⟨rfl, g1, rfl⟩)
      | (go_at_call 14; refine (C0.out _).mono ?_; rintro e w' ⟨pa, na, rfl, Sa, g2, rfl⟩)
      | (go_at_call 39; refine (C2.out _ _ _ Sa).mono ?_; rintro e w' ⟨rfl, g3, rfl⟩)
      | (go_at_call 35; refine (num_any _ _).mono ?_; rintro e w' ⟨rfl, rfl⟩)
      | (go_at_call 27; refine (awake_any _).mono ?_; rintro e w' ⟨rfl, g10, rfl⟩))
    go_ret
    exact ⟨rfl, (by repeat (first | exact Gr.refl _ | apply Gr.drewN | apply Gr.drew | apply Gr.alloc | apply Gr.gro))⟩
set_option maxRecDepth 100000 in
set_option maxHeartbeats 8000000 in
theorem bytes_short (a : Nat) (s : ByteArray) (n : Int) (ha : a < M) (hs : s.size ≤ 72) (w : World) :
    Calls Try.prog 5 #[.agg (nw 9 a), .string s, .int .i64 n] w fun e w' => e = .returned (.bool true) ∧ Gr w w' := by
  obtain ⟨t, f, ok, C1, C2, hor⟩ := bytes_cases a n ha
  have C0 : Hid (∀ w, Calls Try.prog 14 #[.agg (nw 9 a)] w (Nm a w)) := fun w => from_any a ha w
  obtain ⟨x, hx⟩ : ∃ x, bn s.data.toList = x := ⟨_, rfl⟩
  have E1 : Hid (∀ w, Calls Try.prog 37 #[.string s] w fun e w' => e = .returned (.tuple #[.agg (nw 9 x), .int .i64 0]) ∧ Gr w w') := fun w => by rw [← hx]; exact of_any s hs w
  have F1 : Hid (∀ w, Calls Try.prog 40 #[.string s] w (Nm x w)) := fun w => by rw [← hx]; exact rread_any s hs w
  have F2 : Hid (∀ w p n, Sl w p x → Calls Try.prog 21 #[.slice p (dl x) n] w fun e w' => e = .returned (.agg (nw 9 x)) ∧ Gr w w') := fun w p n h => rnat_any x n p w h
  have F0 : Hid (∀ w, Calls Try.prog 35 #[.int .i64 0] w fun e w' => e = .returned (.int .i64 0) ∧ Gr w w') := fun w => (num_any _ _).mono fun e w' ⟨he, hw⟩ => ⟨he, hw ▸ Gr.refl _⟩
  have s1 : ¬ (72 : Int) < (s.size : Int) := by omega
  clear ha hs hx
  obtain ⟨rfl, rfl⟩ | ⟨rfl, rfl⟩ := hor
  all_goals
    go_enter Try.func5, Try.ntmps5
    go_wp2_with (first
      | (go_at_call 37; refine (E1.out _).mono ?_; rintro e w' ⟨rfl, g0, rfl⟩)
      | (go_at_call 38; refine (C1.out _).mono ?_; rintro e w' ⟨rfl, g1, rfl⟩)
      | (go_at_call 14; refine (C0.out _).mono ?_; rintro e w' ⟨pa, na, rfl, Sa, g2, rfl⟩)
      | (go_at_call 39; refine (C2.out _ _ _ Sa).mono ?_; rintro e w' ⟨rfl, g3, rfl⟩)
      | (go_at_call 35; refine (num_any _ _).mono ?_; rintro e w' ⟨rfl, rfl⟩)
      | (go_at_call 27; refine (awake_any _).mono ?_; rintro e w' ⟨rfl, g10, rfl⟩))
    refine wp_region_pred (by kernel_rfl) (by kernel_rfl) [.c (.int .i64 0), .c (.int .i64 0), .c (.bool true), .c (.bool true), .c (.agg (nw 9 x)), .c (.string s), .n (x), .c (.agg (nw 9 x)), .c (.bool true), .c (.bool true), .c (.bool true), .c (.bool true), .c (.bool true), .c (.bool true)] ?hs ?hf
    case hs =>
      intro listed vals a1 v2 i o hg hR hF ho hd
      have hbx : blk v2 (w.heap.size + 1 + g0.os.length) = nw 9 x := (hg.blk (w.heap.size + 1 + g0.os.length) (by simp [go_sem] <;> omega)).trans (by simp [go_sem])
      have phbx : Pre (w.heap.size + 1 + g0.os.length + 1) v2.heap.size := Nat.le_trans (show w.heap.size + 1 + g0.os.length + 1 ≤ _ by simp [go_sem] <;> omega) hg.below.size
      have hi : i < 14 := by simpa using (Array.getElem?_eq_some_iff.1 ho).1
      obtain rfl | rfl | rfl | rfl | rfl | rfl | rfl | rfl | rfl | rfl | rfl | rfl | rfl | rfl : i = 0 ∨ i = 1 ∨ i = 2 ∨ i = 3 ∨ i = 4 ∨ i = 5 ∨ i = 6 ∨ i = 7 ∨ i = 8 ∨ i = 9 ∨ i = 10 ∨ i = 11 ∨ i = 12 ∨ i = 13 := by omega
      · obtain rfl := Option.some.inj ho
        have f0 := hF.old (s := 8) (v := .int .i64 0) (by kernel_rfl) rfl
        refine Or.inl ⟨wanted_no rfl, ?_⟩
        exact wp_val (.int .i64 0) (by simp [go_sem, f0]) ⟨_, rfl, Gr.refl _, rfl⟩
      · obtain rfl := Option.some.inj ho
        have l0 := on_of hd 0 (by kernel_rfl)
        have f0 := hF.at (s := 64) (i := 0) (by kernel_rfl) (by simp) l0
        rw [show vals 0 = .int .i64 0 from hR 0 l0] at f0
        refine Or.inl ⟨wanted_no rfl, ?_⟩
        exact wp_ret (.int .i64 0) (by simp [go_sem, f0]) (F0.out _) (fun w2 hg2 => ⟨_, rfl, hg2, rfl⟩)
      · obtain rfl := Option.some.inj ho
        have l0 := on_of hd 1 (by kernel_rfl)
        have f0 := hF.at (s := 65) (i := 1) (by kernel_rfl) (by simp) l0
        rw [show vals 1 = .int .i64 0 from hR 1 l0] at f0
        refine Or.inl ⟨wanted_no rfl, ?_⟩
        exact wp_val (.bool true) (by simp [go_sem, f0]) ⟨_, rfl, Gr.refl _, rfl⟩
      · obtain rfl := Option.some.inj ho
        have l0 := on_of hd 2 (by kernel_rfl)
        have f0 := hF.at (s := 66) (i := 2) (by kernel_rfl) (by simp) l0
        rw [show vals 2 = .bool true from hR 2 l0] at f0
        refine Or.inl ⟨wanted_no rfl, ?_⟩
        exact wp_val (.bool true) (by simp [go_sem, f0]) ⟨_, rfl, Gr.refl _, rfl⟩
      · obtain rfl := Option.some.inj ho
        have lg := on_of hd 3 (by kernel_rfl)
        have fg := hF.at (s := 67) (i := 3) (by kernel_rfl) (by simp) lg
        rw [show vals 3 = .bool true from hR 3 lg] at fg
        have f0 := hF.old (s := 7) (v := .pointer (some ⟨w.heap.size + 1 + g0.os.length, 0, none⟩)) (by kernel_rfl) rfl
        refine Or.inl ⟨wanted_at (j := 3) (s := 67) rfl rfl rfl fg, ?_⟩
        exact wp_val (.agg (nw 9 x)) (by simp [go_sem, f0, hbx]) ⟨_, rfl, Gr.refl _, rfl⟩
      · obtain rfl := Option.some.inj ho
        have lg := on_of hd 3 (by kernel_rfl)
        have fg := hF.at (s := 67) (i := 3) (by kernel_rfl) (by simp) lg
        rw [show vals 3 = .bool true from hR 3 lg] at fg
        have f0 := hF.old (s := 1) (v := .string s) (by kernel_rfl) rfl
        refine Or.inl ⟨wanted_at (j := 3) (s := 67) rfl rfl rfl fg, ?_⟩
        exact wp_val (.string s) (by simp [go_sem, f0]) ⟨_, rfl, Gr.refl _, rfl⟩
      · obtain rfl := Option.some.inj ho
        have lg := on_of hd 3 (by kernel_rfl)
        have fg := hF.at (s := 67) (i := 3) (by kernel_rfl) (by simp) lg
        rw [show vals 3 = .bool true from hR 3 lg] at fg
        have l0 := on_of hd 5 (by kernel_rfl)
        have f0 := hF.at (s := 69) (i := 5) (by kernel_rfl) (by simp) l0
        rw [show vals 5 = .string s from hR 5 l0] at f0
        refine Or.inl ⟨wanted_at (j := 3) (s := 67) rfl rfl rfl fg, ?_⟩
        exact wp_retN (by simp [go_sem, f0]) (F1.out _) (fun p n w2 hS hg2 => ⟨_, rfl, hg2, p, n, rfl, hS⟩)
      · obtain rfl := Option.some.inj ho
        have lg := on_of hd 3 (by kernel_rfl)
        have fg := hF.at (s := 67) (i := 3) (by kernel_rfl) (by simp) lg
        rw [show vals 3 = .bool true from hR 3 lg] at fg
        have l0 := on_of hd 6 (by kernel_rfl)
        have f0 := hF.at (s := 70) (i := 6) (by kernel_rfl) (by simp) l0
        obtain ⟨p0, n0, e0, S0⟩ := (show ∃ p n, vals 6 = Value.slice p (dl (x)) n ∧ Sl v2 p (x) from hR 6 l0)
        rw [e0] at f0
        refine Or.inl ⟨wanted_at (j := 3) (s := 67) rfl rfl rfl fg, ?_⟩
        exact wp_ret (.agg (nw 9 x)) (by simp [go_sem, f0]) (F2.out _ _ n0 S0) (fun w2 hg2 => ⟨_, rfl, hg2, rfl⟩)
      · obtain rfl := Option.some.inj ho
        have lg := on_of hd 3 (by kernel_rfl)
        have fg := hF.at (s := 67) (i := 3) (by kernel_rfl) (by simp) lg
        rw [show vals 3 = .bool true from hR 3 lg] at fg
        have l0 := on_of hd 4 (by kernel_rfl)
        have f0 := hF.at (s := 68) (i := 4) (by kernel_rfl) (by simp) l0
        rw [show vals 4 = .agg (nw 9 x) from hR 4 l0] at f0
        have l1 := on_of hd 7 (by kernel_rfl)
        have f1 := hF.at (s := 71) (i := 7) (by kernel_rfl) (by simp) l1
        rw [show vals 7 = .agg (nw 9 x) from hR 7 l1] at f1
        refine Or.inl ⟨wanted_at (j := 3) (s := 67) rfl rfl rfl fg, ?_⟩
        exact wp_val (.bool true) (by simp [go_sem, f0, f1]) ⟨_, rfl, Gr.refl _, rfl⟩
      · obtain rfl := Option.some.inj ho
        have l0 := on_of hd 3 (by kernel_rfl)
        have f0 := hF.at (s := 67) (i := 3) (by kernel_rfl) (by simp) l0
        rw [show vals 3 = .bool true from hR 3 l0] at f0
        have l1 := on_of hd 8 (by kernel_rfl)
        have f1 := hF.at (s := 72) (i := 8) (by kernel_rfl) (by simp) l1
        rw [show vals 8 = .bool true from hR 8 l1] at f1
        refine Or.inl ⟨wanted_no rfl, ?_⟩
        exact wp_val (.bool true) (by simp [go_sem, f0, f1]) ⟨_, rfl, Gr.refl _, rfl⟩
      · obtain rfl := Option.some.inj ho
        have l0 := on_of hd 9 (by kernel_rfl)
        have f0 := hF.at (s := 73) (i := 9) (by kernel_rfl) (by simp) l0
        rw [show vals 9 = .bool true from hR 9 l0] at f0
        refine Or.inl ⟨wanted_no rfl, ?_⟩
        exact wp_val (.bool true) (by simp [go_sem, f0]) ⟨_, rfl, Gr.refl _, rfl⟩
      · obtain rfl := Option.some.inj ho
        have lg := on_of hd 10 (by kernel_rfl)
        have fg := hF.at (s := 74) (i := 10) (by kernel_rfl) (by simp) lg
        rw [show vals 10 = .bool true from hR 10 lg] at fg
        refine Or.inl ⟨wanted_at (j := 10) (s := 74) rfl rfl rfl fg, ?_⟩
        exact wp_ret (.bool true) (by simp [go_sem]) (awake_any _) (fun w2 hg2 => ⟨_, rfl, hg2, rfl⟩)
      · obtain rfl := Option.some.inj ho
        have l0 := on_of hd 10 (by kernel_rfl)
        have f0 := hF.at (s := 74) (i := 10) (by kernel_rfl) (by simp) l0
        rw [show vals 10 = .bool true from hR 10 l0] at f0
        have l1 := on_of hd 11 (by kernel_rfl)
        have f1 := hF.at (s := 75) (i := 11) (by kernel_rfl) (by simp) l1
        rw [show vals 11 = .bool true from hR 11 l1] at f1
        refine Or.inl ⟨wanted_no rfl, ?_⟩
        exact wp_val (.bool true) (by simp [go_sem, f0, f1]) ⟨_, rfl, Gr.refl _, rfl⟩
      · obtain rfl := Option.some.inj ho
        have l0 := on_of hd 12 (by kernel_rfl)
        have f0 := hF.at (s := 76) (i := 12) (by kernel_rfl) (by simp) l0
        rw [show vals 12 = .bool true from hR 12 l0] at f0
        refine Or.inl ⟨wanted_no rfl, ?_⟩
        exact wp_val (.bool true) (by simp [go_sem, f0]) ⟨_, rfl, Gr.refl _, rfl⟩
    case hf =>
      intro vals v2 hg hR
      have hbx : blk v2 (w.heap.size + 1 + g0.os.length) = nw 9 x := (hg.blk (w.heap.size + 1 + g0.os.length) (by simp [go_sem] <;> omega)).trans (by simp [go_sem])
      have phbx : Pre (w.heap.size + 1 + g0.os.length + 1) v2.heap.size := Nat.le_trans (show w.heap.size + 1 + g0.os.length + 1 ≤ _ by simp [go_sem] <;> omega) hg.below.size
      have x0 : vals 0 = .int .i64 0 := hR 0 (by simp)
      have x1 : vals 1 = .int .i64 0 := hR 1 (by simp)
      have x2 : vals 2 = .bool true := hR 2 (by simp)
      have x3 : vals 3 = .bool true := hR 3 (by simp)
      have x4 : vals 4 = .agg (nw 9 x) := hR 4 (by simp)
      have x5 : vals 5 = .string s := hR 5 (by simp)
      obtain ⟨p6, n6, x6, S6⟩ := (show ∃ p n, vals 6 = Value.slice p (dl (x)) n ∧ Sl v2 p (x) from hR 6 (by simp))
      have x7 : vals 7 = .agg (nw 9 x) := hR 7 (by simp)
      have x8 : vals 8 = .bool true := hR 8 (by simp)
      have x9 : vals 9 = .bool true := hR 9 (by simp)
      have x10 : vals 10 = .bool true := hR 10 (by simp)
      have x11 : vals 11 = .bool true := hR 11 (by simp)
      have x12 : vals 12 = .bool true := hR 12 (by simp)
      have x13 : vals 13 = .bool true := hR 13 (by simp)
      simp only [putFrom, Act.put, List.setIfInBounds_toArray, List.set_cons_zero, List.set_cons_succ, x0, x1, x2, x3, x4, x5, x6, x7, x8, x9, x10, x11, x12, x13]
      clear hR x0 x1 x2 x3 x4 x5 x6 x7 x8 x9 x10 x11 x12 x13
      go_wp2
      go_ret
      refine ⟨rfl, Gr.trans ?_ hg⟩
      exact (by repeat (first | exact Gr.refl _ | apply Gr.drewN | apply Gr.drew | apply Gr.alloc | apply Gr.gro))
theorem bytesl_any (a : Nat) (s : ByteArray) (n : Int) (ha : a < M) (w : World) :
    Calls Try.prog 5 #[.agg (nw 9 a), .string s, .int .i64 n] w fun e w' => e = .returned (.bool true) ∧ Gr w w' := by
  by_cases hs : 72 < s.size
  · exact bytes_long a s n ha hs w
  · exact bytes_short a s n ha (by omega) w

end Go.Proofs.Ytjgpecdhlgdjoaa
