/-
  The statement NatBits, walked: it answers true for every number and every two ints.
-/
import Derived.Test.YtjgpecdhlgdjoaaMixP
import Derived.Test.YtjgpecdhlgdjoaaRFrom
import Derived.Test.YtjgpecdhlgdjoaaRBits
import Derived.Test.YtjgpecdhlgdjoaaRBit
import Derived.Test.YtjgpecdhlgdjoaaRShl
import Derived.Test.YtjgpecdhlgdjoaaRShr
import Derived.Test.YtjgpecdhlgdjoaaShl
import Derived.Test.YtjgpecdhlgdjoaaShr
import Derived.Test.YtjgpecdhlgdjoaaAwake
import Derived.Test.YtjgpecdhlgdjoaaEq
import Derived.Test.YtjgpecdhlgdjoaaQt
namespace Go.Proofs.Ytjgpecdhlgdjoaa
open Go.RowKit
attribute [local go_sem ↓] loadNat_is loadArr_is loadWide_is loadArrW_is storeNat_is storeWide_is
attribute [local go_sem] loadNat loadArr loadWide loadArrW storeNat storeWide idxArr fold9 fold18 nw_size nw_elem pre_self pre_1 pre_2 pre_3 pre_4 pre_5 pre_6 pre_7 pre_8 pre_9 pre_10 pre_11 pre_12 pre_13 pre_14 pre_15 pre_16 pre_17 pre_18 pre_19 pre_20 pre_21 pre_22 pre_23 pre_24 pre_25 pre_26 pre_27 pre_28 pre_29 pre_30 pre_31 pre_32 pre_33 pre_34 pre_35 pre_36 pre_37 pre_38 pre_39 pre_40 gro_size gro_drew gro_drewN drew_gro drewN_gro blk_gro frz_gro blk_drew frz_drew blk_drewN frz_drewN blk_alloc_at frz_alloc_at blk_alloc frz_alloc cell_gro frozen_gro cell_alloc_pre frozen_alloc_pre setCell_drewN alloc_drewN setBlk_drew setBlk_drewN setBlk_alloc_at setBlk_alloc setBlk_gro setCell_gro setCell_alloc_pre size_setBlk size_setCell
attribute [local go_sem] nw_ext9 nw_ext18 eqArr9 eqArr18 all_grow

attribute [local go_sem] loadNat2 loadArr2 loadWide2 loadK_nw ppre_1 ppre_2 ppre_3 ppre_4 ppre_5 ppre_6 ppre_7 ppre_8 ppre_9 ppre_10 ppre_11 ppre_12 ppre_13 ppre_14 ppre_15 ppre_16 ppre_17 ppre_18 ppre_19 ppre_20

attribute [local go_sem] eqN_self
theorem dl_M1 (a : Nat) (h : a < M) : dl a ≤ 18 := (dl_le a 18).2 (by rw [pq_M]; exact h)
/-- What is known of bit i, wherever i lies. -/
theorem bit_cases (a : Nat) (i : Int) : ∃ B : Int, Hid (∀ w, Calls Try.prog 32 #[.agg (nw 9 a), .int .i64 i] w fun e w' => e = .returned (.int .i64 B) ∧ Gr w w') ∧
    ((i < 0 ∧ B = 0) ∨ (¬ i < 576 ∧ 0 ≤ i ∧ B = 0) ∨ (0 ≤ i ∧ i < 576 ∧ Hid (∀ w p n, Sl w p a → Calls Try.prog 30 #[.slice p (dl a) n, .int .i64 i] w fun e w' => e = .returned (.int .i64 B) ∧ Gr w w'))) := by
  by_cases h0 : i < 0
  · exact ⟨0, fun w => bit_no a i (Or.inl h0) w, Or.inl ⟨h0, rfl⟩⟩
  · by_cases h1 : i < 576
    · obtain ⟨I, rfl⟩ := Int.eq_ofNat_of_zero_le (show 0 ≤ i by omega)
      exact ⟨_, fun w => bit_any a I (by omega) w, Or.inr (Or.inr ⟨by omega, h1, fun w p n h => (rbit_any a n I p w h (by omega)).mono fun e w' ⟨he, hw⟩ => ⟨he, hw ▸ Gr.refl _⟩⟩)⟩
    · exact ⟨0, fun w => bit_no a i (Or.inr (by omega)) w, Or.inr (Or.inl ⟨h1, by omega, rfl⟩)⟩
set_option maxRecDepth 100000 in
set_option maxHeartbeats 4000000 in
theorem bits_out (a : Nat) (i k : Int) (ha : a < M) (hi : i ≤ 9223372036854775807) (hk : k < 0 ∨ 576 < k) (w : World) :
    Calls Try.prog 4 #[.agg (nw 9 a), .int .i64 i, .int .i64 k] w fun e w' => e = .returned (.bool true) ∧ Gr w w' := by
  obtain ⟨B, C1, hor⟩ := bit_cases a i
  have la := dl_M1 a ha
  obtain ⟨L, hL⟩ : ∃ L : Int, ((bl a : Nat) : Int) = L := ⟨_, rfl⟩
  obtain ⟨s, hs⟩ : ∃ s, i.toNat = s := ⟨_, rfl⟩
  have C0 : Hid (∀ w, Calls Try.prog 14 #[.agg (nw 9 a)] w (Nm a w)) := fun w => from_any a ha w
  have C2 : Hid (∀ w, Calls Try.prog 31 #[.agg (nw 9 a)] w fun e w' => e = .returned (.int .i64 L) ∧ Gr w w') := fun w => by rw [← hL]; exact bits_any a ha w
  have C3 : Hid (∀ w p n, Sl w p a → Calls Try.prog 22 #[.slice p (dl a) n] w fun e w' => e = .returned (.int .i64 L) ∧ Gr w w') := fun w p n h => by rw [← hL]; exact (rbits_any a n p w h (by omega)).mono fun e w' ⟨he, hw⟩ => ⟨he, hw ▸ Gr.refl _⟩
  have C4 : Hid (∀ w, Calls Try.prog 33 #[.int .i64 i] w fun e w' => e = .returned (.agg (nw 9 s)) ∧ Gr w w') := fun w => by rw [← hs]; exact small_any i hi w
  have C5 : Hid (∀ w, Calls Try.prog 34 #[.int .i64 i] w (Nm s w)) := fun w => by rw [← hs]; exact rsmall_any i hi w
  have C6 : Hid (∀ w p n, Sl w p s → Calls Try.prog 21 #[.slice p (dl s) n] w fun e w' => e = .returned (.agg (nw 9 s)) ∧ Gr w w') := fun w p n h => rnat_any s n p w h
  have E1 : Hid (∀ w, Calls Try.prog 28 #[.agg (nw 9 a), .int .i64 k] w fun e w' => e = .returned (.tuple #[.agg (nw 9 0), .int .i64 102]) ∧ Gr w w') := fun w => shl_no a k hk w
  have E2 : Hid (∀ w, Calls Try.prog 29 #[.agg (nw 9 a), .int .i64 k] w fun e w' => e = .returned (.tuple #[.agg (nw 9 0), .int .i64 102]) ∧ Gr w w') := fun w => shr_no a k hk w
  have hk2 : k < 0 ∨ (¬ k < 0 ∧ 576 < k) := by omega
  clear ha hi la hL hs hk
  obtain ⟨h1, rfl⟩ | ⟨h1, h2, rfl⟩ | ⟨h1, h2, hbit⟩ := hor
  all_goals obtain hk3 | ⟨hk3, hk4⟩ := hk2
  all_goals
    go_enter Try.func4, Try.ntmps4
    go_wp2_with (first
      | (go_at_call 14; refine (C0.out _).mono ?_; rintro e w' ⟨pa, na, rfl, Sa, g0, rfl⟩)
      | (go_at_call 28; refine (E1.out _).mono ?_; rintro e w' ⟨rfl, g1, rfl⟩)
      | (go_at_call 29; refine (E2.out _).mono ?_; rintro e w' ⟨rfl, g2, rfl⟩)
      | (go_at_call 30; refine (hbit.out _ _ _ (Sa.gr ?_)).mono ?_; exact (by repeat (first | exact Gr.refl _ | apply Gr.drewN | apply Gr.drew | apply Gr.alloc | apply Gr.gro)); rintro e w' ⟨rfl, g3, rfl⟩)
      | (go_at_call 31; refine (C2.out _).mono ?_; rintro e w' ⟨rfl, g4, rfl⟩)
      | (go_at_call 22; refine (C3.out _ _ _ (Sa.gr ?_)).mono ?_; exact (by repeat (first | exact Gr.refl _ | apply Gr.drewN | apply Gr.drew | apply Gr.alloc | apply Gr.gro)); rintro e w' ⟨rfl, g5, rfl⟩)
      | (go_at_call 32; refine (C1.out _).mono ?_; rintro e w' ⟨rfl, g6, rfl⟩)
      | (go_at_call 33; refine (C4.out _).mono ?_; rintro e w' ⟨rfl, g7, rfl⟩)
      | (go_at_call 34; refine (C5.out _).mono ?_; rintro e w' ⟨ps, ns, rfl, Ss, g8, rfl⟩)
      | (go_at_call 21; refine (C6.out _ _ _ Ss).mono ?_; rintro e w' ⟨rfl, g9, rfl⟩)
      | (go_at_call 35; refine (num_any _ _).mono ?_; rintro e w' ⟨rfl, rfl⟩)
      | (go_at_call 27; refine (awake_any _).mono ?_; rintro e w' ⟨rfl, g10, rfl⟩))
    go_ret
    exact ⟨rfl, (by repeat (first | exact Gr.refl _ | apply Gr.drewN | apply Gr.drew | apply Gr.alloc | apply Gr.gro))⟩
set_option maxRecDepth 100000 in
set_option maxHeartbeats 8000000 in
theorem bits_in (a k : Nat) (i : Int) (ha : a < M) (hi : i ≤ 9223372036854775807) (hk : k ≤ 576) (w : World) :
    Calls Try.prog 4 #[.agg (nw 9 a), .int .i64 i, .int .i64 (k : Int)] w fun e w' => e = .returned (.bool true) ∧ Gr w w' := by
  obtain ⟨B, C1, hor⟩ := bit_cases a i
  have la := dl_M1 a ha
  obtain ⟨L, hL⟩ : ∃ L : Int, ((bl a : Nat) : Int) = L := ⟨_, rfl⟩
  obtain ⟨s, hs⟩ : ∃ s, i.toNat = s := ⟨_, rfl⟩
  have C0 : Hid (∀ w, Calls Try.prog 14 #[.agg (nw 9 a)] w (Nm a w)) := fun w => from_any a ha w
  have C2 : Hid (∀ w, Calls Try.prog 31 #[.agg (nw 9 a)] w fun e w' => e = .returned (.int .i64 L) ∧ Gr w w') := fun w => by rw [← hL]; exact bits_any a ha w
  have C3 : Hid (∀ w p n, Sl w p a → Calls Try.prog 22 #[.slice p (dl a) n] w fun e w' => e = .returned (.int .i64 L) ∧ Gr w w') := fun w p n h => by rw [← hL]; exact (rbits_any a n p w h (by omega)).mono fun e w' ⟨he, hw⟩ => ⟨he, hw ▸ Gr.refl _⟩
  have C4 : Hid (∀ w, Calls Try.prog 33 #[.int .i64 i] w fun e w' => e = .returned (.agg (nw 9 s)) ∧ Gr w w') := fun w => by rw [← hs]; exact small_any i hi w
  have C5 : Hid (∀ w, Calls Try.prog 34 #[.int .i64 i] w (Nm s w)) := fun w => by rw [← hs]; exact rsmall_any i hi w
  have C6 : Hid (∀ w p n, Sl w p s → Calls Try.prog 21 #[.slice p (dl s) n] w fun e w' => e = .returned (.agg (nw 9 s)) ∧ Gr w w') := fun w p n h => rnat_any s n p w h
  obtain ⟨P, hP⟩ : ∃ P, a * 2 ^ k % M = P := ⟨_, rfl⟩
  obtain ⟨Q, hQ⟩ : ∃ Q, a / 2 ^ k = Q := ⟨_, rfl⟩
  obtain ⟨y, hy⟩ : ∃ y, a * 2 ^ k = y := ⟨_, rfl⟩
  have E1 : Hid (∀ w, Calls Try.prog 28 #[.agg (nw 9 a), .int .i64 (k : Int)] w fun e w' => e = .returned (.tuple #[.agg (nw 9 P), .int .i64 0]) ∧ Gr w w') := fun w => by rw [← hP]; exact shl_any a k hk w
  have E2 : Hid (∀ w, Calls Try.prog 29 #[.agg (nw 9 a), .int .i64 (k : Int)] w fun e w' => e = .returned (.tuple #[.agg (nw 9 Q), .int .i64 0]) ∧ Gr w w') := fun w => by rw [← hQ]; exact shr_any a k ha hk w
  have F1 : Hid (∀ w p n, Sl w p a → Calls Try.prog 20 #[.slice p (dl a) n, .int .i64 (k : Int)] w (Nm y w)) := fun w p n h => by rw [← hy]; exact rshl_any a n k p w h (by omega) (by omega)
  have F2 : Hid (∀ w p n, Sl w p y → Calls Try.prog 21 #[.slice p (dl y) n] w fun e w' => e = .returned (.agg (nw 9 P)) ∧ Gr w w') := fun w p n h => by rw [← hP, hy, show nw 9 (y % M) = nw 9 y from nw_mod _ _]; exact rnat_any y n p w h
  have F3 : Hid (∀ w p n, Sl w p a → Calls Try.prog 36 #[.slice p (dl a) n, .int .i64 (k : Int)] w (Nm Q w)) := fun w p n h => by rw [← hQ]; exact rshr_any a n k p w h (by omega) (by omega)
  have F4 : Hid (∀ w p n, Sl w p Q → Calls Try.prog 21 #[.slice p (dl Q) n] w fun e w' => e = .returned (.agg (nw 9 Q)) ∧ Gr w w') := fun w p n h => rnat_any Q n p w h
  have F0 : Hid (∀ w, Calls Try.prog 35 #[.int .i64 0] w fun e w' => e = .returned (.int .i64 0) ∧ Gr w w') := fun w => (num_any _ _).mono fun e w' ⟨he, hw⟩ => ⟨he, hw ▸ Gr.refl _⟩
  have k0 : ¬ (k : Int) < 0 := by omega
  have k1 : ¬ 576 < (k : Int) := by omega
  clear ha hi la hL hs hk hP hQ hy
  obtain ⟨h1, rfl⟩ | ⟨h1, h2, rfl⟩ | ⟨h1, h2, hbit⟩ := hor
  all_goals
    go_enter Try.func4, Try.ntmps4
    go_wp2_with (first
      | (go_at_call 14; refine (C0.out _).mono ?_; rintro e w' ⟨pa, na, rfl, Sa, g0, rfl⟩)
      | (go_at_call 28; refine (E1.out _).mono ?_; rintro e w' ⟨rfl, g1, rfl⟩)
      | (go_at_call 29; refine (E2.out _).mono ?_; rintro e w' ⟨rfl, g2, rfl⟩)
      | (go_at_call 30; refine (hbit.out _ _ _ (Sa.gr ?_)).mono ?_; exact (by repeat (first | exact Gr.refl _ | apply Gr.drewN | apply Gr.drew | apply Gr.alloc | apply Gr.gro)); rintro e w' ⟨rfl, g3, rfl⟩)
      | (go_at_call 31; refine (C2.out _).mono ?_; rintro e w' ⟨rfl, g4, rfl⟩)
      | (go_at_call 22; refine (C3.out _ _ _ (Sa.gr ?_)).mono ?_; exact (by repeat (first | exact Gr.refl _ | apply Gr.drewN | apply Gr.drew | apply Gr.alloc | apply Gr.gro)); rintro e w' ⟨rfl, g5, rfl⟩)
      | (go_at_call 32; refine (C1.out _).mono ?_; rintro e w' ⟨rfl, g6, rfl⟩)
      | (go_at_call 33; refine (C4.out _).mono ?_; rintro e w' ⟨rfl, g7, rfl⟩)
      | (go_at_call 34; refine (C5.out _).mono ?_; rintro e w' ⟨ps, ns, rfl, Ss, g8, rfl⟩)
      | (go_at_call 21; refine (C6.out _ _ _ Ss).mono ?_; rintro e w' ⟨rfl, g9, rfl⟩)
      | (go_at_call 35; refine (num_any _ _).mono ?_; rintro e w' ⟨rfl, rfl⟩)
      | (go_at_call 27; refine (awake_any _).mono ?_; rintro e w' ⟨rfl, g10, rfl⟩))
    refine wp_region_pred (by kernel_rfl) (by kernel_rfl) [.c (.int .i64 0), .c (.int .i64 0), .c (.bool true), .c (.bool true), .c (.int .i64 0), .c (.int .i64 0), .c (.bool true), .c (.bool true), .c (.bool true), .c (.agg (nw 9 P)), .c (.slice pa (dl a) na), .c (.int .i64 (k : Int)), .n (y), .c (.agg (nw 9 P)), .c (.bool true), .c (.bool true), .c (.bool true), .c (.agg (nw 9 Q)), .c (.slice pa (dl a) na), .c (.int .i64 (k : Int)), .n (Q), .c (.agg (nw 9 Q)), .c (.bool true), .c (.bool true), .c (.bool true), .c (.bool true), .c (.bool true), .c (.bool true)] ?hs ?hf
    case hs =>
      intro listed vals a1 v2 i o hg hR hF ho hd
      have hbp : blk v2 (w.heap.size + 1 + g0.os.length + g1.os.length) = nw 9 P := (hg.blk (w.heap.size + 1 + g0.os.length + g1.os.length) (by simp [go_sem] <;> omega)).trans (by simp [go_sem])
      have phbp : Pre (w.heap.size + 1 + g0.os.length + g1.os.length + 1) v2.heap.size := Nat.le_trans (show w.heap.size + 1 + g0.os.length + g1.os.length + 1 ≤ _ by simp [go_sem] <;> omega) hg.below.size
      have hbq : blk v2 (w.heap.size + 1 + g0.os.length + g1.os.length + 1 + g2.os.length) = nw 9 Q := (hg.blk (w.heap.size + 1 + g0.os.length + g1.os.length + 1 + g2.os.length) (by simp [go_sem] <;> omega)).trans (by simp [go_sem])
      have phbq : Pre (w.heap.size + 1 + g0.os.length + g1.os.length + 1 + g2.os.length + 1) v2.heap.size := Nat.le_trans (show w.heap.size + 1 + g0.os.length + g1.os.length + 1 + g2.os.length + 1 ≤ _ by simp [go_sem] <;> omega) hg.below.size
      have Ta : Sl v2 pa a := (Sa.gr (by repeat (first | exact Gr.refl _ | apply Gr.drewN | apply Gr.drew | apply Gr.alloc | apply Gr.gro))).gr hg
      have hi : i < 28 := by simpa using (Array.getElem?_eq_some_iff.1 ho).1
      obtain rfl | rfl | rfl | rfl | rfl | rfl | rfl | rfl | rfl | rfl | rfl | rfl | rfl | rfl | rfl | rfl | rfl | rfl | rfl | rfl | rfl | rfl | rfl | rfl | rfl | rfl | rfl | rfl : i = 0 ∨ i = 1 ∨ i = 2 ∨ i = 3 ∨ i = 4 ∨ i = 5 ∨ i = 6 ∨ i = 7 ∨ i = 8 ∨ i = 9 ∨ i = 10 ∨ i = 11 ∨ i = 12 ∨ i = 13 ∨ i = 14 ∨ i = 15 ∨ i = 16 ∨ i = 17 ∨ i = 18 ∨ i = 19 ∨ i = 20 ∨ i = 21 ∨ i = 22 ∨ i = 23 ∨ i = 24 ∨ i = 25 ∨ i = 26 ∨ i = 27 := by omega
      · obtain rfl := Option.some.inj ho
        have f0 := hF.old (s := 9) (v := .int .i64 0) (by kernel_rfl) rfl
        refine Or.inl ⟨wanted_no rfl, ?_⟩
        exact wp_val (.int .i64 0) (by simp [go_sem, f0]) ⟨_, rfl, Gr.refl _, rfl⟩
      · obtain rfl := Option.some.inj ho
        have l0 := on_of hd 0 (by kernel_rfl)
        have f0 := hF.at (s := 83) (i := 0) (by kernel_rfl) (by simp) l0
        rw [show vals 0 = .int .i64 0 from hR 0 l0] at f0
        refine Or.inl ⟨wanted_no rfl, ?_⟩
        exact wp_ret (.int .i64 0) (by simp [go_sem, f0]) (F0.out _) (fun w2 hg2 => ⟨_, rfl, hg2, rfl⟩)
      · obtain rfl := Option.some.inj ho
        have l0 := on_of hd 1 (by kernel_rfl)
        have f0 := hF.at (s := 84) (i := 1) (by kernel_rfl) (by simp) l0
        rw [show vals 1 = .int .i64 0 from hR 1 l0] at f0
        refine Or.inl ⟨wanted_no rfl, ?_⟩
        exact wp_val (.bool true) (by simp [go_sem, f0]) ⟨_, rfl, Gr.refl _, rfl⟩
      · obtain rfl := Option.some.inj ho
        have l0 := on_of hd 2 (by kernel_rfl)
        have f0 := hF.at (s := 85) (i := 2) (by kernel_rfl) (by simp) l0
        rw [show vals 2 = .bool true from hR 2 l0] at f0
        refine Or.inl ⟨wanted_no rfl, ?_⟩
        exact wp_val (.bool true) (by simp [go_sem, f0]) ⟨_, rfl, Gr.refl _, rfl⟩
      · obtain rfl := Option.some.inj ho
        have lg := on_of hd 3 (by kernel_rfl)
        have fg := hF.at (s := 86) (i := 3) (by kernel_rfl) (by simp) lg
        rw [show vals 3 = .bool true from hR 3 lg] at fg
        have f0 := hF.old (s := 11) (v := .int .i64 0) (by kernel_rfl) rfl
        refine Or.inl ⟨wanted_at (j := 3) (s := 86) rfl rfl rfl fg, ?_⟩
        exact wp_val (.int .i64 0) (by simp [go_sem, f0]) ⟨_, rfl, Gr.refl _, rfl⟩
      · obtain rfl := Option.some.inj ho
        have lg := on_of hd 3 (by kernel_rfl)
        have fg := hF.at (s := 86) (i := 3) (by kernel_rfl) (by simp) lg
        rw [show vals 3 = .bool true from hR 3 lg] at fg
        have l0 := on_of hd 4 (by kernel_rfl)
        have f0 := hF.at (s := 87) (i := 4) (by kernel_rfl) (by simp) l0
        rw [show vals 4 = .int .i64 0 from hR 4 l0] at f0
        refine Or.inl ⟨wanted_at (j := 3) (s := 86) rfl rfl rfl fg, ?_⟩
        exact wp_ret (.int .i64 0) (by simp [go_sem, f0]) (F0.out _) (fun w2 hg2 => ⟨_, rfl, hg2, rfl⟩)
      · obtain rfl := Option.some.inj ho
        have lg := on_of hd 3 (by kernel_rfl)
        have fg := hF.at (s := 86) (i := 3) (by kernel_rfl) (by simp) lg
        rw [show vals 3 = .bool true from hR 3 lg] at fg
        have l0 := on_of hd 5 (by kernel_rfl)
        have f0 := hF.at (s := 88) (i := 5) (by kernel_rfl) (by simp) l0
        rw [show vals 5 = .int .i64 0 from hR 5 l0] at f0
        refine Or.inl ⟨wanted_at (j := 3) (s := 86) rfl rfl rfl fg, ?_⟩
        exact wp_val (.bool true) (by simp [go_sem, f0]) ⟨_, rfl, Gr.refl _, rfl⟩
      · obtain rfl := Option.some.inj ho
        have l0 := on_of hd 3 (by kernel_rfl)
        have f0 := hF.at (s := 86) (i := 3) (by kernel_rfl) (by simp) l0
        rw [show vals 3 = .bool true from hR 3 l0] at f0
        have l1 := on_of hd 6 (by kernel_rfl)
        have f1 := hF.at (s := 89) (i := 6) (by kernel_rfl) (by simp) l1
        rw [show vals 6 = .bool true from hR 6 l1] at f1
        refine Or.inl ⟨wanted_no rfl, ?_⟩
        exact wp_val (.bool true) (by simp [go_sem, f0, f1]) ⟨_, rfl, Gr.refl _, rfl⟩
      · obtain rfl := Option.some.inj ho
        have l0 := on_of hd 7 (by kernel_rfl)
        have f0 := hF.at (s := 90) (i := 7) (by kernel_rfl) (by simp) l0
        rw [show vals 7 = .bool true from hR 7 l0] at f0
        refine Or.inl ⟨wanted_no rfl, ?_⟩
        exact wp_val (.bool true) (by simp [go_sem, f0]) ⟨_, rfl, Gr.refl _, rfl⟩
      · obtain rfl := Option.some.inj ho
        have lg := on_of hd 8 (by kernel_rfl)
        have fg := hF.at (s := 91) (i := 8) (by kernel_rfl) (by simp) lg
        rw [show vals 8 = .bool true from hR 8 lg] at fg
        have f0 := hF.old (s := 8) (v := .pointer (some ⟨w.heap.size + 1 + g0.os.length + g1.os.length, 0, none⟩)) (by kernel_rfl) rfl
        refine Or.inl ⟨wanted_at (j := 8) (s := 91) rfl rfl rfl fg, ?_⟩
        exact wp_val (.agg (nw 9 P)) (by simp [go_sem, f0, hbp]) ⟨_, rfl, Gr.refl _, rfl⟩
      · obtain rfl := Option.some.inj ho
        have lg := on_of hd 8 (by kernel_rfl)
        have fg := hF.at (s := 91) (i := 8) (by kernel_rfl) (by simp) lg
        rw [show vals 8 = .bool true from hR 8 lg] at fg
        have f0 := hF.old (s := 7) (v := .slice pa (dl a) na) (by kernel_rfl) rfl
        refine Or.inl ⟨wanted_at (j := 8) (s := 91) rfl rfl rfl fg, ?_⟩
        exact wp_val (.slice pa (dl a) na) (by simp [go_sem, f0]) ⟨_, rfl, Gr.refl _, rfl⟩
      · obtain rfl := Option.some.inj ho
        have lg := on_of hd 8 (by kernel_rfl)
        have fg := hF.at (s := 91) (i := 8) (by kernel_rfl) (by simp) lg
        rw [show vals 8 = .bool true from hR 8 lg] at fg
        have f0 := hF.old (s := 2) (v := .int .i64 (k : Int)) (by kernel_rfl) rfl
        refine Or.inl ⟨wanted_at (j := 8) (s := 91) rfl rfl rfl fg, ?_⟩
        exact wp_val (.int .i64 (k : Int)) (by simp [go_sem, f0]) ⟨_, rfl, Gr.refl _, rfl⟩
      · obtain rfl := Option.some.inj ho
        have lg := on_of hd 8 (by kernel_rfl)
        have fg := hF.at (s := 91) (i := 8) (by kernel_rfl) (by simp) lg
        rw [show vals 8 = .bool true from hR 8 lg] at fg
        have l0 := on_of hd 10 (by kernel_rfl)
        have f0 := hF.at (s := 93) (i := 10) (by kernel_rfl) (by simp) l0
        rw [show vals 10 = .slice pa (dl a) na from hR 10 l0] at f0
        have l1 := on_of hd 11 (by kernel_rfl)
        have f1 := hF.at (s := 94) (i := 11) (by kernel_rfl) (by simp) l1
        rw [show vals 11 = .int .i64 (k : Int) from hR 11 l1] at f1
        refine Or.inl ⟨wanted_at (j := 8) (s := 91) rfl rfl rfl fg, ?_⟩
        exact wp_retN (by simp [go_sem, f0, f1]) (F1.out _ _ na Ta) (fun p n w2 hS hg2 => ⟨_, rfl, hg2, p, n, rfl, hS⟩)
      · obtain rfl := Option.some.inj ho
        have lg := on_of hd 8 (by kernel_rfl)
        have fg := hF.at (s := 91) (i := 8) (by kernel_rfl) (by simp) lg
        rw [show vals 8 = .bool true from hR 8 lg] at fg
        have l0 := on_of hd 12 (by kernel_rfl)
        have f0 := hF.at (s := 95) (i := 12) (by kernel_rfl) (by simp) l0
        obtain ⟨p0, n0, e0, S0⟩ := (show ∃ p n, vals 12 = Value.slice p (dl (y)) n ∧ Sl v2 p (y) from hR 12 l0)
        rw [e0] at f0
        refine Or.inl ⟨wanted_at (j := 8) (s := 91) rfl rfl rfl fg, ?_⟩
        exact wp_ret (.agg (nw 9 P)) (by simp [go_sem, f0]) (F2.out _ _ n0 S0) (fun w2 hg2 => ⟨_, rfl, hg2, rfl⟩)
      · obtain rfl := Option.some.inj ho
        have lg := on_of hd 8 (by kernel_rfl)
        have fg := hF.at (s := 91) (i := 8) (by kernel_rfl) (by simp) lg
        rw [show vals 8 = .bool true from hR 8 lg] at fg
        have l0 := on_of hd 9 (by kernel_rfl)
        have f0 := hF.at (s := 92) (i := 9) (by kernel_rfl) (by simp) l0
        rw [show vals 9 = .agg (nw 9 P) from hR 9 l0] at f0
        have l1 := on_of hd 13 (by kernel_rfl)
        have f1 := hF.at (s := 96) (i := 13) (by kernel_rfl) (by simp) l1
        rw [show vals 13 = .agg (nw 9 P) from hR 13 l1] at f1
        refine Or.inl ⟨wanted_at (j := 8) (s := 91) rfl rfl rfl fg, ?_⟩
        exact wp_val (.bool true) (by simp [go_sem, f0, f1]) ⟨_, rfl, Gr.refl _, rfl⟩
      · obtain rfl := Option.some.inj ho
        have l0 := on_of hd 8 (by kernel_rfl)
        have f0 := hF.at (s := 91) (i := 8) (by kernel_rfl) (by simp) l0
        rw [show vals 8 = .bool true from hR 8 l0] at f0
        have l1 := on_of hd 14 (by kernel_rfl)
        have f1 := hF.at (s := 97) (i := 14) (by kernel_rfl) (by simp) l1
        rw [show vals 14 = .bool true from hR 14 l1] at f1
        refine Or.inl ⟨wanted_no rfl, ?_⟩
        exact wp_val (.bool true) (by simp [go_sem, f0, f1]) ⟨_, rfl, Gr.refl _, rfl⟩
      · obtain rfl := Option.some.inj ho
        have l0 := on_of hd 15 (by kernel_rfl)
        have f0 := hF.at (s := 98) (i := 15) (by kernel_rfl) (by simp) l0
        rw [show vals 15 = .bool true from hR 15 l0] at f0
        refine Or.inl ⟨wanted_no rfl, ?_⟩
        exact wp_val (.bool true) (by simp [go_sem, f0]) ⟨_, rfl, Gr.refl _, rfl⟩
      · obtain rfl := Option.some.inj ho
        have lg := on_of hd 16 (by kernel_rfl)
        have fg := hF.at (s := 99) (i := 16) (by kernel_rfl) (by simp) lg
        rw [show vals 16 = .bool true from hR 16 lg] at fg
        have f0 := hF.old (s := 10) (v := .pointer (some ⟨w.heap.size + 1 + g0.os.length + g1.os.length + 1 + g2.os.length, 0, none⟩)) (by kernel_rfl) rfl
        refine Or.inl ⟨wanted_at (j := 16) (s := 99) rfl rfl rfl fg, ?_⟩
        exact wp_val (.agg (nw 9 Q)) (by simp [go_sem, f0, hbq]) ⟨_, rfl, Gr.refl _, rfl⟩
      · obtain rfl := Option.some.inj ho
        have lg := on_of hd 16 (by kernel_rfl)
        have fg := hF.at (s := 99) (i := 16) (by kernel_rfl) (by simp) lg
        rw [show vals 16 = .bool true from hR 16 lg] at fg
        have f0 := hF.old (s := 7) (v := .slice pa (dl a) na) (by kernel_rfl) rfl
        refine Or.inl ⟨wanted_at (j := 16) (s := 99) rfl rfl rfl fg, ?_⟩
        exact wp_val (.slice pa (dl a) na) (by simp [go_sem, f0]) ⟨_, rfl, Gr.refl _, rfl⟩
      · obtain rfl := Option.some.inj ho
        have lg := on_of hd 16 (by kernel_rfl)
        have fg := hF.at (s := 99) (i := 16) (by kernel_rfl) (by simp) lg
        rw [show vals 16 = .bool true from hR 16 lg] at fg
        have f0 := hF.old (s := 2) (v := .int .i64 (k : Int)) (by kernel_rfl) rfl
        refine Or.inl ⟨wanted_at (j := 16) (s := 99) rfl rfl rfl fg, ?_⟩
        exact wp_val (.int .i64 (k : Int)) (by simp [go_sem, f0]) ⟨_, rfl, Gr.refl _, rfl⟩
      · obtain rfl := Option.some.inj ho
        have lg := on_of hd 16 (by kernel_rfl)
        have fg := hF.at (s := 99) (i := 16) (by kernel_rfl) (by simp) lg
        rw [show vals 16 = .bool true from hR 16 lg] at fg
        have l0 := on_of hd 18 (by kernel_rfl)
        have f0 := hF.at (s := 101) (i := 18) (by kernel_rfl) (by simp) l0
        rw [show vals 18 = .slice pa (dl a) na from hR 18 l0] at f0
        have l1 := on_of hd 19 (by kernel_rfl)
        have f1 := hF.at (s := 102) (i := 19) (by kernel_rfl) (by simp) l1
        rw [show vals 19 = .int .i64 (k : Int) from hR 19 l1] at f1
        refine Or.inl ⟨wanted_at (j := 16) (s := 99) rfl rfl rfl fg, ?_⟩
        exact wp_retN (by simp [go_sem, f0, f1]) (F3.out _ _ na Ta) (fun p n w2 hS hg2 => ⟨_, rfl, hg2, p, n, rfl, hS⟩)
      · obtain rfl := Option.some.inj ho
        have lg := on_of hd 16 (by kernel_rfl)
        have fg := hF.at (s := 99) (i := 16) (by kernel_rfl) (by simp) lg
        rw [show vals 16 = .bool true from hR 16 lg] at fg
        have l0 := on_of hd 20 (by kernel_rfl)
        have f0 := hF.at (s := 103) (i := 20) (by kernel_rfl) (by simp) l0
        obtain ⟨p0, n0, e0, S0⟩ := (show ∃ p n, vals 20 = Value.slice p (dl (Q)) n ∧ Sl v2 p (Q) from hR 20 l0)
        rw [e0] at f0
        refine Or.inl ⟨wanted_at (j := 16) (s := 99) rfl rfl rfl fg, ?_⟩
        exact wp_ret (.agg (nw 9 Q)) (by simp [go_sem, f0]) (F4.out _ _ n0 S0) (fun w2 hg2 => ⟨_, rfl, hg2, rfl⟩)
      · obtain rfl := Option.some.inj ho
        have lg := on_of hd 16 (by kernel_rfl)
        have fg := hF.at (s := 99) (i := 16) (by kernel_rfl) (by simp) lg
        rw [show vals 16 = .bool true from hR 16 lg] at fg
        have l0 := on_of hd 17 (by kernel_rfl)
        have f0 := hF.at (s := 100) (i := 17) (by kernel_rfl) (by simp) l0
        rw [show vals 17 = .agg (nw 9 Q) from hR 17 l0] at f0
        have l1 := on_of hd 21 (by kernel_rfl)
        have f1 := hF.at (s := 104) (i := 21) (by kernel_rfl) (by simp) l1
        rw [show vals 21 = .agg (nw 9 Q) from hR 21 l1] at f1
        refine Or.inl ⟨wanted_at (j := 16) (s := 99) rfl rfl rfl fg, ?_⟩
        exact wp_val (.bool true) (by simp [go_sem, f0, f1]) ⟨_, rfl, Gr.refl _, rfl⟩
      · obtain rfl := Option.some.inj ho
        have l0 := on_of hd 16 (by kernel_rfl)
        have f0 := hF.at (s := 99) (i := 16) (by kernel_rfl) (by simp) l0
        rw [show vals 16 = .bool true from hR 16 l0] at f0
        have l1 := on_of hd 22 (by kernel_rfl)
        have f1 := hF.at (s := 105) (i := 22) (by kernel_rfl) (by simp) l1
        rw [show vals 22 = .bool true from hR 22 l1] at f1
        refine Or.inl ⟨wanted_no rfl, ?_⟩
        exact wp_val (.bool true) (by simp [go_sem, f0, f1]) ⟨_, rfl, Gr.refl _, rfl⟩
      · obtain rfl := Option.some.inj ho
        have l0 := on_of hd 23 (by kernel_rfl)
        have f0 := hF.at (s := 106) (i := 23) (by kernel_rfl) (by simp) l0
        rw [show vals 23 = .bool true from hR 23 l0] at f0
        refine Or.inl ⟨wanted_no rfl, ?_⟩
        exact wp_val (.bool true) (by simp [go_sem, f0]) ⟨_, rfl, Gr.refl _, rfl⟩
      · obtain rfl := Option.some.inj ho
        have lg := on_of hd 24 (by kernel_rfl)
        have fg := hF.at (s := 107) (i := 24) (by kernel_rfl) (by simp) lg
        rw [show vals 24 = .bool true from hR 24 lg] at fg
        refine Or.inl ⟨wanted_at (j := 24) (s := 107) rfl rfl rfl fg, ?_⟩
        exact wp_ret (.bool true) (by simp [go_sem]) (awake_any _) (fun w2 hg2 => ⟨_, rfl, hg2, rfl⟩)
      · obtain rfl := Option.some.inj ho
        have l0 := on_of hd 24 (by kernel_rfl)
        have f0 := hF.at (s := 107) (i := 24) (by kernel_rfl) (by simp) l0
        rw [show vals 24 = .bool true from hR 24 l0] at f0
        have l1 := on_of hd 25 (by kernel_rfl)
        have f1 := hF.at (s := 108) (i := 25) (by kernel_rfl) (by simp) l1
        rw [show vals 25 = .bool true from hR 25 l1] at f1
        refine Or.inl ⟨wanted_no rfl, ?_⟩
        exact wp_val (.bool true) (by simp [go_sem, f0, f1]) ⟨_, rfl, Gr.refl _, rfl⟩
      · obtain rfl := Option.some.inj ho
        have l0 := on_of hd 26 (by kernel_rfl)
        have f0 := hF.at (s := 109) (i := 26) (by kernel_rfl) (by simp) l0
        rw [show vals 26 = .bool true from hR 26 l0] at f0
        refine Or.inl ⟨wanted_no rfl, ?_⟩
        exact wp_val (.bool true) (by simp [go_sem, f0]) ⟨_, rfl, Gr.refl _, rfl⟩
    case hf =>
      intro vals v2 hg hR
      have hbp : blk v2 (w.heap.size + 1 + g0.os.length + g1.os.length) = nw 9 P := (hg.blk (w.heap.size + 1 + g0.os.length + g1.os.length) (by simp [go_sem] <;> omega)).trans (by simp [go_sem])
      have phbp : Pre (w.heap.size + 1 + g0.os.length + g1.os.length + 1) v2.heap.size := Nat.le_trans (show w.heap.size + 1 + g0.os.length + g1.os.length + 1 ≤ _ by simp [go_sem] <;> omega) hg.below.size
      have hbq : blk v2 (w.heap.size + 1 + g0.os.length + g1.os.length + 1 + g2.os.length) = nw 9 Q := (hg.blk (w.heap.size + 1 + g0.os.length + g1.os.length + 1 + g2.os.length) (by simp [go_sem] <;> omega)).trans (by simp [go_sem])
      have phbq : Pre (w.heap.size + 1 + g0.os.length + g1.os.length + 1 + g2.os.length + 1) v2.heap.size := Nat.le_trans (show w.heap.size + 1 + g0.os.length + g1.os.length + 1 + g2.os.length + 1 ≤ _ by simp [go_sem] <;> omega) hg.below.size
      have x0 : vals 0 = .int .i64 0 := hR 0 (by simp)
      have x1 : vals 1 = .int .i64 0 := hR 1 (by simp)
      have x2 : vals 2 = .bool true := hR 2 (by simp)
      have x3 : vals 3 = .bool true := hR 3 (by simp)
      have x4 : vals 4 = .int .i64 0 := hR 4 (by simp)
      have x5 : vals 5 = .int .i64 0 := hR 5 (by simp)
      have x6 : vals 6 = .bool true := hR 6 (by simp)
      have x7 : vals 7 = .bool true := hR 7 (by simp)
      have x8 : vals 8 = .bool true := hR 8 (by simp)
      have x9 : vals 9 = .agg (nw 9 P) := hR 9 (by simp)
      have x10 : vals 10 = .slice pa (dl a) na := hR 10 (by simp)
      have x11 : vals 11 = .int .i64 (k : Int) := hR 11 (by simp)
      obtain ⟨p12, n12, x12, S12⟩ := (show ∃ p n, vals 12 = Value.slice p (dl (y)) n ∧ Sl v2 p (y) from hR 12 (by simp))
      have x13 : vals 13 = .agg (nw 9 P) := hR 13 (by simp)
      have x14 : vals 14 = .bool true := hR 14 (by simp)
      have x15 : vals 15 = .bool true := hR 15 (by simp)
      have x16 : vals 16 = .bool true := hR 16 (by simp)
      have x17 : vals 17 = .agg (nw 9 Q) := hR 17 (by simp)
      have x18 : vals 18 = .slice pa (dl a) na := hR 18 (by simp)
      have x19 : vals 19 = .int .i64 (k : Int) := hR 19 (by simp)
      obtain ⟨p20, n20, x20, S20⟩ := (show ∃ p n, vals 20 = Value.slice p (dl (Q)) n ∧ Sl v2 p (Q) from hR 20 (by simp))
      have x21 : vals 21 = .agg (nw 9 Q) := hR 21 (by simp)
      have x22 : vals 22 = .bool true := hR 22 (by simp)
      have x23 : vals 23 = .bool true := hR 23 (by simp)
      have x24 : vals 24 = .bool true := hR 24 (by simp)
      have x25 : vals 25 = .bool true := hR 25 (by simp)
      have x26 : vals 26 = .bool true := hR 26 (by simp)
      have x27 : vals 27 = .bool true := hR 27 (by simp)
      simp only [putFrom, Act.put, List.setIfInBounds_toArray, List.set_cons_zero, List.set_cons_succ, x0, x1, x2, x3, x4, x5, x6, x7, x8, x9, x10, x11, x12, x13, x14, x15, x16, x17, x18, x19, x20, x21, x22, x23, x24, x25, x26, x27]
      clear hR x0 x1 x2 x3 x4 x5 x6 x7 x8 x9 x10 x11 x12 x13 x14 x15 x16 x17 x18 x19 x20 x21 x22 x23 x24 x25 x26 x27
      go_wp2
      go_ret
      refine ⟨rfl, Gr.trans ?_ hg⟩
      exact (by repeat (first | exact Gr.refl _ | apply Gr.drewN | apply Gr.drew | apply Gr.alloc | apply Gr.gro))
theorem bitsl_any (a : Nat) (i k : Int) (ha : a < M) (hi : i ≤ 9223372036854775807) (w : World) :
    Calls Try.prog 4 #[.agg (nw 9 a), .int .i64 i, .int .i64 k] w fun e w' => e = .returned (.bool true) ∧ Gr w w' := by
  by_cases hk : k < 0 ∨ 576 < k
  · exact bits_out a i k ha hi hk w
  · obtain ⟨n, rfl⟩ := Int.eq_ofNat_of_zero_le (show 0 ≤ k by omega)
    exact bits_in a n i ha hi (by omega) w

end Go.Proofs.Ytjgpecdhlgdjoaa
