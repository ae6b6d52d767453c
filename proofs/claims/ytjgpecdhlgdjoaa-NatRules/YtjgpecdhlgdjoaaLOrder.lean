/-
  The statement NatOrder, walked: it answers true for every three numbers.
-/
import Derived.Test.YtjgpecdhlgdjoaaLShares
namespace Go.Proofs.Ytjgpecdhlgdjoaa
open Go.RowKit
attribute [local go_sem ↓] loadNat_is loadArr_is loadWide_is loadArrW_is storeNat_is storeWide_is
attribute [local go_sem] loadNat loadArr loadWide loadArrW storeNat storeWide idxArr fold9 fold18 nw_size nw_elem pre_self pre_1 pre_2 pre_3 pre_4 pre_5 pre_6 pre_7 pre_8 pre_9 pre_10 pre_11 pre_12 pre_13 pre_14 pre_15 pre_16 pre_17 pre_18 pre_19 pre_20 pre_21 pre_22 pre_23 pre_24 pre_25 pre_26 pre_27 pre_28 pre_29 pre_30 pre_31 pre_32 pre_33 pre_34 pre_35 pre_36 pre_37 pre_38 pre_39 pre_40 gro_size gro_drew gro_drewN drew_gro drewN_gro blk_gro frz_gro blk_drew frz_drew blk_drewN frz_drewN blk_alloc_at frz_alloc_at blk_alloc frz_alloc cell_gro frozen_gro cell_alloc_pre frozen_alloc_pre setCell_drewN alloc_drewN setBlk_drew setBlk_drewN setBlk_alloc_at setBlk_alloc setBlk_gro setCell_gro setCell_alloc_pre size_setBlk size_setCell
attribute [local go_sem] nw_ext9 nw_ext18 eqArr9 eqArr18 all_grow

attribute [local go_sem] loadNat2 loadArr2 loadWide2 loadK_nw ppre_1 ppre_2 ppre_3 ppre_4 ppre_5 ppre_6 ppre_7 ppre_8 ppre_9 ppre_10 ppre_11 ppre_12 ppre_13 ppre_14 ppre_15 ppre_16 ppre_17 ppre_18 ppre_19 ppre_20

theorem cmpZ_add (x y z : Nat) : cmpZ (x + z) (y + z) = cmpZ x y := by
  unfold cmpZ
  simp only [Nat.add_lt_add_iff_right]
theorem cmpZ_cases (a b : Nat) : (a < b ∧ cmpZ a b = -1) ∨ (a = b ∧ cmpZ a b = 0) ∨ (b < a ∧ cmpZ a b = 1) := by
  unfold cmpZ
  by_cases h : a < b
  · exact Or.inl ⟨h, if_pos h⟩
  · by_cases h2 : b < a
    · exact Or.inr (Or.inr ⟨h2, by rw [if_neg h, if_pos h2]⟩)
    · exact Or.inr (Or.inl ⟨by omega, by rw [if_neg h, if_neg h2]⟩)
/-- Two numbers of 575 bits: their sum has room. -/
theorem sum_lt_M (E x z : Nat) (hE : E + 1 ≤ 576) (hx : x < 2 ^ E) (hz : z < 2 ^ E) : x + z < M := by
  rw [← pow_M (E + 1) hE]
  have h1 : x + z < 2 ^ (E + 1) := by rw [Nat.pow_succ]; omega
  have h2 := Nat.le_mul_of_pos_left (2 ^ (E + 1)) (Nat.two_pow_pos (576 - (E + 1)))
  omega
set_option maxRecDepth 100000 in
set_option maxHeartbeats 4000000 in
theorem order_any (a b c : Nat) (ha : a < M) (hb : b < M) (hc : c < M) (w : World) :
    Calls Try.prog 10 #[.agg (nw 9 a), .agg (nw 9 b), .agg (nw 9 c)] w fun e w' => e = .returned (.bool true) ∧ Below w.heap.size w w' := by
  obtain ⟨E, hE, hE2⟩ : ∃ E : Nat, (E : Int) = 575 ∧ E = 575 := ⟨575, rfl, rfl⟩
  obtain ⟨x, hx⟩ : ∃ x, a % 2 ^ E = x := ⟨_, rfl⟩
  obtain ⟨y, hy⟩ : ∃ y, b % 2 ^ E = y := ⟨_, rfl⟩
  obtain ⟨z, hz⟩ : ∃ z, c % 2 ^ E = z := ⟨_, rfl⟩
  have x1 : x < 2 ^ E := by rw [← hx]; exact Nat.mod_lt _ (Nat.two_pow_pos _)
  have y1 : y < 2 ^ E := by rw [← hy]; exact Nat.mod_lt _ (Nat.two_pow_pos _)
  have z1 : z < 2 ^ E := by rw [← hz]; exact Nat.mod_lt _ (Nat.two_pow_pos _)
  have xM : x < M := by rw [← hx]; exact cut_lt_M a E (by omega)
  have yM : y < M := by rw [← hy]; exact cut_lt_M b E (by omega)
  have zM : z < M := by rw [← hz]; exact cut_lt_M c E (by omega)
  have s1 := sum_lt_M E x z (by omega) x1 z1
  have t1 := sum_lt_M E y z (by omega) y1 z1
  have k4 := cmpZ_add x y z
  obtain ⟨s, hs⟩ : ∃ s, x + z = s := ⟨_, rfl⟩
  obtain ⟨t, ht⟩ : ∃ t, y + z = t := ⟨_, rfl⟩
  rw [hs] at s1 k4
  rw [ht] at t1 k4
  obtain ⟨K, hK⟩ : ∃ K, cmpZ x y = K := ⟨_, rfl⟩
  rw [hK] at k4
  have c1 := fun w => natcut_any a E (by omega) w
  have c2 := fun w => natcut_any b E (by omega) w
  have c3 := fun w => natcut_any c E (by omega) w
  have c4 := fun w => add_any x z xM zM w
  have c5 := fun w => add_any y z yM zM w
  have c6 := fun w => cmp_any s t s1 t1 w
  have c7 := fun w => cmp_any x y xM yM w
  have c8 := fun w => cmp_any a b ha hb w
  have c9 := fun w => cmp_any b c hb hc w
  have c10 := fun w => cmp_any a c ha hc w
  rw [hx, hE] at c1
  rw [hy, hE] at c2
  rw [hz, hE] at c3
  rw [hs, Nat.mod_eq_of_lt s1, decide_eq_false (show ¬ M ≤ s by omega)] at c4
  rw [ht, Nat.mod_eq_of_lt t1, decide_eq_false (show ¬ M ≤ t by omega)] at c5
  rw [k4] at c6
  rw [hK] at c7
  have C1 : Hid (∀ w, Calls Try.prog 41 #[.agg (nw 9 a), .int .i64 575] w fun e w' => e = .returned (.agg (nw 9 x)) ∧ Gr w w') := c1
  have C2 : Hid (∀ w, Calls Try.prog 41 #[.agg (nw 9 b), .int .i64 575] w fun e w' => e = .returned (.agg (nw 9 y)) ∧ Gr w w') := c2
  have C3 : Hid (∀ w, Calls Try.prog 41 #[.agg (nw 9 c), .int .i64 575] w fun e w' => e = .returned (.agg (nw 9 z)) ∧ Gr w w') := c3
  have C4 : Hid (∀ w, Calls Try.prog 15 #[.agg (nw 9 x), .agg (nw 9 z)] w fun e w' => e = .returned (.tuple #[.agg (nw 9 s), .bool false]) ∧ Gr w w') := c4
  have C5 : Hid (∀ w, Calls Try.prog 15 #[.agg (nw 9 y), .agg (nw 9 z)] w fun e w' => e = .returned (.tuple #[.agg (nw 9 t), .bool false]) ∧ Gr w w') := c5
  have C6 : Hid (∀ w, Calls Try.prog 26 #[.agg (nw 9 s), .agg (nw 9 t)] w fun e w' => e = .returned (.int .i64 K) ∧ Gr w w') := c6
  have C7 : Hid (∀ w, Calls Try.prog 26 #[.agg (nw 9 x), .agg (nw 9 y)] w fun e w' => e = .returned (.int .i64 K) ∧ Gr w w') := c7
  have q1 : eqN 9 a b = decide (a = b) := eqN9 a b ha hb
  obtain ⟨K1, K2, K3, h1, h2, h3, hor⟩ : ∃ K1 K2 K3 : Int, cmpZ a b = K1 ∧ cmpZ b c = K2 ∧ cmpZ a c = K3 ∧
      ((eqN 9 a b = true ∧ (K1 == 0) = true ∧ decide (K1 < 0) = false) ∨ (eqN 9 a b = false ∧ (K1 == 0) = false ∧ decide (K1 < 0) = false) ∨
       (eqN 9 a b = false ∧ (K1 == 0) = false ∧ decide (K1 < 0) = true ∧ decide (K2 < 0) = false) ∨ (eqN 9 a b = false ∧ (K1 == 0) = false ∧ decide (K1 < 0) = true ∧ decide (K2 < 0) = true ∧ decide (0 ≤ K3) = false)) := by
    refine ⟨_, _, _, rfl, rfl, rfl, ?_⟩
    obtain ⟨h, e⟩ | ⟨h, e⟩ | ⟨h, e⟩ := cmpZ_cases a b
    · rw [decide_eq_false (show ¬ a = b by omega)] at q1
      obtain ⟨h', e'⟩ | ⟨h', e'⟩ | ⟨h', e'⟩ := cmpZ_cases b c
      · obtain ⟨h'', e''⟩ | ⟨h'', e''⟩ | ⟨h'', e''⟩ := cmpZ_cases a c
        · rw [e, e', e'']; exact Or.inr (Or.inr (Or.inr ⟨q1, rfl, rfl, rfl, rfl⟩))
        · omega
        · omega
      · rw [e, e']; exact Or.inr (Or.inr (Or.inl ⟨q1, rfl, rfl, rfl⟩))
      · rw [e, e']; exact Or.inr (Or.inr (Or.inl ⟨q1, rfl, rfl, rfl⟩))
    · rw [decide_eq_true h] at q1
      rw [e]; exact Or.inl ⟨q1, rfl, rfl⟩
    · rw [decide_eq_false (show ¬ a = b by omega)] at q1
      rw [e]; exact Or.inr (Or.inl ⟨q1, rfl, rfl⟩)
  rw [h1] at c8
  rw [h2] at c9
  rw [h3] at c10
  have C8 : Hid (∀ w, Calls Try.prog 26 #[.agg (nw 9 a), .agg (nw 9 b)] w fun e w' => e = .returned (.int .i64 K1) ∧ Gr w w') := c8
  have C9 : Hid (∀ w, Calls Try.prog 26 #[.agg (nw 9 b), .agg (nw 9 c)] w fun e w' => e = .returned (.int .i64 K2) ∧ Gr w w') := c9
  have C10 : Hid (∀ w, Calls Try.prog 26 #[.agg (nw 9 a), .agg (nw 9 c)] w fun e w' => e = .returned (.int .i64 K3) ∧ Gr w w') := c10
  clear c1 c2 c3 c4 c5 c6 c7 c8 c9 c10 h1 h2 h3 q1 k4 hK hs ht s1 t1 xM yM zM x1 y1 z1 hx hy hz hE hE2 ha hb hc
  obtain ⟨e1, e2, d1⟩ | ⟨e1, e2, d1⟩ | ⟨e1, e2, d1, d2⟩ | ⟨e1, e2, d1, d2, d3⟩ := hor
  all_goals
    go_enter Try.func10, Try.ntmps10
    go_wp2_with (first
      | (go_at_call 27; refine (awake_any _).mono ?_; rintro e w' ⟨rfl, g0, rfl⟩)
      | (go_at_call_of 26 (Value.agg (nw 9 a)); go_at_call_of 26 (Value.agg (nw 9 b)); refine (C8.out _).mono ?_; rintro e w' ⟨rfl, g1, rfl⟩)
      | (go_at_call_of 26 (Value.agg (nw 9 b)); refine (C9.out _).mono ?_; rintro e w' ⟨rfl, g2, rfl⟩)
      | (go_at_call 26; refine (C10.out _).mono ?_; rintro e w' ⟨rfl, g3, rfl⟩))
    refine wp_region_mix (by kernel_rfl) (by kernel_rfl) (RR _ (fun i => match i with | 0 => some (.pointer (some ⟨w.heap.size, 0, none⟩)) | 1 => some (.agg (nw 9 a)) | 2 => some (.agg (nw 9 x)) | 3 => some (.pointer (some ⟨w.heap.size + 1, 0, none⟩)) | 4 => some (.agg (nw 9 b)) | 5 => some (.agg (nw 9 y)) | 6 => some (.pointer (some ⟨w.heap.size + 1 + 1, 0, none⟩)) | 7 => some (.agg (nw 9 c)) | 8 => some (.agg (nw 9 z)) | _ => none) (fun i => match i with | 9 => some (nw 9 0) | 10 => some (nw 9 0) | 11 => some (nw 9 0) | _ => none) (fun i => match i with | 9 => some (12, nw 9 x) | 10 => some (13, nw 9 y) | 11 => some (14, nw 9 z) | _ => none)) (RR.start _ _ _ _ _ _) ?hs ?hf
    case hs =>
      intro listed vals a1 v1 i o hz hR hF ho hl hd
      have hks : ∀ (j k : Nat) (r : Array Value), (match j with | 9 => some (12, nw 9 x) | 10 => some (13, nw 9 y) | 11 => some (14, nw 9 z) | _ => (none : Option (Nat × Array Value))) = some (k, r) → (j = 9 ∧ k = 12) ∨ (j = 10 ∧ k = 13) ∨ (j = 11 ∧ k = 14) := fun j k r h => by
        split at h <;> simp_all
      have hba : blk v1 (w.heap.size) = nw 9 a := (blk_of _ _ _ (hR.1.block (w.heap.size) (by simp [go_sem] <;> omega))).trans (by simp [go_sem])
      have hbb : blk v1 (w.heap.size + 1) = nw 9 b := (blk_of _ _ _ (hR.1.block (w.heap.size + 1) (by simp [go_sem] <;> omega))).trans (by simp [go_sem])
      have hbc : blk v1 (w.heap.size + 1 + 1) = nw 9 c := (blk_of _ _ _ (hR.1.block (w.heap.size + 1 + 1) (by simp [go_sem] <;> omega))).trans (by simp [go_sem])
      have hi : i < 15 := by simpa using (Array.getElem?_eq_some_iff.1 ho).1
      have hil : i < listed.size := by rw [hz]; simpa using hi
      obtain rfl | rfl | rfl | rfl | rfl | rfl | rfl | rfl | rfl | rfl | rfl | rfl | rfl | rfl | rfl : i = 0 ∨ i = 1 ∨ i = 2 ∨ i = 3 ∨ i = 4 ∨ i = 5 ∨ i = 6 ∨ i = 7 ∨ i = 8 ∨ i = 9 ∨ i = 10 ∨ i = 11 ∨ i = 12 ∨ i = 13 ∨ i = 14 := by omega
      · obtain rfl := Option.some.inj ho
        have f0 := hF.old (s := 3) (v := .pointer (some ⟨w.heap.size, 0, none⟩)) (by kernel_rfl) rfl
        exact wp_val (.pointer (some ⟨w.heap.size, 0, none⟩)) (by simp [go_sem, f0]) ⟨_, rfl, RR.quiet 0 _ hil rfl rfl (fun j k r h => by have := hks j k r h; omega) (Gr.refl _) hR⟩
      · obtain rfl := Option.some.inj ho
        have l0 := hd ⟨0, .data⟩ (by simp) rfl
        have f0 := hF.at (s := 32) (i := 0) (by kernel_rfl) (by simp) l0
        rw [hR.2.1 0 _ l0 rfl] at f0
        exact wp_val (.agg (nw 9 a)) (by simp [go_sem, f0, hba]) ⟨_, rfl, RR.quiet 1 _ hil rfl rfl (fun j k r h => by have := hks j k r h; omega) (Gr.refl _) hR⟩
      · obtain rfl := Option.some.inj ho
        have l0 := hd ⟨1, .data⟩ (by simp) rfl
        have f0 := hF.at (s := 33) (i := 1) (by kernel_rfl) (by simp) l0
        rw [hR.2.1 1 _ l0 rfl] at f0
        exact wp_ret (.agg (nw 9 x)) (by simp [go_sem, f0]) (C1.out _) (fun w2 hg => ⟨_, rfl, RR.quiet 2 _ hil rfl rfl (fun j k r h => by have := hks j k r h; omega) hg hR⟩)
      · obtain rfl := Option.some.inj ho
        have f0 := hF.old (s := 4) (v := .pointer (some ⟨w.heap.size + 1, 0, none⟩)) (by kernel_rfl) rfl
        exact wp_val (.pointer (some ⟨w.heap.size + 1, 0, none⟩)) (by simp [go_sem, f0]) ⟨_, rfl, RR.quiet 3 _ hil rfl rfl (fun j k r h => by have := hks j k r h; omega) (Gr.refl _) hR⟩
      · obtain rfl := Option.some.inj ho
        have l0 := hd ⟨3, .data⟩ (by simp) rfl
        have f0 := hF.at (s := 35) (i := 3) (by kernel_rfl) (by simp) l0
        rw [hR.2.1 3 _ l0 rfl] at f0
        exact wp_val (.agg (nw 9 b)) (by simp [go_sem, f0, hbb]) ⟨_, rfl, RR.quiet 4 _ hil rfl rfl (fun j k r h => by have := hks j k r h; omega) (Gr.refl _) hR⟩
      · obtain rfl := Option.some.inj ho
        have l0 := hd ⟨4, .data⟩ (by simp) rfl
        have f0 := hF.at (s := 36) (i := 4) (by kernel_rfl) (by simp) l0
        rw [hR.2.1 4 _ l0 rfl] at f0
        exact wp_ret (.agg (nw 9 y)) (by simp [go_sem, f0]) (C2.out _) (fun w2 hg => ⟨_, rfl, RR.quiet 5 _ hil rfl rfl (fun j k r h => by have := hks j k r h; omega) hg hR⟩)
      · obtain rfl := Option.some.inj ho
        have f0 := hF.old (s := 5) (v := .pointer (some ⟨w.heap.size + 1 + 1, 0, none⟩)) (by kernel_rfl) rfl
        exact wp_val (.pointer (some ⟨w.heap.size + 1 + 1, 0, none⟩)) (by simp [go_sem, f0]) ⟨_, rfl, RR.quiet 6 _ hil rfl rfl (fun j k r h => by have := hks j k r h; omega) (Gr.refl _) hR⟩
      · obtain rfl := Option.some.inj ho
        have l0 := hd ⟨6, .data⟩ (by simp) rfl
        have f0 := hF.at (s := 38) (i := 6) (by kernel_rfl) (by simp) l0
        rw [hR.2.1 6 _ l0 rfl] at f0
        exact wp_val (.agg (nw 9 c)) (by simp [go_sem, f0, hbc]) ⟨_, rfl, RR.quiet 7 _ hil rfl rfl (fun j k r h => by have := hks j k r h; omega) (Gr.refl _) hR⟩
      · obtain rfl := Option.some.inj ho
        have l0 := hd ⟨7, .data⟩ (by simp) rfl
        have f0 := hF.at (s := 39) (i := 7) (by kernel_rfl) (by simp) l0
        rw [hR.2.1 7 _ l0 rfl] at f0
        exact wp_ret (.agg (nw 9 z)) (by simp [go_sem, f0]) (C3.out _) (fun w2 hg => ⟨_, rfl, RR.quiet 8 _ hil rfl rfl (fun j k r h => by have := hks j k r h; omega) hg hR⟩)
      · obtain rfl := Option.some.inj ho
        exact wp_val (.pointer (some ⟨v1.heap.size, 0, none⟩)) (w' := v1.alloc (.cells (nw 9 0) 25)) (by simp [go_sem]) ⟨_, rfl, RR.alloc 9 (nw 9 0) 25 hil hl rfl rfl (fun j k r h => by have := hks j k r h; omega) hR⟩
      · obtain rfl := Option.some.inj ho
        exact wp_val (.pointer (some ⟨v1.heap.size, 0, none⟩)) (w' := v1.alloc (.cells (nw 9 0) 25)) (by simp [go_sem]) ⟨_, rfl, RR.alloc 10 (nw 9 0) 25 hil hl rfl rfl (fun j k r h => by have := hks j k r h; omega) hR⟩
      · obtain rfl := Option.some.inj ho
        exact wp_val (.pointer (some ⟨v1.heap.size, 0, none⟩)) (w' := v1.alloc (.cells (nw 9 0) 25)) (by simp [go_sem]) ⟨_, rfl, RR.alloc 11 (nw 9 0) 25 hil hl rfl rfl (fun j k r h => by have := hks j k r h; omega) hR⟩
      · obtain rfl := Option.some.inj ho
        have l0 := hd ⟨9, .data⟩ (by simp) rfl
        have l1 := hd ⟨2, .data⟩ (by simp) rfl
        obtain ⟨B, h4, h5⟩ := hR.2.2.2
        obtain ⟨e1, e2, e3, e4, e5⟩ := h4 9 (nw 9 0) l0 rfl
        simp only [hl] at e5
        replace e5 : blk v1 (B 9) = nw 9 0 := e5
        have f0 := hF.at (s := 7) (i := 9) (by kernel_rfl) (by simp) l0
        rw [e1] at f0
        have f1 := hF.at (s := 34) (i := 2) (by kernel_rfl) (by simp) l1
        rw [hR.2.1 2 _ l1 rfl] at f1
        exact wp_skip (w' := setBlk v1 (B 9) (nw 9 x)) (by simp [go_sem, f0, f1, e4, e5]) ⟨undef, rfl, RR.store 12 9 (nw 9 0) (nw 9 x) (B 9) hil hl rfl rfl rfl l0 rfl (by rw [nw_size]; decide) e1 (fun k r h => by have := hks k _ r h; omega) hR⟩
      · obtain rfl := Option.some.inj ho
        have l0 := hd ⟨10, .data⟩ (by simp) rfl
        have l1 := hd ⟨5, .data⟩ (by simp) rfl
        obtain ⟨B, h4, h5⟩ := hR.2.2.2
        obtain ⟨e1, e2, e3, e4, e5⟩ := h4 10 (nw 9 0) l0 rfl
        simp only [hl] at e5
        replace e5 : blk v1 (B 10) = nw 9 0 := e5
        have f0 := hF.at (s := 8) (i := 10) (by kernel_rfl) (by simp) l0
        rw [e1] at f0
        have f1 := hF.at (s := 37) (i := 5) (by kernel_rfl) (by simp) l1
        rw [hR.2.1 5 _ l1 rfl] at f1
        exact wp_skip (w' := setBlk v1 (B 10) (nw 9 y)) (by simp [go_sem, f0, f1, e4, e5]) ⟨undef, rfl, RR.store 13 10 (nw 9 0) (nw 9 y) (B 10) hil hl rfl rfl rfl l0 rfl (by rw [nw_size]; decide) e1 (fun k r h => by have := hks k _ r h; omega) hR⟩
      · obtain rfl := Option.some.inj ho
        have l0 := hd ⟨11, .data⟩ (by simp) rfl
        have l1 := hd ⟨8, .data⟩ (by simp) rfl
        obtain ⟨B, h4, h5⟩ := hR.2.2.2
        obtain ⟨e1, e2, e3, e4, e5⟩ := h4 11 (nw 9 0) l0 rfl
        simp only [hl] at e5
        replace e5 : blk v1 (B 11) = nw 9 0 := e5
        have f0 := hF.at (s := 9) (i := 11) (by kernel_rfl) (by simp) l0
        rw [e1] at f0
        have f1 := hF.at (s := 40) (i := 8) (by kernel_rfl) (by simp) l1
        rw [hR.2.1 8 _ l1 rfl] at f1
        exact wp_skip (w' := setBlk v1 (B 11) (nw 9 z)) (by simp [go_sem, f0, f1, e4, e5]) ⟨undef, rfl, RR.store 14 11 (nw 9 0) (nw 9 z) (B 11) hil hl rfl rfl rfl l0 rfl (by rw [nw_size]; decide) e1 (fun k r h => by have := hks k _ r h; omega) hR⟩
    case hf =>
      intro listed vals a1 v1 hall hR hF
      have hba : blk v1 (w.heap.size) = nw 9 a := (blk_of _ _ _ (hR.1.block (w.heap.size) (by simp [go_sem] <;> omega))).trans (by simp [go_sem])
      have phba : Pre (w.heap.size + 1) v1.heap.size := Nat.le_trans (show w.heap.size + 1 ≤ _ by simp [go_sem] <;> omega) hR.1.size
      have hbb : blk v1 (w.heap.size + 1) = nw 9 b := (blk_of _ _ _ (hR.1.block (w.heap.size + 1) (by simp [go_sem] <;> omega))).trans (by simp [go_sem])
      have phbb : Pre (w.heap.size + 1 + 1) v1.heap.size := Nat.le_trans (show w.heap.size + 1 + 1 ≤ _ by simp [go_sem] <;> omega) hR.1.size
      have hbc : blk v1 (w.heap.size + 1 + 1) = nw 9 c := (blk_of _ _ _ (hR.1.block (w.heap.size + 1 + 1) (by simp [go_sem] <;> omega))).trans (by simp [go_sem])
      have phbc : Pre (w.heap.size + 1 + 1 + 1) v1.heap.size := Nat.le_trans (show w.heap.size + 1 + 1 + 1 ≤ _ by simp [go_sem] <;> omega) hR.1.size
      have hV := hR.2.1
      obtain ⟨B, h4, h5⟩ := hR.2.2.2
      have x0 := hV 0 _ (hall 0 (by simp)) rfl
      have x1 := hV 1 _ (hall 1 (by simp)) rfl
      have x2 := hV 2 _ (hall 2 (by simp)) rfl
      have x3 := hV 3 _ (hall 3 (by simp)) rfl
      have x4 := hV 4 _ (hall 4 (by simp)) rfl
      have x5 := hV 5 _ (hall 5 (by simp)) rfl
      have x6 := hV 6 _ (hall 6 (by simp)) rfl
      have x7 := hV 7 _ (hall 7 (by simp)) rfl
      have x8 := hV 8 _ (hall 8 (by simp)) rfl
      obtain ⟨x9, _, p9, _, y9⟩ := h4 9 _ (hall 9 (by simp)) rfl
      simp only [hall 12 (by simp), if_true] at y9
      replace p9 : Pre (B 9 + 1) v1.heap.size := p9
      replace y9 : blk v1 (B 9) = nw 9 x := y9
      obtain ⟨x10, _, p10, _, y10⟩ := h4 10 _ (hall 10 (by simp)) rfl
      simp only [hall 13 (by simp), if_true] at y10
      replace p10 : Pre (B 10 + 1) v1.heap.size := p10
      replace y10 : blk v1 (B 10) = nw 9 y := y10
      obtain ⟨x11, _, p11, _, y11⟩ := h4 11 _ (hall 11 (by simp)) rfl
      simp only [hall 14 (by simp), if_true] at y11
      replace p11 : Pre (B 11 + 1) v1.heap.size := p11
      replace y11 : blk v1 (B 11) = nw 9 z := y11
      have hb1 := hR.1
      rw [hF.final (by kernel_rfl) hall]
      simp only [putFrom, Act.put, List.setIfInBounds_toArray, List.set_cons_zero, List.set_cons_succ, x0, x1, x2, x3, x4, x5, x6, x7, x8, x9, x10, x11]
      generalize B 9 = b9 at *
      generalize B 10 = b10 at *
      generalize B 11 = b11 at *
      clear hV h4 h5 hR hF hall x0 x1 x2 x3 x4 x5 x6 x7 x8 x9 x10 x11
      go_wp2_with (first
        | (go_at_call_of 15 (Value.agg (nw 9 x)); refine (C4.out _).mono ?_; rintro e w' ⟨rfl, g, rfl⟩)
        | (go_at_call 15; refine (C5.out _).mono ?_; rintro e w' ⟨rfl, g, rfl⟩))
      refine wp_region_gr (by kernel_rfl) (by kernel_rfl) ?_
      repeat (go_big_quiet_step (first
        | (go_at_call_of 26 (Value.agg (nw 9 s)); exact calls_gr (C6.out _))
        | (go_at_call_of 26 (Value.agg (nw 9 x)); exact calls_gr (C7.out _))
        | (go_at_call 26; exact calls_gr (C8.out _))))
      refine wpQuiet_nil ?_
      intro w2 hw2
      obtain ⟨gq, hw3⟩ := hw2
      subst hw3
      go_wp2
      go_ret
      refine ⟨rfl, ?_⟩
      have k2 := fun (h : Gr w _) => h.below.trans (hb1.mono h.below.size)
      have k3 := k2 (by repeat (first | exact Gr.refl _ | apply Gr.drewN | apply Gr.drew | apply Gr.alloc | apply Gr.gro))
      refine k3.trans (Below.mono (Gr.below (w := v1) ?_) k3.size)
      exact (by repeat (first | exact Gr.refl _ | apply Gr.drewN | apply Gr.drew | apply Gr.alloc | apply Gr.gro))

end Go.Proofs.Ytjgpecdhlgdjoaa
