/-
  The statement NatRules, walked: it answers true for every three numbers.
-/
import Derived.Test.YtjgpecdhlgdjoaaLOrder
namespace Go.Proofs.Ytjgpecdhlgdjoaa
open Go.RowKit
attribute [local go_sem ↓] loadNat_is loadArr_is loadWide_is loadArrW_is storeNat_is storeWide_is
attribute [local go_sem] loadNat loadArr loadWide loadArrW storeNat storeWide idxArr fold9 fold18 nw_size nw_elem pre_self pre_1 pre_2 pre_3 pre_4 pre_5 pre_6 pre_7 pre_8 pre_9 pre_10 pre_11 pre_12 pre_13 pre_14 pre_15 pre_16 pre_17 pre_18 pre_19 pre_20 pre_21 pre_22 pre_23 pre_24 pre_25 pre_26 pre_27 pre_28 pre_29 pre_30 pre_31 pre_32 pre_33 pre_34 pre_35 pre_36 pre_37 pre_38 pre_39 pre_40 gro_size gro_drew gro_drewN drew_gro drewN_gro blk_gro frz_gro blk_drew frz_drew blk_drewN frz_drewN blk_alloc_at frz_alloc_at blk_alloc frz_alloc cell_gro frozen_gro cell_alloc_pre frozen_alloc_pre setCell_drewN alloc_drewN setBlk_drew setBlk_drewN setBlk_alloc_at setBlk_alloc setBlk_gro setCell_gro setCell_alloc_pre size_setBlk size_setCell
attribute [local go_sem] nw_ext9 nw_ext18 eqArr9 eqArr18 all_grow

attribute [local go_sem] loadNat2 loadArr2 loadWide2 loadK_nw ppre_1 ppre_2 ppre_3 ppre_4 ppre_5 ppre_6 ppre_7 ppre_8 ppre_9 ppre_10 ppre_11 ppre_12 ppre_13 ppre_14 ppre_15 ppre_16 ppre_17 ppre_18 ppre_19 ppre_20

theorem cmpZ_neg (a b : Nat) : cmpZ b a = - cmpZ a b := by
  unfold cmpZ
  repeat' split
  all_goals omega
theorem cmpZ_wrap (a b : Nat) : IntKind.i64.wrap (- cmpZ b a) = cmpZ a b := by
  rw [cmpZ_neg a b, Int.neg_neg]
  obtain ⟨_, e⟩ | ⟨_, e⟩ | ⟨_, e⟩ := cmpZ_cases a b <;> rw [e] <;> rfl
theorem back_sub (a b X : Nat) (ha : a < X) (hb : b < X) : ((a + b) % X + X - b) % X = a := by
  by_cases h : a + b < X
  · rw [Nat.mod_eq_of_lt h, show a + b + X - b = a + X by omega, Nat.add_mod_right, Nat.mod_eq_of_lt ha]
  · have e : (a + b) % X = a + b - X := by rw [Nat.mod_eq_sub_mod (by omega), Nat.mod_eq_of_lt (show a + b - X < X by omega)]
    rw [e, show a + b - X + X - b = a by omega, Nat.mod_eq_of_lt ha]
theorem back_low (a b X : Nat) (ha : a < X) (hb : b < X) : decide ((a + b) % X < b) = decide (X ≤ a + b) := by
  by_cases h : a + b < X
  · rw [Nat.mod_eq_of_lt h, decide_eq_false (by omega), decide_eq_false (by omega)]
  · rw [Nat.mod_eq_sub_mod (by omega), Nat.mod_eq_of_lt (show a + b - X < X by omega), decide_eq_true (by omega), decide_eq_true (by omega)]
set_option maxRecDepth 100000 in
set_option maxHeartbeats 4000000 in
theorem rules_any (a b c : Nat) (ha : a < M) (hb : b < M) (hc : c < M) (w : World) :
    Calls Try.prog 6 #[.agg (nw 9 a), .agg (nw 9 b), .agg (nw 9 c)] w fun e w' => e = .returned (.bool true) ∧ Below w.heap.size w w' := by
  obtain ⟨E, hE, hE2⟩ : ∃ E : Nat, (E : Int) = 288 ∧ E = 288 := ⟨288, rfl, rfl⟩
  have c1 := fun w => add_any a b ha hb w
  have c2 := fun w => add_any b a hb ha w
  rw [Nat.add_comm b a] at c2
  have sM : (a + b) % M < M := Nat.mod_lt _ M_pos
  have c3 := fun w => sub_any ((a + b) % M) b sM hb w
  rw [back_sub a b M ha hb, back_low a b M ha hb] at c3
  have c4 := fun w => add_any b c hb hc w
  have uM : (b + c) % M < M := Nat.mod_lt _ M_pos
  obtain ⟨u, hu⟩ : ∃ u, (b + c) % M = u := ⟨_, rfl⟩
  rw [hu] at uM c4
  have c5 := fun w => natcut_any u E (by omega) w
  obtain ⟨v, hv⟩ : ∃ v, u % 2 ^ E = v := ⟨_, rfl⟩
  have vM : v < M := by rw [← hv]; exact cut_lt_M u E (by omega)
  rw [hv, hE] at c5
  have c6 := fun w => mul_any a v ha vM w
  have c7 := fun w => mul_any v a vM ha w
  rw [Nat.mul_comm v a] at c7
  obtain ⟨p, hp⟩ : ∃ p, a * v = p := ⟨_, rfl⟩
  rw [hp] at c6 c7
  have c8 := fun w => cmp_any a b ha hb w
  have c9 := fun w => cmp_any b a hb ha w
  have c10 := fun w => cmp_any a a ha ha w
  rw [cmpZ_eq] at c10
  have hw := cmpZ_wrap a b
  obtain ⟨K, hK⟩ : ∃ K, cmpZ a b = K := ⟨_, rfl⟩
  obtain ⟨K', hK'⟩ : ∃ K, cmpZ b a = K := ⟨_, rfl⟩
  rw [hK] at c8 hw
  rw [hK'] at c9 hw
  obtain ⟨s, hs⟩ : ∃ s, (a + b) % M = s := ⟨_, rfl⟩
  obtain ⟨z, hz⟩ : ∃ z, decide (M ≤ b + c) = z := ⟨_, rfl⟩
  obtain ⟨D, hD⟩ : ∃ D, decide (M ≤ a + b) = D := ⟨_, rfl⟩
  rw [hs, hD] at c1 c2
  rw [hs, hD] at c3
  rw [hz] at c4
  have C1 : Hid (∀ w, Calls Try.prog 15 #[.agg (nw 9 a), .agg (nw 9 b)] w fun e w' => e = .returned (.tuple #[.agg (nw 9 s), .bool D]) ∧ Gr w w') := c1
  have C2 : Hid (∀ w, Calls Try.prog 15 #[.agg (nw 9 b), .agg (nw 9 a)] w fun e w' => e = .returned (.tuple #[.agg (nw 9 s), .bool D]) ∧ Gr w w') := c2
  have C3 : Hid (∀ w, Calls Try.prog 16 #[.agg (nw 9 s), .agg (nw 9 b)] w fun e w' => e = .returned (.tuple #[.agg (nw 9 a), .bool D]) ∧ Gr w w') := c3
  have C4 : Hid (∀ w, Calls Try.prog 15 #[.agg (nw 9 b), .agg (nw 9 c)] w fun e w' => e = .returned (.tuple #[.agg (nw 9 u), .bool z]) ∧ Gr w w') := c4
  have C5 : Hid (∀ w, Calls Try.prog 41 #[.agg (nw 9 u), .int .i64 288] w fun e w' => e = .returned (.agg (nw 9 v)) ∧ Gr w w') := c5
  have C6 : Hid (∀ w, Calls Try.prog 23 #[.agg (nw 9 a), .agg (nw 9 v)] w fun e w' => e = .returned (.agg (nw 18 p)) ∧ Gr w w') := c6
  have C7 : Hid (∀ w, Calls Try.prog 23 #[.agg (nw 9 v), .agg (nw 9 a)] w fun e w' => e = .returned (.agg (nw 18 p)) ∧ Gr w w') := c7
  have C8 : Hid (∀ w, Calls Try.prog 26 #[.agg (nw 9 a), .agg (nw 9 b)] w fun e w' => e = .returned (.int .i64 K) ∧ Gr w w') := c8
  have C9 : Hid (∀ w, Calls Try.prog 26 #[.agg (nw 9 b), .agg (nw 9 a)] w fun e w' => e = .returned (.int .i64 K') ∧ Gr w w') := c9
  have C10 : Hid (∀ w, Calls Try.prog 26 #[.agg (nw 9 a), .agg (nw 9 a)] w fun e w' => e = .returned (.int .i64 0) ∧ Gr w w') := c10
  have q1 := eqN_self 9 s
  have q2 := eqN_self 9 a
  have q3 := eqN_self 18 p
  clear c1 c2 c3 c4 c5 c6 c7 c8 c9 c10 hs hz hD hK hK' hp hv hu vM uM sM hE hE2 ha hb hc
  cases D
  all_goals
    go_enter Try.func6, Try.ntmps6
    go_wp2_with (first
      | (go_at_call 27; refine (awake_any _).mono ?_; rintro e w' ⟨rfl, g0, rfl⟩)
      | (go_at_call_of 15 (#[Value.agg (nw 9 a), Value.agg (nw 9 b)] : Array Value); refine (C1.out _).mono ?_; rintro e w' ⟨rfl, g1, rfl⟩)
      | (go_at_call_of 15 (#[Value.agg (nw 9 b), Value.agg (nw 9 a)] : Array Value); refine (C2.out _).mono ?_; rintro e w' ⟨rfl, g2, rfl⟩)
      | (go_at_call 16; refine (C3.out _).mono ?_; rintro e w' ⟨rfl, g3, rfl⟩)
      | (go_at_call_of 15 (#[Value.agg (nw 9 b), Value.agg (nw 9 c)] : Array Value); refine (C4.out _).mono ?_; rintro e w' ⟨rfl, g4, rfl⟩))
    refine wp_region_mix (by kernel_rfl) (by kernel_rfl) (RR _ (fun i => match i with | 0 => some (.agg (nw 9 a)) | 1 => some (.pointer (some ⟨w.heap.size + 1 + 1 + 1 + g0.os.length + g1.os.length + 1 + g2.os.length + 1 + g3.os.length + 1 + g4.os.length, 0, none⟩)) | 2 => some (.agg (nw 9 u)) | 3 => some (.agg (nw 9 v)) | 4 => some (.agg (nw 18 p)) | 5 => some (.pointer (some ⟨w.heap.size + 1 + 1 + 1 + g0.os.length + g1.os.length + 1 + g2.os.length + 1 + g3.os.length + 1 + g4.os.length, 0, none⟩)) | 6 => some (.agg (nw 9 u)) | 7 => some (.agg (nw 9 v)) | 8 => some (.agg (nw 9 a)) | 9 => some (.agg (nw 18 p)) | _ => none) (fun i => match i with | 10 => some (nw 18 0) | 11 => some (nw 18 0) | _ => none) (fun i => match i with | 10 => some (12, nw 18 p) | 11 => some (13, nw 18 p) | _ => none)) (RR.start _ _ _ _ _ _) ?hs ?hf
    case hs =>
      intro listed vals a1 v1 i o hz hR hF ho hl hd
      have hks : ∀ (j k : Nat) (r : Array Value), (match j with | 10 => some (12, nw 18 p) | 11 => some (13, nw 18 p) | _ => (none : Option (Nat × Array Value))) = some (k, r) → (j = 10 ∧ k = 12) ∨ (j = 11 ∧ k = 13) := fun j k r h => by
        split at h <;> simp_all
      have hba : blk v1 (w.heap.size) = nw 9 a := (blk_of _ _ _ (hR.1.block (w.heap.size) (by simp [go_sem] <;> omega))).trans (by simp [go_sem])
      have hbb : blk v1 (w.heap.size + 1) = nw 9 b := (blk_of _ _ _ (hR.1.block (w.heap.size + 1) (by simp [go_sem] <;> omega))).trans (by simp [go_sem])
      have hbs : blk v1 (w.heap.size + 1 + 1 + 1 + g0.os.length + g1.os.length) = nw 9 s := (blk_of _ _ _ (hR.1.block (w.heap.size + 1 + 1 + 1 + g0.os.length + g1.os.length) (by simp [go_sem] <;> omega))).trans (by simp [go_sem])
      have hbt : blk v1 (w.heap.size + 1 + 1 + 1 + g0.os.length + g1.os.length + 1 + g2.os.length) = nw 9 s := (blk_of _ _ _ (hR.1.block (w.heap.size + 1 + 1 + 1 + g0.os.length + g1.os.length + 1 + g2.os.length) (by simp [go_sem] <;> omega))).trans (by simp [go_sem])
      have hbd : blk v1 (w.heap.size + 1 + 1 + 1 + g0.os.length + g1.os.length + 1 + g2.os.length + 1 + g3.os.length) = nw 9 a := (blk_of _ _ _ (hR.1.block (w.heap.size + 1 + 1 + 1 + g0.os.length + g1.os.length + 1 + g2.os.length + 1 + g3.os.length) (by simp [go_sem] <;> omega))).trans (by simp [go_sem])
      have hbu : blk v1 (w.heap.size + 1 + 1 + 1 + g0.os.length + g1.os.length + 1 + g2.os.length + 1 + g3.os.length + 1 + g4.os.length) = nw 9 u := (blk_of _ _ _ (hR.1.block (w.heap.size + 1 + 1 + 1 + g0.os.length + g1.os.length + 1 + g2.os.length + 1 + g3.os.length + 1 + g4.os.length) (by simp [go_sem] <;> omega))).trans (by simp [go_sem])
      have hi : i < 14 := by simpa using (Array.getElem?_eq_some_iff.1 ho).1
      have hil : i < listed.size := by rw [hz]; simpa using hi
      obtain rfl | rfl | rfl | rfl | rfl | rfl | rfl | rfl | rfl | rfl | rfl | rfl | rfl | rfl : i = 0 ∨ i = 1 ∨ i = 2 ∨ i = 3 ∨ i = 4 ∨ i = 5 ∨ i = 6 ∨ i = 7 ∨ i = 8 ∨ i = 9 ∨ i = 10 ∨ i = 11 ∨ i = 12 ∨ i = 13 := by omega
      · obtain rfl := Option.some.inj ho
        have f0 := hF.old (s := 3) (v := .pointer (some ⟨w.heap.size, 0, none⟩)) (by kernel_rfl) rfl
        exact wp_val (.agg (nw 9 a)) (by simp [go_sem, f0, hba]) ⟨_, rfl, RR.quiet 0 _ hil rfl rfl (fun j k r h => by have := hks j k r h; omega) (Gr.refl _) hR⟩
      · obtain rfl := Option.some.inj ho
        have f0 := hF.old (s := 13) (v := .pointer (some ⟨w.heap.size + 1 + 1 + 1 + g0.os.length + g1.os.length + 1 + g2.os.length + 1 + g3.os.length + 1 + g4.os.length, 0, none⟩)) (by kernel_rfl) rfl
        exact wp_val (.pointer (some ⟨w.heap.size + 1 + 1 + 1 + g0.os.length + g1.os.length + 1 + g2.os.length + 1 + g3.os.length + 1 + g4.os.length, 0, none⟩)) (by simp [go_sem, f0]) ⟨_, rfl, RR.quiet 1 _ hil rfl rfl (fun j k r h => by have := hks j k r h; omega) (Gr.refl _) hR⟩
      · obtain rfl := Option.some.inj ho
        have l0 := hd ⟨1, .data⟩ (by simp) rfl
        have f0 := hF.at (s := 44) (i := 1) (by kernel_rfl) (by simp) l0
        rw [hR.2.1 1 _ l0 rfl] at f0
        exact wp_val (.agg (nw 9 u)) (by simp [go_sem, f0, hbu]) ⟨_, rfl, RR.quiet 2 _ hil rfl rfl (fun j k r h => by have := hks j k r h; omega) (Gr.refl _) hR⟩
      · obtain rfl := Option.some.inj ho
        have l0 := hd ⟨2, .data⟩ (by simp) rfl
        have f0 := hF.at (s := 45) (i := 2) (by kernel_rfl) (by simp) l0
        rw [hR.2.1 2 _ l0 rfl] at f0
        exact wp_ret (.agg (nw 9 v)) (by simp [go_sem, f0]) (C5.out _) (fun w2 hg => ⟨_, rfl, RR.quiet 3 _ hil rfl rfl (fun j k r h => by have := hks j k r h; omega) hg hR⟩)
      · obtain rfl := Option.some.inj ho
        have l0 := hd ⟨0, .data⟩ (by simp) rfl
        have f0 := hF.at (s := 43) (i := 0) (by kernel_rfl) (by simp) l0
        rw [hR.2.1 0 _ l0 rfl] at f0
        have l1 := hd ⟨3, .data⟩ (by simp) rfl
        have f1 := hF.at (s := 46) (i := 3) (by kernel_rfl) (by simp) l1
        rw [hR.2.1 3 _ l1 rfl] at f1
        exact wp_ret (.agg (nw 18 p)) (by simp [go_sem, f0, f1]) (C6.out _) (fun w2 hg => ⟨_, rfl, RR.quiet 4 _ hil rfl rfl (fun j k r h => by have := hks j k r h; omega) hg hR⟩)
      · obtain rfl := Option.some.inj ho
        have f0 := hF.old (s := 13) (v := .pointer (some ⟨w.heap.size + 1 + 1 + 1 + g0.os.length + g1.os.length + 1 + g2.os.length + 1 + g3.os.length + 1 + g4.os.length, 0, none⟩)) (by kernel_rfl) rfl
        exact wp_val (.pointer (some ⟨w.heap.size + 1 + 1 + 1 + g0.os.length + g1.os.length + 1 + g2.os.length + 1 + g3.os.length + 1 + g4.os.length, 0, none⟩)) (by simp [go_sem, f0]) ⟨_, rfl, RR.quiet 5 _ hil rfl rfl (fun j k r h => by have := hks j k r h; omega) (Gr.refl _) hR⟩
      · obtain rfl := Option.some.inj ho
        have l0 := hd ⟨5, .data⟩ (by simp) rfl
        have f0 := hF.at (s := 48) (i := 5) (by kernel_rfl) (by simp) l0
        rw [hR.2.1 5 _ l0 rfl] at f0
        exact wp_val (.agg (nw 9 u)) (by simp [go_sem, f0, hbu]) ⟨_, rfl, RR.quiet 6 _ hil rfl rfl (fun j k r h => by have := hks j k r h; omega) (Gr.refl _) hR⟩
      · obtain rfl := Option.some.inj ho
        have l0 := hd ⟨6, .data⟩ (by simp) rfl
        have f0 := hF.at (s := 49) (i := 6) (by kernel_rfl) (by simp) l0
        rw [hR.2.1 6 _ l0 rfl] at f0
        exact wp_ret (.agg (nw 9 v)) (by simp [go_sem, f0]) (C5.out _) (fun w2 hg => ⟨_, rfl, RR.quiet 7 _ hil rfl rfl (fun j k r h => by have := hks j k r h; omega) hg hR⟩)
      · obtain rfl := Option.some.inj ho
        have f0 := hF.old (s := 3) (v := .pointer (some ⟨w.heap.size, 0, none⟩)) (by kernel_rfl) rfl
        exact wp_val (.agg (nw 9 a)) (by simp [go_sem, f0, hba]) ⟨_, rfl, RR.quiet 8 _ hil rfl rfl (fun j k r h => by have := hks j k r h; omega) (Gr.refl _) hR⟩
      · obtain rfl := Option.some.inj ho
        have l0 := hd ⟨7, .data⟩ (by simp) rfl
        have f0 := hF.at (s := 50) (i := 7) (by kernel_rfl) (by simp) l0
        rw [hR.2.1 7 _ l0 rfl] at f0
        have l1 := hd ⟨8, .data⟩ (by simp) rfl
        have f1 := hF.at (s := 51) (i := 8) (by kernel_rfl) (by simp) l1
        rw [hR.2.1 8 _ l1 rfl] at f1
        exact wp_ret (.agg (nw 18 p)) (by simp [go_sem, f0, f1]) (C7.out _) (fun w2 hg => ⟨_, rfl, RR.quiet 9 _ hil rfl rfl (fun j k r h => by have := hks j k r h; omega) hg hR⟩)
      · obtain rfl := Option.some.inj ho
        exact wp_val (.pointer (some ⟨v1.heap.size, 0, none⟩)) (w' := v1.alloc (.cells (nw 18 0) 39)) (by simp [go_sem]) ⟨_, rfl, RR.alloc 10 (nw 18 0) 39 hil hl rfl rfl (fun j k r h => by have := hks j k r h; omega) hR⟩
      · obtain rfl := Option.some.inj ho
        exact wp_val (.pointer (some ⟨v1.heap.size, 0, none⟩)) (w' := v1.alloc (.cells (nw 18 0) 39)) (by simp [go_sem]) ⟨_, rfl, RR.alloc 11 (nw 18 0) 39 hil hl rfl rfl (fun j k r h => by have := hks j k r h; omega) hR⟩
      · obtain rfl := Option.some.inj ho
        have l0 := hd ⟨10, .data⟩ (by simp) rfl
        have l1 := hd ⟨4, .data⟩ (by simp) rfl
        obtain ⟨B, h4, h5⟩ := hR.2.2.2
        obtain ⟨e1, e2, e3, e4, e5⟩ := h4 10 (nw 18 0) l0 rfl
        simp only [hl] at e5
        replace e5 : blk v1 (B 10) = nw 18 0 := e5
        have f0 := hF.at (s := 15) (i := 10) (by kernel_rfl) (by simp) l0
        rw [e1] at f0
        have f1 := hF.at (s := 47) (i := 4) (by kernel_rfl) (by simp) l1
        rw [hR.2.1 4 _ l1 rfl] at f1
        exact wp_skip (w' := setBlk v1 (B 10) (nw 18 p)) (by simp [go_sem, f0, f1, e4, e5]) ⟨undef, rfl, RR.store 12 10 (nw 18 0) (nw 18 p) (B 10) hil hl rfl rfl rfl l0 rfl (by rw [nw_size]; decide) e1 (fun k r h => by have := hks k _ r h; omega) hR⟩
      · obtain rfl := Option.some.inj ho
        have l0 := hd ⟨11, .data⟩ (by simp) rfl
        have l1 := hd ⟨9, .data⟩ (by simp) rfl
        obtain ⟨B, h4, h5⟩ := hR.2.2.2
        obtain ⟨e1, e2, e3, e4, e5⟩ := h4 11 (nw 18 0) l0 rfl
        simp only [hl] at e5
        replace e5 : blk v1 (B 11) = nw 18 0 := e5
        have f0 := hF.at (s := 16) (i := 11) (by kernel_rfl) (by simp) l0
        rw [e1] at f0
        have f1 := hF.at (s := 52) (i := 9) (by kernel_rfl) (by simp) l1
        rw [hR.2.1 9 _ l1 rfl] at f1
        exact wp_skip (w' := setBlk v1 (B 11) (nw 18 p)) (by simp [go_sem, f0, f1, e4, e5]) ⟨undef, rfl, RR.store 13 11 (nw 18 0) (nw 18 p) (B 11) hil hl rfl rfl rfl l0 rfl (by rw [nw_size]; decide) e1 (fun k r h => by have := hks k _ r h; omega) hR⟩
    case hf =>
      intro listed vals a1 v1 hall hR hF
      have hba : blk v1 (w.heap.size) = nw 9 a := (blk_of _ _ _ (hR.1.block (w.heap.size) (by simp [go_sem] <;> omega))).trans (by simp [go_sem])
      have phba : Pre (w.heap.size + 1) v1.heap.size := Nat.le_trans (show w.heap.size + 1 ≤ _ by simp [go_sem] <;> omega) hR.1.size
      have hbb : blk v1 (w.heap.size + 1) = nw 9 b := (blk_of _ _ _ (hR.1.block (w.heap.size + 1) (by simp [go_sem] <;> omega))).trans (by simp [go_sem])
      have phbb : Pre (w.heap.size + 1 + 1) v1.heap.size := Nat.le_trans (show w.heap.size + 1 + 1 ≤ _ by simp [go_sem] <;> omega) hR.1.size
      have hbs : blk v1 (w.heap.size + 1 + 1 + 1 + g0.os.length + g1.os.length) = nw 9 s := (blk_of _ _ _ (hR.1.block (w.heap.size + 1 + 1 + 1 + g0.os.length + g1.os.length) (by simp [go_sem] <;> omega))).trans (by simp [go_sem])
      have phbs : Pre (w.heap.size + 1 + 1 + 1 + g0.os.length + g1.os.length + 1) v1.heap.size := Nat.le_trans (show w.heap.size + 1 + 1 + 1 + g0.os.length + g1.os.length + 1 ≤ _ by simp [go_sem] <;> omega) hR.1.size
      have hbt : blk v1 (w.heap.size + 1 + 1 + 1 + g0.os.length + g1.os.length + 1 + g2.os.length) = nw 9 s := (blk_of _ _ _ (hR.1.block (w.heap.size + 1 + 1 + 1 + g0.os.length + g1.os.length + 1 + g2.os.length) (by simp [go_sem] <;> omega))).trans (by simp [go_sem])
      have phbt : Pre (w.heap.size + 1 + 1 + 1 + g0.os.length + g1.os.length + 1 + g2.os.length + 1) v1.heap.size := Nat.le_trans (show w.heap.size + 1 + 1 + 1 + g0.os.length + g1.os.length + 1 + g2.os.length + 1 ≤ _ by simp [go_sem] <;> omega) hR.1.size
      have hbd : blk v1 (w.heap.size + 1 + 1 + 1 + g0.os.length + g1.os.length + 1 + g2.os.length + 1 + g3.os.length) = nw 9 a := (blk_of _ _ _ (hR.1.block (w.heap.size + 1 + 1 + 1 + g0.os.length + g1.os.length + 1 + g2.os.length + 1 + g3.os.length) (by simp [go_sem] <;> omega))).trans (by simp [go_sem])
      have phbd : Pre (w.heap.size + 1 + 1 + 1 + g0.os.length + g1.os.length + 1 + g2.os.length + 1 + g3.os.length + 1) v1.heap.size := Nat.le_trans (show w.heap.size + 1 + 1 + 1 + g0.os.length + g1.os.length + 1 + g2.os.length + 1 + g3.os.length + 1 ≤ _ by simp [go_sem] <;> omega) hR.1.size
      have hbu : blk v1 (w.heap.size + 1 + 1 + 1 + g0.os.length + g1.os.length + 1 + g2.os.length + 1 + g3.os.length + 1 + g4.os.length) = nw 9 u := (blk_of _ _ _ (hR.1.block (w.heap.size + 1 + 1 + 1 + g0.os.length + g1.os.length + 1 + g2.os.length + 1 + g3.os.length + 1 + g4.os.length) (by simp [go_sem] <;> omega))).trans (by simp [go_sem])
      have phbu : Pre (w.heap.size + 1 + 1 + 1 + g0.os.length + g1.os.length + 1 + g2.os.length + 1 + g3.os.length + 1 + g4.os.length + 1) v1.heap.size := Nat.le_trans (show w.heap.size + 1 + 1 + 1 + g0.os.length + g1.os.length + 1 + g2.os.length + 1 + g3.os.length + 1 + g4.os.length + 1 ≤ _ by simp [go_sem] <;> omega) hR.1.size
      have hV := hR.2.1
      obtain ⟨B, h4, h5⟩ := hR.2.2.2
      have x0 := hV 0 _ (hall 0 (by simp)) rfl
      have x1 := hV 1 _ (hall 1 (by simp)) rfl
      have x2 := hV 2 _ (hall 2 (by simp)) rfl
      have x3 := hV 3 _ (hall 3 (by simp)) rfl
      have x4 := hV 4 _ (hall 4 (by simp)) rfl
      have x5 := hV 5 _ (hall 5 (by simp)) rfl
      have x6 := hV 6 _ (hall 6 (by simp)) rfl
      have x7 := hV 7 _ (hall 7 (by simp)) rfl
      have x8 := hV 8 _ (hall 8 (by simp)) rfl
      have x9 := hV 9 _ (hall 9 (by simp)) rfl
      obtain ⟨x10, _, p10, _, y10⟩ := h4 10 _ (hall 10 (by simp)) rfl
      simp only [hall 12 (by simp), if_true] at y10
      replace p10 : Pre (B 10 + 1) v1.heap.size := p10
      replace y10 : blk v1 (B 10) = nw 18 p := y10
      obtain ⟨x11, _, p11, _, y11⟩ := h4 11 _ (hall 11 (by simp)) rfl
      simp only [hall 13 (by simp), if_true] at y11
      replace p11 : Pre (B 11 + 1) v1.heap.size := p11
      replace y11 : blk v1 (B 11) = nw 18 p := y11
      have hb1 := hR.1
      rw [hF.final (by kernel_rfl) hall]
      simp only [putFrom, Act.put, List.setIfInBounds_toArray, List.set_cons_zero, List.set_cons_succ, x0, x1, x2, x3, x4, x5, x6, x7, x8, x9, x10, x11]
      generalize B 10 = b10 at *
      generalize B 11 = b11 at *
      clear hV h4 h5 hR hF hall x0 x1 x2 x3 x4 x5 x6 x7 x8 x9 x10 x11
      go_wp2_with fail
      refine wp_region_gr (by kernel_rfl) (by kernel_rfl) ?_
      repeat (go_big_quiet_step (first
        | (go_at_call_of 26 (#[Value.agg (nw 9 a), Value.agg (nw 9 b)] : Array Value); exact calls_gr (C8.out _))
        | (go_at_call_of 26 (#[Value.agg (nw 9 b), Value.agg (nw 9 a)] : Array Value); exact calls_gr (C9.out _))
        | (go_at_call_of 26 (#[Value.agg (nw 9 a), Value.agg (nw 9 a)] : Array Value); exact calls_gr (C10.out _))))
      refine wpQuiet_nil ?_
      intro w2 hw2
      obtain ⟨gq, hw3⟩ := hw2
      subst hw3
      go_wp2
      go_ret
      refine ⟨rfl, ?_⟩
      have k2 := fun (h : Gr w _) => h.below.trans (hb1.mono h.below.size)
      have k3 := k2 (by repeat (first | exact Gr.refl _ | apply Gr.drewN | apply Gr.drew | apply Gr.alloc | apply Gr.gro))
      refine k3.trans (Below.mono (Gr.below (w := v1) ?_) k3.size)
      exact (by repeat (first | exact Gr.refl _ | apply Gr.drewN | apply Gr.drew | apply Gr.alloc | apply Gr.gro))

end Go.Proofs.Ytjgpecdhlgdjoaa
