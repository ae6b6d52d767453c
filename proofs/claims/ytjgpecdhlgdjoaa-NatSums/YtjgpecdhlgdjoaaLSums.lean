/-
  The statement NatSums, walked: it answers true for every two numbers.
-/
import Derived.Test.YtjgpecdhlgdjoaaMixP
import Derived.Test.YtjgpecdhlgdjoaaRFrom
import Derived.Test.YtjgpecdhlgdjoaaRWide
import Derived.Test.YtjgpecdhlgdjoaaRAdd
import Derived.Test.YtjgpecdhlgdjoaaRSub
import Derived.Test.YtjgpecdhlgdjoaaRCmp
import Derived.Test.YtjgpecdhlgdjoaaRBits
import Derived.Test.YtjgpecdhlgdjoaaRMul
import Derived.Test.YtjgpecdhlgdjoaaRShl
import Derived.Test.YtjgpecdhlgdjoaaAwake
import Derived.Test.YtjgpecdhlgdjoaaEq
import Derived.Test.YtjgpecdhlgdjoaaQt
namespace Go.Proofs.Ytjgpecdhlgdjoaa
open Go.RowKit
attribute [local go_sem ↓] loadNat_is loadArr_is loadWide_is loadArrW_is storeNat_is storeWide_is
attribute [local go_sem] loadNat loadArr loadWide loadArrW storeNat storeWide idxArr fold9 fold18 nw_size nw_elem pre_self pre_1 pre_2 pre_3 pre_4 pre_5 pre_6 pre_7 pre_8 pre_9 pre_10 pre_11 pre_12 pre_13 pre_14 pre_15 pre_16 pre_17 pre_18 pre_19 pre_20 pre_21 pre_22 pre_23 pre_24 pre_25 pre_26 pre_27 pre_28 pre_29 pre_30 pre_31 pre_32 pre_33 pre_34 pre_35 pre_36 pre_37 pre_38 pre_39 pre_40 gro_size gro_drew gro_drewN drew_gro drewN_gro blk_gro frz_gro blk_drew frz_drew blk_drewN frz_drewN blk_alloc_at frz_alloc_at blk_alloc frz_alloc cell_gro frozen_gro cell_alloc_pre frozen_alloc_pre setCell_drewN alloc_drewN setBlk_drew setBlk_drewN setBlk_alloc_at setBlk_alloc setBlk_gro setCell_gro setCell_alloc_pre size_setBlk size_setCell
attribute [local go_sem] nw_ext9 nw_ext18 eqArr9 eqArr18 all_grow

attribute [local go_sem] loadNat2 loadArr2 loadWide2 loadK_nw ppre_1 ppre_2 ppre_3 ppre_4 ppre_5 ppre_6 ppre_7 ppre_8 ppre_9 ppre_10 ppre_11 ppre_12 ppre_13 ppre_14 ppre_15 ppre_16 ppre_17 ppre_18 ppre_19 ppre_20

attribute [local go_sem] eqN_self
theorem two_pw (E n : Nat) (h : E = 64 * n) : 1 * 2 ^ E = pw n := by
  rw [h, Nat.one_mul]
  rfl
theorem two_M (E : Nat) (h : E = 64 * 9) : 1 * 2 ^ E = M := two_pw E 9 h
theorem bl_pw (t n : Nat) : bl t ≤ 64 * n ↔ t < pw n := bl_le t (64 * n)
theorem bl_M (t : Nat) : bl t ≤ 64 * 9 ↔ t < M := bl_pw t 9
theorem dl_M (a : Nat) (h : a < M) : dl a ≤ 18 := (dl_le a 18).2 (by rw [pq_M]; exact h)
theorem dl_2M (a : Nat) (h : a < M + M) : dl a ≤ 19 := (dl_le a 19).2 (by
  have h2 : pq 19 = pq 18 * 4294967296 := pq_succ 18
  rw [pq_M] at h2
  omega)
theorem size_new (u : World) (o : Obj) : (u.alloc o).heap.size = u.heap.size + 1 := by simp
theorem Sl.one_new (u : World) (t : TypeId) (b : Nat) (h : u.heap.size = b) : Sl (u.alloc (.cells #[.int .u32 1] t)) (some ⟨b, 0, none⟩) 1 := by
  subst h
  exact Sl.of_blk (n := 1) (Nat.le_of_eq (size_new _ _).symm) (blk_alloc_at _ _ _ _ _ rfl) (by decide)
set_option maxRecDepth 100000 in
set_option maxHeartbeats 4000000 in
theorem sums_any (a b : Nat) (ha : a < M) (hb : b < M) (w : World) :
    Calls Try.prog 3 #[.agg (nw 9 a), .agg (nw 9 b)] w fun e w' => e = .returned (.bool true) ∧ Gr w w' := by
  obtain ⟨s, hs⟩ : ∃ s, (a + b) % M = s := ⟨_, rfl⟩
  obtain ⟨c, hc⟩ : ∃ c, decide (M ≤ a + b) = c := ⟨_, rfl⟩
  obtain ⟨d, hd⟩ : ∃ d, (a + M - b) % M = d := ⟨_, rfl⟩
  obtain ⟨e, he⟩ : ∃ e, decide (a < b) = e := ⟨_, rfl⟩
  obtain ⟨K, hK⟩ : ∃ K, cmpZ a b = K := ⟨_, rfl⟩
  have C1 : Hid (∀ w, Calls Try.prog 15 #[.agg (nw 9 a), .agg (nw 9 b)] w fun e w' => e = .returned (.tuple #[.agg (nw 9 s), .bool c]) ∧ Gr w w') := fun w => by rw [← hs, ← hc]; exact add_any a b ha hb w
  have C2 : Hid (∀ w, Calls Try.prog 16 #[.agg (nw 9 a), .agg (nw 9 b)] w fun r w' => r = .returned (.tuple #[.agg (nw 9 d), .bool e]) ∧ Gr w w') := fun w => by rw [← hd, ← he]; exact sub_any a b ha hb w
  have C3 : Hid (∀ w, Calls Try.prog 23 #[.agg (nw 9 a), .agg (nw 9 b)] w fun e w' => e = .returned (.agg (nw 18 (a * b))) ∧ Gr w w') := fun w => mul_any a b ha hb w
  have C4 : Hid (∀ w, Calls Try.prog 26 #[.agg (nw 9 a), .agg (nw 9 b)] w fun e w' => e = .returned (.int .i64 K) ∧ Gr w w') := fun w => by rw [← hK]; exact cmp_any a b ha hb w
  have C5 : Hid (∀ w p, Sl w p 1 → Calls Try.prog 20 #[.slice p 1 1, .int .i64 576] w (Nm M w)) := fun w p h => by
    obtain ⟨E, hE⟩ : ∃ E, E = 64 * 9 := ⟨_, rfl⟩
    have := rshl_any 1 1 E p w h (by decide) (by omega)
    rw [two_M E hE, show (E : Int) = 576 by omega] at this
    exact this
  have la := dl_M a ha
  have lb := dl_M b hb
  have lt := dl_2M (a + b) (by omega)
  have lu := dl_2M (a + M) (by omega)
  have lM := dl_2M M (by have := M_pos; omega)
  have D1 : Hid (∀ w p q n m, Sl w p a → Sl w q b → Calls Try.prog 17 #[.slice p (dl a) n, .slice q (dl b) m] w (Nm (a + b) w)) := fun w p q n m hp hq => radd_any a b n m p q w hp hq (by omega) (by omega)
  have D2 : Hid (∀ w p q n m, Sl w p a → Sl w q M → Calls Try.prog 17 #[.slice p (dl a) n, .slice q (dl M) m] w (Nm (a + M) w)) := fun w p q n m hp hq => radd_any a M n m p q w hp hq (by omega) (by omega)
  have D3 : Hid (∀ w p q n m, Sl w p (a + M) → Sl w q b → Calls Try.prog 19 #[.slice p (dl (a + M)) n, .slice q (dl b) m] w (Nm (a + M - b) w)) := fun w p q n m hp hq => rsub_any (a + M) b n m p q w hp hq (by omega) (by omega)
  have D4 : Hid (∀ w p q n m, Sl w p a → Sl w q b → Calls Try.prog 18 #[.slice p (dl a) n, .slice q (dl b) m] w fun e w' => e = .returned (.int .i64 K) ∧ Gr w w') := fun w p q n m hp hq => by rw [← hK]; exact rcmp_any a b n m p q w hp hq (by omega) (by omega)
  have D5 : Hid (∀ w p q n m, Sl w p a → Sl w q b → Calls Try.prog 25 #[.slice p (dl a) n, .slice q (dl b) m] w (Nm (a * b) w)) := fun w p q n m hp hq => rmul_any a b n m p q w hp hq (by omega) (by omega)
  have D6 : Hid (∀ w p n, Sl w p (a + b) → Calls Try.prog 21 #[.slice p (dl (a + b)) n] w fun e w' => e = .returned (.agg (nw 9 s)) ∧ Gr w w') := fun w p n h => by rw [← hs, show nw 9 ((a + b) % M) = nw 9 (a + b) from nw_mod _ _]; exact rnat_any (a + b) n p w h
  have D7 : Hid (∀ w p n, Sl w p (a + M - b) → Calls Try.prog 21 #[.slice p (dl (a + M - b)) n] w fun e w' => e = .returned (.agg (nw 9 d)) ∧ Gr w w') := fun w p n h => by rw [← hd, show nw 9 ((a + M - b) % M) = nw 9 (a + M - b) from nw_mod _ _]; exact rnat_any (a + M - b) n p w h
  have D8 : Hid (∀ w p n, Sl w p (a + b) → Calls Try.prog 22 #[.slice p (dl (a + b)) n] w fun e w' => e = .returned (.int .i64 ((bl (a + b) : Nat) : Int)) ∧ Gr w w') := fun w p n h => (rbits_any (a + b) n p w h (by omega)).mono fun e w' ⟨he, hw⟩ => ⟨he, hw ▸ Gr.refl _⟩
  have D9 : Hid (∀ w p n, Sl w p (a * b) → Calls Try.prog 24 #[.slice p (dl (a * b)) n] w fun e w' => e = .returned (.agg (nw 18 (a * b))) ∧ Gr w w') := fun w p n h => rwide_any (a * b) n p w h
  have D0 : Hid (∀ w, Calls Try.prog 14 #[.agg (nw 9 a)] w (Nm a w)) := fun w => from_any a ha w
  have DB : Hid (∀ w, Calls Try.prog 14 #[.agg (nw 9 b)] w (Nm b w)) := fun w => from_any b hb w
  have hgt : decide ((576 : Int) < ((bl (a + b) : Nat) : Int)) = c := by
    rw [← hc, decide_eq_decide]
    have := bl_M (a + b)
    omega
  have hlt : decide (K < 0) = e := by
    rw [← he, ← hK, decide_eq_decide]
    unfold cmpZ
    by_cases h : a < b
    · simp [h]
    · by_cases h2 : b < a <;> simp [h, h2]
  clear hs hc hd he hK ha hb la lb lt lu lM
  obtain ⟨t, ht⟩ : ∃ t, a + b = t := ⟨_, rfl⟩
  obtain ⟨u, hu⟩ : ∃ u, a + M - b = u := ⟨_, rfl⟩
  obtain ⟨y, hy⟩ : ∃ y, a + M = y := ⟨_, rfl⟩
  obtain ⟨m, hm⟩ : ∃ m, M = m := ⟨_, rfl⟩
  obtain ⟨z, hz⟩ : ∃ z, a * b = z := ⟨_, rfl⟩
  rw [ht] at D1 D6 D8 hgt
  rw [hu] at D3 D7
  rw [hy] at D2 D3
  rw [hm] at D2 C5
  rw [hz] at D5 D9 C3
  clear ht hu hy hm hz
  go_enter Try.func3, Try.ntmps3
  go_wp2
  refine wp_region_pred (by kernel_rfl) (by kernel_rfl) [.c (.agg (nw 9 a)), .n (a), .c (.agg (nw 9 b)), .n (b), .n (a), .n (b)] ?hs ?hf
  case hs =>
    intro listed vals a1 v i o hg hR hF ho hd
    have hba : blk v (w.heap.size) = nw 9 a := (hg.blk (w.heap.size) (by simp [go_sem] <;> omega)).trans (by simp [go_sem])
    have phba : Pre (w.heap.size + 1) v.heap.size := Nat.le_trans (show w.heap.size + 1 ≤ _ by simp [go_sem] <;> omega) hg.below.size
    have hbb : blk v (w.heap.size + 1) = nw 9 b := (hg.blk (w.heap.size + 1) (by simp [go_sem] <;> omega)).trans (by simp [go_sem])
    have phbb : Pre (w.heap.size + 1 + 1) v.heap.size := Nat.le_trans (show w.heap.size + 1 + 1 ≤ _ by simp [go_sem] <;> omega) hg.below.size
    have hi : i < 6 := by simpa using (Array.getElem?_eq_some_iff.1 ho).1
    obtain rfl | rfl | rfl | rfl | rfl | rfl : i = 0 ∨ i = 1 ∨ i = 2 ∨ i = 3 ∨ i = 4 ∨ i = 5 := by omega
    · obtain rfl := Option.some.inj ho
      have f0 := hF.old (s := 2) (v := .pointer (some ⟨w.heap.size, 0, none⟩)) (by kernel_rfl) rfl
      refine Or.inl ⟨wanted_no rfl, ?_⟩
      exact wp_val (.agg (nw 9 a)) (by simp [go_sem, f0, hba]) ⟨_, rfl, Gr.refl _, rfl⟩
    · obtain rfl := Option.some.inj ho
      have l0 := on_of hd 0 (by kernel_rfl)
      have f0 := hF.at (s := 14) (i := 0) (by kernel_rfl) (by simp) l0
      rw [show vals 0 = .agg (nw 9 a) from hR 0 l0] at f0
      refine Or.inl ⟨wanted_no rfl, ?_⟩
      exact wp_retN (by simp [go_sem, f0]) (D0.out _) (fun p n w2 hS hg2 => ⟨_, rfl, hg2, p, n, rfl, hS⟩)
    · obtain rfl := Option.some.inj ho
      have f0 := hF.old (s := 3) (v := .pointer (some ⟨w.heap.size + 1, 0, none⟩)) (by kernel_rfl) rfl
      refine Or.inl ⟨wanted_no rfl, ?_⟩
      exact wp_val (.agg (nw 9 b)) (by simp [go_sem, f0, hbb]) ⟨_, rfl, Gr.refl _, rfl⟩
    · obtain rfl := Option.some.inj ho
      have l0 := on_of hd 2 (by kernel_rfl)
      have f0 := hF.at (s := 16) (i := 2) (by kernel_rfl) (by simp) l0
      rw [show vals 2 = .agg (nw 9 b) from hR 2 l0] at f0
      refine Or.inl ⟨wanted_no rfl, ?_⟩
      exact wp_retN (by simp [go_sem, f0]) (DB.out _) (fun p n w2 hS hg2 => ⟨_, rfl, hg2, p, n, rfl, hS⟩)
    · obtain rfl := Option.some.inj ho
      have l0 := on_of hd 1 (by kernel_rfl)
      have f0 := hF.at (s := 15) (i := 1) (by kernel_rfl) (by simp) l0
      obtain ⟨p0, n0, e0, S0⟩ := (show ∃ p n, vals 1 = Value.slice p (dl (a)) n ∧ Sl v p (a) from hR 1 l0)
      rw [e0] at f0
      refine Or.inl ⟨wanted_no rfl, ?_⟩
      exact wp_val (.slice p0 (dl (a)) n0) (by simp [go_sem, f0]) ⟨_, rfl, Gr.refl _, _, _, rfl, S0⟩
    · obtain rfl := Option.some.inj ho
      have l0 := on_of hd 3 (by kernel_rfl)
      have f0 := hF.at (s := 17) (i := 3) (by kernel_rfl) (by simp) l0
      obtain ⟨p0, n0, e0, S0⟩ := (show ∃ p n, vals 3 = Value.slice p (dl (b)) n ∧ Sl v p (b) from hR 3 l0)
      rw [e0] at f0
      refine Or.inl ⟨wanted_no rfl, ?_⟩
      exact wp_val (.slice p0 (dl (b)) n0) (by simp [go_sem, f0]) ⟨_, rfl, Gr.refl _, _, _, rfl, S0⟩
  case hf =>
    intro vals v hg hR
    have hba : blk v (w.heap.size) = nw 9 a := (hg.blk (w.heap.size) (by simp [go_sem] <;> omega)).trans (by simp [go_sem])
    have phba : Pre (w.heap.size + 1) v.heap.size := Nat.le_trans (show w.heap.size + 1 ≤ _ by simp [go_sem] <;> omega) hg.below.size
    have hbb : blk v (w.heap.size + 1) = nw 9 b := (hg.blk (w.heap.size + 1) (by simp [go_sem] <;> omega)).trans (by simp [go_sem])
    have phbb : Pre (w.heap.size + 1 + 1) v.heap.size := Nat.le_trans (show w.heap.size + 1 + 1 ≤ _ by simp [go_sem] <;> omega) hg.below.size
    have x0 : vals 0 = .agg (nw 9 a) := hR 0 (by simp)
    obtain ⟨p1, n1, x1, S1⟩ := (show ∃ p n, vals 1 = Value.slice p (dl (a)) n ∧ Sl v p (a) from hR 1 (by simp))
    have x2 : vals 2 = .agg (nw 9 b) := hR 2 (by simp)
    obtain ⟨p3, n3, x3, S3⟩ := (show ∃ p n, vals 3 = Value.slice p (dl (b)) n ∧ Sl v p (b) from hR 3 (by simp))
    obtain ⟨p4, n4, x4, S4⟩ := (show ∃ p n, vals 4 = Value.slice p (dl (a)) n ∧ Sl v p (a) from hR 4 (by simp))
    obtain ⟨p5, n5, x5, S5⟩ := (show ∃ p n, vals 5 = Value.slice p (dl (b)) n ∧ Sl v p (b) from hR 5 (by simp))
    simp only [putFrom, Act.put, List.setIfInBounds_toArray, List.set_cons_zero, List.set_cons_succ, x0, x1, x2, x3, x4, x5]
    clear hR x0 x1 x2 x3 x4 x5
    have hgw : Gr w v := by
      obtain ⟨g, rfl⟩ := hg
      exact (by repeat (first | exact Gr.refl _ | apply Gr.drewN | apply Gr.drew | apply Gr.alloc | apply Gr.gro))
    have zba : w.heap.size + 1 ≤ v.heap.size := phba
    have zbb : w.heap.size + 1 + 1 ≤ v.heap.size := phbb
    clear hg
    go_wp2_with (first
      | (go_at_call 15; refine (C1.out _).mono ?_; rintro e w' ⟨rfl, g1, rfl⟩)
      | (go_at_call 16; refine (C2.out _).mono ?_; rintro e w' ⟨rfl, g2, rfl⟩)
      | (go_at_call_of 17 (Value.slice p5 (dl b) n5); refine (D1.out _ _ _ _ _ (S4.gr ?_) (S5.gr ?_)).mono ?_; exact (by repeat (first | exact Gr.refl _ | apply Gr.drewN | apply Gr.drew | apply Gr.alloc | apply Gr.gro)); exact (by repeat (first | exact Gr.refl _ | apply Gr.drewN | apply Gr.drew | apply Gr.alloc | apply Gr.gro)); rintro e w' ⟨pt, nt, rfl, St, g3, rfl⟩)
      | (go_at_call 18; refine (D4.out _ _ _ _ _ (S4.gr ?_) (S5.gr ?_)).mono ?_; exact (by repeat (first | exact Gr.refl _ | apply Gr.drewN | apply Gr.drew | apply Gr.alloc | apply Gr.gro)); exact (by repeat (first | exact Gr.refl _ | apply Gr.drewN | apply Gr.drew | apply Gr.alloc | apply Gr.gro)); rintro e w' ⟨rfl, g4, rfl⟩)
      | (go_at_call 20; refine (C5.out _ _ (Sl.one_new _ _ _ ?_)).mono ?_; simp only [gro_size, size_new]; rintro e w' ⟨pm, nm, rfl, Sm, g5, rfl⟩)
      | (go_at_call 17; refine (D2.out _ _ _ _ _ (S4.gr ?_) Sm).mono ?_; exact (by repeat (first | exact Gr.refl _ | apply Gr.drewN | apply Gr.drew | apply Gr.alloc | apply Gr.gro)); rintro e w' ⟨py, ny, rfl, Sy, g6, rfl⟩)
      | (go_at_call 19; refine (D3.out _ _ _ _ _ Sy (S5.gr ?_)).mono ?_; exact (by repeat (first | exact Gr.refl _ | apply Gr.drewN | apply Gr.drew | apply Gr.alloc | apply Gr.gro)); rintro e w' ⟨pu, nu, rfl, Su, g7, rfl⟩))
    refine wp_region_pred (by kernel_rfl) (by kernel_rfl) [.c (.agg (nw 9 s)), .c (.slice pt (dl t) nt), .c (.agg (nw 9 s)), .c (.bool true), .c (.bool true), .c (.bool c), .c (.slice pt (dl t) nt), .c (.int .i64 ((bl t : Nat) : Int)), .c (.bool c), .c (.bool true), .c (.bool true), .c (.bool true), .c (.agg (nw 9 d)), .c (.slice pu (dl u) nu), .c (.agg (nw 9 d)), .c (.bool true), .c (.bool true), .c (.bool true), .c (.bool e), .c (.bool e), .c (.bool true), .c (.bool true), .c (.bool true), .c (.agg (nw 9 a)), .c (.agg (nw 9 b)), .c (.agg (nw 18 z)), .c (.slice p4 (dl a) n4), .c (.slice p5 (dl b) n5), .n (z), .c (.agg (nw 18 z)), .c (.bool true), .c (.bool true), .c (.bool true), .c (.agg (nw 9 a)), .c (.agg (nw 9 b)), .c (.int .i64 K), .c (.slice p4 (dl a) n4), .c (.slice p5 (dl b) n5), .c (.int .i64 K), .c (.bool true), .c (.bool true), .c (.bool true), .c (.bool true), .c (.bool true), .c (.bool true)] ?hs ?hf
    case hs =>
      intro listed vals a1 v2 i o hg hR hF ho hd
      have hba2 : blk v2 (w.heap.size) = nw 9 a := (hg.blk (w.heap.size) (by simp [go_sem] <;> omega)).trans (by simp [go_sem, hba, phba])
      have phba2 : Pre (w.heap.size + 1) v2.heap.size := Nat.le_trans (show w.heap.size + 1 ≤ _ by simp [go_sem] <;> omega) hg.below.size
      have hbb2 : blk v2 (w.heap.size + 1) = nw 9 b := (hg.blk (w.heap.size + 1) (by simp [go_sem] <;> omega)).trans (by simp [go_sem, hbb, phbb])
      have phbb2 : Pre (w.heap.size + 1 + 1) v2.heap.size := Nat.le_trans (show w.heap.size + 1 + 1 ≤ _ by simp [go_sem] <;> omega) hg.below.size
      have hbs : blk v2 (v.heap.size + g1.os.length) = nw 9 s := (hg.blk (v.heap.size + g1.os.length) (by simp [go_sem] <;> omega)).trans (by simp [go_sem])
      have phbs : Pre (v.heap.size + g1.os.length + 1) v2.heap.size := Nat.le_trans (show v.heap.size + g1.os.length + 1 ≤ _ by simp [go_sem] <;> omega) hg.below.size
      have hbd : blk v2 (v.heap.size + g1.os.length + 1 + g2.os.length) = nw 9 d := (hg.blk (v.heap.size + g1.os.length + 1 + g2.os.length) (by simp [go_sem] <;> omega)).trans (by simp [go_sem])
      have phbd : Pre (v.heap.size + g1.os.length + 1 + g2.os.length + 1) v2.heap.size := Nat.le_trans (show v.heap.size + g1.os.length + 1 + g2.os.length + 1 ≤ _ by simp [go_sem] <;> omega) hg.below.size
      clear zba zbb
      have T4 : Sl v2 p4 a := (S4.gr (by repeat (first | exact Gr.refl _ | apply Gr.drewN | apply Gr.drew | apply Gr.alloc | apply Gr.gro))).gr hg
      have T5 : Sl v2 p5 b := (S5.gr (by repeat (first | exact Gr.refl _ | apply Gr.drewN | apply Gr.drew | apply Gr.alloc | apply Gr.gro))).gr hg
      have Tt : Sl v2 pt t := (St.gr (by repeat (first | exact Gr.refl _ | apply Gr.drewN | apply Gr.drew | apply Gr.alloc | apply Gr.gro))).gr hg
      have Tu : Sl v2 pu u := (Su.gr (by repeat (first | exact Gr.refl _ | apply Gr.drewN | apply Gr.drew | apply Gr.alloc | apply Gr.gro))).gr hg
      have hi : i < 45 := by simpa using (Array.getElem?_eq_some_iff.1 ho).1
      obtain rfl | rfl | rfl | rfl | rfl | rfl | rfl | rfl | rfl | rfl | rfl | rfl | rfl | rfl | rfl | rfl | rfl | rfl | rfl | rfl | rfl | rfl | rfl | rfl | rfl | rfl | rfl | rfl | rfl | rfl | rfl | rfl | rfl | rfl | rfl | rfl | rfl | rfl | rfl | rfl | rfl | rfl | rfl | rfl | rfl : i = 0 ∨ i = 1 ∨ i = 2 ∨ i = 3 ∨ i = 4 ∨ i = 5 ∨ i = 6 ∨ i = 7 ∨ i = 8 ∨ i = 9 ∨ i = 10 ∨ i = 11 ∨ i = 12 ∨ i = 13 ∨ i = 14 ∨ i = 15 ∨ i = 16 ∨ i = 17 ∨ i = 18 ∨ i = 19 ∨ i = 20 ∨ i = 21 ∨ i = 22 ∨ i = 23 ∨ i = 24 ∨ i = 25 ∨ i = 26 ∨ i = 27 ∨ i = 28 ∨ i = 29 ∨ i = 30 ∨ i = 31 ∨ i = 32 ∨ i = 33 ∨ i = 34 ∨ i = 35 ∨ i = 36 ∨ i = 37 ∨ i = 38 ∨ i = 39 ∨ i = 40 ∨ i = 41 ∨ i = 42 ∨ i = 43 ∨ i = 44 := by omega
      · obtain rfl := Option.some.inj ho
        have f0 := hF.old (s := 7) (v := .pointer (some ⟨v.heap.size + g1.os.length, 0, none⟩)) (by kernel_rfl) rfl
        refine Or.inl ⟨wanted_no rfl, ?_⟩
        exact wp_val (.agg (nw 9 s)) (by simp [go_sem, f0, hbs]) ⟨_, rfl, Gr.refl _, rfl⟩
      · obtain rfl := Option.some.inj ho
        have f0 := hF.old (s := 11) (v := .slice pt (dl t) nt) (by kernel_rfl) rfl
        refine Or.inl ⟨wanted_no rfl, ?_⟩
        exact wp_val (.slice pt (dl t) nt) (by simp [go_sem, f0]) ⟨_, rfl, Gr.refl _, rfl⟩
      · obtain rfl := Option.some.inj ho
        have l0 := on_of hd 1 (by kernel_rfl)
        have f0 := hF.at (s := 44) (i := 1) (by kernel_rfl) (by simp) l0
        rw [show vals 1 = .slice pt (dl t) nt from hR 1 l0] at f0
        refine Or.inl ⟨wanted_no rfl, ?_⟩
        exact wp_ret (.agg (nw 9 s)) (by simp [go_sem, f0]) (D6.out _ _ nt Tt) (fun w2 hg2 => ⟨_, rfl, hg2, rfl⟩)
      · obtain rfl := Option.some.inj ho
        have l0 := on_of hd 0 (by kernel_rfl)
        have f0 := hF.at (s := 43) (i := 0) (by kernel_rfl) (by simp) l0
        rw [show vals 0 = .agg (nw 9 s) from hR 0 l0] at f0
        have l1 := on_of hd 2 (by kernel_rfl)
        have f1 := hF.at (s := 45) (i := 2) (by kernel_rfl) (by simp) l1
        rw [show vals 2 = .agg (nw 9 s) from hR 2 l1] at f1
        refine Or.inl ⟨wanted_no rfl, ?_⟩
        exact wp_val (.bool true) (by simp [go_sem, f0, f1]) ⟨_, rfl, Gr.refl _, rfl⟩
      · obtain rfl := Option.some.inj ho
        have l0 := on_of hd 3 (by kernel_rfl)
        have f0 := hF.at (s := 46) (i := 3) (by kernel_rfl) (by simp) l0
        rw [show vals 3 = .bool true from hR 3 l0] at f0
        refine Or.inl ⟨wanted_no rfl, ?_⟩
        exact wp_val (.bool true) (by simp [go_sem, f0]) ⟨_, rfl, Gr.refl _, rfl⟩
      · obtain rfl := Option.some.inj ho
        have lg := on_of hd 4 (by kernel_rfl)
        have fg := hF.at (s := 47) (i := 4) (by kernel_rfl) (by simp) lg
        rw [show vals 4 = .bool true from hR 4 lg] at fg
        have f0 := hF.old (s := 8) (v := .bool c) (by kernel_rfl) rfl
        refine Or.inl ⟨wanted_at (j := 4) (s := 47) rfl rfl rfl fg, ?_⟩
        exact wp_val (.bool c) (by simp [go_sem, f0]) ⟨_, rfl, Gr.refl _, rfl⟩
      · obtain rfl := Option.some.inj ho
        have lg := on_of hd 4 (by kernel_rfl)
        have fg := hF.at (s := 47) (i := 4) (by kernel_rfl) (by simp) lg
        rw [show vals 4 = .bool true from hR 4 lg] at fg
        have f0 := hF.old (s := 11) (v := .slice pt (dl t) nt) (by kernel_rfl) rfl
        refine Or.inl ⟨wanted_at (j := 4) (s := 47) rfl rfl rfl fg, ?_⟩
        exact wp_val (.slice pt (dl t) nt) (by simp [go_sem, f0]) ⟨_, rfl, Gr.refl _, rfl⟩
      · obtain rfl := Option.some.inj ho
        have lg := on_of hd 4 (by kernel_rfl)
        have fg := hF.at (s := 47) (i := 4) (by kernel_rfl) (by simp) lg
        rw [show vals 4 = .bool true from hR 4 lg] at fg
        have l0 := on_of hd 6 (by kernel_rfl)
        have f0 := hF.at (s := 49) (i := 6) (by kernel_rfl) (by simp) l0
        rw [show vals 6 = .slice pt (dl t) nt from hR 6 l0] at f0
        refine Or.inl ⟨wanted_at (j := 4) (s := 47) rfl rfl rfl fg, ?_⟩
        exact wp_ret (.int .i64 ((bl t : Nat) : Int)) (by simp [go_sem, f0]) (D8.out _ _ nt Tt) (fun w2 hg2 => ⟨_, rfl, hg2, rfl⟩)
      · obtain rfl := Option.some.inj ho
        have lg := on_of hd 4 (by kernel_rfl)
        have fg := hF.at (s := 47) (i := 4) (by kernel_rfl) (by simp) lg
        rw [show vals 4 = .bool true from hR 4 lg] at fg
        have l0 := on_of hd 7 (by kernel_rfl)
        have f0 := hF.at (s := 50) (i := 7) (by kernel_rfl) (by simp) l0
        rw [show vals 7 = .int .i64 ((bl t : Nat) : Int) from hR 7 l0] at f0
        refine Or.inl ⟨wanted_at (j := 4) (s := 47) rfl rfl rfl fg, ?_⟩
        exact wp_val (.bool c) (by simp [go_sem, f0, hgt]) ⟨_, rfl, Gr.refl _, rfl⟩
      · obtain rfl := Option.some.inj ho
        have lg := on_of hd 4 (by kernel_rfl)
        have fg := hF.at (s := 47) (i := 4) (by kernel_rfl) (by simp) lg
        rw [show vals 4 = .bool true from hR 4 lg] at fg
        have l0 := on_of hd 5 (by kernel_rfl)
        have f0 := hF.at (s := 48) (i := 5) (by kernel_rfl) (by simp) l0
        rw [show vals 5 = .bool c from hR 5 l0] at f0
        have l1 := on_of hd 8 (by kernel_rfl)
        have f1 := hF.at (s := 51) (i := 8) (by kernel_rfl) (by simp) l1
        rw [show vals 8 = .bool c from hR 8 l1] at f1
        refine Or.inl ⟨wanted_at (j := 4) (s := 47) rfl rfl rfl fg, ?_⟩
        exact wp_val (.bool true) (by simp [go_sem, f0, f1]) ⟨_, rfl, Gr.refl _, rfl⟩
      · obtain rfl := Option.some.inj ho
        have l0 := on_of hd 4 (by kernel_rfl)
        have f0 := hF.at (s := 47) (i := 4) (by kernel_rfl) (by simp) l0
        rw [show vals 4 = .bool true from hR 4 l0] at f0
        have l1 := on_of hd 9 (by kernel_rfl)
        have f1 := hF.at (s := 52) (i := 9) (by kernel_rfl) (by simp) l1
        rw [show vals 9 = .bool true from hR 9 l1] at f1
        refine Or.inl ⟨wanted_no rfl, ?_⟩
        exact wp_val (.bool true) (by simp [go_sem, f0, f1]) ⟨_, rfl, Gr.refl _, rfl⟩
      · obtain rfl := Option.some.inj ho
        have l0 := on_of hd 10 (by kernel_rfl)
        have f0 := hF.at (s := 53) (i := 10) (by kernel_rfl) (by simp) l0
        rw [show vals 10 = .bool true from hR 10 l0] at f0
        refine Or.inl ⟨wanted_no rfl, ?_⟩
        exact wp_val (.bool true) (by simp [go_sem, f0]) ⟨_, rfl, Gr.refl _, rfl⟩
      · obtain rfl := Option.some.inj ho
        have lg := on_of hd 11 (by kernel_rfl)
        have fg := hF.at (s := 54) (i := 11) (by kernel_rfl) (by simp) lg
        rw [show vals 11 = .bool true from hR 11 lg] at fg
        have f0 := hF.old (s := 9) (v := .pointer (some ⟨v.heap.size + g1.os.length + 1 + g2.os.length, 0, none⟩)) (by kernel_rfl) rfl
        refine Or.inl ⟨wanted_at (j := 11) (s := 54) rfl rfl rfl fg, ?_⟩
        exact wp_val (.agg (nw 9 d)) (by simp [go_sem, f0, hbd]) ⟨_, rfl, Gr.refl _, rfl⟩
      · obtain rfl := Option.some.inj ho
        have lg := on_of hd 11 (by kernel_rfl)
        have fg := hF.at (s := 54) (i := 11) (by kernel_rfl) (by simp) lg
        rw [show vals 11 = .bool true from hR 11 lg] at fg
        have f0 := hF.old (s := 13) (v := .slice pu (dl u) nu) (by kernel_rfl) rfl
        refine Or.inl ⟨wanted_at (j := 11) (s := 54) rfl rfl rfl fg, ?_⟩
        exact wp_val (.slice pu (dl u) nu) (by simp [go_sem, f0]) ⟨_, rfl, Gr.refl _, rfl⟩
      · obtain rfl := Option.some.inj ho
        have lg := on_of hd 11 (by kernel_rfl)
        have fg := hF.at (s := 54) (i := 11) (by kernel_rfl) (by simp) lg
        rw [show vals 11 = .bool true from hR 11 lg] at fg
        have l0 := on_of hd 13 (by kernel_rfl)
        have f0 := hF.at (s := 56) (i := 13) (by kernel_rfl) (by simp) l0
        rw [show vals 13 = .slice pu (dl u) nu from hR 13 l0] at f0
        refine Or.inl ⟨wanted_at (j := 11) (s := 54) rfl rfl rfl fg, ?_⟩
        exact wp_ret (.agg (nw 9 d)) (by simp [go_sem, f0]) (D7.out _ _ nu Tu) (fun w2 hg2 => ⟨_, rfl, hg2, rfl⟩)
      · obtain rfl := Option.some.inj ho
        have lg := on_of hd 11 (by kernel_rfl)
        have fg := hF.at (s := 54) (i := 11) (by kernel_rfl) (by simp) lg
        rw [show vals 11 = .bool true from hR 11 lg] at fg
        have l0 := on_of hd 12 (by kernel_rfl)
        have f0 := hF.at (s := 55) (i := 12) (by kernel_rfl) (by simp) l0
        rw [show vals 12 = .agg (nw 9 d) from hR 12 l0] at f0
        have l1 := on_of hd 14 (by kernel_rfl)
        have f1 := hF.at (s := 57) (i := 14) (by kernel_rfl) (by simp) l1
        rw [show vals 14 = .agg (nw 9 d) from hR 14 l1] at f1
        refine Or.inl ⟨wanted_at (j := 11) (s := 54) rfl rfl rfl fg, ?_⟩
        exact wp_val (.bool true) (by simp [go_sem, f0, f1]) ⟨_, rfl, Gr.refl _, rfl⟩
      · obtain rfl := Option.some.inj ho
        have l0 := on_of hd 11 (by kernel_rfl)
        have f0 := hF.at (s := 54) (i := 11) (by kernel_rfl) (by simp) l0
        rw [show vals 11 = .bool true from hR 11 l0] at f0
        have l1 := on_of hd 15 (by kernel_rfl)
        have f1 := hF.at (s := 58) (i := 15) (by kernel_rfl) (by simp) l1
        rw [show vals 15 = .bool true from hR 15 l1] at f1
        refine Or.inl ⟨wanted_no rfl, ?_⟩
        exact wp_val (.bool true) (by simp [go_sem, f0, f1]) ⟨_, rfl, Gr.refl _, rfl⟩
      · obtain rfl := Option.some.inj ho
        have l0 := on_of hd 16 (by kernel_rfl)
        have f0 := hF.at (s := 59) (i := 16) (by kernel_rfl) (by simp) l0
        rw [show vals 16 = .bool true from hR 16 l0] at f0
        refine Or.inl ⟨wanted_no rfl, ?_⟩
        exact wp_val (.bool true) (by simp [go_sem, f0]) ⟨_, rfl, Gr.refl _, rfl⟩
      · obtain rfl := Option.some.inj ho
        have lg := on_of hd 17 (by kernel_rfl)
        have fg := hF.at (s := 60) (i := 17) (by kernel_rfl) (by simp) lg
        rw [show vals 17 = .bool true from hR 17 lg] at fg
        have f0 := hF.old (s := 10) (v := .bool e) (by kernel_rfl) rfl
        refine Or.inl ⟨wanted_at (j := 17) (s := 60) rfl rfl rfl fg, ?_⟩
        exact wp_val (.bool e) (by simp [go_sem, f0]) ⟨_, rfl, Gr.refl _, rfl⟩
      · obtain rfl := Option.some.inj ho
        have lg := on_of hd 17 (by kernel_rfl)
        have fg := hF.at (s := 60) (i := 17) (by kernel_rfl) (by simp) lg
        rw [show vals 17 = .bool true from hR 17 lg] at fg
        have f0 := hF.old (s := 12) (v := .bool e) (by kernel_rfl) rfl
        refine Or.inl ⟨wanted_at (j := 17) (s := 60) rfl rfl rfl fg, ?_⟩
        exact wp_val (.bool e) (by simp [go_sem, f0]) ⟨_, rfl, Gr.refl _, rfl⟩
      · obtain rfl := Option.some.inj ho
        have lg := on_of hd 17 (by kernel_rfl)
        have fg := hF.at (s := 60) (i := 17) (by kernel_rfl) (by simp) lg
        rw [show vals 17 = .bool true from hR 17 lg] at fg
        have l0 := on_of hd 18 (by kernel_rfl)
        have f0 := hF.at (s := 61) (i := 18) (by kernel_rfl) (by simp) l0
        rw [show vals 18 = .bool e from hR 18 l0] at f0
        have l1 := on_of hd 19 (by kernel_rfl)
        have f1 := hF.at (s := 62) (i := 19) (by kernel_rfl) (by simp) l1
        rw [show vals 19 = .bool e from hR 19 l1] at f1
        refine Or.inl ⟨wanted_at (j := 17) (s := 60) rfl rfl rfl fg, ?_⟩
        exact wp_val (.bool true) (by simp [go_sem, f0, f1]) ⟨_, rfl, Gr.refl _, rfl⟩
      · obtain rfl := Option.some.inj ho
        have l0 := on_of hd 17 (by kernel_rfl)
        have f0 := hF.at (s := 60) (i := 17) (by kernel_rfl) (by simp) l0
        rw [show vals 17 = .bool true from hR 17 l0] at f0
        have l1 := on_of hd 20 (by kernel_rfl)
        have f1 := hF.at (s := 63) (i := 20) (by kernel_rfl) (by simp) l1
        rw [show vals 20 = .bool true from hR 20 l1] at f1
        refine Or.inl ⟨wanted_no rfl, ?_⟩
        exact wp_val (.bool true) (by simp [go_sem, f0, f1]) ⟨_, rfl, Gr.refl _, rfl⟩
      · obtain rfl := Option.some.inj ho
        have l0 := on_of hd 21 (by kernel_rfl)
        have f0 := hF.at (s := 64) (i := 21) (by kernel_rfl) (by simp) l0
        rw [show vals 21 = .bool true from hR 21 l0] at f0
        refine Or.inl ⟨wanted_no rfl, ?_⟩
        exact wp_val (.bool true) (by simp [go_sem, f0]) ⟨_, rfl, Gr.refl _, rfl⟩
      · obtain rfl := Option.some.inj ho
        have lg := on_of hd 22 (by kernel_rfl)
        have fg := hF.at (s := 65) (i := 22) (by kernel_rfl) (by simp) lg
        rw [show vals 22 = .bool true from hR 22 lg] at fg
        have f0 := hF.old (s := 2) (v := .pointer (some ⟨w.heap.size, 0, none⟩)) (by kernel_rfl) rfl
        refine Or.inl ⟨wanted_at (j := 22) (s := 65) rfl rfl rfl fg, ?_⟩
        exact wp_val (.agg (nw 9 a)) (by simp [go_sem, f0, hba2]) ⟨_, rfl, Gr.refl _, rfl⟩
      · obtain rfl := Option.some.inj ho
        have lg := on_of hd 22 (by kernel_rfl)
        have fg := hF.at (s := 65) (i := 22) (by kernel_rfl) (by simp) lg
        rw [show vals 22 = .bool true from hR 22 lg] at fg
        have f0 := hF.old (s := 3) (v := .pointer (some ⟨w.heap.size + 1, 0, none⟩)) (by kernel_rfl) rfl
        refine Or.inl ⟨wanted_at (j := 22) (s := 65) rfl rfl rfl fg, ?_⟩
        exact wp_val (.agg (nw 9 b)) (by simp [go_sem, f0, hbb2]) ⟨_, rfl, Gr.refl _, rfl⟩
      · obtain rfl := Option.some.inj ho
        have lg := on_of hd 22 (by kernel_rfl)
        have fg := hF.at (s := 65) (i := 22) (by kernel_rfl) (by simp) lg
        rw [show vals 22 = .bool true from hR 22 lg] at fg
        have l0 := on_of hd 23 (by kernel_rfl)
        have f0 := hF.at (s := 66) (i := 23) (by kernel_rfl) (by simp) l0
        rw [show vals 23 = .agg (nw 9 a) from hR 23 l0] at f0
        have l1 := on_of hd 24 (by kernel_rfl)
        have f1 := hF.at (s := 67) (i := 24) (by kernel_rfl) (by simp) l1
        rw [show vals 24 = .agg (nw 9 b) from hR 24 l1] at f1
        refine Or.inl ⟨wanted_at (j := 22) (s := 65) rfl rfl rfl fg, ?_⟩
        exact wp_ret (.agg (nw 18 z)) (by simp [go_sem, f0, f1]) (C3.out _) (fun w2 hg2 => ⟨_, rfl, hg2, rfl⟩)
      · obtain rfl := Option.some.inj ho
        have lg := on_of hd 22 (by kernel_rfl)
        have fg := hF.at (s := 65) (i := 22) (by kernel_rfl) (by simp) lg
        rw [show vals 22 = .bool true from hR 22 lg] at fg
        have f0 := hF.old (s := 5) (v := .slice p4 (dl a) n4) (by kernel_rfl) rfl
        refine Or.inl ⟨wanted_at (j := 22) (s := 65) rfl rfl rfl fg, ?_⟩
        exact wp_val (.slice p4 (dl a) n4) (by simp [go_sem, f0]) ⟨_, rfl, Gr.refl _, rfl⟩
      · obtain rfl := Option.some.inj ho
        have lg := on_of hd 22 (by kernel_rfl)
        have fg := hF.at (s := 65) (i := 22) (by kernel_rfl) (by simp) lg
        rw [show vals 22 = .bool true from hR 22 lg] at fg
        have f0 := hF.old (s := 6) (v := .slice p5 (dl b) n5) (by kernel_rfl) rfl
        refine Or.inl ⟨wanted_at (j := 22) (s := 65) rfl rfl rfl fg, ?_⟩
        exact wp_val (.slice p5 (dl b) n5) (by simp [go_sem, f0]) ⟨_, rfl, Gr.refl _, rfl⟩
      · obtain rfl := Option.some.inj ho
        have lg := on_of hd 22 (by kernel_rfl)
        have fg := hF.at (s := 65) (i := 22) (by kernel_rfl) (by simp) lg
        rw [show vals 22 = .bool true from hR 22 lg] at fg
        have l0 := on_of hd 26 (by kernel_rfl)
        have f0 := hF.at (s := 69) (i := 26) (by kernel_rfl) (by simp) l0
        rw [show vals 26 = .slice p4 (dl a) n4 from hR 26 l0] at f0
        have l1 := on_of hd 27 (by kernel_rfl)
        have f1 := hF.at (s := 70) (i := 27) (by kernel_rfl) (by simp) l1
        rw [show vals 27 = .slice p5 (dl b) n5 from hR 27 l1] at f1
        refine Or.inl ⟨wanted_at (j := 22) (s := 65) rfl rfl rfl fg, ?_⟩
        exact wp_retN (by simp [go_sem, f0, f1]) (D5.out _ _ _ n4 n5 T4 T5) (fun p n w2 hS hg2 => ⟨_, rfl, hg2, p, n, rfl, hS⟩)
      · obtain rfl := Option.some.inj ho
        have lg := on_of hd 22 (by kernel_rfl)
        have fg := hF.at (s := 65) (i := 22) (by kernel_rfl) (by simp) lg
        rw [show vals 22 = .bool true from hR 22 lg] at fg
        have l0 := on_of hd 28 (by kernel_rfl)
        have f0 := hF.at (s := 71) (i := 28) (by kernel_rfl) (by simp) l0
        obtain ⟨p0, n0, e0, S0⟩ := (show ∃ p n, vals 28 = Value.slice p (dl (z)) n ∧ Sl v2 p (z) from hR 28 l0)
        rw [e0] at f0
        refine Or.inl ⟨wanted_at (j := 22) (s := 65) rfl rfl rfl fg, ?_⟩
        exact wp_ret (.agg (nw 18 z)) (by simp [go_sem, f0]) (D9.out _ _ n0 S0) (fun w2 hg2 => ⟨_, rfl, hg2, rfl⟩)
      · obtain rfl := Option.some.inj ho
        have lg := on_of hd 22 (by kernel_rfl)
        have fg := hF.at (s := 65) (i := 22) (by kernel_rfl) (by simp) lg
        rw [show vals 22 = .bool true from hR 22 lg] at fg
        have l0 := on_of hd 25 (by kernel_rfl)
        have f0 := hF.at (s := 68) (i := 25) (by kernel_rfl) (by simp) l0
        rw [show vals 25 = .agg (nw 18 z) from hR 25 l0] at f0
        have l1 := on_of hd 29 (by kernel_rfl)
        have f1 := hF.at (s := 72) (i := 29) (by kernel_rfl) (by simp) l1
        rw [show vals 29 = .agg (nw 18 z) from hR 29 l1] at f1
        refine Or.inl ⟨wanted_at (j := 22) (s := 65) rfl rfl rfl fg, ?_⟩
        exact wp_val (.bool true) (by simp [go_sem, f0, f1]) ⟨_, rfl, Gr.refl _, rfl⟩
      · obtain rfl := Option.some.inj ho
        have l0 := on_of hd 22 (by kernel_rfl)
        have f0 := hF.at (s := 65) (i := 22) (by kernel_rfl) (by simp) l0
        rw [show vals 22 = .bool true from hR 22 l0] at f0
        have l1 := on_of hd 30 (by kernel_rfl)
        have f1 := hF.at (s := 73) (i := 30) (by kernel_rfl) (by simp) l1
        rw [show vals 30 = .bool true from hR 30 l1] at f1
        refine Or.inl ⟨wanted_no rfl, ?_⟩
        exact wp_val (.bool true) (by simp [go_sem, f0, f1]) ⟨_, rfl, Gr.refl _, rfl⟩
      · obtain rfl := Option.some.inj ho
        have l0 := on_of hd 31 (by kernel_rfl)
        have f0 := hF.at (s := 74) (i := 31) (by kernel_rfl) (by simp) l0
        rw [show vals 31 = .bool true from hR 31 l0] at f0
        refine Or.inl ⟨wanted_no rfl, ?_⟩
        exact wp_val (.bool true) (by simp [go_sem, f0]) ⟨_, rfl, Gr.refl _, rfl⟩
      · obtain rfl := Option.some.inj ho
        have lg := on_of hd 32 (by kernel_rfl)
        have fg := hF.at (s := 75) (i := 32) (by kernel_rfl) (by simp) lg
        rw [show vals 32 = .bool true from hR 32 lg] at fg
        have f0 := hF.old (s := 2) (v := .pointer (some ⟨w.heap.size, 0, none⟩)) (by kernel_rfl) rfl
        refine Or.inl ⟨wanted_at (j := 32) (s := 75) rfl rfl rfl fg, ?_⟩
        exact wp_val (.agg (nw 9 a)) (by simp [go_sem, f0, hba2]) ⟨_, rfl, Gr.refl _, rfl⟩
      · obtain rfl := Option.some.inj ho
        have lg := on_of hd 32 (by kernel_rfl)
        have fg := hF.at (s := 75) (i := 32) (by kernel_rfl) (by simp) lg
        rw [show vals 32 = .bool true from hR 32 lg] at fg
        have f0 := hF.old (s := 3) (v := .pointer (some ⟨w.heap.size + 1, 0, none⟩)) (by kernel_rfl) rfl
        refine Or.inl ⟨wanted_at (j := 32) (s := 75) rfl rfl rfl fg, ?_⟩
        exact wp_val (.agg (nw 9 b)) (by simp [go_sem, f0, hbb2]) ⟨_, rfl, Gr.refl _, rfl⟩
      · obtain rfl := Option.some.inj ho
        have lg := on_of hd 32 (by kernel_rfl)
        have fg := hF.at (s := 75) (i := 32) (by kernel_rfl) (by simp) lg
        rw [show vals 32 = .bool true from hR 32 lg] at fg
        have l0 := on_of hd 33 (by kernel_rfl)
        have f0 := hF.at (s := 76) (i := 33) (by kernel_rfl) (by simp) l0
        rw [show vals 33 = .agg (nw 9 a) from hR 33 l0] at f0
        have l1 := on_of hd 34 (by kernel_rfl)
        have f1 := hF.at (s := 77) (i := 34) (by kernel_rfl) (by simp) l1
        rw [show vals 34 = .agg (nw 9 b) from hR 34 l1] at f1
        refine Or.inl ⟨wanted_at (j := 32) (s := 75) rfl rfl rfl fg, ?_⟩
        exact wp_ret (.int .i64 K) (by simp [go_sem, f0, f1]) (C4.out _) (fun w2 hg2 => ⟨_, rfl, hg2, rfl⟩)
      · obtain rfl := Option.some.inj ho
        have lg := on_of hd 32 (by kernel_rfl)
        have fg := hF.at (s := 75) (i := 32) (by kernel_rfl) (by simp) lg
        rw [show vals 32 = .bool true from hR 32 lg] at fg
        have f0 := hF.old (s := 5) (v := .slice p4 (dl a) n4) (by kernel_rfl) rfl
        refine Or.inl ⟨wanted_at (j := 32) (s := 75) rfl rfl rfl fg, ?_⟩
        exact wp_val (.slice p4 (dl a) n4) (by simp [go_sem, f0]) ⟨_, rfl, Gr.refl _, rfl⟩
      · obtain rfl := Option.some.inj ho
        have lg := on_of hd 32 (by kernel_rfl)
        have fg := hF.at (s := 75) (i := 32) (by kernel_rfl) (by simp) lg
        rw [show vals 32 = .bool true from hR 32 lg] at fg
        have f0 := hF.old (s := 6) (v := .slice p5 (dl b) n5) (by kernel_rfl) rfl
        refine Or.inl ⟨wanted_at (j := 32) (s := 75) rfl rfl rfl fg, ?_⟩
        exact wp_val (.slice p5 (dl b) n5) (by simp [go_sem, f0]) ⟨_, rfl, Gr.refl _, rfl⟩
      · obtain rfl := Option.some.inj ho
        have lg := on_of hd 32 (by kernel_rfl)
        have fg := hF.at (s := 75) (i := 32) (by kernel_rfl) (by simp) lg
        rw [show vals 32 = .bool true from hR 32 lg] at fg
        have l0 := on_of hd 36 (by kernel_rfl)
        have f0 := hF.at (s := 79) (i := 36) (by kernel_rfl) (by simp) l0
        rw [show vals 36 = .slice p4 (dl a) n4 from hR 36 l0] at f0
        have l1 := on_of hd 37 (by kernel_rfl)
        have f1 := hF.at (s := 80) (i := 37) (by kernel_rfl) (by simp) l1
        rw [show vals 37 = .slice p5 (dl b) n5 from hR 37 l1] at f1
        refine Or.inl ⟨wanted_at (j := 32) (s := 75) rfl rfl rfl fg, ?_⟩
        exact wp_ret (.int .i64 K) (by simp [go_sem, f0, f1]) (D4.out _ _ _ n4 n5 T4 T5) (fun w2 hg2 => ⟨_, rfl, hg2, rfl⟩)
      · obtain rfl := Option.some.inj ho
        have lg := on_of hd 32 (by kernel_rfl)
        have fg := hF.at (s := 75) (i := 32) (by kernel_rfl) (by simp) lg
        rw [show vals 32 = .bool true from hR 32 lg] at fg
        have l0 := on_of hd 35 (by kernel_rfl)
        have f0 := hF.at (s := 78) (i := 35) (by kernel_rfl) (by simp) l0
        rw [show vals 35 = .int .i64 K from hR 35 l0] at f0
        have l1 := on_of hd 38 (by kernel_rfl)
        have f1 := hF.at (s := 81) (i := 38) (by kernel_rfl) (by simp) l1
        rw [show vals 38 = .int .i64 K from hR 38 l1] at f1
        refine Or.inl ⟨wanted_at (j := 32) (s := 75) rfl rfl rfl fg, ?_⟩
        exact wp_val (.bool true) (by simp [go_sem, f0, f1]) ⟨_, rfl, Gr.refl _, rfl⟩
      · obtain rfl := Option.some.inj ho
        have l0 := on_of hd 32 (by kernel_rfl)
        have f0 := hF.at (s := 75) (i := 32) (by kernel_rfl) (by simp) l0
        rw [show vals 32 = .bool true from hR 32 l0] at f0
        have l1 := on_of hd 39 (by kernel_rfl)
        have f1 := hF.at (s := 82) (i := 39) (by kernel_rfl) (by simp) l1
        rw [show vals 39 = .bool true from hR 39 l1] at f1
        refine Or.inl ⟨wanted_no rfl, ?_⟩
        exact wp_val (.bool true) (by simp [go_sem, f0, f1]) ⟨_, rfl, Gr.refl _, rfl⟩
      · obtain rfl := Option.some.inj ho
        have l0 := on_of hd 40 (by kernel_rfl)
        have f0 := hF.at (s := 83) (i := 40) (by kernel_rfl) (by simp) l0
        rw [show vals 40 = .bool true from hR 40 l0] at f0
        refine Or.inl ⟨wanted_no rfl, ?_⟩
        exact wp_val (.bool true) (by simp [go_sem, f0]) ⟨_, rfl, Gr.refl _, rfl⟩
      · obtain rfl := Option.some.inj ho
        have lg := on_of hd 41 (by kernel_rfl)
        have fg := hF.at (s := 84) (i := 41) (by kernel_rfl) (by simp) lg
        rw [show vals 41 = .bool true from hR 41 lg] at fg
        refine Or.inl ⟨wanted_at (j := 41) (s := 84) rfl rfl rfl fg, ?_⟩
        exact wp_ret (.bool true) (by simp [go_sem]) (awake_any _) (fun w2 hg2 => ⟨_, rfl, hg2, rfl⟩)
      · obtain rfl := Option.some.inj ho
        have l0 := on_of hd 41 (by kernel_rfl)
        have f0 := hF.at (s := 84) (i := 41) (by kernel_rfl) (by simp) l0
        rw [show vals 41 = .bool true from hR 41 l0] at f0
        have l1 := on_of hd 42 (by kernel_rfl)
        have f1 := hF.at (s := 85) (i := 42) (by kernel_rfl) (by simp) l1
        rw [show vals 42 = .bool true from hR 42 l1] at f1
        refine Or.inl ⟨wanted_no rfl, ?_⟩
        exact wp_val (.bool true) (by simp [go_sem, f0, f1]) ⟨_, rfl, Gr.refl _, rfl⟩
      · obtain rfl := Option.some.inj ho
        have l0 := on_of hd 43 (by kernel_rfl)
        have f0 := hF.at (s := 86) (i := 43) (by kernel_rfl) (by simp) l0
        rw [show vals 43 = .bool true from hR 43 l0] at f0
        refine Or.inl ⟨wanted_no rfl, ?_⟩
        exact wp_val (.bool true) (by simp [go_sem, f0]) ⟨_, rfl, Gr.refl _, rfl⟩
    case hf =>
      intro vals v2 hg hR
      have hba2 : blk v2 (w.heap.size) = nw 9 a := (hg.blk (w.heap.size) (by simp [go_sem] <;> omega)).trans (by simp [go_sem, hba, phba])
      have phba2 : Pre (w.heap.size + 1) v2.heap.size := Nat.le_trans (show w.heap.size + 1 ≤ _ by simp [go_sem] <;> omega) hg.below.size
      have hbb2 : blk v2 (w.heap.size + 1) = nw 9 b := (hg.blk (w.heap.size + 1) (by simp [go_sem] <;> omega)).trans (by simp [go_sem, hbb, phbb])
      have phbb2 : Pre (w.heap.size + 1 + 1) v2.heap.size := Nat.le_trans (show w.heap.size + 1 + 1 ≤ _ by simp [go_sem] <;> omega) hg.below.size
      have hbs : blk v2 (v.heap.size + g1.os.length) = nw 9 s := (hg.blk (v.heap.size + g1.os.length) (by simp [go_sem] <;> omega)).trans (by simp [go_sem])
      have phbs : Pre (v.heap.size + g1.os.length + 1) v2.heap.size := Nat.le_trans (show v.heap.size + g1.os.length + 1 ≤ _ by simp [go_sem] <;> omega) hg.below.size
      have hbd : blk v2 (v.heap.size + g1.os.length + 1 + g2.os.length) = nw 9 d := (hg.blk (v.heap.size + g1.os.length + 1 + g2.os.length) (by simp [go_sem] <;> omega)).trans (by simp [go_sem])
      have phbd : Pre (v.heap.size + g1.os.length + 1 + g2.os.length + 1) v2.heap.size := Nat.le_trans (show v.heap.size + g1.os.length + 1 + g2.os.length + 1 ≤ _ by simp [go_sem] <;> omega) hg.below.size
      have x0 : vals 0 = .agg (nw 9 s) := hR 0 (by simp)
      have x1 : vals 1 = .slice pt (dl t) nt := hR 1 (by simp)
      have x2 : vals 2 = .agg (nw 9 s) := hR 2 (by simp)
      have x3 : vals 3 = .bool true := hR 3 (by simp)
      have x4 : vals 4 = .bool true := hR 4 (by simp)
      have x5 : vals 5 = .bool c := hR 5 (by simp)
      have x6 : vals 6 = .slice pt (dl t) nt := hR 6 (by simp)
      have x7 : vals 7 = .int .i64 ((bl t : Nat) : Int) := hR 7 (by simp)
      have x8 : vals 8 = .bool c := hR 8 (by simp)
      have x9 : vals 9 = .bool true := hR 9 (by simp)
      have x10 : vals 10 = .bool true := hR 10 (by simp)
      have x11 : vals 11 = .bool true := hR 11 (by simp)
      have x12 : vals 12 = .agg (nw 9 d) := hR 12 (by simp)
      have x13 : vals 13 = .slice pu (dl u) nu := hR 13 (by simp)
      have x14 : vals 14 = .agg (nw 9 d) := hR 14 (by simp)
      have x15 : vals 15 = .bool true := hR 15 (by simp)
      have x16 : vals 16 = .bool true := hR 16 (by simp)
      have x17 : vals 17 = .bool true := hR 17 (by simp)
      have x18 : vals 18 = .bool e := hR 18 (by simp)
      have x19 : vals 19 = .bool e := hR 19 (by simp)
      have x20 : vals 20 = .bool true := hR 20 (by simp)
      have x21 : vals 21 = .bool true := hR 21 (by simp)
      have x22 : vals 22 = .bool true := hR 22 (by simp)
      have x23 : vals 23 = .agg (nw 9 a) := hR 23 (by simp)
      have x24 : vals 24 = .agg (nw 9 b) := hR 24 (by simp)
      have x25 : vals 25 = .agg (nw 18 z) := hR 25 (by simp)
      have x26 : vals 26 = .slice p4 (dl a) n4 := hR 26 (by simp)
      have x27 : vals 27 = .slice p5 (dl b) n5 := hR 27 (by simp)
      obtain ⟨p28, n28, x28, S28⟩ := (show ∃ p n, vals 28 = Value.slice p (dl (z)) n ∧ Sl v2 p (z) from hR 28 (by simp))
      have x29 : vals 29 = .agg (nw 18 z) := hR 29 (by simp)
      have x30 : vals 30 = .bool true := hR 30 (by simp)
      have x31 : vals 31 = .bool true := hR 31 (by simp)
      have x32 : vals 32 = .bool true := hR 32 (by simp)
      have x33 : vals 33 = .agg (nw 9 a) := hR 33 (by simp)
      have x34 : vals 34 = .agg (nw 9 b) := hR 34 (by simp)
      have x35 : vals 35 = .int .i64 K := hR 35 (by simp)
      have x36 : vals 36 = .slice p4 (dl a) n4 := hR 36 (by simp)
      have x37 : vals 37 = .slice p5 (dl b) n5 := hR 37 (by simp)
      have x38 : vals 38 = .int .i64 K := hR 38 (by simp)
      have x39 : vals 39 = .bool true := hR 39 (by simp)
      have x40 : vals 40 = .bool true := hR 40 (by simp)
      have x41 : vals 41 = .bool true := hR 41 (by simp)
      have x42 : vals 42 = .bool true := hR 42 (by simp)
      have x43 : vals 43 = .bool true := hR 43 (by simp)
      have x44 : vals 44 = .bool true := hR 44 (by simp)
      simp only [putFrom, Act.put, List.setIfInBounds_toArray, List.set_cons_zero, List.set_cons_succ, x0, x1, x2, x3, x4, x5, x6, x7, x8, x9, x10, x11, x12, x13, x14, x15, x16, x17, x18, x19, x20, x21, x22, x23, x24, x25, x26, x27, x28, x29, x30, x31, x32, x33, x34, x35, x36, x37, x38, x39, x40, x41, x42, x43, x44]
      clear hR x0 x1 x2 x3 x4 x5 x6 x7 x8 x9 x10 x11 x12 x13 x14 x15 x16 x17 x18 x19 x20 x21 x22 x23 x24 x25 x26 x27 x28 x29 x30 x31 x32 x33 x34 x35 x36 x37 x38 x39 x40 x41 x42 x43 x44
      go_wp2
      go_ret
      refine ⟨rfl, hgw.trans (Gr.trans ?_ hg)⟩
      exact (by repeat (first | exact Gr.refl _ | apply Gr.drewN | apply Gr.drew | apply Gr.alloc | apply Gr.gro))

end Go.Proofs.Ytjgpecdhlgdjoaa
