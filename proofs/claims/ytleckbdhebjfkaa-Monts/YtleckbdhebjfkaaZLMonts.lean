/-
  The statement Monts, walked: there is no such modulus; the first number is not below it.
-/
/-
  The statement Monts, walked: it answers true for every three numbers.
-/
import Derived.Test.YtleckbdhebjfkaaZMtW
import Derived.Test.YtleckbdhebjfkaaZMtE
import Derived.Test.YtleckbdhebjfkaaZLMc
import Derived.Test.YtleckbdhebjfkaaZLMd
namespace Go.Proofs.Ytleckbdhebjfkaa
open Go.RowKit
attribute [local go_sem ↓] loadNat_is loadArr_is loadWide_is loadArrW_is storeNat_is storeWide_is
attribute [local go_sem] loadNat loadArr loadWide loadArrW storeNat storeWide idxArr fold9 fold18 nw_size nw_elem pre_self pre_1 pre_2 pre_3 pre_4 pre_5 pre_6 pre_7 pre_8 pre_9 pre_10 pre_11 pre_12 pre_13 pre_14 pre_15 pre_16 pre_17 pre_18 pre_19 pre_20 pre_21 pre_22 pre_23 pre_24 pre_25 pre_26 pre_27 pre_28 pre_29 pre_30 pre_31 pre_32 pre_33 pre_34 pre_35 pre_36 pre_37 pre_38 pre_39 pre_40 gro_size gro_drew gro_drewN drew_gro drewN_gro gro_gro blk_gro frz_gro blk_drew frz_drew blk_drewN frz_drewN blk_alloc_at frz_alloc_at blk_alloc frz_alloc cell_gro frozen_gro cell_alloc_pre frozen_alloc_pre setCell_drewN alloc_drewN setBlk_drew setBlk_drewN setBlk_alloc_at setBlk_alloc setBlk_gro setCell_gro setCell_alloc_pre size_setBlk size_setCell
attribute [local go_sem] nw_ext9 nw_ext18 eqArr9 eqArr18

attribute [local go_sem] loadNat2 loadArr2 loadWide2 loadK_nw ppre_1 ppre_2 ppre_3 ppre_4 ppre_5 ppre_6 ppre_7 ppre_8 ppre_9 ppre_10 ppre_11 ppre_12 ppre_13 ppre_14 ppre_15 ppre_16 ppre_17 ppre_18 ppre_19 ppre_20

attribute [local go_sem ↓] Go.wp_at_zero Go.wp_at_succ bsl_is
attribute [local go_sem] eqN_self frz_setBlk blk_setBlk setBlk_setBlk blk_other
set_option maxRecDepth 100000 in
set_option maxHeartbeats 4000000 in
theorem monts_even (m a b : Nat) (hmM : m < M) (h2 : m % 2 = 0) (w : World) :
    Calls Try.prog 3 #[.agg (nw 9 m), .agg (nw 9 a), .agg (nw 9 b)] w fun e w' => e = .returned (.bool true) ∧ Gr w w' := by
  have HN : Hid (∀ w, Calls Try.prog 8 #[.agg (nw 9 m)] w fun e w' => e = .returned (.tuple #[.pointer none, .int .i64 600]) ∧ Gr w w') := fun w => New_no m hmM (Or.inl h2) w
  have FM : Hid (∀ w, Calls Try.prog 9 #[.agg (nw 9 m)] w (Nm m w)) := fun w => from_any m hmM w
  have HBit : Hid (∀ w' p' n', Sl w' p' m → Calls Try.prog 10 #[.slice p' (dl m) n', .int .i64 0] w' fun e w'' => e = .returned (.int .i64 0) ∧ Gr w' w'') := fun w' p' n' h => (rbit_any m n' 0 p' w' h (by decide)).mono fun e w'' h1 => ⟨by rw [h1.1]; unfold bitN; rw [Nat.pow_zero, Nat.div_one, h2]; rfl, by rw [h1.2]; exact Gr.refl _⟩
  clear hmM h2 
  go_enter Try.func3, Try.ntmps3
  go_upto_region 1 with fail
  refine gen_w (fun v => Hid (Gr w v ∧ Cl v (w.heap.size) m ∧ Cl v (w.heap.size + 1) a ∧ Cl v (w.heap.size + 1 + 1) b)) ⟨(by repeat (first | exact Gr.refl _ | apply Gr.drewN | apply Gr.drew | apply Gr.alloc | apply Gr.gro)), ⟨by simp [go_sem], by simp [go_sem], by simp [go_sem]⟩, ⟨by simp [go_sem], by simp [go_sem], by simp [go_sem]⟩, ⟨by simp [go_sem], by simp [go_sem], by simp [go_sem]⟩⟩ ?_
  intro v0 HV
  go_cut [7, 8] from 26 to 30 (fun a0 a1 wx => a0 = .pointer none ∧ a1 = .int .i64 600 ∧ Hid (Gr w wx ∧ Cl wx (w.heap.size) m ∧ Cl wx (w.heap.size + 1) a ∧ Cl wx (w.heap.size + 1 + 1) b))
  case first =>
    have ⟨G, c_w_heap_size, c__w_heap_size_1_, c__w_heap_size_1_1_⟩ := HV.out
    have ⟨hc_w_heap_size, fc_w_heap_size, pc_w_heap_size⟩ := c_w_heap_size
    have ⟨hc__w_heap_size_1_, fc__w_heap_size_1_, pc__w_heap_size_1_⟩ := c__w_heap_size_1_
    have ⟨hc__w_heap_size_1_1_, fc__w_heap_size_1_1_, pc__w_heap_size_1_1_⟩ := c__w_heap_size_1_1_
    go_wp2_with (go_at_call 8; refine (HN.out _).mono ?_; rintro e w' ⟨rfl, gn, rfl⟩)
    go_meet
    exact ⟨rfl, rfl, G.trans (by repeat (first | exact Gr.refl _ | apply Gr.drewN | apply Gr.drew | apply Gr.alloc | apply Gr.gro)), c_w_heap_size.gr (by repeat (first | exact Gr.refl _ | apply Gr.drewN | apply Gr.drew | apply Gr.alloc | apply Gr.gro)), c__w_heap_size_1_.gr (by repeat (first | exact Gr.refl _ | apply Gr.drewN | apply Gr.drew | apply Gr.alloc | apply Gr.gro)), c__w_heap_size_1_1_.gr (by repeat (first | exact Gr.refl _ | apply Gr.drewN | apply Gr.drew | apply Gr.alloc | apply Gr.gro))⟩
  clear HV
  obtain ⟨rfl, rfl, HV⟩ := hcut
  go_upto_region 2 with fail
  go_cut [9] from 31 to 32 (fun a0 wx => ∃ (px : Option Addr) (nx : Nat), a0 = .slice px (dl m) nx ∧ Hid (Gr w wx ∧ Cl wx (w.heap.size) m ∧ Cl wx (w.heap.size + 1) a ∧ Cl wx (w.heap.size + 1 + 1) b ∧ Sl wx px m))
  case first =>
    have ⟨G, c_w_heap_size, c__w_heap_size_1_, c__w_heap_size_1_1_⟩ := HV.out
    have ⟨hc_w_heap_size, fc_w_heap_size, pc_w_heap_size⟩ := c_w_heap_size
    have ⟨hc__w_heap_size_1_, fc__w_heap_size_1_, pc__w_heap_size_1_⟩ := c__w_heap_size_1_
    have ⟨hc__w_heap_size_1_1_, fc__w_heap_size_1_1_, pc__w_heap_size_1_1_⟩ := c__w_heap_size_1_1_
    go_wp2_with (go_at_call 9; refine (FM.out _).mono ?_; rintro e W1 ⟨px, nx, rfl, S1, G1⟩)
    go_meet
    exact ⟨px, nx, rfl, G.trans ((Gr.trans (by repeat (first | exact Gr.refl _ | apply Gr.drewN | apply Gr.drew | apply Gr.alloc | apply Gr.gro)) G1).trans (by repeat (first | exact Gr.refl _ | apply Gr.drewN | apply Gr.drew | apply Gr.alloc | apply Gr.gro))), c_w_heap_size.gr ((Gr.trans (by repeat (first | exact Gr.refl _ | apply Gr.drewN | apply Gr.drew | apply Gr.alloc | apply Gr.gro)) G1).trans (by repeat (first | exact Gr.refl _ | apply Gr.drewN | apply Gr.drew | apply Gr.alloc | apply Gr.gro))), c__w_heap_size_1_.gr ((Gr.trans (by repeat (first | exact Gr.refl _ | apply Gr.drewN | apply Gr.drew | apply Gr.alloc | apply Gr.gro)) G1).trans (by repeat (first | exact Gr.refl _ | apply Gr.drewN | apply Gr.drew | apply Gr.alloc | apply Gr.gro))), c__w_heap_size_1_1_.gr ((Gr.trans (by repeat (first | exact Gr.refl _ | apply Gr.drewN | apply Gr.drew | apply Gr.alloc | apply Gr.gro)) G1).trans (by repeat (first | exact Gr.refl _ | apply Gr.drewN | apply Gr.drew | apply Gr.alloc | apply Gr.gro))), S1.gr (by repeat (first | exact Gr.refl _ | apply Gr.drewN | apply Gr.drew | apply Gr.alloc | apply Gr.gro))⟩
  clear HV
  obtain ⟨pz, nz, rfl, HV⟩ := hcut
  have ⟨G, c_w_heap_size, c__w_heap_size_1_, c__w_heap_size_1_1_, S_pz⟩ := HV.out
  have ⟨hc_w_heap_size, fc_w_heap_size, pc_w_heap_size⟩ := c_w_heap_size
  have ⟨hc__w_heap_size_1_, fc__w_heap_size_1_, pc__w_heap_size_1_⟩ := c__w_heap_size_1_
  have ⟨hc__w_heap_size_1_1_, fc__w_heap_size_1_1_, pc__w_heap_size_1_1_⟩ := c__w_heap_size_1_1_
  clear HV
  go_wp2_with (first
      | (go_at_call 10; refine (HBit.out _ pz nz (S_pz.gr (by repeat (first | exact Gr.refl _ | apply Gr.drewN | apply Gr.drew | apply Gr.alloc | apply Gr.gro)))).mono ?_; rintro e w' ⟨rfl, gb, rfl⟩)
      | (go_at_call 12; refine (num_any _ _).mono ?_; rintro e w' ⟨rfl, rfl⟩)
      | (go_at_call 13; refine (awake6_any _).mono ?_; rintro e w' ⟨rfl, gaw, rfl⟩))
  go_ret
  refine ⟨rfl, ?_⟩
  repeat (first | exact G | apply Gr.drewN | apply Gr.drew | apply Gr.alloc | apply Gr.gro)
set_option maxRecDepth 100000 in
set_option maxHeartbeats 4000000 in
theorem monts_one (m a b : Nat) (hmM : m < M) (h2 : m % 2 = 1) (h3 : m < 3) (w : World) :
    Calls Try.prog 3 #[.agg (nw 9 m), .agg (nw 9 a), .agg (nw 9 b)] w fun e w' => e = .returned (.bool true) ∧ Gr w w' := by
  have HN : Hid (∀ w, Calls Try.prog 8 #[.agg (nw 9 m)] w fun e w' => e = .returned (.tuple #[.pointer none, .int .i64 600]) ∧ Gr w w') := fun w => New_no m hmM (Or.inr h3) w
  have FM : Hid (∀ w, Calls Try.prog 9 #[.agg (nw 9 m)] w (Nm m w)) := fun w => from_any m hmM w
  have HBit : Hid (∀ w' p' n', Sl w' p' m → Calls Try.prog 10 #[.slice p' (dl m) n', .int .i64 0] w' fun e w'' => e = .returned (.int .i64 1) ∧ Gr w' w'') := fun w' p' n' h => (rbit_any m n' 0 p' w' h (by decide)).mono fun e w'' h1 => ⟨by rw [h1.1]; unfold bitN; rw [Nat.pow_zero, Nat.div_one, h2]; rfl, by rw [h1.2]; exact Gr.refl _⟩
  obtain ⟨c3, hc3⟩ : ∃ z, cmpZ m 3 = z := ⟨_, rfl⟩
  have HC3 : Hid (∀ w' p' n' q' k', Sl w' p' m → Sl w' q' 3 → Calls Try.prog 11 #[.slice p' (dl m) n', .slice q' 1 k'] w' fun e w'' => e = .returned (.int .i64 c3) ∧ Gr w' w'') := fun w' p' n' q' k' h h' => hc3 ▸ rcmp_any m 3 n' k' p' q' w' h h' (by have := dl_M m hmM; omega) (by decide)
  have hb3 : ∀ w, (bslS 31 1 #[(0, .int .u32 3)]).run Try.prog w = .ok (.slice (some ⟨w.heap.size, 0, none⟩) 1 1) (w.alloc (.cells (nd 1 3) 35)) := fun w => build1 3 (by decide) w
  have c30 : c3 < 0 := by rw [← hc3]; unfold cmpZ; rw [if_pos h3]; decide
  clear hmM h2 h3 hc3
  go_enter Try.func3, Try.ntmps3
  go_upto_region 1 with fail
  refine gen_w (fun v => Hid (Gr w v ∧ Cl v (w.heap.size) m ∧ Cl v (w.heap.size + 1) a ∧ Cl v (w.heap.size + 1 + 1) b)) ⟨(by repeat (first | exact Gr.refl _ | apply Gr.drewN | apply Gr.drew | apply Gr.alloc | apply Gr.gro)), ⟨by simp [go_sem], by simp [go_sem], by simp [go_sem]⟩, ⟨by simp [go_sem], by simp [go_sem], by simp [go_sem]⟩, ⟨by simp [go_sem], by simp [go_sem], by simp [go_sem]⟩⟩ ?_
  intro v0 HV
  go_cut [7, 8] from 26 to 30 (fun a0 a1 wx => a0 = .pointer none ∧ a1 = .int .i64 600 ∧ Hid (Gr w wx ∧ Cl wx (w.heap.size) m ∧ Cl wx (w.heap.size + 1) a ∧ Cl wx (w.heap.size + 1 + 1) b))
  case first =>
    have ⟨G, c_w_heap_size, c__w_heap_size_1_, c__w_heap_size_1_1_⟩ := HV.out
    have ⟨hc_w_heap_size, fc_w_heap_size, pc_w_heap_size⟩ := c_w_heap_size
    have ⟨hc__w_heap_size_1_, fc__w_heap_size_1_, pc__w_heap_size_1_⟩ := c__w_heap_size_1_
    have ⟨hc__w_heap_size_1_1_, fc__w_heap_size_1_1_, pc__w_heap_size_1_1_⟩ := c__w_heap_size_1_1_
    go_wp2_with (go_at_call 8; refine (HN.out _).mono ?_; rintro e w' ⟨rfl, gn, rfl⟩)
    go_meet
    exact ⟨rfl, rfl, G.trans (by repeat (first | exact Gr.refl _ | apply Gr.drewN | apply Gr.drew | apply Gr.alloc | apply Gr.gro)), c_w_heap_size.gr (by repeat (first | exact Gr.refl _ | apply Gr.drewN | apply Gr.drew | apply Gr.alloc | apply Gr.gro)), c__w_heap_size_1_.gr (by repeat (first | exact Gr.refl _ | apply Gr.drewN | apply Gr.drew | apply Gr.alloc | apply Gr.gro)), c__w_heap_size_1_1_.gr (by repeat (first | exact Gr.refl _ | apply Gr.drewN | apply Gr.drew | apply Gr.alloc | apply Gr.gro))⟩
  clear HV
  obtain ⟨rfl, rfl, HV⟩ := hcut
  go_upto_region 2 with fail
  go_cut [9] from 31 to 32 (fun a0 wx => ∃ (px : Option Addr) (nx : Nat), a0 = .slice px (dl m) nx ∧ Hid (Gr w wx ∧ Cl wx (w.heap.size) m ∧ Cl wx (w.heap.size + 1) a ∧ Cl wx (w.heap.size + 1 + 1) b ∧ Sl wx px m))
  case first =>
    have ⟨G, c_w_heap_size, c__w_heap_size_1_, c__w_heap_size_1_1_⟩ := HV.out
    have ⟨hc_w_heap_size, fc_w_heap_size, pc_w_heap_size⟩ := c_w_heap_size
    have ⟨hc__w_heap_size_1_, fc__w_heap_size_1_, pc__w_heap_size_1_⟩ := c__w_heap_size_1_
    have ⟨hc__w_heap_size_1_1_, fc__w_heap_size_1_1_, pc__w_heap_size_1_1_⟩ := c__w_heap_size_1_1_
    go_wp2_with (go_at_call 9; refine (FM.out _).mono ?_; rintro e W1 ⟨px, nx, rfl, S1, G1⟩)
    go_meet
    exact ⟨px, nx, rfl, G.trans ((Gr.trans (by repeat (first | exact Gr.refl _ | apply Gr.drewN | apply Gr.drew | apply Gr.alloc | apply Gr.gro)) G1).trans (by repeat (first | exact Gr.refl _ | apply Gr.drewN | apply Gr.drew | apply Gr.alloc | apply Gr.gro))), c_w_heap_size.gr ((Gr.trans (by repeat (first | exact Gr.refl _ | apply Gr.drewN | apply Gr.drew | apply Gr.alloc | apply Gr.gro)) G1).trans (by repeat (first | exact Gr.refl _ | apply Gr.drewN | apply Gr.drew | apply Gr.alloc | apply Gr.gro))), c__w_heap_size_1_.gr ((Gr.trans (by repeat (first | exact Gr.refl _ | apply Gr.drewN | apply Gr.drew | apply Gr.alloc | apply Gr.gro)) G1).trans (by repeat (first | exact Gr.refl _ | apply Gr.drewN | apply Gr.drew | apply Gr.alloc | apply Gr.gro))), c__w_heap_size_1_1_.gr ((Gr.trans (by repeat (first | exact Gr.refl _ | apply Gr.drewN | apply Gr.drew | apply Gr.alloc | apply Gr.gro)) G1).trans (by repeat (first | exact Gr.refl _ | apply Gr.drewN | apply Gr.drew | apply Gr.alloc | apply Gr.gro))), S1.gr (by repeat (first | exact Gr.refl _ | apply Gr.drewN | apply Gr.drew | apply Gr.alloc | apply Gr.gro))⟩
  clear HV
  obtain ⟨pz, nz, rfl, HV⟩ := hcut
  have ⟨G, c_w_heap_size, c__w_heap_size_1_, c__w_heap_size_1_1_, S_pz⟩ := HV.out
  have ⟨hc_w_heap_size, fc_w_heap_size, pc_w_heap_size⟩ := c_w_heap_size
  have ⟨hc__w_heap_size_1_, fc__w_heap_size_1_, pc__w_heap_size_1_⟩ := c__w_heap_size_1_
  have ⟨hc__w_heap_size_1_1_, fc__w_heap_size_1_1_, pc__w_heap_size_1_1_⟩ := c__w_heap_size_1_1_
  clear HV
  go_wp2_with (first
      | (go_at_call 10; refine (HBit.out _ pz nz (S_pz.gr (by repeat (first | exact Gr.refl _ | apply Gr.drewN | apply Gr.drew | apply Gr.alloc | apply Gr.gro)))).mono ?_; rintro e w' ⟨rfl, gb, rfl⟩)
      | (go_at_call 11; refine (HC3.out _ pz nz _ _ (S_pz.gr (by repeat (first | exact Gr.refl _ | apply Gr.drewN | apply Gr.drew | apply Gr.alloc | apply Gr.gro))) (Sl.of_blk (n := 1) (by simp [go_sem]) (by simp [go_sem]) (by decide))).mono ?_; rintro e w' ⟨rfl, gc, rfl⟩)
      | (go_at_call 12; refine (num_any _ _).mono ?_; rintro e w' ⟨rfl, rfl⟩)
      | (go_at_call 13; refine (awake6_any _).mono ?_; rintro e w' ⟨rfl, gaw, rfl⟩))
  go_ret
  refine ⟨rfl, ?_⟩
  repeat (first | exact G | apply Gr.drewN | apply Gr.drew | apply Gr.alloc | apply Gr.gro)
set_option maxRecDepth 100000 in
set_option maxHeartbeats 8000000 in
theorem monts_great (m a b0 : Nat) (hmM : m < M) (haM : a < M) (hb0M : b0 < M) (h2 : m % 2 = 1) (h3 : 3 ≤ m) (ha : ¬ a < m) (w : World) :
    Calls Try.prog 3 #[.agg (nw 9 m), .agg (nw 9 a), .agg (nw 9 b0)] w fun e w' => e = .returned (.bool true) ∧ Gr w w' := by
  have h3' : 1 < m := by omega
  have hm0 : 0 < m := by omega
  obtain ⟨k1, k9, hlt⟩ := kw_facts m hm0 hmM
  obtain ⟨u, ho, HN0⟩ := New_ok m h2 h3 hmM
  obtain ⟨k, hk⟩ : ∃ k, kw m = k := ⟨_, rfl⟩
  rw [hk] at ho HN0 k1 k9 hlt
  obtain ⟨q0, hq0⟩ : ∃ q, bl m = q := ⟨_, rfl⟩
  have q9 : q0 ≤ 576 := by rw [← hq0]; exact bl_pwk m 9 hmM
  have hkq : k = (q0 + 63) / 64 := by rw [← hk, ← hq0]; rfl
  obtain ⟨e0, he0⟩ : ∃ e, q0 + 63 = e := ⟨_, rfl⟩
  have s1 : (q0 : Int) + 63 = (e0 : Int) := by omega
  have s2 : (e0 : Int).tdiv 64 = (k : Int) := by rw [Int.tdiv_eq_ediv_of_nonneg (by omega)]; omega
  have s3 : (e0 : Int) / 64 = (k : Int) := by omega
  have q00 : (0 : Int) ≤ (q0 : Int) := by omega
  have q10 : (q0 : Int) ≤ 576 := by omega
  have k00 : (0 : Int) ≤ (k : Int) := by omega
  have k90 : (k : Int) ≤ 9 := by omega
  have FM : Hid (∀ w, Calls Try.prog 9 #[.agg (nw 9 m)] w (Nm m w)) := fun w => from_any m hmM w
  have FA : Hid (∀ w, Calls Try.prog 9 #[.agg (nw 9 a)] w (Nm a w)) := fun w => from_any a haM w
  have FB0 : Hid (∀ w, Calls Try.prog 9 #[.agg (nw 9 b0)] w (Nm b0 w)) := fun w => from_any b0 hb0M w
  have HBit : Hid (∀ w' p' n', Sl w' p' m → Calls Try.prog 10 #[.slice p' (dl m) n', .int .i64 0] w' fun e w'' => e = .returned (.int .i64 1) ∧ Gr w' w'') := fun w' p' n' h => (rbit_any m n' 0 p' w' h (by decide)).mono fun e w'' h1 => ⟨by rw [h1.1]; unfold bitN; rw [Nat.pow_zero, Nat.div_one, h2]; rfl, by rw [h1.2]; exact Gr.refl _⟩
  obtain ⟨c3, hc3⟩ : ∃ z, cmpZ m 3 = z := ⟨_, rfl⟩
  have HC3 : Hid (∀ w' p' n' q' k', Sl w' p' m → Sl w' q' 3 → Calls Try.prog 11 #[.slice p' (dl m) n', .slice q' 1 k'] w' fun e w'' => e = .returned (.int .i64 c3) ∧ Gr w' w'') := fun w' p' n' q' k' h h' => hc3 ▸ rcmp_any m 3 n' k' p' q' w' h h' (by have := dl_M m hmM; omega) (by decide)
  have hb3 : ∀ w, (bslS 31 1 #[(0, .int .u32 3)]).run Try.prog w = .ok (.slice (some ⟨w.heap.size, 0, none⟩) 1 1) (w.alloc (.cells (nd 1 3) 35)) := fun w => build1 3 (by decide) w
  have c30 : 0 ≤ c3 := by rw [← hc3]; unfold cmpZ; rw [if_neg (by omega)]; split <;> decide
  have HBits : Hid (∀ w' p' n', Sl w' p' m → Calls Try.prog 14 #[.slice p' (dl m) n'] w' fun e w'' => e = .returned (.int .i64 (q0 : Int)) ∧ Gr w' w'') := fun w' p' n' h => (rbits_any m n' p' w' h (by have := dl_M m hmM; omega)).mono fun e w'' h1 => ⟨by rw [h1.1, hq0], by rw [h1.2]; exact Gr.refl _⟩
  obtain ⟨c1, hc1⟩ : ∃ z, cmpZ a m = z := ⟨_, rfl⟩
  have HCa : Hid (∀ w' p' n' q' k', Sl w' p' a → Sl w' q' m → Calls Try.prog 11 #[.slice p' (dl a) n', .slice q' (dl m) k'] w' fun e w'' => e = .returned (.int .i64 c1) ∧ Gr w' w'') := fun w' p' n' q' k' h h' => hc1 ▸ rcmp_any a m n' k' p' q' w' h h' (by have := dl_M a haM; omega) (by have := dl_M m hmM; omega)
  have c10 : 0 ≤ c1 := by rw [← hc1]; unfold cmpZ; rw [if_neg ha]; split <;> decide
  have W1 : Hid (∀ (b : Nat) w', Mn w' b m k u → Calls Try.prog 19 #[.pointer (some ⟨b, 0, none⟩)] w' fun e w'' => e = .returned (.int .i64 (k : Int)) ∧ Gr w' w'') := fun b w' h => Words_any b m k u w' h
  have T1 : Hid (∀ (b : Nat) w', Mn w' b m k u → Calls Try.prog 15 #[.pointer (some ⟨b, 0, none⟩), .agg (nw 9 a)] w' fun e w'' => e = .returned (.tuple #[.agg (nw 9 0), .int .i64 601]) ∧ Gr w' w'') := fun b w' h => To_no b m k u a w' h haM ha
  have F1 : Hid (∀ (b : Nat) w', Mn w' b m k u → Calls Try.prog 16 #[.pointer (some ⟨b, 0, none⟩), .agg (nw 9 a)] w' fun e w'' => e = .returned (.tuple #[.agg (nw 9 0), .int .i64 601]) ∧ Gr w' w'') := fun b w' h => From_no b m k u a w' h haM ha
  have I1 : Hid (∀ (b : Nat) w', Mn w' b m k u → Calls Try.prog 18 #[.pointer (some ⟨b, 0, none⟩), .agg (nw 9 a)] w' fun e w'' => e = .returned (.tuple #[.agg (nw 9 0), .int .i64 601]) ∧ Gr w' w'') := fun b w' h => Inv_no b m k u a w' h haM ha
  have M1 : Hid (∀ (b : Nat) w', Mn w' b m k u → Calls Try.prog 17 #[.pointer (some ⟨b, 0, none⟩), .agg (nw 9 a), .agg (nw 9 b0)] w' fun e w'' => e = .returned (.tuple #[.agg (nw 9 0), .int .i64 601]) ∧ Gr w' w'') := fun b w' h => Mul_no b m k u a b0 w' h haM hb0M (fun h => ha h.1)
  have HN : Hid (∀ w, Calls Try.prog 8 #[.agg (nw 9 m)] w fun e w' => ∃ b, e = .returned (.tuple #[.pointer (some ⟨b, 0, none⟩), .int .i64 0]) ∧ Mn w' b m k u ∧ Gr w w') := HN0
  clear HN0 hc1 hc3 he0 hkq q9 hq0 hk k1 k9 hlt h2 h3 h3' hm0 ho ha haM hb0M hmM 
  go_enter Try.func3, Try.ntmps3
  go_upto_region 1 with fail
  refine gen_w (fun v => Hid (Gr w v ∧ Cl v (w.heap.size) m ∧ Cl v (w.heap.size + 1) a ∧ Cl v (w.heap.size + 1 + 1) b0)) ⟨(by repeat (first | exact Gr.refl _ | apply Gr.drewN | apply Gr.drew | apply Gr.alloc | apply Gr.gro)), ⟨by simp [go_sem], by simp [go_sem], by simp [go_sem]⟩, ⟨by simp [go_sem], by simp [go_sem], by simp [go_sem]⟩, ⟨by simp [go_sem], by simp [go_sem], by simp [go_sem]⟩⟩ ?_
  intro v0 HV
  go_cut [7, 8] from 26 to 30 (fun a0 a1 wx => ∃ bx : Nat, a0 = .pointer (some ⟨bx, 0, none⟩) ∧ a1 = .int .i64 0 ∧ Hid (Gr w wx ∧ Cl wx (w.heap.size) m ∧ Cl wx (w.heap.size + 1) a ∧ Cl wx (w.heap.size + 1 + 1) b0 ∧ Mn wx bx m k u))
  case first =>
    have ⟨G, c_w_heap_size, c__w_heap_size_1_, c__w_heap_size_1_1_⟩ := HV.out
    have ⟨hc_w_heap_size, fc_w_heap_size, pc_w_heap_size⟩ := c_w_heap_size
    have ⟨hc__w_heap_size_1_, fc__w_heap_size_1_, pc__w_heap_size_1_⟩ := c__w_heap_size_1_
    have ⟨hc__w_heap_size_1_1_, fc__w_heap_size_1_1_, pc__w_heap_size_1_1_⟩ := c__w_heap_size_1_1_
    go_wp2_with (go_at_call 8; refine (HN.out _).mono ?_; rintro e W1 ⟨bx, rfl, S1, G1⟩)
    go_meet
    exact ⟨bx, rfl, rfl, G.trans ((Gr.trans (by repeat (first | exact Gr.refl _ | apply Gr.drewN | apply Gr.drew | apply Gr.alloc | apply Gr.gro)) G1).trans (by repeat (first | exact Gr.refl _ | apply Gr.drewN | apply Gr.drew | apply Gr.alloc | apply Gr.gro))), c_w_heap_size.gr ((Gr.trans (by repeat (first | exact Gr.refl _ | apply Gr.drewN | apply Gr.drew | apply Gr.alloc | apply Gr.gro)) G1).trans (by repeat (first | exact Gr.refl _ | apply Gr.drewN | apply Gr.drew | apply Gr.alloc | apply Gr.gro))), c__w_heap_size_1_.gr ((Gr.trans (by repeat (first | exact Gr.refl _ | apply Gr.drewN | apply Gr.drew | apply Gr.alloc | apply Gr.gro)) G1).trans (by repeat (first | exact Gr.refl _ | apply Gr.drewN | apply Gr.drew | apply Gr.alloc | apply Gr.gro))), c__w_heap_size_1_1_.gr ((Gr.trans (by repeat (first | exact Gr.refl _ | apply Gr.drewN | apply Gr.drew | apply Gr.alloc | apply Gr.gro)) G1).trans (by repeat (first | exact Gr.refl _ | apply Gr.drewN | apply Gr.drew | apply Gr.alloc | apply Gr.gro))), S1.gr (by repeat (first | exact Gr.refl _ | apply Gr.drewN | apply Gr.drew | apply Gr.alloc | apply Gr.gro))⟩
  clear HV
  obtain ⟨bx, rfl, rfl, HV⟩ := hcut
  go_upto_region 2 with fail
  go_cut [9] from 31 to 32 (fun a0 wx => ∃ (px : Option Addr) (nx : Nat), a0 = .slice px (dl m) nx ∧ Hid (Gr w wx ∧ Cl wx (w.heap.size) m ∧ Cl wx (w.heap.size + 1) a ∧ Cl wx (w.heap.size + 1 + 1) b0 ∧ Mn wx bx m k u ∧ Sl wx px m))
  case first =>
    have ⟨G, c_w_heap_size, c__w_heap_size_1_, c__w_heap_size_1_1_, S_x⟩ := HV.out
    have ⟨hc_w_heap_size, fc_w_heap_size, pc_w_heap_size⟩ := c_w_heap_size
    have ⟨hc__w_heap_size_1_, fc__w_heap_size_1_, pc__w_heap_size_1_⟩ := c__w_heap_size_1_
    have ⟨hc__w_heap_size_1_1_, fc__w_heap_size_1_1_, pc__w_heap_size_1_1_⟩ := c__w_heap_size_1_1_
    go_wp2_with (go_at_call 9; refine (FM.out _).mono ?_; rintro e W1 ⟨px, nx, rfl, S1, G1⟩)
    go_meet
    exact ⟨px, nx, rfl, G.trans ((Gr.trans (by repeat (first | exact Gr.refl _ | apply Gr.drewN | apply Gr.drew | apply Gr.alloc | apply Gr.gro)) G1).trans (by repeat (first | exact Gr.refl _ | apply Gr.drewN | apply Gr.drew | apply Gr.alloc | apply Gr.gro))), c_w_heap_size.gr ((Gr.trans (by repeat (first | exact Gr.refl _ | apply Gr.drewN | apply Gr.drew | apply Gr.alloc | apply Gr.gro)) G1).trans (by repeat (first | exact Gr.refl _ | apply Gr.drewN | apply Gr.drew | apply Gr.alloc | apply Gr.gro))), c__w_heap_size_1_.gr ((Gr.trans (by repeat (first | exact Gr.refl _ | apply Gr.drewN | apply Gr.drew | apply Gr.alloc | apply Gr.gro)) G1).trans (by repeat (first | exact Gr.refl _ | apply Gr.drewN | apply Gr.drew | apply Gr.alloc | apply Gr.gro))), c__w_heap_size_1_1_.gr ((Gr.trans (by repeat (first | exact Gr.refl _ | apply Gr.drewN | apply Gr.drew | apply Gr.alloc | apply Gr.gro)) G1).trans (by repeat (first | exact Gr.refl _ | apply Gr.drewN | apply Gr.drew | apply Gr.alloc | apply Gr.gro))), S_x.gr ((Gr.trans (by repeat (first | exact Gr.refl _ | apply Gr.drewN | apply Gr.drew | apply Gr.alloc | apply Gr.gro)) G1).trans (by repeat (first | exact Gr.refl _ | apply Gr.drewN | apply Gr.drew | apply Gr.alloc | apply Gr.gro))), S1.gr (by repeat (first | exact Gr.refl _ | apply Gr.drewN | apply Gr.drew | apply Gr.alloc | apply Gr.gro))⟩
  clear HV
  obtain ⟨pz, nz, rfl, HV⟩ := hcut
  have ⟨G, c_w_heap_size, c__w_heap_size_1_, c__w_heap_size_1_1_, S_x, S_pz⟩ := HV.out
  have ⟨hc_w_heap_size, fc_w_heap_size, pc_w_heap_size⟩ := c_w_heap_size
  have ⟨hc__w_heap_size_1_, fc__w_heap_size_1_, pc__w_heap_size_1_⟩ := c__w_heap_size_1_
  have ⟨hc__w_heap_size_1_1_, fc__w_heap_size_1_1_, pc__w_heap_size_1_1_⟩ := c__w_heap_size_1_1_
  go_upto_region 8 with (first
      | (go_at_call 10; refine (HBit.out _ pz nz (S_pz.gr (by repeat (first | exact Gr.refl _ | apply Gr.drewN | apply Gr.drew | apply Gr.alloc | apply Gr.gro)))).mono ?_; rintro e w' ⟨rfl, gb, rfl⟩)
      | (go_at_call 11; refine (HC3.out _ pz nz _ _ (S_pz.gr (by repeat (first | exact Gr.refl _ | apply Gr.drewN | apply Gr.drew | apply Gr.alloc | apply Gr.gro))) (Sl.of_blk (n := 1) (by simp [go_sem]) (by simp [go_sem]) (by decide))).mono ?_; rintro e w' ⟨rfl, gc, rfl⟩)
      | (go_at_call 12; refine (num_any _ _).mono ?_; rintro e w' ⟨rfl, rfl⟩)
      | (go_at_call 14; refine (HBits.out _ pz nz (S_pz.gr (by repeat (first | exact Gr.refl _ | apply Gr.drewN | apply Gr.drew | apply Gr.alloc | apply Gr.gro)))).mono ?_; rintro e w' ⟨rfl, gl, rfl⟩))
  refine gen_w (fun v => Hid (Gr w v ∧ Cl v (w.heap.size) m ∧ Cl v (w.heap.size + 1) a ∧ Cl v (w.heap.size + 1 + 1) b0 ∧ Mn v bx m k u ∧ Sl v pz m)) ⟨G.trans (by repeat (first | exact Gr.refl _ | apply Gr.drewN | apply Gr.drew | apply Gr.alloc | apply Gr.gro)), c_w_heap_size.gr (by repeat (first | exact Gr.refl _ | apply Gr.drewN | apply Gr.drew | apply Gr.alloc | apply Gr.gro)), c__w_heap_size_1_.gr (by repeat (first | exact Gr.refl _ | apply Gr.drewN | apply Gr.drew | apply Gr.alloc | apply Gr.gro)), c__w_heap_size_1_1_.gr (by repeat (first | exact Gr.refl _ | apply Gr.drewN | apply Gr.drew | apply Gr.alloc | apply Gr.gro)), S_x.gr (by repeat (first | exact Gr.refl _ | apply Gr.drewN | apply Gr.drew | apply Gr.alloc | apply Gr.gro)), S_pz.gr (by repeat (first | exact Gr.refl _ | apply Gr.drewN | apply Gr.drew | apply Gr.alloc | apply Gr.gro))⟩ ?_
  clear HV G c_w_heap_size c__w_heap_size_1_ c__w_heap_size_1_1_ S_x S_pz
  intro v8 HV
  have ⟨G, c_w_heap_size, c__w_heap_size_1_, c__w_heap_size_1_1_, S_x, S_pz⟩ := HV.out
  refine wp_region_pred (by kernel_rfl) (by kernel_rfl) [.c (.agg (nw 9 a)), .n (a), .c (.agg (nw 9 b0)), .n (b0), .n (a), .n (b0)] ?hs ?hf
  case hs =>
    intro listed vals a1 vA i o hg hR hF ho hd
    have Hc_w_heap_size : blk vA (w.heap.size) = nw 9 m := (hg.blk _ c_w_heap_size.p).trans c_w_heap_size.h
    have Hc__w_heap_size_1_ : blk vA (w.heap.size + 1) = nw 9 a := (hg.blk _ c__w_heap_size_1_.p).trans c__w_heap_size_1_.h
    have Hc__w_heap_size_1_1_ : blk vA (w.heap.size + 1 + 1) = nw 9 b0 := (hg.blk _ c__w_heap_size_1_1_.p).trans c__w_heap_size_1_1_.h
    have hi : i < 6 := by simpa using (Array.getElem?_eq_some_iff.1 ho).1
    obtain rfl | rfl | rfl | rfl | rfl | rfl : i = 0 ∨ i = 1 ∨ i = 2 ∨ i = 3 ∨ i = 4 ∨ i = 5 := by omega
    · obtain rfl := Option.some.inj ho
      have f0 := hF.old (s := 4) (v := .pointer (some ⟨(w.heap.size + 1), 0, none⟩)) (by kernel_rfl) rfl
      refine Or.inl ⟨wanted_no rfl, ?_⟩
      exact wp_val (.agg (nw 9 a)) (by simp [go_sem, f0, Hc__w_heap_size_1_]) ⟨_, rfl, Gr.refl _, rfl⟩
    · obtain rfl := Option.some.inj ho
      have l0 := on_of hd 0 (by kernel_rfl)
      have f0 := hF.at (s := 63) (i := 0) (by kernel_rfl) (by simp) l0
      rw [show vals 0 = .agg (nw 9 a) from hR 0 l0] at f0
      refine Or.inl ⟨wanted_no rfl, ?_⟩
      exact wp_retN (by simp [go_sem, f0]) (FA.out _) (fun p n w2 hS hg2 => ⟨_, rfl, hg2, p, n, rfl, hS⟩)
    · obtain rfl := Option.some.inj ho
      have f0 := hF.old (s := 5) (v := .pointer (some ⟨(w.heap.size + 1 + 1), 0, none⟩)) (by kernel_rfl) rfl
      refine Or.inl ⟨wanted_no rfl, ?_⟩
      exact wp_val (.agg (nw 9 b0)) (by simp [go_sem, f0, Hc__w_heap_size_1_1_]) ⟨_, rfl, Gr.refl _, rfl⟩
    · obtain rfl := Option.some.inj ho
      have l0 := on_of hd 2 (by kernel_rfl)
      have f0 := hF.at (s := 65) (i := 2) (by kernel_rfl) (by simp) l0
      rw [show vals 2 = .agg (nw 9 b0) from hR 2 l0] at f0
      refine Or.inl ⟨wanted_no rfl, ?_⟩
      exact wp_retN (by simp [go_sem, f0]) (FB0.out _) (fun p n w2 hS hg2 => ⟨_, rfl, hg2, p, n, rfl, hS⟩)
    · obtain rfl := Option.some.inj ho
      have l0 := on_of hd 1 (by kernel_rfl)
      have f0 := hF.at (s := 64) (i := 1) (by kernel_rfl) (by simp) l0
      obtain ⟨p0, n0, e0, S0⟩ := (show ∃ p n, vals 1 = Value.slice p (dl (a)) n ∧ Sl vA p (a) from hR 1 l0)
      rw [e0] at f0
      refine Or.inl ⟨wanted_no rfl, ?_⟩
      exact wp_val (.slice p0 (dl (a)) n0) (by simp [go_sem, f0]) ⟨_, rfl, Gr.refl _, _, _, rfl, S0⟩
    · obtain rfl := Option.some.inj ho
      have l0 := on_of hd 3 (by kernel_rfl)
      have f0 := hF.at (s := 66) (i := 3) (by kernel_rfl) (by simp) l0
      obtain ⟨p0, n0, e0, S0⟩ := (show ∃ p n, vals 3 = Value.slice p (dl (b0)) n ∧ Sl vA p (b0) from hR 3 l0)
      rw [e0] at f0
      refine Or.inl ⟨wanted_no rfl, ?_⟩
      exact wp_val (.slice p0 (dl (b0)) n0) (by simp [go_sem, f0]) ⟨_, rfl, Gr.refl _, _, _, rfl, S0⟩
  case hf =>
    intro vals vA hg hR
    have x0 : vals 0 = .agg (nw 9 a) := hR 0 (by simp)
    obtain ⟨p1, n1, x1, S1⟩ := (show ∃ p n, vals 1 = Value.slice p (dl (a)) n ∧ Sl vA p (a) from hR 1 (by simp))
    have x2 : vals 2 = .agg (nw 9 b0) := hR 2 (by simp)
    obtain ⟨p3, n3, x3, S3⟩ := (show ∃ p n, vals 3 = Value.slice p (dl (b0)) n ∧ Sl vA p (b0) from hR 3 (by simp))
    obtain ⟨p4, n4, x4, S4⟩ := (show ∃ p n, vals 4 = Value.slice p (dl (a)) n ∧ Sl vA p (a) from hR 4 (by simp))
    obtain ⟨p5, n5, x5, S5⟩ := (show ∃ p n, vals 5 = Value.slice p (dl (b0)) n ∧ Sl vA p (b0) from hR 5 (by simp))
    simp only [putFrom, Act.put, List.setIfInBounds_toArray, List.set_cons_zero, List.set_cons_succ, x0, x1, x2, x3, x4, x5]
    clear hR x0 x1 x2 x3 x4 x5
    have HW : Hid (Gr w vA ∧ Cl vA (w.heap.size) m ∧ Cl vA (w.heap.size + 1) a ∧ Cl vA (w.heap.size + 1 + 1) b0 ∧ Mn vA bx m k u ∧ Sl vA pz m ∧ Sl vA p4 a ∧ Sl vA p5 b0) := ⟨G.trans hg, c_w_heap_size.gr hg, c__w_heap_size_1_.gr hg, c__w_heap_size_1_1_.gr hg, S_x.gr hg, S_pz.gr hg, S4, S5⟩
    clear HV hg S4 S5 S1 S3 G c_w_heap_size c__w_heap_size_1_ c__w_heap_size_1_1_ S_x S_pz
    have HV := HW
    clear HW
    go_upto_region 9 with fail
    go_cut [13, 14] from 67 to 72 (fun a0 a1 wx => ∃ e13 : Nat, a0 = .pointer (some ⟨e13, 0, none⟩) ∧ a1 = .int .i64 601 ∧ Hid (Gr w wx ∧ Cl wx (w.heap.size) m ∧ Cl wx (w.heap.size + 1) a ∧ Cl wx (w.heap.size + 1 + 1) b0 ∧ Cl wx e13 0 ∧ Mn wx bx m k u ∧ Sl wx pz m ∧ Sl wx p4 a ∧ Sl wx p5 b0))
    case first =>
      have ⟨G, c_w_heap_size, c__w_heap_size_1_, c__w_heap_size_1_1_, S_x, S_pz, S_p4, S_p5⟩ := HV.out
      have ⟨hc_w_heap_size, fc_w_heap_size, pc_w_heap_size⟩ := c_w_heap_size
      have ⟨hc__w_heap_size_1_, fc__w_heap_size_1_, pc__w_heap_size_1_⟩ := c__w_heap_size_1_
      have ⟨hc__w_heap_size_1_1_, fc__w_heap_size_1_1_, pc__w_heap_size_1_1_⟩ := c__w_heap_size_1_1_
      go_wp2_with (first
          | (go_at_call_of 15 ((#[.pointer (some ⟨bx, 0, none⟩), .agg (nw 9 a)] : Array Value)); refine (T1.out bx _ (S_x.gr (by repeat (first | exact Gr.refl _ | apply Gr.drewN | apply Gr.drew | apply Gr.alloc | apply Gr.gro)))).mono ?_; rintro e w' ⟨rfl, g1, rfl⟩)
          | (go_at_call 12; refine (num_any _ _).mono ?_; rintro e w' ⟨rfl, rfl⟩))
      go_meet
      exact ⟨_, rfl, rfl, G.trans (by repeat (first | exact Gr.refl _ | apply Gr.drewN | apply Gr.drew | apply Gr.alloc | apply Gr.gro)), c_w_heap_size.gr (by repeat (first | exact Gr.refl _ | apply Gr.drewN | apply Gr.drew | apply Gr.alloc | apply Gr.gro)), c__w_heap_size_1_.gr (by repeat (first | exact Gr.refl _ | apply Gr.drewN | apply Gr.drew | apply Gr.alloc | apply Gr.gro)), c__w_heap_size_1_1_.gr (by repeat (first | exact Gr.refl _ | apply Gr.drewN | apply Gr.drew | apply Gr.alloc | apply Gr.gro)), ⟨by simp [go_sem], by simp [go_sem], by simp [go_sem]⟩, S_x.gr (by repeat (first | exact Gr.refl _ | apply Gr.drewN | apply Gr.drew | apply Gr.alloc | apply Gr.gro)), S_pz.gr (by repeat (first | exact Gr.refl _ | apply Gr.drewN | apply Gr.drew | apply Gr.alloc | apply Gr.gro)), S_p4.gr (by repeat (first | exact Gr.refl _ | apply Gr.drewN | apply Gr.drew | apply Gr.alloc | apply Gr.gro)), S_p5.gr (by repeat (first | exact Gr.refl _ | apply Gr.drewN | apply Gr.drew | apply Gr.alloc | apply Gr.gro))⟩
    clear HV
    obtain ⟨e13, rfl, rfl, HV⟩ := hcut
    go_upto_region 10 with fail
    go_cut [15, 16] from 73 to 78 (fun a0 a1 wx => ∃ e15 : Nat, a0 = .pointer (some ⟨e15, 0, none⟩) ∧ a1 = .int .i64 601 ∧ Hid (Gr w wx ∧ Cl wx (w.heap.size) m ∧ Cl wx (w.heap.size + 1) a ∧ Cl wx (w.heap.size + 1 + 1) b0 ∧ Cl wx e13 0 ∧ Cl wx e15 0 ∧ Mn wx bx m k u ∧ Sl wx pz m ∧ Sl wx p4 a ∧ Sl wx p5 b0))
    case first =>
      have ⟨G, c_w_heap_size, c__w_heap_size_1_, c__w_heap_size_1_1_, c_e13, S_x, S_pz, S_p4, S_p5⟩ := HV.out
      have ⟨hc_w_heap_size, fc_w_heap_size, pc_w_heap_size⟩ := c_w_heap_size
      have ⟨hc__w_heap_size_1_, fc__w_heap_size_1_, pc__w_heap_size_1_⟩ := c__w_heap_size_1_
      have ⟨hc__w_heap_size_1_1_, fc__w_heap_size_1_1_, pc__w_heap_size_1_1_⟩ := c__w_heap_size_1_1_
      have ⟨hc_e13, fc_e13, pc_e13⟩ := c_e13
      go_wp2_with (first
          | (go_at_call_of 16 ((#[.pointer (some ⟨bx, 0, none⟩), .agg (nw 9 a)] : Array Value)); refine (F1.out bx _ (S_x.gr (by repeat (first | exact Gr.refl _ | apply Gr.drewN | apply Gr.drew | apply Gr.alloc | apply Gr.gro)))).mono ?_; rintro e w' ⟨rfl, g2, rfl⟩)
          | (go_at_call 12; refine (num_any _ _).mono ?_; rintro e w' ⟨rfl, rfl⟩))
      go_meet
      exact ⟨_, rfl, rfl, G.trans (by repeat (first | exact Gr.refl _ | apply Gr.drewN | apply Gr.drew | apply Gr.alloc | apply Gr.gro)), c_w_heap_size.gr (by repeat (first | exact Gr.refl _ | apply Gr.drewN | apply Gr.drew | apply Gr.alloc | apply Gr.gro)), c__w_heap_size_1_.gr (by repeat (first | exact Gr.refl _ | apply Gr.drewN | apply Gr.drew | apply Gr.alloc | apply Gr.gro)), c__w_heap_size_1_1_.gr (by repeat (first | exact Gr.refl _ | apply Gr.drewN | apply Gr.drew | apply Gr.alloc | apply Gr.gro)), c_e13.gr (by repeat (first | exact Gr.refl _ | apply Gr.drewN | apply Gr.drew | apply Gr.alloc | apply Gr.gro)), ⟨by simp [go_sem], by simp [go_sem], by simp [go_sem]⟩, S_x.gr (by repeat (first | exact Gr.refl _ | apply Gr.drewN | apply Gr.drew | apply Gr.alloc | apply Gr.gro)), S_pz.gr (by repeat (first | exact Gr.refl _ | apply Gr.drewN | apply Gr.drew | apply Gr.alloc | apply Gr.gro)), S_p4.gr (by repeat (first | exact Gr.refl _ | apply Gr.drewN | apply Gr.drew | apply Gr.alloc | apply Gr.gro)), S_p5.gr (by repeat (first | exact Gr.refl _ | apply Gr.drewN | apply Gr.drew | apply Gr.alloc | apply Gr.gro))⟩
    clear HV
    obtain ⟨e15, rfl, rfl, HV⟩ := hcut
    go_upto_region 11 with fail
    go_cut [17, 18] from 79 to 85 (fun a0 a1 wx => ∃ e17 : Nat, a0 = .pointer (some ⟨e17, 0, none⟩) ∧ a1 = .int .i64 601 ∧ Hid (Gr w wx ∧ Cl wx (w.heap.size) m ∧ Cl wx (w.heap.size + 1) a ∧ Cl wx (w.heap.size + 1 + 1) b0 ∧ Cl wx e13 0 ∧ Cl wx e15 0 ∧ Cl wx e17 0 ∧ Mn wx bx m k u ∧ Sl wx pz m ∧ Sl wx p4 a ∧ Sl wx p5 b0))
    case first =>
      have ⟨G, c_w_heap_size, c__w_heap_size_1_, c__w_heap_size_1_1_, c_e13, c_e15, S_x, S_pz, S_p4, S_p5⟩ := HV.out
      have ⟨hc_w_heap_size, fc_w_heap_size, pc_w_heap_size⟩ := c_w_heap_size
      have ⟨hc__w_heap_size_1_, fc__w_heap_size_1_, pc__w_heap_size_1_⟩ := c__w_heap_size_1_
      have ⟨hc__w_heap_size_1_1_, fc__w_heap_size_1_1_, pc__w_heap_size_1_1_⟩ := c__w_heap_size_1_1_
      have ⟨hc_e13, fc_e13, pc_e13⟩ := c_e13
      have ⟨hc_e15, fc_e15, pc_e15⟩ := c_e15
      go_wp2_with (first
          | (go_at_call_of 17 ((#[.pointer (some ⟨bx, 0, none⟩), .agg (nw 9 a), .agg (nw 9 b0)] : Array Value)); refine (M1.out bx _ (S_x.gr (by repeat (first | exact Gr.refl _ | apply Gr.drewN | apply Gr.drew | apply Gr.alloc | apply Gr.gro)))).mono ?_; rintro e w' ⟨rfl, g3, rfl⟩)
          | (go_at_call 12; refine (num_any _ _).mono ?_; rintro e w' ⟨rfl, rfl⟩))
      go_meet
      exact ⟨_, rfl, rfl, G.trans (by repeat (first | exact Gr.refl _ | apply Gr.drewN | apply Gr.drew | apply Gr.alloc | apply Gr.gro)), c_w_heap_size.gr (by repeat (first | exact Gr.refl _ | apply Gr.drewN | apply Gr.drew | apply Gr.alloc | apply Gr.gro)), c__w_heap_size_1_.gr (by repeat (first | exact Gr.refl _ | apply Gr.drewN | apply Gr.drew | apply Gr.alloc | apply Gr.gro)), c__w_heap_size_1_1_.gr (by repeat (first | exact Gr.refl _ | apply Gr.drewN | apply Gr.drew | apply Gr.alloc | apply Gr.gro)), c_e13.gr (by repeat (first | exact Gr.refl _ | apply Gr.drewN | apply Gr.drew | apply Gr.alloc | apply Gr.gro)), c_e15.gr (by repeat (first | exact Gr.refl _ | apply Gr.drewN | apply Gr.drew | apply Gr.alloc | apply Gr.gro)), ⟨by simp [go_sem], by simp [go_sem], by simp [go_sem]⟩, S_x.gr (by repeat (first | exact Gr.refl _ | apply Gr.drewN | apply Gr.drew | apply Gr.alloc | apply Gr.gro)), S_pz.gr (by repeat (first | exact Gr.refl _ | apply Gr.drewN | apply Gr.drew | apply Gr.alloc | apply Gr.gro)), S_p4.gr (by repeat (first | exact Gr.refl _ | apply Gr.drewN | apply Gr.drew | apply Gr.alloc | apply Gr.gro)), S_p5.gr (by repeat (first | exact Gr.refl _ | apply Gr.drewN | apply Gr.drew | apply Gr.alloc | apply Gr.gro))⟩
    clear HV
    obtain ⟨e17, rfl, rfl, HV⟩ := hcut
    go_upto_region 12 with fail
    go_cut [19, 20] from 86 to 91 (fun a0 a1 wx => ∃ e19 : Nat, a0 = .pointer (some ⟨e19, 0, none⟩) ∧ a1 = .int .i64 601 ∧ Hid (Gr w wx ∧ Cl wx (w.heap.size) m ∧ Cl wx (w.heap.size + 1) a ∧ Cl wx (w.heap.size + 1 + 1) b0 ∧ Cl wx e13 0 ∧ Cl wx e15 0 ∧ Cl wx e17 0 ∧ Cl wx e19 0 ∧ Mn wx bx m k u ∧ Sl wx pz m ∧ Sl wx p4 a ∧ Sl wx p5 b0))
    case first =>
      have ⟨G, c_w_heap_size, c__w_heap_size_1_, c__w_heap_size_1_1_, c_e13, c_e15, c_e17, S_x, S_pz, S_p4, S_p5⟩ := HV.out
      have ⟨hc_w_heap_size, fc_w_heap_size, pc_w_heap_size⟩ := c_w_heap_size
      have ⟨hc__w_heap_size_1_, fc__w_heap_size_1_, pc__w_heap_size_1_⟩ := c__w_heap_size_1_
      have ⟨hc__w_heap_size_1_1_, fc__w_heap_size_1_1_, pc__w_heap_size_1_1_⟩ := c__w_heap_size_1_1_
      have ⟨hc_e13, fc_e13, pc_e13⟩ := c_e13
      have ⟨hc_e15, fc_e15, pc_e15⟩ := c_e15
      have ⟨hc_e17, fc_e17, pc_e17⟩ := c_e17
      go_wp2_with (first
          | (go_at_call_of 18 ((#[.pointer (some ⟨bx, 0, none⟩), .agg (nw 9 a)] : Array Value)); refine (I1.out bx _ (S_x.gr (by repeat (first | exact Gr.refl _ | apply Gr.drewN | apply Gr.drew | apply Gr.alloc | apply Gr.gro)))).mono ?_; rintro e w' ⟨rfl, g4, rfl⟩)
          | (go_at_call 12; refine (num_any _ _).mono ?_; rintro e w' ⟨rfl, rfl⟩))
      go_meet
      exact ⟨_, rfl, rfl, G.trans (by repeat (first | exact Gr.refl _ | apply Gr.drewN | apply Gr.drew | apply Gr.alloc | apply Gr.gro)), c_w_heap_size.gr (by repeat (first | exact Gr.refl _ | apply Gr.drewN | apply Gr.drew | apply Gr.alloc | apply Gr.gro)), c__w_heap_size_1_.gr (by repeat (first | exact Gr.refl _ | apply Gr.drewN | apply Gr.drew | apply Gr.alloc | apply Gr.gro)), c__w_heap_size_1_1_.gr (by repeat (first | exact Gr.refl _ | apply Gr.drewN | apply Gr.drew | apply Gr.alloc | apply Gr.gro)), c_e13.gr (by repeat (first | exact Gr.refl _ | apply Gr.drewN | apply Gr.drew | apply Gr.alloc | apply Gr.gro)), c_e15.gr (by repeat (first | exact Gr.refl _ | apply Gr.drewN | apply Gr.drew | apply Gr.alloc | apply Gr.gro)), c_e17.gr (by repeat (first | exact Gr.refl _ | apply Gr.drewN | apply Gr.drew | apply Gr.alloc | apply Gr.gro)), ⟨by simp [go_sem], by simp [go_sem], by simp [go_sem]⟩, S_x.gr (by repeat (first | exact Gr.refl _ | apply Gr.drewN | apply Gr.drew | apply Gr.alloc | apply Gr.gro)), S_pz.gr (by repeat (first | exact Gr.refl _ | apply Gr.drewN | apply Gr.drew | apply Gr.alloc | apply Gr.gro)), S_p4.gr (by repeat (first | exact Gr.refl _ | apply Gr.drewN | apply Gr.drew | apply Gr.alloc | apply Gr.gro)), S_p5.gr (by repeat (first | exact Gr.refl _ | apply Gr.drewN | apply Gr.drew | apply Gr.alloc | apply Gr.gro))⟩
    clear HV
    obtain ⟨e19, rfl, rfl, HV⟩ := hcut
    have ⟨G, c_w_heap_size, c__w_heap_size_1_, c__w_heap_size_1_1_, c_e13, c_e15, c_e17, c_e19, S_x, S_pz, S_p4, S_p5⟩ := HV.out
    have ⟨hc_w_heap_size, fc_w_heap_size, pc_w_heap_size⟩ := c_w_heap_size
    have ⟨hc__w_heap_size_1_, fc__w_heap_size_1_, pc__w_heap_size_1_⟩ := c__w_heap_size_1_
    have ⟨hc__w_heap_size_1_1_, fc__w_heap_size_1_1_, pc__w_heap_size_1_1_⟩ := c__w_heap_size_1_1_
    have ⟨hc_e13, fc_e13, pc_e13⟩ := c_e13
    have ⟨hc_e15, fc_e15, pc_e15⟩ := c_e15
    have ⟨hc_e17, fc_e17, pc_e17⟩ := c_e17
    have ⟨hc_e19, fc_e19, pc_e19⟩ := c_e19
    go_upto_region 16 with (first
      | (go_at_call 11; refine (HCa.out _ p4 n4 pz nz (S_p4.gr (by repeat (first | exact Gr.refl _ | apply Gr.drewN | apply Gr.drew | apply Gr.alloc | apply Gr.gro))) (S_pz.gr (by repeat (first | exact Gr.refl _ | apply Gr.drewN | apply Gr.drew | apply Gr.alloc | apply Gr.gro)))).mono ?_; rintro e w' ⟨rfl, gca, rfl⟩)
      | (first
        | (go_at_call_of 19 ((#[.pointer (some ⟨bx, 0, none⟩)] : Array Value)); refine (W1.out bx _ (S_x.gr (by repeat (first | exact Gr.refl _ | apply Gr.drewN | apply Gr.drew | apply Gr.alloc | apply Gr.gro)))).mono ?_; rintro e w' ⟨rfl, g5, rfl⟩)
        | (go_at_call 12; refine (num_any _ _).mono ?_; rintro e w' ⟨rfl, rfl⟩)))
    clear HV
    go_wp2_with (first
      | (go_at_call 12; refine (num_any _ _).mono ?_; rintro e w' ⟨rfl, rfl⟩)
      | (go_at_call 13; refine (awake6_any _).mono ?_; rintro e w' ⟨rfl, gaw, rfl⟩))
    go_ret
    refine ⟨rfl, ?_⟩
    repeat (first | exact G | apply Gr.drewN | apply Gr.drew | apply Gr.alloc | apply Gr.gro)

end Go.Proofs.Ytleckbdhebjfkaa
namespace Go.Proofs.Ytleckbdhebjfkaa
open Go.RowKit
attribute [local go_sem ↓] loadNat_is loadArr_is loadWide_is loadArrW_is storeNat_is storeWide_is
attribute [local go_sem] loadNat loadArr loadWide loadArrW storeNat storeWide idxArr fold9 fold18 nw_size nw_elem pre_self pre_1 pre_2 pre_3 pre_4 pre_5 pre_6 pre_7 pre_8 pre_9 pre_10 pre_11 pre_12 pre_13 pre_14 pre_15 pre_16 pre_17 pre_18 pre_19 pre_20 pre_21 pre_22 pre_23 pre_24 pre_25 pre_26 pre_27 pre_28 pre_29 pre_30 pre_31 pre_32 pre_33 pre_34 pre_35 pre_36 pre_37 pre_38 pre_39 pre_40 gro_size gro_drew gro_drewN drew_gro drewN_gro gro_gro blk_gro frz_gro blk_drew frz_drew blk_drewN frz_drewN blk_alloc_at frz_alloc_at blk_alloc frz_alloc cell_gro frozen_gro cell_alloc_pre frozen_alloc_pre setCell_drewN alloc_drewN setBlk_drew setBlk_drewN setBlk_alloc_at setBlk_alloc setBlk_gro setCell_gro setCell_alloc_pre size_setBlk size_setCell
attribute [local go_sem] nw_ext9 nw_ext18 eqArr9 eqArr18

attribute [local go_sem] loadNat2 loadArr2 loadWide2 loadK_nw ppre_1 ppre_2 ppre_3 ppre_4 ppre_5 ppre_6 ppre_7 ppre_8 ppre_9 ppre_10 ppre_11 ppre_12 ppre_13 ppre_14 ppre_15 ppre_16 ppre_17 ppre_18 ppre_19 ppre_20

attribute [local go_sem ↓] Go.wp_at_zero Go.wp_at_succ bsl_is
attribute [local go_sem] eqN_self frz_setBlk blk_setBlk setBlk_setBlk blk_other
theorem monts_any (m a b : Nat) (hm : m < M) (ha : a < M) (hb : b < M) (w : World) :
    Calls Try.prog 3 #[.agg (nw 9 m), .agg (nw 9 a), .agg (nw 9 b)] w fun e w' => e = .returned (.bool true) ∧ Gr w w' := by
  obtain h2 | h2 : m % 2 = 0 ∨ m % 2 = 1 := by omega
  · exact monts_even m a b hm h2 w
  · by_cases h3 : m < 3
    · exact monts_one m a b hm h2 h3 w
    · by_cases h4 : a < m
      · by_cases h5 : b < m
        · by_cases hgc : Nat.gcd m a = 1
          · exact monts_some m a b hm ha hb h2 (by omega) h4 h5 hgc w
          · exact monts_none m a b hm ha hb h2 (by omega) h4 h5 hgc w
        · exact monts_bgreat m a b hm ha hb h2 (by omega) h4 h5 w
      · exact monts_great m a b hm ha hb h2 (by omega) h4 w

end Go.Proofs.Ytleckbdhebjfkaa
