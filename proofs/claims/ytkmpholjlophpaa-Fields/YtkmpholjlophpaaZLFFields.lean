/-
  The statement Fields, walked: it answers true for every id and all numbers.
-/
import Derived.Test.YtkmpholjlophpaaZFAw
import Derived.Test.YtkmpholjlophpaaZFL
import Derived.Test.YtkmpholjlophpaaZFQ
import Derived.Test.YtkmpholjlophpaaZLFFa
namespace Go.Proofs.Ytkmpholjlophpaa
open Go.RowKit
attribute [local go_sem ↓] loadNat_is loadArr_is loadWide_is loadArrW_is storeNat_is storeWide_is
attribute [local go_sem] loadNat loadArr loadWide loadArrW storeNat storeWide idxArr fold9 fold18 nw_size nw_elem pre_self pre_1 pre_2 pre_3 pre_4 pre_5 pre_6 pre_7 pre_8 pre_9 pre_10 pre_11 pre_12 pre_13 pre_14 pre_15 pre_16 pre_17 pre_18 pre_19 pre_20 pre_21 pre_22 pre_23 pre_24 pre_25 pre_26 pre_27 pre_28 pre_29 pre_30 pre_31 pre_32 pre_33 pre_34 pre_35 pre_36 pre_37 pre_38 pre_39 pre_40 gro_size gro_drew gro_drewN drew_gro drewN_gro gro_gro blk_gro frz_gro blk_drew frz_drew blk_drewN frz_drewN blk_alloc_at frz_alloc_at blk_alloc frz_alloc cell_gro frozen_gro cell_alloc_pre frozen_alloc_pre setCell_drewN alloc_drewN setBlk_drew setBlk_drewN setBlk_alloc_at setBlk_alloc setBlk_gro setCell_gro setCell_alloc_pre size_setBlk size_setCell
attribute [local go_sem] nw_ext9 nw_ext18 eqArr9 eqArr18

attribute [local go_sem] loadNat2 loadArr2 loadWide2 loadK_nw ppre_1 ppre_2 ppre_3 ppre_4 ppre_5 ppre_6 ppre_7 ppre_8 ppre_9 ppre_10 ppre_11 ppre_12 ppre_13 ppre_14 ppre_15 ppre_16 ppre_17 ppre_18 ppre_19 ppre_20

attribute [local go_sem ↓] loadC_is storeC_is Go.wp_at_zero Go.wp_at_succ
attribute [local go_sem] eqN_self loadC storeCv storeC0 cvA_size frz_setBlk blk_setBlk setBlk_setBlk blk_other
set_option maxRecDepth 100000 in
set_option maxHeartbeats 4000000 in
theorem ffields_in (k a b W : Nat) (h1 : 1 ≤ k) (h2 : k ≤ 15) (ha : a < M) (hb : b < M) (hW : W < pw 18) (hab : a < pN k ∧ b < pN k) (w : World) :
    Calls Try.prog 3 #[.int .i64 (k : Int), .agg (nw 9 a), .agg (nw 9 b), .agg (nw 18 W)] w fun e w' => e = .returned (.bool true) ∧ Gr w w' := by
  have HO : ∀ w, Calls Try.prog 13 #[.int .i64 (k : Int)] w fun e w' => ∃ p n q, e = .returned (.tuple #[.agg (cvA (k : Int) p (dl (pN k)) n q), .bool true]) ∧ Sl w' p (pN k) ∧ Gr w w' := fun w => get_yes k h1 h2 w
  have hB := pN_bd k h1 h2
  have hdl := pN_dl k h1 h2
  have hprm := prm_pN k h1 h2
  obtain ⟨m, hm⟩ : ∃ m, pN k = m := ⟨_, rfl⟩
  have FA := fun a b ha hb w => fAdd_ok k a b h1 h2 ha hb w
  have FSu := fun a b ha hb w => fSub_ok k a b h1 h2 ha hb w
  have FR := fun W hW w => fReduce_ok k W h1 h2 hW w
  have FM := fun a b ha hb w => fMul_ok k a b h1 h2 ha hb w
  have FI := fun a h0 ha hg => fInv_ok k a h1 h2 h0 ha hg
  have FZ := fun w => fInv_zero k h1 h2 w
  rw [hm] at hB hdl hprm FA FSu FR FM FI HO
  obtain ⟨t, ht⟩ : ∃ t, W % m = t := ⟨_, rfl⟩
  have hda := dl_M a ha
  have hdb := dl_M b hb
  have hdW : dl W ≤ 36 := (dl_le _ 36).2 (by rw [pq_two 18]; exact hW)
  have HOf : Hid (∀ w, Calls Try.prog 22 #[.agg (nw 18 W)] w (Nm W w)) := fun w => rof_any W hW w
  have HFa : Hid (∀ w, Calls Try.prog 23 #[.agg (nw 9 a)] w (Nm a w)) := fun w => from_any a ha w
  have HFb : Hid (∀ w, Calls Try.prog 23 #[.agg (nw 9 b)] w (Nm b w)) := fun w => from_any b hb w
  have HMd : Hid (∀ (p : Option Addr) (n : Nat) w' p' k, Sl w' p' W → Sl w' p m → Calls Try.prog 21 #[.slice p' (dl W) k, .slice p (dl m) n] w' (Nm t w')) := fun p n w' p' k h h' => ht ▸ rmod_any W m k n p' p w' h h' (by omega) (by omega) (by omega)
  have HNt : Hid (∀ w' p' k, Sl w' p' t → Calls Try.prog 20 #[.slice p' (dl t) k] w' fun e w'' => e = .returned (.agg (nw 9 t)) ∧ Gr w' w'') := fun w' p' k h => rnat_any t k p' w' h
  obtain ⟨z1, hz1⟩ : ∃ z, cmpZ a m = z := ⟨_, rfl⟩
  obtain ⟨z2, hz2⟩ : ∃ z, cmpZ b m = z := ⟨_, rfl⟩
  have HCa : Hid (∀ (p : Option Addr) (n : Nat) w' p' k, Sl w' p' a → Sl w' p m → Calls Try.prog 24 #[.slice p' (dl a) k, .slice p (dl m) n] w' fun e w'' => e = .returned (.int .i64 (cmpZ a m)) ∧ Gr w' w'') := fun p n w' p' k h h' => rcmp_any a m k n p' p w' h h' (by omega) (by omega)
  have HCb : Hid (∀ (p : Option Addr) (n : Nat) w' p' k, Sl w' p' b → Sl w' p m → Calls Try.prog 24 #[.slice p' (dl b) k, .slice p (dl m) n] w' fun e w'' => e = .returned (.int .i64 (cmpZ b m)) ∧ Gr w' w'') := fun p n w' p' k h h' => rcmp_any b m k n p' p w' h h' (by omega) (by omega)
  rw [hm] at hab
  have q1 : z1 < 0 := by rw [← hz1]; unfold cmpZ; rw [if_pos hab.1]; decide
  have q2 : z2 < 0 := by rw [← hz2]; unfold cmpZ; rw [if_pos hab.2]; decide
  obtain ⟨x, hx⟩ : ∃ x, (a + b) % m = x := ⟨_, rfl⟩
  obtain ⟨y, hy⟩ : ∃ x, (a + m - b) % m = x := ⟨_, rfl⟩
  obtain ⟨z, hz⟩ : ∃ x, a * b % m = x := ⟨_, rfl⟩
  have hsy : subM a b m = y := by
    rw [← hy]; unfold subM
    by_cases hl : b ≤ a
    · rw [if_pos hl, show a + m - b = (a - b) + m by omega, Nat.add_mod_right, Nat.mod_eq_of_lt (by omega)]
    · rw [if_neg hl, Nat.mod_eq_of_lt (by omega)]
  have HAm : Hid (∀ (p : Option Addr) (n : Nat) w' p' k p'' k', Sl w' p' a → Sl w' p'' b → Sl w' p m → Calls Try.prog 25 #[.slice p' (dl a) k, .slice p'' (dl b) k', .slice p (dl m) n] w' (Nm x w')) := fun p n w' p' k p'' k' hp hq hr => hx ▸ raddmod_any a b m k k' n p' p'' p w' hp hq hr (by omega) hab.1 hab.2
  have HSm : Hid (∀ (p : Option Addr) (n : Nat) w' p' k p'' k', Sl w' p' a → Sl w' p'' b → Sl w' p m → Calls Try.prog 26 #[.slice p' (dl a) k, .slice p'' (dl b) k', .slice p (dl m) n] w' (Nm y w')) := fun p n w' p' k p'' k' hp hq hr => hsy ▸ rsubmod_any a b m k k' n p' p'' p w' hp hq hr (by omega) hab.1 hab.2
  have HMm : Hid (∀ (p : Option Addr) (n : Nat) w' p' k p'' k', Sl w' p' a → Sl w' p'' b → Sl w' p m → Calls Try.prog 27 #[.slice p' (dl a) k, .slice p'' (dl b) k', .slice p (dl m) n] w' (Nm z w')) := fun p n w' p' k p'' k' hp hq hr => hz ▸ rmulmod_any a b m k k' n p' p'' p w' hp hq hr (by omega) (by omega) (by omega) (by omega)
  have HNx : Hid (∀ w' p' k, Sl w' p' x → Calls Try.prog 20 #[.slice p' (dl x) k] w' fun e w'' => e = .returned (.agg (nw 9 x)) ∧ Gr w' w'') := fun w' p' k h => rnat_any x k p' w' h
  have HNy : Hid (∀ w' p' k, Sl w' p' y → Calls Try.prog 20 #[.slice p' (dl y) k] w' fun e w'' => e = .returned (.agg (nw 9 y)) ∧ Gr w' w'') := fun w' p' k h => rnat_any y k p' w' h
  have HNz : Hid (∀ w' p' k, Sl w' p' z → Calls Try.prog 20 #[.slice p' (dl z) k] w' fun e w'' => e = .returned (.agg (nw 9 z)) ∧ Gr w' w'') := fun w' p' k h => rnat_any z k p' w' h
  have AW : Hid (∀ w', Calls Try.prog 19 #[] w' fun e w'' => e = .returned (.bool true) ∧ Gr w' w'') := fun w => awake5_any w
  have A1 : Hid (∀ w', Calls Try.prog 14 #[.int .i64 k, .agg (nw 9 a), .agg (nw 9 b)] w' fun e w'' => e = .returned (.tuple #[.agg (nw 9 x), .int .i64 0]) ∧ Gr w' w'') := fun w => hx ▸ FA a b hab.1 hab.2 w
  have D1 : Hid (∀ w', Calls Try.prog 15 #[.int .i64 k, .agg (nw 9 a), .agg (nw 9 b)] w' fun e w'' => e = .returned (.tuple #[.agg (nw 9 y), .int .i64 0]) ∧ Gr w' w'') := fun w => hy ▸ FSu a b hab.1 hab.2 w
  have M1 : Hid (∀ w', Calls Try.prog 16 #[.int .i64 k, .agg (nw 9 a), .agg (nw 9 b)] w' fun e w'' => e = .returned (.tuple #[.agg (nw 9 z), .int .i64 0]) ∧ Gr w' w'') := fun w => hz ▸ FM a b hab.1 hab.2 w
  have R1 : Hid (∀ w', Calls Try.prog 17 #[.int .i64 k, .agg (nw 18 W)] w' fun e w'' => e = .returned (.tuple #[.agg (nw 9 t), .int .i64 0]) ∧ Gr w' w'') := fun w => ht ▸ FR W hW w
  have HO' : Hid (∀ w, Calls Try.prog 13 #[.int .i64 (k : Int)] w fun e w' => ∃ p n q, e = .returned (.tuple #[.agg (cvA (k : Int) p (dl m) n q), .bool true]) ∧ Sl w' p m ∧ Gr w w') := HO
  clear HO FA FSu FR FM FI FZ hprm hB hdl hm h1 h2 ht hda hdb hdW hW ha hb hab hx hy hz hsy
  go_enter Try.func3, Try.ntmps3
  go_upto_region 1 with fail
  refine gen_w (fun v => Hid (Gr w v ∧ Cl v w.heap.size a ∧ Cl v (w.heap.size + 1) b ∧ Clw v (w.heap.size + 1 + 1) W)) ⟨(by repeat (first | exact Gr.refl _ | apply Gr.drewN | apply Gr.drew | apply Gr.alloc | apply Gr.gro)), ⟨by simp [go_sem], by simp [go_sem], by simp [go_sem]⟩, ⟨by simp [go_sem], by simp [go_sem], by simp [go_sem]⟩, ⟨by simp [go_sem], by simp [go_sem], by simp [go_sem]⟩⟩ ?_
  intro v0 HV
  go_cut [9, 10] from 21 to 25 (fun a0 a1 wx => ∃ (e9 : Nat) (p : Option Addr) (n : Nat) (q : Nat → Option Addr × Nat × Nat), a0 = .pointer (some ⟨e9, 0, none⟩) ∧ a1 = .bool true ∧ Hid (Gr w wx ∧ Cl wx (w.heap.size) a ∧ Cl wx (w.heap.size + 1) b ∧ Clw wx (w.heap.size + 1 + 1) W ∧ Cv wx e9 k p (dl m) n q ∧ Sl wx p m))
  case first =>
    have ⟨G, c0, c1, c2⟩ := HV.out
    go_wp2_with (go_at_call 13; refine (HO'.out _).mono ?_; rintro e W1 ⟨p, n, q, rfl, S1, G1⟩)
    go_meet
    exact ⟨_, p, n, q, rfl, rfl, G.trans (G1.trans (by repeat (first | exact Gr.refl _ | apply Gr.drewN | apply Gr.drew | apply Gr.alloc | apply Gr.gro))), c0.gr (G1.trans (by repeat (first | exact Gr.refl _ | apply Gr.drewN | apply Gr.drew | apply Gr.alloc | apply Gr.gro))), c1.gr (G1.trans (by repeat (first | exact Gr.refl _ | apply Gr.drewN | apply Gr.drew | apply Gr.alloc | apply Gr.gro))), c2.gr (G1.trans (by repeat (first | exact Gr.refl _ | apply Gr.drewN | apply Gr.drew | apply Gr.alloc | apply Gr.gro))), ⟨by simp [go_sem], by simp [go_sem], by simp [go_sem]⟩, S1.gr (by repeat (first | exact Gr.refl _ | apply Gr.drewN | apply Gr.drew | apply Gr.alloc | apply Gr.gro))⟩
  clear HV
  obtain ⟨e9, p, n, q, rfl, rfl, HV⟩ := hcut
  go_upto_region 2 with fail
  go_cut [11, 12] from 26 to 32 (fun a0 a1 wx => ∃ e11 : Nat, a0 = .pointer (some ⟨e11, 0, none⟩) ∧ a1 = .int .i64 0 ∧ Hid (Gr w wx ∧ Cl wx (w.heap.size) a ∧ Cl wx (w.heap.size + 1) b ∧ Clw wx (w.heap.size + 1 + 1) W ∧ Cv wx e9 k p (dl m) n q ∧ Cl wx e11 x ∧ Sl wx p m))
  case first =>
    have ⟨G, c_w_heap_size, c__w_heap_size_1_, c__w_heap_size_1_1_, c_e9, S_p⟩ := HV.out
    have ⟨hc_w_heap_size, fc_w_heap_size, pc_w_heap_size⟩ := c_w_heap_size
    have ⟨hc__w_heap_size_1_, fc__w_heap_size_1_, pc__w_heap_size_1_⟩ := c__w_heap_size_1_
    have ⟨hc__w_heap_size_1_1_, fc__w_heap_size_1_1_, pc__w_heap_size_1_1_⟩ := c__w_heap_size_1_1_
    have ⟨hc_e9, fc_e9, pc_e9⟩ := c_e9
    have h0c_e9 := (c_e9).at0
    have h1c_e9 := (c_e9).at1
    go_wp2_with (first
        | (go_at_call_of 14 ((#[.int .i64 k, .agg (nw 9 a), .agg (nw 9 b)] : Array Value)); refine (A1.out _).mono ?_; rintro e w' ⟨rfl, g1, rfl⟩)
        | (go_at_call 18; refine (num_any _ _).mono ?_; rintro e w' ⟨rfl, rfl⟩))
    go_meet
    exact ⟨_, rfl, rfl, G.trans (by repeat (first | exact Gr.refl _ | apply Gr.drewN | apply Gr.drew | apply Gr.alloc | apply Gr.gro)), c_w_heap_size.gr (by repeat (first | exact Gr.refl _ | apply Gr.drewN | apply Gr.drew | apply Gr.alloc | apply Gr.gro)), c__w_heap_size_1_.gr (by repeat (first | exact Gr.refl _ | apply Gr.drewN | apply Gr.drew | apply Gr.alloc | apply Gr.gro)), c__w_heap_size_1_1_.gr (by repeat (first | exact Gr.refl _ | apply Gr.drewN | apply Gr.drew | apply Gr.alloc | apply Gr.gro)), c_e9.gr (by repeat (first | exact Gr.refl _ | apply Gr.drewN | apply Gr.drew | apply Gr.alloc | apply Gr.gro)), ⟨by simp [go_sem], by simp [go_sem], by simp [go_sem]⟩, S_p.gr (by repeat (first | exact Gr.refl _ | apply Gr.drewN | apply Gr.drew | apply Gr.alloc | apply Gr.gro))⟩
  clear HV
  obtain ⟨e11, rfl, rfl, HV⟩ := hcut
  go_upto_region 3 with fail
  go_cut [13, 14] from 33 to 39 (fun a0 a1 wx => ∃ e13 : Nat, a0 = .pointer (some ⟨e13, 0, none⟩) ∧ a1 = .int .i64 0 ∧ Hid (Gr w wx ∧ Cl wx (w.heap.size) a ∧ Cl wx (w.heap.size + 1) b ∧ Clw wx (w.heap.size + 1 + 1) W ∧ Cv wx e9 k p (dl m) n q ∧ Cl wx e11 x ∧ Cl wx e13 y ∧ Sl wx p m))
  case first =>
    have ⟨G, c_w_heap_size, c__w_heap_size_1_, c__w_heap_size_1_1_, c_e9, c_e11, S_p⟩ := HV.out
    have ⟨hc_w_heap_size, fc_w_heap_size, pc_w_heap_size⟩ := c_w_heap_size
    have ⟨hc__w_heap_size_1_, fc__w_heap_size_1_, pc__w_heap_size_1_⟩ := c__w_heap_size_1_
    have ⟨hc__w_heap_size_1_1_, fc__w_heap_size_1_1_, pc__w_heap_size_1_1_⟩ := c__w_heap_size_1_1_
    have ⟨hc_e9, fc_e9, pc_e9⟩ := c_e9
    have h0c_e9 := (c_e9).at0
    have h1c_e9 := (c_e9).at1
    have ⟨hc_e11, fc_e11, pc_e11⟩ := c_e11
    go_wp2_with (first
        | (go_at_call_of 15 ((#[.int .i64 k, .agg (nw 9 a), .agg (nw 9 b)] : Array Value)); refine (D1.out _).mono ?_; rintro e w' ⟨rfl, g2, rfl⟩)
        | (go_at_call 18; refine (num_any _ _).mono ?_; rintro e w' ⟨rfl, rfl⟩))
    go_meet
    exact ⟨_, rfl, rfl, G.trans (by repeat (first | exact Gr.refl _ | apply Gr.drewN | apply Gr.drew | apply Gr.alloc | apply Gr.gro)), c_w_heap_size.gr (by repeat (first | exact Gr.refl _ | apply Gr.drewN | apply Gr.drew | apply Gr.alloc | apply Gr.gro)), c__w_heap_size_1_.gr (by repeat (first | exact Gr.refl _ | apply Gr.drewN | apply Gr.drew | apply Gr.alloc | apply Gr.gro)), c__w_heap_size_1_1_.gr (by repeat (first | exact Gr.refl _ | apply Gr.drewN | apply Gr.drew | apply Gr.alloc | apply Gr.gro)), c_e9.gr (by repeat (first | exact Gr.refl _ | apply Gr.drewN | apply Gr.drew | apply Gr.alloc | apply Gr.gro)), c_e11.gr (by repeat (first | exact Gr.refl _ | apply Gr.drewN | apply Gr.drew | apply Gr.alloc | apply Gr.gro)), ⟨by simp [go_sem], by simp [go_sem], by simp [go_sem]⟩, S_p.gr (by repeat (first | exact Gr.refl _ | apply Gr.drewN | apply Gr.drew | apply Gr.alloc | apply Gr.gro))⟩
  clear HV
  obtain ⟨e13, rfl, rfl, HV⟩ := hcut
  go_upto_region 4 with fail
  go_cut [15, 16] from 40 to 46 (fun a0 a1 wx => ∃ e15 : Nat, a0 = .pointer (some ⟨e15, 0, none⟩) ∧ a1 = .int .i64 0 ∧ Hid (Gr w wx ∧ Cl wx (w.heap.size) a ∧ Cl wx (w.heap.size + 1) b ∧ Clw wx (w.heap.size + 1 + 1) W ∧ Cv wx e9 k p (dl m) n q ∧ Cl wx e11 x ∧ Cl wx e13 y ∧ Cl wx e15 z ∧ Sl wx p m))
  case first =>
    have ⟨G, c_w_heap_size, c__w_heap_size_1_, c__w_heap_size_1_1_, c_e9, c_e11, c_e13, S_p⟩ := HV.out
    have ⟨hc_w_heap_size, fc_w_heap_size, pc_w_heap_size⟩ := c_w_heap_size
    have ⟨hc__w_heap_size_1_, fc__w_heap_size_1_, pc__w_heap_size_1_⟩ := c__w_heap_size_1_
    have ⟨hc__w_heap_size_1_1_, fc__w_heap_size_1_1_, pc__w_heap_size_1_1_⟩ := c__w_heap_size_1_1_
    have ⟨hc_e9, fc_e9, pc_e9⟩ := c_e9
    have h0c_e9 := (c_e9).at0
    have h1c_e9 := (c_e9).at1
    have ⟨hc_e11, fc_e11, pc_e11⟩ := c_e11
    have ⟨hc_e13, fc_e13, pc_e13⟩ := c_e13
    go_wp2_with (first
        | (go_at_call_of 16 ((#[.int .i64 k, .agg (nw 9 a), .agg (nw 9 b)] : Array Value)); refine (M1.out _).mono ?_; rintro e w' ⟨rfl, g3, rfl⟩)
        | (go_at_call 18; refine (num_any _ _).mono ?_; rintro e w' ⟨rfl, rfl⟩))
    go_meet
    exact ⟨_, rfl, rfl, G.trans (by repeat (first | exact Gr.refl _ | apply Gr.drewN | apply Gr.drew | apply Gr.alloc | apply Gr.gro)), c_w_heap_size.gr (by repeat (first | exact Gr.refl _ | apply Gr.drewN | apply Gr.drew | apply Gr.alloc | apply Gr.gro)), c__w_heap_size_1_.gr (by repeat (first | exact Gr.refl _ | apply Gr.drewN | apply Gr.drew | apply Gr.alloc | apply Gr.gro)), c__w_heap_size_1_1_.gr (by repeat (first | exact Gr.refl _ | apply Gr.drewN | apply Gr.drew | apply Gr.alloc | apply Gr.gro)), c_e9.gr (by repeat (first | exact Gr.refl _ | apply Gr.drewN | apply Gr.drew | apply Gr.alloc | apply Gr.gro)), c_e11.gr (by repeat (first | exact Gr.refl _ | apply Gr.drewN | apply Gr.drew | apply Gr.alloc | apply Gr.gro)), c_e13.gr (by repeat (first | exact Gr.refl _ | apply Gr.drewN | apply Gr.drew | apply Gr.alloc | apply Gr.gro)), ⟨by simp [go_sem], by simp [go_sem], by simp [go_sem]⟩, S_p.gr (by repeat (first | exact Gr.refl _ | apply Gr.drewN | apply Gr.drew | apply Gr.alloc | apply Gr.gro))⟩
  clear HV
  obtain ⟨e15, rfl, rfl, HV⟩ := hcut
  go_upto_region 5 with fail
  go_cut [17, 18] from 47 to 52 (fun a0 a1 wx => ∃ e17 : Nat, a0 = .pointer (some ⟨e17, 0, none⟩) ∧ a1 = .int .i64 0 ∧ Hid (Gr w wx ∧ Cl wx (w.heap.size) a ∧ Cl wx (w.heap.size + 1) b ∧ Clw wx (w.heap.size + 1 + 1) W ∧ Cv wx e9 k p (dl m) n q ∧ Cl wx e11 x ∧ Cl wx e13 y ∧ Cl wx e15 z ∧ Cl wx e17 t ∧ Sl wx p m))
  case first =>
    have ⟨G, c_w_heap_size, c__w_heap_size_1_, c__w_heap_size_1_1_, c_e9, c_e11, c_e13, c_e15, S_p⟩ := HV.out
    have ⟨hc_w_heap_size, fc_w_heap_size, pc_w_heap_size⟩ := c_w_heap_size
    have ⟨hc__w_heap_size_1_, fc__w_heap_size_1_, pc__w_heap_size_1_⟩ := c__w_heap_size_1_
    have ⟨hc__w_heap_size_1_1_, fc__w_heap_size_1_1_, pc__w_heap_size_1_1_⟩ := c__w_heap_size_1_1_
    have ⟨hc_e9, fc_e9, pc_e9⟩ := c_e9
    have h0c_e9 := (c_e9).at0
    have h1c_e9 := (c_e9).at1
    have ⟨hc_e11, fc_e11, pc_e11⟩ := c_e11
    have ⟨hc_e13, fc_e13, pc_e13⟩ := c_e13
    have ⟨hc_e15, fc_e15, pc_e15⟩ := c_e15
    go_wp2_with (first
        | (go_at_call_of 17 ((#[.int .i64 k, .agg (nw 18 W)] : Array Value)); refine (R1.out _).mono ?_; rintro e w' ⟨rfl, g4, rfl⟩)
        | (go_at_call 18; refine (num_any _ _).mono ?_; rintro e w' ⟨rfl, rfl⟩))
    go_meet
    exact ⟨_, rfl, rfl, G.trans (by repeat (first | exact Gr.refl _ | apply Gr.drewN | apply Gr.drew | apply Gr.alloc | apply Gr.gro)), c_w_heap_size.gr (by repeat (first | exact Gr.refl _ | apply Gr.drewN | apply Gr.drew | apply Gr.alloc | apply Gr.gro)), c__w_heap_size_1_.gr (by repeat (first | exact Gr.refl _ | apply Gr.drewN | apply Gr.drew | apply Gr.alloc | apply Gr.gro)), c__w_heap_size_1_1_.gr (by repeat (first | exact Gr.refl _ | apply Gr.drewN | apply Gr.drew | apply Gr.alloc | apply Gr.gro)), c_e9.gr (by repeat (first | exact Gr.refl _ | apply Gr.drewN | apply Gr.drew | apply Gr.alloc | apply Gr.gro)), c_e11.gr (by repeat (first | exact Gr.refl _ | apply Gr.drewN | apply Gr.drew | apply Gr.alloc | apply Gr.gro)), c_e13.gr (by repeat (first | exact Gr.refl _ | apply Gr.drewN | apply Gr.drew | apply Gr.alloc | apply Gr.gro)), c_e15.gr (by repeat (first | exact Gr.refl _ | apply Gr.drewN | apply Gr.drew | apply Gr.alloc | apply Gr.gro)), ⟨by simp [go_sem], by simp [go_sem], by simp [go_sem]⟩, S_p.gr (by repeat (first | exact Gr.refl _ | apply Gr.drewN | apply Gr.drew | apply Gr.alloc | apply Gr.gro))⟩
  clear HV
  obtain ⟨e17, rfl, rfl, HV⟩ := hcut
  go_upto_region 8 with fail
  have ⟨G, c_w_heap_size, c__w_heap_size_1_, c__w_heap_size_1_1_, c_e9, c_e11, c_e13, c_e15, c_e17, S_p⟩ := HV.out
  refine wp_region_pred (by kernel_rfl) (by kernel_rfl) [.c (.int .i64 0), .c (.int .i64 0), .c (.bool false), .c (.bool false), .c (.agg (nw 9 t)), .c (.agg (nw 18 W)), .n (W), .c (.pointer (some ⟨e9, 1, none⟩)), .c (.slice p (dl m) n), .n (t), .c (.agg (nw 9 t)), .c (.bool false), .c (.bool false)] ?hs ?hf
  case hs =>
    intro listed vals a1 vA i o hg hR hF ho hd
    have Hc_w_heap_size : blk vA (w.heap.size) = nw 9 a := (hg.blk _ c_w_heap_size.p).trans c_w_heap_size.h
    have Hc__w_heap_size_1_ : blk vA (w.heap.size + 1) = nw 9 b := (hg.blk _ c__w_heap_size_1_.p).trans c__w_heap_size_1_.h
    have Hc__w_heap_size_1_1_ : blk vA (w.heap.size + 1 + 1) = nw 18 W := (hg.blk _ c__w_heap_size_1_1_.p).trans c__w_heap_size_1_1_.h
    have Hc_e9 : blk vA e9 = cvA k p (dl m) n q := (hg.blk _ c_e9.p).trans c_e9.h
    have Hc_e11 : blk vA e11 = nw 9 x := (hg.blk _ c_e11.p).trans c_e11.h
    have Hc_e13 : blk vA e13 = nw 9 y := (hg.blk _ c_e13.p).trans c_e13.h
    have Hc_e15 : blk vA e15 = nw 9 z := (hg.blk _ c_e15.p).trans c_e15.h
    have Hc_e17 : blk vA e17 = nw 9 t := (hg.blk _ c_e17.p).trans c_e17.h
    have H1 : vA.cell? ⟨e9, 1, none⟩ = some (.slice p (dl m) n) := by rw [cell_blk, Hc_e9]; rfl
    have Sm : Sl vA p m := S_p.gr hg
    have hi : i < 13 := by simpa using (Array.getElem?_eq_some_iff.1 ho).1
    obtain rfl | rfl | rfl | rfl | rfl | rfl | rfl | rfl | rfl | rfl | rfl | rfl | rfl : i = 0 ∨ i = 1 ∨ i = 2 ∨ i = 3 ∨ i = 4 ∨ i = 5 ∨ i = 6 ∨ i = 7 ∨ i = 8 ∨ i = 9 ∨ i = 10 ∨ i = 11 ∨ i = 12 := by omega
    · obtain rfl := Option.some.inj ho
      have f0 := hF.old (s := 18) (v := .int .i64 0) (by kernel_rfl) rfl
      refine Or.inl ⟨wanted_no rfl, ?_⟩
      exact wp_val (.int .i64 0) (by simp [go_sem, f0]) ⟨_, rfl, Gr.refl _, rfl⟩
    · obtain rfl := Option.some.inj ho
      have l0 := on_of hd 0 (by kernel_rfl)
      have f0 := hF.at (s := 86) (i := 0) (by kernel_rfl) (by simp) l0
      rw [show vals 0 = .int .i64 0 from hR 0 l0] at f0
      refine Or.inl ⟨wanted_no rfl, ?_⟩
      exact wp_ret (.int .i64 0) (by simp [go_sem, f0]) (num5_gr _ _) (fun w2 hg2 => ⟨_, rfl, hg2, rfl⟩)
    · obtain rfl := Option.some.inj ho
      have l0 := on_of hd 1 (by kernel_rfl)
      have f0 := hF.at (s := 87) (i := 1) (by kernel_rfl) (by simp) l0
      rw [show vals 1 = .int .i64 0 from hR 1 l0] at f0
      refine Or.inl ⟨wanted_no rfl, ?_⟩
      exact wp_val (.bool false) (by simp [go_sem, f0]) ⟨_, rfl, Gr.refl _, rfl⟩
    · obtain rfl := Option.some.inj ho
      have l0 := on_of hd 2 (by kernel_rfl)
      have f0 := hF.at (s := 88) (i := 2) (by kernel_rfl) (by simp) l0
      rw [show vals 2 = .bool false from hR 2 l0] at f0
      refine Or.inl ⟨wanted_no rfl, ?_⟩
      exact wp_val (.bool false) (by simp [go_sem, f0]) ⟨_, rfl, Gr.refl _, rfl⟩
    · obtain rfl := Option.some.inj ho
      have lg := on_of hd 3 (by kernel_rfl)
      have fg := hF.at (s := 89) (i := 3) (by kernel_rfl) (by simp) lg
      rw [show vals 3 = .bool false from hR 3 lg] at fg
      have f0 := hF.old (s := 17) (v := .pointer (some ⟨e17, 0, none⟩)) (by kernel_rfl) rfl
      refine Or.inl ⟨wanted_at (j := 3) (s := 89) rfl rfl rfl fg, ?_⟩
      exact wp_val (.agg (nw 9 t)) (by simp [go_sem, f0, Hc_e17]) ⟨_, rfl, Gr.refl _, rfl⟩
    · obtain rfl := Option.some.inj ho
      have lg := on_of hd 3 (by kernel_rfl)
      have fg := hF.at (s := 89) (i := 3) (by kernel_rfl) (by simp) lg
      rw [show vals 3 = .bool false from hR 3 lg] at fg
      have f0 := hF.old (s := 7) (v := .pointer (some ⟨(w.heap.size + 1 + 1), 0, none⟩)) (by kernel_rfl) rfl
      refine Or.inl ⟨wanted_at (j := 3) (s := 89) rfl rfl rfl fg, ?_⟩
      exact wp_val (.agg (nw 18 W)) (by simp [go_sem, f0, Hc__w_heap_size_1_1_]) ⟨_, rfl, Gr.refl _, rfl⟩
    · obtain rfl := Option.some.inj ho
      have lg := on_of hd 3 (by kernel_rfl)
      have fg := hF.at (s := 89) (i := 3) (by kernel_rfl) (by simp) lg
      rw [show vals 3 = .bool false from hR 3 lg] at fg
      have l0 := on_of hd 5 (by kernel_rfl)
      have f0 := hF.at (s := 91) (i := 5) (by kernel_rfl) (by simp) l0
      rw [show vals 5 = .agg (nw 18 W) from hR 5 l0] at f0
      refine Or.inl ⟨wanted_at (j := 3) (s := 89) rfl rfl rfl fg, ?_⟩
      exact wp_retN (by simp [go_sem, f0]) (HOf.out _) (fun p n w2 hS hg2 => ⟨_, rfl, hg2, p, n, rfl, hS⟩)
    · obtain rfl := Option.some.inj ho
      have lg := on_of hd 3 (by kernel_rfl)
      have fg := hF.at (s := 89) (i := 3) (by kernel_rfl) (by simp) lg
      rw [show vals 3 = .bool false from hR 3 lg] at fg
      have f0 := hF.old (s := 9) (v := .pointer (some ⟨e9, 0, none⟩)) (by kernel_rfl) rfl
      refine Or.inl ⟨wanted_at (j := 3) (s := 89) rfl rfl rfl fg, ?_⟩
      exact wp_val (.pointer (some ⟨e9, 1, none⟩)) (by simp [go_sem, f0]) ⟨_, rfl, Gr.refl _, rfl⟩
    · obtain rfl := Option.some.inj ho
      have lg := on_of hd 3 (by kernel_rfl)
      have fg := hF.at (s := 89) (i := 3) (by kernel_rfl) (by simp) lg
      rw [show vals 3 = .bool false from hR 3 lg] at fg
      have l0 := on_of hd 7 (by kernel_rfl)
      have f0 := hF.at (s := 93) (i := 7) (by kernel_rfl) (by simp) l0
      rw [show vals 7 = .pointer (some ⟨e9, 1, none⟩) from hR 7 l0] at f0
      refine Or.inl ⟨wanted_at (j := 3) (s := 89) rfl rfl rfl fg, ?_⟩
      exact wp_val (.slice p (dl m) n) (by simp [go_sem, f0, H1]) ⟨_, rfl, Gr.refl _, rfl⟩
    · obtain rfl := Option.some.inj ho
      have lg := on_of hd 3 (by kernel_rfl)
      have fg := hF.at (s := 89) (i := 3) (by kernel_rfl) (by simp) lg
      rw [show vals 3 = .bool false from hR 3 lg] at fg
      have l0 := on_of hd 6 (by kernel_rfl)
      have f0 := hF.at (s := 92) (i := 6) (by kernel_rfl) (by simp) l0
      obtain ⟨p0, n0, e0, S0⟩ := (show ∃ p n, vals 6 = Value.slice p (dl (W)) n ∧ Sl vA p (W) from hR 6 l0)
      rw [e0] at f0
      have l1 := on_of hd 8 (by kernel_rfl)
      have f1 := hF.at (s := 94) (i := 8) (by kernel_rfl) (by simp) l1
      rw [show vals 8 = .slice p (dl m) n from hR 8 l1] at f1
      refine Or.inl ⟨wanted_at (j := 3) (s := 89) rfl rfl rfl fg, ?_⟩
      exact wp_retN (by simp [go_sem, f0, f1]) (HMd.out p n _ p0 n0 S0 Sm) (fun p n w2 hS hg2 => ⟨_, rfl, hg2, p, n, rfl, hS⟩)
    · obtain rfl := Option.some.inj ho
      have lg := on_of hd 3 (by kernel_rfl)
      have fg := hF.at (s := 89) (i := 3) (by kernel_rfl) (by simp) lg
      rw [show vals 3 = .bool false from hR 3 lg] at fg
      have l0 := on_of hd 9 (by kernel_rfl)
      have f0 := hF.at (s := 95) (i := 9) (by kernel_rfl) (by simp) l0
      obtain ⟨p0, n0, e0, S0⟩ := (show ∃ p n, vals 9 = Value.slice p (dl (t)) n ∧ Sl vA p (t) from hR 9 l0)
      rw [e0] at f0
      refine Or.inl ⟨wanted_at (j := 3) (s := 89) rfl rfl rfl fg, ?_⟩
      exact wp_ret (.agg (nw 9 t)) (by simp [go_sem, f0]) (HNt.out _ p0 n0 S0) (fun w2 hg2 => ⟨_, rfl, hg2, rfl⟩)
    · obtain rfl := Option.some.inj ho
      have lg := on_of hd 3 (by kernel_rfl)
      have fg := hF.at (s := 89) (i := 3) (by kernel_rfl) (by simp) lg
      rw [show vals 3 = .bool false from hR 3 lg] at fg
      have l0 := on_of hd 4 (by kernel_rfl)
      have f0 := hF.at (s := 90) (i := 4) (by kernel_rfl) (by simp) l0
      rw [show vals 4 = .agg (nw 9 t) from hR 4 l0] at f0
      have l1 := on_of hd 10 (by kernel_rfl)
      have f1 := hF.at (s := 96) (i := 10) (by kernel_rfl) (by simp) l1
      rw [show vals 10 = .agg (nw 9 t) from hR 10 l1] at f1
      refine Or.inl ⟨wanted_at (j := 3) (s := 89) rfl rfl rfl fg, ?_⟩
      exact wp_val (.bool false) (by simp [go_sem, f0, f1, eqN_self]) ⟨_, rfl, Gr.refl _, rfl⟩
    · obtain rfl := Option.some.inj ho
      have l0 := on_of hd 3 (by kernel_rfl)
      have f0 := hF.at (s := 89) (i := 3) (by kernel_rfl) (by simp) l0
      rw [show vals 3 = .bool false from hR 3 l0] at f0
      have l1 := on_of hd 11 (by kernel_rfl)
      have f1 := hF.at (s := 97) (i := 11) (by kernel_rfl) (by simp) l1
      rw [show vals 11 = .bool false from hR 11 l1] at f1
      refine Or.inl ⟨wanted_no rfl, ?_⟩
      exact wp_val (.bool false) (by simp [go_sem, f0, f1]) ⟨_, rfl, Gr.refl _, rfl⟩
  case hf =>
    intro vals vA hg hR
    have x0 : vals 0 = .int .i64 0 := hR 0 (by simp)
    have x1 : vals 1 = .int .i64 0 := hR 1 (by simp)
    have x2 : vals 2 = .bool false := hR 2 (by simp)
    have x3 : vals 3 = .bool false := hR 3 (by simp)
    have x4 : vals 4 = .agg (nw 9 t) := hR 4 (by simp)
    have x5 : vals 5 = .agg (nw 18 W) := hR 5 (by simp)
    obtain ⟨p6, n6, x6, S6⟩ := (show ∃ p n, vals 6 = Value.slice p (dl (W)) n ∧ Sl vA p (W) from hR 6 (by simp))
    have x7 : vals 7 = .pointer (some ⟨e9, 1, none⟩) := hR 7 (by simp)
    have x8 : vals 8 = .slice p (dl m) n := hR 8 (by simp)
    obtain ⟨p9, n9, x9, S9⟩ := (show ∃ p n, vals 9 = Value.slice p (dl (t)) n ∧ Sl vA p (t) from hR 9 (by simp))
    have x10 : vals 10 = .agg (nw 9 t) := hR 10 (by simp)
    have x11 : vals 11 = .bool false := hR 11 (by simp)
    have x12 : vals 12 = .bool false := hR 12 (by simp)
    simp only [putFrom, Act.put, List.setIfInBounds_toArray, List.set_cons_zero, List.set_cons_succ, x0, x1, x2, x3, x4, x5, x6, x7, x8, x9, x10, x11, x12]
    clear hR x0 x1 x2 x3 x4 x5 x6 x7 x8 x9 x10 x11 x12
    have HV : Hid (Gr w vA ∧ Cl vA (w.heap.size) a ∧ Cl vA (w.heap.size + 1) b ∧ Clw vA (w.heap.size + 1 + 1) W ∧ Cv vA e9 k p (dl m) n q ∧ Cl vA e11 x ∧ Cl vA e13 y ∧ Cl vA e15 z ∧ Cl vA e17 t ∧ Sl vA p m) := ⟨G.trans hg, c_w_heap_size.gr hg, c__w_heap_size_1_.gr hg, c__w_heap_size_1_1_.gr hg, c_e9.gr hg, c_e11.gr hg, c_e13.gr hg, c_e15.gr hg, c_e17.gr hg, S_p.gr hg⟩
    clear hg
    go_upto_region 10 with fail
    have ⟨G, c_w_heap_size, c__w_heap_size_1_, c__w_heap_size_1_1_, c_e9, c_e11, c_e13, c_e15, c_e17, S_p⟩ := HV.out
    refine wp_region_pred (by kernel_rfl) (by kernel_rfl) [.c (.agg (nw 9 a)), .n (a), .c (.agg (nw 9 b)), .n (b), .n (a), .n (b)] ?hs ?hf
    case hs =>
      intro listed vals a1 vB i o hg hR hF ho hd
      have Hc_w_heap_size : blk vB (w.heap.size) = nw 9 a := (hg.blk _ c_w_heap_size.p).trans c_w_heap_size.h
      have Hc__w_heap_size_1_ : blk vB (w.heap.size + 1) = nw 9 b := (hg.blk _ c__w_heap_size_1_.p).trans c__w_heap_size_1_.h
      have Hc__w_heap_size_1_1_ : blk vB (w.heap.size + 1 + 1) = nw 18 W := (hg.blk _ c__w_heap_size_1_1_.p).trans c__w_heap_size_1_1_.h
      have Hc_e9 : blk vB e9 = cvA k p (dl m) n q := (hg.blk _ c_e9.p).trans c_e9.h
      have Hc_e11 : blk vB e11 = nw 9 x := (hg.blk _ c_e11.p).trans c_e11.h
      have Hc_e13 : blk vB e13 = nw 9 y := (hg.blk _ c_e13.p).trans c_e13.h
      have Hc_e15 : blk vB e15 = nw 9 z := (hg.blk _ c_e15.p).trans c_e15.h
      have Hc_e17 : blk vB e17 = nw 9 t := (hg.blk _ c_e17.p).trans c_e17.h
      have H1 : vB.cell? ⟨e9, 1, none⟩ = some (.slice p (dl m) n) := by rw [cell_blk, Hc_e9]; rfl
      have Sm : Sl vB p m := S_p.gr hg
      have hi : i < 6 := by simpa using (Array.getElem?_eq_some_iff.1 ho).1
      obtain rfl | rfl | rfl | rfl | rfl | rfl : i = 0 ∨ i = 1 ∨ i = 2 ∨ i = 3 ∨ i = 4 ∨ i = 5 := by omega
      · obtain rfl := Option.some.inj ho
        have f0 := hF.old (s := 5) (v := .pointer (some ⟨w.heap.size, 0, none⟩)) (by kernel_rfl) rfl
        refine Or.inl ⟨wanted_no rfl, ?_⟩
        exact wp_val (.agg (nw 9 a)) (by simp [go_sem, f0, Hc_w_heap_size]) ⟨_, rfl, Gr.refl _, rfl⟩
      · obtain rfl := Option.some.inj ho
        have l0 := on_of hd 0 (by kernel_rfl)
        have f0 := hF.at (s := 99) (i := 0) (by kernel_rfl) (by simp) l0
        rw [show vals 0 = .agg (nw 9 a) from hR 0 l0] at f0
        refine Or.inl ⟨wanted_no rfl, ?_⟩
        exact wp_retN (by simp [go_sem, f0]) (HFa.out _) (fun p n w2 hS hg2 => ⟨_, rfl, hg2, p, n, rfl, hS⟩)
      · obtain rfl := Option.some.inj ho
        have f0 := hF.old (s := 6) (v := .pointer (some ⟨(w.heap.size + 1), 0, none⟩)) (by kernel_rfl) rfl
        refine Or.inl ⟨wanted_no rfl, ?_⟩
        exact wp_val (.agg (nw 9 b)) (by simp [go_sem, f0, Hc__w_heap_size_1_]) ⟨_, rfl, Gr.refl _, rfl⟩
      · obtain rfl := Option.some.inj ho
        have l0 := on_of hd 2 (by kernel_rfl)
        have f0 := hF.at (s := 101) (i := 2) (by kernel_rfl) (by simp) l0
        rw [show vals 2 = .agg (nw 9 b) from hR 2 l0] at f0
        refine Or.inl ⟨wanted_no rfl, ?_⟩
        exact wp_retN (by simp [go_sem, f0]) (HFb.out _) (fun p n w2 hS hg2 => ⟨_, rfl, hg2, p, n, rfl, hS⟩)
      · obtain rfl := Option.some.inj ho
        have l0 := on_of hd 1 (by kernel_rfl)
        have f0 := hF.at (s := 100) (i := 1) (by kernel_rfl) (by simp) l0
        obtain ⟨p0, n0, e0, S0⟩ := (show ∃ p n, vals 1 = Value.slice p (dl (a)) n ∧ Sl vB p (a) from hR 1 l0)
        rw [e0] at f0
        refine Or.inl ⟨wanted_no rfl, ?_⟩
        exact wp_val (.slice p0 (dl (a)) n0) (by simp [go_sem, f0]) ⟨_, rfl, Gr.refl _, _, _, rfl, S0⟩
      · obtain rfl := Option.some.inj ho
        have l0 := on_of hd 3 (by kernel_rfl)
        have f0 := hF.at (s := 102) (i := 3) (by kernel_rfl) (by simp) l0
        obtain ⟨p0, n0, e0, S0⟩ := (show ∃ p n, vals 3 = Value.slice p (dl (b)) n ∧ Sl vB p (b) from hR 3 l0)
        rw [e0] at f0
        refine Or.inl ⟨wanted_no rfl, ?_⟩
        exact wp_val (.slice p0 (dl (b)) n0) (by simp [go_sem, f0]) ⟨_, rfl, Gr.refl _, _, _, rfl, S0⟩
    case hf =>
      intro vals vB hg hR
      have x0 : vals 0 = .agg (nw 9 a) := hR 0 (by simp)
      obtain ⟨p1, n1, x1, S1⟩ := (show ∃ p n, vals 1 = Value.slice p (dl (a)) n ∧ Sl vB p (a) from hR 1 (by simp))
      have x2 : vals 2 = .agg (nw 9 b) := hR 2 (by simp)
      obtain ⟨p3, n3, x3, S3⟩ := (show ∃ p n, vals 3 = Value.slice p (dl (b)) n ∧ Sl vB p (b) from hR 3 (by simp))
      obtain ⟨p4, n4, x4, S4⟩ := (show ∃ p n, vals 4 = Value.slice p (dl (a)) n ∧ Sl vB p (a) from hR 4 (by simp))
      obtain ⟨p5, n5, x5, S5⟩ := (show ∃ p n, vals 5 = Value.slice p (dl (b)) n ∧ Sl vB p (b) from hR 5 (by simp))
      simp only [putFrom, Act.put, List.setIfInBounds_toArray, List.set_cons_zero, List.set_cons_succ, x0, x1, x2, x3, x4, x5]
      clear hR x0 x1 x2 x3 x4 x5
      have HV : Hid (Gr w vB ∧ Cl vB (w.heap.size) a ∧ Cl vB (w.heap.size + 1) b ∧ Clw vB (w.heap.size + 1 + 1) W ∧ Cv vB e9 k p (dl m) n q ∧ Cl vB e11 x ∧ Cl vB e13 y ∧ Cl vB e15 z ∧ Cl vB e17 t ∧ Sl vB p m) := ⟨G.trans hg, c_w_heap_size.gr hg, c__w_heap_size_1_.gr hg, c__w_heap_size_1_1_.gr hg, c_e9.gr hg, c_e11.gr hg, c_e13.gr hg, c_e15.gr hg, c_e17.gr hg, S_p.gr hg⟩
      clear hg
      have SMB : Sl vB p m := by
        have ⟨G, c_w_heap_size, c__w_heap_size_1_, c__w_heap_size_1_1_, c_e9, c_e11, c_e13, c_e15, c_e17, S_p⟩ := HV.out
        exact S_p
      have HC1 : Hid (∀ w', Gr vB w' → Calls Try.prog 24 #[.slice p4 (dl a) n4, .slice p (dl m) n] w' fun e w'' => e = .returned (.int .i64 z1) ∧ Gr w' w'') := fun w' g => hz1 ▸ HCa.out p n w' p4 n4 (S4.gr g) (SMB.gr g)
      have HC2 : Hid (∀ w', Gr vB w' → Calls Try.prog 24 #[.slice p5 (dl b) n5, .slice p (dl m) n] w' fun e w'' => e = .returned (.int .i64 z2) ∧ Gr w' w'') := fun w' g => hz2 ▸ HCb.out p n w' p5 n5 (S5.gr g) (SMB.gr g)
      have ⟨G, c_w_heap_size, c__w_heap_size_1_, c__w_heap_size_1_1_, c_e9, c_e11, c_e13, c_e15, c_e17, S_p⟩ := HV.out
      have ⟨hc_w_heap_size, fc_w_heap_size, pc_w_heap_size⟩ := c_w_heap_size
      have ⟨hc__w_heap_size_1_, fc__w_heap_size_1_, pc__w_heap_size_1_⟩ := c__w_heap_size_1_
      have ⟨hc__w_heap_size_1_1_, fc__w_heap_size_1_1_, pc__w_heap_size_1_1_⟩ := c__w_heap_size_1_1_
      have ⟨hc_e9, fc_e9, pc_e9⟩ := c_e9
      have h0c_e9 := (c_e9).at0
      have h1c_e9 := (c_e9).at1
      have ⟨hc_e11, fc_e11, pc_e11⟩ := c_e11
      have ⟨hc_e13, fc_e13, pc_e13⟩ := c_e13
      have ⟨hc_e15, fc_e15, pc_e15⟩ := c_e15
      have ⟨hc_e17, fc_e17, pc_e17⟩ := c_e17
      go_upto_region 13 with (first | (go_at_call_of 24 ((#[.slice p4 (dl a) n4, .slice p (dl m) n] : Array Value)); refine (HC1.out _ ?_).mono ?_; exact (by repeat (first | exact Gr.refl _ | apply Gr.drewN | apply Gr.drew | apply Gr.alloc | apply Gr.gro)); rintro e w' ⟨rfl, gc1, rfl⟩) | (go_at_call_of 24 ((#[.slice p5 (dl b) n5, .slice p (dl m) n] : Array Value)); refine (HC2.out _ ?_).mono ?_; exact (by repeat (first | exact Gr.refl _ | apply Gr.drewN | apply Gr.drew | apply Gr.alloc | apply Gr.gro)); rintro e w' ⟨rfl, gc2, rfl⟩))
      refine gen_w (fun v => Hid (Gr w v ∧ Cl v (w.heap.size) a ∧ Cl v (w.heap.size + 1) b ∧ Clw v (w.heap.size + 1 + 1) W ∧ Cv v e9 k p (dl m) n q ∧ Cl v e11 x ∧ Cl v e13 y ∧ Cl v e15 z ∧ Cl v e17 t ∧ Sl v p m ∧ Sl v p4 a ∧ Sl v p5 b)) ⟨G.trans (by repeat (first | exact Gr.refl _ | apply Gr.drewN | apply Gr.drew | apply Gr.alloc | apply Gr.gro)), c_w_heap_size.gr (by repeat (first | exact Gr.refl _ | apply Gr.drewN | apply Gr.drew | apply Gr.alloc | apply Gr.gro)), c__w_heap_size_1_.gr (by repeat (first | exact Gr.refl _ | apply Gr.drewN | apply Gr.drew | apply Gr.alloc | apply Gr.gro)), c__w_heap_size_1_1_.gr (by repeat (first | exact Gr.refl _ | apply Gr.drewN | apply Gr.drew | apply Gr.alloc | apply Gr.gro)), c_e9.gr (by repeat (first | exact Gr.refl _ | apply Gr.drewN | apply Gr.drew | apply Gr.alloc | apply Gr.gro)), c_e11.gr (by repeat (first | exact Gr.refl _ | apply Gr.drewN | apply Gr.drew | apply Gr.alloc | apply Gr.gro)), c_e13.gr (by repeat (first | exact Gr.refl _ | apply Gr.drewN | apply Gr.drew | apply Gr.alloc | apply Gr.gro)), c_e15.gr (by repeat (first | exact Gr.refl _ | apply Gr.drewN | apply Gr.drew | apply Gr.alloc | apply Gr.gro)), c_e17.gr (by repeat (first | exact Gr.refl _ | apply Gr.drewN | apply Gr.drew | apply Gr.alloc | apply Gr.gro)), S_p.gr (by repeat (first | exact Gr.refl _ | apply Gr.drewN | apply Gr.drew | apply Gr.alloc | apply Gr.gro)), S4.gr (by repeat (first | exact Gr.refl _ | apply Gr.drewN | apply Gr.drew | apply Gr.alloc | apply Gr.gro)), S5.gr (by repeat (first | exact Gr.refl _ | apply Gr.drewN | apply Gr.drew | apply Gr.alloc | apply Gr.gro))⟩ ?_
      clear HV
      intro vC HVC
      have HV : Hid (Gr w vC ∧ Cl vC (w.heap.size) a ∧ Cl vC (w.heap.size + 1) b ∧ Clw vC (w.heap.size + 1 + 1) W ∧ Cv vC e9 k p (dl m) n q ∧ Cl vC e11 x ∧ Cl vC e13 y ∧ Cl vC e15 z ∧ Cl vC e17 t ∧ Sl vC p m) := by
        have ⟨G, c_w_heap_size, c__w_heap_size_1_, c__w_heap_size_1_1_, c_e9, c_e11, c_e13, c_e15, c_e17, S_p, S4, S5⟩ := HVC.out
        exact ⟨G, c_w_heap_size, c__w_heap_size_1_, c__w_heap_size_1_1_, c_e9, c_e11, c_e13, c_e15, c_e17, S_p⟩
      have ⟨S4', S5'⟩ : Sl vC p4 a ∧ Sl vC p5 b := by
        have ⟨G, c_w_heap_size, c__w_heap_size_1_, c__w_heap_size_1_1_, c_e9, c_e11, c_e13, c_e15, c_e17, S_p, S4, S5⟩ := HVC.out
        exact ⟨S4, S5⟩
      have ⟨G, c_w_heap_size, c__w_heap_size_1_, c__w_heap_size_1_1_, c_e9, c_e11, c_e13, c_e15, c_e17, S_p⟩ := HV.out
      refine wp_region_pred (by kernel_rfl) (by kernel_rfl) [.c (.int .i64 0), .c (.int .i64 0), .c (.bool true), .c (.bool true), .c (.int .i64 0), .c (.int .i64 0), .c (.bool true), .c (.bool true), .c (.bool true), .c (.int .i64 0), .c (.int .i64 0), .c (.bool true), .c (.bool true), .c (.bool true), .c (.agg (nw 9 x)), .c (.slice p4 (dl a) n4), .c (.slice p5 (dl b) n5), .c (.pointer (some ⟨e9, 1, none⟩)), .c (.slice p (dl m) n), .n (x), .c (.agg (nw 9 x)), .c (.bool true), .c (.bool true), .c (.bool true), .c (.agg (nw 9 y)), .c (.slice p4 (dl a) n4), .c (.slice p5 (dl b) n5), .c (.pointer (some ⟨e9, 1, none⟩)), .c (.slice p (dl m) n), .n (y), .c (.agg (nw 9 y)), .c (.bool true), .c (.bool true), .c (.bool true), .c (.agg (nw 9 z)), .c (.slice p4 (dl a) n4), .c (.slice p5 (dl b) n5), .c (.pointer (some ⟨e9, 1, none⟩)), .c (.slice p (dl m) n), .n (z), .c (.agg (nw 9 z)), .c (.bool true), .c (.bool true), .c (.bool true), .c (.bool true), .c (.bool true), .c (.bool true)] ?hs ?hf
      case hs =>
        intro listed vals a1 v i o hg hR hF ho hd
        have Hc_w_heap_size : blk v (w.heap.size) = nw 9 a := (hg.blk _ c_w_heap_size.p).trans c_w_heap_size.h
        have Hc__w_heap_size_1_ : blk v (w.heap.size + 1) = nw 9 b := (hg.blk _ c__w_heap_size_1_.p).trans c__w_heap_size_1_.h
        have Hc__w_heap_size_1_1_ : blk v (w.heap.size + 1 + 1) = nw 18 W := (hg.blk _ c__w_heap_size_1_1_.p).trans c__w_heap_size_1_1_.h
        have Hc_e9 : blk v e9 = cvA k p (dl m) n q := (hg.blk _ c_e9.p).trans c_e9.h
        have Hc_e11 : blk v e11 = nw 9 x := (hg.blk _ c_e11.p).trans c_e11.h
        have Hc_e13 : blk v e13 = nw 9 y := (hg.blk _ c_e13.p).trans c_e13.h
        have Hc_e15 : blk v e15 = nw 9 z := (hg.blk _ c_e15.p).trans c_e15.h
        have Hc_e17 : blk v e17 = nw 9 t := (hg.blk _ c_e17.p).trans c_e17.h
        have H1 : v.cell? ⟨e9, 1, none⟩ = some (.slice p (dl m) n) := by rw [cell_blk, Hc_e9]; rfl
        have Sm : Sl v p m := S_p.gr hg
        have hi : i < 47 := by simpa using (Array.getElem?_eq_some_iff.1 ho).1
        obtain rfl | rfl | rfl | rfl | rfl | rfl | rfl | rfl | rfl | rfl | rfl | rfl | rfl | rfl | rfl | rfl | rfl | rfl | rfl | rfl | rfl | rfl | rfl | rfl | rfl | rfl | rfl | rfl | rfl | rfl | rfl | rfl | rfl | rfl | rfl | rfl | rfl | rfl | rfl | rfl | rfl | rfl | rfl | rfl | rfl | rfl | rfl : i = 0 ∨ i = 1 ∨ i = 2 ∨ i = 3 ∨ i = 4 ∨ i = 5 ∨ i = 6 ∨ i = 7 ∨ i = 8 ∨ i = 9 ∨ i = 10 ∨ i = 11 ∨ i = 12 ∨ i = 13 ∨ i = 14 ∨ i = 15 ∨ i = 16 ∨ i = 17 ∨ i = 18 ∨ i = 19 ∨ i = 20 ∨ i = 21 ∨ i = 22 ∨ i = 23 ∨ i = 24 ∨ i = 25 ∨ i = 26 ∨ i = 27 ∨ i = 28 ∨ i = 29 ∨ i = 30 ∨ i = 31 ∨ i = 32 ∨ i = 33 ∨ i = 34 ∨ i = 35 ∨ i = 36 ∨ i = 37 ∨ i = 38 ∨ i = 39 ∨ i = 40 ∨ i = 41 ∨ i = 42 ∨ i = 43 ∨ i = 44 ∨ i = 45 ∨ i = 46 := by omega
        · obtain rfl := Option.some.inj ho
          have f0 := hF.old (s := 12) (v := .int .i64 0) (by kernel_rfl) rfl
          refine Or.inl ⟨wanted_no rfl, ?_⟩
          exact wp_val (.int .i64 0) (by simp [go_sem, f0]) ⟨_, rfl, Gr.refl _, rfl⟩
        · obtain rfl := Option.some.inj ho
          have l0 := on_of hd 0 (by kernel_rfl)
          have f0 := hF.at (s := 146) (i := 0) (by kernel_rfl) (by simp) l0
          rw [show vals 0 = .int .i64 0 from hR 0 l0] at f0
          refine Or.inl ⟨wanted_no rfl, ?_⟩
          exact wp_ret (.int .i64 0) (by simp [go_sem, f0]) (num5_gr _ _) (fun w2 hg2 => ⟨_, rfl, hg2, rfl⟩)
        · obtain rfl := Option.some.inj ho
          have l0 := on_of hd 1 (by kernel_rfl)
          have f0 := hF.at (s := 147) (i := 1) (by kernel_rfl) (by simp) l0
          rw [show vals 1 = .int .i64 0 from hR 1 l0] at f0
          refine Or.inl ⟨wanted_no rfl, ?_⟩
          exact wp_val (.bool true) (by simp [go_sem, f0]) ⟨_, rfl, Gr.refl _, rfl⟩
        · obtain rfl := Option.some.inj ho
          have l0 := on_of hd 2 (by kernel_rfl)
          have f0 := hF.at (s := 148) (i := 2) (by kernel_rfl) (by simp) l0
          rw [show vals 2 = .bool true from hR 2 l0] at f0
          refine Or.inl ⟨wanted_no rfl, ?_⟩
          exact wp_val (.bool true) (by simp [go_sem, f0]) ⟨_, rfl, Gr.refl _, rfl⟩
        · obtain rfl := Option.some.inj ho
          have lg := on_of hd 3 (by kernel_rfl)
          have fg := hF.at (s := 149) (i := 3) (by kernel_rfl) (by simp) lg
          rw [show vals 3 = .bool true from hR 3 lg] at fg
          have f0 := hF.old (s := 14) (v := .int .i64 0) (by kernel_rfl) rfl
          refine Or.inl ⟨wanted_at (j := 3) (s := 149) rfl rfl rfl fg, ?_⟩
          exact wp_val (.int .i64 0) (by simp [go_sem, f0]) ⟨_, rfl, Gr.refl _, rfl⟩
        · obtain rfl := Option.some.inj ho
          have lg := on_of hd 3 (by kernel_rfl)
          have fg := hF.at (s := 149) (i := 3) (by kernel_rfl) (by simp) lg
          rw [show vals 3 = .bool true from hR 3 lg] at fg
          have l0 := on_of hd 4 (by kernel_rfl)
          have f0 := hF.at (s := 150) (i := 4) (by kernel_rfl) (by simp) l0
          rw [show vals 4 = .int .i64 0 from hR 4 l0] at f0
          refine Or.inl ⟨wanted_at (j := 3) (s := 149) rfl rfl rfl fg, ?_⟩
          exact wp_ret (.int .i64 0) (by simp [go_sem, f0]) (num5_gr _ _) (fun w2 hg2 => ⟨_, rfl, hg2, rfl⟩)
        · obtain rfl := Option.some.inj ho
          have lg := on_of hd 3 (by kernel_rfl)
          have fg := hF.at (s := 149) (i := 3) (by kernel_rfl) (by simp) lg
          rw [show vals 3 = .bool true from hR 3 lg] at fg
          have l0 := on_of hd 5 (by kernel_rfl)
          have f0 := hF.at (s := 151) (i := 5) (by kernel_rfl) (by simp) l0
          rw [show vals 5 = .int .i64 0 from hR 5 l0] at f0
          refine Or.inl ⟨wanted_at (j := 3) (s := 149) rfl rfl rfl fg, ?_⟩
          exact wp_val (.bool true) (by simp [go_sem, f0]) ⟨_, rfl, Gr.refl _, rfl⟩
        · obtain rfl := Option.some.inj ho
          have l0 := on_of hd 3 (by kernel_rfl)
          have f0 := hF.at (s := 149) (i := 3) (by kernel_rfl) (by simp) l0
          rw [show vals 3 = .bool true from hR 3 l0] at f0
          have l1 := on_of hd 6 (by kernel_rfl)
          have f1 := hF.at (s := 152) (i := 6) (by kernel_rfl) (by simp) l1
          rw [show vals 6 = .bool true from hR 6 l1] at f1
          refine Or.inl ⟨wanted_no rfl, ?_⟩
          exact wp_val (.bool true) (by simp [go_sem, f0, f1]) ⟨_, rfl, Gr.refl _, rfl⟩
        · obtain rfl := Option.some.inj ho
          have l0 := on_of hd 7 (by kernel_rfl)
          have f0 := hF.at (s := 153) (i := 7) (by kernel_rfl) (by simp) l0
          rw [show vals 7 = .bool true from hR 7 l0] at f0
          refine Or.inl ⟨wanted_no rfl, ?_⟩
          exact wp_val (.bool true) (by simp [go_sem, f0]) ⟨_, rfl, Gr.refl _, rfl⟩
        · obtain rfl := Option.some.inj ho
          have lg := on_of hd 8 (by kernel_rfl)
          have fg := hF.at (s := 154) (i := 8) (by kernel_rfl) (by simp) lg
          rw [show vals 8 = .bool true from hR 8 lg] at fg
          have f0 := hF.old (s := 16) (v := .int .i64 0) (by kernel_rfl) rfl
          refine Or.inl ⟨wanted_at (j := 8) (s := 154) rfl rfl rfl fg, ?_⟩
          exact wp_val (.int .i64 0) (by simp [go_sem, f0]) ⟨_, rfl, Gr.refl _, rfl⟩
        · obtain rfl := Option.some.inj ho
          have lg := on_of hd 8 (by kernel_rfl)
          have fg := hF.at (s := 154) (i := 8) (by kernel_rfl) (by simp) lg
          rw [show vals 8 = .bool true from hR 8 lg] at fg
          have l0 := on_of hd 9 (by kernel_rfl)
          have f0 := hF.at (s := 155) (i := 9) (by kernel_rfl) (by simp) l0
          rw [show vals 9 = .int .i64 0 from hR 9 l0] at f0
          refine Or.inl ⟨wanted_at (j := 8) (s := 154) rfl rfl rfl fg, ?_⟩
          exact wp_ret (.int .i64 0) (by simp [go_sem, f0]) (num5_gr _ _) (fun w2 hg2 => ⟨_, rfl, hg2, rfl⟩)
        · obtain rfl := Option.some.inj ho
          have lg := on_of hd 8 (by kernel_rfl)
          have fg := hF.at (s := 154) (i := 8) (by kernel_rfl) (by simp) lg
          rw [show vals 8 = .bool true from hR 8 lg] at fg
          have l0 := on_of hd 10 (by kernel_rfl)
          have f0 := hF.at (s := 156) (i := 10) (by kernel_rfl) (by simp) l0
          rw [show vals 10 = .int .i64 0 from hR 10 l0] at f0
          refine Or.inl ⟨wanted_at (j := 8) (s := 154) rfl rfl rfl fg, ?_⟩
          exact wp_val (.bool true) (by simp [go_sem, f0]) ⟨_, rfl, Gr.refl _, rfl⟩
        · obtain rfl := Option.some.inj ho
          have l0 := on_of hd 8 (by kernel_rfl)
          have f0 := hF.at (s := 154) (i := 8) (by kernel_rfl) (by simp) l0
          rw [show vals 8 = .bool true from hR 8 l0] at f0
          have l1 := on_of hd 11 (by kernel_rfl)
          have f1 := hF.at (s := 157) (i := 11) (by kernel_rfl) (by simp) l1
          rw [show vals 11 = .bool true from hR 11 l1] at f1
          refine Or.inl ⟨wanted_no rfl, ?_⟩
          exact wp_val (.bool true) (by simp [go_sem, f0, f1]) ⟨_, rfl, Gr.refl _, rfl⟩
        · obtain rfl := Option.some.inj ho
          have l0 := on_of hd 12 (by kernel_rfl)
          have f0 := hF.at (s := 158) (i := 12) (by kernel_rfl) (by simp) l0
          rw [show vals 12 = .bool true from hR 12 l0] at f0
          refine Or.inl ⟨wanted_no rfl, ?_⟩
          exact wp_val (.bool true) (by simp [go_sem, f0]) ⟨_, rfl, Gr.refl _, rfl⟩
        · obtain rfl := Option.some.inj ho
          have lg := on_of hd 13 (by kernel_rfl)
          have fg := hF.at (s := 159) (i := 13) (by kernel_rfl) (by simp) lg
          rw [show vals 13 = .bool true from hR 13 lg] at fg
          have f0 := hF.old (s := 11) (v := .pointer (some ⟨e11, 0, none⟩)) (by kernel_rfl) rfl
          refine Or.inl ⟨wanted_at (j := 13) (s := 159) rfl rfl rfl fg, ?_⟩
          exact wp_val (.agg (nw 9 x)) (by simp [go_sem, f0, Hc_e11]) ⟨_, rfl, Gr.refl _, rfl⟩
        · obtain rfl := Option.some.inj ho
          have lg := on_of hd 13 (by kernel_rfl)
          have fg := hF.at (s := 159) (i := 13) (by kernel_rfl) (by simp) lg
          rw [show vals 13 = .bool true from hR 13 lg] at fg
          have f0 := hF.old (s := 19) (v := .slice p4 (dl a) n4) (by kernel_rfl) rfl
          refine Or.inl ⟨wanted_at (j := 13) (s := 159) rfl rfl rfl fg, ?_⟩
          exact wp_val (.slice p4 (dl a) n4) (by simp [go_sem, f0]) ⟨_, rfl, Gr.refl _, rfl⟩
        · obtain rfl := Option.some.inj ho
          have lg := on_of hd 13 (by kernel_rfl)
          have fg := hF.at (s := 159) (i := 13) (by kernel_rfl) (by simp) lg
          rw [show vals 13 = .bool true from hR 13 lg] at fg
          have f0 := hF.old (s := 20) (v := .slice p5 (dl b) n5) (by kernel_rfl) rfl
          refine Or.inl ⟨wanted_at (j := 13) (s := 159) rfl rfl rfl fg, ?_⟩
          exact wp_val (.slice p5 (dl b) n5) (by simp [go_sem, f0]) ⟨_, rfl, Gr.refl _, rfl⟩
        · obtain rfl := Option.some.inj ho
          have lg := on_of hd 13 (by kernel_rfl)
          have fg := hF.at (s := 159) (i := 13) (by kernel_rfl) (by simp) lg
          rw [show vals 13 = .bool true from hR 13 lg] at fg
          have f0 := hF.old (s := 9) (v := .pointer (some ⟨e9, 0, none⟩)) (by kernel_rfl) rfl
          refine Or.inl ⟨wanted_at (j := 13) (s := 159) rfl rfl rfl fg, ?_⟩
          exact wp_val (.pointer (some ⟨e9, 1, none⟩)) (by simp [go_sem, f0]) ⟨_, rfl, Gr.refl _, rfl⟩
        · obtain rfl := Option.some.inj ho
          have lg := on_of hd 13 (by kernel_rfl)
          have fg := hF.at (s := 159) (i := 13) (by kernel_rfl) (by simp) lg
          rw [show vals 13 = .bool true from hR 13 lg] at fg
          have l0 := on_of hd 17 (by kernel_rfl)
          have f0 := hF.at (s := 163) (i := 17) (by kernel_rfl) (by simp) l0
          rw [show vals 17 = .pointer (some ⟨e9, 1, none⟩) from hR 17 l0] at f0
          refine Or.inl ⟨wanted_at (j := 13) (s := 159) rfl rfl rfl fg, ?_⟩
          exact wp_val (.slice p (dl m) n) (by simp [go_sem, f0, H1]) ⟨_, rfl, Gr.refl _, rfl⟩
        · obtain rfl := Option.some.inj ho
          have lg := on_of hd 13 (by kernel_rfl)
          have fg := hF.at (s := 159) (i := 13) (by kernel_rfl) (by simp) lg
          rw [show vals 13 = .bool true from hR 13 lg] at fg
          have l0 := on_of hd 15 (by kernel_rfl)
          have f0 := hF.at (s := 161) (i := 15) (by kernel_rfl) (by simp) l0
          rw [show vals 15 = .slice p4 (dl a) n4 from hR 15 l0] at f0
          have l1 := on_of hd 16 (by kernel_rfl)
          have f1 := hF.at (s := 162) (i := 16) (by kernel_rfl) (by simp) l1
          rw [show vals 16 = .slice p5 (dl b) n5 from hR 16 l1] at f1
          have l2 := on_of hd 18 (by kernel_rfl)
          have f2 := hF.at (s := 164) (i := 18) (by kernel_rfl) (by simp) l2
          rw [show vals 18 = .slice p (dl m) n from hR 18 l2] at f2
          refine Or.inl ⟨wanted_at (j := 13) (s := 159) rfl rfl rfl fg, ?_⟩
          exact wp_retN (by simp [go_sem, f0, f1, f2]) (HAm.out p n _ p4 n4 p5 n5 (S4'.gr hg) (S5'.gr hg) Sm) (fun p n w2 hS hg2 => ⟨_, rfl, hg2, p, n, rfl, hS⟩)
        · obtain rfl := Option.some.inj ho
          have lg := on_of hd 13 (by kernel_rfl)
          have fg := hF.at (s := 159) (i := 13) (by kernel_rfl) (by simp) lg
          rw [show vals 13 = .bool true from hR 13 lg] at fg
          have l0 := on_of hd 19 (by kernel_rfl)
          have f0 := hF.at (s := 165) (i := 19) (by kernel_rfl) (by simp) l0
          obtain ⟨p0, n0, e0, S0⟩ := (show ∃ p n, vals 19 = Value.slice p (dl (x)) n ∧ Sl v p (x) from hR 19 l0)
          rw [e0] at f0
          refine Or.inl ⟨wanted_at (j := 13) (s := 159) rfl rfl rfl fg, ?_⟩
          exact wp_ret (.agg (nw 9 x)) (by simp [go_sem, f0]) (HNx.out _ p0 n0 S0) (fun w2 hg2 => ⟨_, rfl, hg2, rfl⟩)
        · obtain rfl := Option.some.inj ho
          have lg := on_of hd 13 (by kernel_rfl)
          have fg := hF.at (s := 159) (i := 13) (by kernel_rfl) (by simp) lg
          rw [show vals 13 = .bool true from hR 13 lg] at fg
          have l0 := on_of hd 14 (by kernel_rfl)
          have f0 := hF.at (s := 160) (i := 14) (by kernel_rfl) (by simp) l0
          rw [show vals 14 = .agg (nw 9 x) from hR 14 l0] at f0
          have l1 := on_of hd 20 (by kernel_rfl)
          have f1 := hF.at (s := 166) (i := 20) (by kernel_rfl) (by simp) l1
          rw [show vals 20 = .agg (nw 9 x) from hR 20 l1] at f1
          refine Or.inl ⟨wanted_at (j := 13) (s := 159) rfl rfl rfl fg, ?_⟩
          exact wp_val (.bool true) (by simp [go_sem, f0, f1]) ⟨_, rfl, Gr.refl _, rfl⟩
        · obtain rfl := Option.some.inj ho
          have l0 := on_of hd 13 (by kernel_rfl)
          have f0 := hF.at (s := 159) (i := 13) (by kernel_rfl) (by simp) l0
          rw [show vals 13 = .bool true from hR 13 l0] at f0
          have l1 := on_of hd 21 (by kernel_rfl)
          have f1 := hF.at (s := 167) (i := 21) (by kernel_rfl) (by simp) l1
          rw [show vals 21 = .bool true from hR 21 l1] at f1
          refine Or.inl ⟨wanted_no rfl, ?_⟩
          exact wp_val (.bool true) (by simp [go_sem, f0, f1]) ⟨_, rfl, Gr.refl _, rfl⟩
        · obtain rfl := Option.some.inj ho
          have l0 := on_of hd 22 (by kernel_rfl)
          have f0 := hF.at (s := 168) (i := 22) (by kernel_rfl) (by simp) l0
          rw [show vals 22 = .bool true from hR 22 l0] at f0
          refine Or.inl ⟨wanted_no rfl, ?_⟩
          exact wp_val (.bool true) (by simp [go_sem, f0]) ⟨_, rfl, Gr.refl _, rfl⟩
        · obtain rfl := Option.some.inj ho
          have lg := on_of hd 23 (by kernel_rfl)
          have fg := hF.at (s := 169) (i := 23) (by kernel_rfl) (by simp) lg
          rw [show vals 23 = .bool true from hR 23 lg] at fg
          have f0 := hF.old (s := 13) (v := .pointer (some ⟨e13, 0, none⟩)) (by kernel_rfl) rfl
          refine Or.inl ⟨wanted_at (j := 23) (s := 169) rfl rfl rfl fg, ?_⟩
          exact wp_val (.agg (nw 9 y)) (by simp [go_sem, f0, Hc_e13]) ⟨_, rfl, Gr.refl _, rfl⟩
        · obtain rfl := Option.some.inj ho
          have lg := on_of hd 23 (by kernel_rfl)
          have fg := hF.at (s := 169) (i := 23) (by kernel_rfl) (by simp) lg
          rw [show vals 23 = .bool true from hR 23 lg] at fg
          have f0 := hF.old (s := 19) (v := .slice p4 (dl a) n4) (by kernel_rfl) rfl
          refine Or.inl ⟨wanted_at (j := 23) (s := 169) rfl rfl rfl fg, ?_⟩
          exact wp_val (.slice p4 (dl a) n4) (by simp [go_sem, f0]) ⟨_, rfl, Gr.refl _, rfl⟩
        · obtain rfl := Option.some.inj ho
          have lg := on_of hd 23 (by kernel_rfl)
          have fg := hF.at (s := 169) (i := 23) (by kernel_rfl) (by simp) lg
          rw [show vals 23 = .bool true from hR 23 lg] at fg
          have f0 := hF.old (s := 20) (v := .slice p5 (dl b) n5) (by kernel_rfl) rfl
          refine Or.inl ⟨wanted_at (j := 23) (s := 169) rfl rfl rfl fg, ?_⟩
          exact wp_val (.slice p5 (dl b) n5) (by simp [go_sem, f0]) ⟨_, rfl, Gr.refl _, rfl⟩
        · obtain rfl := Option.some.inj ho
          have lg := on_of hd 23 (by kernel_rfl)
          have fg := hF.at (s := 169) (i := 23) (by kernel_rfl) (by simp) lg
          rw [show vals 23 = .bool true from hR 23 lg] at fg
          have f0 := hF.old (s := 9) (v := .pointer (some ⟨e9, 0, none⟩)) (by kernel_rfl) rfl
          refine Or.inl ⟨wanted_at (j := 23) (s := 169) rfl rfl rfl fg, ?_⟩
          exact wp_val (.pointer (some ⟨e9, 1, none⟩)) (by simp [go_sem, f0]) ⟨_, rfl, Gr.refl _, rfl⟩
        · obtain rfl := Option.some.inj ho
          have lg := on_of hd 23 (by kernel_rfl)
          have fg := hF.at (s := 169) (i := 23) (by kernel_rfl) (by simp) lg
          rw [show vals 23 = .bool true from hR 23 lg] at fg
          have l0 := on_of hd 27 (by kernel_rfl)
          have f0 := hF.at (s := 173) (i := 27) (by kernel_rfl) (by simp) l0
          rw [show vals 27 = .pointer (some ⟨e9, 1, none⟩) from hR 27 l0] at f0
          refine Or.inl ⟨wanted_at (j := 23) (s := 169) rfl rfl rfl fg, ?_⟩
          exact wp_val (.slice p (dl m) n) (by simp [go_sem, f0, H1]) ⟨_, rfl, Gr.refl _, rfl⟩
        · obtain rfl := Option.some.inj ho
          have lg := on_of hd 23 (by kernel_rfl)
          have fg := hF.at (s := 169) (i := 23) (by kernel_rfl) (by simp) lg
          rw [show vals 23 = .bool true from hR 23 lg] at fg
          have l0 := on_of hd 25 (by kernel_rfl)
          have f0 := hF.at (s := 171) (i := 25) (by kernel_rfl) (by simp) l0
          rw [show vals 25 = .slice p4 (dl a) n4 from hR 25 l0] at f0
          have l1 := on_of hd 26 (by kernel_rfl)
          have f1 := hF.at (s := 172) (i := 26) (by kernel_rfl) (by simp) l1
          rw [show vals 26 = .slice p5 (dl b) n5 from hR 26 l1] at f1
          have l2 := on_of hd 28 (by kernel_rfl)
          have f2 := hF.at (s := 174) (i := 28) (by kernel_rfl) (by simp) l2
          rw [show vals 28 = .slice p (dl m) n from hR 28 l2] at f2
          refine Or.inl ⟨wanted_at (j := 23) (s := 169) rfl rfl rfl fg, ?_⟩
          exact wp_retN (by simp [go_sem, f0, f1, f2]) (HSm.out p n _ p4 n4 p5 n5 (S4'.gr hg) (S5'.gr hg) Sm) (fun p n w2 hS hg2 => ⟨_, rfl, hg2, p, n, rfl, hS⟩)
        · obtain rfl := Option.some.inj ho
          have lg := on_of hd 23 (by kernel_rfl)
          have fg := hF.at (s := 169) (i := 23) (by kernel_rfl) (by simp) lg
          rw [show vals 23 = .bool true from hR 23 lg] at fg
          have l0 := on_of hd 29 (by kernel_rfl)
          have f0 := hF.at (s := 175) (i := 29) (by kernel_rfl) (by simp) l0
          obtain ⟨p0, n0, e0, S0⟩ := (show ∃ p n, vals 29 = Value.slice p (dl (y)) n ∧ Sl v p (y) from hR 29 l0)
          rw [e0] at f0
          refine Or.inl ⟨wanted_at (j := 23) (s := 169) rfl rfl rfl fg, ?_⟩
          exact wp_ret (.agg (nw 9 y)) (by simp [go_sem, f0]) (HNy.out _ p0 n0 S0) (fun w2 hg2 => ⟨_, rfl, hg2, rfl⟩)
        · obtain rfl := Option.some.inj ho
          have lg := on_of hd 23 (by kernel_rfl)
          have fg := hF.at (s := 169) (i := 23) (by kernel_rfl) (by simp) lg
          rw [show vals 23 = .bool true from hR 23 lg] at fg
          have l0 := on_of hd 24 (by kernel_rfl)
          have f0 := hF.at (s := 170) (i := 24) (by kernel_rfl) (by simp) l0
          rw [show vals 24 = .agg (nw 9 y) from hR 24 l0] at f0
          have l1 := on_of hd 30 (by kernel_rfl)
          have f1 := hF.at (s := 176) (i := 30) (by kernel_rfl) (by simp) l1
          rw [show vals 30 = .agg (nw 9 y) from hR 30 l1] at f1
          refine Or.inl ⟨wanted_at (j := 23) (s := 169) rfl rfl rfl fg, ?_⟩
          exact wp_val (.bool true) (by simp [go_sem, f0, f1]) ⟨_, rfl, Gr.refl _, rfl⟩
        · obtain rfl := Option.some.inj ho
          have l0 := on_of hd 23 (by kernel_rfl)
          have f0 := hF.at (s := 169) (i := 23) (by kernel_rfl) (by simp) l0
          rw [show vals 23 = .bool true from hR 23 l0] at f0
          have l1 := on_of hd 31 (by kernel_rfl)
          have f1 := hF.at (s := 177) (i := 31) (by kernel_rfl) (by simp) l1
          rw [show vals 31 = .bool true from hR 31 l1] at f1
          refine Or.inl ⟨wanted_no rfl, ?_⟩
          exact wp_val (.bool true) (by simp [go_sem, f0, f1]) ⟨_, rfl, Gr.refl _, rfl⟩
        · obtain rfl := Option.some.inj ho
          have l0 := on_of hd 32 (by kernel_rfl)
          have f0 := hF.at (s := 178) (i := 32) (by kernel_rfl) (by simp) l0
          rw [show vals 32 = .bool true from hR 32 l0] at f0
          refine Or.inl ⟨wanted_no rfl, ?_⟩
          exact wp_val (.bool true) (by simp [go_sem, f0]) ⟨_, rfl, Gr.refl _, rfl⟩
        · obtain rfl := Option.some.inj ho
          have lg := on_of hd 33 (by kernel_rfl)
          have fg := hF.at (s := 179) (i := 33) (by kernel_rfl) (by simp) lg
          rw [show vals 33 = .bool true from hR 33 lg] at fg
          have f0 := hF.old (s := 15) (v := .pointer (some ⟨e15, 0, none⟩)) (by kernel_rfl) rfl
          refine Or.inl ⟨wanted_at (j := 33) (s := 179) rfl rfl rfl fg, ?_⟩
          exact wp_val (.agg (nw 9 z)) (by simp [go_sem, f0, Hc_e15]) ⟨_, rfl, Gr.refl _, rfl⟩
        · obtain rfl := Option.some.inj ho
          have lg := on_of hd 33 (by kernel_rfl)
          have fg := hF.at (s := 179) (i := 33) (by kernel_rfl) (by simp) lg
          rw [show vals 33 = .bool true from hR 33 lg] at fg
          have f0 := hF.old (s := 19) (v := .slice p4 (dl a) n4) (by kernel_rfl) rfl
          refine Or.inl ⟨wanted_at (j := 33) (s := 179) rfl rfl rfl fg, ?_⟩
          exact wp_val (.slice p4 (dl a) n4) (by simp [go_sem, f0]) ⟨_, rfl, Gr.refl _, rfl⟩
        · obtain rfl := Option.some.inj ho
          have lg := on_of hd 33 (by kernel_rfl)
          have fg := hF.at (s := 179) (i := 33) (by kernel_rfl) (by simp) lg
          rw [show vals 33 = .bool true from hR 33 lg] at fg
          have f0 := hF.old (s := 20) (v := .slice p5 (dl b) n5) (by kernel_rfl) rfl
          refine Or.inl ⟨wanted_at (j := 33) (s := 179) rfl rfl rfl fg, ?_⟩
          exact wp_val (.slice p5 (dl b) n5) (by simp [go_sem, f0]) ⟨_, rfl, Gr.refl _, rfl⟩
        · obtain rfl := Option.some.inj ho
          have lg := on_of hd 33 (by kernel_rfl)
          have fg := hF.at (s := 179) (i := 33) (by kernel_rfl) (by simp) lg
          rw [show vals 33 = .bool true from hR 33 lg] at fg
          have f0 := hF.old (s := 9) (v := .pointer (some ⟨e9, 0, none⟩)) (by kernel_rfl) rfl
          refine Or.inl ⟨wanted_at (j := 33) (s := 179) rfl rfl rfl fg, ?_⟩
          exact wp_val (.pointer (some ⟨e9, 1, none⟩)) (by simp [go_sem, f0]) ⟨_, rfl, Gr.refl _, rfl⟩
        · obtain rfl := Option.some.inj ho
          have lg := on_of hd 33 (by kernel_rfl)
          have fg := hF.at (s := 179) (i := 33) (by kernel_rfl) (by simp) lg
          rw [show vals 33 = .bool true from hR 33 lg] at fg
          have l0 := on_of hd 37 (by kernel_rfl)
          have f0 := hF.at (s := 183) (i := 37) (by kernel_rfl) (by simp) l0
          rw [show vals 37 = .pointer (some ⟨e9, 1, none⟩) from hR 37 l0] at f0
          refine Or.inl ⟨wanted_at (j := 33) (s := 179) rfl rfl rfl fg, ?_⟩
          exact wp_val (.slice p (dl m) n) (by simp [go_sem, f0, H1]) ⟨_, rfl, Gr.refl _, rfl⟩
        · obtain rfl := Option.some.inj ho
          have lg := on_of hd 33 (by kernel_rfl)
          have fg := hF.at (s := 179) (i := 33) (by kernel_rfl) (by simp) lg
          rw [show vals 33 = .bool true from hR 33 lg] at fg
          have l0 := on_of hd 35 (by kernel_rfl)
          have f0 := hF.at (s := 181) (i := 35) (by kernel_rfl) (by simp) l0
          rw [show vals 35 = .slice p4 (dl a) n4 from hR 35 l0] at f0
          have l1 := on_of hd 36 (by kernel_rfl)
          have f1 := hF.at (s := 182) (i := 36) (by kernel_rfl) (by simp) l1
          rw [show vals 36 = .slice p5 (dl b) n5 from hR 36 l1] at f1
          have l2 := on_of hd 38 (by kernel_rfl)
          have f2 := hF.at (s := 184) (i := 38) (by kernel_rfl) (by simp) l2
          rw [show vals 38 = .slice p (dl m) n from hR 38 l2] at f2
          refine Or.inl ⟨wanted_at (j := 33) (s := 179) rfl rfl rfl fg, ?_⟩
          exact wp_retN (by simp [go_sem, f0, f1, f2]) (HMm.out p n _ p4 n4 p5 n5 (S4'.gr hg) (S5'.gr hg) Sm) (fun p n w2 hS hg2 => ⟨_, rfl, hg2, p, n, rfl, hS⟩)
        · obtain rfl := Option.some.inj ho
          have lg := on_of hd 33 (by kernel_rfl)
          have fg := hF.at (s := 179) (i := 33) (by kernel_rfl) (by simp) lg
          rw [show vals 33 = .bool true from hR 33 lg] at fg
          have l0 := on_of hd 39 (by kernel_rfl)
          have f0 := hF.at (s := 185) (i := 39) (by kernel_rfl) (by simp) l0
          obtain ⟨p0, n0, e0, S0⟩ := (show ∃ p n, vals 39 = Value.slice p (dl (z)) n ∧ Sl v p (z) from hR 39 l0)
          rw [e0] at f0
          refine Or.inl ⟨wanted_at (j := 33) (s := 179) rfl rfl rfl fg, ?_⟩
          exact wp_ret (.agg (nw 9 z)) (by simp [go_sem, f0]) (HNz.out _ p0 n0 S0) (fun w2 hg2 => ⟨_, rfl, hg2, rfl⟩)
        · obtain rfl := Option.some.inj ho
          have lg := on_of hd 33 (by kernel_rfl)
          have fg := hF.at (s := 179) (i := 33) (by kernel_rfl) (by simp) lg
          rw [show vals 33 = .bool true from hR 33 lg] at fg
          have l0 := on_of hd 34 (by kernel_rfl)
          have f0 := hF.at (s := 180) (i := 34) (by kernel_rfl) (by simp) l0
          rw [show vals 34 = .agg (nw 9 z) from hR 34 l0] at f0
          have l1 := on_of hd 40 (by kernel_rfl)
          have f1 := hF.at (s := 186) (i := 40) (by kernel_rfl) (by simp) l1
          rw [show vals 40 = .agg (nw 9 z) from hR 40 l1] at f1
          refine Or.inl ⟨wanted_at (j := 33) (s := 179) rfl rfl rfl fg, ?_⟩
          exact wp_val (.bool true) (by simp [go_sem, f0, f1]) ⟨_, rfl, Gr.refl _, rfl⟩
        · obtain rfl := Option.some.inj ho
          have l0 := on_of hd 33 (by kernel_rfl)
          have f0 := hF.at (s := 179) (i := 33) (by kernel_rfl) (by simp) l0
          rw [show vals 33 = .bool true from hR 33 l0] at f0
          have l1 := on_of hd 41 (by kernel_rfl)
          have f1 := hF.at (s := 187) (i := 41) (by kernel_rfl) (by simp) l1
          rw [show vals 41 = .bool true from hR 41 l1] at f1
          refine Or.inl ⟨wanted_no rfl, ?_⟩
          exact wp_val (.bool true) (by simp [go_sem, f0, f1]) ⟨_, rfl, Gr.refl _, rfl⟩
        · obtain rfl := Option.some.inj ho
          have l0 := on_of hd 42 (by kernel_rfl)
          have f0 := hF.at (s := 188) (i := 42) (by kernel_rfl) (by simp) l0
          rw [show vals 42 = .bool true from hR 42 l0] at f0
          refine Or.inl ⟨wanted_no rfl, ?_⟩
          exact wp_val (.bool true) (by simp [go_sem, f0]) ⟨_, rfl, Gr.refl _, rfl⟩
        · obtain rfl := Option.some.inj ho
          have lg := on_of hd 43 (by kernel_rfl)
          have fg := hF.at (s := 189) (i := 43) (by kernel_rfl) (by simp) lg
          rw [show vals 43 = .bool true from hR 43 lg] at fg
          refine Or.inl ⟨wanted_at (j := 43) (s := 189) rfl rfl rfl fg, ?_⟩
          exact wp_ret (.bool true) (by simp [go_sem]) (AW.out _) (fun w2 hg2 => ⟨_, rfl, hg2, rfl⟩)
        · obtain rfl := Option.some.inj ho
          have l0 := on_of hd 43 (by kernel_rfl)
          have f0 := hF.at (s := 189) (i := 43) (by kernel_rfl) (by simp) l0
          rw [show vals 43 = .bool true from hR 43 l0] at f0
          have l1 := on_of hd 44 (by kernel_rfl)
          have f1 := hF.at (s := 190) (i := 44) (by kernel_rfl) (by simp) l1
          rw [show vals 44 = .bool true from hR 44 l1] at f1
          refine Or.inl ⟨wanted_no rfl, ?_⟩
          exact wp_val (.bool true) (by simp [go_sem, f0, f1]) ⟨_, rfl, Gr.refl _, rfl⟩
        · obtain rfl := Option.some.inj ho
          have l0 := on_of hd 45 (by kernel_rfl)
          have f0 := hF.at (s := 191) (i := 45) (by kernel_rfl) (by simp) l0
          rw [show vals 45 = .bool true from hR 45 l0] at f0
          refine Or.inl ⟨wanted_no rfl, ?_⟩
          exact wp_val (.bool true) (by simp [go_sem, f0]) ⟨_, rfl, Gr.refl _, rfl⟩
      case hf =>
        intro vals v hg hR
        have x0 : vals 0 = .int .i64 0 := hR 0 (by simp)
        have x1 : vals 1 = .int .i64 0 := hR 1 (by simp)
        have x2 : vals 2 = .bool true := hR 2 (by simp)
        have x3 : vals 3 = .bool true := hR 3 (by simp)
        have x4 : vals 4 = .int .i64 0 := hR 4 (by simp)
        have x5 : vals 5 = .int .i64 0 := hR 5 (by simp)
        have x6 : vals 6 = .bool true := hR 6 (by simp)
        have x7 : vals 7 = .bool true := hR 7 (by simp)
        have x8 : vals 8 = .bool true := hR 8 (by simp)
        have x9 : vals 9 = .int .i64 0 := hR 9 (by simp)
        have x10 : vals 10 = .int .i64 0 := hR 10 (by simp)
        have x11 : vals 11 = .bool true := hR 11 (by simp)
        have x12 : vals 12 = .bool true := hR 12 (by simp)
        have x13 : vals 13 = .bool true := hR 13 (by simp)
        have x14 : vals 14 = .agg (nw 9 x) := hR 14 (by simp)
        have x15 : vals 15 = .slice p4 (dl a) n4 := hR 15 (by simp)
        have x16 : vals 16 = .slice p5 (dl b) n5 := hR 16 (by simp)
        have x17 : vals 17 = .pointer (some ⟨e9, 1, none⟩) := hR 17 (by simp)
        have x18 : vals 18 = .slice p (dl m) n := hR 18 (by simp)
        obtain ⟨p19, n19, x19, S19⟩ := (show ∃ p n, vals 19 = Value.slice p (dl (x)) n ∧ Sl v p (x) from hR 19 (by simp))
        have x20 : vals 20 = .agg (nw 9 x) := hR 20 (by simp)
        have x21 : vals 21 = .bool true := hR 21 (by simp)
        have x22 : vals 22 = .bool true := hR 22 (by simp)
        have x23 : vals 23 = .bool true := hR 23 (by simp)
        have x24 : vals 24 = .agg (nw 9 y) := hR 24 (by simp)
        have x25 : vals 25 = .slice p4 (dl a) n4 := hR 25 (by simp)
        have x26 : vals 26 = .slice p5 (dl b) n5 := hR 26 (by simp)
        have x27 : vals 27 = .pointer (some ⟨e9, 1, none⟩) := hR 27 (by simp)
        have x28 : vals 28 = .slice p (dl m) n := hR 28 (by simp)
        obtain ⟨p29, n29, x29, S29⟩ := (show ∃ p n, vals 29 = Value.slice p (dl (y)) n ∧ Sl v p (y) from hR 29 (by simp))
        have x30 : vals 30 = .agg (nw 9 y) := hR 30 (by simp)
        have x31 : vals 31 = .bool true := hR 31 (by simp)
        have x32 : vals 32 = .bool true := hR 32 (by simp)
        have x33 : vals 33 = .bool true := hR 33 (by simp)
        have x34 : vals 34 = .agg (nw 9 z) := hR 34 (by simp)
        have x35 : vals 35 = .slice p4 (dl a) n4 := hR 35 (by simp)
        have x36 : vals 36 = .slice p5 (dl b) n5 := hR 36 (by simp)
        have x37 : vals 37 = .pointer (some ⟨e9, 1, none⟩) := hR 37 (by simp)
        have x38 : vals 38 = .slice p (dl m) n := hR 38 (by simp)
        obtain ⟨p39, n39, x39, S39⟩ := (show ∃ p n, vals 39 = Value.slice p (dl (z)) n ∧ Sl v p (z) from hR 39 (by simp))
        have x40 : vals 40 = .agg (nw 9 z) := hR 40 (by simp)
        have x41 : vals 41 = .bool true := hR 41 (by simp)
        have x42 : vals 42 = .bool true := hR 42 (by simp)
        have x43 : vals 43 = .bool true := hR 43 (by simp)
        have x44 : vals 44 = .bool true := hR 44 (by simp)
        have x45 : vals 45 = .bool true := hR 45 (by simp)
        have x46 : vals 46 = .bool true := hR 46 (by simp)
        simp only [putFrom, Act.put, List.setIfInBounds_toArray, List.set_cons_zero, List.set_cons_succ, x0, x1, x2, x3, x4, x5, x6, x7, x8, x9, x10, x11, x12, x13, x14, x15, x16, x17, x18, x19, x20, x21, x22, x23, x24, x25, x26, x27, x28, x29, x30, x31, x32, x33, x34, x35, x36, x37, x38, x39, x40, x41, x42, x43, x44, x45, x46]
        clear hR x0 x1 x2 x3 x4 x5 x6 x7 x8 x9 x10 x11 x12 x13 x14 x15 x16 x17 x18 x19 x20 x21 x22 x23 x24 x25 x26 x27 x28 x29 x30 x31 x32 x33 x34 x35 x36 x37 x38 x39 x40 x41 x42 x43 x44 x45 x46
        have HG : Gr w v := G.trans hg
        clear hg
        go_wp2_with fail
        go_ret
        exact ⟨rfl, HG⟩
theorem ffields_any (id : Int) (a b W : Nat) (ha : a < M) (hb : b < M) (hW : W < pw 18) (w : World) :
    Calls Try.prog 3 #[.int .i64 id, .agg (nw 9 a), .agg (nw 9 b), .agg (nw 18 W)] w fun e w' => e = .returned (.bool true) ∧ Gr w w' := by
  by_cases h : id < 1 ∨ 15 < id
  · exact ffields_no id a b W h w
  · obtain ⟨k, rfl⟩ := Int.eq_ofNat_of_zero_le (show 0 ≤ id by omega)
    by_cases ha' : a < pN k
    · by_cases hb' : b < pN k
      · exact ffields_in k a b W (by omega) (by omega) ha hb hW ⟨ha', hb'⟩ w
      · exact ffields_b k a b W (by omega) (by omega) ha hb hW ⟨ha', hb'⟩ w
    · exact ffields_a k a b W (by omega) (by omega) ha hb hW ha' w

end Go.Proofs.Ytkmpholjlophpaa
