/-
  The documents' numbers: AddMod.
-/
/-
  The statement Fields, walked: there is no such curve; a number is not below P.
-/
import Derived.Test.YtkmpholjlophpaaZRMod
import Derived.Test.YtkmpholjlophpaaZFAw
import Derived.Test.YtkmpholjlophpaaZFL
import Derived.Test.YtkmpholjlophpaaZFQ
namespace Go.Proofs.Ytkmpholjlophpaa
open Go.RowKit
attribute [local go_sem ↓] loadNat_is loadArr_is loadWide_is loadArrW_is storeNat_is storeWide_is
attribute [local go_sem] loadNat loadArr loadWide loadArrW storeNat storeWide idxArr fold9 fold18 nw_size nw_elem pre_self pre_1 pre_2 pre_3 pre_4 pre_5 pre_6 pre_7 pre_8 pre_9 pre_10 pre_11 pre_12 pre_13 pre_14 pre_15 pre_16 pre_17 pre_18 pre_19 pre_20 pre_21 pre_22 pre_23 pre_24 pre_25 pre_26 pre_27 pre_28 pre_29 pre_30 pre_31 pre_32 pre_33 pre_34 pre_35 pre_36 pre_37 pre_38 pre_39 pre_40 gro_size gro_drew gro_drewN drew_gro drewN_gro gro_gro blk_gro frz_gro blk_drew frz_drew blk_drewN frz_drewN blk_alloc_at frz_alloc_at blk_alloc frz_alloc cell_gro frozen_gro cell_alloc_pre frozen_alloc_pre setCell_drewN alloc_drewN setBlk_drew setBlk_drewN setBlk_alloc_at setBlk_alloc setBlk_gro setCell_gro setCell_alloc_pre size_setBlk size_setCell
theorem pq_twice (n : Nat) : pq n * 2 ≤ pq (n + 1) := by
  unfold pq
  rw [show 32 * (n + 1) = 32 * n + 32 by omega, Nat.pow_add]
  exact Nat.mul_le_mul_left _ (by decide)
set_option maxRecDepth 100000 in
set_option maxHeartbeats 800000 in
theorem raddmod_any (a b m n n' n'' : Nat) (p q r : Option Addr) (w : World) (hp : Sl w p a) (hq : Sl w q b) (hr : Sl w r m) (hm : dl m ≤ 400) (ha : a < m) (hb : b < m) :
    Calls Try.prog 25 #[.slice p (dl a) n, .slice q (dl b) n', .slice r (dl m) n''] w (Nm ((a + b) % m) w) := by
  have la := dl_low a m 400 (by omega) hm
  have lb := dl_low b m 400 (by omega) hm
  obtain ⟨S, hS⟩ : ∃ S, a + b = S := ⟨_, rfl⟩
  have ls : dl S ≤ 401 := by
    refine (dl_le _ 401).2 ?_
    have h1 := (dl_le a 400).1 la
    have h2 := (dl_le b 400).1 lb
    have h3 : pq 400 * 2 ≤ pq 401 := pq_twice 400
    omega
  have h1 := radd_any a b n n' p q w hp hq (by omega) (by omega)
  rw [hS] at h1 ⊢
  obtain ⟨A, hA⟩ : ∃ L, dl a = L := ⟨_, rfl⟩
  obtain ⟨B, hB⟩ : ∃ L, dl b = L := ⟨_, rfl⟩
  obtain ⟨L, hL⟩ : ∃ L, dl m = L := ⟨_, rfl⟩
  obtain ⟨z, hz⟩ : ∃ z, cmpZ S m = z := ⟨_, rfl⟩
  have H1 : Hid (Unit → Calls Try.prog 47 #[.slice p A n, .slice q B n'] w (Nm S w)) := fun _ => hA ▸ hB ▸ h1
  have H2 : Hid (∀ w' p' k, Gr w w' → Sl w' p' S → Calls Try.prog 24 #[.slice p' (dl S) k, .slice r L n''] w' fun e w'' => e = .returned (.int .i64 z) ∧ Gr w' w'') := fun w' p' k g h => hz ▸ hL ▸ rcmp_any S m k n'' p' r w' h (hr.gr g) (by omega) (by omega)
  have H3 : Hid (∀ w' p' k, m ≤ S → Gr w w' → Sl w' p' S → Calls Try.prog 40 #[.slice p' (dl S) k, .slice r L n''] w' (Nm (S - m) w')) := fun w' p' k hl g h => hL ▸ rsub_any S m k n'' p' r w' h (hr.gr g) (by omega) hl
  rw [hA, hB, hL]
  obtain ⟨D, hD⟩ : ∃ D, dl S = D := ⟨_, rfl⟩
  rw [hD] at H2 H3
  have H1' : Hid (Unit → Calls Try.prog 47 #[.slice p A n, .slice q B n'] w fun e w' => ∃ p n, e = .returned (.slice p D n) ∧ Sl w' p S ∧ Gr w w') := fun _ => hD ▸ H1.out ()
  by_cases hl : S < m
  · have hz1 : z = -1 := by rw [← hz]; unfold cmpZ; rw [if_pos hl]
    subst hz1
    rw [Nat.mod_eq_of_lt hl]
    clear hz h1 la lb ls hp hq hr ha hb hm hl H1 H3
    go_enter Try.func25, Try.ntmps25
    go_wp2_with (first
      | (go_at_call 47; refine (H1'.out ()).mono ?_; rintro e W1 ⟨p1, n1, rfl, S1, G1⟩)
      | (go_at_call 24; refine (H2.out _ _ _ ?_ ?_).mono ?_; exact G1; exact S1; rintro e W2 ⟨rfl, G2⟩))
    go_ret
    exact ⟨p1, n1, by rw [hD]; rfl, S1.gr G2, G1.trans G2⟩
  · have hz1 : 0 ≤ z := by rw [← hz]; unfold cmpZ; rw [if_neg hl]; split <;> omega
    have hml : m ≤ S := by omega
    rw [show S % m = S - m by rw [Nat.mod_eq_sub_mod hml]; exact Nat.mod_eq_of_lt (by omega)]
    have H3' : Hid (∀ w' p' k, Gr w w' → Sl w' p' S → Calls Try.prog 40 #[.slice p' D k, .slice r L n''] w' (Nm (S - m) w')) := fun w' p' k g h => H3.out w' p' k hml g h
    clear hz h1 la lb ls hp hq hr ha hb hm hl H1 H3 hml
    go_enter Try.func25, Try.ntmps25
    go_wp2_with (first
      | (go_at_call 47; refine (H1'.out ()).mono ?_; rintro e W1 ⟨p1, n1, rfl, S1, G1⟩)
      | (go_at_call 24; refine (H2.out _ _ _ ?_ ?_).mono ?_; exact G1; exact S1; rintro e W2 ⟨rfl, G2⟩)
      | (go_at_call 40; refine (H3'.out _ _ _ ?_ ?_).mono ?_; exact G1.trans G2; exact S1.gr G2; rintro e W3 ⟨p3, n3, rfl, S3, G3⟩))
    go_ret
    exact ⟨p3, n3, rfl, S3, (G1.trans G2).trans G3⟩

end Go.Proofs.Ytkmpholjlophpaa
namespace Go.Proofs.Ytkmpholjlophpaa
open Go.RowKit
attribute [local go_sem ↓] loadNat_is loadArr_is loadWide_is loadArrW_is storeNat_is storeWide_is
attribute [local go_sem] loadNat loadArr loadWide loadArrW storeNat storeWide idxArr fold9 fold18 nw_size nw_elem pre_self pre_1 pre_2 pre_3 pre_4 pre_5 pre_6 pre_7 pre_8 pre_9 pre_10 pre_11 pre_12 pre_13 pre_14 pre_15 pre_16 pre_17 pre_18 pre_19 pre_20 pre_21 pre_22 pre_23 pre_24 pre_25 pre_26 pre_27 pre_28 pre_29 pre_30 pre_31 pre_32 pre_33 pre_34 pre_35 pre_36 pre_37 pre_38 pre_39 pre_40 gro_size gro_drew gro_drewN drew_gro drewN_gro gro_gro blk_gro frz_gro blk_drew frz_drew blk_drewN frz_drewN blk_alloc_at frz_alloc_at blk_alloc frz_alloc cell_gro frozen_gro cell_alloc_pre frozen_alloc_pre setCell_drewN alloc_drewN setBlk_drew setBlk_drewN setBlk_alloc_at setBlk_alloc setBlk_gro setCell_gro setCell_alloc_pre size_setBlk size_setCell
attribute [local go_sem] nw_ext9 nw_ext18 eqArr9 eqArr18

attribute [local go_sem] loadNat2 loadArr2 loadWide2 loadK_nw ppre_1 ppre_2 ppre_3 ppre_4 ppre_5 ppre_6 ppre_7 ppre_8 ppre_9 ppre_10 ppre_11 ppre_12 ppre_13 ppre_14 ppre_15 ppre_16 ppre_17 ppre_18 ppre_19 ppre_20

attribute [local go_sem ↓] loadC_is storeC_is Go.wp_at_zero Go.wp_at_succ
attribute [local go_sem] eqN_self loadC storeCv storeC0 cvA_size frz_setBlk blk_setBlk setBlk_setBlk blk_other
/-- A variable that holds a number of 18 words. -/
structure Clw (v : World) (b x : Nat) : Prop where
  h : blk v b = nw 18 x
  f : frz v b = (0, 0)
  p : Pre (b + 1) v.heap.size
theorem Clw.gr {v v' : World} {b x : Nat} (h : Clw v b x) (k : Gr v v') : Clw v' b x :=
  ⟨by rw [k.blk _ h.p]; exact h.h, by rw [k.frz _ h.p]; exact h.f, Nat.le_trans h.p k.below.size⟩
set_option maxRecDepth 100000 in
set_option maxHeartbeats 4000000 in
theorem ffields_no (id : Int) (a b W : Nat) (h : id < 1 ∨ 15 < id) (w : World) :
    Calls Try.prog 3 #[.int .i64 id, .agg (nw 9 a), .agg (nw 9 b), .agg (nw 18 W)] w fun e w' => e = .returned (.bool true) ∧ Gr w w' := by
  have AW : Hid (∀ w', Calls Try.prog 19 #[] w' fun e w'' => e = .returned (.bool true) ∧ Gr w' w'') := fun w => awake5_any w
  have A1 : Hid (∀ w', Calls Try.prog 14 #[.int .i64 id, .agg (nw 9 a), .agg (nw 9 b)] w' fun e w'' => e = .returned (.tuple #[.agg (nw 9 0), .int .i64 500]) ∧ Gr w' w'') := fun w => fAdd_no id h a b w
  have D1 : Hid (∀ w', Calls Try.prog 15 #[.int .i64 id, .agg (nw 9 a), .agg (nw 9 b)] w' fun e w'' => e = .returned (.tuple #[.agg (nw 9 0), .int .i64 500]) ∧ Gr w' w'') := fun w => fSub_no id h a b w
  have M1 : Hid (∀ w', Calls Try.prog 16 #[.int .i64 id, .agg (nw 9 a), .agg (nw 9 b)] w' fun e w'' => e = .returned (.tuple #[.agg (nw 9 0), .int .i64 500]) ∧ Gr w' w'') := fun w => fMul_no id h a b w
  have R1 : Hid (∀ w', Calls Try.prog 17 #[.int .i64 id, .agg (nw 18 W)] w' fun e w'' => e = .returned (.tuple #[.agg (nw 9 0), .int .i64 500]) ∧ Gr w' w'') := fun w => fReduce_no id h W w
  have HG : Hid (∀ w, Calls Try.prog 13 #[.int .i64 id] w fun e w' => e = .returned (.tuple #[.agg #[.int .i64 0, .slice none 0 0, .slice none 0 0, .slice none 0 0, .slice none 0 0, .slice none 0 0, .slice none 0 0], .bool false]) ∧ Gr w w') := fun w => get_no id h w
  clear h
  go_enter Try.func3, Try.ntmps3
  go_upto_region 1 with fail
  refine gen_w (fun v => Hid (Gr w v ∧ Cl v w.heap.size a ∧ Cl v (w.heap.size + 1) b ∧ Clw v (w.heap.size + 1 + 1) W)) ⟨(by repeat (first | exact Gr.refl _ | apply Gr.drewN | apply Gr.drew | apply Gr.alloc | apply Gr.gro)), ⟨by simp [go_sem], by simp [go_sem], by simp [go_sem]⟩, ⟨by simp [go_sem], by simp [go_sem], by simp [go_sem]⟩, ⟨by simp [go_sem], by simp [go_sem], by simp [go_sem]⟩⟩ ?_
  intro v0 HV
  go_cut [9, 10] from 21 to 25 (fun _ a1 wx => a1 = .bool false ∧ Hid (Gr w wx ∧ Cl wx (w.heap.size) a ∧ Cl wx (w.heap.size + 1) b ∧ Clw wx (w.heap.size + 1 + 1) W))
  case first =>
    have ⟨G, c0, c1, c2⟩ := HV.out
    go_wp2_with (go_at_call 13; refine (HG.out _).mono ?_; rintro e w' ⟨rfl, gg, rfl⟩)
    go_meet
    exact ⟨rfl, G.trans (by repeat (first | exact Gr.refl _ | apply Gr.drewN | apply Gr.drew | apply Gr.alloc | apply Gr.gro)), c0.gr (by repeat (first | exact Gr.refl _ | apply Gr.drewN | apply Gr.drew | apply Gr.alloc | apply Gr.gro)), c1.gr (by repeat (first | exact Gr.refl _ | apply Gr.drewN | apply Gr.drew | apply Gr.alloc | apply Gr.gro)), c2.gr (by repeat (first | exact Gr.refl _ | apply Gr.drewN | apply Gr.drew | apply Gr.alloc | apply Gr.gro))⟩
  clear HV
  obtain ⟨rfl, HV⟩ := hcut
  go_upto_region 2 with fail
  go_cut [11, 12] from 26 to 32 (fun a0 a1 wx => ∃ e11 : Nat, a0 = .pointer (some ⟨e11, 0, none⟩) ∧ a1 = .int .i64 500 ∧ Hid (Gr w wx ∧ Cl wx (w.heap.size) a ∧ Cl wx (w.heap.size + 1) b ∧ Clw wx (w.heap.size + 1 + 1) W ∧ Cl wx e11 0))
  case first =>
    have ⟨G, c_w_heap_size, c__w_heap_size_1_, c__w_heap_size_1_1_⟩ := HV.out
    have ⟨hc_w_heap_size, fc_w_heap_size, pc_w_heap_size⟩ := c_w_heap_size
    have ⟨hc__w_heap_size_1_, fc__w_heap_size_1_, pc__w_heap_size_1_⟩ := c__w_heap_size_1_
    have ⟨hc__w_heap_size_1_1_, fc__w_heap_size_1_1_, pc__w_heap_size_1_1_⟩ := c__w_heap_size_1_1_
    go_wp2_with (first
        | (go_at_call_of 14 ((#[.int .i64 id, .agg (nw 9 a), .agg (nw 9 b)] : Array Value)); refine (A1.out _).mono ?_; rintro e w' ⟨rfl, g1, rfl⟩)
        | (go_at_call 18; refine (num_any _ _).mono ?_; rintro e w' ⟨rfl, rfl⟩))
    go_meet
    exact ⟨_, rfl, rfl, G.trans (by repeat (first | exact Gr.refl _ | apply Gr.drewN | apply Gr.drew | apply Gr.alloc | apply Gr.gro)), c_w_heap_size.gr (by repeat (first | exact Gr.refl _ | apply Gr.drewN | apply Gr.drew | apply Gr.alloc | apply Gr.gro)), c__w_heap_size_1_.gr (by repeat (first | exact Gr.refl _ | apply Gr.drewN | apply Gr.drew | apply Gr.alloc | apply Gr.gro)), c__w_heap_size_1_1_.gr (by repeat (first | exact Gr.refl _ | apply Gr.drewN | apply Gr.drew | apply Gr.alloc | apply Gr.gro)), ⟨by simp [go_sem], by simp [go_sem], by simp [go_sem]⟩⟩
  clear HV
  obtain ⟨e11, rfl, rfl, HV⟩ := hcut
  go_upto_region 3 with fail
  go_cut [13, 14] from 33 to 39 (fun a0 a1 wx => ∃ e13 : Nat, a0 = .pointer (some ⟨e13, 0, none⟩) ∧ a1 = .int .i64 500 ∧ Hid (Gr w wx ∧ Cl wx (w.heap.size) a ∧ Cl wx (w.heap.size + 1) b ∧ Clw wx (w.heap.size + 1 + 1) W ∧ Cl wx e11 0 ∧ Cl wx e13 0))
  case first =>
    have ⟨G, c_w_heap_size, c__w_heap_size_1_, c__w_heap_size_1_1_, c_e11⟩ := HV.out
    have ⟨hc_w_heap_size, fc_w_heap_size, pc_w_heap_size⟩ := c_w_heap_size
    have ⟨hc__w_heap_size_1_, fc__w_heap_size_1_, pc__w_heap_size_1_⟩ := c__w_heap_size_1_
    have ⟨hc__w_heap_size_1_1_, fc__w_heap_size_1_1_, pc__w_heap_size_1_1_⟩ := c__w_heap_size_1_1_
    have ⟨hc_e11, fc_e11, pc_e11⟩ := c_e11
    go_wp2_with (first
        | (go_at_call_of 15 ((#[.int .i64 id, .agg (nw 9 a), .agg (nw 9 b)] : Array Value)); refine (D1.out _).mono ?_; rintro e w' ⟨rfl, g2, rfl⟩)
        | (go_at_call 18; refine (num_any _ _).mono ?_; rintro e w' ⟨rfl, rfl⟩))
    go_meet
    exact ⟨_, rfl, rfl, G.trans (by repeat (first | exact Gr.refl _ | apply Gr.drewN | apply Gr.drew | apply Gr.alloc | apply Gr.gro)), c_w_heap_size.gr (by repeat (first | exact Gr.refl _ | apply Gr.drewN | apply Gr.drew | apply Gr.alloc | apply Gr.gro)), c__w_heap_size_1_.gr (by repeat (first | exact Gr.refl _ | apply Gr.drewN | apply Gr.drew | apply Gr.alloc | apply Gr.gro)), c__w_heap_size_1_1_.gr (by repeat (first | exact Gr.refl _ | apply Gr.drewN | apply Gr.drew | apply Gr.alloc | apply Gr.gro)), c_e11.gr (by repeat (first | exact Gr.refl _ | apply Gr.drewN | apply Gr.drew | apply Gr.alloc | apply Gr.gro)), ⟨by simp [go_sem], by simp [go_sem], by simp [go_sem]⟩⟩
  clear HV
  obtain ⟨e13, rfl, rfl, HV⟩ := hcut
  go_upto_region 4 with fail
  go_cut [15, 16] from 40 to 46 (fun a0 a1 wx => ∃ e15 : Nat, a0 = .pointer (some ⟨e15, 0, none⟩) ∧ a1 = .int .i64 500 ∧ Hid (Gr w wx ∧ Cl wx (w.heap.size) a ∧ Cl wx (w.heap.size + 1) b ∧ Clw wx (w.heap.size + 1 + 1) W ∧ Cl wx e11 0 ∧ Cl wx e13 0 ∧ Cl wx e15 0))
  case first =>
    have ⟨G, c_w_heap_size, c__w_heap_size_1_, c__w_heap_size_1_1_, c_e11, c_e13⟩ := HV.out
    have ⟨hc_w_heap_size, fc_w_heap_size, pc_w_heap_size⟩ := c_w_heap_size
    have ⟨hc__w_heap_size_1_, fc__w_heap_size_1_, pc__w_heap_size_1_⟩ := c__w_heap_size_1_
    have ⟨hc__w_heap_size_1_1_, fc__w_heap_size_1_1_, pc__w_heap_size_1_1_⟩ := c__w_heap_size_1_1_
    have ⟨hc_e11, fc_e11, pc_e11⟩ := c_e11
    have ⟨hc_e13, fc_e13, pc_e13⟩ := c_e13
    go_wp2_with (first
        | (go_at_call_of 16 ((#[.int .i64 id, .agg (nw 9 a), .agg (nw 9 b)] : Array Value)); refine (M1.out _).mono ?_; rintro e w' ⟨rfl, g3, rfl⟩)
        | (go_at_call 18; refine (num_any _ _).mono ?_; rintro e w' ⟨rfl, rfl⟩))
    go_meet
    exact ⟨_, rfl, rfl, G.trans (by repeat (first | exact Gr.refl _ | apply Gr.drewN | apply Gr.drew | apply Gr.alloc | apply Gr.gro)), c_w_heap_size.gr (by repeat (first | exact Gr.refl _ | apply Gr.drewN | apply Gr.drew | apply Gr.alloc | apply Gr.gro)), c__w_heap_size_1_.gr (by repeat (first | exact Gr.refl _ | apply Gr.drewN | apply Gr.drew | apply Gr.alloc | apply Gr.gro)), c__w_heap_size_1_1_.gr (by repeat (first | exact Gr.refl _ | apply Gr.drewN | apply Gr.drew | apply Gr.alloc | apply Gr.gro)), c_e11.gr (by repeat (first | exact Gr.refl _ | apply Gr.drewN | apply Gr.drew | apply Gr.alloc | apply Gr.gro)), c_e13.gr (by repeat (first | exact Gr.refl _ | apply Gr.drewN | apply Gr.drew | apply Gr.alloc | apply Gr.gro)), ⟨by simp [go_sem], by simp [go_sem], by simp [go_sem]⟩⟩
  clear HV
  obtain ⟨e15, rfl, rfl, HV⟩ := hcut
  go_upto_region 5 with fail
  go_cut [17, 18] from 47 to 52 (fun a0 a1 wx => ∃ e17 : Nat, a0 = .pointer (some ⟨e17, 0, none⟩) ∧ a1 = .int .i64 500 ∧ Hid (Gr w wx ∧ Cl wx (w.heap.size) a ∧ Cl wx (w.heap.size + 1) b ∧ Clw wx (w.heap.size + 1 + 1) W ∧ Cl wx e11 0 ∧ Cl wx e13 0 ∧ Cl wx e15 0 ∧ Cl wx e17 0))
  case first =>
    have ⟨G, c_w_heap_size, c__w_heap_size_1_, c__w_heap_size_1_1_, c_e11, c_e13, c_e15⟩ := HV.out
    have ⟨hc_w_heap_size, fc_w_heap_size, pc_w_heap_size⟩ := c_w_heap_size
    have ⟨hc__w_heap_size_1_, fc__w_heap_size_1_, pc__w_heap_size_1_⟩ := c__w_heap_size_1_
    have ⟨hc__w_heap_size_1_1_, fc__w_heap_size_1_1_, pc__w_heap_size_1_1_⟩ := c__w_heap_size_1_1_
    have ⟨hc_e11, fc_e11, pc_e11⟩ := c_e11
    have ⟨hc_e13, fc_e13, pc_e13⟩ := c_e13
    have ⟨hc_e15, fc_e15, pc_e15⟩ := c_e15
    go_wp2_with (first
        | (go_at_call_of 17 ((#[.int .i64 id, .agg (nw 18 W)] : Array Value)); refine (R1.out _).mono ?_; rintro e w' ⟨rfl, g4, rfl⟩)
        | (go_at_call 18; refine (num_any _ _).mono ?_; rintro e w' ⟨rfl, rfl⟩))
    go_meet
    exact ⟨_, rfl, rfl, G.trans (by repeat (first | exact Gr.refl _ | apply Gr.drewN | apply Gr.drew | apply Gr.alloc | apply Gr.gro)), c_w_heap_size.gr (by repeat (first | exact Gr.refl _ | apply Gr.drewN | apply Gr.drew | apply Gr.alloc | apply Gr.gro)), c__w_heap_size_1_.gr (by repeat (first | exact Gr.refl _ | apply Gr.drewN | apply Gr.drew | apply Gr.alloc | apply Gr.gro)), c__w_heap_size_1_1_.gr (by repeat (first | exact Gr.refl _ | apply Gr.drewN | apply Gr.drew | apply Gr.alloc | apply Gr.gro)), c_e11.gr (by repeat (first | exact Gr.refl _ | apply Gr.drewN | apply Gr.drew | apply Gr.alloc | apply Gr.gro)), c_e13.gr (by repeat (first | exact Gr.refl _ | apply Gr.drewN | apply Gr.drew | apply Gr.alloc | apply Gr.gro)), c_e15.gr (by repeat (first | exact Gr.refl _ | apply Gr.drewN | apply Gr.drew | apply Gr.alloc | apply Gr.gro)), ⟨by simp [go_sem], by simp [go_sem], by simp [go_sem]⟩⟩
  clear HV
  obtain ⟨e17, rfl, rfl, HV⟩ := hcut
  go_upto_region 7 with fail
  have ⟨G, c_w_heap_size, c__w_heap_size_1_, c__w_heap_size_1_1_, c_e11, c_e13, c_e15, c_e17⟩ := HV.out
  have ⟨hc_w_heap_size, fc_w_heap_size, pc_w_heap_size⟩ := c_w_heap_size
  have ⟨hc__w_heap_size_1_, fc__w_heap_size_1_, pc__w_heap_size_1_⟩ := c__w_heap_size_1_
  have ⟨hc__w_heap_size_1_1_, fc__w_heap_size_1_1_, pc__w_heap_size_1_1_⟩ := c__w_heap_size_1_1_
  have ⟨hc_e11, fc_e11, pc_e11⟩ := c_e11
  have ⟨hc_e13, fc_e13, pc_e13⟩ := c_e13
  have ⟨hc_e15, fc_e15, pc_e15⟩ := c_e15
  have ⟨hc_e17, fc_e17, pc_e17⟩ := c_e17
  clear HV
  go_wp2_with (first
      | (go_at_call_of 19 ((#[] : Array Value)); refine (AW.out _).mono ?_; rintro e w' ⟨rfl, g5, rfl⟩)
      | (go_at_call_of 14 ((#[.int .i64 id, .agg (nw 9 a), .agg (nw 9 b)] : Array Value)); refine (A1.out _).mono ?_; rintro e w' ⟨rfl, g6, rfl⟩)
      | (go_at_call_of 15 ((#[.int .i64 id, .agg (nw 9 a), .agg (nw 9 b)] : Array Value)); refine (D1.out _).mono ?_; rintro e w' ⟨rfl, g7, rfl⟩)
      | (go_at_call_of 16 ((#[.int .i64 id, .agg (nw 9 a), .agg (nw 9 b)] : Array Value)); refine (M1.out _).mono ?_; rintro e w' ⟨rfl, g8, rfl⟩)
      | (go_at_call_of 17 ((#[.int .i64 id, .agg (nw 18 W)] : Array Value)); refine (R1.out _).mono ?_; rintro e w' ⟨rfl, g9, rfl⟩)
      | (go_at_call 18; refine (num_any _ _).mono ?_; rintro e w' ⟨rfl, rfl⟩))
  go_ret
  refine ⟨rfl, ?_⟩
  repeat (first | exact G | apply Gr.drewN | apply Gr.drew | apply Gr.alloc | apply Gr.gro)
set_option maxRecDepth 100000 in
set_option maxHeartbeats 4000000 in
theorem ffields_a (k a b W : Nat) (h1 : 1 ≤ k) (h2 : k ≤ 15) (ha : a < M) (hb : b < M) (hW : W < pw 18) (hc : ¬ a < pN k) (w : World) :
    Calls Try.prog 3 #[.int .i64 (k : Int), .agg (nw 9 a), .agg (nw 9 b), .agg (nw 18 W)] w fun e w' => e = .returned (.bool true) ∧ Gr w w' := by
  have HO : ∀ w, Calls Try.prog 13 #[.int .i64 (k : Int)] w fun e w' => ∃ p n q, e = .returned (.tuple #[.agg (cvA (k : Int) p (dl (pN k)) n q), .bool true]) ∧ Sl w' p (pN k) ∧ Gr w w' := fun w => get_yes k h1 h2 w
  have hB := pN_bd k h1 h2
  have hdl := pN_dl k h1 h2
  have hprm := prm_pN k h1 h2
  obtain ⟨m, hm⟩ : ∃ m, pN k = m := ⟨_, rfl⟩
  have FA := fun a b ha hb w => fAdd_ok k a b h1 h2 ha hb w
  have FSu := fun a b ha hb w => fSub_ok k a b h1 h2 ha hb w
  have FR := fun W hW w => fReduce_ok k W h1 h2 hW w
  have FM := fun a b ha hb w => fMul_ok k a b h1 h2 ha hb w
  have FI := fun a h0 ha hg => fInv_ok k a h1 h2 h0 ha hg
  have FZ := fun w => fInv_zero k h1 h2 w
  rw [hm] at hB hdl hprm FA FSu FR FM FI HO
  obtain ⟨t, ht⟩ : ∃ t, W % m = t := ⟨_, rfl⟩
  have hda := dl_M a ha
  have hdb := dl_M b hb
  have hdW : dl W ≤ 36 := (dl_le _ 36).2 (by rw [pq_two 18]; exact hW)
  have HOf : Hid (∀ w, Calls Try.prog 22 #[.agg (nw 18 W)] w (Nm W w)) := fun w => rof_any W hW w
  have HFa : Hid (∀ w, Calls Try.prog 23 #[.agg (nw 9 a)] w (Nm a w)) := fun w => from_any a ha w
  have HFb : Hid (∀ w, Calls Try.prog 23 #[.agg (nw 9 b)] w (Nm b w)) := fun w => from_any b hb w
  have HMd : Hid (∀ (p : Option Addr) (n : Nat) w' p' k, Sl w' p' W → Sl w' p m → Calls Try.prog 21 #[.slice p' (dl W) k, .slice p (dl m) n] w' (Nm t w')) := fun p n w' p' k h h' => ht ▸ rmod_any W m k n p' p w' h h' (by omega) (by omega) (by omega)
  have HNt : Hid (∀ w' p' k, Sl w' p' t → Calls Try.prog 20 #[.slice p' (dl t) k] w' fun e w'' => e = .returned (.agg (nw 9 t)) ∧ Gr w' w'') := fun w' p' k h => rnat_any t k p' w' h
  obtain ⟨z1, hz1⟩ : ∃ z, cmpZ a m = z := ⟨_, rfl⟩
  obtain ⟨z2, hz2⟩ : ∃ z, cmpZ b m = z := ⟨_, rfl⟩
  have HCa : Hid (∀ (p : Option Addr) (n : Nat) w' p' k, Sl w' p' a → Sl w' p m → Calls Try.prog 24 #[.slice p' (dl a) k, .slice p (dl m) n] w' fun e w'' => e = .returned (.int .i64 (cmpZ a m)) ∧ Gr w' w'') := fun p n w' p' k h h' => rcmp_any a m k n p' p w' h h' (by omega) (by omega)
  have HCb : Hid (∀ (p : Option Addr) (n : Nat) w' p' k, Sl w' p' b → Sl w' p m → Calls Try.prog 24 #[.slice p' (dl b) k, .slice p (dl m) n] w' fun e w'' => e = .returned (.int .i64 (cmpZ b m)) ∧ Gr w' w'') := fun p n w' p' k h h' => rcmp_any b m k n p' p w' h h' (by omega) (by omega)
  have FAddR := fun a b ha hb h w => fAdd_range k a b h1 h2 ha hb h w
  have FSubR := fun a b ha hb h w => fSub_range k a b h1 h2 ha hb h w
  have FMulR := fun a b ha hb h w => fMul_range k a b h1 h2 ha hb h w
  rw [hm] at FAddR FSubR FMulR
  rw [hm] at hc
  have hab : ¬ (a < m ∧ b < m) := by omega
  have q1 : 0 ≤ z1 := by rw [← hz1]; unfold cmpZ; rw [if_neg (by omega)]; split <;> decide
  have AW : Hid (∀ w', Calls Try.prog 19 #[] w' fun e w'' => e = .returned (.bool true) ∧ Gr w' w'') := fun w => awake5_any w
  have A1 : Hid (∀ w', Calls Try.prog 14 #[.int .i64 k, .agg (nw 9 a), .agg (nw 9 b)] w' fun e w'' => e = .returned (.tuple #[.agg (nw 9 0), .int .i64 501]) ∧ Gr w' w'') := fun w => FAddR a b ha hb hab w
  have D1 : Hid (∀ w', Calls Try.prog 15 #[.int .i64 k, .agg (nw 9 a), .agg (nw 9 b)] w' fun e w'' => e = .returned (.tuple #[.agg (nw 9 0), .int .i64 501]) ∧ Gr w' w'') := fun w => FSubR a b ha hb hab w
  have M1 : Hid (∀ w', Calls Try.prog 16 #[.int .i64 k, .agg (nw 9 a), .agg (nw 9 b)] w' fun e w'' => e = .returned (.tuple #[.agg (nw 9 0), .int .i64 501]) ∧ Gr w' w'') := fun w => FMulR a b ha hb hab w
  have R1 : Hid (∀ w', Calls Try.prog 17 #[.int .i64 k, .agg (nw 18 W)] w' fun e w'' => e = .returned (.tuple #[.agg (nw 9 t), .int .i64 0]) ∧ Gr w' w'') := fun w => ht ▸ FR W hW w
  have HO' : Hid (∀ w, Calls Try.prog 13 #[.int .i64 (k : Int)] w fun e w' => ∃ p n q, e = .returned (.tuple #[.agg (cvA (k : Int) p (dl m) n q), .bool true]) ∧ Sl w' p m ∧ Gr w w') := HO
  clear HO FA FSu FR FM FI FZ hprm hB hdl hm h1 h2 ht hda hdb hdW hW ha hb hab FAddR FSubR FMulR hc
  go_enter Try.func3, Try.ntmps3
  go_upto_region 1 with fail
  refine gen_w (fun v => Hid (Gr w v ∧ Cl v w.heap.size a ∧ Cl v (w.heap.size + 1) b ∧ Clw v (w.heap.size + 1 + 1) W)) ⟨(by repeat (first | exact Gr.refl _ | apply Gr.drewN | apply Gr.drew | apply Gr.alloc | apply Gr.gro)), ⟨by simp [go_sem], by simp [go_sem], by simp [go_sem]⟩, ⟨by simp [go_sem], by simp [go_sem], by simp [go_sem]⟩, ⟨by simp [go_sem], by simp [go_sem], by simp [go_sem]⟩⟩ ?_
  intro v0 HV
  go_cut [9, 10] from 21 to 25 (fun a0 a1 wx => ∃ (e9 : Nat) (p : Option Addr) (n : Nat) (q : Nat → Option Addr × Nat × Nat), a0 = .pointer (some ⟨e9, 0, none⟩) ∧ a1 = .bool true ∧ Hid (Gr w wx ∧ Cl wx (w.heap.size) a ∧ Cl wx (w.heap.size + 1) b ∧ Clw wx (w.heap.size + 1 + 1) W ∧ Cv wx e9 k p (dl m) n q ∧ Sl wx p m))
  case first =>
    have ⟨G, c0, c1, c2⟩ := HV.out
    go_wp2_with (go_at_call 13; refine (HO'.out _).mono ?_; rintro e W1 ⟨p, n, q, rfl, S1, G1⟩)
    go_meet
    exact ⟨_, p, n, q, rfl, rfl, G.trans (G1.trans (by repeat (first | exact Gr.refl _ | apply Gr.drewN | apply Gr.drew | apply Gr.alloc | apply Gr.gro))), c0.gr (G1.trans (by repeat (first | exact Gr.refl _ | apply Gr.drewN | apply Gr.drew | apply Gr.alloc | apply Gr.gro))), c1.gr (G1.trans (by repeat (first | exact Gr.refl _ | apply Gr.drewN | apply Gr.drew | apply Gr.alloc | apply Gr.gro))), c2.gr (G1.trans (by repeat (first | exact Gr.refl _ | apply Gr.drewN | apply Gr.drew | apply Gr.alloc | apply Gr.gro))), ⟨by simp [go_sem], by simp [go_sem], by simp [go_sem]⟩, S1.gr (by repeat (first | exact Gr.refl _ | apply Gr.drewN | apply Gr.drew | apply Gr.alloc | apply Gr.gro))⟩
  clear HV
  obtain ⟨e9, p, n, q, rfl, rfl, HV⟩ := hcut
  go_upto_region 2 with fail
  go_cut [11, 12] from 26 to 32 (fun a0 a1 wx => ∃ e11 : Nat, a0 = .pointer (some ⟨e11, 0, none⟩) ∧ a1 = .int .i64 501 ∧ Hid (Gr w wx ∧ Cl wx (w.heap.size) a ∧ Cl wx (w.heap.size + 1) b ∧ Clw wx (w.heap.size + 1 + 1) W ∧ Cv wx e9 k p (dl m) n q ∧ Cl wx e11 0 ∧ Sl wx p m))
  case first =>
    have ⟨G, c_w_heap_size, c__w_heap_size_1_, c__w_heap_size_1_1_, c_e9, S_p⟩ := HV.out
    have ⟨hc_w_heap_size, fc_w_heap_size, pc_w_heap_size⟩ := c_w_heap_size
    have ⟨hc__w_heap_size_1_, fc__w_heap_size_1_, pc__w_heap_size_1_⟩ := c__w_heap_size_1_
    have ⟨hc__w_heap_size_1_1_, fc__w_heap_size_1_1_, pc__w_heap_size_1_1_⟩ := c__w_heap_size_1_1_
    have ⟨hc_e9, fc_e9, pc_e9⟩ := c_e9
    have h0c_e9 := (c_e9).at0
    have h1c_e9 := (c_e9).at1
    go_wp2_with (first
        | (go_at_call_of 14 ((#[.int .i64 k, .agg (nw 9 a), .agg (nw 9 b)] : Array Value)); refine (A1.out _).mono ?_; rintro e w' ⟨rfl, g1, rfl⟩)
        | (go_at_call 18; refine (num_any _ _).mono ?_; rintro e w' ⟨rfl, rfl⟩))
    go_meet
    exact ⟨_, rfl, rfl, G.trans (by repeat (first | exact Gr.refl _ | apply Gr.drewN | apply Gr.drew | apply Gr.alloc | apply Gr.gro)), c_w_heap_size.gr (by repeat (first | exact Gr.refl _ | apply Gr.drewN | apply Gr.drew | apply Gr.alloc | apply Gr.gro)), c__w_heap_size_1_.gr (by repeat (first | exact Gr.refl _ | apply Gr.drewN | apply Gr.drew | apply Gr.alloc | apply Gr.gro)), c__w_heap_size_1_1_.gr (by repeat (first | exact Gr.refl _ | apply Gr.drewN | apply Gr.drew | apply Gr.alloc | apply Gr.gro)), c_e9.gr (by repeat (first | exact Gr.refl _ | apply Gr.drewN | apply Gr.drew | apply Gr.alloc | apply Gr.gro)), ⟨by simp [go_sem], by simp [go_sem], by simp [go_sem]⟩, S_p.gr (by repeat (first | exact Gr.refl _ | apply Gr.drewN | apply Gr.drew | apply Gr.alloc | apply Gr.gro))⟩
  clear HV
  obtain ⟨e11, rfl, rfl, HV⟩ := hcut
  go_upto_region 3 with fail
  go_cut [13, 14] from 33 to 39 (fun a0 a1 wx => ∃ e13 : Nat, a0 = .pointer (some ⟨e13, 0, none⟩) ∧ a1 = .int .i64 501 ∧ Hid (Gr w wx ∧ Cl wx (w.heap.size) a ∧ Cl wx (w.heap.size + 1) b ∧ Clw wx (w.heap.size + 1 + 1) W ∧ Cv wx e9 k p (dl m) n q ∧ Cl wx e11 0 ∧ Cl wx e13 0 ∧ Sl wx p m))
  case first =>
    have ⟨G, c_w_heap_size, c__w_heap_size_1_, c__w_heap_size_1_1_, c_e9, c_e11, S_p⟩ := HV.out
    have ⟨hc_w_heap_size, fc_w_heap_size, pc_w_heap_size⟩ := c_w_heap_size
    have ⟨hc__w_heap_size_1_, fc__w_heap_size_1_, pc__w_heap_size_1_⟩ := c__w_heap_size_1_
    have ⟨hc__w_heap_size_1_1_, fc__w_heap_size_1_1_, pc__w_heap_size_1_1_⟩ := c__w_heap_size_1_1_
    have ⟨hc_e9, fc_e9, pc_e9⟩ := c_e9
    have h0c_e9 := (c_e9).at0
    have h1c_e9 := (c_e9).at1
    have ⟨hc_e11, fc_e11, pc_e11⟩ := c_e11
    go_wp2_with (first
        | (go_at_call_of 15 ((#[.int .i64 k, .agg (nw 9 a), .agg (nw 9 b)] : Array Value)); refine (D1.out _).mono ?_; rintro e w' ⟨rfl, g2, rfl⟩)
        | (go_at_call 18; refine (num_any _ _).mono ?_; rintro e w' ⟨rfl, rfl⟩))
    go_meet
    exact ⟨_, rfl, rfl, G.trans (by repeat (first | exact Gr.refl _ | apply Gr.drewN | apply Gr.drew | apply Gr.alloc | apply Gr.gro)), c_w_heap_size.gr (by repeat (first | exact Gr.refl _ | apply Gr.drewN | apply Gr.drew | apply Gr.alloc | apply Gr.gro)), c__w_heap_size_1_.gr (by repeat (first | exact Gr.refl _ | apply Gr.drewN | apply Gr.drew | apply Gr.alloc | apply Gr.gro)), c__w_heap_size_1_1_.gr (by repeat (first | exact Gr.refl _ | apply Gr.drewN | apply Gr.drew | apply Gr.alloc | apply Gr.gro)), c_e9.gr (by repeat (first | exact Gr.refl _ | apply Gr.drewN | apply Gr.drew | apply Gr.alloc | apply Gr.gro)), c_e11.gr (by repeat (first | exact Gr.refl _ | apply Gr.drewN | apply Gr.drew | apply Gr.alloc | apply Gr.gro)), ⟨by simp [go_sem], by simp [go_sem], by simp [go_sem]⟩, S_p.gr (by repeat (first | exact Gr.refl _ | apply Gr.drewN | apply Gr.drew | apply Gr.alloc | apply Gr.gro))⟩
  clear HV
  obtain ⟨e13, rfl, rfl, HV⟩ := hcut
  go_upto_region 4 with fail
  go_cut [15, 16] from 40 to 46 (fun a0 a1 wx => ∃ e15 : Nat, a0 = .pointer (some ⟨e15, 0, none⟩) ∧ a1 = .int .i64 501 ∧ Hid (Gr w wx ∧ Cl wx (w.heap.size) a ∧ Cl wx (w.heap.size + 1) b ∧ Clw wx (w.heap.size + 1 + 1) W ∧ Cv wx e9 k p (dl m) n q ∧ Cl wx e11 0 ∧ Cl wx e13 0 ∧ Cl wx e15 0 ∧ Sl wx p m))
  case first =>
    have ⟨G, c_w_heap_size, c__w_heap_size_1_, c__w_heap_size_1_1_, c_e9, c_e11, c_e13, S_p⟩ := HV.out
    have ⟨hc_w_heap_size, fc_w_heap_size, pc_w_heap_size⟩ := c_w_heap_size
    have ⟨hc__w_heap_size_1_, fc__w_heap_size_1_, pc__w_heap_size_1_⟩ := c__w_heap_size_1_
    have ⟨hc__w_heap_size_1_1_, fc__w_heap_size_1_1_, pc__w_heap_size_1_1_⟩ := c__w_heap_size_1_1_
    have ⟨hc_e9, fc_e9, pc_e9⟩ := c_e9
    have h0c_e9 := (c_e9).at0
    have h1c_e9 := (c_e9).at1
    have ⟨hc_e11, fc_e11, pc_e11⟩ := c_e11
    have ⟨hc_e13, fc_e13, pc_e13⟩ := c_e13
    go_wp2_with (first
        | (go_at_call_of 16 ((#[.int .i64 k, .agg (nw 9 a), .agg (nw 9 b)] : Array Value)); refine (M1.out _).mono ?_; rintro e w' ⟨rfl, g3, rfl⟩)
        | (go_at_call 18; refine (num_any _ _).mono ?_; rintro e w' ⟨rfl, rfl⟩))
    go_meet
    exact ⟨_, rfl, rfl, G.trans (by repeat (first | exact Gr.refl _ | apply Gr.drewN | apply Gr.drew | apply Gr.alloc | apply Gr.gro)), c_w_heap_size.gr (by repeat (first | exact Gr.refl _ | apply Gr.drewN | apply Gr.drew | apply Gr.alloc | apply Gr.gro)), c__w_heap_size_1_.gr (by repeat (first | exact Gr.refl _ | apply Gr.drewN | apply Gr.drew | apply Gr.alloc | apply Gr.gro)), c__w_heap_size_1_1_.gr (by repeat (first | exact Gr.refl _ | apply Gr.drewN | apply Gr.drew | apply Gr.alloc | apply Gr.gro)), c_e9.gr (by repeat (first | exact Gr.refl _ | apply Gr.drewN | apply Gr.drew | apply Gr.alloc | apply Gr.gro)), c_e11.gr (by repeat (first | exact Gr.refl _ | apply Gr.drewN | apply Gr.drew | apply Gr.alloc | apply Gr.gro)), c_e13.gr (by repeat (first | exact Gr.refl _ | apply Gr.drewN | apply Gr.drew | apply Gr.alloc | apply Gr.gro)), ⟨by simp [go_sem], by simp [go_sem], by simp [go_sem]⟩, S_p.gr (by repeat (first | exact Gr.refl _ | apply Gr.drewN | apply Gr.drew | apply Gr.alloc | apply Gr.gro))⟩
  clear HV
  obtain ⟨e15, rfl, rfl, HV⟩ := hcut
  go_upto_region 5 with fail
  go_cut [17, 18] from 47 to 52 (fun a0 a1 wx => ∃ e17 : Nat, a0 = .pointer (some ⟨e17, 0, none⟩) ∧ a1 = .int .i64 0 ∧ Hid (Gr w wx ∧ Cl wx (w.heap.size) a ∧ Cl wx (w.heap.size + 1) b ∧ Clw wx (w.heap.size + 1 + 1) W ∧ Cv wx e9 k p (dl m) n q ∧ Cl wx e11 0 ∧ Cl wx e13 0 ∧ Cl wx e15 0 ∧ Cl wx e17 t ∧ Sl wx p m))
  case first =>
    have ⟨G, c_w_heap_size, c__w_heap_size_1_, c__w_heap_size_1_1_, c_e9, c_e11, c_e13, c_e15, S_p⟩ := HV.out
    have ⟨hc_w_heap_size, fc_w_heap_size, pc_w_heap_size⟩ := c_w_heap_size
    have ⟨hc__w_heap_size_1_, fc__w_heap_size_1_, pc__w_heap_size_1_⟩ := c__w_heap_size_1_
    have ⟨hc__w_heap_size_1_1_, fc__w_heap_size_1_1_, pc__w_heap_size_1_1_⟩ := c__w_heap_size_1_1_
    have ⟨hc_e9, fc_e9, pc_e9⟩ := c_e9
    have h0c_e9 := (c_e9).at0
    have h1c_e9 := (c_e9).at1
    have ⟨hc_e11, fc_e11, pc_e11⟩ := c_e11
    have ⟨hc_e13, fc_e13, pc_e13⟩ := c_e13
    have ⟨hc_e15, fc_e15, pc_e15⟩ := c_e15
    go_wp2_with (first
        | (go_at_call_of 17 ((#[.int .i64 k, .agg (nw 18 W)] : Array Value)); refine (R1.out _).mono ?_; rintro e w' ⟨rfl, g4, rfl⟩)
        | (go_at_call 18; refine (num_any _ _).mono ?_; rintro e w' ⟨rfl, rfl⟩))
    go_meet
    exact ⟨_, rfl, rfl, G.trans (by repeat (first | exact Gr.refl _ | apply Gr.drewN | apply Gr.drew | apply Gr.alloc | apply Gr.gro)), c_w_heap_size.gr (by repeat (first | exact Gr.refl _ | apply Gr.drewN | apply Gr.drew | apply Gr.alloc | apply Gr.gro)), c__w_heap_size_1_.gr (by repeat (first | exact Gr.refl _ | apply Gr.drewN | apply Gr.drew | apply Gr.alloc | apply Gr.gro)), c__w_heap_size_1_1_.gr (by repeat (first | exact Gr.refl _ | apply Gr.drewN | apply Gr.drew | apply Gr.alloc | apply Gr.gro)), c_e9.gr (by repeat (first | exact Gr.refl _ | apply Gr.drewN | apply Gr.drew | apply Gr.alloc | apply Gr.gro)), c_e11.gr (by repeat (first | exact Gr.refl _ | apply Gr.drewN | apply Gr.drew | apply Gr.alloc | apply Gr.gro)), c_e13.gr (by repeat (first | exact Gr.refl _ | apply Gr.drewN | apply Gr.drew | apply Gr.alloc | apply Gr.gro)), c_e15.gr (by repeat (first | exact Gr.refl _ | apply Gr.drewN | apply Gr.drew | apply Gr.alloc | apply Gr.gro)), ⟨by simp [go_sem], by simp [go_sem], by simp [go_sem]⟩, S_p.gr (by repeat (first | exact Gr.refl _ | apply Gr.drewN | apply Gr.drew | apply Gr.alloc | apply Gr.gro))⟩
  clear HV
  obtain ⟨e17, rfl, rfl, HV⟩ := hcut
  go_upto_region 8 with fail
  have ⟨G, c_w_heap_size, c__w_heap_size_1_, c__w_heap_size_1_1_, c_e9, c_e11, c_e13, c_e15, c_e17, S_p⟩ := HV.out
  refine wp_region_pred (by kernel_rfl) (by kernel_rfl) [.c (.int .i64 0), .c (.int .i64 0), .c (.bool false), .c (.bool false), .c (.agg (nw 9 t)), .c (.agg (nw 18 W)), .n (W), .c (.pointer (some ⟨e9, 1, none⟩)), .c (.slice p (dl m) n), .n (t), .c (.agg (nw 9 t)), .c (.bool false), .c (.bool false)] ?hs ?hf
  case hs =>
    intro listed vals a1 vA i o hg hR hF ho hd
    have Hc_w_heap_size : blk vA (w.heap.size) = nw 9 a := (hg.blk _ c_w_heap_size.p).trans c_w_heap_size.h
    have Hc__w_heap_size_1_ : blk vA (w.heap.size + 1) = nw 9 b := (hg.blk _ c__w_heap_size_1_.p).trans c__w_heap_size_1_.h
    have Hc__w_heap_size_1_1_ : blk vA (w.heap.size + 1 + 1) = nw 18 W := (hg.blk _ c__w_heap_size_1_1_.p).trans c__w_heap_size_1_1_.h
    have Hc_e9 : blk vA e9 = cvA k p (dl m) n q := (hg.blk _ c_e9.p).trans c_e9.h
    have Hc_e11 : blk vA e11 = nw 9 0 := (hg.blk _ c_e11.p).trans c_e11.h
    have Hc_e13 : blk vA e13 = nw 9 0 := (hg.blk _ c_e13.p).trans c_e13.h
    have Hc_e15 : blk vA e15 = nw 9 0 := (hg.blk _ c_e15.p).trans c_e15.h
    have Hc_e17 : blk vA e17 = nw 9 t := (hg.blk _ c_e17.p).trans c_e17.h
    have H1 : vA.cell? ⟨e9, 1, none⟩ = some (.slice p (dl m) n) := by rw [cell_blk, Hc_e9]; rfl
    have Sm : Sl vA p m := S_p.gr hg
    have hi : i < 13 := by simpa using (Array.getElem?_eq_some_iff.1 ho).1
    obtain rfl | rfl | rfl | rfl | rfl | rfl | rfl | rfl | rfl | rfl | rfl | rfl | rfl : i = 0 ∨ i = 1 ∨ i = 2 ∨ i = 3 ∨ i = 4 ∨ i = 5 ∨ i = 6 ∨ i = 7 ∨ i = 8 ∨ i = 9 ∨ i = 10 ∨ i = 11 ∨ i = 12 := by omega
    · obtain rfl := Option.some.inj ho
      have f0 := hF.old (s := 18) (v := .int .i64 0) (by kernel_rfl) rfl
      refine Or.inl ⟨wanted_no rfl, ?_⟩
      exact wp_val (.int .i64 0) (by simp [go_sem, f0]) ⟨_, rfl, Gr.refl _, rfl⟩
    · obtain rfl := Option.some.inj ho
      have l0 := on_of hd 0 (by kernel_rfl)
      have f0 := hF.at (s := 86) (i := 0) (by kernel_rfl) (by simp) l0
      rw [show vals 0 = .int .i64 0 from hR 0 l0] at f0
      refine Or.inl ⟨wanted_no rfl, ?_⟩
      exact wp_ret (.int .i64 0) (by simp [go_sem, f0]) (num5_gr _ _) (fun w2 hg2 => ⟨_, rfl, hg2, rfl⟩)
    · obtain rfl := Option.some.inj ho
      have l0 := on_of hd 1 (by kernel_rfl)
      have f0 := hF.at (s := 87) (i := 1) (by kernel_rfl) (by simp) l0
      rw [show vals 1 = .int .i64 0 from hR 1 l0] at f0
      refine Or.inl ⟨wanted_no rfl, ?_⟩
      exact wp_val (.bool false) (by simp [go_sem, f0]) ⟨_, rfl, Gr.refl _, rfl⟩
    · obtain rfl := Option.some.inj ho
      have l0 := on_of hd 2 (by kernel_rfl)
      have f0 := hF.at (s := 88) (i := 2) (by kernel_rfl) (by simp) l0
      rw [show vals 2 = .bool false from hR 2 l0] at f0
      refine Or.inl ⟨wanted_no rfl, ?_⟩
      exact wp_val (.bool false) (by simp [go_sem, f0]) ⟨_, rfl, Gr.refl _, rfl⟩
    · obtain rfl := Option.some.inj ho
      have lg := on_of hd 3 (by kernel_rfl)
      have fg := hF.at (s := 89) (i := 3) (by kernel_rfl) (by simp) lg
      rw [show vals 3 = .bool false from hR 3 lg] at fg
      have f0 := hF.old (s := 17) (v := .pointer (some ⟨e17, 0, none⟩)) (by kernel_rfl) rfl
      refine Or.inl ⟨wanted_at (j := 3) (s := 89) rfl rfl rfl fg, ?_⟩
      exact wp_val (.agg (nw 9 t)) (by simp [go_sem, f0, Hc_e17]) ⟨_, rfl, Gr.refl _, rfl⟩
    · obtain rfl := Option.some.inj ho
      have lg := on_of hd 3 (by kernel_rfl)
      have fg := hF.at (s := 89) (i := 3) (by kernel_rfl) (by simp) lg
      rw [show vals 3 = .bool false from hR 3 lg] at fg
      have f0 := hF.old (s := 7) (v := .pointer (some ⟨(w.heap.size + 1 + 1), 0, none⟩)) (by kernel_rfl) rfl
      refine Or.inl ⟨wanted_at (j := 3) (s := 89) rfl rfl rfl fg, ?_⟩
      exact wp_val (.agg (nw 18 W)) (by simp [go_sem, f0, Hc__w_heap_size_1_1_]) ⟨_, rfl, Gr.refl _, rfl⟩
    · obtain rfl := Option.some.inj ho
      have lg := on_of hd 3 (by kernel_rfl)
      have fg := hF.at (s := 89) (i := 3) (by kernel_rfl) (by simp) lg
      rw [show vals 3 = .bool false from hR 3 lg] at fg
      have l0 := on_of hd 5 (by kernel_rfl)
      have f0 := hF.at (s := 91) (i := 5) (by kernel_rfl) (by simp) l0
      rw [show vals 5 = .agg (nw 18 W) from hR 5 l0] at f0
      refine Or.inl ⟨wanted_at (j := 3) (s := 89) rfl rfl rfl fg, ?_⟩
      exact wp_retN (by simp [go_sem, f0]) (HOf.out _) (fun p n w2 hS hg2 => ⟨_, rfl, hg2, p, n, rfl, hS⟩)
    · obtain rfl := Option.some.inj ho
      have lg := on_of hd 3 (by kernel_rfl)
      have fg := hF.at (s := 89) (i := 3) (by kernel_rfl) (by simp) lg
      rw [show vals 3 = .bool false from hR 3 lg] at fg
      have f0 := hF.old (s := 9) (v := .pointer (some ⟨e9, 0, none⟩)) (by kernel_rfl) rfl
      refine Or.inl ⟨wanted_at (j := 3) (s := 89) rfl rfl rfl fg, ?_⟩
      exact wp_val (.pointer (some ⟨e9, 1, none⟩)) (by simp [go_sem, f0]) ⟨_, rfl, Gr.refl _, rfl⟩
    · obtain rfl := Option.some.inj ho
      have lg := on_of hd 3 (by kernel_rfl)
      have fg := hF.at (s := 89) (i := 3) (by kernel_rfl) (by simp) lg
      rw [show vals 3 = .bool false from hR 3 lg] at fg
      have l0 := on_of hd 7 (by kernel_rfl)
      have f0 := hF.at (s := 93) (i := 7) (by kernel_rfl) (by simp) l0
      rw [show vals 7 = .pointer (some ⟨e9, 1, none⟩) from hR 7 l0] at f0
      refine Or.inl ⟨wanted_at (j := 3) (s := 89) rfl rfl rfl fg, ?_⟩
      exact wp_val (.slice p (dl m) n) (by simp [go_sem, f0, H1]) ⟨_, rfl, Gr.refl _, rfl⟩
    · obtain rfl := Option.some.inj ho
      have lg := on_of hd 3 (by kernel_rfl)
      have fg := hF.at (s := 89) (i := 3) (by kernel_rfl) (by simp) lg
      rw [show vals 3 = .bool false from hR 3 lg] at fg
      have l0 := on_of hd 6 (by kernel_rfl)
      have f0 := hF.at (s := 92) (i := 6) (by kernel_rfl) (by simp) l0
      obtain ⟨p0, n0, e0, S0⟩ := (show ∃ p n, vals 6 = Value.slice p (dl (W)) n ∧ Sl vA p (W) from hR 6 l0)
      rw [e0] at f0
      have l1 := on_of hd 8 (by kernel_rfl)
      have f1 := hF.at (s := 94) (i := 8) (by kernel_rfl) (by simp) l1
      rw [show vals 8 = .slice p (dl m) n from hR 8 l1] at f1
      refine Or.inl ⟨wanted_at (j := 3) (s := 89) rfl rfl rfl fg, ?_⟩
      exact wp_retN (by simp [go_sem, f0, f1]) (HMd.out p n _ p0 n0 S0 Sm) (fun p n w2 hS hg2 => ⟨_, rfl, hg2, p, n, rfl, hS⟩)
    · obtain rfl := Option.some.inj ho
      have lg := on_of hd 3 (by kernel_rfl)
      have fg := hF.at (s := 89) (i := 3) (by kernel_rfl) (by simp) lg
      rw [show vals 3 = .bool false from hR 3 lg] at fg
      have l0 := on_of hd 9 (by kernel_rfl)
      have f0 := hF.at (s := 95) (i := 9) (by kernel_rfl) (by simp) l0
      obtain ⟨p0, n0, e0, S0⟩ := (show ∃ p n, vals 9 = Value.slice p (dl (t)) n ∧ Sl vA p (t) from hR 9 l0)
      rw [e0] at f0
      refine Or.inl ⟨wanted_at (j := 3) (s := 89) rfl rfl rfl fg, ?_⟩
      exact wp_ret (.agg (nw 9 t)) (by simp [go_sem, f0]) (HNt.out _ p0 n0 S0) (fun w2 hg2 => ⟨_, rfl, hg2, rfl⟩)
    · obtain rfl := Option.some.inj ho
      have lg := on_of hd 3 (by kernel_rfl)
      have fg := hF.at (s := 89) (i := 3) (by kernel_rfl) (by simp) lg
      rw [show vals 3 = .bool false from hR 3 lg] at fg
      have l0 := on_of hd 4 (by kernel_rfl)
      have f0 := hF.at (s := 90) (i := 4) (by kernel_rfl) (by simp) l0
      rw [show vals 4 = .agg (nw 9 t) from hR 4 l0] at f0
      have l1 := on_of hd 10 (by kernel_rfl)
      have f1 := hF.at (s := 96) (i := 10) (by kernel_rfl) (by simp) l1
      rw [show vals 10 = .agg (nw 9 t) from hR 10 l1] at f1
      refine Or.inl ⟨wanted_at (j := 3) (s := 89) rfl rfl rfl fg, ?_⟩
      exact wp_val (.bool false) (by simp [go_sem, f0, f1, eqN_self]) ⟨_, rfl, Gr.refl _, rfl⟩
    · obtain rfl := Option.some.inj ho
      have l0 := on_of hd 3 (by kernel_rfl)
      have f0 := hF.at (s := 89) (i := 3) (by kernel_rfl) (by simp) l0
      rw [show vals 3 = .bool false from hR 3 l0] at f0
      have l1 := on_of hd 11 (by kernel_rfl)
      have f1 := hF.at (s := 97) (i := 11) (by kernel_rfl) (by simp) l1
      rw [show vals 11 = .bool false from hR 11 l1] at f1
      refine Or.inl ⟨wanted_no rfl, ?_⟩
      exact wp_val (.bool false) (by simp [go_sem, f0, f1]) ⟨_, rfl, Gr.refl _, rfl⟩
  case hf =>
    intro vals vA hg hR
    have x0 : vals 0 = .int .i64 0 := hR 0 (by simp)
    have x1 : vals 1 = .int .i64 0 := hR 1 (by simp)
    have x2 : vals 2 = .bool false := hR 2 (by simp)
    have x3 : vals 3 = .bool false := hR 3 (by simp)
    have x4 : vals 4 = .agg (nw 9 t) := hR 4 (by simp)
    have x5 : vals 5 = .agg (nw 18 W) := hR 5 (by simp)
    obtain ⟨p6, n6, x6, S6⟩ := (show ∃ p n, vals 6 = Value.slice p (dl (W)) n ∧ Sl vA p (W) from hR 6 (by simp))
    have x7 : vals 7 = .pointer (some ⟨e9, 1, none⟩) := hR 7 (by simp)
    have x8 : vals 8 = .slice p (dl m) n := hR 8 (by simp)
    obtain ⟨p9, n9, x9, S9⟩ := (show ∃ p n, vals 9 = Value.slice p (dl (t)) n ∧ Sl vA p (t) from hR 9 (by simp))
    have x10 : vals 10 = .agg (nw 9 t) := hR 10 (by simp)
    have x11 : vals 11 = .bool false := hR 11 (by simp)
    have x12 : vals 12 = .bool false := hR 12 (by simp)
    simp only [putFrom, Act.put, List.setIfInBounds_toArray, List.set_cons_zero, List.set_cons_succ, x0, x1, x2, x3, x4, x5, x6, x7, x8, x9, x10, x11, x12]
    clear hR x0 x1 x2 x3 x4 x5 x6 x7 x8 x9 x10 x11 x12
    have HV : Hid (Gr w vA ∧ Cl vA (w.heap.size) a ∧ Cl vA (w.heap.size + 1) b ∧ Clw vA (w.heap.size + 1 + 1) W ∧ Cv vA e9 k p (dl m) n q ∧ Cl vA e11 0 ∧ Cl vA e13 0 ∧ Cl vA e15 0 ∧ Cl vA e17 t ∧ Sl vA p m) := ⟨G.trans hg, c_w_heap_size.gr hg, c__w_heap_size_1_.gr hg, c__w_heap_size_1_1_.gr hg, c_e9.gr hg, c_e11.gr hg, c_e13.gr hg, c_e15.gr hg, c_e17.gr hg, S_p.gr hg⟩
    clear hg
    go_upto_region 10 with fail
    have ⟨G, c_w_heap_size, c__w_heap_size_1_, c__w_heap_size_1_1_, c_e9, c_e11, c_e13, c_e15, c_e17, S_p⟩ := HV.out
    refine wp_region_pred (by kernel_rfl) (by kernel_rfl) [.c (.agg (nw 9 a)), .n (a), .c (.agg (nw 9 b)), .n (b), .n (a), .n (b)] ?hs ?hf
    case hs =>
      intro listed vals a1 vB i o hg hR hF ho hd
      have Hc_w_heap_size : blk vB (w.heap.size) = nw 9 a := (hg.blk _ c_w_heap_size.p).trans c_w_heap_size.h
      have Hc__w_heap_size_1_ : blk vB (w.heap.size + 1) = nw 9 b := (hg.blk _ c__w_heap_size_1_.p).trans c__w_heap_size_1_.h
      have Hc__w_heap_size_1_1_ : blk vB (w.heap.size + 1 + 1) = nw 18 W := (hg.blk _ c__w_heap_size_1_1_.p).trans c__w_heap_size_1_1_.h
      have Hc_e9 : blk vB e9 = cvA k p (dl m) n q := (hg.blk _ c_e9.p).trans c_e9.h
      have Hc_e11 : blk vB e11 = nw 9 0 := (hg.blk _ c_e11.p).trans c_e11.h
      have Hc_e13 : blk vB e13 = nw 9 0 := (hg.blk _ c_e13.p).trans c_e13.h
      have Hc_e15 : blk vB e15 = nw 9 0 := (hg.blk _ c_e15.p).trans c_e15.h
      have Hc_e17 : blk vB e17 = nw 9 t := (hg.blk _ c_e17.p).trans c_e17.h
      have H1 : vB.cell? ⟨e9, 1, none⟩ = some (.slice p (dl m) n) := by rw [cell_blk, Hc_e9]; rfl
      have Sm : Sl vB p m := S_p.gr hg
      have hi : i < 6 := by simpa using (Array.getElem?_eq_some_iff.1 ho).1
      obtain rfl | rfl | rfl | rfl | rfl | rfl : i = 0 ∨ i = 1 ∨ i = 2 ∨ i = 3 ∨ i = 4 ∨ i = 5 := by omega
      · obtain rfl := Option.some.inj ho
        have f0 := hF.old (s := 5) (v := .pointer (some ⟨w.heap.size, 0, none⟩)) (by kernel_rfl) rfl
        refine Or.inl ⟨wanted_no rfl, ?_⟩
        exact wp_val (.agg (nw 9 a)) (by simp [go_sem, f0, Hc_w_heap_size]) ⟨_, rfl, Gr.refl _, rfl⟩
      · obtain rfl := Option.some.inj ho
        have l0 := on_of hd 0 (by kernel_rfl)
        have f0 := hF.at (s := 99) (i := 0) (by kernel_rfl) (by simp) l0
        rw [show vals 0 = .agg (nw 9 a) from hR 0 l0] at f0
        refine Or.inl ⟨wanted_no rfl, ?_⟩
        exact wp_retN (by simp [go_sem, f0]) (HFa.out _) (fun p n w2 hS hg2 => ⟨_, rfl, hg2, p, n, rfl, hS⟩)
      · obtain rfl := Option.some.inj ho
        have f0 := hF.old (s := 6) (v := .pointer (some ⟨(w.heap.size + 1), 0, none⟩)) (by kernel_rfl) rfl
        refine Or.inl ⟨wanted_no rfl, ?_⟩
        exact wp_val (.agg (nw 9 b)) (by simp [go_sem, f0, Hc__w_heap_size_1_]) ⟨_, rfl, Gr.refl _, rfl⟩
      · obtain rfl := Option.some.inj ho
        have l0 := on_of hd 2 (by kernel_rfl)
        have f0 := hF.at (s := 101) (i := 2) (by kernel_rfl) (by simp) l0
        rw [show vals 2 = .agg (nw 9 b) from hR 2 l0] at f0
        refine Or.inl ⟨wanted_no rfl, ?_⟩
        exact wp_retN (by simp [go_sem, f0]) (HFb.out _) (fun p n w2 hS hg2 => ⟨_, rfl, hg2, p, n, rfl, hS⟩)
      · obtain rfl := Option.some.inj ho
        have l0 := on_of hd 1 (by kernel_rfl)
        have f0 := hF.at (s := 100) (i := 1) (by kernel_rfl) (by simp) l0
        obtain ⟨p0, n0, e0, S0⟩ := (show ∃ p n, vals 1 = Value.slice p (dl (a)) n ∧ Sl vB p (a) from hR 1 l0)
        rw [e0] at f0
        refine Or.inl ⟨wanted_no rfl, ?_⟩
        exact wp_val (.slice p0 (dl (a)) n0) (by simp [go_sem, f0]) ⟨_, rfl, Gr.refl _, _, _, rfl, S0⟩
      · obtain rfl := Option.some.inj ho
        have l0 := on_of hd 3 (by kernel_rfl)
        have f0 := hF.at (s := 102) (i := 3) (by kernel_rfl) (by simp) l0
        obtain ⟨p0, n0, e0, S0⟩ := (show ∃ p n, vals 3 = Value.slice p (dl (b)) n ∧ Sl vB p (b) from hR 3 l0)
        rw [e0] at f0
        refine Or.inl ⟨wanted_no rfl, ?_⟩
        exact wp_val (.slice p0 (dl (b)) n0) (by simp [go_sem, f0]) ⟨_, rfl, Gr.refl _, _, _, rfl, S0⟩
    case hf =>
      intro vals vB hg hR
      have x0 : vals 0 = .agg (nw 9 a) := hR 0 (by simp)
      obtain ⟨p1, n1, x1, S1⟩ := (show ∃ p n, vals 1 = Value.slice p (dl (a)) n ∧ Sl vB p (a) from hR 1 (by simp))
      have x2 : vals 2 = .agg (nw 9 b) := hR 2 (by simp)
      obtain ⟨p3, n3, x3, S3⟩ := (show ∃ p n, vals 3 = Value.slice p (dl (b)) n ∧ Sl vB p (b) from hR 3 (by simp))
      obtain ⟨p4, n4, x4, S4⟩ := (show ∃ p n, vals 4 = Value.slice p (dl (a)) n ∧ Sl vB p (a) from hR 4 (by simp))
      obtain ⟨p5, n5, x5, S5⟩ := (show ∃ p n, vals 5 = Value.slice p (dl (b)) n ∧ Sl vB p (b) from hR 5 (by simp))
      simp only [putFrom, Act.put, List.setIfInBounds_toArray, List.set_cons_zero, List.set_cons_succ, x0, x1, x2, x3, x4, x5]
      clear hR x0 x1 x2 x3 x4 x5
      have HV : Hid (Gr w vB ∧ Cl vB (w.heap.size) a ∧ Cl vB (w.heap.size + 1) b ∧ Clw vB (w.heap.size + 1 + 1) W ∧ Cv vB e9 k p (dl m) n q ∧ Cl vB e11 0 ∧ Cl vB e13 0 ∧ Cl vB e15 0 ∧ Cl vB e17 t ∧ Sl vB p m) := ⟨G.trans hg, c_w_heap_size.gr hg, c__w_heap_size_1_.gr hg, c__w_heap_size_1_1_.gr hg, c_e9.gr hg, c_e11.gr hg, c_e13.gr hg, c_e15.gr hg, c_e17.gr hg, S_p.gr hg⟩
      clear hg
      have SMB : Sl vB p m := by
        have ⟨G, c_w_heap_size, c__w_heap_size_1_, c__w_heap_size_1_1_, c_e9, c_e11, c_e13, c_e15, c_e17, S_p⟩ := HV.out
        exact S_p
      have HC1 : Hid (∀ w', Gr vB w' → Calls Try.prog 24 #[.slice p4 (dl a) n4, .slice p (dl m) n] w' fun e w'' => e = .returned (.int .i64 z1) ∧ Gr w' w'') := fun w' g => hz1 ▸ HCa.out p n w' p4 n4 (S4.gr g) (SMB.gr g)
      have HC2 : Hid (∀ w', Gr vB w' → Calls Try.prog 24 #[.slice p5 (dl b) n5, .slice p (dl m) n] w' fun e w'' => e = .returned (.int .i64 z2) ∧ Gr w' w'') := fun w' g => hz2 ▸ HCb.out p n w' p5 n5 (S5.gr g) (SMB.gr g)
      have ⟨G, c_w_heap_size, c__w_heap_size_1_, c__w_heap_size_1_1_, c_e9, c_e11, c_e13, c_e15, c_e17, S_p⟩ := HV.out
      have ⟨hc_w_heap_size, fc_w_heap_size, pc_w_heap_size⟩ := c_w_heap_size
      have ⟨hc__w_heap_size_1_, fc__w_heap_size_1_, pc__w_heap_size_1_⟩ := c__w_heap_size_1_
      have ⟨hc__w_heap_size_1_1_, fc__w_heap_size_1_1_, pc__w_heap_size_1_1_⟩ := c__w_heap_size_1_1_
      have ⟨hc_e9, fc_e9, pc_e9⟩ := c_e9
      have h0c_e9 := (c_e9).at0
      have h1c_e9 := (c_e9).at1
      have ⟨hc_e11, fc_e11, pc_e11⟩ := c_e11
      have ⟨hc_e13, fc_e13, pc_e13⟩ := c_e13
      have ⟨hc_e15, fc_e15, pc_e15⟩ := c_e15
      have ⟨hc_e17, fc_e17, pc_e17⟩ := c_e17
      go_upto_region 12 with (first | (go_at_call_of 24 ((#[.slice p4 (dl a) n4, .slice p (dl m) n] : Array Value)); refine (HC1.out _ ?_).mono ?_; exact (by repeat (first | exact Gr.refl _ | apply Gr.drewN | apply Gr.drew | apply Gr.alloc | apply Gr.gro)); rintro e w' ⟨rfl, gc1, rfl⟩) | (go_at_call_of 24 ((#[.slice p5 (dl b) n5, .slice p (dl m) n] : Array Value)); refine (HC2.out _ ?_).mono ?_; exact (by repeat (first | exact Gr.refl _ | apply Gr.drewN | apply Gr.drew | apply Gr.alloc | apply Gr.gro)); rintro e w' ⟨rfl, gc2, rfl⟩))
      go_wp2_with (first
          | (go_at_call_of 19 ((#[] : Array Value)); refine (AW.out _).mono ?_; rintro e w' ⟨rfl, g5, rfl⟩)
          | (go_at_call_of 14 ((#[.int .i64 k, .agg (nw 9 a), .agg (nw 9 b)] : Array Value)); refine (A1.out _).mono ?_; rintro e w' ⟨rfl, g6, rfl⟩)
          | (go_at_call_of 15 ((#[.int .i64 k, .agg (nw 9 a), .agg (nw 9 b)] : Array Value)); refine (D1.out _).mono ?_; rintro e w' ⟨rfl, g7, rfl⟩)
          | (go_at_call_of 16 ((#[.int .i64 k, .agg (nw 9 a), .agg (nw 9 b)] : Array Value)); refine (M1.out _).mono ?_; rintro e w' ⟨rfl, g8, rfl⟩)
          | (go_at_call_of 17 ((#[.int .i64 k, .agg (nw 18 W)] : Array Value)); refine (R1.out _).mono ?_; rintro e w' ⟨rfl, g9, rfl⟩)
          | (go_at_call 18; refine (num_any _ _).mono ?_; rintro e w' ⟨rfl, rfl⟩))
      go_ret
      refine ⟨rfl, ?_⟩
      repeat (first | exact G | apply Gr.drewN | apply Gr.drew | apply Gr.alloc | apply Gr.gro)
set_option maxRecDepth 100000 in
set_option maxHeartbeats 4000000 in
theorem ffields_b (k a b W : Nat) (h1 : 1 ≤ k) (h2 : k ≤ 15) (ha : a < M) (hb : b < M) (hW : W < pw 18) (hc : a < pN k ∧ ¬ b < pN k) (w : World) :
    Calls Try.prog 3 #[.int .i64 (k : Int), .agg (nw 9 a), .agg (nw 9 b), .agg (nw 18 W)] w fun e w' => e = .returned (.bool true) ∧ Gr w w' := by
  have HO : ∀ w, Calls Try.prog 13 #[.int .i64 (k : Int)] w fun e w' => ∃ p n q, e = .returned (.tuple #[.agg (cvA (k : Int) p (dl (pN k)) n q), .bool true]) ∧ Sl w' p (pN k) ∧ Gr w w' := fun w => get_yes k h1 h2 w
  have hB := pN_bd k h1 h2
  have hdl := pN_dl k h1 h2
  have hprm := prm_pN k h1 h2
  obtain ⟨m, hm⟩ : ∃ m, pN k = m := ⟨_, rfl⟩
  have FA := fun a b ha hb w => fAdd_ok k a b h1 h2 ha hb w
  have FSu := fun a b ha hb w => fSub_ok k a b h1 h2 ha hb w
  have FR := fun W hW w => fReduce_ok k W h1 h2 hW w
  have FM := fun a b ha hb w => fMul_ok k a b h1 h2 ha hb w
  have FI := fun a h0 ha hg => fInv_ok k a h1 h2 h0 ha hg
  have FZ := fun w => fInv_zero k h1 h2 w
  rw [hm] at hB hdl hprm FA FSu FR FM FI HO
  obtain ⟨t, ht⟩ : ∃ t, W % m = t := ⟨_, rfl⟩
  have hda := dl_M a ha
  have hdb := dl_M b hb
  have hdW : dl W ≤ 36 := (dl_le _ 36).2 (by rw [pq_two 18]; exact hW)
  have HOf : Hid (∀ w, Calls Try.prog 22 #[.agg (nw 18 W)] w (Nm W w)) := fun w => rof_any W hW w
  have HFa : Hid (∀ w, Calls Try.prog 23 #[.agg (nw 9 a)] w (Nm a w)) := fun w => from_any a ha w
  have HFb : Hid (∀ w, Calls Try.prog 23 #[.agg (nw 9 b)] w (Nm b w)) := fun w => from_any b hb w
  have HMd : Hid (∀ (p : Option Addr) (n : Nat) w' p' k, Sl w' p' W → Sl w' p m → Calls Try.prog 21 #[.slice p' (dl W) k, .slice p (dl m) n] w' (Nm t w')) := fun p n w' p' k h h' => ht ▸ rmod_any W m k n p' p w' h h' (by omega) (by omega) (by omega)
  have HNt : Hid (∀ w' p' k, Sl w' p' t → Calls Try.prog 20 #[.slice p' (dl t) k] w' fun e w'' => e = .returned (.agg (nw 9 t)) ∧ Gr w' w'') := fun w' p' k h => rnat_any t k p' w' h
  obtain ⟨z1, hz1⟩ : ∃ z, cmpZ a m = z := ⟨_, rfl⟩
  obtain ⟨z2, hz2⟩ : ∃ z, cmpZ b m = z := ⟨_, rfl⟩
  have HCa : Hid (∀ (p : Option Addr) (n : Nat) w' p' k, Sl w' p' a → Sl w' p m → Calls Try.prog 24 #[.slice p' (dl a) k, .slice p (dl m) n] w' fun e w'' => e = .returned (.int .i64 (cmpZ a m)) ∧ Gr w' w'') := fun p n w' p' k h h' => rcmp_any a m k n p' p w' h h' (by omega) (by omega)
  have HCb : Hid (∀ (p : Option Addr) (n : Nat) w' p' k, Sl w' p' b → Sl w' p m → Calls Try.prog 24 #[.slice p' (dl b) k, .slice p (dl m) n] w' fun e w'' => e = .returned (.int .i64 (cmpZ b m)) ∧ Gr w' w'') := fun p n w' p' k h h' => rcmp_any b m k n p' p w' h h' (by omega) (by omega)
  have FAddR := fun a b ha hb h w => fAdd_range k a b h1 h2 ha hb h w
  have FSubR := fun a b ha hb h w => fSub_range k a b h1 h2 ha hb h w
  have FMulR := fun a b ha hb h w => fMul_range k a b h1 h2 ha hb h w
  rw [hm] at FAddR FSubR FMulR
  rw [hm] at hc
  have hab : ¬ (a < m ∧ b < m) := by omega
  have q1 : z1 < 0 := by rw [← hz1]; unfold cmpZ; rw [if_pos hc.1]; decide
  have q2 : 0 ≤ z2 := by rw [← hz2]; unfold cmpZ; rw [if_neg (by omega)]; split <;> decide
  have AW : Hid (∀ w', Calls Try.prog 19 #[] w' fun e w'' => e = .returned (.bool true) ∧ Gr w' w'') := fun w => awake5_any w
  have A1 : Hid (∀ w', Calls Try.prog 14 #[.int .i64 k, .agg (nw 9 a), .agg (nw 9 b)] w' fun e w'' => e = .returned (.tuple #[.agg (nw 9 0), .int .i64 501]) ∧ Gr w' w'') := fun w => FAddR a b ha hb hab w
  have D1 : Hid (∀ w', Calls Try.prog 15 #[.int .i64 k, .agg (nw 9 a), .agg (nw 9 b)] w' fun e w'' => e = .returned (.tuple #[.agg (nw 9 0), .int .i64 501]) ∧ Gr w' w'') := fun w => FSubR a b ha hb hab w
  have M1 : Hid (∀ w', Calls Try.prog 16 #[.int .i64 k, .agg (nw 9 a), .agg (nw 9 b)] w' fun e w'' => e = .returned (.tuple #[.agg (nw 9 0), .int .i64 501]) ∧ Gr w' w'') := fun w => FMulR a b ha hb hab w
  have R1 : Hid (∀ w', Calls Try.prog 17 #[.int .i64 k, .agg (nw 18 W)] w' fun e w'' => e = .returned (.tuple #[.agg (nw 9 t), .int .i64 0]) ∧ Gr w' w'') := fun w => ht ▸ FR W hW w
  have HO' : Hid (∀ w, Calls Try.prog 13 #[.int .i64 (k : Int)] w fun e w' => ∃ p n q, e = .returned (.tuple #[.agg (cvA (k : Int) p (dl m) n q), .bool true]) ∧ Sl w' p m ∧ Gr w w') := HO
  clear HO FA FSu FR FM FI FZ hprm hB hdl hm h1 h2 ht hda hdb hdW hW ha hb hab FAddR FSubR FMulR hc
  go_enter Try.func3, Try.ntmps3
  go_upto_region 1 with fail
  refine gen_w (fun v => Hid (Gr w v ∧ Cl v w.heap.size a ∧ Cl v (w.heap.size + 1) b ∧ Clw v (w.heap.size + 1 + 1) W)) ⟨(by repeat (first | exact Gr.refl _ | apply Gr.drewN | apply Gr.drew | apply Gr.alloc | apply Gr.gro)), ⟨by simp [go_sem], by simp [go_sem], by simp [go_sem]⟩, ⟨by simp [go_sem], by simp [go_sem], by simp [go_sem]⟩, ⟨by simp [go_sem], by simp [go_sem], by simp [go_sem]⟩⟩ ?_
  intro v0 HV
  go_cut [9, 10] from 21 to 25 (fun a0 a1 wx => ∃ (e9 : Nat) (p : Option Addr) (n : Nat) (q : Nat → Option Addr × Nat × Nat), a0 = .pointer (some ⟨e9, 0, none⟩) ∧ a1 = .bool true ∧ Hid (Gr w wx ∧ Cl wx (w.heap.size) a ∧ Cl wx (w.heap.size + 1) b ∧ Clw wx (w.heap.size + 1 + 1) W ∧ Cv wx e9 k p (dl m) n q ∧ Sl wx p m))
  case first =>
    have ⟨G, c0, c1, c2⟩ := HV.out
    go_wp2_with (go_at_call 13; refine (HO'.out _).mono ?_; rintro e W1 ⟨p, n, q, rfl, S1, G1⟩)
    go_meet
    exact ⟨_, p, n, q, rfl, rfl, G.trans (G1.trans (by repeat (first | exact Gr.refl _ | apply Gr.drewN | apply Gr.drew | apply Gr.alloc | apply Gr.gro))), c0.gr (G1.trans (by repeat (first | exact Gr.refl _ | apply Gr.drewN | apply Gr.drew | apply Gr.alloc | apply Gr.gro))), c1.gr (G1.trans (by repeat (first | exact Gr.refl _ | apply Gr.drewN | apply Gr.drew | apply Gr.alloc | apply Gr.gro))), c2.gr (G1.trans (by repeat (first | exact Gr.refl _ | apply Gr.drewN | apply Gr.drew | apply Gr.alloc | apply Gr.gro))), ⟨by simp [go_sem], by simp [go_sem], by simp [go_sem]⟩, S1.gr (by repeat (first | exact Gr.refl _ | apply Gr.drewN | apply Gr.drew | apply Gr.alloc | apply Gr.gro))⟩
  clear HV
  obtain ⟨e9, p, n, q, rfl, rfl, HV⟩ := hcut
  go_upto_region 2 with fail
  go_cut [11, 12] from 26 to 32 (fun a0 a1 wx => ∃ e11 : Nat, a0 = .pointer (some ⟨e11, 0, none⟩) ∧ a1 = .int .i64 501 ∧ Hid (Gr w wx ∧ Cl wx (w.heap.size) a ∧ Cl wx (w.heap.size + 1) b ∧ Clw wx (w.heap.size + 1 + 1) W ∧ Cv wx e9 k p (dl m) n q ∧ Cl wx e11 0 ∧ Sl wx p m))
  case first =>
    have ⟨G, c_w_heap_size, c__w_heap_size_1_, c__w_heap_size_1_1_, c_e9, S_p⟩ := HV.out
    have ⟨hc_w_heap_size, fc_w_heap_size, pc_w_heap_size⟩ := c_w_heap_size
    have ⟨hc__w_heap_size_1_, fc__w_heap_size_1_, pc__w_heap_size_1_⟩ := c__w_heap_size_1_
    have ⟨hc__w_heap_size_1_1_, fc__w_heap_size_1_1_, pc__w_heap_size_1_1_⟩ := c__w_heap_size_1_1_
    have ⟨hc_e9, fc_e9, pc_e9⟩ := c_e9
    have h0c_e9 := (c_e9).at0
    have h1c_e9 := (c_e9).at1
    go_wp2_with (first
        | (go_at_call_of 14 ((#[.int .i64 k, .agg (nw 9 a), .agg (nw 9 b)] : Array Value)); refine (A1.out _).mono ?_; rintro e w' ⟨rfl, g1, rfl⟩)
        | (go_at_call 18; refine (num_any _ _).mono ?_; rintro e w' ⟨rfl, rfl⟩))
    go_meet
    exact ⟨_, rfl, rfl, G.trans (by repeat (first | exact Gr.refl _ | apply Gr.drewN | apply Gr.drew | apply Gr.alloc | apply Gr.gro)), c_w_heap_size.gr (by repeat (first | exact Gr.refl _ | apply Gr.drewN | apply Gr.drew | apply Gr.alloc | apply Gr.gro)), c__w_heap_size_1_.gr (by repeat (first | exact Gr.refl _ | apply Gr.drewN | apply Gr.drew | apply Gr.alloc | apply Gr.gro)), c__w_heap_size_1_1_.gr (by repeat (first | exact Gr.refl _ | apply Gr.drewN | apply Gr.drew | apply Gr.alloc | apply Gr.gro)), c_e9.gr (by repeat (first | exact Gr.refl _ | apply Gr.drewN | apply Gr.drew | apply Gr.alloc | apply Gr.gro)), ⟨by simp [go_sem], by simp [go_sem], by simp [go_sem]⟩, S_p.gr (by repeat (first | exact Gr.refl _ | apply Gr.drewN | apply Gr.drew | apply Gr.alloc | apply Gr.gro))⟩
  clear HV
  obtain ⟨e11, rfl, rfl, HV⟩ := hcut
  go_upto_region 3 with fail
  go_cut [13, 14] from 33 to 39 (fun a0 a1 wx => ∃ e13 : Nat, a0 = .pointer (some ⟨e13, 0, none⟩) ∧ a1 = .int .i64 501 ∧ Hid (Gr w wx ∧ Cl wx (w.heap.size) a ∧ Cl wx (w.heap.size + 1) b ∧ Clw wx (w.heap.size + 1 + 1) W ∧ Cv wx e9 k p (dl m) n q ∧ Cl wx e11 0 ∧ Cl wx e13 0 ∧ Sl wx p m))
  case first =>
    have ⟨G, c_w_heap_size, c__w_heap_size_1_, c__w_heap_size_1_1_, c_e9, c_e11, S_p⟩ := HV.out
    have ⟨hc_w_heap_size, fc_w_heap_size, pc_w_heap_size⟩ := c_w_heap_size
    have ⟨hc__w_heap_size_1_, fc__w_heap_size_1_, pc__w_heap_size_1_⟩ := c__w_heap_size_1_
    have ⟨hc__w_heap_size_1_1_, fc__w_heap_size_1_1_, pc__w_heap_size_1_1_⟩ := c__w_heap_size_1_1_
    have ⟨hc_e9, fc_e9, pc_e9⟩ := c_e9
    have h0c_e9 := (c_e9).at0
    have h1c_e9 := (c_e9).at1
    have ⟨hc_e11, fc_e11, pc_e11⟩ := c_e11
    go_wp2_with (first
        | (go_at_call_of 15 ((#[.int .i64 k, .agg (nw 9 a), .agg (nw 9 b)] : Array Value)); refine (D1.out _).mono ?_; rintro e w' ⟨rfl, g2, rfl⟩)
        | (go_at_call 18; refine (num_any _ _).mono ?_; rintro e w' ⟨rfl, rfl⟩))
    go_meet
    exact ⟨_, rfl, rfl, G.trans (by repeat (first | exact Gr.refl _ | apply Gr.drewN | apply Gr.drew | apply Gr.alloc | apply Gr.gro)), c_w_heap_size.gr (by repeat (first | exact Gr.refl _ | apply Gr.drewN | apply Gr.drew | apply Gr.alloc | apply Gr.gro)), c__w_heap_size_1_.gr (by repeat (first | exact Gr.refl _ | apply Gr.drewN | apply Gr.drew | apply Gr.alloc | apply Gr.gro)), c__w_heap_size_1_1_.gr (by repeat (first | exact Gr.refl _ | apply Gr.drewN | apply Gr.drew | apply Gr.alloc | apply Gr.gro)), c_e9.gr (by repeat (first | exact Gr.refl _ | apply Gr.drewN | apply Gr.drew | apply Gr.alloc | apply Gr.gro)), c_e11.gr (by repeat (first | exact Gr.refl _ | apply Gr.drewN | apply Gr.drew | apply Gr.alloc | apply Gr.gro)), ⟨by simp [go_sem], by simp [go_sem], by simp [go_sem]⟩, S_p.gr (by repeat (first | exact Gr.refl _ | apply Gr.drewN | apply Gr.drew | apply Gr.alloc | apply Gr.gro))⟩
  clear HV
  obtain ⟨e13, rfl, rfl, HV⟩ := hcut
  go_upto_region 4 with fail
  go_cut [15, 16] from 40 to 46 (fun a0 a1 wx => ∃ e15 : Nat, a0 = .pointer (some ⟨e15, 0, none⟩) ∧ a1 = .int .i64 501 ∧ Hid (Gr w wx ∧ Cl wx (w.heap.size) a ∧ Cl wx (w.heap.size + 1) b ∧ Clw wx (w.heap.size + 1 + 1) W ∧ Cv wx e9 k p (dl m) n q ∧ Cl wx e11 0 ∧ Cl wx e13 0 ∧ Cl wx e15 0 ∧ Sl wx p m))
  case first =>
    have ⟨G, c_w_heap_size, c__w_heap_size_1_, c__w_heap_size_1_1_, c_e9, c_e11, c_e13, S_p⟩ := HV.out
    have ⟨hc_w_heap_size, fc_w_heap_size, pc_w_heap_size⟩ := c_w_heap_size
    have ⟨hc__w_heap_size_1_, fc__w_heap_size_1_, pc__w_heap_size_1_⟩ := c__w_heap_size_1_
    have ⟨hc__w_heap_size_1_1_, fc__w_heap_size_1_1_, pc__w_heap_size_1_1_⟩ := c__w_heap_size_1_1_
    have ⟨hc_e9, fc_e9, pc_e9⟩ := c_e9
    have h0c_e9 := (c_e9).at0
    have h1c_e9 := (c_e9).at1
    have ⟨hc_e11, fc_e11, pc_e11⟩ := c_e11
    have ⟨hc_e13, fc_e13, pc_e13⟩ := c_e13
    go_wp2_with (first
        | (go_at_call_of 16 ((#[.int .i64 k, .agg (nw 9 a), .agg (nw 9 b)] : Array Value)); refine (M1.out _).mono ?_; rintro e w' ⟨rfl, g3, rfl⟩)
        | (go_at_call 18; refine (num_any _ _).mono ?_; rintro e w' ⟨rfl, rfl⟩))
    go_meet
    exact ⟨_, rfl, rfl, G.trans (by repeat (first | exact Gr.refl _ | apply Gr.drewN | apply Gr.drew | apply Gr.alloc | apply Gr.gro)), c_w_heap_size.gr (by repeat (first | exact Gr.refl _ | apply Gr.drewN | apply Gr.drew | apply Gr.alloc | apply Gr.gro)), c__w_heap_size_1_.gr (by repeat (first | exact Gr.refl _ | apply Gr.drewN | apply Gr.drew | apply Gr.alloc | apply Gr.gro)), c__w_heap_size_1_1_.gr (by repeat (first | exact Gr.refl _ | apply Gr.drewN | apply Gr.drew | apply Gr.alloc | apply Gr.gro)), c_e9.gr (by repeat (first | exact Gr.refl _ | apply Gr.drewN | apply Gr.drew | apply Gr.alloc | apply Gr.gro)), c_e11.gr (by repeat (first | exact Gr.refl _ | apply Gr.drewN | apply Gr.drew | apply Gr.alloc | apply Gr.gro)), c_e13.gr (by repeat (first | exact Gr.refl _ | apply Gr.drewN | apply Gr.drew | apply Gr.alloc | apply Gr.gro)), ⟨by simp [go_sem], by simp [go_sem], by simp [go_sem]⟩, S_p.gr (by repeat (first | exact Gr.refl _ | apply Gr.drewN | apply Gr.drew | apply Gr.alloc | apply Gr.gro))⟩
  clear HV
  obtain ⟨e15, rfl, rfl, HV⟩ := hcut
  go_upto_region 5 with fail
  go_cut [17, 18] from 47 to 52 (fun a0 a1 wx => ∃ e17 : Nat, a0 = .pointer (some ⟨e17, 0, none⟩) ∧ a1 = .int .i64 0 ∧ Hid (Gr w wx ∧ Cl wx (w.heap.size) a ∧ Cl wx (w.heap.size + 1) b ∧ Clw wx (w.heap.size + 1 + 1) W ∧ Cv wx e9 k p (dl m) n q ∧ Cl wx e11 0 ∧ Cl wx e13 0 ∧ Cl wx e15 0 ∧ Cl wx e17 t ∧ Sl wx p m))
  case first =>
    have ⟨G, c_w_heap_size, c__w_heap_size_1_, c__w_heap_size_1_1_, c_e9, c_e11, c_e13, c_e15, S_p⟩ := HV.out
    have ⟨hc_w_heap_size, fc_w_heap_size, pc_w_heap_size⟩ := c_w_heap_size
    have ⟨hc__w_heap_size_1_, fc__w_heap_size_1_, pc__w_heap_size_1_⟩ := c__w_heap_size_1_
    have ⟨hc__w_heap_size_1_1_, fc__w_heap_size_1_1_, pc__w_heap_size_1_1_⟩ := c__w_heap_size_1_1_
    have ⟨hc_e9, fc_e9, pc_e9⟩ := c_e9
    have h0c_e9 := (c_e9).at0
    have h1c_e9 := (c_e9).at1
    have ⟨hc_e11, fc_e11, pc_e11⟩ := c_e11
    have ⟨hc_e13, fc_e13, pc_e13⟩ := c_e13
    have ⟨hc_e15, fc_e15, pc_e15⟩ := c_e15
    go_wp2_with (first
        | (go_at_call_of 17 ((#[.int .i64 k, .agg (nw 18 W)] : Array Value)); refine (R1.out _).mono ?_; rintro e w' ⟨rfl, g4, rfl⟩)
        | (go_at_call 18; refine (num_any _ _).mono ?_; rintro e w' ⟨rfl, rfl⟩))
    go_meet
    exact ⟨_, rfl, rfl, G.trans (by repeat (first | exact Gr.refl _ | apply Gr.drewN | apply Gr.drew | apply Gr.alloc | apply Gr.gro)), c_w_heap_size.gr (by repeat (first | exact Gr.refl _ | apply Gr.drewN | apply Gr.drew | apply Gr.alloc | apply Gr.gro)), c__w_heap_size_1_.gr (by repeat (first | exact Gr.refl _ | apply Gr.drewN | apply Gr.drew | apply Gr.alloc | apply Gr.gro)), c__w_heap_size_1_1_.gr (by repeat (first | exact Gr.refl _ | apply Gr.drewN | apply Gr.drew | apply Gr.alloc | apply Gr.gro)), c_e9.gr (by repeat (first | exact Gr.refl _ | apply Gr.drewN | apply Gr.drew | apply Gr.alloc | apply Gr.gro)), c_e11.gr (by repeat (first | exact Gr.refl _ | apply Gr.drewN | apply Gr.drew | apply Gr.alloc | apply Gr.gro)), c_e13.gr (by repeat (first | exact Gr.refl _ | apply Gr.drewN | apply Gr.drew | apply Gr.alloc | apply Gr.gro)), c_e15.gr (by repeat (first | exact Gr.refl _ | apply Gr.drewN | apply Gr.drew | apply Gr.alloc | apply Gr.gro)), ⟨by simp [go_sem], by simp [go_sem], by simp [go_sem]⟩, S_p.gr (by repeat (first | exact Gr.refl _ | apply Gr.drewN | apply Gr.drew | apply Gr.alloc | apply Gr.gro))⟩
  clear HV
  obtain ⟨e17, rfl, rfl, HV⟩ := hcut
  go_upto_region 8 with fail
  have ⟨G, c_w_heap_size, c__w_heap_size_1_, c__w_heap_size_1_1_, c_e9, c_e11, c_e13, c_e15, c_e17, S_p⟩ := HV.out
  refine wp_region_pred (by kernel_rfl) (by kernel_rfl) [.c (.int .i64 0), .c (.int .i64 0), .c (.bool false), .c (.bool false), .c (.agg (nw 9 t)), .c (.agg (nw 18 W)), .n (W), .c (.pointer (some ⟨e9, 1, none⟩)), .c (.slice p (dl m) n), .n (t), .c (.agg (nw 9 t)), .c (.bool false), .c (.bool false)] ?hs ?hf
  case hs =>
    intro listed vals a1 vA i o hg hR hF ho hd
    have Hc_w_heap_size : blk vA (w.heap.size) = nw 9 a := (hg.blk _ c_w_heap_size.p).trans c_w_heap_size.h
    have Hc__w_heap_size_1_ : blk vA (w.heap.size + 1) = nw 9 b := (hg.blk _ c__w_heap_size_1_.p).trans c__w_heap_size_1_.h
    have Hc__w_heap_size_1_1_ : blk vA (w.heap.size + 1 + 1) = nw 18 W := (hg.blk _ c__w_heap_size_1_1_.p).trans c__w_heap_size_1_1_.h
    have Hc_e9 : blk vA e9 = cvA k p (dl m) n q := (hg.blk _ c_e9.p).trans c_e9.h
    have Hc_e11 : blk vA e11 = nw 9 0 := (hg.blk _ c_e11.p).trans c_e11.h
    have Hc_e13 : blk vA e13 = nw 9 0 := (hg.blk _ c_e13.p).trans c_e13.h
    have Hc_e15 : blk vA e15 = nw 9 0 := (hg.blk _ c_e15.p).trans c_e15.h
    have Hc_e17 : blk vA e17 = nw 9 t := (hg.blk _ c_e17.p).trans c_e17.h
    have H1 : vA.cell? ⟨e9, 1, none⟩ = some (.slice p (dl m) n) := by rw [cell_blk, Hc_e9]; rfl
    have Sm : Sl vA p m := S_p.gr hg
    have hi : i < 13 := by simpa using (Array.getElem?_eq_some_iff.1 ho).1
    obtain rfl | rfl | rfl | rfl | rfl | rfl | rfl | rfl | rfl | rfl | rfl | rfl | rfl : i = 0 ∨ i = 1 ∨ i = 2 ∨ i = 3 ∨ i = 4 ∨ i = 5 ∨ i = 6 ∨ i = 7 ∨ i = 8 ∨ i = 9 ∨ i = 10 ∨ i = 11 ∨ i = 12 := by omega
    · obtain rfl := Option.some.inj ho
      have f0 := hF.old (s := 18) (v := .int .i64 0) (by kernel_rfl) rfl
      refine Or.inl ⟨wanted_no rfl, ?_⟩
      exact wp_val (.int .i64 0) (by simp [go_sem, f0]) ⟨_, rfl, Gr.refl _, rfl⟩
    · obtain rfl := Option.some.inj ho
      have l0 := on_of hd 0 (by kernel_rfl)
      have f0 := hF.at (s := 86) (i := 0) (by kernel_rfl) (by simp) l0
      rw [show vals 0 = .int .i64 0 from hR 0 l0] at f0
      refine Or.inl ⟨wanted_no rfl, ?_⟩
      exact wp_ret (.int .i64 0) (by simp [go_sem, f0]) (num5_gr _ _) (fun w2 hg2 => ⟨_, rfl, hg2, rfl⟩)
    · obtain rfl := Option.some.inj ho
      have l0 := on_of hd 1 (by kernel_rfl)
      have f0 := hF.at (s := 87) (i := 1) (by kernel_rfl) (by simp) l0
      rw [show vals 1 = .int .i64 0 from hR 1 l0] at f0
      refine Or.inl ⟨wanted_no rfl, ?_⟩
      exact wp_val (.bool false) (by simp [go_sem, f0]) ⟨_, rfl, Gr.refl _, rfl⟩
    · obtain rfl := Option.some.inj ho
      have l0 := on_of hd 2 (by kernel_rfl)
      have f0 := hF.at (s := 88) (i := 2) (by kernel_rfl) (by simp) l0
      rw [show vals 2 = .bool false from hR 2 l0] at f0
      refine Or.inl ⟨wanted_no rfl, ?_⟩
      exact wp_val (.bool false) (by simp [go_sem, f0]) ⟨_, rfl, Gr.refl _, rfl⟩
    · obtain rfl := Option.some.inj ho
      have lg := on_of hd 3 (by kernel_rfl)
      have fg := hF.at (s := 89) (i := 3) (by kernel_rfl) (by simp) lg
      rw [show vals 3 = .bool false from hR 3 lg] at fg
      have f0 := hF.old (s := 17) (v := .pointer (some ⟨e17, 0, none⟩)) (by kernel_rfl) rfl
      refine Or.inl ⟨wanted_at (j := 3) (s := 89) rfl rfl rfl fg, ?_⟩
      exact wp_val (.agg (nw 9 t)) (by simp [go_sem, f0, Hc_e17]) ⟨_, rfl, Gr.refl _, rfl⟩
    · obtain rfl := Option.some.inj ho
      have lg := on_of hd 3 (by kernel_rfl)
      have fg := hF.at (s := 89) (i := 3) (by kernel_rfl) (by simp) lg
      rw [show vals 3 = .bool false from hR 3 lg] at fg
      have f0 := hF.old (s := 7) (v := .pointer (some ⟨(w.heap.size + 1 + 1), 0, none⟩)) (by kernel_rfl) rfl
      refine Or.inl ⟨wanted_at (j := 3) (s := 89) rfl rfl rfl fg, ?_⟩
      exact wp_val (.agg (nw 18 W)) (by simp [go_sem, f0, Hc__w_heap_size_1_1_]) ⟨_, rfl, Gr.refl _, rfl⟩
    · obtain rfl := Option.some.inj ho
      have lg := on_of hd 3 (by kernel_rfl)
      have fg := hF.at (s := 89) (i := 3) (by kernel_rfl) (by simp) lg
      rw [show vals 3 = .bool false from hR 3 lg] at fg
      have l0 := on_of hd 5 (by kernel_rfl)
      have f0 := hF.at (s := 91) (i := 5) (by kernel_rfl) (by simp) l0
      rw [show vals 5 = .agg (nw 18 W) from hR 5 l0] at f0
      refine Or.inl ⟨wanted_at (j := 3) (s := 89) rfl rfl rfl fg, ?_⟩
      exact wp_retN (by simp [go_sem, f0]) (HOf.out _) (fun p n w2 hS hg2 => ⟨_, rfl, hg2, p, n, rfl, hS⟩)
    · obtain rfl := Option.some.inj ho
      have lg := on_of hd 3 (by kernel_rfl)
      have fg := hF.at (s := 89) (i := 3) (by kernel_rfl) (by simp) lg
      rw [show vals 3 = .bool false from hR 3 lg] at fg
      have f0 := hF.old (s := 9) (v := .pointer (some ⟨e9, 0, none⟩)) (by kernel_rfl) rfl
      refine Or.inl ⟨wanted_at (j := 3) (s := 89) rfl rfl rfl fg, ?_⟩
      exact wp_val (.pointer (some ⟨e9, 1, none⟩)) (by simp [go_sem, f0]) ⟨_, rfl, Gr.refl _, rfl⟩
    · obtain rfl := Option.some.inj ho
      have lg := on_of hd 3 (by kernel_rfl)
      have fg := hF.at (s := 89) (i := 3) (by kernel_rfl) (by simp) lg
      rw [show vals 3 = .bool false from hR 3 lg] at fg
      have l0 := on_of hd 7 (by kernel_rfl)
      have f0 := hF.at (s := 93) (i := 7) (by kernel_rfl) (by simp) l0
      rw [show vals 7 = .pointer (some ⟨e9, 1, none⟩) from hR 7 l0] at f0
      refine Or.inl ⟨wanted_at (j := 3) (s := 89) rfl rfl rfl fg, ?_⟩
      exact wp_val (.slice p (dl m) n) (by simp [go_sem, f0, H1]) ⟨_, rfl, Gr.refl _, rfl⟩
    · obtain rfl := Option.some.inj ho
      have lg := on_of hd 3 (by kernel_rfl)
      have fg := hF.at (s := 89) (i := 3) (by kernel_rfl) (by simp) lg
      rw [show vals 3 = .bool false from hR 3 lg] at fg
      have l0 := on_of hd 6 (by kernel_rfl)
      have f0 := hF.at (s := 92) (i := 6) (by kernel_rfl) (by simp) l0
      obtain ⟨p0, n0, e0, S0⟩ := (show ∃ p n, vals 6 = Value.slice p (dl (W)) n ∧ Sl vA p (W) from hR 6 l0)
      rw [e0] at f0
      have l1 := on_of hd 8 (by kernel_rfl)
      have f1 := hF.at (s := 94) (i := 8) (by kernel_rfl) (by simp) l1
      rw [show vals 8 = .slice p (dl m) n from hR 8 l1] at f1
      refine Or.inl ⟨wanted_at (j := 3) (s := 89) rfl rfl rfl fg, ?_⟩
      exact wp_retN (by simp [go_sem, f0, f1]) (HMd.out p n _ p0 n0 S0 Sm) (fun p n w2 hS hg2 => ⟨_, rfl, hg2, p, n, rfl, hS⟩)
    · obtain rfl := Option.some.inj ho
      have lg := on_of hd 3 (by kernel_rfl)
      have fg := hF.at (s := 89) (i := 3) (by kernel_rfl) (by simp) lg
      rw [show vals 3 = .bool false from hR 3 lg] at fg
      have l0 := on_of hd 9 (by kernel_rfl)
      have f0 := hF.at (s := 95) (i := 9) (by kernel_rfl) (by simp) l0
      obtain ⟨p0, n0, e0, S0⟩ := (show ∃ p n, vals 9 = Value.slice p (dl (t)) n ∧ Sl vA p (t) from hR 9 l0)
      rw [e0] at f0
      refine Or.inl ⟨wanted_at (j := 3) (s := 89) rfl rfl rfl fg, ?_⟩
      exact wp_ret (.agg (nw 9 t)) (by simp [go_sem, f0]) (HNt.out _ p0 n0 S0) (fun w2 hg2 => ⟨_, rfl, hg2, rfl⟩)
    · obtain rfl := Option.some.inj ho
      have lg := on_of hd 3 (by kernel_rfl)
      have fg := hF.at (s := 89) (i := 3) (by kernel_rfl) (by simp) lg
      rw [show vals 3 = .bool false from hR 3 lg] at fg
      have l0 := on_of hd 4 (by kernel_rfl)
      have f0 := hF.at (s := 90) (i := 4) (by kernel_rfl) (by simp) l0
      rw [show vals 4 = .agg (nw 9 t) from hR 4 l0] at f0
      have l1 := on_of hd 10 (by kernel_rfl)
      have f1 := hF.at (s := 96) (i := 10) (by kernel_rfl) (by simp) l1
      rw [show vals 10 = .agg (nw 9 t) from hR 10 l1] at f1
      refine Or.inl ⟨wanted_at (j := 3) (s := 89) rfl rfl rfl fg, ?_⟩
      exact wp_val (.bool false) (by simp [go_sem, f0, f1, eqN_self]) ⟨_, rfl, Gr.refl _, rfl⟩
    · obtain rfl := Option.some.inj ho
      have l0 := on_of hd 3 (by kernel_rfl)
      have f0 := hF.at (s := 89) (i := 3) (by kernel_rfl) (by simp) l0
      rw [show vals 3 = .bool false from hR 3 l0] at f0
      have l1 := on_of hd 11 (by kernel_rfl)
      have f1 := hF.at (s := 97) (i := 11) (by kernel_rfl) (by simp) l1
      rw [show vals 11 = .bool false from hR 11 l1] at f1
      refine Or.inl ⟨wanted_no rfl, ?_⟩
      exact wp_val (.bool false) (by simp [go_sem, f0, f1]) ⟨_, rfl, Gr.refl _, rfl⟩
  case hf =>
    intro vals vA hg hR
    have x0 : vals 0 = .int .i64 0 := hR 0 (by simp)
    have x1 : vals 1 = .int .i64 0 := hR 1 (by simp)
    have x2 : vals 2 = .bool false := hR 2 (by simp)
    have x3 : vals 3 = .bool false := hR 3 (by simp)
    have x4 : vals 4 = .agg (nw 9 t) := hR 4 (by simp)
    have x5 : vals 5 = .agg (nw 18 W) := hR 5 (by simp)
    obtain ⟨p6, n6, x6, S6⟩ := (show ∃ p n, vals 6 = Value.slice p (dl (W)) n ∧ Sl vA p (W) from hR 6 (by simp))
    have x7 : vals 7 = .pointer (some ⟨e9, 1, none⟩) := hR 7 (by simp)
    have x8 : vals 8 = .slice p (dl m) n := hR 8 (by simp)
    obtain ⟨p9, n9, x9, S9⟩ := (show ∃ p n, vals 9 = Value.slice p (dl (t)) n ∧ Sl vA p (t) from hR 9 (by simp))
    have x10 : vals 10 = .agg (nw 9 t) := hR 10 (by simp)
    have x11 : vals 11 = .bool false := hR 11 (by simp)
    have x12 : vals 12 = .bool false := hR 12 (by simp)
    simp only [putFrom, Act.put, List.setIfInBounds_toArray, List.set_cons_zero, List.set_cons_succ, x0, x1, x2, x3, x4, x5, x6, x7, x8, x9, x10, x11, x12]
    clear hR x0 x1 x2 x3 x4 x5 x6 x7 x8 x9 x10 x11 x12
    have HV : Hid (Gr w vA ∧ Cl vA (w.heap.size) a ∧ Cl vA (w.heap.size + 1) b ∧ Clw vA (w.heap.size + 1 + 1) W ∧ Cv vA e9 k p (dl m) n q ∧ Cl vA e11 0 ∧ Cl vA e13 0 ∧ Cl vA e15 0 ∧ Cl vA e17 t ∧ Sl vA p m) := ⟨G.trans hg, c_w_heap_size.gr hg, c__w_heap_size_1_.gr hg, c__w_heap_size_1_1_.gr hg, c_e9.gr hg, c_e11.gr hg, c_e13.gr hg, c_e15.gr hg, c_e17.gr hg, S_p.gr hg⟩
    clear hg
    go_upto_region 10 with fail
    have ⟨G, c_w_heap_size, c__w_heap_size_1_, c__w_heap_size_1_1_, c_e9, c_e11, c_e13, c_e15, c_e17, S_p⟩ := HV.out
    refine wp_region_pred (by kernel_rfl) (by kernel_rfl) [.c (.agg (nw 9 a)), .n (a), .c (.agg (nw 9 b)), .n (b), .n (a), .n (b)] ?hs ?hf
    case hs =>
      intro listed vals a1 vB i o hg hR hF ho hd
      have Hc_w_heap_size : blk vB (w.heap.size) = nw 9 a := (hg.blk _ c_w_heap_size.p).trans c_w_heap_size.h
      have Hc__w_heap_size_1_ : blk vB (w.heap.size + 1) = nw 9 b := (hg.blk _ c__w_heap_size_1_.p).trans c__w_heap_size_1_.h
      have Hc__w_heap_size_1_1_ : blk vB (w.heap.size + 1 + 1) = nw 18 W := (hg.blk _ c__w_heap_size_1_1_.p).trans c__w_heap_size_1_1_.h
      have Hc_e9 : blk vB e9 = cvA k p (dl m) n q := (hg.blk _ c_e9.p).trans c_e9.h
      have Hc_e11 : blk vB e11 = nw 9 0 := (hg.blk _ c_e11.p).trans c_e11.h
      have Hc_e13 : blk vB e13 = nw 9 0 := (hg.blk _ c_e13.p).trans c_e13.h
      have Hc_e15 : blk vB e15 = nw 9 0 := (hg.blk _ c_e15.p).trans c_e15.h
      have Hc_e17 : blk vB e17 = nw 9 t := (hg.blk _ c_e17.p).trans c_e17.h
      have H1 : vB.cell? ⟨e9, 1, none⟩ = some (.slice p (dl m) n) := by rw [cell_blk, Hc_e9]; rfl
      have Sm : Sl vB p m := S_p.gr hg
      have hi : i < 6 := by simpa using (Array.getElem?_eq_some_iff.1 ho).1
      obtain rfl | rfl | rfl | rfl | rfl | rfl : i = 0 ∨ i = 1 ∨ i = 2 ∨ i = 3 ∨ i = 4 ∨ i = 5 := by omega
      · obtain rfl := Option.some.inj ho
        have f0 := hF.old (s := 5) (v := .pointer (some ⟨w.heap.size, 0, none⟩)) (by kernel_rfl) rfl
        refine Or.inl ⟨wanted_no rfl, ?_⟩
        exact wp_val (.agg (nw 9 a)) (by simp [go_sem, f0, Hc_w_heap_size]) ⟨_, rfl, Gr.refl _, rfl⟩
      · obtain rfl := Option.some.inj ho
        have l0 := on_of hd 0 (by kernel_rfl)
        have f0 := hF.at (s := 99) (i := 0) (by kernel_rfl) (by simp) l0
        rw [show vals 0 = .agg (nw 9 a) from hR 0 l0] at f0
        refine Or.inl ⟨wanted_no rfl, ?_⟩
        exact wp_retN (by simp [go_sem, f0]) (HFa.out _) (fun p n w2 hS hg2 => ⟨_, rfl, hg2, p, n, rfl, hS⟩)
      · obtain rfl := Option.some.inj ho
        have f0 := hF.old (s := 6) (v := .pointer (some ⟨(w.heap.size + 1), 0, none⟩)) (by kernel_rfl) rfl
        refine Or.inl ⟨wanted_no rfl, ?_⟩
        exact wp_val (.agg (nw 9 b)) (by simp [go_sem, f0, Hc__w_heap_size_1_]) ⟨_, rfl, Gr.refl _, rfl⟩
      · obtain rfl := Option.some.inj ho
        have l0 := on_of hd 2 (by kernel_rfl)
        have f0 := hF.at (s := 101) (i := 2) (by kernel_rfl) (by simp) l0
        rw [show vals 2 = .agg (nw 9 b) from hR 2 l0] at f0
        refine Or.inl ⟨wanted_no rfl, ?_⟩
        exact wp_retN (by simp [go_sem, f0]) (HFb.out _) (fun p n w2 hS hg2 => ⟨_, rfl, hg2, p, n, rfl, hS⟩)
      · obtain rfl := Option.some.inj ho
        have l0 := on_of hd 1 (by kernel_rfl)
        have f0 := hF.at (s := 100) (i := 1) (by kernel_rfl) (by simp) l0
        obtain ⟨p0, n0, e0, S0⟩ := (show ∃ p n, vals 1 = Value.slice p (dl (a)) n ∧ Sl vB p (a) from hR 1 l0)
        rw [e0] at f0
        refine Or.inl ⟨wanted_no rfl, ?_⟩
        exact wp_val (.slice p0 (dl (a)) n0) (by simp [go_sem, f0]) ⟨_, rfl, Gr.refl _, _, _, rfl, S0⟩
      · obtain rfl := Option.some.inj ho
        have l0 := on_of hd 3 (by kernel_rfl)
        have f0 := hF.at (s := 102) (i := 3) (by kernel_rfl) (by simp) l0
        obtain ⟨p0, n0, e0, S0⟩ := (show ∃ p n, vals 3 = Value.slice p (dl (b)) n ∧ Sl vB p (b) from hR 3 l0)
        rw [e0] at f0
        refine Or.inl ⟨wanted_no rfl, ?_⟩
        exact wp_val (.slice p0 (dl (b)) n0) (by simp [go_sem, f0]) ⟨_, rfl, Gr.refl _, _, _, rfl, S0⟩
    case hf =>
      intro vals vB hg hR
      have x0 : vals 0 = .agg (nw 9 a) := hR 0 (by simp)
      obtain ⟨p1, n1, x1, S1⟩ := (show ∃ p n, vals 1 = Value.slice p (dl (a)) n ∧ Sl vB p (a) from hR 1 (by simp))
      have x2 : vals 2 = .agg (nw 9 b) := hR 2 (by simp)
      obtain ⟨p3, n3, x3, S3⟩ := (show ∃ p n, vals 3 = Value.slice p (dl (b)) n ∧ Sl vB p (b) from hR 3 (by simp))
      obtain ⟨p4, n4, x4, S4⟩ := (show ∃ p n, vals 4 = Value.slice p (dl (a)) n ∧ Sl vB p (a) from hR 4 (by simp))
      obtain ⟨p5, n5, x5, S5⟩ := (show ∃ p n, vals 5 = Value.slice p (dl (b)) n ∧ Sl vB p (b) from hR 5 (by simp))
      simp only [putFrom, Act.put, List.setIfInBounds_toArray, List.set_cons_zero, List.set_cons_succ, x0, x1, x2, x3, x4, x5]
      clear hR x0 x1 x2 x3 x4 x5
      have HV : Hid (Gr w vB ∧ Cl vB (w.heap.size) a ∧ Cl vB (w.heap.size + 1) b ∧ Clw vB (w.heap.size + 1 + 1) W ∧ Cv vB e9 k p (dl m) n q ∧ Cl vB e11 0 ∧ Cl vB e13 0 ∧ Cl vB e15 0 ∧ Cl vB e17 t ∧ Sl vB p m) := ⟨G.trans hg, c_w_heap_size.gr hg, c__w_heap_size_1_.gr hg, c__w_heap_size_1_1_.gr hg, c_e9.gr hg, c_e11.gr hg, c_e13.gr hg, c_e15.gr hg, c_e17.gr hg, S_p.gr hg⟩
      clear hg
      have SMB : Sl vB p m := by
        have ⟨G, c_w_heap_size, c__w_heap_size_1_, c__w_heap_size_1_1_, c_e9, c_e11, c_e13, c_e15, c_e17, S_p⟩ := HV.out
        exact S_p
      have HC1 : Hid (∀ w', Gr vB w' → Calls Try.prog 24 #[.slice p4 (dl a) n4, .slice p (dl m) n] w' fun e w'' => e = .returned (.int .i64 z1) ∧ Gr w' w'') := fun w' g => hz1 ▸ HCa.out p n w' p4 n4 (S4.gr g) (SMB.gr g)
      have HC2 : Hid (∀ w', Gr vB w' → Calls Try.prog 24 #[.slice p5 (dl b) n5, .slice p (dl m) n] w' fun e w'' => e = .returned (.int .i64 z2) ∧ Gr w' w'') := fun w' g => hz2 ▸ HCb.out p n w' p5 n5 (S5.gr g) (SMB.gr g)
      have ⟨G, c_w_heap_size, c__w_heap_size_1_, c__w_heap_size_1_1_, c_e9, c_e11, c_e13, c_e15, c_e17, S_p⟩ := HV.out
      have ⟨hc_w_heap_size, fc_w_heap_size, pc_w_heap_size⟩ := c_w_heap_size
      have ⟨hc__w_heap_size_1_, fc__w_heap_size_1_, pc__w_heap_size_1_⟩ := c__w_heap_size_1_
      have ⟨hc__w_heap_size_1_1_, fc__w_heap_size_1_1_, pc__w_heap_size_1_1_⟩ := c__w_heap_size_1_1_
      have ⟨hc_e9, fc_e9, pc_e9⟩ := c_e9
      have h0c_e9 := (c_e9).at0
      have h1c_e9 := (c_e9).at1
      have ⟨hc_e11, fc_e11, pc_e11⟩ := c_e11
      have ⟨hc_e13, fc_e13, pc_e13⟩ := c_e13
      have ⟨hc_e15, fc_e15, pc_e15⟩ := c_e15
      have ⟨hc_e17, fc_e17, pc_e17⟩ := c_e17
      go_upto_region 12 with (first | (go_at_call_of 24 ((#[.slice p4 (dl a) n4, .slice p (dl m) n] : Array Value)); refine (HC1.out _ ?_).mono ?_; exact (by repeat (first | exact Gr.refl _ | apply Gr.drewN | apply Gr.drew | apply Gr.alloc | apply Gr.gro)); rintro e w' ⟨rfl, gc1, rfl⟩) | (go_at_call_of 24 ((#[.slice p5 (dl b) n5, .slice p (dl m) n] : Array Value)); refine (HC2.out _ ?_).mono ?_; exact (by repeat (first | exact Gr.refl _ | apply Gr.drewN | apply Gr.drew | apply Gr.alloc | apply Gr.gro)); rintro e w' ⟨rfl, gc2, rfl⟩))
      go_wp2_with (first
          | (go_at_call_of 19 ((#[] : Array Value)); refine (AW.out _).mono ?_; rintro e w' ⟨rfl, g5, rfl⟩)
          | (go_at_call_of 14 ((#[.int .i64 k, .agg (nw 9 a), .agg (nw 9 b)] : Array Value)); refine (A1.out _).mono ?_; rintro e w' ⟨rfl, g6, rfl⟩)
          | (go_at_call_of 15 ((#[.int .i64 k, .agg (nw 9 a), .agg (nw 9 b)] : Array Value)); refine (D1.out _).mono ?_; rintro e w' ⟨rfl, g7, rfl⟩)
          | (go_at_call_of 16 ((#[.int .i64 k, .agg (nw 9 a), .agg (nw 9 b)] : Array Value)); refine (M1.out _).mono ?_; rintro e w' ⟨rfl, g8, rfl⟩)
          | (go_at_call_of 17 ((#[.int .i64 k, .agg (nw 18 W)] : Array Value)); refine (R1.out _).mono ?_; rintro e w' ⟨rfl, g9, rfl⟩)
          | (go_at_call 18; refine (num_any _ _).mono ?_; rintro e w' ⟨rfl, rfl⟩))
      go_ret
      refine ⟨rfl, ?_⟩
      repeat (first | exact G | apply Gr.drewN | apply Gr.drew | apply Gr.alloc | apply Gr.gro)

end Go.Proofs.Ytkmpholjlophpaa
