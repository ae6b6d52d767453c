/-
  The statement MontOnes, walked: it answers true for every two numbers.
-/
import Derived.Test.YtleckbdhebjfkaaZMtW
namespace Go.Proofs.Ytleckbdhebjfkaa
open Go.RowKit
attribute [local go_sem ↓] loadNat_is loadArr_is loadWide_is loadArrW_is storeNat_is storeWide_is
attribute [local go_sem] loadNat loadArr loadWide loadArrW storeNat storeWide idxArr fold9 fold18 nw_size nw_elem pre_self pre_1 pre_2 pre_3 pre_4 pre_5 pre_6 pre_7 pre_8 pre_9 pre_10 pre_11 pre_12 pre_13 pre_14 pre_15 pre_16 pre_17 pre_18 pre_19 pre_20 pre_21 pre_22 pre_23 pre_24 pre_25 pre_26 pre_27 pre_28 pre_29 pre_30 pre_31 pre_32 pre_33 pre_34 pre_35 pre_36 pre_37 pre_38 pre_39 pre_40 gro_size gro_drew gro_drewN drew_gro drewN_gro gro_gro blk_gro frz_gro blk_drew frz_drew blk_drewN frz_drewN blk_alloc_at frz_alloc_at blk_alloc frz_alloc cell_gro frozen_gro cell_alloc_pre frozen_alloc_pre setCell_drewN alloc_drewN setBlk_drew setBlk_drewN setBlk_alloc_at setBlk_alloc setBlk_gro setCell_gro setCell_alloc_pre size_setBlk size_setCell
attribute [local go_sem] nw_ext9 nw_ext18 eqArr9 eqArr18

attribute [local go_sem] loadNat2 loadArr2 loadWide2 loadK_nw ppre_1 ppre_2 ppre_3 ppre_4 ppre_5 ppre_6 ppre_7 ppre_8 ppre_9 ppre_10 ppre_11 ppre_12 ppre_13 ppre_14 ppre_15 ppre_16 ppre_17 ppre_18 ppre_19 ppre_20

attribute [local go_sem ↓] Go.wp_at_zero Go.wp_at_succ
attribute [local go_sem] eqN_self frz_setBlk blk_setBlk setBlk_setBlk blk_other
set_option maxRecDepth 100000 in
set_option maxHeartbeats 4000000 in
theorem mones_some (m a : Nat) (ha : a < M) (w : World) (y0 O k u : Nat) (hor : bits BinOp.or IntKind.u64 ((wd m 0 : Nat) : Int) 3 = (y0 : Int)) (hset : (nw 9 m).setIfInBounds 0 (.int .u64 (y0 : Int)) = nw 9 O) (ho3 : 3 ≤ O) (hOM : O < M)
    (ho : Mo O k u) (HN0 : ∀ w, Calls Try.prog 8 #[.agg (nw 9 O)] w fun e w' => ∃ b, e = .returned (.tuple #[.pointer (some ⟨b, 0, none⟩), .int .i64 0]) ∧ Mn w' b O k u ∧ Gr w w')
    (hgc : Nat.gcd O (a % O) = 1) :
    Calls Try.prog 5 #[.agg (nw 9 m), .agg (nw 9 a)] w fun e w' => e = .returned (.bool true) ∧ Gr w w' := by
  have hg0 := nw_get 9 m 0 (by decide)
  obtain ⟨d, hd⟩ : ∃ d, a / O = d := ⟨_, rfl⟩
  obtain ⟨r0, hr⟩ : ∃ r, a % O = r := ⟨_, rfl⟩
  have hrm : r0 < O := by rw [← hr]; exact Nat.mod_lt _ (by omega)
  obtain ⟨t, ht⟩ : ∃ t, 1 * pw k % O = t := ⟨_, rfl⟩
  have htm : t < O := by rw [← ht]; exact Nat.mod_lt _ (by omega)
  have hM1 : r0 * t * u % O = r0 := by rw [← ht]; exact ho.one r0 hrm
  have hF1 : t * u % O = 1 := by rw [← ht]; exact ho.back 1 (by omega)
  obtain ⟨x, hxm, hx1, hI⟩ := inv_some r0 O (by omega) (by omega) hOM (hr ▸ hgc)
  obtain ⟨y, hy⟩ : ∃ y, x * pw k % O * pw k % O = y := ⟨_, rfl⟩
  have hym : y < O := by rw [← hy]; exact Nat.mod_lt _ (by omega)
  have hM2 : r0 * y * u % O = t := by rw [← hy, ← ht]; exact ho.inv1 r0 x hx1
  have O1 : Hid (∀ w', Calls Try.prog 26 #[.int .u64 1] w' fun e w'' => e = .returned (.agg (nw 9 1)) ∧ Gr w' w'') := fun w => one_any 1 (by decide) w
  have DV : Hid (∀ w', Calls Try.prog 25 #[.agg (nw 9 a), .agg (nw 9 O)] w' fun e w'' => e = .returned (.tuple #[.agg (nw 9 d), .agg (nw 9 r0), .int .i64 0]) ∧ Gr w' w'') := fun w => hd ▸ hr ▸ div_any a O ha (by omega) hOM w
  have T1 : Hid (∀ (b : Nat) w', Mn w' b O k u → Calls Try.prog 15 #[.pointer (some ⟨b, 0, none⟩), .agg (nw 9 1)] w' fun e w'' => e = .returned (.tuple #[.agg (nw 9 t), .int .i64 0]) ∧ Gr w' w'') := fun b w' h => ht ▸ To_ok b O k u 1 w' h (by omega)
  have M1 : Hid (∀ (b : Nat) w', Mn w' b O k u → Calls Try.prog 17 #[.pointer (some ⟨b, 0, none⟩), .agg (nw 9 r0), .agg (nw 9 t)] w' fun e w'' => e = .returned (.tuple #[.agg (nw 9 r0), .int .i64 0]) ∧ Gr w' w'') := fun b w' h => by
    have := Mul_ok b O k u r0 t w' h ⟨hrm, htm⟩
    rw [hM1] at this
    exact this
  have F1 : Hid (∀ (b : Nat) w', Mn w' b O k u → Calls Try.prog 16 #[.pointer (some ⟨b, 0, none⟩), .agg (nw 9 t)] w' fun e w'' => e = .returned (.tuple #[.agg (nw 9 1), .int .i64 0]) ∧ Gr w' w'') := fun b w' h => by
    have := From_ok b O k u t w' h htm
    rw [hF1] at this
    exact this
  have IV : Hid (∀ w', Calls Try.prog 27 #[.agg (nw 9 r0), .agg (nw 9 O)] w' fun e w'' => e = .returned (.tuple #[.agg (nw 9 x), .int .i64 0]) ∧ Gr w' w'') := hI
  have I1 : Hid (∀ (b : Nat) w', Mn w' b O k u → Calls Try.prog 18 #[.pointer (some ⟨b, 0, none⟩), .agg (nw 9 r0)] w' fun e w'' => e = .returned (.tuple #[.agg (nw 9 y), .int .i64 0]) ∧ Gr w' w'') := fun b w' h => hy ▸ Inv_ok b O k u r0 w' h x hxm hI hrm
  have M2 : Hid (∀ (b : Nat) w', Mn w' b O k u → Calls Try.prog 17 #[.pointer (some ⟨b, 0, none⟩), .agg (nw 9 r0), .agg (nw 9 y)] w' fun e w'' => e = .returned (.tuple #[.agg (nw 9 t), .int .i64 0]) ∧ Gr w' w'') := fun b w' h => by
    have := Mul_ok b O k u r0 y w' h ⟨hrm, hym⟩
    rw [hM2] at this
    exact this
  have HN : Hid (∀ w, Calls Try.prog 8 #[.agg (nw 9 O)] w fun e w' => ∃ b, e = .returned (.tuple #[.pointer (some ⟨b, 0, none⟩), .int .i64 0]) ∧ Mn w' b O k u ∧ Gr w w') := HN0
  clear HN0 hgc hM1 hF1 htm hrm ht hr hd hxm hx1 hI hy hym hM2 ho hOM ho3 ha
  go_enter Try.func5, Try.ntmps5
  go_upto_region 3 with (go_at_call 13; refine (awake6_any _).mono ?_; rintro e w' ⟨rfl, gaw, rfl⟩)
  refine gen_w (fun v => Hid (Gr w v ∧ Cl v (w.heap.size) m ∧ Cl v (w.heap.size + 1) a)) ⟨(by repeat (first | exact Gr.refl _ | apply Gr.drewN | apply Gr.drew | apply Gr.alloc | apply Gr.gro)), ⟨by simp [go_sem], by simp [go_sem], by simp [go_sem]⟩, ⟨by simp [go_sem], by simp [go_sem], by simp [go_sem]⟩⟩ ?_
  intro v0 HV
  have ⟨G, c_w_heap_size, c__w_heap_size_1_⟩ := HV.out
  have ⟨hc_w_heap_size, fc_w_heap_size, pc_w_heap_size⟩ := c_w_heap_size
  have ⟨hc__w_heap_size_1_, fc__w_heap_size_1_, pc__w_heap_size_1_⟩ := c__w_heap_size_1_
  go_upto_region 5 with fail
  obtain ⟨e5, he5⟩ : ∃ x, v0.heap.size = x := ⟨_, rfl⟩
  rw [he5]
  refine gen_w (fun v => Hid (Gr w v ∧ Cl v (w.heap.size) m ∧ Cl v (w.heap.size + 1) a ∧ Cl v e5 O)) ⟨G.trans (by repeat (first | exact Gr.refl _ | apply Gr.drewN | apply Gr.drew | apply Gr.alloc | apply Gr.gro)), c_w_heap_size.gr (by repeat (first | exact Gr.refl _ | apply Gr.drewN | apply Gr.drew | apply Gr.alloc | apply Gr.gro)), c__w_heap_size_1_.gr (by repeat (first | exact Gr.refl _ | apply Gr.drewN | apply Gr.drew | apply Gr.alloc | apply Gr.gro)), he5 ▸ ⟨by simp [go_sem], by simp [go_sem], by simp [go_sem]⟩⟩ ?_
  clear HV G c_w_heap_size c__w_heap_size_1_ he5
  intro v1 HV
  go_cut [6, 7] from 32 to 36 (fun a0 a1 wx => ∃ bx : Nat, a0 = .pointer (some ⟨bx, 0, none⟩) ∧ a1 = .int .i64 0 ∧ Hid (Gr w wx ∧ Cl wx (w.heap.size) m ∧ Cl wx (w.heap.size + 1) a ∧ Cl wx e5 O ∧ Mn wx bx O k u))
  case first =>
    have ⟨G, c_w_heap_size, c__w_heap_size_1_, c_e5⟩ := HV.out
    have ⟨hc_w_heap_size, fc_w_heap_size, pc_w_heap_size⟩ := c_w_heap_size
    have ⟨hc__w_heap_size_1_, fc__w_heap_size_1_, pc__w_heap_size_1_⟩ := c__w_heap_size_1_
    have ⟨hc_e5, fc_e5, pc_e5⟩ := c_e5
    go_wp2_with (go_at_call 8; refine (HN.out _).mono ?_; rintro e W1 ⟨bx, rfl, S1, G1⟩)
    go_meet
    exact ⟨bx, rfl, rfl, G.trans ((Gr.trans (by repeat (first | exact Gr.refl _ | apply Gr.drewN | apply Gr.drew | apply Gr.alloc | apply Gr.gro)) G1).trans (by repeat (first | exact Gr.refl _ | apply Gr.drewN | apply Gr.drew | apply Gr.alloc | apply Gr.gro))), c_w_heap_size.gr ((Gr.trans (by repeat (first | exact Gr.refl _ | apply Gr.drewN | apply Gr.drew | apply Gr.alloc | apply Gr.gro)) G1).trans (by repeat (first | exact Gr.refl _ | apply Gr.drewN | apply Gr.drew | apply Gr.alloc | apply Gr.gro))), c__w_heap_size_1_.gr ((Gr.trans (by repeat (first | exact Gr.refl _ | apply Gr.drewN | apply Gr.drew | apply Gr.alloc | apply Gr.gro)) G1).trans (by repeat (first | exact Gr.refl _ | apply Gr.drewN | apply Gr.drew | apply Gr.alloc | apply Gr.gro))), c_e5.gr ((Gr.trans (by repeat (first | exact Gr.refl _ | apply Gr.drewN | apply Gr.drew | apply Gr.alloc | apply Gr.gro)) G1).trans (by repeat (first | exact Gr.refl _ | apply Gr.drewN | apply Gr.drew | apply Gr.alloc | apply Gr.gro))), S1.gr (by repeat (first | exact Gr.refl _ | apply Gr.drewN | apply Gr.drew | apply Gr.alloc | apply Gr.gro))⟩
  clear HV
  obtain ⟨bx, rfl, rfl, HV⟩ := hcut
  have ⟨G, c_w_heap_size, c__w_heap_size_1_, c_e5, S_x⟩ := HV.out
  have ⟨hc_w_heap_size, fc_w_heap_size, pc_w_heap_size⟩ := c_w_heap_size
  have ⟨hc__w_heap_size_1_, fc__w_heap_size_1_, pc__w_heap_size_1_⟩ := c__w_heap_size_1_
  have ⟨hc_e5, fc_e5, pc_e5⟩ := c_e5
  go_upto_region 8 with (first
      | (go_at_call 12; refine (num_any _ _).mono ?_; rintro e w' ⟨rfl, rfl⟩))
  refine gen_w (fun v => Hid (Gr w v ∧ Cl v (w.heap.size) m ∧ Cl v (w.heap.size + 1) a ∧ Cl v e5 O ∧ Mn v bx O k u)) ⟨G.trans (by repeat (first | exact Gr.refl _ | apply Gr.drewN | apply Gr.drew | apply Gr.alloc | apply Gr.gro)), c_w_heap_size.gr (by repeat (first | exact Gr.refl _ | apply Gr.drewN | apply Gr.drew | apply Gr.alloc | apply Gr.gro)), c__w_heap_size_1_.gr (by repeat (first | exact Gr.refl _ | apply Gr.drewN | apply Gr.drew | apply Gr.alloc | apply Gr.gro)), c_e5.gr (by repeat (first | exact Gr.refl _ | apply Gr.drewN | apply Gr.drew | apply Gr.alloc | apply Gr.gro)), S_x.gr (by repeat (first | exact Gr.refl _ | apply Gr.drewN | apply Gr.drew | apply Gr.alloc | apply Gr.gro))⟩ ?_
  clear HV G c_w_heap_size c__w_heap_size_1_ c_e5 S_x
  intro v2 HV
  go_cut [8, 9, 10] from 40 to 46 (fun a0 a1 a2 wx => ∃ e8 e9 : Nat, a0 = .pointer (some ⟨e8, 0, none⟩) ∧ a1 = .pointer (some ⟨e9, 0, none⟩) ∧ a2 = .int .i64 0 ∧ Hid (Gr w wx ∧ Cl wx (w.heap.size) m ∧ Cl wx (w.heap.size + 1) a ∧ Cl wx e5 O ∧ Cl wx e8 d ∧ Cl wx e9 r0 ∧ Mn wx bx O k u))
  case first =>
    have ⟨G, c_w_heap_size, c__w_heap_size_1_, c_e5, S_x⟩ := HV.out
    have ⟨hc_w_heap_size, fc_w_heap_size, pc_w_heap_size⟩ := c_w_heap_size
    have ⟨hc__w_heap_size_1_, fc__w_heap_size_1_, pc__w_heap_size_1_⟩ := c__w_heap_size_1_
    have ⟨hc_e5, fc_e5, pc_e5⟩ := c_e5
    go_wp2_with (first
        | (go_at_call_of 25 ((#[.agg (nw 9 a), .agg (nw 9 O)] : Array Value)); refine (DV.out _).mono ?_; rintro e w' ⟨rfl, g1, rfl⟩)
        | (go_at_call 12; refine (num_any _ _).mono ?_; rintro e w' ⟨rfl, rfl⟩))
    go_meet
    exact ⟨_, _, rfl, rfl, rfl, G.trans (by repeat (first | exact Gr.refl _ | apply Gr.drewN | apply Gr.drew | apply Gr.alloc | apply Gr.gro)), c_w_heap_size.gr (by repeat (first | exact Gr.refl _ | apply Gr.drewN | apply Gr.drew | apply Gr.alloc | apply Gr.gro)), c__w_heap_size_1_.gr (by repeat (first | exact Gr.refl _ | apply Gr.drewN | apply Gr.drew | apply Gr.alloc | apply Gr.gro)), c_e5.gr (by repeat (first | exact Gr.refl _ | apply Gr.drewN | apply Gr.drew | apply Gr.alloc | apply Gr.gro)), ⟨by simp [go_sem], by simp [go_sem], by simp [go_sem]⟩, ⟨by simp [go_sem], by simp [go_sem], by simp [go_sem]⟩, S_x.gr (by repeat (first | exact Gr.refl _ | apply Gr.drewN | apply Gr.drew | apply Gr.alloc | apply Gr.gro))⟩
  clear HV
  obtain ⟨e8, e9, rfl, rfl, rfl, HV⟩ := hcut
  go_upto_region 9 with fail
  go_cut [11, 12] from 47 to 52 (fun a0 a1 wx => ∃ e11 : Nat, a0 = .pointer (some ⟨e11, 0, none⟩) ∧ a1 = .int .i64 0 ∧ Hid (Gr w wx ∧ Cl wx (w.heap.size) m ∧ Cl wx (w.heap.size + 1) a ∧ Cl wx e5 O ∧ Cl wx e8 d ∧ Cl wx e9 r0 ∧ Cl wx e11 t ∧ Mn wx bx O k u))
  case first =>
    have ⟨G, c_w_heap_size, c__w_heap_size_1_, c_e5, c_e8, c_e9, S_x⟩ := HV.out
    have ⟨hc_w_heap_size, fc_w_heap_size, pc_w_heap_size⟩ := c_w_heap_size
    have ⟨hc__w_heap_size_1_, fc__w_heap_size_1_, pc__w_heap_size_1_⟩ := c__w_heap_size_1_
    have ⟨hc_e5, fc_e5, pc_e5⟩ := c_e5
    have ⟨hc_e8, fc_e8, pc_e8⟩ := c_e8
    have ⟨hc_e9, fc_e9, pc_e9⟩ := c_e9
    go_wp2_with (first
        | (go_at_call_of 26 ((#[.int .u64 1] : Array Value)); refine (O1.out _).mono ?_; rintro e w' ⟨rfl, g2, rfl⟩)
        | (go_at_call_of 15 ((#[.pointer (some ⟨bx, 0, none⟩), .agg (nw 9 1)] : Array Value)); refine (T1.out bx _ (S_x.gr (by repeat (first | exact Gr.refl _ | apply Gr.drewN | apply Gr.drew | apply Gr.alloc | apply Gr.gro)))).mono ?_; rintro e w' ⟨rfl, g3, rfl⟩)
        | (go_at_call 12; refine (num_any _ _).mono ?_; rintro e w' ⟨rfl, rfl⟩))
    go_meet
    exact ⟨_, rfl, rfl, G.trans (by repeat (first | exact Gr.refl _ | apply Gr.drewN | apply Gr.drew | apply Gr.alloc | apply Gr.gro)), c_w_heap_size.gr (by repeat (first | exact Gr.refl _ | apply Gr.drewN | apply Gr.drew | apply Gr.alloc | apply Gr.gro)), c__w_heap_size_1_.gr (by repeat (first | exact Gr.refl _ | apply Gr.drewN | apply Gr.drew | apply Gr.alloc | apply Gr.gro)), c_e5.gr (by repeat (first | exact Gr.refl _ | apply Gr.drewN | apply Gr.drew | apply Gr.alloc | apply Gr.gro)), c_e8.gr (by repeat (first | exact Gr.refl _ | apply Gr.drewN | apply Gr.drew | apply Gr.alloc | apply Gr.gro)), c_e9.gr (by repeat (first | exact Gr.refl _ | apply Gr.drewN | apply Gr.drew | apply Gr.alloc | apply Gr.gro)), ⟨by simp [go_sem], by simp [go_sem], by simp [go_sem]⟩, S_x.gr (by repeat (first | exact Gr.refl _ | apply Gr.drewN | apply Gr.drew | apply Gr.alloc | apply Gr.gro))⟩
  clear HV
  obtain ⟨e11, rfl, rfl, HV⟩ := hcut
  go_upto_region 10 with fail
  go_cut [13, 14] from 53 to 59 (fun a0 a1 wx => ∃ e13 : Nat, a0 = .pointer (some ⟨e13, 0, none⟩) ∧ a1 = .int .i64 0 ∧ Hid (Gr w wx ∧ Cl wx (w.heap.size) m ∧ Cl wx (w.heap.size + 1) a ∧ Cl wx e5 O ∧ Cl wx e8 d ∧ Cl wx e9 r0 ∧ Cl wx e11 t ∧ Cl wx e13 r0 ∧ Mn wx bx O k u))
  case first =>
    have ⟨G, c_w_heap_size, c__w_heap_size_1_, c_e5, c_e8, c_e9, c_e11, S_x⟩ := HV.out
    have ⟨hc_w_heap_size, fc_w_heap_size, pc_w_heap_size⟩ := c_w_heap_size
    have ⟨hc__w_heap_size_1_, fc__w_heap_size_1_, pc__w_heap_size_1_⟩ := c__w_heap_size_1_
    have ⟨hc_e5, fc_e5, pc_e5⟩ := c_e5
    have ⟨hc_e8, fc_e8, pc_e8⟩ := c_e8
    have ⟨hc_e9, fc_e9, pc_e9⟩ := c_e9
    have ⟨hc_e11, fc_e11, pc_e11⟩ := c_e11
    go_wp2_with (first
        | (go_at_call_of 17 ((#[.pointer (some ⟨bx, 0, none⟩), .agg (nw 9 r0), .agg (nw 9 t)] : Array Value)); refine (M1.out bx _ (S_x.gr (by repeat (first | exact Gr.refl _ | apply Gr.drewN | apply Gr.drew | apply Gr.alloc | apply Gr.gro)))).mono ?_; rintro e w' ⟨rfl, g4, rfl⟩)
        | (go_at_call 12; refine (num_any _ _).mono ?_; rintro e w' ⟨rfl, rfl⟩))
    go_meet
    exact ⟨_, rfl, rfl, G.trans (by repeat (first | exact Gr.refl _ | apply Gr.drewN | apply Gr.drew | apply Gr.alloc | apply Gr.gro)), c_w_heap_size.gr (by repeat (first | exact Gr.refl _ | apply Gr.drewN | apply Gr.drew | apply Gr.alloc | apply Gr.gro)), c__w_heap_size_1_.gr (by repeat (first | exact Gr.refl _ | apply Gr.drewN | apply Gr.drew | apply Gr.alloc | apply Gr.gro)), c_e5.gr (by repeat (first | exact Gr.refl _ | apply Gr.drewN | apply Gr.drew | apply Gr.alloc | apply Gr.gro)), c_e8.gr (by repeat (first | exact Gr.refl _ | apply Gr.drewN | apply Gr.drew | apply Gr.alloc | apply Gr.gro)), c_e9.gr (by repeat (first | exact Gr.refl _ | apply Gr.drewN | apply Gr.drew | apply Gr.alloc | apply Gr.gro)), c_e11.gr (by repeat (first | exact Gr.refl _ | apply Gr.drewN | apply Gr.drew | apply Gr.alloc | apply Gr.gro)), ⟨by simp [go_sem], by simp [go_sem], by simp [go_sem]⟩, S_x.gr (by repeat (first | exact Gr.refl _ | apply Gr.drewN | apply Gr.drew | apply Gr.alloc | apply Gr.gro))⟩
  clear HV
  obtain ⟨e13, rfl, rfl, HV⟩ := hcut
  go_upto_region 11 with fail
  go_cut [15, 16] from 60 to 65 (fun a0 a1 wx => ∃ e15 : Nat, a0 = .pointer (some ⟨e15, 0, none⟩) ∧ a1 = .int .i64 0 ∧ Hid (Gr w wx ∧ Cl wx (w.heap.size) m ∧ Cl wx (w.heap.size + 1) a ∧ Cl wx e5 O ∧ Cl wx e8 d ∧ Cl wx e9 r0 ∧ Cl wx e11 t ∧ Cl wx e13 r0 ∧ Cl wx e15 1 ∧ Mn wx bx O k u))
  case first =>
    have ⟨G, c_w_heap_size, c__w_heap_size_1_, c_e5, c_e8, c_e9, c_e11, c_e13, S_x⟩ := HV.out
    have ⟨hc_w_heap_size, fc_w_heap_size, pc_w_heap_size⟩ := c_w_heap_size
    have ⟨hc__w_heap_size_1_, fc__w_heap_size_1_, pc__w_heap_size_1_⟩ := c__w_heap_size_1_
    have ⟨hc_e5, fc_e5, pc_e5⟩ := c_e5
    have ⟨hc_e8, fc_e8, pc_e8⟩ := c_e8
    have ⟨hc_e9, fc_e9, pc_e9⟩ := c_e9
    have ⟨hc_e11, fc_e11, pc_e11⟩ := c_e11
    have ⟨hc_e13, fc_e13, pc_e13⟩ := c_e13
    go_wp2_with (first
        | (go_at_call_of 16 ((#[.pointer (some ⟨bx, 0, none⟩), .agg (nw 9 t)] : Array Value)); refine (F1.out bx _ (S_x.gr (by repeat (first | exact Gr.refl _ | apply Gr.drewN | apply Gr.drew | apply Gr.alloc | apply Gr.gro)))).mono ?_; rintro e w' ⟨rfl, g5, rfl⟩)
        | (go_at_call 12; refine (num_any _ _).mono ?_; rintro e w' ⟨rfl, rfl⟩))
    go_meet
    exact ⟨_, rfl, rfl, G.trans (by repeat (first | exact Gr.refl _ | apply Gr.drewN | apply Gr.drew | apply Gr.alloc | apply Gr.gro)), c_w_heap_size.gr (by repeat (first | exact Gr.refl _ | apply Gr.drewN | apply Gr.drew | apply Gr.alloc | apply Gr.gro)), c__w_heap_size_1_.gr (by repeat (first | exact Gr.refl _ | apply Gr.drewN | apply Gr.drew | apply Gr.alloc | apply Gr.gro)), c_e5.gr (by repeat (first | exact Gr.refl _ | apply Gr.drewN | apply Gr.drew | apply Gr.alloc | apply Gr.gro)), c_e8.gr (by repeat (first | exact Gr.refl _ | apply Gr.drewN | apply Gr.drew | apply Gr.alloc | apply Gr.gro)), c_e9.gr (by repeat (first | exact Gr.refl _ | apply Gr.drewN | apply Gr.drew | apply Gr.alloc | apply Gr.gro)), c_e11.gr (by repeat (first | exact Gr.refl _ | apply Gr.drewN | apply Gr.drew | apply Gr.alloc | apply Gr.gro)), c_e13.gr (by repeat (first | exact Gr.refl _ | apply Gr.drewN | apply Gr.drew | apply Gr.alloc | apply Gr.gro)), ⟨by simp [go_sem], by simp [go_sem], by simp [go_sem]⟩, S_x.gr (by repeat (first | exact Gr.refl _ | apply Gr.drewN | apply Gr.drew | apply Gr.alloc | apply Gr.gro))⟩
  clear HV
  obtain ⟨e15, rfl, rfl, HV⟩ := hcut
  go_upto_region 12 with fail
  go_cut [17, 18] from 66 to 71 (fun a0 a1 wx => ∃ e17 : Nat, a0 = .pointer (some ⟨e17, 0, none⟩) ∧ a1 = .int .i64 0 ∧ Hid (Gr w wx ∧ Cl wx (w.heap.size) m ∧ Cl wx (w.heap.size + 1) a ∧ Cl wx e5 O ∧ Cl wx e8 d ∧ Cl wx e9 r0 ∧ Cl wx e11 t ∧ Cl wx e13 r0 ∧ Cl wx e15 1 ∧ Cl wx e17 y ∧ Mn wx bx O k u))
  case first =>
    have ⟨G, c_w_heap_size, c__w_heap_size_1_, c_e5, c_e8, c_e9, c_e11, c_e13, c_e15, S_x⟩ := HV.out
    have ⟨hc_w_heap_size, fc_w_heap_size, pc_w_heap_size⟩ := c_w_heap_size
    have ⟨hc__w_heap_size_1_, fc__w_heap_size_1_, pc__w_heap_size_1_⟩ := c__w_heap_size_1_
    have ⟨hc_e5, fc_e5, pc_e5⟩ := c_e5
    have ⟨hc_e8, fc_e8, pc_e8⟩ := c_e8
    have ⟨hc_e9, fc_e9, pc_e9⟩ := c_e9
    have ⟨hc_e11, fc_e11, pc_e11⟩ := c_e11
    have ⟨hc_e13, fc_e13, pc_e13⟩ := c_e13
    have ⟨hc_e15, fc_e15, pc_e15⟩ := c_e15
    go_wp2_with (first
        | (go_at_call_of 18 ((#[.pointer (some ⟨bx, 0, none⟩), .agg (nw 9 r0)] : Array Value)); refine (I1.out bx _ (S_x.gr (by repeat (first | exact Gr.refl _ | apply Gr.drewN | apply Gr.drew | apply Gr.alloc | apply Gr.gro)))).mono ?_; rintro e w' ⟨rfl, g6, rfl⟩)
        | (go_at_call 12; refine (num_any _ _).mono ?_; rintro e w' ⟨rfl, rfl⟩))
    go_meet
    exact ⟨_, rfl, rfl, G.trans (by repeat (first | exact Gr.refl _ | apply Gr.drewN | apply Gr.drew | apply Gr.alloc | apply Gr.gro)), c_w_heap_size.gr (by repeat (first | exact Gr.refl _ | apply Gr.drewN | apply Gr.drew | apply Gr.alloc | apply Gr.gro)), c__w_heap_size_1_.gr (by repeat (first | exact Gr.refl _ | apply Gr.drewN | apply Gr.drew | apply Gr.alloc | apply Gr.gro)), c_e5.gr (by repeat (first | exact Gr.refl _ | apply Gr.drewN | apply Gr.drew | apply Gr.alloc | apply Gr.gro)), c_e8.gr (by repeat (first | exact Gr.refl _ | apply Gr.drewN | apply Gr.drew | apply Gr.alloc | apply Gr.gro)), c_e9.gr (by repeat (first | exact Gr.refl _ | apply Gr.drewN | apply Gr.drew | apply Gr.alloc | apply Gr.gro)), c_e11.gr (by repeat (first | exact Gr.refl _ | apply Gr.drewN | apply Gr.drew | apply Gr.alloc | apply Gr.gro)), c_e13.gr (by repeat (first | exact Gr.refl _ | apply Gr.drewN | apply Gr.drew | apply Gr.alloc | apply Gr.gro)), c_e15.gr (by repeat (first | exact Gr.refl _ | apply Gr.drewN | apply Gr.drew | apply Gr.alloc | apply Gr.gro)), ⟨by simp [go_sem], by simp [go_sem], by simp [go_sem]⟩, S_x.gr (by repeat (first | exact Gr.refl _ | apply Gr.drewN | apply Gr.drew | apply Gr.alloc | apply Gr.gro))⟩
  clear HV
  obtain ⟨e17, rfl, rfl, HV⟩ := hcut
  go_upto_region 13 with fail
  go_cut [19, 20] from 72 to 78 (fun a0 a1 wx => ∃ e19 : Nat, a0 = .pointer (some ⟨e19, 0, none⟩) ∧ a1 = .int .i64 0 ∧ Hid (Gr w wx ∧ Cl wx (w.heap.size) m ∧ Cl wx (w.heap.size + 1) a ∧ Cl wx e5 O ∧ Cl wx e8 d ∧ Cl wx e9 r0 ∧ Cl wx e11 t ∧ Cl wx e13 r0 ∧ Cl wx e15 1 ∧ Cl wx e17 y ∧ Cl wx e19 t ∧ Mn wx bx O k u))
  case first =>
    have ⟨G, c_w_heap_size, c__w_heap_size_1_, c_e5, c_e8, c_e9, c_e11, c_e13, c_e15, c_e17, S_x⟩ := HV.out
    have ⟨hc_w_heap_size, fc_w_heap_size, pc_w_heap_size⟩ := c_w_heap_size
    have ⟨hc__w_heap_size_1_, fc__w_heap_size_1_, pc__w_heap_size_1_⟩ := c__w_heap_size_1_
    have ⟨hc_e5, fc_e5, pc_e5⟩ := c_e5
    have ⟨hc_e8, fc_e8, pc_e8⟩ := c_e8
    have ⟨hc_e9, fc_e9, pc_e9⟩ := c_e9
    have ⟨hc_e11, fc_e11, pc_e11⟩ := c_e11
    have ⟨hc_e13, fc_e13, pc_e13⟩ := c_e13
    have ⟨hc_e15, fc_e15, pc_e15⟩ := c_e15
    have ⟨hc_e17, fc_e17, pc_e17⟩ := c_e17
    go_wp2_with (first
        | (go_at_call_of 17 ((#[.pointer (some ⟨bx, 0, none⟩), .agg (nw 9 r0), .agg (nw 9 y)] : Array Value)); refine (M2.out bx _ (S_x.gr (by repeat (first | exact Gr.refl _ | apply Gr.drewN | apply Gr.drew | apply Gr.alloc | apply Gr.gro)))).mono ?_; rintro e w' ⟨rfl, g7, rfl⟩)
        | (go_at_call 12; refine (num_any _ _).mono ?_; rintro e w' ⟨rfl, rfl⟩))
    go_meet
    exact ⟨_, rfl, rfl, G.trans (by repeat (first | exact Gr.refl _ | apply Gr.drewN | apply Gr.drew | apply Gr.alloc | apply Gr.gro)), c_w_heap_size.gr (by repeat (first | exact Gr.refl _ | apply Gr.drewN | apply Gr.drew | apply Gr.alloc | apply Gr.gro)), c__w_heap_size_1_.gr (by repeat (first | exact Gr.refl _ | apply Gr.drewN | apply Gr.drew | apply Gr.alloc | apply Gr.gro)), c_e5.gr (by repeat (first | exact Gr.refl _ | apply Gr.drewN | apply Gr.drew | apply Gr.alloc | apply Gr.gro)), c_e8.gr (by repeat (first | exact Gr.refl _ | apply Gr.drewN | apply Gr.drew | apply Gr.alloc | apply Gr.gro)), c_e9.gr (by repeat (first | exact Gr.refl _ | apply Gr.drewN | apply Gr.drew | apply Gr.alloc | apply Gr.gro)), c_e11.gr (by repeat (first | exact Gr.refl _ | apply Gr.drewN | apply Gr.drew | apply Gr.alloc | apply Gr.gro)), c_e13.gr (by repeat (first | exact Gr.refl _ | apply Gr.drewN | apply Gr.drew | apply Gr.alloc | apply Gr.gro)), c_e15.gr (by repeat (first | exact Gr.refl _ | apply Gr.drewN | apply Gr.drew | apply Gr.alloc | apply Gr.gro)), c_e17.gr (by repeat (first | exact Gr.refl _ | apply Gr.drewN | apply Gr.drew | apply Gr.alloc | apply Gr.gro)), ⟨by simp [go_sem], by simp [go_sem], by simp [go_sem]⟩, S_x.gr (by repeat (first | exact Gr.refl _ | apply Gr.drewN | apply Gr.drew | apply Gr.alloc | apply Gr.gro))⟩
  clear HV
  obtain ⟨e19, rfl, rfl, HV⟩ := hcut
  go_upto_region 14 with fail
  go_cut [21, 22] from 79 to 84 (fun a0 a1 wx => ∃ e21 : Nat, a0 = .pointer (some ⟨e21, 0, none⟩) ∧ a1 = .int .i64 0 ∧ Hid (Gr w wx ∧ Cl wx (w.heap.size) m ∧ Cl wx (w.heap.size + 1) a ∧ Cl wx e5 O ∧ Cl wx e8 d ∧ Cl wx e9 r0 ∧ Cl wx e11 t ∧ Cl wx e13 r0 ∧ Cl wx e15 1 ∧ Cl wx e17 y ∧ Cl wx e19 t ∧ Cl wx e21 x ∧ Mn wx bx O k u))
  case first =>
    have ⟨G, c_w_heap_size, c__w_heap_size_1_, c_e5, c_e8, c_e9, c_e11, c_e13, c_e15, c_e17, c_e19, S_x⟩ := HV.out
    have ⟨hc_w_heap_size, fc_w_heap_size, pc_w_heap_size⟩ := c_w_heap_size
    have ⟨hc__w_heap_size_1_, fc__w_heap_size_1_, pc__w_heap_size_1_⟩ := c__w_heap_size_1_
    have ⟨hc_e5, fc_e5, pc_e5⟩ := c_e5
    have ⟨hc_e8, fc_e8, pc_e8⟩ := c_e8
    have ⟨hc_e9, fc_e9, pc_e9⟩ := c_e9
    have ⟨hc_e11, fc_e11, pc_e11⟩ := c_e11
    have ⟨hc_e13, fc_e13, pc_e13⟩ := c_e13
    have ⟨hc_e15, fc_e15, pc_e15⟩ := c_e15
    have ⟨hc_e17, fc_e17, pc_e17⟩ := c_e17
    have ⟨hc_e19, fc_e19, pc_e19⟩ := c_e19
    go_wp2_with (first
        | (go_at_call_of 27 ((#[.agg (nw 9 r0), .agg (nw 9 O)] : Array Value)); refine (IV.out _).mono ?_; rintro e w' ⟨rfl, g8, rfl⟩)
        | (go_at_call 12; refine (num_any _ _).mono ?_; rintro e w' ⟨rfl, rfl⟩))
    go_meet
    exact ⟨_, rfl, rfl, G.trans (by repeat (first | exact Gr.refl _ | apply Gr.drewN | apply Gr.drew | apply Gr.alloc | apply Gr.gro)), c_w_heap_size.gr (by repeat (first | exact Gr.refl _ | apply Gr.drewN | apply Gr.drew | apply Gr.alloc | apply Gr.gro)), c__w_heap_size_1_.gr (by repeat (first | exact Gr.refl _ | apply Gr.drewN | apply Gr.drew | apply Gr.alloc | apply Gr.gro)), c_e5.gr (by repeat (first | exact Gr.refl _ | apply Gr.drewN | apply Gr.drew | apply Gr.alloc | apply Gr.gro)), c_e8.gr (by repeat (first | exact Gr.refl _ | apply Gr.drewN | apply Gr.drew | apply Gr.alloc | apply Gr.gro)), c_e9.gr (by repeat (first | exact Gr.refl _ | apply Gr.drewN | apply Gr.drew | apply Gr.alloc | apply Gr.gro)), c_e11.gr (by repeat (first | exact Gr.refl _ | apply Gr.drewN | apply Gr.drew | apply Gr.alloc | apply Gr.gro)), c_e13.gr (by repeat (first | exact Gr.refl _ | apply Gr.drewN | apply Gr.drew | apply Gr.alloc | apply Gr.gro)), c_e15.gr (by repeat (first | exact Gr.refl _ | apply Gr.drewN | apply Gr.drew | apply Gr.alloc | apply Gr.gro)), c_e17.gr (by repeat (first | exact Gr.refl _ | apply Gr.drewN | apply Gr.drew | apply Gr.alloc | apply Gr.gro)), c_e19.gr (by repeat (first | exact Gr.refl _ | apply Gr.drewN | apply Gr.drew | apply Gr.alloc | apply Gr.gro)), ⟨by simp [go_sem], by simp [go_sem], by simp [go_sem]⟩, S_x.gr (by repeat (first | exact Gr.refl _ | apply Gr.drewN | apply Gr.drew | apply Gr.alloc | apply Gr.gro))⟩
  clear HV
  obtain ⟨e21, rfl, rfl, HV⟩ := hcut
  go_upto_region 15 with fail
  obtain ⟨G, c_w_heap_size, c__w_heap_size_1_, c_e5, c_e8, c_e9, c_e11, c_e13, c_e15, c_e17, c_e19, c_e21, S_x⟩ := HV.out
  refine wp_region_pred (by kernel_rfl) (by kernel_rfl) [.c (.int .i64 0), .c (.int .i64 0), .c (.bool true), .c (.bool true), .c (.int .i64 0), .c (.int .i64 0), .c (.bool true), .c (.bool true), .c (.bool true), .c (.int .i64 0), .c (.int .i64 0), .c (.bool true), .c (.bool true), .c (.bool true), .c (.agg (nw 9 r0)), .c (.agg (nw 9 r0)), .c (.bool true), .c (.bool true), .c (.bool true), .c (.agg (nw 9 1)), .c (.agg (nw 9 1)), .c (.bool true), .c (.bool true), .c (.bool true), .c (.int .i64 0), .c (.int .i64 0), .c (.int .i64 0), .c (.int .i64 0), .c (.bool true), .c (.bool true), .c (.bool true), .c (.int .i64 0), .c (.int .i64 0), .c (.bool false), .c (.bool false), .c (.agg (nw 9 t)), .c (.agg (nw 9 t)), .c (.bool true), .c (.bool true), .c (.bool true), .c (.bool true)] ?hs ?hf
  case hs =>
    intro listed vals a1 v i o hg hR hF ho hd
    have Hc_w_heap_size : blk v (w.heap.size) = nw 9 m := (hg.blk _ c_w_heap_size.p).trans c_w_heap_size.h
    have Hc__w_heap_size_1_ : blk v (w.heap.size + 1) = nw 9 a := (hg.blk _ c__w_heap_size_1_.p).trans c__w_heap_size_1_.h
    have Hc_e5 : blk v e5 = nw 9 O := (hg.blk _ c_e5.p).trans c_e5.h
    have Hc_e8 : blk v e8 = nw 9 d := (hg.blk _ c_e8.p).trans c_e8.h
    have Hc_e9 : blk v e9 = nw 9 r0 := (hg.blk _ c_e9.p).trans c_e9.h
    have Hc_e11 : blk v e11 = nw 9 t := (hg.blk _ c_e11.p).trans c_e11.h
    have Hc_e13 : blk v e13 = nw 9 r0 := (hg.blk _ c_e13.p).trans c_e13.h
    have Hc_e15 : blk v e15 = nw 9 1 := (hg.blk _ c_e15.p).trans c_e15.h
    have Hc_e17 : blk v e17 = nw 9 y := (hg.blk _ c_e17.p).trans c_e17.h
    have Hc_e19 : blk v e19 = nw 9 t := (hg.blk _ c_e19.p).trans c_e19.h
    have Hc_e21 : blk v e21 = nw 9 x := (hg.blk _ c_e21.p).trans c_e21.h
    have hi : i < 41 := by simpa using (Array.getElem?_eq_some_iff.1 ho).1
    obtain rfl | rfl | rfl | rfl | rfl | rfl | rfl | rfl | rfl | rfl | rfl | rfl | rfl | rfl | rfl | rfl | rfl | rfl | rfl | rfl | rfl | rfl | rfl | rfl | rfl | rfl | rfl | rfl | rfl | rfl | rfl | rfl | rfl | rfl | rfl | rfl | rfl | rfl | rfl | rfl | rfl : i = 0 ∨ i = 1 ∨ i = 2 ∨ i = 3 ∨ i = 4 ∨ i = 5 ∨ i = 6 ∨ i = 7 ∨ i = 8 ∨ i = 9 ∨ i = 10 ∨ i = 11 ∨ i = 12 ∨ i = 13 ∨ i = 14 ∨ i = 15 ∨ i = 16 ∨ i = 17 ∨ i = 18 ∨ i = 19 ∨ i = 20 ∨ i = 21 ∨ i = 22 ∨ i = 23 ∨ i = 24 ∨ i = 25 ∨ i = 26 ∨ i = 27 ∨ i = 28 ∨ i = 29 ∨ i = 30 ∨ i = 31 ∨ i = 32 ∨ i = 33 ∨ i = 34 ∨ i = 35 ∨ i = 36 ∨ i = 37 ∨ i = 38 ∨ i = 39 ∨ i = 40 := by omega
    · obtain rfl := Option.some.inj ho
      have f0 := hF.old (s := 12) (v := .int .i64 0) (by kernel_rfl) rfl
      refine Or.inl ⟨wanted_no rfl, ?_⟩
      exact wp_val (.int .i64 0) (by simp [go_sem, f0]) ⟨_, rfl, Gr.refl _, rfl⟩
    · obtain rfl := Option.some.inj ho
      have l0 := on_of hd 0 (by kernel_rfl)
      have f0 := hF.at (s := 85) (i := 0) (by kernel_rfl) (by simp) l0
      rw [show vals 0 = .int .i64 0 from hR 0 l0] at f0
      refine Or.inl ⟨wanted_no rfl, ?_⟩
      exact wp_ret (.int .i64 0) (by simp [go_sem, f0]) (num5_gr _ _) (fun w2 hg2 => ⟨_, rfl, hg2, rfl⟩)
    · obtain rfl := Option.some.inj ho
      have l0 := on_of hd 1 (by kernel_rfl)
      have f0 := hF.at (s := 86) (i := 1) (by kernel_rfl) (by simp) l0
      rw [show vals 1 = .int .i64 0 from hR 1 l0] at f0
      refine Or.inl ⟨wanted_no rfl, ?_⟩
      exact wp_val (.bool true) (by simp [go_sem, f0]) ⟨_, rfl, Gr.refl _, rfl⟩
    · obtain rfl := Option.some.inj ho
      have l0 := on_of hd 2 (by kernel_rfl)
      have f0 := hF.at (s := 87) (i := 2) (by kernel_rfl) (by simp) l0
      rw [show vals 2 = .bool true from hR 2 l0] at f0
      refine Or.inl ⟨wanted_no rfl, ?_⟩
      exact wp_val (.bool true) (by simp [go_sem, f0]) ⟨_, rfl, Gr.refl _, rfl⟩
    · obtain rfl := Option.some.inj ho
      have lg := on_of hd 3 (by kernel_rfl)
      have fg := hF.at (s := 88) (i := 3) (by kernel_rfl) (by simp) lg
      rw [show vals 3 = .bool true from hR 3 lg] at fg
      have f0 := hF.old (s := 14) (v := .int .i64 0) (by kernel_rfl) rfl
      refine Or.inl ⟨wanted_at (j := 3) (s := 88) rfl rfl rfl fg, ?_⟩
      exact wp_val (.int .i64 0) (by simp [go_sem, f0]) ⟨_, rfl, Gr.refl _, rfl⟩
    · obtain rfl := Option.some.inj ho
      have lg := on_of hd 3 (by kernel_rfl)
      have fg := hF.at (s := 88) (i := 3) (by kernel_rfl) (by simp) lg
      rw [show vals 3 = .bool true from hR 3 lg] at fg
      have l0 := on_of hd 4 (by kernel_rfl)
      have f0 := hF.at (s := 89) (i := 4) (by kernel_rfl) (by simp) l0
      rw [show vals 4 = .int .i64 0 from hR 4 l0] at f0
      refine Or.inl ⟨wanted_at (j := 3) (s := 88) rfl rfl rfl fg, ?_⟩
      exact wp_ret (.int .i64 0) (by simp [go_sem, f0]) (num5_gr _ _) (fun w2 hg2 => ⟨_, rfl, hg2, rfl⟩)
    · obtain rfl := Option.some.inj ho
      have lg := on_of hd 3 (by kernel_rfl)
      have fg := hF.at (s := 88) (i := 3) (by kernel_rfl) (by simp) lg
      rw [show vals 3 = .bool true from hR 3 lg] at fg
      have l0 := on_of hd 5 (by kernel_rfl)
      have f0 := hF.at (s := 90) (i := 5) (by kernel_rfl) (by simp) l0
      rw [show vals 5 = .int .i64 0 from hR 5 l0] at f0
      refine Or.inl ⟨wanted_at (j := 3) (s := 88) rfl rfl rfl fg, ?_⟩
      exact wp_val (.bool true) (by simp [go_sem, f0]) ⟨_, rfl, Gr.refl _, rfl⟩
    · obtain rfl := Option.some.inj ho
      have l0 := on_of hd 3 (by kernel_rfl)
      have f0 := hF.at (s := 88) (i := 3) (by kernel_rfl) (by simp) l0
      rw [show vals 3 = .bool true from hR 3 l0] at f0
      have l1 := on_of hd 6 (by kernel_rfl)
      have f1 := hF.at (s := 91) (i := 6) (by kernel_rfl) (by simp) l1
      rw [show vals 6 = .bool true from hR 6 l1] at f1
      refine Or.inl ⟨wanted_no rfl, ?_⟩
      exact wp_val (.bool true) (by simp [go_sem, f0, f1]) ⟨_, rfl, Gr.refl _, rfl⟩
    · obtain rfl := Option.some.inj ho
      have l0 := on_of hd 7 (by kernel_rfl)
      have f0 := hF.at (s := 92) (i := 7) (by kernel_rfl) (by simp) l0
      rw [show vals 7 = .bool true from hR 7 l0] at f0
      refine Or.inl ⟨wanted_no rfl, ?_⟩
      exact wp_val (.bool true) (by simp [go_sem, f0]) ⟨_, rfl, Gr.refl _, rfl⟩
    · obtain rfl := Option.some.inj ho
      have lg := on_of hd 8 (by kernel_rfl)
      have fg := hF.at (s := 93) (i := 8) (by kernel_rfl) (by simp) lg
      rw [show vals 8 = .bool true from hR 8 lg] at fg
      have f0 := hF.old (s := 16) (v := .int .i64 0) (by kernel_rfl) rfl
      refine Or.inl ⟨wanted_at (j := 8) (s := 93) rfl rfl rfl fg, ?_⟩
      exact wp_val (.int .i64 0) (by simp [go_sem, f0]) ⟨_, rfl, Gr.refl _, rfl⟩
    · obtain rfl := Option.some.inj ho
      have lg := on_of hd 8 (by kernel_rfl)
      have fg := hF.at (s := 93) (i := 8) (by kernel_rfl) (by simp) lg
      rw [show vals 8 = .bool true from hR 8 lg] at fg
      have l0 := on_of hd 9 (by kernel_rfl)
      have f0 := hF.at (s := 94) (i := 9) (by kernel_rfl) (by simp) l0
      rw [show vals 9 = .int .i64 0 from hR 9 l0] at f0
      refine Or.inl ⟨wanted_at (j := 8) (s := 93) rfl rfl rfl fg, ?_⟩
      exact wp_ret (.int .i64 0) (by simp [go_sem, f0]) (num5_gr _ _) (fun w2 hg2 => ⟨_, rfl, hg2, rfl⟩)
    · obtain rfl := Option.some.inj ho
      have lg := on_of hd 8 (by kernel_rfl)
      have fg := hF.at (s := 93) (i := 8) (by kernel_rfl) (by simp) lg
      rw [show vals 8 = .bool true from hR 8 lg] at fg
      have l0 := on_of hd 10 (by kernel_rfl)
      have f0 := hF.at (s := 95) (i := 10) (by kernel_rfl) (by simp) l0
      rw [show vals 10 = .int .i64 0 from hR 10 l0] at f0
      refine Or.inl ⟨wanted_at (j := 8) (s := 93) rfl rfl rfl fg, ?_⟩
      exact wp_val (.bool true) (by simp [go_sem, f0]) ⟨_, rfl, Gr.refl _, rfl⟩
    · obtain rfl := Option.some.inj ho
      have l0 := on_of hd 8 (by kernel_rfl)
      have f0 := hF.at (s := 93) (i := 8) (by kernel_rfl) (by simp) l0
      rw [show vals 8 = .bool true from hR 8 l0] at f0
      have l1 := on_of hd 11 (by kernel_rfl)
      have f1 := hF.at (s := 96) (i := 11) (by kernel_rfl) (by simp) l1
      rw [show vals 11 = .bool true from hR 11 l1] at f1
      refine Or.inl ⟨wanted_no rfl, ?_⟩
      exact wp_val (.bool true) (by simp [go_sem, f0, f1]) ⟨_, rfl, Gr.refl _, rfl⟩
    · obtain rfl := Option.some.inj ho
      have l0 := on_of hd 12 (by kernel_rfl)
      have f0 := hF.at (s := 97) (i := 12) (by kernel_rfl) (by simp) l0
      rw [show vals 12 = .bool true from hR 12 l0] at f0
      refine Or.inl ⟨wanted_no rfl, ?_⟩
      exact wp_val (.bool true) (by simp [go_sem, f0]) ⟨_, rfl, Gr.refl _, rfl⟩
    · obtain rfl := Option.some.inj ho
      have lg := on_of hd 13 (by kernel_rfl)
      have fg := hF.at (s := 98) (i := 13) (by kernel_rfl) (by simp) lg
      rw [show vals 13 = .bool true from hR 13 lg] at fg
      have f0 := hF.old (s := 13) (v := .pointer (some ⟨e13, 0, none⟩)) (by kernel_rfl) rfl
      refine Or.inl ⟨wanted_at (j := 13) (s := 98) rfl rfl rfl fg, ?_⟩
      exact wp_val (.agg (nw 9 r0)) (by simp [go_sem, f0, Hc_e13]) ⟨_, rfl, Gr.refl _, rfl⟩
    · obtain rfl := Option.some.inj ho
      have lg := on_of hd 13 (by kernel_rfl)
      have fg := hF.at (s := 98) (i := 13) (by kernel_rfl) (by simp) lg
      rw [show vals 13 = .bool true from hR 13 lg] at fg
      have f0 := hF.old (s := 9) (v := .pointer (some ⟨e9, 0, none⟩)) (by kernel_rfl) rfl
      refine Or.inl ⟨wanted_at (j := 13) (s := 98) rfl rfl rfl fg, ?_⟩
      exact wp_val (.agg (nw 9 r0)) (by simp [go_sem, f0, Hc_e9]) ⟨_, rfl, Gr.refl _, rfl⟩
    · obtain rfl := Option.some.inj ho
      have lg := on_of hd 13 (by kernel_rfl)
      have fg := hF.at (s := 98) (i := 13) (by kernel_rfl) (by simp) lg
      rw [show vals 13 = .bool true from hR 13 lg] at fg
      have l0 := on_of hd 14 (by kernel_rfl)
      have f0 := hF.at (s := 99) (i := 14) (by kernel_rfl) (by simp) l0
      rw [show vals 14 = .agg (nw 9 r0) from hR 14 l0] at f0
      have l1 := on_of hd 15 (by kernel_rfl)
      have f1 := hF.at (s := 100) (i := 15) (by kernel_rfl) (by simp) l1
      rw [show vals 15 = .agg (nw 9 r0) from hR 15 l1] at f1
      refine Or.inl ⟨wanted_at (j := 13) (s := 98) rfl rfl rfl fg, ?_⟩
      exact wp_val (.bool true) (by simp [go_sem, f0, f1, eqN_self]) ⟨_, rfl, Gr.refl _, rfl⟩
    · obtain rfl := Option.some.inj ho
      have l0 := on_of hd 13 (by kernel_rfl)
      have f0 := hF.at (s := 98) (i := 13) (by kernel_rfl) (by simp) l0
      rw [show vals 13 = .bool true from hR 13 l0] at f0
      have l1 := on_of hd 16 (by kernel_rfl)
      have f1 := hF.at (s := 101) (i := 16) (by kernel_rfl) (by simp) l1
      rw [show vals 16 = .bool true from hR 16 l1] at f1
      refine Or.inl ⟨wanted_no rfl, ?_⟩
      exact wp_val (.bool true) (by simp [go_sem, f0, f1]) ⟨_, rfl, Gr.refl _, rfl⟩
    · obtain rfl := Option.some.inj ho
      have l0 := on_of hd 17 (by kernel_rfl)
      have f0 := hF.at (s := 102) (i := 17) (by kernel_rfl) (by simp) l0
      rw [show vals 17 = .bool true from hR 17 l0] at f0
      refine Or.inl ⟨wanted_no rfl, ?_⟩
      exact wp_val (.bool true) (by simp [go_sem, f0]) ⟨_, rfl, Gr.refl _, rfl⟩
    · obtain rfl := Option.some.inj ho
      have lg := on_of hd 18 (by kernel_rfl)
      have fg := hF.at (s := 103) (i := 18) (by kernel_rfl) (by simp) lg
      rw [show vals 18 = .bool true from hR 18 lg] at fg
      have f0 := hF.old (s := 15) (v := .pointer (some ⟨e15, 0, none⟩)) (by kernel_rfl) rfl
      refine Or.inl ⟨wanted_at (j := 18) (s := 103) rfl rfl rfl fg, ?_⟩
      exact wp_val (.agg (nw 9 1)) (by simp [go_sem, f0, Hc_e15]) ⟨_, rfl, Gr.refl _, rfl⟩
    · obtain rfl := Option.some.inj ho
      have lg := on_of hd 18 (by kernel_rfl)
      have fg := hF.at (s := 103) (i := 18) (by kernel_rfl) (by simp) lg
      rw [show vals 18 = .bool true from hR 18 lg] at fg
      refine Or.inl ⟨wanted_at (j := 18) (s := 103) rfl rfl rfl fg, ?_⟩
      exact wp_ret (.agg (nw 9 1)) (by simp [go_sem]) (O1.out _) (fun w2 hg2 => ⟨_, rfl, hg2, rfl⟩)
    · obtain rfl := Option.some.inj ho
      have lg := on_of hd 18 (by kernel_rfl)
      have fg := hF.at (s := 103) (i := 18) (by kernel_rfl) (by simp) lg
      rw [show vals 18 = .bool true from hR 18 lg] at fg
      have l0 := on_of hd 19 (by kernel_rfl)
      have f0 := hF.at (s := 104) (i := 19) (by kernel_rfl) (by simp) l0
      rw [show vals 19 = .agg (nw 9 1) from hR 19 l0] at f0
      have l1 := on_of hd 20 (by kernel_rfl)
      have f1 := hF.at (s := 105) (i := 20) (by kernel_rfl) (by simp) l1
      rw [show vals 20 = .agg (nw 9 1) from hR 20 l1] at f1
      refine Or.inl ⟨wanted_at (j := 18) (s := 103) rfl rfl rfl fg, ?_⟩
      exact wp_val (.bool true) (by simp [go_sem, f0, f1, eqN_self]) ⟨_, rfl, Gr.refl _, rfl⟩
    · obtain rfl := Option.some.inj ho
      have l0 := on_of hd 18 (by kernel_rfl)
      have f0 := hF.at (s := 103) (i := 18) (by kernel_rfl) (by simp) l0
      rw [show vals 18 = .bool true from hR 18 l0] at f0
      have l1 := on_of hd 21 (by kernel_rfl)
      have f1 := hF.at (s := 106) (i := 21) (by kernel_rfl) (by simp) l1
      rw [show vals 21 = .bool true from hR 21 l1] at f1
      refine Or.inl ⟨wanted_no rfl, ?_⟩
      exact wp_val (.bool true) (by simp [go_sem, f0, f1]) ⟨_, rfl, Gr.refl _, rfl⟩
    · obtain rfl := Option.some.inj ho
      have l0 := on_of hd 22 (by kernel_rfl)
      have f0 := hF.at (s := 107) (i := 22) (by kernel_rfl) (by simp) l0
      rw [show vals 22 = .bool true from hR 22 l0] at f0
      refine Or.inl ⟨wanted_no rfl, ?_⟩
      exact wp_val (.bool true) (by simp [go_sem, f0]) ⟨_, rfl, Gr.refl _, rfl⟩
    · obtain rfl := Option.some.inj ho
      have lg := on_of hd 23 (by kernel_rfl)
      have fg := hF.at (s := 108) (i := 23) (by kernel_rfl) (by simp) lg
      rw [show vals 23 = .bool true from hR 23 lg] at fg
      have f0 := hF.old (s := 18) (v := .int .i64 0) (by kernel_rfl) rfl
      refine Or.inl ⟨wanted_at (j := 23) (s := 108) rfl rfl rfl fg, ?_⟩
      exact wp_val (.int .i64 0) (by simp [go_sem, f0]) ⟨_, rfl, Gr.refl _, rfl⟩
    · obtain rfl := Option.some.inj ho
      have lg := on_of hd 23 (by kernel_rfl)
      have fg := hF.at (s := 108) (i := 23) (by kernel_rfl) (by simp) lg
      rw [show vals 23 = .bool true from hR 23 lg] at fg
      have l0 := on_of hd 24 (by kernel_rfl)
      have f0 := hF.at (s := 109) (i := 24) (by kernel_rfl) (by simp) l0
      rw [show vals 24 = .int .i64 0 from hR 24 l0] at f0
      refine Or.inl ⟨wanted_at (j := 23) (s := 108) rfl rfl rfl fg, ?_⟩
      exact wp_ret (.int .i64 0) (by simp [go_sem, f0]) (num5_gr _ _) (fun w2 hg2 => ⟨_, rfl, hg2, rfl⟩)
    · obtain rfl := Option.some.inj ho
      have lg := on_of hd 23 (by kernel_rfl)
      have fg := hF.at (s := 108) (i := 23) (by kernel_rfl) (by simp) lg
      rw [show vals 23 = .bool true from hR 23 lg] at fg
      have f0 := hF.old (s := 22) (v := .int .i64 0) (by kernel_rfl) rfl
      refine Or.inl ⟨wanted_at (j := 23) (s := 108) rfl rfl rfl fg, ?_⟩
      exact wp_val (.int .i64 0) (by simp [go_sem, f0]) ⟨_, rfl, Gr.refl _, rfl⟩
    · obtain rfl := Option.some.inj ho
      have lg := on_of hd 23 (by kernel_rfl)
      have fg := hF.at (s := 108) (i := 23) (by kernel_rfl) (by simp) lg
      rw [show vals 23 = .bool true from hR 23 lg] at fg
      have l0 := on_of hd 26 (by kernel_rfl)
      have f0 := hF.at (s := 111) (i := 26) (by kernel_rfl) (by simp) l0
      rw [show vals 26 = .int .i64 0 from hR 26 l0] at f0
      refine Or.inl ⟨wanted_at (j := 23) (s := 108) rfl rfl rfl fg, ?_⟩
      exact wp_ret (.int .i64 0) (by simp [go_sem, f0]) (num5_gr _ _) (fun w2 hg2 => ⟨_, rfl, hg2, rfl⟩)
    · obtain rfl := Option.some.inj ho
      have lg := on_of hd 23 (by kernel_rfl)
      have fg := hF.at (s := 108) (i := 23) (by kernel_rfl) (by simp) lg
      rw [show vals 23 = .bool true from hR 23 lg] at fg
      have l0 := on_of hd 25 (by kernel_rfl)
      have f0 := hF.at (s := 110) (i := 25) (by kernel_rfl) (by simp) l0
      rw [show vals 25 = .int .i64 0 from hR 25 l0] at f0
      have l1 := on_of hd 27 (by kernel_rfl)
      have f1 := hF.at (s := 112) (i := 27) (by kernel_rfl) (by simp) l1
      rw [show vals 27 = .int .i64 0 from hR 27 l1] at f1
      refine Or.inl ⟨wanted_at (j := 23) (s := 108) rfl rfl rfl fg, ?_⟩
      exact wp_val (.bool true) (by simp [go_sem, f0, f1]) ⟨_, rfl, Gr.refl _, rfl⟩
    · obtain rfl := Option.some.inj ho
      have l0 := on_of hd 23 (by kernel_rfl)
      have f0 := hF.at (s := 108) (i := 23) (by kernel_rfl) (by simp) l0
      rw [show vals 23 = .bool true from hR 23 l0] at f0
      have l1 := on_of hd 28 (by kernel_rfl)
      have f1 := hF.at (s := 113) (i := 28) (by kernel_rfl) (by simp) l1
      rw [show vals 28 = .bool true from hR 28 l1] at f1
      refine Or.inl ⟨wanted_no rfl, ?_⟩
      exact wp_val (.bool true) (by simp [go_sem, f0, f1]) ⟨_, rfl, Gr.refl _, rfl⟩
    · obtain rfl := Option.some.inj ho
      have l0 := on_of hd 29 (by kernel_rfl)
      have f0 := hF.at (s := 114) (i := 29) (by kernel_rfl) (by simp) l0
      rw [show vals 29 = .bool true from hR 29 l0] at f0
      refine Or.inl ⟨wanted_no rfl, ?_⟩
      exact wp_val (.bool true) (by simp [go_sem, f0]) ⟨_, rfl, Gr.refl _, rfl⟩
    · obtain rfl := Option.some.inj ho
      have lg := on_of hd 30 (by kernel_rfl)
      have fg := hF.at (s := 115) (i := 30) (by kernel_rfl) (by simp) lg
      rw [show vals 30 = .bool true from hR 30 lg] at fg
      have f0 := hF.old (s := 18) (v := .int .i64 0) (by kernel_rfl) rfl
      refine Or.inl ⟨wanted_at (j := 30) (s := 115) rfl rfl rfl fg, ?_⟩
      exact wp_val (.int .i64 0) (by simp [go_sem, f0]) ⟨_, rfl, Gr.refl _, rfl⟩
    · obtain rfl := Option.some.inj ho
      have lg := on_of hd 30 (by kernel_rfl)
      have fg := hF.at (s := 115) (i := 30) (by kernel_rfl) (by simp) lg
      rw [show vals 30 = .bool true from hR 30 lg] at fg
      have l0 := on_of hd 31 (by kernel_rfl)
      have f0 := hF.at (s := 116) (i := 31) (by kernel_rfl) (by simp) l0
      rw [show vals 31 = .int .i64 0 from hR 31 l0] at f0
      refine Or.inl ⟨wanted_at (j := 30) (s := 115) rfl rfl rfl fg, ?_⟩
      exact wp_ret (.int .i64 0) (by simp [go_sem, f0]) (num5_gr _ _) (fun w2 hg2 => ⟨_, rfl, hg2, rfl⟩)
    · obtain rfl := Option.some.inj ho
      have lg := on_of hd 30 (by kernel_rfl)
      have fg := hF.at (s := 115) (i := 30) (by kernel_rfl) (by simp) lg
      rw [show vals 30 = .bool true from hR 30 lg] at fg
      have l0 := on_of hd 32 (by kernel_rfl)
      have f0 := hF.at (s := 117) (i := 32) (by kernel_rfl) (by simp) l0
      rw [show vals 32 = .int .i64 0 from hR 32 l0] at f0
      refine Or.inl ⟨wanted_at (j := 30) (s := 115) rfl rfl rfl fg, ?_⟩
      exact wp_val (.bool false) (by simp [go_sem, f0]) ⟨_, rfl, Gr.refl _, rfl⟩
    · obtain rfl := Option.some.inj ho
      have lg := on_of hd 30 (by kernel_rfl)
      have fg := hF.at (s := 115) (i := 30) (by kernel_rfl) (by simp) lg
      rw [show vals 30 = .bool true from hR 30 lg] at fg
      have l0 := on_of hd 33 (by kernel_rfl)
      have f0 := hF.at (s := 118) (i := 33) (by kernel_rfl) (by simp) l0
      rw [show vals 33 = .bool false from hR 33 l0] at f0
      refine Or.inl ⟨wanted_at (j := 30) (s := 115) rfl rfl rfl fg, ?_⟩
      exact wp_val (.bool false) (by simp [go_sem, f0]) ⟨_, rfl, Gr.refl _, rfl⟩
    · obtain rfl := Option.some.inj ho
      have lg := on_of hd 34 (by kernel_rfl)
      have fg := hF.at (s := 119) (i := 34) (by kernel_rfl) (by simp) lg
      rw [show vals 34 = .bool false from hR 34 lg] at fg
      have f0 := hF.old (s := 19) (v := .pointer (some ⟨e19, 0, none⟩)) (by kernel_rfl) rfl
      refine Or.inl ⟨wanted_at (j := 34) (s := 119) rfl rfl rfl fg, ?_⟩
      exact wp_val (.agg (nw 9 t)) (by simp [go_sem, f0, Hc_e19]) ⟨_, rfl, Gr.refl _, rfl⟩
    · obtain rfl := Option.some.inj ho
      have lg := on_of hd 34 (by kernel_rfl)
      have fg := hF.at (s := 119) (i := 34) (by kernel_rfl) (by simp) lg
      rw [show vals 34 = .bool false from hR 34 lg] at fg
      have f0 := hF.old (s := 11) (v := .pointer (some ⟨e11, 0, none⟩)) (by kernel_rfl) rfl
      refine Or.inl ⟨wanted_at (j := 34) (s := 119) rfl rfl rfl fg, ?_⟩
      exact wp_val (.agg (nw 9 t)) (by simp [go_sem, f0, Hc_e11]) ⟨_, rfl, Gr.refl _, rfl⟩
    · obtain rfl := Option.some.inj ho
      have lg := on_of hd 34 (by kernel_rfl)
      have fg := hF.at (s := 119) (i := 34) (by kernel_rfl) (by simp) lg
      rw [show vals 34 = .bool false from hR 34 lg] at fg
      have l0 := on_of hd 35 (by kernel_rfl)
      have f0 := hF.at (s := 120) (i := 35) (by kernel_rfl) (by simp) l0
      rw [show vals 35 = .agg (nw 9 t) from hR 35 l0] at f0
      have l1 := on_of hd 36 (by kernel_rfl)
      have f1 := hF.at (s := 121) (i := 36) (by kernel_rfl) (by simp) l1
      rw [show vals 36 = .agg (nw 9 t) from hR 36 l1] at f1
      refine Or.inl ⟨wanted_at (j := 34) (s := 119) rfl rfl rfl fg, ?_⟩
      exact wp_val (.bool true) (by simp [go_sem, f0, f1, eqN_self]) ⟨_, rfl, Gr.refl _, rfl⟩
    · obtain rfl := Option.some.inj ho
      have lg := on_of hd 30 (by kernel_rfl)
      have fg := hF.at (s := 115) (i := 30) (by kernel_rfl) (by simp) lg
      rw [show vals 30 = .bool true from hR 30 lg] at fg
      have l0 := on_of hd 34 (by kernel_rfl)
      have f0 := hF.at (s := 119) (i := 34) (by kernel_rfl) (by simp) l0
      rw [show vals 34 = .bool false from hR 34 l0] at f0
      have l1 := on_of hd 37 (by kernel_rfl)
      have f1 := hF.at (s := 122) (i := 37) (by kernel_rfl) (by simp) l1
      rw [show vals 37 = .bool true from hR 37 l1] at f1
      refine Or.inl ⟨wanted_at (j := 30) (s := 115) rfl rfl rfl fg, ?_⟩
      exact wp_val (.bool true) (by simp [go_sem, f0, f1]) ⟨_, rfl, Gr.refl _, rfl⟩
    · obtain rfl := Option.some.inj ho
      have l0 := on_of hd 30 (by kernel_rfl)
      have f0 := hF.at (s := 115) (i := 30) (by kernel_rfl) (by simp) l0
      rw [show vals 30 = .bool true from hR 30 l0] at f0
      have l1 := on_of hd 38 (by kernel_rfl)
      have f1 := hF.at (s := 123) (i := 38) (by kernel_rfl) (by simp) l1
      rw [show vals 38 = .bool true from hR 38 l1] at f1
      refine Or.inl ⟨wanted_no rfl, ?_⟩
      exact wp_val (.bool true) (by simp [go_sem, f0, f1]) ⟨_, rfl, Gr.refl _, rfl⟩
    · obtain rfl := Option.some.inj ho
      have l0 := on_of hd 39 (by kernel_rfl)
      have f0 := hF.at (s := 124) (i := 39) (by kernel_rfl) (by simp) l0
      rw [show vals 39 = .bool true from hR 39 l0] at f0
      refine Or.inl ⟨wanted_no rfl, ?_⟩
      exact wp_val (.bool true) (by simp [go_sem, f0]) ⟨_, rfl, Gr.refl _, rfl⟩
  case hf =>
    intro vals v hg hR
    have x0 : vals 0 = .int .i64 0 := hR 0 (by simp)
    have x1 : vals 1 = .int .i64 0 := hR 1 (by simp)
    have x2 : vals 2 = .bool true := hR 2 (by simp)
    have x3 : vals 3 = .bool true := hR 3 (by simp)
    have x4 : vals 4 = .int .i64 0 := hR 4 (by simp)
    have x5 : vals 5 = .int .i64 0 := hR 5 (by simp)
    have x6 : vals 6 = .bool true := hR 6 (by simp)
    have x7 : vals 7 = .bool true := hR 7 (by simp)
    have x8 : vals 8 = .bool true := hR 8 (by simp)
    have x9 : vals 9 = .int .i64 0 := hR 9 (by simp)
    have x10 : vals 10 = .int .i64 0 := hR 10 (by simp)
    have x11 : vals 11 = .bool true := hR 11 (by simp)
    have x12 : vals 12 = .bool true := hR 12 (by simp)
    have x13 : vals 13 = .bool true := hR 13 (by simp)
    have x14 : vals 14 = .agg (nw 9 r0) := hR 14 (by simp)
    have x15 : vals 15 = .agg (nw 9 r0) := hR 15 (by simp)
    have x16 : vals 16 = .bool true := hR 16 (by simp)
    have x17 : vals 17 = .bool true := hR 17 (by simp)
    have x18 : vals 18 = .bool true := hR 18 (by simp)
    have x19 : vals 19 = .agg (nw 9 1) := hR 19 (by simp)
    have x20 : vals 20 = .agg (nw 9 1) := hR 20 (by simp)
    have x21 : vals 21 = .bool true := hR 21 (by simp)
    have x22 : vals 22 = .bool true := hR 22 (by simp)
    have x23 : vals 23 = .bool true := hR 23 (by simp)
    have x24 : vals 24 = .int .i64 0 := hR 24 (by simp)
    have x25 : vals 25 = .int .i64 0 := hR 25 (by simp)
    have x26 : vals 26 = .int .i64 0 := hR 26 (by simp)
    have x27 : vals 27 = .int .i64 0 := hR 27 (by simp)
    have x28 : vals 28 = .bool true := hR 28 (by simp)
    have x29 : vals 29 = .bool true := hR 29 (by simp)
    have x30 : vals 30 = .bool true := hR 30 (by simp)
    have x31 : vals 31 = .int .i64 0 := hR 31 (by simp)
    have x32 : vals 32 = .int .i64 0 := hR 32 (by simp)
    have x33 : vals 33 = .bool false := hR 33 (by simp)
    have x34 : vals 34 = .bool false := hR 34 (by simp)
    have x35 : vals 35 = .agg (nw 9 t) := hR 35 (by simp)
    have x36 : vals 36 = .agg (nw 9 t) := hR 36 (by simp)
    have x37 : vals 37 = .bool true := hR 37 (by simp)
    have x38 : vals 38 = .bool true := hR 38 (by simp)
    have x39 : vals 39 = .bool true := hR 39 (by simp)
    have x40 : vals 40 = .bool true := hR 40 (by simp)
    simp only [putFrom, Act.put, List.setIfInBounds_toArray, List.set_cons_zero, List.set_cons_succ, x0, x1, x2, x3, x4, x5, x6, x7, x8, x9, x10, x11, x12, x13, x14, x15, x16, x17, x18, x19, x20, x21, x22, x23, x24, x25, x26, x27, x28, x29, x30, x31, x32, x33, x34, x35, x36, x37, x38, x39, x40]
    clear hR x0 x1 x2 x3 x4 x5 x6 x7 x8 x9 x10 x11 x12 x13 x14 x15 x16 x17 x18 x19 x20 x21 x22 x23 x24 x25 x26 x27 x28 x29 x30 x31 x32 x33 x34 x35 x36 x37 x38 x39 x40
    have HG : Gr w v := G.trans hg
    clear hg
    go_wp2_with fail
    go_ret
    exact ⟨rfl, HG⟩
set_option maxRecDepth 100000 in
set_option maxHeartbeats 4000000 in
theorem mones_none (m a : Nat) (ha : a < M) (w : World) (y0 O k u : Nat) (hor : bits BinOp.or IntKind.u64 ((wd m 0 : Nat) : Int) 3 = (y0 : Int)) (hset : (nw 9 m).setIfInBounds 0 (.int .u64 (y0 : Int)) = nw 9 O) (ho3 : 3 ≤ O) (hOM : O < M)
    (ho : Mo O k u) (HN0 : ∀ w, Calls Try.prog 8 #[.agg (nw 9 O)] w fun e w' => ∃ b, e = .returned (.tuple #[.pointer (some ⟨b, 0, none⟩), .int .i64 0]) ∧ Mn w' b O k u ∧ Gr w w')
    (hgc : Nat.gcd O (a % O) ≠ 1) :
    Calls Try.prog 5 #[.agg (nw 9 m), .agg (nw 9 a)] w fun e w' => e = .returned (.bool true) ∧ Gr w w' := by
  have hg0 := nw_get 9 m 0 (by decide)
  obtain ⟨d, hd⟩ : ∃ d, a / O = d := ⟨_, rfl⟩
  obtain ⟨r0, hr⟩ : ∃ r, a % O = r := ⟨_, rfl⟩
  have hrm : r0 < O := by rw [← hr]; exact Nat.mod_lt _ (by omega)
  obtain ⟨t, ht⟩ : ∃ t, 1 * pw k % O = t := ⟨_, rfl⟩
  have htm : t < O := by rw [← ht]; exact Nat.mod_lt _ (by omega)
  have hM1 : r0 * t * u % O = r0 := by rw [← ht]; exact ho.one r0 hrm
  have hF1 : t * u % O = 1 := by rw [← ht]; exact ho.back 1 (by omega)
  have hI := fun w => inv_none r0 O (by omega) (by omega) hOM (hr ▸ hgc) w
  have O1 : Hid (∀ w', Calls Try.prog 26 #[.int .u64 1] w' fun e w'' => e = .returned (.agg (nw 9 1)) ∧ Gr w' w'') := fun w => one_any 1 (by decide) w
  have DV : Hid (∀ w', Calls Try.prog 25 #[.agg (nw 9 a), .agg (nw 9 O)] w' fun e w'' => e = .returned (.tuple #[.agg (nw 9 d), .agg (nw 9 r0), .int .i64 0]) ∧ Gr w' w'') := fun w => hd ▸ hr ▸ div_any a O ha (by omega) hOM w
  have T1 : Hid (∀ (b : Nat) w', Mn w' b O k u → Calls Try.prog 15 #[.pointer (some ⟨b, 0, none⟩), .agg (nw 9 1)] w' fun e w'' => e = .returned (.tuple #[.agg (nw 9 t), .int .i64 0]) ∧ Gr w' w'') := fun b w' h => ht ▸ To_ok b O k u 1 w' h (by omega)
  have M1 : Hid (∀ (b : Nat) w', Mn w' b O k u → Calls Try.prog 17 #[.pointer (some ⟨b, 0, none⟩), .agg (nw 9 r0), .agg (nw 9 t)] w' fun e w'' => e = .returned (.tuple #[.agg (nw 9 r0), .int .i64 0]) ∧ Gr w' w'') := fun b w' h => by
    have := Mul_ok b O k u r0 t w' h ⟨hrm, htm⟩
    rw [hM1] at this
    exact this
  have F1 : Hid (∀ (b : Nat) w', Mn w' b O k u → Calls Try.prog 16 #[.pointer (some ⟨b, 0, none⟩), .agg (nw 9 t)] w' fun e w'' => e = .returned (.tuple #[.agg (nw 9 1), .int .i64 0]) ∧ Gr w' w'') := fun b w' h => by
    have := From_ok b O k u t w' h htm
    rw [hF1] at this
    exact this
  have IV : Hid (∀ w', Calls Try.prog 27 #[.agg (nw 9 r0), .agg (nw 9 O)] w' fun e w'' => e = .returned (.tuple #[.agg (nw 9 0), .int .i64 401]) ∧ Gr w' w'') := hI
  have I1 : Hid (∀ (b : Nat) w', Mn w' b O k u → Calls Try.prog 18 #[.pointer (some ⟨b, 0, none⟩), .agg (nw 9 r0)] w' fun e w'' => e = .returned (.tuple #[.agg (nw 9 0), .int .i64 401]) ∧ Gr w' w'') := fun b w' h => Inv_none b O k u r0 w' h hI hrm
  have M2 : Hid (∀ (b : Nat) w', Mn w' b O k u → Calls Try.prog 17 #[.pointer (some ⟨b, 0, none⟩), .agg (nw 9 r0), .agg (nw 9 0)] w' fun e w'' => e = .returned (.tuple #[.agg (nw 9 0), .int .i64 0]) ∧ Gr w' w'') := fun b w' h => by
    have := Mul_ok b O k u r0 0 w' h ⟨hrm, by omega⟩
    rw [Nat.mul_zero, Nat.zero_mul, Nat.zero_mod] at this
    exact this
  have HN : Hid (∀ w, Calls Try.prog 8 #[.agg (nw 9 O)] w fun e w' => ∃ b, e = .returned (.tuple #[.pointer (some ⟨b, 0, none⟩), .int .i64 0]) ∧ Mn w' b O k u ∧ Gr w w') := HN0
  clear HN0 hgc hM1 hF1 htm hrm ht hr hd hI ho hOM ho3 ha
  go_enter Try.func5, Try.ntmps5
  go_upto_region 3 with (go_at_call 13; refine (awake6_any _).mono ?_; rintro e w' ⟨rfl, gaw, rfl⟩)
  refine gen_w (fun v => Hid (Gr w v ∧ Cl v (w.heap.size) m ∧ Cl v (w.heap.size + 1) a)) ⟨(by repeat (first | exact Gr.refl _ | apply Gr.drewN | apply Gr.drew | apply Gr.alloc | apply Gr.gro)), ⟨by simp [go_sem], by simp [go_sem], by simp [go_sem]⟩, ⟨by simp [go_sem], by simp [go_sem], by simp [go_sem]⟩⟩ ?_
  intro v0 HV
  have ⟨G, c_w_heap_size, c__w_heap_size_1_⟩ := HV.out
  have ⟨hc_w_heap_size, fc_w_heap_size, pc_w_heap_size⟩ := c_w_heap_size
  have ⟨hc__w_heap_size_1_, fc__w_heap_size_1_, pc__w_heap_size_1_⟩ := c__w_heap_size_1_
  go_upto_region 5 with fail
  obtain ⟨e5, he5⟩ : ∃ x, v0.heap.size = x := ⟨_, rfl⟩
  rw [he5]
  refine gen_w (fun v => Hid (Gr w v ∧ Cl v (w.heap.size) m ∧ Cl v (w.heap.size + 1) a ∧ Cl v e5 O)) ⟨G.trans (by repeat (first | exact Gr.refl _ | apply Gr.drewN | apply Gr.drew | apply Gr.alloc | apply Gr.gro)), c_w_heap_size.gr (by repeat (first | exact Gr.refl _ | apply Gr.drewN | apply Gr.drew | apply Gr.alloc | apply Gr.gro)), c__w_heap_size_1_.gr (by repeat (first | exact Gr.refl _ | apply Gr.drewN | apply Gr.drew | apply Gr.alloc | apply Gr.gro)), he5 ▸ ⟨by simp [go_sem], by simp [go_sem], by simp [go_sem]⟩⟩ ?_
  clear HV G c_w_heap_size c__w_heap_size_1_ he5
  intro v1 HV
  go_cut [6, 7] from 32 to 36 (fun a0 a1 wx => ∃ bx : Nat, a0 = .pointer (some ⟨bx, 0, none⟩) ∧ a1 = .int .i64 0 ∧ Hid (Gr w wx ∧ Cl wx (w.heap.size) m ∧ Cl wx (w.heap.size + 1) a ∧ Cl wx e5 O ∧ Mn wx bx O k u))
  case first =>
    have ⟨G, c_w_heap_size, c__w_heap_size_1_, c_e5⟩ := HV.out
    have ⟨hc_w_heap_size, fc_w_heap_size, pc_w_heap_size⟩ := c_w_heap_size
    have ⟨hc__w_heap_size_1_, fc__w_heap_size_1_, pc__w_heap_size_1_⟩ := c__w_heap_size_1_
    have ⟨hc_e5, fc_e5, pc_e5⟩ := c_e5
    go_wp2_with (go_at_call 8; refine (HN.out _).mono ?_; rintro e W1 ⟨bx, rfl, S1, G1⟩)
    go_meet
    exact ⟨bx, rfl, rfl, G.trans ((Gr.trans (by repeat (first | exact Gr.refl _ | apply Gr.drewN | apply Gr.drew | apply Gr.alloc | apply Gr.gro)) G1).trans (by repeat (first | exact Gr.refl _ | apply Gr.drewN | apply Gr.drew | apply Gr.alloc | apply Gr.gro))), c_w_heap_size.gr ((Gr.trans (by repeat (first | exact Gr.refl _ | apply Gr.drewN | apply Gr.drew | apply Gr.alloc | apply Gr.gro)) G1).trans (by repeat (first | exact Gr.refl _ | apply Gr.drewN | apply Gr.drew | apply Gr.alloc | apply Gr.gro))), c__w_heap_size_1_.gr ((Gr.trans (by repeat (first | exact Gr.refl _ | apply Gr.drewN | apply Gr.drew | apply Gr.alloc | apply Gr.gro)) G1).trans (by repeat (first | exact Gr.refl _ | apply Gr.drewN | apply Gr.drew | apply Gr.alloc | apply Gr.gro))), c_e5.gr ((Gr.trans (by repeat (first | exact Gr.refl _ | apply Gr.drewN | apply Gr.drew | apply Gr.alloc | apply Gr.gro)) G1).trans (by repeat (first | exact Gr.refl _ | apply Gr.drewN | apply Gr.drew | apply Gr.alloc | apply Gr.gro))), S1.gr (by repeat (first | exact Gr.refl _ | apply Gr.drewN | apply Gr.drew | apply Gr.alloc | apply Gr.gro))⟩
  clear HV
  obtain ⟨bx, rfl, rfl, HV⟩ := hcut
  have ⟨G, c_w_heap_size, c__w_heap_size_1_, c_e5, S_x⟩ := HV.out
  have ⟨hc_w_heap_size, fc_w_heap_size, pc_w_heap_size⟩ := c_w_heap_size
  have ⟨hc__w_heap_size_1_, fc__w_heap_size_1_, pc__w_heap_size_1_⟩ := c__w_heap_size_1_
  have ⟨hc_e5, fc_e5, pc_e5⟩ := c_e5
  go_upto_region 8 with (first
      | (go_at_call 12; refine (num_any _ _).mono ?_; rintro e w' ⟨rfl, rfl⟩))
  refine gen_w (fun v => Hid (Gr w v ∧ Cl v (w.heap.size) m ∧ Cl v (w.heap.size + 1) a ∧ Cl v e5 O ∧ Mn v bx O k u)) ⟨G.trans (by repeat (first | exact Gr.refl _ | apply Gr.drewN | apply Gr.drew | apply Gr.alloc | apply Gr.gro)), c_w_heap_size.gr (by repeat (first | exact Gr.refl _ | apply Gr.drewN | apply Gr.drew | apply Gr.alloc | apply Gr.gro)), c__w_heap_size_1_.gr (by repeat (first | exact Gr.refl _ | apply Gr.drewN | apply Gr.drew | apply Gr.alloc | apply Gr.gro)), c_e5.gr (by repeat (first | exact Gr.refl _ | apply Gr.drewN | apply Gr.drew | apply Gr.alloc | apply Gr.gro)), S_x.gr (by repeat (first | exact Gr.refl _ | apply Gr.drewN | apply Gr.drew | apply Gr.alloc | apply Gr.gro))⟩ ?_
  clear HV G c_w_heap_size c__w_heap_size_1_ c_e5 S_x
  intro v2 HV
  go_cut [8, 9, 10] from 40 to 46 (fun a0 a1 a2 wx => ∃ e8 e9 : Nat, a0 = .pointer (some ⟨e8, 0, none⟩) ∧ a1 = .pointer (some ⟨e9, 0, none⟩) ∧ a2 = .int .i64 0 ∧ Hid (Gr w wx ∧ Cl wx (w.heap.size) m ∧ Cl wx (w.heap.size + 1) a ∧ Cl wx e5 O ∧ Cl wx e8 d ∧ Cl wx e9 r0 ∧ Mn wx bx O k u))
  case first =>
    have ⟨G, c_w_heap_size, c__w_heap_size_1_, c_e5, S_x⟩ := HV.out
    have ⟨hc_w_heap_size, fc_w_heap_size, pc_w_heap_size⟩ := c_w_heap_size
    have ⟨hc__w_heap_size_1_, fc__w_heap_size_1_, pc__w_heap_size_1_⟩ := c__w_heap_size_1_
    have ⟨hc_e5, fc_e5, pc_e5⟩ := c_e5
    go_wp2_with (first
        | (go_at_call_of 25 ((#[.agg (nw 9 a), .agg (nw 9 O)] : Array Value)); refine (DV.out _).mono ?_; rintro e w' ⟨rfl, g1, rfl⟩)
        | (go_at_call 12; refine (num_any _ _).mono ?_; rintro e w' ⟨rfl, rfl⟩))
    go_meet
    exact ⟨_, _, rfl, rfl, rfl, G.trans (by repeat (first | exact Gr.refl _ | apply Gr.drewN | apply Gr.drew | apply Gr.alloc | apply Gr.gro)), c_w_heap_size.gr (by repeat (first | exact Gr.refl _ | apply Gr.drewN | apply Gr.drew | apply Gr.alloc | apply Gr.gro)), c__w_heap_size_1_.gr (by repeat (first | exact Gr.refl _ | apply Gr.drewN | apply Gr.drew | apply Gr.alloc | apply Gr.gro)), c_e5.gr (by repeat (first | exact Gr.refl _ | apply Gr.drewN | apply Gr.drew | apply Gr.alloc | apply Gr.gro)), ⟨by simp [go_sem], by simp [go_sem], by simp [go_sem]⟩, ⟨by simp [go_sem], by simp [go_sem], by simp [go_sem]⟩, S_x.gr (by repeat (first | exact Gr.refl _ | apply Gr.drewN | apply Gr.drew | apply Gr.alloc | apply Gr.gro))⟩
  clear HV
  obtain ⟨e8, e9, rfl, rfl, rfl, HV⟩ := hcut
  go_upto_region 9 with fail
  go_cut [11, 12] from 47 to 52 (fun a0 a1 wx => ∃ e11 : Nat, a0 = .pointer (some ⟨e11, 0, none⟩) ∧ a1 = .int .i64 0 ∧ Hid (Gr w wx ∧ Cl wx (w.heap.size) m ∧ Cl wx (w.heap.size + 1) a ∧ Cl wx e5 O ∧ Cl wx e8 d ∧ Cl wx e9 r0 ∧ Cl wx e11 t ∧ Mn wx bx O k u))
  case first =>
    have ⟨G, c_w_heap_size, c__w_heap_size_1_, c_e5, c_e8, c_e9, S_x⟩ := HV.out
    have ⟨hc_w_heap_size, fc_w_heap_size, pc_w_heap_size⟩ := c_w_heap_size
    have ⟨hc__w_heap_size_1_, fc__w_heap_size_1_, pc__w_heap_size_1_⟩ := c__w_heap_size_1_
    have ⟨hc_e5, fc_e5, pc_e5⟩ := c_e5
    have ⟨hc_e8, fc_e8, pc_e8⟩ := c_e8
    have ⟨hc_e9, fc_e9, pc_e9⟩ := c_e9
    go_wp2_with (first
        | (go_at_call_of 26 ((#[.int .u64 1] : Array Value)); refine (O1.out _).mono ?_; rintro e w' ⟨rfl, g2, rfl⟩)
        | (go_at_call_of 15 ((#[.pointer (some ⟨bx, 0, none⟩), .agg (nw 9 1)] : Array Value)); refine (T1.out bx _ (S_x.gr (by repeat (first | exact Gr.refl _ | apply Gr.drewN | apply Gr.drew | apply Gr.alloc | apply Gr.gro)))).mono ?_; rintro e w' ⟨rfl, g3, rfl⟩)
        | (go_at_call 12; refine (num_any _ _).mono ?_; rintro e w' ⟨rfl, rfl⟩))
    go_meet
    exact ⟨_, rfl, rfl, G.trans (by repeat (first | exact Gr.refl _ | apply Gr.drewN | apply Gr.drew | apply Gr.alloc | apply Gr.gro)), c_w_heap_size.gr (by repeat (first | exact Gr.refl _ | apply Gr.drewN | apply Gr.drew | apply Gr.alloc | apply Gr.gro)), c__w_heap_size_1_.gr (by repeat (first | exact Gr.refl _ | apply Gr.drewN | apply Gr.drew | apply Gr.alloc | apply Gr.gro)), c_e5.gr (by repeat (first | exact Gr.refl _ | apply Gr.drewN | apply Gr.drew | apply Gr.alloc | apply Gr.gro)), c_e8.gr (by repeat (first | exact Gr.refl _ | apply Gr.drewN | apply Gr.drew | apply Gr.alloc | apply Gr.gro)), c_e9.gr (by repeat (first | exact Gr.refl _ | apply Gr.drewN | apply Gr.drew | apply Gr.alloc | apply Gr.gro)), ⟨by simp [go_sem], by simp [go_sem], by simp [go_sem]⟩, S_x.gr (by repeat (first | exact Gr.refl _ | apply Gr.drewN | apply Gr.drew | apply Gr.alloc | apply Gr.gro))⟩
  clear HV
  obtain ⟨e11, rfl, rfl, HV⟩ := hcut
  go_upto_region 10 with fail
  go_cut [13, 14] from 53 to 59 (fun a0 a1 wx => ∃ e13 : Nat, a0 = .pointer (some ⟨e13, 0, none⟩) ∧ a1 = .int .i64 0 ∧ Hid (Gr w wx ∧ Cl wx (w.heap.size) m ∧ Cl wx (w.heap.size + 1) a ∧ Cl wx e5 O ∧ Cl wx e8 d ∧ Cl wx e9 r0 ∧ Cl wx e11 t ∧ Cl wx e13 r0 ∧ Mn wx bx O k u))
  case first =>
    have ⟨G, c_w_heap_size, c__w_heap_size_1_, c_e5, c_e8, c_e9, c_e11, S_x⟩ := HV.out
    have ⟨hc_w_heap_size, fc_w_heap_size, pc_w_heap_size⟩ := c_w_heap_size
    have ⟨hc__w_heap_size_1_, fc__w_heap_size_1_, pc__w_heap_size_1_⟩ := c__w_heap_size_1_
    have ⟨hc_e5, fc_e5, pc_e5⟩ := c_e5
    have ⟨hc_e8, fc_e8, pc_e8⟩ := c_e8
    have ⟨hc_e9, fc_e9, pc_e9⟩ := c_e9
    have ⟨hc_e11, fc_e11, pc_e11⟩ := c_e11
    go_wp2_with (first
        | (go_at_call_of 17 ((#[.pointer (some ⟨bx, 0, none⟩), .agg (nw 9 r0), .agg (nw 9 t)] : Array Value)); refine (M1.out bx _ (S_x.gr (by repeat (first | exact Gr.refl _ | apply Gr.drewN | apply Gr.drew | apply Gr.alloc | apply Gr.gro)))).mono ?_; rintro e w' ⟨rfl, g4, rfl⟩)
        | (go_at_call 12; refine (num_any _ _).mono ?_; rintro e w' ⟨rfl, rfl⟩))
    go_meet
    exact ⟨_, rfl, rfl, G.trans (by repeat (first | exact Gr.refl _ | apply Gr.drewN | apply Gr.drew | apply Gr.alloc | apply Gr.gro)), c_w_heap_size.gr (by repeat (first | exact Gr.refl _ | apply Gr.drewN | apply Gr.drew | apply Gr.alloc | apply Gr.gro)), c__w_heap_size_1_.gr (by repeat (first | exact Gr.refl _ | apply Gr.drewN | apply Gr.drew | apply Gr.alloc | apply Gr.gro)), c_e5.gr (by repeat (first | exact Gr.refl _ | apply Gr.drewN | apply Gr.drew | apply Gr.alloc | apply Gr.gro)), c_e8.gr (by repeat (first | exact Gr.refl _ | apply Gr.drewN | apply Gr.drew | apply Gr.alloc | apply Gr.gro)), c_e9.gr (by repeat (first | exact Gr.refl _ | apply Gr.drewN | apply Gr.drew | apply Gr.alloc | apply Gr.gro)), c_e11.gr (by repeat (first | exact Gr.refl _ | apply Gr.drewN | apply Gr.drew | apply Gr.alloc | apply Gr.gro)), ⟨by simp [go_sem], by simp [go_sem], by simp [go_sem]⟩, S_x.gr (by repeat (first | exact Gr.refl _ | apply Gr.drewN | apply Gr.drew | apply Gr.alloc | apply Gr.gro))⟩
  clear HV
  obtain ⟨e13, rfl, rfl, HV⟩ := hcut
  go_upto_region 11 with fail
  go_cut [15, 16] from 60 to 65 (fun a0 a1 wx => ∃ e15 : Nat, a0 = .pointer (some ⟨e15, 0, none⟩) ∧ a1 = .int .i64 0 ∧ Hid (Gr w wx ∧ Cl wx (w.heap.size) m ∧ Cl wx (w.heap.size + 1) a ∧ Cl wx e5 O ∧ Cl wx e8 d ∧ Cl wx e9 r0 ∧ Cl wx e11 t ∧ Cl wx e13 r0 ∧ Cl wx e15 1 ∧ Mn wx bx O k u))
  case first =>
    have ⟨G, c_w_heap_size, c__w_heap_size_1_, c_e5, c_e8, c_e9, c_e11, c_e13, S_x⟩ := HV.out
    have ⟨hc_w_heap_size, fc_w_heap_size, pc_w_heap_size⟩ := c_w_heap_size
    have ⟨hc__w_heap_size_1_, fc__w_heap_size_1_, pc__w_heap_size_1_⟩ := c__w_heap_size_1_
    have ⟨hc_e5, fc_e5, pc_e5⟩ := c_e5
    have ⟨hc_e8, fc_e8, pc_e8⟩ := c_e8
    have ⟨hc_e9, fc_e9, pc_e9⟩ := c_e9
    have ⟨hc_e11, fc_e11, pc_e11⟩ := c_e11
    have ⟨hc_e13, fc_e13, pc_e13⟩ := c_e13
    go_wp2_with (first
        | (go_at_call_of 16 ((#[.pointer (some ⟨bx, 0, none⟩), .agg (nw 9 t)] : Array Value)); refine (F1.out bx _ (S_x.gr (by repeat (first | exact Gr.refl _ | apply Gr.drewN | apply Gr.drew | apply Gr.alloc | apply Gr.gro)))).mono ?_; rintro e w' ⟨rfl, g5, rfl⟩)
        | (go_at_call 12; refine (num_any _ _).mono ?_; rintro e w' ⟨rfl, rfl⟩))
    go_meet
    exact ⟨_, rfl, rfl, G.trans (by repeat (first | exact Gr.refl _ | apply Gr.drewN | apply Gr.drew | apply Gr.alloc | apply Gr.gro)), c_w_heap_size.gr (by repeat (first | exact Gr.refl _ | apply Gr.drewN | apply Gr.drew | apply Gr.alloc | apply Gr.gro)), c__w_heap_size_1_.gr (by repeat (first | exact Gr.refl _ | apply Gr.drewN | apply Gr.drew | apply Gr.alloc | apply Gr.gro)), c_e5.gr (by repeat (first | exact Gr.refl _ | apply Gr.drewN | apply Gr.drew | apply Gr.alloc | apply Gr.gro)), c_e8.gr (by repeat (first | exact Gr.refl _ | apply Gr.drewN | apply Gr.drew | apply Gr.alloc | apply Gr.gro)), c_e9.gr (by repeat (first | exact Gr.refl _ | apply Gr.drewN | apply Gr.drew | apply Gr.alloc | apply Gr.gro)), c_e11.gr (by repeat (first | exact Gr.refl _ | apply Gr.drewN | apply Gr.drew | apply Gr.alloc | apply Gr.gro)), c_e13.gr (by repeat (first | exact Gr.refl _ | apply Gr.drewN | apply Gr.drew | apply Gr.alloc | apply Gr.gro)), ⟨by simp [go_sem], by simp [go_sem], by simp [go_sem]⟩, S_x.gr (by repeat (first | exact Gr.refl _ | apply Gr.drewN | apply Gr.drew | apply Gr.alloc | apply Gr.gro))⟩
  clear HV
  obtain ⟨e15, rfl, rfl, HV⟩ := hcut
  go_upto_region 12 with fail
  go_cut [17, 18] from 66 to 71 (fun a0 a1 wx => ∃ e17 : Nat, a0 = .pointer (some ⟨e17, 0, none⟩) ∧ a1 = .int .i64 401 ∧ Hid (Gr w wx ∧ Cl wx (w.heap.size) m ∧ Cl wx (w.heap.size + 1) a ∧ Cl wx e5 O ∧ Cl wx e8 d ∧ Cl wx e9 r0 ∧ Cl wx e11 t ∧ Cl wx e13 r0 ∧ Cl wx e15 1 ∧ Cl wx e17 0 ∧ Mn wx bx O k u))
  case first =>
    have ⟨G, c_w_heap_size, c__w_heap_size_1_, c_e5, c_e8, c_e9, c_e11, c_e13, c_e15, S_x⟩ := HV.out
    have ⟨hc_w_heap_size, fc_w_heap_size, pc_w_heap_size⟩ := c_w_heap_size
    have ⟨hc__w_heap_size_1_, fc__w_heap_size_1_, pc__w_heap_size_1_⟩ := c__w_heap_size_1_
    have ⟨hc_e5, fc_e5, pc_e5⟩ := c_e5
    have ⟨hc_e8, fc_e8, pc_e8⟩ := c_e8
    have ⟨hc_e9, fc_e9, pc_e9⟩ := c_e9
    have ⟨hc_e11, fc_e11, pc_e11⟩ := c_e11
    have ⟨hc_e13, fc_e13, pc_e13⟩ := c_e13
    have ⟨hc_e15, fc_e15, pc_e15⟩ := c_e15
    go_wp2_with (first
        | (go_at_call_of 18 ((#[.pointer (some ⟨bx, 0, none⟩), .agg (nw 9 r0)] : Array Value)); refine (I1.out bx _ (S_x.gr (by repeat (first | exact Gr.refl _ | apply Gr.drewN | apply Gr.drew | apply Gr.alloc | apply Gr.gro)))).mono ?_; rintro e w' ⟨rfl, g6, rfl⟩)
        | (go_at_call 12; refine (num_any _ _).mono ?_; rintro e w' ⟨rfl, rfl⟩))
    go_meet
    exact ⟨_, rfl, rfl, G.trans (by repeat (first | exact Gr.refl _ | apply Gr.drewN | apply Gr.drew | apply Gr.alloc | apply Gr.gro)), c_w_heap_size.gr (by repeat (first | exact Gr.refl _ | apply Gr.drewN | apply Gr.drew | apply Gr.alloc | apply Gr.gro)), c__w_heap_size_1_.gr (by repeat (first | exact Gr.refl _ | apply Gr.drewN | apply Gr.drew | apply Gr.alloc | apply Gr.gro)), c_e5.gr (by repeat (first | exact Gr.refl _ | apply Gr.drewN | apply Gr.drew | apply Gr.alloc | apply Gr.gro)), c_e8.gr (by repeat (first | exact Gr.refl _ | apply Gr.drewN | apply Gr.drew | apply Gr.alloc | apply Gr.gro)), c_e9.gr (by repeat (first | exact Gr.refl _ | apply Gr.drewN | apply Gr.drew | apply Gr.alloc | apply Gr.gro)), c_e11.gr (by repeat (first | exact Gr.refl _ | apply Gr.drewN | apply Gr.drew | apply Gr.alloc | apply Gr.gro)), c_e13.gr (by repeat (first | exact Gr.refl _ | apply Gr.drewN | apply Gr.drew | apply Gr.alloc | apply Gr.gro)), c_e15.gr (by repeat (first | exact Gr.refl _ | apply Gr.drewN | apply Gr.drew | apply Gr.alloc | apply Gr.gro)), ⟨by simp [go_sem], by simp [go_sem], by simp [go_sem]⟩, S_x.gr (by repeat (first | exact Gr.refl _ | apply Gr.drewN | apply Gr.drew | apply Gr.alloc | apply Gr.gro))⟩
  clear HV
  obtain ⟨e17, rfl, rfl, HV⟩ := hcut
  go_upto_region 13 with fail
  go_cut [19, 20] from 72 to 78 (fun a0 a1 wx => ∃ e19 : Nat, a0 = .pointer (some ⟨e19, 0, none⟩) ∧ a1 = .int .i64 0 ∧ Hid (Gr w wx ∧ Cl wx (w.heap.size) m ∧ Cl wx (w.heap.size + 1) a ∧ Cl wx e5 O ∧ Cl wx e8 d ∧ Cl wx e9 r0 ∧ Cl wx e11 t ∧ Cl wx e13 r0 ∧ Cl wx e15 1 ∧ Cl wx e17 0 ∧ Cl wx e19 0 ∧ Mn wx bx O k u))
  case first =>
    have ⟨G, c_w_heap_size, c__w_heap_size_1_, c_e5, c_e8, c_e9, c_e11, c_e13, c_e15, c_e17, S_x⟩ := HV.out
    have ⟨hc_w_heap_size, fc_w_heap_size, pc_w_heap_size⟩ := c_w_heap_size
    have ⟨hc__w_heap_size_1_, fc__w_heap_size_1_, pc__w_heap_size_1_⟩ := c__w_heap_size_1_
    have ⟨hc_e5, fc_e5, pc_e5⟩ := c_e5
    have ⟨hc_e8, fc_e8, pc_e8⟩ := c_e8
    have ⟨hc_e9, fc_e9, pc_e9⟩ := c_e9
    have ⟨hc_e11, fc_e11, pc_e11⟩ := c_e11
    have ⟨hc_e13, fc_e13, pc_e13⟩ := c_e13
    have ⟨hc_e15, fc_e15, pc_e15⟩ := c_e15
    have ⟨hc_e17, fc_e17, pc_e17⟩ := c_e17
    go_wp2_with (first
        | (go_at_call_of 17 ((#[.pointer (some ⟨bx, 0, none⟩), .agg (nw 9 r0), .agg (nw 9 0)] : Array Value)); refine (M2.out bx _ (S_x.gr (by repeat (first | exact Gr.refl _ | apply Gr.drewN | apply Gr.drew | apply Gr.alloc | apply Gr.gro)))).mono ?_; rintro e w' ⟨rfl, g7, rfl⟩)
        | (go_at_call 12; refine (num_any _ _).mono ?_; rintro e w' ⟨rfl, rfl⟩))
    go_meet
    exact ⟨_, rfl, rfl, G.trans (by repeat (first | exact Gr.refl _ | apply Gr.drewN | apply Gr.drew | apply Gr.alloc | apply Gr.gro)), c_w_heap_size.gr (by repeat (first | exact Gr.refl _ | apply Gr.drewN | apply Gr.drew | apply Gr.alloc | apply Gr.gro)), c__w_heap_size_1_.gr (by repeat (first | exact Gr.refl _ | apply Gr.drewN | apply Gr.drew | apply Gr.alloc | apply Gr.gro)), c_e5.gr (by repeat (first | exact Gr.refl _ | apply Gr.drewN | apply Gr.drew | apply Gr.alloc | apply Gr.gro)), c_e8.gr (by repeat (first | exact Gr.refl _ | apply Gr.drewN | apply Gr.drew | apply Gr.alloc | apply Gr.gro)), c_e9.gr (by repeat (first | exact Gr.refl _ | apply Gr.drewN | apply Gr.drew | apply Gr.alloc | apply Gr.gro)), c_e11.gr (by repeat (first | exact Gr.refl _ | apply Gr.drewN | apply Gr.drew | apply Gr.alloc | apply Gr.gro)), c_e13.gr (by repeat (first | exact Gr.refl _ | apply Gr.drewN | apply Gr.drew | apply Gr.alloc | apply Gr.gro)), c_e15.gr (by repeat (first | exact Gr.refl _ | apply Gr.drewN | apply Gr.drew | apply Gr.alloc | apply Gr.gro)), c_e17.gr (by repeat (first | exact Gr.refl _ | apply Gr.drewN | apply Gr.drew | apply Gr.alloc | apply Gr.gro)), ⟨by simp [go_sem], by simp [go_sem], by simp [go_sem]⟩, S_x.gr (by repeat (first | exact Gr.refl _ | apply Gr.drewN | apply Gr.drew | apply Gr.alloc | apply Gr.gro))⟩
  clear HV
  obtain ⟨e19, rfl, rfl, HV⟩ := hcut
  go_upto_region 14 with fail
  go_cut [21, 22] from 79 to 84 (fun a0 a1 wx => ∃ e21 : Nat, a0 = .pointer (some ⟨e21, 0, none⟩) ∧ a1 = .int .i64 401 ∧ Hid (Gr w wx ∧ Cl wx (w.heap.size) m ∧ Cl wx (w.heap.size + 1) a ∧ Cl wx e5 O ∧ Cl wx e8 d ∧ Cl wx e9 r0 ∧ Cl wx e11 t ∧ Cl wx e13 r0 ∧ Cl wx e15 1 ∧ Cl wx e17 0 ∧ Cl wx e19 0 ∧ Cl wx e21 0 ∧ Mn wx bx O k u))
  case first =>
    have ⟨G, c_w_heap_size, c__w_heap_size_1_, c_e5, c_e8, c_e9, c_e11, c_e13, c_e15, c_e17, c_e19, S_x⟩ := HV.out
    have ⟨hc_w_heap_size, fc_w_heap_size, pc_w_heap_size⟩ := c_w_heap_size
    have ⟨hc__w_heap_size_1_, fc__w_heap_size_1_, pc__w_heap_size_1_⟩ := c__w_heap_size_1_
    have ⟨hc_e5, fc_e5, pc_e5⟩ := c_e5
    have ⟨hc_e8, fc_e8, pc_e8⟩ := c_e8
    have ⟨hc_e9, fc_e9, pc_e9⟩ := c_e9
    have ⟨hc_e11, fc_e11, pc_e11⟩ := c_e11
    have ⟨hc_e13, fc_e13, pc_e13⟩ := c_e13
    have ⟨hc_e15, fc_e15, pc_e15⟩ := c_e15
    have ⟨hc_e17, fc_e17, pc_e17⟩ := c_e17
    have ⟨hc_e19, fc_e19, pc_e19⟩ := c_e19
    go_wp2_with (first
        | (go_at_call_of 27 ((#[.agg (nw 9 r0), .agg (nw 9 O)] : Array Value)); refine (IV.out _).mono ?_; rintro e w' ⟨rfl, g8, rfl⟩)
        | (go_at_call 12; refine (num_any _ _).mono ?_; rintro e w' ⟨rfl, rfl⟩))
    go_meet
    exact ⟨_, rfl, rfl, G.trans (by repeat (first | exact Gr.refl _ | apply Gr.drewN | apply Gr.drew | apply Gr.alloc | apply Gr.gro)), c_w_heap_size.gr (by repeat (first | exact Gr.refl _ | apply Gr.drewN | apply Gr.drew | apply Gr.alloc | apply Gr.gro)), c__w_heap_size_1_.gr (by repeat (first | exact Gr.refl _ | apply Gr.drewN | apply Gr.drew | apply Gr.alloc | apply Gr.gro)), c_e5.gr (by repeat (first | exact Gr.refl _ | apply Gr.drewN | apply Gr.drew | apply Gr.alloc | apply Gr.gro)), c_e8.gr (by repeat (first | exact Gr.refl _ | apply Gr.drewN | apply Gr.drew | apply Gr.alloc | apply Gr.gro)), c_e9.gr (by repeat (first | exact Gr.refl _ | apply Gr.drewN | apply Gr.drew | apply Gr.alloc | apply Gr.gro)), c_e11.gr (by repeat (first | exact Gr.refl _ | apply Gr.drewN | apply Gr.drew | apply Gr.alloc | apply Gr.gro)), c_e13.gr (by repeat (first | exact Gr.refl _ | apply Gr.drewN | apply Gr.drew | apply Gr.alloc | apply Gr.gro)), c_e15.gr (by repeat (first | exact Gr.refl _ | apply Gr.drewN | apply Gr.drew | apply Gr.alloc | apply Gr.gro)), c_e17.gr (by repeat (first | exact Gr.refl _ | apply Gr.drewN | apply Gr.drew | apply Gr.alloc | apply Gr.gro)), c_e19.gr (by repeat (first | exact Gr.refl _ | apply Gr.drewN | apply Gr.drew | apply Gr.alloc | apply Gr.gro)), ⟨by simp [go_sem], by simp [go_sem], by simp [go_sem]⟩, S_x.gr (by repeat (first | exact Gr.refl _ | apply Gr.drewN | apply Gr.drew | apply Gr.alloc | apply Gr.gro))⟩
  clear HV
  obtain ⟨e21, rfl, rfl, HV⟩ := hcut
  go_upto_region 15 with fail
  obtain ⟨G, c_w_heap_size, c__w_heap_size_1_, c_e5, c_e8, c_e9, c_e11, c_e13, c_e15, c_e17, c_e19, c_e21, S_x⟩ := HV.out
  refine wp_region_pred (by kernel_rfl) (by kernel_rfl) [.c (.int .i64 0), .c (.int .i64 0), .c (.bool true), .c (.bool true), .c (.int .i64 0), .c (.int .i64 0), .c (.bool true), .c (.bool true), .c (.bool true), .c (.int .i64 0), .c (.int .i64 0), .c (.bool true), .c (.bool true), .c (.bool true), .c (.agg (nw 9 r0)), .c (.agg (nw 9 r0)), .c (.bool true), .c (.bool true), .c (.bool true), .c (.agg (nw 9 1)), .c (.agg (nw 9 1)), .c (.bool true), .c (.bool true), .c (.bool true), .c (.int .i64 401), .c (.int .i64 401), .c (.int .i64 401), .c (.int .i64 401), .c (.bool true), .c (.bool true), .c (.bool true), .c (.int .i64 401), .c (.int .i64 401), .c (.bool true), .c (.bool true), .c undef, .c undef, .c undef, .c (.bool true), .c (.bool true), .c (.bool true)] ?hs ?hf
  case hs =>
    intro listed vals a1 v i o hg hR hF ho hd
    have Hc_w_heap_size : blk v (w.heap.size) = nw 9 m := (hg.blk _ c_w_heap_size.p).trans c_w_heap_size.h
    have Hc__w_heap_size_1_ : blk v (w.heap.size + 1) = nw 9 a := (hg.blk _ c__w_heap_size_1_.p).trans c__w_heap_size_1_.h
    have Hc_e5 : blk v e5 = nw 9 O := (hg.blk _ c_e5.p).trans c_e5.h
    have Hc_e8 : blk v e8 = nw 9 d := (hg.blk _ c_e8.p).trans c_e8.h
    have Hc_e9 : blk v e9 = nw 9 r0 := (hg.blk _ c_e9.p).trans c_e9.h
    have Hc_e11 : blk v e11 = nw 9 t := (hg.blk _ c_e11.p).trans c_e11.h
    have Hc_e13 : blk v e13 = nw 9 r0 := (hg.blk _ c_e13.p).trans c_e13.h
    have Hc_e15 : blk v e15 = nw 9 1 := (hg.blk _ c_e15.p).trans c_e15.h
    have Hc_e17 : blk v e17 = nw 9 0 := (hg.blk _ c_e17.p).trans c_e17.h
    have Hc_e19 : blk v e19 = nw 9 0 := (hg.blk _ c_e19.p).trans c_e19.h
    have Hc_e21 : blk v e21 = nw 9 0 := (hg.blk _ c_e21.p).trans c_e21.h
    have hi : i < 41 := by simpa using (Array.getElem?_eq_some_iff.1 ho).1
    obtain rfl | rfl | rfl | rfl | rfl | rfl | rfl | rfl | rfl | rfl | rfl | rfl | rfl | rfl | rfl | rfl | rfl | rfl | rfl | rfl | rfl | rfl | rfl | rfl | rfl | rfl | rfl | rfl | rfl | rfl | rfl | rfl | rfl | rfl | rfl | rfl | rfl | rfl | rfl | rfl | rfl : i = 0 ∨ i = 1 ∨ i = 2 ∨ i = 3 ∨ i = 4 ∨ i = 5 ∨ i = 6 ∨ i = 7 ∨ i = 8 ∨ i = 9 ∨ i = 10 ∨ i = 11 ∨ i = 12 ∨ i = 13 ∨ i = 14 ∨ i = 15 ∨ i = 16 ∨ i = 17 ∨ i = 18 ∨ i = 19 ∨ i = 20 ∨ i = 21 ∨ i = 22 ∨ i = 23 ∨ i = 24 ∨ i = 25 ∨ i = 26 ∨ i = 27 ∨ i = 28 ∨ i = 29 ∨ i = 30 ∨ i = 31 ∨ i = 32 ∨ i = 33 ∨ i = 34 ∨ i = 35 ∨ i = 36 ∨ i = 37 ∨ i = 38 ∨ i = 39 ∨ i = 40 := by omega
    · obtain rfl := Option.some.inj ho
      have f0 := hF.old (s := 12) (v := .int .i64 0) (by kernel_rfl) rfl
      refine Or.inl ⟨wanted_no rfl, ?_⟩
      exact wp_val (.int .i64 0) (by simp [go_sem, f0]) ⟨_, rfl, Gr.refl _, rfl⟩
    · obtain rfl := Option.some.inj ho
      have l0 := on_of hd 0 (by kernel_rfl)
      have f0 := hF.at (s := 85) (i := 0) (by kernel_rfl) (by simp) l0
      rw [show vals 0 = .int .i64 0 from hR 0 l0] at f0
      refine Or.inl ⟨wanted_no rfl, ?_⟩
      exact wp_ret (.int .i64 0) (by simp [go_sem, f0]) (num5_gr _ _) (fun w2 hg2 => ⟨_, rfl, hg2, rfl⟩)
    · obtain rfl := Option.some.inj ho
      have l0 := on_of hd 1 (by kernel_rfl)
      have f0 := hF.at (s := 86) (i := 1) (by kernel_rfl) (by simp) l0
      rw [show vals 1 = .int .i64 0 from hR 1 l0] at f0
      refine Or.inl ⟨wanted_no rfl, ?_⟩
      exact wp_val (.bool true) (by simp [go_sem, f0]) ⟨_, rfl, Gr.refl _, rfl⟩
    · obtain rfl := Option.some.inj ho
      have l0 := on_of hd 2 (by kernel_rfl)
      have f0 := hF.at (s := 87) (i := 2) (by kernel_rfl) (by simp) l0
      rw [show vals 2 = .bool true from hR 2 l0] at f0
      refine Or.inl ⟨wanted_no rfl, ?_⟩
      exact wp_val (.bool true) (by simp [go_sem, f0]) ⟨_, rfl, Gr.refl _, rfl⟩
    · obtain rfl := Option.some.inj ho
      have lg := on_of hd 3 (by kernel_rfl)
      have fg := hF.at (s := 88) (i := 3) (by kernel_rfl) (by simp) lg
      rw [show vals 3 = .bool true from hR 3 lg] at fg
      have f0 := hF.old (s := 14) (v := .int .i64 0) (by kernel_rfl) rfl
      refine Or.inl ⟨wanted_at (j := 3) (s := 88) rfl rfl rfl fg, ?_⟩
      exact wp_val (.int .i64 0) (by simp [go_sem, f0]) ⟨_, rfl, Gr.refl _, rfl⟩
    · obtain rfl := Option.some.inj ho
      have lg := on_of hd 3 (by kernel_rfl)
      have fg := hF.at (s := 88) (i := 3) (by kernel_rfl) (by simp) lg
      rw [show vals 3 = .bool true from hR 3 lg] at fg
      have l0 := on_of hd 4 (by kernel_rfl)
      have f0 := hF.at (s := 89) (i := 4) (by kernel_rfl) (by simp) l0
      rw [show vals 4 = .int .i64 0 from hR 4 l0] at f0
      refine Or.inl ⟨wanted_at (j := 3) (s := 88) rfl rfl rfl fg, ?_⟩
      exact wp_ret (.int .i64 0) (by simp [go_sem, f0]) (num5_gr _ _) (fun w2 hg2 => ⟨_, rfl, hg2, rfl⟩)
    · obtain rfl := Option.some.inj ho
      have lg := on_of hd 3 (by kernel_rfl)
      have fg := hF.at (s := 88) (i := 3) (by kernel_rfl) (by simp) lg
      rw [show vals 3 = .bool true from hR 3 lg] at fg
      have l0 := on_of hd 5 (by kernel_rfl)
      have f0 := hF.at (s := 90) (i := 5) (by kernel_rfl) (by simp) l0
      rw [show vals 5 = .int .i64 0 from hR 5 l0] at f0
      refine Or.inl ⟨wanted_at (j := 3) (s := 88) rfl rfl rfl fg, ?_⟩
      exact wp_val (.bool true) (by simp [go_sem, f0]) ⟨_, rfl, Gr.refl _, rfl⟩
    · obtain rfl := Option.some.inj ho
      have l0 := on_of hd 3 (by kernel_rfl)
      have f0 := hF.at (s := 88) (i := 3) (by kernel_rfl) (by simp) l0
      rw [show vals 3 = .bool true from hR 3 l0] at f0
      have l1 := on_of hd 6 (by kernel_rfl)
      have f1 := hF.at (s := 91) (i := 6) (by kernel_rfl) (by simp) l1
      rw [show vals 6 = .bool true from hR 6 l1] at f1
      refine Or.inl ⟨wanted_no rfl, ?_⟩
      exact wp_val (.bool true) (by simp [go_sem, f0, f1]) ⟨_, rfl, Gr.refl _, rfl⟩
    · obtain rfl := Option.some.inj ho
      have l0 := on_of hd 7 (by kernel_rfl)
      have f0 := hF.at (s := 92) (i := 7) (by kernel_rfl) (by simp) l0
      rw [show vals 7 = .bool true from hR 7 l0] at f0
      refine Or.inl ⟨wanted_no rfl, ?_⟩
      exact wp_val (.bool true) (by simp [go_sem, f0]) ⟨_, rfl, Gr.refl _, rfl⟩
    · obtain rfl := Option.some.inj ho
      have lg := on_of hd 8 (by kernel_rfl)
      have fg := hF.at (s := 93) (i := 8) (by kernel_rfl) (by simp) lg
      rw [show vals 8 = .bool true from hR 8 lg] at fg
      have f0 := hF.old (s := 16) (v := .int .i64 0) (by kernel_rfl) rfl
      refine Or.inl ⟨wanted_at (j := 8) (s := 93) rfl rfl rfl fg, ?_⟩
      exact wp_val (.int .i64 0) (by simp [go_sem, f0]) ⟨_, rfl, Gr.refl _, rfl⟩
    · obtain rfl := Option.some.inj ho
      have lg := on_of hd 8 (by kernel_rfl)
      have fg := hF.at (s := 93) (i := 8) (by kernel_rfl) (by simp) lg
      rw [show vals 8 = .bool true from hR 8 lg] at fg
      have l0 := on_of hd 9 (by kernel_rfl)
      have f0 := hF.at (s := 94) (i := 9) (by kernel_rfl) (by simp) l0
      rw [show vals 9 = .int .i64 0 from hR 9 l0] at f0
      refine Or.inl ⟨wanted_at (j := 8) (s := 93) rfl rfl rfl fg, ?_⟩
      exact wp_ret (.int .i64 0) (by simp [go_sem, f0]) (num5_gr _ _) (fun w2 hg2 => ⟨_, rfl, hg2, rfl⟩)
    · obtain rfl := Option.some.inj ho
      have lg := on_of hd 8 (by kernel_rfl)
      have fg := hF.at (s := 93) (i := 8) (by kernel_rfl) (by simp) lg
      rw [show vals 8 = .bool true from hR 8 lg] at fg
      have l0 := on_of hd 10 (by kernel_rfl)
      have f0 := hF.at (s := 95) (i := 10) (by kernel_rfl) (by simp) l0
      rw [show vals 10 = .int .i64 0 from hR 10 l0] at f0
      refine Or.inl ⟨wanted_at (j := 8) (s := 93) rfl rfl rfl fg, ?_⟩
      exact wp_val (.bool true) (by simp [go_sem, f0]) ⟨_, rfl, Gr.refl _, rfl⟩
    · obtain rfl := Option.some.inj ho
      have l0 := on_of hd 8 (by kernel_rfl)
      have f0 := hF.at (s := 93) (i := 8) (by kernel_rfl) (by simp) l0
      rw [show vals 8 = .bool true from hR 8 l0] at f0
      have l1 := on_of hd 11 (by kernel_rfl)
      have f1 := hF.at (s := 96) (i := 11) (by kernel_rfl) (by simp) l1
      rw [show vals 11 = .bool true from hR 11 l1] at f1
      refine Or.inl ⟨wanted_no rfl, ?_⟩
      exact wp_val (.bool true) (by simp [go_sem, f0, f1]) ⟨_, rfl, Gr.refl _, rfl⟩
    · obtain rfl := Option.some.inj ho
      have l0 := on_of hd 12 (by kernel_rfl)
      have f0 := hF.at (s := 97) (i := 12) (by kernel_rfl) (by simp) l0
      rw [show vals 12 = .bool true from hR 12 l0] at f0
      refine Or.inl ⟨wanted_no rfl, ?_⟩
      exact wp_val (.bool true) (by simp [go_sem, f0]) ⟨_, rfl, Gr.refl _, rfl⟩
    · obtain rfl := Option.some.inj ho
      have lg := on_of hd 13 (by kernel_rfl)
      have fg := hF.at (s := 98) (i := 13) (by kernel_rfl) (by simp) lg
      rw [show vals 13 = .bool true from hR 13 lg] at fg
      have f0 := hF.old (s := 13) (v := .pointer (some ⟨e13, 0, none⟩)) (by kernel_rfl) rfl
      refine Or.inl ⟨wanted_at (j := 13) (s := 98) rfl rfl rfl fg, ?_⟩
      exact wp_val (.agg (nw 9 r0)) (by simp [go_sem, f0, Hc_e13]) ⟨_, rfl, Gr.refl _, rfl⟩
    · obtain rfl := Option.some.inj ho
      have lg := on_of hd 13 (by kernel_rfl)
      have fg := hF.at (s := 98) (i := 13) (by kernel_rfl) (by simp) lg
      rw [show vals 13 = .bool true from hR 13 lg] at fg
      have f0 := hF.old (s := 9) (v := .pointer (some ⟨e9, 0, none⟩)) (by kernel_rfl) rfl
      refine Or.inl ⟨wanted_at (j := 13) (s := 98) rfl rfl rfl fg, ?_⟩
      exact wp_val (.agg (nw 9 r0)) (by simp [go_sem, f0, Hc_e9]) ⟨_, rfl, Gr.refl _, rfl⟩
    · obtain rfl := Option.some.inj ho
      have lg := on_of hd 13 (by kernel_rfl)
      have fg := hF.at (s := 98) (i := 13) (by kernel_rfl) (by simp) lg
      rw [show vals 13 = .bool true from hR 13 lg] at fg
      have l0 := on_of hd 14 (by kernel_rfl)
      have f0 := hF.at (s := 99) (i := 14) (by kernel_rfl) (by simp) l0
      rw [show vals 14 = .agg (nw 9 r0) from hR 14 l0] at f0
      have l1 := on_of hd 15 (by kernel_rfl)
      have f1 := hF.at (s := 100) (i := 15) (by kernel_rfl) (by simp) l1
      rw [show vals 15 = .agg (nw 9 r0) from hR 15 l1] at f1
      refine Or.inl ⟨wanted_at (j := 13) (s := 98) rfl rfl rfl fg, ?_⟩
      exact wp_val (.bool true) (by simp [go_sem, f0, f1, eqN_self]) ⟨_, rfl, Gr.refl _, rfl⟩
    · obtain rfl := Option.some.inj ho
      have l0 := on_of hd 13 (by kernel_rfl)
      have f0 := hF.at (s := 98) (i := 13) (by kernel_rfl) (by simp) l0
      rw [show vals 13 = .bool true from hR 13 l0] at f0
      have l1 := on_of hd 16 (by kernel_rfl)
      have f1 := hF.at (s := 101) (i := 16) (by kernel_rfl) (by simp) l1
      rw [show vals 16 = .bool true from hR 16 l1] at f1
      refine Or.inl ⟨wanted_no rfl, ?_⟩
      exact wp_val (.bool true) (by simp [go_sem, f0, f1]) ⟨_, rfl, Gr.refl _, rfl⟩
    · obtain rfl := Option.some.inj ho
      have l0 := on_of hd 17 (by kernel_rfl)
      have f0 := hF.at (s := 102) (i := 17) (by kernel_rfl) (by simp) l0
      rw [show vals 17 = .bool true from hR 17 l0] at f0
      refine Or.inl ⟨wanted_no rfl, ?_⟩
      exact wp_val (.bool true) (by simp [go_sem, f0]) ⟨_, rfl, Gr.refl _, rfl⟩
    · obtain rfl := Option.some.inj ho
      have lg := on_of hd 18 (by kernel_rfl)
      have fg := hF.at (s := 103) (i := 18) (by kernel_rfl) (by simp) lg
      rw [show vals 18 = .bool true from hR 18 lg] at fg
      have f0 := hF.old (s := 15) (v := .pointer (some ⟨e15, 0, none⟩)) (by kernel_rfl) rfl
      refine Or.inl ⟨wanted_at (j := 18) (s := 103) rfl rfl rfl fg, ?_⟩
      exact wp_val (.agg (nw 9 1)) (by simp [go_sem, f0, Hc_e15]) ⟨_, rfl, Gr.refl _, rfl⟩
    · obtain rfl := Option.some.inj ho
      have lg := on_of hd 18 (by kernel_rfl)
      have fg := hF.at (s := 103) (i := 18) (by kernel_rfl) (by simp) lg
      rw [show vals 18 = .bool true from hR 18 lg] at fg
      refine Or.inl ⟨wanted_at (j := 18) (s := 103) rfl rfl rfl fg, ?_⟩
      exact wp_ret (.agg (nw 9 1)) (by simp [go_sem]) (O1.out _) (fun w2 hg2 => ⟨_, rfl, hg2, rfl⟩)
    · obtain rfl := Option.some.inj ho
      have lg := on_of hd 18 (by kernel_rfl)
      have fg := hF.at (s := 103) (i := 18) (by kernel_rfl) (by simp) lg
      rw [show vals 18 = .bool true from hR 18 lg] at fg
      have l0 := on_of hd 19 (by kernel_rfl)
      have f0 := hF.at (s := 104) (i := 19) (by kernel_rfl) (by simp) l0
      rw [show vals 19 = .agg (nw 9 1) from hR 19 l0] at f0
      have l1 := on_of hd 20 (by kernel_rfl)
      have f1 := hF.at (s := 105) (i := 20) (by kernel_rfl) (by simp) l1
      rw [show vals 20 = .agg (nw 9 1) from hR 20 l1] at f1
      refine Or.inl ⟨wanted_at (j := 18) (s := 103) rfl rfl rfl fg, ?_⟩
      exact wp_val (.bool true) (by simp [go_sem, f0, f1, eqN_self]) ⟨_, rfl, Gr.refl _, rfl⟩
    · obtain rfl := Option.some.inj ho
      have l0 := on_of hd 18 (by kernel_rfl)
      have f0 := hF.at (s := 103) (i := 18) (by kernel_rfl) (by simp) l0
      rw [show vals 18 = .bool true from hR 18 l0] at f0
      have l1 := on_of hd 21 (by kernel_rfl)
      have f1 := hF.at (s := 106) (i := 21) (by kernel_rfl) (by simp) l1
      rw [show vals 21 = .bool true from hR 21 l1] at f1
      refine Or.inl ⟨wanted_no rfl, ?_⟩
      exact wp_val (.bool true) (by simp [go_sem, f0, f1]) ⟨_, rfl, Gr.refl _, rfl⟩
    · obtain rfl := Option.some.inj ho
      have l0 := on_of hd 22 (by kernel_rfl)
      have f0 := hF.at (s := 107) (i := 22) (by kernel_rfl) (by simp) l0
      rw [show vals 22 = .bool true from hR 22 l0] at f0
      refine Or.inl ⟨wanted_no rfl, ?_⟩
      exact wp_val (.bool true) (by simp [go_sem, f0]) ⟨_, rfl, Gr.refl _, rfl⟩
    · obtain rfl := Option.some.inj ho
      have lg := on_of hd 23 (by kernel_rfl)
      have fg := hF.at (s := 108) (i := 23) (by kernel_rfl) (by simp) lg
      rw [show vals 23 = .bool true from hR 23 lg] at fg
      have f0 := hF.old (s := 18) (v := .int .i64 401) (by kernel_rfl) rfl
      refine Or.inl ⟨wanted_at (j := 23) (s := 108) rfl rfl rfl fg, ?_⟩
      exact wp_val (.int .i64 401) (by simp [go_sem, f0]) ⟨_, rfl, Gr.refl _, rfl⟩
    · obtain rfl := Option.some.inj ho
      have lg := on_of hd 23 (by kernel_rfl)
      have fg := hF.at (s := 108) (i := 23) (by kernel_rfl) (by simp) lg
      rw [show vals 23 = .bool true from hR 23 lg] at fg
      have l0 := on_of hd 24 (by kernel_rfl)
      have f0 := hF.at (s := 109) (i := 24) (by kernel_rfl) (by simp) l0
      rw [show vals 24 = .int .i64 401 from hR 24 l0] at f0
      refine Or.inl ⟨wanted_at (j := 23) (s := 108) rfl rfl rfl fg, ?_⟩
      exact wp_ret (.int .i64 401) (by simp [go_sem, f0]) (num5_gr _ _) (fun w2 hg2 => ⟨_, rfl, hg2, rfl⟩)
    · obtain rfl := Option.some.inj ho
      have lg := on_of hd 23 (by kernel_rfl)
      have fg := hF.at (s := 108) (i := 23) (by kernel_rfl) (by simp) lg
      rw [show vals 23 = .bool true from hR 23 lg] at fg
      have f0 := hF.old (s := 22) (v := .int .i64 401) (by kernel_rfl) rfl
      refine Or.inl ⟨wanted_at (j := 23) (s := 108) rfl rfl rfl fg, ?_⟩
      exact wp_val (.int .i64 401) (by simp [go_sem, f0]) ⟨_, rfl, Gr.refl _, rfl⟩
    · obtain rfl := Option.some.inj ho
      have lg := on_of hd 23 (by kernel_rfl)
      have fg := hF.at (s := 108) (i := 23) (by kernel_rfl) (by simp) lg
      rw [show vals 23 = .bool true from hR 23 lg] at fg
      have l0 := on_of hd 26 (by kernel_rfl)
      have f0 := hF.at (s := 111) (i := 26) (by kernel_rfl) (by simp) l0
      rw [show vals 26 = .int .i64 401 from hR 26 l0] at f0
      refine Or.inl ⟨wanted_at (j := 23) (s := 108) rfl rfl rfl fg, ?_⟩
      exact wp_ret (.int .i64 401) (by simp [go_sem, f0]) (num5_gr _ _) (fun w2 hg2 => ⟨_, rfl, hg2, rfl⟩)
    · obtain rfl := Option.some.inj ho
      have lg := on_of hd 23 (by kernel_rfl)
      have fg := hF.at (s := 108) (i := 23) (by kernel_rfl) (by simp) lg
      rw [show vals 23 = .bool true from hR 23 lg] at fg
      have l0 := on_of hd 25 (by kernel_rfl)
      have f0 := hF.at (s := 110) (i := 25) (by kernel_rfl) (by simp) l0
      rw [show vals 25 = .int .i64 401 from hR 25 l0] at f0
      have l1 := on_of hd 27 (by kernel_rfl)
      have f1 := hF.at (s := 112) (i := 27) (by kernel_rfl) (by simp) l1
      rw [show vals 27 = .int .i64 401 from hR 27 l1] at f1
      refine Or.inl ⟨wanted_at (j := 23) (s := 108) rfl rfl rfl fg, ?_⟩
      exact wp_val (.bool true) (by simp [go_sem, f0, f1]) ⟨_, rfl, Gr.refl _, rfl⟩
    · obtain rfl := Option.some.inj ho
      have l0 := on_of hd 23 (by kernel_rfl)
      have f0 := hF.at (s := 108) (i := 23) (by kernel_rfl) (by simp) l0
      rw [show vals 23 = .bool true from hR 23 l0] at f0
      have l1 := on_of hd 28 (by kernel_rfl)
      have f1 := hF.at (s := 113) (i := 28) (by kernel_rfl) (by simp) l1
      rw [show vals 28 = .bool true from hR 28 l1] at f1
      refine Or.inl ⟨wanted_no rfl, ?_⟩
      exact wp_val (.bool true) (by simp [go_sem, f0, f1]) ⟨_, rfl, Gr.refl _, rfl⟩
    · obtain rfl := Option.some.inj ho
      have l0 := on_of hd 29 (by kernel_rfl)
      have f0 := hF.at (s := 114) (i := 29) (by kernel_rfl) (by simp) l0
      rw [show vals 29 = .bool true from hR 29 l0] at f0
      refine Or.inl ⟨wanted_no rfl, ?_⟩
      exact wp_val (.bool true) (by simp [go_sem, f0]) ⟨_, rfl, Gr.refl _, rfl⟩
    · obtain rfl := Option.some.inj ho
      have lg := on_of hd 30 (by kernel_rfl)
      have fg := hF.at (s := 115) (i := 30) (by kernel_rfl) (by simp) lg
      rw [show vals 30 = .bool true from hR 30 lg] at fg
      have f0 := hF.old (s := 18) (v := .int .i64 401) (by kernel_rfl) rfl
      refine Or.inl ⟨wanted_at (j := 30) (s := 115) rfl rfl rfl fg, ?_⟩
      exact wp_val (.int .i64 401) (by simp [go_sem, f0]) ⟨_, rfl, Gr.refl _, rfl⟩
    · obtain rfl := Option.some.inj ho
      have lg := on_of hd 30 (by kernel_rfl)
      have fg := hF.at (s := 115) (i := 30) (by kernel_rfl) (by simp) lg
      rw [show vals 30 = .bool true from hR 30 lg] at fg
      have l0 := on_of hd 31 (by kernel_rfl)
      have f0 := hF.at (s := 116) (i := 31) (by kernel_rfl) (by simp) l0
      rw [show vals 31 = .int .i64 401 from hR 31 l0] at f0
      refine Or.inl ⟨wanted_at (j := 30) (s := 115) rfl rfl rfl fg, ?_⟩
      exact wp_ret (.int .i64 401) (by simp [go_sem, f0]) (num5_gr _ _) (fun w2 hg2 => ⟨_, rfl, hg2, rfl⟩)
    · obtain rfl := Option.some.inj ho
      have lg := on_of hd 30 (by kernel_rfl)
      have fg := hF.at (s := 115) (i := 30) (by kernel_rfl) (by simp) lg
      rw [show vals 30 = .bool true from hR 30 lg] at fg
      have l0 := on_of hd 32 (by kernel_rfl)
      have f0 := hF.at (s := 117) (i := 32) (by kernel_rfl) (by simp) l0
      rw [show vals 32 = .int .i64 401 from hR 32 l0] at f0
      refine Or.inl ⟨wanted_at (j := 30) (s := 115) rfl rfl rfl fg, ?_⟩
      exact wp_val (.bool true) (by simp [go_sem, f0]) ⟨_, rfl, Gr.refl _, rfl⟩
    · obtain rfl := Option.some.inj ho
      have lg := on_of hd 30 (by kernel_rfl)
      have fg := hF.at (s := 115) (i := 30) (by kernel_rfl) (by simp) lg
      rw [show vals 30 = .bool true from hR 30 lg] at fg
      have l0 := on_of hd 33 (by kernel_rfl)
      have f0 := hF.at (s := 118) (i := 33) (by kernel_rfl) (by simp) l0
      rw [show vals 33 = .bool true from hR 33 l0] at f0
      refine Or.inl ⟨wanted_at (j := 30) (s := 115) rfl rfl rfl fg, ?_⟩
      exact wp_val (.bool true) (by simp [go_sem, f0]) ⟨_, rfl, Gr.refl _, rfl⟩
    · obtain rfl := Option.some.inj ho
      have lg := on_of hd 34 (by kernel_rfl)
      have fg := hF.at (s := 119) (i := 34) (by kernel_rfl) (by simp) lg
      rw [show vals 34 = .bool true from hR 34 lg] at fg
      exact Or.inr ⟨unwanted_at (j := 34) (s := 119) rfl rfl rfl fg (by decide), rfl⟩
    · obtain rfl := Option.some.inj ho
      have lg := on_of hd 34 (by kernel_rfl)
      have fg := hF.at (s := 119) (i := 34) (by kernel_rfl) (by simp) lg
      rw [show vals 34 = .bool true from hR 34 lg] at fg
      exact Or.inr ⟨unwanted_at (j := 34) (s := 119) rfl rfl rfl fg (by decide), rfl⟩
    · obtain rfl := Option.some.inj ho
      have lg := on_of hd 34 (by kernel_rfl)
      have fg := hF.at (s := 119) (i := 34) (by kernel_rfl) (by simp) lg
      rw [show vals 34 = .bool true from hR 34 lg] at fg
      exact Or.inr ⟨unwanted_at (j := 34) (s := 119) rfl rfl rfl fg (by decide), rfl⟩
    · obtain rfl := Option.some.inj ho
      have lg := on_of hd 30 (by kernel_rfl)
      have fg := hF.at (s := 115) (i := 30) (by kernel_rfl) (by simp) lg
      rw [show vals 30 = .bool true from hR 30 lg] at fg
      have l0 := on_of hd 34 (by kernel_rfl)
      have f0 := hF.at (s := 119) (i := 34) (by kernel_rfl) (by simp) l0
      rw [show vals 34 = .bool true from hR 34 l0] at f0
      have l1 := on_of hd 37 (by kernel_rfl)
      have f1 := hF.at (s := 122) (i := 37) (by kernel_rfl) (by simp) l1
      rw [show vals 37 = undef from hR 37 l1] at f1
      refine Or.inl ⟨wanted_at (j := 30) (s := 115) rfl rfl rfl fg, ?_⟩
      exact wp_val (.bool true) (by simp [go_sem, f0, f1]) ⟨_, rfl, Gr.refl _, rfl⟩
    · obtain rfl := Option.some.inj ho
      have l0 := on_of hd 30 (by kernel_rfl)
      have f0 := hF.at (s := 115) (i := 30) (by kernel_rfl) (by simp) l0
      rw [show vals 30 = .bool true from hR 30 l0] at f0
      have l1 := on_of hd 38 (by kernel_rfl)
      have f1 := hF.at (s := 123) (i := 38) (by kernel_rfl) (by simp) l1
      rw [show vals 38 = .bool true from hR 38 l1] at f1
      refine Or.inl ⟨wanted_no rfl, ?_⟩
      exact wp_val (.bool true) (by simp [go_sem, f0, f1]) ⟨_, rfl, Gr.refl _, rfl⟩
    · obtain rfl := Option.some.inj ho
      have l0 := on_of hd 39 (by kernel_rfl)
      have f0 := hF.at (s := 124) (i := 39) (by kernel_rfl) (by simp) l0
      rw [show vals 39 = .bool true from hR 39 l0] at f0
      refine Or.inl ⟨wanted_no rfl, ?_⟩
      exact wp_val (.bool true) (by simp [go_sem, f0]) ⟨_, rfl, Gr.refl _, rfl⟩
  case hf =>
    intro vals v hg hR
    have x0 : vals 0 = .int .i64 0 := hR 0 (by simp)
    have x1 : vals 1 = .int .i64 0 := hR 1 (by simp)
    have x2 : vals 2 = .bool true := hR 2 (by simp)
    have x3 : vals 3 = .bool true := hR 3 (by simp)
    have x4 : vals 4 = .int .i64 0 := hR 4 (by simp)
    have x5 : vals 5 = .int .i64 0 := hR 5 (by simp)
    have x6 : vals 6 = .bool true := hR 6 (by simp)
    have x7 : vals 7 = .bool true := hR 7 (by simp)
    have x8 : vals 8 = .bool true := hR 8 (by simp)
    have x9 : vals 9 = .int .i64 0 := hR 9 (by simp)
    have x10 : vals 10 = .int .i64 0 := hR 10 (by simp)
    have x11 : vals 11 = .bool true := hR 11 (by simp)
    have x12 : vals 12 = .bool true := hR 12 (by simp)
    have x13 : vals 13 = .bool true := hR 13 (by simp)
    have x14 : vals 14 = .agg (nw 9 r0) := hR 14 (by simp)
    have x15 : vals 15 = .agg (nw 9 r0) := hR 15 (by simp)
    have x16 : vals 16 = .bool true := hR 16 (by simp)
    have x17 : vals 17 = .bool true := hR 17 (by simp)
    have x18 : vals 18 = .bool true := hR 18 (by simp)
    have x19 : vals 19 = .agg (nw 9 1) := hR 19 (by simp)
    have x20 : vals 20 = .agg (nw 9 1) := hR 20 (by simp)
    have x21 : vals 21 = .bool true := hR 21 (by simp)
    have x22 : vals 22 = .bool true := hR 22 (by simp)
    have x23 : vals 23 = .bool true := hR 23 (by simp)
    have x24 : vals 24 = .int .i64 401 := hR 24 (by simp)
    have x25 : vals 25 = .int .i64 401 := hR 25 (by simp)
    have x26 : vals 26 = .int .i64 401 := hR 26 (by simp)
    have x27 : vals 27 = .int .i64 401 := hR 27 (by simp)
    have x28 : vals 28 = .bool true := hR 28 (by simp)
    have x29 : vals 29 = .bool true := hR 29 (by simp)
    have x30 : vals 30 = .bool true := hR 30 (by simp)
    have x31 : vals 31 = .int .i64 401 := hR 31 (by simp)
    have x32 : vals 32 = .int .i64 401 := hR 32 (by simp)
    have x33 : vals 33 = .bool true := hR 33 (by simp)
    have x34 : vals 34 = .bool true := hR 34 (by simp)
    have x35 : vals 35 = undef := hR 35 (by simp)
    have x36 : vals 36 = undef := hR 36 (by simp)
    have x37 : vals 37 = undef := hR 37 (by simp)
    have x38 : vals 38 = .bool true := hR 38 (by simp)
    have x39 : vals 39 = .bool true := hR 39 (by simp)
    have x40 : vals 40 = .bool true := hR 40 (by simp)
    simp only [putFrom, Act.put, List.setIfInBounds_toArray, List.set_cons_zero, List.set_cons_succ, x0, x1, x2, x3, x4, x5, x6, x7, x8, x9, x10, x11, x12, x13, x14, x15, x16, x17, x18, x19, x20, x21, x22, x23, x24, x25, x26, x27, x28, x29, x30, x31, x32, x33, x34, x35, x36, x37, x38, x39, x40]
    clear hR x0 x1 x2 x3 x4 x5 x6 x7 x8 x9 x10 x11 x12 x13 x14 x15 x16 x17 x18 x19 x20 x21 x22 x23 x24 x25 x26 x27 x28 x29 x30 x31 x32 x33 x34 x35 x36 x37 x38 x39 x40
    have HG : Gr w v := G.trans hg
    clear hg
    go_wp2_with fail
    go_ret
    exact ⟨rfl, HG⟩
theorem montOnes_any (m a : Nat) (hm : m < M) (ha : a < M) (w : World) :
    Calls Try.prog 5 #[.agg (nw 9 m), .agg (nw 9 a)] w fun e w' => e = .returned (.bool true) ∧ Gr w w' := by
  obtain ⟨y0, O, hor, hset, ho1, ho3, hOM, -⟩ := odd_of m 3 hm (by decide) (by decide) (by decide)
  replace hor : bits BinOp.or IntKind.u64 ((wd m 0 : Nat) : Int) 3 = (y0 : Int) := hor
  have hg0 := nw_get 9 m 0 (by decide)
  obtain ⟨u, ho, HN0⟩ := New_ok O ho1 ho3 hOM
  obtain ⟨k, hk⟩ : ∃ k, kw O = k := ⟨_, rfl⟩
  rw [hk] at ho HN0
  by_cases hgc : Nat.gcd O (a % O) = 1
  · exact mones_some m a ha w y0 O k u hor hset ho3 hOM ho HN0 hgc
  · exact mones_none m a ha w y0 O k u hor hset ho3 hOM ho HN0 hgc

end Go.Proofs.Ytleckbdhebjfkaa
