/-
  The statement MontBack, walked: it answers true for every three numbers.
-/
import Derived.Test.YtleckbdhebjfkaaZMtW
import Derived.Test.YtleckbdhebjfkaaZMtG
import Derived.Test.YtleckbdhebjfkaaZRMod
import Derived.Test.YtleckbdhebjfkaaZRFrom
import Derived.Test.YtleckbdhebjfkaaZMtD
namespace Go.Proofs.Ytleckbdhebjfkaa
open Go.RowKit
attribute [local go_sem ↓] loadNat_is loadArr_is loadWide_is loadArrW_is storeNat_is storeWide_is
attribute [local go_sem] loadNat loadArr loadWide loadArrW storeNat storeWide idxArr fold9 fold18 nw_size nw_elem pre_self pre_1 pre_2 pre_3 pre_4 pre_5 pre_6 pre_7 pre_8 pre_9 pre_10 pre_11 pre_12 pre_13 pre_14 pre_15 pre_16 pre_17 pre_18 pre_19 pre_20 pre_21 pre_22 pre_23 pre_24 pre_25 pre_26 pre_27 pre_28 pre_29 pre_30 pre_31 pre_32 pre_33 pre_34 pre_35 pre_36 pre_37 pre_38 pre_39 pre_40 gro_size gro_drew gro_drewN drew_gro drewN_gro gro_gro blk_gro frz_gro blk_drew frz_drew blk_drewN frz_drewN blk_alloc_at frz_alloc_at blk_alloc frz_alloc cell_gro frozen_gro cell_alloc_pre frozen_alloc_pre setCell_drewN alloc_drewN setBlk_drew setBlk_drewN setBlk_alloc_at setBlk_alloc setBlk_gro setCell_gro setCell_alloc_pre size_setBlk size_setCell
attribute [local go_sem] nw_ext9 nw_ext18 eqArr9 eqArr18

attribute [local go_sem] loadNat2 loadArr2 loadWide2 loadK_nw ppre_1 ppre_2 ppre_3 ppre_4 ppre_5 ppre_6 ppre_7 ppre_8 ppre_9 ppre_10 ppre_11 ppre_12 ppre_13 ppre_14 ppre_15 ppre_16 ppre_17 ppre_18 ppre_19 ppre_20

attribute [local go_sem ↓] Go.wp_at_zero Go.wp_at_succ
attribute [local go_sem] eqN_self frz_setBlk blk_setBlk setBlk_setBlk blk_other
set_option maxRecDepth 100000 in
set_option maxHeartbeats 4000000 in
theorem montBack_any (m a b : Nat) (hm : m < M) (haM : a < M) (hbM : b < M) (w : World) :
    Calls Try.prog 4 #[.agg (nw 9 m), .agg (nw 9 a), .agg (nw 9 b)] w fun e w' => e = .returned (.bool true) ∧ Gr w w' := by
  obtain ⟨y0, O, hor, hset, ho1, ho3, hOM, -⟩ := odd_of m 5 hm (by decide) (by decide) (by decide)
  replace hor : bits BinOp.or IntKind.u64 ((wd m 0 : Nat) : Int) 5 = (y0 : Int) := hor
  have hg0 := nw_get 9 m 0 (by decide)
  obtain ⟨u, ho, HN0⟩ := New_ok O ho1 ho3 hOM
  obtain ⟨k, hk⟩ : ∃ k, kw O = k := ⟨_, rfl⟩
  rw [hk] at ho HN0
  obtain ⟨c, hc⟩ : ∃ c, a % O = c := ⟨_, rfl⟩
  obtain ⟨d, hd⟩ : ∃ d, b % O = d := ⟨_, rfl⟩
  have hcm : c < O := by rw [← hc]; exact Nat.mod_lt _ (by omega)
  have hdm : d < O := by rw [← hd]; exact Nat.mod_lt _ (by omega)
  have hcM : c < M := by omega
  have hdM : d < M := by omega
  obtain ⟨t, ht⟩ : ∃ t, c * pw k % O = t := ⟨_, rfl⟩
  obtain ⟨y, hy⟩ : ∃ y, d * pw k % O = y := ⟨_, rfl⟩
  have htm : t < O := by rw [← ht]; exact Nat.mod_lt _ (by omega)
  have hym : y < O := by rw [← hy]; exact Nat.mod_lt _ (by omega)
  obtain ⟨z, hz⟩ : ∃ z, t * y * u % O = z := ⟨_, rfl⟩
  have hzm : z < O := by rw [← hz]; exact Nat.mod_lt _ (by omega)
  obtain ⟨X, hX⟩ : ∃ X, z * u % O = X := ⟨_, rfl⟩
  have hcd : c * d % O = X := by
    have := ho.prod c d
    rw [ht, hy, hz, hX] at this
    exact this.symm
  have hback : t * u % O = c := by rw [← ht]; exact ho.back c hcm
  have FO : Hid (∀ w, Calls Try.prog 9 #[.agg (nw 9 O)] w (Nm O w)) := fun w => from_any O hOM w
  have FA : Hid (∀ w, Calls Try.prog 9 #[.agg (nw 9 a)] w (Nm a w)) := fun w => from_any a haM w
  have FB0 : Hid (∀ w, Calls Try.prog 9 #[.agg (nw 9 b)] w (Nm b w)) := fun w => from_any b hbM w
  have FP : Hid (∀ w, Calls Try.prog 9 #[.agg (nw 9 c)] w (Nm c w)) := fun w => from_any c hcM w
  have FQ0 : Hid (∀ w, Calls Try.prog 9 #[.agg (nw 9 d)] w (Nm d w)) := fun w => from_any d hdM w
  have NP : Hid (∀ w' p' n', Sl w' p' c → Calls Try.prog 23 #[.slice p' (dl c) n'] w' fun e w'' => e = .returned (.agg (nw 9 c)) ∧ Gr w' w'') := fun w' p' n' h => rnat_any c n' p' w' h
  have NQ : Hid (∀ w' p' n', Sl w' p' d → Calls Try.prog 23 #[.slice p' (dl d) n'] w' fun e w'' => e = .returned (.agg (nw 9 d)) ∧ Gr w' w'') := fun w' p' n' h => rnat_any d n' p' w' h
  have NX : Hid (∀ w' p' n', Sl w' p' X → Calls Try.prog 23 #[.slice p' (dl X) n'] w' fun e w'' => e = .returned (.agg (nw 9 X)) ∧ Gr w' w'') := fun w' p' n' h => rnat_any X n' p' w' h
  have MDa : Hid (∀ w' p' n' q' k', Sl w' p' a → Sl w' q' O → Calls Try.prog 20 #[.slice p' (dl a) n', .slice q' (dl O) k'] w' (Nm c w')) := fun w' p' n' q' k' h h' => hc ▸ rmod_any a O n' k' p' q' w' h h' (by have := dl_M a haM; omega) (by have := dl_M O hOM; omega) (by omega)
  have MDb : Hid (∀ w' p' n' q' k', Sl w' p' b → Sl w' q' O → Calls Try.prog 20 #[.slice p' (dl b) n', .slice q' (dl O) k'] w' (Nm d w')) := fun w' p' n' q' k' h h' => hd ▸ rmod_any b O n' k' p' q' w' h h' (by have := dl_M b hbM; omega) (by have := dl_M O hOM; omega) (by omega)
  have MM : Hid (∀ w' p' n' q' k' r' j', Sl w' p' c → Sl w' q' d → Sl w' r' O → Calls Try.prog 24 #[.slice p' (dl c) n', .slice q' (dl d) k', .slice r' (dl O) j'] w' (Nm X w')) := fun w' p' n' q' k' r' j' h h' h'' => hcd ▸ rmulmod_any c d O n' k' j' p' q' r' w' h h' h'' (by have := dl_M c hcM; omega) (by have := dl_M d hdM; omega) (by have := dl_M O hOM; omega) (by omega)
  have TP : Hid (∀ (b : Nat) w', Mn w' b O k u → Calls Try.prog 15 #[.pointer (some ⟨b, 0, none⟩), .agg (nw 9 c)] w' fun e w'' => e = .returned (.tuple #[.agg (nw 9 t), .int .i64 0]) ∧ Gr w' w'') := fun b w' h => ht ▸ To_ok b O k u c w' h hcm
  have TQ : Hid (∀ (b : Nat) w', Mn w' b O k u → Calls Try.prog 15 #[.pointer (some ⟨b, 0, none⟩), .agg (nw 9 d)] w' fun e w'' => e = .returned (.tuple #[.agg (nw 9 y), .int .i64 0]) ∧ Gr w' w'') := fun b w' h => hy ▸ To_ok b O k u d w' h hdm
  have MU : Hid (∀ (b : Nat) w', Mn w' b O k u → Calls Try.prog 17 #[.pointer (some ⟨b, 0, none⟩), .agg (nw 9 t), .agg (nw 9 y)] w' fun e w'' => e = .returned (.tuple #[.agg (nw 9 z), .int .i64 0]) ∧ Gr w' w'') := fun b w' h => hz ▸ Mul_ok b O k u t y w' h ⟨htm, hym⟩
  have FV : Hid (∀ (b : Nat) w', Mn w' b O k u → Calls Try.prog 16 #[.pointer (some ⟨b, 0, none⟩), .agg (nw 9 z)] w' fun e w'' => e = .returned (.tuple #[.agg (nw 9 X), .int .i64 0]) ∧ Gr w' w'') := fun b w' h => hX ▸ From_ok b O k u z w' h hzm
  have FT : Hid (∀ (b : Nat) w', Mn w' b O k u → Calls Try.prog 16 #[.pointer (some ⟨b, 0, none⟩), .agg (nw 9 t)] w' fun e w'' => e = .returned (.tuple #[.agg (nw 9 c), .int .i64 0]) ∧ Gr w' w'') := fun b w' h => by
    have := From_ok b O k u t w' h htm
    rw [hback] at this
    exact this
  have HN : Hid (∀ w, Calls Try.prog 8 #[.agg (nw 9 O)] w fun e w' => ∃ b, e = .returned (.tuple #[.pointer (some ⟨b, 0, none⟩), .int .i64 0]) ∧ Mn w' b O k u ∧ Gr w w') := HN0
  clear HN0 hback hcd hX hzm hz hym htm hy ht hcM hdM hcm hdm hc hd ho hOM ho3 ho1 hk haM hbM hm
  go_enter Try.func4, Try.ntmps4
  go_upto_region 3 with (go_at_call 13; refine (awake6_any _).mono ?_; rintro e w' ⟨rfl, gaw, rfl⟩)
  refine gen_w (fun v => Hid (Gr w v ∧ Cl v (w.heap.size) m ∧ Cl v (w.heap.size + 1) a ∧ Cl v (w.heap.size + 1 + 1) b)) ⟨(by repeat (first | exact Gr.refl _ | apply Gr.drewN | apply Gr.drew | apply Gr.alloc | apply Gr.gro)), ⟨by simp [go_sem], by simp [go_sem], by simp [go_sem]⟩, ⟨by simp [go_sem], by simp [go_sem], by simp [go_sem]⟩, ⟨by simp [go_sem], by simp [go_sem], by simp [go_sem]⟩⟩ ?_
  intro v0 HV
  have ⟨G, c_w_heap_size, c__w_heap_size_1_, c__w_heap_size_1_1_⟩ := HV.out
  have ⟨hc_w_heap_size, fc_w_heap_size, pc_w_heap_size⟩ := c_w_heap_size
  have ⟨hc__w_heap_size_1_, fc__w_heap_size_1_, pc__w_heap_size_1_⟩ := c__w_heap_size_1_
  have ⟨hc__w_heap_size_1_1_, fc__w_heap_size_1_1_, pc__w_heap_size_1_1_⟩ := c__w_heap_size_1_1_
  go_upto_region 5 with fail
  obtain ⟨e7, he7⟩ : ∃ x, v0.heap.size = x := ⟨_, rfl⟩
  rw [he7]
  refine gen_w (fun v => Hid (Gr w v ∧ Cl v (w.heap.size) m ∧ Cl v (w.heap.size + 1) a ∧ Cl v (w.heap.size + 1 + 1) b ∧ Cl v e7 O)) ⟨G.trans (by repeat (first | exact Gr.refl _ | apply Gr.drewN | apply Gr.drew | apply Gr.alloc | apply Gr.gro)), c_w_heap_size.gr (by repeat (first | exact Gr.refl _ | apply Gr.drewN | apply Gr.drew | apply Gr.alloc | apply Gr.gro)), c__w_heap_size_1_.gr (by repeat (first | exact Gr.refl _ | apply Gr.drewN | apply Gr.drew | apply Gr.alloc | apply Gr.gro)), c__w_heap_size_1_1_.gr (by repeat (first | exact Gr.refl _ | apply Gr.drewN | apply Gr.drew | apply Gr.alloc | apply Gr.gro)), he7 ▸ ⟨by simp [go_sem], by simp [go_sem], by simp [go_sem]⟩⟩ ?_
  clear HV G c_w_heap_size c__w_heap_size_1_ c__w_heap_size_1_1_ he7
  intro v1 HV
  go_cut [8, 9] from 32 to 36 (fun a0 a1 wx => ∃ bx : Nat, a0 = .pointer (some ⟨bx, 0, none⟩) ∧ a1 = .int .i64 0 ∧ Hid (Gr w wx ∧ Cl wx (w.heap.size) m ∧ Cl wx (w.heap.size + 1) a ∧ Cl wx (w.heap.size + 1 + 1) b ∧ Cl wx e7 O ∧ Mn wx bx O k u))
  case first =>
    have ⟨G, c_w_heap_size, c__w_heap_size_1_, c__w_heap_size_1_1_, c_e7⟩ := HV.out
    have ⟨hc_w_heap_size, fc_w_heap_size, pc_w_heap_size⟩ := c_w_heap_size
    have ⟨hc__w_heap_size_1_, fc__w_heap_size_1_, pc__w_heap_size_1_⟩ := c__w_heap_size_1_
    have ⟨hc__w_heap_size_1_1_, fc__w_heap_size_1_1_, pc__w_heap_size_1_1_⟩ := c__w_heap_size_1_1_
    have ⟨hc_e7, fc_e7, pc_e7⟩ := c_e7
    go_wp2_with (go_at_call 8; refine (HN.out _).mono ?_; rintro e W1 ⟨bx, rfl, S1, G1⟩)
    go_meet
    exact ⟨bx, rfl, rfl, G.trans ((Gr.trans (by repeat (first | exact Gr.refl _ | apply Gr.drewN | apply Gr.drew | apply Gr.alloc | apply Gr.gro)) G1).trans (by repeat (first | exact Gr.refl _ | apply Gr.drewN | apply Gr.drew | apply Gr.alloc | apply Gr.gro))), c_w_heap_size.gr ((Gr.trans (by repeat (first | exact Gr.refl _ | apply Gr.drewN | apply Gr.drew | apply Gr.alloc | apply Gr.gro)) G1).trans (by repeat (first | exact Gr.refl _ | apply Gr.drewN | apply Gr.drew | apply Gr.alloc | apply Gr.gro))), c__w_heap_size_1_.gr ((Gr.trans (by repeat (first | exact Gr.refl _ | apply Gr.drewN | apply Gr.drew | apply Gr.alloc | apply Gr.gro)) G1).trans (by repeat (first | exact Gr.refl _ | apply Gr.drewN | apply Gr.drew | apply Gr.alloc | apply Gr.gro))), c__w_heap_size_1_1_.gr ((Gr.trans (by repeat (first | exact Gr.refl _ | apply Gr.drewN | apply Gr.drew | apply Gr.alloc | apply Gr.gro)) G1).trans (by repeat (first | exact Gr.refl _ | apply Gr.drewN | apply Gr.drew | apply Gr.alloc | apply Gr.gro))), c_e7.gr ((Gr.trans (by repeat (first | exact Gr.refl _ | apply Gr.drewN | apply Gr.drew | apply Gr.alloc | apply Gr.gro)) G1).trans (by repeat (first | exact Gr.refl _ | apply Gr.drewN | apply Gr.drew | apply Gr.alloc | apply Gr.gro))), S1.gr (by repeat (first | exact Gr.refl _ | apply Gr.drewN | apply Gr.drew | apply Gr.alloc | apply Gr.gro))⟩
  clear HV
  obtain ⟨bx, rfl, rfl, HV⟩ := hcut
  have ⟨G, c_w_heap_size, c__w_heap_size_1_, c__w_heap_size_1_1_, c_e7, S_x⟩ := HV.out
  have ⟨hc_w_heap_size, fc_w_heap_size, pc_w_heap_size⟩ := c_w_heap_size
  have ⟨hc__w_heap_size_1_, fc__w_heap_size_1_, pc__w_heap_size_1_⟩ := c__w_heap_size_1_
  have ⟨hc__w_heap_size_1_1_, fc__w_heap_size_1_1_, pc__w_heap_size_1_1_⟩ := c__w_heap_size_1_1_
  have ⟨hc_e7, fc_e7, pc_e7⟩ := c_e7
  go_upto_region 8 with (first
      | (go_at_call 12; refine (num_any _ _).mono ?_; rintro e w' ⟨rfl, rfl⟩))
  refine gen_w (fun v => Hid (Gr w v ∧ Cl v (w.heap.size) m ∧ Cl v (w.heap.size + 1) a ∧ Cl v (w.heap.size + 1 + 1) b ∧ Cl v e7 O ∧ Mn v bx O k u)) ⟨G.trans (by repeat (first | exact Gr.refl _ | apply Gr.drewN | apply Gr.drew | apply Gr.alloc | apply Gr.gro)), c_w_heap_size.gr (by repeat (first | exact Gr.refl _ | apply Gr.drewN | apply Gr.drew | apply Gr.alloc | apply Gr.gro)), c__w_heap_size_1_.gr (by repeat (first | exact Gr.refl _ | apply Gr.drewN | apply Gr.drew | apply Gr.alloc | apply Gr.gro)), c__w_heap_size_1_1_.gr (by repeat (first | exact Gr.refl _ | apply Gr.drewN | apply Gr.drew | apply Gr.alloc | apply Gr.gro)), c_e7.gr (by repeat (first | exact Gr.refl _ | apply Gr.drewN | apply Gr.drew | apply Gr.alloc | apply Gr.gro)), S_x.gr (by repeat (first | exact Gr.refl _ | apply Gr.drewN | apply Gr.drew | apply Gr.alloc | apply Gr.gro))⟩ ?_
  clear HV G c_w_heap_size c__w_heap_size_1_ c__w_heap_size_1_1_ c_e7 S_x
  intro v2 HV
  go_cut [10] from 40 to 41 (fun a0 wx => ∃ (px : Option Addr) (nx : Nat), a0 = .slice px (dl O) nx ∧ Hid (Gr w wx ∧ Cl wx (w.heap.size) m ∧ Cl wx (w.heap.size + 1) a ∧ Cl wx (w.heap.size + 1 + 1) b ∧ Cl wx e7 O ∧ Mn wx bx O k u ∧ Sl wx px O))
  case first =>
    have ⟨G, c_w_heap_size, c__w_heap_size_1_, c__w_heap_size_1_1_, c_e7, S_x⟩ := HV.out
    have ⟨hc_w_heap_size, fc_w_heap_size, pc_w_heap_size⟩ := c_w_heap_size
    have ⟨hc__w_heap_size_1_, fc__w_heap_size_1_, pc__w_heap_size_1_⟩ := c__w_heap_size_1_
    have ⟨hc__w_heap_size_1_1_, fc__w_heap_size_1_1_, pc__w_heap_size_1_1_⟩ := c__w_heap_size_1_1_
    have ⟨hc_e7, fc_e7, pc_e7⟩ := c_e7
    go_wp2_with (go_at_call 9; refine (FO.out _).mono ?_; rintro e W1 ⟨px, nx, rfl, S1, G1⟩)
    go_meet
    exact ⟨px, nx, rfl, G.trans ((Gr.trans (by repeat (first | exact Gr.refl _ | apply Gr.drewN | apply Gr.drew | apply Gr.alloc | apply Gr.gro)) G1).trans (by repeat (first | exact Gr.refl _ | apply Gr.drewN | apply Gr.drew | apply Gr.alloc | apply Gr.gro))), c_w_heap_size.gr ((Gr.trans (by repeat (first | exact Gr.refl _ | apply Gr.drewN | apply Gr.drew | apply Gr.alloc | apply Gr.gro)) G1).trans (by repeat (first | exact Gr.refl _ | apply Gr.drewN | apply Gr.drew | apply Gr.alloc | apply Gr.gro))), c__w_heap_size_1_.gr ((Gr.trans (by repeat (first | exact Gr.refl _ | apply Gr.drewN | apply Gr.drew | apply Gr.alloc | apply Gr.gro)) G1).trans (by repeat (first | exact Gr.refl _ | apply Gr.drewN | apply Gr.drew | apply Gr.alloc | apply Gr.gro))), c__w_heap_size_1_1_.gr ((Gr.trans (by repeat (first | exact Gr.refl _ | apply Gr.drewN | apply Gr.drew | apply Gr.alloc | apply Gr.gro)) G1).trans (by repeat (first | exact Gr.refl _ | apply Gr.drewN | apply Gr.drew | apply Gr.alloc | apply Gr.gro))), c_e7.gr ((Gr.trans (by repeat (first | exact Gr.refl _ | apply Gr.drewN | apply Gr.drew | apply Gr.alloc | apply Gr.gro)) G1).trans (by repeat (first | exact Gr.refl _ | apply Gr.drewN | apply Gr.drew | apply Gr.alloc | apply Gr.gro))), S_x.gr ((Gr.trans (by repeat (first | exact Gr.refl _ | apply Gr.drewN | apply Gr.drew | apply Gr.alloc | apply Gr.gro)) G1).trans (by repeat (first | exact Gr.refl _ | apply Gr.drewN | apply Gr.drew | apply Gr.alloc | apply Gr.gro))), S1.gr (by repeat (first | exact Gr.refl _ | apply Gr.drewN | apply Gr.drew | apply Gr.alloc | apply Gr.gro))⟩
  clear HV
  obtain ⟨pz, nz, rfl, HV⟩ := hcut
  go_upto_region 9 with fail
  go_cut [11, 12] from 42 to 51 (fun a0 a1 wx => ∃ e11 e12 : Nat, a0 = .pointer (some ⟨e11, 0, none⟩) ∧ a1 = .pointer (some ⟨e12, 0, none⟩) ∧ Hid (Gr w wx ∧ Cl wx (w.heap.size) m ∧ Cl wx (w.heap.size + 1) a ∧ Cl wx (w.heap.size + 1 + 1) b ∧ Cl wx e7 O ∧ Cl wx e11 c ∧ Cl wx e12 d ∧ Mn wx bx O k u ∧ Sl wx pz O))
  case first =>
    have ⟨G, c_w_heap_size, c__w_heap_size_1_, c__w_heap_size_1_1_, c_e7, S_x, S_pz⟩ := HV.out
    have ⟨hc_w_heap_size, fc_w_heap_size, pc_w_heap_size⟩ := c_w_heap_size
    have ⟨hc__w_heap_size_1_, fc__w_heap_size_1_, pc__w_heap_size_1_⟩ := c__w_heap_size_1_
    have ⟨hc__w_heap_size_1_1_, fc__w_heap_size_1_1_, pc__w_heap_size_1_1_⟩ := c__w_heap_size_1_1_
    have ⟨hc_e7, fc_e7, pc_e7⟩ := c_e7
    refine wp_region_mix (by kernel_rfl) (by kernel_rfl) (RS _ [.c (.agg (nw 9 a)), .n (a), .c (.slice pz (dl O) nz), .n (c), .c (.agg (nw 9 c)), .c (.agg (nw 9 b)), .n (b), .c (.slice pz (dl O) nz), .n (d), .c (.agg (nw 9 d))] (fun i => match i with | 10 => some (nw 9 0) | 11 => some (nw 9 0) | _ => none) (fun i => match i with | 10 => some (12, nw 9 c) | 11 => some (13, nw 9 d) | _ => none)) (RS.start _ _ _ _ _ _) ?hs ?hf
    case hs =>
      intro listed vals a1 vS i o hz hR hF ho hl hd
      have hg := hR.1.1
      have hks : ∀ (j k : Nat) (r : Array Value), (match j with | 10 => some (12, nw 9 c) | 11 => some (13, nw 9 d) | _ => (none : Option (Nat × Array Value))) = some (k, r) → (j = 10 ∧ k = 12) ∨ (j = 11 ∧ k = 13) := fun j k r h => by
        split at h <;> simp_all
      have Hc_w_heap_size : blk vS (w.heap.size) = nw 9 m := (hg.blk _ c_w_heap_size.p).trans c_w_heap_size.h
      have Hc__w_heap_size_1_ : blk vS (w.heap.size + 1) = nw 9 a := (hg.blk _ c__w_heap_size_1_.p).trans c__w_heap_size_1_.h
      have Hc__w_heap_size_1_1_ : blk vS (w.heap.size + 1 + 1) = nw 9 b := (hg.blk _ c__w_heap_size_1_1_.p).trans c__w_heap_size_1_1_.h
      have Hc_e7 : blk vS e7 = nw 9 O := (hg.blk _ c_e7.p).trans c_e7.h
      have hi : i < 14 := by simpa using (Array.getElem?_eq_some_iff.1 ho).1
      have hil : i < listed.size := by rw [hz]; simpa using hi
      obtain rfl | rfl | rfl | rfl | rfl | rfl | rfl | rfl | rfl | rfl | rfl | rfl | rfl | rfl : i = 0 ∨ i = 1 ∨ i = 2 ∨ i = 3 ∨ i = 4 ∨ i = 5 ∨ i = 6 ∨ i = 7 ∨ i = 8 ∨ i = 9 ∨ i = 10 ∨ i = 11 ∨ i = 12 ∨ i = 13 := by omega
      · obtain rfl := Option.some.inj ho
        have f0 := hF.old (s := 4) (v := .pointer (some ⟨(w.heap.size + 1), 0, none⟩)) (by kernel_rfl) rfl
        exact wp_val (.agg (nw 9 a)) (by simp [go_sem, f0, Hc__w_heap_size_1_]) ⟨_, rfl, RS.quiet 0 _ hil rfl (fun j k r h => by have := hks j k r h; omega) (Gr.refl _) rfl hR⟩
      · obtain rfl := Option.some.inj ho
        have l0 := on_of hd 0 (by kernel_rfl)
        have f0 := hF.at (s := 42) (i := 0) (by kernel_rfl) (by simp) l0
        rw [show vals 0 = .agg (nw 9 a) from hR.2 0 l0] at f0
        exact wp_retN (by simp [go_sem, f0]) (FA.out _) (fun p n w2 hS hg2 => ⟨_, rfl, RS.quiet 1 _ hil rfl (fun j k r h => by have := hks j k r h; omega) hg2 ⟨p, n, rfl, hS⟩ hR⟩)
      · obtain rfl := Option.some.inj ho
        have f0 := hF.old (s := 10) (v := .slice pz (dl O) nz) (by kernel_rfl) rfl
        exact wp_val (.slice pz (dl O) nz) (by simp [go_sem, f0]) ⟨_, rfl, RS.quiet 2 _ hil rfl (fun j k r h => by have := hks j k r h; omega) (Gr.refl _) rfl hR⟩
      · obtain rfl := Option.some.inj ho
        have l0 := on_of hd 1 (by kernel_rfl)
        have f0 := hF.at (s := 43) (i := 1) (by kernel_rfl) (by simp) l0
        obtain ⟨p0, n0, e0, S0⟩ := (show ∃ p n, vals 1 = Value.slice p (dl (a)) n ∧ Sl vS p (a) from hR.2 1 l0)
        rw [e0] at f0
        have l1 := on_of hd 2 (by kernel_rfl)
        have f1 := hF.at (s := 44) (i := 2) (by kernel_rfl) (by simp) l1
        rw [show vals 2 = .slice pz (dl O) nz from hR.2 2 l1] at f1
        exact wp_retN (by simp [go_sem, f0, f1]) (MDa.out _ p0 n0 pz nz S0 (S_pz.gr hg)) (fun p n w2 hS hg2 => ⟨_, rfl, RS.quiet 3 _ hil rfl (fun j k r h => by have := hks j k r h; omega) hg2 ⟨p, n, rfl, hS⟩ hR⟩)
      · obtain rfl := Option.some.inj ho
        have l0 := on_of hd 3 (by kernel_rfl)
        have f0 := hF.at (s := 45) (i := 3) (by kernel_rfl) (by simp) l0
        obtain ⟨p0, n0, e0, S0⟩ := (show ∃ p n, vals 3 = Value.slice p (dl (c)) n ∧ Sl vS p (c) from hR.2 3 l0)
        rw [e0] at f0
        exact wp_ret (.agg (nw 9 c)) (by simp [go_sem, f0]) (NP.out _ p0 n0 S0) (fun w2 hg2 => ⟨_, rfl, RS.quiet 4 _ hil rfl (fun j k r h => by have := hks j k r h; omega) hg2 rfl hR⟩)
      · obtain rfl := Option.some.inj ho
        have f0 := hF.old (s := 5) (v := .pointer (some ⟨(w.heap.size + 1 + 1), 0, none⟩)) (by kernel_rfl) rfl
        exact wp_val (.agg (nw 9 b)) (by simp [go_sem, f0, Hc__w_heap_size_1_1_]) ⟨_, rfl, RS.quiet 5 _ hil rfl (fun j k r h => by have := hks j k r h; omega) (Gr.refl _) rfl hR⟩
      · obtain rfl := Option.some.inj ho
        have l0 := on_of hd 5 (by kernel_rfl)
        have f0 := hF.at (s := 47) (i := 5) (by kernel_rfl) (by simp) l0
        rw [show vals 5 = .agg (nw 9 b) from hR.2 5 l0] at f0
        exact wp_retN (by simp [go_sem, f0]) (FB0.out _) (fun p n w2 hS hg2 => ⟨_, rfl, RS.quiet 6 _ hil rfl (fun j k r h => by have := hks j k r h; omega) hg2 ⟨p, n, rfl, hS⟩ hR⟩)
      · obtain rfl := Option.some.inj ho
        have f0 := hF.old (s := 10) (v := .slice pz (dl O) nz) (by kernel_rfl) rfl
        exact wp_val (.slice pz (dl O) nz) (by simp [go_sem, f0]) ⟨_, rfl, RS.quiet 7 _ hil rfl (fun j k r h => by have := hks j k r h; omega) (Gr.refl _) rfl hR⟩
      · obtain rfl := Option.some.inj ho
        have l0 := on_of hd 6 (by kernel_rfl)
        have f0 := hF.at (s := 48) (i := 6) (by kernel_rfl) (by simp) l0
        obtain ⟨p0, n0, e0, S0⟩ := (show ∃ p n, vals 6 = Value.slice p (dl (b)) n ∧ Sl vS p (b) from hR.2 6 l0)
        rw [e0] at f0
        have l1 := on_of hd 7 (by kernel_rfl)
        have f1 := hF.at (s := 49) (i := 7) (by kernel_rfl) (by simp) l1
        rw [show vals 7 = .slice pz (dl O) nz from hR.2 7 l1] at f1
        exact wp_retN (by simp [go_sem, f0, f1]) (MDb.out _ p0 n0 pz nz S0 (S_pz.gr hg)) (fun p n w2 hS hg2 => ⟨_, rfl, RS.quiet 8 _ hil rfl (fun j k r h => by have := hks j k r h; omega) hg2 ⟨p, n, rfl, hS⟩ hR⟩)
      · obtain rfl := Option.some.inj ho
        have l0 := on_of hd 8 (by kernel_rfl)
        have f0 := hF.at (s := 50) (i := 8) (by kernel_rfl) (by simp) l0
        obtain ⟨p0, n0, e0, S0⟩ := (show ∃ p n, vals 8 = Value.slice p (dl (d)) n ∧ Sl vS p (d) from hR.2 8 l0)
        rw [e0] at f0
        exact wp_ret (.agg (nw 9 d)) (by simp [go_sem, f0]) (NQ.out _ p0 n0 S0) (fun w2 hg2 => ⟨_, rfl, RS.quiet 9 _ hil rfl (fun j k r h => by have := hks j k r h; omega) hg2 rfl hR⟩)
      · obtain rfl := Option.some.inj ho
        exact wp_val (.pointer (some ⟨vS.heap.size, 0, none⟩)) (w' := vS.alloc (.cells (nw 9 0) 25)) (by simp [go_sem]) ⟨_, rfl, RS.alloc 10 (nw 9 0) 25 hil hl rfl (fun j k r h => by have := hks j k r h; omega) rfl hR⟩
      · obtain rfl := Option.some.inj ho
        exact wp_val (.pointer (some ⟨vS.heap.size, 0, none⟩)) (w' := vS.alloc (.cells (nw 9 0) 25)) (by simp [go_sem]) ⟨_, rfl, RS.alloc 11 (nw 9 0) 25 hil hl rfl (fun j k r h => by have := hks j k r h; omega) rfl hR⟩
      · obtain rfl := Option.some.inj ho
        have l0 := hd ⟨10, .data⟩ (by simp) rfl
        have l1 := hd ⟨4, .data⟩ (by simp) rfl
        obtain ⟨B, h4, h5⟩ := hR.1.2.2.2
        obtain ⟨e1, e2, e3, e4, e5⟩ := h4 10 (nw 9 0) l0 rfl
        simp only [hl] at e5
        replace e5 : blk vS (B 10) = nw 9 0 := e5
        have f0 := hF.at (s := 11) (i := 10) (by kernel_rfl) (by simp) l0
        rw [e1] at f0
        have f1 := hF.at (s := 46) (i := 4) (by kernel_rfl) (by simp) l1
        rw [show vals 4 = .agg (nw 9 c) from hR.2 4 l1] at f1
        exact wp_skip (w' := setBlk vS (B 10) (nw 9 c)) (by simp [go_sem, f0, f1, e4, e5]) ⟨undef, rfl, RS.store 12 10 (nw 9 0) (nw 9 c) (B 10) hil hl rfl rfl l0 rfl (by rw [nw_size]; decide) e1 (fun k r h => by have := hks k _ r h; omega) rfl (by rw [e5]; exact nw_no32 9 0) hR⟩
      · obtain rfl := Option.some.inj ho
        have l0 := hd ⟨11, .data⟩ (by simp) rfl
        have l1 := hd ⟨9, .data⟩ (by simp) rfl
        obtain ⟨B, h4, h5⟩ := hR.1.2.2.2
        obtain ⟨e1, e2, e3, e4, e5⟩ := h4 11 (nw 9 0) l0 rfl
        simp only [hl] at e5
        replace e5 : blk vS (B 11) = nw 9 0 := e5
        have f0 := hF.at (s := 12) (i := 11) (by kernel_rfl) (by simp) l0
        rw [e1] at f0
        have f1 := hF.at (s := 51) (i := 9) (by kernel_rfl) (by simp) l1
        rw [show vals 9 = .agg (nw 9 d) from hR.2 9 l1] at f1
        exact wp_skip (w' := setBlk vS (B 11) (nw 9 d)) (by simp [go_sem, f0, f1, e4, e5]) ⟨undef, rfl, RS.store 13 11 (nw 9 0) (nw 9 d) (B 11) hil hl rfl rfl l0 rfl (by rw [nw_size]; decide) e1 (fun k r h => by have := hks k _ r h; omega) rfl (by rw [e5]; exact nw_no32 9 0) hR⟩
    case hf =>
      intro listed vals a1 vS hall hR hF
      have x0 : vals 0 = .agg (nw 9 a) := hR.2 0 (hall 0 (by simp))
      obtain ⟨p1, n1, x1, S1⟩ := (show ∃ p n, vals 1 = Value.slice p (dl (a)) n ∧ Sl vS p (a) from hR.2 1 (hall 1 (by simp)))
      have x2 : vals 2 = .slice pz (dl O) nz := hR.2 2 (hall 2 (by simp))
      obtain ⟨p3, n3, x3, S3⟩ := (show ∃ p n, vals 3 = Value.slice p (dl (c)) n ∧ Sl vS p (c) from hR.2 3 (hall 3 (by simp)))
      have x4 : vals 4 = .agg (nw 9 c) := hR.2 4 (hall 4 (by simp))
      have x5 : vals 5 = .agg (nw 9 b) := hR.2 5 (hall 5 (by simp))
      obtain ⟨p6, n6, x6, S6⟩ := (show ∃ p n, vals 6 = Value.slice p (dl (b)) n ∧ Sl vS p (b) from hR.2 6 (hall 6 (by simp)))
      have x7 : vals 7 = .slice pz (dl O) nz := hR.2 7 (hall 7 (by simp))
      obtain ⟨p8, n8, x8, S8⟩ := (show ∃ p n, vals 8 = Value.slice p (dl (d)) n ∧ Sl vS p (d) from hR.2 8 (hall 8 (by simp)))
      have x9 : vals 9 = .agg (nw 9 d) := hR.2 9 (hall 9 (by simp))
      obtain ⟨B, h4, h5⟩ := hR.1.2.2.2
      obtain ⟨x10, q10, p10, z10, y10⟩ := h4 10 _ (hall 10 (by simp)) rfl
      simp only [hall 12 (by simp), if_true] at y10
      replace p10 : Pre (B 10 + 1) vS.heap.size := p10
      replace y10 : blk vS (B 10) = nw 9 c := y10
      obtain ⟨x11, q11, p11, z11, y11⟩ := h4 11 _ (hall 11 (by simp)) rfl
      simp only [hall 13 (by simp), if_true] at y11
      replace p11 : Pre (B 11 + 1) vS.heap.size := p11
      replace y11 : blk vS (B 11) = nw 9 d := y11
      have hb1 := hR.1.1
      rw [hF.final (by kernel_rfl) hall]
      simp only [putFrom, Act.put, List.setIfInBounds_toArray, List.set_cons_zero, List.set_cons_succ, x0, x1, x2, x3, x4, x5, x6, x7, x8, x9, x10, x11]
      generalize B 10 = b10 at *
      generalize B 11 = b11 at *
      clear h4 h5 hR hF hall x0 x1 x2 x3 x4 x5 x6 x7 x8 x9 x10 x11
      go_wp2_with fail
      go_meet
      exact ⟨b10, b11, rfl, rfl, G.trans hb1, c_w_heap_size.gr hb1, c__w_heap_size_1_.gr hb1, c__w_heap_size_1_1_.gr hb1, c_e7.gr hb1, ⟨y10, z10, p10⟩, ⟨y11, z11, p11⟩, S_x.gr hb1, S_pz.gr hb1⟩
  clear HV
  obtain ⟨e11, e12, rfl, rfl, HV⟩ := hcut
  go_upto_region 10 with fail
  go_cut [13, 14] from 52 to 57 (fun a0 a1 wx => ∃ e13 : Nat, a0 = .pointer (some ⟨e13, 0, none⟩) ∧ a1 = .int .i64 0 ∧ Hid (Gr w wx ∧ Cl wx (w.heap.size) m ∧ Cl wx (w.heap.size + 1) a ∧ Cl wx (w.heap.size + 1 + 1) b ∧ Cl wx e7 O ∧ Cl wx e11 c ∧ Cl wx e12 d ∧ Cl wx e13 t ∧ Mn wx bx O k u ∧ Sl wx pz O))
  case first =>
    have ⟨G, c_w_heap_size, c__w_heap_size_1_, c__w_heap_size_1_1_, c_e7, c_e11, c_e12, S_x, S_pz⟩ := HV.out
    have ⟨hc_w_heap_size, fc_w_heap_size, pc_w_heap_size⟩ := c_w_heap_size
    have ⟨hc__w_heap_size_1_, fc__w_heap_size_1_, pc__w_heap_size_1_⟩ := c__w_heap_size_1_
    have ⟨hc__w_heap_size_1_1_, fc__w_heap_size_1_1_, pc__w_heap_size_1_1_⟩ := c__w_heap_size_1_1_
    have ⟨hc_e7, fc_e7, pc_e7⟩ := c_e7
    have ⟨hc_e11, fc_e11, pc_e11⟩ := c_e11
    have ⟨hc_e12, fc_e12, pc_e12⟩ := c_e12
    go_wp2_with (first
        | (go_at_call_of 15 ((#[.pointer (some ⟨bx, 0, none⟩), .agg (nw 9 c)] : Array Value)); refine (TP.out bx _ (S_x.gr (by repeat (first | exact Gr.refl _ | apply Gr.drewN | apply Gr.drew | apply Gr.alloc | apply Gr.gro)))).mono ?_; rintro e w' ⟨rfl, g1, rfl⟩)
        | (go_at_call 12; refine (num_any _ _).mono ?_; rintro e w' ⟨rfl, rfl⟩))
    go_meet
    exact ⟨_, rfl, rfl, G.trans (by repeat (first | exact Gr.refl _ | apply Gr.drewN | apply Gr.drew | apply Gr.alloc | apply Gr.gro)), c_w_heap_size.gr (by repeat (first | exact Gr.refl _ | apply Gr.drewN | apply Gr.drew | apply Gr.alloc | apply Gr.gro)), c__w_heap_size_1_.gr (by repeat (first | exact Gr.refl _ | apply Gr.drewN | apply Gr.drew | apply Gr.alloc | apply Gr.gro)), c__w_heap_size_1_1_.gr (by repeat (first | exact Gr.refl _ | apply Gr.drewN | apply Gr.drew | apply Gr.alloc | apply Gr.gro)), c_e7.gr (by repeat (first | exact Gr.refl _ | apply Gr.drewN | apply Gr.drew | apply Gr.alloc | apply Gr.gro)), c_e11.gr (by repeat (first | exact Gr.refl _ | apply Gr.drewN | apply Gr.drew | apply Gr.alloc | apply Gr.gro)), c_e12.gr (by repeat (first | exact Gr.refl _ | apply Gr.drewN | apply Gr.drew | apply Gr.alloc | apply Gr.gro)), ⟨by simp [go_sem], by simp [go_sem], by simp [go_sem]⟩, S_x.gr (by repeat (first | exact Gr.refl _ | apply Gr.drewN | apply Gr.drew | apply Gr.alloc | apply Gr.gro)), S_pz.gr (by repeat (first | exact Gr.refl _ | apply Gr.drewN | apply Gr.drew | apply Gr.alloc | apply Gr.gro))⟩
  clear HV
  obtain ⟨e13, rfl, rfl, HV⟩ := hcut
  go_upto_region 11 with fail
  go_cut [15, 16] from 58 to 63 (fun a0 a1 wx => ∃ e15 : Nat, a0 = .pointer (some ⟨e15, 0, none⟩) ∧ a1 = .int .i64 0 ∧ Hid (Gr w wx ∧ Cl wx (w.heap.size) m ∧ Cl wx (w.heap.size + 1) a ∧ Cl wx (w.heap.size + 1 + 1) b ∧ Cl wx e7 O ∧ Cl wx e11 c ∧ Cl wx e12 d ∧ Cl wx e13 t ∧ Cl wx e15 y ∧ Mn wx bx O k u ∧ Sl wx pz O))
  case first =>
    have ⟨G, c_w_heap_size, c__w_heap_size_1_, c__w_heap_size_1_1_, c_e7, c_e11, c_e12, c_e13, S_x, S_pz⟩ := HV.out
    have ⟨hc_w_heap_size, fc_w_heap_size, pc_w_heap_size⟩ := c_w_heap_size
    have ⟨hc__w_heap_size_1_, fc__w_heap_size_1_, pc__w_heap_size_1_⟩ := c__w_heap_size_1_
    have ⟨hc__w_heap_size_1_1_, fc__w_heap_size_1_1_, pc__w_heap_size_1_1_⟩ := c__w_heap_size_1_1_
    have ⟨hc_e7, fc_e7, pc_e7⟩ := c_e7
    have ⟨hc_e11, fc_e11, pc_e11⟩ := c_e11
    have ⟨hc_e12, fc_e12, pc_e12⟩ := c_e12
    have ⟨hc_e13, fc_e13, pc_e13⟩ := c_e13
    go_wp2_with (first
        | (go_at_call_of 15 ((#[.pointer (some ⟨bx, 0, none⟩), .agg (nw 9 d)] : Array Value)); refine (TQ.out bx _ (S_x.gr (by repeat (first | exact Gr.refl _ | apply Gr.drewN | apply Gr.drew | apply Gr.alloc | apply Gr.gro)))).mono ?_; rintro e w' ⟨rfl, g2, rfl⟩)
        | (go_at_call 12; refine (num_any _ _).mono ?_; rintro e w' ⟨rfl, rfl⟩))
    go_meet
    exact ⟨_, rfl, rfl, G.trans (by repeat (first | exact Gr.refl _ | apply Gr.drewN | apply Gr.drew | apply Gr.alloc | apply Gr.gro)), c_w_heap_size.gr (by repeat (first | exact Gr.refl _ | apply Gr.drewN | apply Gr.drew | apply Gr.alloc | apply Gr.gro)), c__w_heap_size_1_.gr (by repeat (first | exact Gr.refl _ | apply Gr.drewN | apply Gr.drew | apply Gr.alloc | apply Gr.gro)), c__w_heap_size_1_1_.gr (by repeat (first | exact Gr.refl _ | apply Gr.drewN | apply Gr.drew | apply Gr.alloc | apply Gr.gro)), c_e7.gr (by repeat (first | exact Gr.refl _ | apply Gr.drewN | apply Gr.drew | apply Gr.alloc | apply Gr.gro)), c_e11.gr (by repeat (first | exact Gr.refl _ | apply Gr.drewN | apply Gr.drew | apply Gr.alloc | apply Gr.gro)), c_e12.gr (by repeat (first | exact Gr.refl _ | apply Gr.drewN | apply Gr.drew | apply Gr.alloc | apply Gr.gro)), c_e13.gr (by repeat (first | exact Gr.refl _ | apply Gr.drewN | apply Gr.drew | apply Gr.alloc | apply Gr.gro)), ⟨by simp [go_sem], by simp [go_sem], by simp [go_sem]⟩, S_x.gr (by repeat (first | exact Gr.refl _ | apply Gr.drewN | apply Gr.drew | apply Gr.alloc | apply Gr.gro)), S_pz.gr (by repeat (first | exact Gr.refl _ | apply Gr.drewN | apply Gr.drew | apply Gr.alloc | apply Gr.gro))⟩
  clear HV
  obtain ⟨e15, rfl, rfl, HV⟩ := hcut
  go_upto_region 12 with fail
  go_cut [17, 18] from 64 to 70 (fun a0 a1 wx => ∃ e17 : Nat, a0 = .pointer (some ⟨e17, 0, none⟩) ∧ a1 = .int .i64 0 ∧ Hid (Gr w wx ∧ Cl wx (w.heap.size) m ∧ Cl wx (w.heap.size + 1) a ∧ Cl wx (w.heap.size + 1 + 1) b ∧ Cl wx e7 O ∧ Cl wx e11 c ∧ Cl wx e12 d ∧ Cl wx e13 t ∧ Cl wx e15 y ∧ Cl wx e17 z ∧ Mn wx bx O k u ∧ Sl wx pz O))
  case first =>
    have ⟨G, c_w_heap_size, c__w_heap_size_1_, c__w_heap_size_1_1_, c_e7, c_e11, c_e12, c_e13, c_e15, S_x, S_pz⟩ := HV.out
    have ⟨hc_w_heap_size, fc_w_heap_size, pc_w_heap_size⟩ := c_w_heap_size
    have ⟨hc__w_heap_size_1_, fc__w_heap_size_1_, pc__w_heap_size_1_⟩ := c__w_heap_size_1_
    have ⟨hc__w_heap_size_1_1_, fc__w_heap_size_1_1_, pc__w_heap_size_1_1_⟩ := c__w_heap_size_1_1_
    have ⟨hc_e7, fc_e7, pc_e7⟩ := c_e7
    have ⟨hc_e11, fc_e11, pc_e11⟩ := c_e11
    have ⟨hc_e12, fc_e12, pc_e12⟩ := c_e12
    have ⟨hc_e13, fc_e13, pc_e13⟩ := c_e13
    have ⟨hc_e15, fc_e15, pc_e15⟩ := c_e15
    go_wp2_with (first
        | (go_at_call_of 17 ((#[.pointer (some ⟨bx, 0, none⟩), .agg (nw 9 t), .agg (nw 9 y)] : Array Value)); refine (MU.out bx _ (S_x.gr (by repeat (first | exact Gr.refl _ | apply Gr.drewN | apply Gr.drew | apply Gr.alloc | apply Gr.gro)))).mono ?_; rintro e w' ⟨rfl, g3, rfl⟩)
        | (go_at_call 12; refine (num_any _ _).mono ?_; rintro e w' ⟨rfl, rfl⟩))
    go_meet
    exact ⟨_, rfl, rfl, G.trans (by repeat (first | exact Gr.refl _ | apply Gr.drewN | apply Gr.drew | apply Gr.alloc | apply Gr.gro)), c_w_heap_size.gr (by repeat (first | exact Gr.refl _ | apply Gr.drewN | apply Gr.drew | apply Gr.alloc | apply Gr.gro)), c__w_heap_size_1_.gr (by repeat (first | exact Gr.refl _ | apply Gr.drewN | apply Gr.drew | apply Gr.alloc | apply Gr.gro)), c__w_heap_size_1_1_.gr (by repeat (first | exact Gr.refl _ | apply Gr.drewN | apply Gr.drew | apply Gr.alloc | apply Gr.gro)), c_e7.gr (by repeat (first | exact Gr.refl _ | apply Gr.drewN | apply Gr.drew | apply Gr.alloc | apply Gr.gro)), c_e11.gr (by repeat (first | exact Gr.refl _ | apply Gr.drewN | apply Gr.drew | apply Gr.alloc | apply Gr.gro)), c_e12.gr (by repeat (first | exact Gr.refl _ | apply Gr.drewN | apply Gr.drew | apply Gr.alloc | apply Gr.gro)), c_e13.gr (by repeat (first | exact Gr.refl _ | apply Gr.drewN | apply Gr.drew | apply Gr.alloc | apply Gr.gro)), c_e15.gr (by repeat (first | exact Gr.refl _ | apply Gr.drewN | apply Gr.drew | apply Gr.alloc | apply Gr.gro)), ⟨by simp [go_sem], by simp [go_sem], by simp [go_sem]⟩, S_x.gr (by repeat (first | exact Gr.refl _ | apply Gr.drewN | apply Gr.drew | apply Gr.alloc | apply Gr.gro)), S_pz.gr (by repeat (first | exact Gr.refl _ | apply Gr.drewN | apply Gr.drew | apply Gr.alloc | apply Gr.gro))⟩
  clear HV
  obtain ⟨e17, rfl, rfl, HV⟩ := hcut
  go_upto_region 13 with fail
  go_cut [19, 20] from 71 to 76 (fun a0 a1 wx => ∃ e19 : Nat, a0 = .pointer (some ⟨e19, 0, none⟩) ∧ a1 = .int .i64 0 ∧ Hid (Gr w wx ∧ Cl wx (w.heap.size) m ∧ Cl wx (w.heap.size + 1) a ∧ Cl wx (w.heap.size + 1 + 1) b ∧ Cl wx e7 O ∧ Cl wx e11 c ∧ Cl wx e12 d ∧ Cl wx e13 t ∧ Cl wx e15 y ∧ Cl wx e17 z ∧ Cl wx e19 X ∧ Mn wx bx O k u ∧ Sl wx pz O))
  case first =>
    have ⟨G, c_w_heap_size, c__w_heap_size_1_, c__w_heap_size_1_1_, c_e7, c_e11, c_e12, c_e13, c_e15, c_e17, S_x, S_pz⟩ := HV.out
    have ⟨hc_w_heap_size, fc_w_heap_size, pc_w_heap_size⟩ := c_w_heap_size
    have ⟨hc__w_heap_size_1_, fc__w_heap_size_1_, pc__w_heap_size_1_⟩ := c__w_heap_size_1_
    have ⟨hc__w_heap_size_1_1_, fc__w_heap_size_1_1_, pc__w_heap_size_1_1_⟩ := c__w_heap_size_1_1_
    have ⟨hc_e7, fc_e7, pc_e7⟩ := c_e7
    have ⟨hc_e11, fc_e11, pc_e11⟩ := c_e11
    have ⟨hc_e12, fc_e12, pc_e12⟩ := c_e12
    have ⟨hc_e13, fc_e13, pc_e13⟩ := c_e13
    have ⟨hc_e15, fc_e15, pc_e15⟩ := c_e15
    have ⟨hc_e17, fc_e17, pc_e17⟩ := c_e17
    go_wp2_with (first
        | (go_at_call_of 16 ((#[.pointer (some ⟨bx, 0, none⟩), .agg (nw 9 z)] : Array Value)); refine (FV.out bx _ (S_x.gr (by repeat (first | exact Gr.refl _ | apply Gr.drewN | apply Gr.drew | apply Gr.alloc | apply Gr.gro)))).mono ?_; rintro e w' ⟨rfl, g4, rfl⟩)
        | (go_at_call 12; refine (num_any _ _).mono ?_; rintro e w' ⟨rfl, rfl⟩))
    go_meet
    exact ⟨_, rfl, rfl, G.trans (by repeat (first | exact Gr.refl _ | apply Gr.drewN | apply Gr.drew | apply Gr.alloc | apply Gr.gro)), c_w_heap_size.gr (by repeat (first | exact Gr.refl _ | apply Gr.drewN | apply Gr.drew | apply Gr.alloc | apply Gr.gro)), c__w_heap_size_1_.gr (by repeat (first | exact Gr.refl _ | apply Gr.drewN | apply Gr.drew | apply Gr.alloc | apply Gr.gro)), c__w_heap_size_1_1_.gr (by repeat (first | exact Gr.refl _ | apply Gr.drewN | apply Gr.drew | apply Gr.alloc | apply Gr.gro)), c_e7.gr (by repeat (first | exact Gr.refl _ | apply Gr.drewN | apply Gr.drew | apply Gr.alloc | apply Gr.gro)), c_e11.gr (by repeat (first | exact Gr.refl _ | apply Gr.drewN | apply Gr.drew | apply Gr.alloc | apply Gr.gro)), c_e12.gr (by repeat (first | exact Gr.refl _ | apply Gr.drewN | apply Gr.drew | apply Gr.alloc | apply Gr.gro)), c_e13.gr (by repeat (first | exact Gr.refl _ | apply Gr.drewN | apply Gr.drew | apply Gr.alloc | apply Gr.gro)), c_e15.gr (by repeat (first | exact Gr.refl _ | apply Gr.drewN | apply Gr.drew | apply Gr.alloc | apply Gr.gro)), c_e17.gr (by repeat (first | exact Gr.refl _ | apply Gr.drewN | apply Gr.drew | apply Gr.alloc | apply Gr.gro)), ⟨by simp [go_sem], by simp [go_sem], by simp [go_sem]⟩, S_x.gr (by repeat (first | exact Gr.refl _ | apply Gr.drewN | apply Gr.drew | apply Gr.alloc | apply Gr.gro)), S_pz.gr (by repeat (first | exact Gr.refl _ | apply Gr.drewN | apply Gr.drew | apply Gr.alloc | apply Gr.gro))⟩
  clear HV
  obtain ⟨e19, rfl, rfl, HV⟩ := hcut
  go_upto_region 14 with fail
  go_cut [21, 22] from 77 to 82 (fun a0 a1 wx => ∃ e21 : Nat, a0 = .pointer (some ⟨e21, 0, none⟩) ∧ a1 = .int .i64 0 ∧ Hid (Gr w wx ∧ Cl wx (w.heap.size) m ∧ Cl wx (w.heap.size + 1) a ∧ Cl wx (w.heap.size + 1 + 1) b ∧ Cl wx e7 O ∧ Cl wx e11 c ∧ Cl wx e12 d ∧ Cl wx e13 t ∧ Cl wx e15 y ∧ Cl wx e17 z ∧ Cl wx e19 X ∧ Cl wx e21 c ∧ Mn wx bx O k u ∧ Sl wx pz O))
  case first =>
    have ⟨G, c_w_heap_size, c__w_heap_size_1_, c__w_heap_size_1_1_, c_e7, c_e11, c_e12, c_e13, c_e15, c_e17, c_e19, S_x, S_pz⟩ := HV.out
    have ⟨hc_w_heap_size, fc_w_heap_size, pc_w_heap_size⟩ := c_w_heap_size
    have ⟨hc__w_heap_size_1_, fc__w_heap_size_1_, pc__w_heap_size_1_⟩ := c__w_heap_size_1_
    have ⟨hc__w_heap_size_1_1_, fc__w_heap_size_1_1_, pc__w_heap_size_1_1_⟩ := c__w_heap_size_1_1_
    have ⟨hc_e7, fc_e7, pc_e7⟩ := c_e7
    have ⟨hc_e11, fc_e11, pc_e11⟩ := c_e11
    have ⟨hc_e12, fc_e12, pc_e12⟩ := c_e12
    have ⟨hc_e13, fc_e13, pc_e13⟩ := c_e13
    have ⟨hc_e15, fc_e15, pc_e15⟩ := c_e15
    have ⟨hc_e17, fc_e17, pc_e17⟩ := c_e17
    have ⟨hc_e19, fc_e19, pc_e19⟩ := c_e19
    go_wp2_with (first
        | (go_at_call_of 16 ((#[.pointer (some ⟨bx, 0, none⟩), .agg (nw 9 t)] : Array Value)); refine (FT.out bx _ (S_x.gr (by repeat (first | exact Gr.refl _ | apply Gr.drewN | apply Gr.drew | apply Gr.alloc | apply Gr.gro)))).mono ?_; rintro e w' ⟨rfl, g5, rfl⟩)
        | (go_at_call 12; refine (num_any _ _).mono ?_; rintro e w' ⟨rfl, rfl⟩))
    go_meet
    exact ⟨_, rfl, rfl, G.trans (by repeat (first | exact Gr.refl _ | apply Gr.drewN | apply Gr.drew | apply Gr.alloc | apply Gr.gro)), c_w_heap_size.gr (by repeat (first | exact Gr.refl _ | apply Gr.drewN | apply Gr.drew | apply Gr.alloc | apply Gr.gro)), c__w_heap_size_1_.gr (by repeat (first | exact Gr.refl _ | apply Gr.drewN | apply Gr.drew | apply Gr.alloc | apply Gr.gro)), c__w_heap_size_1_1_.gr (by repeat (first | exact Gr.refl _ | apply Gr.drewN | apply Gr.drew | apply Gr.alloc | apply Gr.gro)), c_e7.gr (by repeat (first | exact Gr.refl _ | apply Gr.drewN | apply Gr.drew | apply Gr.alloc | apply Gr.gro)), c_e11.gr (by repeat (first | exact Gr.refl _ | apply Gr.drewN | apply Gr.drew | apply Gr.alloc | apply Gr.gro)), c_e12.gr (by repeat (first | exact Gr.refl _ | apply Gr.drewN | apply Gr.drew | apply Gr.alloc | apply Gr.gro)), c_e13.gr (by repeat (first | exact Gr.refl _ | apply Gr.drewN | apply Gr.drew | apply Gr.alloc | apply Gr.gro)), c_e15.gr (by repeat (first | exact Gr.refl _ | apply Gr.drewN | apply Gr.drew | apply Gr.alloc | apply Gr.gro)), c_e17.gr (by repeat (first | exact Gr.refl _ | apply Gr.drewN | apply Gr.drew | apply Gr.alloc | apply Gr.gro)), c_e19.gr (by repeat (first | exact Gr.refl _ | apply Gr.drewN | apply Gr.drew | apply Gr.alloc | apply Gr.gro)), ⟨by simp [go_sem], by simp [go_sem], by simp [go_sem]⟩, S_x.gr (by repeat (first | exact Gr.refl _ | apply Gr.drewN | apply Gr.drew | apply Gr.alloc | apply Gr.gro)), S_pz.gr (by repeat (first | exact Gr.refl _ | apply Gr.drewN | apply Gr.drew | apply Gr.alloc | apply Gr.gro))⟩
  clear HV
  obtain ⟨e21, rfl, rfl, HV⟩ := hcut
  go_upto_region 15 with fail
  obtain ⟨G, c_w_heap_size, c__w_heap_size_1_, c__w_heap_size_1_1_, c_e7, c_e11, c_e12, c_e13, c_e15, c_e17, c_e19, c_e21, S_x, S_pz⟩ := HV.out
  refine wp_region_pred (by kernel_rfl) (by kernel_rfl) [.c (.int .i64 0), .c (.int .i64 0), .c (.bool true), .c (.bool true), .c (.int .i64 0), .c (.int .i64 0), .c (.bool true), .c (.bool true), .c (.bool true), .c (.int .i64 0), .c (.int .i64 0), .c (.bool true), .c (.bool true), .c (.bool true), .c (.agg (nw 9 c)), .c (.agg (nw 9 c)), .c (.bool true), .c (.bool true), .c (.bool true), .c (.agg (nw 9 X)), .c (.agg (nw 9 c)), .n (c), .c (.agg (nw 9 d)), .n (d), .c (.slice pz (dl O) nz), .n (X), .c (.agg (nw 9 X)), .c (.bool true), .c (.bool true), .c (.bool true)] ?hs ?hf
  case hs =>
    intro listed vals a1 v i o hg hR hF ho hd
    have Hc_w_heap_size : blk v (w.heap.size) = nw 9 m := (hg.blk _ c_w_heap_size.p).trans c_w_heap_size.h
    have Hc__w_heap_size_1_ : blk v (w.heap.size + 1) = nw 9 a := (hg.blk _ c__w_heap_size_1_.p).trans c__w_heap_size_1_.h
    have Hc__w_heap_size_1_1_ : blk v (w.heap.size + 1 + 1) = nw 9 b := (hg.blk _ c__w_heap_size_1_1_.p).trans c__w_heap_size_1_1_.h
    have Hc_e7 : blk v e7 = nw 9 O := (hg.blk _ c_e7.p).trans c_e7.h
    have Hc_e11 : blk v e11 = nw 9 c := (hg.blk _ c_e11.p).trans c_e11.h
    have Hc_e12 : blk v e12 = nw 9 d := (hg.blk _ c_e12.p).trans c_e12.h
    have Hc_e13 : blk v e13 = nw 9 t := (hg.blk _ c_e13.p).trans c_e13.h
    have Hc_e15 : blk v e15 = nw 9 y := (hg.blk _ c_e15.p).trans c_e15.h
    have Hc_e17 : blk v e17 = nw 9 z := (hg.blk _ c_e17.p).trans c_e17.h
    have Hc_e19 : blk v e19 = nw 9 X := (hg.blk _ c_e19.p).trans c_e19.h
    have Hc_e21 : blk v e21 = nw 9 c := (hg.blk _ c_e21.p).trans c_e21.h
    have hi : i < 30 := by simpa using (Array.getElem?_eq_some_iff.1 ho).1
    obtain rfl | rfl | rfl | rfl | rfl | rfl | rfl | rfl | rfl | rfl | rfl | rfl | rfl | rfl | rfl | rfl | rfl | rfl | rfl | rfl | rfl | rfl | rfl | rfl | rfl | rfl | rfl | rfl | rfl | rfl : i = 0 ∨ i = 1 ∨ i = 2 ∨ i = 3 ∨ i = 4 ∨ i = 5 ∨ i = 6 ∨ i = 7 ∨ i = 8 ∨ i = 9 ∨ i = 10 ∨ i = 11 ∨ i = 12 ∨ i = 13 ∨ i = 14 ∨ i = 15 ∨ i = 16 ∨ i = 17 ∨ i = 18 ∨ i = 19 ∨ i = 20 ∨ i = 21 ∨ i = 22 ∨ i = 23 ∨ i = 24 ∨ i = 25 ∨ i = 26 ∨ i = 27 ∨ i = 28 ∨ i = 29 := by omega
    · obtain rfl := Option.some.inj ho
      have f0 := hF.old (s := 18) (v := .int .i64 0) (by kernel_rfl) rfl
      refine Or.inl ⟨wanted_no rfl, ?_⟩
      exact wp_val (.int .i64 0) (by simp [go_sem, f0]) ⟨_, rfl, Gr.refl _, rfl⟩
    · obtain rfl := Option.some.inj ho
      have l0 := on_of hd 0 (by kernel_rfl)
      have f0 := hF.at (s := 83) (i := 0) (by kernel_rfl) (by simp) l0
      rw [show vals 0 = .int .i64 0 from hR 0 l0] at f0
      refine Or.inl ⟨wanted_no rfl, ?_⟩
      exact wp_ret (.int .i64 0) (by simp [go_sem, f0]) (num5_gr _ _) (fun w2 hg2 => ⟨_, rfl, hg2, rfl⟩)
    · obtain rfl := Option.some.inj ho
      have l0 := on_of hd 1 (by kernel_rfl)
      have f0 := hF.at (s := 84) (i := 1) (by kernel_rfl) (by simp) l0
      rw [show vals 1 = .int .i64 0 from hR 1 l0] at f0
      refine Or.inl ⟨wanted_no rfl, ?_⟩
      exact wp_val (.bool true) (by simp [go_sem, f0]) ⟨_, rfl, Gr.refl _, rfl⟩
    · obtain rfl := Option.some.inj ho
      have l0 := on_of hd 2 (by kernel_rfl)
      have f0 := hF.at (s := 85) (i := 2) (by kernel_rfl) (by simp) l0
      rw [show vals 2 = .bool true from hR 2 l0] at f0
      refine Or.inl ⟨wanted_no rfl, ?_⟩
      exact wp_val (.bool true) (by simp [go_sem, f0]) ⟨_, rfl, Gr.refl _, rfl⟩
    · obtain rfl := Option.some.inj ho
      have lg := on_of hd 3 (by kernel_rfl)
      have fg := hF.at (s := 86) (i := 3) (by kernel_rfl) (by simp) lg
      rw [show vals 3 = .bool true from hR 3 lg] at fg
      have f0 := hF.old (s := 20) (v := .int .i64 0) (by kernel_rfl) rfl
      refine Or.inl ⟨wanted_at (j := 3) (s := 86) rfl rfl rfl fg, ?_⟩
      exact wp_val (.int .i64 0) (by simp [go_sem, f0]) ⟨_, rfl, Gr.refl _, rfl⟩
    · obtain rfl := Option.some.inj ho
      have lg := on_of hd 3 (by kernel_rfl)
      have fg := hF.at (s := 86) (i := 3) (by kernel_rfl) (by simp) lg
      rw [show vals 3 = .bool true from hR 3 lg] at fg
      have l0 := on_of hd 4 (by kernel_rfl)
      have f0 := hF.at (s := 87) (i := 4) (by kernel_rfl) (by simp) l0
      rw [show vals 4 = .int .i64 0 from hR 4 l0] at f0
      refine Or.inl ⟨wanted_at (j := 3) (s := 86) rfl rfl rfl fg, ?_⟩
      exact wp_ret (.int .i64 0) (by simp [go_sem, f0]) (num5_gr _ _) (fun w2 hg2 => ⟨_, rfl, hg2, rfl⟩)
    · obtain rfl := Option.some.inj ho
      have lg := on_of hd 3 (by kernel_rfl)
      have fg := hF.at (s := 86) (i := 3) (by kernel_rfl) (by simp) lg
      rw [show vals 3 = .bool true from hR 3 lg] at fg
      have l0 := on_of hd 5 (by kernel_rfl)
      have f0 := hF.at (s := 88) (i := 5) (by kernel_rfl) (by simp) l0
      rw [show vals 5 = .int .i64 0 from hR 5 l0] at f0
      refine Or.inl ⟨wanted_at (j := 3) (s := 86) rfl rfl rfl fg, ?_⟩
      exact wp_val (.bool true) (by simp [go_sem, f0]) ⟨_, rfl, Gr.refl _, rfl⟩
    · obtain rfl := Option.some.inj ho
      have l0 := on_of hd 3 (by kernel_rfl)
      have f0 := hF.at (s := 86) (i := 3) (by kernel_rfl) (by simp) l0
      rw [show vals 3 = .bool true from hR 3 l0] at f0
      have l1 := on_of hd 6 (by kernel_rfl)
      have f1 := hF.at (s := 89) (i := 6) (by kernel_rfl) (by simp) l1
      rw [show vals 6 = .bool true from hR 6 l1] at f1
      refine Or.inl ⟨wanted_no rfl, ?_⟩
      exact wp_val (.bool true) (by simp [go_sem, f0, f1]) ⟨_, rfl, Gr.refl _, rfl⟩
    · obtain rfl := Option.some.inj ho
      have l0 := on_of hd 7 (by kernel_rfl)
      have f0 := hF.at (s := 90) (i := 7) (by kernel_rfl) (by simp) l0
      rw [show vals 7 = .bool true from hR 7 l0] at f0
      refine Or.inl ⟨wanted_no rfl, ?_⟩
      exact wp_val (.bool true) (by simp [go_sem, f0]) ⟨_, rfl, Gr.refl _, rfl⟩
    · obtain rfl := Option.some.inj ho
      have lg := on_of hd 8 (by kernel_rfl)
      have fg := hF.at (s := 91) (i := 8) (by kernel_rfl) (by simp) lg
      rw [show vals 8 = .bool true from hR 8 lg] at fg
      have f0 := hF.old (s := 22) (v := .int .i64 0) (by kernel_rfl) rfl
      refine Or.inl ⟨wanted_at (j := 8) (s := 91) rfl rfl rfl fg, ?_⟩
      exact wp_val (.int .i64 0) (by simp [go_sem, f0]) ⟨_, rfl, Gr.refl _, rfl⟩
    · obtain rfl := Option.some.inj ho
      have lg := on_of hd 8 (by kernel_rfl)
      have fg := hF.at (s := 91) (i := 8) (by kernel_rfl) (by simp) lg
      rw [show vals 8 = .bool true from hR 8 lg] at fg
      have l0 := on_of hd 9 (by kernel_rfl)
      have f0 := hF.at (s := 92) (i := 9) (by kernel_rfl) (by simp) l0
      rw [show vals 9 = .int .i64 0 from hR 9 l0] at f0
      refine Or.inl ⟨wanted_at (j := 8) (s := 91) rfl rfl rfl fg, ?_⟩
      exact wp_ret (.int .i64 0) (by simp [go_sem, f0]) (num5_gr _ _) (fun w2 hg2 => ⟨_, rfl, hg2, rfl⟩)
    · obtain rfl := Option.some.inj ho
      have lg := on_of hd 8 (by kernel_rfl)
      have fg := hF.at (s := 91) (i := 8) (by kernel_rfl) (by simp) lg
      rw [show vals 8 = .bool true from hR 8 lg] at fg
      have l0 := on_of hd 10 (by kernel_rfl)
      have f0 := hF.at (s := 93) (i := 10) (by kernel_rfl) (by simp) l0
      rw [show vals 10 = .int .i64 0 from hR 10 l0] at f0
      refine Or.inl ⟨wanted_at (j := 8) (s := 91) rfl rfl rfl fg, ?_⟩
      exact wp_val (.bool true) (by simp [go_sem, f0]) ⟨_, rfl, Gr.refl _, rfl⟩
    · obtain rfl := Option.some.inj ho
      have l0 := on_of hd 8 (by kernel_rfl)
      have f0 := hF.at (s := 91) (i := 8) (by kernel_rfl) (by simp) l0
      rw [show vals 8 = .bool true from hR 8 l0] at f0
      have l1 := on_of hd 11 (by kernel_rfl)
      have f1 := hF.at (s := 94) (i := 11) (by kernel_rfl) (by simp) l1
      rw [show vals 11 = .bool true from hR 11 l1] at f1
      refine Or.inl ⟨wanted_no rfl, ?_⟩
      exact wp_val (.bool true) (by simp [go_sem, f0, f1]) ⟨_, rfl, Gr.refl _, rfl⟩
    · obtain rfl := Option.some.inj ho
      have l0 := on_of hd 12 (by kernel_rfl)
      have f0 := hF.at (s := 95) (i := 12) (by kernel_rfl) (by simp) l0
      rw [show vals 12 = .bool true from hR 12 l0] at f0
      refine Or.inl ⟨wanted_no rfl, ?_⟩
      exact wp_val (.bool true) (by simp [go_sem, f0]) ⟨_, rfl, Gr.refl _, rfl⟩
    · obtain rfl := Option.some.inj ho
      have lg := on_of hd 13 (by kernel_rfl)
      have fg := hF.at (s := 96) (i := 13) (by kernel_rfl) (by simp) lg
      rw [show vals 13 = .bool true from hR 13 lg] at fg
      have f0 := hF.old (s := 21) (v := .pointer (some ⟨e21, 0, none⟩)) (by kernel_rfl) rfl
      refine Or.inl ⟨wanted_at (j := 13) (s := 96) rfl rfl rfl fg, ?_⟩
      exact wp_val (.agg (nw 9 c)) (by simp [go_sem, f0, Hc_e21]) ⟨_, rfl, Gr.refl _, rfl⟩
    · obtain rfl := Option.some.inj ho
      have lg := on_of hd 13 (by kernel_rfl)
      have fg := hF.at (s := 96) (i := 13) (by kernel_rfl) (by simp) lg
      rw [show vals 13 = .bool true from hR 13 lg] at fg
      have f0 := hF.old (s := 11) (v := .pointer (some ⟨e11, 0, none⟩)) (by kernel_rfl) rfl
      refine Or.inl ⟨wanted_at (j := 13) (s := 96) rfl rfl rfl fg, ?_⟩
      exact wp_val (.agg (nw 9 c)) (by simp [go_sem, f0, Hc_e11]) ⟨_, rfl, Gr.refl _, rfl⟩
    · obtain rfl := Option.some.inj ho
      have lg := on_of hd 13 (by kernel_rfl)
      have fg := hF.at (s := 96) (i := 13) (by kernel_rfl) (by simp) lg
      rw [show vals 13 = .bool true from hR 13 lg] at fg
      have l0 := on_of hd 14 (by kernel_rfl)
      have f0 := hF.at (s := 97) (i := 14) (by kernel_rfl) (by simp) l0
      rw [show vals 14 = .agg (nw 9 c) from hR 14 l0] at f0
      have l1 := on_of hd 15 (by kernel_rfl)
      have f1 := hF.at (s := 98) (i := 15) (by kernel_rfl) (by simp) l1
      rw [show vals 15 = .agg (nw 9 c) from hR 15 l1] at f1
      refine Or.inl ⟨wanted_at (j := 13) (s := 96) rfl rfl rfl fg, ?_⟩
      exact wp_val (.bool true) (by simp [go_sem, f0, f1, eqN_self]) ⟨_, rfl, Gr.refl _, rfl⟩
    · obtain rfl := Option.some.inj ho
      have l0 := on_of hd 13 (by kernel_rfl)
      have f0 := hF.at (s := 96) (i := 13) (by kernel_rfl) (by simp) l0
      rw [show vals 13 = .bool true from hR 13 l0] at f0
      have l1 := on_of hd 16 (by kernel_rfl)
      have f1 := hF.at (s := 99) (i := 16) (by kernel_rfl) (by simp) l1
      rw [show vals 16 = .bool true from hR 16 l1] at f1
      refine Or.inl ⟨wanted_no rfl, ?_⟩
      exact wp_val (.bool true) (by simp [go_sem, f0, f1]) ⟨_, rfl, Gr.refl _, rfl⟩
    · obtain rfl := Option.some.inj ho
      have l0 := on_of hd 17 (by kernel_rfl)
      have f0 := hF.at (s := 100) (i := 17) (by kernel_rfl) (by simp) l0
      rw [show vals 17 = .bool true from hR 17 l0] at f0
      refine Or.inl ⟨wanted_no rfl, ?_⟩
      exact wp_val (.bool true) (by simp [go_sem, f0]) ⟨_, rfl, Gr.refl _, rfl⟩
    · obtain rfl := Option.some.inj ho
      have lg := on_of hd 18 (by kernel_rfl)
      have fg := hF.at (s := 101) (i := 18) (by kernel_rfl) (by simp) lg
      rw [show vals 18 = .bool true from hR 18 lg] at fg
      have f0 := hF.old (s := 19) (v := .pointer (some ⟨e19, 0, none⟩)) (by kernel_rfl) rfl
      refine Or.inl ⟨wanted_at (j := 18) (s := 101) rfl rfl rfl fg, ?_⟩
      exact wp_val (.agg (nw 9 X)) (by simp [go_sem, f0, Hc_e19]) ⟨_, rfl, Gr.refl _, rfl⟩
    · obtain rfl := Option.some.inj ho
      have lg := on_of hd 18 (by kernel_rfl)
      have fg := hF.at (s := 101) (i := 18) (by kernel_rfl) (by simp) lg
      rw [show vals 18 = .bool true from hR 18 lg] at fg
      have f0 := hF.old (s := 11) (v := .pointer (some ⟨e11, 0, none⟩)) (by kernel_rfl) rfl
      refine Or.inl ⟨wanted_at (j := 18) (s := 101) rfl rfl rfl fg, ?_⟩
      exact wp_val (.agg (nw 9 c)) (by simp [go_sem, f0, Hc_e11]) ⟨_, rfl, Gr.refl _, rfl⟩
    · obtain rfl := Option.some.inj ho
      have lg := on_of hd 18 (by kernel_rfl)
      have fg := hF.at (s := 101) (i := 18) (by kernel_rfl) (by simp) lg
      rw [show vals 18 = .bool true from hR 18 lg] at fg
      have l0 := on_of hd 20 (by kernel_rfl)
      have f0 := hF.at (s := 103) (i := 20) (by kernel_rfl) (by simp) l0
      rw [show vals 20 = .agg (nw 9 c) from hR 20 l0] at f0
      refine Or.inl ⟨wanted_at (j := 18) (s := 101) rfl rfl rfl fg, ?_⟩
      exact wp_retN (by simp [go_sem, f0]) (FP.out _) (fun p n w2 hS hg2 => ⟨_, rfl, hg2, p, n, rfl, hS⟩)
    · obtain rfl := Option.some.inj ho
      have lg := on_of hd 18 (by kernel_rfl)
      have fg := hF.at (s := 101) (i := 18) (by kernel_rfl) (by simp) lg
      rw [show vals 18 = .bool true from hR 18 lg] at fg
      have f0 := hF.old (s := 12) (v := .pointer (some ⟨e12, 0, none⟩)) (by kernel_rfl) rfl
      refine Or.inl ⟨wanted_at (j := 18) (s := 101) rfl rfl rfl fg, ?_⟩
      exact wp_val (.agg (nw 9 d)) (by simp [go_sem, f0, Hc_e12]) ⟨_, rfl, Gr.refl _, rfl⟩
    · obtain rfl := Option.some.inj ho
      have lg := on_of hd 18 (by kernel_rfl)
      have fg := hF.at (s := 101) (i := 18) (by kernel_rfl) (by simp) lg
      rw [show vals 18 = .bool true from hR 18 lg] at fg
      have l0 := on_of hd 22 (by kernel_rfl)
      have f0 := hF.at (s := 105) (i := 22) (by kernel_rfl) (by simp) l0
      rw [show vals 22 = .agg (nw 9 d) from hR 22 l0] at f0
      refine Or.inl ⟨wanted_at (j := 18) (s := 101) rfl rfl rfl fg, ?_⟩
      exact wp_retN (by simp [go_sem, f0]) (FQ0.out _) (fun p n w2 hS hg2 => ⟨_, rfl, hg2, p, n, rfl, hS⟩)
    · obtain rfl := Option.some.inj ho
      have lg := on_of hd 18 (by kernel_rfl)
      have fg := hF.at (s := 101) (i := 18) (by kernel_rfl) (by simp) lg
      rw [show vals 18 = .bool true from hR 18 lg] at fg
      have f0 := hF.old (s := 10) (v := .slice pz (dl O) nz) (by kernel_rfl) rfl
      refine Or.inl ⟨wanted_at (j := 18) (s := 101) rfl rfl rfl fg, ?_⟩
      exact wp_val (.slice pz (dl O) nz) (by simp [go_sem, f0]) ⟨_, rfl, Gr.refl _, rfl⟩
    · obtain rfl := Option.some.inj ho
      have lg := on_of hd 18 (by kernel_rfl)
      have fg := hF.at (s := 101) (i := 18) (by kernel_rfl) (by simp) lg
      rw [show vals 18 = .bool true from hR 18 lg] at fg
      have l0 := on_of hd 21 (by kernel_rfl)
      have f0 := hF.at (s := 104) (i := 21) (by kernel_rfl) (by simp) l0
      obtain ⟨p0, n0, e0, S0⟩ := (show ∃ p n, vals 21 = Value.slice p (dl (c)) n ∧ Sl v p (c) from hR 21 l0)
      rw [e0] at f0
      have l1 := on_of hd 23 (by kernel_rfl)
      have f1 := hF.at (s := 106) (i := 23) (by kernel_rfl) (by simp) l1
      obtain ⟨p1, n1, e1, S1⟩ := (show ∃ p n, vals 23 = Value.slice p (dl (d)) n ∧ Sl v p (d) from hR 23 l1)
      rw [e1] at f1
      have l2 := on_of hd 24 (by kernel_rfl)
      have f2 := hF.at (s := 107) (i := 24) (by kernel_rfl) (by simp) l2
      rw [show vals 24 = .slice pz (dl O) nz from hR 24 l2] at f2
      refine Or.inl ⟨wanted_at (j := 18) (s := 101) rfl rfl rfl fg, ?_⟩
      exact wp_retN (by simp [go_sem, f0, f1, f2]) (MM.out _ p0 n0 p1 n1 pz nz S0 S1 (S_pz.gr hg)) (fun p n w2 hS hg2 => ⟨_, rfl, hg2, p, n, rfl, hS⟩)
    · obtain rfl := Option.some.inj ho
      have lg := on_of hd 18 (by kernel_rfl)
      have fg := hF.at (s := 101) (i := 18) (by kernel_rfl) (by simp) lg
      rw [show vals 18 = .bool true from hR 18 lg] at fg
      have l0 := on_of hd 25 (by kernel_rfl)
      have f0 := hF.at (s := 108) (i := 25) (by kernel_rfl) (by simp) l0
      obtain ⟨p0, n0, e0, S0⟩ := (show ∃ p n, vals 25 = Value.slice p (dl (X)) n ∧ Sl v p (X) from hR 25 l0)
      rw [e0] at f0
      refine Or.inl ⟨wanted_at (j := 18) (s := 101) rfl rfl rfl fg, ?_⟩
      exact wp_ret (.agg (nw 9 X)) (by simp [go_sem, f0]) (NX.out _ p0 n0 S0) (fun w2 hg2 => ⟨_, rfl, hg2, rfl⟩)
    · obtain rfl := Option.some.inj ho
      have lg := on_of hd 18 (by kernel_rfl)
      have fg := hF.at (s := 101) (i := 18) (by kernel_rfl) (by simp) lg
      rw [show vals 18 = .bool true from hR 18 lg] at fg
      have l0 := on_of hd 19 (by kernel_rfl)
      have f0 := hF.at (s := 102) (i := 19) (by kernel_rfl) (by simp) l0
      rw [show vals 19 = .agg (nw 9 X) from hR 19 l0] at f0
      have l1 := on_of hd 26 (by kernel_rfl)
      have f1 := hF.at (s := 109) (i := 26) (by kernel_rfl) (by simp) l1
      rw [show vals 26 = .agg (nw 9 X) from hR 26 l1] at f1
      refine Or.inl ⟨wanted_at (j := 18) (s := 101) rfl rfl rfl fg, ?_⟩
      exact wp_val (.bool true) (by simp [go_sem, f0, f1, eqN_self]) ⟨_, rfl, Gr.refl _, rfl⟩
    · obtain rfl := Option.some.inj ho
      have l0 := on_of hd 18 (by kernel_rfl)
      have f0 := hF.at (s := 101) (i := 18) (by kernel_rfl) (by simp) l0
      rw [show vals 18 = .bool true from hR 18 l0] at f0
      have l1 := on_of hd 27 (by kernel_rfl)
      have f1 := hF.at (s := 110) (i := 27) (by kernel_rfl) (by simp) l1
      rw [show vals 27 = .bool true from hR 27 l1] at f1
      refine Or.inl ⟨wanted_no rfl, ?_⟩
      exact wp_val (.bool true) (by simp [go_sem, f0, f1]) ⟨_, rfl, Gr.refl _, rfl⟩
    · obtain rfl := Option.some.inj ho
      have l0 := on_of hd 28 (by kernel_rfl)
      have f0 := hF.at (s := 111) (i := 28) (by kernel_rfl) (by simp) l0
      rw [show vals 28 = .bool true from hR 28 l0] at f0
      refine Or.inl ⟨wanted_no rfl, ?_⟩
      exact wp_val (.bool true) (by simp [go_sem, f0]) ⟨_, rfl, Gr.refl _, rfl⟩
  case hf =>
    intro vals v hg hR
    have x0 : vals 0 = .int .i64 0 := hR 0 (by simp)
    have x1 : vals 1 = .int .i64 0 := hR 1 (by simp)
    have x2 : vals 2 = .bool true := hR 2 (by simp)
    have x3 : vals 3 = .bool true := hR 3 (by simp)
    have x4 : vals 4 = .int .i64 0 := hR 4 (by simp)
    have x5 : vals 5 = .int .i64 0 := hR 5 (by simp)
    have x6 : vals 6 = .bool true := hR 6 (by simp)
    have x7 : vals 7 = .bool true := hR 7 (by simp)
    have x8 : vals 8 = .bool true := hR 8 (by simp)
    have x9 : vals 9 = .int .i64 0 := hR 9 (by simp)
    have x10 : vals 10 = .int .i64 0 := hR 10 (by simp)
    have x11 : vals 11 = .bool true := hR 11 (by simp)
    have x12 : vals 12 = .bool true := hR 12 (by simp)
    have x13 : vals 13 = .bool true := hR 13 (by simp)
    have x14 : vals 14 = .agg (nw 9 c) := hR 14 (by simp)
    have x15 : vals 15 = .agg (nw 9 c) := hR 15 (by simp)
    have x16 : vals 16 = .bool true := hR 16 (by simp)
    have x17 : vals 17 = .bool true := hR 17 (by simp)
    have x18 : vals 18 = .bool true := hR 18 (by simp)
    have x19 : vals 19 = .agg (nw 9 X) := hR 19 (by simp)
    have x20 : vals 20 = .agg (nw 9 c) := hR 20 (by simp)
    obtain ⟨p21, n21, x21, S21⟩ := (show ∃ p n, vals 21 = Value.slice p (dl (c)) n ∧ Sl v p (c) from hR 21 (by simp))
    have x22 : vals 22 = .agg (nw 9 d) := hR 22 (by simp)
    obtain ⟨p23, n23, x23, S23⟩ := (show ∃ p n, vals 23 = Value.slice p (dl (d)) n ∧ Sl v p (d) from hR 23 (by simp))
    have x24 : vals 24 = .slice pz (dl O) nz := hR 24 (by simp)
    obtain ⟨p25, n25, x25, S25⟩ := (show ∃ p n, vals 25 = Value.slice p (dl (X)) n ∧ Sl v p (X) from hR 25 (by simp))
    have x26 : vals 26 = .agg (nw 9 X) := hR 26 (by simp)
    have x27 : vals 27 = .bool true := hR 27 (by simp)
    have x28 : vals 28 = .bool true := hR 28 (by simp)
    have x29 : vals 29 = .bool true := hR 29 (by simp)
    simp only [putFrom, Act.put, List.setIfInBounds_toArray, List.set_cons_zero, List.set_cons_succ, x0, x1, x2, x3, x4, x5, x6, x7, x8, x9, x10, x11, x12, x13, x14, x15, x16, x17, x18, x19, x20, x21, x22, x23, x24, x25, x26, x27, x28, x29]
    clear hR x0 x1 x2 x3 x4 x5 x6 x7 x8 x9 x10 x11 x12 x13 x14 x15 x16 x17 x18 x19 x20 x21 x22 x23 x24 x25 x26 x27 x28 x29
    have HG : Gr w v := G.trans hg
    clear hg
    go_wp2_with fail
    go_ret
    exact ⟨rfl, HG⟩

end Go.Proofs.Ytleckbdhebjfkaa
