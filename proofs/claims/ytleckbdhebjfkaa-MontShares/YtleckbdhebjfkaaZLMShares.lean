/-
  The statement MontShares, walked: it answers true for every four numbers.
-/
import Derived.Test.YtleckbdhebjfkaaZMtW
import Derived.Test.YtleckbdhebjfkaaZMtS
import Derived.Test.YtleckbdhebjfkaaZLawA
namespace Go.Proofs.Ytleckbdhebjfkaa
open Go.RowKit
attribute [local go_sem ↓] loadNat_is loadArr_is loadWide_is loadArrW_is storeNat_is storeWide_is
attribute [local go_sem] loadNat loadArr loadWide loadArrW storeNat storeWide idxArr fold9 fold18 nw_size nw_elem pre_self pre_1 pre_2 pre_3 pre_4 pre_5 pre_6 pre_7 pre_8 pre_9 pre_10 pre_11 pre_12 pre_13 pre_14 pre_15 pre_16 pre_17 pre_18 pre_19 pre_20 pre_21 pre_22 pre_23 pre_24 pre_25 pre_26 pre_27 pre_28 pre_29 pre_30 pre_31 pre_32 pre_33 pre_34 pre_35 pre_36 pre_37 pre_38 pre_39 pre_40 gro_size gro_drew gro_drewN drew_gro drewN_gro gro_gro blk_gro frz_gro blk_drew frz_drew blk_drewN frz_drewN blk_alloc_at frz_alloc_at blk_alloc frz_alloc cell_gro frozen_gro cell_alloc_pre frozen_alloc_pre setCell_drewN alloc_drewN setBlk_drew setBlk_drewN setBlk_alloc_at setBlk_alloc setBlk_gro setCell_gro setCell_alloc_pre size_setBlk size_setCell
attribute [local go_sem] nw_ext9 nw_ext18 eqArr9 eqArr18

attribute [local go_sem] loadNat2 loadArr2 loadWide2 loadK_nw ppre_1 ppre_2 ppre_3 ppre_4 ppre_5 ppre_6 ppre_7 ppre_8 ppre_9 ppre_10 ppre_11 ppre_12 ppre_13 ppre_14 ppre_15 ppre_16 ppre_17 ppre_18 ppre_19 ppre_20

attribute [local go_sem ↓] Go.wp_at_zero Go.wp_at_succ
attribute [local go_sem] eqN_self frz_setBlk blk_setBlk setBlk_setBlk blk_other
theorem pow_lt_pw (e n : Nat) (h : e < 64 * n) : 2 ^ e < pw n := Nat.pow_lt_pow_right (by decide) h
theorem pw8_M (x : Nat) (h : x < pw 8) : x + x < M := by
  have e : M = pw 8 * 18446744073709551616 := pow_succ64 8
  omega
set_option maxRecDepth 100000 in
set_option maxHeartbeats 4000000 in
theorem montShares_any (n a b c : Nat) (ha : a < M) (hb : b < M) (hc : c < M) (w : World) :
    Calls Try.prog 6 #[.agg (nw 9 n), .agg (nw 9 a), .agg (nw 9 b), .agg (nw 9 c)] w fun e w' => e = .returned (.bool true) ∧ Gr w w' := by
  obtain ⟨m, hmn⟩ : ∃ m, n % 2 ^ 500 = m := ⟨_, rfl⟩
  have hm8 : m < pw 8 := Nat.lt_trans (by rw [← hmn]; exact Nat.mod_lt _ (Nat.two_pow_pos 500)) (pow_lt_pw 500 8 (by decide))
  have hm : m < M := Nat.lt_of_lt_of_le hm8 (pw_mono 8 1)
  have HC : Hid (∀ w, Calls Try.prog 28 #[.agg (nw 9 n), .int .i64 500] w fun e w' => e = .returned (.agg (nw 9 m)) ∧ Gr w w') := fun w => hmn ▸ natcut_any n 500 (by decide) w
  obtain ⟨y0, O, hor, hset, ho1, ho3, hOM, hsm⟩ := odd_of m 3 hm (by decide) (by decide) (by decide)
  replace hor : bits BinOp.or IntKind.u64 ((wd m 0 : Nat) : Int) 3 = (y0 : Int) := hor
  have hg0 := nw_get 9 m 0 (by decide)
  obtain ⟨u, ho, HN0⟩ := New_ok O ho1 ho3 hOM
  obtain ⟨k, hk⟩ : ∃ k, kw O = k := ⟨_, rfl⟩
  rw [hk] at ho HN0
  have hO8 := pw8_M O (hsm 8 (by decide) hm8)
  obtain ⟨da, hda⟩ : ∃ d, a / O = d := ⟨_, rfl⟩
  obtain ⟨db, hdb⟩ : ∃ d, b / O = d := ⟨_, rfl⟩
  obtain ⟨dc, hdc⟩ : ∃ d, c / O = d := ⟨_, rfl⟩
  obtain ⟨p, hp⟩ : ∃ p, a % O = p := ⟨_, rfl⟩
  obtain ⟨q, hq⟩ : ∃ q, b % O = q := ⟨_, rfl⟩
  obtain ⟨t, ht⟩ : ∃ t, c % O = t := ⟨_, rfl⟩
  have hpm : p < O := by rw [← hp]; exact Nat.mod_lt _ (by omega)
  have hqm : q < O := by rw [← hq]; exact Nat.mod_lt _ (by omega)
  have htm : t < O := by rw [← ht]; exact Nat.mod_lt _ (by omega)
  clear hsm
  obtain ⟨S, hS⟩ : ∃ S, q + t = S := ⟨_, rfl⟩
  obtain ⟨s, hs⟩ : ∃ s, S % O = s := ⟨_, rfl⟩
  have hsm : s < O := by rw [← hs]; exact Nat.mod_lt _ (by omega)
  obtain ⟨x, hx⟩ : ∃ x, p * s * u % O = x := ⟨_, rfl⟩
  obtain ⟨y, hy⟩ : ∃ y, p * q * u % O = y := ⟨_, rfl⟩
  obtain ⟨z, hz⟩ : ∃ z, p * t * u % O = z := ⟨_, rfl⟩
  have hym : y < O := by rw [← hy]; exact Nat.mod_lt _ (by omega)
  have hzm : z < O := by rw [← hz]; exact Nat.mod_lt _ (by omega)
  obtain ⟨Y, hY⟩ : ∃ Y, y + z = Y := ⟨_, rfl⟩
  have hYx : Y % O = x := by
    have := ho.share p q t
    rw [hS, hs, hx, hy, hz, hY] at this
    exact this.symm
  have O1 : Hid (∀ w', Calls Try.prog 26 #[.int .u64 1] w' fun e w'' => e = .returned (.agg (nw 9 1)) ∧ Gr w' w'') := fun w => one_any 1 (by decide) w
  have DVa : Hid (∀ w', Calls Try.prog 25 #[.agg (nw 9 a), .agg (nw 9 O)] w' fun e w'' => e = .returned (.tuple #[.agg (nw 9 da), .agg (nw 9 p), .int .i64 0]) ∧ Gr w' w'') := fun w => hda ▸ hp ▸ div_any a O ha (by omega) hOM w
  have DVb : Hid (∀ w', Calls Try.prog 25 #[.agg (nw 9 b), .agg (nw 9 O)] w' fun e w'' => e = .returned (.tuple #[.agg (nw 9 db), .agg (nw 9 q), .int .i64 0]) ∧ Gr w' w'') := fun w => hdb ▸ hq ▸ div_any b O hb (by omega) hOM w
  have DVc : Hid (∀ w', Calls Try.prog 25 #[.agg (nw 9 c), .agg (nw 9 O)] w' fun e w'' => e = .returned (.tuple #[.agg (nw 9 dc), .agg (nw 9 t), .int .i64 0]) ∧ Gr w' w'') := fun w => hdc ▸ ht ▸ div_any c O hc (by omega) hOM w
  have AD1 : Hid (∀ w', Calls Try.prog 30 #[.agg (nw 9 q), .agg (nw 9 t)] w' fun e w'' => e = .returned (.agg (nw 9 S)) ∧ Gr w' w'') := fun w => hS ▸ add6_any q t (by omega) (by omega) (by omega) w
  have MM1 : Hid (∀ w', Calls Try.prog 29 #[.agg (nw 9 S), .agg (nw 9 1), .agg (nw 9 O)] w' fun e w'' => e = .returned (.tuple #[.agg (nw 9 s), .int .i64 0]) ∧ Gr w' w'') := fun w => by
    have := mulMod_any S 1 O (by omega) (lt_M 1 (by decide)) (by omega) hOM w
    rw [Nat.mul_one, hs] at this
    exact this
  have M1 : Hid (∀ (b : Nat) w', Mn w' b O k u → Calls Try.prog 17 #[.pointer (some ⟨b, 0, none⟩), .agg (nw 9 p), .agg (nw 9 s)] w' fun e w'' => e = .returned (.tuple #[.agg (nw 9 x), .int .i64 0]) ∧ Gr w' w'') := fun b w' h => hx ▸ Mul_ok b O k u p s w' h ⟨hpm, hsm⟩
  have M2 : Hid (∀ (b : Nat) w', Mn w' b O k u → Calls Try.prog 17 #[.pointer (some ⟨b, 0, none⟩), .agg (nw 9 p), .agg (nw 9 q)] w' fun e w'' => e = .returned (.tuple #[.agg (nw 9 y), .int .i64 0]) ∧ Gr w' w'') := fun b w' h => hy ▸ Mul_ok b O k u p q w' h ⟨hpm, hqm⟩
  have M3 : Hid (∀ (b : Nat) w', Mn w' b O k u → Calls Try.prog 17 #[.pointer (some ⟨b, 0, none⟩), .agg (nw 9 p), .agg (nw 9 t)] w' fun e w'' => e = .returned (.tuple #[.agg (nw 9 z), .int .i64 0]) ∧ Gr w' w'') := fun b w' h => hz ▸ Mul_ok b O k u p t w' h ⟨hpm, htm⟩
  have AD2 : Hid (∀ w', Calls Try.prog 30 #[.agg (nw 9 y), .agg (nw 9 z)] w' fun e w'' => e = .returned (.agg (nw 9 Y)) ∧ Gr w' w'') := fun w => hY ▸ add6_any y z (by omega) (by omega) (by omega) w
  have MM2 : Hid (∀ w', Calls Try.prog 29 #[.agg (nw 9 Y), .agg (nw 9 1), .agg (nw 9 O)] w' fun e w'' => e = .returned (.tuple #[.agg (nw 9 x), .int .i64 0]) ∧ Gr w' w'') := fun w => by
    have := mulMod_any Y 1 O (by omega) (lt_M 1 (by decide)) (by omega) hOM w
    rw [Nat.mul_one, hYx] at this
    exact this
  have HN : Hid (∀ w, Calls Try.prog 8 #[.agg (nw 9 O)] w fun e w' => ∃ b, e = .returned (.tuple #[.pointer (some ⟨b, 0, none⟩), .int .i64 0]) ∧ Mn w' b O k u ∧ Gr w w') := HN0
  clear HN0 hYx hY hz hy hx hym hzm hsm hs hS hpm hqm htm hp hq ht hda hdb hdc hO8 ho hOM ho3 ho1 hk ha hb hc hm hm8 hmn
  go_enter Try.func6, Try.ntmps6
  go_upto_region 3 with (go_at_call 13; refine (awake6_any _).mono ?_; rintro e w' ⟨rfl, gaw, rfl⟩)
  refine gen_w (fun v => Hid (Gr w v ∧ Cl v (w.heap.size) n ∧ Cl v (w.heap.size + 1) a ∧ Cl v (w.heap.size + 1 + 1) b ∧ Cl v (w.heap.size + 1 + 1 + 1) c)) ⟨(by repeat (first | exact Gr.refl _ | apply Gr.drewN | apply Gr.drew | apply Gr.alloc | apply Gr.gro)), ⟨by simp [go_sem], by simp [go_sem], by simp [go_sem]⟩, ⟨by simp [go_sem], by simp [go_sem], by simp [go_sem]⟩, ⟨by simp [go_sem], by simp [go_sem], by simp [go_sem]⟩, ⟨by simp [go_sem], by simp [go_sem], by simp [go_sem]⟩⟩ ?_
  intro v0 HV
  have ⟨G, c_w_heap_size, c__w_heap_size_1_, c__w_heap_size_1_1_, c__w_heap_size_1_1_1_⟩ := HV.out
  have ⟨hc_w_heap_size, fc_w_heap_size, pc_w_heap_size⟩ := c_w_heap_size
  have ⟨hc__w_heap_size_1_, fc__w_heap_size_1_, pc__w_heap_size_1_⟩ := c__w_heap_size_1_
  have ⟨hc__w_heap_size_1_1_, fc__w_heap_size_1_1_, pc__w_heap_size_1_1_⟩ := c__w_heap_size_1_1_
  have ⟨hc__w_heap_size_1_1_1_, fc__w_heap_size_1_1_1_, pc__w_heap_size_1_1_1_⟩ := c__w_heap_size_1_1_1_
  go_upto_region 4 with (go_at_call 28; refine (HC.out _).mono ?_; rintro e w' ⟨rfl, gc, rfl⟩)
  have ⟨G, c_w_heap_size, c__w_heap_size_1_, c__w_heap_size_1_1_, c__w_heap_size_1_1_1_⟩ := HV.out
  have ⟨hc_w_heap_size, fc_w_heap_size, pc_w_heap_size⟩ := c_w_heap_size
  have ⟨hc__w_heap_size_1_, fc__w_heap_size_1_, pc__w_heap_size_1_⟩ := c__w_heap_size_1_
  have ⟨hc__w_heap_size_1_1_, fc__w_heap_size_1_1_, pc__w_heap_size_1_1_⟩ := c__w_heap_size_1_1_
  have ⟨hc__w_heap_size_1_1_1_, fc__w_heap_size_1_1_1_, pc__w_heap_size_1_1_1_⟩ := c__w_heap_size_1_1_1_
  go_upto_region 5 with fail
  obtain ⟨e9, he9⟩ : ∃ x, v0.heap.size + gc.os.length = x := ⟨_, rfl⟩
  rw [he9]
  refine gen_w (fun v => Hid (Gr w v ∧ Cl v (w.heap.size) n ∧ Cl v (w.heap.size + 1) a ∧ Cl v (w.heap.size + 1 + 1) b ∧ Cl v (w.heap.size + 1 + 1 + 1) c ∧ Cl v e9 O)) ⟨G.trans (by repeat (first | exact Gr.refl _ | apply Gr.drewN | apply Gr.drew | apply Gr.alloc | apply Gr.gro)), c_w_heap_size.gr (by repeat (first | exact Gr.refl _ | apply Gr.drewN | apply Gr.drew | apply Gr.alloc | apply Gr.gro)), c__w_heap_size_1_.gr (by repeat (first | exact Gr.refl _ | apply Gr.drewN | apply Gr.drew | apply Gr.alloc | apply Gr.gro)), c__w_heap_size_1_1_.gr (by repeat (first | exact Gr.refl _ | apply Gr.drewN | apply Gr.drew | apply Gr.alloc | apply Gr.gro)), c__w_heap_size_1_1_1_.gr (by repeat (first | exact Gr.refl _ | apply Gr.drewN | apply Gr.drew | apply Gr.alloc | apply Gr.gro)), he9 ▸ ⟨by simp [go_sem], by simp [go_sem], by simp [go_sem]⟩⟩ ?_
  clear HV G c_w_heap_size c__w_heap_size_1_ c__w_heap_size_1_1_ c__w_heap_size_1_1_1_ he9
  intro v1 HV
  go_cut [10, 11] from 42 to 46 (fun a0 a1 wx => ∃ bx : Nat, a0 = .pointer (some ⟨bx, 0, none⟩) ∧ a1 = .int .i64 0 ∧ Hid (Gr w wx ∧ Cl wx (w.heap.size) n ∧ Cl wx (w.heap.size + 1) a ∧ Cl wx (w.heap.size + 1 + 1) b ∧ Cl wx (w.heap.size + 1 + 1 + 1) c ∧ Cl wx e9 O ∧ Mn wx bx O k u))
  case first =>
    have ⟨G, c_w_heap_size, c__w_heap_size_1_, c__w_heap_size_1_1_, c__w_heap_size_1_1_1_, c_e9⟩ := HV.out
    have ⟨hc_w_heap_size, fc_w_heap_size, pc_w_heap_size⟩ := c_w_heap_size
    have ⟨hc__w_heap_size_1_, fc__w_heap_size_1_, pc__w_heap_size_1_⟩ := c__w_heap_size_1_
    have ⟨hc__w_heap_size_1_1_, fc__w_heap_size_1_1_, pc__w_heap_size_1_1_⟩ := c__w_heap_size_1_1_
    have ⟨hc__w_heap_size_1_1_1_, fc__w_heap_size_1_1_1_, pc__w_heap_size_1_1_1_⟩ := c__w_heap_size_1_1_1_
    have ⟨hc_e9, fc_e9, pc_e9⟩ := c_e9
    go_wp2_with (go_at_call 8; refine (HN.out _).mono ?_; rintro e W1 ⟨bx, rfl, S1, G1⟩)
    go_meet
    exact ⟨bx, rfl, rfl, G.trans ((Gr.trans (by repeat (first | exact Gr.refl _ | apply Gr.drewN | apply Gr.drew | apply Gr.alloc | apply Gr.gro)) G1).trans (by repeat (first | exact Gr.refl _ | apply Gr.drewN | apply Gr.drew | apply Gr.alloc | apply Gr.gro))), c_w_heap_size.gr ((Gr.trans (by repeat (first | exact Gr.refl _ | apply Gr.drewN | apply Gr.drew | apply Gr.alloc | apply Gr.gro)) G1).trans (by repeat (first | exact Gr.refl _ | apply Gr.drewN | apply Gr.drew | apply Gr.alloc | apply Gr.gro))), c__w_heap_size_1_.gr ((Gr.trans (by repeat (first | exact Gr.refl _ | apply Gr.drewN | apply Gr.drew | apply Gr.alloc | apply Gr.gro)) G1).trans (by repeat (first | exact Gr.refl _ | apply Gr.drewN | apply Gr.drew | apply Gr.alloc | apply Gr.gro))), c__w_heap_size_1_1_.gr ((Gr.trans (by repeat (first | exact Gr.refl _ | apply Gr.drewN | apply Gr.drew | apply Gr.alloc | apply Gr.gro)) G1).trans (by repeat (first | exact Gr.refl _ | apply Gr.drewN | apply Gr.drew | apply Gr.alloc | apply Gr.gro))), c__w_heap_size_1_1_1_.gr ((Gr.trans (by repeat (first | exact Gr.refl _ | apply Gr.drewN | apply Gr.drew | apply Gr.alloc | apply Gr.gro)) G1).trans (by repeat (first | exact Gr.refl _ | apply Gr.drewN | apply Gr.drew | apply Gr.alloc | apply Gr.gro))), c_e9.gr ((Gr.trans (by repeat (first | exact Gr.refl _ | apply Gr.drewN | apply Gr.drew | apply Gr.alloc | apply Gr.gro)) G1).trans (by repeat (first | exact Gr.refl _ | apply Gr.drewN | apply Gr.drew | apply Gr.alloc | apply Gr.gro))), S1.gr (by repeat (first | exact Gr.refl _ | apply Gr.drewN | apply Gr.drew | apply Gr.alloc | apply Gr.gro))⟩
  clear HV
  obtain ⟨bx, rfl, rfl, HV⟩ := hcut
  have ⟨G, c_w_heap_size, c__w_heap_size_1_, c__w_heap_size_1_1_, c__w_heap_size_1_1_1_, c_e9, S_x⟩ := HV.out
  have ⟨hc_w_heap_size, fc_w_heap_size, pc_w_heap_size⟩ := c_w_heap_size
  have ⟨hc__w_heap_size_1_, fc__w_heap_size_1_, pc__w_heap_size_1_⟩ := c__w_heap_size_1_
  have ⟨hc__w_heap_size_1_1_, fc__w_heap_size_1_1_, pc__w_heap_size_1_1_⟩ := c__w_heap_size_1_1_
  have ⟨hc__w_heap_size_1_1_1_, fc__w_heap_size_1_1_1_, pc__w_heap_size_1_1_1_⟩ := c__w_heap_size_1_1_1_
  have ⟨hc_e9, fc_e9, pc_e9⟩ := c_e9
  go_upto_region 8 with (first
      | (go_at_call 12; refine (num_any _ _).mono ?_; rintro e w' ⟨rfl, rfl⟩))
  refine gen_w (fun v => Hid (Gr w v ∧ Cl v (w.heap.size) n ∧ Cl v (w.heap.size + 1) a ∧ Cl v (w.heap.size + 1 + 1) b ∧ Cl v (w.heap.size + 1 + 1 + 1) c ∧ Cl v e9 O ∧ Mn v bx O k u)) ⟨G.trans (by repeat (first | exact Gr.refl _ | apply Gr.drewN | apply Gr.drew | apply Gr.alloc | apply Gr.gro)), c_w_heap_size.gr (by repeat (first | exact Gr.refl _ | apply Gr.drewN | apply Gr.drew | apply Gr.alloc | apply Gr.gro)), c__w_heap_size_1_.gr (by repeat (first | exact Gr.refl _ | apply Gr.drewN | apply Gr.drew | apply Gr.alloc | apply Gr.gro)), c__w_heap_size_1_1_.gr (by repeat (first | exact Gr.refl _ | apply Gr.drewN | apply Gr.drew | apply Gr.alloc | apply Gr.gro)), c__w_heap_size_1_1_1_.gr (by repeat (first | exact Gr.refl _ | apply Gr.drewN | apply Gr.drew | apply Gr.alloc | apply Gr.gro)), c_e9.gr (by repeat (first | exact Gr.refl _ | apply Gr.drewN | apply Gr.drew | apply Gr.alloc | apply Gr.gro)), S_x.gr (by repeat (first | exact Gr.refl _ | apply Gr.drewN | apply Gr.drew | apply Gr.alloc | apply Gr.gro))⟩ ?_
  clear HV G c_w_heap_size c__w_heap_size_1_ c__w_heap_size_1_1_ c__w_heap_size_1_1_1_ c_e9 S_x
  intro v2 HV
  go_cut [12, 13, 14] from 50 to 56 (fun a0 a1 a2 wx => ∃ e12 e13 : Nat, a0 = .pointer (some ⟨e12, 0, none⟩) ∧ a1 = .pointer (some ⟨e13, 0, none⟩) ∧ a2 = .int .i64 0 ∧ Hid (Gr w wx ∧ Cl wx (w.heap.size) n ∧ Cl wx (w.heap.size + 1) a ∧ Cl wx (w.heap.size + 1 + 1) b ∧ Cl wx (w.heap.size + 1 + 1 + 1) c ∧ Cl wx e9 O ∧ Cl wx e12 da ∧ Cl wx e13 p ∧ Mn wx bx O k u))
  case first =>
    have ⟨G, c_w_heap_size, c__w_heap_size_1_, c__w_heap_size_1_1_, c__w_heap_size_1_1_1_, c_e9, S_x⟩ := HV.out
    have ⟨hc_w_heap_size, fc_w_heap_size, pc_w_heap_size⟩ := c_w_heap_size
    have ⟨hc__w_heap_size_1_, fc__w_heap_size_1_, pc__w_heap_size_1_⟩ := c__w_heap_size_1_
    have ⟨hc__w_heap_size_1_1_, fc__w_heap_size_1_1_, pc__w_heap_size_1_1_⟩ := c__w_heap_size_1_1_
    have ⟨hc__w_heap_size_1_1_1_, fc__w_heap_size_1_1_1_, pc__w_heap_size_1_1_1_⟩ := c__w_heap_size_1_1_1_
    have ⟨hc_e9, fc_e9, pc_e9⟩ := c_e9
    go_wp2_with (first
        | (go_at_call_of 25 ((#[.agg (nw 9 a), .agg (nw 9 O)] : Array Value)); refine (DVa.out _).mono ?_; rintro e w' ⟨rfl, g1, rfl⟩)
        | (go_at_call 12; refine (num_any _ _).mono ?_; rintro e w' ⟨rfl, rfl⟩))
    go_meet
    exact ⟨_, _, rfl, rfl, rfl, G.trans (by repeat (first | exact Gr.refl _ | apply Gr.drewN | apply Gr.drew | apply Gr.alloc | apply Gr.gro)), c_w_heap_size.gr (by repeat (first | exact Gr.refl _ | apply Gr.drewN | apply Gr.drew | apply Gr.alloc | apply Gr.gro)), c__w_heap_size_1_.gr (by repeat (first | exact Gr.refl _ | apply Gr.drewN | apply Gr.drew | apply Gr.alloc | apply Gr.gro)), c__w_heap_size_1_1_.gr (by repeat (first | exact Gr.refl _ | apply Gr.drewN | apply Gr.drew | apply Gr.alloc | apply Gr.gro)), c__w_heap_size_1_1_1_.gr (by repeat (first | exact Gr.refl _ | apply Gr.drewN | apply Gr.drew | apply Gr.alloc | apply Gr.gro)), c_e9.gr (by repeat (first | exact Gr.refl _ | apply Gr.drewN | apply Gr.drew | apply Gr.alloc | apply Gr.gro)), ⟨by simp [go_sem], by simp [go_sem], by simp [go_sem]⟩, ⟨by simp [go_sem], by simp [go_sem], by simp [go_sem]⟩, S_x.gr (by repeat (first | exact Gr.refl _ | apply Gr.drewN | apply Gr.drew | apply Gr.alloc | apply Gr.gro))⟩
  clear HV
  obtain ⟨e12, e13, rfl, rfl, rfl, HV⟩ := hcut
  go_upto_region 9 with fail
  go_cut [15, 16, 17] from 57 to 63 (fun a0 a1 a2 wx => ∃ e15 e16 : Nat, a0 = .pointer (some ⟨e15, 0, none⟩) ∧ a1 = .pointer (some ⟨e16, 0, none⟩) ∧ a2 = .int .i64 0 ∧ Hid (Gr w wx ∧ Cl wx (w.heap.size) n ∧ Cl wx (w.heap.size + 1) a ∧ Cl wx (w.heap.size + 1 + 1) b ∧ Cl wx (w.heap.size + 1 + 1 + 1) c ∧ Cl wx e9 O ∧ Cl wx e12 da ∧ Cl wx e13 p ∧ Cl wx e15 db ∧ Cl wx e16 q ∧ Mn wx bx O k u))
  case first =>
    have ⟨G, c_w_heap_size, c__w_heap_size_1_, c__w_heap_size_1_1_, c__w_heap_size_1_1_1_, c_e9, c_e12, c_e13, S_x⟩ := HV.out
    have ⟨hc_w_heap_size, fc_w_heap_size, pc_w_heap_size⟩ := c_w_heap_size
    have ⟨hc__w_heap_size_1_, fc__w_heap_size_1_, pc__w_heap_size_1_⟩ := c__w_heap_size_1_
    have ⟨hc__w_heap_size_1_1_, fc__w_heap_size_1_1_, pc__w_heap_size_1_1_⟩ := c__w_heap_size_1_1_
    have ⟨hc__w_heap_size_1_1_1_, fc__w_heap_size_1_1_1_, pc__w_heap_size_1_1_1_⟩ := c__w_heap_size_1_1_1_
    have ⟨hc_e9, fc_e9, pc_e9⟩ := c_e9
    have ⟨hc_e12, fc_e12, pc_e12⟩ := c_e12
    have ⟨hc_e13, fc_e13, pc_e13⟩ := c_e13
    go_wp2_with (first
        | (go_at_call_of 25 ((#[.agg (nw 9 b), .agg (nw 9 O)] : Array Value)); refine (DVb.out _).mono ?_; rintro e w' ⟨rfl, g2, rfl⟩)
        | (go_at_call 12; refine (num_any _ _).mono ?_; rintro e w' ⟨rfl, rfl⟩))
    go_meet
    exact ⟨_, _, rfl, rfl, rfl, G.trans (by repeat (first | exact Gr.refl _ | apply Gr.drewN | apply Gr.drew | apply Gr.alloc | apply Gr.gro)), c_w_heap_size.gr (by repeat (first | exact Gr.refl _ | apply Gr.drewN | apply Gr.drew | apply Gr.alloc | apply Gr.gro)), c__w_heap_size_1_.gr (by repeat (first | exact Gr.refl _ | apply Gr.drewN | apply Gr.drew | apply Gr.alloc | apply Gr.gro)), c__w_heap_size_1_1_.gr (by repeat (first | exact Gr.refl _ | apply Gr.drewN | apply Gr.drew | apply Gr.alloc | apply Gr.gro)), c__w_heap_size_1_1_1_.gr (by repeat (first | exact Gr.refl _ | apply Gr.drewN | apply Gr.drew | apply Gr.alloc | apply Gr.gro)), c_e9.gr (by repeat (first | exact Gr.refl _ | apply Gr.drewN | apply Gr.drew | apply Gr.alloc | apply Gr.gro)), c_e12.gr (by repeat (first | exact Gr.refl _ | apply Gr.drewN | apply Gr.drew | apply Gr.alloc | apply Gr.gro)), c_e13.gr (by repeat (first | exact Gr.refl _ | apply Gr.drewN | apply Gr.drew | apply Gr.alloc | apply Gr.gro)), ⟨by simp [go_sem], by simp [go_sem], by simp [go_sem]⟩, ⟨by simp [go_sem], by simp [go_sem], by simp [go_sem]⟩, S_x.gr (by repeat (first | exact Gr.refl _ | apply Gr.drewN | apply Gr.drew | apply Gr.alloc | apply Gr.gro))⟩
  clear HV
  obtain ⟨e15, e16, rfl, rfl, rfl, HV⟩ := hcut
  go_upto_region 10 with fail
  go_cut [18, 19, 20] from 64 to 70 (fun a0 a1 a2 wx => ∃ e18 e19 : Nat, a0 = .pointer (some ⟨e18, 0, none⟩) ∧ a1 = .pointer (some ⟨e19, 0, none⟩) ∧ a2 = .int .i64 0 ∧ Hid (Gr w wx ∧ Cl wx (w.heap.size) n ∧ Cl wx (w.heap.size + 1) a ∧ Cl wx (w.heap.size + 1 + 1) b ∧ Cl wx (w.heap.size + 1 + 1 + 1) c ∧ Cl wx e9 O ∧ Cl wx e12 da ∧ Cl wx e13 p ∧ Cl wx e15 db ∧ Cl wx e16 q ∧ Cl wx e18 dc ∧ Cl wx e19 t ∧ Mn wx bx O k u))
  case first =>
    have ⟨G, c_w_heap_size, c__w_heap_size_1_, c__w_heap_size_1_1_, c__w_heap_size_1_1_1_, c_e9, c_e12, c_e13, c_e15, c_e16, S_x⟩ := HV.out
    have ⟨hc_w_heap_size, fc_w_heap_size, pc_w_heap_size⟩ := c_w_heap_size
    have ⟨hc__w_heap_size_1_, fc__w_heap_size_1_, pc__w_heap_size_1_⟩ := c__w_heap_size_1_
    have ⟨hc__w_heap_size_1_1_, fc__w_heap_size_1_1_, pc__w_heap_size_1_1_⟩ := c__w_heap_size_1_1_
    have ⟨hc__w_heap_size_1_1_1_, fc__w_heap_size_1_1_1_, pc__w_heap_size_1_1_1_⟩ := c__w_heap_size_1_1_1_
    have ⟨hc_e9, fc_e9, pc_e9⟩ := c_e9
    have ⟨hc_e12, fc_e12, pc_e12⟩ := c_e12
    have ⟨hc_e13, fc_e13, pc_e13⟩ := c_e13
    have ⟨hc_e15, fc_e15, pc_e15⟩ := c_e15
    have ⟨hc_e16, fc_e16, pc_e16⟩ := c_e16
    go_wp2_with (first
        | (go_at_call_of 25 ((#[.agg (nw 9 c), .agg (nw 9 O)] : Array Value)); refine (DVc.out _).mono ?_; rintro e w' ⟨rfl, g3, rfl⟩)
        | (go_at_call 12; refine (num_any _ _).mono ?_; rintro e w' ⟨rfl, rfl⟩))
    go_meet
    exact ⟨_, _, rfl, rfl, rfl, G.trans (by repeat (first | exact Gr.refl _ | apply Gr.drewN | apply Gr.drew | apply Gr.alloc | apply Gr.gro)), c_w_heap_size.gr (by repeat (first | exact Gr.refl _ | apply Gr.drewN | apply Gr.drew | apply Gr.alloc | apply Gr.gro)), c__w_heap_size_1_.gr (by repeat (first | exact Gr.refl _ | apply Gr.drewN | apply Gr.drew | apply Gr.alloc | apply Gr.gro)), c__w_heap_size_1_1_.gr (by repeat (first | exact Gr.refl _ | apply Gr.drewN | apply Gr.drew | apply Gr.alloc | apply Gr.gro)), c__w_heap_size_1_1_1_.gr (by repeat (first | exact Gr.refl _ | apply Gr.drewN | apply Gr.drew | apply Gr.alloc | apply Gr.gro)), c_e9.gr (by repeat (first | exact Gr.refl _ | apply Gr.drewN | apply Gr.drew | apply Gr.alloc | apply Gr.gro)), c_e12.gr (by repeat (first | exact Gr.refl _ | apply Gr.drewN | apply Gr.drew | apply Gr.alloc | apply Gr.gro)), c_e13.gr (by repeat (first | exact Gr.refl _ | apply Gr.drewN | apply Gr.drew | apply Gr.alloc | apply Gr.gro)), c_e15.gr (by repeat (first | exact Gr.refl _ | apply Gr.drewN | apply Gr.drew | apply Gr.alloc | apply Gr.gro)), c_e16.gr (by repeat (first | exact Gr.refl _ | apply Gr.drewN | apply Gr.drew | apply Gr.alloc | apply Gr.gro)), ⟨by simp [go_sem], by simp [go_sem], by simp [go_sem]⟩, ⟨by simp [go_sem], by simp [go_sem], by simp [go_sem]⟩, S_x.gr (by repeat (first | exact Gr.refl _ | apply Gr.drewN | apply Gr.drew | apply Gr.alloc | apply Gr.gro))⟩
  clear HV
  obtain ⟨e18, e19, rfl, rfl, rfl, HV⟩ := hcut
  go_upto_region 11 with fail
  go_cut [21, 22] from 71 to 79 (fun a0 a1 wx => ∃ e21 : Nat, a0 = .pointer (some ⟨e21, 0, none⟩) ∧ a1 = .int .i64 0 ∧ Hid (Gr w wx ∧ Cl wx (w.heap.size) n ∧ Cl wx (w.heap.size + 1) a ∧ Cl wx (w.heap.size + 1 + 1) b ∧ Cl wx (w.heap.size + 1 + 1 + 1) c ∧ Cl wx e9 O ∧ Cl wx e12 da ∧ Cl wx e13 p ∧ Cl wx e15 db ∧ Cl wx e16 q ∧ Cl wx e18 dc ∧ Cl wx e19 t ∧ Cl wx e21 s ∧ Mn wx bx O k u))
  case first =>
    have ⟨G, c_w_heap_size, c__w_heap_size_1_, c__w_heap_size_1_1_, c__w_heap_size_1_1_1_, c_e9, c_e12, c_e13, c_e15, c_e16, c_e18, c_e19, S_x⟩ := HV.out
    have ⟨hc_w_heap_size, fc_w_heap_size, pc_w_heap_size⟩ := c_w_heap_size
    have ⟨hc__w_heap_size_1_, fc__w_heap_size_1_, pc__w_heap_size_1_⟩ := c__w_heap_size_1_
    have ⟨hc__w_heap_size_1_1_, fc__w_heap_size_1_1_, pc__w_heap_size_1_1_⟩ := c__w_heap_size_1_1_
    have ⟨hc__w_heap_size_1_1_1_, fc__w_heap_size_1_1_1_, pc__w_heap_size_1_1_1_⟩ := c__w_heap_size_1_1_1_
    have ⟨hc_e9, fc_e9, pc_e9⟩ := c_e9
    have ⟨hc_e12, fc_e12, pc_e12⟩ := c_e12
    have ⟨hc_e13, fc_e13, pc_e13⟩ := c_e13
    have ⟨hc_e15, fc_e15, pc_e15⟩ := c_e15
    have ⟨hc_e16, fc_e16, pc_e16⟩ := c_e16
    have ⟨hc_e18, fc_e18, pc_e18⟩ := c_e18
    have ⟨hc_e19, fc_e19, pc_e19⟩ := c_e19
    refine wp_region_mix (by kernel_rfl) (by kernel_rfl) (RG _ (fun i => match i with | 0 => some (.agg (nw 9 q)) | 1 => some (.agg (nw 9 t)) | 2 => some (.agg (nw 9 S)) | 3 => some (.agg (nw 9 1)) | 4 => some (.agg (nw 9 O)) | 5 => some (.tuple #[.agg (nw 9 s), .int .i64 0]) | 6 => some (.tuple #[.agg (nw 9 s), .int .i64 0]) | 7 => some (.agg (nw 9 s)) | 8 => some (.int .i64 0) | 11 => some (.int .i64 0) | _ => none) (fun i => match i with | 9 => some (nw 9 0) | _ => none) (fun i => match i with | 9 => some (10, nw 9 s) | _ => none)) (RG.start _ _ _ _ _ _) ?hs ?hf
    case hs =>
      intro listed vals a1 v1 i o hz hR hF ho hl hd
      have hks : ∀ (j k : Nat) (r : Array Value), (match j with | 9 => some (10, nw 9 s) | _ => (none : Option (Nat × Array Value))) = some (k, r) → (j = 9 ∧ k = 10) := fun j k r h => by
        split at h <;> simp_all
      have Hc_w_heap_size : blk v1 (w.heap.size) = nw 9 n := (blk_of _ _ _ (hR.1.below.block (w.heap.size) (c_w_heap_size.p))).trans (c_w_heap_size.h)
      have Hc__w_heap_size_1_ : blk v1 ((w.heap.size + 1)) = nw 9 a := (blk_of _ _ _ (hR.1.below.block ((w.heap.size + 1)) (c__w_heap_size_1_.p))).trans (c__w_heap_size_1_.h)
      have Hc__w_heap_size_1_1_ : blk v1 ((w.heap.size + 1 + 1)) = nw 9 b := (blk_of _ _ _ (hR.1.below.block ((w.heap.size + 1 + 1)) (c__w_heap_size_1_1_.p))).trans (c__w_heap_size_1_1_.h)
      have Hc__w_heap_size_1_1_1_ : blk v1 ((w.heap.size + 1 + 1 + 1)) = nw 9 c := (blk_of _ _ _ (hR.1.below.block ((w.heap.size + 1 + 1 + 1)) (c__w_heap_size_1_1_1_.p))).trans (c__w_heap_size_1_1_1_.h)
      have Hc_e9 : blk v1 (e9) = nw 9 O := (blk_of _ _ _ (hR.1.below.block (e9) (c_e9.p))).trans (c_e9.h)
      have Hc_e12 : blk v1 (e12) = nw 9 da := (blk_of _ _ _ (hR.1.below.block (e12) (c_e12.p))).trans (c_e12.h)
      have Hc_e13 : blk v1 (e13) = nw 9 p := (blk_of _ _ _ (hR.1.below.block (e13) (c_e13.p))).trans (c_e13.h)
      have Hc_e15 : blk v1 (e15) = nw 9 db := (blk_of _ _ _ (hR.1.below.block (e15) (c_e15.p))).trans (c_e15.h)
      have Hc_e16 : blk v1 (e16) = nw 9 q := (blk_of _ _ _ (hR.1.below.block (e16) (c_e16.p))).trans (c_e16.h)
      have Hc_e18 : blk v1 (e18) = nw 9 dc := (blk_of _ _ _ (hR.1.below.block (e18) (c_e18.p))).trans (c_e18.h)
      have Hc_e19 : blk v1 (e19) = nw 9 t := (blk_of _ _ _ (hR.1.below.block (e19) (c_e19.p))).trans (c_e19.h)
      have hi : i < 12 := by simpa using (Array.getElem?_eq_some_iff.1 ho).1
      have hil : i < listed.size := by rw [hz]; simpa using hi
      obtain rfl | rfl | rfl | rfl | rfl | rfl | rfl | rfl | rfl | rfl | rfl | rfl : i = 0 ∨ i = 1 ∨ i = 2 ∨ i = 3 ∨ i = 4 ∨ i = 5 ∨ i = 6 ∨ i = 7 ∨ i = 8 ∨ i = 9 ∨ i = 10 ∨ i = 11 := by omega
      · obtain rfl := Option.some.inj ho
        have f0 := hF.old (s := 16) (v := .pointer (some ⟨e16, 0, none⟩)) (by kernel_rfl) rfl
        exact wp_val (.agg (nw 9 q)) (by simp [go_sem, f0, Hc_e16]) ⟨_, rfl, RG.quiet 0 _ hil rfl rfl (fun j k r h => by have := hks j k r h; omega) (Gr.refl _) hR⟩
      · obtain rfl := Option.some.inj ho
        have f0 := hF.old (s := 19) (v := .pointer (some ⟨e19, 0, none⟩)) (by kernel_rfl) rfl
        exact wp_val (.agg (nw 9 t)) (by simp [go_sem, f0, Hc_e19]) ⟨_, rfl, RG.quiet 1 _ hil rfl rfl (fun j k r h => by have := hks j k r h; omega) (Gr.refl _) hR⟩
      · obtain rfl := Option.some.inj ho
        have l0 := hd ⟨0, .data⟩ (by simp) rfl
        have f0 := hF.at (s := 72) (i := 0) (by kernel_rfl) (by simp) l0
        rw [hR.2.1 0 _ l0 rfl] at f0
        have l1 := hd ⟨1, .data⟩ (by simp) rfl
        have f1 := hF.at (s := 73) (i := 1) (by kernel_rfl) (by simp) l1
        rw [hR.2.1 1 _ l1 rfl] at f1
        exact wp_ret (.agg (nw 9 S)) (by simp [go_sem, f0, f1]) (AD1.out _) (fun w2 hg => ⟨_, rfl, RG.quiet 2 _ hil rfl rfl (fun j k r h => by have := hks j k r h; omega) hg hR⟩)
      · obtain rfl := Option.some.inj ho
        exact wp_ret (.agg (nw 9 1)) (by simp [go_sem]) (O1.out _) (fun w2 hg => ⟨_, rfl, RG.quiet 3 _ hil rfl rfl (fun j k r h => by have := hks j k r h; omega) hg hR⟩)
      · obtain rfl := Option.some.inj ho
        have f0 := hF.old (s := 9) (v := .pointer (some ⟨e9, 0, none⟩)) (by kernel_rfl) rfl
        exact wp_val (.agg (nw 9 O)) (by simp [go_sem, f0, Hc_e9]) ⟨_, rfl, RG.quiet 4 _ hil rfl rfl (fun j k r h => by have := hks j k r h; omega) (Gr.refl _) hR⟩
      · obtain rfl := Option.some.inj ho
        have l0 := hd ⟨2, .data⟩ (by simp) rfl
        have f0 := hF.at (s := 74) (i := 2) (by kernel_rfl) (by simp) l0
        rw [hR.2.1 2 _ l0 rfl] at f0
        have l1 := hd ⟨3, .data⟩ (by simp) rfl
        have f1 := hF.at (s := 75) (i := 3) (by kernel_rfl) (by simp) l1
        rw [hR.2.1 3 _ l1 rfl] at f1
        have l2 := hd ⟨4, .data⟩ (by simp) rfl
        have f2 := hF.at (s := 76) (i := 4) (by kernel_rfl) (by simp) l2
        rw [hR.2.1 4 _ l2 rfl] at f2
        exact wp_ret (.tuple #[.agg (nw 9 s), .int .i64 0]) (by simp [go_sem, f0, f1, f2]) (MM1.out _) (fun w2 hg => ⟨_, rfl, RG.quiet 5 _ hil rfl rfl (fun j k r h => by have := hks j k r h; omega) hg hR⟩)
      · obtain rfl := Option.some.inj ho
        have l0 := hd ⟨5, .data⟩ (by simp) rfl
        have f0 := hF.at (s := 77) (i := 5) (by kernel_rfl) (by simp) l0
        rw [hR.2.1 5 _ l0 rfl] at f0
        exact wp_val (.tuple #[.agg (nw 9 s), .int .i64 0]) (by simp [go_sem, f0]) ⟨_, rfl, RG.quiet 6 _ hil rfl rfl (fun j k r h => by have := hks j k r h; omega) (Gr.refl _) hR⟩
      · obtain rfl := Option.some.inj ho
        have l0 := hd ⟨6, .data⟩ (by simp) rfl
        have f0 := hF.at (s := 71) (i := 6) (by kernel_rfl) (by simp) l0
        rw [hR.2.1 6 _ l0 rfl] at f0
        exact wp_val (.agg (nw 9 s)) (by simp [go_sem, f0]) ⟨_, rfl, RG.quiet 7 _ hil rfl rfl (fun j k r h => by have := hks j k r h; omega) (Gr.refl _) hR⟩
      · obtain rfl := Option.some.inj ho
        have l0 := hd ⟨6, .data⟩ (by simp) rfl
        have f0 := hF.at (s := 71) (i := 6) (by kernel_rfl) (by simp) l0
        rw [hR.2.1 6 _ l0 rfl] at f0
        exact wp_val (.int .i64 0) (by simp [go_sem, f0]) ⟨_, rfl, RG.quiet 8 _ hil rfl rfl (fun j k r h => by have := hks j k r h; omega) (Gr.refl _) hR⟩
      · obtain rfl := Option.some.inj ho
        exact wp_val (.pointer (some ⟨v1.heap.size, 0, none⟩)) (w' := v1.alloc (.cells (nw 9 0) 25)) (by simp [go_sem]) ⟨_, rfl, RG.alloc 9 (nw 9 0) 25 hil hl rfl rfl (fun j k r h => by have := hks j k r h; omega) hR⟩
      · obtain rfl := Option.some.inj ho
        have l0 := hd ⟨9, .data⟩ (by simp) rfl
        have l1 := hd ⟨7, .data⟩ (by simp) rfl
        obtain ⟨B, h4, h5⟩ := hR.2.2.2
        obtain ⟨e1, e2, e3, e4, e5⟩ := h4 9 (nw 9 0) l0 rfl
        simp only [hl] at e5
        replace e5 : blk v1 (B 9) = nw 9 0 := e5
        have f0 := hF.at (s := 21) (i := 9) (by kernel_rfl) (by simp) l0
        rw [e1] at f0
        have f1 := hF.at (s := 78) (i := 7) (by kernel_rfl) (by simp) l1
        rw [hR.2.1 7 _ l1 rfl] at f1
        exact wp_skip (w' := setBlk v1 (B 9) (nw 9 s)) (by simp [go_sem, f0, f1, e4, e5]) ⟨undef, rfl, RG.store 10 9 (nw 9 0) (nw 9 s) (B 9) hil hl rfl rfl rfl l0 rfl (by rw [nw_size]; decide) e1 (fun k r h => by have := hks k _ r h; omega) hR⟩
      · obtain rfl := Option.some.inj ho
        have l0 := hd ⟨8, .data⟩ (by simp) rfl
        have f0 := hF.at (s := 79) (i := 8) (by kernel_rfl) (by simp) l0
        rw [hR.2.1 8 _ l0 rfl] at f0
        exact wp_val (.int .i64 0) (by simp [go_sem, f0]) ⟨_, rfl, RG.quiet 11 _ hil rfl rfl (fun j k r h => by have := hks j k r h; omega) (Gr.refl _) hR⟩
    case hf =>
      intro listed vals a1 v1 hall hR hF
      have Hc_w_heap_size : blk v1 (w.heap.size) = nw 9 n := (blk_of _ _ _ (hR.1.below.block (w.heap.size) (c_w_heap_size.p))).trans (c_w_heap_size.h)
      have pHc_w_heap_size : Pre (w.heap.size + 1) v1.heap.size := Nat.le_trans (show w.heap.size + 1 ≤ _ from c_w_heap_size.p) hR.1.below.size
      have Hc__w_heap_size_1_ : blk v1 ((w.heap.size + 1)) = nw 9 a := (blk_of _ _ _ (hR.1.below.block ((w.heap.size + 1)) (c__w_heap_size_1_.p))).trans (c__w_heap_size_1_.h)
      have pHc__w_heap_size_1_ : Pre ((w.heap.size + 1) + 1) v1.heap.size := Nat.le_trans (show (w.heap.size + 1) + 1 ≤ _ from c__w_heap_size_1_.p) hR.1.below.size
      have Hc__w_heap_size_1_1_ : blk v1 ((w.heap.size + 1 + 1)) = nw 9 b := (blk_of _ _ _ (hR.1.below.block ((w.heap.size + 1 + 1)) (c__w_heap_size_1_1_.p))).trans (c__w_heap_size_1_1_.h)
      have pHc__w_heap_size_1_1_ : Pre ((w.heap.size + 1 + 1) + 1) v1.heap.size := Nat.le_trans (show (w.heap.size + 1 + 1) + 1 ≤ _ from c__w_heap_size_1_1_.p) hR.1.below.size
      have Hc__w_heap_size_1_1_1_ : blk v1 ((w.heap.size + 1 + 1 + 1)) = nw 9 c := (blk_of _ _ _ (hR.1.below.block ((w.heap.size + 1 + 1 + 1)) (c__w_heap_size_1_1_1_.p))).trans (c__w_heap_size_1_1_1_.h)
      have pHc__w_heap_size_1_1_1_ : Pre ((w.heap.size + 1 + 1 + 1) + 1) v1.heap.size := Nat.le_trans (show (w.heap.size + 1 + 1 + 1) + 1 ≤ _ from c__w_heap_size_1_1_1_.p) hR.1.below.size
      have Hc_e9 : blk v1 (e9) = nw 9 O := (blk_of _ _ _ (hR.1.below.block (e9) (c_e9.p))).trans (c_e9.h)
      have pHc_e9 : Pre (e9 + 1) v1.heap.size := Nat.le_trans (show e9 + 1 ≤ _ from c_e9.p) hR.1.below.size
      have Hc_e12 : blk v1 (e12) = nw 9 da := (blk_of _ _ _ (hR.1.below.block (e12) (c_e12.p))).trans (c_e12.h)
      have pHc_e12 : Pre (e12 + 1) v1.heap.size := Nat.le_trans (show e12 + 1 ≤ _ from c_e12.p) hR.1.below.size
      have Hc_e13 : blk v1 (e13) = nw 9 p := (blk_of _ _ _ (hR.1.below.block (e13) (c_e13.p))).trans (c_e13.h)
      have pHc_e13 : Pre (e13 + 1) v1.heap.size := Nat.le_trans (show e13 + 1 ≤ _ from c_e13.p) hR.1.below.size
      have Hc_e15 : blk v1 (e15) = nw 9 db := (blk_of _ _ _ (hR.1.below.block (e15) (c_e15.p))).trans (c_e15.h)
      have pHc_e15 : Pre (e15 + 1) v1.heap.size := Nat.le_trans (show e15 + 1 ≤ _ from c_e15.p) hR.1.below.size
      have Hc_e16 : blk v1 (e16) = nw 9 q := (blk_of _ _ _ (hR.1.below.block (e16) (c_e16.p))).trans (c_e16.h)
      have pHc_e16 : Pre (e16 + 1) v1.heap.size := Nat.le_trans (show e16 + 1 ≤ _ from c_e16.p) hR.1.below.size
      have Hc_e18 : blk v1 (e18) = nw 9 dc := (blk_of _ _ _ (hR.1.below.block (e18) (c_e18.p))).trans (c_e18.h)
      have pHc_e18 : Pre (e18 + 1) v1.heap.size := Nat.le_trans (show e18 + 1 ≤ _ from c_e18.p) hR.1.below.size
      have Hc_e19 : blk v1 (e19) = nw 9 t := (blk_of _ _ _ (hR.1.below.block (e19) (c_e19.p))).trans (c_e19.h)
      have pHc_e19 : Pre (e19 + 1) v1.heap.size := Nat.le_trans (show e19 + 1 ≤ _ from c_e19.p) hR.1.below.size
      have hV := hR.2.1
      obtain ⟨B, h4, h5⟩ := hR.2.2.2
      have x0 := hV 0 _ (hall 0 (by simp)) rfl
      have x1 := hV 1 _ (hall 1 (by simp)) rfl
      have x2 := hV 2 _ (hall 2 (by simp)) rfl
      have x3 := hV 3 _ (hall 3 (by simp)) rfl
      have x4 := hV 4 _ (hall 4 (by simp)) rfl
      have x5 := hV 5 _ (hall 5 (by simp)) rfl
      have x6 := hV 6 _ (hall 6 (by simp)) rfl
      have x7 := hV 7 _ (hall 7 (by simp)) rfl
      have x8 := hV 8 _ (hall 8 (by simp)) rfl
      have x11 := hV 11 _ (hall 11 (by simp)) rfl
      obtain ⟨x9, q9, p9, z9, y9⟩ := h4 9 _ (hall 9 (by simp)) rfl
      simp only [hall 10 (by simp), if_true] at y9
      replace p9 : Pre (B 9 + 1) v1.heap.size := p9
      replace y9 : blk v1 (B 9) = nw 9 s := y9
      have hb1 := hR.1
      rw [hF.final (by kernel_rfl) hall]
      simp only [putFrom, Act.put, List.setIfInBounds_toArray, List.set_cons_zero, List.set_cons_succ, x0, x1, x2, x3, x4, x5, x6, x7, x8, x11, x9]
      generalize B 9 = b9 at *
      clear hV h4 h5 hR hF hall x0 x1 x2 x3 x4 x5 x6 x7 x8 x11 x9
      go_wp2_with fail
      go_meet
      exact ⟨b9, rfl, rfl, G.trans hb1, c_w_heap_size.gr hb1, c__w_heap_size_1_.gr hb1, c__w_heap_size_1_1_.gr hb1, c__w_heap_size_1_1_1_.gr hb1, c_e9.gr hb1, c_e12.gr hb1, c_e13.gr hb1, c_e15.gr hb1, c_e16.gr hb1, c_e18.gr hb1, c_e19.gr hb1, ⟨y9, z9, p9⟩, S_x.gr hb1⟩
  clear HV
  obtain ⟨e21, rfl, rfl, HV⟩ := hcut
  go_upto_region 12 with fail
  go_cut [23, 24] from 80 to 86 (fun a0 a1 wx => ∃ e23 : Nat, a0 = .pointer (some ⟨e23, 0, none⟩) ∧ a1 = .int .i64 0 ∧ Hid (Gr w wx ∧ Cl wx (w.heap.size) n ∧ Cl wx (w.heap.size + 1) a ∧ Cl wx (w.heap.size + 1 + 1) b ∧ Cl wx (w.heap.size + 1 + 1 + 1) c ∧ Cl wx e9 O ∧ Cl wx e12 da ∧ Cl wx e13 p ∧ Cl wx e15 db ∧ Cl wx e16 q ∧ Cl wx e18 dc ∧ Cl wx e19 t ∧ Cl wx e21 s ∧ Cl wx e23 x ∧ Mn wx bx O k u))
  case first =>
    have ⟨G, c_w_heap_size, c__w_heap_size_1_, c__w_heap_size_1_1_, c__w_heap_size_1_1_1_, c_e9, c_e12, c_e13, c_e15, c_e16, c_e18, c_e19, c_e21, S_x⟩ := HV.out
    have ⟨hc_w_heap_size, fc_w_heap_size, pc_w_heap_size⟩ := c_w_heap_size
    have ⟨hc__w_heap_size_1_, fc__w_heap_size_1_, pc__w_heap_size_1_⟩ := c__w_heap_size_1_
    have ⟨hc__w_heap_size_1_1_, fc__w_heap_size_1_1_, pc__w_heap_size_1_1_⟩ := c__w_heap_size_1_1_
    have ⟨hc__w_heap_size_1_1_1_, fc__w_heap_size_1_1_1_, pc__w_heap_size_1_1_1_⟩ := c__w_heap_size_1_1_1_
    have ⟨hc_e9, fc_e9, pc_e9⟩ := c_e9
    have ⟨hc_e12, fc_e12, pc_e12⟩ := c_e12
    have ⟨hc_e13, fc_e13, pc_e13⟩ := c_e13
    have ⟨hc_e15, fc_e15, pc_e15⟩ := c_e15
    have ⟨hc_e16, fc_e16, pc_e16⟩ := c_e16
    have ⟨hc_e18, fc_e18, pc_e18⟩ := c_e18
    have ⟨hc_e19, fc_e19, pc_e19⟩ := c_e19
    have ⟨hc_e21, fc_e21, pc_e21⟩ := c_e21
    go_wp2_with (first
        | (go_at_call_of 17 ((#[.pointer (some ⟨bx, 0, none⟩), .agg (nw 9 p), .agg (nw 9 s)] : Array Value)); refine (M1.out bx _ (S_x.gr (by repeat (first | exact Gr.refl _ | apply Gr.drewN | apply Gr.drew | apply Gr.alloc | apply Gr.gro)))).mono ?_; rintro e w' ⟨rfl, g4, rfl⟩)
        | (go_at_call 12; refine (num_any _ _).mono ?_; rintro e w' ⟨rfl, rfl⟩))
    go_meet
    exact ⟨_, rfl, rfl, G.trans (by repeat (first | exact Gr.refl _ | apply Gr.drewN | apply Gr.drew | apply Gr.alloc | apply Gr.gro)), c_w_heap_size.gr (by repeat (first | exact Gr.refl _ | apply Gr.drewN | apply Gr.drew | apply Gr.alloc | apply Gr.gro)), c__w_heap_size_1_.gr (by repeat (first | exact Gr.refl _ | apply Gr.drewN | apply Gr.drew | apply Gr.alloc | apply Gr.gro)), c__w_heap_size_1_1_.gr (by repeat (first | exact Gr.refl _ | apply Gr.drewN | apply Gr.drew | apply Gr.alloc | apply Gr.gro)), c__w_heap_size_1_1_1_.gr (by repeat (first | exact Gr.refl _ | apply Gr.drewN | apply Gr.drew | apply Gr.alloc | apply Gr.gro)), c_e9.gr (by repeat (first | exact Gr.refl _ | apply Gr.drewN | apply Gr.drew | apply Gr.alloc | apply Gr.gro)), c_e12.gr (by repeat (first | exact Gr.refl _ | apply Gr.drewN | apply Gr.drew | apply Gr.alloc | apply Gr.gro)), c_e13.gr (by repeat (first | exact Gr.refl _ | apply Gr.drewN | apply Gr.drew | apply Gr.alloc | apply Gr.gro)), c_e15.gr (by repeat (first | exact Gr.refl _ | apply Gr.drewN | apply Gr.drew | apply Gr.alloc | apply Gr.gro)), c_e16.gr (by repeat (first | exact Gr.refl _ | apply Gr.drewN | apply Gr.drew | apply Gr.alloc | apply Gr.gro)), c_e18.gr (by repeat (first | exact Gr.refl _ | apply Gr.drewN | apply Gr.drew | apply Gr.alloc | apply Gr.gro)), c_e19.gr (by repeat (first | exact Gr.refl _ | apply Gr.drewN | apply Gr.drew | apply Gr.alloc | apply Gr.gro)), c_e21.gr (by repeat (first | exact Gr.refl _ | apply Gr.drewN | apply Gr.drew | apply Gr.alloc | apply Gr.gro)), ⟨by simp [go_sem], by simp [go_sem], by simp [go_sem]⟩, S_x.gr (by repeat (first | exact Gr.refl _ | apply Gr.drewN | apply Gr.drew | apply Gr.alloc | apply Gr.gro))⟩
  clear HV
  obtain ⟨e23, rfl, rfl, HV⟩ := hcut
  go_upto_region 13 with fail
  go_cut [25, 26] from 87 to 93 (fun a0 a1 wx => ∃ e25 : Nat, a0 = .pointer (some ⟨e25, 0, none⟩) ∧ a1 = .int .i64 0 ∧ Hid (Gr w wx ∧ Cl wx (w.heap.size) n ∧ Cl wx (w.heap.size + 1) a ∧ Cl wx (w.heap.size + 1 + 1) b ∧ Cl wx (w.heap.size + 1 + 1 + 1) c ∧ Cl wx e9 O ∧ Cl wx e12 da ∧ Cl wx e13 p ∧ Cl wx e15 db ∧ Cl wx e16 q ∧ Cl wx e18 dc ∧ Cl wx e19 t ∧ Cl wx e21 s ∧ Cl wx e23 x ∧ Cl wx e25 y ∧ Mn wx bx O k u))
  case first =>
    have ⟨G, c_w_heap_size, c__w_heap_size_1_, c__w_heap_size_1_1_, c__w_heap_size_1_1_1_, c_e9, c_e12, c_e13, c_e15, c_e16, c_e18, c_e19, c_e21, c_e23, S_x⟩ := HV.out
    have ⟨hc_w_heap_size, fc_w_heap_size, pc_w_heap_size⟩ := c_w_heap_size
    have ⟨hc__w_heap_size_1_, fc__w_heap_size_1_, pc__w_heap_size_1_⟩ := c__w_heap_size_1_
    have ⟨hc__w_heap_size_1_1_, fc__w_heap_size_1_1_, pc__w_heap_size_1_1_⟩ := c__w_heap_size_1_1_
    have ⟨hc__w_heap_size_1_1_1_, fc__w_heap_size_1_1_1_, pc__w_heap_size_1_1_1_⟩ := c__w_heap_size_1_1_1_
    have ⟨hc_e9, fc_e9, pc_e9⟩ := c_e9
    have ⟨hc_e12, fc_e12, pc_e12⟩ := c_e12
    have ⟨hc_e13, fc_e13, pc_e13⟩ := c_e13
    have ⟨hc_e15, fc_e15, pc_e15⟩ := c_e15
    have ⟨hc_e16, fc_e16, pc_e16⟩ := c_e16
    have ⟨hc_e18, fc_e18, pc_e18⟩ := c_e18
    have ⟨hc_e19, fc_e19, pc_e19⟩ := c_e19
    have ⟨hc_e21, fc_e21, pc_e21⟩ := c_e21
    have ⟨hc_e23, fc_e23, pc_e23⟩ := c_e23
    go_wp2_with (first
        | (go_at_call_of 17 ((#[.pointer (some ⟨bx, 0, none⟩), .agg (nw 9 p), .agg (nw 9 q)] : Array Value)); refine (M2.out bx _ (S_x.gr (by repeat (first | exact Gr.refl _ | apply Gr.drewN | apply Gr.drew | apply Gr.alloc | apply Gr.gro)))).mono ?_; rintro e w' ⟨rfl, g5, rfl⟩)
        | (go_at_call 12; refine (num_any _ _).mono ?_; rintro e w' ⟨rfl, rfl⟩))
    go_meet
    exact ⟨_, rfl, rfl, G.trans (by repeat (first | exact Gr.refl _ | apply Gr.drewN | apply Gr.drew | apply Gr.alloc | apply Gr.gro)), c_w_heap_size.gr (by repeat (first | exact Gr.refl _ | apply Gr.drewN | apply Gr.drew | apply Gr.alloc | apply Gr.gro)), c__w_heap_size_1_.gr (by repeat (first | exact Gr.refl _ | apply Gr.drewN | apply Gr.drew | apply Gr.alloc | apply Gr.gro)), c__w_heap_size_1_1_.gr (by repeat (first | exact Gr.refl _ | apply Gr.drewN | apply Gr.drew | apply Gr.alloc | apply Gr.gro)), c__w_heap_size_1_1_1_.gr (by repeat (first | exact Gr.refl _ | apply Gr.drewN | apply Gr.drew | apply Gr.alloc | apply Gr.gro)), c_e9.gr (by repeat (first | exact Gr.refl _ | apply Gr.drewN | apply Gr.drew | apply Gr.alloc | apply Gr.gro)), c_e12.gr (by repeat (first | exact Gr.refl _ | apply Gr.drewN | apply Gr.drew | apply Gr.alloc | apply Gr.gro)), c_e13.gr (by repeat (first | exact Gr.refl _ | apply Gr.drewN | apply Gr.drew | apply Gr.alloc | apply Gr.gro)), c_e15.gr (by repeat (first | exact Gr.refl _ | apply Gr.drewN | apply Gr.drew | apply Gr.alloc | apply Gr.gro)), c_e16.gr (by repeat (first | exact Gr.refl _ | apply Gr.drewN | apply Gr.drew | apply Gr.alloc | apply Gr.gro)), c_e18.gr (by repeat (first | exact Gr.refl _ | apply Gr.drewN | apply Gr.drew | apply Gr.alloc | apply Gr.gro)), c_e19.gr (by repeat (first | exact Gr.refl _ | apply Gr.drewN | apply Gr.drew | apply Gr.alloc | apply Gr.gro)), c_e21.gr (by repeat (first | exact Gr.refl _ | apply Gr.drewN | apply Gr.drew | apply Gr.alloc | apply Gr.gro)), c_e23.gr (by repeat (first | exact Gr.refl _ | apply Gr.drewN | apply Gr.drew | apply Gr.alloc | apply Gr.gro)), ⟨by simp [go_sem], by simp [go_sem], by simp [go_sem]⟩, S_x.gr (by repeat (first | exact Gr.refl _ | apply Gr.drewN | apply Gr.drew | apply Gr.alloc | apply Gr.gro))⟩
  clear HV
  obtain ⟨e25, rfl, rfl, HV⟩ := hcut
  go_upto_region 14 with fail
  go_cut [27, 28] from 94 to 100 (fun a0 a1 wx => ∃ e27 : Nat, a0 = .pointer (some ⟨e27, 0, none⟩) ∧ a1 = .int .i64 0 ∧ Hid (Gr w wx ∧ Cl wx (w.heap.size) n ∧ Cl wx (w.heap.size + 1) a ∧ Cl wx (w.heap.size + 1 + 1) b ∧ Cl wx (w.heap.size + 1 + 1 + 1) c ∧ Cl wx e9 O ∧ Cl wx e12 da ∧ Cl wx e13 p ∧ Cl wx e15 db ∧ Cl wx e16 q ∧ Cl wx e18 dc ∧ Cl wx e19 t ∧ Cl wx e21 s ∧ Cl wx e23 x ∧ Cl wx e25 y ∧ Cl wx e27 z ∧ Mn wx bx O k u))
  case first =>
    have ⟨G, c_w_heap_size, c__w_heap_size_1_, c__w_heap_size_1_1_, c__w_heap_size_1_1_1_, c_e9, c_e12, c_e13, c_e15, c_e16, c_e18, c_e19, c_e21, c_e23, c_e25, S_x⟩ := HV.out
    have ⟨hc_w_heap_size, fc_w_heap_size, pc_w_heap_size⟩ := c_w_heap_size
    have ⟨hc__w_heap_size_1_, fc__w_heap_size_1_, pc__w_heap_size_1_⟩ := c__w_heap_size_1_
    have ⟨hc__w_heap_size_1_1_, fc__w_heap_size_1_1_, pc__w_heap_size_1_1_⟩ := c__w_heap_size_1_1_
    have ⟨hc__w_heap_size_1_1_1_, fc__w_heap_size_1_1_1_, pc__w_heap_size_1_1_1_⟩ := c__w_heap_size_1_1_1_
    have ⟨hc_e9, fc_e9, pc_e9⟩ := c_e9
    have ⟨hc_e12, fc_e12, pc_e12⟩ := c_e12
    have ⟨hc_e13, fc_e13, pc_e13⟩ := c_e13
    have ⟨hc_e15, fc_e15, pc_e15⟩ := c_e15
    have ⟨hc_e16, fc_e16, pc_e16⟩ := c_e16
    have ⟨hc_e18, fc_e18, pc_e18⟩ := c_e18
    have ⟨hc_e19, fc_e19, pc_e19⟩ := c_e19
    have ⟨hc_e21, fc_e21, pc_e21⟩ := c_e21
    have ⟨hc_e23, fc_e23, pc_e23⟩ := c_e23
    have ⟨hc_e25, fc_e25, pc_e25⟩ := c_e25
    go_wp2_with (first
        | (go_at_call_of 17 ((#[.pointer (some ⟨bx, 0, none⟩), .agg (nw 9 p), .agg (nw 9 t)] : Array Value)); refine (M3.out bx _ (S_x.gr (by repeat (first | exact Gr.refl _ | apply Gr.drewN | apply Gr.drew | apply Gr.alloc | apply Gr.gro)))).mono ?_; rintro e w' ⟨rfl, g6, rfl⟩)
        | (go_at_call 12; refine (num_any _ _).mono ?_; rintro e w' ⟨rfl, rfl⟩))
    go_meet
    exact ⟨_, rfl, rfl, G.trans (by repeat (first | exact Gr.refl _ | apply Gr.drewN | apply Gr.drew | apply Gr.alloc | apply Gr.gro)), c_w_heap_size.gr (by repeat (first | exact Gr.refl _ | apply Gr.drewN | apply Gr.drew | apply Gr.alloc | apply Gr.gro)), c__w_heap_size_1_.gr (by repeat (first | exact Gr.refl _ | apply Gr.drewN | apply Gr.drew | apply Gr.alloc | apply Gr.gro)), c__w_heap_size_1_1_.gr (by repeat (first | exact Gr.refl _ | apply Gr.drewN | apply Gr.drew | apply Gr.alloc | apply Gr.gro)), c__w_heap_size_1_1_1_.gr (by repeat (first | exact Gr.refl _ | apply Gr.drewN | apply Gr.drew | apply Gr.alloc | apply Gr.gro)), c_e9.gr (by repeat (first | exact Gr.refl _ | apply Gr.drewN | apply Gr.drew | apply Gr.alloc | apply Gr.gro)), c_e12.gr (by repeat (first | exact Gr.refl _ | apply Gr.drewN | apply Gr.drew | apply Gr.alloc | apply Gr.gro)), c_e13.gr (by repeat (first | exact Gr.refl _ | apply Gr.drewN | apply Gr.drew | apply Gr.alloc | apply Gr.gro)), c_e15.gr (by repeat (first | exact Gr.refl _ | apply Gr.drewN | apply Gr.drew | apply Gr.alloc | apply Gr.gro)), c_e16.gr (by repeat (first | exact Gr.refl _ | apply Gr.drewN | apply Gr.drew | apply Gr.alloc | apply Gr.gro)), c_e18.gr (by repeat (first | exact Gr.refl _ | apply Gr.drewN | apply Gr.drew | apply Gr.alloc | apply Gr.gro)), c_e19.gr (by repeat (first | exact Gr.refl _ | apply Gr.drewN | apply Gr.drew | apply Gr.alloc | apply Gr.gro)), c_e21.gr (by repeat (first | exact Gr.refl _ | apply Gr.drewN | apply Gr.drew | apply Gr.alloc | apply Gr.gro)), c_e23.gr (by repeat (first | exact Gr.refl _ | apply Gr.drewN | apply Gr.drew | apply Gr.alloc | apply Gr.gro)), c_e25.gr (by repeat (first | exact Gr.refl _ | apply Gr.drewN | apply Gr.drew | apply Gr.alloc | apply Gr.gro)), ⟨by simp [go_sem], by simp [go_sem], by simp [go_sem]⟩, S_x.gr (by repeat (first | exact Gr.refl _ | apply Gr.drewN | apply Gr.drew | apply Gr.alloc | apply Gr.gro))⟩
  clear HV
  obtain ⟨e27, rfl, rfl, HV⟩ := hcut
  go_upto_region 15 with fail
  go_cut [29, 30] from 101 to 109 (fun a0 a1 wx => ∃ e29 : Nat, a0 = .pointer (some ⟨e29, 0, none⟩) ∧ a1 = .int .i64 0 ∧ Hid (Gr w wx ∧ Cl wx (w.heap.size) n ∧ Cl wx (w.heap.size + 1) a ∧ Cl wx (w.heap.size + 1 + 1) b ∧ Cl wx (w.heap.size + 1 + 1 + 1) c ∧ Cl wx e9 O ∧ Cl wx e12 da ∧ Cl wx e13 p ∧ Cl wx e15 db ∧ Cl wx e16 q ∧ Cl wx e18 dc ∧ Cl wx e19 t ∧ Cl wx e21 s ∧ Cl wx e23 x ∧ Cl wx e25 y ∧ Cl wx e27 z ∧ Cl wx e29 x ∧ Mn wx bx O k u))
  case first =>
    have ⟨G, c_w_heap_size, c__w_heap_size_1_, c__w_heap_size_1_1_, c__w_heap_size_1_1_1_, c_e9, c_e12, c_e13, c_e15, c_e16, c_e18, c_e19, c_e21, c_e23, c_e25, c_e27, S_x⟩ := HV.out
    have ⟨hc_w_heap_size, fc_w_heap_size, pc_w_heap_size⟩ := c_w_heap_size
    have ⟨hc__w_heap_size_1_, fc__w_heap_size_1_, pc__w_heap_size_1_⟩ := c__w_heap_size_1_
    have ⟨hc__w_heap_size_1_1_, fc__w_heap_size_1_1_, pc__w_heap_size_1_1_⟩ := c__w_heap_size_1_1_
    have ⟨hc__w_heap_size_1_1_1_, fc__w_heap_size_1_1_1_, pc__w_heap_size_1_1_1_⟩ := c__w_heap_size_1_1_1_
    have ⟨hc_e9, fc_e9, pc_e9⟩ := c_e9
    have ⟨hc_e12, fc_e12, pc_e12⟩ := c_e12
    have ⟨hc_e13, fc_e13, pc_e13⟩ := c_e13
    have ⟨hc_e15, fc_e15, pc_e15⟩ := c_e15
    have ⟨hc_e16, fc_e16, pc_e16⟩ := c_e16
    have ⟨hc_e18, fc_e18, pc_e18⟩ := c_e18
    have ⟨hc_e19, fc_e19, pc_e19⟩ := c_e19
    have ⟨hc_e21, fc_e21, pc_e21⟩ := c_e21
    have ⟨hc_e23, fc_e23, pc_e23⟩ := c_e23
    have ⟨hc_e25, fc_e25, pc_e25⟩ := c_e25
    have ⟨hc_e27, fc_e27, pc_e27⟩ := c_e27
    refine wp_region_mix (by kernel_rfl) (by kernel_rfl) (RG _ (fun i => match i with | 0 => some (.agg (nw 9 y)) | 1 => some (.agg (nw 9 z)) | 2 => some (.agg (nw 9 Y)) | 3 => some (.agg (nw 9 1)) | 4 => some (.agg (nw 9 O)) | 5 => some (.tuple #[.agg (nw 9 x), .int .i64 0]) | 6 => some (.tuple #[.agg (nw 9 x), .int .i64 0]) | 7 => some (.agg (nw 9 x)) | 8 => some (.int .i64 0) | 11 => some (.int .i64 0) | _ => none) (fun i => match i with | 9 => some (nw 9 0) | _ => none) (fun i => match i with | 9 => some (10, nw 9 x) | _ => none)) (RG.start _ _ _ _ _ _) ?hs ?hf
    case hs =>
      intro listed vals a1 v1 i o hz hR hF ho hl hd
      have hks : ∀ (j k : Nat) (r : Array Value), (match j with | 9 => some (10, nw 9 x) | _ => (none : Option (Nat × Array Value))) = some (k, r) → (j = 9 ∧ k = 10) := fun j k r h => by
        split at h <;> simp_all
      have Hc_w_heap_size : blk v1 (w.heap.size) = nw 9 n := (blk_of _ _ _ (hR.1.below.block (w.heap.size) (c_w_heap_size.p))).trans (c_w_heap_size.h)
      have Hc__w_heap_size_1_ : blk v1 ((w.heap.size + 1)) = nw 9 a := (blk_of _ _ _ (hR.1.below.block ((w.heap.size + 1)) (c__w_heap_size_1_.p))).trans (c__w_heap_size_1_.h)
      have Hc__w_heap_size_1_1_ : blk v1 ((w.heap.size + 1 + 1)) = nw 9 b := (blk_of _ _ _ (hR.1.below.block ((w.heap.size + 1 + 1)) (c__w_heap_size_1_1_.p))).trans (c__w_heap_size_1_1_.h)
      have Hc__w_heap_size_1_1_1_ : blk v1 ((w.heap.size + 1 + 1 + 1)) = nw 9 c := (blk_of _ _ _ (hR.1.below.block ((w.heap.size + 1 + 1 + 1)) (c__w_heap_size_1_1_1_.p))).trans (c__w_heap_size_1_1_1_.h)
      have Hc_e9 : blk v1 (e9) = nw 9 O := (blk_of _ _ _ (hR.1.below.block (e9) (c_e9.p))).trans (c_e9.h)
      have Hc_e12 : blk v1 (e12) = nw 9 da := (blk_of _ _ _ (hR.1.below.block (e12) (c_e12.p))).trans (c_e12.h)
      have Hc_e13 : blk v1 (e13) = nw 9 p := (blk_of _ _ _ (hR.1.below.block (e13) (c_e13.p))).trans (c_e13.h)
      have Hc_e15 : blk v1 (e15) = nw 9 db := (blk_of _ _ _ (hR.1.below.block (e15) (c_e15.p))).trans (c_e15.h)
      have Hc_e16 : blk v1 (e16) = nw 9 q := (blk_of _ _ _ (hR.1.below.block (e16) (c_e16.p))).trans (c_e16.h)
      have Hc_e18 : blk v1 (e18) = nw 9 dc := (blk_of _ _ _ (hR.1.below.block (e18) (c_e18.p))).trans (c_e18.h)
      have Hc_e19 : blk v1 (e19) = nw 9 t := (blk_of _ _ _ (hR.1.below.block (e19) (c_e19.p))).trans (c_e19.h)
      have Hc_e21 : blk v1 (e21) = nw 9 s := (blk_of _ _ _ (hR.1.below.block (e21) (c_e21.p))).trans (c_e21.h)
      have Hc_e23 : blk v1 (e23) = nw 9 x := (blk_of _ _ _ (hR.1.below.block (e23) (c_e23.p))).trans (c_e23.h)
      have Hc_e25 : blk v1 (e25) = nw 9 y := (blk_of _ _ _ (hR.1.below.block (e25) (c_e25.p))).trans (c_e25.h)
      have Hc_e27 : blk v1 (e27) = nw 9 z := (blk_of _ _ _ (hR.1.below.block (e27) (c_e27.p))).trans (c_e27.h)
      have hi : i < 12 := by simpa using (Array.getElem?_eq_some_iff.1 ho).1
      have hil : i < listed.size := by rw [hz]; simpa using hi
      obtain rfl | rfl | rfl | rfl | rfl | rfl | rfl | rfl | rfl | rfl | rfl | rfl : i = 0 ∨ i = 1 ∨ i = 2 ∨ i = 3 ∨ i = 4 ∨ i = 5 ∨ i = 6 ∨ i = 7 ∨ i = 8 ∨ i = 9 ∨ i = 10 ∨ i = 11 := by omega
      · obtain rfl := Option.some.inj ho
        have f0 := hF.old (s := 25) (v := .pointer (some ⟨e25, 0, none⟩)) (by kernel_rfl) rfl
        exact wp_val (.agg (nw 9 y)) (by simp [go_sem, f0, Hc_e25]) ⟨_, rfl, RG.quiet 0 _ hil rfl rfl (fun j k r h => by have := hks j k r h; omega) (Gr.refl _) hR⟩
      · obtain rfl := Option.some.inj ho
        have f0 := hF.old (s := 27) (v := .pointer (some ⟨e27, 0, none⟩)) (by kernel_rfl) rfl
        exact wp_val (.agg (nw 9 z)) (by simp [go_sem, f0, Hc_e27]) ⟨_, rfl, RG.quiet 1 _ hil rfl rfl (fun j k r h => by have := hks j k r h; omega) (Gr.refl _) hR⟩
      · obtain rfl := Option.some.inj ho
        have l0 := hd ⟨0, .data⟩ (by simp) rfl
        have f0 := hF.at (s := 102) (i := 0) (by kernel_rfl) (by simp) l0
        rw [hR.2.1 0 _ l0 rfl] at f0
        have l1 := hd ⟨1, .data⟩ (by simp) rfl
        have f1 := hF.at (s := 103) (i := 1) (by kernel_rfl) (by simp) l1
        rw [hR.2.1 1 _ l1 rfl] at f1
        exact wp_ret (.agg (nw 9 Y)) (by simp [go_sem, f0, f1]) (AD2.out _) (fun w2 hg => ⟨_, rfl, RG.quiet 2 _ hil rfl rfl (fun j k r h => by have := hks j k r h; omega) hg hR⟩)
      · obtain rfl := Option.some.inj ho
        exact wp_ret (.agg (nw 9 1)) (by simp [go_sem]) (O1.out _) (fun w2 hg => ⟨_, rfl, RG.quiet 3 _ hil rfl rfl (fun j k r h => by have := hks j k r h; omega) hg hR⟩)
      · obtain rfl := Option.some.inj ho
        have f0 := hF.old (s := 9) (v := .pointer (some ⟨e9, 0, none⟩)) (by kernel_rfl) rfl
        exact wp_val (.agg (nw 9 O)) (by simp [go_sem, f0, Hc_e9]) ⟨_, rfl, RG.quiet 4 _ hil rfl rfl (fun j k r h => by have := hks j k r h; omega) (Gr.refl _) hR⟩
      · obtain rfl := Option.some.inj ho
        have l0 := hd ⟨2, .data⟩ (by simp) rfl
        have f0 := hF.at (s := 104) (i := 2) (by kernel_rfl) (by simp) l0
        rw [hR.2.1 2 _ l0 rfl] at f0
        have l1 := hd ⟨3, .data⟩ (by simp) rfl
        have f1 := hF.at (s := 105) (i := 3) (by kernel_rfl) (by simp) l1
        rw [hR.2.1 3 _ l1 rfl] at f1
        have l2 := hd ⟨4, .data⟩ (by simp) rfl
        have f2 := hF.at (s := 106) (i := 4) (by kernel_rfl) (by simp) l2
        rw [hR.2.1 4 _ l2 rfl] at f2
        exact wp_ret (.tuple #[.agg (nw 9 x), .int .i64 0]) (by simp [go_sem, f0, f1, f2]) (MM2.out _) (fun w2 hg => ⟨_, rfl, RG.quiet 5 _ hil rfl rfl (fun j k r h => by have := hks j k r h; omega) hg hR⟩)
      · obtain rfl := Option.some.inj ho
        have l0 := hd ⟨5, .data⟩ (by simp) rfl
        have f0 := hF.at (s := 107) (i := 5) (by kernel_rfl) (by simp) l0
        rw [hR.2.1 5 _ l0 rfl] at f0
        exact wp_val (.tuple #[.agg (nw 9 x), .int .i64 0]) (by simp [go_sem, f0]) ⟨_, rfl, RG.quiet 6 _ hil rfl rfl (fun j k r h => by have := hks j k r h; omega) (Gr.refl _) hR⟩
      · obtain rfl := Option.some.inj ho
        have l0 := hd ⟨6, .data⟩ (by simp) rfl
        have f0 := hF.at (s := 101) (i := 6) (by kernel_rfl) (by simp) l0
        rw [hR.2.1 6 _ l0 rfl] at f0
        exact wp_val (.agg (nw 9 x)) (by simp [go_sem, f0]) ⟨_, rfl, RG.quiet 7 _ hil rfl rfl (fun j k r h => by have := hks j k r h; omega) (Gr.refl _) hR⟩
      · obtain rfl := Option.some.inj ho
        have l0 := hd ⟨6, .data⟩ (by simp) rfl
        have f0 := hF.at (s := 101) (i := 6) (by kernel_rfl) (by simp) l0
        rw [hR.2.1 6 _ l0 rfl] at f0
        exact wp_val (.int .i64 0) (by simp [go_sem, f0]) ⟨_, rfl, RG.quiet 8 _ hil rfl rfl (fun j k r h => by have := hks j k r h; omega) (Gr.refl _) hR⟩
      · obtain rfl := Option.some.inj ho
        exact wp_val (.pointer (some ⟨v1.heap.size, 0, none⟩)) (w' := v1.alloc (.cells (nw 9 0) 25)) (by simp [go_sem]) ⟨_, rfl, RG.alloc 9 (nw 9 0) 25 hil hl rfl rfl (fun j k r h => by have := hks j k r h; omega) hR⟩
      · obtain rfl := Option.some.inj ho
        have l0 := hd ⟨9, .data⟩ (by simp) rfl
        have l1 := hd ⟨7, .data⟩ (by simp) rfl
        obtain ⟨B, h4, h5⟩ := hR.2.2.2
        obtain ⟨e1, e2, e3, e4, e5⟩ := h4 9 (nw 9 0) l0 rfl
        simp only [hl] at e5
        replace e5 : blk v1 (B 9) = nw 9 0 := e5
        have f0 := hF.at (s := 29) (i := 9) (by kernel_rfl) (by simp) l0
        rw [e1] at f0
        have f1 := hF.at (s := 108) (i := 7) (by kernel_rfl) (by simp) l1
        rw [hR.2.1 7 _ l1 rfl] at f1
        exact wp_skip (w' := setBlk v1 (B 9) (nw 9 x)) (by simp [go_sem, f0, f1, e4, e5]) ⟨undef, rfl, RG.store 10 9 (nw 9 0) (nw 9 x) (B 9) hil hl rfl rfl rfl l0 rfl (by rw [nw_size]; decide) e1 (fun k r h => by have := hks k _ r h; omega) hR⟩
      · obtain rfl := Option.some.inj ho
        have l0 := hd ⟨8, .data⟩ (by simp) rfl
        have f0 := hF.at (s := 109) (i := 8) (by kernel_rfl) (by simp) l0
        rw [hR.2.1 8 _ l0 rfl] at f0
        exact wp_val (.int .i64 0) (by simp [go_sem, f0]) ⟨_, rfl, RG.quiet 11 _ hil rfl rfl (fun j k r h => by have := hks j k r h; omega) (Gr.refl _) hR⟩
    case hf =>
      intro listed vals a1 v1 hall hR hF
      have Hc_w_heap_size : blk v1 (w.heap.size) = nw 9 n := (blk_of _ _ _ (hR.1.below.block (w.heap.size) (c_w_heap_size.p))).trans (c_w_heap_size.h)
      have pHc_w_heap_size : Pre (w.heap.size + 1) v1.heap.size := Nat.le_trans (show w.heap.size + 1 ≤ _ from c_w_heap_size.p) hR.1.below.size
      have Hc__w_heap_size_1_ : blk v1 ((w.heap.size + 1)) = nw 9 a := (blk_of _ _ _ (hR.1.below.block ((w.heap.size + 1)) (c__w_heap_size_1_.p))).trans (c__w_heap_size_1_.h)
      have pHc__w_heap_size_1_ : Pre ((w.heap.size + 1) + 1) v1.heap.size := Nat.le_trans (show (w.heap.size + 1) + 1 ≤ _ from c__w_heap_size_1_.p) hR.1.below.size
      have Hc__w_heap_size_1_1_ : blk v1 ((w.heap.size + 1 + 1)) = nw 9 b := (blk_of _ _ _ (hR.1.below.block ((w.heap.size + 1 + 1)) (c__w_heap_size_1_1_.p))).trans (c__w_heap_size_1_1_.h)
      have pHc__w_heap_size_1_1_ : Pre ((w.heap.size + 1 + 1) + 1) v1.heap.size := Nat.le_trans (show (w.heap.size + 1 + 1) + 1 ≤ _ from c__w_heap_size_1_1_.p) hR.1.below.size
      have Hc__w_heap_size_1_1_1_ : blk v1 ((w.heap.size + 1 + 1 + 1)) = nw 9 c := (blk_of _ _ _ (hR.1.below.block ((w.heap.size + 1 + 1 + 1)) (c__w_heap_size_1_1_1_.p))).trans (c__w_heap_size_1_1_1_.h)
      have pHc__w_heap_size_1_1_1_ : Pre ((w.heap.size + 1 + 1 + 1) + 1) v1.heap.size := Nat.le_trans (show (w.heap.size + 1 + 1 + 1) + 1 ≤ _ from c__w_heap_size_1_1_1_.p) hR.1.below.size
      have Hc_e9 : blk v1 (e9) = nw 9 O := (blk_of _ _ _ (hR.1.below.block (e9) (c_e9.p))).trans (c_e9.h)
      have pHc_e9 : Pre (e9 + 1) v1.heap.size := Nat.le_trans (show e9 + 1 ≤ _ from c_e9.p) hR.1.below.size
      have Hc_e12 : blk v1 (e12) = nw 9 da := (blk_of _ _ _ (hR.1.below.block (e12) (c_e12.p))).trans (c_e12.h)
      have pHc_e12 : Pre (e12 + 1) v1.heap.size := Nat.le_trans (show e12 + 1 ≤ _ from c_e12.p) hR.1.below.size
      have Hc_e13 : blk v1 (e13) = nw 9 p := (blk_of _ _ _ (hR.1.below.block (e13) (c_e13.p))).trans (c_e13.h)
      have pHc_e13 : Pre (e13 + 1) v1.heap.size := Nat.le_trans (show e13 + 1 ≤ _ from c_e13.p) hR.1.below.size
      have Hc_e15 : blk v1 (e15) = nw 9 db := (blk_of _ _ _ (hR.1.below.block (e15) (c_e15.p))).trans (c_e15.h)
      have pHc_e15 : Pre (e15 + 1) v1.heap.size := Nat.le_trans (show e15 + 1 ≤ _ from c_e15.p) hR.1.below.size
      have Hc_e16 : blk v1 (e16) = nw 9 q := (blk_of _ _ _ (hR.1.below.block (e16) (c_e16.p))).trans (c_e16.h)
      have pHc_e16 : Pre (e16 + 1) v1.heap.size := Nat.le_trans (show e16 + 1 ≤ _ from c_e16.p) hR.1.below.size
      have Hc_e18 : blk v1 (e18) = nw 9 dc := (blk_of _ _ _ (hR.1.below.block (e18) (c_e18.p))).trans (c_e18.h)
      have pHc_e18 : Pre (e18 + 1) v1.heap.size := Nat.le_trans (show e18 + 1 ≤ _ from c_e18.p) hR.1.below.size
      have Hc_e19 : blk v1 (e19) = nw 9 t := (blk_of _ _ _ (hR.1.below.block (e19) (c_e19.p))).trans (c_e19.h)
      have pHc_e19 : Pre (e19 + 1) v1.heap.size := Nat.le_trans (show e19 + 1 ≤ _ from c_e19.p) hR.1.below.size
      have Hc_e21 : blk v1 (e21) = nw 9 s := (blk_of _ _ _ (hR.1.below.block (e21) (c_e21.p))).trans (c_e21.h)
      have pHc_e21 : Pre (e21 + 1) v1.heap.size := Nat.le_trans (show e21 + 1 ≤ _ from c_e21.p) hR.1.below.size
      have Hc_e23 : blk v1 (e23) = nw 9 x := (blk_of _ _ _ (hR.1.below.block (e23) (c_e23.p))).trans (c_e23.h)
      have pHc_e23 : Pre (e23 + 1) v1.heap.size := Nat.le_trans (show e23 + 1 ≤ _ from c_e23.p) hR.1.below.size
      have Hc_e25 : blk v1 (e25) = nw 9 y := (blk_of _ _ _ (hR.1.below.block (e25) (c_e25.p))).trans (c_e25.h)
      have pHc_e25 : Pre (e25 + 1) v1.heap.size := Nat.le_trans (show e25 + 1 ≤ _ from c_e25.p) hR.1.below.size
      have Hc_e27 : blk v1 (e27) = nw 9 z := (blk_of _ _ _ (hR.1.below.block (e27) (c_e27.p))).trans (c_e27.h)
      have pHc_e27 : Pre (e27 + 1) v1.heap.size := Nat.le_trans (show e27 + 1 ≤ _ from c_e27.p) hR.1.below.size
      have hV := hR.2.1
      obtain ⟨B, h4, h5⟩ := hR.2.2.2
      have x0 := hV 0 _ (hall 0 (by simp)) rfl
      have x1 := hV 1 _ (hall 1 (by simp)) rfl
      have x2 := hV 2 _ (hall 2 (by simp)) rfl
      have x3 := hV 3 _ (hall 3 (by simp)) rfl
      have x4 := hV 4 _ (hall 4 (by simp)) rfl
      have x5 := hV 5 _ (hall 5 (by simp)) rfl
      have x6 := hV 6 _ (hall 6 (by simp)) rfl
      have x7 := hV 7 _ (hall 7 (by simp)) rfl
      have x8 := hV 8 _ (hall 8 (by simp)) rfl
      have x11 := hV 11 _ (hall 11 (by simp)) rfl
      obtain ⟨x9, q9, p9, z9, y9⟩ := h4 9 _ (hall 9 (by simp)) rfl
      simp only [hall 10 (by simp), if_true] at y9
      replace p9 : Pre (B 9 + 1) v1.heap.size := p9
      replace y9 : blk v1 (B 9) = nw 9 x := y9
      have hb1 := hR.1
      rw [hF.final (by kernel_rfl) hall]
      simp only [putFrom, Act.put, List.setIfInBounds_toArray, List.set_cons_zero, List.set_cons_succ, x0, x1, x2, x3, x4, x5, x6, x7, x8, x11, x9]
      generalize B 9 = b9 at *
      clear hV h4 h5 hR hF hall x0 x1 x2 x3 x4 x5 x6 x7 x8 x11 x9
      go_wp2_with fail
      go_meet
      exact ⟨b9, rfl, rfl, G.trans hb1, c_w_heap_size.gr hb1, c__w_heap_size_1_.gr hb1, c__w_heap_size_1_1_.gr hb1, c__w_heap_size_1_1_1_.gr hb1, c_e9.gr hb1, c_e12.gr hb1, c_e13.gr hb1, c_e15.gr hb1, c_e16.gr hb1, c_e18.gr hb1, c_e19.gr hb1, c_e21.gr hb1, c_e23.gr hb1, c_e25.gr hb1, c_e27.gr hb1, ⟨y9, z9, p9⟩, S_x.gr hb1⟩
  clear HV
  obtain ⟨e29, rfl, rfl, HV⟩ := hcut
  go_upto_region 16 with fail
  have ⟨G, c_w_heap_size, c__w_heap_size_1_, c__w_heap_size_1_1_, c__w_heap_size_1_1_1_, c_e9, c_e12, c_e13, c_e15, c_e16, c_e18, c_e19, c_e21, c_e23, c_e25, c_e27, c_e29, S_x⟩ := HV.out
  have ⟨hc_w_heap_size, fc_w_heap_size, pc_w_heap_size⟩ := c_w_heap_size
  have ⟨hc__w_heap_size_1_, fc__w_heap_size_1_, pc__w_heap_size_1_⟩ := c__w_heap_size_1_
  have ⟨hc__w_heap_size_1_1_, fc__w_heap_size_1_1_, pc__w_heap_size_1_1_⟩ := c__w_heap_size_1_1_
  have ⟨hc__w_heap_size_1_1_1_, fc__w_heap_size_1_1_1_, pc__w_heap_size_1_1_1_⟩ := c__w_heap_size_1_1_1_
  have ⟨hc_e9, fc_e9, pc_e9⟩ := c_e9
  have ⟨hc_e12, fc_e12, pc_e12⟩ := c_e12
  have ⟨hc_e13, fc_e13, pc_e13⟩ := c_e13
  have ⟨hc_e15, fc_e15, pc_e15⟩ := c_e15
  have ⟨hc_e16, fc_e16, pc_e16⟩ := c_e16
  have ⟨hc_e18, fc_e18, pc_e18⟩ := c_e18
  have ⟨hc_e19, fc_e19, pc_e19⟩ := c_e19
  have ⟨hc_e21, fc_e21, pc_e21⟩ := c_e21
  have ⟨hc_e23, fc_e23, pc_e23⟩ := c_e23
  have ⟨hc_e25, fc_e25, pc_e25⟩ := c_e25
  have ⟨hc_e27, fc_e27, pc_e27⟩ := c_e27
  have ⟨hc_e29, fc_e29, pc_e29⟩ := c_e29
  clear HV
  go_wp2_with (first
      | (go_at_call_of 26 ((#[.int .u64 1] : Array Value)); refine (O1.out _).mono ?_; rintro e w' ⟨rfl, g7, rfl⟩)
      | (go_at_call_of 25 ((#[.agg (nw 9 a), .agg (nw 9 O)] : Array Value)); refine (DVa.out _).mono ?_; rintro e w' ⟨rfl, g8, rfl⟩)
      | (go_at_call_of 25 ((#[.agg (nw 9 b), .agg (nw 9 O)] : Array Value)); refine (DVb.out _).mono ?_; rintro e w' ⟨rfl, g9, rfl⟩)
      | (go_at_call_of 25 ((#[.agg (nw 9 c), .agg (nw 9 O)] : Array Value)); refine (DVc.out _).mono ?_; rintro e w' ⟨rfl, g10, rfl⟩)
      | (go_at_call_of 30 ((#[.agg (nw 9 q), .agg (nw 9 t)] : Array Value)); refine (AD1.out _).mono ?_; rintro e w' ⟨rfl, g11, rfl⟩)
      | (go_at_call_of 29 ((#[.agg (nw 9 S), .agg (nw 9 1), .agg (nw 9 O)] : Array Value)); refine (MM1.out _).mono ?_; rintro e w' ⟨rfl, g12, rfl⟩)
      | (go_at_call_of 17 ((#[.pointer (some ⟨bx, 0, none⟩), .agg (nw 9 p), .agg (nw 9 s)] : Array Value)); refine (M1.out bx _ (S_x.gr (by repeat (first | exact Gr.refl _ | apply Gr.drewN | apply Gr.drew | apply Gr.alloc | apply Gr.gro)))).mono ?_; rintro e w' ⟨rfl, g13, rfl⟩)
      | (go_at_call_of 17 ((#[.pointer (some ⟨bx, 0, none⟩), .agg (nw 9 p), .agg (nw 9 q)] : Array Value)); refine (M2.out bx _ (S_x.gr (by repeat (first | exact Gr.refl _ | apply Gr.drewN | apply Gr.drew | apply Gr.alloc | apply Gr.gro)))).mono ?_; rintro e w' ⟨rfl, g14, rfl⟩)
      | (go_at_call_of 17 ((#[.pointer (some ⟨bx, 0, none⟩), .agg (nw 9 p), .agg (nw 9 t)] : Array Value)); refine (M3.out bx _ (S_x.gr (by repeat (first | exact Gr.refl _ | apply Gr.drewN | apply Gr.drew | apply Gr.alloc | apply Gr.gro)))).mono ?_; rintro e w' ⟨rfl, g15, rfl⟩)
      | (go_at_call_of 30 ((#[.agg (nw 9 y), .agg (nw 9 z)] : Array Value)); refine (AD2.out _).mono ?_; rintro e w' ⟨rfl, g16, rfl⟩)
      | (go_at_call_of 29 ((#[.agg (nw 9 Y), .agg (nw 9 1), .agg (nw 9 O)] : Array Value)); refine (MM2.out _).mono ?_; rintro e w' ⟨rfl, g17, rfl⟩)
      | (go_at_call 12; refine (num_any _ _).mono ?_; rintro e w' ⟨rfl, rfl⟩))
  go_ret
  refine ⟨rfl, ?_⟩
  repeat (first | exact G | apply Gr.drewN | apply Gr.drew | apply Gr.alloc | apply Gr.gro)

end Go.Proofs.Ytleckbdhebjfkaa
