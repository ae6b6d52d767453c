/-
  The statement FieldSquares, walked: it answers true for every id and every number.
-/
import Derived.Test.YtkmpholjlophpaaZFAw
import Derived.Test.YtkmpholjlophpaaZFL
import Derived.Test.YtkmpholjlophpaaZFQ
namespace Go.Proofs.Ytkmpholjlophpaa
open Go.RowKit
attribute [local go_sem ↓] loadNat_is loadArr_is loadWide_is loadArrW_is storeNat_is storeWide_is
attribute [local go_sem] loadNat loadArr loadWide loadArrW storeNat storeWide idxArr fold9 fold18 nw_size nw_elem pre_self pre_1 pre_2 pre_3 pre_4 pre_5 pre_6 pre_7 pre_8 pre_9 pre_10 pre_11 pre_12 pre_13 pre_14 pre_15 pre_16 pre_17 pre_18 pre_19 pre_20 pre_21 pre_22 pre_23 pre_24 pre_25 pre_26 pre_27 pre_28 pre_29 pre_30 pre_31 pre_32 pre_33 pre_34 pre_35 pre_36 pre_37 pre_38 pre_39 pre_40 gro_size gro_drew gro_drewN drew_gro drewN_gro gro_gro blk_gro frz_gro blk_drew frz_drew blk_drewN frz_drewN blk_alloc_at frz_alloc_at blk_alloc frz_alloc cell_gro frozen_gro cell_alloc_pre frozen_alloc_pre setCell_drewN alloc_drewN setBlk_drew setBlk_drewN setBlk_alloc_at setBlk_alloc setBlk_gro setCell_gro setCell_alloc_pre size_setBlk size_setCell
attribute [local go_sem] nw_ext9 nw_ext18 eqArr9 eqArr18

attribute [local go_sem] loadNat2 loadArr2 loadWide2 loadK_nw ppre_1 ppre_2 ppre_3 ppre_4 ppre_5 ppre_6 ppre_7 ppre_8 ppre_9 ppre_10 ppre_11 ppre_12 ppre_13 ppre_14 ppre_15 ppre_16 ppre_17 ppre_18 ppre_19 ppre_20

attribute [local go_sem ↓] loadC_is storeC_is Go.wp_at_zero Go.wp_at_succ
attribute [local go_sem] eqN_self loadC storeCv cvA_size frz_setBlk blk_setBlk setBlk_setBlk blk_other
theorem sq_zero (k : Nat) : sqR k 0 = 0 ∧ sqE k 0 = 0 := by
  unfold sqR sqE
  rw [cN_zero]
  simp
set_option maxRecDepth 100000 in
set_option maxHeartbeats 4000000 in
theorem fsq_0 (id : Int) (k a : Nat) (hidx : idx id = k) (h1 : 1 ≤ k) (h2 : k ≤ 15) (ha : a < M) (hz : a % pN k = 0) (w : World) :
    Calls Try.prog 6 #[.int .i64 id, .agg (nw 9 a)] w fun e w' => e = .returned (.bool true) ∧ Gr w w' := by
  have HO : ∀ w, Calls Try.prog 13 #[.int .i64 (k : Int)] w fun e w' => ∃ p n q, e = .returned (.tuple #[.agg (cvA (k : Int) p (dl (pN k)) n q), .bool true]) ∧ Sl w' p (pN k) ∧ Gr w w' := fun w => get_yes k h1 h2 w
  obtain ⟨u, hu, hu2, hk⟩ := idx_conv id
  rw [hidx] at hk
  have u0 : (0 : Int) ≤ (u : Int) := by omega
  have hk2 : (1 : Int) + (u : Int) % 15 = (k : Int) := by omega
  have hk3 : IntKind.i64.wrap ((u : Int) % 15) = (u : Int) % 15 := by rw [IntKind.wrap_i64]; omega
  have hk4 : IntKind.u64.wrap ((u : Int) % 15) = (u : Int) % 15 := by rw [IntKind.wrap_u64]; omega
  have hk5 : (u : Int).tmod 15 = (u : Int) % 15 := by rw [Int.tmod_eq_emod_of_nonneg (by omega)]
  have k0 : (1 : Int) ≤ (k : Int) := by omega
  have k1 : (k : Int) ≤ 15 := by omega
  have hu3 : id % 18446744073709551616 = (u : Int) := by rw [← hu, IntKind.wrap_u64]
  have hB := pN_bd k h1 h2
  have hdl := pN_dl k h1 h2
  have hprm := prm_pN k h1 h2
  obtain ⟨m, hm⟩ : ∃ m, pN k = m := ⟨_, rfl⟩
  have FA := fun a b ha hb w => fAdd_ok k a b h1 h2 ha hb w
  have FSu := fun a b ha hb w => fSub_ok k a b h1 h2 ha hb w
  have FR := fun W hW w => fReduce_ok k W h1 h2 hW w
  have FM := fun a b ha hb w => fMul_ok k a b h1 h2 ha hb w
  have FI := fun a h0 ha hg => fInv_ok k a h1 h2 h0 ha hg
  have FZ := fun w => fInv_zero k h1 h2 w
  rw [hm] at hB hdl hprm FA FSu FR FM FI HO
  have FQ1 := fun a ha w => fSqrt_ok k a h1 h2 ha w
  rw [hm] at FQ1
  have hx : a % m = 0 := by rw [← hm]; exact hz
  have B1 : Hid (∀ (p : Option Addr) (n : Nat) (q : Nat → Option Addr × Nat × Nat) w', Sl w' p m → Calls Try.prog 32 #[.agg (cvA k p (dl m) n q), .agg (nw 9 a)] w' fun e w'' => e = .returned (.agg (nw 9 0)) ∧ Gr w' w'') := fun p n q w' h => hx ▸ below_any k m a n p q (by omega) hdl ha w' h
  have M1 : Hid (∀ w', Calls Try.prog 16 #[.int .i64 k, .agg (nw 9 0), .agg (nw 9 0)] w' fun e w'' => e = .returned (.tuple #[.agg (nw 9 0), .int .i64 0]) ∧ Gr w' w'') := fun w => by
    have := FM 0 0 (by omega) (by omega) w
    rw [Nat.mul_zero, Nat.zero_mod] at this
    exact this
  have S1 : Hid (∀ w', Calls Try.prog 29 #[.int .i64 k, .agg (nw 9 0)] w' fun e w'' => e = .returned (.tuple #[.agg (nw 9 0), .int .i64 0]) ∧ Gr w' w'') := fun w => by
    have := FQ1 0 (by omega) w
    rw [(sq_zero k).1, (sq_zero k).2] at this
    exact this
  have D1 : Hid (∀ w', Calls Try.prog 15 #[.int .i64 k, .agg (nw 9 0), .agg (nw 9 0)] w' fun e w'' => e = .returned (.tuple #[.agg (nw 9 0), .int .i64 0]) ∧ Gr w' w'') := fun w => by
    have := FSu 0 0 (by omega) (by omega) w
    rw [Nat.zero_add, Nat.sub_zero, Nat.mod_self] at this
    exact this
  have I1 : Hid (∀ w', Calls Try.prog 28 #[.int .i64 k, .agg (nw 9 0)] w' fun e w'' => e = .returned (.tuple #[.agg (nw 9 0), .int .i64 502]) ∧ Gr w' w'') := fun w => FZ w
  have HO' : Hid (∀ w, Calls Try.prog 13 #[.int .i64 (k : Int)] w fun e w' => ∃ p n q, e = .returned (.tuple #[.agg (cvA (k : Int) p (dl m) n q), .bool true]) ∧ Sl w' p m ∧ Gr w w') := HO
  clear HO FA FSu FR FM FI FZ hprm hB hdl hm h1 h2 hidx hk FQ1 hx ha hz
  go_enter Try.func6, Try.ntmps6
  go_upto_region 3 with (go_at_call 19; refine (awake5_any _).mono ?_; rintro e w' ⟨rfl, gaw, rfl⟩)
  refine gen_w (fun v => Hid (Gr w v ∧ Cl v w.heap.size a)) ⟨(by repeat (first | exact Gr.refl _ | apply Gr.drewN | apply Gr.drew | apply Gr.alloc | apply Gr.gro)), ⟨by simp [go_sem], by simp [go_sem], by simp [go_sem]⟩⟩ ?_
  intro v0 HV
  go_cut [5, 6] from 20 to 28 (fun a0 a1 wx => ∃ (e5 : Nat) (p : Option Addr) (n : Nat) (q : Nat → Option Addr × Nat × Nat), a0 = .pointer (some ⟨e5, 0, none⟩) ∧ a1 = .bool true ∧ Hid (Gr w wx ∧ Cl wx w.heap.size a ∧ Cv wx e5 k p (dl m) n q ∧ Sl wx p m))
  case first =>
    have ⟨G, c0⟩ := HV.out
    go_wp2_with (go_at_call 13; refine (HO'.out _).mono ?_; rintro e W1 ⟨p, n, q, rfl, S1, G1⟩)
    go_meet
    exact ⟨_, p, n, q, rfl, rfl, G.trans (G1.trans (by repeat (first | exact Gr.refl _ | apply Gr.drewN | apply Gr.drew | apply Gr.alloc | apply Gr.gro))), c0.gr (G1.trans (by repeat (first | exact Gr.refl _ | apply Gr.drewN | apply Gr.drew | apply Gr.alloc | apply Gr.gro))), ⟨by simp [go_sem], by simp [go_sem], by simp [go_sem]⟩, S1.gr (by repeat (first | exact Gr.refl _ | apply Gr.drewN | apply Gr.drew | apply Gr.alloc | apply Gr.gro))⟩
  clear HV
  obtain ⟨e5, p, n, q, rfl, rfl, HV⟩ := hcut
  have ⟨G, c_w_heap_size, c_e5, S_p⟩ := HV.out
  have ⟨hc_w_heap_size, fc_w_heap_size, pc_w_heap_size⟩ := c_w_heap_size
  have ⟨hc_e5, fc_e5, pc_e5⟩ := c_e5
  have h0c_e5 := (c_e5).at0
  have h1c_e5 := (c_e5).at1
  go_upto_region 6 with (first
      | (go_at_call 18; refine (num_any _ _).mono ?_; rintro e w' ⟨rfl, rfl⟩))
  go_cut [7] from 31 to 33 (fun a0 wx => ∃ e7 : Nat, a0 = .pointer (some ⟨e7, 0, none⟩) ∧ Hid (Gr w wx ∧ Cl wx (w.heap.size) a ∧ Cv wx e5 k p (dl m) n q ∧ Cl wx e7 0 ∧ Sl wx p m))
  case first =>
    have ⟨G, c_w_heap_size, c_e5, S_p⟩ := HV.out
    have ⟨hc_w_heap_size, fc_w_heap_size, pc_w_heap_size⟩ := c_w_heap_size
    have ⟨hc_e5, fc_e5, pc_e5⟩ := c_e5
    have h0c_e5 := (c_e5).at0
    have h1c_e5 := (c_e5).at1
    go_wp2_with (first
        | (go_at_call_of 32 ((#[.agg (cvA k p (dl m) n q), .agg (nw 9 a)] : Array Value)); refine (B1.out p n q _ (S_p.gr (by repeat (first | exact Gr.refl _ | apply Gr.drewN | apply Gr.drew | apply Gr.alloc | apply Gr.gro)))).mono ?_; rintro e w' ⟨rfl, g1, rfl⟩)
        | (go_at_call 18; refine (num_any _ _).mono ?_; rintro e w' ⟨rfl, rfl⟩))
    go_meet
    exact ⟨_, rfl, G.trans (by repeat (first | exact Gr.refl _ | apply Gr.drewN | apply Gr.drew | apply Gr.alloc | apply Gr.gro)), c_w_heap_size.gr (by repeat (first | exact Gr.refl _ | apply Gr.drewN | apply Gr.drew | apply Gr.alloc | apply Gr.gro)), c_e5.gr (by repeat (first | exact Gr.refl _ | apply Gr.drewN | apply Gr.drew | apply Gr.alloc | apply Gr.gro)), ⟨by simp [go_sem], by simp [go_sem], by simp [go_sem]⟩, S_p.gr (by repeat (first | exact Gr.refl _ | apply Gr.drewN | apply Gr.drew | apply Gr.alloc | apply Gr.gro))⟩
  clear HV
  obtain ⟨e7, rfl, HV⟩ := hcut
  go_upto_region 7 with fail
  go_cut [8, 9] from 34 to 41 (fun a0 a1 wx => ∃ e8 : Nat, a0 = .pointer (some ⟨e8, 0, none⟩) ∧ a1 = .int .i64 0 ∧ Hid (Gr w wx ∧ Cl wx (w.heap.size) a ∧ Cv wx e5 k p (dl m) n q ∧ Cl wx e7 0 ∧ Cl wx e8 0 ∧ Sl wx p m))
  case first =>
    have ⟨G, c_w_heap_size, c_e5, c_e7, S_p⟩ := HV.out
    have ⟨hc_w_heap_size, fc_w_heap_size, pc_w_heap_size⟩ := c_w_heap_size
    have ⟨hc_e5, fc_e5, pc_e5⟩ := c_e5
    have h0c_e5 := (c_e5).at0
    have h1c_e5 := (c_e5).at1
    have ⟨hc_e7, fc_e7, pc_e7⟩ := c_e7
    go_wp2_with (first
        | (go_at_call_of 16 ((#[.int .i64 k, .agg (nw 9 0), .agg (nw 9 0)] : Array Value)); refine (M1.out _).mono ?_; rintro e w' ⟨rfl, g2, rfl⟩)
        | (go_at_call 18; refine (num_any _ _).mono ?_; rintro e w' ⟨rfl, rfl⟩))
    go_meet
    exact ⟨_, rfl, rfl, G.trans (by repeat (first | exact Gr.refl _ | apply Gr.drewN | apply Gr.drew | apply Gr.alloc | apply Gr.gro)), c_w_heap_size.gr (by repeat (first | exact Gr.refl _ | apply Gr.drewN | apply Gr.drew | apply Gr.alloc | apply Gr.gro)), c_e5.gr (by repeat (first | exact Gr.refl _ | apply Gr.drewN | apply Gr.drew | apply Gr.alloc | apply Gr.gro)), c_e7.gr (by repeat (first | exact Gr.refl _ | apply Gr.drewN | apply Gr.drew | apply Gr.alloc | apply Gr.gro)), ⟨by simp [go_sem], by simp [go_sem], by simp [go_sem]⟩, S_p.gr (by repeat (first | exact Gr.refl _ | apply Gr.drewN | apply Gr.drew | apply Gr.alloc | apply Gr.gro))⟩
  clear HV
  obtain ⟨e8, rfl, rfl, HV⟩ := hcut
  go_upto_region 8 with fail
  go_cut [10, 11] from 42 to 48 (fun a0 a1 wx => ∃ e10 : Nat, a0 = .pointer (some ⟨e10, 0, none⟩) ∧ a1 = .int .i64 0 ∧ Hid (Gr w wx ∧ Cl wx (w.heap.size) a ∧ Cv wx e5 k p (dl m) n q ∧ Cl wx e7 0 ∧ Cl wx e8 0 ∧ Cl wx e10 0 ∧ Sl wx p m))
  case first =>
    have ⟨G, c_w_heap_size, c_e5, c_e7, c_e8, S_p⟩ := HV.out
    have ⟨hc_w_heap_size, fc_w_heap_size, pc_w_heap_size⟩ := c_w_heap_size
    have ⟨hc_e5, fc_e5, pc_e5⟩ := c_e5
    have h0c_e5 := (c_e5).at0
    have h1c_e5 := (c_e5).at1
    have ⟨hc_e7, fc_e7, pc_e7⟩ := c_e7
    have ⟨hc_e8, fc_e8, pc_e8⟩ := c_e8
    go_wp2_with (first
        | (go_at_call_of 29 ((#[.int .i64 k, .agg (nw 9 0)] : Array Value)); refine (S1.out _).mono ?_; rintro e w' ⟨rfl, g3, rfl⟩)
        | (go_at_call 18; refine (num_any _ _).mono ?_; rintro e w' ⟨rfl, rfl⟩))
    go_meet
    exact ⟨_, rfl, rfl, G.trans (by repeat (first | exact Gr.refl _ | apply Gr.drewN | apply Gr.drew | apply Gr.alloc | apply Gr.gro)), c_w_heap_size.gr (by repeat (first | exact Gr.refl _ | apply Gr.drewN | apply Gr.drew | apply Gr.alloc | apply Gr.gro)), c_e5.gr (by repeat (first | exact Gr.refl _ | apply Gr.drewN | apply Gr.drew | apply Gr.alloc | apply Gr.gro)), c_e7.gr (by repeat (first | exact Gr.refl _ | apply Gr.drewN | apply Gr.drew | apply Gr.alloc | apply Gr.gro)), c_e8.gr (by repeat (first | exact Gr.refl _ | apply Gr.drewN | apply Gr.drew | apply Gr.alloc | apply Gr.gro)), ⟨by simp [go_sem], by simp [go_sem], by simp [go_sem]⟩, S_p.gr (by repeat (first | exact Gr.refl _ | apply Gr.drewN | apply Gr.drew | apply Gr.alloc | apply Gr.gro))⟩
  clear HV
  obtain ⟨e10, rfl, rfl, HV⟩ := hcut
  go_upto_region 9 with fail
  go_cut [12, 13] from 49 to 56 (fun a0 a1 wx => ∃ e12 : Nat, a0 = .pointer (some ⟨e12, 0, none⟩) ∧ a1 = .int .i64 0 ∧ Hid (Gr w wx ∧ Cl wx (w.heap.size) a ∧ Cv wx e5 k p (dl m) n q ∧ Cl wx e7 0 ∧ Cl wx e8 0 ∧ Cl wx e10 0 ∧ Cl wx e12 0 ∧ Sl wx p m))
  case first =>
    have ⟨G, c_w_heap_size, c_e5, c_e7, c_e8, c_e10, S_p⟩ := HV.out
    have ⟨hc_w_heap_size, fc_w_heap_size, pc_w_heap_size⟩ := c_w_heap_size
    have ⟨hc_e5, fc_e5, pc_e5⟩ := c_e5
    have h0c_e5 := (c_e5).at0
    have h1c_e5 := (c_e5).at1
    have ⟨hc_e7, fc_e7, pc_e7⟩ := c_e7
    have ⟨hc_e8, fc_e8, pc_e8⟩ := c_e8
    have ⟨hc_e10, fc_e10, pc_e10⟩ := c_e10
    go_wp2_with (first
        | (go_at_call_of 15 ((#[.int .i64 k, .agg (nw 9 0), .agg (nw 9 0)] : Array Value)); refine (D1.out _).mono ?_; rintro e w' ⟨rfl, g4, rfl⟩)
        | (go_at_call 18; refine (num_any _ _).mono ?_; rintro e w' ⟨rfl, rfl⟩))
    go_meet
    exact ⟨_, rfl, rfl, G.trans (by repeat (first | exact Gr.refl _ | apply Gr.drewN | apply Gr.drew | apply Gr.alloc | apply Gr.gro)), c_w_heap_size.gr (by repeat (first | exact Gr.refl _ | apply Gr.drewN | apply Gr.drew | apply Gr.alloc | apply Gr.gro)), c_e5.gr (by repeat (first | exact Gr.refl _ | apply Gr.drewN | apply Gr.drew | apply Gr.alloc | apply Gr.gro)), c_e7.gr (by repeat (first | exact Gr.refl _ | apply Gr.drewN | apply Gr.drew | apply Gr.alloc | apply Gr.gro)), c_e8.gr (by repeat (first | exact Gr.refl _ | apply Gr.drewN | apply Gr.drew | apply Gr.alloc | apply Gr.gro)), c_e10.gr (by repeat (first | exact Gr.refl _ | apply Gr.drewN | apply Gr.drew | apply Gr.alloc | apply Gr.gro)), ⟨by simp [go_sem], by simp [go_sem], by simp [go_sem]⟩, S_p.gr (by repeat (first | exact Gr.refl _ | apply Gr.drewN | apply Gr.drew | apply Gr.alloc | apply Gr.gro))⟩
  clear HV
  obtain ⟨e12, rfl, rfl, HV⟩ := hcut
  go_upto_region 10 with fail
  go_cut [14, 15] from 57 to 63 (fun a0 a1 wx => ∃ e14 : Nat, a0 = .pointer (some ⟨e14, 0, none⟩) ∧ a1 = .int .i64 502 ∧ Hid (Gr w wx ∧ Cl wx (w.heap.size) a ∧ Cv wx e5 k p (dl m) n q ∧ Cl wx e7 0 ∧ Cl wx e8 0 ∧ Cl wx e10 0 ∧ Cl wx e12 0 ∧ Cl wx e14 0 ∧ Sl wx p m))
  case first =>
    have ⟨G, c_w_heap_size, c_e5, c_e7, c_e8, c_e10, c_e12, S_p⟩ := HV.out
    have ⟨hc_w_heap_size, fc_w_heap_size, pc_w_heap_size⟩ := c_w_heap_size
    have ⟨hc_e5, fc_e5, pc_e5⟩ := c_e5
    have h0c_e5 := (c_e5).at0
    have h1c_e5 := (c_e5).at1
    have ⟨hc_e7, fc_e7, pc_e7⟩ := c_e7
    have ⟨hc_e8, fc_e8, pc_e8⟩ := c_e8
    have ⟨hc_e10, fc_e10, pc_e10⟩ := c_e10
    have ⟨hc_e12, fc_e12, pc_e12⟩ := c_e12
    go_wp2_with (first
        | (go_at_call_of 28 ((#[.int .i64 k, .agg (nw 9 0)] : Array Value)); refine (I1.out _).mono ?_; rintro e w' ⟨rfl, g5, rfl⟩)
        | (go_at_call 18; refine (num_any _ _).mono ?_; rintro e w' ⟨rfl, rfl⟩))
    go_meet
    exact ⟨_, rfl, rfl, G.trans (by repeat (first | exact Gr.refl _ | apply Gr.drewN | apply Gr.drew | apply Gr.alloc | apply Gr.gro)), c_w_heap_size.gr (by repeat (first | exact Gr.refl _ | apply Gr.drewN | apply Gr.drew | apply Gr.alloc | apply Gr.gro)), c_e5.gr (by repeat (first | exact Gr.refl _ | apply Gr.drewN | apply Gr.drew | apply Gr.alloc | apply Gr.gro)), c_e7.gr (by repeat (first | exact Gr.refl _ | apply Gr.drewN | apply Gr.drew | apply Gr.alloc | apply Gr.gro)), c_e8.gr (by repeat (first | exact Gr.refl _ | apply Gr.drewN | apply Gr.drew | apply Gr.alloc | apply Gr.gro)), c_e10.gr (by repeat (first | exact Gr.refl _ | apply Gr.drewN | apply Gr.drew | apply Gr.alloc | apply Gr.gro)), c_e12.gr (by repeat (first | exact Gr.refl _ | apply Gr.drewN | apply Gr.drew | apply Gr.alloc | apply Gr.gro)), ⟨by simp [go_sem], by simp [go_sem], by simp [go_sem]⟩, S_p.gr (by repeat (first | exact Gr.refl _ | apply Gr.drewN | apply Gr.drew | apply Gr.alloc | apply Gr.gro))⟩
  clear HV
  obtain ⟨e14, rfl, rfl, HV⟩ := hcut
  go_upto_region 11 with fail
  go_cut [16, 17] from 64 to 71 (fun a0 a1 wx => ∃ e16 : Nat, a0 = .pointer (some ⟨e16, 0, none⟩) ∧ a1 = .int .i64 0 ∧ Hid (Gr w wx ∧ Cl wx (w.heap.size) a ∧ Cv wx e5 k p (dl m) n q ∧ Cl wx e7 0 ∧ Cl wx e8 0 ∧ Cl wx e10 0 ∧ Cl wx e12 0 ∧ Cl wx e14 0 ∧ Cl wx e16 0 ∧ Sl wx p m))
  case first =>
    have ⟨G, c_w_heap_size, c_e5, c_e7, c_e8, c_e10, c_e12, c_e14, S_p⟩ := HV.out
    have ⟨hc_w_heap_size, fc_w_heap_size, pc_w_heap_size⟩ := c_w_heap_size
    have ⟨hc_e5, fc_e5, pc_e5⟩ := c_e5
    have h0c_e5 := (c_e5).at0
    have h1c_e5 := (c_e5).at1
    have ⟨hc_e7, fc_e7, pc_e7⟩ := c_e7
    have ⟨hc_e8, fc_e8, pc_e8⟩ := c_e8
    have ⟨hc_e10, fc_e10, pc_e10⟩ := c_e10
    have ⟨hc_e12, fc_e12, pc_e12⟩ := c_e12
    have ⟨hc_e14, fc_e14, pc_e14⟩ := c_e14
    go_wp2_with (first
        | (go_at_call_of 16 ((#[.int .i64 k, .agg (nw 9 0), .agg (nw 9 0)] : Array Value)); refine (M1.out _).mono ?_; rintro e w' ⟨rfl, g6, rfl⟩)
        | (go_at_call 18; refine (num_any _ _).mono ?_; rintro e w' ⟨rfl, rfl⟩))
    go_meet
    exact ⟨_, rfl, rfl, G.trans (by repeat (first | exact Gr.refl _ | apply Gr.drewN | apply Gr.drew | apply Gr.alloc | apply Gr.gro)), c_w_heap_size.gr (by repeat (first | exact Gr.refl _ | apply Gr.drewN | apply Gr.drew | apply Gr.alloc | apply Gr.gro)), c_e5.gr (by repeat (first | exact Gr.refl _ | apply Gr.drewN | apply Gr.drew | apply Gr.alloc | apply Gr.gro)), c_e7.gr (by repeat (first | exact Gr.refl _ | apply Gr.drewN | apply Gr.drew | apply Gr.alloc | apply Gr.gro)), c_e8.gr (by repeat (first | exact Gr.refl _ | apply Gr.drewN | apply Gr.drew | apply Gr.alloc | apply Gr.gro)), c_e10.gr (by repeat (first | exact Gr.refl _ | apply Gr.drewN | apply Gr.drew | apply Gr.alloc | apply Gr.gro)), c_e12.gr (by repeat (first | exact Gr.refl _ | apply Gr.drewN | apply Gr.drew | apply Gr.alloc | apply Gr.gro)), c_e14.gr (by repeat (first | exact Gr.refl _ | apply Gr.drewN | apply Gr.drew | apply Gr.alloc | apply Gr.gro)), ⟨by simp [go_sem], by simp [go_sem], by simp [go_sem]⟩, S_p.gr (by repeat (first | exact Gr.refl _ | apply Gr.drewN | apply Gr.drew | apply Gr.alloc | apply Gr.gro))⟩
  clear HV
  obtain ⟨e16, rfl, rfl, HV⟩ := hcut
  have ⟨G, c_w_heap_size, c_e5, c_e7, c_e8, c_e10, c_e12, c_e14, c_e16, S_p⟩ := HV.out
  have ⟨hc_w_heap_size, fc_w_heap_size, pc_w_heap_size⟩ := c_w_heap_size
  have ⟨hc_e5, fc_e5, pc_e5⟩ := c_e5
  have h0c_e5 := (c_e5).at0
  have h1c_e5 := (c_e5).at1
  have ⟨hc_e7, fc_e7, pc_e7⟩ := c_e7
  have ⟨hc_e8, fc_e8, pc_e8⟩ := c_e8
  have ⟨hc_e10, fc_e10, pc_e10⟩ := c_e10
  have ⟨hc_e12, fc_e12, pc_e12⟩ := c_e12
  have ⟨hc_e14, fc_e14, pc_e14⟩ := c_e14
  have ⟨hc_e16, fc_e16, pc_e16⟩ := c_e16
  clear HV
  go_wp2_with (first
      | (go_at_call 18; refine (num_any _ _).mono ?_; rintro e w' ⟨rfl, rfl⟩))
  go_ret
  exact ⟨rfl, by repeat (first | exact G | apply Gr.drewN | apply Gr.drew)⟩
set_option maxRecDepth 100000 in
set_option maxHeartbeats 4000000 in
theorem fsq_same (id : Int) (k a : Nat) (hidx : idx id = k) (h1 : 1 ≤ k) (h2 : k ≤ 15) (ha : a < M) (hz : a % pN k ≠ 0) (hsx0 : sqR k (a % pN k * (a % pN k) % pN k) = a % pN k) (w : World) :
    Calls Try.prog 6 #[.int .i64 id, .agg (nw 9 a)] w fun e w' => e = .returned (.bool true) ∧ Gr w w' := by
  have HO : ∀ w, Calls Try.prog 13 #[.int .i64 (k : Int)] w fun e w' => ∃ p n q, e = .returned (.tuple #[.agg (cvA (k : Int) p (dl (pN k)) n q), .bool true]) ∧ Sl w' p (pN k) ∧ Gr w w' := fun w => get_yes k h1 h2 w
  obtain ⟨u, hu, hu2, hk⟩ := idx_conv id
  rw [hidx] at hk
  have u0 : (0 : Int) ≤ (u : Int) := by omega
  have hk2 : (1 : Int) + (u : Int) % 15 = (k : Int) := by omega
  have hk3 : IntKind.i64.wrap ((u : Int) % 15) = (u : Int) % 15 := by rw [IntKind.wrap_i64]; omega
  have hk4 : IntKind.u64.wrap ((u : Int) % 15) = (u : Int) % 15 := by rw [IntKind.wrap_u64]; omega
  have hk5 : (u : Int).tmod 15 = (u : Int) % 15 := by rw [Int.tmod_eq_emod_of_nonneg (by omega)]
  have k0 : (1 : Int) ≤ (k : Int) := by omega
  have k1 : (k : Int) ≤ 15 := by omega
  have hu3 : id % 18446744073709551616 = (u : Int) := by rw [← hu, IntKind.wrap_u64]
  have hB := pN_bd k h1 h2
  have hdl := pN_dl k h1 h2
  have hprm := prm_pN k h1 h2
  obtain ⟨m, hm⟩ : ∃ m, pN k = m := ⟨_, rfl⟩
  have FA := fun a b ha hb w => fAdd_ok k a b h1 h2 ha hb w
  have FSu := fun a b ha hb w => fSub_ok k a b h1 h2 ha hb w
  have FR := fun W hW w => fReduce_ok k W h1 h2 hW w
  have FM := fun a b ha hb w => fMul_ok k a b h1 h2 ha hb w
  have FI := fun a h0 ha hg => fInv_ok k a h1 h2 h0 ha hg
  have FZ := fun w => fInv_zero k h1 h2 w
  rw [hm] at hB hdl hprm FA FSu FR FM FI HO
  have FQ1 := fun a ha w => fSqrt_ok k a h1 h2 ha w
  rw [hm] at FQ1
  obtain ⟨x, hx⟩ : ∃ x, a % m = x := ⟨_, rfl⟩
  have hxm : x < m := by rw [← hx]; exact Nat.mod_lt _ (by omega)
  have hx0 : x ≠ 0 := by rw [← hx, ← hm]; exact hz
  have e1 : eqN 9 x 0 = false := eqN_no x 0 (by omega) M_pos hx0
  obtain ⟨t, ht⟩ : ∃ t, x * x % m = t := ⟨_, rfl⟩
  have htm : t < m := by rw [← ht]; exact Nat.mod_lt _ (by omega)
  have ht0 : t ≠ 0 := fun h => by
    rcases hprm.dvd_mul (Nat.dvd_of_mod_eq_zero (ht.trans h)) with d | d
    · exact not_dvd hx0 hxm d
    · exact not_dvd hx0 hxm d
  have hsp := sq_spec k t h1 h2 ((sq_iff k t h1 h2 ht0 (by omega)).2 (by rw [hm]; exact of_sq hprm hB.2.2 ht0 ht))
  obtain ⟨s, hs⟩ : ∃ s, sqR k t = s := ⟨_, rfl⟩
  rw [hs, hm] at hsp
  have hsm : s < m := hsp.2.1
  have hpm := sq_pm hprm hsm hxm (hsp.2.2.2.trans ht.symm)
  obtain ⟨f, hf⟩ : ∃ f, (0 + m - s) % m = f := ⟨_, rfl⟩
  obtain ⟨r, him, hi, ci⟩ := FI x (by omega) hxm (hprm.cop (not_dvd hx0 hxm))
  have hand : bits BinOp.and IntKind.u64 ((wd s 0 : Nat) : Int) 1 = 0 := by
    have := bit_conv s 0 0 (by decide)
    rw [Int.pow_zero, Int.ediv_one] at this
    rw [this]
    unfold bitN
    rw [Nat.mul_zero, Nat.add_zero, Nat.pow_zero, Nat.div_one, hsp.2.2.1]
    rfl
  have s0 : s ≠ 0 := fun h => by
    have := hsp.2.2.2
    rw [h, Nat.mul_zero, Nat.zero_mod] at this
    omega
  have hsx : s = x := by rw [hm, hx, ht, hs] at hsx0; exact hsx0
  have e3 : eqN 9 s x = true := by rw [hsx]; exact eqN_self 9 x
  have B1 : Hid (∀ (p : Option Addr) (n : Nat) (q : Nat → Option Addr × Nat × Nat) w', Sl w' p m → Calls Try.prog 32 #[.agg (cvA k p (dl m) n q), .agg (nw 9 a)] w' fun e w'' => e = .returned (.agg (nw 9 x)) ∧ Gr w' w'') := fun p n q w' h => hx ▸ below_any k m a n p q (by omega) hdl ha w' h
  have O1 : Hid (∀ w', Calls Try.prog 33 #[.int .u64 1] w' fun e w'' => e = .returned (.agg (nw 9 1)) ∧ Gr w' w'') := fun w => one_any 1 (by decide) w
  have M1 : Hid (∀ w', Calls Try.prog 16 #[.int .i64 k, .agg (nw 9 x), .agg (nw 9 x)] w' fun e w'' => e = .returned (.tuple #[.agg (nw 9 t), .int .i64 0]) ∧ Gr w' w'') := fun w => ht ▸ FM x x hxm hxm w
  have S1 : Hid (∀ w', Calls Try.prog 29 #[.int .i64 k, .agg (nw 9 t)] w' fun e w'' => e = .returned (.tuple #[.agg (nw 9 s), .int .i64 0]) ∧ Gr w' w'') := fun w => by
    have := FQ1 t htm w
    rw [hs, hsp.1] at this
    exact this
  have D1 : Hid (∀ w', Calls Try.prog 15 #[.int .i64 k, .agg (nw 9 0), .agg (nw 9 s)] w' fun e w'' => e = .returned (.tuple #[.agg (nw 9 f), .int .i64 0]) ∧ Gr w' w'') := fun w => hf ▸ FSu 0 s (by omega) hsm w
  have I1 : Hid (∀ w', Calls Try.prog 28 #[.int .i64 k, .agg (nw 9 x)] w' fun e w'' => e = .returned (.tuple #[.agg (nw 9 r), .int .i64 0]) ∧ Gr w' w'') := ci
  have M2 : Hid (∀ w', Calls Try.prog 16 #[.int .i64 k, .agg (nw 9 x), .agg (nw 9 r)] w' fun e w'' => e = .returned (.tuple #[.agg (nw 9 1), .int .i64 0]) ∧ Gr w' w'') := fun w => hi ▸ FM x r hxm him w
  have HO' : Hid (∀ w, Calls Try.prog 13 #[.int .i64 (k : Int)] w fun e w' => ∃ p n q, e = .returned (.tuple #[.agg (cvA (k : Int) p (dl m) n q), .bool true]) ∧ Sl w' p m ∧ Gr w w') := HO
  clear HO FA FSu FR FM FI FZ hprm hB hdl hm h1 h2 hidx hk FQ1 hx hxm ha hz hx0 ht htm ht0 hsp hs hsm hpm hf him hi ci s0 hsx0 hsx
  go_enter Try.func6, Try.ntmps6
  go_upto_region 3 with (go_at_call 19; refine (awake5_any _).mono ?_; rintro e w' ⟨rfl, gaw, rfl⟩)
  refine gen_w (fun v => Hid (Gr w v ∧ Cl v w.heap.size a)) ⟨(by repeat (first | exact Gr.refl _ | apply Gr.drewN | apply Gr.drew | apply Gr.alloc | apply Gr.gro)), ⟨by simp [go_sem], by simp [go_sem], by simp [go_sem]⟩⟩ ?_
  intro v0 HV
  go_cut [5, 6] from 20 to 28 (fun a0 a1 wx => ∃ (e5 : Nat) (p : Option Addr) (n : Nat) (q : Nat → Option Addr × Nat × Nat), a0 = .pointer (some ⟨e5, 0, none⟩) ∧ a1 = .bool true ∧ Hid (Gr w wx ∧ Cl wx w.heap.size a ∧ Cv wx e5 k p (dl m) n q ∧ Sl wx p m))
  case first =>
    have ⟨G, c0⟩ := HV.out
    go_wp2_with (go_at_call 13; refine (HO'.out _).mono ?_; rintro e W1 ⟨p, n, q, rfl, S1, G1⟩)
    go_meet
    exact ⟨_, p, n, q, rfl, rfl, G.trans (G1.trans (by repeat (first | exact Gr.refl _ | apply Gr.drewN | apply Gr.drew | apply Gr.alloc | apply Gr.gro))), c0.gr (G1.trans (by repeat (first | exact Gr.refl _ | apply Gr.drewN | apply Gr.drew | apply Gr.alloc | apply Gr.gro))), ⟨by simp [go_sem], by simp [go_sem], by simp [go_sem]⟩, S1.gr (by repeat (first | exact Gr.refl _ | apply Gr.drewN | apply Gr.drew | apply Gr.alloc | apply Gr.gro))⟩
  clear HV
  obtain ⟨e5, p, n, q, rfl, rfl, HV⟩ := hcut
  have ⟨G, c_w_heap_size, c_e5, S_p⟩ := HV.out
  have ⟨hc_w_heap_size, fc_w_heap_size, pc_w_heap_size⟩ := c_w_heap_size
  have ⟨hc_e5, fc_e5, pc_e5⟩ := c_e5
  have h0c_e5 := (c_e5).at0
  have h1c_e5 := (c_e5).at1
  go_upto_region 6 with (first
      | (go_at_call 18; refine (num_any _ _).mono ?_; rintro e w' ⟨rfl, rfl⟩))
  go_cut [7] from 31 to 33 (fun a0 wx => ∃ e7 : Nat, a0 = .pointer (some ⟨e7, 0, none⟩) ∧ Hid (Gr w wx ∧ Cl wx (w.heap.size) a ∧ Cv wx e5 k p (dl m) n q ∧ Cl wx e7 x ∧ Sl wx p m))
  case first =>
    have ⟨G, c_w_heap_size, c_e5, S_p⟩ := HV.out
    have ⟨hc_w_heap_size, fc_w_heap_size, pc_w_heap_size⟩ := c_w_heap_size
    have ⟨hc_e5, fc_e5, pc_e5⟩ := c_e5
    have h0c_e5 := (c_e5).at0
    have h1c_e5 := (c_e5).at1
    go_wp2_with (first
        | (go_at_call_of 32 ((#[.agg (cvA k p (dl m) n q), .agg (nw 9 a)] : Array Value)); refine (B1.out p n q _ (S_p.gr (by repeat (first | exact Gr.refl _ | apply Gr.drewN | apply Gr.drew | apply Gr.alloc | apply Gr.gro)))).mono ?_; rintro e w' ⟨rfl, g1, rfl⟩)
        | (go_at_call 18; refine (num_any _ _).mono ?_; rintro e w' ⟨rfl, rfl⟩))
    go_meet
    exact ⟨_, rfl, G.trans (by repeat (first | exact Gr.refl _ | apply Gr.drewN | apply Gr.drew | apply Gr.alloc | apply Gr.gro)), c_w_heap_size.gr (by repeat (first | exact Gr.refl _ | apply Gr.drewN | apply Gr.drew | apply Gr.alloc | apply Gr.gro)), c_e5.gr (by repeat (first | exact Gr.refl _ | apply Gr.drewN | apply Gr.drew | apply Gr.alloc | apply Gr.gro)), ⟨by simp [go_sem], by simp [go_sem], by simp [go_sem]⟩, S_p.gr (by repeat (first | exact Gr.refl _ | apply Gr.drewN | apply Gr.drew | apply Gr.alloc | apply Gr.gro))⟩
  clear HV
  obtain ⟨e7, rfl, HV⟩ := hcut
  go_upto_region 7 with fail
  go_cut [8, 9] from 34 to 41 (fun a0 a1 wx => ∃ e8 : Nat, a0 = .pointer (some ⟨e8, 0, none⟩) ∧ a1 = .int .i64 0 ∧ Hid (Gr w wx ∧ Cl wx (w.heap.size) a ∧ Cv wx e5 k p (dl m) n q ∧ Cl wx e7 x ∧ Cl wx e8 t ∧ Sl wx p m))
  case first =>
    have ⟨G, c_w_heap_size, c_e5, c_e7, S_p⟩ := HV.out
    have ⟨hc_w_heap_size, fc_w_heap_size, pc_w_heap_size⟩ := c_w_heap_size
    have ⟨hc_e5, fc_e5, pc_e5⟩ := c_e5
    have h0c_e5 := (c_e5).at0
    have h1c_e5 := (c_e5).at1
    have ⟨hc_e7, fc_e7, pc_e7⟩ := c_e7
    go_wp2_with (first
        | (go_at_call_of 16 ((#[.int .i64 k, .agg (nw 9 x), .agg (nw 9 x)] : Array Value)); refine (M1.out _).mono ?_; rintro e w' ⟨rfl, g2, rfl⟩)
        | (go_at_call 18; refine (num_any _ _).mono ?_; rintro e w' ⟨rfl, rfl⟩))
    go_meet
    exact ⟨_, rfl, rfl, G.trans (by repeat (first | exact Gr.refl _ | apply Gr.drewN | apply Gr.drew | apply Gr.alloc | apply Gr.gro)), c_w_heap_size.gr (by repeat (first | exact Gr.refl _ | apply Gr.drewN | apply Gr.drew | apply Gr.alloc | apply Gr.gro)), c_e5.gr (by repeat (first | exact Gr.refl _ | apply Gr.drewN | apply Gr.drew | apply Gr.alloc | apply Gr.gro)), c_e7.gr (by repeat (first | exact Gr.refl _ | apply Gr.drewN | apply Gr.drew | apply Gr.alloc | apply Gr.gro)), ⟨by simp [go_sem], by simp [go_sem], by simp [go_sem]⟩, S_p.gr (by repeat (first | exact Gr.refl _ | apply Gr.drewN | apply Gr.drew | apply Gr.alloc | apply Gr.gro))⟩
  clear HV
  obtain ⟨e8, rfl, rfl, HV⟩ := hcut
  go_upto_region 8 with fail
  go_cut [10, 11] from 42 to 48 (fun a0 a1 wx => ∃ e10 : Nat, a0 = .pointer (some ⟨e10, 0, none⟩) ∧ a1 = .int .i64 0 ∧ Hid (Gr w wx ∧ Cl wx (w.heap.size) a ∧ Cv wx e5 k p (dl m) n q ∧ Cl wx e7 x ∧ Cl wx e8 t ∧ Cl wx e10 s ∧ Sl wx p m))
  case first =>
    have ⟨G, c_w_heap_size, c_e5, c_e7, c_e8, S_p⟩ := HV.out
    have ⟨hc_w_heap_size, fc_w_heap_size, pc_w_heap_size⟩ := c_w_heap_size
    have ⟨hc_e5, fc_e5, pc_e5⟩ := c_e5
    have h0c_e5 := (c_e5).at0
    have h1c_e5 := (c_e5).at1
    have ⟨hc_e7, fc_e7, pc_e7⟩ := c_e7
    have ⟨hc_e8, fc_e8, pc_e8⟩ := c_e8
    go_wp2_with (first
        | (go_at_call_of 29 ((#[.int .i64 k, .agg (nw 9 t)] : Array Value)); refine (S1.out _).mono ?_; rintro e w' ⟨rfl, g3, rfl⟩)
        | (go_at_call 18; refine (num_any _ _).mono ?_; rintro e w' ⟨rfl, rfl⟩))
    go_meet
    exact ⟨_, rfl, rfl, G.trans (by repeat (first | exact Gr.refl _ | apply Gr.drewN | apply Gr.drew | apply Gr.alloc | apply Gr.gro)), c_w_heap_size.gr (by repeat (first | exact Gr.refl _ | apply Gr.drewN | apply Gr.drew | apply Gr.alloc | apply Gr.gro)), c_e5.gr (by repeat (first | exact Gr.refl _ | apply Gr.drewN | apply Gr.drew | apply Gr.alloc | apply Gr.gro)), c_e7.gr (by repeat (first | exact Gr.refl _ | apply Gr.drewN | apply Gr.drew | apply Gr.alloc | apply Gr.gro)), c_e8.gr (by repeat (first | exact Gr.refl _ | apply Gr.drewN | apply Gr.drew | apply Gr.alloc | apply Gr.gro)), ⟨by simp [go_sem], by simp [go_sem], by simp [go_sem]⟩, S_p.gr (by repeat (first | exact Gr.refl _ | apply Gr.drewN | apply Gr.drew | apply Gr.alloc | apply Gr.gro))⟩
  clear HV
  obtain ⟨e10, rfl, rfl, HV⟩ := hcut
  go_upto_region 9 with fail
  go_cut [12, 13] from 49 to 56 (fun a0 a1 wx => ∃ e12 : Nat, a0 = .pointer (some ⟨e12, 0, none⟩) ∧ a1 = .int .i64 0 ∧ Hid (Gr w wx ∧ Cl wx (w.heap.size) a ∧ Cv wx e5 k p (dl m) n q ∧ Cl wx e7 x ∧ Cl wx e8 t ∧ Cl wx e10 s ∧ Cl wx e12 f ∧ Sl wx p m))
  case first =>
    have ⟨G, c_w_heap_size, c_e5, c_e7, c_e8, c_e10, S_p⟩ := HV.out
    have ⟨hc_w_heap_size, fc_w_heap_size, pc_w_heap_size⟩ := c_w_heap_size
    have ⟨hc_e5, fc_e5, pc_e5⟩ := c_e5
    have h0c_e5 := (c_e5).at0
    have h1c_e5 := (c_e5).at1
    have ⟨hc_e7, fc_e7, pc_e7⟩ := c_e7
    have ⟨hc_e8, fc_e8, pc_e8⟩ := c_e8
    have ⟨hc_e10, fc_e10, pc_e10⟩ := c_e10
    go_wp2_with (first
        | (go_at_call_of 15 ((#[.int .i64 k, .agg (nw 9 0), .agg (nw 9 s)] : Array Value)); refine (D1.out _).mono ?_; rintro e w' ⟨rfl, g4, rfl⟩)
        | (go_at_call 18; refine (num_any _ _).mono ?_; rintro e w' ⟨rfl, rfl⟩))
    go_meet
    exact ⟨_, rfl, rfl, G.trans (by repeat (first | exact Gr.refl _ | apply Gr.drewN | apply Gr.drew | apply Gr.alloc | apply Gr.gro)), c_w_heap_size.gr (by repeat (first | exact Gr.refl _ | apply Gr.drewN | apply Gr.drew | apply Gr.alloc | apply Gr.gro)), c_e5.gr (by repeat (first | exact Gr.refl _ | apply Gr.drewN | apply Gr.drew | apply Gr.alloc | apply Gr.gro)), c_e7.gr (by repeat (first | exact Gr.refl _ | apply Gr.drewN | apply Gr.drew | apply Gr.alloc | apply Gr.gro)), c_e8.gr (by repeat (first | exact Gr.refl _ | apply Gr.drewN | apply Gr.drew | apply Gr.alloc | apply Gr.gro)), c_e10.gr (by repeat (first | exact Gr.refl _ | apply Gr.drewN | apply Gr.drew | apply Gr.alloc | apply Gr.gro)), ⟨by simp [go_sem], by simp [go_sem], by simp [go_sem]⟩, S_p.gr (by repeat (first | exact Gr.refl _ | apply Gr.drewN | apply Gr.drew | apply Gr.alloc | apply Gr.gro))⟩
  clear HV
  obtain ⟨e12, rfl, rfl, HV⟩ := hcut
  go_upto_region 10 with fail
  go_cut [14, 15] from 57 to 63 (fun a0 a1 wx => ∃ e14 : Nat, a0 = .pointer (some ⟨e14, 0, none⟩) ∧ a1 = .int .i64 0 ∧ Hid (Gr w wx ∧ Cl wx (w.heap.size) a ∧ Cv wx e5 k p (dl m) n q ∧ Cl wx e7 x ∧ Cl wx e8 t ∧ Cl wx e10 s ∧ Cl wx e12 f ∧ Cl wx e14 r ∧ Sl wx p m))
  case first =>
    have ⟨G, c_w_heap_size, c_e5, c_e7, c_e8, c_e10, c_e12, S_p⟩ := HV.out
    have ⟨hc_w_heap_size, fc_w_heap_size, pc_w_heap_size⟩ := c_w_heap_size
    have ⟨hc_e5, fc_e5, pc_e5⟩ := c_e5
    have h0c_e5 := (c_e5).at0
    have h1c_e5 := (c_e5).at1
    have ⟨hc_e7, fc_e7, pc_e7⟩ := c_e7
    have ⟨hc_e8, fc_e8, pc_e8⟩ := c_e8
    have ⟨hc_e10, fc_e10, pc_e10⟩ := c_e10
    have ⟨hc_e12, fc_e12, pc_e12⟩ := c_e12
    go_wp2_with (first
        | (go_at_call_of 28 ((#[.int .i64 k, .agg (nw 9 x)] : Array Value)); refine (I1.out _).mono ?_; rintro e w' ⟨rfl, g5, rfl⟩)
        | (go_at_call 18; refine (num_any _ _).mono ?_; rintro e w' ⟨rfl, rfl⟩))
    go_meet
    exact ⟨_, rfl, rfl, G.trans (by repeat (first | exact Gr.refl _ | apply Gr.drewN | apply Gr.drew | apply Gr.alloc | apply Gr.gro)), c_w_heap_size.gr (by repeat (first | exact Gr.refl _ | apply Gr.drewN | apply Gr.drew | apply Gr.alloc | apply Gr.gro)), c_e5.gr (by repeat (first | exact Gr.refl _ | apply Gr.drewN | apply Gr.drew | apply Gr.alloc | apply Gr.gro)), c_e7.gr (by repeat (first | exact Gr.refl _ | apply Gr.drewN | apply Gr.drew | apply Gr.alloc | apply Gr.gro)), c_e8.gr (by repeat (first | exact Gr.refl _ | apply Gr.drewN | apply Gr.drew | apply Gr.alloc | apply Gr.gro)), c_e10.gr (by repeat (first | exact Gr.refl _ | apply Gr.drewN | apply Gr.drew | apply Gr.alloc | apply Gr.gro)), c_e12.gr (by repeat (first | exact Gr.refl _ | apply Gr.drewN | apply Gr.drew | apply Gr.alloc | apply Gr.gro)), ⟨by simp [go_sem], by simp [go_sem], by simp [go_sem]⟩, S_p.gr (by repeat (first | exact Gr.refl _ | apply Gr.drewN | apply Gr.drew | apply Gr.alloc | apply Gr.gro))⟩
  clear HV
  obtain ⟨e14, rfl, rfl, HV⟩ := hcut
  go_upto_region 11 with fail
  go_cut [16, 17] from 64 to 71 (fun a0 a1 wx => ∃ e16 : Nat, a0 = .pointer (some ⟨e16, 0, none⟩) ∧ a1 = .int .i64 0 ∧ Hid (Gr w wx ∧ Cl wx (w.heap.size) a ∧ Cv wx e5 k p (dl m) n q ∧ Cl wx e7 x ∧ Cl wx e8 t ∧ Cl wx e10 s ∧ Cl wx e12 f ∧ Cl wx e14 r ∧ Cl wx e16 1 ∧ Sl wx p m))
  case first =>
    have ⟨G, c_w_heap_size, c_e5, c_e7, c_e8, c_e10, c_e12, c_e14, S_p⟩ := HV.out
    have ⟨hc_w_heap_size, fc_w_heap_size, pc_w_heap_size⟩ := c_w_heap_size
    have ⟨hc_e5, fc_e5, pc_e5⟩ := c_e5
    have h0c_e5 := (c_e5).at0
    have h1c_e5 := (c_e5).at1
    have ⟨hc_e7, fc_e7, pc_e7⟩ := c_e7
    have ⟨hc_e8, fc_e8, pc_e8⟩ := c_e8
    have ⟨hc_e10, fc_e10, pc_e10⟩ := c_e10
    have ⟨hc_e12, fc_e12, pc_e12⟩ := c_e12
    have ⟨hc_e14, fc_e14, pc_e14⟩ := c_e14
    go_wp2_with (first
        | (go_at_call_of 16 ((#[.int .i64 k, .agg (nw 9 x), .agg (nw 9 r)] : Array Value)); refine (M2.out _).mono ?_; rintro e w' ⟨rfl, g6, rfl⟩)
        | (go_at_call 18; refine (num_any _ _).mono ?_; rintro e w' ⟨rfl, rfl⟩))
    go_meet
    exact ⟨_, rfl, rfl, G.trans (by repeat (first | exact Gr.refl _ | apply Gr.drewN | apply Gr.drew | apply Gr.alloc | apply Gr.gro)), c_w_heap_size.gr (by repeat (first | exact Gr.refl _ | apply Gr.drewN | apply Gr.drew | apply Gr.alloc | apply Gr.gro)), c_e5.gr (by repeat (first | exact Gr.refl _ | apply Gr.drewN | apply Gr.drew | apply Gr.alloc | apply Gr.gro)), c_e7.gr (by repeat (first | exact Gr.refl _ | apply Gr.drewN | apply Gr.drew | apply Gr.alloc | apply Gr.gro)), c_e8.gr (by repeat (first | exact Gr.refl _ | apply Gr.drewN | apply Gr.drew | apply Gr.alloc | apply Gr.gro)), c_e10.gr (by repeat (first | exact Gr.refl _ | apply Gr.drewN | apply Gr.drew | apply Gr.alloc | apply Gr.gro)), c_e12.gr (by repeat (first | exact Gr.refl _ | apply Gr.drewN | apply Gr.drew | apply Gr.alloc | apply Gr.gro)), c_e14.gr (by repeat (first | exact Gr.refl _ | apply Gr.drewN | apply Gr.drew | apply Gr.alloc | apply Gr.gro)), ⟨by simp [go_sem], by simp [go_sem], by simp [go_sem]⟩, S_p.gr (by repeat (first | exact Gr.refl _ | apply Gr.drewN | apply Gr.drew | apply Gr.alloc | apply Gr.gro))⟩
  clear HV
  obtain ⟨e16, rfl, rfl, HV⟩ := hcut
  have ⟨G, c_w_heap_size, c_e5, c_e7, c_e8, c_e10, c_e12, c_e14, c_e16, S_p⟩ := HV.out
  have ⟨hc_w_heap_size, fc_w_heap_size, pc_w_heap_size⟩ := c_w_heap_size
  have ⟨hc_e5, fc_e5, pc_e5⟩ := c_e5
  have h0c_e5 := (c_e5).at0
  have h1c_e5 := (c_e5).at1
  have ⟨hc_e7, fc_e7, pc_e7⟩ := c_e7
  have ⟨hc_e8, fc_e8, pc_e8⟩ := c_e8
  have ⟨hc_e10, fc_e10, pc_e10⟩ := c_e10
  have ⟨hc_e12, fc_e12, pc_e12⟩ := c_e12
  have ⟨hc_e14, fc_e14, pc_e14⟩ := c_e14
  have ⟨hc_e16, fc_e16, pc_e16⟩ := c_e16
  go_upto_region 14 with (first
      | (go_at_call 18; refine (num_any _ _).mono ?_; rintro e w' ⟨rfl, rfl⟩))
  go_upto_region 14 with fail
  obtain ⟨G, c_w_heap_size, c_e5, c_e7, c_e8, c_e10, c_e12, c_e14, c_e16, S_p⟩ := HV.out
  refine wp_region_pred (by kernel_rfl) (by kernel_rfl) [.c (.int .i64 0), .c (.int .i64 0), .c (.bool true), .c (.bool true), .c (.int .i64 0), .c (.int .i64 0), .c (.bool true), .c (.bool true), .c (.bool true), .c (.int .i64 0), .c (.int .i64 0), .c (.bool true), .c (.bool true), .c (.bool true), .c (.int .i64 0), .c (.int .i64 0), .c (.bool true), .c (.bool true), .c (.bool true), .c (.agg (nw 9 1)), .c (.agg (nw 9 1)), .c (.bool true), .c (.bool true), .c (.bool true), .c (.pointer (some ⟨e10, 0, none⟩)), .c (.pointer (some ⟨e10, 0, none⟩)), .c (.int .u64 ((wd s 0 : Nat) : Int)), .c (.int .u64 0), .c (.bool true), .c (.bool true), .c (.bool true), .c (.agg (nw 9 s)), .c (.agg (nw 9 x)), .c (.bool true), .c (.bool true), .c undef, .c undef, .c undef, .c (.bool true), .c (.bool true), .c (.bool true)] ?hs ?hf
  case hs =>
    intro listed vals a1 v i o hg hR hF ho hd
    have Hc_w_heap_size : blk v (w.heap.size) = nw 9 a := (hg.blk _ c_w_heap_size.p).trans c_w_heap_size.h
    have Hc_e5 : blk v e5 = cvA k p (dl m) n q := (hg.blk _ c_e5.p).trans c_e5.h
    have Hc_e7 : blk v e7 = nw 9 x := (hg.blk _ c_e7.p).trans c_e7.h
    have Hc_e8 : blk v e8 = nw 9 t := (hg.blk _ c_e8.p).trans c_e8.h
    have Hc_e10 : blk v e10 = nw 9 s := (hg.blk _ c_e10.p).trans c_e10.h
    have Hc_e12 : blk v e12 = nw 9 f := (hg.blk _ c_e12.p).trans c_e12.h
    have Hc_e14 : blk v e14 = nw 9 r := (hg.blk _ c_e14.p).trans c_e14.h
    have Hc_e16 : blk v e16 = nw 9 1 := (hg.blk _ c_e16.p).trans c_e16.h
    have hi : i < 41 := by simpa using (Array.getElem?_eq_some_iff.1 ho).1
    obtain rfl | rfl | rfl | rfl | rfl | rfl | rfl | rfl | rfl | rfl | rfl | rfl | rfl | rfl | rfl | rfl | rfl | rfl | rfl | rfl | rfl | rfl | rfl | rfl | rfl | rfl | rfl | rfl | rfl | rfl | rfl | rfl | rfl | rfl | rfl | rfl | rfl | rfl | rfl | rfl | rfl : i = 0 ∨ i = 1 ∨ i = 2 ∨ i = 3 ∨ i = 4 ∨ i = 5 ∨ i = 6 ∨ i = 7 ∨ i = 8 ∨ i = 9 ∨ i = 10 ∨ i = 11 ∨ i = 12 ∨ i = 13 ∨ i = 14 ∨ i = 15 ∨ i = 16 ∨ i = 17 ∨ i = 18 ∨ i = 19 ∨ i = 20 ∨ i = 21 ∨ i = 22 ∨ i = 23 ∨ i = 24 ∨ i = 25 ∨ i = 26 ∨ i = 27 ∨ i = 28 ∨ i = 29 ∨ i = 30 ∨ i = 31 ∨ i = 32 ∨ i = 33 ∨ i = 34 ∨ i = 35 ∨ i = 36 ∨ i = 37 ∨ i = 38 ∨ i = 39 ∨ i = 40 := by omega
    · obtain rfl := Option.some.inj ho
      have f0 := hF.old (s := 9) (v := .int .i64 0) (by kernel_rfl) rfl
      refine Or.inl ⟨wanted_no rfl, ?_⟩
      exact wp_val (.int .i64 0) (by simp [go_sem, f0]) ⟨_, rfl, Gr.refl _, rfl⟩
    · obtain rfl := Option.some.inj ho
      have l0 := on_of hd 0 (by kernel_rfl)
      have f0 := hF.at (s := 88) (i := 0) (by kernel_rfl) (by simp) l0
      rw [show vals 0 = .int .i64 0 from hR 0 l0] at f0
      refine Or.inl ⟨wanted_no rfl, ?_⟩
      exact wp_ret (.int .i64 0) (by simp [go_sem, f0]) (num5_gr _ _) (fun w2 hg2 => ⟨_, rfl, hg2, rfl⟩)
    · obtain rfl := Option.some.inj ho
      have l0 := on_of hd 1 (by kernel_rfl)
      have f0 := hF.at (s := 89) (i := 1) (by kernel_rfl) (by simp) l0
      rw [show vals 1 = .int .i64 0 from hR 1 l0] at f0
      refine Or.inl ⟨wanted_no rfl, ?_⟩
      exact wp_val (.bool true) (by simp [go_sem, f0]) ⟨_, rfl, Gr.refl _, rfl⟩
    · obtain rfl := Option.some.inj ho
      have l0 := on_of hd 2 (by kernel_rfl)
      have f0 := hF.at (s := 90) (i := 2) (by kernel_rfl) (by simp) l0
      rw [show vals 2 = .bool true from hR 2 l0] at f0
      refine Or.inl ⟨wanted_no rfl, ?_⟩
      exact wp_val (.bool true) (by simp [go_sem, f0]) ⟨_, rfl, Gr.refl _, rfl⟩
    · obtain rfl := Option.some.inj ho
      have lg := on_of hd 3 (by kernel_rfl)
      have fg := hF.at (s := 91) (i := 3) (by kernel_rfl) (by simp) lg
      rw [show vals 3 = .bool true from hR 3 lg] at fg
      have f0 := hF.old (s := 11) (v := .int .i64 0) (by kernel_rfl) rfl
      refine Or.inl ⟨wanted_at (j := 3) (s := 91) rfl rfl rfl fg, ?_⟩
      exact wp_val (.int .i64 0) (by simp [go_sem, f0]) ⟨_, rfl, Gr.refl _, rfl⟩
    · obtain rfl := Option.some.inj ho
      have lg := on_of hd 3 (by kernel_rfl)
      have fg := hF.at (s := 91) (i := 3) (by kernel_rfl) (by simp) lg
      rw [show vals 3 = .bool true from hR 3 lg] at fg
      have l0 := on_of hd 4 (by kernel_rfl)
      have f0 := hF.at (s := 92) (i := 4) (by kernel_rfl) (by simp) l0
      rw [show vals 4 = .int .i64 0 from hR 4 l0] at f0
      refine Or.inl ⟨wanted_at (j := 3) (s := 91) rfl rfl rfl fg, ?_⟩
      exact wp_ret (.int .i64 0) (by simp [go_sem, f0]) (num5_gr _ _) (fun w2 hg2 => ⟨_, rfl, hg2, rfl⟩)
    · obtain rfl := Option.some.inj ho
      have lg := on_of hd 3 (by kernel_rfl)
      have fg := hF.at (s := 91) (i := 3) (by kernel_rfl) (by simp) lg
      rw [show vals 3 = .bool true from hR 3 lg] at fg
      have l0 := on_of hd 5 (by kernel_rfl)
      have f0 := hF.at (s := 93) (i := 5) (by kernel_rfl) (by simp) l0
      rw [show vals 5 = .int .i64 0 from hR 5 l0] at f0
      refine Or.inl ⟨wanted_at (j := 3) (s := 91) rfl rfl rfl fg, ?_⟩
      exact wp_val (.bool true) (by simp [go_sem, f0]) ⟨_, rfl, Gr.refl _, rfl⟩
    · obtain rfl := Option.some.inj ho
      have l0 := on_of hd 3 (by kernel_rfl)
      have f0 := hF.at (s := 91) (i := 3) (by kernel_rfl) (by simp) l0
      rw [show vals 3 = .bool true from hR 3 l0] at f0
      have l1 := on_of hd 6 (by kernel_rfl)
      have f1 := hF.at (s := 94) (i := 6) (by kernel_rfl) (by simp) l1
      rw [show vals 6 = .bool true from hR 6 l1] at f1
      refine Or.inl ⟨wanted_no rfl, ?_⟩
      exact wp_val (.bool true) (by simp [go_sem, f0, f1]) ⟨_, rfl, Gr.refl _, rfl⟩
    · obtain rfl := Option.some.inj ho
      have l0 := on_of hd 7 (by kernel_rfl)
      have f0 := hF.at (s := 95) (i := 7) (by kernel_rfl) (by simp) l0
      rw [show vals 7 = .bool true from hR 7 l0] at f0
      refine Or.inl ⟨wanted_no rfl, ?_⟩
      exact wp_val (.bool true) (by simp [go_sem, f0]) ⟨_, rfl, Gr.refl _, rfl⟩
    · obtain rfl := Option.some.inj ho
      have lg := on_of hd 8 (by kernel_rfl)
      have fg := hF.at (s := 96) (i := 8) (by kernel_rfl) (by simp) lg
      rw [show vals 8 = .bool true from hR 8 lg] at fg
      have f0 := hF.old (s := 13) (v := .int .i64 0) (by kernel_rfl) rfl
      refine Or.inl ⟨wanted_at (j := 8) (s := 96) rfl rfl rfl fg, ?_⟩
      exact wp_val (.int .i64 0) (by simp [go_sem, f0]) ⟨_, rfl, Gr.refl _, rfl⟩
    · obtain rfl := Option.some.inj ho
      have lg := on_of hd 8 (by kernel_rfl)
      have fg := hF.at (s := 96) (i := 8) (by kernel_rfl) (by simp) lg
      rw [show vals 8 = .bool true from hR 8 lg] at fg
      have l0 := on_of hd 9 (by kernel_rfl)
      have f0 := hF.at (s := 97) (i := 9) (by kernel_rfl) (by simp) l0
      rw [show vals 9 = .int .i64 0 from hR 9 l0] at f0
      refine Or.inl ⟨wanted_at (j := 8) (s := 96) rfl rfl rfl fg, ?_⟩
      exact wp_ret (.int .i64 0) (by simp [go_sem, f0]) (num5_gr _ _) (fun w2 hg2 => ⟨_, rfl, hg2, rfl⟩)
    · obtain rfl := Option.some.inj ho
      have lg := on_of hd 8 (by kernel_rfl)
      have fg := hF.at (s := 96) (i := 8) (by kernel_rfl) (by simp) lg
      rw [show vals 8 = .bool true from hR 8 lg] at fg
      have l0 := on_of hd 10 (by kernel_rfl)
      have f0 := hF.at (s := 98) (i := 10) (by kernel_rfl) (by simp) l0
      rw [show vals 10 = .int .i64 0 from hR 10 l0] at f0
      refine Or.inl ⟨wanted_at (j := 8) (s := 96) rfl rfl rfl fg, ?_⟩
      exact wp_val (.bool true) (by simp [go_sem, f0]) ⟨_, rfl, Gr.refl _, rfl⟩
    · obtain rfl := Option.some.inj ho
      have l0 := on_of hd 8 (by kernel_rfl)
      have f0 := hF.at (s := 96) (i := 8) (by kernel_rfl) (by simp) l0
      rw [show vals 8 = .bool true from hR 8 l0] at f0
      have l1 := on_of hd 11 (by kernel_rfl)
      have f1 := hF.at (s := 99) (i := 11) (by kernel_rfl) (by simp) l1
      rw [show vals 11 = .bool true from hR 11 l1] at f1
      refine Or.inl ⟨wanted_no rfl, ?_⟩
      exact wp_val (.bool true) (by simp [go_sem, f0, f1]) ⟨_, rfl, Gr.refl _, rfl⟩
    · obtain rfl := Option.some.inj ho
      have l0 := on_of hd 12 (by kernel_rfl)
      have f0 := hF.at (s := 100) (i := 12) (by kernel_rfl) (by simp) l0
      rw [show vals 12 = .bool true from hR 12 l0] at f0
      refine Or.inl ⟨wanted_no rfl, ?_⟩
      exact wp_val (.bool true) (by simp [go_sem, f0]) ⟨_, rfl, Gr.refl _, rfl⟩
    · obtain rfl := Option.some.inj ho
      have lg := on_of hd 13 (by kernel_rfl)
      have fg := hF.at (s := 101) (i := 13) (by kernel_rfl) (by simp) lg
      rw [show vals 13 = .bool true from hR 13 lg] at fg
      have f0 := hF.old (s := 15) (v := .int .i64 0) (by kernel_rfl) rfl
      refine Or.inl ⟨wanted_at (j := 13) (s := 101) rfl rfl rfl fg, ?_⟩
      exact wp_val (.int .i64 0) (by simp [go_sem, f0]) ⟨_, rfl, Gr.refl _, rfl⟩
    · obtain rfl := Option.some.inj ho
      have lg := on_of hd 13 (by kernel_rfl)
      have fg := hF.at (s := 101) (i := 13) (by kernel_rfl) (by simp) lg
      rw [show vals 13 = .bool true from hR 13 lg] at fg
      have l0 := on_of hd 14 (by kernel_rfl)
      have f0 := hF.at (s := 102) (i := 14) (by kernel_rfl) (by simp) l0
      rw [show vals 14 = .int .i64 0 from hR 14 l0] at f0
      refine Or.inl ⟨wanted_at (j := 13) (s := 101) rfl rfl rfl fg, ?_⟩
      exact wp_ret (.int .i64 0) (by simp [go_sem, f0]) (num5_gr _ _) (fun w2 hg2 => ⟨_, rfl, hg2, rfl⟩)
    · obtain rfl := Option.some.inj ho
      have lg := on_of hd 13 (by kernel_rfl)
      have fg := hF.at (s := 101) (i := 13) (by kernel_rfl) (by simp) lg
      rw [show vals 13 = .bool true from hR 13 lg] at fg
      have l0 := on_of hd 15 (by kernel_rfl)
      have f0 := hF.at (s := 103) (i := 15) (by kernel_rfl) (by simp) l0
      rw [show vals 15 = .int .i64 0 from hR 15 l0] at f0
      refine Or.inl ⟨wanted_at (j := 13) (s := 101) rfl rfl rfl fg, ?_⟩
      exact wp_val (.bool true) (by simp [go_sem, f0]) ⟨_, rfl, Gr.refl _, rfl⟩
    · obtain rfl := Option.some.inj ho
      have l0 := on_of hd 13 (by kernel_rfl)
      have f0 := hF.at (s := 101) (i := 13) (by kernel_rfl) (by simp) l0
      rw [show vals 13 = .bool true from hR 13 l0] at f0
      have l1 := on_of hd 16 (by kernel_rfl)
      have f1 := hF.at (s := 104) (i := 16) (by kernel_rfl) (by simp) l1
      rw [show vals 16 = .bool true from hR 16 l1] at f1
      refine Or.inl ⟨wanted_no rfl, ?_⟩
      exact wp_val (.bool true) (by simp [go_sem, f0, f1]) ⟨_, rfl, Gr.refl _, rfl⟩
    · obtain rfl := Option.some.inj ho
      have l0 := on_of hd 17 (by kernel_rfl)
      have f0 := hF.at (s := 105) (i := 17) (by kernel_rfl) (by simp) l0
      rw [show vals 17 = .bool true from hR 17 l0] at f0
      refine Or.inl ⟨wanted_no rfl, ?_⟩
      exact wp_val (.bool true) (by simp [go_sem, f0]) ⟨_, rfl, Gr.refl _, rfl⟩
    · obtain rfl := Option.some.inj ho
      have lg := on_of hd 18 (by kernel_rfl)
      have fg := hF.at (s := 106) (i := 18) (by kernel_rfl) (by simp) lg
      rw [show vals 18 = .bool true from hR 18 lg] at fg
      have f0 := hF.old (s := 16) (v := .pointer (some ⟨e16, 0, none⟩)) (by kernel_rfl) rfl
      refine Or.inl ⟨wanted_at (j := 18) (s := 106) rfl rfl rfl fg, ?_⟩
      exact wp_val (.agg (nw 9 1)) (by simp [go_sem, f0, Hc_e16]) ⟨_, rfl, Gr.refl _, rfl⟩
    · obtain rfl := Option.some.inj ho
      have lg := on_of hd 18 (by kernel_rfl)
      have fg := hF.at (s := 106) (i := 18) (by kernel_rfl) (by simp) lg
      rw [show vals 18 = .bool true from hR 18 lg] at fg
      refine Or.inl ⟨wanted_at (j := 18) (s := 106) rfl rfl rfl fg, ?_⟩
      exact wp_ret (.agg (nw 9 1)) (by simp [go_sem]) (O1.out _) (fun w2 hg2 => ⟨_, rfl, hg2, rfl⟩)
    · obtain rfl := Option.some.inj ho
      have lg := on_of hd 18 (by kernel_rfl)
      have fg := hF.at (s := 106) (i := 18) (by kernel_rfl) (by simp) lg
      rw [show vals 18 = .bool true from hR 18 lg] at fg
      have l0 := on_of hd 19 (by kernel_rfl)
      have f0 := hF.at (s := 107) (i := 19) (by kernel_rfl) (by simp) l0
      rw [show vals 19 = .agg (nw 9 1) from hR 19 l0] at f0
      have l1 := on_of hd 20 (by kernel_rfl)
      have f1 := hF.at (s := 108) (i := 20) (by kernel_rfl) (by simp) l1
      rw [show vals 20 = .agg (nw 9 1) from hR 20 l1] at f1
      refine Or.inl ⟨wanted_at (j := 18) (s := 106) rfl rfl rfl fg, ?_⟩
      exact wp_val (.bool true) (by simp [go_sem, f0, f1]) ⟨_, rfl, Gr.refl _, rfl⟩
    · obtain rfl := Option.some.inj ho
      have l0 := on_of hd 18 (by kernel_rfl)
      have f0 := hF.at (s := 106) (i := 18) (by kernel_rfl) (by simp) l0
      rw [show vals 18 = .bool true from hR 18 l0] at f0
      have l1 := on_of hd 21 (by kernel_rfl)
      have f1 := hF.at (s := 109) (i := 21) (by kernel_rfl) (by simp) l1
      rw [show vals 21 = .bool true from hR 21 l1] at f1
      refine Or.inl ⟨wanted_no rfl, ?_⟩
      exact wp_val (.bool true) (by simp [go_sem, f0, f1]) ⟨_, rfl, Gr.refl _, rfl⟩
    · obtain rfl := Option.some.inj ho
      have l0 := on_of hd 22 (by kernel_rfl)
      have f0 := hF.at (s := 110) (i := 22) (by kernel_rfl) (by simp) l0
      rw [show vals 22 = .bool true from hR 22 l0] at f0
      refine Or.inl ⟨wanted_no rfl, ?_⟩
      exact wp_val (.bool true) (by simp [go_sem, f0]) ⟨_, rfl, Gr.refl _, rfl⟩
    · obtain rfl := Option.some.inj ho
      have lg := on_of hd 23 (by kernel_rfl)
      have fg := hF.at (s := 111) (i := 23) (by kernel_rfl) (by simp) lg
      rw [show vals 23 = .bool true from hR 23 lg] at fg
      have f0 := hF.old (s := 10) (v := .pointer (some ⟨e10, 0, none⟩)) (by kernel_rfl) rfl
      refine Or.inl ⟨wanted_at (j := 23) (s := 111) rfl rfl rfl fg, ?_⟩
      exact wp_val (.pointer (some ⟨e10, 0, none⟩)) (by simp [go_sem, f0]) ⟨_, rfl, Gr.refl _, rfl⟩
    · obtain rfl := Option.some.inj ho
      have lg := on_of hd 23 (by kernel_rfl)
      have fg := hF.at (s := 111) (i := 23) (by kernel_rfl) (by simp) lg
      rw [show vals 23 = .bool true from hR 23 lg] at fg
      have l0 := on_of hd 24 (by kernel_rfl)
      have f0 := hF.at (s := 112) (i := 24) (by kernel_rfl) (by simp) l0
      rw [show vals 24 = .pointer (some ⟨e10, 0, none⟩) from hR 24 l0] at f0
      refine Or.inl ⟨wanted_at (j := 23) (s := 111) rfl rfl rfl fg, ?_⟩
      exact wp_val (.pointer (some ⟨e10, 0, none⟩)) (by simp [go_sem, f0]) ⟨_, rfl, Gr.refl _, rfl⟩
    · obtain rfl := Option.some.inj ho
      have lg := on_of hd 23 (by kernel_rfl)
      have fg := hF.at (s := 111) (i := 23) (by kernel_rfl) (by simp) lg
      rw [show vals 23 = .bool true from hR 23 lg] at fg
      have l0 := on_of hd 25 (by kernel_rfl)
      have f0 := hF.at (s := 113) (i := 25) (by kernel_rfl) (by simp) l0
      rw [show vals 25 = .pointer (some ⟨e10, 0, none⟩) from hR 25 l0] at f0
      refine Or.inl ⟨wanted_at (j := 23) (s := 111) rfl rfl rfl fg, ?_⟩
      exact wp_val (.int .u64 ((wd s 0 : Nat) : Int)) (by simp [go_sem, f0, cell_blk, Hc_e10]) ⟨_, rfl, Gr.refl _, rfl⟩
    · obtain rfl := Option.some.inj ho
      have lg := on_of hd 23 (by kernel_rfl)
      have fg := hF.at (s := 111) (i := 23) (by kernel_rfl) (by simp) lg
      rw [show vals 23 = .bool true from hR 23 lg] at fg
      have l0 := on_of hd 26 (by kernel_rfl)
      have f0 := hF.at (s := 114) (i := 26) (by kernel_rfl) (by simp) l0
      rw [show vals 26 = .int .u64 ((wd s 0 : Nat) : Int) from hR 26 l0] at f0
      refine Or.inl ⟨wanted_at (j := 23) (s := 111) rfl rfl rfl fg, ?_⟩
      exact wp_val (.int .u64 0) (by simp [go_sem, f0, hand]) ⟨_, rfl, Gr.refl _, rfl⟩
    · obtain rfl := Option.some.inj ho
      have lg := on_of hd 23 (by kernel_rfl)
      have fg := hF.at (s := 111) (i := 23) (by kernel_rfl) (by simp) lg
      rw [show vals 23 = .bool true from hR 23 lg] at fg
      have l0 := on_of hd 27 (by kernel_rfl)
      have f0 := hF.at (s := 115) (i := 27) (by kernel_rfl) (by simp) l0
      rw [show vals 27 = .int .u64 0 from hR 27 l0] at f0
      refine Or.inl ⟨wanted_at (j := 23) (s := 111) rfl rfl rfl fg, ?_⟩
      exact wp_val (.bool true) (by simp [go_sem, f0]) ⟨_, rfl, Gr.refl _, rfl⟩
    · obtain rfl := Option.some.inj ho
      have l0 := on_of hd 23 (by kernel_rfl)
      have f0 := hF.at (s := 111) (i := 23) (by kernel_rfl) (by simp) l0
      rw [show vals 23 = .bool true from hR 23 l0] at f0
      have l1 := on_of hd 28 (by kernel_rfl)
      have f1 := hF.at (s := 116) (i := 28) (by kernel_rfl) (by simp) l1
      rw [show vals 28 = .bool true from hR 28 l1] at f1
      refine Or.inl ⟨wanted_no rfl, ?_⟩
      exact wp_val (.bool true) (by simp [go_sem, f0, f1]) ⟨_, rfl, Gr.refl _, rfl⟩
    · obtain rfl := Option.some.inj ho
      have l0 := on_of hd 29 (by kernel_rfl)
      have f0 := hF.at (s := 117) (i := 29) (by kernel_rfl) (by simp) l0
      rw [show vals 29 = .bool true from hR 29 l0] at f0
      refine Or.inl ⟨wanted_no rfl, ?_⟩
      exact wp_val (.bool true) (by simp [go_sem, f0]) ⟨_, rfl, Gr.refl _, rfl⟩
    · obtain rfl := Option.some.inj ho
      have lg := on_of hd 30 (by kernel_rfl)
      have fg := hF.at (s := 118) (i := 30) (by kernel_rfl) (by simp) lg
      rw [show vals 30 = .bool true from hR 30 lg] at fg
      have f0 := hF.old (s := 10) (v := .pointer (some ⟨e10, 0, none⟩)) (by kernel_rfl) rfl
      refine Or.inl ⟨wanted_at (j := 30) (s := 118) rfl rfl rfl fg, ?_⟩
      exact wp_val (.agg (nw 9 s)) (by simp [go_sem, f0, Hc_e10]) ⟨_, rfl, Gr.refl _, rfl⟩
    · obtain rfl := Option.some.inj ho
      have lg := on_of hd 30 (by kernel_rfl)
      have fg := hF.at (s := 118) (i := 30) (by kernel_rfl) (by simp) lg
      rw [show vals 30 = .bool true from hR 30 lg] at fg
      have f0 := hF.old (s := 7) (v := .pointer (some ⟨e7, 0, none⟩)) (by kernel_rfl) rfl
      refine Or.inl ⟨wanted_at (j := 30) (s := 118) rfl rfl rfl fg, ?_⟩
      exact wp_val (.agg (nw 9 x)) (by simp [go_sem, f0, Hc_e7]) ⟨_, rfl, Gr.refl _, rfl⟩
    · obtain rfl := Option.some.inj ho
      have lg := on_of hd 30 (by kernel_rfl)
      have fg := hF.at (s := 118) (i := 30) (by kernel_rfl) (by simp) lg
      rw [show vals 30 = .bool true from hR 30 lg] at fg
      have l0 := on_of hd 31 (by kernel_rfl)
      have f0 := hF.at (s := 119) (i := 31) (by kernel_rfl) (by simp) l0
      rw [show vals 31 = .agg (nw 9 s) from hR 31 l0] at f0
      have l1 := on_of hd 32 (by kernel_rfl)
      have f1 := hF.at (s := 120) (i := 32) (by kernel_rfl) (by simp) l1
      rw [show vals 32 = .agg (nw 9 x) from hR 32 l1] at f1
      refine Or.inl ⟨wanted_at (j := 30) (s := 118) rfl rfl rfl fg, ?_⟩
      exact wp_val (.bool true) (by simp [go_sem, f0, f1, e3]) ⟨_, rfl, Gr.refl _, rfl⟩
    · obtain rfl := Option.some.inj ho
      have lg := on_of hd 30 (by kernel_rfl)
      have fg := hF.at (s := 118) (i := 30) (by kernel_rfl) (by simp) lg
      rw [show vals 30 = .bool true from hR 30 lg] at fg
      have l0 := on_of hd 33 (by kernel_rfl)
      have f0 := hF.at (s := 121) (i := 33) (by kernel_rfl) (by simp) l0
      rw [show vals 33 = .bool true from hR 33 l0] at f0
      refine Or.inl ⟨wanted_at (j := 30) (s := 118) rfl rfl rfl fg, ?_⟩
      exact wp_val (.bool true) (by simp [go_sem, f0]) ⟨_, rfl, Gr.refl _, rfl⟩
    · obtain rfl := Option.some.inj ho
      have lg := on_of hd 34 (by kernel_rfl)
      have fg := hF.at (s := 122) (i := 34) (by kernel_rfl) (by simp) lg
      rw [show vals 34 = .bool true from hR 34 lg] at fg
      exact Or.inr ⟨unwanted_at (j := 34) (s := 122) rfl rfl rfl fg (by decide), rfl⟩
    · obtain rfl := Option.some.inj ho
      have lg := on_of hd 34 (by kernel_rfl)
      have fg := hF.at (s := 122) (i := 34) (by kernel_rfl) (by simp) lg
      rw [show vals 34 = .bool true from hR 34 lg] at fg
      exact Or.inr ⟨unwanted_at (j := 34) (s := 122) rfl rfl rfl fg (by decide), rfl⟩
    · obtain rfl := Option.some.inj ho
      have lg := on_of hd 34 (by kernel_rfl)
      have fg := hF.at (s := 122) (i := 34) (by kernel_rfl) (by simp) lg
      rw [show vals 34 = .bool true from hR 34 lg] at fg
      exact Or.inr ⟨unwanted_at (j := 34) (s := 122) rfl rfl rfl fg (by decide), rfl⟩
    · obtain rfl := Option.some.inj ho
      have lg := on_of hd 30 (by kernel_rfl)
      have fg := hF.at (s := 118) (i := 30) (by kernel_rfl) (by simp) lg
      rw [show vals 30 = .bool true from hR 30 lg] at fg
      have l0 := on_of hd 34 (by kernel_rfl)
      have f0 := hF.at (s := 122) (i := 34) (by kernel_rfl) (by simp) l0
      rw [show vals 34 = .bool true from hR 34 l0] at f0
      have l1 := on_of hd 37 (by kernel_rfl)
      have f1 := hF.at (s := 125) (i := 37) (by kernel_rfl) (by simp) l1
      rw [show vals 37 = undef from hR 37 l1] at f1
      refine Or.inl ⟨wanted_at (j := 30) (s := 118) rfl rfl rfl fg, ?_⟩
      exact wp_val (.bool true) (by simp [go_sem, f0, f1]) ⟨_, rfl, Gr.refl _, rfl⟩
    · obtain rfl := Option.some.inj ho
      have l0 := on_of hd 30 (by kernel_rfl)
      have f0 := hF.at (s := 118) (i := 30) (by kernel_rfl) (by simp) l0
      rw [show vals 30 = .bool true from hR 30 l0] at f0
      have l1 := on_of hd 38 (by kernel_rfl)
      have f1 := hF.at (s := 126) (i := 38) (by kernel_rfl) (by simp) l1
      rw [show vals 38 = .bool true from hR 38 l1] at f1
      refine Or.inl ⟨wanted_no rfl, ?_⟩
      exact wp_val (.bool true) (by simp [go_sem, f0, f1]) ⟨_, rfl, Gr.refl _, rfl⟩
    · obtain rfl := Option.some.inj ho
      have l0 := on_of hd 39 (by kernel_rfl)
      have f0 := hF.at (s := 127) (i := 39) (by kernel_rfl) (by simp) l0
      rw [show vals 39 = .bool true from hR 39 l0] at f0
      refine Or.inl ⟨wanted_no rfl, ?_⟩
      exact wp_val (.bool true) (by simp [go_sem, f0]) ⟨_, rfl, Gr.refl _, rfl⟩
  case hf =>
    intro vals v hg hR
    have x0 : vals 0 = .int .i64 0 := hR 0 (by simp)
    have x1 : vals 1 = .int .i64 0 := hR 1 (by simp)
    have x2 : vals 2 = .bool true := hR 2 (by simp)
    have x3 : vals 3 = .bool true := hR 3 (by simp)
    have x4 : vals 4 = .int .i64 0 := hR 4 (by simp)
    have x5 : vals 5 = .int .i64 0 := hR 5 (by simp)
    have x6 : vals 6 = .bool true := hR 6 (by simp)
    have x7 : vals 7 = .bool true := hR 7 (by simp)
    have x8 : vals 8 = .bool true := hR 8 (by simp)
    have x9 : vals 9 = .int .i64 0 := hR 9 (by simp)
    have x10 : vals 10 = .int .i64 0 := hR 10 (by simp)
    have x11 : vals 11 = .bool true := hR 11 (by simp)
    have x12 : vals 12 = .bool true := hR 12 (by simp)
    have x13 : vals 13 = .bool true := hR 13 (by simp)
    have x14 : vals 14 = .int .i64 0 := hR 14 (by simp)
    have x15 : vals 15 = .int .i64 0 := hR 15 (by simp)
    have x16 : vals 16 = .bool true := hR 16 (by simp)
    have x17 : vals 17 = .bool true := hR 17 (by simp)
    have x18 : vals 18 = .bool true := hR 18 (by simp)
    have x19 : vals 19 = .agg (nw 9 1) := hR 19 (by simp)
    have x20 : vals 20 = .agg (nw 9 1) := hR 20 (by simp)
    have x21 : vals 21 = .bool true := hR 21 (by simp)
    have x22 : vals 22 = .bool true := hR 22 (by simp)
    have x23 : vals 23 = .bool true := hR 23 (by simp)
    have x24 : vals 24 = .pointer (some ⟨e10, 0, none⟩) := hR 24 (by simp)
    have x25 : vals 25 = .pointer (some ⟨e10, 0, none⟩) := hR 25 (by simp)
    have x26 : vals 26 = .int .u64 ((wd s 0 : Nat) : Int) := hR 26 (by simp)
    have x27 : vals 27 = .int .u64 0 := hR 27 (by simp)
    have x28 : vals 28 = .bool true := hR 28 (by simp)
    have x29 : vals 29 = .bool true := hR 29 (by simp)
    have x30 : vals 30 = .bool true := hR 30 (by simp)
    have x31 : vals 31 = .agg (nw 9 s) := hR 31 (by simp)
    have x32 : vals 32 = .agg (nw 9 x) := hR 32 (by simp)
    have x33 : vals 33 = .bool true := hR 33 (by simp)
    have x34 : vals 34 = .bool true := hR 34 (by simp)
    have x35 : vals 35 = undef := hR 35 (by simp)
    have x36 : vals 36 = undef := hR 36 (by simp)
    have x37 : vals 37 = undef := hR 37 (by simp)
    have x38 : vals 38 = .bool true := hR 38 (by simp)
    have x39 : vals 39 = .bool true := hR 39 (by simp)
    have x40 : vals 40 = .bool true := hR 40 (by simp)
    simp only [putFrom, Act.put, List.setIfInBounds_toArray, List.set_cons_zero, List.set_cons_succ, x0, x1, x2, x3, x4, x5, x6, x7, x8, x9, x10, x11, x12, x13, x14, x15, x16, x17, x18, x19, x20, x21, x22, x23, x24, x25, x26, x27, x28, x29, x30, x31, x32, x33, x34, x35, x36, x37, x38, x39, x40]
    clear hR x0 x1 x2 x3 x4 x5 x6 x7 x8 x9 x10 x11 x12 x13 x14 x15 x16 x17 x18 x19 x20 x21 x22 x23 x24 x25 x26 x27 x28 x29 x30 x31 x32 x33 x34 x35 x36 x37 x38 x39 x40
    have HG : Gr w v := G.trans hg
    clear hg
    go_wp2_with fail
    go_ret
    exact ⟨rfl, HG⟩
set_option maxRecDepth 100000 in
set_option maxHeartbeats 4000000 in
theorem fsq_other (id : Int) (k a : Nat) (hidx : idx id = k) (h1 : 1 ≤ k) (h2 : k ≤ 15) (ha : a < M) (hz : a % pN k ≠ 0) (hsx0 : sqR k (a % pN k * (a % pN k) % pN k) ≠ a % pN k) (w : World) :
    Calls Try.prog 6 #[.int .i64 id, .agg (nw 9 a)] w fun e w' => e = .returned (.bool true) ∧ Gr w w' := by
  have HO : ∀ w, Calls Try.prog 13 #[.int .i64 (k : Int)] w fun e w' => ∃ p n q, e = .returned (.tuple #[.agg (cvA (k : Int) p (dl (pN k)) n q), .bool true]) ∧ Sl w' p (pN k) ∧ Gr w w' := fun w => get_yes k h1 h2 w
  obtain ⟨u, hu, hu2, hk⟩ := idx_conv id
  rw [hidx] at hk
  have u0 : (0 : Int) ≤ (u : Int) := by omega
  have hk2 : (1 : Int) + (u : Int) % 15 = (k : Int) := by omega
  have hk3 : IntKind.i64.wrap ((u : Int) % 15) = (u : Int) % 15 := by rw [IntKind.wrap_i64]; omega
  have hk4 : IntKind.u64.wrap ((u : Int) % 15) = (u : Int) % 15 := by rw [IntKind.wrap_u64]; omega
  have hk5 : (u : Int).tmod 15 = (u : Int) % 15 := by rw [Int.tmod_eq_emod_of_nonneg (by omega)]
  have k0 : (1 : Int) ≤ (k : Int) := by omega
  have k1 : (k : Int) ≤ 15 := by omega
  have hu3 : id % 18446744073709551616 = (u : Int) := by rw [← hu, IntKind.wrap_u64]
  have hB := pN_bd k h1 h2
  have hdl := pN_dl k h1 h2
  have hprm := prm_pN k h1 h2
  obtain ⟨m, hm⟩ : ∃ m, pN k = m := ⟨_, rfl⟩
  have FA := fun a b ha hb w => fAdd_ok k a b h1 h2 ha hb w
  have FSu := fun a b ha hb w => fSub_ok k a b h1 h2 ha hb w
  have FR := fun W hW w => fReduce_ok k W h1 h2 hW w
  have FM := fun a b ha hb w => fMul_ok k a b h1 h2 ha hb w
  have FI := fun a h0 ha hg => fInv_ok k a h1 h2 h0 ha hg
  have FZ := fun w => fInv_zero k h1 h2 w
  rw [hm] at hB hdl hprm FA FSu FR FM FI HO
  have FQ1 := fun a ha w => fSqrt_ok k a h1 h2 ha w
  rw [hm] at FQ1
  obtain ⟨x, hx⟩ : ∃ x, a % m = x := ⟨_, rfl⟩
  have hxm : x < m := by rw [← hx]; exact Nat.mod_lt _ (by omega)
  have hx0 : x ≠ 0 := by rw [← hx, ← hm]; exact hz
  have e1 : eqN 9 x 0 = false := eqN_no x 0 (by omega) M_pos hx0
  obtain ⟨t, ht⟩ : ∃ t, x * x % m = t := ⟨_, rfl⟩
  have htm : t < m := by rw [← ht]; exact Nat.mod_lt _ (by omega)
  have ht0 : t ≠ 0 := fun h => by
    rcases hprm.dvd_mul (Nat.dvd_of_mod_eq_zero (ht.trans h)) with d | d
    · exact not_dvd hx0 hxm d
    · exact not_dvd hx0 hxm d
  have hsp := sq_spec k t h1 h2 ((sq_iff k t h1 h2 ht0 (by omega)).2 (by rw [hm]; exact of_sq hprm hB.2.2 ht0 ht))
  obtain ⟨s, hs⟩ : ∃ s, sqR k t = s := ⟨_, rfl⟩
  rw [hs, hm] at hsp
  have hsm : s < m := hsp.2.1
  have hpm := sq_pm hprm hsm hxm (hsp.2.2.2.trans ht.symm)
  obtain ⟨f, hf⟩ : ∃ f, (0 + m - s) % m = f := ⟨_, rfl⟩
  obtain ⟨r, him, hi, ci⟩ := FI x (by omega) hxm (hprm.cop (not_dvd hx0 hxm))
  have hand : bits BinOp.and IntKind.u64 ((wd s 0 : Nat) : Int) 1 = 0 := by
    have := bit_conv s 0 0 (by decide)
    rw [Int.pow_zero, Int.ediv_one] at this
    rw [this]
    unfold bitN
    rw [Nat.mul_zero, Nat.add_zero, Nat.pow_zero, Nat.div_one, hsp.2.2.1]
    rfl
  have s0 : s ≠ 0 := fun h => by
    have := hsp.2.2.2
    rw [h, Nat.mul_zero, Nat.zero_mod] at this
    omega
  have hsx : s ≠ x := by rw [hm, hx, ht, hs] at hsx0; exact hsx0
  have e3 : eqN 9 s x = false := eqN_no s x (by omega) (by omega) hsx
  have e4 : eqN 9 f x = true := by
    have : f = x := by rw [← hf, show 0 + m - s = x by omega]; exact Nat.mod_eq_of_lt hxm
    rw [this]; exact eqN_self 9 x
  have B1 : Hid (∀ (p : Option Addr) (n : Nat) (q : Nat → Option Addr × Nat × Nat) w', Sl w' p m → Calls Try.prog 32 #[.agg (cvA k p (dl m) n q), .agg (nw 9 a)] w' fun e w'' => e = .returned (.agg (nw 9 x)) ∧ Gr w' w'') := fun p n q w' h => hx ▸ below_any k m a n p q (by omega) hdl ha w' h
  have O1 : Hid (∀ w', Calls Try.prog 33 #[.int .u64 1] w' fun e w'' => e = .returned (.agg (nw 9 1)) ∧ Gr w' w'') := fun w => one_any 1 (by decide) w
  have M1 : Hid (∀ w', Calls Try.prog 16 #[.int .i64 k, .agg (nw 9 x), .agg (nw 9 x)] w' fun e w'' => e = .returned (.tuple #[.agg (nw 9 t), .int .i64 0]) ∧ Gr w' w'') := fun w => ht ▸ FM x x hxm hxm w
  have S1 : Hid (∀ w', Calls Try.prog 29 #[.int .i64 k, .agg (nw 9 t)] w' fun e w'' => e = .returned (.tuple #[.agg (nw 9 s), .int .i64 0]) ∧ Gr w' w'') := fun w => by
    have := FQ1 t htm w
    rw [hs, hsp.1] at this
    exact this
  have D1 : Hid (∀ w', Calls Try.prog 15 #[.int .i64 k, .agg (nw 9 0), .agg (nw 9 s)] w' fun e w'' => e = .returned (.tuple #[.agg (nw 9 f), .int .i64 0]) ∧ Gr w' w'') := fun w => hf ▸ FSu 0 s (by omega) hsm w
  have I1 : Hid (∀ w', Calls Try.prog 28 #[.int .i64 k, .agg (nw 9 x)] w' fun e w'' => e = .returned (.tuple #[.agg (nw 9 r), .int .i64 0]) ∧ Gr w' w'') := ci
  have M2 : Hid (∀ w', Calls Try.prog 16 #[.int .i64 k, .agg (nw 9 x), .agg (nw 9 r)] w' fun e w'' => e = .returned (.tuple #[.agg (nw 9 1), .int .i64 0]) ∧ Gr w' w'') := fun w => hi ▸ FM x r hxm him w
  have HO' : Hid (∀ w, Calls Try.prog 13 #[.int .i64 (k : Int)] w fun e w' => ∃ p n q, e = .returned (.tuple #[.agg (cvA (k : Int) p (dl m) n q), .bool true]) ∧ Sl w' p m ∧ Gr w w') := HO
  clear HO FA FSu FR FM FI FZ hprm hB hdl hm h1 h2 hidx hk FQ1 hx hxm ha hz hx0 ht htm ht0 hsp hs hsm hpm hf him hi ci s0 hsx0 hsx
  go_enter Try.func6, Try.ntmps6
  go_upto_region 3 with (go_at_call 19; refine (awake5_any _).mono ?_; rintro e w' ⟨rfl, gaw, rfl⟩)
  refine gen_w (fun v => Hid (Gr w v ∧ Cl v w.heap.size a)) ⟨(by repeat (first | exact Gr.refl _ | apply Gr.drewN | apply Gr.drew | apply Gr.alloc | apply Gr.gro)), ⟨by simp [go_sem], by simp [go_sem], by simp [go_sem]⟩⟩ ?_
  intro v0 HV
  go_cut [5, 6] from 20 to 28 (fun a0 a1 wx => ∃ (e5 : Nat) (p : Option Addr) (n : Nat) (q : Nat → Option Addr × Nat × Nat), a0 = .pointer (some ⟨e5, 0, none⟩) ∧ a1 = .bool true ∧ Hid (Gr w wx ∧ Cl wx w.heap.size a ∧ Cv wx e5 k p (dl m) n q ∧ Sl wx p m))
  case first =>
    have ⟨G, c0⟩ := HV.out
    go_wp2_with (go_at_call 13; refine (HO'.out _).mono ?_; rintro e W1 ⟨p, n, q, rfl, S1, G1⟩)
    go_meet
    exact ⟨_, p, n, q, rfl, rfl, G.trans (G1.trans (by repeat (first | exact Gr.refl _ | apply Gr.drewN | apply Gr.drew | apply Gr.alloc | apply Gr.gro))), c0.gr (G1.trans (by repeat (first | exact Gr.refl _ | apply Gr.drewN | apply Gr.drew | apply Gr.alloc | apply Gr.gro))), ⟨by simp [go_sem], by simp [go_sem], by simp [go_sem]⟩, S1.gr (by repeat (first | exact Gr.refl _ | apply Gr.drewN | apply Gr.drew | apply Gr.alloc | apply Gr.gro))⟩
  clear HV
  obtain ⟨e5, p, n, q, rfl, rfl, HV⟩ := hcut
  have ⟨G, c_w_heap_size, c_e5, S_p⟩ := HV.out
  have ⟨hc_w_heap_size, fc_w_heap_size, pc_w_heap_size⟩ := c_w_heap_size
  have ⟨hc_e5, fc_e5, pc_e5⟩ := c_e5
  have h0c_e5 := (c_e5).at0
  have h1c_e5 := (c_e5).at1
  go_upto_region 6 with (first
      | (go_at_call 18; refine (num_any _ _).mono ?_; rintro e w' ⟨rfl, rfl⟩))
  go_cut [7] from 31 to 33 (fun a0 wx => ∃ e7 : Nat, a0 = .pointer (some ⟨e7, 0, none⟩) ∧ Hid (Gr w wx ∧ Cl wx (w.heap.size) a ∧ Cv wx e5 k p (dl m) n q ∧ Cl wx e7 x ∧ Sl wx p m))
  case first =>
    have ⟨G, c_w_heap_size, c_e5, S_p⟩ := HV.out
    have ⟨hc_w_heap_size, fc_w_heap_size, pc_w_heap_size⟩ := c_w_heap_size
    have ⟨hc_e5, fc_e5, pc_e5⟩ := c_e5
    have h0c_e5 := (c_e5).at0
    have h1c_e5 := (c_e5).at1
    go_wp2_with (first
        | (go_at_call_of 32 ((#[.agg (cvA k p (dl m) n q), .agg (nw 9 a)] : Array Value)); refine (B1.out p n q _ (S_p.gr (by repeat (first | exact Gr.refl _ | apply Gr.drewN | apply Gr.drew | apply Gr.alloc | apply Gr.gro)))).mono ?_; rintro e w' ⟨rfl, g1, rfl⟩)
        | (go_at_call 18; refine (num_any _ _).mono ?_; rintro e w' ⟨rfl, rfl⟩))
    go_meet
    exact ⟨_, rfl, G.trans (by repeat (first | exact Gr.refl _ | apply Gr.drewN | apply Gr.drew | apply Gr.alloc | apply Gr.gro)), c_w_heap_size.gr (by repeat (first | exact Gr.refl _ | apply Gr.drewN | apply Gr.drew | apply Gr.alloc | apply Gr.gro)), c_e5.gr (by repeat (first | exact Gr.refl _ | apply Gr.drewN | apply Gr.drew | apply Gr.alloc | apply Gr.gro)), ⟨by simp [go_sem], by simp [go_sem], by simp [go_sem]⟩, S_p.gr (by repeat (first | exact Gr.refl _ | apply Gr.drewN | apply Gr.drew | apply Gr.alloc | apply Gr.gro))⟩
  clear HV
  obtain ⟨e7, rfl, HV⟩ := hcut
  go_upto_region 7 with fail
  go_cut [8, 9] from 34 to 41 (fun a0 a1 wx => ∃ e8 : Nat, a0 = .pointer (some ⟨e8, 0, none⟩) ∧ a1 = .int .i64 0 ∧ Hid (Gr w wx ∧ Cl wx (w.heap.size) a ∧ Cv wx e5 k p (dl m) n q ∧ Cl wx e7 x ∧ Cl wx e8 t ∧ Sl wx p m))
  case first =>
    have ⟨G, c_w_heap_size, c_e5, c_e7, S_p⟩ := HV.out
    have ⟨hc_w_heap_size, fc_w_heap_size, pc_w_heap_size⟩ := c_w_heap_size
    have ⟨hc_e5, fc_e5, pc_e5⟩ := c_e5
    have h0c_e5 := (c_e5).at0
    have h1c_e5 := (c_e5).at1
    have ⟨hc_e7, fc_e7, pc_e7⟩ := c_e7
    go_wp2_with (first
        | (go_at_call_of 16 ((#[.int .i64 k, .agg (nw 9 x), .agg (nw 9 x)] : Array Value)); refine (M1.out _).mono ?_; rintro e w' ⟨rfl, g2, rfl⟩)
        | (go_at_call 18; refine (num_any _ _).mono ?_; rintro e w' ⟨rfl, rfl⟩))
    go_meet
    exact ⟨_, rfl, rfl, G.trans (by repeat (first | exact Gr.refl _ | apply Gr.drewN | apply Gr.drew | apply Gr.alloc | apply Gr.gro)), c_w_heap_size.gr (by repeat (first | exact Gr.refl _ | apply Gr.drewN | apply Gr.drew | apply Gr.alloc | apply Gr.gro)), c_e5.gr (by repeat (first | exact Gr.refl _ | apply Gr.drewN | apply Gr.drew | apply Gr.alloc | apply Gr.gro)), c_e7.gr (by repeat (first | exact Gr.refl _ | apply Gr.drewN | apply Gr.drew | apply Gr.alloc | apply Gr.gro)), ⟨by simp [go_sem], by simp [go_sem], by simp [go_sem]⟩, S_p.gr (by repeat (first | exact Gr.refl _ | apply Gr.drewN | apply Gr.drew | apply Gr.alloc | apply Gr.gro))⟩
  clear HV
  obtain ⟨e8, rfl, rfl, HV⟩ := hcut
  go_upto_region 8 with fail
  go_cut [10, 11] from 42 to 48 (fun a0 a1 wx => ∃ e10 : Nat, a0 = .pointer (some ⟨e10, 0, none⟩) ∧ a1 = .int .i64 0 ∧ Hid (Gr w wx ∧ Cl wx (w.heap.size) a ∧ Cv wx e5 k p (dl m) n q ∧ Cl wx e7 x ∧ Cl wx e8 t ∧ Cl wx e10 s ∧ Sl wx p m))
  case first =>
    have ⟨G, c_w_heap_size, c_e5, c_e7, c_e8, S_p⟩ := HV.out
    have ⟨hc_w_heap_size, fc_w_heap_size, pc_w_heap_size⟩ := c_w_heap_size
    have ⟨hc_e5, fc_e5, pc_e5⟩ := c_e5
    have h0c_e5 := (c_e5).at0
    have h1c_e5 := (c_e5).at1
    have ⟨hc_e7, fc_e7, pc_e7⟩ := c_e7
    have ⟨hc_e8, fc_e8, pc_e8⟩ := c_e8
    go_wp2_with (first
        | (go_at_call_of 29 ((#[.int .i64 k, .agg (nw 9 t)] : Array Value)); refine (S1.out _).mono ?_; rintro e w' ⟨rfl, g3, rfl⟩)
        | (go_at_call 18; refine (num_any _ _).mono ?_; rintro e w' ⟨rfl, rfl⟩))
    go_meet
    exact ⟨_, rfl, rfl, G.trans (by repeat (first | exact Gr.refl _ | apply Gr.drewN | apply Gr.drew | apply Gr.alloc | apply Gr.gro)), c_w_heap_size.gr (by repeat (first | exact Gr.refl _ | apply Gr.drewN | apply Gr.drew | apply Gr.alloc | apply Gr.gro)), c_e5.gr (by repeat (first | exact Gr.refl _ | apply Gr.drewN | apply Gr.drew | apply Gr.alloc | apply Gr.gro)), c_e7.gr (by repeat (first | exact Gr.refl _ | apply Gr.drewN | apply Gr.drew | apply Gr.alloc | apply Gr.gro)), c_e8.gr (by repeat (first | exact Gr.refl _ | apply Gr.drewN | apply Gr.drew | apply Gr.alloc | apply Gr.gro)), ⟨by simp [go_sem], by simp [go_sem], by simp [go_sem]⟩, S_p.gr (by repeat (first | exact Gr.refl _ | apply Gr.drewN | apply Gr.drew | apply Gr.alloc | apply Gr.gro))⟩
  clear HV
  obtain ⟨e10, rfl, rfl, HV⟩ := hcut
  go_upto_region 9 with fail
  go_cut [12, 13] from 49 to 56 (fun a0 a1 wx => ∃ e12 : Nat, a0 = .pointer (some ⟨e12, 0, none⟩) ∧ a1 = .int .i64 0 ∧ Hid (Gr w wx ∧ Cl wx (w.heap.size) a ∧ Cv wx e5 k p (dl m) n q ∧ Cl wx e7 x ∧ Cl wx e8 t ∧ Cl wx e10 s ∧ Cl wx e12 f ∧ Sl wx p m))
  case first =>
    have ⟨G, c_w_heap_size, c_e5, c_e7, c_e8, c_e10, S_p⟩ := HV.out
    have ⟨hc_w_heap_size, fc_w_heap_size, pc_w_heap_size⟩ := c_w_heap_size
    have ⟨hc_e5, fc_e5, pc_e5⟩ := c_e5
    have h0c_e5 := (c_e5).at0
    have h1c_e5 := (c_e5).at1
    have ⟨hc_e7, fc_e7, pc_e7⟩ := c_e7
    have ⟨hc_e8, fc_e8, pc_e8⟩ := c_e8
    have ⟨hc_e10, fc_e10, pc_e10⟩ := c_e10
    go_wp2_with (first
        | (go_at_call_of 15 ((#[.int .i64 k, .agg (nw 9 0), .agg (nw 9 s)] : Array Value)); refine (D1.out _).mono ?_; rintro e w' ⟨rfl, g4, rfl⟩)
        | (go_at_call 18; refine (num_any _ _).mono ?_; rintro e w' ⟨rfl, rfl⟩))
    go_meet
    exact ⟨_, rfl, rfl, G.trans (by repeat (first | exact Gr.refl _ | apply Gr.drewN | apply Gr.drew | apply Gr.alloc | apply Gr.gro)), c_w_heap_size.gr (by repeat (first | exact Gr.refl _ | apply Gr.drewN | apply Gr.drew | apply Gr.alloc | apply Gr.gro)), c_e5.gr (by repeat (first | exact Gr.refl _ | apply Gr.drewN | apply Gr.drew | apply Gr.alloc | apply Gr.gro)), c_e7.gr (by repeat (first | exact Gr.refl _ | apply Gr.drewN | apply Gr.drew | apply Gr.alloc | apply Gr.gro)), c_e8.gr (by repeat (first | exact Gr.refl _ | apply Gr.drewN | apply Gr.drew | apply Gr.alloc | apply Gr.gro)), c_e10.gr (by repeat (first | exact Gr.refl _ | apply Gr.drewN | apply Gr.drew | apply Gr.alloc | apply Gr.gro)), ⟨by simp [go_sem], by simp [go_sem], by simp [go_sem]⟩, S_p.gr (by repeat (first | exact Gr.refl _ | apply Gr.drewN | apply Gr.drew | apply Gr.alloc | apply Gr.gro))⟩
  clear HV
  obtain ⟨e12, rfl, rfl, HV⟩ := hcut
  go_upto_region 10 with fail
  go_cut [14, 15] from 57 to 63 (fun a0 a1 wx => ∃ e14 : Nat, a0 = .pointer (some ⟨e14, 0, none⟩) ∧ a1 = .int .i64 0 ∧ Hid (Gr w wx ∧ Cl wx (w.heap.size) a ∧ Cv wx e5 k p (dl m) n q ∧ Cl wx e7 x ∧ Cl wx e8 t ∧ Cl wx e10 s ∧ Cl wx e12 f ∧ Cl wx e14 r ∧ Sl wx p m))
  case first =>
    have ⟨G, c_w_heap_size, c_e5, c_e7, c_e8, c_e10, c_e12, S_p⟩ := HV.out
    have ⟨hc_w_heap_size, fc_w_heap_size, pc_w_heap_size⟩ := c_w_heap_size
    have ⟨hc_e5, fc_e5, pc_e5⟩ := c_e5
    have h0c_e5 := (c_e5).at0
    have h1c_e5 := (c_e5).at1
    have ⟨hc_e7, fc_e7, pc_e7⟩ := c_e7
    have ⟨hc_e8, fc_e8, pc_e8⟩ := c_e8
    have ⟨hc_e10, fc_e10, pc_e10⟩ := c_e10
    have ⟨hc_e12, fc_e12, pc_e12⟩ := c_e12
    go_wp2_with (first
        | (go_at_call_of 28 ((#[.int .i64 k, .agg (nw 9 x)] : Array Value)); refine (I1.out _).mono ?_; rintro e w' ⟨rfl, g5, rfl⟩)
        | (go_at_call 18; refine (num_any _ _).mono ?_; rintro e w' ⟨rfl, rfl⟩))
    go_meet
    exact ⟨_, rfl, rfl, G.trans (by repeat (first | exact Gr.refl _ | apply Gr.drewN | apply Gr.drew | apply Gr.alloc | apply Gr.gro)), c_w_heap_size.gr (by repeat (first | exact Gr.refl _ | apply Gr.drewN | apply Gr.drew | apply Gr.alloc | apply Gr.gro)), c_e5.gr (by repeat (first | exact Gr.refl _ | apply Gr.drewN | apply Gr.drew | apply Gr.alloc | apply Gr.gro)), c_e7.gr (by repeat (first | exact Gr.refl _ | apply Gr.drewN | apply Gr.drew | apply Gr.alloc | apply Gr.gro)), c_e8.gr (by repeat (first | exact Gr.refl _ | apply Gr.drewN | apply Gr.drew | apply Gr.alloc | apply Gr.gro)), c_e10.gr (by repeat (first | exact Gr.refl _ | apply Gr.drewN | apply Gr.drew | apply Gr.alloc | apply Gr.gro)), c_e12.gr (by repeat (first | exact Gr.refl _ | apply Gr.drewN | apply Gr.drew | apply Gr.alloc | apply Gr.gro)), ⟨by simp [go_sem], by simp [go_sem], by simp [go_sem]⟩, S_p.gr (by repeat (first | exact Gr.refl _ | apply Gr.drewN | apply Gr.drew | apply Gr.alloc | apply Gr.gro))⟩
  clear HV
  obtain ⟨e14, rfl, rfl, HV⟩ := hcut
  go_upto_region 11 with fail
  go_cut [16, 17] from 64 to 71 (fun a0 a1 wx => ∃ e16 : Nat, a0 = .pointer (some ⟨e16, 0, none⟩) ∧ a1 = .int .i64 0 ∧ Hid (Gr w wx ∧ Cl wx (w.heap.size) a ∧ Cv wx e5 k p (dl m) n q ∧ Cl wx e7 x ∧ Cl wx e8 t ∧ Cl wx e10 s ∧ Cl wx e12 f ∧ Cl wx e14 r ∧ Cl wx e16 1 ∧ Sl wx p m))
  case first =>
    have ⟨G, c_w_heap_size, c_e5, c_e7, c_e8, c_e10, c_e12, c_e14, S_p⟩ := HV.out
    have ⟨hc_w_heap_size, fc_w_heap_size, pc_w_heap_size⟩ := c_w_heap_size
    have ⟨hc_e5, fc_e5, pc_e5⟩ := c_e5
    have h0c_e5 := (c_e5).at0
    have h1c_e5 := (c_e5).at1
    have ⟨hc_e7, fc_e7, pc_e7⟩ := c_e7
    have ⟨hc_e8, fc_e8, pc_e8⟩ := c_e8
    have ⟨hc_e10, fc_e10, pc_e10⟩ := c_e10
    have ⟨hc_e12, fc_e12, pc_e12⟩ := c_e12
    have ⟨hc_e14, fc_e14, pc_e14⟩ := c_e14
    go_wp2_with (first
        | (go_at_call_of 16 ((#[.int .i64 k, .agg (nw 9 x), .agg (nw 9 r)] : Array Value)); refine (M2.out _).mono ?_; rintro e w' ⟨rfl, g6, rfl⟩)
        | (go_at_call 18; refine (num_any _ _).mono ?_; rintro e w' ⟨rfl, rfl⟩))
    go_meet
    exact ⟨_, rfl, rfl, G.trans (by repeat (first | exact Gr.refl _ | apply Gr.drewN | apply Gr.drew | apply Gr.alloc | apply Gr.gro)), c_w_heap_size.gr (by repeat (first | exact Gr.refl _ | apply Gr.drewN | apply Gr.drew | apply Gr.alloc | apply Gr.gro)), c_e5.gr (by repeat (first | exact Gr.refl _ | apply Gr.drewN | apply Gr.drew | apply Gr.alloc | apply Gr.gro)), c_e7.gr (by repeat (first | exact Gr.refl _ | apply Gr.drewN | apply Gr.drew | apply Gr.alloc | apply Gr.gro)), c_e8.gr (by repeat (first | exact Gr.refl _ | apply Gr.drewN | apply Gr.drew | apply Gr.alloc | apply Gr.gro)), c_e10.gr (by repeat (first | exact Gr.refl _ | apply Gr.drewN | apply Gr.drew | apply Gr.alloc | apply Gr.gro)), c_e12.gr (by repeat (first | exact Gr.refl _ | apply Gr.drewN | apply Gr.drew | apply Gr.alloc | apply Gr.gro)), c_e14.gr (by repeat (first | exact Gr.refl _ | apply Gr.drewN | apply Gr.drew | apply Gr.alloc | apply Gr.gro)), ⟨by simp [go_sem], by simp [go_sem], by simp [go_sem]⟩, S_p.gr (by repeat (first | exact Gr.refl _ | apply Gr.drewN | apply Gr.drew | apply Gr.alloc | apply Gr.gro))⟩
  clear HV
  obtain ⟨e16, rfl, rfl, HV⟩ := hcut
  have ⟨G, c_w_heap_size, c_e5, c_e7, c_e8, c_e10, c_e12, c_e14, c_e16, S_p⟩ := HV.out
  have ⟨hc_w_heap_size, fc_w_heap_size, pc_w_heap_size⟩ := c_w_heap_size
  have ⟨hc_e5, fc_e5, pc_e5⟩ := c_e5
  have h0c_e5 := (c_e5).at0
  have h1c_e5 := (c_e5).at1
  have ⟨hc_e7, fc_e7, pc_e7⟩ := c_e7
  have ⟨hc_e8, fc_e8, pc_e8⟩ := c_e8
  have ⟨hc_e10, fc_e10, pc_e10⟩ := c_e10
  have ⟨hc_e12, fc_e12, pc_e12⟩ := c_e12
  have ⟨hc_e14, fc_e14, pc_e14⟩ := c_e14
  have ⟨hc_e16, fc_e16, pc_e16⟩ := c_e16
  go_upto_region 14 with (first
      | (go_at_call 18; refine (num_any _ _).mono ?_; rintro e w' ⟨rfl, rfl⟩))
  go_upto_region 14 with fail
  obtain ⟨G, c_w_heap_size, c_e5, c_e7, c_e8, c_e10, c_e12, c_e14, c_e16, S_p⟩ := HV.out
  refine wp_region_pred (by kernel_rfl) (by kernel_rfl) [.c (.int .i64 0), .c (.int .i64 0), .c (.bool true), .c (.bool true), .c (.int .i64 0), .c (.int .i64 0), .c (.bool true), .c (.bool true), .c (.bool true), .c (.int .i64 0), .c (.int .i64 0), .c (.bool true), .c (.bool true), .c (.bool true), .c (.int .i64 0), .c (.int .i64 0), .c (.bool true), .c (.bool true), .c (.bool true), .c (.agg (nw 9 1)), .c (.agg (nw 9 1)), .c (.bool true), .c (.bool true), .c (.bool true), .c (.pointer (some ⟨e10, 0, none⟩)), .c (.pointer (some ⟨e10, 0, none⟩)), .c (.int .u64 ((wd s 0 : Nat) : Int)), .c (.int .u64 0), .c (.bool true), .c (.bool true), .c (.bool true), .c (.agg (nw 9 s)), .c (.agg (nw 9 x)), .c (.bool false), .c (.bool false), .c (.agg (nw 9 f)), .c (.agg (nw 9 x)), .c (.bool true), .c (.bool true), .c (.bool true), .c (.bool true)] ?hs ?hf
  case hs =>
    intro listed vals a1 v i o hg hR hF ho hd
    have Hc_w_heap_size : blk v (w.heap.size) = nw 9 a := (hg.blk _ c_w_heap_size.p).trans c_w_heap_size.h
    have Hc_e5 : blk v e5 = cvA k p (dl m) n q := (hg.blk _ c_e5.p).trans c_e5.h
    have Hc_e7 : blk v e7 = nw 9 x := (hg.blk _ c_e7.p).trans c_e7.h
    have Hc_e8 : blk v e8 = nw 9 t := (hg.blk _ c_e8.p).trans c_e8.h
    have Hc_e10 : blk v e10 = nw 9 s := (hg.blk _ c_e10.p).trans c_e10.h
    have Hc_e12 : blk v e12 = nw 9 f := (hg.blk _ c_e12.p).trans c_e12.h
    have Hc_e14 : blk v e14 = nw 9 r := (hg.blk _ c_e14.p).trans c_e14.h
    have Hc_e16 : blk v e16 = nw 9 1 := (hg.blk _ c_e16.p).trans c_e16.h
    have hi : i < 41 := by simpa using (Array.getElem?_eq_some_iff.1 ho).1
    obtain rfl | rfl | rfl | rfl | rfl | rfl | rfl | rfl | rfl | rfl | rfl | rfl | rfl | rfl | rfl | rfl | rfl | rfl | rfl | rfl | rfl | rfl | rfl | rfl | rfl | rfl | rfl | rfl | rfl | rfl | rfl | rfl | rfl | rfl | rfl | rfl | rfl | rfl | rfl | rfl | rfl : i = 0 ∨ i = 1 ∨ i = 2 ∨ i = 3 ∨ i = 4 ∨ i = 5 ∨ i = 6 ∨ i = 7 ∨ i = 8 ∨ i = 9 ∨ i = 10 ∨ i = 11 ∨ i = 12 ∨ i = 13 ∨ i = 14 ∨ i = 15 ∨ i = 16 ∨ i = 17 ∨ i = 18 ∨ i = 19 ∨ i = 20 ∨ i = 21 ∨ i = 22 ∨ i = 23 ∨ i = 24 ∨ i = 25 ∨ i = 26 ∨ i = 27 ∨ i = 28 ∨ i = 29 ∨ i = 30 ∨ i = 31 ∨ i = 32 ∨ i = 33 ∨ i = 34 ∨ i = 35 ∨ i = 36 ∨ i = 37 ∨ i = 38 ∨ i = 39 ∨ i = 40 := by omega
    · obtain rfl := Option.some.inj ho
      have f0 := hF.old (s := 9) (v := .int .i64 0) (by kernel_rfl) rfl
      refine Or.inl ⟨wanted_no rfl, ?_⟩
      exact wp_val (.int .i64 0) (by simp [go_sem, f0]) ⟨_, rfl, Gr.refl _, rfl⟩
    · obtain rfl := Option.some.inj ho
      have l0 := on_of hd 0 (by kernel_rfl)
      have f0 := hF.at (s := 88) (i := 0) (by kernel_rfl) (by simp) l0
      rw [show vals 0 = .int .i64 0 from hR 0 l0] at f0
      refine Or.inl ⟨wanted_no rfl, ?_⟩
      exact wp_ret (.int .i64 0) (by simp [go_sem, f0]) (num5_gr _ _) (fun w2 hg2 => ⟨_, rfl, hg2, rfl⟩)
    · obtain rfl := Option.some.inj ho
      have l0 := on_of hd 1 (by kernel_rfl)
      have f0 := hF.at (s := 89) (i := 1) (by kernel_rfl) (by simp) l0
      rw [show vals 1 = .int .i64 0 from hR 1 l0] at f0
      refine Or.inl ⟨wanted_no rfl, ?_⟩
      exact wp_val (.bool true) (by simp [go_sem, f0]) ⟨_, rfl, Gr.refl _, rfl⟩
    · obtain rfl := Option.some.inj ho
      have l0 := on_of hd 2 (by kernel_rfl)
      have f0 := hF.at (s := 90) (i := 2) (by kernel_rfl) (by simp) l0
      rw [show vals 2 = .bool true from hR 2 l0] at f0
      refine Or.inl ⟨wanted_no rfl, ?_⟩
      exact wp_val (.bool true) (by simp [go_sem, f0]) ⟨_, rfl, Gr.refl _, rfl⟩
    · obtain rfl := Option.some.inj ho
      have lg := on_of hd 3 (by kernel_rfl)
      have fg := hF.at (s := 91) (i := 3) (by kernel_rfl) (by simp) lg
      rw [show vals 3 = .bool true from hR 3 lg] at fg
      have f0 := hF.old (s := 11) (v := .int .i64 0) (by kernel_rfl) rfl
      refine Or.inl ⟨wanted_at (j := 3) (s := 91) rfl rfl rfl fg, ?_⟩
      exact wp_val (.int .i64 0) (by simp [go_sem, f0]) ⟨_, rfl, Gr.refl _, rfl⟩
    · obtain rfl := Option.some.inj ho
      have lg := on_of hd 3 (by kernel_rfl)
      have fg := hF.at (s := 91) (i := 3) (by kernel_rfl) (by simp) lg
      rw [show vals 3 = .bool true from hR 3 lg] at fg
      have l0 := on_of hd 4 (by kernel_rfl)
      have f0 := hF.at (s := 92) (i := 4) (by kernel_rfl) (by simp) l0
      rw [show vals 4 = .int .i64 0 from hR 4 l0] at f0
      refine Or.inl ⟨wanted_at (j := 3) (s := 91) rfl rfl rfl fg, ?_⟩
      exact wp_ret (.int .i64 0) (by simp [go_sem, f0]) (num5_gr _ _) (fun w2 hg2 => ⟨_, rfl, hg2, rfl⟩)
    · obtain rfl := Option.some.inj ho
      have lg := on_of hd 3 (by kernel_rfl)
      have fg := hF.at (s := 91) (i := 3) (by kernel_rfl) (by simp) lg
      rw [show vals 3 = .bool true from hR 3 lg] at fg
      have l0 := on_of hd 5 (by kernel_rfl)
      have f0 := hF.at (s := 93) (i := 5) (by kernel_rfl) (by simp) l0
      rw [show vals 5 = .int .i64 0 from hR 5 l0] at f0
      refine Or.inl ⟨wanted_at (j := 3) (s := 91) rfl rfl rfl fg, ?_⟩
      exact wp_val (.bool true) (by simp [go_sem, f0]) ⟨_, rfl, Gr.refl _, rfl⟩
    · obtain rfl := Option.some.inj ho
      have l0 := on_of hd 3 (by kernel_rfl)
      have f0 := hF.at (s := 91) (i := 3) (by kernel_rfl) (by simp) l0
      rw [show vals 3 = .bool true from hR 3 l0] at f0
      have l1 := on_of hd 6 (by kernel_rfl)
      have f1 := hF.at (s := 94) (i := 6) (by kernel_rfl) (by simp) l1
      rw [show vals 6 = .bool true from hR 6 l1] at f1
      refine Or.inl ⟨wanted_no rfl, ?_⟩
      exact wp_val (.bool true) (by simp [go_sem, f0, f1]) ⟨_, rfl, Gr.refl _, rfl⟩
    · obtain rfl := Option.some.inj ho
      have l0 := on_of hd 7 (by kernel_rfl)
      have f0 := hF.at (s := 95) (i := 7) (by kernel_rfl) (by simp) l0
      rw [show vals 7 = .bool true from hR 7 l0] at f0
      refine Or.inl ⟨wanted_no rfl, ?_⟩
      exact wp_val (.bool true) (by simp [go_sem, f0]) ⟨_, rfl, Gr.refl _, rfl⟩
    · obtain rfl := Option.some.inj ho
      have lg := on_of hd 8 (by kernel_rfl)
      have fg := hF.at (s := 96) (i := 8) (by kernel_rfl) (by simp) lg
      rw [show vals 8 = .bool true from hR 8 lg] at fg
      have f0 := hF.old (s := 13) (v := .int .i64 0) (by kernel_rfl) rfl
      refine Or.inl ⟨wanted_at (j := 8) (s := 96) rfl rfl rfl fg, ?_⟩
      exact wp_val (.int .i64 0) (by simp [go_sem, f0]) ⟨_, rfl, Gr.refl _, rfl⟩
    · obtain rfl := Option.some.inj ho
      have lg := on_of hd 8 (by kernel_rfl)
      have fg := hF.at (s := 96) (i := 8) (by kernel_rfl) (by simp) lg
      rw [show vals 8 = .bool true from hR 8 lg] at fg
      have l0 := on_of hd 9 (by kernel_rfl)
      have f0 := hF.at (s := 97) (i := 9) (by kernel_rfl) (by simp) l0
      rw [show vals 9 = .int .i64 0 from hR 9 l0] at f0
      refine Or.inl ⟨wanted_at (j := 8) (s := 96) rfl rfl rfl fg, ?_⟩
      exact wp_ret (.int .i64 0) (by simp [go_sem, f0]) (num5_gr _ _) (fun w2 hg2 => ⟨_, rfl, hg2, rfl⟩)
    · obtain rfl := Option.some.inj ho
      have lg := on_of hd 8 (by kernel_rfl)
      have fg := hF.at (s := 96) (i := 8) (by kernel_rfl) (by simp) lg
      rw [show vals 8 = .bool true from hR 8 lg] at fg
      have l0 := on_of hd 10 (by kernel_rfl)
      have f0 := hF.at (s := 98) (i := 10) (by kernel_rfl) (by simp) l0
      rw [show vals 10 = .int .i64 0 from hR 10 l0] at f0
      refine Or.inl ⟨wanted_at (j := 8) (s := 96) rfl rfl rfl fg, ?_⟩
      exact wp_val (.bool true) (by simp [go_sem, f0]) ⟨_, rfl, Gr.refl _, rfl⟩
    · obtain rfl := Option.some.inj ho
      have l0 := on_of hd 8 (by kernel_rfl)
      have f0 := hF.at (s := 96) (i := 8) (by kernel_rfl) (by simp) l0
      rw [show vals 8 = .bool true from hR 8 l0] at f0
      have l1 := on_of hd 11 (by kernel_rfl)
      have f1 := hF.at (s := 99) (i := 11) (by kernel_rfl) (by simp) l1
      rw [show vals 11 = .bool true from hR 11 l1] at f1
      refine Or.inl ⟨wanted_no rfl, ?_⟩
      exact wp_val (.bool true) (by simp [go_sem, f0, f1]) ⟨_, rfl, Gr.refl _, rfl⟩
    · obtain rfl := Option.some.inj ho
      have l0 := on_of hd 12 (by kernel_rfl)
      have f0 := hF.at (s := 100) (i := 12) (by kernel_rfl) (by simp) l0
      rw [show vals 12 = .bool true from hR 12 l0] at f0
      refine Or.inl ⟨wanted_no rfl, ?_⟩
      exact wp_val (.bool true) (by simp [go_sem, f0]) ⟨_, rfl, Gr.refl _, rfl⟩
    · obtain rfl := Option.some.inj ho
      have lg := on_of hd 13 (by kernel_rfl)
      have fg := hF.at (s := 101) (i := 13) (by kernel_rfl) (by simp) lg
      rw [show vals 13 = .bool true from hR 13 lg] at fg
      have f0 := hF.old (s := 15) (v := .int .i64 0) (by kernel_rfl) rfl
      refine Or.inl ⟨wanted_at (j := 13) (s := 101) rfl rfl rfl fg, ?_⟩
      exact wp_val (.int .i64 0) (by simp [go_sem, f0]) ⟨_, rfl, Gr.refl _, rfl⟩
    · obtain rfl := Option.some.inj ho
      have lg := on_of hd 13 (by kernel_rfl)
      have fg := hF.at (s := 101) (i := 13) (by kernel_rfl) (by simp) lg
      rw [show vals 13 = .bool true from hR 13 lg] at fg
      have l0 := on_of hd 14 (by kernel_rfl)
      have f0 := hF.at (s := 102) (i := 14) (by kernel_rfl) (by simp) l0
      rw [show vals 14 = .int .i64 0 from hR 14 l0] at f0
      refine Or.inl ⟨wanted_at (j := 13) (s := 101) rfl rfl rfl fg, ?_⟩
      exact wp_ret (.int .i64 0) (by simp [go_sem, f0]) (num5_gr _ _) (fun w2 hg2 => ⟨_, rfl, hg2, rfl⟩)
    · obtain rfl := Option.some.inj ho
      have lg := on_of hd 13 (by kernel_rfl)
      have fg := hF.at (s := 101) (i := 13) (by kernel_rfl) (by simp) lg
      rw [show vals 13 = .bool true from hR 13 lg] at fg
      have l0 := on_of hd 15 (by kernel_rfl)
      have f0 := hF.at (s := 103) (i := 15) (by kernel_rfl) (by simp) l0
      rw [show vals 15 = .int .i64 0 from hR 15 l0] at f0
      refine Or.inl ⟨wanted_at (j := 13) (s := 101) rfl rfl rfl fg, ?_⟩
      exact wp_val (.bool true) (by simp [go_sem, f0]) ⟨_, rfl, Gr.refl _, rfl⟩
    · obtain rfl := Option.some.inj ho
      have l0 := on_of hd 13 (by kernel_rfl)
      have f0 := hF.at (s := 101) (i := 13) (by kernel_rfl) (by simp) l0
      rw [show vals 13 = .bool true from hR 13 l0] at f0
      have l1 := on_of hd 16 (by kernel_rfl)
      have f1 := hF.at (s := 104) (i := 16) (by kernel_rfl) (by simp) l1
      rw [show vals 16 = .bool true from hR 16 l1] at f1
      refine Or.inl ⟨wanted_no rfl, ?_⟩
      exact wp_val (.bool true) (by simp [go_sem, f0, f1]) ⟨_, rfl, Gr.refl _, rfl⟩
    · obtain rfl := Option.some.inj ho
      have l0 := on_of hd 17 (by kernel_rfl)
      have f0 := hF.at (s := 105) (i := 17) (by kernel_rfl) (by simp) l0
      rw [show vals 17 = .bool true from hR 17 l0] at f0
      refine Or.inl ⟨wanted_no rfl, ?_⟩
      exact wp_val (.bool true) (by simp [go_sem, f0]) ⟨_, rfl, Gr.refl _, rfl⟩
    · obtain rfl := Option.some.inj ho
      have lg := on_of hd 18 (by kernel_rfl)
      have fg := hF.at (s := 106) (i := 18) (by kernel_rfl) (by simp) lg
      rw [show vals 18 = .bool true from hR 18 lg] at fg
      have f0 := hF.old (s := 16) (v := .pointer (some ⟨e16, 0, none⟩)) (by kernel_rfl) rfl
      refine Or.inl ⟨wanted_at (j := 18) (s := 106) rfl rfl rfl fg, ?_⟩
      exact wp_val (.agg (nw 9 1)) (by simp [go_sem, f0, Hc_e16]) ⟨_, rfl, Gr.refl _, rfl⟩
    · obtain rfl := Option.some.inj ho
      have lg := on_of hd 18 (by kernel_rfl)
      have fg := hF.at (s := 106) (i := 18) (by kernel_rfl) (by simp) lg
      rw [show vals 18 = .bool true from hR 18 lg] at fg
      refine Or.inl ⟨wanted_at (j := 18) (s := 106) rfl rfl rfl fg, ?_⟩
      exact wp_ret (.agg (nw 9 1)) (by simp [go_sem]) (O1.out _) (fun w2 hg2 => ⟨_, rfl, hg2, rfl⟩)
    · obtain rfl := Option.some.inj ho
      have lg := on_of hd 18 (by kernel_rfl)
      have fg := hF.at (s := 106) (i := 18) (by kernel_rfl) (by simp) lg
      rw [show vals 18 = .bool true from hR 18 lg] at fg
      have l0 := on_of hd 19 (by kernel_rfl)
      have f0 := hF.at (s := 107) (i := 19) (by kernel_rfl) (by simp) l0
      rw [show vals 19 = .agg (nw 9 1) from hR 19 l0] at f0
      have l1 := on_of hd 20 (by kernel_rfl)
      have f1 := hF.at (s := 108) (i := 20) (by kernel_rfl) (by simp) l1
      rw [show vals 20 = .agg (nw 9 1) from hR 20 l1] at f1
      refine Or.inl ⟨wanted_at (j := 18) (s := 106) rfl rfl rfl fg, ?_⟩
      exact wp_val (.bool true) (by simp [go_sem, f0, f1]) ⟨_, rfl, Gr.refl _, rfl⟩
    · obtain rfl := Option.some.inj ho
      have l0 := on_of hd 18 (by kernel_rfl)
      have f0 := hF.at (s := 106) (i := 18) (by kernel_rfl) (by simp) l0
      rw [show vals 18 = .bool true from hR 18 l0] at f0
      have l1 := on_of hd 21 (by kernel_rfl)
      have f1 := hF.at (s := 109) (i := 21) (by kernel_rfl) (by simp) l1
      rw [show vals 21 = .bool true from hR 21 l1] at f1
      refine Or.inl ⟨wanted_no rfl, ?_⟩
      exact wp_val (.bool true) (by simp [go_sem, f0, f1]) ⟨_, rfl, Gr.refl _, rfl⟩
    · obtain rfl := Option.some.inj ho
      have l0 := on_of hd 22 (by kernel_rfl)
      have f0 := hF.at (s := 110) (i := 22) (by kernel_rfl) (by simp) l0
      rw [show vals 22 = .bool true from hR 22 l0] at f0
      refine Or.inl ⟨wanted_no rfl, ?_⟩
      exact wp_val (.bool true) (by simp [go_sem, f0]) ⟨_, rfl, Gr.refl _, rfl⟩
    · obtain rfl := Option.some.inj ho
      have lg := on_of hd 23 (by kernel_rfl)
      have fg := hF.at (s := 111) (i := 23) (by kernel_rfl) (by simp) lg
      rw [show vals 23 = .bool true from hR 23 lg] at fg
      have f0 := hF.old (s := 10) (v := .pointer (some ⟨e10, 0, none⟩)) (by kernel_rfl) rfl
      refine Or.inl ⟨wanted_at (j := 23) (s := 111) rfl rfl rfl fg, ?_⟩
      exact wp_val (.pointer (some ⟨e10, 0, none⟩)) (by simp [go_sem, f0]) ⟨_, rfl, Gr.refl _, rfl⟩
    · obtain rfl := Option.some.inj ho
      have lg := on_of hd 23 (by kernel_rfl)
      have fg := hF.at (s := 111) (i := 23) (by kernel_rfl) (by simp) lg
      rw [show vals 23 = .bool true from hR 23 lg] at fg
      have l0 := on_of hd 24 (by kernel_rfl)
      have f0 := hF.at (s := 112) (i := 24) (by kernel_rfl) (by simp) l0
      rw [show vals 24 = .pointer (some ⟨e10, 0, none⟩) from hR 24 l0] at f0
      refine Or.inl ⟨wanted_at (j := 23) (s := 111) rfl rfl rfl fg, ?_⟩
      exact wp_val (.pointer (some ⟨e10, 0, none⟩)) (by simp [go_sem, f0]) ⟨_, rfl, Gr.refl _, rfl⟩
    · obtain rfl := Option.some.inj ho
      have lg := on_of hd 23 (by kernel_rfl)
      have fg := hF.at (s := 111) (i := 23) (by kernel_rfl) (by simp) lg
      rw [show vals 23 = .bool true from hR 23 lg] at fg
      have l0 := on_of hd 25 (by kernel_rfl)
      have f0 := hF.at (s := 113) (i := 25) (by kernel_rfl) (by simp) l0
      rw [show vals 25 = .pointer (some ⟨e10, 0, none⟩) from hR 25 l0] at f0
      refine Or.inl ⟨wanted_at (j := 23) (s := 111) rfl rfl rfl fg, ?_⟩
      exact wp_val (.int .u64 ((wd s 0 : Nat) : Int)) (by simp [go_sem, f0, cell_blk, Hc_e10]) ⟨_, rfl, Gr.refl _, rfl⟩
    · obtain rfl := Option.some.inj ho
      have lg := on_of hd 23 (by kernel_rfl)
      have fg := hF.at (s := 111) (i := 23) (by kernel_rfl) (by simp) lg
      rw [show vals 23 = .bool true from hR 23 lg] at fg
      have l0 := on_of hd 26 (by kernel_rfl)
      have f0 := hF.at (s := 114) (i := 26) (by kernel_rfl) (by simp) l0
      rw [show vals 26 = .int .u64 ((wd s 0 : Nat) : Int) from hR 26 l0] at f0
      refine Or.inl ⟨wanted_at (j := 23) (s := 111) rfl rfl rfl fg, ?_⟩
      exact wp_val (.int .u64 0) (by simp [go_sem, f0, hand]) ⟨_, rfl, Gr.refl _, rfl⟩
    · obtain rfl := Option.some.inj ho
      have lg := on_of hd 23 (by kernel_rfl)
      have fg := hF.at (s := 111) (i := 23) (by kernel_rfl) (by simp) lg
      rw [show vals 23 = .bool true from hR 23 lg] at fg
      have l0 := on_of hd 27 (by kernel_rfl)
      have f0 := hF.at (s := 115) (i := 27) (by kernel_rfl) (by simp) l0
      rw [show vals 27 = .int .u64 0 from hR 27 l0] at f0
      refine Or.inl ⟨wanted_at (j := 23) (s := 111) rfl rfl rfl fg, ?_⟩
      exact wp_val (.bool true) (by simp [go_sem, f0]) ⟨_, rfl, Gr.refl _, rfl⟩
    · obtain rfl := Option.some.inj ho
      have l0 := on_of hd 23 (by kernel_rfl)
      have f0 := hF.at (s := 111) (i := 23) (by kernel_rfl) (by simp) l0
      rw [show vals 23 = .bool true from hR 23 l0] at f0
      have l1 := on_of hd 28 (by kernel_rfl)
      have f1 := hF.at (s := 116) (i := 28) (by kernel_rfl) (by simp) l1
      rw [show vals 28 = .bool true from hR 28 l1] at f1
      refine Or.inl ⟨wanted_no rfl, ?_⟩
      exact wp_val (.bool true) (by simp [go_sem, f0, f1]) ⟨_, rfl, Gr.refl _, rfl⟩
    · obtain rfl := Option.some.inj ho
      have l0 := on_of hd 29 (by kernel_rfl)
      have f0 := hF.at (s := 117) (i := 29) (by kernel_rfl) (by simp) l0
      rw [show vals 29 = .bool true from hR 29 l0] at f0
      refine Or.inl ⟨wanted_no rfl, ?_⟩
      exact wp_val (.bool true) (by simp [go_sem, f0]) ⟨_, rfl, Gr.refl _, rfl⟩
    · obtain rfl := Option.some.inj ho
      have lg := on_of hd 30 (by kernel_rfl)
      have fg := hF.at (s := 118) (i := 30) (by kernel_rfl) (by simp) lg
      rw [show vals 30 = .bool true from hR 30 lg] at fg
      have f0 := hF.old (s := 10) (v := .pointer (some ⟨e10, 0, none⟩)) (by kernel_rfl) rfl
      refine Or.inl ⟨wanted_at (j := 30) (s := 118) rfl rfl rfl fg, ?_⟩
      exact wp_val (.agg (nw 9 s)) (by simp [go_sem, f0, Hc_e10]) ⟨_, rfl, Gr.refl _, rfl⟩
    · obtain rfl := Option.some.inj ho
      have lg := on_of hd 30 (by kernel_rfl)
      have fg := hF.at (s := 118) (i := 30) (by kernel_rfl) (by simp) lg
      rw [show vals 30 = .bool true from hR 30 lg] at fg
      have f0 := hF.old (s := 7) (v := .pointer (some ⟨e7, 0, none⟩)) (by kernel_rfl) rfl
      refine Or.inl ⟨wanted_at (j := 30) (s := 118) rfl rfl rfl fg, ?_⟩
      exact wp_val (.agg (nw 9 x)) (by simp [go_sem, f0, Hc_e7]) ⟨_, rfl, Gr.refl _, rfl⟩
    · obtain rfl := Option.some.inj ho
      have lg := on_of hd 30 (by kernel_rfl)
      have fg := hF.at (s := 118) (i := 30) (by kernel_rfl) (by simp) lg
      rw [show vals 30 = .bool true from hR 30 lg] at fg
      have l0 := on_of hd 31 (by kernel_rfl)
      have f0 := hF.at (s := 119) (i := 31) (by kernel_rfl) (by simp) l0
      rw [show vals 31 = .agg (nw 9 s) from hR 31 l0] at f0
      have l1 := on_of hd 32 (by kernel_rfl)
      have f1 := hF.at (s := 120) (i := 32) (by kernel_rfl) (by simp) l1
      rw [show vals 32 = .agg (nw 9 x) from hR 32 l1] at f1
      refine Or.inl ⟨wanted_at (j := 30) (s := 118) rfl rfl rfl fg, ?_⟩
      exact wp_val (.bool false) (by simp [go_sem, f0, f1, e3]) ⟨_, rfl, Gr.refl _, rfl⟩
    · obtain rfl := Option.some.inj ho
      have lg := on_of hd 30 (by kernel_rfl)
      have fg := hF.at (s := 118) (i := 30) (by kernel_rfl) (by simp) lg
      rw [show vals 30 = .bool true from hR 30 lg] at fg
      have l0 := on_of hd 33 (by kernel_rfl)
      have f0 := hF.at (s := 121) (i := 33) (by kernel_rfl) (by simp) l0
      rw [show vals 33 = .bool false from hR 33 l0] at f0
      refine Or.inl ⟨wanted_at (j := 30) (s := 118) rfl rfl rfl fg, ?_⟩
      exact wp_val (.bool false) (by simp [go_sem, f0]) ⟨_, rfl, Gr.refl _, rfl⟩
    · obtain rfl := Option.some.inj ho
      have lg := on_of hd 34 (by kernel_rfl)
      have fg := hF.at (s := 122) (i := 34) (by kernel_rfl) (by simp) lg
      rw [show vals 34 = .bool false from hR 34 lg] at fg
      have f0 := hF.old (s := 12) (v := .pointer (some ⟨e12, 0, none⟩)) (by kernel_rfl) rfl
      refine Or.inl ⟨wanted_at (j := 34) (s := 122) rfl rfl rfl fg, ?_⟩
      exact wp_val (.agg (nw 9 f)) (by simp [go_sem, f0, Hc_e12]) ⟨_, rfl, Gr.refl _, rfl⟩
    · obtain rfl := Option.some.inj ho
      have lg := on_of hd 34 (by kernel_rfl)
      have fg := hF.at (s := 122) (i := 34) (by kernel_rfl) (by simp) lg
      rw [show vals 34 = .bool false from hR 34 lg] at fg
      have f0 := hF.old (s := 7) (v := .pointer (some ⟨e7, 0, none⟩)) (by kernel_rfl) rfl
      refine Or.inl ⟨wanted_at (j := 34) (s := 122) rfl rfl rfl fg, ?_⟩
      exact wp_val (.agg (nw 9 x)) (by simp [go_sem, f0, Hc_e7]) ⟨_, rfl, Gr.refl _, rfl⟩
    · obtain rfl := Option.some.inj ho
      have lg := on_of hd 34 (by kernel_rfl)
      have fg := hF.at (s := 122) (i := 34) (by kernel_rfl) (by simp) lg
      rw [show vals 34 = .bool false from hR 34 lg] at fg
      have l0 := on_of hd 35 (by kernel_rfl)
      have f0 := hF.at (s := 123) (i := 35) (by kernel_rfl) (by simp) l0
      rw [show vals 35 = .agg (nw 9 f) from hR 35 l0] at f0
      have l1 := on_of hd 36 (by kernel_rfl)
      have f1 := hF.at (s := 124) (i := 36) (by kernel_rfl) (by simp) l1
      rw [show vals 36 = .agg (nw 9 x) from hR 36 l1] at f1
      refine Or.inl ⟨wanted_at (j := 34) (s := 122) rfl rfl rfl fg, ?_⟩
      exact wp_val (.bool true) (by simp [go_sem, f0, f1, e4]) ⟨_, rfl, Gr.refl _, rfl⟩
    · obtain rfl := Option.some.inj ho
      have lg := on_of hd 30 (by kernel_rfl)
      have fg := hF.at (s := 118) (i := 30) (by kernel_rfl) (by simp) lg
      rw [show vals 30 = .bool true from hR 30 lg] at fg
      have l0 := on_of hd 34 (by kernel_rfl)
      have f0 := hF.at (s := 122) (i := 34) (by kernel_rfl) (by simp) l0
      rw [show vals 34 = .bool false from hR 34 l0] at f0
      have l1 := on_of hd 37 (by kernel_rfl)
      have f1 := hF.at (s := 125) (i := 37) (by kernel_rfl) (by simp) l1
      rw [show vals 37 = .bool true from hR 37 l1] at f1
      refine Or.inl ⟨wanted_at (j := 30) (s := 118) rfl rfl rfl fg, ?_⟩
      exact wp_val (.bool true) (by simp [go_sem, f0, f1]) ⟨_, rfl, Gr.refl _, rfl⟩
    · obtain rfl := Option.some.inj ho
      have l0 := on_of hd 30 (by kernel_rfl)
      have f0 := hF.at (s := 118) (i := 30) (by kernel_rfl) (by simp) l0
      rw [show vals 30 = .bool true from hR 30 l0] at f0
      have l1 := on_of hd 38 (by kernel_rfl)
      have f1 := hF.at (s := 126) (i := 38) (by kernel_rfl) (by simp) l1
      rw [show vals 38 = .bool true from hR 38 l1] at f1
      refine Or.inl ⟨wanted_no rfl, ?_⟩
      exact wp_val (.bool true) (by simp [go_sem, f0, f1]) ⟨_, rfl, Gr.refl _, rfl⟩
    · obtain rfl := Option.some.inj ho
      have l0 := on_of hd 39 (by kernel_rfl)
      have f0 := hF.at (s := 127) (i := 39) (by kernel_rfl) (by simp) l0
      rw [show vals 39 = .bool true from hR 39 l0] at f0
      refine Or.inl ⟨wanted_no rfl, ?_⟩
      exact wp_val (.bool true) (by simp [go_sem, f0]) ⟨_, rfl, Gr.refl _, rfl⟩
  case hf =>
    intro vals v hg hR
    have x0 : vals 0 = .int .i64 0 := hR 0 (by simp)
    have x1 : vals 1 = .int .i64 0 := hR 1 (by simp)
    have x2 : vals 2 = .bool true := hR 2 (by simp)
    have x3 : vals 3 = .bool true := hR 3 (by simp)
    have x4 : vals 4 = .int .i64 0 := hR 4 (by simp)
    have x5 : vals 5 = .int .i64 0 := hR 5 (by simp)
    have x6 : vals 6 = .bool true := hR 6 (by simp)
    have x7 : vals 7 = .bool true := hR 7 (by simp)
    have x8 : vals 8 = .bool true := hR 8 (by simp)
    have x9 : vals 9 = .int .i64 0 := hR 9 (by simp)
    have x10 : vals 10 = .int .i64 0 := hR 10 (by simp)
    have x11 : vals 11 = .bool true := hR 11 (by simp)
    have x12 : vals 12 = .bool true := hR 12 (by simp)
    have x13 : vals 13 = .bool true := hR 13 (by simp)
    have x14 : vals 14 = .int .i64 0 := hR 14 (by simp)
    have x15 : vals 15 = .int .i64 0 := hR 15 (by simp)
    have x16 : vals 16 = .bool true := hR 16 (by simp)
    have x17 : vals 17 = .bool true := hR 17 (by simp)
    have x18 : vals 18 = .bool true := hR 18 (by simp)
    have x19 : vals 19 = .agg (nw 9 1) := hR 19 (by simp)
    have x20 : vals 20 = .agg (nw 9 1) := hR 20 (by simp)
    have x21 : vals 21 = .bool true := hR 21 (by simp)
    have x22 : vals 22 = .bool true := hR 22 (by simp)
    have x23 : vals 23 = .bool true := hR 23 (by simp)
    have x24 : vals 24 = .pointer (some ⟨e10, 0, none⟩) := hR 24 (by simp)
    have x25 : vals 25 = .pointer (some ⟨e10, 0, none⟩) := hR 25 (by simp)
    have x26 : vals 26 = .int .u64 ((wd s 0 : Nat) : Int) := hR 26 (by simp)
    have x27 : vals 27 = .int .u64 0 := hR 27 (by simp)
    have x28 : vals 28 = .bool true := hR 28 (by simp)
    have x29 : vals 29 = .bool true := hR 29 (by simp)
    have x30 : vals 30 = .bool true := hR 30 (by simp)
    have x31 : vals 31 = .agg (nw 9 s) := hR 31 (by simp)
    have x32 : vals 32 = .agg (nw 9 x) := hR 32 (by simp)
    have x33 : vals 33 = .bool false := hR 33 (by simp)
    have x34 : vals 34 = .bool false := hR 34 (by simp)
    have x35 : vals 35 = .agg (nw 9 f) := hR 35 (by simp)
    have x36 : vals 36 = .agg (nw 9 x) := hR 36 (by simp)
    have x37 : vals 37 = .bool true := hR 37 (by simp)
    have x38 : vals 38 = .bool true := hR 38 (by simp)
    have x39 : vals 39 = .bool true := hR 39 (by simp)
    have x40 : vals 40 = .bool true := hR 40 (by simp)
    simp only [putFrom, Act.put, List.setIfInBounds_toArray, List.set_cons_zero, List.set_cons_succ, x0, x1, x2, x3, x4, x5, x6, x7, x8, x9, x10, x11, x12, x13, x14, x15, x16, x17, x18, x19, x20, x21, x22, x23, x24, x25, x26, x27, x28, x29, x30, x31, x32, x33, x34, x35, x36, x37, x38, x39, x40]
    clear hR x0 x1 x2 x3 x4 x5 x6 x7 x8 x9 x10 x11 x12 x13 x14 x15 x16 x17 x18 x19 x20 x21 x22 x23 x24 x25 x26 x27 x28 x29 x30 x31 x32 x33 x34 x35 x36 x37 x38 x39 x40
    have HG : Gr w v := G.trans hg
    clear hg
    go_wp2_with fail
    go_ret
    exact ⟨rfl, HG⟩
theorem fsquares_any (id : Int) (a : Nat) (ha : a < M) (w : World) :
    Calls Try.prog 6 #[.int .i64 id, .agg (nw 9 a)] w fun e w' => e = .returned (.bool true) ∧ Gr w w' := by
  obtain ⟨h1, h2⟩ := idx_bd id
  by_cases hx : a % pN (idx id) = 0
  · exact fsq_0 id (idx id) a rfl h1 h2 ha hx w
  · by_cases hs : sqR (idx id) (a % pN (idx id) * (a % pN (idx id)) % pN (idx id)) = a % pN (idx id)
    · exact fsq_same id (idx id) a rfl h1 h2 ha hx hs w
    · exact fsq_other id (idx id) a rfl h1 h2 ha hx hs w

end Go.Proofs.Ytkmpholjlophpaa
