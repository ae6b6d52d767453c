/-
  The statement FieldFermat, walked: it answers true for every id and every number.
-/
import Derived.Test.YtkmpholjlophpaaZFAw
import Derived.Test.YtkmpholjlophpaaZFL
import Derived.Test.YtkmpholjlophpaaZPC
namespace Go.Proofs.Ytkmpholjlophpaa
open Go.RowKit
attribute [local go_sem ↓] loadNat_is loadArr_is loadWide_is loadArrW_is storeNat_is storeWide_is
attribute [local go_sem] loadNat loadArr loadWide loadArrW storeNat storeWide idxArr fold9 fold18 nw_size nw_elem pre_self pre_1 pre_2 pre_3 pre_4 pre_5 pre_6 pre_7 pre_8 pre_9 pre_10 pre_11 pre_12 pre_13 pre_14 pre_15 pre_16 pre_17 pre_18 pre_19 pre_20 pre_21 pre_22 pre_23 pre_24 pre_25 pre_26 pre_27 pre_28 pre_29 pre_30 pre_31 pre_32 pre_33 pre_34 pre_35 pre_36 pre_37 pre_38 pre_39 pre_40 gro_size gro_drew gro_drewN drew_gro drewN_gro gro_gro blk_gro frz_gro blk_drew frz_drew blk_drewN frz_drewN blk_alloc_at frz_alloc_at blk_alloc frz_alloc cell_gro frozen_gro cell_alloc_pre frozen_alloc_pre setCell_drewN alloc_drewN setBlk_drew setBlk_drewN setBlk_alloc_at setBlk_alloc setBlk_gro setCell_gro setCell_alloc_pre size_setBlk size_setCell
attribute [local go_sem] nw_ext9 nw_ext18 eqArr9 eqArr18

attribute [local go_sem] loadNat2 loadArr2 loadWide2 loadK_nw ppre_1 ppre_2 ppre_3 ppre_4 ppre_5 ppre_6 ppre_7 ppre_8 ppre_9 ppre_10 ppre_11 ppre_12 ppre_13 ppre_14 ppre_15 ppre_16 ppre_17 ppre_18 ppre_19 ppre_20

attribute [local go_sem ↓] loadC_is storeC_is Go.wp_at_zero Go.wp_at_succ
attribute [local go_sem] eqN_self loadC storeCv cvA_size frz_setBlk blk_setBlk setBlk_setBlk blk_other
set_option maxRecDepth 100000 in
set_option maxHeartbeats 4000000 in
theorem ffermat_0 (id : Int) (k a : Nat) (h1 : 1 ≤ k) (h2 : k ≤ 15) (ha : a < M) (hz : a % pN k = 0)
    (HO : ∀ w, Calls Try.prog 34 #[.int .i64 id] w fun e w' => ∃ p n q, e = .returned (.tuple #[.agg (cvA k p (dl (pN k)) n q), .agg (nw 9 (pN k))]) ∧ Sl w' p (pN k) ∧ Gr w w') (w : World) :
    Calls Try.prog 7 #[.int .i64 id, .agg (nw 9 a)] w fun e w' => e = .returned (.bool true) ∧ Gr w w' := by
  have hB := pN_bd k h1 h2
  have hdl := pN_dl k h1 h2
  have hprm := prm_pN k h1 h2
  obtain ⟨m, hm⟩ : ∃ m, pN k = m := ⟨_, rfl⟩
  have FA := fun a b ha hb w => fAdd_ok k a b h1 h2 ha hb w
  have FSu := fun a b ha hb w => fSub_ok k a b h1 h2 ha hb w
  have FR := fun W hW w => fReduce_ok k W h1 h2 hW w
  have FM := fun a b ha hb w => fMul_ok k a b h1 h2 ha hb w
  have FI := fun a h0 ha hg => fInv_ok k a h1 h2 h0 ha hg
  have FZ := fun w => fInv_zero k h1 h2 w
  rw [hm] at hB hdl hprm FA FSu FR FM FI HO
  obtain ⟨x, hx⟩ : ∃ x, a % m = x := ⟨_, rfl⟩
  have hxm : x < m := by rw [← hx]; exact Nat.mod_lt _ (by omega)
  have e1 : eqN 9 x 0 = true := by rw [show x = 0 by rw [← hx, ← hm]; exact hz]; exact eqN_self 9 0
  have B1 : Hid (∀ (p : Option Addr) (n : Nat) (q : Nat → Option Addr × Nat × Nat) w', Sl w' p m → Calls Try.prog 32 #[.agg (cvA k p (dl m) n q), .agg (nw 9 a)] w' fun e w'' => e = .returned (.agg (nw 9 x)) ∧ Gr w' w'') := fun p n q w' h => hx ▸ below_any k m a n p q (by omega) hdl ha w' h
  have HO' : Hid (∀ w, Calls Try.prog 34 #[.int .i64 id] w fun e w' => ∃ p n q, e = .returned (.tuple #[.agg (cvA k p (dl m) n q), .agg (nw 9 m)]) ∧ Sl w' p m ∧ Gr w w') := HO
  clear HO FA FSu FR FM FI FZ hprm hB hdl hm h1 h2 hx hxm ha hz
  go_enter Try.func7, Try.ntmps7
  go_upto_region 3 with (go_at_call 19; refine (awake5_any _).mono ?_; rintro e w' ⟨rfl, gaw, rfl⟩)
  refine gen_w (fun v => Hid (Gr w v ∧ Cl v w.heap.size a)) ⟨(by repeat (first | exact Gr.refl _ | apply Gr.drewN | apply Gr.drew | apply Gr.alloc | apply Gr.gro)), ⟨by simp [go_sem], by simp [go_sem], by simp [go_sem]⟩⟩ ?_
  intro v0 HV
  go_cut [5, 6] from 20 to 24 (fun a0 a1 wx => ∃ (e5 e6 : Nat) (p : Option Addr) (n : Nat) (q : Nat → Option Addr × Nat × Nat), a0 = .pointer (some ⟨e5, 0, none⟩) ∧ a1 = .pointer (some ⟨e6, 0, none⟩) ∧ Hid (Gr w wx ∧ Cl wx w.heap.size a ∧ Cv wx e5 k p (dl m) n q ∧ Cl wx e6 m ∧ Sl wx p m))
  case first =>
    have ⟨G, c0⟩ := HV.out
    go_wp2_with (go_at_call 34; refine (HO'.out _).mono ?_; rintro e W1 ⟨p, n, q, rfl, S1, G1⟩)
    go_meet
    exact ⟨_, _, p, n, q, rfl, rfl, G.trans (G1.trans (by repeat (first | exact Gr.refl _ | apply Gr.drewN | apply Gr.drew | apply Gr.alloc | apply Gr.gro))), c0.gr (G1.trans (by repeat (first | exact Gr.refl _ | apply Gr.drewN | apply Gr.drew | apply Gr.alloc | apply Gr.gro))), ⟨by simp [go_sem], by simp [go_sem], by simp [go_sem]⟩, ⟨by simp [go_sem], by simp [go_sem], by simp [go_sem]⟩, S1.gr (by repeat (first | exact Gr.refl _ | apply Gr.drewN | apply Gr.drew | apply Gr.alloc | apply Gr.gro))⟩
  clear HV
  obtain ⟨e5, e6, p, n, q, rfl, rfl, HV⟩ := hcut
  go_upto_region 4 with fail
  go_cut [7] from 25 to 27 (fun a0 wx => ∃ e7 : Nat, a0 = .pointer (some ⟨e7, 0, none⟩) ∧ Hid (Gr w wx ∧ Cl wx (w.heap.size) a ∧ Cv wx e5 k p (dl m) n q ∧ Cl wx e6 m ∧ Cl wx e7 x ∧ Sl wx p m))
  case first =>
    have ⟨G, c_w_heap_size, c_e5, c_e6, S_p⟩ := HV.out
    have ⟨hc_w_heap_size, fc_w_heap_size, pc_w_heap_size⟩ := c_w_heap_size
    have ⟨hc_e5, fc_e5, pc_e5⟩ := c_e5
    have h0c_e5 := (c_e5).at0
    have h1c_e5 := (c_e5).at1
    have ⟨hc_e6, fc_e6, pc_e6⟩ := c_e6
    go_wp2_with (first
        | (go_at_call_of 32 ((#[.agg (cvA k p (dl m) n q), .agg (nw 9 a)] : Array Value)); refine (B1.out p n q _ (S_p.gr (by repeat (first | exact Gr.refl _ | apply Gr.drewN | apply Gr.drew | apply Gr.alloc | apply Gr.gro)))).mono ?_; rintro e w' ⟨rfl, g1, rfl⟩)
        | (go_at_call 18; refine (num_any _ _).mono ?_; rintro e w' ⟨rfl, rfl⟩))
    go_meet
    exact ⟨_, rfl, G.trans (by repeat (first | exact Gr.refl _ | apply Gr.drewN | apply Gr.drew | apply Gr.alloc | apply Gr.gro)), c_w_heap_size.gr (by repeat (first | exact Gr.refl _ | apply Gr.drewN | apply Gr.drew | apply Gr.alloc | apply Gr.gro)), c_e5.gr (by repeat (first | exact Gr.refl _ | apply Gr.drewN | apply Gr.drew | apply Gr.alloc | apply Gr.gro)), c_e6.gr (by repeat (first | exact Gr.refl _ | apply Gr.drewN | apply Gr.drew | apply Gr.alloc | apply Gr.gro)), ⟨by simp [go_sem], by simp [go_sem], by simp [go_sem]⟩, S_p.gr (by repeat (first | exact Gr.refl _ | apply Gr.drewN | apply Gr.drew | apply Gr.alloc | apply Gr.gro))⟩
  clear HV
  obtain ⟨e7, rfl, HV⟩ := hcut
  have ⟨G, c_w_heap_size, c_e5, c_e6, c_e7, S_p⟩ := HV.out
  have ⟨hc_w_heap_size, fc_w_heap_size, pc_w_heap_size⟩ := c_w_heap_size
  have ⟨hc_e5, fc_e5, pc_e5⟩ := c_e5
  have h0c_e5 := (c_e5).at0
  have h1c_e5 := (c_e5).at1
  have ⟨hc_e6, fc_e6, pc_e6⟩ := c_e6
  have ⟨hc_e7, fc_e7, pc_e7⟩ := c_e7
  clear HV
  go_wp2_with fail
  go_ret
  exact ⟨rfl, by repeat (first | exact G | apply Gr.drewN | apply Gr.drew)⟩
set_option maxRecDepth 100000 in
set_option maxHeartbeats 4000000 in
theorem ffermat_x (id : Int) (k a : Nat) (h1 : 1 ≤ k) (h2 : k ≤ 15) (ha : a < M) (hz : a % pN k ≠ 0)
    (HO : ∀ w, Calls Try.prog 34 #[.int .i64 id] w fun e w' => ∃ p n q, e = .returned (.tuple #[.agg (cvA k p (dl (pN k)) n q), .agg (nw 9 (pN k))]) ∧ Sl w' p (pN k) ∧ Gr w w') (w : World) :
    Calls Try.prog 7 #[.int .i64 id, .agg (nw 9 a)] w fun e w' => e = .returned (.bool true) ∧ Gr w w' := by
  have hB := pN_bd k h1 h2
  have hdl := pN_dl k h1 h2
  have hprm := prm_pN k h1 h2
  obtain ⟨m, hm⟩ : ∃ m, pN k = m := ⟨_, rfl⟩
  have FA := fun a b ha hb w => fAdd_ok k a b h1 h2 ha hb w
  have FSu := fun a b ha hb w => fSub_ok k a b h1 h2 ha hb w
  have FR := fun W hW w => fReduce_ok k W h1 h2 hW w
  have FM := fun a b ha hb w => fMul_ok k a b h1 h2 ha hb w
  have FI := fun a h0 ha hg => fInv_ok k a h1 h2 h0 ha hg
  have FZ := fun w => fInv_zero k h1 h2 w
  rw [hm] at hB hdl hprm FA FSu FR FM FI HO
  obtain ⟨x, hx⟩ : ∃ x, a % m = x := ⟨_, rfl⟩
  have hxm : x < m := by rw [← hx]; exact Nat.mod_lt _ (by omega)
  have hx0 : x ≠ 0 := by rw [← hx, ← hm]; exact hz
  have e1 : eqN 9 x 0 = false := eqN_no x 0 (by omega) M_pos hx0
  have h2m : 2 ≤ m := by omega
  obtain ⟨f, hf⟩ : ∃ f, f + 1 = m := ⟨m - 1, by omega⟩
  obtain ⟨g, hgg⟩ : ∃ g, g + 2 = m := ⟨m - 2, by omega⟩
  have hf1 : x ^ f % m = 1 := by
    have := hprm.fermat (a := x) (fun d => by have := Nat.le_of_dvd (by omega) d; omega)
    rw [show m - 1 = f by omega] at this
    exact this
  obtain ⟨r, him, hi, ci⟩ := FI x (by omega) hxm (hprm.cop fun d => by have := Nat.le_of_dvd (by omega) d; omega)
  have hgi : x ^ g % m = r := by
    refine inv_one x m _ r (Nat.mod_lt _ (by omega)) him ?_ hi
    rw [Nat.mul_mod, Nat.mod_mod, ← Nat.mul_mod, Nat.mul_comm, ← Nat.pow_succ, show g.succ = f by omega]
    exact hf1
  have B1 : Hid (∀ (p : Option Addr) (n : Nat) (q : Nat → Option Addr × Nat × Nat) w', Sl w' p m → Calls Try.prog 32 #[.agg (cvA k p (dl m) n q), .agg (nw 9 a)] w' fun e w'' => e = .returned (.agg (nw 9 x)) ∧ Gr w' w'') := fun p n q w' h => hx ▸ below_any k m a n p q (by omega) hdl ha w' h
  have O1 : Hid (∀ w', Calls Try.prog 33 #[.int .u64 1] w' fun e w'' => e = .returned (.agg (nw 9 1)) ∧ Gr w' w'') := fun w => one_any 1 (by decide) w
  have O2 : Hid (∀ w', Calls Try.prog 33 #[.int .u64 2] w' fun e w'' => e = .returned (.agg (nw 9 2)) ∧ Gr w' w'') := fun w => one_any 2 (by decide) w
  have D1 : Hid (∀ w', Calls Try.prog 35 #[.agg (nw 9 m), .agg (nw 9 1)] w' fun e w'' => e = .returned (.tuple #[.agg (nw 9 f), .bool false]) ∧ Gr w' w'') := fun w => by
    have := sub_any m 1 (by omega) (lt_M 1 (by decide)) w
    rw [show m + M - 1 = f + M by omega, Nat.add_mod_right, Nat.mod_eq_of_lt (show f < M by omega), decide_eq_false (by omega)] at this
    exact this
  have D2 : Hid (∀ w', Calls Try.prog 35 #[.agg (nw 9 m), .agg (nw 9 2)] w' fun e w'' => e = .returned (.tuple #[.agg (nw 9 g), .bool false]) ∧ Gr w' w'') := fun w => by
    have := sub_any m 2 (by omega) (lt_M 2 (by decide)) w
    rw [show m + M - 2 = g + M by omega, Nat.add_mod_right, Nat.mod_eq_of_lt (show g < M by omega), decide_eq_false (by omega)] at this
    exact this
  have P1 : Hid (∀ w', Calls Try.prog 36 #[.agg (nw 9 x), .agg (nw 9 f), .agg (nw 9 m)] w' fun e w'' => e = .returned (.tuple #[.agg (nw 9 1), .int .i64 0]) ∧ Gr w' w'') := fun w => by
    have := pow_any x f m (by omega) (by omega) (by omega) (by omega) w
    rw [hf1] at this
    exact this
  have P2 : Hid (∀ w', Calls Try.prog 36 #[.agg (nw 9 x), .agg (nw 9 g), .agg (nw 9 m)] w' fun e w'' => e = .returned (.tuple #[.agg (nw 9 r), .int .i64 0]) ∧ Gr w' w'') := fun w => by
    have := pow_any x g m (by omega) (by omega) (by omega) (by omega) w
    rw [hgi] at this
    exact this
  have I1 : Hid (∀ w', Calls Try.prog 28 #[.int .i64 k, .agg (nw 9 x)] w' fun e w'' => e = .returned (.tuple #[.agg (nw 9 r), .int .i64 0]) ∧ Gr w' w'') := ci
  have HO' : Hid (∀ w, Calls Try.prog 34 #[.int .i64 id] w fun e w' => ∃ p n q, e = .returned (.tuple #[.agg (cvA k p (dl m) n q), .agg (nw 9 m)]) ∧ Sl w' p m ∧ Gr w w') := HO
  clear HO FA FSu FR FM FI FZ hprm hB hdl hm h1 h2 hx hxm ha hz hx0 h2m hf hgg hf1 him hi ci hgi
  go_enter Try.func7, Try.ntmps7
  go_upto_region 3 with (go_at_call 19; refine (awake5_any _).mono ?_; rintro e w' ⟨rfl, gaw, rfl⟩)
  refine gen_w (fun v => Hid (Gr w v ∧ Cl v w.heap.size a)) ⟨(by repeat (first | exact Gr.refl _ | apply Gr.drewN | apply Gr.drew | apply Gr.alloc | apply Gr.gro)), ⟨by simp [go_sem], by simp [go_sem], by simp [go_sem]⟩⟩ ?_
  intro v0 HV
  go_cut [5, 6] from 20 to 24 (fun a0 a1 wx => ∃ (e5 e6 : Nat) (p : Option Addr) (n : Nat) (q : Nat → Option Addr × Nat × Nat), a0 = .pointer (some ⟨e5, 0, none⟩) ∧ a1 = .pointer (some ⟨e6, 0, none⟩) ∧ Hid (Gr w wx ∧ Cl wx w.heap.size a ∧ Cv wx e5 k p (dl m) n q ∧ Cl wx e6 m ∧ Sl wx p m))
  case first =>
    have ⟨G, c0⟩ := HV.out
    go_wp2_with (go_at_call 34; refine (HO'.out _).mono ?_; rintro e W1 ⟨p, n, q, rfl, S1, G1⟩)
    go_meet
    exact ⟨_, _, p, n, q, rfl, rfl, G.trans (G1.trans (by repeat (first | exact Gr.refl _ | apply Gr.drewN | apply Gr.drew | apply Gr.alloc | apply Gr.gro))), c0.gr (G1.trans (by repeat (first | exact Gr.refl _ | apply Gr.drewN | apply Gr.drew | apply Gr.alloc | apply Gr.gro))), ⟨by simp [go_sem], by simp [go_sem], by simp [go_sem]⟩, ⟨by simp [go_sem], by simp [go_sem], by simp [go_sem]⟩, S1.gr (by repeat (first | exact Gr.refl _ | apply Gr.drewN | apply Gr.drew | apply Gr.alloc | apply Gr.gro))⟩
  clear HV
  obtain ⟨e5, e6, p, n, q, rfl, rfl, HV⟩ := hcut
  go_upto_region 4 with fail
  go_cut [7] from 25 to 27 (fun a0 wx => ∃ e7 : Nat, a0 = .pointer (some ⟨e7, 0, none⟩) ∧ Hid (Gr w wx ∧ Cl wx (w.heap.size) a ∧ Cv wx e5 k p (dl m) n q ∧ Cl wx e6 m ∧ Cl wx e7 x ∧ Sl wx p m))
  case first =>
    have ⟨G, c_w_heap_size, c_e5, c_e6, S_p⟩ := HV.out
    have ⟨hc_w_heap_size, fc_w_heap_size, pc_w_heap_size⟩ := c_w_heap_size
    have ⟨hc_e5, fc_e5, pc_e5⟩ := c_e5
    have h0c_e5 := (c_e5).at0
    have h1c_e5 := (c_e5).at1
    have ⟨hc_e6, fc_e6, pc_e6⟩ := c_e6
    go_wp2_with (first
        | (go_at_call_of 32 ((#[.agg (cvA k p (dl m) n q), .agg (nw 9 a)] : Array Value)); refine (B1.out p n q _ (S_p.gr (by repeat (first | exact Gr.refl _ | apply Gr.drewN | apply Gr.drew | apply Gr.alloc | apply Gr.gro)))).mono ?_; rintro e w' ⟨rfl, g1, rfl⟩)
        | (go_at_call 18; refine (num_any _ _).mono ?_; rintro e w' ⟨rfl, rfl⟩))
    go_meet
    exact ⟨_, rfl, G.trans (by repeat (first | exact Gr.refl _ | apply Gr.drewN | apply Gr.drew | apply Gr.alloc | apply Gr.gro)), c_w_heap_size.gr (by repeat (first | exact Gr.refl _ | apply Gr.drewN | apply Gr.drew | apply Gr.alloc | apply Gr.gro)), c_e5.gr (by repeat (first | exact Gr.refl _ | apply Gr.drewN | apply Gr.drew | apply Gr.alloc | apply Gr.gro)), c_e6.gr (by repeat (first | exact Gr.refl _ | apply Gr.drewN | apply Gr.drew | apply Gr.alloc | apply Gr.gro)), ⟨by simp [go_sem], by simp [go_sem], by simp [go_sem]⟩, S_p.gr (by repeat (first | exact Gr.refl _ | apply Gr.drewN | apply Gr.drew | apply Gr.alloc | apply Gr.gro))⟩
  clear HV
  obtain ⟨e7, rfl, HV⟩ := hcut
  have ⟨G, c_w_heap_size, c_e5, c_e6, c_e7, S_p⟩ := HV.out
  have ⟨hc_w_heap_size, fc_w_heap_size, pc_w_heap_size⟩ := c_w_heap_size
  have ⟨hc_e5, fc_e5, pc_e5⟩ := c_e5
  have h0c_e5 := (c_e5).at0
  have h1c_e5 := (c_e5).at1
  have ⟨hc_e6, fc_e6, pc_e6⟩ := c_e6
  have ⟨hc_e7, fc_e7, pc_e7⟩ := c_e7
  go_upto_region 7 with (first
      | (go_at_call 18; refine (num_any _ _).mono ?_; rintro e w' ⟨rfl, rfl⟩))
  go_cut [8, 9] from 31 to 36 (fun a0 a1 wx => ∃ e8 : Nat, a0 = .pointer (some ⟨e8, 0, none⟩) ∧ a1 = .bool false ∧ Hid (Gr w wx ∧ Cl wx (w.heap.size) a ∧ Cv wx e5 k p (dl m) n q ∧ Cl wx e6 m ∧ Cl wx e7 x ∧ Cl wx e8 f ∧ Sl wx p m))
  case first =>
    have ⟨G, c_w_heap_size, c_e5, c_e6, c_e7, S_p⟩ := HV.out
    have ⟨hc_w_heap_size, fc_w_heap_size, pc_w_heap_size⟩ := c_w_heap_size
    have ⟨hc_e5, fc_e5, pc_e5⟩ := c_e5
    have h0c_e5 := (c_e5).at0
    have h1c_e5 := (c_e5).at1
    have ⟨hc_e6, fc_e6, pc_e6⟩ := c_e6
    have ⟨hc_e7, fc_e7, pc_e7⟩ := c_e7
    refine wp_region_mix (by kernel_rfl) (by kernel_rfl) (RG _ (fun i => match i with | 0 => some (.agg (nw 9 m)) | 1 => some (.agg (nw 9 1)) | 2 => some (.tuple #[.agg (nw 9 f), .bool false]) | 3 => some (.tuple #[.agg (nw 9 f), .bool false]) | 4 => some (.agg (nw 9 f)) | 5 => some (.bool false) | 8 => some (.bool false) | _ => none) (fun i => match i with | 6 => some (nw 9 0) | _ => none) (fun i => match i with | 6 => some (7, nw 9 f) | _ => none)) (RG.start _ _ _ _ _ _) ?hs ?hf
    case hs =>
      intro listed vals a1 v1 i o hz hR hF ho hl hd
      have hks : ∀ (j k : Nat) (r : Array Value), (match j with | 6 => some (7, nw 9 f) | _ => (none : Option (Nat × Array Value))) = some (k, r) → (j = 6 ∧ k = 7) := fun j k r h => by
        split at h <;> simp_all
      have Hc_w_heap_size : blk v1 (w.heap.size) = nw 9 a := (blk_of _ _ _ (hR.1.below.block (w.heap.size) (c_w_heap_size.p))).trans (c_w_heap_size.h)
      have Hc_e5 : blk v1 (e5) = cvA k p (dl m) n q := (blk_of _ _ _ (hR.1.below.block (e5) (c_e5.p))).trans (c_e5.h)
      have Hc_e6 : blk v1 (e6) = nw 9 m := (blk_of _ _ _ (hR.1.below.block (e6) (c_e6.p))).trans (c_e6.h)
      have Hc_e7 : blk v1 (e7) = nw 9 x := (blk_of _ _ _ (hR.1.below.block (e7) (c_e7.p))).trans (c_e7.h)
      have hi : i < 9 := by simpa using (Array.getElem?_eq_some_iff.1 ho).1
      have hil : i < listed.size := by rw [hz]; simpa using hi
      obtain rfl | rfl | rfl | rfl | rfl | rfl | rfl | rfl | rfl : i = 0 ∨ i = 1 ∨ i = 2 ∨ i = 3 ∨ i = 4 ∨ i = 5 ∨ i = 6 ∨ i = 7 ∨ i = 8 := by omega
      · obtain rfl := Option.some.inj ho
        have f0 := hF.old (s := 6) (v := .pointer (some ⟨e6, 0, none⟩)) (by kernel_rfl) rfl
        exact wp_val (.agg (nw 9 m)) (by simp [go_sem, f0, Hc_e6]) ⟨_, rfl, RG.quiet 0 _ hil rfl rfl (fun j k r h => by have := hks j k r h; omega) (Gr.refl _) hR⟩
      · obtain rfl := Option.some.inj ho
        exact wp_ret (.agg (nw 9 1)) (by simp [go_sem]) (O1.out _) (fun w2 hg => ⟨_, rfl, RG.quiet 1 _ hil rfl rfl (fun j k r h => by have := hks j k r h; omega) hg hR⟩)
      · obtain rfl := Option.some.inj ho
        have l0 := hd ⟨0, .data⟩ (by simp) rfl
        have f0 := hF.at (s := 32) (i := 0) (by kernel_rfl) (by simp) l0
        rw [hR.2.1 0 _ l0 rfl] at f0
        have l1 := hd ⟨1, .data⟩ (by simp) rfl
        have f1 := hF.at (s := 33) (i := 1) (by kernel_rfl) (by simp) l1
        rw [hR.2.1 1 _ l1 rfl] at f1
        exact wp_ret (.tuple #[.agg (nw 9 f), .bool false]) (by simp [go_sem, f0, f1]) (D1.out _) (fun w2 hg => ⟨_, rfl, RG.quiet 2 _ hil rfl rfl (fun j k r h => by have := hks j k r h; omega) hg hR⟩)
      · obtain rfl := Option.some.inj ho
        have l0 := hd ⟨2, .data⟩ (by simp) rfl
        have f0 := hF.at (s := 34) (i := 2) (by kernel_rfl) (by simp) l0
        rw [hR.2.1 2 _ l0 rfl] at f0
        exact wp_val (.tuple #[.agg (nw 9 f), .bool false]) (by simp [go_sem, f0]) ⟨_, rfl, RG.quiet 3 _ hil rfl rfl (fun j k r h => by have := hks j k r h; omega) (Gr.refl _) hR⟩
      · obtain rfl := Option.some.inj ho
        have l0 := hd ⟨3, .data⟩ (by simp) rfl
        have f0 := hF.at (s := 31) (i := 3) (by kernel_rfl) (by simp) l0
        rw [hR.2.1 3 _ l0 rfl] at f0
        exact wp_val (.agg (nw 9 f)) (by simp [go_sem, f0]) ⟨_, rfl, RG.quiet 4 _ hil rfl rfl (fun j k r h => by have := hks j k r h; omega) (Gr.refl _) hR⟩
      · obtain rfl := Option.some.inj ho
        have l0 := hd ⟨3, .data⟩ (by simp) rfl
        have f0 := hF.at (s := 31) (i := 3) (by kernel_rfl) (by simp) l0
        rw [hR.2.1 3 _ l0 rfl] at f0
        exact wp_val (.bool false) (by simp [go_sem, f0]) ⟨_, rfl, RG.quiet 5 _ hil rfl rfl (fun j k r h => by have := hks j k r h; omega) (Gr.refl _) hR⟩
      · obtain rfl := Option.some.inj ho
        exact wp_val (.pointer (some ⟨v1.heap.size, 0, none⟩)) (w' := v1.alloc (.cells (nw 9 0) 25)) (by simp [go_sem]) ⟨_, rfl, RG.alloc 6 (nw 9 0) 25 hil hl rfl rfl (fun j k r h => by have := hks j k r h; omega) hR⟩
      · obtain rfl := Option.some.inj ho
        have l0 := hd ⟨6, .data⟩ (by simp) rfl
        have l1 := hd ⟨4, .data⟩ (by simp) rfl
        obtain ⟨B, h4, h5⟩ := hR.2.2.2
        obtain ⟨e1, e2, e3, e4, e5⟩ := h4 6 (nw 9 0) l0 rfl
        simp only [hl] at e5
        replace e5 : blk v1 (B 6) = nw 9 0 := e5
        have f0 := hF.at (s := 8) (i := 6) (by kernel_rfl) (by simp) l0
        rw [e1] at f0
        have f1 := hF.at (s := 35) (i := 4) (by kernel_rfl) (by simp) l1
        rw [hR.2.1 4 _ l1 rfl] at f1
        exact wp_skip (w' := setBlk v1 (B 6) (nw 9 f)) (by simp [go_sem, f0, f1, e4, e5]) ⟨undef, rfl, RG.store 7 6 (nw 9 0) (nw 9 f) (B 6) hil hl rfl rfl rfl l0 rfl (by rw [nw_size]; decide) e1 (fun k r h => by have := hks k _ r h; omega) hR⟩
      · obtain rfl := Option.some.inj ho
        have l0 := hd ⟨5, .data⟩ (by simp) rfl
        have f0 := hF.at (s := 36) (i := 5) (by kernel_rfl) (by simp) l0
        rw [hR.2.1 5 _ l0 rfl] at f0
        exact wp_val (.bool false) (by simp [go_sem, f0]) ⟨_, rfl, RG.quiet 8 _ hil rfl rfl (fun j k r h => by have := hks j k r h; omega) (Gr.refl _) hR⟩
    case hf =>
      intro listed vals a1 v1 hall hR hF
      have Hc_w_heap_size : blk v1 (w.heap.size) = nw 9 a := (blk_of _ _ _ (hR.1.below.block (w.heap.size) (c_w_heap_size.p))).trans (c_w_heap_size.h)
      have pHc_w_heap_size : Pre (w.heap.size + 1) v1.heap.size := Nat.le_trans (show w.heap.size + 1 ≤ _ from c_w_heap_size.p) hR.1.below.size
      have Hc_e5 : blk v1 (e5) = cvA k p (dl m) n q := (blk_of _ _ _ (hR.1.below.block (e5) (c_e5.p))).trans (c_e5.h)
      have pHc_e5 : Pre (e5 + 1) v1.heap.size := Nat.le_trans (show e5 + 1 ≤ _ from c_e5.p) hR.1.below.size
      have Hc_e6 : blk v1 (e6) = nw 9 m := (blk_of _ _ _ (hR.1.below.block (e6) (c_e6.p))).trans (c_e6.h)
      have pHc_e6 : Pre (e6 + 1) v1.heap.size := Nat.le_trans (show e6 + 1 ≤ _ from c_e6.p) hR.1.below.size
      have Hc_e7 : blk v1 (e7) = nw 9 x := (blk_of _ _ _ (hR.1.below.block (e7) (c_e7.p))).trans (c_e7.h)
      have pHc_e7 : Pre (e7 + 1) v1.heap.size := Nat.le_trans (show e7 + 1 ≤ _ from c_e7.p) hR.1.below.size
      have hV := hR.2.1
      obtain ⟨B, h4, h5⟩ := hR.2.2.2
      have x0 := hV 0 _ (hall 0 (by simp)) rfl
      have x1 := hV 1 _ (hall 1 (by simp)) rfl
      have x2 := hV 2 _ (hall 2 (by simp)) rfl
      have x3 := hV 3 _ (hall 3 (by simp)) rfl
      have x4 := hV 4 _ (hall 4 (by simp)) rfl
      have x5 := hV 5 _ (hall 5 (by simp)) rfl
      have x8 := hV 8 _ (hall 8 (by simp)) rfl
      obtain ⟨x6, q6, p6, z6, y6⟩ := h4 6 _ (hall 6 (by simp)) rfl
      simp only [hall 7 (by simp), if_true] at y6
      replace p6 : Pre (B 6 + 1) v1.heap.size := p6
      replace y6 : blk v1 (B 6) = nw 9 f := y6
      have hb1 := hR.1
      rw [hF.final (by kernel_rfl) hall]
      simp only [putFrom, Act.put, List.setIfInBounds_toArray, List.set_cons_zero, List.set_cons_succ, x0, x1, x2, x3, x4, x5, x8, x6]
      generalize B 6 = b6 at *
      clear hV h4 h5 hR hF hall x0 x1 x2 x3 x4 x5 x8 x6
      go_wp2_with fail
      go_meet
      exact ⟨b6, rfl, rfl, G.trans hb1, c_w_heap_size.gr hb1, c_e5.gr hb1, c_e6.gr hb1, c_e7.gr hb1, ⟨y6, z6, p6⟩, S_p.gr hb1⟩
  clear HV
  obtain ⟨e8, rfl, rfl, HV⟩ := hcut
  go_upto_region 8 with fail
  go_cut [10, 11] from 37 to 42 (fun a0 a1 wx => ∃ e10 : Nat, a0 = .pointer (some ⟨e10, 0, none⟩) ∧ a1 = .bool false ∧ Hid (Gr w wx ∧ Cl wx (w.heap.size) a ∧ Cv wx e5 k p (dl m) n q ∧ Cl wx e6 m ∧ Cl wx e7 x ∧ Cl wx e8 f ∧ Cl wx e10 g ∧ Sl wx p m))
  case first =>
    have ⟨G, c_w_heap_size, c_e5, c_e6, c_e7, c_e8, S_p⟩ := HV.out
    have ⟨hc_w_heap_size, fc_w_heap_size, pc_w_heap_size⟩ := c_w_heap_size
    have ⟨hc_e5, fc_e5, pc_e5⟩ := c_e5
    have h0c_e5 := (c_e5).at0
    have h1c_e5 := (c_e5).at1
    have ⟨hc_e6, fc_e6, pc_e6⟩ := c_e6
    have ⟨hc_e7, fc_e7, pc_e7⟩ := c_e7
    have ⟨hc_e8, fc_e8, pc_e8⟩ := c_e8
    refine wp_region_mix (by kernel_rfl) (by kernel_rfl) (RG _ (fun i => match i with | 0 => some (.agg (nw 9 m)) | 1 => some (.agg (nw 9 2)) | 2 => some (.tuple #[.agg (nw 9 g), .bool false]) | 3 => some (.tuple #[.agg (nw 9 g), .bool false]) | 4 => some (.agg (nw 9 g)) | 5 => some (.bool false) | 8 => some (.bool false) | _ => none) (fun i => match i with | 6 => some (nw 9 0) | _ => none) (fun i => match i with | 6 => some (7, nw 9 g) | _ => none)) (RG.start _ _ _ _ _ _) ?hs ?hf
    case hs =>
      intro listed vals a1 v1 i o hz hR hF ho hl hd
      have hks : ∀ (j k : Nat) (r : Array Value), (match j with | 6 => some (7, nw 9 g) | _ => (none : Option (Nat × Array Value))) = some (k, r) → (j = 6 ∧ k = 7) := fun j k r h => by
        split at h <;> simp_all
      have Hc_w_heap_size : blk v1 (w.heap.size) = nw 9 a := (blk_of _ _ _ (hR.1.below.block (w.heap.size) (c_w_heap_size.p))).trans (c_w_heap_size.h)
      have Hc_e5 : blk v1 (e5) = cvA k p (dl m) n q := (blk_of _ _ _ (hR.1.below.block (e5) (c_e5.p))).trans (c_e5.h)
      have Hc_e6 : blk v1 (e6) = nw 9 m := (blk_of _ _ _ (hR.1.below.block (e6) (c_e6.p))).trans (c_e6.h)
      have Hc_e7 : blk v1 (e7) = nw 9 x := (blk_of _ _ _ (hR.1.below.block (e7) (c_e7.p))).trans (c_e7.h)
      have Hc_e8 : blk v1 (e8) = nw 9 f := (blk_of _ _ _ (hR.1.below.block (e8) (c_e8.p))).trans (c_e8.h)
      have hi : i < 9 := by simpa using (Array.getElem?_eq_some_iff.1 ho).1
      have hil : i < listed.size := by rw [hz]; simpa using hi
      obtain rfl | rfl | rfl | rfl | rfl | rfl | rfl | rfl | rfl : i = 0 ∨ i = 1 ∨ i = 2 ∨ i = 3 ∨ i = 4 ∨ i = 5 ∨ i = 6 ∨ i = 7 ∨ i = 8 := by omega
      · obtain rfl := Option.some.inj ho
        have f0 := hF.old (s := 6) (v := .pointer (some ⟨e6, 0, none⟩)) (by kernel_rfl) rfl
        exact wp_val (.agg (nw 9 m)) (by simp [go_sem, f0, Hc_e6]) ⟨_, rfl, RG.quiet 0 _ hil rfl rfl (fun j k r h => by have := hks j k r h; omega) (Gr.refl _) hR⟩
      · obtain rfl := Option.some.inj ho
        exact wp_ret (.agg (nw 9 2)) (by simp [go_sem]) (O2.out _) (fun w2 hg => ⟨_, rfl, RG.quiet 1 _ hil rfl rfl (fun j k r h => by have := hks j k r h; omega) hg hR⟩)
      · obtain rfl := Option.some.inj ho
        have l0 := hd ⟨0, .data⟩ (by simp) rfl
        have f0 := hF.at (s := 38) (i := 0) (by kernel_rfl) (by simp) l0
        rw [hR.2.1 0 _ l0 rfl] at f0
        have l1 := hd ⟨1, .data⟩ (by simp) rfl
        have f1 := hF.at (s := 39) (i := 1) (by kernel_rfl) (by simp) l1
        rw [hR.2.1 1 _ l1 rfl] at f1
        exact wp_ret (.tuple #[.agg (nw 9 g), .bool false]) (by simp [go_sem, f0, f1]) (D2.out _) (fun w2 hg => ⟨_, rfl, RG.quiet 2 _ hil rfl rfl (fun j k r h => by have := hks j k r h; omega) hg hR⟩)
      · obtain rfl := Option.some.inj ho
        have l0 := hd ⟨2, .data⟩ (by simp) rfl
        have f0 := hF.at (s := 40) (i := 2) (by kernel_rfl) (by simp) l0
        rw [hR.2.1 2 _ l0 rfl] at f0
        exact wp_val (.tuple #[.agg (nw 9 g), .bool false]) (by simp [go_sem, f0]) ⟨_, rfl, RG.quiet 3 _ hil rfl rfl (fun j k r h => by have := hks j k r h; omega) (Gr.refl _) hR⟩
      · obtain rfl := Option.some.inj ho
        have l0 := hd ⟨3, .data⟩ (by simp) rfl
        have f0 := hF.at (s := 37) (i := 3) (by kernel_rfl) (by simp) l0
        rw [hR.2.1 3 _ l0 rfl] at f0
        exact wp_val (.agg (nw 9 g)) (by simp [go_sem, f0]) ⟨_, rfl, RG.quiet 4 _ hil rfl rfl (fun j k r h => by have := hks j k r h; omega) (Gr.refl _) hR⟩
      · obtain rfl := Option.some.inj ho
        have l0 := hd ⟨3, .data⟩ (by simp) rfl
        have f0 := hF.at (s := 37) (i := 3) (by kernel_rfl) (by simp) l0
        rw [hR.2.1 3 _ l0 rfl] at f0
        exact wp_val (.bool false) (by simp [go_sem, f0]) ⟨_, rfl, RG.quiet 5 _ hil rfl rfl (fun j k r h => by have := hks j k r h; omega) (Gr.refl _) hR⟩
      · obtain rfl := Option.some.inj ho
        exact wp_val (.pointer (some ⟨v1.heap.size, 0, none⟩)) (w' := v1.alloc (.cells (nw 9 0) 25)) (by simp [go_sem]) ⟨_, rfl, RG.alloc 6 (nw 9 0) 25 hil hl rfl rfl (fun j k r h => by have := hks j k r h; omega) hR⟩
      · obtain rfl := Option.some.inj ho
        have l0 := hd ⟨6, .data⟩ (by simp) rfl
        have l1 := hd ⟨4, .data⟩ (by simp) rfl
        obtain ⟨B, h4, h5⟩ := hR.2.2.2
        obtain ⟨e1, e2, e3, e4, e5⟩ := h4 6 (nw 9 0) l0 rfl
        simp only [hl] at e5
        replace e5 : blk v1 (B 6) = nw 9 0 := e5
        have f0 := hF.at (s := 10) (i := 6) (by kernel_rfl) (by simp) l0
        rw [e1] at f0
        have f1 := hF.at (s := 41) (i := 4) (by kernel_rfl) (by simp) l1
        rw [hR.2.1 4 _ l1 rfl] at f1
        exact wp_skip (w' := setBlk v1 (B 6) (nw 9 g)) (by simp [go_sem, f0, f1, e4, e5]) ⟨undef, rfl, RG.store 7 6 (nw 9 0) (nw 9 g) (B 6) hil hl rfl rfl rfl l0 rfl (by rw [nw_size]; decide) e1 (fun k r h => by have := hks k _ r h; omega) hR⟩
      · obtain rfl := Option.some.inj ho
        have l0 := hd ⟨5, .data⟩ (by simp) rfl
        have f0 := hF.at (s := 42) (i := 5) (by kernel_rfl) (by simp) l0
        rw [hR.2.1 5 _ l0 rfl] at f0
        exact wp_val (.bool false) (by simp [go_sem, f0]) ⟨_, rfl, RG.quiet 8 _ hil rfl rfl (fun j k r h => by have := hks j k r h; omega) (Gr.refl _) hR⟩
    case hf =>
      intro listed vals a1 v1 hall hR hF
      have Hc_w_heap_size : blk v1 (w.heap.size) = nw 9 a := (blk_of _ _ _ (hR.1.below.block (w.heap.size) (c_w_heap_size.p))).trans (c_w_heap_size.h)
      have pHc_w_heap_size : Pre (w.heap.size + 1) v1.heap.size := Nat.le_trans (show w.heap.size + 1 ≤ _ from c_w_heap_size.p) hR.1.below.size
      have Hc_e5 : blk v1 (e5) = cvA k p (dl m) n q := (blk_of _ _ _ (hR.1.below.block (e5) (c_e5.p))).trans (c_e5.h)
      have pHc_e5 : Pre (e5 + 1) v1.heap.size := Nat.le_trans (show e5 + 1 ≤ _ from c_e5.p) hR.1.below.size
      have Hc_e6 : blk v1 (e6) = nw 9 m := (blk_of _ _ _ (hR.1.below.block (e6) (c_e6.p))).trans (c_e6.h)
      have pHc_e6 : Pre (e6 + 1) v1.heap.size := Nat.le_trans (show e6 + 1 ≤ _ from c_e6.p) hR.1.below.size
      have Hc_e7 : blk v1 (e7) = nw 9 x := (blk_of _ _ _ (hR.1.below.block (e7) (c_e7.p))).trans (c_e7.h)
      have pHc_e7 : Pre (e7 + 1) v1.heap.size := Nat.le_trans (show e7 + 1 ≤ _ from c_e7.p) hR.1.below.size
      have Hc_e8 : blk v1 (e8) = nw 9 f := (blk_of _ _ _ (hR.1.below.block (e8) (c_e8.p))).trans (c_e8.h)
      have pHc_e8 : Pre (e8 + 1) v1.heap.size := Nat.le_trans (show e8 + 1 ≤ _ from c_e8.p) hR.1.below.size
      have hV := hR.2.1
      obtain ⟨B, h4, h5⟩ := hR.2.2.2
      have x0 := hV 0 _ (hall 0 (by simp)) rfl
      have x1 := hV 1 _ (hall 1 (by simp)) rfl
      have x2 := hV 2 _ (hall 2 (by simp)) rfl
      have x3 := hV 3 _ (hall 3 (by simp)) rfl
      have x4 := hV 4 _ (hall 4 (by simp)) rfl
      have x5 := hV 5 _ (hall 5 (by simp)) rfl
      have x8 := hV 8 _ (hall 8 (by simp)) rfl
      obtain ⟨x6, q6, p6, z6, y6⟩ := h4 6 _ (hall 6 (by simp)) rfl
      simp only [hall 7 (by simp), if_true] at y6
      replace p6 : Pre (B 6 + 1) v1.heap.size := p6
      replace y6 : blk v1 (B 6) = nw 9 g := y6
      have hb1 := hR.1
      rw [hF.final (by kernel_rfl) hall]
      simp only [putFrom, Act.put, List.setIfInBounds_toArray, List.set_cons_zero, List.set_cons_succ, x0, x1, x2, x3, x4, x5, x8, x6]
      generalize B 6 = b6 at *
      clear hV h4 h5 hR hF hall x0 x1 x2 x3 x4 x5 x8 x6
      go_wp2_with fail
      go_meet
      exact ⟨b6, rfl, rfl, G.trans hb1, c_w_heap_size.gr hb1, c_e5.gr hb1, c_e6.gr hb1, c_e7.gr hb1, c_e8.gr hb1, ⟨y6, z6, p6⟩, S_p.gr hb1⟩
  clear HV
  obtain ⟨e10, rfl, rfl, HV⟩ := hcut
  go_upto_region 9 with fail
  go_cut [12, 13] from 43 to 49 (fun a0 a1 wx => ∃ e12 : Nat, a0 = .pointer (some ⟨e12, 0, none⟩) ∧ a1 = .int .i64 0 ∧ Hid (Gr w wx ∧ Cl wx (w.heap.size) a ∧ Cv wx e5 k p (dl m) n q ∧ Cl wx e6 m ∧ Cl wx e7 x ∧ Cl wx e8 f ∧ Cl wx e10 g ∧ Cl wx e12 1 ∧ Sl wx p m))
  case first =>
    have ⟨G, c_w_heap_size, c_e5, c_e6, c_e7, c_e8, c_e10, S_p⟩ := HV.out
    have ⟨hc_w_heap_size, fc_w_heap_size, pc_w_heap_size⟩ := c_w_heap_size
    have ⟨hc_e5, fc_e5, pc_e5⟩ := c_e5
    have h0c_e5 := (c_e5).at0
    have h1c_e5 := (c_e5).at1
    have ⟨hc_e6, fc_e6, pc_e6⟩ := c_e6
    have ⟨hc_e7, fc_e7, pc_e7⟩ := c_e7
    have ⟨hc_e8, fc_e8, pc_e8⟩ := c_e8
    have ⟨hc_e10, fc_e10, pc_e10⟩ := c_e10
    go_wp2_with (first
        | (go_at_call_of 36 ((#[.agg (nw 9 x), .agg (nw 9 f), .agg (nw 9 m)] : Array Value)); refine (P1.out _).mono ?_; rintro e w' ⟨rfl, g2, rfl⟩)
        | (go_at_call 18; refine (num_any _ _).mono ?_; rintro e w' ⟨rfl, rfl⟩))
    go_meet
    exact ⟨_, rfl, rfl, G.trans (by repeat (first | exact Gr.refl _ | apply Gr.drewN | apply Gr.drew | apply Gr.alloc | apply Gr.gro)), c_w_heap_size.gr (by repeat (first | exact Gr.refl _ | apply Gr.drewN | apply Gr.drew | apply Gr.alloc | apply Gr.gro)), c_e5.gr (by repeat (first | exact Gr.refl _ | apply Gr.drewN | apply Gr.drew | apply Gr.alloc | apply Gr.gro)), c_e6.gr (by repeat (first | exact Gr.refl _ | apply Gr.drewN | apply Gr.drew | apply Gr.alloc | apply Gr.gro)), c_e7.gr (by repeat (first | exact Gr.refl _ | apply Gr.drewN | apply Gr.drew | apply Gr.alloc | apply Gr.gro)), c_e8.gr (by repeat (first | exact Gr.refl _ | apply Gr.drewN | apply Gr.drew | apply Gr.alloc | apply Gr.gro)), c_e10.gr (by repeat (first | exact Gr.refl _ | apply Gr.drewN | apply Gr.drew | apply Gr.alloc | apply Gr.gro)), ⟨by simp [go_sem], by simp [go_sem], by simp [go_sem]⟩, S_p.gr (by repeat (first | exact Gr.refl _ | apply Gr.drewN | apply Gr.drew | apply Gr.alloc | apply Gr.gro))⟩
  clear HV
  obtain ⟨e12, rfl, rfl, HV⟩ := hcut
  go_upto_region 10 with fail
  go_cut [14, 15] from 50 to 56 (fun a0 a1 wx => ∃ e14 : Nat, a0 = .pointer (some ⟨e14, 0, none⟩) ∧ a1 = .int .i64 0 ∧ Hid (Gr w wx ∧ Cl wx (w.heap.size) a ∧ Cv wx e5 k p (dl m) n q ∧ Cl wx e6 m ∧ Cl wx e7 x ∧ Cl wx e8 f ∧ Cl wx e10 g ∧ Cl wx e12 1 ∧ Cl wx e14 r ∧ Sl wx p m))
  case first =>
    have ⟨G, c_w_heap_size, c_e5, c_e6, c_e7, c_e8, c_e10, c_e12, S_p⟩ := HV.out
    have ⟨hc_w_heap_size, fc_w_heap_size, pc_w_heap_size⟩ := c_w_heap_size
    have ⟨hc_e5, fc_e5, pc_e5⟩ := c_e5
    have h0c_e5 := (c_e5).at0
    have h1c_e5 := (c_e5).at1
    have ⟨hc_e6, fc_e6, pc_e6⟩ := c_e6
    have ⟨hc_e7, fc_e7, pc_e7⟩ := c_e7
    have ⟨hc_e8, fc_e8, pc_e8⟩ := c_e8
    have ⟨hc_e10, fc_e10, pc_e10⟩ := c_e10
    have ⟨hc_e12, fc_e12, pc_e12⟩ := c_e12
    go_wp2_with (first
        | (go_at_call_of 36 ((#[.agg (nw 9 x), .agg (nw 9 g), .agg (nw 9 m)] : Array Value)); refine (P2.out _).mono ?_; rintro e w' ⟨rfl, g3, rfl⟩)
        | (go_at_call 18; refine (num_any _ _).mono ?_; rintro e w' ⟨rfl, rfl⟩))
    go_meet
    exact ⟨_, rfl, rfl, G.trans (by repeat (first | exact Gr.refl _ | apply Gr.drewN | apply Gr.drew | apply Gr.alloc | apply Gr.gro)), c_w_heap_size.gr (by repeat (first | exact Gr.refl _ | apply Gr.drewN | apply Gr.drew | apply Gr.alloc | apply Gr.gro)), c_e5.gr (by repeat (first | exact Gr.refl _ | apply Gr.drewN | apply Gr.drew | apply Gr.alloc | apply Gr.gro)), c_e6.gr (by repeat (first | exact Gr.refl _ | apply Gr.drewN | apply Gr.drew | apply Gr.alloc | apply Gr.gro)), c_e7.gr (by repeat (first | exact Gr.refl _ | apply Gr.drewN | apply Gr.drew | apply Gr.alloc | apply Gr.gro)), c_e8.gr (by repeat (first | exact Gr.refl _ | apply Gr.drewN | apply Gr.drew | apply Gr.alloc | apply Gr.gro)), c_e10.gr (by repeat (first | exact Gr.refl _ | apply Gr.drewN | apply Gr.drew | apply Gr.alloc | apply Gr.gro)), c_e12.gr (by repeat (first | exact Gr.refl _ | apply Gr.drewN | apply Gr.drew | apply Gr.alloc | apply Gr.gro)), ⟨by simp [go_sem], by simp [go_sem], by simp [go_sem]⟩, S_p.gr (by repeat (first | exact Gr.refl _ | apply Gr.drewN | apply Gr.drew | apply Gr.alloc | apply Gr.gro))⟩
  clear HV
  obtain ⟨e14, rfl, rfl, HV⟩ := hcut
  go_upto_region 11 with fail
  go_cut [16, 17] from 57 to 63 (fun a0 a1 wx => ∃ e16 : Nat, a0 = .pointer (some ⟨e16, 0, none⟩) ∧ a1 = .int .i64 0 ∧ Hid (Gr w wx ∧ Cl wx (w.heap.size) a ∧ Cv wx e5 k p (dl m) n q ∧ Cl wx e6 m ∧ Cl wx e7 x ∧ Cl wx e8 f ∧ Cl wx e10 g ∧ Cl wx e12 1 ∧ Cl wx e14 r ∧ Cl wx e16 r ∧ Sl wx p m))
  case first =>
    have ⟨G, c_w_heap_size, c_e5, c_e6, c_e7, c_e8, c_e10, c_e12, c_e14, S_p⟩ := HV.out
    have ⟨hc_w_heap_size, fc_w_heap_size, pc_w_heap_size⟩ := c_w_heap_size
    have ⟨hc_e5, fc_e5, pc_e5⟩ := c_e5
    have h0c_e5 := (c_e5).at0
    have h1c_e5 := (c_e5).at1
    have ⟨hc_e6, fc_e6, pc_e6⟩ := c_e6
    have ⟨hc_e7, fc_e7, pc_e7⟩ := c_e7
    have ⟨hc_e8, fc_e8, pc_e8⟩ := c_e8
    have ⟨hc_e10, fc_e10, pc_e10⟩ := c_e10
    have ⟨hc_e12, fc_e12, pc_e12⟩ := c_e12
    have ⟨hc_e14, fc_e14, pc_e14⟩ := c_e14
    go_wp2_with (first
        | (go_at_call_of 28 ((#[.int .i64 k, .agg (nw 9 x)] : Array Value)); refine (I1.out _).mono ?_; rintro e w' ⟨rfl, g4, rfl⟩)
        | (go_at_call 18; refine (num_any _ _).mono ?_; rintro e w' ⟨rfl, rfl⟩))
    go_meet
    exact ⟨_, rfl, rfl, G.trans (by repeat (first | exact Gr.refl _ | apply Gr.drewN | apply Gr.drew | apply Gr.alloc | apply Gr.gro)), c_w_heap_size.gr (by repeat (first | exact Gr.refl _ | apply Gr.drewN | apply Gr.drew | apply Gr.alloc | apply Gr.gro)), c_e5.gr (by repeat (first | exact Gr.refl _ | apply Gr.drewN | apply Gr.drew | apply Gr.alloc | apply Gr.gro)), c_e6.gr (by repeat (first | exact Gr.refl _ | apply Gr.drewN | apply Gr.drew | apply Gr.alloc | apply Gr.gro)), c_e7.gr (by repeat (first | exact Gr.refl _ | apply Gr.drewN | apply Gr.drew | apply Gr.alloc | apply Gr.gro)), c_e8.gr (by repeat (first | exact Gr.refl _ | apply Gr.drewN | apply Gr.drew | apply Gr.alloc | apply Gr.gro)), c_e10.gr (by repeat (first | exact Gr.refl _ | apply Gr.drewN | apply Gr.drew | apply Gr.alloc | apply Gr.gro)), c_e12.gr (by repeat (first | exact Gr.refl _ | apply Gr.drewN | apply Gr.drew | apply Gr.alloc | apply Gr.gro)), c_e14.gr (by repeat (first | exact Gr.refl _ | apply Gr.drewN | apply Gr.drew | apply Gr.alloc | apply Gr.gro)), ⟨by simp [go_sem], by simp [go_sem], by simp [go_sem]⟩, S_p.gr (by repeat (first | exact Gr.refl _ | apply Gr.drewN | apply Gr.drew | apply Gr.alloc | apply Gr.gro))⟩
  clear HV
  obtain ⟨e16, rfl, rfl, HV⟩ := hcut
  go_upto_region 12 with fail
  obtain ⟨G, c_w_heap_size, c_e5, c_e6, c_e7, c_e8, c_e10, c_e12, c_e14, c_e16, S_p⟩ := HV.out
  refine wp_region_pred (by kernel_rfl) (by kernel_rfl) [.c (.int .i64 0), .c (.int .i64 0), .c (.bool true), .c (.bool true), .c (.int .i64 0), .c (.int .i64 0), .c (.bool true), .c (.bool true), .c (.bool true), .c (.int .i64 0), .c (.int .i64 0), .c (.bool true), .c (.bool true), .c (.bool true), .c (.agg (nw 9 1)), .c (.agg (nw 9 1)), .c (.bool true), .c (.bool true), .c (.bool true), .c (.agg (nw 9 r)), .c (.agg (nw 9 r)), .c (.bool true), .c (.bool true), .c (.bool true)] ?hs ?hf
  case hs =>
    intro listed vals a1 v i o hg hR hF ho hd
    have Hc_w_heap_size : blk v (w.heap.size) = nw 9 a := (hg.blk _ c_w_heap_size.p).trans c_w_heap_size.h
    have Hc_e5 : blk v e5 = cvA k p (dl m) n q := (hg.blk _ c_e5.p).trans c_e5.h
    have Hc_e6 : blk v e6 = nw 9 m := (hg.blk _ c_e6.p).trans c_e6.h
    have Hc_e7 : blk v e7 = nw 9 x := (hg.blk _ c_e7.p).trans c_e7.h
    have Hc_e8 : blk v e8 = nw 9 f := (hg.blk _ c_e8.p).trans c_e8.h
    have Hc_e10 : blk v e10 = nw 9 g := (hg.blk _ c_e10.p).trans c_e10.h
    have Hc_e12 : blk v e12 = nw 9 1 := (hg.blk _ c_e12.p).trans c_e12.h
    have Hc_e14 : blk v e14 = nw 9 r := (hg.blk _ c_e14.p).trans c_e14.h
    have Hc_e16 : blk v e16 = nw 9 r := (hg.blk _ c_e16.p).trans c_e16.h
    have hi : i < 24 := by simpa using (Array.getElem?_eq_some_iff.1 ho).1
    obtain rfl | rfl | rfl | rfl | rfl | rfl | rfl | rfl | rfl | rfl | rfl | rfl | rfl | rfl | rfl | rfl | rfl | rfl | rfl | rfl | rfl | rfl | rfl | rfl : i = 0 ∨ i = 1 ∨ i = 2 ∨ i = 3 ∨ i = 4 ∨ i = 5 ∨ i = 6 ∨ i = 7 ∨ i = 8 ∨ i = 9 ∨ i = 10 ∨ i = 11 ∨ i = 12 ∨ i = 13 ∨ i = 14 ∨ i = 15 ∨ i = 16 ∨ i = 17 ∨ i = 18 ∨ i = 19 ∨ i = 20 ∨ i = 21 ∨ i = 22 ∨ i = 23 := by omega
    · obtain rfl := Option.some.inj ho
      have f0 := hF.old (s := 13) (v := .int .i64 0) (by kernel_rfl) rfl
      refine Or.inl ⟨wanted_no rfl, ?_⟩
      exact wp_val (.int .i64 0) (by simp [go_sem, f0]) ⟨_, rfl, Gr.refl _, rfl⟩
    · obtain rfl := Option.some.inj ho
      have l0 := on_of hd 0 (by kernel_rfl)
      have f0 := hF.at (s := 64) (i := 0) (by kernel_rfl) (by simp) l0
      rw [show vals 0 = .int .i64 0 from hR 0 l0] at f0
      refine Or.inl ⟨wanted_no rfl, ?_⟩
      exact wp_ret (.int .i64 0) (by simp [go_sem, f0]) (num5_gr _ _) (fun w2 hg2 => ⟨_, rfl, hg2, rfl⟩)
    · obtain rfl := Option.some.inj ho
      have l0 := on_of hd 1 (by kernel_rfl)
      have f0 := hF.at (s := 65) (i := 1) (by kernel_rfl) (by simp) l0
      rw [show vals 1 = .int .i64 0 from hR 1 l0] at f0
      refine Or.inl ⟨wanted_no rfl, ?_⟩
      exact wp_val (.bool true) (by simp [go_sem, f0]) ⟨_, rfl, Gr.refl _, rfl⟩
    · obtain rfl := Option.some.inj ho
      have l0 := on_of hd 2 (by kernel_rfl)
      have f0 := hF.at (s := 66) (i := 2) (by kernel_rfl) (by simp) l0
      rw [show vals 2 = .bool true from hR 2 l0] at f0
      refine Or.inl ⟨wanted_no rfl, ?_⟩
      exact wp_val (.bool true) (by simp [go_sem, f0]) ⟨_, rfl, Gr.refl _, rfl⟩
    · obtain rfl := Option.some.inj ho
      have lg := on_of hd 3 (by kernel_rfl)
      have fg := hF.at (s := 67) (i := 3) (by kernel_rfl) (by simp) lg
      rw [show vals 3 = .bool true from hR 3 lg] at fg
      have f0 := hF.old (s := 15) (v := .int .i64 0) (by kernel_rfl) rfl
      refine Or.inl ⟨wanted_at (j := 3) (s := 67) rfl rfl rfl fg, ?_⟩
      exact wp_val (.int .i64 0) (by simp [go_sem, f0]) ⟨_, rfl, Gr.refl _, rfl⟩
    · obtain rfl := Option.some.inj ho
      have lg := on_of hd 3 (by kernel_rfl)
      have fg := hF.at (s := 67) (i := 3) (by kernel_rfl) (by simp) lg
      rw [show vals 3 = .bool true from hR 3 lg] at fg
      have l0 := on_of hd 4 (by kernel_rfl)
      have f0 := hF.at (s := 68) (i := 4) (by kernel_rfl) (by simp) l0
      rw [show vals 4 = .int .i64 0 from hR 4 l0] at f0
      refine Or.inl ⟨wanted_at (j := 3) (s := 67) rfl rfl rfl fg, ?_⟩
      exact wp_ret (.int .i64 0) (by simp [go_sem, f0]) (num5_gr _ _) (fun w2 hg2 => ⟨_, rfl, hg2, rfl⟩)
    · obtain rfl := Option.some.inj ho
      have lg := on_of hd 3 (by kernel_rfl)
      have fg := hF.at (s := 67) (i := 3) (by kernel_rfl) (by simp) lg
      rw [show vals 3 = .bool true from hR 3 lg] at fg
      have l0 := on_of hd 5 (by kernel_rfl)
      have f0 := hF.at (s := 69) (i := 5) (by kernel_rfl) (by simp) l0
      rw [show vals 5 = .int .i64 0 from hR 5 l0] at f0
      refine Or.inl ⟨wanted_at (j := 3) (s := 67) rfl rfl rfl fg, ?_⟩
      exact wp_val (.bool true) (by simp [go_sem, f0]) ⟨_, rfl, Gr.refl _, rfl⟩
    · obtain rfl := Option.some.inj ho
      have l0 := on_of hd 3 (by kernel_rfl)
      have f0 := hF.at (s := 67) (i := 3) (by kernel_rfl) (by simp) l0
      rw [show vals 3 = .bool true from hR 3 l0] at f0
      have l1 := on_of hd 6 (by kernel_rfl)
      have f1 := hF.at (s := 70) (i := 6) (by kernel_rfl) (by simp) l1
      rw [show vals 6 = .bool true from hR 6 l1] at f1
      refine Or.inl ⟨wanted_no rfl, ?_⟩
      exact wp_val (.bool true) (by simp [go_sem, f0, f1]) ⟨_, rfl, Gr.refl _, rfl⟩
    · obtain rfl := Option.some.inj ho
      have l0 := on_of hd 7 (by kernel_rfl)
      have f0 := hF.at (s := 71) (i := 7) (by kernel_rfl) (by simp) l0
      rw [show vals 7 = .bool true from hR 7 l0] at f0
      refine Or.inl ⟨wanted_no rfl, ?_⟩
      exact wp_val (.bool true) (by simp [go_sem, f0]) ⟨_, rfl, Gr.refl _, rfl⟩
    · obtain rfl := Option.some.inj ho
      have lg := on_of hd 8 (by kernel_rfl)
      have fg := hF.at (s := 72) (i := 8) (by kernel_rfl) (by simp) lg
      rw [show vals 8 = .bool true from hR 8 lg] at fg
      have f0 := hF.old (s := 17) (v := .int .i64 0) (by kernel_rfl) rfl
      refine Or.inl ⟨wanted_at (j := 8) (s := 72) rfl rfl rfl fg, ?_⟩
      exact wp_val (.int .i64 0) (by simp [go_sem, f0]) ⟨_, rfl, Gr.refl _, rfl⟩
    · obtain rfl := Option.some.inj ho
      have lg := on_of hd 8 (by kernel_rfl)
      have fg := hF.at (s := 72) (i := 8) (by kernel_rfl) (by simp) lg
      rw [show vals 8 = .bool true from hR 8 lg] at fg
      have l0 := on_of hd 9 (by kernel_rfl)
      have f0 := hF.at (s := 73) (i := 9) (by kernel_rfl) (by simp) l0
      rw [show vals 9 = .int .i64 0 from hR 9 l0] at f0
      refine Or.inl ⟨wanted_at (j := 8) (s := 72) rfl rfl rfl fg, ?_⟩
      exact wp_ret (.int .i64 0) (by simp [go_sem, f0]) (num5_gr _ _) (fun w2 hg2 => ⟨_, rfl, hg2, rfl⟩)
    · obtain rfl := Option.some.inj ho
      have lg := on_of hd 8 (by kernel_rfl)
      have fg := hF.at (s := 72) (i := 8) (by kernel_rfl) (by simp) lg
      rw [show vals 8 = .bool true from hR 8 lg] at fg
      have l0 := on_of hd 10 (by kernel_rfl)
      have f0 := hF.at (s := 74) (i := 10) (by kernel_rfl) (by simp) l0
      rw [show vals 10 = .int .i64 0 from hR 10 l0] at f0
      refine Or.inl ⟨wanted_at (j := 8) (s := 72) rfl rfl rfl fg, ?_⟩
      exact wp_val (.bool true) (by simp [go_sem, f0]) ⟨_, rfl, Gr.refl _, rfl⟩
    · obtain rfl := Option.some.inj ho
      have l0 := on_of hd 8 (by kernel_rfl)
      have f0 := hF.at (s := 72) (i := 8) (by kernel_rfl) (by simp) l0
      rw [show vals 8 = .bool true from hR 8 l0] at f0
      have l1 := on_of hd 11 (by kernel_rfl)
      have f1 := hF.at (s := 75) (i := 11) (by kernel_rfl) (by simp) l1
      rw [show vals 11 = .bool true from hR 11 l1] at f1
      refine Or.inl ⟨wanted_no rfl, ?_⟩
      exact wp_val (.bool true) (by simp [go_sem, f0, f1]) ⟨_, rfl, Gr.refl _, rfl⟩
    · obtain rfl := Option.some.inj ho
      have l0 := on_of hd 12 (by kernel_rfl)
      have f0 := hF.at (s := 76) (i := 12) (by kernel_rfl) (by simp) l0
      rw [show vals 12 = .bool true from hR 12 l0] at f0
      refine Or.inl ⟨wanted_no rfl, ?_⟩
      exact wp_val (.bool true) (by simp [go_sem, f0]) ⟨_, rfl, Gr.refl _, rfl⟩
    · obtain rfl := Option.some.inj ho
      have lg := on_of hd 13 (by kernel_rfl)
      have fg := hF.at (s := 77) (i := 13) (by kernel_rfl) (by simp) lg
      rw [show vals 13 = .bool true from hR 13 lg] at fg
      have f0 := hF.old (s := 12) (v := .pointer (some ⟨e12, 0, none⟩)) (by kernel_rfl) rfl
      refine Or.inl ⟨wanted_at (j := 13) (s := 77) rfl rfl rfl fg, ?_⟩
      exact wp_val (.agg (nw 9 1)) (by simp [go_sem, f0, Hc_e12]) ⟨_, rfl, Gr.refl _, rfl⟩
    · obtain rfl := Option.some.inj ho
      have lg := on_of hd 13 (by kernel_rfl)
      have fg := hF.at (s := 77) (i := 13) (by kernel_rfl) (by simp) lg
      rw [show vals 13 = .bool true from hR 13 lg] at fg
      refine Or.inl ⟨wanted_at (j := 13) (s := 77) rfl rfl rfl fg, ?_⟩
      exact wp_ret (.agg (nw 9 1)) (by simp [go_sem]) (O1.out _) (fun w2 hg2 => ⟨_, rfl, hg2, rfl⟩)
    · obtain rfl := Option.some.inj ho
      have lg := on_of hd 13 (by kernel_rfl)
      have fg := hF.at (s := 77) (i := 13) (by kernel_rfl) (by simp) lg
      rw [show vals 13 = .bool true from hR 13 lg] at fg
      have l0 := on_of hd 14 (by kernel_rfl)
      have f0 := hF.at (s := 78) (i := 14) (by kernel_rfl) (by simp) l0
      rw [show vals 14 = .agg (nw 9 1) from hR 14 l0] at f0
      have l1 := on_of hd 15 (by kernel_rfl)
      have f1 := hF.at (s := 79) (i := 15) (by kernel_rfl) (by simp) l1
      rw [show vals 15 = .agg (nw 9 1) from hR 15 l1] at f1
      refine Or.inl ⟨wanted_at (j := 13) (s := 77) rfl rfl rfl fg, ?_⟩
      exact wp_val (.bool true) (by simp [go_sem, f0, f1]) ⟨_, rfl, Gr.refl _, rfl⟩
    · obtain rfl := Option.some.inj ho
      have l0 := on_of hd 13 (by kernel_rfl)
      have f0 := hF.at (s := 77) (i := 13) (by kernel_rfl) (by simp) l0
      rw [show vals 13 = .bool true from hR 13 l0] at f0
      have l1 := on_of hd 16 (by kernel_rfl)
      have f1 := hF.at (s := 80) (i := 16) (by kernel_rfl) (by simp) l1
      rw [show vals 16 = .bool true from hR 16 l1] at f1
      refine Or.inl ⟨wanted_no rfl, ?_⟩
      exact wp_val (.bool true) (by simp [go_sem, f0, f1]) ⟨_, rfl, Gr.refl _, rfl⟩
    · obtain rfl := Option.some.inj ho
      have l0 := on_of hd 17 (by kernel_rfl)
      have f0 := hF.at (s := 81) (i := 17) (by kernel_rfl) (by simp) l0
      rw [show vals 17 = .bool true from hR 17 l0] at f0
      refine Or.inl ⟨wanted_no rfl, ?_⟩
      exact wp_val (.bool true) (by simp [go_sem, f0]) ⟨_, rfl, Gr.refl _, rfl⟩
    · obtain rfl := Option.some.inj ho
      have lg := on_of hd 18 (by kernel_rfl)
      have fg := hF.at (s := 82) (i := 18) (by kernel_rfl) (by simp) lg
      rw [show vals 18 = .bool true from hR 18 lg] at fg
      have f0 := hF.old (s := 16) (v := .pointer (some ⟨e16, 0, none⟩)) (by kernel_rfl) rfl
      refine Or.inl ⟨wanted_at (j := 18) (s := 82) rfl rfl rfl fg, ?_⟩
      exact wp_val (.agg (nw 9 r)) (by simp [go_sem, f0, Hc_e16]) ⟨_, rfl, Gr.refl _, rfl⟩
    · obtain rfl := Option.some.inj ho
      have lg := on_of hd 18 (by kernel_rfl)
      have fg := hF.at (s := 82) (i := 18) (by kernel_rfl) (by simp) lg
      rw [show vals 18 = .bool true from hR 18 lg] at fg
      have f0 := hF.old (s := 14) (v := .pointer (some ⟨e14, 0, none⟩)) (by kernel_rfl) rfl
      refine Or.inl ⟨wanted_at (j := 18) (s := 82) rfl rfl rfl fg, ?_⟩
      exact wp_val (.agg (nw 9 r)) (by simp [go_sem, f0, Hc_e14]) ⟨_, rfl, Gr.refl _, rfl⟩
    · obtain rfl := Option.some.inj ho
      have lg := on_of hd 18 (by kernel_rfl)
      have fg := hF.at (s := 82) (i := 18) (by kernel_rfl) (by simp) lg
      rw [show vals 18 = .bool true from hR 18 lg] at fg
      have l0 := on_of hd 19 (by kernel_rfl)
      have f0 := hF.at (s := 83) (i := 19) (by kernel_rfl) (by simp) l0
      rw [show vals 19 = .agg (nw 9 r) from hR 19 l0] at f0
      have l1 := on_of hd 20 (by kernel_rfl)
      have f1 := hF.at (s := 84) (i := 20) (by kernel_rfl) (by simp) l1
      rw [show vals 20 = .agg (nw 9 r) from hR 20 l1] at f1
      refine Or.inl ⟨wanted_at (j := 18) (s := 82) rfl rfl rfl fg, ?_⟩
      exact wp_val (.bool true) (by simp [go_sem, f0, f1]) ⟨_, rfl, Gr.refl _, rfl⟩
    · obtain rfl := Option.some.inj ho
      have l0 := on_of hd 18 (by kernel_rfl)
      have f0 := hF.at (s := 82) (i := 18) (by kernel_rfl) (by simp) l0
      rw [show vals 18 = .bool true from hR 18 l0] at f0
      have l1 := on_of hd 21 (by kernel_rfl)
      have f1 := hF.at (s := 85) (i := 21) (by kernel_rfl) (by simp) l1
      rw [show vals 21 = .bool true from hR 21 l1] at f1
      refine Or.inl ⟨wanted_no rfl, ?_⟩
      exact wp_val (.bool true) (by simp [go_sem, f0, f1]) ⟨_, rfl, Gr.refl _, rfl⟩
    · obtain rfl := Option.some.inj ho
      have l0 := on_of hd 22 (by kernel_rfl)
      have f0 := hF.at (s := 86) (i := 22) (by kernel_rfl) (by simp) l0
      rw [show vals 22 = .bool true from hR 22 l0] at f0
      refine Or.inl ⟨wanted_no rfl, ?_⟩
      exact wp_val (.bool true) (by simp [go_sem, f0]) ⟨_, rfl, Gr.refl _, rfl⟩
  case hf =>
    intro vals v hg hR
    have x0 : vals 0 = .int .i64 0 := hR 0 (by simp)
    have x1 : vals 1 = .int .i64 0 := hR 1 (by simp)
    have x2 : vals 2 = .bool true := hR 2 (by simp)
    have x3 : vals 3 = .bool true := hR 3 (by simp)
    have x4 : vals 4 = .int .i64 0 := hR 4 (by simp)
    have x5 : vals 5 = .int .i64 0 := hR 5 (by simp)
    have x6 : vals 6 = .bool true := hR 6 (by simp)
    have x7 : vals 7 = .bool true := hR 7 (by simp)
    have x8 : vals 8 = .bool true := hR 8 (by simp)
    have x9 : vals 9 = .int .i64 0 := hR 9 (by simp)
    have x10 : vals 10 = .int .i64 0 := hR 10 (by simp)
    have x11 : vals 11 = .bool true := hR 11 (by simp)
    have x12 : vals 12 = .bool true := hR 12 (by simp)
    have x13 : vals 13 = .bool true := hR 13 (by simp)
    have x14 : vals 14 = .agg (nw 9 1) := hR 14 (by simp)
    have x15 : vals 15 = .agg (nw 9 1) := hR 15 (by simp)
    have x16 : vals 16 = .bool true := hR 16 (by simp)
    have x17 : vals 17 = .bool true := hR 17 (by simp)
    have x18 : vals 18 = .bool true := hR 18 (by simp)
    have x19 : vals 19 = .agg (nw 9 r) := hR 19 (by simp)
    have x20 : vals 20 = .agg (nw 9 r) := hR 20 (by simp)
    have x21 : vals 21 = .bool true := hR 21 (by simp)
    have x22 : vals 22 = .bool true := hR 22 (by simp)
    have x23 : vals 23 = .bool true := hR 23 (by simp)
    simp only [putFrom, Act.put, List.setIfInBounds_toArray, List.set_cons_zero, List.set_cons_succ, x0, x1, x2, x3, x4, x5, x6, x7, x8, x9, x10, x11, x12, x13, x14, x15, x16, x17, x18, x19, x20, x21, x22, x23]
    clear hR x0 x1 x2 x3 x4 x5 x6 x7 x8 x9 x10 x11 x12 x13 x14 x15 x16 x17 x18 x19 x20 x21 x22 x23
    have HG : Gr w v := G.trans hg
    clear hg
    go_wp2_with fail
    go_ret
    exact ⟨rfl, HG⟩
theorem ffermat_any (id : Int) (a : Nat) (ha : a < M) (w : World) :
    Calls Try.prog 7 #[.int .i64 id, .agg (nw 9 a)] w fun e w' => e = .returned (.bool true) ∧ Gr w w' := by
  by_cases hx : a % pN (idx id) = 0
  · exact ffermat_0 id (idx id) a (idx_bd id).1 (idx_bd id).2 ha hx (fun w => one5_any id w) w
  · exact ffermat_x id (idx id) a (idx_bd id).1 (idx_bd id).2 ha hx (fun w => one5_any id w) w

end Go.Proofs.Ytkmpholjlophpaa
