/-
  The statement FieldRoots, walked: there is no such curve; the number is not below P; it is 0.
-/
/-
  The statement FieldRoots, walked: the number has a root.
-/
/-
  The statement FieldRoots, walked: the number has no root.
-/
/-
  The statement FieldRoots, walked: it answers true for every id and every number.
-/
import Derived.Test.YtkmpholjlophpaaZFAw
import Derived.Test.YtkmpholjlophpaaZFL
import Derived.Test.YtkmpholjlophpaaZFRt
namespace Go.Proofs.Ytkmpholjlophpaa
open Go.RowKit
attribute [local go_sem ↓] loadNat_is loadArr_is loadWide_is loadArrW_is storeNat_is storeWide_is
attribute [local go_sem] loadNat loadArr loadWide loadArrW storeNat storeWide idxArr fold9 fold18 nw_size nw_elem pre_self pre_1 pre_2 pre_3 pre_4 pre_5 pre_6 pre_7 pre_8 pre_9 pre_10 pre_11 pre_12 pre_13 pre_14 pre_15 pre_16 pre_17 pre_18 pre_19 pre_20 pre_21 pre_22 pre_23 pre_24 pre_25 pre_26 pre_27 pre_28 pre_29 pre_30 pre_31 pre_32 pre_33 pre_34 pre_35 pre_36 pre_37 pre_38 pre_39 pre_40 gro_size gro_drew gro_drewN drew_gro drewN_gro gro_gro blk_gro frz_gro blk_drew frz_drew blk_drewN frz_drewN blk_alloc_at frz_alloc_at blk_alloc frz_alloc cell_gro frozen_gro cell_alloc_pre frozen_alloc_pre setCell_drewN alloc_drewN setBlk_drew setBlk_drewN setBlk_alloc_at setBlk_alloc setBlk_gro setCell_gro setCell_alloc_pre size_setBlk size_setCell
attribute [local go_sem] nw_ext9 nw_ext18 eqArr9 eqArr18

attribute [local go_sem] loadNat2 loadArr2 loadWide2 loadK_nw ppre_1 ppre_2 ppre_3 ppre_4 ppre_5 ppre_6 ppre_7 ppre_8 ppre_9 ppre_10 ppre_11 ppre_12 ppre_13 ppre_14 ppre_15 ppre_16 ppre_17 ppre_18 ppre_19 ppre_20

attribute [local go_sem ↓] loadC_is storeC_is Go.wp_at_zero Go.wp_at_succ
attribute [local go_sem] eqN_self loadC storeCv storeC0 cvA_size frz_setBlk blk_setBlk setBlk_setBlk blk_other
theorem sq_zero5 (k : Nat) : sqR k 0 = 0 ∧ sqE k 0 = 0 := by
  unfold sqR sqE
  rw [cN_zero]
  simp
set_option maxRecDepth 100000 in
set_option maxHeartbeats 4000000 in
theorem froots_no (id : Int) (a : Nat) (h : id < 1 ∨ 15 < id) (ha : a < M) (w : World) :
    Calls Try.prog 4 #[.int .i64 id, .agg (nw 9 a)] w fun e w' => e = .returned (.bool true) ∧ Gr w w' := by
  have AW : Hid (∀ w', Calls Try.prog 19 #[] w' fun e w'' => e = .returned (.bool true) ∧ Gr w' w'') := fun w => awake5_any w
  have I1 : Hid (∀ w', Calls Try.prog 28 #[.int .i64 id, .agg (nw 9 a)] w' fun e w'' => e = .returned (.tuple #[.agg (nw 9 0), .int .i64 500]) ∧ Gr w' w'') := fun w => fInv_no id h a w
  have Q1 : Hid (∀ w', Calls Try.prog 29 #[.int .i64 id, .agg (nw 9 a)] w' fun e w'' => e = .returned (.tuple #[.agg (nw 9 0), .int .i64 500]) ∧ Gr w' w'') := fun w => fSqrt_no id h a w
  have HG : Hid (∀ w, Calls Try.prog 13 #[.int .i64 id] w fun e w' => e = .returned (.tuple #[.agg #[.int .i64 0, .slice none 0 0, .slice none 0 0, .slice none 0 0, .slice none 0 0, .slice none 0 0, .slice none 0 0], .bool false]) ∧ Gr w w') := fun w => get_no id h w
  have HFa : Hid (∀ w, Calls Try.prog 23 #[.agg (nw 9 a)] w (Nm a w)) := fun w => from_any a ha w
  clear h ha
  go_enter Try.func4, Try.ntmps4
  go_upto_region 1 with fail
  refine gen_w (fun v => Hid (Gr w v ∧ Cl v w.heap.size a)) ⟨(by repeat (first | exact Gr.refl _ | apply Gr.drewN | apply Gr.drew | apply Gr.alloc | apply Gr.gro)), ⟨by simp [go_sem], by simp [go_sem], by simp [go_sem]⟩⟩ ?_
  intro v0 HV
  go_cut [5, 6] from 16 to 20 (fun _ a1 wx => a1 = .bool false ∧ Hid (Gr w wx ∧ Cl wx (w.heap.size) a))
  case first =>
    have ⟨G, c0⟩ := HV.out
    go_wp2_with (go_at_call 13; refine (HG.out _).mono ?_; rintro e w' ⟨rfl, gg, rfl⟩)
    go_meet
    exact ⟨rfl, G.trans (by repeat (first | exact Gr.refl _ | apply Gr.drewN | apply Gr.drew | apply Gr.alloc | apply Gr.gro)), c0.gr (by repeat (first | exact Gr.refl _ | apply Gr.drewN | apply Gr.drew | apply Gr.alloc | apply Gr.gro))⟩
  clear HV
  obtain ⟨rfl, HV⟩ := hcut
  go_upto_region 2 with fail
  go_cut [7, 8] from 21 to 26 (fun a0 a1 wx => ∃ e7 : Nat, a0 = .pointer (some ⟨e7, 0, none⟩) ∧ a1 = .int .i64 500 ∧ Hid (Gr w wx ∧ Cl wx (w.heap.size) a ∧ Cl wx e7 0))
  case first =>
    have ⟨G, c_w_heap_size⟩ := HV.out
    have ⟨hc_w_heap_size, fc_w_heap_size, pc_w_heap_size⟩ := c_w_heap_size
    go_wp2_with (first
        | (go_at_call_of 28 ((#[.int .i64 id, .agg (nw 9 a)] : Array Value)); refine (I1.out _).mono ?_; rintro e w' ⟨rfl, g1, rfl⟩)
        | (go_at_call 18; refine (num_any _ _).mono ?_; rintro e w' ⟨rfl, rfl⟩))
    go_meet
    exact ⟨_, rfl, rfl, G.trans (by repeat (first | exact Gr.refl _ | apply Gr.drewN | apply Gr.drew | apply Gr.alloc | apply Gr.gro)), c_w_heap_size.gr (by repeat (first | exact Gr.refl _ | apply Gr.drewN | apply Gr.drew | apply Gr.alloc | apply Gr.gro)), ⟨by simp [go_sem], by simp [go_sem], by simp [go_sem]⟩⟩
  clear HV
  obtain ⟨e7, rfl, rfl, HV⟩ := hcut
  go_upto_region 3 with fail
  go_cut [9, 10] from 27 to 32 (fun a0 a1 wx => ∃ e9 : Nat, a0 = .pointer (some ⟨e9, 0, none⟩) ∧ a1 = .int .i64 500 ∧ Hid (Gr w wx ∧ Cl wx (w.heap.size) a ∧ Cl wx e7 0 ∧ Cl wx e9 0))
  case first =>
    have ⟨G, c_w_heap_size, c_e7⟩ := HV.out
    have ⟨hc_w_heap_size, fc_w_heap_size, pc_w_heap_size⟩ := c_w_heap_size
    have ⟨hc_e7, fc_e7, pc_e7⟩ := c_e7
    go_wp2_with (first
        | (go_at_call_of 29 ((#[.int .i64 id, .agg (nw 9 a)] : Array Value)); refine (Q1.out _).mono ?_; rintro e w' ⟨rfl, g2, rfl⟩)
        | (go_at_call 18; refine (num_any _ _).mono ?_; rintro e w' ⟨rfl, rfl⟩))
    go_meet
    exact ⟨_, rfl, rfl, G.trans (by repeat (first | exact Gr.refl _ | apply Gr.drewN | apply Gr.drew | apply Gr.alloc | apply Gr.gro)), c_w_heap_size.gr (by repeat (first | exact Gr.refl _ | apply Gr.drewN | apply Gr.drew | apply Gr.alloc | apply Gr.gro)), c_e7.gr (by repeat (first | exact Gr.refl _ | apply Gr.drewN | apply Gr.drew | apply Gr.alloc | apply Gr.gro)), ⟨by simp [go_sem], by simp [go_sem], by simp [go_sem]⟩⟩
  clear HV
  obtain ⟨e9, rfl, rfl, HV⟩ := hcut
  go_upto_region 4 with fail
  go_cut [11] from 33 to 34 (fun a0 wx => ∃ (px : Option Addr) (nx : Nat), a0 = .slice px (dl a) nx ∧ Hid (Gr w wx ∧ Cl wx (w.heap.size) a ∧ Cl wx e7 0 ∧ Cl wx e9 0 ∧ Sl wx px a))
  case first =>
    have ⟨G, c_w_heap_size, c_e7, c_e9⟩ := HV.out
    have ⟨hc_w_heap_size, fc_w_heap_size, pc_w_heap_size⟩ := c_w_heap_size
    have ⟨hc_e7, fc_e7, pc_e7⟩ := c_e7
    have ⟨hc_e9, fc_e9, pc_e9⟩ := c_e9
    go_wp2_with (go_at_call 23; refine (HFa.out _).mono ?_; rintro e W1 ⟨px, nx, rfl, S1, G1⟩)
    go_meet
    exact ⟨px, nx, rfl, G.trans ((Gr.trans (by repeat (first | exact Gr.refl _ | apply Gr.drewN | apply Gr.drew | apply Gr.alloc | apply Gr.gro)) G1).trans (by repeat (first | exact Gr.refl _ | apply Gr.drewN | apply Gr.drew | apply Gr.alloc | apply Gr.gro))), c_w_heap_size.gr ((Gr.trans (by repeat (first | exact Gr.refl _ | apply Gr.drewN | apply Gr.drew | apply Gr.alloc | apply Gr.gro)) G1).trans (by repeat (first | exact Gr.refl _ | apply Gr.drewN | apply Gr.drew | apply Gr.alloc | apply Gr.gro))), c_e7.gr ((Gr.trans (by repeat (first | exact Gr.refl _ | apply Gr.drewN | apply Gr.drew | apply Gr.alloc | apply Gr.gro)) G1).trans (by repeat (first | exact Gr.refl _ | apply Gr.drewN | apply Gr.drew | apply Gr.alloc | apply Gr.gro))), c_e9.gr ((Gr.trans (by repeat (first | exact Gr.refl _ | apply Gr.drewN | apply Gr.drew | apply Gr.alloc | apply Gr.gro)) G1).trans (by repeat (first | exact Gr.refl _ | apply Gr.drewN | apply Gr.drew | apply Gr.alloc | apply Gr.gro))), S1.gr (by repeat (first | exact Gr.refl _ | apply Gr.drewN | apply Gr.drew | apply Gr.alloc | apply Gr.gro))⟩
  clear HV
  obtain ⟨pa, na, rfl, HV⟩ := hcut
  go_upto_region 6 with fail
  have ⟨G, c_w_heap_size, c_e7, c_e9, S_pa⟩ := HV.out
  have ⟨hc_w_heap_size, fc_w_heap_size, pc_w_heap_size⟩ := c_w_heap_size
  have ⟨hc_e7, fc_e7, pc_e7⟩ := c_e7
  have ⟨hc_e9, fc_e9, pc_e9⟩ := c_e9
  clear HV
  go_wp2_with (first
      | (go_at_call_of 19 ((#[] : Array Value)); refine (AW.out _).mono ?_; rintro e w' ⟨rfl, g3, rfl⟩)
      | (go_at_call_of 28 ((#[.int .i64 id, .agg (nw 9 a)] : Array Value)); refine (I1.out _).mono ?_; rintro e w' ⟨rfl, g4, rfl⟩)
      | (go_at_call_of 29 ((#[.int .i64 id, .agg (nw 9 a)] : Array Value)); refine (Q1.out _).mono ?_; rintro e w' ⟨rfl, g5, rfl⟩)
      | (go_at_call 18; refine (num_any _ _).mono ?_; rintro e w' ⟨rfl, rfl⟩))
  go_ret
  refine ⟨rfl, ?_⟩
  repeat (first | exact G | apply Gr.drewN | apply Gr.drew | apply Gr.alloc | apply Gr.gro)
set_option maxRecDepth 100000 in
set_option maxHeartbeats 4000000 in
theorem froots_great (k a : Nat) (h1 : 1 ≤ k) (h2 : k ≤ 15) (ha : a < M) (hc : ¬ a < pN k) (w : World) :
    Calls Try.prog 4 #[.int .i64 (k : Int), .agg (nw 9 a)] w fun e w' => e = .returned (.bool true) ∧ Gr w w' := by
  have HO : ∀ w, Calls Try.prog 13 #[.int .i64 (k : Int)] w fun e w' => ∃ p n q, e = .returned (.tuple #[.agg (cvA (k : Int) p (dl (pN k)) n q), .bool true]) ∧ Sl w' p (pN k) ∧ Gr w w' := fun w => get_yes k h1 h2 w
  have hB := pN_bd k h1 h2
  have hdl := pN_dl k h1 h2
  have hprm := prm_pN k h1 h2
  obtain ⟨m, hm⟩ : ∃ m, pN k = m := ⟨_, rfl⟩
  have FA := fun a b ha hb w => fAdd_ok k a b h1 h2 ha hb w
  have FSu := fun a b ha hb w => fSub_ok k a b h1 h2 ha hb w
  have FR := fun W hW w => fReduce_ok k W h1 h2 hW w
  have FM := fun a b ha hb w => fMul_ok k a b h1 h2 ha hb w
  have FI := fun a h0 ha hg => fInv_ok k a h1 h2 h0 ha hg
  have FZ := fun w => fInv_zero k h1 h2 w
  rw [hm] at hB hdl hprm FA FSu FR FM FI HO
  have hda := dl_M a ha
  have FQ1 := fun a ha w => fSqrt_ok k a h1 h2 ha w
  rw [hm] at FQ1
  have HFa : Hid (∀ w, Calls Try.prog 23 #[.agg (nw 9 a)] w (Nm a w)) := fun w => from_any a ha w
  obtain ⟨z1, hz1⟩ : ∃ z, cmpZ a m = z := ⟨_, rfl⟩
  have HCa : Hid (∀ (p : Option Addr) (n : Nat) w' p' k, Sl w' p' a → Sl w' p m → Calls Try.prog 24 #[.slice p' (dl a) k, .slice p (dl m) n] w' fun e w'' => e = .returned (.int .i64 z1) ∧ Gr w' w'') := fun p n w' p' k h h' => hz1 ▸ rcmp_any a m k n p' p w' h h' (by omega) (by omega)
  have FIR := fun w => fInv_range k a h1 h2 ha hc w
  have FQR := fun w => fSqrt_range k a h1 h2 ha hc w
  rw [hm] at hc
  have q1 : 0 ≤ z1 := by rw [← hz1]; unfold cmpZ; rw [if_neg hc]; split <;> decide
  have AW : Hid (∀ w', Calls Try.prog 19 #[] w' fun e w'' => e = .returned (.bool true) ∧ Gr w' w'') := fun w => awake5_any w
  have I1 : Hid (∀ w', Calls Try.prog 28 #[.int .i64 k, .agg (nw 9 a)] w' fun e w'' => e = .returned (.tuple #[.agg (nw 9 0), .int .i64 501]) ∧ Gr w' w'') := fun w => FIR w
  have Q1 : Hid (∀ w', Calls Try.prog 29 #[.int .i64 k, .agg (nw 9 a)] w' fun e w'' => e = .returned (.tuple #[.agg (nw 9 0), .int .i64 501]) ∧ Gr w' w'') := fun w => FQR w
  have HO' : Hid (∀ w, Calls Try.prog 13 #[.int .i64 (k : Int)] w fun e w' => ∃ p n q, e = .returned (.tuple #[.agg (cvA (k : Int) p (dl m) n q), .bool true]) ∧ Sl w' p m ∧ Gr w w') := HO
  clear HO FA FSu FR FM FI FZ hprm hB hdl hm h1 h2 hda FQ1 ha FIR FQR hc
  go_enter Try.func4, Try.ntmps4
  go_upto_region 1 with fail
  refine gen_w (fun v => Hid (Gr w v ∧ Cl v w.heap.size a)) ⟨(by repeat (first | exact Gr.refl _ | apply Gr.drewN | apply Gr.drew | apply Gr.alloc | apply Gr.gro)), ⟨by simp [go_sem], by simp [go_sem], by simp [go_sem]⟩⟩ ?_
  intro v0 HV
  go_cut [5, 6] from 16 to 20 (fun a0 a1 wx => ∃ (e5 : Nat) (p : Option Addr) (n : Nat) (q : Nat → Option Addr × Nat × Nat), a0 = .pointer (some ⟨e5, 0, none⟩) ∧ a1 = .bool true ∧ Hid (Gr w wx ∧ Cl wx (w.heap.size) a ∧ Cv wx e5 k p (dl m) n q ∧ Sl wx p m))
  case first =>
    have ⟨G, c0⟩ := HV.out
    go_wp2_with (go_at_call 13; refine (HO'.out _).mono ?_; rintro e W1 ⟨p, n, q, rfl, S1, G1⟩)
    go_meet
    exact ⟨_, p, n, q, rfl, rfl, G.trans (G1.trans (by repeat (first | exact Gr.refl _ | apply Gr.drewN | apply Gr.drew | apply Gr.alloc | apply Gr.gro))), c0.gr (G1.trans (by repeat (first | exact Gr.refl _ | apply Gr.drewN | apply Gr.drew | apply Gr.alloc | apply Gr.gro))), ⟨by simp [go_sem], by simp [go_sem], by simp [go_sem]⟩, S1.gr (by repeat (first | exact Gr.refl _ | apply Gr.drewN | apply Gr.drew | apply Gr.alloc | apply Gr.gro))⟩
  clear HV
  obtain ⟨e5, p, n, q, rfl, rfl, HV⟩ := hcut
  go_upto_region 2 with fail
  go_cut [7, 8] from 21 to 26 (fun a0 a1 wx => ∃ e7 : Nat, a0 = .pointer (some ⟨e7, 0, none⟩) ∧ a1 = .int .i64 501 ∧ Hid (Gr w wx ∧ Cl wx (w.heap.size) a ∧ Cv wx e5 k p (dl m) n q ∧ Cl wx e7 0 ∧ Sl wx p m))
  case first =>
    have ⟨G, c_w_heap_size, c_e5, S_p⟩ := HV.out
    have ⟨hc_w_heap_size, fc_w_heap_size, pc_w_heap_size⟩ := c_w_heap_size
    have ⟨hc_e5, fc_e5, pc_e5⟩ := c_e5
    have h0c_e5 := (c_e5).at0
    have h1c_e5 := (c_e5).at1
    go_wp2_with (first
        | (go_at_call_of 28 ((#[.int .i64 k, .agg (nw 9 a)] : Array Value)); refine (I1.out _).mono ?_; rintro e w' ⟨rfl, g1, rfl⟩)
        | (go_at_call 18; refine (num_any _ _).mono ?_; rintro e w' ⟨rfl, rfl⟩))
    go_meet
    exact ⟨_, rfl, rfl, G.trans (by repeat (first | exact Gr.refl _ | apply Gr.drewN | apply Gr.drew | apply Gr.alloc | apply Gr.gro)), c_w_heap_size.gr (by repeat (first | exact Gr.refl _ | apply Gr.drewN | apply Gr.drew | apply Gr.alloc | apply Gr.gro)), c_e5.gr (by repeat (first | exact Gr.refl _ | apply Gr.drewN | apply Gr.drew | apply Gr.alloc | apply Gr.gro)), ⟨by simp [go_sem], by simp [go_sem], by simp [go_sem]⟩, S_p.gr (by repeat (first | exact Gr.refl _ | apply Gr.drewN | apply Gr.drew | apply Gr.alloc | apply Gr.gro))⟩
  clear HV
  obtain ⟨e7, rfl, rfl, HV⟩ := hcut
  go_upto_region 3 with fail
  go_cut [9, 10] from 27 to 32 (fun a0 a1 wx => ∃ e9 : Nat, a0 = .pointer (some ⟨e9, 0, none⟩) ∧ a1 = .int .i64 501 ∧ Hid (Gr w wx ∧ Cl wx (w.heap.size) a ∧ Cv wx e5 k p (dl m) n q ∧ Cl wx e7 0 ∧ Cl wx e9 0 ∧ Sl wx p m))
  case first =>
    have ⟨G, c_w_heap_size, c_e5, c_e7, S_p⟩ := HV.out
    have ⟨hc_w_heap_size, fc_w_heap_size, pc_w_heap_size⟩ := c_w_heap_size
    have ⟨hc_e5, fc_e5, pc_e5⟩ := c_e5
    have h0c_e5 := (c_e5).at0
    have h1c_e5 := (c_e5).at1
    have ⟨hc_e7, fc_e7, pc_e7⟩ := c_e7
    go_wp2_with (first
        | (go_at_call_of 29 ((#[.int .i64 k, .agg (nw 9 a)] : Array Value)); refine (Q1.out _).mono ?_; rintro e w' ⟨rfl, g2, rfl⟩)
        | (go_at_call 18; refine (num_any _ _).mono ?_; rintro e w' ⟨rfl, rfl⟩))
    go_meet
    exact ⟨_, rfl, rfl, G.trans (by repeat (first | exact Gr.refl _ | apply Gr.drewN | apply Gr.drew | apply Gr.alloc | apply Gr.gro)), c_w_heap_size.gr (by repeat (first | exact Gr.refl _ | apply Gr.drewN | apply Gr.drew | apply Gr.alloc | apply Gr.gro)), c_e5.gr (by repeat (first | exact Gr.refl _ | apply Gr.drewN | apply Gr.drew | apply Gr.alloc | apply Gr.gro)), c_e7.gr (by repeat (first | exact Gr.refl _ | apply Gr.drewN | apply Gr.drew | apply Gr.alloc | apply Gr.gro)), ⟨by simp [go_sem], by simp [go_sem], by simp [go_sem]⟩, S_p.gr (by repeat (first | exact Gr.refl _ | apply Gr.drewN | apply Gr.drew | apply Gr.alloc | apply Gr.gro))⟩
  clear HV
  obtain ⟨e9, rfl, rfl, HV⟩ := hcut
  go_upto_region 4 with fail
  go_cut [11] from 33 to 34 (fun a0 wx => ∃ (px : Option Addr) (nx : Nat), a0 = .slice px (dl a) nx ∧ Hid (Gr w wx ∧ Cl wx (w.heap.size) a ∧ Cv wx e5 k p (dl m) n q ∧ Cl wx e7 0 ∧ Cl wx e9 0 ∧ Sl wx p m ∧ Sl wx px a))
  case first =>
    have ⟨G, c_w_heap_size, c_e5, c_e7, c_e9, S_p⟩ := HV.out
    have ⟨hc_w_heap_size, fc_w_heap_size, pc_w_heap_size⟩ := c_w_heap_size
    have ⟨hc_e5, fc_e5, pc_e5⟩ := c_e5
    have h0c_e5 := (c_e5).at0
    have h1c_e5 := (c_e5).at1
    have ⟨hc_e7, fc_e7, pc_e7⟩ := c_e7
    have ⟨hc_e9, fc_e9, pc_e9⟩ := c_e9
    go_wp2_with (go_at_call 23; refine (HFa.out _).mono ?_; rintro e W1 ⟨px, nx, rfl, S1, G1⟩)
    go_meet
    exact ⟨px, nx, rfl, G.trans ((Gr.trans (by repeat (first | exact Gr.refl _ | apply Gr.drewN | apply Gr.drew | apply Gr.alloc | apply Gr.gro)) G1).trans (by repeat (first | exact Gr.refl _ | apply Gr.drewN | apply Gr.drew | apply Gr.alloc | apply Gr.gro))), c_w_heap_size.gr ((Gr.trans (by repeat (first | exact Gr.refl _ | apply Gr.drewN | apply Gr.drew | apply Gr.alloc | apply Gr.gro)) G1).trans (by repeat (first | exact Gr.refl _ | apply Gr.drewN | apply Gr.drew | apply Gr.alloc | apply Gr.gro))), c_e5.gr ((Gr.trans (by repeat (first | exact Gr.refl _ | apply Gr.drewN | apply Gr.drew | apply Gr.alloc | apply Gr.gro)) G1).trans (by repeat (first | exact Gr.refl _ | apply Gr.drewN | apply Gr.drew | apply Gr.alloc | apply Gr.gro))), c_e7.gr ((Gr.trans (by repeat (first | exact Gr.refl _ | apply Gr.drewN | apply Gr.drew | apply Gr.alloc | apply Gr.gro)) G1).trans (by repeat (first | exact Gr.refl _ | apply Gr.drewN | apply Gr.drew | apply Gr.alloc | apply Gr.gro))), c_e9.gr ((Gr.trans (by repeat (first | exact Gr.refl _ | apply Gr.drewN | apply Gr.drew | apply Gr.alloc | apply Gr.gro)) G1).trans (by repeat (first | exact Gr.refl _ | apply Gr.drewN | apply Gr.drew | apply Gr.alloc | apply Gr.gro))), S_p.gr ((Gr.trans (by repeat (first | exact Gr.refl _ | apply Gr.drewN | apply Gr.drew | apply Gr.alloc | apply Gr.gro)) G1).trans (by repeat (first | exact Gr.refl _ | apply Gr.drewN | apply Gr.drew | apply Gr.alloc | apply Gr.gro))), S1.gr (by repeat (first | exact Gr.refl _ | apply Gr.drewN | apply Gr.drew | apply Gr.alloc | apply Gr.gro))⟩
  clear HV
  obtain ⟨pa, na, rfl, HV⟩ := hcut
  have ⟨G, c_w_heap_size, c_e5, c_e7, c_e9, S_p, S_pa⟩ := HV.out
  have ⟨hc_w_heap_size, fc_w_heap_size, pc_w_heap_size⟩ := c_w_heap_size
  have ⟨hc_e5, fc_e5, pc_e5⟩ := c_e5
  have h0c_e5 := (c_e5).at0
  have h1c_e5 := (c_e5).at1
  have ⟨hc_e7, fc_e7, pc_e7⟩ := c_e7
  have ⟨hc_e9, fc_e9, pc_e9⟩ := c_e9
  go_upto_region 8 with (go_at_call 24; refine (HCa.out p n _ pa na ?_ ?_).mono ?_; exact S_pa.gr (by repeat (first | exact Gr.refl _ | apply Gr.drewN | apply Gr.drew | apply Gr.alloc | apply Gr.gro)); exact S_p.gr (by repeat (first | exact Gr.refl _ | apply Gr.drewN | apply Gr.drew | apply Gr.alloc | apply Gr.gro)); rintro e w' ⟨rfl, gc1, rfl⟩)
  clear HV
  go_wp2_with (first
      | (go_at_call_of 19 ((#[] : Array Value)); refine (AW.out _).mono ?_; rintro e w' ⟨rfl, g3, rfl⟩)
      | (go_at_call_of 28 ((#[.int .i64 k, .agg (nw 9 a)] : Array Value)); refine (I1.out _).mono ?_; rintro e w' ⟨rfl, g4, rfl⟩)
      | (go_at_call_of 29 ((#[.int .i64 k, .agg (nw 9 a)] : Array Value)); refine (Q1.out _).mono ?_; rintro e w' ⟨rfl, g5, rfl⟩)
      | (go_at_call 18; refine (num_any _ _).mono ?_; rintro e w' ⟨rfl, rfl⟩))
  go_ret
  refine ⟨rfl, ?_⟩
  repeat (first | exact G | apply Gr.drewN | apply Gr.drew | apply Gr.alloc | apply Gr.gro)
set_option maxRecDepth 100000 in
set_option maxHeartbeats 4000000 in
theorem froots_zero (k a : Nat) (h1 : 1 ≤ k) (h2 : k ≤ 15) (ha : a < M) (hc : a < pN k) (h0 : a = 0) (w : World) :
    Calls Try.prog 4 #[.int .i64 (k : Int), .agg (nw 9 a)] w fun e w' => e = .returned (.bool true) ∧ Gr w w' := by
  have HO : ∀ w, Calls Try.prog 13 #[.int .i64 (k : Int)] w fun e w' => ∃ p n q, e = .returned (.tuple #[.agg (cvA (k : Int) p (dl (pN k)) n q), .bool true]) ∧ Sl w' p (pN k) ∧ Gr w w' := fun w => get_yes k h1 h2 w
  have hB := pN_bd k h1 h2
  have hdl := pN_dl k h1 h2
  have hprm := prm_pN k h1 h2
  obtain ⟨m, hm⟩ : ∃ m, pN k = m := ⟨_, rfl⟩
  have FA := fun a b ha hb w => fAdd_ok k a b h1 h2 ha hb w
  have FSu := fun a b ha hb w => fSub_ok k a b h1 h2 ha hb w
  have FR := fun W hW w => fReduce_ok k W h1 h2 hW w
  have FM := fun a b ha hb w => fMul_ok k a b h1 h2 ha hb w
  have FI := fun a h0 ha hg => fInv_ok k a h1 h2 h0 ha hg
  have FZ := fun w => fInv_zero k h1 h2 w
  rw [hm] at hB hdl hprm FA FSu FR FM FI HO
  have hda := dl_M a ha
  have FQ1 := fun a ha w => fSqrt_ok k a h1 h2 ha w
  rw [hm] at FQ1
  have HFa : Hid (∀ w, Calls Try.prog 23 #[.agg (nw 9 a)] w (Nm a w)) := fun w => from_any a ha w
  obtain ⟨z1, hz1⟩ : ∃ z, cmpZ a m = z := ⟨_, rfl⟩
  have HCa : Hid (∀ (p : Option Addr) (n : Nat) w' p' k, Sl w' p' a → Sl w' p m → Calls Try.prog 24 #[.slice p' (dl a) k, .slice p (dl m) n] w' fun e w'' => e = .returned (.int .i64 z1) ∧ Gr w' w'') := fun p n w' p' k h h' => hz1 ▸ rcmp_any a m k n p' p w' h h' (by omega) (by omega)
  rw [hm] at hc
  have q1 : z1 < 0 := by rw [← hz1]; unfold cmpZ; rw [if_pos hc]; decide
  have hl1 : ((dl a : Nat) : Int) = 0 := by rw [h0]; rfl
  have hl2 : (((dl a : Nat) : Int) == 0) = true := by rw [hl1]; rfl
  have AW : Hid (∀ w', Calls Try.prog 19 #[] w' fun e w'' => e = .returned (.bool true) ∧ Gr w' w'') := fun w => awake5_any w
  have I1 : Hid (∀ w', Calls Try.prog 28 #[.int .i64 k, .agg (nw 9 a)] w' fun e w'' => e = .returned (.tuple #[.agg (nw 9 0), .int .i64 502]) ∧ Gr w' w'') := fun w => by rw [h0]; exact FZ w
  have Q1 : Hid (∀ w', Calls Try.prog 29 #[.int .i64 k, .agg (nw 9 a)] w' fun e w'' => e = .returned (.tuple #[.agg (nw 9 0), .int .i64 0]) ∧ Gr w' w'') := fun w => by
    rw [h0]
    have := FQ1 0 (by omega) w
    rw [(sq_zero5 k).1, (sq_zero5 k).2] at this
    exact this
  have HO' : Hid (∀ w, Calls Try.prog 13 #[.int .i64 (k : Int)] w fun e w' => ∃ p n q, e = .returned (.tuple #[.agg (cvA (k : Int) p (dl m) n q), .bool true]) ∧ Sl w' p m ∧ Gr w w') := HO
  clear HO FA FSu FR FM FI FZ hprm hB hdl hm h1 h2 hda FQ1 ha hc h0
  go_enter Try.func4, Try.ntmps4
  go_upto_region 1 with fail
  refine gen_w (fun v => Hid (Gr w v ∧ Cl v w.heap.size a)) ⟨(by repeat (first | exact Gr.refl _ | apply Gr.drewN | apply Gr.drew | apply Gr.alloc | apply Gr.gro)), ⟨by simp [go_sem], by simp [go_sem], by simp [go_sem]⟩⟩ ?_
  intro v0 HV
  go_cut [5, 6] from 16 to 20 (fun a0 a1 wx => ∃ (e5 : Nat) (p : Option Addr) (n : Nat) (q : Nat → Option Addr × Nat × Nat), a0 = .pointer (some ⟨e5, 0, none⟩) ∧ a1 = .bool true ∧ Hid (Gr w wx ∧ Cl wx (w.heap.size) a ∧ Cv wx e5 k p (dl m) n q ∧ Sl wx p m))
  case first =>
    have ⟨G, c0⟩ := HV.out
    go_wp2_with (go_at_call 13; refine (HO'.out _).mono ?_; rintro e W1 ⟨p, n, q, rfl, S1, G1⟩)
    go_meet
    exact ⟨_, p, n, q, rfl, rfl, G.trans (G1.trans (by repeat (first | exact Gr.refl _ | apply Gr.drewN | apply Gr.drew | apply Gr.alloc | apply Gr.gro))), c0.gr (G1.trans (by repeat (first | exact Gr.refl _ | apply Gr.drewN | apply Gr.drew | apply Gr.alloc | apply Gr.gro))), ⟨by simp [go_sem], by simp [go_sem], by simp [go_sem]⟩, S1.gr (by repeat (first | exact Gr.refl _ | apply Gr.drewN | apply Gr.drew | apply Gr.alloc | apply Gr.gro))⟩
  clear HV
  obtain ⟨e5, p, n, q, rfl, rfl, HV⟩ := hcut
  go_upto_region 2 with fail
  go_cut [7, 8] from 21 to 26 (fun a0 a1 wx => ∃ e7 : Nat, a0 = .pointer (some ⟨e7, 0, none⟩) ∧ a1 = .int .i64 502 ∧ Hid (Gr w wx ∧ Cl wx (w.heap.size) a ∧ Cv wx e5 k p (dl m) n q ∧ Cl wx e7 0 ∧ Sl wx p m))
  case first =>
    have ⟨G, c_w_heap_size, c_e5, S_p⟩ := HV.out
    have ⟨hc_w_heap_size, fc_w_heap_size, pc_w_heap_size⟩ := c_w_heap_size
    have ⟨hc_e5, fc_e5, pc_e5⟩ := c_e5
    have h0c_e5 := (c_e5).at0
    have h1c_e5 := (c_e5).at1
    go_wp2_with (first
        | (go_at_call_of 28 ((#[.int .i64 k, .agg (nw 9 a)] : Array Value)); refine (I1.out _).mono ?_; rintro e w' ⟨rfl, g1, rfl⟩)
        | (go_at_call 18; refine (num_any _ _).mono ?_; rintro e w' ⟨rfl, rfl⟩))
    go_meet
    exact ⟨_, rfl, rfl, G.trans (by repeat (first | exact Gr.refl _ | apply Gr.drewN | apply Gr.drew | apply Gr.alloc | apply Gr.gro)), c_w_heap_size.gr (by repeat (first | exact Gr.refl _ | apply Gr.drewN | apply Gr.drew | apply Gr.alloc | apply Gr.gro)), c_e5.gr (by repeat (first | exact Gr.refl _ | apply Gr.drewN | apply Gr.drew | apply Gr.alloc | apply Gr.gro)), ⟨by simp [go_sem], by simp [go_sem], by simp [go_sem]⟩, S_p.gr (by repeat (first | exact Gr.refl _ | apply Gr.drewN | apply Gr.drew | apply Gr.alloc | apply Gr.gro))⟩
  clear HV
  obtain ⟨e7, rfl, rfl, HV⟩ := hcut
  go_upto_region 3 with fail
  go_cut [9, 10] from 27 to 32 (fun a0 a1 wx => ∃ e9 : Nat, a0 = .pointer (some ⟨e9, 0, none⟩) ∧ a1 = .int .i64 0 ∧ Hid (Gr w wx ∧ Cl wx (w.heap.size) a ∧ Cv wx e5 k p (dl m) n q ∧ Cl wx e7 0 ∧ Cl wx e9 0 ∧ Sl wx p m))
  case first =>
    have ⟨G, c_w_heap_size, c_e5, c_e7, S_p⟩ := HV.out
    have ⟨hc_w_heap_size, fc_w_heap_size, pc_w_heap_size⟩ := c_w_heap_size
    have ⟨hc_e5, fc_e5, pc_e5⟩ := c_e5
    have h0c_e5 := (c_e5).at0
    have h1c_e5 := (c_e5).at1
    have ⟨hc_e7, fc_e7, pc_e7⟩ := c_e7
    go_wp2_with (first
        | (go_at_call_of 29 ((#[.int .i64 k, .agg (nw 9 a)] : Array Value)); refine (Q1.out _).mono ?_; rintro e w' ⟨rfl, g2, rfl⟩)
        | (go_at_call 18; refine (num_any _ _).mono ?_; rintro e w' ⟨rfl, rfl⟩))
    go_meet
    exact ⟨_, rfl, rfl, G.trans (by repeat (first | exact Gr.refl _ | apply Gr.drewN | apply Gr.drew | apply Gr.alloc | apply Gr.gro)), c_w_heap_size.gr (by repeat (first | exact Gr.refl _ | apply Gr.drewN | apply Gr.drew | apply Gr.alloc | apply Gr.gro)), c_e5.gr (by repeat (first | exact Gr.refl _ | apply Gr.drewN | apply Gr.drew | apply Gr.alloc | apply Gr.gro)), c_e7.gr (by repeat (first | exact Gr.refl _ | apply Gr.drewN | apply Gr.drew | apply Gr.alloc | apply Gr.gro)), ⟨by simp [go_sem], by simp [go_sem], by simp [go_sem]⟩, S_p.gr (by repeat (first | exact Gr.refl _ | apply Gr.drewN | apply Gr.drew | apply Gr.alloc | apply Gr.gro))⟩
  clear HV
  obtain ⟨e9, rfl, rfl, HV⟩ := hcut
  go_upto_region 4 with fail
  go_cut [11] from 33 to 34 (fun a0 wx => ∃ (px : Option Addr) (nx : Nat), a0 = .slice px (dl a) nx ∧ Hid (Gr w wx ∧ Cl wx (w.heap.size) a ∧ Cv wx e5 k p (dl m) n q ∧ Cl wx e7 0 ∧ Cl wx e9 0 ∧ Sl wx p m ∧ Sl wx px a))
  case first =>
    have ⟨G, c_w_heap_size, c_e5, c_e7, c_e9, S_p⟩ := HV.out
    have ⟨hc_w_heap_size, fc_w_heap_size, pc_w_heap_size⟩ := c_w_heap_size
    have ⟨hc_e5, fc_e5, pc_e5⟩ := c_e5
    have h0c_e5 := (c_e5).at0
    have h1c_e5 := (c_e5).at1
    have ⟨hc_e7, fc_e7, pc_e7⟩ := c_e7
    have ⟨hc_e9, fc_e9, pc_e9⟩ := c_e9
    go_wp2_with (go_at_call 23; refine (HFa.out _).mono ?_; rintro e W1 ⟨px, nx, rfl, S1, G1⟩)
    go_meet
    exact ⟨px, nx, rfl, G.trans ((Gr.trans (by repeat (first | exact Gr.refl _ | apply Gr.drewN | apply Gr.drew | apply Gr.alloc | apply Gr.gro)) G1).trans (by repeat (first | exact Gr.refl _ | apply Gr.drewN | apply Gr.drew | apply Gr.alloc | apply Gr.gro))), c_w_heap_size.gr ((Gr.trans (by repeat (first | exact Gr.refl _ | apply Gr.drewN | apply Gr.drew | apply Gr.alloc | apply Gr.gro)) G1).trans (by repeat (first | exact Gr.refl _ | apply Gr.drewN | apply Gr.drew | apply Gr.alloc | apply Gr.gro))), c_e5.gr ((Gr.trans (by repeat (first | exact Gr.refl _ | apply Gr.drewN | apply Gr.drew | apply Gr.alloc | apply Gr.gro)) G1).trans (by repeat (first | exact Gr.refl _ | apply Gr.drewN | apply Gr.drew | apply Gr.alloc | apply Gr.gro))), c_e7.gr ((Gr.trans (by repeat (first | exact Gr.refl _ | apply Gr.drewN | apply Gr.drew | apply Gr.alloc | apply Gr.gro)) G1).trans (by repeat (first | exact Gr.refl _ | apply Gr.drewN | apply Gr.drew | apply Gr.alloc | apply Gr.gro))), c_e9.gr ((Gr.trans (by repeat (first | exact Gr.refl _ | apply Gr.drewN | apply Gr.drew | apply Gr.alloc | apply Gr.gro)) G1).trans (by repeat (first | exact Gr.refl _ | apply Gr.drewN | apply Gr.drew | apply Gr.alloc | apply Gr.gro))), S_p.gr ((Gr.trans (by repeat (first | exact Gr.refl _ | apply Gr.drewN | apply Gr.drew | apply Gr.alloc | apply Gr.gro)) G1).trans (by repeat (first | exact Gr.refl _ | apply Gr.drewN | apply Gr.drew | apply Gr.alloc | apply Gr.gro))), S1.gr (by repeat (first | exact Gr.refl _ | apply Gr.drewN | apply Gr.drew | apply Gr.alloc | apply Gr.gro))⟩
  clear HV
  obtain ⟨pa, na, rfl, HV⟩ := hcut
  have ⟨G, c_w_heap_size, c_e5, c_e7, c_e9, S_p, S_pa⟩ := HV.out
  have ⟨hc_w_heap_size, fc_w_heap_size, pc_w_heap_size⟩ := c_w_heap_size
  have ⟨hc_e5, fc_e5, pc_e5⟩ := c_e5
  have h0c_e5 := (c_e5).at0
  have h1c_e5 := (c_e5).at1
  have ⟨hc_e7, fc_e7, pc_e7⟩ := c_e7
  have ⟨hc_e9, fc_e9, pc_e9⟩ := c_e9
  go_upto_region 10 with (go_at_call 24; refine (HCa.out p n _ pa na ?_ ?_).mono ?_; exact S_pa.gr (by repeat (first | exact Gr.refl _ | apply Gr.drewN | apply Gr.drew | apply Gr.alloc | apply Gr.gro)); exact S_p.gr (by repeat (first | exact Gr.refl _ | apply Gr.drewN | apply Gr.drew | apply Gr.alloc | apply Gr.gro)); rintro e w' ⟨rfl, gc1, rfl⟩)
  clear HV
  go_wp2_with (first
      | (go_at_call_of 19 ((#[] : Array Value)); refine (AW.out _).mono ?_; rintro e w' ⟨rfl, g3, rfl⟩)
      | (go_at_call_of 28 ((#[.int .i64 k, .agg (nw 9 a)] : Array Value)); refine (I1.out _).mono ?_; rintro e w' ⟨rfl, g4, rfl⟩)
      | (go_at_call_of 29 ((#[.int .i64 k, .agg (nw 9 a)] : Array Value)); refine (Q1.out _).mono ?_; rintro e w' ⟨rfl, g5, rfl⟩)
      | (go_at_call 18; refine (num_any _ _).mono ?_; rintro e w' ⟨rfl, rfl⟩))
  go_ret
  refine ⟨rfl, ?_⟩
  repeat (first | exact G | apply Gr.drewN | apply Gr.drew | apply Gr.alloc | apply Gr.gro)

end Go.Proofs.Ytkmpholjlophpaa
namespace Go.Proofs.Ytkmpholjlophpaa
open Go.RowKit
attribute [local go_sem ↓] loadNat_is loadArr_is loadWide_is loadArrW_is storeNat_is storeWide_is
attribute [local go_sem] loadNat loadArr loadWide loadArrW storeNat storeWide idxArr fold9 fold18 nw_size nw_elem pre_self pre_1 pre_2 pre_3 pre_4 pre_5 pre_6 pre_7 pre_8 pre_9 pre_10 pre_11 pre_12 pre_13 pre_14 pre_15 pre_16 pre_17 pre_18 pre_19 pre_20 pre_21 pre_22 pre_23 pre_24 pre_25 pre_26 pre_27 pre_28 pre_29 pre_30 pre_31 pre_32 pre_33 pre_34 pre_35 pre_36 pre_37 pre_38 pre_39 pre_40 gro_size gro_drew gro_drewN drew_gro drewN_gro gro_gro blk_gro frz_gro blk_drew frz_drew blk_drewN frz_drewN blk_alloc_at frz_alloc_at blk_alloc frz_alloc cell_gro frozen_gro cell_alloc_pre frozen_alloc_pre setCell_drewN alloc_drewN setBlk_drew setBlk_drewN setBlk_alloc_at setBlk_alloc setBlk_gro setCell_gro setCell_alloc_pre size_setBlk size_setCell
attribute [local go_sem] nw_ext9 nw_ext18 eqArr9 eqArr18

attribute [local go_sem] loadNat2 loadArr2 loadWide2 loadK_nw ppre_1 ppre_2 ppre_3 ppre_4 ppre_5 ppre_6 ppre_7 ppre_8 ppre_9 ppre_10 ppre_11 ppre_12 ppre_13 ppre_14 ppre_15 ppre_16 ppre_17 ppre_18 ppre_19 ppre_20

attribute [local go_sem ↓] loadC_is storeC_is Go.wp_at_zero Go.wp_at_succ
attribute [local go_sem] eqN_self loadC storeCv storeC0 cvA_size frz_setBlk blk_setBlk setBlk_setBlk blk_other
set_option maxRecDepth 100000 in
set_option maxHeartbeats 4000000 in
theorem froots_root (k a : Nat) (h1 : 1 ≤ k) (h2 : k ≤ 15) (ha : a < M) (hc : a < pN k) (h0 : a ≠ 0) (he : a ^ ((pN k - 1) / 2) % pN k = 1) (w : World) :
    Calls Try.prog 4 #[.int .i64 (k : Int), .agg (nw 9 a)] w fun e w' => e = .returned (.bool true) ∧ Gr w w' := by
  have HO : ∀ w, Calls Try.prog 13 #[.int .i64 (k : Int)] w fun e w' => ∃ p n q, e = .returned (.tuple #[.agg (cvA (k : Int) p (dl (pN k)) n q), .bool true]) ∧ Sl w' p (pN k) ∧ Gr w w' := fun w => get_yes k h1 h2 w
  have hB := pN_bd k h1 h2
  have hdl := pN_dl k h1 h2
  have hprm := prm_pN k h1 h2
  obtain ⟨m, hm⟩ : ∃ m, pN k = m := ⟨_, rfl⟩
  have FA := fun a b ha hb w => fAdd_ok k a b h1 h2 ha hb w
  have FSu := fun a b ha hb w => fSub_ok k a b h1 h2 ha hb w
  have FR := fun W hW w => fReduce_ok k W h1 h2 hW w
  have FM := fun a b ha hb w => fMul_ok k a b h1 h2 ha hb w
  have FI := fun a h0 ha hg => fInv_ok k a h1 h2 h0 ha hg
  have FZ := fun w => fInv_zero k h1 h2 w
  rw [hm] at hB hdl hprm FA FSu FR FM FI HO
  have hda := dl_M a ha
  have FQ1 := fun a ha w => fSqrt_ok k a h1 h2 ha w
  rw [hm] at FQ1
  have HFa : Hid (∀ w, Calls Try.prog 23 #[.agg (nw 9 a)] w (Nm a w)) := fun w => from_any a ha w
  obtain ⟨z1, hz1⟩ : ∃ z, cmpZ a m = z := ⟨_, rfl⟩
  have HCa : Hid (∀ (p : Option Addr) (n : Nat) w' p' k, Sl w' p' a → Sl w' p m → Calls Try.prog 24 #[.slice p' (dl a) k, .slice p (dl m) n] w' fun e w'' => e = .returned (.int .i64 z1) ∧ Gr w' w'') := fun p n w' p' k h h' => hz1 ▸ rcmp_any a m k n p' p w' h h' (by omega) (by omega)
  rw [hm] at hc
  have q1 : z1 < 0 := by rw [← hz1]; unfold cmpZ; rw [if_pos hc]; decide
  have hl0 : dl a ≠ 0 := fun e => h0 (dl_eq_zero a e)
  have hl1 : ¬ ((dl a : Nat) : Int) = 0 := by omega
  have hl2 : (((dl a : Nat) : Int) == 0) = false := by rw [beq_eq_false_iff_ne]; exact hl1
  obtain ⟨u, hum, hau, ci⟩ := FI a (by omega) hc (hprm.cop (not_dvd h0 hc))
  have HIv : Hid (∀ (p : Option Addr) (n : Nat) w' p' k, Sl w' p' a → Sl w' p m → Calls Try.prog 30 #[.slice p' (dl a) k, .slice p (dl m) n] w' (Nt u true w')) := fun p n w' p' k h h' => inv_pN a m u hprm hdl h0 hc hum hau p' p k n w' h h'
  have HNu : Hid (∀ w' p' k, Sl w' p' u → Calls Try.prog 20 #[.slice p' (dl u) k] w' fun e w'' => e = .returned (.agg (nw 9 u)) ∧ Gr w' w'') := fun w' p' k h => rnat_any u k p' w' h
  have hsp := sq_spec k a h1 h2 ((sq_iff k a h1 h2 h0 (by omega)).2 he)
  obtain ⟨qo, So, zo, hR⟩ := rp_any k h1 h2
  obtain ⟨s, hs⟩ : ∃ s, sqR k a = s := ⟨_, rfl⟩
  rw [hs, hm] at hsp
  rw [hm] at he hR
  have HSq : Hid (∀ (p : Option Addr) (n : Nat) w' p' k, Sl w' p' a → Sl w' p m → Calls Try.prog 31 #[.slice p' (dl a) k, .slice p (dl m) n] w' (Nt s true w')) := fun p n w' p' k h h' => sqrt_pN a m s hR hprm hB.2.2 hdl h0 hc he hsp.2.1 hsp.2.2.1 hsp.2.2.2 p' p k n w' h h'
  have HNs : Hid (∀ w' p' k, Sl w' p' s → Calls Try.prog 20 #[.slice p' (dl s) k] w' fun e w'' => e = .returned (.agg (nw 9 s)) ∧ Gr w' w'') := fun w' p' k h => rnat_any s k p' w' h
  have AW : Hid (∀ w', Calls Try.prog 19 #[] w' fun e w'' => e = .returned (.bool true) ∧ Gr w' w'') := fun w => awake5_any w
  have I1 : Hid (∀ w', Calls Try.prog 28 #[.int .i64 k, .agg (nw 9 a)] w' fun e w'' => e = .returned (.tuple #[.agg (nw 9 u), .int .i64 0]) ∧ Gr w' w'') := ci
  have Q1 : Hid (∀ w', Calls Try.prog 29 #[.int .i64 k, .agg (nw 9 a)] w' fun e w'' => e = .returned (.tuple #[.agg (nw 9 s), .int .i64 0]) ∧ Gr w' w'') := fun w => by
    have := FQ1 a hc w
    rw [hs, hsp.1] at this
    exact this
  have HO' : Hid (∀ w, Calls Try.prog 13 #[.int .i64 (k : Int)] w fun e w' => ∃ p n q, e = .returned (.tuple #[.agg (cvA (k : Int) p (dl m) n q), .bool true]) ∧ Sl w' p m ∧ Gr w w') := HO
  clear HO FA FSu FR FM FI FZ hprm hB hdl hm h1 h2 hda FQ1 ha hc h0 hl0 hum hau ci hR hs hsp he
  go_enter Try.func4, Try.ntmps4
  go_upto_region 1 with fail
  refine gen_w (fun v => Hid (Gr w v ∧ Cl v w.heap.size a)) ⟨(by repeat (first | exact Gr.refl _ | apply Gr.drewN | apply Gr.drew | apply Gr.alloc | apply Gr.gro)), ⟨by simp [go_sem], by simp [go_sem], by simp [go_sem]⟩⟩ ?_
  intro v0 HV
  go_cut [5, 6] from 16 to 20 (fun a0 a1 wx => ∃ (e5 : Nat) (p : Option Addr) (n : Nat) (q : Nat → Option Addr × Nat × Nat), a0 = .pointer (some ⟨e5, 0, none⟩) ∧ a1 = .bool true ∧ Hid (Gr w wx ∧ Cl wx (w.heap.size) a ∧ Cv wx e5 k p (dl m) n q ∧ Sl wx p m))
  case first =>
    have ⟨G, c0⟩ := HV.out
    go_wp2_with (go_at_call 13; refine (HO'.out _).mono ?_; rintro e W1 ⟨p, n, q, rfl, S1, G1⟩)
    go_meet
    exact ⟨_, p, n, q, rfl, rfl, G.trans (G1.trans (by repeat (first | exact Gr.refl _ | apply Gr.drewN | apply Gr.drew | apply Gr.alloc | apply Gr.gro))), c0.gr (G1.trans (by repeat (first | exact Gr.refl _ | apply Gr.drewN | apply Gr.drew | apply Gr.alloc | apply Gr.gro))), ⟨by simp [go_sem], by simp [go_sem], by simp [go_sem]⟩, S1.gr (by repeat (first | exact Gr.refl _ | apply Gr.drewN | apply Gr.drew | apply Gr.alloc | apply Gr.gro))⟩
  clear HV
  obtain ⟨e5, p, n, q, rfl, rfl, HV⟩ := hcut
  go_upto_region 2 with fail
  go_cut [7, 8] from 21 to 26 (fun a0 a1 wx => ∃ e7 : Nat, a0 = .pointer (some ⟨e7, 0, none⟩) ∧ a1 = .int .i64 0 ∧ Hid (Gr w wx ∧ Cl wx (w.heap.size) a ∧ Cv wx e5 k p (dl m) n q ∧ Cl wx e7 u ∧ Sl wx p m))
  case first =>
    have ⟨G, c_w_heap_size, c_e5, S_p⟩ := HV.out
    have ⟨hc_w_heap_size, fc_w_heap_size, pc_w_heap_size⟩ := c_w_heap_size
    have ⟨hc_e5, fc_e5, pc_e5⟩ := c_e5
    have h0c_e5 := (c_e5).at0
    have h1c_e5 := (c_e5).at1
    go_wp2_with (first
        | (go_at_call_of 28 ((#[.int .i64 k, .agg (nw 9 a)] : Array Value)); refine (I1.out _).mono ?_; rintro e w' ⟨rfl, g1, rfl⟩)
        | (go_at_call 18; refine (num_any _ _).mono ?_; rintro e w' ⟨rfl, rfl⟩))
    go_meet
    exact ⟨_, rfl, rfl, G.trans (by repeat (first | exact Gr.refl _ | apply Gr.drewN | apply Gr.drew | apply Gr.alloc | apply Gr.gro)), c_w_heap_size.gr (by repeat (first | exact Gr.refl _ | apply Gr.drewN | apply Gr.drew | apply Gr.alloc | apply Gr.gro)), c_e5.gr (by repeat (first | exact Gr.refl _ | apply Gr.drewN | apply Gr.drew | apply Gr.alloc | apply Gr.gro)), ⟨by simp [go_sem], by simp [go_sem], by simp [go_sem]⟩, S_p.gr (by repeat (first | exact Gr.refl _ | apply Gr.drewN | apply Gr.drew | apply Gr.alloc | apply Gr.gro))⟩
  clear HV
  obtain ⟨e7, rfl, rfl, HV⟩ := hcut
  go_upto_region 3 with fail
  go_cut [9, 10] from 27 to 32 (fun a0 a1 wx => ∃ e9 : Nat, a0 = .pointer (some ⟨e9, 0, none⟩) ∧ a1 = .int .i64 0 ∧ Hid (Gr w wx ∧ Cl wx (w.heap.size) a ∧ Cv wx e5 k p (dl m) n q ∧ Cl wx e7 u ∧ Cl wx e9 s ∧ Sl wx p m))
  case first =>
    have ⟨G, c_w_heap_size, c_e5, c_e7, S_p⟩ := HV.out
    have ⟨hc_w_heap_size, fc_w_heap_size, pc_w_heap_size⟩ := c_w_heap_size
    have ⟨hc_e5, fc_e5, pc_e5⟩ := c_e5
    have h0c_e5 := (c_e5).at0
    have h1c_e5 := (c_e5).at1
    have ⟨hc_e7, fc_e7, pc_e7⟩ := c_e7
    go_wp2_with (first
        | (go_at_call_of 29 ((#[.int .i64 k, .agg (nw 9 a)] : Array Value)); refine (Q1.out _).mono ?_; rintro e w' ⟨rfl, g2, rfl⟩)
        | (go_at_call 18; refine (num_any _ _).mono ?_; rintro e w' ⟨rfl, rfl⟩))
    go_meet
    exact ⟨_, rfl, rfl, G.trans (by repeat (first | exact Gr.refl _ | apply Gr.drewN | apply Gr.drew | apply Gr.alloc | apply Gr.gro)), c_w_heap_size.gr (by repeat (first | exact Gr.refl _ | apply Gr.drewN | apply Gr.drew | apply Gr.alloc | apply Gr.gro)), c_e5.gr (by repeat (first | exact Gr.refl _ | apply Gr.drewN | apply Gr.drew | apply Gr.alloc | apply Gr.gro)), c_e7.gr (by repeat (first | exact Gr.refl _ | apply Gr.drewN | apply Gr.drew | apply Gr.alloc | apply Gr.gro)), ⟨by simp [go_sem], by simp [go_sem], by simp [go_sem]⟩, S_p.gr (by repeat (first | exact Gr.refl _ | apply Gr.drewN | apply Gr.drew | apply Gr.alloc | apply Gr.gro))⟩
  clear HV
  obtain ⟨e9, rfl, rfl, HV⟩ := hcut
  go_upto_region 4 with fail
  go_cut [11] from 33 to 34 (fun a0 wx => ∃ (px : Option Addr) (nx : Nat), a0 = .slice px (dl a) nx ∧ Hid (Gr w wx ∧ Cl wx (w.heap.size) a ∧ Cv wx e5 k p (dl m) n q ∧ Cl wx e7 u ∧ Cl wx e9 s ∧ Sl wx p m ∧ Sl wx px a))
  case first =>
    have ⟨G, c_w_heap_size, c_e5, c_e7, c_e9, S_p⟩ := HV.out
    have ⟨hc_w_heap_size, fc_w_heap_size, pc_w_heap_size⟩ := c_w_heap_size
    have ⟨hc_e5, fc_e5, pc_e5⟩ := c_e5
    have h0c_e5 := (c_e5).at0
    have h1c_e5 := (c_e5).at1
    have ⟨hc_e7, fc_e7, pc_e7⟩ := c_e7
    have ⟨hc_e9, fc_e9, pc_e9⟩ := c_e9
    go_wp2_with (go_at_call 23; refine (HFa.out _).mono ?_; rintro e W1 ⟨px, nx, rfl, S1, G1⟩)
    go_meet
    exact ⟨px, nx, rfl, G.trans ((Gr.trans (by repeat (first | exact Gr.refl _ | apply Gr.drewN | apply Gr.drew | apply Gr.alloc | apply Gr.gro)) G1).trans (by repeat (first | exact Gr.refl _ | apply Gr.drewN | apply Gr.drew | apply Gr.alloc | apply Gr.gro))), c_w_heap_size.gr ((Gr.trans (by repeat (first | exact Gr.refl _ | apply Gr.drewN | apply Gr.drew | apply Gr.alloc | apply Gr.gro)) G1).trans (by repeat (first | exact Gr.refl _ | apply Gr.drewN | apply Gr.drew | apply Gr.alloc | apply Gr.gro))), c_e5.gr ((Gr.trans (by repeat (first | exact Gr.refl _ | apply Gr.drewN | apply Gr.drew | apply Gr.alloc | apply Gr.gro)) G1).trans (by repeat (first | exact Gr.refl _ | apply Gr.drewN | apply Gr.drew | apply Gr.alloc | apply Gr.gro))), c_e7.gr ((Gr.trans (by repeat (first | exact Gr.refl _ | apply Gr.drewN | apply Gr.drew | apply Gr.alloc | apply Gr.gro)) G1).trans (by repeat (first | exact Gr.refl _ | apply Gr.drewN | apply Gr.drew | apply Gr.alloc | apply Gr.gro))), c_e9.gr ((Gr.trans (by repeat (first | exact Gr.refl _ | apply Gr.drewN | apply Gr.drew | apply Gr.alloc | apply Gr.gro)) G1).trans (by repeat (first | exact Gr.refl _ | apply Gr.drewN | apply Gr.drew | apply Gr.alloc | apply Gr.gro))), S_p.gr ((Gr.trans (by repeat (first | exact Gr.refl _ | apply Gr.drewN | apply Gr.drew | apply Gr.alloc | apply Gr.gro)) G1).trans (by repeat (first | exact Gr.refl _ | apply Gr.drewN | apply Gr.drew | apply Gr.alloc | apply Gr.gro))), S1.gr (by repeat (first | exact Gr.refl _ | apply Gr.drewN | apply Gr.drew | apply Gr.alloc | apply Gr.gro))⟩
  clear HV
  obtain ⟨pa, na, rfl, HV⟩ := hcut
  have ⟨G, c_w_heap_size, c_e5, c_e7, c_e9, S_p, S_pa⟩ := HV.out
  have ⟨hc_w_heap_size, fc_w_heap_size, pc_w_heap_size⟩ := c_w_heap_size
  have ⟨hc_e5, fc_e5, pc_e5⟩ := c_e5
  have h0c_e5 := (c_e5).at0
  have h1c_e5 := (c_e5).at1
  have ⟨hc_e7, fc_e7, pc_e7⟩ := c_e7
  have ⟨hc_e9, fc_e9, pc_e9⟩ := c_e9
  go_upto_region 11 with (go_at_call 24; refine (HCa.out p n _ pa na ?_ ?_).mono ?_; exact S_pa.gr (by repeat (first | exact Gr.refl _ | apply Gr.drewN | apply Gr.drew | apply Gr.alloc | apply Gr.gro)); exact S_p.gr (by repeat (first | exact Gr.refl _ | apply Gr.drewN | apply Gr.drew | apply Gr.alloc | apply Gr.gro)); rintro e w' ⟨rfl, gc1, rfl⟩)
  refine gen_w (fun v => Hid (Gr w v ∧ Cl v (w.heap.size) a ∧ Cv v e5 k p (dl m) n q ∧ Cl v e7 u ∧ Cl v e9 s ∧ Sl v p m ∧ Sl v pa a)) ⟨G.trans (by repeat (first | exact Gr.refl _ | apply Gr.drewN | apply Gr.drew | apply Gr.alloc | apply Gr.gro)), c_w_heap_size.gr (by repeat (first | exact Gr.refl _ | apply Gr.drewN | apply Gr.drew | apply Gr.alloc | apply Gr.gro)), c_e5.gr (by repeat (first | exact Gr.refl _ | apply Gr.drewN | apply Gr.drew | apply Gr.alloc | apply Gr.gro)), c_e7.gr (by repeat (first | exact Gr.refl _ | apply Gr.drewN | apply Gr.drew | apply Gr.alloc | apply Gr.gro)), c_e9.gr (by repeat (first | exact Gr.refl _ | apply Gr.drewN | apply Gr.drew | apply Gr.alloc | apply Gr.gro)), S_p.gr (by repeat (first | exact Gr.refl _ | apply Gr.drewN | apply Gr.drew | apply Gr.alloc | apply Gr.gro)), S_pa.gr (by repeat (first | exact Gr.refl _ | apply Gr.drewN | apply Gr.drew | apply Gr.alloc | apply Gr.gro))⟩ ?_
  clear HV G c_w_heap_size c_e5 c_e7 c_e9 S_p S_pa
  intro vC HV
  go_cut [12, 13] from 96 to 102 (fun a0 a1 wx => ∃ (px : Option Addr) (nx : Nat), a0 = .slice px (dl u) nx ∧ a1 = .bool true ∧ Hid (Gr w wx ∧ Cl wx (w.heap.size) a ∧ Cv wx e5 k p (dl m) n q ∧ Cl wx e7 u ∧ Cl wx e9 s ∧ Sl wx p m ∧ Sl wx pa a ∧ Sl wx px u))
  case first =>
    have ⟨G, c_w_heap_size, c_e5, c_e7, c_e9, S_p, S_pa⟩ := HV.out
    have ⟨hc_w_heap_size, fc_w_heap_size, pc_w_heap_size⟩ := c_w_heap_size
    have ⟨hc_e5, fc_e5, pc_e5⟩ := c_e5
    have h0c_e5 := (c_e5).at0
    have h1c_e5 := (c_e5).at1
    have ⟨hc_e7, fc_e7, pc_e7⟩ := c_e7
    have ⟨hc_e9, fc_e9, pc_e9⟩ := c_e9
    go_wp2_with (go_at_call 30; refine (HIv.out p n _ pa na (S_pa.gr (by repeat (first | exact Gr.refl _ | apply Gr.drewN | apply Gr.drew | apply Gr.alloc | apply Gr.gro))) (S_p.gr (by repeat (first | exact Gr.refl _ | apply Gr.drewN | apply Gr.drew | apply Gr.alloc | apply Gr.gro)))).mono ?_; rintro e W1 ⟨px, nx, rfl, S1, G1⟩)
    go_meet
    exact ⟨px, nx, rfl, rfl, G.trans ((Gr.trans (by repeat (first | exact Gr.refl _ | apply Gr.drewN | apply Gr.drew | apply Gr.alloc | apply Gr.gro)) G1).trans (by repeat (first | exact Gr.refl _ | apply Gr.drewN | apply Gr.drew | apply Gr.alloc | apply Gr.gro))), c_w_heap_size.gr ((Gr.trans (by repeat (first | exact Gr.refl _ | apply Gr.drewN | apply Gr.drew | apply Gr.alloc | apply Gr.gro)) G1).trans (by repeat (first | exact Gr.refl _ | apply Gr.drewN | apply Gr.drew | apply Gr.alloc | apply Gr.gro))), c_e5.gr ((Gr.trans (by repeat (first | exact Gr.refl _ | apply Gr.drewN | apply Gr.drew | apply Gr.alloc | apply Gr.gro)) G1).trans (by repeat (first | exact Gr.refl _ | apply Gr.drewN | apply Gr.drew | apply Gr.alloc | apply Gr.gro))), c_e7.gr ((Gr.trans (by repeat (first | exact Gr.refl _ | apply Gr.drewN | apply Gr.drew | apply Gr.alloc | apply Gr.gro)) G1).trans (by repeat (first | exact Gr.refl _ | apply Gr.drewN | apply Gr.drew | apply Gr.alloc | apply Gr.gro))), c_e9.gr ((Gr.trans (by repeat (first | exact Gr.refl _ | apply Gr.drewN | apply Gr.drew | apply Gr.alloc | apply Gr.gro)) G1).trans (by repeat (first | exact Gr.refl _ | apply Gr.drewN | apply Gr.drew | apply Gr.alloc | apply Gr.gro))), S_p.gr ((Gr.trans (by repeat (first | exact Gr.refl _ | apply Gr.drewN | apply Gr.drew | apply Gr.alloc | apply Gr.gro)) G1).trans (by repeat (first | exact Gr.refl _ | apply Gr.drewN | apply Gr.drew | apply Gr.alloc | apply Gr.gro))), S_pa.gr ((Gr.trans (by repeat (first | exact Gr.refl _ | apply Gr.drewN | apply Gr.drew | apply Gr.alloc | apply Gr.gro)) G1).trans (by repeat (first | exact Gr.refl _ | apply Gr.drewN | apply Gr.drew | apply Gr.alloc | apply Gr.gro))), S1.gr (by repeat (first | exact Gr.refl _ | apply Gr.drewN | apply Gr.drew | apply Gr.alloc | apply Gr.gro))⟩
  clear HV
  obtain ⟨pu, nu, rfl, rfl, HV⟩ := hcut
  go_upto_region 12 with fail
  go_cut [14, 15] from 103 to 109 (fun a0 a1 wx => ∃ (px : Option Addr) (nx : Nat), a0 = .slice px (dl s) nx ∧ a1 = .bool true ∧ Hid (Gr w wx ∧ Cl wx (w.heap.size) a ∧ Cv wx e5 k p (dl m) n q ∧ Cl wx e7 u ∧ Cl wx e9 s ∧ Sl wx p m ∧ Sl wx pa a ∧ Sl wx pu u ∧ Sl wx px s))
  case first =>
    have ⟨G, c_w_heap_size, c_e5, c_e7, c_e9, S_p, S_pa, S_pu⟩ := HV.out
    have ⟨hc_w_heap_size, fc_w_heap_size, pc_w_heap_size⟩ := c_w_heap_size
    have ⟨hc_e5, fc_e5, pc_e5⟩ := c_e5
    have h0c_e5 := (c_e5).at0
    have h1c_e5 := (c_e5).at1
    have ⟨hc_e7, fc_e7, pc_e7⟩ := c_e7
    have ⟨hc_e9, fc_e9, pc_e9⟩ := c_e9
    go_wp2_with (go_at_call 31; refine (HSq.out p n _ pa na (S_pa.gr (by repeat (first | exact Gr.refl _ | apply Gr.drewN | apply Gr.drew | apply Gr.alloc | apply Gr.gro))) (S_p.gr (by repeat (first | exact Gr.refl _ | apply Gr.drewN | apply Gr.drew | apply Gr.alloc | apply Gr.gro)))).mono ?_; rintro e W1 ⟨px, nx, rfl, S1, G1⟩)
    go_meet
    exact ⟨px, nx, rfl, rfl, G.trans ((Gr.trans (by repeat (first | exact Gr.refl _ | apply Gr.drewN | apply Gr.drew | apply Gr.alloc | apply Gr.gro)) G1).trans (by repeat (first | exact Gr.refl _ | apply Gr.drewN | apply Gr.drew | apply Gr.alloc | apply Gr.gro))), c_w_heap_size.gr ((Gr.trans (by repeat (first | exact Gr.refl _ | apply Gr.drewN | apply Gr.drew | apply Gr.alloc | apply Gr.gro)) G1).trans (by repeat (first | exact Gr.refl _ | apply Gr.drewN | apply Gr.drew | apply Gr.alloc | apply Gr.gro))), c_e5.gr ((Gr.trans (by repeat (first | exact Gr.refl _ | apply Gr.drewN | apply Gr.drew | apply Gr.alloc | apply Gr.gro)) G1).trans (by repeat (first | exact Gr.refl _ | apply Gr.drewN | apply Gr.drew | apply Gr.alloc | apply Gr.gro))), c_e7.gr ((Gr.trans (by repeat (first | exact Gr.refl _ | apply Gr.drewN | apply Gr.drew | apply Gr.alloc | apply Gr.gro)) G1).trans (by repeat (first | exact Gr.refl _ | apply Gr.drewN | apply Gr.drew | apply Gr.alloc | apply Gr.gro))), c_e9.gr ((Gr.trans (by repeat (first | exact Gr.refl _ | apply Gr.drewN | apply Gr.drew | apply Gr.alloc | apply Gr.gro)) G1).trans (by repeat (first | exact Gr.refl _ | apply Gr.drewN | apply Gr.drew | apply Gr.alloc | apply Gr.gro))), S_p.gr ((Gr.trans (by repeat (first | exact Gr.refl _ | apply Gr.drewN | apply Gr.drew | apply Gr.alloc | apply Gr.gro)) G1).trans (by repeat (first | exact Gr.refl _ | apply Gr.drewN | apply Gr.drew | apply Gr.alloc | apply Gr.gro))), S_pa.gr ((Gr.trans (by repeat (first | exact Gr.refl _ | apply Gr.drewN | apply Gr.drew | apply Gr.alloc | apply Gr.gro)) G1).trans (by repeat (first | exact Gr.refl _ | apply Gr.drewN | apply Gr.drew | apply Gr.alloc | apply Gr.gro))), S_pu.gr ((Gr.trans (by repeat (first | exact Gr.refl _ | apply Gr.drewN | apply Gr.drew | apply Gr.alloc | apply Gr.gro)) G1).trans (by repeat (first | exact Gr.refl _ | apply Gr.drewN | apply Gr.drew | apply Gr.alloc | apply Gr.gro))), S1.gr (by repeat (first | exact Gr.refl _ | apply Gr.drewN | apply Gr.drew | apply Gr.alloc | apply Gr.gro))⟩
  clear HV
  obtain ⟨ps, ns, rfl, rfl, HV⟩ := hcut
  go_upto_region 13 with fail
  have ⟨G, c_w_heap_size, c_e5, c_e7, c_e9, S_p, S_pa, S_pu, S_ps⟩ := HV.out
  refine wp_region_pred (by kernel_rfl) (by kernel_rfl) [.c (.int .i64 0), .c (.int .i64 0), .c (.bool false), .c (.bool false), .c (.agg (nw 9 u)), .c (.slice pu (dl u) nu), .c (.agg (nw 9 u)), .c (.bool false), .c (.bool false)] ?hs ?hf
  case hs =>
    intro listed vals a1 vA i o hg hR hF ho hd
    have Hc_w_heap_size : blk vA (w.heap.size) = nw 9 a := (hg.blk _ c_w_heap_size.p).trans c_w_heap_size.h
    have Hc_e5 : blk vA e5 = cvA k p (dl m) n q := (hg.blk _ c_e5.p).trans c_e5.h
    have Hc_e7 : blk vA e7 = nw 9 u := (hg.blk _ c_e7.p).trans c_e7.h
    have Hc_e9 : blk vA e9 = nw 9 s := (hg.blk _ c_e9.p).trans c_e9.h
    have hi : i < 9 := by simpa using (Array.getElem?_eq_some_iff.1 ho).1
    obtain rfl | rfl | rfl | rfl | rfl | rfl | rfl | rfl | rfl : i = 0 ∨ i = 1 ∨ i = 2 ∨ i = 3 ∨ i = 4 ∨ i = 5 ∨ i = 6 ∨ i = 7 ∨ i = 8 := by omega
    · obtain rfl := Option.some.inj ho
      have f0 := hF.old (s := 8) (v := .int .i64 0) (by kernel_rfl) rfl
      refine Or.inl ⟨wanted_no rfl, ?_⟩
      exact wp_val (.int .i64 0) (by simp [go_sem, f0]) ⟨_, rfl, Gr.refl _, rfl⟩
    · obtain rfl := Option.some.inj ho
      have l0 := on_of hd 0 (by kernel_rfl)
      have f0 := hF.at (s := 110) (i := 0) (by kernel_rfl) (by simp) l0
      rw [show vals 0 = .int .i64 0 from hR 0 l0] at f0
      refine Or.inl ⟨wanted_no rfl, ?_⟩
      exact wp_ret (.int .i64 0) (by simp [go_sem, f0]) (num5_gr _ _) (fun w2 hg2 => ⟨_, rfl, hg2, rfl⟩)
    · obtain rfl := Option.some.inj ho
      have l0 := on_of hd 1 (by kernel_rfl)
      have f0 := hF.at (s := 111) (i := 1) (by kernel_rfl) (by simp) l0
      rw [show vals 1 = .int .i64 0 from hR 1 l0] at f0
      refine Or.inl ⟨wanted_no rfl, ?_⟩
      exact wp_val (.bool false) (by simp [go_sem, f0]) ⟨_, rfl, Gr.refl _, rfl⟩
    · obtain rfl := Option.some.inj ho
      have l0 := on_of hd 2 (by kernel_rfl)
      have f0 := hF.at (s := 112) (i := 2) (by kernel_rfl) (by simp) l0
      rw [show vals 2 = .bool false from hR 2 l0] at f0
      refine Or.inl ⟨wanted_no rfl, ?_⟩
      exact wp_val (.bool false) (by simp [go_sem, f0]) ⟨_, rfl, Gr.refl _, rfl⟩
    · obtain rfl := Option.some.inj ho
      have lg := on_of hd 3 (by kernel_rfl)
      have fg := hF.at (s := 113) (i := 3) (by kernel_rfl) (by simp) lg
      rw [show vals 3 = .bool false from hR 3 lg] at fg
      have f0 := hF.old (s := 7) (v := .pointer (some ⟨e7, 0, none⟩)) (by kernel_rfl) rfl
      refine Or.inl ⟨wanted_at (j := 3) (s := 113) rfl rfl rfl fg, ?_⟩
      exact wp_val (.agg (nw 9 u)) (by simp [go_sem, f0, Hc_e7]) ⟨_, rfl, Gr.refl _, rfl⟩
    · obtain rfl := Option.some.inj ho
      have lg := on_of hd 3 (by kernel_rfl)
      have fg := hF.at (s := 113) (i := 3) (by kernel_rfl) (by simp) lg
      rw [show vals 3 = .bool false from hR 3 lg] at fg
      have f0 := hF.old (s := 12) (v := .slice pu (dl u) nu) (by kernel_rfl) rfl
      refine Or.inl ⟨wanted_at (j := 3) (s := 113) rfl rfl rfl fg, ?_⟩
      exact wp_val (.slice pu (dl u) nu) (by simp [go_sem, f0]) ⟨_, rfl, Gr.refl _, rfl⟩
    · obtain rfl := Option.some.inj ho
      have lg := on_of hd 3 (by kernel_rfl)
      have fg := hF.at (s := 113) (i := 3) (by kernel_rfl) (by simp) lg
      rw [show vals 3 = .bool false from hR 3 lg] at fg
      have l0 := on_of hd 5 (by kernel_rfl)
      have f0 := hF.at (s := 115) (i := 5) (by kernel_rfl) (by simp) l0
      rw [show vals 5 = .slice pu (dl u) nu from hR 5 l0] at f0
      refine Or.inl ⟨wanted_at (j := 3) (s := 113) rfl rfl rfl fg, ?_⟩
      exact wp_ret (.agg (nw 9 u)) (by simp [go_sem, f0]) (HNu.out _ pu nu (S_pu.gr hg)) (fun w2 hg2 => ⟨_, rfl, hg2, rfl⟩)
    · obtain rfl := Option.some.inj ho
      have lg := on_of hd 3 (by kernel_rfl)
      have fg := hF.at (s := 113) (i := 3) (by kernel_rfl) (by simp) lg
      rw [show vals 3 = .bool false from hR 3 lg] at fg
      have l0 := on_of hd 4 (by kernel_rfl)
      have f0 := hF.at (s := 114) (i := 4) (by kernel_rfl) (by simp) l0
      rw [show vals 4 = .agg (nw 9 u) from hR 4 l0] at f0
      have l1 := on_of hd 6 (by kernel_rfl)
      have f1 := hF.at (s := 116) (i := 6) (by kernel_rfl) (by simp) l1
      rw [show vals 6 = .agg (nw 9 u) from hR 6 l1] at f1
      refine Or.inl ⟨wanted_at (j := 3) (s := 113) rfl rfl rfl fg, ?_⟩
      exact wp_val (.bool false) (by simp [go_sem, f0, f1, eqN_self]) ⟨_, rfl, Gr.refl _, rfl⟩
    · obtain rfl := Option.some.inj ho
      have l0 := on_of hd 3 (by kernel_rfl)
      have f0 := hF.at (s := 113) (i := 3) (by kernel_rfl) (by simp) l0
      rw [show vals 3 = .bool false from hR 3 l0] at f0
      have l1 := on_of hd 7 (by kernel_rfl)
      have f1 := hF.at (s := 117) (i := 7) (by kernel_rfl) (by simp) l1
      rw [show vals 7 = .bool false from hR 7 l1] at f1
      refine Or.inl ⟨wanted_no rfl, ?_⟩
      exact wp_val (.bool false) (by simp [go_sem, f0, f1]) ⟨_, rfl, Gr.refl _, rfl⟩
  case hf =>
    intro vals vA hg hR
    have x0 : vals 0 = .int .i64 0 := hR 0 (by simp)
    have x1 : vals 1 = .int .i64 0 := hR 1 (by simp)
    have x2 : vals 2 = .bool false := hR 2 (by simp)
    have x3 : vals 3 = .bool false := hR 3 (by simp)
    have x4 : vals 4 = .agg (nw 9 u) := hR 4 (by simp)
    have x5 : vals 5 = .slice pu (dl u) nu := hR 5 (by simp)
    have x6 : vals 6 = .agg (nw 9 u) := hR 6 (by simp)
    have x7 : vals 7 = .bool false := hR 7 (by simp)
    have x8 : vals 8 = .bool false := hR 8 (by simp)
    simp only [putFrom, Act.put, List.setIfInBounds_toArray, List.set_cons_zero, List.set_cons_succ, x0, x1, x2, x3, x4, x5, x6, x7, x8]
    clear hR x0 x1 x2 x3 x4 x5 x6 x7 x8
    have HV : Hid (Gr w vA ∧ Cl vA (w.heap.size) a ∧ Cv vA e5 k p (dl m) n q ∧ Cl vA e7 u ∧ Cl vA e9 s ∧ Sl vA p m ∧ Sl vA pa a ∧ Sl vA pu u ∧ Sl vA ps s) := ⟨G.trans hg, c_w_heap_size.gr hg, c_e5.gr hg, c_e7.gr hg, c_e9.gr hg, S_p.gr hg, S_pa.gr hg, S_pu.gr hg, S_ps.gr hg⟩
    clear hg
    go_upto_region 17 with fail
    have ⟨G, c_w_heap_size, c_e5, c_e7, c_e9, S_p, S_pa, S_pu, S_ps⟩ := HV.out
    refine wp_region_pred (by kernel_rfl) (by kernel_rfl) [.c (.int .i64 0), .c (.int .i64 0), .c (.bool true), .c (.bool true), .c (.agg (nw 9 s)), .c (.slice ps (dl s) ns), .c (.agg (nw 9 s)), .c (.bool true), .c (.bool true), .c (.bool true), .c (.bool true), .c (.bool true), .c (.bool true)] ?hs ?hf
    case hs =>
      intro listed vals a1 vB i o hg hR hF ho hd
      have Hc_w_heap_size : blk vB (w.heap.size) = nw 9 a := (hg.blk _ c_w_heap_size.p).trans c_w_heap_size.h
      have Hc_e5 : blk vB e5 = cvA k p (dl m) n q := (hg.blk _ c_e5.p).trans c_e5.h
      have Hc_e7 : blk vB e7 = nw 9 u := (hg.blk _ c_e7.p).trans c_e7.h
      have Hc_e9 : blk vB e9 = nw 9 s := (hg.blk _ c_e9.p).trans c_e9.h
      have hi : i < 13 := by simpa using (Array.getElem?_eq_some_iff.1 ho).1
      obtain rfl | rfl | rfl | rfl | rfl | rfl | rfl | rfl | rfl | rfl | rfl | rfl | rfl : i = 0 ∨ i = 1 ∨ i = 2 ∨ i = 3 ∨ i = 4 ∨ i = 5 ∨ i = 6 ∨ i = 7 ∨ i = 8 ∨ i = 9 ∨ i = 10 ∨ i = 11 ∨ i = 12 := by omega
      · obtain rfl := Option.some.inj ho
        have f0 := hF.old (s := 10) (v := .int .i64 0) (by kernel_rfl) rfl
        refine Or.inl ⟨wanted_no rfl, ?_⟩
        exact wp_val (.int .i64 0) (by simp [go_sem, f0]) ⟨_, rfl, Gr.refl _, rfl⟩
      · obtain rfl := Option.some.inj ho
        have l0 := on_of hd 0 (by kernel_rfl)
        have f0 := hF.at (s := 132) (i := 0) (by kernel_rfl) (by simp) l0
        rw [show vals 0 = .int .i64 0 from hR 0 l0] at f0
        refine Or.inl ⟨wanted_no rfl, ?_⟩
        exact wp_ret (.int .i64 0) (by simp [go_sem, f0]) (num5_gr _ _) (fun w2 hg2 => ⟨_, rfl, hg2, rfl⟩)
      · obtain rfl := Option.some.inj ho
        have l0 := on_of hd 1 (by kernel_rfl)
        have f0 := hF.at (s := 133) (i := 1) (by kernel_rfl) (by simp) l0
        rw [show vals 1 = .int .i64 0 from hR 1 l0] at f0
        refine Or.inl ⟨wanted_no rfl, ?_⟩
        exact wp_val (.bool true) (by simp [go_sem, f0]) ⟨_, rfl, Gr.refl _, rfl⟩
      · obtain rfl := Option.some.inj ho
        have l0 := on_of hd 2 (by kernel_rfl)
        have f0 := hF.at (s := 134) (i := 2) (by kernel_rfl) (by simp) l0
        rw [show vals 2 = .bool true from hR 2 l0] at f0
        refine Or.inl ⟨wanted_no rfl, ?_⟩
        exact wp_val (.bool true) (by simp [go_sem, f0]) ⟨_, rfl, Gr.refl _, rfl⟩
      · obtain rfl := Option.some.inj ho
        have lg := on_of hd 3 (by kernel_rfl)
        have fg := hF.at (s := 135) (i := 3) (by kernel_rfl) (by simp) lg
        rw [show vals 3 = .bool true from hR 3 lg] at fg
        have f0 := hF.old (s := 9) (v := .pointer (some ⟨e9, 0, none⟩)) (by kernel_rfl) rfl
        refine Or.inl ⟨wanted_at (j := 3) (s := 135) rfl rfl rfl fg, ?_⟩
        exact wp_val (.agg (nw 9 s)) (by simp [go_sem, f0, Hc_e9]) ⟨_, rfl, Gr.refl _, rfl⟩
      · obtain rfl := Option.some.inj ho
        have lg := on_of hd 3 (by kernel_rfl)
        have fg := hF.at (s := 135) (i := 3) (by kernel_rfl) (by simp) lg
        rw [show vals 3 = .bool true from hR 3 lg] at fg
        have f0 := hF.old (s := 14) (v := .slice ps (dl s) ns) (by kernel_rfl) rfl
        refine Or.inl ⟨wanted_at (j := 3) (s := 135) rfl rfl rfl fg, ?_⟩
        exact wp_val (.slice ps (dl s) ns) (by simp [go_sem, f0]) ⟨_, rfl, Gr.refl _, rfl⟩
      · obtain rfl := Option.some.inj ho
        have lg := on_of hd 3 (by kernel_rfl)
        have fg := hF.at (s := 135) (i := 3) (by kernel_rfl) (by simp) lg
        rw [show vals 3 = .bool true from hR 3 lg] at fg
        have l0 := on_of hd 5 (by kernel_rfl)
        have f0 := hF.at (s := 137) (i := 5) (by kernel_rfl) (by simp) l0
        rw [show vals 5 = .slice ps (dl s) ns from hR 5 l0] at f0
        refine Or.inl ⟨wanted_at (j := 3) (s := 135) rfl rfl rfl fg, ?_⟩
        exact wp_ret (.agg (nw 9 s)) (by simp [go_sem, f0]) (HNs.out _ ps ns (S_ps.gr hg)) (fun w2 hg2 => ⟨_, rfl, hg2, rfl⟩)
      · obtain rfl := Option.some.inj ho
        have lg := on_of hd 3 (by kernel_rfl)
        have fg := hF.at (s := 135) (i := 3) (by kernel_rfl) (by simp) lg
        rw [show vals 3 = .bool true from hR 3 lg] at fg
        have l0 := on_of hd 4 (by kernel_rfl)
        have f0 := hF.at (s := 136) (i := 4) (by kernel_rfl) (by simp) l0
        rw [show vals 4 = .agg (nw 9 s) from hR 4 l0] at f0
        have l1 := on_of hd 6 (by kernel_rfl)
        have f1 := hF.at (s := 138) (i := 6) (by kernel_rfl) (by simp) l1
        rw [show vals 6 = .agg (nw 9 s) from hR 6 l1] at f1
        refine Or.inl ⟨wanted_at (j := 3) (s := 135) rfl rfl rfl fg, ?_⟩
        exact wp_val (.bool true) (by simp [go_sem, f0, f1, eqN_self]) ⟨_, rfl, Gr.refl _, rfl⟩
      · obtain rfl := Option.some.inj ho
        have l0 := on_of hd 3 (by kernel_rfl)
        have f0 := hF.at (s := 135) (i := 3) (by kernel_rfl) (by simp) l0
        rw [show vals 3 = .bool true from hR 3 l0] at f0
        have l1 := on_of hd 7 (by kernel_rfl)
        have f1 := hF.at (s := 139) (i := 7) (by kernel_rfl) (by simp) l1
        rw [show vals 7 = .bool true from hR 7 l1] at f1
        refine Or.inl ⟨wanted_no rfl, ?_⟩
        exact wp_val (.bool true) (by simp [go_sem, f0, f1]) ⟨_, rfl, Gr.refl _, rfl⟩
      · obtain rfl := Option.some.inj ho
        have l0 := on_of hd 8 (by kernel_rfl)
        have f0 := hF.at (s := 140) (i := 8) (by kernel_rfl) (by simp) l0
        rw [show vals 8 = .bool true from hR 8 l0] at f0
        refine Or.inl ⟨wanted_no rfl, ?_⟩
        exact wp_val (.bool true) (by simp [go_sem, f0]) ⟨_, rfl, Gr.refl _, rfl⟩
      · obtain rfl := Option.some.inj ho
        have lg := on_of hd 9 (by kernel_rfl)
        have fg := hF.at (s := 141) (i := 9) (by kernel_rfl) (by simp) lg
        rw [show vals 9 = .bool true from hR 9 lg] at fg
        refine Or.inl ⟨wanted_at (j := 9) (s := 141) rfl rfl rfl fg, ?_⟩
        exact wp_ret (.bool true) (by simp [go_sem]) (AW.out _) (fun w2 hg2 => ⟨_, rfl, hg2, rfl⟩)
      · obtain rfl := Option.some.inj ho
        have l0 := on_of hd 9 (by kernel_rfl)
        have f0 := hF.at (s := 141) (i := 9) (by kernel_rfl) (by simp) l0
        rw [show vals 9 = .bool true from hR 9 l0] at f0
        have l1 := on_of hd 10 (by kernel_rfl)
        have f1 := hF.at (s := 142) (i := 10) (by kernel_rfl) (by simp) l1
        rw [show vals 10 = .bool true from hR 10 l1] at f1
        refine Or.inl ⟨wanted_no rfl, ?_⟩
        exact wp_val (.bool true) (by simp [go_sem, f0, f1]) ⟨_, rfl, Gr.refl _, rfl⟩
      · obtain rfl := Option.some.inj ho
        have l0 := on_of hd 11 (by kernel_rfl)
        have f0 := hF.at (s := 143) (i := 11) (by kernel_rfl) (by simp) l0
        rw [show vals 11 = .bool true from hR 11 l0] at f0
        refine Or.inl ⟨wanted_no rfl, ?_⟩
        exact wp_val (.bool true) (by simp [go_sem, f0]) ⟨_, rfl, Gr.refl _, rfl⟩
    case hf =>
      intro vals vB hg hR
      have x0 : vals 0 = .int .i64 0 := hR 0 (by simp)
      have x1 : vals 1 = .int .i64 0 := hR 1 (by simp)
      have x2 : vals 2 = .bool true := hR 2 (by simp)
      have x3 : vals 3 = .bool true := hR 3 (by simp)
      have x4 : vals 4 = .agg (nw 9 s) := hR 4 (by simp)
      have x5 : vals 5 = .slice ps (dl s) ns := hR 5 (by simp)
      have x6 : vals 6 = .agg (nw 9 s) := hR 6 (by simp)
      have x7 : vals 7 = .bool true := hR 7 (by simp)
      have x8 : vals 8 = .bool true := hR 8 (by simp)
      have x9 : vals 9 = .bool true := hR 9 (by simp)
      have x10 : vals 10 = .bool true := hR 10 (by simp)
      have x11 : vals 11 = .bool true := hR 11 (by simp)
      have x12 : vals 12 = .bool true := hR 12 (by simp)
      simp only [putFrom, Act.put, List.setIfInBounds_toArray, List.set_cons_zero, List.set_cons_succ, x0, x1, x2, x3, x4, x5, x6, x7, x8, x9, x10, x11, x12]
      clear hR x0 x1 x2 x3 x4 x5 x6 x7 x8 x9 x10 x11 x12
      have HG : Gr w vB := G.trans hg
      clear hg
      go_wp2_with fail
      go_ret
      exact ⟨rfl, HG⟩

end Go.Proofs.Ytkmpholjlophpaa
namespace Go.Proofs.Ytkmpholjlophpaa
open Go.RowKit
attribute [local go_sem ↓] loadNat_is loadArr_is loadWide_is loadArrW_is storeNat_is storeWide_is
attribute [local go_sem] loadNat loadArr loadWide loadArrW storeNat storeWide idxArr fold9 fold18 nw_size nw_elem pre_self pre_1 pre_2 pre_3 pre_4 pre_5 pre_6 pre_7 pre_8 pre_9 pre_10 pre_11 pre_12 pre_13 pre_14 pre_15 pre_16 pre_17 pre_18 pre_19 pre_20 pre_21 pre_22 pre_23 pre_24 pre_25 pre_26 pre_27 pre_28 pre_29 pre_30 pre_31 pre_32 pre_33 pre_34 pre_35 pre_36 pre_37 pre_38 pre_39 pre_40 gro_size gro_drew gro_drewN drew_gro drewN_gro gro_gro blk_gro frz_gro blk_drew frz_drew blk_drewN frz_drewN blk_alloc_at frz_alloc_at blk_alloc frz_alloc cell_gro frozen_gro cell_alloc_pre frozen_alloc_pre setCell_drewN alloc_drewN setBlk_drew setBlk_drewN setBlk_alloc_at setBlk_alloc setBlk_gro setCell_gro setCell_alloc_pre size_setBlk size_setCell
attribute [local go_sem] nw_ext9 nw_ext18 eqArr9 eqArr18

attribute [local go_sem] loadNat2 loadArr2 loadWide2 loadK_nw ppre_1 ppre_2 ppre_3 ppre_4 ppre_5 ppre_6 ppre_7 ppre_8 ppre_9 ppre_10 ppre_11 ppre_12 ppre_13 ppre_14 ppre_15 ppre_16 ppre_17 ppre_18 ppre_19 ppre_20

attribute [local go_sem ↓] loadC_is storeC_is Go.wp_at_zero Go.wp_at_succ
attribute [local go_sem] eqN_self loadC storeCv storeC0 cvA_size frz_setBlk blk_setBlk setBlk_setBlk blk_other
set_option maxRecDepth 100000 in
set_option maxHeartbeats 4000000 in
theorem froots_none (k a : Nat) (h1 : 1 ≤ k) (h2 : k ≤ 15) (ha : a < M) (hc : a < pN k) (h0 : a ≠ 0) (he : a ^ ((pN k - 1) / 2) % pN k ≠ 1) (w : World) :
    Calls Try.prog 4 #[.int .i64 (k : Int), .agg (nw 9 a)] w fun e w' => e = .returned (.bool true) ∧ Gr w w' := by
  have HO : ∀ w, Calls Try.prog 13 #[.int .i64 (k : Int)] w fun e w' => ∃ p n q, e = .returned (.tuple #[.agg (cvA (k : Int) p (dl (pN k)) n q), .bool true]) ∧ Sl w' p (pN k) ∧ Gr w w' := fun w => get_yes k h1 h2 w
  have hB := pN_bd k h1 h2
  have hdl := pN_dl k h1 h2
  have hprm := prm_pN k h1 h2
  obtain ⟨m, hm⟩ : ∃ m, pN k = m := ⟨_, rfl⟩
  have FA := fun a b ha hb w => fAdd_ok k a b h1 h2 ha hb w
  have FSu := fun a b ha hb w => fSub_ok k a b h1 h2 ha hb w
  have FR := fun W hW w => fReduce_ok k W h1 h2 hW w
  have FM := fun a b ha hb w => fMul_ok k a b h1 h2 ha hb w
  have FI := fun a h0 ha hg => fInv_ok k a h1 h2 h0 ha hg
  have FZ := fun w => fInv_zero k h1 h2 w
  rw [hm] at hB hdl hprm FA FSu FR FM FI HO
  have hda := dl_M a ha
  have FQ1 := fun a ha w => fSqrt_ok k a h1 h2 ha w
  rw [hm] at FQ1
  have HFa : Hid (∀ w, Calls Try.prog 23 #[.agg (nw 9 a)] w (Nm a w)) := fun w => from_any a ha w
  obtain ⟨z1, hz1⟩ : ∃ z, cmpZ a m = z := ⟨_, rfl⟩
  have HCa : Hid (∀ (p : Option Addr) (n : Nat) w' p' k, Sl w' p' a → Sl w' p m → Calls Try.prog 24 #[.slice p' (dl a) k, .slice p (dl m) n] w' fun e w'' => e = .returned (.int .i64 z1) ∧ Gr w' w'') := fun p n w' p' k h h' => hz1 ▸ rcmp_any a m k n p' p w' h h' (by omega) (by omega)
  rw [hm] at hc
  have q1 : z1 < 0 := by rw [← hz1]; unfold cmpZ; rw [if_pos hc]; decide
  have hl0 : dl a ≠ 0 := fun e => h0 (dl_eq_zero a e)
  have hl1 : ¬ ((dl a : Nat) : Int) = 0 := by omega
  have hl2 : (((dl a : Nat) : Int) == 0) = false := by rw [beq_eq_false_iff_ne]; exact hl1
  obtain ⟨u, hum, hau, ci⟩ := FI a (by omega) hc (hprm.cop (not_dvd h0 hc))
  have HIv : Hid (∀ (p : Option Addr) (n : Nat) w' p' k, Sl w' p' a → Sl w' p m → Calls Try.prog 30 #[.slice p' (dl a) k, .slice p (dl m) n] w' (Nt u true w')) := fun p n w' p' k h h' => inv_pN a m u hprm hdl h0 hc hum hau p' p k n w' h h'
  have HNu : Hid (∀ w' p' k, Sl w' p' u → Calls Try.prog 20 #[.slice p' (dl u) k] w' fun e w'' => e = .returned (.agg (nw 9 u)) ∧ Gr w' w'') := fun w' p' k h => rnat_any u k p' w' h
  have hsp := sq_none k a (fun h => he ((sq_iff k a h1 h2 h0 (by omega)).1 h))
  rw [hm] at he
  have HSq : Hid (∀ (p : Option Addr) (n : Nat) w' p' k, Sl w' p' a → Sl w' p m → Calls Try.prog 31 #[.slice p' (dl a) k, .slice p (dl m) n] w' fun e w'' => e = .returned (.tuple #[.slice none 0 0, .bool false]) ∧ Gr w' w'') := fun p n w' p' k h h' => sqrt_none_pN a m hprm hB.2.2 hdl h0 hc he p' p k n w' h h'
  have AW : Hid (∀ w', Calls Try.prog 19 #[] w' fun e w'' => e = .returned (.bool true) ∧ Gr w' w'') := fun w => awake5_any w
  have I1 : Hid (∀ w', Calls Try.prog 28 #[.int .i64 k, .agg (nw 9 a)] w' fun e w'' => e = .returned (.tuple #[.agg (nw 9 u), .int .i64 0]) ∧ Gr w' w'') := ci
  have Q1 : Hid (∀ w', Calls Try.prog 29 #[.int .i64 k, .agg (nw 9 a)] w' fun e w'' => e = .returned (.tuple #[.agg (nw 9 0), .int .i64 503]) ∧ Gr w' w'') := fun w => by
    have := FQ1 a hc w
    rw [hsp.1, hsp.2] at this
    exact this
  have HO' : Hid (∀ w, Calls Try.prog 13 #[.int .i64 (k : Int)] w fun e w' => ∃ p n q, e = .returned (.tuple #[.agg (cvA (k : Int) p (dl m) n q), .bool true]) ∧ Sl w' p m ∧ Gr w w') := HO
  clear HO FA FSu FR FM FI FZ hprm hB hdl hm h1 h2 hda FQ1 ha hc h0 hl0 hum hau ci hsp he
  go_enter Try.func4, Try.ntmps4
  go_upto_region 1 with fail
  refine gen_w (fun v => Hid (Gr w v ∧ Cl v w.heap.size a)) ⟨(by repeat (first | exact Gr.refl _ | apply Gr.drewN | apply Gr.drew | apply Gr.alloc | apply Gr.gro)), ⟨by simp [go_sem], by simp [go_sem], by simp [go_sem]⟩⟩ ?_
  intro v0 HV
  go_cut [5, 6] from 16 to 20 (fun a0 a1 wx => ∃ (e5 : Nat) (p : Option Addr) (n : Nat) (q : Nat → Option Addr × Nat × Nat), a0 = .pointer (some ⟨e5, 0, none⟩) ∧ a1 = .bool true ∧ Hid (Gr w wx ∧ Cl wx (w.heap.size) a ∧ Cv wx e5 k p (dl m) n q ∧ Sl wx p m))
  case first =>
    have ⟨G, c0⟩ := HV.out
    go_wp2_with (go_at_call 13; refine (HO'.out _).mono ?_; rintro e W1 ⟨p, n, q, rfl, S1, G1⟩)
    go_meet
    exact ⟨_, p, n, q, rfl, rfl, G.trans (G1.trans (by repeat (first | exact Gr.refl _ | apply Gr.drewN | apply Gr.drew | apply Gr.alloc | apply Gr.gro))), c0.gr (G1.trans (by repeat (first | exact Gr.refl _ | apply Gr.drewN | apply Gr.drew | apply Gr.alloc | apply Gr.gro))), ⟨by simp [go_sem], by simp [go_sem], by simp [go_sem]⟩, S1.gr (by repeat (first | exact Gr.refl _ | apply Gr.drewN | apply Gr.drew | apply Gr.alloc | apply Gr.gro))⟩
  clear HV
  obtain ⟨e5, p, n, q, rfl, rfl, HV⟩ := hcut
  go_upto_region 2 with fail
  go_cut [7, 8] from 21 to 26 (fun a0 a1 wx => ∃ e7 : Nat, a0 = .pointer (some ⟨e7, 0, none⟩) ∧ a1 = .int .i64 0 ∧ Hid (Gr w wx ∧ Cl wx (w.heap.size) a ∧ Cv wx e5 k p (dl m) n q ∧ Cl wx e7 u ∧ Sl wx p m))
  case first =>
    have ⟨G, c_w_heap_size, c_e5, S_p⟩ := HV.out
    have ⟨hc_w_heap_size, fc_w_heap_size, pc_w_heap_size⟩ := c_w_heap_size
    have ⟨hc_e5, fc_e5, pc_e5⟩ := c_e5
    have h0c_e5 := (c_e5).at0
    have h1c_e5 := (c_e5).at1
    go_wp2_with (first
        | (go_at_call_of 28 ((#[.int .i64 k, .agg (nw 9 a)] : Array Value)); refine (I1.out _).mono ?_; rintro e w' ⟨rfl, g1, rfl⟩)
        | (go_at_call 18; refine (num_any _ _).mono ?_; rintro e w' ⟨rfl, rfl⟩))
    go_meet
    exact ⟨_, rfl, rfl, G.trans (by repeat (first | exact Gr.refl _ | apply Gr.drewN | apply Gr.drew | apply Gr.alloc | apply Gr.gro)), c_w_heap_size.gr (by repeat (first | exact Gr.refl _ | apply Gr.drewN | apply Gr.drew | apply Gr.alloc | apply Gr.gro)), c_e5.gr (by repeat (first | exact Gr.refl _ | apply Gr.drewN | apply Gr.drew | apply Gr.alloc | apply Gr.gro)), ⟨by simp [go_sem], by simp [go_sem], by simp [go_sem]⟩, S_p.gr (by repeat (first | exact Gr.refl _ | apply Gr.drewN | apply Gr.drew | apply Gr.alloc | apply Gr.gro))⟩
  clear HV
  obtain ⟨e7, rfl, rfl, HV⟩ := hcut
  go_upto_region 3 with fail
  go_cut [9, 10] from 27 to 32 (fun a0 a1 wx => ∃ e9 : Nat, a0 = .pointer (some ⟨e9, 0, none⟩) ∧ a1 = .int .i64 503 ∧ Hid (Gr w wx ∧ Cl wx (w.heap.size) a ∧ Cv wx e5 k p (dl m) n q ∧ Cl wx e7 u ∧ Cl wx e9 0 ∧ Sl wx p m))
  case first =>
    have ⟨G, c_w_heap_size, c_e5, c_e7, S_p⟩ := HV.out
    have ⟨hc_w_heap_size, fc_w_heap_size, pc_w_heap_size⟩ := c_w_heap_size
    have ⟨hc_e5, fc_e5, pc_e5⟩ := c_e5
    have h0c_e5 := (c_e5).at0
    have h1c_e5 := (c_e5).at1
    have ⟨hc_e7, fc_e7, pc_e7⟩ := c_e7
    go_wp2_with (first
        | (go_at_call_of 29 ((#[.int .i64 k, .agg (nw 9 a)] : Array Value)); refine (Q1.out _).mono ?_; rintro e w' ⟨rfl, g2, rfl⟩)
        | (go_at_call 18; refine (num_any _ _).mono ?_; rintro e w' ⟨rfl, rfl⟩))
    go_meet
    exact ⟨_, rfl, rfl, G.trans (by repeat (first | exact Gr.refl _ | apply Gr.drewN | apply Gr.drew | apply Gr.alloc | apply Gr.gro)), c_w_heap_size.gr (by repeat (first | exact Gr.refl _ | apply Gr.drewN | apply Gr.drew | apply Gr.alloc | apply Gr.gro)), c_e5.gr (by repeat (first | exact Gr.refl _ | apply Gr.drewN | apply Gr.drew | apply Gr.alloc | apply Gr.gro)), c_e7.gr (by repeat (first | exact Gr.refl _ | apply Gr.drewN | apply Gr.drew | apply Gr.alloc | apply Gr.gro)), ⟨by simp [go_sem], by simp [go_sem], by simp [go_sem]⟩, S_p.gr (by repeat (first | exact Gr.refl _ | apply Gr.drewN | apply Gr.drew | apply Gr.alloc | apply Gr.gro))⟩
  clear HV
  obtain ⟨e9, rfl, rfl, HV⟩ := hcut
  go_upto_region 4 with fail
  go_cut [11] from 33 to 34 (fun a0 wx => ∃ (px : Option Addr) (nx : Nat), a0 = .slice px (dl a) nx ∧ Hid (Gr w wx ∧ Cl wx (w.heap.size) a ∧ Cv wx e5 k p (dl m) n q ∧ Cl wx e7 u ∧ Cl wx e9 0 ∧ Sl wx p m ∧ Sl wx px a))
  case first =>
    have ⟨G, c_w_heap_size, c_e5, c_e7, c_e9, S_p⟩ := HV.out
    have ⟨hc_w_heap_size, fc_w_heap_size, pc_w_heap_size⟩ := c_w_heap_size
    have ⟨hc_e5, fc_e5, pc_e5⟩ := c_e5
    have h0c_e5 := (c_e5).at0
    have h1c_e5 := (c_e5).at1
    have ⟨hc_e7, fc_e7, pc_e7⟩ := c_e7
    have ⟨hc_e9, fc_e9, pc_e9⟩ := c_e9
    go_wp2_with (go_at_call 23; refine (HFa.out _).mono ?_; rintro e W1 ⟨px, nx, rfl, S1, G1⟩)
    go_meet
    exact ⟨px, nx, rfl, G.trans ((Gr.trans (by repeat (first | exact Gr.refl _ | apply Gr.drewN | apply Gr.drew | apply Gr.alloc | apply Gr.gro)) G1).trans (by repeat (first | exact Gr.refl _ | apply Gr.drewN | apply Gr.drew | apply Gr.alloc | apply Gr.gro))), c_w_heap_size.gr ((Gr.trans (by repeat (first | exact Gr.refl _ | apply Gr.drewN | apply Gr.drew | apply Gr.alloc | apply Gr.gro)) G1).trans (by repeat (first | exact Gr.refl _ | apply Gr.drewN | apply Gr.drew | apply Gr.alloc | apply Gr.gro))), c_e5.gr ((Gr.trans (by repeat (first | exact Gr.refl _ | apply Gr.drewN | apply Gr.drew | apply Gr.alloc | apply Gr.gro)) G1).trans (by repeat (first | exact Gr.refl _ | apply Gr.drewN | apply Gr.drew | apply Gr.alloc | apply Gr.gro))), c_e7.gr ((Gr.trans (by repeat (first | exact Gr.refl _ | apply Gr.drewN | apply Gr.drew | apply Gr.alloc | apply Gr.gro)) G1).trans (by repeat (first | exact Gr.refl _ | apply Gr.drewN | apply Gr.drew | apply Gr.alloc | apply Gr.gro))), c_e9.gr ((Gr.trans (by repeat (first | exact Gr.refl _ | apply Gr.drewN | apply Gr.drew | apply Gr.alloc | apply Gr.gro)) G1).trans (by repeat (first | exact Gr.refl _ | apply Gr.drewN | apply Gr.drew | apply Gr.alloc | apply Gr.gro))), S_p.gr ((Gr.trans (by repeat (first | exact Gr.refl _ | apply Gr.drewN | apply Gr.drew | apply Gr.alloc | apply Gr.gro)) G1).trans (by repeat (first | exact Gr.refl _ | apply Gr.drewN | apply Gr.drew | apply Gr.alloc | apply Gr.gro))), S1.gr (by repeat (first | exact Gr.refl _ | apply Gr.drewN | apply Gr.drew | apply Gr.alloc | apply Gr.gro))⟩
  clear HV
  obtain ⟨pa, na, rfl, HV⟩ := hcut
  have ⟨G, c_w_heap_size, c_e5, c_e7, c_e9, S_p, S_pa⟩ := HV.out
  have ⟨hc_w_heap_size, fc_w_heap_size, pc_w_heap_size⟩ := c_w_heap_size
  have ⟨hc_e5, fc_e5, pc_e5⟩ := c_e5
  have h0c_e5 := (c_e5).at0
  have h1c_e5 := (c_e5).at1
  have ⟨hc_e7, fc_e7, pc_e7⟩ := c_e7
  have ⟨hc_e9, fc_e9, pc_e9⟩ := c_e9
  go_upto_region 11 with (go_at_call 24; refine (HCa.out p n _ pa na ?_ ?_).mono ?_; exact S_pa.gr (by repeat (first | exact Gr.refl _ | apply Gr.drewN | apply Gr.drew | apply Gr.alloc | apply Gr.gro)); exact S_p.gr (by repeat (first | exact Gr.refl _ | apply Gr.drewN | apply Gr.drew | apply Gr.alloc | apply Gr.gro)); rintro e w' ⟨rfl, gc1, rfl⟩)
  refine gen_w (fun v => Hid (Gr w v ∧ Cl v (w.heap.size) a ∧ Cv v e5 k p (dl m) n q ∧ Cl v e7 u ∧ Cl v e9 0 ∧ Sl v p m ∧ Sl v pa a)) ⟨G.trans (by repeat (first | exact Gr.refl _ | apply Gr.drewN | apply Gr.drew | apply Gr.alloc | apply Gr.gro)), c_w_heap_size.gr (by repeat (first | exact Gr.refl _ | apply Gr.drewN | apply Gr.drew | apply Gr.alloc | apply Gr.gro)), c_e5.gr (by repeat (first | exact Gr.refl _ | apply Gr.drewN | apply Gr.drew | apply Gr.alloc | apply Gr.gro)), c_e7.gr (by repeat (first | exact Gr.refl _ | apply Gr.drewN | apply Gr.drew | apply Gr.alloc | apply Gr.gro)), c_e9.gr (by repeat (first | exact Gr.refl _ | apply Gr.drewN | apply Gr.drew | apply Gr.alloc | apply Gr.gro)), S_p.gr (by repeat (first | exact Gr.refl _ | apply Gr.drewN | apply Gr.drew | apply Gr.alloc | apply Gr.gro)), S_pa.gr (by repeat (first | exact Gr.refl _ | apply Gr.drewN | apply Gr.drew | apply Gr.alloc | apply Gr.gro))⟩ ?_
  clear HV G c_w_heap_size c_e5 c_e7 c_e9 S_p S_pa
  intro vC HV
  go_cut [12, 13] from 96 to 102 (fun a0 a1 wx => ∃ (px : Option Addr) (nx : Nat), a0 = .slice px (dl u) nx ∧ a1 = .bool true ∧ Hid (Gr w wx ∧ Cl wx (w.heap.size) a ∧ Cv wx e5 k p (dl m) n q ∧ Cl wx e7 u ∧ Cl wx e9 0 ∧ Sl wx p m ∧ Sl wx pa a ∧ Sl wx px u))
  case first =>
    have ⟨G, c_w_heap_size, c_e5, c_e7, c_e9, S_p, S_pa⟩ := HV.out
    have ⟨hc_w_heap_size, fc_w_heap_size, pc_w_heap_size⟩ := c_w_heap_size
    have ⟨hc_e5, fc_e5, pc_e5⟩ := c_e5
    have h0c_e5 := (c_e5).at0
    have h1c_e5 := (c_e5).at1
    have ⟨hc_e7, fc_e7, pc_e7⟩ := c_e7
    have ⟨hc_e9, fc_e9, pc_e9⟩ := c_e9
    go_wp2_with (go_at_call 30; refine (HIv.out p n _ pa na (S_pa.gr (by repeat (first | exact Gr.refl _ | apply Gr.drewN | apply Gr.drew | apply Gr.alloc | apply Gr.gro))) (S_p.gr (by repeat (first | exact Gr.refl _ | apply Gr.drewN | apply Gr.drew | apply Gr.alloc | apply Gr.gro)))).mono ?_; rintro e W1 ⟨px, nx, rfl, S1, G1⟩)
    go_meet
    exact ⟨px, nx, rfl, rfl, G.trans ((Gr.trans (by repeat (first | exact Gr.refl _ | apply Gr.drewN | apply Gr.drew | apply Gr.alloc | apply Gr.gro)) G1).trans (by repeat (first | exact Gr.refl _ | apply Gr.drewN | apply Gr.drew | apply Gr.alloc | apply Gr.gro))), c_w_heap_size.gr ((Gr.trans (by repeat (first | exact Gr.refl _ | apply Gr.drewN | apply Gr.drew | apply Gr.alloc | apply Gr.gro)) G1).trans (by repeat (first | exact Gr.refl _ | apply Gr.drewN | apply Gr.drew | apply Gr.alloc | apply Gr.gro))), c_e5.gr ((Gr.trans (by repeat (first | exact Gr.refl _ | apply Gr.drewN | apply Gr.drew | apply Gr.alloc | apply Gr.gro)) G1).trans (by repeat (first | exact Gr.refl _ | apply Gr.drewN | apply Gr.drew | apply Gr.alloc | apply Gr.gro))), c_e7.gr ((Gr.trans (by repeat (first | exact Gr.refl _ | apply Gr.drewN | apply Gr.drew | apply Gr.alloc | apply Gr.gro)) G1).trans (by repeat (first | exact Gr.refl _ | apply Gr.drewN | apply Gr.drew | apply Gr.alloc | apply Gr.gro))), c_e9.gr ((Gr.trans (by repeat (first | exact Gr.refl _ | apply Gr.drewN | apply Gr.drew | apply Gr.alloc | apply Gr.gro)) G1).trans (by repeat (first | exact Gr.refl _ | apply Gr.drewN | apply Gr.drew | apply Gr.alloc | apply Gr.gro))), S_p.gr ((Gr.trans (by repeat (first | exact Gr.refl _ | apply Gr.drewN | apply Gr.drew | apply Gr.alloc | apply Gr.gro)) G1).trans (by repeat (first | exact Gr.refl _ | apply Gr.drewN | apply Gr.drew | apply Gr.alloc | apply Gr.gro))), S_pa.gr ((Gr.trans (by repeat (first | exact Gr.refl _ | apply Gr.drewN | apply Gr.drew | apply Gr.alloc | apply Gr.gro)) G1).trans (by repeat (first | exact Gr.refl _ | apply Gr.drewN | apply Gr.drew | apply Gr.alloc | apply Gr.gro))), S1.gr (by repeat (first | exact Gr.refl _ | apply Gr.drewN | apply Gr.drew | apply Gr.alloc | apply Gr.gro))⟩
  clear HV
  obtain ⟨pu, nu, rfl, rfl, HV⟩ := hcut
  go_upto_region 12 with fail
  go_cut [14, 15] from 103 to 109 (fun a0 a1 wx => a0 = .slice none 0 0 ∧ a1 = .bool false ∧ Hid (Gr w wx ∧ Cl wx (w.heap.size) a ∧ Cv wx e5 k p (dl m) n q ∧ Cl wx e7 u ∧ Cl wx e9 0 ∧ Sl wx p m ∧ Sl wx pa a ∧ Sl wx pu u))
  case first =>
    have ⟨G, c_w_heap_size, c_e5, c_e7, c_e9, S_p, S_pa, S_pu⟩ := HV.out
    have ⟨hc_w_heap_size, fc_w_heap_size, pc_w_heap_size⟩ := c_w_heap_size
    have ⟨hc_e5, fc_e5, pc_e5⟩ := c_e5
    have h0c_e5 := (c_e5).at0
    have h1c_e5 := (c_e5).at1
    have ⟨hc_e7, fc_e7, pc_e7⟩ := c_e7
    have ⟨hc_e9, fc_e9, pc_e9⟩ := c_e9
    go_wp2_with (go_at_call 31; refine (HSq.out p n _ pa na (S_pa.gr (by repeat (first | exact Gr.refl _ | apply Gr.drewN | apply Gr.drew | apply Gr.alloc | apply Gr.gro))) (S_p.gr (by repeat (first | exact Gr.refl _ | apply Gr.drewN | apply Gr.drew | apply Gr.alloc | apply Gr.gro)))).mono ?_; rintro e W1 ⟨rfl, G1⟩)
    go_meet
    exact ⟨rfl, rfl, G.trans ((Gr.trans (by repeat (first | exact Gr.refl _ | apply Gr.drewN | apply Gr.drew | apply Gr.alloc | apply Gr.gro)) G1).trans (by repeat (first | exact Gr.refl _ | apply Gr.drewN | apply Gr.drew | apply Gr.alloc | apply Gr.gro))), c_w_heap_size.gr ((Gr.trans (by repeat (first | exact Gr.refl _ | apply Gr.drewN | apply Gr.drew | apply Gr.alloc | apply Gr.gro)) G1).trans (by repeat (first | exact Gr.refl _ | apply Gr.drewN | apply Gr.drew | apply Gr.alloc | apply Gr.gro))), c_e5.gr ((Gr.trans (by repeat (first | exact Gr.refl _ | apply Gr.drewN | apply Gr.drew | apply Gr.alloc | apply Gr.gro)) G1).trans (by repeat (first | exact Gr.refl _ | apply Gr.drewN | apply Gr.drew | apply Gr.alloc | apply Gr.gro))), c_e7.gr ((Gr.trans (by repeat (first | exact Gr.refl _ | apply Gr.drewN | apply Gr.drew | apply Gr.alloc | apply Gr.gro)) G1).trans (by repeat (first | exact Gr.refl _ | apply Gr.drewN | apply Gr.drew | apply Gr.alloc | apply Gr.gro))), c_e9.gr ((Gr.trans (by repeat (first | exact Gr.refl _ | apply Gr.drewN | apply Gr.drew | apply Gr.alloc | apply Gr.gro)) G1).trans (by repeat (first | exact Gr.refl _ | apply Gr.drewN | apply Gr.drew | apply Gr.alloc | apply Gr.gro))), S_p.gr ((Gr.trans (by repeat (first | exact Gr.refl _ | apply Gr.drewN | apply Gr.drew | apply Gr.alloc | apply Gr.gro)) G1).trans (by repeat (first | exact Gr.refl _ | apply Gr.drewN | apply Gr.drew | apply Gr.alloc | apply Gr.gro))), S_pa.gr ((Gr.trans (by repeat (first | exact Gr.refl _ | apply Gr.drewN | apply Gr.drew | apply Gr.alloc | apply Gr.gro)) G1).trans (by repeat (first | exact Gr.refl _ | apply Gr.drewN | apply Gr.drew | apply Gr.alloc | apply Gr.gro))), S_pu.gr ((Gr.trans (by repeat (first | exact Gr.refl _ | apply Gr.drewN | apply Gr.drew | apply Gr.alloc | apply Gr.gro)) G1).trans (by repeat (first | exact Gr.refl _ | apply Gr.drewN | apply Gr.drew | apply Gr.alloc | apply Gr.gro)))⟩
  clear HV
  obtain ⟨rfl, rfl, HV⟩ := hcut
  go_upto_region 13 with fail
  have ⟨G, c_w_heap_size, c_e5, c_e7, c_e9, S_p, S_pa, S_pu⟩ := HV.out
  refine wp_region_pred (by kernel_rfl) (by kernel_rfl) [.c (.int .i64 0), .c (.int .i64 0), .c (.bool false), .c (.bool false), .c (.agg (nw 9 u)), .c (.slice pu (dl u) nu), .c (.agg (nw 9 u)), .c (.bool false), .c (.bool false)] ?hs ?hf
  case hs =>
    intro listed vals a1 vA i o hg hR hF ho hd
    have Hc_w_heap_size : blk vA (w.heap.size) = nw 9 a := (hg.blk _ c_w_heap_size.p).trans c_w_heap_size.h
    have Hc_e5 : blk vA e5 = cvA k p (dl m) n q := (hg.blk _ c_e5.p).trans c_e5.h
    have Hc_e7 : blk vA e7 = nw 9 u := (hg.blk _ c_e7.p).trans c_e7.h
    have Hc_e9 : blk vA e9 = nw 9 0 := (hg.blk _ c_e9.p).trans c_e9.h
    have hi : i < 9 := by simpa using (Array.getElem?_eq_some_iff.1 ho).1
    obtain rfl | rfl | rfl | rfl | rfl | rfl | rfl | rfl | rfl : i = 0 ∨ i = 1 ∨ i = 2 ∨ i = 3 ∨ i = 4 ∨ i = 5 ∨ i = 6 ∨ i = 7 ∨ i = 8 := by omega
    · obtain rfl := Option.some.inj ho
      have f0 := hF.old (s := 8) (v := .int .i64 0) (by kernel_rfl) rfl
      refine Or.inl ⟨wanted_no rfl, ?_⟩
      exact wp_val (.int .i64 0) (by simp [go_sem, f0]) ⟨_, rfl, Gr.refl _, rfl⟩
    · obtain rfl := Option.some.inj ho
      have l0 := on_of hd 0 (by kernel_rfl)
      have f0 := hF.at (s := 110) (i := 0) (by kernel_rfl) (by simp) l0
      rw [show vals 0 = .int .i64 0 from hR 0 l0] at f0
      refine Or.inl ⟨wanted_no rfl, ?_⟩
      exact wp_ret (.int .i64 0) (by simp [go_sem, f0]) (num5_gr _ _) (fun w2 hg2 => ⟨_, rfl, hg2, rfl⟩)
    · obtain rfl := Option.some.inj ho
      have l0 := on_of hd 1 (by kernel_rfl)
      have f0 := hF.at (s := 111) (i := 1) (by kernel_rfl) (by simp) l0
      rw [show vals 1 = .int .i64 0 from hR 1 l0] at f0
      refine Or.inl ⟨wanted_no rfl, ?_⟩
      exact wp_val (.bool false) (by simp [go_sem, f0]) ⟨_, rfl, Gr.refl _, rfl⟩
    · obtain rfl := Option.some.inj ho
      have l0 := on_of hd 2 (by kernel_rfl)
      have f0 := hF.at (s := 112) (i := 2) (by kernel_rfl) (by simp) l0
      rw [show vals 2 = .bool false from hR 2 l0] at f0
      refine Or.inl ⟨wanted_no rfl, ?_⟩
      exact wp_val (.bool false) (by simp [go_sem, f0]) ⟨_, rfl, Gr.refl _, rfl⟩
    · obtain rfl := Option.some.inj ho
      have lg := on_of hd 3 (by kernel_rfl)
      have fg := hF.at (s := 113) (i := 3) (by kernel_rfl) (by simp) lg
      rw [show vals 3 = .bool false from hR 3 lg] at fg
      have f0 := hF.old (s := 7) (v := .pointer (some ⟨e7, 0, none⟩)) (by kernel_rfl) rfl
      refine Or.inl ⟨wanted_at (j := 3) (s := 113) rfl rfl rfl fg, ?_⟩
      exact wp_val (.agg (nw 9 u)) (by simp [go_sem, f0, Hc_e7]) ⟨_, rfl, Gr.refl _, rfl⟩
    · obtain rfl := Option.some.inj ho
      have lg := on_of hd 3 (by kernel_rfl)
      have fg := hF.at (s := 113) (i := 3) (by kernel_rfl) (by simp) lg
      rw [show vals 3 = .bool false from hR 3 lg] at fg
      have f0 := hF.old (s := 12) (v := .slice pu (dl u) nu) (by kernel_rfl) rfl
      refine Or.inl ⟨wanted_at (j := 3) (s := 113) rfl rfl rfl fg, ?_⟩
      exact wp_val (.slice pu (dl u) nu) (by simp [go_sem, f0]) ⟨_, rfl, Gr.refl _, rfl⟩
    · obtain rfl := Option.some.inj ho
      have lg := on_of hd 3 (by kernel_rfl)
      have fg := hF.at (s := 113) (i := 3) (by kernel_rfl) (by simp) lg
      rw [show vals 3 = .bool false from hR 3 lg] at fg
      have l0 := on_of hd 5 (by kernel_rfl)
      have f0 := hF.at (s := 115) (i := 5) (by kernel_rfl) (by simp) l0
      rw [show vals 5 = .slice pu (dl u) nu from hR 5 l0] at f0
      refine Or.inl ⟨wanted_at (j := 3) (s := 113) rfl rfl rfl fg, ?_⟩
      exact wp_ret (.agg (nw 9 u)) (by simp [go_sem, f0]) (HNu.out _ pu nu (S_pu.gr hg)) (fun w2 hg2 => ⟨_, rfl, hg2, rfl⟩)
    · obtain rfl := Option.some.inj ho
      have lg := on_of hd 3 (by kernel_rfl)
      have fg := hF.at (s := 113) (i := 3) (by kernel_rfl) (by simp) lg
      rw [show vals 3 = .bool false from hR 3 lg] at fg
      have l0 := on_of hd 4 (by kernel_rfl)
      have f0 := hF.at (s := 114) (i := 4) (by kernel_rfl) (by simp) l0
      rw [show vals 4 = .agg (nw 9 u) from hR 4 l0] at f0
      have l1 := on_of hd 6 (by kernel_rfl)
      have f1 := hF.at (s := 116) (i := 6) (by kernel_rfl) (by simp) l1
      rw [show vals 6 = .agg (nw 9 u) from hR 6 l1] at f1
      refine Or.inl ⟨wanted_at (j := 3) (s := 113) rfl rfl rfl fg, ?_⟩
      exact wp_val (.bool false) (by simp [go_sem, f0, f1, eqN_self]) ⟨_, rfl, Gr.refl _, rfl⟩
    · obtain rfl := Option.some.inj ho
      have l0 := on_of hd 3 (by kernel_rfl)
      have f0 := hF.at (s := 113) (i := 3) (by kernel_rfl) (by simp) l0
      rw [show vals 3 = .bool false from hR 3 l0] at f0
      have l1 := on_of hd 7 (by kernel_rfl)
      have f1 := hF.at (s := 117) (i := 7) (by kernel_rfl) (by simp) l1
      rw [show vals 7 = .bool false from hR 7 l1] at f1
      refine Or.inl ⟨wanted_no rfl, ?_⟩
      exact wp_val (.bool false) (by simp [go_sem, f0, f1]) ⟨_, rfl, Gr.refl _, rfl⟩
  case hf =>
    intro vals vA hg hR
    have x0 : vals 0 = .int .i64 0 := hR 0 (by simp)
    have x1 : vals 1 = .int .i64 0 := hR 1 (by simp)
    have x2 : vals 2 = .bool false := hR 2 (by simp)
    have x3 : vals 3 = .bool false := hR 3 (by simp)
    have x4 : vals 4 = .agg (nw 9 u) := hR 4 (by simp)
    have x5 : vals 5 = .slice pu (dl u) nu := hR 5 (by simp)
    have x6 : vals 6 = .agg (nw 9 u) := hR 6 (by simp)
    have x7 : vals 7 = .bool false := hR 7 (by simp)
    have x8 : vals 8 = .bool false := hR 8 (by simp)
    simp only [putFrom, Act.put, List.setIfInBounds_toArray, List.set_cons_zero, List.set_cons_succ, x0, x1, x2, x3, x4, x5, x6, x7, x8]
    clear hR x0 x1 x2 x3 x4 x5 x6 x7 x8
    have HV : Hid (Gr w vA ∧ Cl vA (w.heap.size) a ∧ Cv vA e5 k p (dl m) n q ∧ Cl vA e7 u ∧ Cl vA e9 0 ∧ Sl vA p m ∧ Sl vA pa a ∧ Sl vA pu u) := ⟨G.trans hg, c_w_heap_size.gr hg, c_e5.gr hg, c_e7.gr hg, c_e9.gr hg, S_p.gr hg, S_pa.gr hg, S_pu.gr hg⟩
    clear hg
    go_upto_region 16 with fail
    have ⟨G, c_w_heap_size, c_e5, c_e7, c_e9, S_p, S_pa, S_pu⟩ := HV.out
    have ⟨hc_w_heap_size, fc_w_heap_size, pc_w_heap_size⟩ := c_w_heap_size
    have ⟨hc_e5, fc_e5, pc_e5⟩ := c_e5
    have h0c_e5 := (c_e5).at0
    have h1c_e5 := (c_e5).at1
    have ⟨hc_e7, fc_e7, pc_e7⟩ := c_e7
    have ⟨hc_e9, fc_e9, pc_e9⟩ := c_e9
    clear HV
    go_wp2_with (first
        | (go_at_call_of 19 ((#[] : Array Value)); refine (AW.out _).mono ?_; rintro e w' ⟨rfl, g3, rfl⟩)
        | (go_at_call_of 28 ((#[.int .i64 k, .agg (nw 9 a)] : Array Value)); refine (I1.out _).mono ?_; rintro e w' ⟨rfl, g4, rfl⟩)
        | (go_at_call_of 29 ((#[.int .i64 k, .agg (nw 9 a)] : Array Value)); refine (Q1.out _).mono ?_; rintro e w' ⟨rfl, g5, rfl⟩)
        | (go_at_call 18; refine (num_any _ _).mono ?_; rintro e w' ⟨rfl, rfl⟩))
    go_ret
    refine ⟨rfl, ?_⟩
    repeat (first | exact G | apply Gr.drewN | apply Gr.drew | apply Gr.alloc | apply Gr.gro)

end Go.Proofs.Ytkmpholjlophpaa
namespace Go.Proofs.Ytkmpholjlophpaa
open Go.RowKit
attribute [local go_sem ↓] loadNat_is loadArr_is loadWide_is loadArrW_is storeNat_is storeWide_is
attribute [local go_sem] loadNat loadArr loadWide loadArrW storeNat storeWide idxArr fold9 fold18 nw_size nw_elem pre_self pre_1 pre_2 pre_3 pre_4 pre_5 pre_6 pre_7 pre_8 pre_9 pre_10 pre_11 pre_12 pre_13 pre_14 pre_15 pre_16 pre_17 pre_18 pre_19 pre_20 pre_21 pre_22 pre_23 pre_24 pre_25 pre_26 pre_27 pre_28 pre_29 pre_30 pre_31 pre_32 pre_33 pre_34 pre_35 pre_36 pre_37 pre_38 pre_39 pre_40 gro_size gro_drew gro_drewN drew_gro drewN_gro gro_gro blk_gro frz_gro blk_drew frz_drew blk_drewN frz_drewN blk_alloc_at frz_alloc_at blk_alloc frz_alloc cell_gro frozen_gro cell_alloc_pre frozen_alloc_pre setCell_drewN alloc_drewN setBlk_drew setBlk_drewN setBlk_alloc_at setBlk_alloc setBlk_gro setCell_gro setCell_alloc_pre size_setBlk size_setCell
attribute [local go_sem] nw_ext9 nw_ext18 eqArr9 eqArr18

attribute [local go_sem] loadNat2 loadArr2 loadWide2 loadK_nw ppre_1 ppre_2 ppre_3 ppre_4 ppre_5 ppre_6 ppre_7 ppre_8 ppre_9 ppre_10 ppre_11 ppre_12 ppre_13 ppre_14 ppre_15 ppre_16 ppre_17 ppre_18 ppre_19 ppre_20

attribute [local go_sem ↓] loadC_is storeC_is Go.wp_at_zero Go.wp_at_succ
attribute [local go_sem] eqN_self loadC storeCv storeC0 cvA_size frz_setBlk blk_setBlk setBlk_setBlk blk_other
theorem froots_any (id : Int) (a : Nat) (ha : a < M) (w : World) :
    Calls Try.prog 4 #[.int .i64 id, .agg (nw 9 a)] w fun e w' => e = .returned (.bool true) ∧ Gr w w' := by
  by_cases h : id < 1 ∨ 15 < id
  · exact froots_no id a h ha w
  · obtain ⟨k, rfl⟩ := Int.eq_ofNat_of_zero_le (show 0 ≤ id by omega)
    by_cases hc : a < pN k
    · by_cases h0 : a = 0
      · exact froots_zero k a (by omega) (by omega) ha hc h0 w
      · by_cases he : a ^ ((pN k - 1) / 2) % pN k = 1
        · exact froots_root k a (by omega) (by omega) ha hc h0 he w
        · exact froots_none k a (by omega) (by omega) ha hc h0 he w
    · exact froots_great k a (by omega) (by omega) ha hc w

end Go.Proofs.Ytkmpholjlophpaa
