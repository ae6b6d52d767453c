import Derived.Test.YtgmaalokfgdpaaaXFCQ
import Derived.Test.YtgmaalokfgdpaaaXFSmC
import Derived.Test.YtgmaalokfgdpaaaXFQt
import Derived.Test.YtgmaalokfgdpaaaXFRAdd
import Derived.Test.YtgmaalokfgdpaaaXFEJ
import Derived.Test.YtgmaalokfgdpaaaXFMixP
import Derived.Test.YtgmaalokfgdpaaaXFPC
import Derived.Test.YtgmaalokfgdpaaaXFMixQ
import Derived.Test.YtgmaalokfgdpaaaXFFB
namespace Go.Proofs.Ytgmaalokfgdpaaa
open Go.RowKit
theorem bl_576 (a : Nat) (h : a < M) : bl a ≤ 576 := by exact bl_pwk a 9 h
/-- How many bytes P has. -/
def szN (i : Nat) : Nat := (bl (pN i) + 7) / 8
/-- For verifying alone? -/
def lgN (i : Nat) : Bool := ((i : Int) == 1) || ((i : Int) == 7)
/-- A curve's cells. -/
def cuN (i : Nat) : Array Value := cu i (pN i) (aN i) (bN i) (oN i) (xN i) (yN i) (bl (oN i)) (szN i) (lgN i)
theorem oN_bd (i : Nat) : oN i < M := by
  unfold oN
  split <;> decide +kernel
theorem pN_M (i : Nat) : pN i < M := by
  unfold pN
  split <;> decide +kernel
theorem find_1 (w : World) : Calls Try.prog 35 #[.int .i64 1] w fun e w' => e = .returned (.tuple #[.agg (cuN 1), .bool true]) ∧ Gr w w' :=
  find_of 1 51 (pN 1) (aN 1) (bN 1) (oN 1) (xN 1) (yN 1) (bl (oN 1)) (bl (pN 1)) (szN 1) _ _ (by decide) (by decide) rfl rfl rfl (by simp [szN]) (bl_576 _ (oN_bd _)) (bl_576 _ (pN_M _)) (fun w => by kernel_rfl) (of_1) mk_1 (fun w => bits_any _ (oN_bd _) w) (fun w => bits_any _ (pN_M _) w) w
theorem find_2 (w : World) : Calls Try.prog 35 #[.int .i64 2] w fun e w' => e = .returned (.tuple #[.agg (cuN 2), .bool true]) ∧ Gr w w' :=
  find_of 2 52 (pN 2) (aN 2) (bN 2) (oN 2) (xN 2) (yN 2) (bl (oN 2)) (bl (pN 2)) (szN 2) _ _ (by decide) (by decide) rfl rfl rfl (by simp [szN]) (bl_576 _ (oN_bd _)) (bl_576 _ (pN_M _)) (fun w => by kernel_rfl) (of_2) mk_2 (fun w => bits_any _ (oN_bd _) w) (fun w => bits_any _ (pN_M _) w) w
theorem find_3 (w : World) : Calls Try.prog 35 #[.int .i64 3] w fun e w' => e = .returned (.tuple #[.agg (cuN 3), .bool true]) ∧ Gr w w' :=
  find_of 3 53 (pN 3) (aN 3) (bN 3) (oN 3) (xN 3) (yN 3) (bl (oN 3)) (bl (pN 3)) (szN 3) _ _ (by decide) (by decide) rfl rfl rfl (by simp [szN]) (bl_576 _ (oN_bd _)) (bl_576 _ (pN_M _)) (fun w => by kernel_rfl) (of_3) mk_3 (fun w => bits_any _ (oN_bd _) w) (fun w => bits_any _ (pN_M _) w) w
theorem find_4 (w : World) : Calls Try.prog 35 #[.int .i64 4] w fun e w' => e = .returned (.tuple #[.agg (cuN 4), .bool true]) ∧ Gr w w' :=
  find_of 4 54 (pN 4) (aN 4) (bN 4) (oN 4) (xN 4) (yN 4) (bl (oN 4)) (bl (pN 4)) (szN 4) _ _ (by decide) (by decide) rfl rfl rfl (by simp [szN]) (bl_576 _ (oN_bd _)) (bl_576 _ (pN_M _)) (fun w => by kernel_rfl) (of_4) mk_4 (fun w => bits_any _ (oN_bd _) w) (fun w => bits_any _ (pN_M _) w) w
theorem find_5 (w : World) : Calls Try.prog 35 #[.int .i64 5] w fun e w' => e = .returned (.tuple #[.agg (cuN 5), .bool true]) ∧ Gr w w' :=
  find_of 5 55 (pN 5) (aN 5) (bN 5) (oN 5) (xN 5) (yN 5) (bl (oN 5)) (bl (pN 5)) (szN 5) _ _ (by decide) (by decide) rfl rfl rfl (by simp [szN]) (bl_576 _ (oN_bd _)) (bl_576 _ (pN_M _)) (fun w => by kernel_rfl) (of_5) mk_5 (fun w => bits_any _ (oN_bd _) w) (fun w => bits_any _ (pN_M _) w) w
theorem find_6 (w : World) : Calls Try.prog 35 #[.int .i64 6] w fun e w' => e = .returned (.tuple #[.agg (cuN 6), .bool true]) ∧ Gr w w' :=
  find_of 6 56 (pN 6) (aN 6) (bN 6) (oN 6) (xN 6) (yN 6) (bl (oN 6)) (bl (pN 6)) (szN 6) _ _ (by decide) (by decide) rfl rfl rfl (by simp [szN]) (bl_576 _ (oN_bd _)) (bl_576 _ (pN_M _)) (fun w => by kernel_rfl) (of_6) mk_6 (fun w => bits_any _ (oN_bd _) w) (fun w => bits_any _ (pN_M _) w) w
theorem find_7 (w : World) : Calls Try.prog 35 #[.int .i64 7] w fun e w' => e = .returned (.tuple #[.agg (cuN 7), .bool true]) ∧ Gr w w' :=
  find_of 7 57 (pN 7) (aN 7) (bN 7) (oN 7) (xN 7) (yN 7) (bl (oN 7)) (bl (pN 7)) (szN 7) _ _ (by decide) (by decide) rfl rfl rfl (by simp [szN]) (bl_576 _ (oN_bd _)) (bl_576 _ (pN_M _)) (fun w => by kernel_rfl) (of_7) mk_7 (fun w => bits_any _ (oN_bd _) w) (fun w => bits_any _ (pN_M _) w) w
theorem find_8 (w : World) : Calls Try.prog 35 #[.int .i64 8] w fun e w' => e = .returned (.tuple #[.agg (cuN 8), .bool true]) ∧ Gr w w' :=
  find_of 8 58 (pN 8) (aN 8) (bN 8) (oN 8) (xN 8) (yN 8) (bl (oN 8)) (bl (pN 8)) (szN 8) _ _ (by decide) (by decide) rfl rfl rfl (by simp [szN]) (bl_576 _ (oN_bd _)) (bl_576 _ (pN_M _)) (fun w => by kernel_rfl) (of_8) mk_8 (fun w => bits_any _ (oN_bd _) w) (fun w => bits_any _ (pN_M _) w) w
theorem find_9 (w : World) : Calls Try.prog 35 #[.int .i64 9] w fun e w' => e = .returned (.tuple #[.agg (cuN 9), .bool true]) ∧ Gr w w' :=
  find_of 9 59 (pN 9) (aN 9) (bN 9) (oN 9) (xN 9) (yN 9) (bl (oN 9)) (bl (pN 9)) (szN 9) _ _ (by decide) (by decide) rfl rfl rfl (by simp [szN]) (bl_576 _ (oN_bd _)) (bl_576 _ (pN_M _)) (fun w => by kernel_rfl) (of_9) mk_9 (fun w => bits_any _ (oN_bd _) w) (fun w => bits_any _ (pN_M _) w) w
theorem find_10 (w : World) : Calls Try.prog 35 #[.int .i64 10] w fun e w' => e = .returned (.tuple #[.agg (cuN 10), .bool true]) ∧ Gr w w' :=
  find_of 10 60 (pN 10) (aN 10) (bN 10) (oN 10) (xN 10) (yN 10) (bl (oN 10)) (bl (pN 10)) (szN 10) _ _ (by decide) (by decide) rfl rfl rfl (by simp [szN]) (bl_576 _ (oN_bd _)) (bl_576 _ (pN_M _)) (fun w => by kernel_rfl) (of_10) mk_10 (fun w => bits_any _ (oN_bd _) w) (fun w => bits_any _ (pN_M _) w) w
theorem find_11 (w : World) : Calls Try.prog 35 #[.int .i64 11] w fun e w' => e = .returned (.tuple #[.agg (cuN 11), .bool true]) ∧ Gr w w' :=
  find_of 11 61 (pN 11) (aN 11) (bN 11) (oN 11) (xN 11) (yN 11) (bl (oN 11)) (bl (pN 11)) (szN 11) _ _ (by decide) (by decide) rfl rfl rfl (by simp [szN]) (bl_576 _ (oN_bd _)) (bl_576 _ (pN_M _)) (fun w => by kernel_rfl) (of_11) mk_11 (fun w => bits_any _ (oN_bd _) w) (fun w => bits_any _ (pN_M _) w) w
theorem find_12 (w : World) : Calls Try.prog 35 #[.int .i64 12] w fun e w' => e = .returned (.tuple #[.agg (cuN 12), .bool true]) ∧ Gr w w' :=
  find_of 12 62 (pN 12) (aN 12) (bN 12) (oN 12) (xN 12) (yN 12) (bl (oN 12)) (bl (pN 12)) (szN 12) _ _ (by decide) (by decide) rfl rfl rfl (by simp [szN]) (bl_576 _ (oN_bd _)) (bl_576 _ (pN_M _)) (fun w => by kernel_rfl) (of_12) mk_12 (fun w => bits_any _ (oN_bd _) w) (fun w => bits_any _ (pN_M _) w) w
theorem find_13 (w : World) : Calls Try.prog 35 #[.int .i64 13] w fun e w' => e = .returned (.tuple #[.agg (cuN 13), .bool true]) ∧ Gr w w' :=
  find_of 13 63 (pN 13) (aN 13) (bN 13) (oN 13) (xN 13) (yN 13) (bl (oN 13)) (bl (pN 13)) (szN 13) _ _ (by decide) (by decide) rfl rfl rfl (by simp [szN]) (bl_576 _ (oN_bd _)) (bl_576 _ (pN_M _)) (fun w => by kernel_rfl) (of_13) mk_13 (fun w => bits_any _ (oN_bd _) w) (fun w => bits_any _ (pN_M _) w) w
theorem find_14 (w : World) : Calls Try.prog 35 #[.int .i64 14] w fun e w' => e = .returned (.tuple #[.agg (cuN 14), .bool true]) ∧ Gr w w' :=
  find_of 14 64 (pN 14) (aN 14) (bN 14) (oN 14) (xN 14) (yN 14) (bl (oN 14)) (bl (pN 14)) (szN 14) _ _ (by decide) (by decide) rfl rfl rfl (by simp [szN]) (bl_576 _ (oN_bd _)) (bl_576 _ (pN_M _)) (fun w => by kernel_rfl) (of_14) mk_14 (fun w => bits_any _ (oN_bd _) w) (fun w => bits_any _ (pN_M _) w) w
theorem find_15 (w : World) : Calls Try.prog 35 #[.int .i64 15] w fun e w' => e = .returned (.tuple #[.agg (cuN 15), .bool true]) ∧ Gr w w' :=
  find_of 15 65 (pN 15) (aN 15) (bN 15) (oN 15) (xN 15) (yN 15) (bl (oN 15)) (bl (pN 15)) (szN 15) _ _ (by decide) (by decide) rfl rfl rfl (by simp [szN]) (bl_576 _ (oN_bd _)) (bl_576 _ (pN_M _)) (fun w => by kernel_rfl) (of_15) mk_15 (fun w => bits_any _ (oN_bd _) w) (fun w => bits_any _ (pN_M _) w) w
theorem find_yes (i : Nat) (h1 : 1 ≤ i) (h2 : i ≤ 15) (w : World) : Calls Try.prog 35 #[.int .i64 (i : Int)] w fun e w' => e = .returned (.tuple #[.agg (cuN i), .bool true]) ∧ Gr w w' := by
  obtain rfl | rfl | rfl | rfl | rfl | rfl | rfl | rfl | rfl | rfl | rfl | rfl | rfl | rfl | rfl : i = 1 ∨ i = 2 ∨ i = 3 ∨ i = 4 ∨ i = 5 ∨ i = 6 ∨ i = 7 ∨ i = 8 ∨ i = 9 ∨ i = 10 ∨ i = 11 ∨ i = 12 ∨ i = 13 ∨ i = 14 ∨ i = 15 := by omega
  · exact find_1 w
  · exact find_2 w
  · exact find_3 w
  · exact find_4 w
  · exact find_5 w
  · exact find_6 w
  · exact find_7 w
  · exact find_8 w
  · exact find_9 w
  · exact find_10 w
  · exact find_11 w
  · exact find_12 w
  · exact find_13 w
  · exact find_14 w
  · exact find_15 w
attribute [local go_sem ↓] loadNat_is loadArr_is loadWide_is loadArrW_is storeNat_is storeWide_is
attribute [local go_sem] loadNat loadArr loadWide loadArrW storeNat storeWide idxArr fold9 fold18 nw_size nw_elem pre_self pre_1 pre_2 pre_3 pre_4 pre_5 pre_6 pre_7 pre_8 pre_9 pre_10 pre_11 pre_12 pre_13 pre_14 pre_15 pre_16 pre_17 pre_18 pre_19 pre_20 pre_21 pre_22 pre_23 pre_24 pre_25 pre_26 pre_27 pre_28 pre_29 pre_30 pre_31 pre_32 pre_33 pre_34 pre_35 pre_36 pre_37 pre_38 pre_39 pre_40 gro_size gro_drew gro_drewN drew_gro drewN_gro gro_gro blk_gro frz_gro blk_drew frz_drew blk_drewN frz_drewN blk_alloc_at frz_alloc_at blk_alloc frz_alloc cell_gro frozen_gro cell_alloc_pre frozen_alloc_pre setCell_drewN alloc_drewN setBlk_drew setBlk_drewN setBlk_alloc_at setBlk_alloc setBlk_gro setCell_gro setCell_alloc_pre size_setBlk size_setCell
attribute [local go_sem] ppre_1 ppre_2 ppre_3 ppre_4 ppre_5 ppre_6
attribute [local go_sem ↓] zvCu_is zvEq_is storeCu_is storeEq_is loadCu_is loadEq_is loadPn_is buildCu_is buildEq_is buildPn_is Go.wp_at_zero Go.wp_at_succ
attribute [local go_sem] zvCu zvEq storeCu storeEq loadCu loadEq loadPn loadCP loadCA loadCB loadPX loadPY buildCu0 buildEq0 buildPnI cu_size cu_P cu_A cu_B pnt_size pnt_X pnt_Y frz_setBlk blk_setBlk setBlk_setBlk blk_other
set_option maxRecDepth 100000 in
set_option maxHeartbeats 400000 in
theorem get13_no (x : Int) (h : x < 1 ∨ 15 < x) (w : World) : Calls Try.prog 9 #[.int .i64 x] w fun e w' => e = .returned (.tuple #[.agg (cu 0 0 0 0 0 0 0 0 0 false), .int .i64 1300]) ∧ Gr w w' := by
  have HF : Hid (∀ w, Calls Try.prog 35 #[.int .i64 x] w fun e w' => e = .returned (.tuple #[.agg (cu 0 0 0 0 0 0 0 0 0 false), .bool false]) ∧ Gr w w') := fun w => find_no x h w
  clear h
  go_enter Try.func9, Try.ntmps9
  go_wp2_with (go_at_call 35; refine (HF.out _).mono ?_; rintro e w' ⟨rfl, g, rfl⟩)
  refine bodyPost_ret (res_two Try.results9 (rd_cu (by rfl) ?_) (rd_tmp (by rfl))) rfl ⟨rfl, (by repeat (first | exact Gr.refl _ | apply Gr.drewN | apply Gr.drew | apply Gr.alloc | apply Gr.gro))⟩
  simp [go_sem]
set_option maxRecDepth 100000 in
set_option maxHeartbeats 400000 in
theorem get13_of (x : Int) (id : Int) (P A B N X Y : Nat) (s z : Int) (l : Bool) (HF' : ∀ w, Calls Try.prog 35 #[.int .i64 x] w fun e w' => e = .returned (.tuple #[.agg (cu id P A B N X Y s z l), .bool true]) ∧ Gr w w') (w : World) :
    Calls Try.prog 9 #[.int .i64 x] w fun e w' => e = .returned (.tuple #[.agg (cu id P A B N X Y s z l), .int .i64 0]) ∧ Gr w w' := by
  have HF : Hid (∀ w, Calls Try.prog 35 #[.int .i64 x] w fun e w' => e = .returned (.tuple #[.agg (cu id P A B N X Y s z l), .bool true]) ∧ Gr w w') := HF'
  clear HF'
  go_enter Try.func9, Try.ntmps9
  go_wp2_with (go_at_call 35; refine (HF.out _).mono ?_; rintro e w' ⟨rfl, g, rfl⟩)
  refine bodyPost_ret (res_two Try.results9 (rd_cu (by rfl) ?_) (rd_tmp (by rfl))) rfl ⟨rfl, (by repeat (first | exact Gr.refl _ | apply Gr.drewN | apply Gr.drew | apply Gr.alloc | apply Gr.gro))⟩
  simp [go_sem]
/-- What Get answers of a curve. -/
theorem get13_yes (i : Nat) (h1 : 1 ≤ i) (h2 : i ≤ 15) (w : World) : Calls Try.prog 9 #[.int .i64 (i : Int)] w fun e w' => e = .returned (.tuple #[.agg (cuN i), .int .i64 0]) ∧ Gr w w' :=
  get13_of i _ _ _ _ _ _ _ _ _ _ (find_yes i h1 h2) w
set_option maxRecDepth 100000 in
set_option maxHeartbeats 400000 in
theorem below13_any (id : Int) (P A B N X Y : Nat) (s z : Int) (l : Bool) (a : Nat) (f : Bool) (hP : P < M) (ha : a < M) (hf : decide (a < P) = f) (w : World) :
    Calls Try.prog 66 #[.agg (cu id P A B N X Y s z l), .agg (nw 9 a)] w fun e w' => e = .returned (.bool f) ∧ Gr w w' := by
  obtain ⟨c, hc⟩ : ∃ c, cmpZ a P = c := ⟨_, rfl⟩
  have HC : Hid (∀ w, Calls Try.prog 77 #[.agg (nw 9 a), .agg (nw 9 P)] w fun e w' => e = .returned (.int .i64 c) ∧ Gr w w') := fun w => hc ▸ cmp_any a P ha hP w
  have hd : decide (c < 0) = f := by
    rw [← hf, ← hc]; unfold cmpZ
    by_cases h : a < P
    · simp [h]
    · simp only [h, if_false]; split <;> simp
  clear hc hf hP ha
  go_enter Try.func66, Try.ntmps66
  go_wp2_with (go_at_call 77; refine (HC.out _).mono ?_; rintro e w' ⟨rfl, g, rfl⟩)
  go_ret
  exact ⟨rfl, (by repeat (first | exact Gr.refl _ | apply Gr.drewN | apply Gr.drew | apply Gr.alloc | apply Gr.gro))⟩
set_option maxRecDepth 100000 in
set_option maxHeartbeats 400000 in
theorem left13_of (id : Int) (P A B N X Y : Nat) (s z : Int) (l : Bool) (y q1 : Nat)
    (H1' : ∀ w, Calls Try.prog 78 #[.int .i64 id, .agg (nw 9 y), .agg (nw 9 y)] w fun e w' => e = .returned (.tuple #[.agg (nw 9 q1), .int .i64 0]) ∧ Gr w w') (w : World) :
    Calls Try.prog 67 #[.agg (cu id P A B N X Y s z l), .agg (nw 9 y)] w fun e w' => e = .returned (.agg (nw 9 q1)) ∧ Gr w w' := by
  have H1 : Hid (∀ w, Calls Try.prog 78 #[.int .i64 id, .agg (nw 9 y), .agg (nw 9 y)] w fun e w' => e = .returned (.tuple #[.agg (nw 9 q1), .int .i64 0]) ∧ Gr w w') := H1'
  clear H1'
  go_enter Try.func67, Try.ntmps67
  go_upto_region 1 with fail
  refine gen_w (fun v => Hid (Gr w v ∧ Vr v w.heap.size (cu id P A B N X Y s z l) ∧ Vr v (w.heap.size + 1) (nw 9 y) ∧ Vr v (w.heap.size + 1 + 1) (nw 9 0))) ⟨(by repeat (first | exact Gr.refl _ | apply Gr.drewN | apply Gr.drew | apply Gr.alloc | apply Gr.gro)), ⟨by simp [go_sem], by simp [go_sem], by simp [go_sem]⟩, ⟨by simp [go_sem], by simp [go_sem], by simp [go_sem]⟩, ⟨by simp [go_sem], by simp [go_sem], by simp [go_sem]⟩⟩ ?_
  intro v0 HV
  obtain ⟨G, c0, c1, c2⟩ := HV.out
  have k0 : v0.cell? ⟨w.heap.size, 0, none⟩ = some (.int .i64 id) := by rw [c0.cell]; exact cu_0 id P A B N X Y s z l
  have ⟨h0, f0, p0⟩ := c0
  have ⟨h1, f1, p1⟩ := c1
  have ⟨h2, f2, p2⟩ := c2
  have ⟨p01, p02, p03, p04, p05, p06⟩ := c0.pp
  have ⟨p11, p12, p13, p14, p15, p16⟩ := c1.pp
  have ⟨p21, p22, p23, p24, p25, p26⟩ := c2.pp
  clear HV c0 c1 c2
  go_wp2_with (go_at_call 78; refine (H1.out _).mono ?_; rintro e w' ⟨rfl, g, rfl⟩)
  refine bodyPost_ret (res_one Try.results67 (rd_nat (x := q1) (by rfl) ?_)) rfl ⟨rfl, ?_⟩
  · simp [go_sem, *]
  · repeat (first | exact G | apply Gr.drewN | apply Gr.drew | apply Gr.alloc | apply Gr.gro | (refine gr_setNew ?_ (by omega)))
set_option maxRecDepth 100000 in
set_option maxHeartbeats 800000 in
theorem right13_of (id : Int) (P A B N X Y : Nat) (s z : Int) (l : Bool) (x q1 q2 q3 q4 : Nat)
    (H1' : ∀ w, Calls Try.prog 78 #[.int .i64 id, .agg (nw 9 x), .agg (nw 9 x)] w fun e w' => e = .returned (.tuple #[.agg (nw 9 q1), .int .i64 0]) ∧ Gr w w') (H2' : ∀ w, Calls Try.prog 79 #[.int .i64 id, .agg (nw 9 q1), .agg (nw 9 A)] w fun e w' => e = .returned (.tuple #[.agg (nw 9 q2), .int .i64 0]) ∧ Gr w w') (H3' : ∀ w, Calls Try.prog 78 #[.int .i64 id, .agg (nw 9 q2), .agg (nw 9 x)] w fun e w' => e = .returned (.tuple #[.agg (nw 9 q3), .int .i64 0]) ∧ Gr w w') (H4' : ∀ w, Calls Try.prog 79 #[.int .i64 id, .agg (nw 9 q3), .agg (nw 9 B)] w fun e w' => e = .returned (.tuple #[.agg (nw 9 q4), .int .i64 0]) ∧ Gr w w') (w : World) :
    Calls Try.prog 68 #[.agg (cu id P A B N X Y s z l), .agg (nw 9 x)] w fun e w' => e = .returned (.agg (nw 9 q4)) ∧ Gr w w' := by
  have H1 : Hid (∀ w, Calls Try.prog 78 #[.int .i64 id, .agg (nw 9 x), .agg (nw 9 x)] w fun e w' => e = .returned (.tuple #[.agg (nw 9 q1), .int .i64 0]) ∧ Gr w w') := H1'
  have H2 : Hid (∀ w, Calls Try.prog 79 #[.int .i64 id, .agg (nw 9 q1), .agg (nw 9 A)] w fun e w' => e = .returned (.tuple #[.agg (nw 9 q2), .int .i64 0]) ∧ Gr w w') := H2'
  have H3 : Hid (∀ w, Calls Try.prog 78 #[.int .i64 id, .agg (nw 9 q2), .agg (nw 9 x)] w fun e w' => e = .returned (.tuple #[.agg (nw 9 q3), .int .i64 0]) ∧ Gr w w') := H3'
  have H4 : Hid (∀ w, Calls Try.prog 79 #[.int .i64 id, .agg (nw 9 q3), .agg (nw 9 B)] w fun e w' => e = .returned (.tuple #[.agg (nw 9 q4), .int .i64 0]) ∧ Gr w w') := H4'
  clear H1' H2' H3' H4'
  go_enter Try.func68, Try.ntmps68
  go_upto_region 1 with fail
  refine gen_w (fun v => Hid (Gr w v ∧ Vr v w.heap.size (cu id P A B N X Y s z l) ∧ Vr v (w.heap.size + 1) (nw 9 x) ∧ Vr v (w.heap.size + 1 + 1) (nw 9 0))) ⟨(by repeat (first | exact Gr.refl _ | apply Gr.drewN | apply Gr.drew | apply Gr.alloc | apply Gr.gro)), ⟨by simp [go_sem], by simp [go_sem], by simp [go_sem]⟩, ⟨by simp [go_sem], by simp [go_sem], by simp [go_sem]⟩, ⟨by simp [go_sem], by simp [go_sem], by simp [go_sem]⟩⟩ ?_
  intro v0 HV
  obtain ⟨G, c0, c1, c2⟩ := HV.out
  have k0 : v0.cell? ⟨w.heap.size, 0, none⟩ = some (.int .i64 id) := by rw [c0.cell]; exact cu_0 id P A B N X Y s z l
  have ⟨h0, f0, p0⟩ := c0
  have ⟨h1, f1, p1⟩ := c1
  have ⟨h2, f2, p2⟩ := c2
  have ⟨p01, p02, p03, p04, p05, p06⟩ := c0.pp
  have ⟨p11, p12, p13, p14, p15, p16⟩ := c1.pp
  have ⟨p21, p22, p23, p24, p25, p26⟩ := c2.pp
  clear HV c0 c1 c2
  go_wp2_with (first
    | (go_at_call_of 78 ((#[.int .i64 id, .agg (nw 9 x), .agg (nw 9 x)] : Array Value)); refine (H1.out _).mono ?_; rintro e w' ⟨rfl, g0, rfl⟩)
    | (go_at_call_of 79 ((#[.int .i64 id, .agg (nw 9 q1), .agg (nw 9 A)] : Array Value)); refine (H2.out _).mono ?_; rintro e w' ⟨rfl, g1, rfl⟩)
    | (go_at_call_of 78 ((#[.int .i64 id, .agg (nw 9 q2), .agg (nw 9 x)] : Array Value)); refine (H3.out _).mono ?_; rintro e w' ⟨rfl, g2, rfl⟩)
    | (go_at_call_of 79 ((#[.int .i64 id, .agg (nw 9 q3), .agg (nw 9 B)] : Array Value)); refine (H4.out _).mono ?_; rintro e w' ⟨rfl, g3, rfl⟩))
  refine bodyPost_ret (res_one Try.results68 (rd_nat (x := q4) (by rfl) ?_)) rfl ⟨rfl, ?_⟩
  · simp [go_sem, *]
  · repeat (first | exact G | apply Gr.drewN | apply Gr.drew | apply Gr.alloc | apply Gr.gro | (refine gr_setNew ?_ (by omega)))
set_option maxRecDepth 100000 in
set_option maxHeartbeats 400000 in
theorem holds_inf (id : Int) (P A B N X Y : Nat) (s z : Int) (l : Bool) (x y : Nat) (w : World) :
    Calls Try.prog 41 #[.agg (cu id P A B N X Y s z l), .agg (pnt x y true)] w fun e w' => e = .returned (.bool (eqN 9 x 0 && (eqN 9 y 0 && true))) ∧ Gr w w' := by
  have hq : ∀ w, (binOp .eql 27 (.agg (pnt x y true)) (.agg (pnt 0 0 true))).run Try.prog w = .ok (.bool (eqN 9 x 0 && (eqN 9 y 0 && true))) w := fun w => eqPn x y true 0 0 true w
  go_enter Try.func41, Try.ntmps41
  go_upto_region 1 with fail
  refine gen_w (fun v => Hid (Gr w v ∧ Vr v (w.heap.size + 1) (pnt x y true))) ⟨(by repeat (first | exact Gr.refl _ | apply Gr.drewN | apply Gr.drew | apply Gr.alloc | apply Gr.gro)), ⟨by simp [go_sem], by simp [go_sem], by simp [go_sem]⟩⟩ ?_
  intro v0 HV
  obtain ⟨G, c1⟩ := HV.out
  have k1 : v0.cell? ⟨w.heap.size + 1, 18, none⟩ = some (.bool true) := by rw [c1.cell]; exact pnt_18 x y true
  have ⟨h1, f1, p1⟩ := c1
  clear HV c1
  go_wp2_with fail
  go_ret
  exact ⟨by simp, G⟩
set_option maxRecDepth 100000 in
set_option maxHeartbeats 1600000 in
theorem holds_of (id : Int) (P A B N X Y : Nat) (s z : Int) (l : Bool) (x y L R : Nat) (bx by' : Bool)
    (HBx' : ∀ w, Calls Try.prog 66 #[.agg (cu id P A B N X Y s z l), .agg (nw 9 x)] w fun e w' => e = .returned (.bool bx) ∧ Gr w w') (HBy' : ∀ w, Calls Try.prog 66 #[.agg (cu id P A B N X Y s z l), .agg (nw 9 y)] w fun e w' => e = .returned (.bool by') ∧ Gr w w')
    (HL' : bx = true → by' = true → ∀ w, Calls Try.prog 67 #[.agg (cu id P A B N X Y s z l), .agg (nw 9 y)] w fun e w' => e = .returned (.agg (nw 9 L)) ∧ Gr w w')
    (HR' : bx = true → by' = true → ∀ w, Calls Try.prog 68 #[.agg (cu id P A B N X Y s z l), .agg (nw 9 x)] w fun e w' => e = .returned (.agg (nw 9 R)) ∧ Gr w w') (w : World) :
    Calls Try.prog 41 #[.agg (cu id P A B N X Y s z l), .agg (pnt x y false)] w fun e w' => e = .returned (.bool (bx && (by' && eqN 9 L R))) ∧ Gr w w' := by
  have HBx : Hid (∀ w, Calls Try.prog 66 #[.agg (cu id P A B N X Y s z l), .agg (nw 9 x)] w fun e w' => e = .returned (.bool bx) ∧ Gr w w') := HBx'
  have HBy : Hid (∀ w, Calls Try.prog 66 #[.agg (cu id P A B N X Y s z l), .agg (nw 9 y)] w fun e w' => e = .returned (.bool by') ∧ Gr w w') := HBy'
  have HL := HL'
  have HR := HR'
  clear HL' HR' HBx' HBy'
  rcases (by cases bx <;> cases by' <;> simp : (bx = false) ∨ (bx = true ∧ by' = false) ∨ (bx = true ∧ by' = true)) with rfl | ⟨rfl, rfl⟩ | ⟨rfl, rfl⟩
  · clear HL HR
    go_enter Try.func41, Try.ntmps41
    go_upto_region 3 with fail
    refine gen_w (fun v => Hid (Gr w v ∧ Vr v w.heap.size (cu id P A B N X Y s z l) ∧ Vr v (w.heap.size + 1) (pnt x y false))) ⟨(by repeat (first | exact Gr.refl _ | apply Gr.drewN | apply Gr.drew | apply Gr.alloc | apply Gr.gro)), ⟨by simp [go_sem], by simp [go_sem], by simp [go_sem]⟩, ⟨by simp [go_sem], by simp [go_sem], by simp [go_sem]⟩⟩ ?_
    intro v0 HV
    obtain ⟨G, c2, c3⟩ := HV.out
    refine wp_region_q (by kernel_rfl) (by kernel_rfl) [.c (.agg (cu id P A B N X Y s z l)), .c (.pointer (some ⟨w.heap.size + 1, 0, none⟩)), .c (.agg (nw 9 x)), .c (.bool false), .c (.bool false), .top, .top, .top, .top, .c (.bool false), .c (.bool false), .top, .top, .top, .top, .top, .top, .top, .top, .top, .c (.bool false), .c (.bool false)] ?hs ?hf
    case hs =>
      intro listed vals a1 v io oo hg hR hF ho hd
      have H2 : blk v (w.heap.size) = cu id P A B N X Y s z l := (hg.blk _ c2.p).trans c2.h
      have H3 : blk v (w.heap.size + 1) = pnt x y false := (hg.blk _ c3.p).trans c3.h
      have hi : io < 22 := by simpa using (Array.getElem?_eq_some_iff.1 ho).1
      obtain rfl | rfl | rfl | rfl | rfl | rfl | rfl | rfl | rfl | rfl | rfl | rfl | rfl | rfl | rfl | rfl | rfl | rfl | rfl | rfl | rfl | rfl : io = 0 ∨ io = 1 ∨ io = 2 ∨ io = 3 ∨ io = 4 ∨ io = 5 ∨ io = 6 ∨ io = 7 ∨ io = 8 ∨ io = 9 ∨ io = 10 ∨ io = 11 ∨ io = 12 ∨ io = 13 ∨ io = 14 ∨ io = 15 ∨ io = 16 ∨ io = 17 ∨ io = 18 ∨ io = 19 ∨ io = 20 ∨ io = 21 := by omega
      · obtain rfl := Option.some.inj ho
        have f0 := hF.old (s := 2) (v := .pointer (some ⟨w.heap.size, 0, none⟩)) (by kernel_rfl) rfl
        refine Or.inl ⟨wanted_no rfl, ?_⟩
        exact wp_val (.agg (cu id P A B N X Y s z l)) (by simp [go_sem, f0, H2]) ⟨_, rfl, Gr.refl _, rfl⟩
      · obtain rfl := Option.some.inj ho
        have f0 := hF.old (s := 3) (v := .pointer (some ⟨w.heap.size + 1, 0, none⟩)) (by kernel_rfl) rfl
        refine Or.inl ⟨wanted_no rfl, ?_⟩
        exact wp_val (.pointer (some ⟨w.heap.size + 1, 0, none⟩)) (by simp [go_sem, f0]) ⟨_, rfl, Gr.refl _, rfl⟩
      · obtain rfl := Option.some.inj ho
        have l0 := on_of hd 1 (by kernel_rfl)
        have f0 := hF.at (s := 11) (i := 1) (by kernel_rfl) (by simp) l0
        have e0 : vals 1 = .pointer (some ⟨w.heap.size + 1, 0, none⟩) := hR 1 l0
        rw [e0] at f0
        refine Or.inl ⟨wanted_no rfl, ?_⟩
        exact wp_val (.agg (nw 9 x)) (by simp [go_sem, f0, H3]) ⟨_, rfl, Gr.refl _, rfl⟩
      · obtain rfl := Option.some.inj ho
        have l0 := on_of hd 0 (by kernel_rfl)
        have f0 := hF.at (s := 10) (i := 0) (by kernel_rfl) (by simp) l0
        have e0 : vals 0 = .agg (cu id P A B N X Y s z l) := hR 0 l0
        rw [e0] at f0
        have l1 := on_of hd 2 (by kernel_rfl)
        have f1 := hF.at (s := 12) (i := 2) (by kernel_rfl) (by simp) l1
        have e1 : vals 2 = .agg (nw 9 x) := hR 2 l1
        rw [e1] at f1
        refine Or.inl ⟨wanted_no rfl, ?_⟩
        exact wp_retz (k := .c (.bool false)) (by simp [go_sem, f0, f1]) (Rt.c (HBx.out v)) (fun u w2 hu hg2 => ⟨_, rfl, hg2, hu⟩)
      · obtain rfl := Option.some.inj ho
        have l0 := on_of hd 3 (by kernel_rfl)
        have f0 := hF.at (s := 13) (i := 3) (by kernel_rfl) (by simp) l0
        have e0 : vals 3 = .bool false := hR 3 l0
        rw [e0] at f0
        refine Or.inl ⟨wanted_no rfl, ?_⟩
        exact wp_val (.bool false) (by simp [go_sem, f0]) ⟨_, rfl, Gr.refl _, rfl⟩
      · obtain rfl := Option.some.inj ho
        have lg := on_of hd 4 (by kernel_rfl)
        have fg := hF.at (s := 14) (i := 4) (by kernel_rfl) (by simp) lg
        rw [show vals 4 = .bool false from hR 4 lg] at fg
        exact Or.inr ⟨unwanted_at (j := 4) (s := 14) rfl rfl rfl fg (by decide), trivial⟩
      · obtain rfl := Option.some.inj ho
        have lg := on_of hd 4 (by kernel_rfl)
        have fg := hF.at (s := 14) (i := 4) (by kernel_rfl) (by simp) lg
        rw [show vals 4 = .bool false from hR 4 lg] at fg
        exact Or.inr ⟨unwanted_at (j := 4) (s := 14) rfl rfl rfl fg (by decide), trivial⟩
      · obtain rfl := Option.some.inj ho
        have lg := on_of hd 4 (by kernel_rfl)
        have fg := hF.at (s := 14) (i := 4) (by kernel_rfl) (by simp) lg
        rw [show vals 4 = .bool false from hR 4 lg] at fg
        exact Or.inr ⟨unwanted_at (j := 4) (s := 14) rfl rfl rfl fg (by decide), trivial⟩
      · obtain rfl := Option.some.inj ho
        have lg := on_of hd 4 (by kernel_rfl)
        have fg := hF.at (s := 14) (i := 4) (by kernel_rfl) (by simp) lg
        rw [show vals 4 = .bool false from hR 4 lg] at fg
        exact Or.inr ⟨unwanted_at (j := 4) (s := 14) rfl rfl rfl fg (by decide), trivial⟩
      · obtain rfl := Option.some.inj ho
        have l0 := on_of hd 4 (by kernel_rfl)
        have f0 := hF.at (s := 14) (i := 4) (by kernel_rfl) (by simp) l0
        have e0 : vals 4 = .bool false := hR 4 l0
        rw [e0] at f0
        have l1 := on_of hd 8 (by kernel_rfl)
        have f1 := hF.at (s := 18) (i := 8) (by kernel_rfl) (by simp) l1
        refine Or.inl ⟨wanted_no rfl, ?_⟩
        exact wp_val (.bool false) (by simp [go_sem, f0, f1]) ⟨_, rfl, Gr.refl _, rfl⟩
      · obtain rfl := Option.some.inj ho
        have l0 := on_of hd 9 (by kernel_rfl)
        have f0 := hF.at (s := 19) (i := 9) (by kernel_rfl) (by simp) l0
        have e0 : vals 9 = .bool false := hR 9 l0
        rw [e0] at f0
        refine Or.inl ⟨wanted_no rfl, ?_⟩
        exact wp_val (.bool false) (by simp [go_sem, f0]) ⟨_, rfl, Gr.refl _, rfl⟩
      · obtain rfl := Option.some.inj ho
        have lg := on_of hd 10 (by kernel_rfl)
        have fg := hF.at (s := 20) (i := 10) (by kernel_rfl) (by simp) lg
        rw [show vals 10 = .bool false from hR 10 lg] at fg
        exact Or.inr ⟨unwanted_at (j := 10) (s := 20) rfl rfl rfl fg (by decide), trivial⟩
      · obtain rfl := Option.some.inj ho
        have lg := on_of hd 10 (by kernel_rfl)
        have fg := hF.at (s := 20) (i := 10) (by kernel_rfl) (by simp) lg
        rw [show vals 10 = .bool false from hR 10 lg] at fg
        exact Or.inr ⟨unwanted_at (j := 10) (s := 20) rfl rfl rfl fg (by decide), trivial⟩
      · obtain rfl := Option.some.inj ho
        have lg := on_of hd 10 (by kernel_rfl)
        have fg := hF.at (s := 20) (i := 10) (by kernel_rfl) (by simp) lg
        rw [show vals 10 = .bool false from hR 10 lg] at fg
        exact Or.inr ⟨unwanted_at (j := 10) (s := 20) rfl rfl rfl fg (by decide), trivial⟩
      · obtain rfl := Option.some.inj ho
        have lg := on_of hd 10 (by kernel_rfl)
        have fg := hF.at (s := 20) (i := 10) (by kernel_rfl) (by simp) lg
        rw [show vals 10 = .bool false from hR 10 lg] at fg
        exact Or.inr ⟨unwanted_at (j := 10) (s := 20) rfl rfl rfl fg (by decide), trivial⟩
      · obtain rfl := Option.some.inj ho
        have lg := on_of hd 10 (by kernel_rfl)
        have fg := hF.at (s := 20) (i := 10) (by kernel_rfl) (by simp) lg
        rw [show vals 10 = .bool false from hR 10 lg] at fg
        exact Or.inr ⟨unwanted_at (j := 10) (s := 20) rfl rfl rfl fg (by decide), trivial⟩
      · obtain rfl := Option.some.inj ho
        have lg := on_of hd 10 (by kernel_rfl)
        have fg := hF.at (s := 20) (i := 10) (by kernel_rfl) (by simp) lg
        rw [show vals 10 = .bool false from hR 10 lg] at fg
        exact Or.inr ⟨unwanted_at (j := 10) (s := 20) rfl rfl rfl fg (by decide), trivial⟩
      · obtain rfl := Option.some.inj ho
        have lg := on_of hd 10 (by kernel_rfl)
        have fg := hF.at (s := 20) (i := 10) (by kernel_rfl) (by simp) lg
        rw [show vals 10 = .bool false from hR 10 lg] at fg
        exact Or.inr ⟨unwanted_at (j := 10) (s := 20) rfl rfl rfl fg (by decide), trivial⟩
      · obtain rfl := Option.some.inj ho
        have lg := on_of hd 10 (by kernel_rfl)
        have fg := hF.at (s := 20) (i := 10) (by kernel_rfl) (by simp) lg
        rw [show vals 10 = .bool false from hR 10 lg] at fg
        exact Or.inr ⟨unwanted_at (j := 10) (s := 20) rfl rfl rfl fg (by decide), trivial⟩
      · obtain rfl := Option.some.inj ho
        have lg := on_of hd 10 (by kernel_rfl)
        have fg := hF.at (s := 20) (i := 10) (by kernel_rfl) (by simp) lg
        rw [show vals 10 = .bool false from hR 10 lg] at fg
        exact Or.inr ⟨unwanted_at (j := 10) (s := 20) rfl rfl rfl fg (by decide), trivial⟩
      · obtain rfl := Option.some.inj ho
        have l0 := on_of hd 10 (by kernel_rfl)
        have f0 := hF.at (s := 20) (i := 10) (by kernel_rfl) (by simp) l0
        have e0 : vals 10 = .bool false := hR 10 l0
        rw [e0] at f0
        have l1 := on_of hd 19 (by kernel_rfl)
        have f1 := hF.at (s := 29) (i := 19) (by kernel_rfl) (by simp) l1
        refine Or.inl ⟨wanted_no rfl, ?_⟩
        exact wp_val (.bool false) (by simp [go_sem, f0, f1]) ⟨_, rfl, Gr.refl _, rfl⟩
      · obtain rfl := Option.some.inj ho
        have l0 := on_of hd 20 (by kernel_rfl)
        have f0 := hF.at (s := 30) (i := 20) (by kernel_rfl) (by simp) l0
        have e0 : vals 20 = .bool false := hR 20 l0
        rw [e0] at f0
        refine Or.inl ⟨wanted_no rfl, ?_⟩
        exact wp_val (.bool false) (by simp [go_sem, f0]) ⟨_, rfl, Gr.refl _, rfl⟩
    case hf =>
      intro vals v hg hR
      have H2 : blk v (w.heap.size) = cu id P A B N X Y s z l := (hg.blk _ c2.p).trans c2.h
      have H3 : blk v (w.heap.size + 1) = pnt x y false := (hg.blk _ c3.p).trans c3.h
      have e100 : vals 0 = .agg (cu id P A B N X Y s z l) := hR 0 (by simp)
      have e101 : vals 1 = .pointer (some ⟨w.heap.size + 1, 0, none⟩) := hR 1 (by simp)
      have e102 : vals 2 = .agg (nw 9 x) := hR 2 (by simp)
      have e103 : vals 3 = .bool false := hR 3 (by simp)
      have e104 : vals 4 = .bool false := hR 4 (by simp)
      have e109 : vals 9 = .bool false := hR 9 (by simp)
      have e110 : vals 10 = .bool false := hR 10 (by simp)
      have e120 : vals 20 = .bool false := hR 20 (by simp)
      have e121 : vals 21 = .bool false := hR 21 (by simp)
      simp only [putFrom, Act.put, List.setIfInBounds_toArray, List.set_cons_zero, List.set_cons_succ, e100, e101, e102, e103, e104, e109, e110, e120, e121]
      clear hR e100 e101 e102 e103 e104 e109 e110 e120 e121
      have HG : Gr w v := G.trans hg
      clear hg
      go_wp2_with fail
      go_ret
      exact ⟨rfl, HG⟩
  · clear HL HR
    go_enter Try.func41, Try.ntmps41
    go_upto_region 3 with fail
    refine gen_w (fun v => Hid (Gr w v ∧ Vr v w.heap.size (cu id P A B N X Y s z l) ∧ Vr v (w.heap.size + 1) (pnt x y false))) ⟨(by repeat (first | exact Gr.refl _ | apply Gr.drewN | apply Gr.drew | apply Gr.alloc | apply Gr.gro)), ⟨by simp [go_sem], by simp [go_sem], by simp [go_sem]⟩, ⟨by simp [go_sem], by simp [go_sem], by simp [go_sem]⟩⟩ ?_
    intro v0 HV
    obtain ⟨G, c2, c3⟩ := HV.out
    refine wp_region_q (by kernel_rfl) (by kernel_rfl) [.c (.agg (cu id P A B N X Y s z l)), .c (.pointer (some ⟨w.heap.size + 1, 0, none⟩)), .c (.agg (nw 9 x)), .c (.bool true), .c (.bool true), .c (.agg (cu id P A B N X Y s z l)), .c (.pointer (some ⟨w.heap.size + 1, 9, none⟩)), .c (.agg (nw 9 y)), .c (.bool false), .c (.bool false), .c (.bool false), .top, .top, .top, .top, .top, .top, .top, .top, .top, .c (.bool false), .c (.bool false)] ?hs ?hf
    case hs =>
      intro listed vals a1 v io oo hg hR hF ho hd
      have H2 : blk v (w.heap.size) = cu id P A B N X Y s z l := (hg.blk _ c2.p).trans c2.h
      have H3 : blk v (w.heap.size + 1) = pnt x y false := (hg.blk _ c3.p).trans c3.h
      have hi : io < 22 := by simpa using (Array.getElem?_eq_some_iff.1 ho).1
      obtain rfl | rfl | rfl | rfl | rfl | rfl | rfl | rfl | rfl | rfl | rfl | rfl | rfl | rfl | rfl | rfl | rfl | rfl | rfl | rfl | rfl | rfl : io = 0 ∨ io = 1 ∨ io = 2 ∨ io = 3 ∨ io = 4 ∨ io = 5 ∨ io = 6 ∨ io = 7 ∨ io = 8 ∨ io = 9 ∨ io = 10 ∨ io = 11 ∨ io = 12 ∨ io = 13 ∨ io = 14 ∨ io = 15 ∨ io = 16 ∨ io = 17 ∨ io = 18 ∨ io = 19 ∨ io = 20 ∨ io = 21 := by omega
      · obtain rfl := Option.some.inj ho
        have f0 := hF.old (s := 2) (v := .pointer (some ⟨w.heap.size, 0, none⟩)) (by kernel_rfl) rfl
        refine Or.inl ⟨wanted_no rfl, ?_⟩
        exact wp_val (.agg (cu id P A B N X Y s z l)) (by simp [go_sem, f0, H2]) ⟨_, rfl, Gr.refl _, rfl⟩
      · obtain rfl := Option.some.inj ho
        have f0 := hF.old (s := 3) (v := .pointer (some ⟨w.heap.size + 1, 0, none⟩)) (by kernel_rfl) rfl
        refine Or.inl ⟨wanted_no rfl, ?_⟩
        exact wp_val (.pointer (some ⟨w.heap.size + 1, 0, none⟩)) (by simp [go_sem, f0]) ⟨_, rfl, Gr.refl _, rfl⟩
      · obtain rfl := Option.some.inj ho
        have l0 := on_of hd 1 (by kernel_rfl)
        have f0 := hF.at (s := 11) (i := 1) (by kernel_rfl) (by simp) l0
        have e0 : vals 1 = .pointer (some ⟨w.heap.size + 1, 0, none⟩) := hR 1 l0
        rw [e0] at f0
        refine Or.inl ⟨wanted_no rfl, ?_⟩
        exact wp_val (.agg (nw 9 x)) (by simp [go_sem, f0, H3]) ⟨_, rfl, Gr.refl _, rfl⟩
      · obtain rfl := Option.some.inj ho
        have l0 := on_of hd 0 (by kernel_rfl)
        have f0 := hF.at (s := 10) (i := 0) (by kernel_rfl) (by simp) l0
        have e0 : vals 0 = .agg (cu id P A B N X Y s z l) := hR 0 l0
        rw [e0] at f0
        have l1 := on_of hd 2 (by kernel_rfl)
        have f1 := hF.at (s := 12) (i := 2) (by kernel_rfl) (by simp) l1
        have e1 : vals 2 = .agg (nw 9 x) := hR 2 l1
        rw [e1] at f1
        refine Or.inl ⟨wanted_no rfl, ?_⟩
        exact wp_retz (k := .c (.bool true)) (by simp [go_sem, f0, f1]) (Rt.c (HBx.out v)) (fun u w2 hu hg2 => ⟨_, rfl, hg2, hu⟩)
      · obtain rfl := Option.some.inj ho
        have l0 := on_of hd 3 (by kernel_rfl)
        have f0 := hF.at (s := 13) (i := 3) (by kernel_rfl) (by simp) l0
        have e0 : vals 3 = .bool true := hR 3 l0
        rw [e0] at f0
        refine Or.inl ⟨wanted_no rfl, ?_⟩
        exact wp_val (.bool true) (by simp [go_sem, f0]) ⟨_, rfl, Gr.refl _, rfl⟩
      · obtain rfl := Option.some.inj ho
        have lg := on_of hd 4 (by kernel_rfl)
        have fg := hF.at (s := 14) (i := 4) (by kernel_rfl) (by simp) lg
        rw [show vals 4 = .bool true from hR 4 lg] at fg
        have f0 := hF.old (s := 2) (v := .pointer (some ⟨w.heap.size, 0, none⟩)) (by kernel_rfl) rfl
        refine Or.inl ⟨wanted_at (j := 4) (s := 14) rfl rfl rfl fg, ?_⟩
        exact wp_val (.agg (cu id P A B N X Y s z l)) (by simp [go_sem, f0, H2]) ⟨_, rfl, Gr.refl _, rfl⟩
      · obtain rfl := Option.some.inj ho
        have lg := on_of hd 4 (by kernel_rfl)
        have fg := hF.at (s := 14) (i := 4) (by kernel_rfl) (by simp) lg
        rw [show vals 4 = .bool true from hR 4 lg] at fg
        have f0 := hF.old (s := 3) (v := .pointer (some ⟨w.heap.size + 1, 0, none⟩)) (by kernel_rfl) rfl
        refine Or.inl ⟨wanted_at (j := 4) (s := 14) rfl rfl rfl fg, ?_⟩
        exact wp_val (.pointer (some ⟨w.heap.size + 1, 9, none⟩)) (by simp [go_sem, f0]) ⟨_, rfl, Gr.refl _, rfl⟩
      · obtain rfl := Option.some.inj ho
        have lg := on_of hd 4 (by kernel_rfl)
        have fg := hF.at (s := 14) (i := 4) (by kernel_rfl) (by simp) lg
        rw [show vals 4 = .bool true from hR 4 lg] at fg
        have l0 := on_of hd 6 (by kernel_rfl)
        have f0 := hF.at (s := 16) (i := 6) (by kernel_rfl) (by simp) l0
        have e0 : vals 6 = .pointer (some ⟨w.heap.size + 1, 9, none⟩) := hR 6 l0
        rw [e0] at f0
        refine Or.inl ⟨wanted_at (j := 4) (s := 14) rfl rfl rfl fg, ?_⟩
        exact wp_val (.agg (nw 9 y)) (by simp [go_sem, f0, H3]) ⟨_, rfl, Gr.refl _, rfl⟩
      · obtain rfl := Option.some.inj ho
        have lg := on_of hd 4 (by kernel_rfl)
        have fg := hF.at (s := 14) (i := 4) (by kernel_rfl) (by simp) lg
        rw [show vals 4 = .bool true from hR 4 lg] at fg
        have l0 := on_of hd 5 (by kernel_rfl)
        have f0 := hF.at (s := 15) (i := 5) (by kernel_rfl) (by simp) l0
        have e0 : vals 5 = .agg (cu id P A B N X Y s z l) := hR 5 l0
        rw [e0] at f0
        have l1 := on_of hd 7 (by kernel_rfl)
        have f1 := hF.at (s := 17) (i := 7) (by kernel_rfl) (by simp) l1
        have e1 : vals 7 = .agg (nw 9 y) := hR 7 l1
        rw [e1] at f1
        refine Or.inl ⟨wanted_at (j := 4) (s := 14) rfl rfl rfl fg, ?_⟩
        exact wp_retz (k := .c (.bool false)) (by simp [go_sem, f0, f1]) (Rt.c (HBy.out v)) (fun u w2 hu hg2 => ⟨_, rfl, hg2, hu⟩)
      · obtain rfl := Option.some.inj ho
        have l0 := on_of hd 4 (by kernel_rfl)
        have f0 := hF.at (s := 14) (i := 4) (by kernel_rfl) (by simp) l0
        have e0 : vals 4 = .bool true := hR 4 l0
        rw [e0] at f0
        have l1 := on_of hd 8 (by kernel_rfl)
        have f1 := hF.at (s := 18) (i := 8) (by kernel_rfl) (by simp) l1
        have e1 : vals 8 = .bool false := hR 8 l1
        rw [e1] at f1
        refine Or.inl ⟨wanted_no rfl, ?_⟩
        exact wp_val (.bool false) (by simp [go_sem, f0, f1]) ⟨_, rfl, Gr.refl _, rfl⟩
      · obtain rfl := Option.some.inj ho
        have l0 := on_of hd 9 (by kernel_rfl)
        have f0 := hF.at (s := 19) (i := 9) (by kernel_rfl) (by simp) l0
        have e0 : vals 9 = .bool false := hR 9 l0
        rw [e0] at f0
        refine Or.inl ⟨wanted_no rfl, ?_⟩
        exact wp_val (.bool false) (by simp [go_sem, f0]) ⟨_, rfl, Gr.refl _, rfl⟩
      · obtain rfl := Option.some.inj ho
        have lg := on_of hd 10 (by kernel_rfl)
        have fg := hF.at (s := 20) (i := 10) (by kernel_rfl) (by simp) lg
        rw [show vals 10 = .bool false from hR 10 lg] at fg
        exact Or.inr ⟨unwanted_at (j := 10) (s := 20) rfl rfl rfl fg (by decide), trivial⟩
      · obtain rfl := Option.some.inj ho
        have lg := on_of hd 10 (by kernel_rfl)
        have fg := hF.at (s := 20) (i := 10) (by kernel_rfl) (by simp) lg
        rw [show vals 10 = .bool false from hR 10 lg] at fg
        exact Or.inr ⟨unwanted_at (j := 10) (s := 20) rfl rfl rfl fg (by decide), trivial⟩
      · obtain rfl := Option.some.inj ho
        have lg := on_of hd 10 (by kernel_rfl)
        have fg := hF.at (s := 20) (i := 10) (by kernel_rfl) (by simp) lg
        rw [show vals 10 = .bool false from hR 10 lg] at fg
        exact Or.inr ⟨unwanted_at (j := 10) (s := 20) rfl rfl rfl fg (by decide), trivial⟩
      · obtain rfl := Option.some.inj ho
        have lg := on_of hd 10 (by kernel_rfl)
        have fg := hF.at (s := 20) (i := 10) (by kernel_rfl) (by simp) lg
        rw [show vals 10 = .bool false from hR 10 lg] at fg
        exact Or.inr ⟨unwanted_at (j := 10) (s := 20) rfl rfl rfl fg (by decide), trivial⟩
      · obtain rfl := Option.some.inj ho
        have lg := on_of hd 10 (by kernel_rfl)
        have fg := hF.at (s := 20) (i := 10) (by kernel_rfl) (by simp) lg
        rw [show vals 10 = .bool false from hR 10 lg] at fg
        exact Or.inr ⟨unwanted_at (j := 10) (s := 20) rfl rfl rfl fg (by decide), trivial⟩
      · obtain rfl := Option.some.inj ho
        have lg := on_of hd 10 (by kernel_rfl)
        have fg := hF.at (s := 20) (i := 10) (by kernel_rfl) (by simp) lg
        rw [show vals 10 = .bool false from hR 10 lg] at fg
        exact Or.inr ⟨unwanted_at (j := 10) (s := 20) rfl rfl rfl fg (by decide), trivial⟩
      · obtain rfl := Option.some.inj ho
        have lg := on_of hd 10 (by kernel_rfl)
        have fg := hF.at (s := 20) (i := 10) (by kernel_rfl) (by simp) lg
        rw [show vals 10 = .bool false from hR 10 lg] at fg
        exact Or.inr ⟨unwanted_at (j := 10) (s := 20) rfl rfl rfl fg (by decide), trivial⟩
      · obtain rfl := Option.some.inj ho
        have lg := on_of hd 10 (by kernel_rfl)
        have fg := hF.at (s := 20) (i := 10) (by kernel_rfl) (by simp) lg
        rw [show vals 10 = .bool false from hR 10 lg] at fg
        exact Or.inr ⟨unwanted_at (j := 10) (s := 20) rfl rfl rfl fg (by decide), trivial⟩
      · obtain rfl := Option.some.inj ho
        have lg := on_of hd 10 (by kernel_rfl)
        have fg := hF.at (s := 20) (i := 10) (by kernel_rfl) (by simp) lg
        rw [show vals 10 = .bool false from hR 10 lg] at fg
        exact Or.inr ⟨unwanted_at (j := 10) (s := 20) rfl rfl rfl fg (by decide), trivial⟩
      · obtain rfl := Option.some.inj ho
        have l0 := on_of hd 10 (by kernel_rfl)
        have f0 := hF.at (s := 20) (i := 10) (by kernel_rfl) (by simp) l0
        have e0 : vals 10 = .bool false := hR 10 l0
        rw [e0] at f0
        have l1 := on_of hd 19 (by kernel_rfl)
        have f1 := hF.at (s := 29) (i := 19) (by kernel_rfl) (by simp) l1
        refine Or.inl ⟨wanted_no rfl, ?_⟩
        exact wp_val (.bool false) (by simp [go_sem, f0, f1]) ⟨_, rfl, Gr.refl _, rfl⟩
      · obtain rfl := Option.some.inj ho
        have l0 := on_of hd 20 (by kernel_rfl)
        have f0 := hF.at (s := 30) (i := 20) (by kernel_rfl) (by simp) l0
        have e0 : vals 20 = .bool false := hR 20 l0
        rw [e0] at f0
        refine Or.inl ⟨wanted_no rfl, ?_⟩
        exact wp_val (.bool false) (by simp [go_sem, f0]) ⟨_, rfl, Gr.refl _, rfl⟩
    case hf =>
      intro vals v hg hR
      have H2 : blk v (w.heap.size) = cu id P A B N X Y s z l := (hg.blk _ c2.p).trans c2.h
      have H3 : blk v (w.heap.size + 1) = pnt x y false := (hg.blk _ c3.p).trans c3.h
      have e100 : vals 0 = .agg (cu id P A B N X Y s z l) := hR 0 (by simp)
      have e101 : vals 1 = .pointer (some ⟨w.heap.size + 1, 0, none⟩) := hR 1 (by simp)
      have e102 : vals 2 = .agg (nw 9 x) := hR 2 (by simp)
      have e103 : vals 3 = .bool true := hR 3 (by simp)
      have e104 : vals 4 = .bool true := hR 4 (by simp)
      have e105 : vals 5 = .agg (cu id P A B N X Y s z l) := hR 5 (by simp)
      have e106 : vals 6 = .pointer (some ⟨w.heap.size + 1, 9, none⟩) := hR 6 (by simp)
      have e107 : vals 7 = .agg (nw 9 y) := hR 7 (by simp)
      have e108 : vals 8 = .bool false := hR 8 (by simp)
      have e109 : vals 9 = .bool false := hR 9 (by simp)
      have e110 : vals 10 = .bool false := hR 10 (by simp)
      have e120 : vals 20 = .bool false := hR 20 (by simp)
      have e121 : vals 21 = .bool false := hR 21 (by simp)
      simp only [putFrom, Act.put, List.setIfInBounds_toArray, List.set_cons_zero, List.set_cons_succ, e100, e101, e102, e103, e104, e105, e106, e107, e108, e109, e110, e120, e121]
      clear hR e100 e101 e102 e103 e104 e105 e106 e107 e108 e109 e110 e120 e121
      have HG : Gr w v := G.trans hg
      clear hg
      go_wp2_with fail
      go_ret
      exact ⟨rfl, HG⟩
  · replace HL : Hid (∀ w, Calls Try.prog 67 #[.agg (cu id P A B N X Y s z l), .agg (nw 9 y)] w fun e w' => e = .returned (.agg (nw 9 L)) ∧ Gr w w') := HL rfl rfl
    replace HR : Hid (∀ w, Calls Try.prog 68 #[.agg (cu id P A B N X Y s z l), .agg (nw 9 x)] w fun e w' => e = .returned (.agg (nw 9 R)) ∧ Gr w w') := HR rfl rfl
    go_enter Try.func41, Try.ntmps41
    go_upto_region 3 with fail
    refine gen_w (fun v => Hid (Gr w v ∧ Vr v w.heap.size (cu id P A B N X Y s z l) ∧ Vr v (w.heap.size + 1) (pnt x y false))) ⟨(by repeat (first | exact Gr.refl _ | apply Gr.drewN | apply Gr.drew | apply Gr.alloc | apply Gr.gro)), ⟨by simp [go_sem], by simp [go_sem], by simp [go_sem]⟩, ⟨by simp [go_sem], by simp [go_sem], by simp [go_sem]⟩⟩ ?_
    intro v0 HV
    obtain ⟨G, c2, c3⟩ := HV.out
    refine wp_region_q (by kernel_rfl) (by kernel_rfl) [.c (.agg (cu id P A B N X Y s z l)), .c (.pointer (some ⟨w.heap.size + 1, 0, none⟩)), .c (.agg (nw 9 x)), .c (.bool true), .c (.bool true), .c (.agg (cu id P A B N X Y s z l)), .c (.pointer (some ⟨w.heap.size + 1, 9, none⟩)), .c (.agg (nw 9 y)), .c (.bool true), .c (.bool true), .c (.bool true), .c (.agg (cu id P A B N X Y s z l)), .c (.pointer (some ⟨w.heap.size + 1, 9, none⟩)), .c (.agg (nw 9 y)), .c (.agg (nw 9 L)), .c (.agg (cu id P A B N X Y s z l)), .c (.pointer (some ⟨w.heap.size + 1, 0, none⟩)), .c (.agg (nw 9 x)), .c (.agg (nw 9 R)), .c (.bool (eqN 9 L R)), .c (.bool (eqN 9 L R)), .c (.bool (eqN 9 L R))] ?hs ?hf
    case hs =>
      intro listed vals a1 v io oo hg hR hF ho hd
      have H2 : blk v (w.heap.size) = cu id P A B N X Y s z l := (hg.blk _ c2.p).trans c2.h
      have H3 : blk v (w.heap.size + 1) = pnt x y false := (hg.blk _ c3.p).trans c3.h
      have hi : io < 22 := by simpa using (Array.getElem?_eq_some_iff.1 ho).1
      obtain rfl | rfl | rfl | rfl | rfl | rfl | rfl | rfl | rfl | rfl | rfl | rfl | rfl | rfl | rfl | rfl | rfl | rfl | rfl | rfl | rfl | rfl : io = 0 ∨ io = 1 ∨ io = 2 ∨ io = 3 ∨ io = 4 ∨ io = 5 ∨ io = 6 ∨ io = 7 ∨ io = 8 ∨ io = 9 ∨ io = 10 ∨ io = 11 ∨ io = 12 ∨ io = 13 ∨ io = 14 ∨ io = 15 ∨ io = 16 ∨ io = 17 ∨ io = 18 ∨ io = 19 ∨ io = 20 ∨ io = 21 := by omega
      · obtain rfl := Option.some.inj ho
        have f0 := hF.old (s := 2) (v := .pointer (some ⟨w.heap.size, 0, none⟩)) (by kernel_rfl) rfl
        refine Or.inl ⟨wanted_no rfl, ?_⟩
        exact wp_val (.agg (cu id P A B N X Y s z l)) (by simp [go_sem, f0, H2]) ⟨_, rfl, Gr.refl _, rfl⟩
      · obtain rfl := Option.some.inj ho
        have f0 := hF.old (s := 3) (v := .pointer (some ⟨w.heap.size + 1, 0, none⟩)) (by kernel_rfl) rfl
        refine Or.inl ⟨wanted_no rfl, ?_⟩
        exact wp_val (.pointer (some ⟨w.heap.size + 1, 0, none⟩)) (by simp [go_sem, f0]) ⟨_, rfl, Gr.refl _, rfl⟩
      · obtain rfl := Option.some.inj ho
        have l0 := on_of hd 1 (by kernel_rfl)
        have f0 := hF.at (s := 11) (i := 1) (by kernel_rfl) (by simp) l0
        have e0 : vals 1 = .pointer (some ⟨w.heap.size + 1, 0, none⟩) := hR 1 l0
        rw [e0] at f0
        refine Or.inl ⟨wanted_no rfl, ?_⟩
        exact wp_val (.agg (nw 9 x)) (by simp [go_sem, f0, H3]) ⟨_, rfl, Gr.refl _, rfl⟩
      · obtain rfl := Option.some.inj ho
        have l0 := on_of hd 0 (by kernel_rfl)
        have f0 := hF.at (s := 10) (i := 0) (by kernel_rfl) (by simp) l0
        have e0 : vals 0 = .agg (cu id P A B N X Y s z l) := hR 0 l0
        rw [e0] at f0
        have l1 := on_of hd 2 (by kernel_rfl)
        have f1 := hF.at (s := 12) (i := 2) (by kernel_rfl) (by simp) l1
        have e1 : vals 2 = .agg (nw 9 x) := hR 2 l1
        rw [e1] at f1
        refine Or.inl ⟨wanted_no rfl, ?_⟩
        exact wp_retz (k := .c (.bool true)) (by simp [go_sem, f0, f1]) (Rt.c (HBx.out v)) (fun u w2 hu hg2 => ⟨_, rfl, hg2, hu⟩)
      · obtain rfl := Option.some.inj ho
        have l0 := on_of hd 3 (by kernel_rfl)
        have f0 := hF.at (s := 13) (i := 3) (by kernel_rfl) (by simp) l0
        have e0 : vals 3 = .bool true := hR 3 l0
        rw [e0] at f0
        refine Or.inl ⟨wanted_no rfl, ?_⟩
        exact wp_val (.bool true) (by simp [go_sem, f0]) ⟨_, rfl, Gr.refl _, rfl⟩
      · obtain rfl := Option.some.inj ho
        have lg := on_of hd 4 (by kernel_rfl)
        have fg := hF.at (s := 14) (i := 4) (by kernel_rfl) (by simp) lg
        rw [show vals 4 = .bool true from hR 4 lg] at fg
        have f0 := hF.old (s := 2) (v := .pointer (some ⟨w.heap.size, 0, none⟩)) (by kernel_rfl) rfl
        refine Or.inl ⟨wanted_at (j := 4) (s := 14) rfl rfl rfl fg, ?_⟩
        exact wp_val (.agg (cu id P A B N X Y s z l)) (by simp [go_sem, f0, H2]) ⟨_, rfl, Gr.refl _, rfl⟩
      · obtain rfl := Option.some.inj ho
        have lg := on_of hd 4 (by kernel_rfl)
        have fg := hF.at (s := 14) (i := 4) (by kernel_rfl) (by simp) lg
        rw [show vals 4 = .bool true from hR 4 lg] at fg
        have f0 := hF.old (s := 3) (v := .pointer (some ⟨w.heap.size + 1, 0, none⟩)) (by kernel_rfl) rfl
        refine Or.inl ⟨wanted_at (j := 4) (s := 14) rfl rfl rfl fg, ?_⟩
        exact wp_val (.pointer (some ⟨w.heap.size + 1, 9, none⟩)) (by simp [go_sem, f0]) ⟨_, rfl, Gr.refl _, rfl⟩
      · obtain rfl := Option.some.inj ho
        have lg := on_of hd 4 (by kernel_rfl)
        have fg := hF.at (s := 14) (i := 4) (by kernel_rfl) (by simp) lg
        rw [show vals 4 = .bool true from hR 4 lg] at fg
        have l0 := on_of hd 6 (by kernel_rfl)
        have f0 := hF.at (s := 16) (i := 6) (by kernel_rfl) (by simp) l0
        have e0 : vals 6 = .pointer (some ⟨w.heap.size + 1, 9, none⟩) := hR 6 l0
        rw [e0] at f0
        refine Or.inl ⟨wanted_at (j := 4) (s := 14) rfl rfl rfl fg, ?_⟩
        exact wp_val (.agg (nw 9 y)) (by simp [go_sem, f0, H3]) ⟨_, rfl, Gr.refl _, rfl⟩
      · obtain rfl := Option.some.inj ho
        have lg := on_of hd 4 (by kernel_rfl)
        have fg := hF.at (s := 14) (i := 4) (by kernel_rfl) (by simp) lg
        rw [show vals 4 = .bool true from hR 4 lg] at fg
        have l0 := on_of hd 5 (by kernel_rfl)
        have f0 := hF.at (s := 15) (i := 5) (by kernel_rfl) (by simp) l0
        have e0 : vals 5 = .agg (cu id P A B N X Y s z l) := hR 5 l0
        rw [e0] at f0
        have l1 := on_of hd 7 (by kernel_rfl)
        have f1 := hF.at (s := 17) (i := 7) (by kernel_rfl) (by simp) l1
        have e1 : vals 7 = .agg (nw 9 y) := hR 7 l1
        rw [e1] at f1
        refine Or.inl ⟨wanted_at (j := 4) (s := 14) rfl rfl rfl fg, ?_⟩
        exact wp_retz (k := .c (.bool true)) (by simp [go_sem, f0, f1]) (Rt.c (HBy.out v)) (fun u w2 hu hg2 => ⟨_, rfl, hg2, hu⟩)
      · obtain rfl := Option.some.inj ho
        have l0 := on_of hd 4 (by kernel_rfl)
        have f0 := hF.at (s := 14) (i := 4) (by kernel_rfl) (by simp) l0
        have e0 : vals 4 = .bool true := hR 4 l0
        rw [e0] at f0
        have l1 := on_of hd 8 (by kernel_rfl)
        have f1 := hF.at (s := 18) (i := 8) (by kernel_rfl) (by simp) l1
        have e1 : vals 8 = .bool true := hR 8 l1
        rw [e1] at f1
        refine Or.inl ⟨wanted_no rfl, ?_⟩
        exact wp_val (.bool true) (by simp [go_sem, f0, f1]) ⟨_, rfl, Gr.refl _, rfl⟩
      · obtain rfl := Option.some.inj ho
        have l0 := on_of hd 9 (by kernel_rfl)
        have f0 := hF.at (s := 19) (i := 9) (by kernel_rfl) (by simp) l0
        have e0 : vals 9 = .bool true := hR 9 l0
        rw [e0] at f0
        refine Or.inl ⟨wanted_no rfl, ?_⟩
        exact wp_val (.bool true) (by simp [go_sem, f0]) ⟨_, rfl, Gr.refl _, rfl⟩
      · obtain rfl := Option.some.inj ho
        have lg := on_of hd 10 (by kernel_rfl)
        have fg := hF.at (s := 20) (i := 10) (by kernel_rfl) (by simp) lg
        rw [show vals 10 = .bool true from hR 10 lg] at fg
        have f0 := hF.old (s := 2) (v := .pointer (some ⟨w.heap.size, 0, none⟩)) (by kernel_rfl) rfl
        refine Or.inl ⟨wanted_at (j := 10) (s := 20) rfl rfl rfl fg, ?_⟩
        exact wp_val (.agg (cu id P A B N X Y s z l)) (by simp [go_sem, f0, H2]) ⟨_, rfl, Gr.refl _, rfl⟩
      · obtain rfl := Option.some.inj ho
        have lg := on_of hd 10 (by kernel_rfl)
        have fg := hF.at (s := 20) (i := 10) (by kernel_rfl) (by simp) lg
        rw [show vals 10 = .bool true from hR 10 lg] at fg
        have f0 := hF.old (s := 3) (v := .pointer (some ⟨w.heap.size + 1, 0, none⟩)) (by kernel_rfl) rfl
        refine Or.inl ⟨wanted_at (j := 10) (s := 20) rfl rfl rfl fg, ?_⟩
        exact wp_val (.pointer (some ⟨w.heap.size + 1, 9, none⟩)) (by simp [go_sem, f0]) ⟨_, rfl, Gr.refl _, rfl⟩
      · obtain rfl := Option.some.inj ho
        have lg := on_of hd 10 (by kernel_rfl)
        have fg := hF.at (s := 20) (i := 10) (by kernel_rfl) (by simp) lg
        rw [show vals 10 = .bool true from hR 10 lg] at fg
        have l0 := on_of hd 12 (by kernel_rfl)
        have f0 := hF.at (s := 22) (i := 12) (by kernel_rfl) (by simp) l0
        have e0 : vals 12 = .pointer (some ⟨w.heap.size + 1, 9, none⟩) := hR 12 l0
        rw [e0] at f0
        refine Or.inl ⟨wanted_at (j := 10) (s := 20) rfl rfl rfl fg, ?_⟩
        exact wp_val (.agg (nw 9 y)) (by simp [go_sem, f0, H3]) ⟨_, rfl, Gr.refl _, rfl⟩
      · obtain rfl := Option.some.inj ho
        have lg := on_of hd 10 (by kernel_rfl)
        have fg := hF.at (s := 20) (i := 10) (by kernel_rfl) (by simp) lg
        rw [show vals 10 = .bool true from hR 10 lg] at fg
        have l0 := on_of hd 11 (by kernel_rfl)
        have f0 := hF.at (s := 21) (i := 11) (by kernel_rfl) (by simp) l0
        have e0 : vals 11 = .agg (cu id P A B N X Y s z l) := hR 11 l0
        rw [e0] at f0
        have l1 := on_of hd 13 (by kernel_rfl)
        have f1 := hF.at (s := 23) (i := 13) (by kernel_rfl) (by simp) l1
        have e1 : vals 13 = .agg (nw 9 y) := hR 13 l1
        rw [e1] at f1
        refine Or.inl ⟨wanted_at (j := 10) (s := 20) rfl rfl rfl fg, ?_⟩
        exact wp_retz (k := .c (.agg (nw 9 L))) (by simp [go_sem, f0, f1]) (Rt.c (HL.out v)) (fun u w2 hu hg2 => ⟨_, rfl, hg2, hu⟩)
      · obtain rfl := Option.some.inj ho
        have lg := on_of hd 10 (by kernel_rfl)
        have fg := hF.at (s := 20) (i := 10) (by kernel_rfl) (by simp) lg
        rw [show vals 10 = .bool true from hR 10 lg] at fg
        have f0 := hF.old (s := 2) (v := .pointer (some ⟨w.heap.size, 0, none⟩)) (by kernel_rfl) rfl
        refine Or.inl ⟨wanted_at (j := 10) (s := 20) rfl rfl rfl fg, ?_⟩
        exact wp_val (.agg (cu id P A B N X Y s z l)) (by simp [go_sem, f0, H2]) ⟨_, rfl, Gr.refl _, rfl⟩
      · obtain rfl := Option.some.inj ho
        have lg := on_of hd 10 (by kernel_rfl)
        have fg := hF.at (s := 20) (i := 10) (by kernel_rfl) (by simp) lg
        rw [show vals 10 = .bool true from hR 10 lg] at fg
        have f0 := hF.old (s := 3) (v := .pointer (some ⟨w.heap.size + 1, 0, none⟩)) (by kernel_rfl) rfl
        refine Or.inl ⟨wanted_at (j := 10) (s := 20) rfl rfl rfl fg, ?_⟩
        exact wp_val (.pointer (some ⟨w.heap.size + 1, 0, none⟩)) (by simp [go_sem, f0]) ⟨_, rfl, Gr.refl _, rfl⟩
      · obtain rfl := Option.some.inj ho
        have lg := on_of hd 10 (by kernel_rfl)
        have fg := hF.at (s := 20) (i := 10) (by kernel_rfl) (by simp) lg
        rw [show vals 10 = .bool true from hR 10 lg] at fg
        have l0 := on_of hd 16 (by kernel_rfl)
        have f0 := hF.at (s := 26) (i := 16) (by kernel_rfl) (by simp) l0
        have e0 : vals 16 = .pointer (some ⟨w.heap.size + 1, 0, none⟩) := hR 16 l0
        rw [e0] at f0
        refine Or.inl ⟨wanted_at (j := 10) (s := 20) rfl rfl rfl fg, ?_⟩
        exact wp_val (.agg (nw 9 x)) (by simp [go_sem, f0, H3]) ⟨_, rfl, Gr.refl _, rfl⟩
      · obtain rfl := Option.some.inj ho
        have lg := on_of hd 10 (by kernel_rfl)
        have fg := hF.at (s := 20) (i := 10) (by kernel_rfl) (by simp) lg
        rw [show vals 10 = .bool true from hR 10 lg] at fg
        have l0 := on_of hd 15 (by kernel_rfl)
        have f0 := hF.at (s := 25) (i := 15) (by kernel_rfl) (by simp) l0
        have e0 : vals 15 = .agg (cu id P A B N X Y s z l) := hR 15 l0
        rw [e0] at f0
        have l1 := on_of hd 17 (by kernel_rfl)
        have f1 := hF.at (s := 27) (i := 17) (by kernel_rfl) (by simp) l1
        have e1 : vals 17 = .agg (nw 9 x) := hR 17 l1
        rw [e1] at f1
        refine Or.inl ⟨wanted_at (j := 10) (s := 20) rfl rfl rfl fg, ?_⟩
        exact wp_retz (k := .c (.agg (nw 9 R))) (by simp [go_sem, f0, f1]) (Rt.c (HR.out v)) (fun u w2 hu hg2 => ⟨_, rfl, hg2, hu⟩)
      · obtain rfl := Option.some.inj ho
        have lg := on_of hd 10 (by kernel_rfl)
        have fg := hF.at (s := 20) (i := 10) (by kernel_rfl) (by simp) lg
        rw [show vals 10 = .bool true from hR 10 lg] at fg
        have l0 := on_of hd 14 (by kernel_rfl)
        have f0 := hF.at (s := 24) (i := 14) (by kernel_rfl) (by simp) l0
        have e0 : vals 14 = .agg (nw 9 L) := hR 14 l0
        rw [e0] at f0
        have l1 := on_of hd 18 (by kernel_rfl)
        have f1 := hF.at (s := 28) (i := 18) (by kernel_rfl) (by simp) l1
        have e1 : vals 18 = .agg (nw 9 R) := hR 18 l1
        rw [e1] at f1
        refine Or.inl ⟨wanted_at (j := 10) (s := 20) rfl rfl rfl fg, ?_⟩
        exact wp_val (.bool (eqN 9 L R)) (by simp [go_sem, f0, f1, eqNat]) ⟨_, rfl, Gr.refl _, rfl⟩
      · obtain rfl := Option.some.inj ho
        have l0 := on_of hd 10 (by kernel_rfl)
        have f0 := hF.at (s := 20) (i := 10) (by kernel_rfl) (by simp) l0
        have e0 : vals 10 = .bool true := hR 10 l0
        rw [e0] at f0
        have l1 := on_of hd 19 (by kernel_rfl)
        have f1 := hF.at (s := 29) (i := 19) (by kernel_rfl) (by simp) l1
        have e1 : vals 19 = .bool (eqN 9 L R) := hR 19 l1
        rw [e1] at f1
        refine Or.inl ⟨wanted_no rfl, ?_⟩
        exact wp_val (.bool (eqN 9 L R)) (by simp [go_sem, f0, f1]) ⟨_, rfl, Gr.refl _, rfl⟩
      · obtain rfl := Option.some.inj ho
        have l0 := on_of hd 20 (by kernel_rfl)
        have f0 := hF.at (s := 30) (i := 20) (by kernel_rfl) (by simp) l0
        have e0 : vals 20 = .bool (eqN 9 L R) := hR 20 l0
        rw [e0] at f0
        refine Or.inl ⟨wanted_no rfl, ?_⟩
        exact wp_val (.bool (eqN 9 L R)) (by simp [go_sem, f0]) ⟨_, rfl, Gr.refl _, rfl⟩
    case hf =>
      intro vals v hg hR
      have H2 : blk v (w.heap.size) = cu id P A B N X Y s z l := (hg.blk _ c2.p).trans c2.h
      have H3 : blk v (w.heap.size + 1) = pnt x y false := (hg.blk _ c3.p).trans c3.h
      have e100 : vals 0 = .agg (cu id P A B N X Y s z l) := hR 0 (by simp)
      have e101 : vals 1 = .pointer (some ⟨w.heap.size + 1, 0, none⟩) := hR 1 (by simp)
      have e102 : vals 2 = .agg (nw 9 x) := hR 2 (by simp)
      have e103 : vals 3 = .bool true := hR 3 (by simp)
      have e104 : vals 4 = .bool true := hR 4 (by simp)
      have e105 : vals 5 = .agg (cu id P A B N X Y s z l) := hR 5 (by simp)
      have e106 : vals 6 = .pointer (some ⟨w.heap.size + 1, 9, none⟩) := hR 6 (by simp)
      have e107 : vals 7 = .agg (nw 9 y) := hR 7 (by simp)
      have e108 : vals 8 = .bool true := hR 8 (by simp)
      have e109 : vals 9 = .bool true := hR 9 (by simp)
      have e110 : vals 10 = .bool true := hR 10 (by simp)
      have e111 : vals 11 = .agg (cu id P A B N X Y s z l) := hR 11 (by simp)
      have e112 : vals 12 = .pointer (some ⟨w.heap.size + 1, 9, none⟩) := hR 12 (by simp)
      have e113 : vals 13 = .agg (nw 9 y) := hR 13 (by simp)
      have e114 : vals 14 = .agg (nw 9 L) := hR 14 (by simp)
      have e115 : vals 15 = .agg (cu id P A B N X Y s z l) := hR 15 (by simp)
      have e116 : vals 16 = .pointer (some ⟨w.heap.size + 1, 0, none⟩) := hR 16 (by simp)
      have e117 : vals 17 = .agg (nw 9 x) := hR 17 (by simp)
      have e118 : vals 18 = .agg (nw 9 R) := hR 18 (by simp)
      have e119 : vals 19 = .bool (eqN 9 L R) := hR 19 (by simp)
      have e120 : vals 20 = .bool (eqN 9 L R) := hR 20 (by simp)
      have e121 : vals 21 = .bool (eqN 9 L R) := hR 21 (by simp)
      simp only [putFrom, Act.put, List.setIfInBounds_toArray, List.set_cons_zero, List.set_cons_succ, e100, e101, e102, e103, e104, e105, e106, e107, e108, e109, e110, e111, e112, e113, e114, e115, e116, e117, e118, e119, e120, e121]
      clear hR e100 e101 e102 e103 e104 e105 e106 e107 e108 e109 e110 e111 e112 e113 e114 e115 e116 e117 e118 e119 e120 e121
      have HG : Gr w v := G.trans hg
      clear hg
      go_wp2_with fail
      go_ret
      exact ⟨rfl, HG⟩

end Go.Proofs.Ytgmaalokfgdpaaa
namespace Go.Proofs.Ytgmaalokfgdpaaa
open Go.RowKit
attribute [local go_sem ↓] loadNat_is loadArr_is loadWide_is loadArrW_is storeNat_is storeWide_is
attribute [local go_sem] loadNat loadArr loadWide loadArrW storeNat storeWide idxArr fold9 fold18 nw_size nw_elem pre_self pre_1 pre_2 pre_3 pre_4 pre_5 pre_6 pre_7 pre_8 pre_9 pre_10 pre_11 pre_12 pre_13 pre_14 pre_15 pre_16 pre_17 pre_18 pre_19 pre_20 pre_21 pre_22 pre_23 pre_24 pre_25 pre_26 pre_27 pre_28 pre_29 pre_30 pre_31 pre_32 pre_33 pre_34 pre_35 pre_36 pre_37 pre_38 pre_39 pre_40 gro_size gro_drew gro_drewN drew_gro drewN_gro gro_gro blk_gro frz_gro blk_drew frz_drew blk_drewN frz_drewN blk_alloc_at frz_alloc_at blk_alloc frz_alloc cell_gro frozen_gro cell_alloc_pre frozen_alloc_pre setCell_drewN alloc_drewN setBlk_drew setBlk_drewN setBlk_alloc_at setBlk_alloc setBlk_gro setCell_gro setCell_alloc_pre size_setBlk size_setCell
attribute [local go_sem] ppre_1 ppre_2 ppre_3 ppre_4 ppre_5 ppre_6
attribute [local go_sem ↓] zvCu_is zvEq_is storeCu_is storeEq_is loadCu_is loadEq_is loadPn_is buildCu_is buildEq_is buildPn_is Go.wp_at_zero Go.wp_at_succ
attribute [local go_sem] zvCu zvEq storeCu storeEq loadCu loadEq loadPn cu_size pnt_size frz_setBlk blk_setBlk setBlk_setBlk blk_other
set_option maxRecDepth 100000 in
set_option maxHeartbeats 400000 in
theorem on13_of (k id : Int) (P A B N X Y : Nat) (s z : Int) (l : Bool) (x y : Nat) (f r : Bool)
    (HF' : ∀ w, Calls Try.prog 35 #[.int .i64 k] w fun e w' => e = .returned (.tuple #[.agg (cu id P A B N X Y s z l), .bool true]) ∧ Gr w w')
    (HH' : ∀ w, Calls Try.prog 41 #[.agg (cu id P A B N X Y s z l), .agg (pnt x y f)] w fun e w' => e = .returned (.bool r) ∧ Gr w w') (w : World) :
    Calls Try.prog 16 #[.int .i64 k, .agg (pnt x y f)] w fun e w' => e = .returned (.bool r) ∧ Gr w w' := by
  have HF : Hid (∀ w, Calls Try.prog 35 #[.int .i64 k] w fun e w' => e = .returned (.tuple #[.agg (cu id P A B N X Y s z l), .bool true]) ∧ Gr w w') := HF'
  have HH : Hid (∀ w, Calls Try.prog 41 #[.agg (cu id P A B N X Y s z l), .agg (pnt x y f)] w fun e w' => e = .returned (.bool r) ∧ Gr w w') := HH'
  clear HF' HH'
  go_enter Try.func16, Try.ntmps16
  go_wp2_with (first
    | (go_at_call 35; refine (HF.out _).mono ?_; rintro e w' ⟨rfl, g, rfl⟩)
    | (go_at_call 41; refine (HH.out _).mono ?_; rintro e w' ⟨rfl, g2, rfl⟩))
  go_ret
  exact ⟨rfl, (by repeat (first | exact Gr.refl _ | apply Gr.drewN | apply Gr.drew | apply Gr.alloc | apply Gr.gro))⟩
/-- X X X + A X + B modulo P. -/
def rhN (i x : Nat) : Nat := ((x * x % pN i + aN i) % pN i * x % pN i + bN i) % pN i
/-- Is the point on curve i? -/
def onB (i x y : Nat) (f : Bool) : Bool := if f then decide (x = 0) && decide (y = 0) else decide (x < pN i) && (decide (y < pN i) && decide (y * y % pN i = rhN i x))
theorem aN_lt (i : Nat) (h1 : 1 ≤ i) (h2 : i ≤ 15) : aN i < pN i := by
  obtain rfl | rfl | rfl | rfl | rfl | rfl | rfl | rfl | rfl | rfl | rfl | rfl | rfl | rfl | rfl : i = 1 ∨ i = 2 ∨ i = 3 ∨ i = 4 ∨ i = 5 ∨ i = 6 ∨ i = 7 ∨ i = 8 ∨ i = 9 ∨ i = 10 ∨ i = 11 ∨ i = 12 ∨ i = 13 ∨ i = 14 ∨ i = 15 := by omega
  all_goals decide +kernel
theorem bN_lt (i : Nat) (h1 : 1 ≤ i) (h2 : i ≤ 15) : bN i < pN i := by
  obtain rfl | rfl | rfl | rfl | rfl | rfl | rfl | rfl | rfl | rfl | rfl | rfl | rfl | rfl | rfl : i = 1 ∨ i = 2 ∨ i = 3 ∨ i = 4 ∨ i = 5 ∨ i = 6 ∨ i = 7 ∨ i = 8 ∨ i = 9 ∨ i = 10 ∨ i = 11 ∨ i = 12 ∨ i = 13 ∨ i = 14 ∨ i = 15 := by omega
  all_goals decide +kernel
theorem xN_lt (i : Nat) (h1 : 1 ≤ i) (h2 : i ≤ 15) : xN i < pN i := by
  obtain rfl | rfl | rfl | rfl | rfl | rfl | rfl | rfl | rfl | rfl | rfl | rfl | rfl | rfl | rfl : i = 1 ∨ i = 2 ∨ i = 3 ∨ i = 4 ∨ i = 5 ∨ i = 6 ∨ i = 7 ∨ i = 8 ∨ i = 9 ∨ i = 10 ∨ i = 11 ∨ i = 12 ∨ i = 13 ∨ i = 14 ∨ i = 15 := by omega
  all_goals decide +kernel
theorem yN_lt (i : Nat) (h1 : 1 ≤ i) (h2 : i ≤ 15) : yN i < pN i ∧ 0 < yN i := by
  obtain rfl | rfl | rfl | rfl | rfl | rfl | rfl | rfl | rfl | rfl | rfl | rfl | rfl | rfl | rfl : i = 1 ∨ i = 2 ∨ i = 3 ∨ i = 4 ∨ i = 5 ∨ i = 6 ∨ i = 7 ∨ i = 8 ∨ i = 9 ∨ i = 10 ∨ i = 11 ∨ i = 12 ∨ i = 13 ∨ i = 14 ∨ i = 15 := by omega
  all_goals decide +kernel
/-- The base point is on its curve. -/
theorem gN_on (i : Nat) (h1 : 1 ≤ i) (h2 : i ≤ 15) : onB i (xN i) (yN i) false = true := by
  obtain rfl | rfl | rfl | rfl | rfl | rfl | rfl | rfl | rfl | rfl | rfl | rfl | rfl | rfl | rfl : i = 1 ∨ i = 2 ∨ i = 3 ∨ i = 4 ∨ i = 5 ∨ i = 6 ∨ i = 7 ∨ i = 8 ∨ i = 9 ∨ i = 10 ∨ i = 11 ∨ i = 12 ∨ i = 13 ∨ i = 14 ∨ i = 15 := by omega
  all_goals decide +kernel
/-- What On answers of a curve and any point. -/
theorem on13_yes (i : Nat) (h1 : 1 ≤ i) (h2 : i ≤ 15) (x y : Nat) (f : Bool) (hx : x < M) (hy : y < M) (w : World) :
    Calls Try.prog 16 #[.int .i64 (i : Int), .agg (pnt x y f)] w fun e w' => e = .returned (.bool (onB i x y f)) ∧ Gr w w' := by
  have hB := pN_bd i h1 h2
  refine on13_of i _ _ _ _ _ _ _ _ _ _ x y f _ (find_yes i h1 h2) (fun w => ?_) w
  cases f with
  | true =>
    have := holds_inf (i : Int) (pN i) (aN i) (bN i) (oN i) (xN i) (yN i) (bl (oN i)) (szN i) (lgN i) x y w
    rw [eqN9 x 0 hx (by omega), eqN9 y 0 hy (by omega), Bool.and_true] at this
    exact this
  | false =>
    have hr : ∀ z, rhN i z < M := fun z => by have : rhN i z < pN i := Nat.mod_lt _ (by omega); omega
    have hl : y * y % pN i < M := by have : y * y % pN i < pN i := Nat.mod_lt _ (by omega); omega
    have := holds_of (i : Int) (pN i) (aN i) (bN i) (oN i) (xN i) (yN i) (bl (oN i)) (szN i) (lgN i) x y (y * y % pN i) (rhN i x) (decide (x < pN i)) (decide (y < pN i))
      (fun w => below13_any _ _ _ _ _ _ _ _ _ _ x _ (by omega) hx rfl w) (fun w => below13_any _ _ _ _ _ _ _ _ _ _ y _ (by omega) hy rfl w)
      (fun _ h w => left13_of _ _ _ _ _ _ _ _ _ _ y _ (fun w => fMul_ok i y y h1 h2 (of_decide_eq_true h) (of_decide_eq_true h) w) w)
      (fun h _ w => right13_of _ _ _ _ _ _ _ _ _ _ x _ _ _ _ (fun w => fMul_ok i x x h1 h2 (of_decide_eq_true h) (of_decide_eq_true h) w)
        (fun w => fAdd_ok i _ _ h1 h2 (Nat.mod_lt _ (by omega)) (aN_lt i h1 h2) w) (fun w => fMul_ok i _ _ h1 h2 (Nat.mod_lt _ (by omega)) (of_decide_eq_true h) w)
        (fun w => fAdd_ok i _ _ h1 h2 (Nat.mod_lt _ (by omega)) (bN_lt i h1 h2) w) w) w
    rw [eqN9 _ _ hl (hr x)] at this
    exact this

end Go.Proofs.Ytgmaalokfgdpaaa
namespace Go.Proofs.Ytgmaalokfgdpaaa
open Go.RowKit
theorem RZ.start0 (W : World) (kp : List Kz) (n : Nat) (vals : Nat → Value) : RZ W kp (upTo n 0) vals W := ⟨Gr.refl W, fun j hj => by rw [upTo_getD] at hj; simp at hj⟩
theorem wpList_q {P : Program} {l : List Oper} {Q : Exit → Act → World → Prop} {a0 : Act} {W : World} (hu : uniqG l.toArray = true) (kp : List Kz) (n : Nat) (hn : n ≤ l.length)
    (hstep : ∀ (listed : Array Bool) (vals : Nat → Value) (a : Act) (v : World) (i : Nat) (o : Oper), Gr W v → (∀ j, listed.getD j false = true → kz kp j (vals j) v) → Frm l.toArray a0 vals listed a → l.toArray[i]? = some o → i < n →
      (∀ e ∈ o.after, Region.binds .any e = true → listed.getD e.on false = true) →
      (Region.wanted o (yielded l.toArray a.tmps) = true ∧ o.wp P a v (fun a' w' => ∃ u, a' = a.put o.dst u ∧ Gr v w' ∧ kz kp i u w') Q) ∨ (Region.wanted o (yielded l.toArray a.tmps) = false ∧ kz kp i undef v))
    (hfin : ∀ (vals : Nat → Value) (a : Act) (v : World), Gr W v → (∀ j, j < n → kz kp j (vals j) v) → Frm l.toArray a0 vals (upTo l.length n) a → wpList P l.toArray Q (l.drop n) a v) :
    ∀ (d k : Nat) (vals : Nat → Value) (a : Act) (w : World), k + d = n → RZ W kp (upTo l.length k) vals w → Frm l.toArray a0 vals (upTo l.length k) a → wpList P l.toArray Q (l.drop k) a w
  | 0, k, vals, a, w, hk, hR, hF => by
    obtain rfl : k = n := by omega
    exact hfin vals a w hR.1 (fun j hj => hR.2 j (by rw [upTo_getD]; simp; omega)) hF
  | d + 1, k, vals, a, w, hk, hR, hF => by
    have hkl : k < l.length := by omega
    rw [List.drop_eq_getElem_cons hkl, wpList]
    have ho : l.toArray[k]? = some l[k] := by simp [hkl]
    obtain ⟨-, hx⟩ := uniq_at hu ho
    have next : ∀ v w', Gr w w' → kz kp k v w' → wpList P l.toArray Q (l.drop (k + 1)) (a.put l[k].dst v) w' := fun v w' hg hv => by
      have h1 := hR.next (i := k) hg hv
      have h2 := hF.put hu ho (by simp [upTo]) v
      rw [upTo_set _ _ hkl] at h1 h2
      exact wpList_q hu kp n hn hstep hfin d (k + 1) _ _ _ (by omega) h1 h2
    obtain ⟨h1, h2⟩ | ⟨h1, h2⟩ := hstep (upTo l.length k) vals a w k _ hR.1 hR.2 hF ho (by omega) (fun e he hb => by rw [upTo_getD]; have := hx e he hb; simp; omega)
    · rw [if_pos h1]
      refine Or.inl (Oper.wp_mono (fun a' w' h => ?_) h2)
      obtain ⟨v, rfl, hg, hv⟩ := h
      exact next v w' hg hv
    · rw [if_neg (by rw [h1]; decide)]
      exact next undef w (Gr.refl _) h2
theorem wp_region_qS {P : Program} {id : Nat} {l : List Oper} {Q : Exit → Act → World → Prop} {a0 : Act} {W : World} (hu : uniqG l.toArray = true) (kp : List Kz)
    (hstep : ∀ (listed : Array Bool) (vals : Nat → Value) (a : Act) (v : World) (i : Nat) (o : Oper), Gr W v → (∀ j, listed.getD j false = true → kz kp j (vals j) v) → Frm l.toArray a0 vals listed a → l.toArray[i]? = some o →
      (∀ e ∈ o.after, Region.binds .any e = true → listed.getD e.on false = true) →
      (Region.wanted o (yielded l.toArray a.tmps) = true ∧ o.wp P a v (fun a' w' => ∃ u, a' = a.put o.dst u ∧ Gr v w' ∧ kz kp i u w') Q) ∨ (Region.wanted o (yielded l.toArray a.tmps) = false ∧ kz kp i undef v))
    (hfin : ∀ (vals : Nat → Value) (v : World), Gr W v → (∀ j, j < l.toArray.size → kz kp j (vals j) v) → Q .normal (putFrom vals 0 l a0) v) :
    (Code.region id l.toArray false).wp P Q a0 W := by
  refine wp_region_lit (wpList_q hu kp l.length (Nat.le_refl _) (fun listed vals a v i o h1 h2 h3 h4 _ h6 => hstep listed vals a v i o h1 h2 h3 h4 h6) (fun vals a v hg hk hF => ?_) l.length 0 (fun _ => undef) a0 W (by omega) (RZ.start0 _ _ _ _) (Frm.start_up l a0 _))
  rw [List.drop_length, wpList, hF.final hu (fun i hi => by rw [upTo_getD]; simp at hi ⊢; exact hi)]
  exact hfin vals v hg (fun j hj => hk j (by simpa using hj))
theorem wp_region_qTS {P : Program} {id : Nat} {l : List Oper} {Q : Exit → Act → World → Prop} {a0 : Act} {W : World} (hu : uniqG l.toArray = true) (n : Nat) (hs : (decide (l.length = n + 1) && (((l[n]?).map fun o => o.dst.isNone && o.guard.isNone).getD false)) = true) (kp : List Kz)
    (hstep : ∀ (listed : Array Bool) (vals : Nat → Value) (a : Act) (v : World) (i : Nat) (o : Oper), Gr W v → (∀ j, listed.getD j false = true → kz kp j (vals j) v) → Frm l.toArray a0 vals listed a → l.toArray[i]? = some o → i < n →
      (∀ e ∈ o.after, Region.binds .any e = true → listed.getD e.on false = true) →
      (Region.wanted o (yielded l.toArray a.tmps) = true ∧ o.wp P a v (fun a' w' => ∃ u, a' = a.put o.dst u ∧ Gr v w' ∧ kz kp i u w') Q) ∨ (Region.wanted o (yielded l.toArray a.tmps) = false ∧ kz kp i undef v))
    (hlast : ∀ (listed : Array Bool) (vals : Nat → Value) (a : Act) (v : World) (o : Oper), Gr W v → (∀ j, j < n → kz kp j (vals j) v) → Frm l.toArray a0 vals listed a → (∀ j, j < n → listed.getD j false = true) → l.toArray[n]? = some o →
      o.wp P a v (fun a' w' => a' = a.put o.dst undef ∧ Q .normal (putFrom vals 0 l a0) w') Q) :
    (Code.region id l.toArray false).wp P Q a0 W := by
  simp only [Bool.and_eq_true, decide_eq_true_eq] at hs
  obtain ⟨hlen, hlo⟩ := hs
  have hnl : n < l.length := by omega
  have ho : l[n]? = some l[n] := List.getElem?_eq_getElem hnl
  have ho' : l.toArray[n]? = some l[n] := by simp [hnl]
  have hg : l[n].dst = none ∧ l[n].guard = none := by rw [ho] at hlo; simpa using hlo
  refine wp_region_lit (wpList_q hu kp n (by omega) hstep (fun vals a v hG hk hF => ?_) n 0 (fun _ => undef) a0 W (by omega) (RZ.start0 _ _ _ _) (Frm.start_up l a0 _))
  rw [List.drop_eq_getElem_cons hnl, show l.drop (n + 1) = [] from List.drop_eq_nil_of_le (by omega), wpList, if_pos (wanted_no hg.2)]
  refine Or.inl (Oper.wp_mono (fun a' w' h => ?_) (hlast _ vals a v _ hG hk hF (fun j hj => by rw [upTo_getD]; simp; omega) ho'))
  obtain ⟨rfl, hq⟩ := h
  rw [wpList]
  have h2 := hF.put hu ho' (by simp [upTo]) undef
  rw [upTo_set _ _ hnl] at h2
  rw [h2.final hu (fun i hi => by rw [upTo_getD]; simp at hi ⊢; omega), putFrom_congr (vals' := vals) l 0 a0 (fun j o hj hd => ?_)]
  · exact hq
  · rw [Nat.zero_add]
    unfold upd
    by_cases e : j = n
    · subst e
      rw [ho] at hj; cases hj
      rw [hg.1] at hd; cases hd
    · rw [if_neg e]

end Go.Proofs.Ytgmaalokfgdpaaa
namespace Go.Proofs.Ytgmaalokfgdpaaa
open Go.RowKit
/-- A curve's seven cells. -/
theorem loadC_is (v : Value) : Instr.loadAt 36 v = loadS 36 v := rfl
theorem storeC_is (p v : Value) : Instr.storeAt 36 p v = storeS 36 p v := rfl
theorem loadC (w : World) (b : Nat) (hs : (blk w b).size = 7) : (loadS 36 (.pointer (some ⟨b, 0, none⟩))).run Try.prog w = .ok (.agg (blk w b)) w :=
  loadS_run 7 Try.underlying36 rfl (by kernel_rfl) w b hs
/-- A curve's cells: its id, its P, and five more numbers. -/
def cvA (id : Int) (p : Option Addr) (l n : Nat) (q : Nat → Option Addr × Nat × Nat) : Array Value := #[.int .i64 id, .slice p l n, .slice (q 0).1 (q 0).2.1 (q 0).2.2, .slice (q 1).1 (q 1).2.1 (q 1).2.2, .slice (q 2).1 (q 2).2.1 (q 2).2.2, .slice (q 3).1 (q 3).2.1 (q 3).2.2, .slice (q 4).1 (q 4).2.1 (q 4).2.2]
/-- A curve's cells, each number known. -/
def crA (id : Int) (x : Nat → Nat) (q : Nat → Option Addr × Nat) : Array Value := #[.int .i64 id, .slice (q 0).1 (dl (x 0)) (q 0).2, .slice (q 1).1 (dl (x 1)) (q 1).2, .slice (q 2).1 (dl (x 2)) (q 2).2, .slice (q 3).1 (dl (x 3)) (q 3).2, .slice (q 4).1 (dl (x 4)) (q 4).2, .slice (q 5).1 (dl (x 5)) (q 5).2]
theorem crA_cvA (id : Int) (x : Nat → Nat) (q : Nat → Option Addr × Nat) : crA id x q = cvA id (q 0).1 (dl (x 0)) (q 0).2 (fun k => ((q (k + 1)).1, dl (x (k + 1)), (q (k + 1)).2)) := rfl
def six {α : Type} (a b c d e f : α) : Nat → α
  | 0 => a
  | 1 => b
  | 2 => c
  | 3 => d
  | 4 => e
  | _ => f
theorem storeC0 (w : World) (b : Nat) (hs : (blk w b).size = 7) (hf : frz w b = (0, 0)) :
    (storeS 36 (.pointer (some ⟨b, 0, none⟩)) (.agg #[.int .i64 0, .slice none 0 0, .slice none 0 0, .slice none 0 0, .slice none 0 0, .slice none 0 0, .slice none 0 0])).run Try.prog w = .ok () (setBlk w b #[.int .i64 0, .slice none 0 0, .slice none 0 0, .slice none 0 0, .slice none 0 0, .slice none 0 0, .slice none 0 0]) :=
  storeS_run 7 (by decide) (by kernel_rfl) w b _ rfl (by simp [Value.oneCell']) hs hf
def buildG (t : TypeId) (p : Array (Nat × Value)) : Sem Value := Instr.build t p
theorem buildC_is (p : Array (Nat × Value)) : Instr.build 36 p = buildG 36 p := rfl
theorem buildC0 (w : World) : (buildG 36 #[]).run Try.prog w = .ok (.agg #[.int .i64 0, .slice none 0 0, .slice none 0 0, .slice none 0 0, .slice none 0 0, .slice none 0 0, .slice none 0 0]) w := by kernel_rfl
theorem buildC6 (w : World) (id : Int) (p0 p1 p2 p3 p4 : Option Addr) (l0 l1 l2 l3 l4 n0 n1 n2 n3 n4 : Nat) :
    (buildG 36 #[(0, .int .i64 id), (1, .slice p0 l0 n0), (3, .slice p1 l1 n1), (4, .slice p2 l2 n2), (5, .slice p3 l3 n3), (6, .slice p4 l4 n4)]).run Try.prog w = .ok (.agg #[.int .i64 id, .slice p0 l0 n0, .slice none 0 0, .slice p1 l1 n1, .slice p2 l2 n2, .slice p3 l3 n3, .slice p4 l4 n4]) w := by kernel_rfl
theorem eqSl (b : Nat) (w : World) : (binOp .eql 70 (.slice (some ⟨b, 0, none⟩) 6 6) (.slice none 0 0)).run Try.prog w = .ok (.bool false) w := by kernel_rfl
theorem eqSl0 (w : World) : (binOp .eql 70 (.slice none 0 0) (.slice none 0 0)).run Try.prog w = .ok (.bool true) w := by kernel_rfl
attribute [local go_sem ↓] loadNat_is loadArr_is loadWide_is loadArrW_is storeNat_is storeWide_is
attribute [local go_sem] loadNat loadArr loadWide loadArrW storeNat storeWide idxArr fold9 fold18 nw_size nw_elem pre_self pre_1 pre_2 pre_3 pre_4 pre_5 pre_6 pre_7 pre_8 pre_9 pre_10 pre_11 pre_12 pre_13 pre_14 pre_15 pre_16 pre_17 pre_18 pre_19 pre_20 pre_21 pre_22 pre_23 pre_24 pre_25 pre_26 pre_27 pre_28 pre_29 pre_30 pre_31 pre_32 pre_33 pre_34 pre_35 pre_36 pre_37 pre_38 pre_39 pre_40 gro_size gro_drew gro_drewN drew_gro drewN_gro gro_gro blk_gro frz_gro blk_drew frz_drew blk_drewN frz_drewN blk_alloc_at frz_alloc_at blk_alloc frz_alloc cell_gro frozen_gro cell_alloc_pre frozen_alloc_pre setCell_drewN alloc_drewN setBlk_drew setBlk_drewN setBlk_alloc_at setBlk_alloc setBlk_gro setCell_gro setCell_alloc_pre size_setBlk size_setCell
attribute [local go_sem ↓] loadC_is storeC_is buildC_is bsl_is
attribute [local go_sem] eqSl eqSl0 loadC storeC0 buildC0 buildC6 frz_setBlk blk_setBlk setBlk_setBlk
end Go.Proofs.Ytgmaalokfgdpaaa
namespace Go.Proofs.Ytgmaalokfgdpaaa
open Go.RowKit
/-- Number k of curve i: P, A, B, N, X, Y. -/
def nN (i : Nat) : Nat → Nat := six (pN i) (aN i) (bN i) (oN i) (xN i) (yN i)
/-- A curve's numbers, all known. -/
def GetQ (i : Nat) (w : World) (e : Ending) (w' : World) : Prop := ∃ q, e = .returned (.tuple #[.agg (crA (i : Int) (nN i) q), .bool true]) ∧ (∀ k, Sl w' (q k).1 (nN i k)) ∧ Gr w w'
/-- A curve's row: its id, its P, and five more slices. -/
def GetR (i : Nat) (w : World) (e : Ending) (w' : World) : Prop := ∃ p n q, e = .returned (.tuple #[.agg (cvA (i : Int) p (dl (pN i)) n q), .bool true]) ∧ Sl w' p (pN i) ∧ Gr w w'
theorem GetQ.R {i : Nat} {w w' : World} {e : Ending} (h : GetQ i w e w') : GetR i w e w' := by
  obtain ⟨q, he, hs, hg⟩ := h
  rw [crA_cvA] at he
  exact ⟨_, _, _, he, hs 0, hg⟩
attribute [local go_sem ↓] loadNat_is loadArr_is loadWide_is loadArrW_is storeNat_is storeWide_is
attribute [local go_sem] loadNat loadArr loadWide loadArrW storeNat storeWide idxArr fold9 fold18 nw_size nw_elem pre_self pre_1 pre_2 pre_3 pre_4 pre_5 pre_6 pre_7 pre_8 pre_9 pre_10 pre_11 pre_12 pre_13 pre_14 pre_15 pre_16 pre_17 pre_18 pre_19 pre_20 pre_21 pre_22 pre_23 pre_24 pre_25 pre_26 pre_27 pre_28 pre_29 pre_30 pre_31 pre_32 pre_33 pre_34 pre_35 pre_36 pre_37 pre_38 pre_39 pre_40 gro_size gro_drew gro_drewN drew_gro drewN_gro gro_gro blk_gro frz_gro blk_drew frz_drew blk_drewN frz_drewN blk_alloc_at frz_alloc_at blk_alloc frz_alloc cell_gro frozen_gro cell_alloc_pre frozen_alloc_pre setCell_drewN alloc_drewN setBlk_drew setBlk_drewN setBlk_alloc_at setBlk_alloc setBlk_gro setCell_gro setCell_alloc_pre size_setBlk size_setCell
attribute [local go_sem ↓] loadC_is storeC_is buildC_is
attribute [local go_sem] eqSl0 loadC storeC0 buildC0 frz_setBlk blk_setBlk setBlk_setBlk
end Go.Proofs.Ytgmaalokfgdpaaa
namespace Go.Proofs.Ytgmaalokfgdpaaa
open Go.RowKit
theorem pN_dl (i : Nat) (h1 : 1 ≤ i) (h2 : i ≤ 15) : dl (pN i) ≤ 18 := by
  have h := pN_bd i h1 h2
  exact (dl_le _ 18).2 (by rw [pq_M]; omega)
theorem dl_M (a : Nat) (ha : a < M) : dl a ≤ 18 := (dl_le _ 18).2 (by rw [pq_M]; exact ha)
def idx (id : Int) : Nat := (IntKind.u64.wrap id).toNat % 15 + 1
theorem idx_bd (id : Int) : 1 ≤ idx id ∧ idx id ≤ 15 := by unfold idx; omega
theorem idx_conv (id : Int) : ∃ u : Nat, IntKind.u64.wrap id = (u : Int) ∧ (u : Int) < 18446744073709551616 ∧ (u : Int) % 15 + 1 = (idx id : Int) := by
  have h : 0 ≤ IntKind.u64.wrap id ∧ IntKind.u64.wrap id < 18446744073709551616 := by rw [IntKind.wrap_u64]; omega
  refine ⟨(IntKind.u64.wrap id).toNat, ?_, ?_, ?_⟩
  · omega
  · omega
  · unfold idx; omega

end Go.Proofs.Ytgmaalokfgdpaaa
namespace Go.Proofs.Ytgmaalokfgdpaaa
open Go.RowKit

theorem sq_pm {m s t : Nat} (hp : Prm m) (hs : s < m) (ht : t < m) (h : s * s % m = t * t % m) : s = t ∨ s + t = m := by
  have key : ∀ u v : Nat, v ≤ u → u < m → v < m → u * u % m = v * v % m → u = v ∨ u + v = m := by
    intro u v hle hu hv e
    have hd : m ∣ (u - v) * (u + v) := by
      obtain ⟨w, rfl⟩ : ∃ w, u = v + w := ⟨u - v, by omega⟩
      have e1 : (v + w - v) * (v + w + v) = (v + w) * (v + w) - v * v := by
        rw [Nat.add_sub_cancel_left]
        have : (v + w) * (v + w) = w * (v + w + v) + v * v := by grind
        omega
      rw [e1]
      exact Nat.dvd_of_mod_eq_zero (Nat.sub_mod_eq_zero_of_mod_eq e)
    rcases hp.dvd_mul hd with d | d
    · left
      rcases Nat.eq_zero_or_pos (u - v) with z | z
      · omega
      · have := Nat.le_of_dvd z d; omega
    · rcases Nat.eq_zero_or_pos (u + v) with z | z
      · left; omega
      · right
        obtain ⟨q, hq⟩ := d
        have : q = 1 := by
          rcases Nat.lt_or_ge q 1 with a | a
          · have : q = 0 := by omega
            subst this; omega
          · rcases Nat.lt_or_ge q 2 with b | b
            · omega
            · have := Nat.mul_le_mul_left m b; omega
        subst this; omega
  rcases Nat.le_total t s with l | l
  · exact key s t l hs ht h
  · rcases key t s l ht hs h.symm with e | e
    · left; exact e.symm
    · right; omega
end Go.Proofs.Ytgmaalokfgdpaaa
namespace Go.Proofs.Ytgmaalokfgdpaaa

/-- A number with its bit i turned. -/
def flp (a i : Nat) : Nat := a ^^^ 2 ^ i
theorem flp_ne (a i : Nat) : flp a i ≠ a := by
  intro h
  have := congrArg (fun x => x.testBit i) h
  simp [flp, Nat.testBit_xor] at this
theorem flp_pw (n a i : Nat) (ha : a < pw n) (hi : i < 64 * n) : flp a i < pw n :=
  Nat.xor_lt_two_pow ha (Nat.pow_lt_pow_right (by decide) hi)
theorem flp_lt (a i : Nat) (ha : a < M) (hi : i < 576) : flp a i < M := flp_pw 9 a i ha hi
theorem wd_flp_same (a i : Nat) : wd (flp a i) (i / 64) = wd a (i / 64) ^^^ 2 ^ (i % 64) := by
  unfold wd pw flp
  rw [show (18446744073709551616 : Nat) = 2 ^ 64 from rfl]
  apply Nat.eq_of_testBit_eq
  intro j
  rw [Nat.testBit_xor, Nat.testBit_mod_two_pow, Nat.testBit_mod_two_pow, Nat.testBit_div_two_pow, Nat.testBit_div_two_pow, Nat.testBit_xor, Nat.testBit_two_pow, Nat.testBit_two_pow]
  by_cases hj : j < 64
  · have e : (i = j + 64 * (i / 64)) ↔ (i % 64 = j) := by omega
    by_cases h : i % 64 = j
    · have := e.2 h; simp [hj, h, ← this]
    · have : ¬ i = j + 64 * (i / 64) := fun x => h (e.1 x)
      simp [hj, h, this]
  · have : ¬ i % 64 = j := by omega
    simp [hj, this]
theorem wd_flp_other (a i k : Nat) (h : k ≠ i / 64) : wd (flp a i) k = wd a k := by
  unfold wd pw flp
  rw [show (18446744073709551616 : Nat) = 2 ^ 64 from rfl]
  apply Nat.eq_of_testBit_eq
  intro j
  rw [Nat.testBit_mod_two_pow, Nat.testBit_mod_two_pow, Nat.testBit_div_two_pow, Nat.testBit_div_two_pow, Nat.testBit_xor, Nat.testBit_two_pow]
  by_cases hj : j < 64
  · have : ¬ i = j + 64 * k := by omega
    simp [this]
  · simp [hj]
theorem nw_flp (a i : Nat) (hi : i < 576) : (nw 9 a).setIfInBounds (i / 64) (.int .u64 ((wd a (i / 64) ^^^ 2 ^ (i % 64) : Nat) : Int)) = nw 9 (flp a i) := by
  apply Array.ext_getElem?
  intro j
  rw [Array.getElem?_setIfInBounds]
  by_cases hj : j < 9
  · rw [nw_get 9 (flp a i) j hj]
    by_cases h : i / 64 = j
    · subst h; rw [if_pos rfl, if_pos (by rw [nw_size]; exact hj), wd_flp_same]
    · rw [if_neg h, nw_get 9 a j hj, wd_flp_other a i j (fun e => h e.symm)]
  · have : ¬ i / 64 = j := by omega
    rw [if_neg this, Array.getElem?_eq_none (by rw [nw_size]; omega), Array.getElem?_eq_none (by rw [nw_size]; omega)]
theorem pnt_flpX (x y i : Nat) (f : Bool) (hi : i < 576) : (pnt x y f).setIfInBounds (i / 64) (.int .u64 ((wd x (i / 64) ^^^ 2 ^ (i % 64) : Nat) : Int)) = pnt (flp x i) y f := by
  have h9 : i / 64 < 9 := by omega
  unfold pnt
  rw [← nw_flp x i hi]
  rw [Array.setIfInBounds_append_left (by simp [nw_size]; omega), Array.setIfInBounds_append_left (by simp [nw_size]; omega)]
theorem pnt_flpY (x y i : Nat) (f : Bool) (hi : i < 576) : (pnt x y f).setIfInBounds (9 + i / 64) (.int .u64 ((wd y (i / 64) ^^^ 2 ^ (i % 64) : Nat) : Int)) = pnt x (flp y i) f := by
  have h9 : i / 64 < 9 := by omega
  unfold pnt
  rw [← nw_flp y i hi]
  rw [Array.setIfInBounds_append_left (by simp [nw_size]; omega), Array.setIfInBounds_append_right (by simp [nw_size])]
  simp [nw_size]
theorem yN_pos (i : Nat) (h1 : 1 ≤ i) (h2 : i ≤ 15) : 0 < yN i := by
  obtain rfl | rfl | rfl | rfl | rfl | rfl | rfl | rfl | rfl | rfl | rfl | rfl | rfl | rfl | rfl : i = 1 ∨ i = 2 ∨ i = 3 ∨ i = 4 ∨ i = 5 ∨ i = 6 ∨ i = 7 ∨ i = 8 ∨ i = 9 ∨ i = 10 ∨ i = 11 ∨ i = 12 ∨ i = 13 ∨ i = 14 ∨ i = 15 := by omega
  all_goals decide +kernel
/-- Of a base point with another Y, the opposite alone lies on the curve. -/
theorem onB_other (k : Nat) (h1 : 1 ≤ k) (h2 : k ≤ 15) (y : Nat) (hy : y ≠ yN k) : onB k (xN k) y false = decide (yN k + y = pN k) := by
  have hg := gN_on k h1 h2
  have h0 := yN_pos k h1 h2
  have hp := prm_pN k h1 h2
  simp only [onB, Bool.false_eq_true, if_false, Bool.and_eq_true, decide_eq_true_eq] at hg ⊢
  obtain ⟨g1, g2, g3⟩ := hg
  rw [Bool.eq_iff_iff]
  simp only [Bool.and_eq_true, decide_eq_true_eq]
  constructor
  · rintro ⟨-, a2, a3⟩
    rcases sq_pm hp a2 g2 (a3.trans g3.symm) with e | e
    · exact absurd e hy
    · omega
  · intro e
    refine ⟨g1, by omega, ?_⟩
    rw [← g3]
    clear g1 g2 g3 h0 hp hy
    generalize pN k = p at e ⊢
    generalize yN k = z at e ⊢
    have e1 : y * y + p * z = z * z + p * y := by
      rw [← e, Nat.add_mul, Nat.add_mul, Nat.mul_comm z y]; omega
    have e2 := congrArg (· % p) e1
    simpa [Nat.add_mul_mod_self_left] using e2
theorem szN_bd (k : Nat) (h1 : 1 ≤ k) (h2 : k ≤ 15) : 1 ≤ szN k ∧ szN k ≤ 66 := by
  obtain rfl | rfl | rfl | rfl | rfl | rfl | rfl | rfl | rfl | rfl | rfl | rfl | rfl | rfl | rfl : k = 1 ∨ k = 2 ∨ k = 3 ∨ k = 4 ∨ k = 5 ∨ k = 6 ∨ k = 7 ∨ k = 8 ∨ k = 9 ∨ k = 10 ∨ k = 11 ∨ k = 12 ∨ k = 13 ∨ k = 14 ∨ k = 15 := by omega
  all_goals decide +kernel
theorem onB_inf (k : Nat) (h1 : 1 ≤ k) (h2 : k ≤ 15) : onB k (xN k) (yN k) true = false := by
  have h0 := yN_pos k h1 h2
  have : ¬ yN k = 0 := by omega
  simp [onB, this]

end Go.Proofs.Ytgmaalokfgdpaaa
