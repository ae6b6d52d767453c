import Derived.Test.YtgmaalokfgdpaaaXTCQ
import Derived.Test.YtgmaalokfgdpaaaXTSmC
import Derived.Test.YtgmaalokfgdpaaaXTQt
import Derived.Test.YtgmaalokfgdpaaaXTROf
import Derived.Test.YtgmaalokfgdpaaaXTEC
import Derived.Test.YtgmaalokfgdpaaaXTMixP
import Derived.Test.YtgmaalokfgdpaaaXTNN
import Derived.Test.YtgmaalokfgdpaaaXTMixQ
import Derived.Test.YtgmaalokfgdpaaaXTFB
namespace Go.Proofs.Ytgmaalokfgdpaaa
open Go.RowKit
theorem bl_576 (a : Nat) (h : a < M) : bl a ≤ 576 := by exact bl_pwk a 9 h
/-- How many bytes P has. -/
def szN (i : Nat) : Nat := (bl (pN i) + 7) / 8
/-- For verifying alone? -/
def lgN (i : Nat) : Bool := ((i : Int) == 1) || ((i : Int) == 7)
/-- A curve's cells. -/
def cuN (i : Nat) : Array Value := cu i (pN i) (aN i) (bN i) (oN i) (xN i) (yN i) (bl (oN i)) (szN i) (lgN i)
theorem oN_bd (i : Nat) : oN i < M := by
  unfold oN
  split <;> decide +kernel
theorem pN_M (i : Nat) : pN i < M := by
  unfold pN
  split <;> decide +kernel
theorem find_1 (w : World) : Calls Try.prog 35 #[.int .i64 1] w fun e w' => e = .returned (.tuple #[.agg (cuN 1), .bool true]) ∧ Gr w w' :=
  find_of 1 51 (pN 1) (aN 1) (bN 1) (oN 1) (xN 1) (yN 1) (bl (oN 1)) (bl (pN 1)) (szN 1) _ _ (by decide) (by decide) rfl rfl rfl (by simp [szN]) (bl_576 _ (oN_bd _)) (bl_576 _ (pN_M _)) (fun w => by kernel_rfl) (of_1) mk_1 (fun w => bits_any _ (oN_bd _) w) (fun w => bits_any _ (pN_M _) w) w
theorem find_2 (w : World) : Calls Try.prog 35 #[.int .i64 2] w fun e w' => e = .returned (.tuple #[.agg (cuN 2), .bool true]) ∧ Gr w w' :=
  find_of 2 52 (pN 2) (aN 2) (bN 2) (oN 2) (xN 2) (yN 2) (bl (oN 2)) (bl (pN 2)) (szN 2) _ _ (by decide) (by decide) rfl rfl rfl (by simp [szN]) (bl_576 _ (oN_bd _)) (bl_576 _ (pN_M _)) (fun w => by kernel_rfl) (of_2) mk_2 (fun w => bits_any _ (oN_bd _) w) (fun w => bits_any _ (pN_M _) w) w
theorem find_3 (w : World) : Calls Try.prog 35 #[.int .i64 3] w fun e w' => e = .returned (.tuple #[.agg (cuN 3), .bool true]) ∧ Gr w w' :=
  find_of 3 53 (pN 3) (aN 3) (bN 3) (oN 3) (xN 3) (yN 3) (bl (oN 3)) (bl (pN 3)) (szN 3) _ _ (by decide) (by decide) rfl rfl rfl (by simp [szN]) (bl_576 _ (oN_bd _)) (bl_576 _ (pN_M _)) (fun w => by kernel_rfl) (of_3) mk_3 (fun w => bits_any _ (oN_bd _) w) (fun w => bits_any _ (pN_M _) w) w
theorem find_4 (w : World) : Calls Try.prog 35 #[.int .i64 4] w fun e w' => e = .returned (.tuple #[.agg (cuN 4), .bool true]) ∧ Gr w w' :=
  find_of 4 54 (pN 4) (aN 4) (bN 4) (oN 4) (xN 4) (yN 4) (bl (oN 4)) (bl (pN 4)) (szN 4) _ _ (by decide) (by decide) rfl rfl rfl (by simp [szN]) (bl_576 _ (oN_bd _)) (bl_576 _ (pN_M _)) (fun w => by kernel_rfl) (of_4) mk_4 (fun w => bits_any _ (oN_bd _) w) (fun w => bits_any _ (pN_M _) w) w
theorem find_5 (w : World) : Calls Try.prog 35 #[.int .i64 5] w fun e w' => e = .returned (.tuple #[.agg (cuN 5), .bool true]) ∧ Gr w w' :=
  find_of 5 55 (pN 5) (aN 5) (bN 5) (oN 5) (xN 5) (yN 5) (bl (oN 5)) (bl (pN 5)) (szN 5) _ _ (by decide) (by decide) rfl rfl rfl (by simp [szN]) (bl_576 _ (oN_bd _)) (bl_576 _ (pN_M _)) (fun w => by kernel_rfl) (of_5) mk_5 (fun w => bits_any _ (oN_bd _) w) (fun w => bits_any _ (pN_M _) w) w
theorem find_6 (w : World) : Calls Try.prog 35 #[.int .i64 6] w fun e w' => e = .returned (.tuple #[.agg (cuN 6), .bool true]) ∧ Gr w w' :=
  find_of 6 56 (pN 6) (aN 6) (bN 6) (oN 6) (xN 6) (yN 6) (bl (oN 6)) (bl (pN 6)) (szN 6) _ _ (by decide) (by decide) rfl rfl rfl (by simp [szN]) (bl_576 _ (oN_bd _)) (bl_576 _ (pN_M _)) (fun w => by kernel_rfl) (of_6) mk_6 (fun w => bits_any _ (oN_bd _) w) (fun w => bits_any _ (pN_M _) w) w
theorem find_7 (w : World) : Calls Try.prog 35 #[.int .i64 7] w fun e w' => e = .returned (.tuple #[.agg (cuN 7), .bool true]) ∧ Gr w w' :=
  find_of 7 57 (pN 7) (aN 7) (bN 7) (oN 7) (xN 7) (yN 7) (bl (oN 7)) (bl (pN 7)) (szN 7) _ _ (by decide) (by decide) rfl rfl rfl (by simp [szN]) (bl_576 _ (oN_bd _)) (bl_576 _ (pN_M _)) (fun w => by kernel_rfl) (of_7) mk_7 (fun w => bits_any _ (oN_bd _) w) (fun w => bits_any _ (pN_M _) w) w
theorem find_8 (w : World) : Calls Try.prog 35 #[.int .i64 8] w fun e w' => e = .returned (.tuple #[.agg (cuN 8), .bool true]) ∧ Gr w w' :=
  find_of 8 58 (pN 8) (aN 8) (bN 8) (oN 8) (xN 8) (yN 8) (bl (oN 8)) (bl (pN 8)) (szN 8) _ _ (by decide) (by decide) rfl rfl rfl (by simp [szN]) (bl_576 _ (oN_bd _)) (bl_576 _ (pN_M _)) (fun w => by kernel_rfl) (of_8) mk_8 (fun w => bits_any _ (oN_bd _) w) (fun w => bits_any _ (pN_M _) w) w
theorem find_9 (w : World) : Calls Try.prog 35 #[.int .i64 9] w fun e w' => e = .returned (.tuple #[.agg (cuN 9), .bool true]) ∧ Gr w w' :=
  find_of 9 59 (pN 9) (aN 9) (bN 9) (oN 9) (xN 9) (yN 9) (bl (oN 9)) (bl (pN 9)) (szN 9) _ _ (by decide) (by decide) rfl rfl rfl (by simp [szN]) (bl_576 _ (oN_bd _)) (bl_576 _ (pN_M _)) (fun w => by kernel_rfl) (of_9) mk_9 (fun w => bits_any _ (oN_bd _) w) (fun w => bits_any _ (pN_M _) w) w
theorem find_10 (w : World) : Calls Try.prog 35 #[.int .i64 10] w fun e w' => e = .returned (.tuple #[.agg (cuN 10), .bool true]) ∧ Gr w w' :=
  find_of 10 60 (pN 10) (aN 10) (bN 10) (oN 10) (xN 10) (yN 10) (bl (oN 10)) (bl (pN 10)) (szN 10) _ _ (by decide) (by decide) rfl rfl rfl (by simp [szN]) (bl_576 _ (oN_bd _)) (bl_576 _ (pN_M _)) (fun w => by kernel_rfl) (of_10) mk_10 (fun w => bits_any _ (oN_bd _) w) (fun w => bits_any _ (pN_M _) w) w
theorem find_11 (w : World) : Calls Try.prog 35 #[.int .i64 11] w fun e w' => e = .returned (.tuple #[.agg (cuN 11), .bool true]) ∧ Gr w w' :=
  find_of 11 61 (pN 11) (aN 11) (bN 11) (oN 11) (xN 11) (yN 11) (bl (oN 11)) (bl (pN 11)) (szN 11) _ _ (by decide) (by decide) rfl rfl rfl (by simp [szN]) (bl_576 _ (oN_bd _)) (bl_576 _ (pN_M _)) (fun w => by kernel_rfl) (of_11) mk_11 (fun w => bits_any _ (oN_bd _) w) (fun w => bits_any _ (pN_M _) w) w
theorem find_12 (w : World) : Calls Try.prog 35 #[.int .i64 12] w fun e w' => e = .returned (.tuple #[.agg (cuN 12), .bool true]) ∧ Gr w w' :=
  find_of 12 62 (pN 12) (aN 12) (bN 12) (oN 12) (xN 12) (yN 12) (bl (oN 12)) (bl (pN 12)) (szN 12) _ _ (by decide) (by decide) rfl rfl rfl (by simp [szN]) (bl_576 _ (oN_bd _)) (bl_576 _ (pN_M _)) (fun w => by kernel_rfl) (of_12) mk_12 (fun w => bits_any _ (oN_bd _) w) (fun w => bits_any _ (pN_M _) w) w
theorem find_13 (w : World) : Calls Try.prog 35 #[.int .i64 13] w fun e w' => e = .returned (.tuple #[.agg (cuN 13), .bool true]) ∧ Gr w w' :=
  find_of 13 63 (pN 13) (aN 13) (bN 13) (oN 13) (xN 13) (yN 13) (bl (oN 13)) (bl (pN 13)) (szN 13) _ _ (by decide) (by decide) rfl rfl rfl (by simp [szN]) (bl_576 _ (oN_bd _)) (bl_576 _ (pN_M _)) (fun w => by kernel_rfl) (of_13) mk_13 (fun w => bits_any _ (oN_bd _) w) (fun w => bits_any _ (pN_M _) w) w
theorem find_14 (w : World) : Calls Try.prog 35 #[.int .i64 14] w fun e w' => e = .returned (.tuple #[.agg (cuN 14), .bool true]) ∧ Gr w w' :=
  find_of 14 64 (pN 14) (aN 14) (bN 14) (oN 14) (xN 14) (yN 14) (bl (oN 14)) (bl (pN 14)) (szN 14) _ _ (by decide) (by decide) rfl rfl rfl (by simp [szN]) (bl_576 _ (oN_bd _)) (bl_576 _ (pN_M _)) (fun w => by kernel_rfl) (of_14) mk_14 (fun w => bits_any _ (oN_bd _) w) (fun w => bits_any _ (pN_M _) w) w
theorem find_15 (w : World) : Calls Try.prog 35 #[.int .i64 15] w fun e w' => e = .returned (.tuple #[.agg (cuN 15), .bool true]) ∧ Gr w w' :=
  find_of 15 65 (pN 15) (aN 15) (bN 15) (oN 15) (xN 15) (yN 15) (bl (oN 15)) (bl (pN 15)) (szN 15) _ _ (by decide) (by decide) rfl rfl rfl (by simp [szN]) (bl_576 _ (oN_bd _)) (bl_576 _ (pN_M _)) (fun w => by kernel_rfl) (of_15) mk_15 (fun w => bits_any _ (oN_bd _) w) (fun w => bits_any _ (pN_M _) w) w
theorem find_yes (i : Nat) (h1 : 1 ≤ i) (h2 : i ≤ 15) (w : World) : Calls Try.prog 35 #[.int .i64 (i : Int)] w fun e w' => e = .returned (.tuple #[.agg (cuN i), .bool true]) ∧ Gr w w' := by
  obtain rfl | rfl | rfl | rfl | rfl | rfl | rfl | rfl | rfl | rfl | rfl | rfl | rfl | rfl | rfl : i = 1 ∨ i = 2 ∨ i = 3 ∨ i = 4 ∨ i = 5 ∨ i = 6 ∨ i = 7 ∨ i = 8 ∨ i = 9 ∨ i = 10 ∨ i = 11 ∨ i = 12 ∨ i = 13 ∨ i = 14 ∨ i = 15 := by omega
  · exact find_1 w
  · exact find_2 w
  · exact find_3 w
  · exact find_4 w
  · exact find_5 w
  · exact find_6 w
  · exact find_7 w
  · exact find_8 w
  · exact find_9 w
  · exact find_10 w
  · exact find_11 w
  · exact find_12 w
  · exact find_13 w
  · exact find_14 w
  · exact find_15 w
attribute [local go_sem ↓] loadNat_is loadArr_is loadWide_is loadArrW_is storeNat_is storeWide_is
attribute [local go_sem] loadNat loadArr loadWide loadArrW storeNat storeWide idxArr fold9 fold18 nw_size nw_elem pre_self pre_1 pre_2 pre_3 pre_4 pre_5 pre_6 pre_7 pre_8 pre_9 pre_10 pre_11 pre_12 pre_13 pre_14 pre_15 pre_16 pre_17 pre_18 pre_19 pre_20 pre_21 pre_22 pre_23 pre_24 pre_25 pre_26 pre_27 pre_28 pre_29 pre_30 pre_31 pre_32 pre_33 pre_34 pre_35 pre_36 pre_37 pre_38 pre_39 pre_40 gro_size gro_drew gro_drewN drew_gro drewN_gro gro_gro blk_gro frz_gro blk_drew frz_drew blk_drewN frz_drewN blk_alloc_at frz_alloc_at blk_alloc frz_alloc cell_gro frozen_gro cell_alloc_pre frozen_alloc_pre setCell_drewN alloc_drewN setBlk_drew setBlk_drewN setBlk_alloc_at setBlk_alloc setBlk_gro setCell_gro setCell_alloc_pre size_setBlk size_setCell
attribute [local go_sem] ppre_1 ppre_2 ppre_3 ppre_4 ppre_5 ppre_6
attribute [local go_sem ↓] zvCu_is zvEq_is storeCu_is storeEq_is loadCu_is loadEq_is loadPn_is buildCu_is buildEq_is buildPn_is Go.wp_at_zero Go.wp_at_succ
attribute [local go_sem] zvCu zvEq storeCu storeEq loadCu loadEq loadPn loadCP loadCA loadCB loadPX loadPY buildCu0 buildEq0 buildPnI cu_size cu_P cu_A cu_B pnt_size pnt_X pnt_Y frz_setBlk blk_setBlk setBlk_setBlk blk_other
set_option maxRecDepth 100000 in
set_option maxHeartbeats 400000 in
theorem get13_no (x : Int) (h : x < 1 ∨ 15 < x) (w : World) : Calls Try.prog 9 #[.int .i64 x] w fun e w' => e = .returned (.tuple #[.agg (cu 0 0 0 0 0 0 0 0 0 false), .int .i64 1300]) ∧ Gr w w' := by
  have HF : Hid (∀ w, Calls Try.prog 35 #[.int .i64 x] w fun e w' => e = .returned (.tuple #[.agg (cu 0 0 0 0 0 0 0 0 0 false), .bool false]) ∧ Gr w w') := fun w => find_no x h w
  clear h
  go_enter Try.func9, Try.ntmps9
  go_wp2_with (go_at_call 35; refine (HF.out _).mono ?_; rintro e w' ⟨rfl, g, rfl⟩)
  refine bodyPost_ret (res_two Try.results9 (rd_cu (by rfl) ?_) (rd_tmp (by rfl))) rfl ⟨rfl, (by repeat (first | exact Gr.refl _ | apply Gr.drewN | apply Gr.drew | apply Gr.alloc | apply Gr.gro))⟩
  simp [go_sem]
set_option maxRecDepth 100000 in
set_option maxHeartbeats 400000 in
theorem get13_of (x : Int) (id : Int) (P A B N X Y : Nat) (s z : Int) (l : Bool) (HF' : ∀ w, Calls Try.prog 35 #[.int .i64 x] w fun e w' => e = .returned (.tuple #[.agg (cu id P A B N X Y s z l), .bool true]) ∧ Gr w w') (w : World) :
    Calls Try.prog 9 #[.int .i64 x] w fun e w' => e = .returned (.tuple #[.agg (cu id P A B N X Y s z l), .int .i64 0]) ∧ Gr w w' := by
  have HF : Hid (∀ w, Calls Try.prog 35 #[.int .i64 x] w fun e w' => e = .returned (.tuple #[.agg (cu id P A B N X Y s z l), .bool true]) ∧ Gr w w') := HF'
  clear HF'
  go_enter Try.func9, Try.ntmps9
  go_wp2_with (go_at_call 35; refine (HF.out _).mono ?_; rintro e w' ⟨rfl, g, rfl⟩)
  refine bodyPost_ret (res_two Try.results9 (rd_cu (by rfl) ?_) (rd_tmp (by rfl))) rfl ⟨rfl, (by repeat (first | exact Gr.refl _ | apply Gr.drewN | apply Gr.drew | apply Gr.alloc | apply Gr.gro))⟩
  simp [go_sem]
/-- What Get answers of a curve. -/
theorem get13_yes (i : Nat) (h1 : 1 ≤ i) (h2 : i ≤ 15) (w : World) : Calls Try.prog 9 #[.int .i64 (i : Int)] w fun e w' => e = .returned (.tuple #[.agg (cuN i), .int .i64 0]) ∧ Gr w w' :=
  get13_of i _ _ _ _ _ _ _ _ _ _ (find_yes i h1 h2) w
set_option maxRecDepth 100000 in
set_option maxHeartbeats 400000 in
theorem below13_any (id : Int) (P A B N X Y : Nat) (s z : Int) (l : Bool) (a : Nat) (f : Bool) (hP : P < M) (ha : a < M) (hf : decide (a < P) = f) (w : World) :
    Calls Try.prog 66 #[.agg (cu id P A B N X Y s z l), .agg (nw 9 a)] w fun e w' => e = .returned (.bool f) ∧ Gr w w' := by
  obtain ⟨c, hc⟩ : ∃ c, cmpZ a P = c := ⟨_, rfl⟩
  have HC : Hid (∀ w, Calls Try.prog 77 #[.agg (nw 9 a), .agg (nw 9 P)] w fun e w' => e = .returned (.int .i64 c) ∧ Gr w w') := fun w => hc ▸ cmp_any a P ha hP w
  have hd : decide (c < 0) = f := by
    rw [← hf, ← hc]; unfold cmpZ
    by_cases h : a < P
    · simp [h]
    · simp only [h, if_false]; split <;> simp
  clear hc hf hP ha
  go_enter Try.func66, Try.ntmps66
  go_wp2_with (go_at_call 77; refine (HC.out _).mono ?_; rintro e w' ⟨rfl, g, rfl⟩)
  go_ret
  exact ⟨rfl, (by repeat (first | exact Gr.refl _ | apply Gr.drewN | apply Gr.drew | apply Gr.alloc | apply Gr.gro))⟩
set_option maxRecDepth 100000 in
set_option maxHeartbeats 400000 in
theorem left13_of (id : Int) (P A B N X Y : Nat) (s z : Int) (l : Bool) (y q1 : Nat)
    (H1' : ∀ w, Calls Try.prog 78 #[.int .i64 id, .agg (nw 9 y), .agg (nw 9 y)] w fun e w' => e = .returned (.tuple #[.agg (nw 9 q1), .int .i64 0]) ∧ Gr w w') (w : World) :
    Calls Try.prog 67 #[.agg (cu id P A B N X Y s z l), .agg (nw 9 y)] w fun e w' => e = .returned (.agg (nw 9 q1)) ∧ Gr w w' := by
  have H1 : Hid (∀ w, Calls Try.prog 78 #[.int .i64 id, .agg (nw 9 y), .agg (nw 9 y)] w fun e w' => e = .returned (.tuple #[.agg (nw 9 q1), .int .i64 0]) ∧ Gr w w') := H1'
  clear H1'
  go_enter Try.func67, Try.ntmps67
  go_upto_region 1 with fail
  refine gen_w (fun v => Hid (Gr w v ∧ Vr v w.heap.size (cu id P A B N X Y s z l) ∧ Vr v (w.heap.size + 1) (nw 9 y) ∧ Vr v (w.heap.size + 1 + 1) (nw 9 0))) ⟨(by repeat (first | exact Gr.refl _ | apply Gr.drewN | apply Gr.drew | apply Gr.alloc | apply Gr.gro)), ⟨by simp [go_sem], by simp [go_sem], by simp [go_sem]⟩, ⟨by simp [go_sem], by simp [go_sem], by simp [go_sem]⟩, ⟨by simp [go_sem], by simp [go_sem], by simp [go_sem]⟩⟩ ?_
  intro v0 HV
  obtain ⟨G, c0, c1, c2⟩ := HV.out
  have k0 : v0.cell? ⟨w.heap.size, 0, none⟩ = some (.int .i64 id) := by rw [c0.cell]; exact cu_0 id P A B N X Y s z l
  have ⟨h0, f0, p0⟩ := c0
  have ⟨h1, f1, p1⟩ := c1
  have ⟨h2, f2, p2⟩ := c2
  have ⟨p01, p02, p03, p04, p05, p06⟩ := c0.pp
  have ⟨p11, p12, p13, p14, p15, p16⟩ := c1.pp
  have ⟨p21, p22, p23, p24, p25, p26⟩ := c2.pp
  clear HV c0 c1 c2
  go_wp2_with (go_at_call 78; refine (H1.out _).mono ?_; rintro e w' ⟨rfl, g, rfl⟩)
  refine bodyPost_ret (res_one Try.results67 (rd_nat (x := q1) (by rfl) ?_)) rfl ⟨rfl, ?_⟩
  · simp [go_sem, *]
  · repeat (first | exact G | apply Gr.drewN | apply Gr.drew | apply Gr.alloc | apply Gr.gro | (refine gr_setNew ?_ (by omega)))
set_option maxRecDepth 100000 in
set_option maxHeartbeats 800000 in
theorem right13_of (id : Int) (P A B N X Y : Nat) (s z : Int) (l : Bool) (x q1 q2 q3 q4 : Nat)
    (H1' : ∀ w, Calls Try.prog 78 #[.int .i64 id, .agg (nw 9 x), .agg (nw 9 x)] w fun e w' => e = .returned (.tuple #[.agg (nw 9 q1), .int .i64 0]) ∧ Gr w w') (H2' : ∀ w, Calls Try.prog 79 #[.int .i64 id, .agg (nw 9 q1), .agg (nw 9 A)] w fun e w' => e = .returned (.tuple #[.agg (nw 9 q2), .int .i64 0]) ∧ Gr w w') (H3' : ∀ w, Calls Try.prog 78 #[.int .i64 id, .agg (nw 9 q2), .agg (nw 9 x)] w fun e w' => e = .returned (.tuple #[.agg (nw 9 q3), .int .i64 0]) ∧ Gr w w') (H4' : ∀ w, Calls Try.prog 79 #[.int .i64 id, .agg (nw 9 q3), .agg (nw 9 B)] w fun e w' => e = .returned (.tuple #[.agg (nw 9 q4), .int .i64 0]) ∧ Gr w w') (w : World) :
    Calls Try.prog 68 #[.agg (cu id P A B N X Y s z l), .agg (nw 9 x)] w fun e w' => e = .returned (.agg (nw 9 q4)) ∧ Gr w w' := by
  have H1 : Hid (∀ w, Calls Try.prog 78 #[.int .i64 id, .agg (nw 9 x), .agg (nw 9 x)] w fun e w' => e = .returned (.tuple #[.agg (nw 9 q1), .int .i64 0]) ∧ Gr w w') := H1'
  have H2 : Hid (∀ w, Calls Try.prog 79 #[.int .i64 id, .agg (nw 9 q1), .agg (nw 9 A)] w fun e w' => e = .returned (.tuple #[.agg (nw 9 q2), .int .i64 0]) ∧ Gr w w') := H2'
  have H3 : Hid (∀ w, Calls Try.prog 78 #[.int .i64 id, .agg (nw 9 q2), .agg (nw 9 x)] w fun e w' => e = .returned (.tuple #[.agg (nw 9 q3), .int .i64 0]) ∧ Gr w w') := H3'
  have H4 : Hid (∀ w, Calls Try.prog 79 #[.int .i64 id, .agg (nw 9 q3), .agg (nw 9 B)] w fun e w' => e = .returned (.tuple #[.agg (nw 9 q4), .int .i64 0]) ∧ Gr w w') := H4'
  clear H1' H2' H3' H4'
  go_enter Try.func68, Try.ntmps68
  go_upto_region 1 with fail
  refine gen_w (fun v => Hid (Gr w v ∧ Vr v w.heap.size (cu id P A B N X Y s z l) ∧ Vr v (w.heap.size + 1) (nw 9 x) ∧ Vr v (w.heap.size + 1 + 1) (nw 9 0))) ⟨(by repeat (first | exact Gr.refl _ | apply Gr.drewN | apply Gr.drew | apply Gr.alloc | apply Gr.gro)), ⟨by simp [go_sem], by simp [go_sem], by simp [go_sem]⟩, ⟨by simp [go_sem], by simp [go_sem], by simp [go_sem]⟩, ⟨by simp [go_sem], by simp [go_sem], by simp [go_sem]⟩⟩ ?_
  intro v0 HV
  obtain ⟨G, c0, c1, c2⟩ := HV.out
  have k0 : v0.cell? ⟨w.heap.size, 0, none⟩ = some (.int .i64 id) := by rw [c0.cell]; exact cu_0 id P A B N X Y s z l
  have ⟨h0, f0, p0⟩ := c0
  have ⟨h1, f1, p1⟩ := c1
  have ⟨h2, f2, p2⟩ := c2
  have ⟨p01, p02, p03, p04, p05, p06⟩ := c0.pp
  have ⟨p11, p12, p13, p14, p15, p16⟩ := c1.pp
  have ⟨p21, p22, p23, p24, p25, p26⟩ := c2.pp
  clear HV c0 c1 c2
  go_wp2_with (first
    | (go_at_call_of 78 ((#[.int .i64 id, .agg (nw 9 x), .agg (nw 9 x)] : Array Value)); refine (H1.out _).mono ?_; rintro e w' ⟨rfl, g0, rfl⟩)
    | (go_at_call_of 79 ((#[.int .i64 id, .agg (nw 9 q1), .agg (nw 9 A)] : Array Value)); refine (H2.out _).mono ?_; rintro e w' ⟨rfl, g1, rfl⟩)
    | (go_at_call_of 78 ((#[.int .i64 id, .agg (nw 9 q2), .agg (nw 9 x)] : Array Value)); refine (H3.out _).mono ?_; rintro e w' ⟨rfl, g2, rfl⟩)
    | (go_at_call_of 79 ((#[.int .i64 id, .agg (nw 9 q3), .agg (nw 9 B)] : Array Value)); refine (H4.out _).mono ?_; rintro e w' ⟨rfl, g3, rfl⟩))
  refine bodyPost_ret (res_one Try.results68 (rd_nat (x := q4) (by rfl) ?_)) rfl ⟨rfl, ?_⟩
  · simp [go_sem, *]
  · repeat (first | exact G | apply Gr.drewN | apply Gr.drew | apply Gr.alloc | apply Gr.gro | (refine gr_setNew ?_ (by omega)))
set_option maxRecDepth 100000 in
set_option maxHeartbeats 400000 in
theorem holds_inf (id : Int) (P A B N X Y : Nat) (s z : Int) (l : Bool) (x y : Nat) (w : World) :
    Calls Try.prog 41 #[.agg (cu id P A B N X Y s z l), .agg (pnt x y true)] w fun e w' => e = .returned (.bool (eqN 9 x 0 && (eqN 9 y 0 && true))) ∧ Gr w w' := by
  have hq : ∀ w, (binOp .eql 27 (.agg (pnt x y true)) (.agg (pnt 0 0 true))).run Try.prog w = .ok (.bool (eqN 9 x 0 && (eqN 9 y 0 && true))) w := fun w => eqPn x y true 0 0 true w
  go_enter Try.func41, Try.ntmps41
  go_upto_region 1 with fail
  refine gen_w (fun v => Hid (Gr w v ∧ Vr v (w.heap.size + 1) (pnt x y true))) ⟨(by repeat (first | exact Gr.refl _ | apply Gr.drewN | apply Gr.drew | apply Gr.alloc | apply Gr.gro)), ⟨by simp [go_sem], by simp [go_sem], by simp [go_sem]⟩⟩ ?_
  intro v0 HV
  obtain ⟨G, c1⟩ := HV.out
  have k1 : v0.cell? ⟨w.heap.size + 1, 18, none⟩ = some (.bool true) := by rw [c1.cell]; exact pnt_18 x y true
  have ⟨h1, f1, p1⟩ := c1
  clear HV c1
  go_wp2_with fail
  go_ret
  exact ⟨by simp, G⟩
set_option maxRecDepth 100000 in
set_option maxHeartbeats 1600000 in
theorem holds_of (id : Int) (P A B N X Y : Nat) (s z : Int) (l : Bool) (x y L R : Nat) (bx by' : Bool)
    (HBx' : ∀ w, Calls Try.prog 66 #[.agg (cu id P A B N X Y s z l), .agg (nw 9 x)] w fun e w' => e = .returned (.bool bx) ∧ Gr w w') (HBy' : ∀ w, Calls Try.prog 66 #[.agg (cu id P A B N X Y s z l), .agg (nw 9 y)] w fun e w' => e = .returned (.bool by') ∧ Gr w w')
    (HL' : bx = true → by' = true → ∀ w, Calls Try.prog 67 #[.agg (cu id P A B N X Y s z l), .agg (nw 9 y)] w fun e w' => e = .returned (.agg (nw 9 L)) ∧ Gr w w')
    (HR' : bx = true → by' = true → ∀ w, Calls Try.prog 68 #[.agg (cu id P A B N X Y s z l), .agg (nw 9 x)] w fun e w' => e = .returned (.agg (nw 9 R)) ∧ Gr w w') (w : World) :
    Calls Try.prog 41 #[.agg (cu id P A B N X Y s z l), .agg (pnt x y false)] w fun e w' => e = .returned (.bool (bx && (by' && eqN 9 L R))) ∧ Gr w w' := by
  have HBx : Hid (∀ w, Calls Try.prog 66 #[.agg (cu id P A B N X Y s z l), .agg (nw 9 x)] w fun e w' => e = .returned (.bool bx) ∧ Gr w w') := HBx'
  have HBy : Hid (∀ w, Calls Try.prog 66 #[.agg (cu id P A B N X Y s z l), .agg (nw 9 y)] w fun e w' => e = .returned (.bool by') ∧ Gr w w') := HBy'
  have HL := HL'
  have HR := HR'
  clear HL' HR' HBx' HBy'
  rcases (by cases bx <;> cases by' <;> simp : (bx = false) ∨ (bx = true ∧ by' = false) ∨ (bx = true ∧ by' = true)) with rfl | ⟨rfl, rfl⟩ | ⟨rfl, rfl⟩
  · clear HL HR
    go_enter Try.func41, Try.ntmps41
    go_upto_region 3 with fail
    refine gen_w (fun v => Hid (Gr w v ∧ Vr v w.heap.size (cu id P A B N X Y s z l) ∧ Vr v (w.heap.size + 1) (pnt x y false))) ⟨(by repeat (first | exact Gr.refl _ | apply Gr.drewN | apply Gr.drew | apply Gr.alloc | apply Gr.gro)), ⟨by simp [go_sem], by simp [go_sem], by simp [go_sem]⟩, ⟨by simp [go_sem], by simp [go_sem], by simp [go_sem]⟩⟩ ?_
    intro v0 HV
    obtain ⟨G, c2, c3⟩ := HV.out
    refine wp_region_q (by kernel_rfl) (by kernel_rfl) [.c (.agg (cu id P A B N X Y s z l)), .c (.pointer (some ⟨w.heap.size + 1, 0, none⟩)), .c (.agg (nw 9 x)), .c (.bool false), .c (.bool false), .top, .top, .top, .top, .c (.bool false), .c (.bool false), .top, .top, .top, .top, .top, .top, .top, .top, .top, .c (.bool false), .c (.bool false)] ?hs ?hf
    case hs =>
      intro listed vals a1 v io oo hg hR hF ho hd
      have H2 : blk v (w.heap.size) = cu id P A B N X Y s z l := (hg.blk _ c2.p).trans c2.h
      have H3 : blk v (w.heap.size + 1) = pnt x y false := (hg.blk _ c3.p).trans c3.h
      have hi : io < 22 := by simpa using (Array.getElem?_eq_some_iff.1 ho).1
      obtain rfl | rfl | rfl | rfl | rfl | rfl | rfl | rfl | rfl | rfl | rfl | rfl | rfl | rfl | rfl | rfl | rfl | rfl | rfl | rfl | rfl | rfl : io = 0 ∨ io = 1 ∨ io = 2 ∨ io = 3 ∨ io = 4 ∨ io = 5 ∨ io = 6 ∨ io = 7 ∨ io = 8 ∨ io = 9 ∨ io = 10 ∨ io = 11 ∨ io = 12 ∨ io = 13 ∨ io = 14 ∨ io = 15 ∨ io = 16 ∨ io = 17 ∨ io = 18 ∨ io = 19 ∨ io = 20 ∨ io = 21 := by omega
      · obtain rfl := Option.some.inj ho
        have f0 := hF.old (s := 2) (v := .pointer (some ⟨w.heap.size, 0, none⟩)) (by kernel_rfl) rfl
        refine Or.inl ⟨wanted_no rfl, ?_⟩
        exact wp_val (.agg (cu id P A B N X Y s z l)) (by simp [go_sem, f0, H2]) ⟨_, rfl, Gr.refl _, rfl⟩
      · obtain rfl := Option.some.inj ho
        have f0 := hF.old (s := 3) (v := .pointer (some ⟨w.heap.size + 1, 0, none⟩)) (by kernel_rfl) rfl
        refine Or.inl ⟨wanted_no rfl, ?_⟩
        exact wp_val (.pointer (some ⟨w.heap.size + 1, 0, none⟩)) (by simp [go_sem, f0]) ⟨_, rfl, Gr.refl _, rfl⟩
      · obtain rfl := Option.some.inj ho
        have l0 := on_of hd 1 (by kernel_rfl)
        have f0 := hF.at (s := 11) (i := 1) (by kernel_rfl) (by simp) l0
        have e0 : vals 1 = .pointer (some ⟨w.heap.size + 1, 0, none⟩) := hR 1 l0
        rw [e0] at f0
        refine Or.inl ⟨wanted_no rfl, ?_⟩
        exact wp_val (.agg (nw 9 x)) (by simp [go_sem, f0, H3]) ⟨_, rfl, Gr.refl _, rfl⟩
      · obtain rfl := Option.some.inj ho
        have l0 := on_of hd 0 (by kernel_rfl)
        have f0 := hF.at (s := 10) (i := 0) (by kernel_rfl) (by simp) l0
        have e0 : vals 0 = .agg (cu id P A B N X Y s z l) := hR 0 l0
        rw [e0] at f0
        have l1 := on_of hd 2 (by kernel_rfl)
        have f1 := hF.at (s := 12) (i := 2) (by kernel_rfl) (by simp) l1
        have e1 : vals 2 = .agg (nw 9 x) := hR 2 l1
        rw [e1] at f1
        refine Or.inl ⟨wanted_no rfl, ?_⟩
        exact wp_retz (k := .c (.bool false)) (by simp [go_sem, f0, f1]) (Rt.c (HBx.out v)) (fun u w2 hu hg2 => ⟨_, rfl, hg2, hu⟩)
      · obtain rfl := Option.some.inj ho
        have l0 := on_of hd 3 (by kernel_rfl)
        have f0 := hF.at (s := 13) (i := 3) (by kernel_rfl) (by simp) l0
        have e0 : vals 3 = .bool false := hR 3 l0
        rw [e0] at f0
        refine Or.inl ⟨wanted_no rfl, ?_⟩
        exact wp_val (.bool false) (by simp [go_sem, f0]) ⟨_, rfl, Gr.refl _, rfl⟩
      · obtain rfl := Option.some.inj ho
        have lg := on_of hd 4 (by kernel_rfl)
        have fg := hF.at (s := 14) (i := 4) (by kernel_rfl) (by simp) lg
        rw [show vals 4 = .bool false from hR 4 lg] at fg
        exact Or.inr ⟨unwanted_at (j := 4) (s := 14) rfl rfl rfl fg (by decide), trivial⟩
      · obtain rfl := Option.some.inj ho
        have lg := on_of hd 4 (by kernel_rfl)
        have fg := hF.at (s := 14) (i := 4) (by kernel_rfl) (by simp) lg
        rw [show vals 4 = .bool false from hR 4 lg] at fg
        exact Or.inr ⟨unwanted_at (j := 4) (s := 14) rfl rfl rfl fg (by decide), trivial⟩
      · obtain rfl := Option.some.inj ho
        have lg := on_of hd 4 (by kernel_rfl)
        have fg := hF.at (s := 14) (i := 4) (by kernel_rfl) (by simp) lg
        rw [show vals 4 = .bool false from hR 4 lg] at fg
        exact Or.inr ⟨unwanted_at (j := 4) (s := 14) rfl rfl rfl fg (by decide), trivial⟩
      · obtain rfl := Option.some.inj ho
        have lg := on_of hd 4 (by kernel_rfl)
        have fg := hF.at (s := 14) (i := 4) (by kernel_rfl) (by simp) lg
        rw [show vals 4 = .bool false from hR 4 lg] at fg
        exact Or.inr ⟨unwanted_at (j := 4) (s := 14) rfl rfl rfl fg (by decide), trivial⟩
      · obtain rfl := Option.some.inj ho
        have l0 := on_of hd 4 (by kernel_rfl)
        have f0 := hF.at (s := 14) (i := 4) (by kernel_rfl) (by simp) l0
        have e0 : vals 4 = .bool false := hR 4 l0
        rw [e0] at f0
        have l1 := on_of hd 8 (by kernel_rfl)
        have f1 := hF.at (s := 18) (i := 8) (by kernel_rfl) (by simp) l1
        refine Or.inl ⟨wanted_no rfl, ?_⟩
        exact wp_val (.bool false) (by simp [go_sem, f0, f1]) ⟨_, rfl, Gr.refl _, rfl⟩
      · obtain rfl := Option.some.inj ho
        have l0 := on_of hd 9 (by kernel_rfl)
        have f0 := hF.at (s := 19) (i := 9) (by kernel_rfl) (by simp) l0
        have e0 : vals 9 = .bool false := hR 9 l0
        rw [e0] at f0
        refine Or.inl ⟨wanted_no rfl, ?_⟩
        exact wp_val (.bool false) (by simp [go_sem, f0]) ⟨_, rfl, Gr.refl _, rfl⟩
      · obtain rfl := Option.some.inj ho
        have lg := on_of hd 10 (by kernel_rfl)
        have fg := hF.at (s := 20) (i := 10) (by kernel_rfl) (by simp) lg
        rw [show vals 10 = .bool false from hR 10 lg] at fg
        exact Or.inr ⟨unwanted_at (j := 10) (s := 20) rfl rfl rfl fg (by decide), trivial⟩
      · obtain rfl := Option.some.inj ho
        have lg := on_of hd 10 (by kernel_rfl)
        have fg := hF.at (s := 20) (i := 10) (by kernel_rfl) (by simp) lg
        rw [show vals 10 = .bool false from hR 10 lg] at fg
        exact Or.inr ⟨unwanted_at (j := 10) (s := 20) rfl rfl rfl fg (by decide), trivial⟩
      · obtain rfl := Option.some.inj ho
        have lg := on_of hd 10 (by kernel_rfl)
        have fg := hF.at (s := 20) (i := 10) (by kernel_rfl) (by simp) lg
        rw [show vals 10 = .bool false from hR 10 lg] at fg
        exact Or.inr ⟨unwanted_at (j := 10) (s := 20) rfl rfl rfl fg (by decide), trivial⟩
      · obtain rfl := Option.some.inj ho
        have lg := on_of hd 10 (by kernel_rfl)
        have fg := hF.at (s := 20) (i := 10) (by kernel_rfl) (by simp) lg
        rw [show vals 10 = .bool false from hR 10 lg] at fg
        exact Or.inr ⟨unwanted_at (j := 10) (s := 20) rfl rfl rfl fg (by decide), trivial⟩
      · obtain rfl := Option.some.inj ho
        have lg := on_of hd 10 (by kernel_rfl)
        have fg := hF.at (s := 20) (i := 10) (by kernel_rfl) (by simp) lg
        rw [show vals 10 = .bool false from hR 10 lg] at fg
        exact Or.inr ⟨unwanted_at (j := 10) (s := 20) rfl rfl rfl fg (by decide), trivial⟩
      · obtain rfl := Option.some.inj ho
        have lg := on_of hd 10 (by kernel_rfl)
        have fg := hF.at (s := 20) (i := 10) (by kernel_rfl) (by simp) lg
        rw [show vals 10 = .bool false from hR 10 lg] at fg
        exact Or.inr ⟨unwanted_at (j := 10) (s := 20) rfl rfl rfl fg (by decide), trivial⟩
      · obtain rfl := Option.some.inj ho
        have lg := on_of hd 10 (by kernel_rfl)
        have fg := hF.at (s := 20) (i := 10) (by kernel_rfl) (by simp) lg
        rw [show vals 10 = .bool false from hR 10 lg] at fg
        exact Or.inr ⟨unwanted_at (j := 10) (s := 20) rfl rfl rfl fg (by decide), trivial⟩
      · obtain rfl := Option.some.inj ho
        have lg := on_of hd 10 (by kernel_rfl)
        have fg := hF.at (s := 20) (i := 10) (by kernel_rfl) (by simp) lg
        rw [show vals 10 = .bool false from hR 10 lg] at fg
        exact Or.inr ⟨unwanted_at (j := 10) (s := 20) rfl rfl rfl fg (by decide), trivial⟩
      · obtain rfl := Option.some.inj ho
        have lg := on_of hd 10 (by kernel_rfl)
        have fg := hF.at (s := 20) (i := 10) (by kernel_rfl) (by simp) lg
        rw [show vals 10 = .bool false from hR 10 lg] at fg
        exact Or.inr ⟨unwanted_at (j := 10) (s := 20) rfl rfl rfl fg (by decide), trivial⟩
      · obtain rfl := Option.some.inj ho
        have l0 := on_of hd 10 (by kernel_rfl)
        have f0 := hF.at (s := 20) (i := 10) (by kernel_rfl) (by simp) l0
        have e0 : vals 10 = .bool false := hR 10 l0
        rw [e0] at f0
        have l1 := on_of hd 19 (by kernel_rfl)
        have f1 := hF.at (s := 29) (i := 19) (by kernel_rfl) (by simp) l1
        refine Or.inl ⟨wanted_no rfl, ?_⟩
        exact wp_val (.bool false) (by simp [go_sem, f0, f1]) ⟨_, rfl, Gr.refl _, rfl⟩
      · obtain rfl := Option.some.inj ho
        have l0 := on_of hd 20 (by kernel_rfl)
        have f0 := hF.at (s := 30) (i := 20) (by kernel_rfl) (by simp) l0
        have e0 : vals 20 = .bool false := hR 20 l0
        rw [e0] at f0
        refine Or.inl ⟨wanted_no rfl, ?_⟩
        exact wp_val (.bool false) (by simp [go_sem, f0]) ⟨_, rfl, Gr.refl _, rfl⟩
    case hf =>
      intro vals v hg hR
      have H2 : blk v (w.heap.size) = cu id P A B N X Y s z l := (hg.blk _ c2.p).trans c2.h
      have H3 : blk v (w.heap.size + 1) = pnt x y false := (hg.blk _ c3.p).trans c3.h
      have e100 : vals 0 = .agg (cu id P A B N X Y s z l) := hR 0 (by simp)
      have e101 : vals 1 = .pointer (some ⟨w.heap.size + 1, 0, none⟩) := hR 1 (by simp)
      have e102 : vals 2 = .agg (nw 9 x) := hR 2 (by simp)
      have e103 : vals 3 = .bool false := hR 3 (by simp)
      have e104 : vals 4 = .bool false := hR 4 (by simp)
      have e109 : vals 9 = .bool false := hR 9 (by simp)
      have e110 : vals 10 = .bool false := hR 10 (by simp)
      have e120 : vals 20 = .bool false := hR 20 (by simp)
      have e121 : vals 21 = .bool false := hR 21 (by simp)
      simp only [putFrom, Act.put, List.setIfInBounds_toArray, List.set_cons_zero, List.set_cons_succ, e100, e101, e102, e103, e104, e109, e110, e120, e121]
      clear hR e100 e101 e102 e103 e104 e109 e110 e120 e121
      have HG : Gr w v := G.trans hg
      clear hg
      go_wp2_with fail
      go_ret
      exact ⟨rfl, HG⟩
  · clear HL HR
    go_enter Try.func41, Try.ntmps41
    go_upto_region 3 with fail
    refine gen_w (fun v => Hid (Gr w v ∧ Vr v w.heap.size (cu id P A B N X Y s z l) ∧ Vr v (w.heap.size + 1) (pnt x y false))) ⟨(by repeat (first | exact Gr.refl _ | apply Gr.drewN | apply Gr.drew | apply Gr.alloc | apply Gr.gro)), ⟨by simp [go_sem], by simp [go_sem], by simp [go_sem]⟩, ⟨by simp [go_sem], by simp [go_sem], by simp [go_sem]⟩⟩ ?_
    intro v0 HV
    obtain ⟨G, c2, c3⟩ := HV.out
    refine wp_region_q (by kernel_rfl) (by kernel_rfl) [.c (.agg (cu id P A B N X Y s z l)), .c (.pointer (some ⟨w.heap.size + 1, 0, none⟩)), .c (.agg (nw 9 x)), .c (.bool true), .c (.bool true), .c (.agg (cu id P A B N X Y s z l)), .c (.pointer (some ⟨w.heap.size + 1, 9, none⟩)), .c (.agg (nw 9 y)), .c (.bool false), .c (.bool false), .c (.bool false), .top, .top, .top, .top, .top, .top, .top, .top, .top, .c (.bool false), .c (.bool false)] ?hs ?hf
    case hs =>
      intro listed vals a1 v io oo hg hR hF ho hd
      have H2 : blk v (w.heap.size) = cu id P A B N X Y s z l := (hg.blk _ c2.p).trans c2.h
      have H3 : blk v (w.heap.size + 1) = pnt x y false := (hg.blk _ c3.p).trans c3.h
      have hi : io < 22 := by simpa using (Array.getElem?_eq_some_iff.1 ho).1
      obtain rfl | rfl | rfl | rfl | rfl | rfl | rfl | rfl | rfl | rfl | rfl | rfl | rfl | rfl | rfl | rfl | rfl | rfl | rfl | rfl | rfl | rfl : io = 0 ∨ io = 1 ∨ io = 2 ∨ io = 3 ∨ io = 4 ∨ io = 5 ∨ io = 6 ∨ io = 7 ∨ io = 8 ∨ io = 9 ∨ io = 10 ∨ io = 11 ∨ io = 12 ∨ io = 13 ∨ io = 14 ∨ io = 15 ∨ io = 16 ∨ io = 17 ∨ io = 18 ∨ io = 19 ∨ io = 20 ∨ io = 21 := by omega
      · obtain rfl := Option.some.inj ho
        have f0 := hF.old (s := 2) (v := .pointer (some ⟨w.heap.size, 0, none⟩)) (by kernel_rfl) rfl
        refine Or.inl ⟨wanted_no rfl, ?_⟩
        exact wp_val (.agg (cu id P A B N X Y s z l)) (by simp [go_sem, f0, H2]) ⟨_, rfl, Gr.refl _, rfl⟩
      · obtain rfl := Option.some.inj ho
        have f0 := hF.old (s := 3) (v := .pointer (some ⟨w.heap.size + 1, 0, none⟩)) (by kernel_rfl) rfl
        refine Or.inl ⟨wanted_no rfl, ?_⟩
        exact wp_val (.pointer (some ⟨w.heap.size + 1, 0, none⟩)) (by simp [go_sem, f0]) ⟨_, rfl, Gr.refl _, rfl⟩
      · obtain rfl := Option.some.inj ho
        have l0 := on_of hd 1 (by kernel_rfl)
        have f0 := hF.at (s := 11) (i := 1) (by kernel_rfl) (by simp) l0
        have e0 : vals 1 = .pointer (some ⟨w.heap.size + 1, 0, none⟩) := hR 1 l0
        rw [e0] at f0
        refine Or.inl ⟨wanted_no rfl, ?_⟩
        exact wp_val (.agg (nw 9 x)) (by simp [go_sem, f0, H3]) ⟨_, rfl, Gr.refl _, rfl⟩
      · obtain rfl := Option.some.inj ho
        have l0 := on_of hd 0 (by kernel_rfl)
        have f0 := hF.at (s := 10) (i := 0) (by kernel_rfl) (by simp) l0
        have e0 : vals 0 = .agg (cu id P A B N X Y s z l) := hR 0 l0
        rw [e0] at f0
        have l1 := on_of hd 2 (by kernel_rfl)
        have f1 := hF.at (s := 12) (i := 2) (by kernel_rfl) (by simp) l1
        have e1 : vals 2 = .agg (nw 9 x) := hR 2 l1
        rw [e1] at f1
        refine Or.inl ⟨wanted_no rfl, ?_⟩
        exact wp_retz (k := .c (.bool true)) (by simp [go_sem, f0, f1]) (Rt.c (HBx.out v)) (fun u w2 hu hg2 => ⟨_, rfl, hg2, hu⟩)
      · obtain rfl := Option.some.inj ho
        have l0 := on_of hd 3 (by kernel_rfl)
        have f0 := hF.at (s := 13) (i := 3) (by kernel_rfl) (by simp) l0
        have e0 : vals 3 = .bool true := hR 3 l0
        rw [e0] at f0
        refine Or.inl ⟨wanted_no rfl, ?_⟩
        exact wp_val (.bool true) (by simp [go_sem, f0]) ⟨_, rfl, Gr.refl _, rfl⟩
      · obtain rfl := Option.some.inj ho
        have lg := on_of hd 4 (by kernel_rfl)
        have fg := hF.at (s := 14) (i := 4) (by kernel_rfl) (by simp) lg
        rw [show vals 4 = .bool true from hR 4 lg] at fg
        have f0 := hF.old (s := 2) (v := .pointer (some ⟨w.heap.size, 0, none⟩)) (by kernel_rfl) rfl
        refine Or.inl ⟨wanted_at (j := 4) (s := 14) rfl rfl rfl fg, ?_⟩
        exact wp_val (.agg (cu id P A B N X Y s z l)) (by simp [go_sem, f0, H2]) ⟨_, rfl, Gr.refl _, rfl⟩
      · obtain rfl := Option.some.inj ho
        have lg := on_of hd 4 (by kernel_rfl)
        have fg := hF.at (s := 14) (i := 4) (by kernel_rfl) (by simp) lg
        rw [show vals 4 = .bool true from hR 4 lg] at fg
        have f0 := hF.old (s := 3) (v := .pointer (some ⟨w.heap.size + 1, 0, none⟩)) (by kernel_rfl) rfl
        refine Or.inl ⟨wanted_at (j := 4) (s := 14) rfl rfl rfl fg, ?_⟩
        exact wp_val (.pointer (some ⟨w.heap.size + 1, 9, none⟩)) (by simp [go_sem, f0]) ⟨_, rfl, Gr.refl _, rfl⟩
      · obtain rfl := Option.some.inj ho
        have lg := on_of hd 4 (by kernel_rfl)
        have fg := hF.at (s := 14) (i := 4) (by kernel_rfl) (by simp) lg
        rw [show vals 4 = .bool true from hR 4 lg] at fg
        have l0 := on_of hd 6 (by kernel_rfl)
        have f0 := hF.at (s := 16) (i := 6) (by kernel_rfl) (by simp) l0
        have e0 : vals 6 = .pointer (some ⟨w.heap.size + 1, 9, none⟩) := hR 6 l0
        rw [e0] at f0
        refine Or.inl ⟨wanted_at (j := 4) (s := 14) rfl rfl rfl fg, ?_⟩
        exact wp_val (.agg (nw 9 y)) (by simp [go_sem, f0, H3]) ⟨_, rfl, Gr.refl _, rfl⟩
      · obtain rfl := Option.some.inj ho
        have lg := on_of hd 4 (by kernel_rfl)
        have fg := hF.at (s := 14) (i := 4) (by kernel_rfl) (by simp) lg
        rw [show vals 4 = .bool true from hR 4 lg] at fg
        have l0 := on_of hd 5 (by kernel_rfl)
        have f0 := hF.at (s := 15) (i := 5) (by kernel_rfl) (by simp) l0
        have e0 : vals 5 = .agg (cu id P A B N X Y s z l) := hR 5 l0
        rw [e0] at f0
        have l1 := on_of hd 7 (by kernel_rfl)
        have f1 := hF.at (s := 17) (i := 7) (by kernel_rfl) (by simp) l1
        have e1 : vals 7 = .agg (nw 9 y) := hR 7 l1
        rw [e1] at f1
        refine Or.inl ⟨wanted_at (j := 4) (s := 14) rfl rfl rfl fg, ?_⟩
        exact wp_retz (k := .c (.bool false)) (by simp [go_sem, f0, f1]) (Rt.c (HBy.out v)) (fun u w2 hu hg2 => ⟨_, rfl, hg2, hu⟩)
      · obtain rfl := Option.some.inj ho
        have l0 := on_of hd 4 (by kernel_rfl)
        have f0 := hF.at (s := 14) (i := 4) (by kernel_rfl) (by simp) l0
        have e0 : vals 4 = .bool true := hR 4 l0
        rw [e0] at f0
        have l1 := on_of hd 8 (by kernel_rfl)
        have f1 := hF.at (s := 18) (i := 8) (by kernel_rfl) (by simp) l1
        have e1 : vals 8 = .bool false := hR 8 l1
        rw [e1] at f1
        refine Or.inl ⟨wanted_no rfl, ?_⟩
        exact wp_val (.bool false) (by simp [go_sem, f0, f1]) ⟨_, rfl, Gr.refl _, rfl⟩
      · obtain rfl := Option.some.inj ho
        have l0 := on_of hd 9 (by kernel_rfl)
        have f0 := hF.at (s := 19) (i := 9) (by kernel_rfl) (by simp) l0
        have e0 : vals 9 = .bool false := hR 9 l0
        rw [e0] at f0
        refine Or.inl ⟨wanted_no rfl, ?_⟩
        exact wp_val (.bool false) (by simp [go_sem, f0]) ⟨_, rfl, Gr.refl _, rfl⟩
      · obtain rfl := Option.some.inj ho
        have lg := on_of hd 10 (by kernel_rfl)
        have fg := hF.at (s := 20) (i := 10) (by kernel_rfl) (by simp) lg
        rw [show vals 10 = .bool false from hR 10 lg] at fg
        exact Or.inr ⟨unwanted_at (j := 10) (s := 20) rfl rfl rfl fg (by decide), trivial⟩
      · obtain rfl := Option.some.inj ho
        have lg := on_of hd 10 (by kernel_rfl)
        have fg := hF.at (s := 20) (i := 10) (by kernel_rfl) (by simp) lg
        rw [show vals 10 = .bool false from hR 10 lg] at fg
        exact Or.inr ⟨unwanted_at (j := 10) (s := 20) rfl rfl rfl fg (by decide), trivial⟩
      · obtain rfl := Option.some.inj ho
        have lg := on_of hd 10 (by kernel_rfl)
        have fg := hF.at (s := 20) (i := 10) (by kernel_rfl) (by simp) lg
        rw [show vals 10 = .bool false from hR 10 lg] at fg
        exact Or.inr ⟨unwanted_at (j := 10) (s := 20) rfl rfl rfl fg (by decide), trivial⟩
      · obtain rfl := Option.some.inj ho
        have lg := on_of hd 10 (by kernel_rfl)
        have fg := hF.at (s := 20) (i := 10) (by kernel_rfl) (by simp) lg
        rw [show vals 10 = .bool false from hR 10 lg] at fg
        exact Or.inr ⟨unwanted_at (j := 10) (s := 20) rfl rfl rfl fg (by decide), trivial⟩
      · obtain rfl := Option.some.inj ho
        have lg := on_of hd 10 (by kernel_rfl)
        have fg := hF.at (s := 20) (i := 10) (by kernel_rfl) (by simp) lg
        rw [show vals 10 = .bool false from hR 10 lg] at fg
        exact Or.inr ⟨unwanted_at (j := 10) (s := 20) rfl rfl rfl fg (by decide), trivial⟩
      · obtain rfl := Option.some.inj ho
        have lg := on_of hd 10 (by kernel_rfl)
        have fg := hF.at (s := 20) (i := 10) (by kernel_rfl) (by simp) lg
        rw [show vals 10 = .bool false from hR 10 lg] at fg
        exact Or.inr ⟨unwanted_at (j := 10) (s := 20) rfl rfl rfl fg (by decide), trivial⟩
      · obtain rfl := Option.some.inj ho
        have lg := on_of hd 10 (by kernel_rfl)
        have fg := hF.at (s := 20) (i := 10) (by kernel_rfl) (by simp) lg
        rw [show vals 10 = .bool false from hR 10 lg] at fg
        exact Or.inr ⟨unwanted_at (j := 10) (s := 20) rfl rfl rfl fg (by decide), trivial⟩
      · obtain rfl := Option.some.inj ho
        have lg := on_of hd 10 (by kernel_rfl)
        have fg := hF.at (s := 20) (i := 10) (by kernel_rfl) (by simp) lg
        rw [show vals 10 = .bool false from hR 10 lg] at fg
        exact Or.inr ⟨unwanted_at (j := 10) (s := 20) rfl rfl rfl fg (by decide), trivial⟩
      · obtain rfl := Option.some.inj ho
        have lg := on_of hd 10 (by kernel_rfl)
        have fg := hF.at (s := 20) (i := 10) (by kernel_rfl) (by simp) lg
        rw [show vals 10 = .bool false from hR 10 lg] at fg
        exact Or.inr ⟨unwanted_at (j := 10) (s := 20) rfl rfl rfl fg (by decide), trivial⟩
      · obtain rfl := Option.some.inj ho
        have l0 := on_of hd 10 (by kernel_rfl)
        have f0 := hF.at (s := 20) (i := 10) (by kernel_rfl) (by simp) l0
        have e0 : vals 10 = .bool false := hR 10 l0
        rw [e0] at f0
        have l1 := on_of hd 19 (by kernel_rfl)
        have f1 := hF.at (s := 29) (i := 19) (by kernel_rfl) (by simp) l1
        refine Or.inl ⟨wanted_no rfl, ?_⟩
        exact wp_val (.bool false) (by simp [go_sem, f0, f1]) ⟨_, rfl, Gr.refl _, rfl⟩
      · obtain rfl := Option.some.inj ho
        have l0 := on_of hd 20 (by kernel_rfl)
        have f0 := hF.at (s := 30) (i := 20) (by kernel_rfl) (by simp) l0
        have e0 : vals 20 = .bool false := hR 20 l0
        rw [e0] at f0
        refine Or.inl ⟨wanted_no rfl, ?_⟩
        exact wp_val (.bool false) (by simp [go_sem, f0]) ⟨_, rfl, Gr.refl _, rfl⟩
    case hf =>
      intro vals v hg hR
      have H2 : blk v (w.heap.size) = cu id P A B N X Y s z l := (hg.blk _ c2.p).trans c2.h
      have H3 : blk v (w.heap.size + 1) = pnt x y false := (hg.blk _ c3.p).trans c3.h
      have e100 : vals 0 = .agg (cu id P A B N X Y s z l) := hR 0 (by simp)
      have e101 : vals 1 = .pointer (some ⟨w.heap.size + 1, 0, none⟩) := hR 1 (by simp)
      have e102 : vals 2 = .agg (nw 9 x) := hR 2 (by simp)
      have e103 : vals 3 = .bool true := hR 3 (by simp)
      have e104 : vals 4 = .bool true := hR 4 (by simp)
      have e105 : vals 5 = .agg (cu id P A B N X Y s z l) := hR 5 (by simp)
      have e106 : vals 6 = .pointer (some ⟨w.heap.size + 1, 9, none⟩) := hR 6 (by simp)
      have e107 : vals 7 = .agg (nw 9 y) := hR 7 (by simp)
      have e108 : vals 8 = .bool false := hR 8 (by simp)
      have e109 : vals 9 = .bool false := hR 9 (by simp)
      have e110 : vals 10 = .bool false := hR 10 (by simp)
      have e120 : vals 20 = .bool false := hR 20 (by simp)
      have e121 : vals 21 = .bool false := hR 21 (by simp)
      simp only [putFrom, Act.put, List.setIfInBounds_toArray, List.set_cons_zero, List.set_cons_succ, e100, e101, e102, e103, e104, e105, e106, e107, e108, e109, e110, e120, e121]
      clear hR e100 e101 e102 e103 e104 e105 e106 e107 e108 e109 e110 e120 e121
      have HG : Gr w v := G.trans hg
      clear hg
      go_wp2_with fail
      go_ret
      exact ⟨rfl, HG⟩
  · replace HL : Hid (∀ w, Calls Try.prog 67 #[.agg (cu id P A B N X Y s z l), .agg (nw 9 y)] w fun e w' => e = .returned (.agg (nw 9 L)) ∧ Gr w w') := HL rfl rfl
    replace HR : Hid (∀ w, Calls Try.prog 68 #[.agg (cu id P A B N X Y s z l), .agg (nw 9 x)] w fun e w' => e = .returned (.agg (nw 9 R)) ∧ Gr w w') := HR rfl rfl
    go_enter Try.func41, Try.ntmps41
    go_upto_region 3 with fail
    refine gen_w (fun v => Hid (Gr w v ∧ Vr v w.heap.size (cu id P A B N X Y s z l) ∧ Vr v (w.heap.size + 1) (pnt x y false))) ⟨(by repeat (first | exact Gr.refl _ | apply Gr.drewN | apply Gr.drew | apply Gr.alloc | apply Gr.gro)), ⟨by simp [go_sem], by simp [go_sem], by simp [go_sem]⟩, ⟨by simp [go_sem], by simp [go_sem], by simp [go_sem]⟩⟩ ?_
    intro v0 HV
    obtain ⟨G, c2, c3⟩ := HV.out
    refine wp_region_q (by kernel_rfl) (by kernel_rfl) [.c (.agg (cu id P A B N X Y s z l)), .c (.pointer (some ⟨w.heap.size + 1, 0, none⟩)), .c (.agg (nw 9 x)), .c (.bool true), .c (.bool true), .c (.agg (cu id P A B N X Y s z l)), .c (.pointer (some ⟨w.heap.size + 1, 9, none⟩)), .c (.agg (nw 9 y)), .c (.bool true), .c (.bool true), .c (.bool true), .c (.agg (cu id P A B N X Y s z l)), .c (.pointer (some ⟨w.heap.size + 1, 9, none⟩)), .c (.agg (nw 9 y)), .c (.agg (nw 9 L)), .c (.agg (cu id P A B N X Y s z l)), .c (.pointer (some ⟨w.heap.size + 1, 0, none⟩)), .c (.agg (nw 9 x)), .c (.agg (nw 9 R)), .c (.bool (eqN 9 L R)), .c (.bool (eqN 9 L R)), .c (.bool (eqN 9 L R))] ?hs ?hf
    case hs =>
      intro listed vals a1 v io oo hg hR hF ho hd
      have H2 : blk v (w.heap.size) = cu id P A B N X Y s z l := (hg.blk _ c2.p).trans c2.h
      have H3 : blk v (w.heap.size + 1) = pnt x y false := (hg.blk _ c3.p).trans c3.h
      have hi : io < 22 := by simpa using (Array.getElem?_eq_some_iff.1 ho).1
      obtain rfl | rfl | rfl | rfl | rfl | rfl | rfl | rfl | rfl | rfl | rfl | rfl | rfl | rfl | rfl | rfl | rfl | rfl | rfl | rfl | rfl | rfl : io = 0 ∨ io = 1 ∨ io = 2 ∨ io = 3 ∨ io = 4 ∨ io = 5 ∨ io = 6 ∨ io = 7 ∨ io = 8 ∨ io = 9 ∨ io = 10 ∨ io = 11 ∨ io = 12 ∨ io = 13 ∨ io = 14 ∨ io = 15 ∨ io = 16 ∨ io = 17 ∨ io = 18 ∨ io = 19 ∨ io = 20 ∨ io = 21 := by omega
      · obtain rfl := Option.some.inj ho
        have f0 := hF.old (s := 2) (v := .pointer (some ⟨w.heap.size, 0, none⟩)) (by kernel_rfl) rfl
        refine Or.inl ⟨wanted_no rfl, ?_⟩
        exact wp_val (.agg (cu id P A B N X Y s z l)) (by simp [go_sem, f0, H2]) ⟨_, rfl, Gr.refl _, rfl⟩
      · obtain rfl := Option.some.inj ho
        have f0 := hF.old (s := 3) (v := .pointer (some ⟨w.heap.size + 1, 0, none⟩)) (by kernel_rfl) rfl
        refine Or.inl ⟨wanted_no rfl, ?_⟩
        exact wp_val (.pointer (some ⟨w.heap.size + 1, 0, none⟩)) (by simp [go_sem, f0]) ⟨_, rfl, Gr.refl _, rfl⟩
      · obtain rfl := Option.some.inj ho
        have l0 := on_of hd 1 (by kernel_rfl)
        have f0 := hF.at (s := 11) (i := 1) (by kernel_rfl) (by simp) l0
        have e0 : vals 1 = .pointer (some ⟨w.heap.size + 1, 0, none⟩) := hR 1 l0
        rw [e0] at f0
        refine Or.inl ⟨wanted_no rfl, ?_⟩
        exact wp_val (.agg (nw 9 x)) (by simp [go_sem, f0, H3]) ⟨_, rfl, Gr.refl _, rfl⟩
      · obtain rfl := Option.some.inj ho
        have l0 := on_of hd 0 (by kernel_rfl)
        have f0 := hF.at (s := 10) (i := 0) (by kernel_rfl) (by simp) l0
        have e0 : vals 0 = .agg (cu id P A B N X Y s z l) := hR 0 l0
        rw [e0] at f0
        have l1 := on_of hd 2 (by kernel_rfl)
        have f1 := hF.at (s := 12) (i := 2) (by kernel_rfl) (by simp) l1
        have e1 : vals 2 = .agg (nw 9 x) := hR 2 l1
        rw [e1] at f1
        refine Or.inl ⟨wanted_no rfl, ?_⟩
        exact wp_retz (k := .c (.bool true)) (by simp [go_sem, f0, f1]) (Rt.c (HBx.out v)) (fun u w2 hu hg2 => ⟨_, rfl, hg2, hu⟩)
      · obtain rfl := Option.some.inj ho
        have l0 := on_of hd 3 (by kernel_rfl)
        have f0 := hF.at (s := 13) (i := 3) (by kernel_rfl) (by simp) l0
        have e0 : vals 3 = .bool true := hR 3 l0
        rw [e0] at f0
        refine Or.inl ⟨wanted_no rfl, ?_⟩
        exact wp_val (.bool true) (by simp [go_sem, f0]) ⟨_, rfl, Gr.refl _, rfl⟩
      · obtain rfl := Option.some.inj ho
        have lg := on_of hd 4 (by kernel_rfl)
        have fg := hF.at (s := 14) (i := 4) (by kernel_rfl) (by simp) lg
        rw [show vals 4 = .bool true from hR 4 lg] at fg
        have f0 := hF.old (s := 2) (v := .pointer (some ⟨w.heap.size, 0, none⟩)) (by kernel_rfl) rfl
        refine Or.inl ⟨wanted_at (j := 4) (s := 14) rfl rfl rfl fg, ?_⟩
        exact wp_val (.agg (cu id P A B N X Y s z l)) (by simp [go_sem, f0, H2]) ⟨_, rfl, Gr.refl _, rfl⟩
      · obtain rfl := Option.some.inj ho
        have lg := on_of hd 4 (by kernel_rfl)
        have fg := hF.at (s := 14) (i := 4) (by kernel_rfl) (by simp) lg
        rw [show vals 4 = .bool true from hR 4 lg] at fg
        have f0 := hF.old (s := 3) (v := .pointer (some ⟨w.heap.size + 1, 0, none⟩)) (by kernel_rfl) rfl
        refine Or.inl ⟨wanted_at (j := 4) (s := 14) rfl rfl rfl fg, ?_⟩
        exact wp_val (.pointer (some ⟨w.heap.size + 1, 9, none⟩)) (by simp [go_sem, f0]) ⟨_, rfl, Gr.refl _, rfl⟩
      · obtain rfl := Option.some.inj ho
        have lg := on_of hd 4 (by kernel_rfl)
        have fg := hF.at (s := 14) (i := 4) (by kernel_rfl) (by simp) lg
        rw [show vals 4 = .bool true from hR 4 lg] at fg
        have l0 := on_of hd 6 (by kernel_rfl)
        have f0 := hF.at (s := 16) (i := 6) (by kernel_rfl) (by simp) l0
        have e0 : vals 6 = .pointer (some ⟨w.heap.size + 1, 9, none⟩) := hR 6 l0
        rw [e0] at f0
        refine Or.inl ⟨wanted_at (j := 4) (s := 14) rfl rfl rfl fg, ?_⟩
        exact wp_val (.agg (nw 9 y)) (by simp [go_sem, f0, H3]) ⟨_, rfl, Gr.refl _, rfl⟩
      · obtain rfl := Option.some.inj ho
        have lg := on_of hd 4 (by kernel_rfl)
        have fg := hF.at (s := 14) (i := 4) (by kernel_rfl) (by simp) lg
        rw [show vals 4 = .bool true from hR 4 lg] at fg
        have l0 := on_of hd 5 (by kernel_rfl)
        have f0 := hF.at (s := 15) (i := 5) (by kernel_rfl) (by simp) l0
        have e0 : vals 5 = .agg (cu id P A B N X Y s z l) := hR 5 l0
        rw [e0] at f0
        have l1 := on_of hd 7 (by kernel_rfl)
        have f1 := hF.at (s := 17) (i := 7) (by kernel_rfl) (by simp) l1
        have e1 : vals 7 = .agg (nw 9 y) := hR 7 l1
        rw [e1] at f1
        refine Or.inl ⟨wanted_at (j := 4) (s := 14) rfl rfl rfl fg, ?_⟩
        exact wp_retz (k := .c (.bool true)) (by simp [go_sem, f0, f1]) (Rt.c (HBy.out v)) (fun u w2 hu hg2 => ⟨_, rfl, hg2, hu⟩)
      · obtain rfl := Option.some.inj ho
        have l0 := on_of hd 4 (by kernel_rfl)
        have f0 := hF.at (s := 14) (i := 4) (by kernel_rfl) (by simp) l0
        have e0 : vals 4 = .bool true := hR 4 l0
        rw [e0] at f0
        have l1 := on_of hd 8 (by kernel_rfl)
        have f1 := hF.at (s := 18) (i := 8) (by kernel_rfl) (by simp) l1
        have e1 : vals 8 = .bool true := hR 8 l1
        rw [e1] at f1
        refine Or.inl ⟨wanted_no rfl, ?_⟩
        exact wp_val (.bool true) (by simp [go_sem, f0, f1]) ⟨_, rfl, Gr.refl _, rfl⟩
      · obtain rfl := Option.some.inj ho
        have l0 := on_of hd 9 (by kernel_rfl)
        have f0 := hF.at (s := 19) (i := 9) (by kernel_rfl) (by simp) l0
        have e0 : vals 9 = .bool true := hR 9 l0
        rw [e0] at f0
        refine Or.inl ⟨wanted_no rfl, ?_⟩
        exact wp_val (.bool true) (by simp [go_sem, f0]) ⟨_, rfl, Gr.refl _, rfl⟩
      · obtain rfl := Option.some.inj ho
        have lg := on_of hd 10 (by kernel_rfl)
        have fg := hF.at (s := 20) (i := 10) (by kernel_rfl) (by simp) lg
        rw [show vals 10 = .bool true from hR 10 lg] at fg
        have f0 := hF.old (s := 2) (v := .pointer (some ⟨w.heap.size, 0, none⟩)) (by kernel_rfl) rfl
        refine Or.inl ⟨wanted_at (j := 10) (s := 20) rfl rfl rfl fg, ?_⟩
        exact wp_val (.agg (cu id P A B N X Y s z l)) (by simp [go_sem, f0, H2]) ⟨_, rfl, Gr.refl _, rfl⟩
      · obtain rfl := Option.some.inj ho
        have lg := on_of hd 10 (by kernel_rfl)
        have fg := hF.at (s := 20) (i := 10) (by kernel_rfl) (by simp) lg
        rw [show vals 10 = .bool true from hR 10 lg] at fg
        have f0 := hF.old (s := 3) (v := .pointer (some ⟨w.heap.size + 1, 0, none⟩)) (by kernel_rfl) rfl
        refine Or.inl ⟨wanted_at (j := 10) (s := 20) rfl rfl rfl fg, ?_⟩
        exact wp_val (.pointer (some ⟨w.heap.size + 1, 9, none⟩)) (by simp [go_sem, f0]) ⟨_, rfl, Gr.refl _, rfl⟩
      · obtain rfl := Option.some.inj ho
        have lg := on_of hd 10 (by kernel_rfl)
        have fg := hF.at (s := 20) (i := 10) (by kernel_rfl) (by simp) lg
        rw [show vals 10 = .bool true from hR 10 lg] at fg
        have l0 := on_of hd 12 (by kernel_rfl)
        have f0 := hF.at (s := 22) (i := 12) (by kernel_rfl) (by simp) l0
        have e0 : vals 12 = .pointer (some ⟨w.heap.size + 1, 9, none⟩) := hR 12 l0
        rw [e0] at f0
        refine Or.inl ⟨wanted_at (j := 10) (s := 20) rfl rfl rfl fg, ?_⟩
        exact wp_val (.agg (nw 9 y)) (by simp [go_sem, f0, H3]) ⟨_, rfl, Gr.refl _, rfl⟩
      · obtain rfl := Option.some.inj ho
        have lg := on_of hd 10 (by kernel_rfl)
        have fg := hF.at (s := 20) (i := 10) (by kernel_rfl) (by simp) lg
        rw [show vals 10 = .bool true from hR 10 lg] at fg
        have l0 := on_of hd 11 (by kernel_rfl)
        have f0 := hF.at (s := 21) (i := 11) (by kernel_rfl) (by simp) l0
        have e0 : vals 11 = .agg (cu id P A B N X Y s z l) := hR 11 l0
        rw [e0] at f0
        have l1 := on_of hd 13 (by kernel_rfl)
        have f1 := hF.at (s := 23) (i := 13) (by kernel_rfl) (by simp) l1
        have e1 : vals 13 = .agg (nw 9 y) := hR 13 l1
        rw [e1] at f1
        refine Or.inl ⟨wanted_at (j := 10) (s := 20) rfl rfl rfl fg, ?_⟩
        exact wp_retz (k := .c (.agg (nw 9 L))) (by simp [go_sem, f0, f1]) (Rt.c (HL.out v)) (fun u w2 hu hg2 => ⟨_, rfl, hg2, hu⟩)
      · obtain rfl := Option.some.inj ho
        have lg := on_of hd 10 (by kernel_rfl)
        have fg := hF.at (s := 20) (i := 10) (by kernel_rfl) (by simp) lg
        rw [show vals 10 = .bool true from hR 10 lg] at fg
        have f0 := hF.old (s := 2) (v := .pointer (some ⟨w.heap.size, 0, none⟩)) (by kernel_rfl) rfl
        refine Or.inl ⟨wanted_at (j := 10) (s := 20) rfl rfl rfl fg, ?_⟩
        exact wp_val (.agg (cu id P A B N X Y s z l)) (by simp [go_sem, f0, H2]) ⟨_, rfl, Gr.refl _, rfl⟩
      · obtain rfl := Option.some.inj ho
        have lg := on_of hd 10 (by kernel_rfl)
        have fg := hF.at (s := 20) (i := 10) (by kernel_rfl) (by simp) lg
        rw [show vals 10 = .bool true from hR 10 lg] at fg
        have f0 := hF.old (s := 3) (v := .pointer (some ⟨w.heap.size + 1, 0, none⟩)) (by kernel_rfl) rfl
        refine Or.inl ⟨wanted_at (j := 10) (s := 20) rfl rfl rfl fg, ?_⟩
        exact wp_val (.pointer (some ⟨w.heap.size + 1, 0, none⟩)) (by simp [go_sem, f0]) ⟨_, rfl, Gr.refl _, rfl⟩
      · obtain rfl := Option.some.inj ho
        have lg := on_of hd 10 (by kernel_rfl)
        have fg := hF.at (s := 20) (i := 10) (by kernel_rfl) (by simp) lg
        rw [show vals 10 = .bool true from hR 10 lg] at fg
        have l0 := on_of hd 16 (by kernel_rfl)
        have f0 := hF.at (s := 26) (i := 16) (by kernel_rfl) (by simp) l0
        have e0 : vals 16 = .pointer (some ⟨w.heap.size + 1, 0, none⟩) := hR 16 l0
        rw [e0] at f0
        refine Or.inl ⟨wanted_at (j := 10) (s := 20) rfl rfl rfl fg, ?_⟩
        exact wp_val (.agg (nw 9 x)) (by simp [go_sem, f0, H3]) ⟨_, rfl, Gr.refl _, rfl⟩
      · obtain rfl := Option.some.inj ho
        have lg := on_of hd 10 (by kernel_rfl)
        have fg := hF.at (s := 20) (i := 10) (by kernel_rfl) (by simp) lg
        rw [show vals 10 = .bool true from hR 10 lg] at fg
        have l0 := on_of hd 15 (by kernel_rfl)
        have f0 := hF.at (s := 25) (i := 15) (by kernel_rfl) (by simp) l0
        have e0 : vals 15 = .agg (cu id P A B N X Y s z l) := hR 15 l0
        rw [e0] at f0
        have l1 := on_of hd 17 (by kernel_rfl)
        have f1 := hF.at (s := 27) (i := 17) (by kernel_rfl) (by simp) l1
        have e1 : vals 17 = .agg (nw 9 x) := hR 17 l1
        rw [e1] at f1
        refine Or.inl ⟨wanted_at (j := 10) (s := 20) rfl rfl rfl fg, ?_⟩
        exact wp_retz (k := .c (.agg (nw 9 R))) (by simp [go_sem, f0, f1]) (Rt.c (HR.out v)) (fun u w2 hu hg2 => ⟨_, rfl, hg2, hu⟩)
      · obtain rfl := Option.some.inj ho
        have lg := on_of hd 10 (by kernel_rfl)
        have fg := hF.at (s := 20) (i := 10) (by kernel_rfl) (by simp) lg
        rw [show vals 10 = .bool true from hR 10 lg] at fg
        have l0 := on_of hd 14 (by kernel_rfl)
        have f0 := hF.at (s := 24) (i := 14) (by kernel_rfl) (by simp) l0
        have e0 : vals 14 = .agg (nw 9 L) := hR 14 l0
        rw [e0] at f0
        have l1 := on_of hd 18 (by kernel_rfl)
        have f1 := hF.at (s := 28) (i := 18) (by kernel_rfl) (by simp) l1
        have e1 : vals 18 = .agg (nw 9 R) := hR 18 l1
        rw [e1] at f1
        refine Or.inl ⟨wanted_at (j := 10) (s := 20) rfl rfl rfl fg, ?_⟩
        exact wp_val (.bool (eqN 9 L R)) (by simp [go_sem, f0, f1, eqNat]) ⟨_, rfl, Gr.refl _, rfl⟩
      · obtain rfl := Option.some.inj ho
        have l0 := on_of hd 10 (by kernel_rfl)
        have f0 := hF.at (s := 20) (i := 10) (by kernel_rfl) (by simp) l0
        have e0 : vals 10 = .bool true := hR 10 l0
        rw [e0] at f0
        have l1 := on_of hd 19 (by kernel_rfl)
        have f1 := hF.at (s := 29) (i := 19) (by kernel_rfl) (by simp) l1
        have e1 : vals 19 = .bool (eqN 9 L R) := hR 19 l1
        rw [e1] at f1
        refine Or.inl ⟨wanted_no rfl, ?_⟩
        exact wp_val (.bool (eqN 9 L R)) (by simp [go_sem, f0, f1]) ⟨_, rfl, Gr.refl _, rfl⟩
      · obtain rfl := Option.some.inj ho
        have l0 := on_of hd 20 (by kernel_rfl)
        have f0 := hF.at (s := 30) (i := 20) (by kernel_rfl) (by simp) l0
        have e0 : vals 20 = .bool (eqN 9 L R) := hR 20 l0
        rw [e0] at f0
        refine Or.inl ⟨wanted_no rfl, ?_⟩
        exact wp_val (.bool (eqN 9 L R)) (by simp [go_sem, f0]) ⟨_, rfl, Gr.refl _, rfl⟩
    case hf =>
      intro vals v hg hR
      have H2 : blk v (w.heap.size) = cu id P A B N X Y s z l := (hg.blk _ c2.p).trans c2.h
      have H3 : blk v (w.heap.size + 1) = pnt x y false := (hg.blk _ c3.p).trans c3.h
      have e100 : vals 0 = .agg (cu id P A B N X Y s z l) := hR 0 (by simp)
      have e101 : vals 1 = .pointer (some ⟨w.heap.size + 1, 0, none⟩) := hR 1 (by simp)
      have e102 : vals 2 = .agg (nw 9 x) := hR 2 (by simp)
      have e103 : vals 3 = .bool true := hR 3 (by simp)
      have e104 : vals 4 = .bool true := hR 4 (by simp)
      have e105 : vals 5 = .agg (cu id P A B N X Y s z l) := hR 5 (by simp)
      have e106 : vals 6 = .pointer (some ⟨w.heap.size + 1, 9, none⟩) := hR 6 (by simp)
      have e107 : vals 7 = .agg (nw 9 y) := hR 7 (by simp)
      have e108 : vals 8 = .bool true := hR 8 (by simp)
      have e109 : vals 9 = .bool true := hR 9 (by simp)
      have e110 : vals 10 = .bool true := hR 10 (by simp)
      have e111 : vals 11 = .agg (cu id P A B N X Y s z l) := hR 11 (by simp)
      have e112 : vals 12 = .pointer (some ⟨w.heap.size + 1, 9, none⟩) := hR 12 (by simp)
      have e113 : vals 13 = .agg (nw 9 y) := hR 13 (by simp)
      have e114 : vals 14 = .agg (nw 9 L) := hR 14 (by simp)
      have e115 : vals 15 = .agg (cu id P A B N X Y s z l) := hR 15 (by simp)
      have e116 : vals 16 = .pointer (some ⟨w.heap.size + 1, 0, none⟩) := hR 16 (by simp)
      have e117 : vals 17 = .agg (nw 9 x) := hR 17 (by simp)
      have e118 : vals 18 = .agg (nw 9 R) := hR 18 (by simp)
      have e119 : vals 19 = .bool (eqN 9 L R) := hR 19 (by simp)
      have e120 : vals 20 = .bool (eqN 9 L R) := hR 20 (by simp)
      have e121 : vals 21 = .bool (eqN 9 L R) := hR 21 (by simp)
      simp only [putFrom, Act.put, List.setIfInBounds_toArray, List.set_cons_zero, List.set_cons_succ, e100, e101, e102, e103, e104, e105, e106, e107, e108, e109, e110, e111, e112, e113, e114, e115, e116, e117, e118, e119, e120, e121]
      clear hR e100 e101 e102 e103 e104 e105 e106 e107 e108 e109 e110 e111 e112 e113 e114 e115 e116 e117 e118 e119 e120 e121
      have HG : Gr w v := G.trans hg
      clear hg
      go_wp2_with fail
      go_ret
      exact ⟨rfl, HG⟩

end Go.Proofs.Ytgmaalokfgdpaaa
namespace Go.Proofs.Ytgmaalokfgdpaaa
open Go.RowKit
attribute [local go_sem ↓] loadNat_is loadArr_is loadWide_is loadArrW_is storeNat_is storeWide_is
attribute [local go_sem] loadNat loadArr loadWide loadArrW storeNat storeWide idxArr fold9 fold18 nw_size nw_elem pre_self pre_1 pre_2 pre_3 pre_4 pre_5 pre_6 pre_7 pre_8 pre_9 pre_10 pre_11 pre_12 pre_13 pre_14 pre_15 pre_16 pre_17 pre_18 pre_19 pre_20 pre_21 pre_22 pre_23 pre_24 pre_25 pre_26 pre_27 pre_28 pre_29 pre_30 pre_31 pre_32 pre_33 pre_34 pre_35 pre_36 pre_37 pre_38 pre_39 pre_40 gro_size gro_drew gro_drewN drew_gro drewN_gro gro_gro blk_gro frz_gro blk_drew frz_drew blk_drewN frz_drewN blk_alloc_at frz_alloc_at blk_alloc frz_alloc cell_gro frozen_gro cell_alloc_pre frozen_alloc_pre setCell_drewN alloc_drewN setBlk_drew setBlk_drewN setBlk_alloc_at setBlk_alloc setBlk_gro setCell_gro setCell_alloc_pre size_setBlk size_setCell
attribute [local go_sem] ppre_1 ppre_2 ppre_3 ppre_4 ppre_5 ppre_6
attribute [local go_sem ↓] zvCu_is zvEq_is storeCu_is storeEq_is loadCu_is loadEq_is loadPn_is buildCu_is buildEq_is buildPn_is Go.wp_at_zero Go.wp_at_succ
attribute [local go_sem] zvCu zvEq storeCu storeEq loadCu loadEq loadPn cu_size pnt_size frz_setBlk blk_setBlk setBlk_setBlk blk_other
set_option maxRecDepth 100000 in
set_option maxHeartbeats 400000 in
theorem on13_of (k id : Int) (P A B N X Y : Nat) (s z : Int) (l : Bool) (x y : Nat) (f r : Bool)
    (HF' : ∀ w, Calls Try.prog 35 #[.int .i64 k] w fun e w' => e = .returned (.tuple #[.agg (cu id P A B N X Y s z l), .bool true]) ∧ Gr w w')
    (HH' : ∀ w, Calls Try.prog 41 #[.agg (cu id P A B N X Y s z l), .agg (pnt x y f)] w fun e w' => e = .returned (.bool r) ∧ Gr w w') (w : World) :
    Calls Try.prog 16 #[.int .i64 k, .agg (pnt x y f)] w fun e w' => e = .returned (.bool r) ∧ Gr w w' := by
  have HF : Hid (∀ w, Calls Try.prog 35 #[.int .i64 k] w fun e w' => e = .returned (.tuple #[.agg (cu id P A B N X Y s z l), .bool true]) ∧ Gr w w') := HF'
  have HH : Hid (∀ w, Calls Try.prog 41 #[.agg (cu id P A B N X Y s z l), .agg (pnt x y f)] w fun e w' => e = .returned (.bool r) ∧ Gr w w') := HH'
  clear HF' HH'
  go_enter Try.func16, Try.ntmps16
  go_wp2_with (first
    | (go_at_call 35; refine (HF.out _).mono ?_; rintro e w' ⟨rfl, g, rfl⟩)
    | (go_at_call 41; refine (HH.out _).mono ?_; rintro e w' ⟨rfl, g2, rfl⟩))
  go_ret
  exact ⟨rfl, (by repeat (first | exact Gr.refl _ | apply Gr.drewN | apply Gr.drew | apply Gr.alloc | apply Gr.gro))⟩
/-- X X X + A X + B modulo P. -/
def rhN (i x : Nat) : Nat := ((x * x % pN i + aN i) % pN i * x % pN i + bN i) % pN i
/-- Is the point on curve i? -/
def onB (i x y : Nat) (f : Bool) : Bool := if f then decide (x = 0) && decide (y = 0) else decide (x < pN i) && (decide (y < pN i) && decide (y * y % pN i = rhN i x))
theorem aN_lt (i : Nat) (h1 : 1 ≤ i) (h2 : i ≤ 15) : aN i < pN i := by
  obtain rfl | rfl | rfl | rfl | rfl | rfl | rfl | rfl | rfl | rfl | rfl | rfl | rfl | rfl | rfl : i = 1 ∨ i = 2 ∨ i = 3 ∨ i = 4 ∨ i = 5 ∨ i = 6 ∨ i = 7 ∨ i = 8 ∨ i = 9 ∨ i = 10 ∨ i = 11 ∨ i = 12 ∨ i = 13 ∨ i = 14 ∨ i = 15 := by omega
  all_goals decide +kernel
theorem bN_lt (i : Nat) (h1 : 1 ≤ i) (h2 : i ≤ 15) : bN i < pN i := by
  obtain rfl | rfl | rfl | rfl | rfl | rfl | rfl | rfl | rfl | rfl | rfl | rfl | rfl | rfl | rfl : i = 1 ∨ i = 2 ∨ i = 3 ∨ i = 4 ∨ i = 5 ∨ i = 6 ∨ i = 7 ∨ i = 8 ∨ i = 9 ∨ i = 10 ∨ i = 11 ∨ i = 12 ∨ i = 13 ∨ i = 14 ∨ i = 15 := by omega
  all_goals decide +kernel
/-- What On answers of a curve and any point. -/
theorem on13_yes (i : Nat) (h1 : 1 ≤ i) (h2 : i ≤ 15) (x y : Nat) (f : Bool) (hx : x < M) (hy : y < M) (w : World) :
    Calls Try.prog 16 #[.int .i64 (i : Int), .agg (pnt x y f)] w fun e w' => e = .returned (.bool (onB i x y f)) ∧ Gr w w' := by
  have hB := pN_bd i h1 h2
  refine on13_of i _ _ _ _ _ _ _ _ _ _ x y f _ (find_yes i h1 h2) (fun w => ?_) w
  cases f with
  | true =>
    have := holds_inf (i : Int) (pN i) (aN i) (bN i) (oN i) (xN i) (yN i) (bl (oN i)) (szN i) (lgN i) x y w
    rw [eqN9 x 0 hx (by omega), eqN9 y 0 hy (by omega), Bool.and_true] at this
    exact this
  | false =>
    have hr : ∀ z, rhN i z < M := fun z => by have : rhN i z < pN i := Nat.mod_lt _ (by omega); omega
    have hl : y * y % pN i < M := by have : y * y % pN i < pN i := Nat.mod_lt _ (by omega); omega
    have := holds_of (i : Int) (pN i) (aN i) (bN i) (oN i) (xN i) (yN i) (bl (oN i)) (szN i) (lgN i) x y (y * y % pN i) (rhN i x) (decide (x < pN i)) (decide (y < pN i))
      (fun w => below13_any _ _ _ _ _ _ _ _ _ _ x _ (by omega) hx rfl w) (fun w => below13_any _ _ _ _ _ _ _ _ _ _ y _ (by omega) hy rfl w)
      (fun _ h w => left13_of _ _ _ _ _ _ _ _ _ _ y _ (fun w => fMul_ok i y y h1 h2 (of_decide_eq_true h) (of_decide_eq_true h) w) w)
      (fun h _ w => right13_of _ _ _ _ _ _ _ _ _ _ x _ _ _ _ (fun w => fMul_ok i x x h1 h2 (of_decide_eq_true h) (of_decide_eq_true h) w)
        (fun w => fAdd_ok i _ _ h1 h2 (Nat.mod_lt _ (by omega)) (aN_lt i h1 h2) w) (fun w => fMul_ok i _ _ h1 h2 (Nat.mod_lt _ (by omega)) (of_decide_eq_true h) w)
        (fun w => fAdd_ok i _ _ h1 h2 (Nat.mod_lt _ (by omega)) (bN_lt i h1 h2) w) w) w
    rw [eqN9 _ _ hl (hr x)] at this
    exact this

end Go.Proofs.Ytgmaalokfgdpaaa
namespace Go.Proofs.Ytgmaalokfgdpaaa
open Go.RowKit
/-- A curve's seven cells. -/
theorem loadC_is (v : Value) : Instr.loadAt 36 v = loadS 36 v := rfl
theorem storeC_is (p v : Value) : Instr.storeAt 36 p v = storeS 36 p v := rfl
theorem loadC (w : World) (b : Nat) (hs : (blk w b).size = 7) : (loadS 36 (.pointer (some ⟨b, 0, none⟩))).run Try.prog w = .ok (.agg (blk w b)) w :=
  loadS_run 7 Try.underlying36 rfl (by kernel_rfl) w b hs
/-- A curve's cells: its id, its P, and five more numbers. -/
def cvA (id : Int) (p : Option Addr) (l n : Nat) (q : Nat → Option Addr × Nat × Nat) : Array Value := #[.int .i64 id, .slice p l n, .slice (q 0).1 (q 0).2.1 (q 0).2.2, .slice (q 1).1 (q 1).2.1 (q 1).2.2, .slice (q 2).1 (q 2).2.1 (q 2).2.2, .slice (q 3).1 (q 3).2.1 (q 3).2.2, .slice (q 4).1 (q 4).2.1 (q 4).2.2]
/-- A curve's cells, each number known. -/
def crA (id : Int) (x : Nat → Nat) (q : Nat → Option Addr × Nat) : Array Value := #[.int .i64 id, .slice (q 0).1 (dl (x 0)) (q 0).2, .slice (q 1).1 (dl (x 1)) (q 1).2, .slice (q 2).1 (dl (x 2)) (q 2).2, .slice (q 3).1 (dl (x 3)) (q 3).2, .slice (q 4).1 (dl (x 4)) (q 4).2, .slice (q 5).1 (dl (x 5)) (q 5).2]
theorem crA_cvA (id : Int) (x : Nat → Nat) (q : Nat → Option Addr × Nat) : crA id x q = cvA id (q 0).1 (dl (x 0)) (q 0).2 (fun k => ((q (k + 1)).1, dl (x (k + 1)), (q (k + 1)).2)) := rfl
def six {α : Type} (a b c d e f : α) : Nat → α
  | 0 => a
  | 1 => b
  | 2 => c
  | 3 => d
  | 4 => e
  | _ => f
theorem storeC0 (w : World) (b : Nat) (hs : (blk w b).size = 7) (hf : frz w b = (0, 0)) :
    (storeS 36 (.pointer (some ⟨b, 0, none⟩)) (.agg #[.int .i64 0, .slice none 0 0, .slice none 0 0, .slice none 0 0, .slice none 0 0, .slice none 0 0, .slice none 0 0])).run Try.prog w = .ok () (setBlk w b #[.int .i64 0, .slice none 0 0, .slice none 0 0, .slice none 0 0, .slice none 0 0, .slice none 0 0, .slice none 0 0]) :=
  storeS_run 7 (by decide) (by kernel_rfl) w b _ rfl (by simp [Value.oneCell']) hs hf
def buildG (t : TypeId) (p : Array (Nat × Value)) : Sem Value := Instr.build t p
theorem buildC_is (p : Array (Nat × Value)) : Instr.build 36 p = buildG 36 p := rfl
theorem buildC0 (w : World) : (buildG 36 #[]).run Try.prog w = .ok (.agg #[.int .i64 0, .slice none 0 0, .slice none 0 0, .slice none 0 0, .slice none 0 0, .slice none 0 0, .slice none 0 0]) w := by kernel_rfl
theorem buildC6 (w : World) (id : Int) (p0 p1 p2 p3 p4 : Option Addr) (l0 l1 l2 l3 l4 n0 n1 n2 n3 n4 : Nat) :
    (buildG 36 #[(0, .int .i64 id), (1, .slice p0 l0 n0), (3, .slice p1 l1 n1), (4, .slice p2 l2 n2), (5, .slice p3 l3 n3), (6, .slice p4 l4 n4)]).run Try.prog w = .ok (.agg #[.int .i64 id, .slice p0 l0 n0, .slice none 0 0, .slice p1 l1 n1, .slice p2 l2 n2, .slice p3 l3 n3, .slice p4 l4 n4]) w := by kernel_rfl
theorem eqSl (b : Nat) (w : World) : (binOp .eql 70 (.slice (some ⟨b, 0, none⟩) 6 6) (.slice none 0 0)).run Try.prog w = .ok (.bool false) w := by kernel_rfl
theorem eqSl0 (w : World) : (binOp .eql 70 (.slice none 0 0) (.slice none 0 0)).run Try.prog w = .ok (.bool true) w := by kernel_rfl
attribute [local go_sem ↓] loadNat_is loadArr_is loadWide_is loadArrW_is storeNat_is storeWide_is
attribute [local go_sem] loadNat loadArr loadWide loadArrW storeNat storeWide idxArr fold9 fold18 nw_size nw_elem pre_self pre_1 pre_2 pre_3 pre_4 pre_5 pre_6 pre_7 pre_8 pre_9 pre_10 pre_11 pre_12 pre_13 pre_14 pre_15 pre_16 pre_17 pre_18 pre_19 pre_20 pre_21 pre_22 pre_23 pre_24 pre_25 pre_26 pre_27 pre_28 pre_29 pre_30 pre_31 pre_32 pre_33 pre_34 pre_35 pre_36 pre_37 pre_38 pre_39 pre_40 gro_size gro_drew gro_drewN drew_gro drewN_gro gro_gro blk_gro frz_gro blk_drew frz_drew blk_drewN frz_drewN blk_alloc_at frz_alloc_at blk_alloc frz_alloc cell_gro frozen_gro cell_alloc_pre frozen_alloc_pre setCell_drewN alloc_drewN setBlk_drew setBlk_drewN setBlk_alloc_at setBlk_alloc setBlk_gro setCell_gro setCell_alloc_pre size_setBlk size_setCell
attribute [local go_sem ↓] loadC_is storeC_is buildC_is bsl_is
attribute [local go_sem] eqSl eqSl0 loadC storeC0 buildC0 buildC6 frz_setBlk blk_setBlk setBlk_setBlk
end Go.Proofs.Ytgmaalokfgdpaaa
namespace Go.Proofs.Ytgmaalokfgdpaaa
open Go.RowKit
/-- Number k of curve i: P, A, B, N, X, Y. -/
def nN (i : Nat) : Nat → Nat := six (pN i) (aN i) (bN i) (oN i) (xN i) (yN i)
/-- A curve's numbers, all known. -/
def GetQ (i : Nat) (w : World) (e : Ending) (w' : World) : Prop := ∃ q, e = .returned (.tuple #[.agg (crA (i : Int) (nN i) q), .bool true]) ∧ (∀ k, Sl w' (q k).1 (nN i k)) ∧ Gr w w'
/-- A curve's row: its id, its P, and five more slices. -/
def GetR (i : Nat) (w : World) (e : Ending) (w' : World) : Prop := ∃ p n q, e = .returned (.tuple #[.agg (cvA (i : Int) p (dl (pN i)) n q), .bool true]) ∧ Sl w' p (pN i) ∧ Gr w w'
theorem GetQ.R {i : Nat} {w w' : World} {e : Ending} (h : GetQ i w e w') : GetR i w e w' := by
  obtain ⟨q, he, hs, hg⟩ := h
  rw [crA_cvA] at he
  exact ⟨_, _, _, he, hs 0, hg⟩
attribute [local go_sem ↓] loadNat_is loadArr_is loadWide_is loadArrW_is storeNat_is storeWide_is
attribute [local go_sem] loadNat loadArr loadWide loadArrW storeNat storeWide idxArr fold9 fold18 nw_size nw_elem pre_self pre_1 pre_2 pre_3 pre_4 pre_5 pre_6 pre_7 pre_8 pre_9 pre_10 pre_11 pre_12 pre_13 pre_14 pre_15 pre_16 pre_17 pre_18 pre_19 pre_20 pre_21 pre_22 pre_23 pre_24 pre_25 pre_26 pre_27 pre_28 pre_29 pre_30 pre_31 pre_32 pre_33 pre_34 pre_35 pre_36 pre_37 pre_38 pre_39 pre_40 gro_size gro_drew gro_drewN drew_gro drewN_gro gro_gro blk_gro frz_gro blk_drew frz_drew blk_drewN frz_drewN blk_alloc_at frz_alloc_at blk_alloc frz_alloc cell_gro frozen_gro cell_alloc_pre frozen_alloc_pre setCell_drewN alloc_drewN setBlk_drew setBlk_drewN setBlk_alloc_at setBlk_alloc setBlk_gro setCell_gro setCell_alloc_pre size_setBlk size_setCell
attribute [local go_sem ↓] loadC_is storeC_is buildC_is
attribute [local go_sem] eqSl0 loadC storeC0 buildC0 frz_setBlk blk_setBlk setBlk_setBlk
end Go.Proofs.Ytgmaalokfgdpaaa
namespace Go.Proofs.Ytgmaalokfgdpaaa
theorem cu_1 (id : Int) (p a b n x y : Nat) (s z : Int) (l : Bool) : (cu id p a b n x y s z l)[1]? = some (.int .u64 ((wd p 0 : Nat) : Int)) := by kernel_rfl
theorem cu_28 (id : Int) (p a b n x y : Nat) (s z : Int) (l : Bool) : (cu id p a b n x y s z l)[28]? = some (.int .u64 ((wd n 0 : Nat) : Int)) := by kernel_rfl
/-- The tiny curve that a number is turned into. -/
def idxT (id : Int) : Nat := (IntKind.u64.wrap id).toNat % 3 + 13
theorem idxT_bd (id : Int) : 13 ≤ idxT id ∧ idxT id ≤ 15 := by unfold idxT; omega
theorem idxT_conv (id : Int) : ∃ u : Nat, IntKind.u64.wrap id = (u : Int) ∧ (u : Int) < 18446744073709551616 ∧ (13 : Int) + (u : Int) % 3 = (idxT id : Int) := by
  have h : 0 ≤ IntKind.u64.wrap id ∧ IntKind.u64.wrap id < 18446744073709551616 := by rw [IntKind.wrap_u64]; omega
  refine ⟨(IntKind.u64.wrap id).toNat, ?_, ?_, ?_⟩
  · omega
  · omega
  · unfold idxT; omega
/-- Of the first n pairs with this x how many lie on the curve. -/
def rowT (k x : Nat) : Nat → Nat
  | 0 => 0
  | n + 1 => rowT k x n + cond (onB k x n false) 1 0
/-- Of the pairs whose x is among the first n how many lie on the curve. -/
def allT (k : Nat) : Nat → Nat
  | 0 => 0
  | n + 1 => allT k n + rowT k n 256
theorem rowT_le (k x n : Nat) : rowT k x n ≤ n := by
  induction n with
  | zero => exact Nat.le_refl _
  | succ n ih =>
    rw [rowT]
    cases onB k x n false
    · show rowT k x n + 0 ≤ n + 1; omega
    · show rowT k x n + 1 ≤ n + 1; omega
theorem allT_le (k n : Nat) : allT k n ≤ 256 * n := by
  induction n with
  | zero => exact Nat.le_refl _
  | succ n ih =>
    rw [allT]
    have := rowT_le k n 256
    omega
/-- The same, with the curve's numbers given. -/
def onQ (p a b x y : Nat) : Bool := Nat.ble (x + 1) p && (Nat.ble (y + 1) p && Nat.beq (y * y % p) (((x * x % p + a) % p * x % p + b) % p))
def rowQ (p a b x : Nat) : Nat → Nat
  | 0 => 0
  | n + 1 => rowQ p a b x n + cond (onQ p a b x n) 1 0
def allQ (p a b : Nat) : Nat → Nat
  | 0 => 0
  | n + 1 => allQ p a b n + rowQ p a b n 256
theorem onB_Q (k x y : Nat) : onB k x y false = onQ (pN k) (aN k) (bN k) x y := by
  unfold onB onQ rhN
  rw [if_neg (by decide)]
  rw [Bool.eq_iff_iff]
  simp only [Bool.and_eq_true, decide_eq_true_eq, Nat.ble_eq, Nat.beq_eq, Nat.succ_le_iff]
theorem rowT_Q (k x n : Nat) : rowT k x n = rowQ (pN k) (aN k) (bN k) x n := by
  induction n with
  | zero => rfl
  | succ n ih => rw [rowT, rowQ, ih, onB_Q]
theorem allT_Q (k n : Nat) : allT k n = allQ (pN k) (aN k) (bN k) n := by
  induction n with
  | zero => rfl
  | succ n ih => rw [allT, allQ, ih, rowT_Q]
theorem all13 : allQ 251 248 26 256 = 222 := by decide +kernel
theorem all14 : allQ 241 0 13 256 = 210 := by decide +kernel
theorem all15 : allQ 239 117 8 256 = 228 := by decide +kernel
theorem tinyT_bd (k : Nat) (h1 : 13 ≤ k) (h2 : k ≤ 15) : 200 < pN k ∧ pN k < 256 ∧ 200 < oN k ∧ oN k < 256 ∧ allT k 256 + 1 = oN k := by
  rw [allT_Q]
  obtain rfl | rfl | rfl : k = 13 ∨ k = 14 ∨ k = 15 := by omega
  · rw [show pN 13 = 251 from by decide +kernel, show aN 13 = 248 from by decide +kernel, show bN 13 = 26 from by decide +kernel, show oN 13 = 223 from by decide +kernel, all13]; decide
  · rw [show pN 14 = 241 from by decide +kernel, show aN 14 = 0 from by decide +kernel, show bN 14 = 13 from by decide +kernel, show oN 14 = 211 from by decide +kernel, all14]; decide
  · rw [show pN 15 = 239 from by decide +kernel, show aN 15 = 117 from by decide +kernel, show bN 15 = 8 from by decide +kernel, show oN 15 = 229 from by decide +kernel, all15]; decide
theorem zero13 : ∀ x, x < 256 → onQ 251 248 26 x 0 = false := by decide +kernel
theorem zero14 : ∀ x, x < 256 → onQ 241 0 13 x 0 = false := by decide +kernel
theorem zero15 : ∀ x, x < 256 → onQ 239 117 8 x 0 = false := by decide +kernel
theorem onT_y (k : Nat) (h1 : 13 ≤ k) (h2 : k ≤ 15) (x y : Nat) (hx : x < 256) (h : onB k x y false = true) : x < pN k ∧ y < pN k ∧ y ≠ 0 := by
  have h0 := h
  simp only [onB, Bool.false_eq_true, if_false, Bool.and_eq_true, decide_eq_true_eq] at h
  refine ⟨h.1, h.2.1, ?_⟩
  rintro rfl
  rw [onB_Q] at h0
  obtain rfl | rfl | rfl : k = 13 ∨ k = 14 ∨ k = 15 := by omega
  · rw [show pN 13 = 251 from by decide +kernel, show aN 13 = 248 from by decide +kernel, show bN 13 = 26 from by decide +kernel, zero13 x hx] at h0; exact absurd h0 (by decide)
  · rw [show pN 14 = 241 from by decide +kernel, show aN 14 = 0 from by decide +kernel, show bN 14 = 13 from by decide +kernel, zero14 x hx] at h0; exact absurd h0 (by decide)
  · rw [show pN 15 = 239 from by decide +kernel, show aN 15 = 117 from by decide +kernel, show bN 15 = 8 from by decide +kernel, zero15 x hx] at h0; exact absurd h0 (by decide)

end Go.Proofs.Ytgmaalokfgdpaaa
