import Derived.Test.YtlbkhhihkomahaaGreatXTRGet
import Derived.Test.YtlbkhhihkomahaaGreatXTPC
import Derived.Test.YtlbkhhihkomahaaGreatXTRSub
import Derived.Test.YtlbkhhihkomahaaGreatXTMixS
namespace Go.Proofs.YtlbkhhihkomahaaGreat
open Go.RowKit
theorem hex_of (s : ByteArray) (x : Nat) (h : (Nat.ble s.size 1000 && s.data.toList.all fun c => hexOk c.toNat) = true) (e : hexN s.data.toList = x) (w : World) : Calls Tryz.prog 35 #[.string s] w (Nm x w) := by
  rw [Bool.and_eq_true] at h
  have := rhex_any s (Nat.le_of_ble_eq_true h.1) (fun c hc => List.all_eq_true.1 h.2 c hc) w
  rw [e] at this
  exact this
/-- Number k of curve i: P, A, B, N, X, Y. -/
def nN (i : Nat) : Nat → Nat := six (pN i) (aN i) (bN i) (oN i) (xN i) (yN i)
/-- A curve's numbers, all known. -/
def GetQ (i : Nat) (w : World) (e : Ending) (w' : World) : Prop := ∃ q, e = .returned (.tuple #[.agg (crA (i : Int) (nN i) q), .bool true]) ∧ (∀ k, Sl w' (q k).1 (nN i k)) ∧ Gr w w'
/-- A curve's row: its id, its P, and five more slices. -/
def GetR (i : Nat) (w : World) (e : Ending) (w' : World) : Prop := ∃ p n q, e = .returned (.tuple #[.agg (cvA (i : Int) p (dl (pN i)) n q), .bool true]) ∧ Sl w' p (pN i) ∧ Gr w w'
theorem GetQ.R {i : Nat} {w w' : World} {e : Ending} (h : GetQ i w e w') : GetR i w e w' := by
  obtain ⟨q, he, hs, hg⟩ := h
  rw [crA_cvA] at he
  exact ⟨_, _, _, he, hs 0, hg⟩
set_option maxRecDepth 100000 in
theorem getq_1 (w : World) : Calls Tryz.prog 12 #[.int .i64 1] w (GetQ 1 w) :=
  get_of 1 rs1_0 rs1_1 rs1_2 rs1_3 rs1_4 rs1_5 (pN 1) (aN 1) (bN 1) (oN 1) (xN 1) (yN 1) row_1 (hex_of rs1_0 _ (by decide +kernel) (by decide +kernel)) (hex_of rs1_2 _ (by decide +kernel) (by decide +kernel)) (hex_of rs1_3 _ (by decide +kernel) (by decide +kernel)) (hex_of rs1_4 _ (by decide +kernel) (by decide +kernel)) (hex_of rs1_5 _ (by decide +kernel) (by decide +kernel)) (.inl ⟨rfl, by decide +kernel, by decide +kernel, by decide +kernel⟩) w
set_option maxRecDepth 100000 in
theorem getq_2 (w : World) : Calls Tryz.prog 12 #[.int .i64 2] w (GetQ 2 w) :=
  get_of 2 rs2_0 rs2_1 rs2_2 rs2_3 rs2_4 rs2_5 (pN 2) (aN 2) (bN 2) (oN 2) (xN 2) (yN 2) row_2 (hex_of rs2_0 _ (by decide +kernel) (by decide +kernel)) (hex_of rs2_2 _ (by decide +kernel) (by decide +kernel)) (hex_of rs2_3 _ (by decide +kernel) (by decide +kernel)) (hex_of rs2_4 _ (by decide +kernel) (by decide +kernel)) (hex_of rs2_5 _ (by decide +kernel) (by decide +kernel)) (.inl ⟨rfl, by decide +kernel, by decide +kernel, by decide +kernel⟩) w
set_option maxRecDepth 100000 in
theorem getq_3 (w : World) : Calls Tryz.prog 12 #[.int .i64 3] w (GetQ 3 w) :=
  get_of 3 rs3_0 rs3_1 rs3_2 rs3_3 rs3_4 rs3_5 (pN 3) (aN 3) (bN 3) (oN 3) (xN 3) (yN 3) row_3 (hex_of rs3_0 _ (by decide +kernel) (by decide +kernel)) (hex_of rs3_2 _ (by decide +kernel) (by decide +kernel)) (hex_of rs3_3 _ (by decide +kernel) (by decide +kernel)) (hex_of rs3_4 _ (by decide +kernel) (by decide +kernel)) (hex_of rs3_5 _ (by decide +kernel) (by decide +kernel)) (.inl ⟨rfl, by decide +kernel, by decide +kernel, by decide +kernel⟩) w
set_option maxRecDepth 100000 in
theorem getq_4 (w : World) : Calls Tryz.prog 12 #[.int .i64 4] w (GetQ 4 w) :=
  get_of 4 rs4_0 rs4_1 rs4_2 rs4_3 rs4_4 rs4_5 (pN 4) (aN 4) (bN 4) (oN 4) (xN 4) (yN 4) row_4 (hex_of rs4_0 _ (by decide +kernel) (by decide +kernel)) (hex_of rs4_2 _ (by decide +kernel) (by decide +kernel)) (hex_of rs4_3 _ (by decide +kernel) (by decide +kernel)) (hex_of rs4_4 _ (by decide +kernel) (by decide +kernel)) (hex_of rs4_5 _ (by decide +kernel) (by decide +kernel)) (.inl ⟨rfl, by decide +kernel, by decide +kernel, by decide +kernel⟩) w
set_option maxRecDepth 100000 in
theorem getq_5 (w : World) : Calls Tryz.prog 12 #[.int .i64 5] w (GetQ 5 w) :=
  get_of 5 rs5_0 rs5_1 rs5_2 rs5_3 rs5_4 rs5_5 (pN 5) (aN 5) (bN 5) (oN 5) (xN 5) (yN 5) row_5 (hex_of rs5_0 _ (by decide +kernel) (by decide +kernel)) (hex_of rs5_2 _ (by decide +kernel) (by decide +kernel)) (hex_of rs5_3 _ (by decide +kernel) (by decide +kernel)) (hex_of rs5_4 _ (by decide +kernel) (by decide +kernel)) (hex_of rs5_5 _ (by decide +kernel) (by decide +kernel)) (.inl ⟨rfl, by decide +kernel, by decide +kernel, by decide +kernel⟩) w
set_option maxRecDepth 100000 in
theorem getq_6 (w : World) : Calls Tryz.prog 12 #[.int .i64 6] w (GetQ 6 w) :=
  get_of 6 rs6_0 rs6_1 rs6_2 rs6_3 rs6_4 rs6_5 (pN 6) (aN 6) (bN 6) (oN 6) (xN 6) (yN 6) row_6 (hex_of rs6_0 _ (by decide +kernel) (by decide +kernel)) (hex_of rs6_2 _ (by decide +kernel) (by decide +kernel)) (hex_of rs6_3 _ (by decide +kernel) (by decide +kernel)) (hex_of rs6_4 _ (by decide +kernel) (by decide +kernel)) (hex_of rs6_5 _ (by decide +kernel) (by decide +kernel)) (.inr ⟨by decide +kernel, hex_of rs6_1 _ (by decide +kernel) (by decide +kernel)⟩) w
set_option maxRecDepth 100000 in
theorem getq_7 (w : World) : Calls Tryz.prog 12 #[.int .i64 7] w (GetQ 7 w) :=
  get_of 7 rs7_0 rs7_1 rs7_2 rs7_3 rs7_4 rs7_5 (pN 7) (aN 7) (bN 7) (oN 7) (xN 7) (yN 7) row_7 (hex_of rs7_0 _ (by decide +kernel) (by decide +kernel)) (hex_of rs7_2 _ (by decide +kernel) (by decide +kernel)) (hex_of rs7_3 _ (by decide +kernel) (by decide +kernel)) (hex_of rs7_4 _ (by decide +kernel) (by decide +kernel)) (hex_of rs7_5 _ (by decide +kernel) (by decide +kernel)) (.inr ⟨by decide +kernel, hex_of rs7_1 _ (by decide +kernel) (by decide +kernel)⟩) w
set_option maxRecDepth 100000 in
theorem getq_8 (w : World) : Calls Tryz.prog 12 #[.int .i64 8] w (GetQ 8 w) :=
  get_of 8 rs8_0 rs8_1 rs8_2 rs8_3 rs8_4 rs8_5 (pN 8) (aN 8) (bN 8) (oN 8) (xN 8) (yN 8) row_8 (hex_of rs8_0 _ (by decide +kernel) (by decide +kernel)) (hex_of rs8_2 _ (by decide +kernel) (by decide +kernel)) (hex_of rs8_3 _ (by decide +kernel) (by decide +kernel)) (hex_of rs8_4 _ (by decide +kernel) (by decide +kernel)) (hex_of rs8_5 _ (by decide +kernel) (by decide +kernel)) (.inr ⟨by decide +kernel, hex_of rs8_1 _ (by decide +kernel) (by decide +kernel)⟩) w
set_option maxRecDepth 100000 in
theorem getq_9 (w : World) : Calls Tryz.prog 12 #[.int .i64 9] w (GetQ 9 w) :=
  get_of 9 rs9_0 rs9_1 rs9_2 rs9_3 rs9_4 rs9_5 (pN 9) (aN 9) (bN 9) (oN 9) (xN 9) (yN 9) row_9 (hex_of rs9_0 _ (by decide +kernel) (by decide +kernel)) (hex_of rs9_2 _ (by decide +kernel) (by decide +kernel)) (hex_of rs9_3 _ (by decide +kernel) (by decide +kernel)) (hex_of rs9_4 _ (by decide +kernel) (by decide +kernel)) (hex_of rs9_5 _ (by decide +kernel) (by decide +kernel)) (.inr ⟨by decide +kernel, hex_of rs9_1 _ (by decide +kernel) (by decide +kernel)⟩) w
set_option maxRecDepth 100000 in
theorem getq_10 (w : World) : Calls Tryz.prog 12 #[.int .i64 10] w (GetQ 10 w) :=
  get_of 10 rs10_0 rs10_1 rs10_2 rs10_3 rs10_4 rs10_5 (pN 10) (aN 10) (bN 10) (oN 10) (xN 10) (yN 10) row_10 (hex_of rs10_0 _ (by decide +kernel) (by decide +kernel)) (hex_of rs10_2 _ (by decide +kernel) (by decide +kernel)) (hex_of rs10_3 _ (by decide +kernel) (by decide +kernel)) (hex_of rs10_4 _ (by decide +kernel) (by decide +kernel)) (hex_of rs10_5 _ (by decide +kernel) (by decide +kernel)) (.inr ⟨by decide +kernel, hex_of rs10_1 _ (by decide +kernel) (by decide +kernel)⟩) w
set_option maxRecDepth 100000 in
theorem getq_11 (w : World) : Calls Tryz.prog 12 #[.int .i64 11] w (GetQ 11 w) :=
  get_of 11 rs11_0 rs11_1 rs11_2 rs11_3 rs11_4 rs11_5 (pN 11) (aN 11) (bN 11) (oN 11) (xN 11) (yN 11) row_11 (hex_of rs11_0 _ (by decide +kernel) (by decide +kernel)) (hex_of rs11_2 _ (by decide +kernel) (by decide +kernel)) (hex_of rs11_3 _ (by decide +kernel) (by decide +kernel)) (hex_of rs11_4 _ (by decide +kernel) (by decide +kernel)) (hex_of rs11_5 _ (by decide +kernel) (by decide +kernel)) (.inr ⟨by decide +kernel, hex_of rs11_1 _ (by decide +kernel) (by decide +kernel)⟩) w
set_option maxRecDepth 100000 in
theorem getq_12 (w : World) : Calls Tryz.prog 12 #[.int .i64 12] w (GetQ 12 w) :=
  get_of 12 rs12_0 rs12_1 rs12_2 rs12_3 rs12_4 rs12_5 (pN 12) (aN 12) (bN 12) (oN 12) (xN 12) (yN 12) row_12 (hex_of rs12_0 _ (by decide +kernel) (by decide +kernel)) (hex_of rs12_2 _ (by decide +kernel) (by decide +kernel)) (hex_of rs12_3 _ (by decide +kernel) (by decide +kernel)) (hex_of rs12_4 _ (by decide +kernel) (by decide +kernel)) (hex_of rs12_5 _ (by decide +kernel) (by decide +kernel)) (.inr ⟨by decide +kernel, hex_of rs12_1 _ (by decide +kernel) (by decide +kernel)⟩) w
set_option maxRecDepth 100000 in
theorem getq_13 (w : World) : Calls Tryz.prog 12 #[.int .i64 13] w (GetQ 13 w) :=
  get_of 13 rs13_0 rs13_1 rs13_2 rs13_3 rs13_4 rs13_5 (pN 13) (aN 13) (bN 13) (oN 13) (xN 13) (yN 13) row_13 (hex_of rs13_0 _ (by decide +kernel) (by decide +kernel)) (hex_of rs13_2 _ (by decide +kernel) (by decide +kernel)) (hex_of rs13_3 _ (by decide +kernel) (by decide +kernel)) (hex_of rs13_4 _ (by decide +kernel) (by decide +kernel)) (hex_of rs13_5 _ (by decide +kernel) (by decide +kernel)) (.inl ⟨rfl, by decide +kernel, by decide +kernel, by decide +kernel⟩) w
set_option maxRecDepth 100000 in
theorem getq_14 (w : World) : Calls Tryz.prog 12 #[.int .i64 14] w (GetQ 14 w) :=
  get_of 14 rs14_0 rs14_1 rs14_2 rs14_3 rs14_4 rs14_5 (pN 14) (aN 14) (bN 14) (oN 14) (xN 14) (yN 14) row_14 (hex_of rs14_0 _ (by decide +kernel) (by decide +kernel)) (hex_of rs14_2 _ (by decide +kernel) (by decide +kernel)) (hex_of rs14_3 _ (by decide +kernel) (by decide +kernel)) (hex_of rs14_4 _ (by decide +kernel) (by decide +kernel)) (hex_of rs14_5 _ (by decide +kernel) (by decide +kernel)) (.inr ⟨by decide +kernel, hex_of rs14_1 _ (by decide +kernel) (by decide +kernel)⟩) w
set_option maxRecDepth 100000 in
theorem getq_15 (w : World) : Calls Tryz.prog 12 #[.int .i64 15] w (GetQ 15 w) :=
  get_of 15 rs15_0 rs15_1 rs15_2 rs15_3 rs15_4 rs15_5 (pN 15) (aN 15) (bN 15) (oN 15) (xN 15) (yN 15) row_15 (hex_of rs15_0 _ (by decide +kernel) (by decide +kernel)) (hex_of rs15_2 _ (by decide +kernel) (by decide +kernel)) (hex_of rs15_3 _ (by decide +kernel) (by decide +kernel)) (hex_of rs15_4 _ (by decide +kernel) (by decide +kernel)) (hex_of rs15_5 _ (by decide +kernel) (by decide +kernel)) (.inr ⟨by decide +kernel, hex_of rs15_1 _ (by decide +kernel) (by decide +kernel)⟩) w
theorem getq_yes (i : Nat) (h1 : 1 ≤ i) (h2 : i ≤ 15) (w : World) : Calls Tryz.prog 12 #[.int .i64 (i : Int)] w (GetQ i w) := by
  obtain rfl | rfl | rfl | rfl | rfl | rfl | rfl | rfl | rfl | rfl | rfl | rfl | rfl | rfl | rfl : i = 1 ∨ i = 2 ∨ i = 3 ∨ i = 4 ∨ i = 5 ∨ i = 6 ∨ i = 7 ∨ i = 8 ∨ i = 9 ∨ i = 10 ∨ i = 11 ∨ i = 12 ∨ i = 13 ∨ i = 14 ∨ i = 15 := by omega
  · exact getq_1 w
  · exact getq_2 w
  · exact getq_3 w
  · exact getq_4 w
  · exact getq_5 w
  · exact getq_6 w
  · exact getq_7 w
  · exact getq_8 w
  · exact getq_9 w
  · exact getq_10 w
  · exact getq_11 w
  · exact getq_12 w
  · exact getq_13 w
  · exact getq_14 w
  · exact getq_15 w
attribute [local go_sem ↓] loadNat_is loadArr_is loadWide_is loadArrW_is storeNat_is storeWide_is
attribute [local go_sem] loadNat loadArr loadWide loadArrW storeNat storeWide idxArr fold9 fold18 nw_size nw_elem pre_self pre_1 pre_2 pre_3 pre_4 pre_5 pre_6 pre_7 pre_8 pre_9 pre_10 pre_11 pre_12 pre_13 pre_14 pre_15 pre_16 pre_17 pre_18 pre_19 pre_20 pre_21 pre_22 pre_23 pre_24 pre_25 pre_26 pre_27 pre_28 pre_29 pre_30 pre_31 pre_32 pre_33 pre_34 pre_35 pre_36 pre_37 pre_38 pre_39 pre_40 gro_size gro_drew gro_drewN drew_gro drewN_gro gro_gro blk_gro frz_gro blk_drew frz_drew blk_drewN frz_drewN blk_alloc_at frz_alloc_at blk_alloc frz_alloc cell_gro frozen_gro cell_alloc_pre frozen_alloc_pre setCell_drewN alloc_drewN setBlk_drew setBlk_drewN setBlk_alloc_at setBlk_alloc setBlk_gro setCell_gro setCell_alloc_pre size_setBlk size_setCell
attribute [local go_sem ↓] loadC_is storeC_is buildC_is
attribute [local go_sem] eqSl0 loadC storeC0 buildC0 frz_setBlk blk_setBlk setBlk_setBlk
end Go.Proofs.YtlbkhhihkomahaaGreat
namespace Go.Proofs.YtlbkhhihkomahaaGreat
open Go.RowKit
theorem pN_dl (i : Nat) (h1 : 1 ≤ i) (h2 : i ≤ 15) : dl (pN i) ≤ 18 := by
  have h := pN_bd i h1 h2
  exact (dl_le _ 18).2 (by rw [pq_M]; omega)
theorem dl_M (a : Nat) (ha : a < M) : dl a ≤ 18 := (dl_le _ 18).2 (by rw [pq_M]; exact ha)
end Go.Proofs.YtlbkhhihkomahaaGreat
namespace Go.Proofs.YtlbkhhihkomahaaGreat
theorem cu_28 (id : Int) (p a b n x y : Nat) (s z : Int) (l : Bool) : (cu id p a b n x y s z l)[28]? = some (.int .u64 ((wd n 0 : Nat) : Int)) := by kernel_rfl
/-- The tiny curve that a number is turned into. -/
def idxT (id : Int) : Nat := (IntKind.u64.wrap id).toNat % 3 + 13
theorem idxT_bd (id : Int) : 13 ≤ idxT id ∧ idxT id ≤ 15 := by unfold idxT; omega
theorem idxT_conv (id : Int) : ∃ u : Nat, IntKind.u64.wrap id = (u : Int) ∧ (u : Int) < 18446744073709551616 ∧ (13 : Int) + (u : Int) % 3 = (idxT id : Int) := by
  have h : 0 ≤ IntKind.u64.wrap id ∧ IntKind.u64.wrap id < 18446744073709551616 := by rw [IntKind.wrap_u64]; omega
  refine ⟨(IntKind.u64.wrap id).toNat, ?_, ?_, ?_⟩
  · omega
  · omega
  · unfold idxT; omega
end Go.Proofs.YtlbkhhihkomahaaGreat
