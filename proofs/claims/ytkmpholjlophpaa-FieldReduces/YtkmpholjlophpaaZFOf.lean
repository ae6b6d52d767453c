/-
  prime.Of: what it hands back.
-/
import Derived.Test.YtkmpholjlophpaaZFInst
namespace Go.Proofs.Ytkmpholjlophpaa
open Go.RowKit
attribute [local go_sem ↓] loadNat_is loadArr_is loadWide_is loadArrW_is storeNat_is storeWide_is
attribute [local go_sem] loadNat loadArr loadWide loadArrW storeNat storeWide idxArr fold9 fold18 nw_size nw_elem pre_self pre_1 pre_2 pre_3 pre_4 pre_5 pre_6 pre_7 pre_8 pre_9 pre_10 pre_11 pre_12 pre_13 pre_14 pre_15 pre_16 pre_17 pre_18 pre_19 pre_20 pre_21 pre_22 pre_23 pre_24 pre_25 pre_26 pre_27 pre_28 pre_29 pre_30 pre_31 pre_32 pre_33 pre_34 pre_35 pre_36 pre_37 pre_38 pre_39 pre_40 gro_size gro_drew gro_drewN drew_gro drewN_gro gro_gro blk_gro frz_gro blk_drew frz_drew blk_drewN frz_drewN blk_alloc_at frz_alloc_at blk_alloc frz_alloc cell_gro frozen_gro cell_alloc_pre frozen_alloc_pre setCell_drewN alloc_drewN setBlk_drew setBlk_drewN setBlk_alloc_at setBlk_alloc setBlk_gro setCell_gro setCell_alloc_pre size_setBlk size_setCell
attribute [local go_sem ↓] storeAr_is buildAr_is
attribute [local go_sem] storeAr frz_setBlk blk_setBlk setBlk_setBlk

/-- The P of curve i; 0 where there is none. -/
def pN : Nat → Nat
  | 1 => 6277101735386680763835789423207666416083908700390324961279
  | 2 => 26959946667150639794667015087019630673557916260026308143510066298881
  | 3 => 115792089210356248762697446949407573530086143415290314195533631308867097853951
  | 4 => 39402006196394479212279040100143613805079739270465446667948293404245721771496870329047266088258938001861606973112319
  | 5 => 6864797660130609714981900799081393217269435300143305409394463459185543183397656052122559640661454554977296311391480858037121987999716643812574028291115057151
  | 6 => 115792089237316195423570985008687907853269984665640564039457584007908834671663
  | 7 => 1332297598440044874827085558802491743757193798159
  | 8 => 22721622932454352787552537995910928073340732145944992304435472941311
  | 9 => 76884956397045344220809746629001649093037950200943055203735601445031516197751
  | 10 => 1763593322239166354161909842446019520889512772719515192772960415288640868802149818095501499903527
  | 11 => 21659270770119316173069236842332604979796116387017648600081618503821089934025961822236561982844534088440708417973331
  | 12 => 8948962207650232551656602815159153422162609644098354511344597187200057010413552439917934304191956942765446530386427345937963894309923928536070534607816947
  | 13 => 251
  | 14 => 241
  | 15 => 239
  | _ => 0
theorem row1 (w : World) : (buildF 23 #[(0, .int .u64 18446744073709551615), (1, .int .u64 18446744073709551614), (2, .int .u64 18446744073709551615)]).run Try.prog w = .ok (.agg (nw 9 (pN 1))) w := by kernel_rfl
theorem row2 (w : World) : (buildF 23 #[(0, .int .u64 1), (1, .int .u64 18446744069414584320), (2, .int .u64 18446744073709551615), (3, .int .u64 4294967295)]).run Try.prog w = .ok (.agg (nw 9 (pN 2))) w := by kernel_rfl
theorem row3 (w : World) : (buildF 23 #[(0, .int .u64 18446744073709551615), (1, .int .u64 4294967295), (2, .int .u64 0), (3, .int .u64 18446744069414584321)]).run Try.prog w = .ok (.agg (nw 9 (pN 3))) w := by kernel_rfl
theorem row4 (w : World) : (buildF 23 #[(0, .int .u64 4294967295), (1, .int .u64 18446744069414584320), (2, .int .u64 18446744073709551614), (3, .int .u64 18446744073709551615), (4, .int .u64 18446744073709551615), (5, .int .u64 18446744073709551615)]).run Try.prog w = .ok (.agg (nw 9 (pN 4))) w := by kernel_rfl
theorem row5 (w : World) : (buildF 23 #[(0, .int .u64 18446744073709551615), (1, .int .u64 18446744073709551615), (2, .int .u64 18446744073709551615), (3, .int .u64 18446744073709551615), (4, .int .u64 18446744073709551615), (5, .int .u64 18446744073709551615), (6, .int .u64 18446744073709551615), (7, .int .u64 18446744073709551615), (8, .int .u64 511)]).run Try.prog w = .ok (.agg (nw 9 (pN 5))) w := by kernel_rfl
theorem row6 (w : World) : (buildF 23 #[(0, .int .u64 18446744069414583343), (1, .int .u64 18446744073709551615), (2, .int .u64 18446744073709551615), (3, .int .u64 18446744073709551615)]).run Try.prog w = .ok (.agg (nw 9 (pN 6))) w := by kernel_rfl
theorem row7 (w : World) : (buildF 23 #[(0, .int .u64 10787203111099654671), (1, .int .u64 8318247314806261677), (2, .int .u64 3915270751)]).run Try.prog w = .ok (.agg (nw 9 (pN 7))) w := by kernel_rfl
theorem row8 (w : World) : (buildF 23 #[(0, .int .u64 10942209932137119999), (1, .int .u64 8489803750353864535), (2, .int .u64 2757160123298754597), (3, .int .u64 3619763370)]).run Try.prog w = .ok (.agg (nw 9 (pN 8))) w := by kernel_rfl
theorem row9 (w : World) : (buildF 23 #[(0, .int .u64 2311270323689771895), (1, .int .u64 7943213001558335528), (2, .int .u64 4496292894210231666), (3, .int .u64 12248480212390422972)]).run Try.prog w = .ok (.agg (nw 9 (pN 9))) w := by kernel_rfl
theorem row10 (w : World) : (buildF 23 #[(0, .int .u64 18218206948094062119), (1, .int .u64 5733849700882443304), (2, .int .u64 17982820153128390127), (3, .int .u64 16229979505782022245), (4, .int .u64 15230689193496432567)]).run Try.prog w = .ok (.agg (nw 9 (pN 10))) w := by kernel_rfl
theorem row11 (w : World) : (buildF 23 #[(0, .int .u64 9747760000893709395), (1, .int .u64 12453481191562877553), (2, .int .u64 1347097566612230435), (3, .int .u64 1526563086152259252), (4, .int .u64 1107163671716839903), (5, .int .u64 10140169582434348328)]).run Try.prog w = .ok (.agg (nw 9 (pN 11))) w := by kernel_rfl
theorem row12 (w : World) : (buildF 23 #[(0, .int .u64 2930260431521597683), (1, .int .u64 2918894611604883077), (2, .int .u64 12595900938455318758), (3, .int .u64 9029043254863489090), (4, .int .u64 15448363540090652785), (5, .int .u64 14641358191536493070), (6, .int .u64 4599554755319692295), (7, .int .u64 12312170373589877899)]).run Try.prog w = .ok (.agg (nw 9 (pN 12))) w := by kernel_rfl
theorem row13 (w : World) : (buildF 23 #[(0, .int .u64 251)]).run Try.prog w = .ok (.agg (nw 9 (pN 13))) w := by kernel_rfl
theorem row14 (w : World) : (buildF 23 #[(0, .int .u64 241)]).run Try.prog w = .ok (.agg (nw 9 (pN 14))) w := by kernel_rfl
theorem row15 (w : World) : (buildF 23 #[(0, .int .u64 239)]).run Try.prog w = .ok (.agg (nw 9 (pN 15))) w := by kernel_rfl
set_option maxRecDepth 100000 in
set_option maxHeartbeats 400000 in
theorem of_1 (w : World) : Calls Try.prog 42 #[.int .i64 1] w fun e w' => e = .returned (.tuple #[.agg (nw 9 (pN 1)), .bool true]) ∧ Gr w w' := by
  have hr := row1
  generalize pN 1 = m at *
  go_enter Try.func42, Try.ntmps42
  go_wp2
  refine bodyPost_ret (res_two Try.results42 (rd_nat (x := m) (by rfl) ?_) (rd_tmp (by rfl))) rfl ⟨rfl, (by repeat (first | exact Gr.refl _ | apply Gr.drewN | apply Gr.drew | apply Gr.alloc | apply Gr.gro))⟩
  simp [go_sem]
set_option maxRecDepth 100000 in
set_option maxHeartbeats 400000 in
theorem of_2 (w : World) : Calls Try.prog 42 #[.int .i64 2] w fun e w' => e = .returned (.tuple #[.agg (nw 9 (pN 2)), .bool true]) ∧ Gr w w' := by
  have hr := row2
  generalize pN 2 = m at *
  go_enter Try.func42, Try.ntmps42
  go_wp2
  refine bodyPost_ret (res_two Try.results42 (rd_nat (x := m) (by rfl) ?_) (rd_tmp (by rfl))) rfl ⟨rfl, (by repeat (first | exact Gr.refl _ | apply Gr.drewN | apply Gr.drew | apply Gr.alloc | apply Gr.gro))⟩
  simp [go_sem]
set_option maxRecDepth 100000 in
set_option maxHeartbeats 400000 in
theorem of_3 (w : World) : Calls Try.prog 42 #[.int .i64 3] w fun e w' => e = .returned (.tuple #[.agg (nw 9 (pN 3)), .bool true]) ∧ Gr w w' := by
  have hr := row3
  generalize pN 3 = m at *
  go_enter Try.func42, Try.ntmps42
  go_wp2
  refine bodyPost_ret (res_two Try.results42 (rd_nat (x := m) (by rfl) ?_) (rd_tmp (by rfl))) rfl ⟨rfl, (by repeat (first | exact Gr.refl _ | apply Gr.drewN | apply Gr.drew | apply Gr.alloc | apply Gr.gro))⟩
  simp [go_sem]
set_option maxRecDepth 100000 in
set_option maxHeartbeats 400000 in
theorem of_4 (w : World) : Calls Try.prog 42 #[.int .i64 4] w fun e w' => e = .returned (.tuple #[.agg (nw 9 (pN 4)), .bool true]) ∧ Gr w w' := by
  have hr := row4
  generalize pN 4 = m at *
  go_enter Try.func42, Try.ntmps42
  go_wp2
  refine bodyPost_ret (res_two Try.results42 (rd_nat (x := m) (by rfl) ?_) (rd_tmp (by rfl))) rfl ⟨rfl, (by repeat (first | exact Gr.refl _ | apply Gr.drewN | apply Gr.drew | apply Gr.alloc | apply Gr.gro))⟩
  simp [go_sem]
set_option maxRecDepth 100000 in
set_option maxHeartbeats 400000 in
theorem of_5 (w : World) : Calls Try.prog 42 #[.int .i64 5] w fun e w' => e = .returned (.tuple #[.agg (nw 9 (pN 5)), .bool true]) ∧ Gr w w' := by
  have hr := row5
  generalize pN 5 = m at *
  go_enter Try.func42, Try.ntmps42
  go_wp2
  refine bodyPost_ret (res_two Try.results42 (rd_nat (x := m) (by rfl) ?_) (rd_tmp (by rfl))) rfl ⟨rfl, (by repeat (first | exact Gr.refl _ | apply Gr.drewN | apply Gr.drew | apply Gr.alloc | apply Gr.gro))⟩
  simp [go_sem]
set_option maxRecDepth 100000 in
set_option maxHeartbeats 400000 in
theorem of_6 (w : World) : Calls Try.prog 42 #[.int .i64 6] w fun e w' => e = .returned (.tuple #[.agg (nw 9 (pN 6)), .bool true]) ∧ Gr w w' := by
  have hr := row6
  generalize pN 6 = m at *
  go_enter Try.func42, Try.ntmps42
  go_wp2
  refine bodyPost_ret (res_two Try.results42 (rd_nat (x := m) (by rfl) ?_) (rd_tmp (by rfl))) rfl ⟨rfl, (by repeat (first | exact Gr.refl _ | apply Gr.drewN | apply Gr.drew | apply Gr.alloc | apply Gr.gro))⟩
  simp [go_sem]
set_option maxRecDepth 100000 in
set_option maxHeartbeats 400000 in
theorem of_7 (w : World) : Calls Try.prog 42 #[.int .i64 7] w fun e w' => e = .returned (.tuple #[.agg (nw 9 (pN 7)), .bool true]) ∧ Gr w w' := by
  have hr := row7
  generalize pN 7 = m at *
  go_enter Try.func42, Try.ntmps42
  go_wp2
  refine bodyPost_ret (res_two Try.results42 (rd_nat (x := m) (by rfl) ?_) (rd_tmp (by rfl))) rfl ⟨rfl, (by repeat (first | exact Gr.refl _ | apply Gr.drewN | apply Gr.drew | apply Gr.alloc | apply Gr.gro))⟩
  simp [go_sem]
set_option maxRecDepth 100000 in
set_option maxHeartbeats 400000 in
theorem of_8 (w : World) : Calls Try.prog 42 #[.int .i64 8] w fun e w' => e = .returned (.tuple #[.agg (nw 9 (pN 8)), .bool true]) ∧ Gr w w' := by
  have hr := row8
  generalize pN 8 = m at *
  go_enter Try.func42, Try.ntmps42
  go_wp2
  refine bodyPost_ret (res_two Try.results42 (rd_nat (x := m) (by rfl) ?_) (rd_tmp (by rfl))) rfl ⟨rfl, (by repeat (first | exact Gr.refl _ | apply Gr.drewN | apply Gr.drew | apply Gr.alloc | apply Gr.gro))⟩
  simp [go_sem]
set_option maxRecDepth 100000 in
set_option maxHeartbeats 400000 in
theorem of_9 (w : World) : Calls Try.prog 42 #[.int .i64 9] w fun e w' => e = .returned (.tuple #[.agg (nw 9 (pN 9)), .bool true]) ∧ Gr w w' := by
  have hr := row9
  generalize pN 9 = m at *
  go_enter Try.func42, Try.ntmps42
  go_wp2
  refine bodyPost_ret (res_two Try.results42 (rd_nat (x := m) (by rfl) ?_) (rd_tmp (by rfl))) rfl ⟨rfl, (by repeat (first | exact Gr.refl _ | apply Gr.drewN | apply Gr.drew | apply Gr.alloc | apply Gr.gro))⟩
  simp [go_sem]
set_option maxRecDepth 100000 in
set_option maxHeartbeats 400000 in
theorem of_10 (w : World) : Calls Try.prog 42 #[.int .i64 10] w fun e w' => e = .returned (.tuple #[.agg (nw 9 (pN 10)), .bool true]) ∧ Gr w w' := by
  have hr := row10
  generalize pN 10 = m at *
  go_enter Try.func42, Try.ntmps42
  go_wp2
  refine bodyPost_ret (res_two Try.results42 (rd_nat (x := m) (by rfl) ?_) (rd_tmp (by rfl))) rfl ⟨rfl, (by repeat (first | exact Gr.refl _ | apply Gr.drewN | apply Gr.drew | apply Gr.alloc | apply Gr.gro))⟩
  simp [go_sem]
set_option maxRecDepth 100000 in
set_option maxHeartbeats 400000 in
theorem of_11 (w : World) : Calls Try.prog 42 #[.int .i64 11] w fun e w' => e = .returned (.tuple #[.agg (nw 9 (pN 11)), .bool true]) ∧ Gr w w' := by
  have hr := row11
  generalize pN 11 = m at *
  go_enter Try.func42, Try.ntmps42
  go_wp2
  refine bodyPost_ret (res_two Try.results42 (rd_nat (x := m) (by rfl) ?_) (rd_tmp (by rfl))) rfl ⟨rfl, (by repeat (first | exact Gr.refl _ | apply Gr.drewN | apply Gr.drew | apply Gr.alloc | apply Gr.gro))⟩
  simp [go_sem]
set_option maxRecDepth 100000 in
set_option maxHeartbeats 400000 in
theorem of_12 (w : World) : Calls Try.prog 42 #[.int .i64 12] w fun e w' => e = .returned (.tuple #[.agg (nw 9 (pN 12)), .bool true]) ∧ Gr w w' := by
  have hr := row12
  generalize pN 12 = m at *
  go_enter Try.func42, Try.ntmps42
  go_wp2
  refine bodyPost_ret (res_two Try.results42 (rd_nat (x := m) (by rfl) ?_) (rd_tmp (by rfl))) rfl ⟨rfl, (by repeat (first | exact Gr.refl _ | apply Gr.drewN | apply Gr.drew | apply Gr.alloc | apply Gr.gro))⟩
  simp [go_sem]
set_option maxRecDepth 100000 in
set_option maxHeartbeats 400000 in
theorem of_13 (w : World) : Calls Try.prog 42 #[.int .i64 13] w fun e w' => e = .returned (.tuple #[.agg (nw 9 (pN 13)), .bool true]) ∧ Gr w w' := by
  have hr := row13
  generalize pN 13 = m at *
  go_enter Try.func42, Try.ntmps42
  go_wp2
  refine bodyPost_ret (res_two Try.results42 (rd_nat (x := m) (by rfl) ?_) (rd_tmp (by rfl))) rfl ⟨rfl, (by repeat (first | exact Gr.refl _ | apply Gr.drewN | apply Gr.drew | apply Gr.alloc | apply Gr.gro))⟩
  simp [go_sem]
set_option maxRecDepth 100000 in
set_option maxHeartbeats 400000 in
theorem of_14 (w : World) : Calls Try.prog 42 #[.int .i64 14] w fun e w' => e = .returned (.tuple #[.agg (nw 9 (pN 14)), .bool true]) ∧ Gr w w' := by
  have hr := row14
  generalize pN 14 = m at *
  go_enter Try.func42, Try.ntmps42
  go_wp2
  refine bodyPost_ret (res_two Try.results42 (rd_nat (x := m) (by rfl) ?_) (rd_tmp (by rfl))) rfl ⟨rfl, (by repeat (first | exact Gr.refl _ | apply Gr.drewN | apply Gr.drew | apply Gr.alloc | apply Gr.gro))⟩
  simp [go_sem]
set_option maxRecDepth 100000 in
set_option maxHeartbeats 400000 in
theorem of_15 (w : World) : Calls Try.prog 42 #[.int .i64 15] w fun e w' => e = .returned (.tuple #[.agg (nw 9 (pN 15)), .bool true]) ∧ Gr w w' := by
  have hr := row15
  generalize pN 15 = m at *
  go_enter Try.func42, Try.ntmps42
  go_wp2
  refine bodyPost_ret (res_two Try.results42 (rd_nat (x := m) (by rfl) ?_) (rd_tmp (by rfl))) rfl ⟨rfl, (by repeat (first | exact Gr.refl _ | apply Gr.drewN | apply Gr.drew | apply Gr.alloc | apply Gr.gro))⟩
  simp [go_sem]
/-- A curve's P. -/
theorem of_yes (i : Nat) (h1 : 1 ≤ i) (h2 : i ≤ 15) (w : World) : Calls Try.prog 42 #[.int .i64 (i : Int)] w fun e w' => e = .returned (.tuple #[.agg (nw 9 (pN i)), .bool true]) ∧ Gr w w' := by
  obtain rfl | rfl | rfl | rfl | rfl | rfl | rfl | rfl | rfl | rfl | rfl | rfl | rfl | rfl | rfl : i = 1 ∨ i = 2 ∨ i = 3 ∨ i = 4 ∨ i = 5 ∨ i = 6 ∨ i = 7 ∨ i = 8 ∨ i = 9 ∨ i = 10 ∨ i = 11 ∨ i = 12 ∨ i = 13 ∨ i = 14 ∨ i = 15 := by omega
  · exact of_1 w
  · exact of_2 w
  · exact of_3 w
  · exact of_4 w
  · exact of_5 w
  · exact of_6 w
  · exact of_7 w
  · exact of_8 w
  · exact of_9 w
  · exact of_10 w
  · exact of_11 w
  · exact of_12 w
  · exact of_13 w
  · exact of_14 w
  · exact of_15 w
set_option maxRecDepth 100000 in
set_option maxHeartbeats 400000 in
/-- There is no such curve. -/
theorem of_no (x : Int) (h : x < 1 ∨ 15 < x) (w : World) : Calls Try.prog 42 #[.int .i64 x] w fun e w' => e = .returned (.tuple #[.agg (nw 9 0), .bool false]) ∧ Gr w w' := by
  have n1 : ¬ x = 1 := by omega
  have n2 : ¬ x = 2 := by omega
  have n3 : ¬ x = 3 := by omega
  have n4 : ¬ x = 4 := by omega
  have n5 : ¬ x = 5 := by omega
  have n6 : ¬ x = 6 := by omega
  have n7 : ¬ x = 7 := by omega
  have n8 : ¬ x = 8 := by omega
  have n9 : ¬ x = 9 := by omega
  have n10 : ¬ x = 10 := by omega
  have n11 : ¬ x = 11 := by omega
  have n12 : ¬ x = 12 := by omega
  have n13 : ¬ x = 13 := by omega
  have n14 : ¬ x = 14 := by omega
  have n15 : ¬ x = 15 := by omega
  clear h
  go_enter Try.func42, Try.ntmps42
  go_wp2
  refine bodyPost_ret (res_two Try.results42 (rd_nat (x := 0) (by rfl) ?_) (rd_tmp (by rfl))) rfl ⟨rfl, (by repeat (first | exact Gr.refl _ | apply Gr.drewN | apply Gr.drew | apply Gr.alloc | apply Gr.gro))⟩
  simp [go_sem]

end Go.Proofs.Ytkmpholjlophpaa
