import Derived.Test.YtempibiahmmppaaGreatXJJH
import Derived.Test.YtempibiahmmppaaGreatXJAQ
import Derived.Test.YtempibiahmmppaaGreatXJCC
namespace Go.Proofs.YtempibiahmmppaaGreat
open Go.RowKit
set_option maxRecDepth 100000
set_option maxHeartbeats 8000000
section
attribute [local go_sem ↓] loadNat_is loadArr_is loadWide_is loadArrW_is storeNat_is storeWide_is
attribute [local go_sem] loadNat loadArr loadWide loadArrW storeNat storeWide idxArr fold9 fold18 nw_size nw_elem pre_self pre_1 pre_2 pre_3 pre_4 pre_5 pre_6 pre_7 pre_8 pre_9 pre_10 pre_11 pre_12 pre_13 pre_14 pre_15 pre_16 pre_17 pre_18 pre_19 pre_20 pre_21 pre_22 pre_23 pre_24 pre_25 pre_26 pre_27 pre_28 pre_29 pre_30 pre_31 pre_32 pre_33 pre_34 pre_35 pre_36 pre_37 pre_38 pre_39 pre_40 gro_size gro_drew gro_drewN drew_gro drewN_gro gro_gro blk_gro frz_gro blk_drew frz_drew blk_drewN frz_drewN blk_alloc_at frz_alloc_at blk_alloc frz_alloc cell_gro frozen_gro cell_alloc_pre frozen_alloc_pre setCell_drewN alloc_drewN setBlk_drew setBlk_drewN setBlk_alloc_at setBlk_alloc setBlk_gro setCell_gro setCell_alloc_pre size_setBlk size_setCell
section
attribute [local go_sem] ppre_1 ppre_2 ppre_3 ppre_4 ppre_5 ppre_6
attribute [local go_sem ↓] bsl_is loadC_is storeC_is loadPt_is storePt_is zvPt_is buildPt_is loadPn_is storePn_is zvPn_is loadCu_is storeCu_is zvCu_is buildCu_is buildPn_is Go.wp_at_zero Go.wp_at_succ
attribute [local go_sem] loadC storeC0 storeCr crA_size loadPt storePt zvPt ptA_size loadPn storePn zvPn pnt_size loadCu storeCu zvCu cu_size buildCu0 buildPnI buildPn2 loadCP loadCA loadCB loadCN loadCG loadCX loadCY cu_P cu_A cu_B cu_N cu_G cu_X cu_Y frz_setBlk blk_setBlk setBlk_setBlk blk_other
attribute [local go_sem ↓] loadPj_is storePj_is zvPj_is buildPj_is
attribute [local go_sem] loadPj storePj zvPj buildPj0 buildPj1 buildPj2 buildPj3 loadJX loadJY loadJZ prj_size prj_X prj_Y prj_Z
theorem ljsums_any (id : Int) (n1 n2 n3 : Nat) (bn1 : n1 < 18446744073709551616) (bn2 : n2 < 18446744073709551616) (bn3 : n3 < 18446744073709551616) (w : World) : Cg 6 #[.int .i64 id, .int .u64 (n1 : Int), .int .u64 (n2 : Int), .int .u64 (n3 : Int)] w (.bool true) := by
 obtain ⟨u, hu, hu2, hk⟩ := idx_conv id
 have hbd := idx_bd id
 obtain ⟨k, hkk⟩ : ∃ k, idx id = k := ⟨_, rfl⟩
 rw [hkk] at hk hbd
 obtain ⟨h1, h2⟩ := hbd
 have u0 : (0 : Int) ≤ (u : Int) := by omega
 have hk2 : (1 : Int) + (u : Int) % 15 = (k : Int) := by omega
 have hk3 : IntKind.i64.wrap ((u : Int) % 15) = (u : Int) % 15 := by rw [IntKind.wrap_i64]; omega
 have hk4 : IntKind.u64.wrap ((u : Int) % 15) = (u : Int) % 15 := by rw [IntKind.wrap_u64]; omega
 have hk5 : (u : Int).tmod 15 = (u : Int) % 15 := by rw [Int.tmod_eq_emod_of_nonneg (by omega)]
 have k0 : (1 : Int) ≤ (k : Int) := by omega
 have k1 : (k : Int) ≤ 15 := by omega
 have hu3 : id % 18446744073709551616 = (u : Int) := by rw [← hu, IntKind.wrap_u64]
 clear hkk hk
 have HGR : Hid (∀ w, Calls Tryz.prog 10 #[.int .i64 (k : Int)] w (GetQ k w)) := fun w => getq_yes k h1 h2 w
 have HAW : Hid (∀ w, Cg 15 #[] w (.bool true)) := fun w => awake15_any w
 go_enter Tryz.func6, Tryz.ntmps6
 go_upto_region 4 with (first
   | (go_at_call 15; refine (HAW.out _).mono ?_; rintro e WA ⟨rfl, GA⟩)
   | (go_at_call 10; refine (HGR.out _).mono ?_; rintro e WB ⟨qc, rfl, HQ, GB⟩))
 obtain ⟨e9, he9⟩ : ∃ b, WB.heap.size = b := ⟨_, rfl⟩
 simp only [he9]
 refine gen_w (fun v => Gr w v ∧ Vr v e9 (crA (k : Int) (nN k) qc) ∧ ∀ j, Sl v (qc j).1 (nN k j)) ?_ ?_
 · subst he9
   exact ⟨(GA.trans GB).alloc _, Vr.new _ _ _, fun j => (HQ j).gr ((Gr.refl _).alloc _)⟩
 clear he9 GA GB HQ HAW HGR hu hu2 hk2 hk3 hk4 hk5 hu3 u0 k0 k1
 rintro v0 ⟨G, c9, HQ⟩
 obtain ⟨P, hP⟩ : ∃ Z, mlQ k n1 (gQ k) = Z := ⟨_, rfl⟩
 have oP : OnQ k P := hP ▸ mlQ_on h1 h2 _ (gQ_on h1 h2)
 have bP := bn1
 obtain ⟨S1, hS1⟩ : ∃ Z, frT P = Z := ⟨_, rfl⟩
 have trS1 : TrQ k S1 P := hS1 ▸ frT_tr h1 h2 oP
 obtain ⟨Q, hQ⟩ : ∃ Z, mlQ k n2 (gQ k) = Z := ⟨_, rfl⟩
 have oQ : OnQ k Q := hQ ▸ mlQ_on h1 h2 _ (gQ_on h1 h2)
 have bQ := bn2
 obtain ⟨S2, hS2⟩ : ∃ Z, frT Q = Z := ⟨_, rfl⟩
 have trS2 : TrQ k S2 Q := hS2 ▸ frT_tr h1 h2 oQ
 obtain ⟨R, hR⟩ : ∃ Z, mlQ k n3 (gQ k) = Z := ⟨_, rfl⟩
 have oR : OnQ k R := hR ▸ mlQ_on h1 h2 _ (gQ_on h1 h2)
 have bR := bn3
 obtain ⟨S3, hS3⟩ : ∃ Z, frT R = Z := ⟨_, rfl⟩
 have trS3 : TrQ k S3 R := hS3 ▸ frT_tr h1 h2 oR
 obtain ⟨A1, hA1⟩ : ∃ Z, addT k S1 S2 = Z := ⟨_, rfl⟩
 obtain ⟨X, hX⟩ : ∃ Z, plQ k P Q = Z := ⟨_, rfl⟩
 have oX : OnQ k X := hX ▸ plQ_on h1 h2 oP oQ
 have trA1 : TrQ k A1 X := hA1 ▸ hX ▸ addT_tr h1 h2 trS1 trS2
 obtain ⟨A2, hA2⟩ : ∃ Z, addT k A1 S3 = Z := ⟨_, rfl⟩
 obtain ⟨Y, hY⟩ : ∃ Z, plQ k X R = Z := ⟨_, rfl⟩
 have oY : OnQ k Y := hY ▸ plQ_on h1 h2 oX oR
 have trA2 : TrQ k A2 Y := hA2 ▸ hY ▸ addT_tr h1 h2 trA1 trS3
 obtain ⟨A3, hA3⟩ : ∃ Z, addT k S2 S3 = Z := ⟨_, rfl⟩
 obtain ⟨U, hU⟩ : ∃ Z, plQ k Q R = Z := ⟨_, rfl⟩
 have oU : OnQ k U := hU ▸ plQ_on h1 h2 oQ oR
 have trA3 : TrQ k A3 U := hA3 ▸ hU ▸ addT_tr h1 h2 trS2 trS3
 obtain ⟨A4, hA4⟩ : ∃ Z, addT k A3 S1 = Z := ⟨_, rfl⟩
 have hUP : plQ k U P = Y := by rw [← hY, ← hX, ← hU, plQ_comm h1 h2 (plQ_on h1 h2 oQ oR) oP, plQ_assoc h1 h2 oP oQ oR]
 have trA4 : TrQ k A4 Y := hA4 ▸ hUP ▸ addT_tr h1 h2 trA3 trS1
 refine wp_v false [.c (.agg (crA (k : Int) (nN k) qc)), .c (.int .u64 (n1 : Int)), .c (.tuple #[.agg (prj S1.1 S1.2.1 S1.2.2), .agg (pnt P.1 P.2.1 P.2.2), .bool true]), .c (.tuple #[.agg (prj S1.1 S1.2.1 S1.2.2), .agg (pnt P.1 P.2.1 P.2.2), .bool true]), .c (.agg (prj S1.1 S1.2.1 S1.2.2)), .c (.agg (pnt P.1 P.2.1 P.2.2)), .c (.bool true), .a, .a, .u, .u, .c (.bool true)] [0, 2] [⟨7, 9, 27, prj 0 0 0, fun _ => prj S1.1 S1.2.1 S1.2.2⟩, ⟨8, 10, 35, pnt 0 0 false, fun _ => pnt P.1 P.2.1 P.2.2⟩] ?hs1 ?hv1 ?hf1
 case hs1 =>
  refine .cons (.g 31 0 c9 rfl) ?_
  refine .cons (.k _ fun yy vv hg hh => RtW.of_c (Rt.c (dr_is h1 h2 bP hP hS1 qc _ (fun j => (HQ j).gr hg)))) .nil
 case hv1 =>
  refine .cons (.mk (fun _ _ _ => rfl) (fun _ v b H F => by dsimp only at H ⊢; simp [go_sem, exI, H, F]) zPj ⟨fkc, fkc, fkc, fkc, fkc, fkc, fkc, fka, fka, fku, fku, fkc, trivial⟩) ?_
  refine .cons (.mk (fun _ _ _ => rfl) (fun _ v b H F => by dsimp only at H ⊢; simp [go_sem, exI, H, F]) zPnt ⟨fkc, fkc, fkc, fkc, fkc, fkc, fkc, fka, fka, fku, fku, fkc, trivial⟩) .nil
 intro yw4 v1 hg h4 hV4
 simp only [FW, putFrom, Act.put, lqA, lqB, lqC, wvals, kW, lqD, lqE, Kw.c, Kw.a, Kw.u]
 obtain ⟨⟨N4_7, V4_7⟩, ⟨N4_8, V4_8⟩, -⟩ : (v0.heap.size ≤ (yw4 7 0).2 ∧ Vr v1 (yw4 7 0).2 (prj S1.1 S1.2.1 S1.2.2)) ∧ (v0.heap.size ≤ (yw4 8 0).2 ∧ Vr v1 (yw4 8 0).2 (pnt P.1 P.2.1 P.2.2)) ∧ True := hV4
 clear h4
 have g4 := hg
 clear hg
 go_upto_region 5 with fail
 refine wp_v false [.c (.agg (crA (k : Int) (nN k) qc)), .c (.int .u64 (n2 : Int)), .c (.tuple #[.agg (prj S2.1 S2.2.1 S2.2.2), .agg (pnt Q.1 Q.2.1 Q.2.2), .bool true]), .c (.tuple #[.agg (prj S2.1 S2.2.1 S2.2.2), .agg (pnt Q.1 Q.2.1 Q.2.2), .bool true]), .c (.agg (prj S2.1 S2.2.1 S2.2.2)), .c (.agg (pnt Q.1 Q.2.1 Q.2.2)), .c (.bool true), .a, .a, .u, .u, .c (.bool true)] [0, 2] [⟨7, 9, 27, prj 0 0 0, fun _ => prj S2.1 S2.2.1 S2.2.2⟩, ⟨8, 10, 35, pnt 0 0 false, fun _ => pnt Q.1 Q.2.1 Q.2.2⟩] ?hs2 ?hv2 ?hf2
 case hs2 =>
  refine .cons (.g 31 0 (c9.gr g4) rfl) ?_
  refine .cons (.k _ fun yy vv hg hh => RtW.of_c (Rt.c (dr_is h1 h2 bQ hQ hS2 qc _ (fun j => (HQ j).gr (g4.trans hg))))) .nil
 case hv2 =>
  refine .cons (.mk (fun _ _ _ => rfl) (fun _ v b H F => by dsimp only at H ⊢; simp [go_sem, exI, H, F]) zPj ⟨fkc, fkc, fkc, fkc, fkc, fkc, fkc, fka, fka, fku, fku, fkc, trivial⟩) ?_
  refine .cons (.mk (fun _ _ _ => rfl) (fun _ v b H F => by dsimp only at H ⊢; simp [go_sem, exI, H, F]) zPnt ⟨fkc, fkc, fkc, fkc, fkc, fkc, fkc, fka, fka, fku, fku, fkc, trivial⟩) .nil
 intro yw5 v2 hg h5 hV5
 simp only [FW, putFrom, Act.put, lqA, lqB, lqC, wvals, kW, lqD, lqE, Kw.c, Kw.a, Kw.u]
 obtain ⟨⟨N5_7, V5_7⟩, ⟨N5_8, V5_8⟩, -⟩ : (v1.heap.size ≤ (yw5 7 0).2 ∧ Vr v2 (yw5 7 0).2 (prj S2.1 S2.2.1 S2.2.2)) ∧ (v1.heap.size ≤ (yw5 8 0).2 ∧ Vr v2 (yw5 8 0).2 (pnt Q.1 Q.2.1 Q.2.2)) ∧ True := hV5
 clear h5
 replace g4 := g4.trans hg
 have g5 := hg
 clear hg
 go_upto_region 6 with fail
 refine wp_v false [.c (.agg (crA (k : Int) (nN k) qc)), .c (.int .u64 (n3 : Int)), .c (.tuple #[.agg (prj S3.1 S3.2.1 S3.2.2), .agg (pnt R.1 R.2.1 R.2.2), .bool true]), .c (.tuple #[.agg (prj S3.1 S3.2.1 S3.2.2), .agg (pnt R.1 R.2.1 R.2.2), .bool true]), .c (.agg (prj S3.1 S3.2.1 S3.2.2)), .c (.agg (pnt R.1 R.2.1 R.2.2)), .c (.bool true), .a, .a, .u, .u, .c (.bool true)] [0, 2] [⟨7, 9, 27, prj 0 0 0, fun _ => prj S3.1 S3.2.1 S3.2.2⟩, ⟨8, 10, 35, pnt 0 0 false, fun _ => pnt R.1 R.2.1 R.2.2⟩] ?hs3 ?hv3 ?hf3
 case hs3 =>
  refine .cons (.g 31 0 (c9.gr g4) rfl) ?_
  refine .cons (.k _ fun yy vv hg hh => RtW.of_c (Rt.c (dr_is h1 h2 bR hR hS3 qc _ (fun j => (HQ j).gr (g4.trans hg))))) .nil
 case hv3 =>
  refine .cons (.mk (fun _ _ _ => rfl) (fun _ v b H F => by dsimp only at H ⊢; simp [go_sem, exI, H, F]) zPj ⟨fkc, fkc, fkc, fkc, fkc, fkc, fkc, fka, fka, fku, fku, fkc, trivial⟩) ?_
  refine .cons (.mk (fun _ _ _ => rfl) (fun _ v b H F => by dsimp only at H ⊢; simp [go_sem, exI, H, F]) zPnt ⟨fkc, fkc, fkc, fkc, fkc, fkc, fkc, fka, fka, fku, fku, fkc, trivial⟩) .nil
 intro yw6 v3 hg h6 hV6
 simp only [FW, putFrom, Act.put, lqA, lqB, lqC, wvals, kW, lqD, lqE, Kw.c, Kw.a, Kw.u]
 obtain ⟨⟨N6_7, V6_7⟩, ⟨N6_8, V6_8⟩, -⟩ : (v2.heap.size ≤ (yw6 7 0).2 ∧ Vr v3 (yw6 7 0).2 (prj S3.1 S3.2.1 S3.2.2)) ∧ (v2.heap.size ≤ (yw6 8 0).2 ∧ Vr v3 (yw6 8 0).2 (pnt R.1 R.2.1 R.2.2)) ∧ True := hV6
 clear h6
 replace g4 := g4.trans hg
 replace g5 := g5.trans hg
 have g6 := hg
 clear hg
 go_upto_region 7 with fail
 refine wp_wS [.c (.bool true), .c (.bool false), .c (.bool false), .c (.bool true), .c (.bool false), .c (.bool false), .c (.bool false), .c (.bool true), .c (.bool false), .c (.bool false), .c (.bool false), .c (.bool true), .c (.bool false), .c (.bool false)] [] ?hs4 ?hf4
 case hs4 => exact .nil
 intro yw7 v4 hg h7
 simp only [FW, putFrom, Act.put, lqA, lqB, lqC, wvals, kW, lqD, lqE, Kw.c]
 clear h7
 replace g4 := g4.trans hg
 replace g5 := g5.trans hg
 replace g6 := g6.trans hg
 have g7 := hg
 clear hg
 go_upto_region 9 with fail
 refine wp_v false [.c (pv e9 0), .c (.int .i64 (k : Int)), .c (.agg (prj S1.1 S1.2.1 S1.2.2)), .c (.agg (prj S2.1 S2.2.1 S2.2.2)), .c (.tuple #[.agg (prj A1.1 A1.2.1 A1.2.2), .int .i64 0]), .c (.tuple #[.agg (prj A1.1 A1.2.1 A1.2.2), .int .i64 0]), .c (.agg (prj A1.1 A1.2.1 A1.2.2)), .c (.int .i64 0), .a, .u, .c (.int .i64 0)] [1, 2, 3, 4] [⟨8, 9, 27, prj 0 0 0, fun _ => prj A1.1 A1.2.1 A1.2.2⟩] ?hs5 ?hv5 ?hf5
 case hs5 =>
  refine .cons (.o 3 0 (c9.gr g4) rfl rfl) ?_
  refine .cons (.g 27 0 (V4_7.gr g5) rfl) ?_
  refine .cons (.g 27 0 (V5_7.gr g6) rfl) ?_
  refine .cons (.k _ fun yy vv hg hh => RtW.of_c (Rt.c (jaddQ h1 h2 (S := S1) (T := S2) (R := A1) trS1 trS2 hA1 _))) .nil
 case hv5 =>
  refine .cons (.mk (fun _ _ _ => rfl) (fun _ v b H F => by dsimp only at H ⊢; simp [go_sem, exI, H, F]) zPj ⟨fkc, fkc, fkc, fkc, fkc, fkc, fkc, fkc, fka, fku, fkc, trivial⟩) .nil
 intro yw9 v5 hg h9 hV9
 simp only [FW, putFrom, Act.put, lqA, lqB, lqC, wvals, kW, lqD, lqE, Kw.c, pv, Kw.a, Kw.u]
 obtain ⟨⟨N9_8, V9_8⟩, -⟩ : (v4.heap.size ≤ (yw9 8 0).2 ∧ Vr v5 (yw9 8 0).2 (prj A1.1 A1.2.1 A1.2.2)) ∧ True := hV9
 clear h9
 replace g4 := g4.trans hg
 replace g5 := g5.trans hg
 replace g6 := g6.trans hg
 replace g7 := g7.trans hg
 clear hg
 go_upto_region 10 with fail
 refine wp_v false [.c (pv e9 0), .c (.int .i64 (k : Int)), .c (.agg (prj A1.1 A1.2.1 A1.2.2)), .c (.agg (prj S3.1 S3.2.1 S3.2.2)), .c (.tuple #[.agg (prj A2.1 A2.2.1 A2.2.2), .int .i64 0]), .c (.tuple #[.agg (prj A2.1 A2.2.1 A2.2.2), .int .i64 0]), .c (.agg (prj A2.1 A2.2.1 A2.2.2)), .c (.int .i64 0), .a, .u, .c (.int .i64 0)] [1, 2, 3, 4] [⟨8, 9, 27, prj 0 0 0, fun _ => prj A2.1 A2.2.1 A2.2.2⟩] ?hs6 ?hv6 ?hf6
 case hs6 =>
  refine .cons (.o 3 0 (c9.gr g4) rfl rfl) ?_
  refine .cons (.g 27 0 V9_8 rfl) ?_
  refine .cons (.g 27 0 (V6_7.gr g7) rfl) ?_
  refine .cons (.k _ fun yy vv hg hh => RtW.of_c (Rt.c (jaddQ h1 h2 (S := A1) (T := S3) (R := A2) trA1 trS3 hA2 _))) .nil
 case hv6 =>
  refine .cons (.mk (fun _ _ _ => rfl) (fun _ v b H F => by dsimp only at H ⊢; simp [go_sem, exI, H, F]) zPj ⟨fkc, fkc, fkc, fkc, fkc, fkc, fkc, fkc, fka, fku, fkc, trivial⟩) .nil
 intro yw10 v6 hg h10 hV10
 simp only [FW, putFrom, Act.put, lqA, lqB, lqC, wvals, kW, lqD, lqE, Kw.c, pv, Kw.a, Kw.u]
 obtain ⟨⟨N10_8, V10_8⟩, -⟩ : (v5.heap.size ≤ (yw10 8 0).2 ∧ Vr v6 (yw10 8 0).2 (prj A2.1 A2.2.1 A2.2.2)) ∧ True := hV10
 clear h10
 replace g4 := g4.trans hg
 replace g5 := g5.trans hg
 replace g6 := g6.trans hg
 replace g7 := g7.trans hg
 have g10 := hg
 clear hg
 go_upto_region 11 with fail
 refine wp_v false [.c (pv e9 0), .c (.int .i64 (k : Int)), .c (.agg (prj S2.1 S2.2.1 S2.2.2)), .c (.agg (prj S3.1 S3.2.1 S3.2.2)), .c (.tuple #[.agg (prj A3.1 A3.2.1 A3.2.2), .int .i64 0]), .c (.tuple #[.agg (prj A3.1 A3.2.1 A3.2.2), .int .i64 0]), .c (.agg (prj A3.1 A3.2.1 A3.2.2)), .c (.int .i64 0), .a, .u, .c (.int .i64 0)] [1, 2, 3, 4] [⟨8, 9, 27, prj 0 0 0, fun _ => prj A3.1 A3.2.1 A3.2.2⟩] ?hs7 ?hv7 ?hf7
 case hs7 =>
  refine .cons (.o 3 0 (c9.gr g4) rfl rfl) ?_
  refine .cons (.g 27 0 (V5_7.gr g6) rfl) ?_
  refine .cons (.g 27 0 (V6_7.gr g7) rfl) ?_
  refine .cons (.k _ fun yy vv hg hh => RtW.of_c (Rt.c (jaddQ h1 h2 (S := S2) (T := S3) (R := A3) trS2 trS3 hA3 _))) .nil
 case hv7 =>
  refine .cons (.mk (fun _ _ _ => rfl) (fun _ v b H F => by dsimp only at H ⊢; simp [go_sem, exI, H, F]) zPj ⟨fkc, fkc, fkc, fkc, fkc, fkc, fkc, fkc, fka, fku, fkc, trivial⟩) .nil
 intro yw11 v7 hg h11 hV11
 simp only [FW, putFrom, Act.put, lqA, lqB, lqC, wvals, kW, lqD, lqE, Kw.c, pv, Kw.a, Kw.u]
 obtain ⟨⟨N11_8, V11_8⟩, -⟩ : (v6.heap.size ≤ (yw11 8 0).2 ∧ Vr v7 (yw11 8 0).2 (prj A3.1 A3.2.1 A3.2.2)) ∧ True := hV11
 clear h11
 replace g10 := g10.trans hg
 replace g4 := g4.trans hg
 replace g5 := g5.trans hg
 replace g6 := g6.trans hg
 replace g7 := g7.trans hg
 have g11 := hg
 clear hg
 go_upto_region 12 with fail
 refine wp_v false [.c (pv e9 0), .c (.int .i64 (k : Int)), .c (.agg (prj A3.1 A3.2.1 A3.2.2)), .c (.agg (prj S1.1 S1.2.1 S1.2.2)), .c (.tuple #[.agg (prj A4.1 A4.2.1 A4.2.2), .int .i64 0]), .c (.tuple #[.agg (prj A4.1 A4.2.1 A4.2.2), .int .i64 0]), .c (.agg (prj A4.1 A4.2.1 A4.2.2)), .c (.int .i64 0), .a, .u, .c (.int .i64 0)] [1, 2, 3, 4] [⟨8, 9, 27, prj 0 0 0, fun _ => prj A4.1 A4.2.1 A4.2.2⟩] ?hs8 ?hv8 ?hf8
 case hs8 =>
  refine .cons (.o 3 0 (c9.gr g4) rfl rfl) ?_
  refine .cons (.g 27 0 V11_8 rfl) ?_
  refine .cons (.g 27 0 (V4_7.gr g5) rfl) ?_
  refine .cons (.k _ fun yy vv hg hh => RtW.of_c (Rt.c (jaddQ h1 h2 (S := A3) (T := S1) (R := A4) trA3 trS1 hA4 _))) .nil
 case hv8 =>
  refine .cons (.mk (fun _ _ _ => rfl) (fun _ v b H F => by dsimp only at H ⊢; simp [go_sem, exI, H, F]) zPj ⟨fkc, fkc, fkc, fkc, fkc, fkc, fkc, fkc, fka, fku, fkc, trivial⟩) .nil
 intro yw12 v8 hg h12 hV12
 simp only [FW, putFrom, Act.put, lqA, lqB, lqC, wvals, kW, lqD, lqE, Kw.c, pv, Kw.a, Kw.u]
 obtain ⟨⟨N12_8, V12_8⟩, -⟩ : (v7.heap.size ≤ (yw12 8 0).2 ∧ Vr v8 (yw12 8 0).2 (prj A4.1 A4.2.1 A4.2.2)) ∧ True := hV12
 clear h12
 replace g10 := g10.trans hg
 replace g11 := g11.trans hg
 replace g4 := g4.trans hg
 replace g5 := g5.trans hg
 replace g6 := g6.trans hg
 replace g7 := g7.trans hg
 have g12 := hg
 clear hg
 go_upto_region 13 with fail
 refine wp_v false [.c (pv e9 0), .c (.int .i64 (k : Int)), .c (.agg (prj A2.1 A2.2.1 A2.2.2)), .c (.tuple #[.agg (pnt Y.1 Y.2.1 Y.2.2), .int .i64 0]), .c (.tuple #[.agg (pnt Y.1 Y.2.1 Y.2.2), .int .i64 0]), .c (.agg (pnt Y.1 Y.2.1 Y.2.2)), .c (.int .i64 0), .a, .u, .c (.int .i64 0)] [1, 2, 3] [⟨7, 8, 35, pnt 0 0 false, fun _ => pnt Y.1 Y.2.1 Y.2.2⟩] ?hs9 ?hv9 ?hf9
 case hs9 =>
  refine .cons (.o 3 0 (c9.gr g4) rfl rfl) ?_
  refine .cons (.g 27 0 (V10_8.gr g11) rfl) ?_
  refine .cons (.k _ fun yy vv hg hh => RtW.of_c (Rt.c (toQ h1 h2 (T := A2) (Q := Y) trA2 _))) .nil
 case hv9 =>
  refine .cons (.mk (fun _ _ _ => rfl) (fun _ v b H F => by dsimp only at H ⊢; simp [go_sem, exI, H, F]) zPnt ⟨fkc, fkc, fkc, fkc, fkc, fkc, fkc, fka, fku, fkc, trivial⟩) .nil
 intro yw13 v9 hg h13 hV13
 simp only [FW, putFrom, Act.put, lqA, lqB, lqC, wvals, kW, lqD, lqE, Kw.c, pv, Kw.a, Kw.u]
 obtain ⟨⟨N13_7, V13_7⟩, -⟩ : (v8.heap.size ≤ (yw13 7 0).2 ∧ Vr v9 (yw13 7 0).2 (pnt Y.1 Y.2.1 Y.2.2)) ∧ True := hV13
 clear h13
 replace g10 := g10.trans hg
 replace g11 := g11.trans hg
 replace g12 := g12.trans hg
 replace g4 := g4.trans hg
 replace g5 := g5.trans hg
 replace g6 := g6.trans hg
 replace g7 := g7.trans hg
 have g13 := hg
 clear hg
 go_upto_region 14 with fail
 refine wp_v false [.c (pv e9 0), .c (.int .i64 (k : Int)), .c (.agg (prj A4.1 A4.2.1 A4.2.2)), .c (.tuple #[.agg (pnt Y.1 Y.2.1 Y.2.2), .int .i64 0]), .c (.tuple #[.agg (pnt Y.1 Y.2.1 Y.2.2), .int .i64 0]), .c (.agg (pnt Y.1 Y.2.1 Y.2.2)), .c (.int .i64 0), .a, .u, .c (.int .i64 0)] [1, 2, 3] [⟨7, 8, 35, pnt 0 0 false, fun _ => pnt Y.1 Y.2.1 Y.2.2⟩] ?hs10 ?hv10 ?hf10
 case hs10 =>
  refine .cons (.o 3 0 (c9.gr g4) rfl rfl) ?_
  refine .cons (.g 27 0 (V12_8.gr g13) rfl) ?_
  refine .cons (.k _ fun yy vv hg hh => RtW.of_c (Rt.c (toQ h1 h2 (T := A4) (Q := Y) trA4 _))) .nil
 case hv10 =>
  refine .cons (.mk (fun _ _ _ => rfl) (fun _ v b H F => by dsimp only at H ⊢; simp [go_sem, exI, H, F]) zPnt ⟨fkc, fkc, fkc, fkc, fkc, fkc, fkc, fka, fku, fkc, trivial⟩) .nil
 intro yw14 v10 hg h14 hV14
 simp only [FW, putFrom, Act.put, lqA, lqB, lqC, wvals, kW, lqD, lqE, Kw.c, pv, Kw.a, Kw.u]
 obtain ⟨⟨N14_7, V14_7⟩, -⟩ : (v9.heap.size ≤ (yw14 7 0).2 ∧ Vr v10 (yw14 7 0).2 (pnt Y.1 Y.2.1 Y.2.2)) ∧ True := hV14
 clear h14
 replace g10 := g10.trans hg
 replace g11 := g11.trans hg
 replace g12 := g12.trans hg
 replace g13 := g13.trans hg
 replace g4 := g4.trans hg
 replace g5 := g5.trans hg
 replace g6 := g6.trans hg
 replace g7 := g7.trans hg
 have g14 := hg
 clear hg
 go_upto_region 15 with fail
 refine wp_v false [.c (pv e9 0), .c (.int .i64 (k : Int)), .c (.agg (prj A1.1 A1.2.1 A1.2.2)), .c (.tuple #[.agg (pnt X.1 X.2.1 X.2.2), .int .i64 0]), .c (.tuple #[.agg (pnt X.1 X.2.1 X.2.2), .int .i64 0]), .c (.agg (pnt X.1 X.2.1 X.2.2)), .c (.int .i64 0), .a, .u, .c (.int .i64 0)] [1, 2, 3] [⟨7, 8, 35, pnt 0 0 false, fun _ => pnt X.1 X.2.1 X.2.2⟩] ?hs11 ?hv11 ?hf11
 case hs11 =>
  refine .cons (.o 3 0 (c9.gr g4) rfl rfl) ?_
  refine .cons (.g 27 0 (V9_8.gr g10) rfl) ?_
  refine .cons (.k _ fun yy vv hg hh => RtW.of_c (Rt.c (toQ h1 h2 (T := A1) (Q := X) trA1 _))) .nil
 case hv11 =>
  refine .cons (.mk (fun _ _ _ => rfl) (fun _ v b H F => by dsimp only at H ⊢; simp [go_sem, exI, H, F]) zPnt ⟨fkc, fkc, fkc, fkc, fkc, fkc, fkc, fka, fku, fkc, trivial⟩) .nil
 intro yw15 v11 hg h15 hV15
 simp only [FW, putFrom, Act.put, lqA, lqB, lqC, wvals, kW, lqD, lqE, Kw.c, pv, Kw.a, Kw.u]
 obtain ⟨⟨N15_7, V15_7⟩, -⟩ : (v10.heap.size ≤ (yw15 7 0).2 ∧ Vr v11 (yw15 7 0).2 (pnt X.1 X.2.1 X.2.2)) ∧ True := hV15
 clear h15
 replace g10 := g10.trans hg
 replace g11 := g11.trans hg
 replace g12 := g12.trans hg
 replace g13 := g13.trans hg
 replace g14 := g14.trans hg
 replace g4 := g4.trans hg
 replace g5 := g5.trans hg
 replace g6 := g6.trans hg
 replace g7 := g7.trans hg
 have g15 := hg
 clear hg
 go_upto_region 16 with fail
 refine wp_v false [.c (pv e9 0), .c (.int .i64 (k : Int)), .c (.agg (pnt P.1 P.2.1 P.2.2)), .c (.agg (pnt Q.1 Q.2.1 Q.2.2)), .c (.tuple #[.agg (pnt X.1 X.2.1 X.2.2), .int .i64 0]), .c (.tuple #[.agg (pnt X.1 X.2.1 X.2.2), .int .i64 0]), .c (.agg (pnt X.1 X.2.1 X.2.2)), .c (.int .i64 0), .a, .u, .c (.int .i64 0)] [1, 2, 3, 4] [⟨8, 9, 35, pnt 0 0 false, fun _ => pnt X.1 X.2.1 X.2.2⟩] ?hs12 ?hv12 ?hf12
 case hs12 =>
  refine .cons (.o 3 0 (c9.gr g4) rfl rfl) ?_
  refine .cons (.g 35 0 (V4_8.gr g5) rfl) ?_
  refine .cons (.g 35 0 (V5_8.gr g6) rfl) ?_
  refine .cons (.k _ fun yy vv hg hh => RtW.of_c (Rt.c (addQ h1 h2 (P := P) (Q := Q) (R := X) oP oQ hX _))) .nil
 case hv12 =>
  refine .cons (.mk (fun _ _ _ => rfl) (fun _ v b H F => by dsimp only at H ⊢; simp [go_sem, exI, H, F]) zPnt ⟨fkc, fkc, fkc, fkc, fkc, fkc, fkc, fkc, fka, fku, fkc, trivial⟩) .nil
 intro yw16 v12 hg h16 hV16
 simp only [FW, putFrom, Act.put, lqA, lqB, lqC, wvals, kW, lqD, lqE, Kw.c, pv, Kw.a, Kw.u]
 obtain ⟨⟨N16_8, V16_8⟩, -⟩ : (v11.heap.size ≤ (yw16 8 0).2 ∧ Vr v12 (yw16 8 0).2 (pnt X.1 X.2.1 X.2.2)) ∧ True := hV16
 clear h16
 replace g10 := g10.trans hg
 replace g11 := g11.trans hg
 replace g12 := g12.trans hg
 replace g13 := g13.trans hg
 replace g14 := g14.trans hg
 replace g15 := g15.trans hg
 replace g4 := g4.trans hg
 replace g5 := g5.trans hg
 replace g6 := g6.trans hg
 replace g7 := g7.trans hg
 have g16 := hg
 clear hg
 go_upto_region 17 with fail
 refine wp_wS [.c (.int .i64 0), .c (.int .i64 0), .c (.bool true), .c (.bool true), .c (.int .i64 0), .c (.int .i64 0), .c (.bool true), .c (.bool true), .c (.bool true), .c (.int .i64 0), .c (.int .i64 0), .c (.bool true), .c (.bool true), .c (.bool true), .c (.int .i64 0), .c (.int .i64 0), .c (.bool true), .c (.bool true), .c (.bool true), .c (.agg (pnt Y.1 Y.2.1 Y.2.2)), .c (.agg (pnt Y.1 Y.2.1 Y.2.2)), .c (.bool true), .c (.bool true), .c (.bool true), .c (.agg (pnt X.1 X.2.1 X.2.2)), .c (.agg (pnt X.1 X.2.1 X.2.2)), .c (.bool true), .c (.bool true), .c (.bool true)] [1, 5, 10, 15, 19, 20, 21, 24, 25, 26] ?hs13 ?hf13
 case hs13 =>
  refine .cons (.k _ fun yy vv hg hh => RtW.of_c (Rt.same (num_any _ _))) ?_
  refine .cons (.k _ fun yy vv hg hh => RtW.of_c (Rt.same (num_any _ _))) ?_
  refine .cons (.k _ fun yy vv hg hh => RtW.of_c (Rt.same (num_any _ _))) ?_
  refine .cons (.k _ fun yy vv hg hh => RtW.of_c (Rt.same (num_any _ _))) ?_
  refine .cons (.g 35 0 (V13_7.gr g14) rfl) ?_
  refine .cons (.g 35 0 (V14_7.gr g15) rfl) ?_
  refine .cons (.s (.binOp .eql 35 (.const (.agg (pnt Y.1 Y.2.1 Y.2.2))) (.const (.agg (pnt Y.1 Y.2.1 Y.2.2))) 35) rfl fun vv hg => by simp [go_sem, exI, eqPn, eqN_self]) ?_
  refine .cons (.g 35 0 (V15_7.gr g16) rfl) ?_
  refine .cons (.g 35 0 V16_8 rfl) ?_
  refine .cons (.s (.binOp .eql 35 (.const (.agg (pnt X.1 X.2.1 X.2.2))) (.const (.agg (pnt X.1 X.2.1 X.2.2))) 35) rfl fun vv hg => by simp [go_sem, exI, eqPn, eqN_self]) .nil
 intro yw17 v13 hg h17
 simp only [FW, putFrom, Act.put, lqA, lqB, lqC, wvals, kW, lqD, lqE, Kw.c]
 clear h17
 replace g10 := g10.trans hg
 replace g11 := g11.trans hg
 replace g12 := g12.trans hg
 replace g13 := g13.trans hg
 replace g14 := g14.trans hg
 replace g15 := g15.trans hg
 replace g16 := g16.trans hg
 replace g4 := g4.trans hg
 replace g5 := g5.trans hg
 replace g6 := g6.trans hg
 replace g7 := g7.trans hg
 have g17 := hg
 clear hg
 replace G := G.trans g4
 replace c9 := c9.gr g4
 replace HQ := fun k => (HQ k).gr g4
 replace V4_7 := V4_7.gr g5
 replace V4_8 := V4_8.gr g5
 replace V5_7 := V5_7.gr g6
 replace V5_8 := V5_8.gr g6
 replace V6_7 := V6_7.gr g7
 replace V6_8 := V6_8.gr g7
 replace V9_8 := V9_8.gr g10
 replace V10_8 := V10_8.gr g11
 replace V11_8 := V11_8.gr g12
 replace V12_8 := V12_8.gr g13
 replace V13_7 := V13_7.gr g14
 replace V14_7 := V14_7.gr g15
 replace V15_7 := V15_7.gr g16
 replace V16_8 := V16_8.gr g17
 clear g10 g11 g12 g13 g14 g15 g16 g17 g4 g5 g6 g7
 go_wp2_with fail
 go_ret
 exact ⟨rfl, G⟩
end
end
end Go.Proofs.YtempibiahmmppaaGreat
