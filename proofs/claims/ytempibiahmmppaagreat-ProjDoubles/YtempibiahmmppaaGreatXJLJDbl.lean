import Derived.Test.YtempibiahmmppaaGreatXJJH
import Derived.Test.YtempibiahmmppaaGreatXJCC
namespace Go.Proofs.YtempibiahmmppaaGreat
open Go.RowKit
set_option maxRecDepth 100000
set_option maxHeartbeats 8000000
section
attribute [local go_sem ↓] loadNat_is loadArr_is loadWide_is loadArrW_is storeNat_is storeWide_is
attribute [local go_sem] loadNat loadArr loadWide loadArrW storeNat storeWide idxArr fold9 fold18 nw_size nw_elem pre_self pre_1 pre_2 pre_3 pre_4 pre_5 pre_6 pre_7 pre_8 pre_9 pre_10 pre_11 pre_12 pre_13 pre_14 pre_15 pre_16 pre_17 pre_18 pre_19 pre_20 pre_21 pre_22 pre_23 pre_24 pre_25 pre_26 pre_27 pre_28 pre_29 pre_30 pre_31 pre_32 pre_33 pre_34 pre_35 pre_36 pre_37 pre_38 pre_39 pre_40 gro_size gro_drew gro_drewN drew_gro drewN_gro gro_gro blk_gro frz_gro blk_drew frz_drew blk_drewN frz_drewN blk_alloc_at frz_alloc_at blk_alloc frz_alloc cell_gro frozen_gro cell_alloc_pre frozen_alloc_pre setCell_drewN alloc_drewN setBlk_drew setBlk_drewN setBlk_alloc_at setBlk_alloc setBlk_gro setCell_gro setCell_alloc_pre size_setBlk size_setCell
section
attribute [local go_sem] ppre_1 ppre_2 ppre_3 ppre_4 ppre_5 ppre_6
attribute [local go_sem ↓] bsl_is loadC_is storeC_is loadPt_is storePt_is zvPt_is buildPt_is loadPn_is storePn_is zvPn_is loadCu_is storeCu_is zvCu_is buildCu_is buildPn_is Go.wp_at_zero Go.wp_at_succ
attribute [local go_sem] loadC storeC0 storeCr crA_size loadPt storePt zvPt ptA_size loadPn storePn zvPn pnt_size loadCu storeCu zvCu cu_size buildCu0 buildPnI buildPn2 loadCP loadCA loadCB loadCN loadCG loadCX loadCY cu_P cu_A cu_B cu_N cu_G cu_X cu_Y frz_setBlk blk_setBlk setBlk_setBlk blk_other
attribute [local go_sem ↓] loadPj_is storePj_is zvPj_is buildPj_is
attribute [local go_sem] loadPj storePj zvPj buildPj0 buildPj1 buildPj2 buildPj3 loadJX loadJY loadJZ prj_size prj_X prj_Y prj_Z
theorem p200 (k : Nat) (h1 : 1 ≤ k) (h2 : k ≤ 15) : 200 < pN k := by
 obtain rfl | rfl | rfl | rfl | rfl | rfl | rfl | rfl | rfl | rfl | rfl | rfl | rfl | rfl | rfl : k = 1 ∨ k = 2 ∨ k = 3 ∨ k = 4 ∨ k = 5 ∨ k = 6 ∨ k = 7 ∨ k = 8 ∨ k = 9 ∨ k = 10 ∨ k = 11 ∨ k = 12 ∨ k = 13 ∨ k = 14 ∨ k = 15 := by omega
 all_goals decide +kernel
theorem ljdbl_any (id : Int) (n1 n2 : Nat) (bn1 : n1 < 18446744073709551616) (bn2 : n2 < 18446744073709551616) (w : World) : Cg 7 #[.int .i64 id, .int .u64 (n1 : Int), .int .u64 (n2 : Int)] w (.bool true) := by
 obtain ⟨u, hu, hu2, hk⟩ := idx_conv id
 have hbd := idx_bd id
 obtain ⟨k, hkk⟩ : ∃ k, idx id = k := ⟨_, rfl⟩
 rw [hkk] at hk hbd
 obtain ⟨h1, h2⟩ := hbd
 have u0 : (0 : Int) ≤ (u : Int) := by omega
 have hk2 : (1 : Int) + (u : Int) % 15 = (k : Int) := by omega
 have hk3 : IntKind.i64.wrap ((u : Int) % 15) = (u : Int) % 15 := by rw [IntKind.wrap_i64]; omega
 have hk4 : IntKind.u64.wrap ((u : Int) % 15) = (u : Int) % 15 := by rw [IntKind.wrap_u64]; omega
 have hk5 : (u : Int).tmod 15 = (u : Int) % 15 := by rw [Int.tmod_eq_emod_of_nonneg (by omega)]
 have k0 : (1 : Int) ≤ (k : Int) := by omega
 have k1 : (k : Int) ≤ 15 := by omega
 have hu3 : id % 18446744073709551616 = (u : Int) := by rw [← hu, IntKind.wrap_u64]
 clear hkk hk
 have HGR : Hid (∀ w, Calls Tryz.prog 10 #[.int .i64 (k : Int)] w (GetQ k w)) := fun w => getq_yes k h1 h2 w
 have HAW : Hid (∀ w, Cg 15 #[] w (.bool true)) := fun w => awake15_any w
 go_enter Tryz.func7, Tryz.ntmps7
 go_upto_region 4 with (first
   | (go_at_call 15; refine (HAW.out _).mono ?_; rintro e WA ⟨rfl, GA⟩)
   | (go_at_call 10; refine (HGR.out _).mono ?_; rintro e WB ⟨qc, rfl, HQ, GB⟩))
 obtain ⟨e9, he9⟩ : ∃ b, WB.heap.size = b := ⟨_, rfl⟩
 simp only [he9]
 refine gen_w (fun v => Gr w v ∧ Vr v e9 (crA (k : Int) (nN k) qc) ∧ ∀ j, Sl v (qc j).1 (nN k j)) ?_ ?_
 · subst he9
   exact ⟨(GA.trans GB).alloc _, Vr.new _ _ _, fun j => (HQ j).gr ((Gr.refl _).alloc _)⟩
 clear he9 GA GB HQ HAW HGR hu hu2 hk2 hk3 hk4 hk5 hu3 u0 k0 k1
 rintro v0 ⟨G, c9, HQ⟩
 obtain ⟨P, hP⟩ : ∃ Z, mlQ k n1 (gQ k) = Z := ⟨_, rfl⟩
 have oP : OnQ k P := hP ▸ mlQ_on h1 h2 _ (gQ_on h1 h2)
 have bP := bn1
 obtain ⟨S1, hS1⟩ : ∃ Z, frT P = Z := ⟨_, rfl⟩
 have trS1 : TrQ k S1 P := hS1 ▸ frT_tr h1 h2 oP
 obtain ⟨A1, hA1⟩ : ∃ Z, addT k S1 S1 = Z := ⟨_, rfl⟩
 obtain ⟨X, hX⟩ : ∃ Z, plQ k P P = Z := ⟨_, rfl⟩
 have oX : OnQ k X := hX ▸ plQ_on h1 h2 oP oP
 have trA1 : TrQ k A1 X := hA1 ▸ hX ▸ addT_tr h1 h2 trS1 trS1
 obtain ⟨r1, hr1⟩ : ∃ z, n2 % 200 = z := ⟨_, rfl⟩
 have q1 : (n2 : Int).tmod 200 = (r1 : Int) := by rw [Int.tmod_eq_emod_of_nonneg (by omega)]; omega
 obtain ⟨O, hO⟩ : ∃ O : T3, O = (0, 1 + r1, 0) := ⟨_, rfl⟩
 have q2 : IntKind.u64.wrap (1 + (r1 : Int)) = (O.2.1 : Int) := by rw [hO, IntKind.wrap_u64]; show _ = ((1 + r1 : Nat) : Int); omega
 have lO : O.2.1 < 18446744073709551616 := by rw [hO]; show 1 + r1 < _; omega
 have hO0 : prj 0 O.2.1 0 = prj O.1 O.2.1 O.2.2 := by rw [hO]
 have trO : TrQ k O inf := hO ▸ inf_tr h1 h2 (by have := p200 k h1 h2; omega) (by omega)
 obtain ⟨A3, hA3⟩ : ∃ Z, addT k O O = Z := ⟨_, rfl⟩
 have trA3 : TrQ k A3 inf := hA3 ▸ plQ_inf h1 h2 (inf_on k) ▸ addT_tr h1 h2 trO trO
 obtain ⟨A2, hA2⟩ : ∃ Z, addT k O S1 = Z := ⟨_, rfl⟩
 have hOP : plQ k inf P = P := by rw [plQ_comm h1 h2 (inf_on k) oP, plQ_inf h1 h2 oP]
 have trA2 : TrQ k A2 P := by have := addT_tr h1 h2 trO trS1; rw [hA2, hOP] at this; exact this
 clear hO
 refine wp_v false [.c (.agg (crA (k : Int) (nN k) qc)), .c (.int .u64 (n1 : Int)), .c (.tuple #[.agg (prj S1.1 S1.2.1 S1.2.2), .agg (pnt P.1 P.2.1 P.2.2), .bool true]), .c (.tuple #[.agg (prj S1.1 S1.2.1 S1.2.2), .agg (pnt P.1 P.2.1 P.2.2), .bool true]), .c (.agg (prj S1.1 S1.2.1 S1.2.2)), .c (.agg (pnt P.1 P.2.1 P.2.2)), .c (.bool true), .a, .a, .u, .u, .c (.bool true)] [0, 2] [⟨7, 9, 27, prj 0 0 0, fun _ => prj S1.1 S1.2.1 S1.2.2⟩, ⟨8, 10, 35, pnt 0 0 false, fun _ => pnt P.1 P.2.1 P.2.2⟩] ?hs14 ?hv14 ?hf14
 case hs14 =>
  refine .cons (.g 31 0 c9 rfl) ?_
  refine .cons (.k _ fun yy vv hg hh => RtW.of_c (Rt.c (dr_is h1 h2 bP hP hS1 qc _ (fun j => (HQ j).gr hg)))) .nil
 case hv14 =>
  refine .cons (.mk (fun _ _ _ => rfl) (fun _ v b H F => by dsimp only at H ⊢; simp [go_sem, exI, H, F]) zPj ⟨fkc, fkc, fkc, fkc, fkc, fkc, fkc, fka, fka, fku, fku, fkc, trivial⟩) ?_
  refine .cons (.mk (fun _ _ _ => rfl) (fun _ v b H F => by dsimp only at H ⊢; simp [go_sem, exI, H, F]) zPnt ⟨fkc, fkc, fkc, fkc, fkc, fkc, fkc, fka, fka, fku, fku, fkc, trivial⟩) .nil
 intro yw4 v1 hg h4 hV4
 simp only [FW, putFrom, Act.put, lqA, lqB, lqC, wvals, kW, lqD, lqE, Kw.c, Kw.a, Kw.u]
 obtain ⟨⟨N4_7, V4_7⟩, ⟨N4_8, V4_8⟩, -⟩ : (v0.heap.size ≤ (yw4 7 0).2 ∧ Vr v1 (yw4 7 0).2 (prj S1.1 S1.2.1 S1.2.2)) ∧ (v0.heap.size ≤ (yw4 8 0).2 ∧ Vr v1 (yw4 8 0).2 (pnt P.1 P.2.1 P.2.2)) ∧ True := hV4
 clear h4
 have g4 := hg
 clear hg
 go_upto_region 5 with fail
 refine wp_wS [.c (.bool true), .c (.bool false), .c (.bool false), .c (.bool true), .c (.bool false), .c (.bool false)] [] ?hs15 ?hf15
 case hs15 => exact .nil
 intro yw5 v2 hg h5
 simp only [FW, putFrom, Act.put, lqA, lqB, lqC, wvals, kW, lqD, lqE, Kw.c]
 clear h5
 replace g4 := g4.trans hg
 have g5 := hg
 clear hg
 go_upto_region 7 with fail
 refine wp_v false [.c (pv e9 0), .c (.int .i64 (k : Int)), .c (.agg (prj S1.1 S1.2.1 S1.2.2)), .c (.tuple #[.agg (prj A1.1 A1.2.1 A1.2.2), .int .i64 0]), .c (.tuple #[.agg (prj A1.1 A1.2.1 A1.2.2), .int .i64 0]), .c (.agg (prj A1.1 A1.2.1 A1.2.2)), .c (.int .i64 0), .a, .u, .c (.int .i64 0)] [1, 2, 3] [⟨7, 8, 27, prj 0 0 0, fun _ => prj A1.1 A1.2.1 A1.2.2⟩] ?hs16 ?hv16 ?hf16
 case hs16 =>
  refine .cons (.o 3 0 (c9.gr g4) rfl rfl) ?_
  refine .cons (.g 27 0 (V4_7.gr g5) rfl) ?_
  refine .cons (.k _ fun yy vv hg hh => RtW.of_c (Rt.c (jdblQ h1 h2 (T := S1) (R := A1) trS1 hA1 _))) .nil
 case hv16 =>
  refine .cons (.mk (fun _ _ _ => rfl) (fun _ v b H F => by dsimp only at H ⊢; simp [go_sem, exI, H, F]) zPj ⟨fkc, fkc, fkc, fkc, fkc, fkc, fkc, fka, fku, fkc, trivial⟩) .nil
 intro yw7 v3 hg h7 hV7
 simp only [FW, putFrom, Act.put, lqA, lqB, lqC, wvals, kW, lqD, lqE, Kw.c, pv, Kw.a, Kw.u]
 obtain ⟨⟨N7_7, V7_7⟩, -⟩ : (v2.heap.size ≤ (yw7 7 0).2 ∧ Vr v3 (yw7 7 0).2 (prj A1.1 A1.2.1 A1.2.2)) ∧ True := hV7
 clear h7
 replace g4 := g4.trans hg
 replace g5 := g5.trans hg
 clear hg
 go_upto_region 8 with fail
 refine wp_v false [.c (pv e9 0), .c (.int .i64 (k : Int)), .c (.agg (prj S1.1 S1.2.1 S1.2.2)), .c (.agg (prj S1.1 S1.2.1 S1.2.2)), .c (.tuple #[.agg (prj A1.1 A1.2.1 A1.2.2), .int .i64 0]), .c (.tuple #[.agg (prj A1.1 A1.2.1 A1.2.2), .int .i64 0]), .c (.agg (prj A1.1 A1.2.1 A1.2.2)), .c (.int .i64 0), .a, .u, .c (.int .i64 0)] [1, 2, 3, 4] [⟨8, 9, 27, prj 0 0 0, fun _ => prj A1.1 A1.2.1 A1.2.2⟩] ?hs17 ?hv17 ?hf17
 case hs17 =>
  refine .cons (.o 3 0 (c9.gr g4) rfl rfl) ?_
  refine .cons (.g 27 0 (V4_7.gr g5) rfl) ?_
  refine .cons (.g 27 0 (V4_7.gr g5) rfl) ?_
  refine .cons (.k _ fun yy vv hg hh => RtW.of_c (Rt.c (jaddQ h1 h2 (S := S1) (T := S1) (R := A1) trS1 trS1 hA1 _))) .nil
 case hv17 =>
  refine .cons (.mk (fun _ _ _ => rfl) (fun _ v b H F => by dsimp only at H ⊢; simp [go_sem, exI, H, F]) zPj ⟨fkc, fkc, fkc, fkc, fkc, fkc, fkc, fkc, fka, fku, fkc, trivial⟩) .nil
 intro yw8 v4 hg h8 hV8
 simp only [FW, putFrom, Act.put, lqA, lqB, lqC, wvals, kW, lqD, lqE, Kw.c, pv, Kw.a, Kw.u]
 obtain ⟨⟨N8_8, V8_8⟩, -⟩ : (v3.heap.size ≤ (yw8 8 0).2 ∧ Vr v4 (yw8 8 0).2 (prj A1.1 A1.2.1 A1.2.2)) ∧ True := hV8
 clear h8
 replace g4 := g4.trans hg
 replace g5 := g5.trans hg
 have g8 := hg
 clear hg
 go_upto_region 9 with fail
 refine wp_v false [.c (pv e9 0), .c (.int .i64 (k : Int)), .c (.agg (prj A1.1 A1.2.1 A1.2.2)), .c (.tuple #[.agg (pnt X.1 X.2.1 X.2.2), .int .i64 0]), .c (.tuple #[.agg (pnt X.1 X.2.1 X.2.2), .int .i64 0]), .c (.agg (pnt X.1 X.2.1 X.2.2)), .c (.int .i64 0), .a, .u, .c (.int .i64 0)] [1, 2, 3] [⟨7, 8, 35, pnt 0 0 false, fun _ => pnt X.1 X.2.1 X.2.2⟩] ?hs18 ?hv18 ?hf18
 case hs18 =>
  refine .cons (.o 3 0 (c9.gr g4) rfl rfl) ?_
  refine .cons (.g 27 0 (V7_7.gr g8) rfl) ?_
  refine .cons (.k _ fun yy vv hg hh => RtW.of_c (Rt.c (toQ h1 h2 (T := A1) (Q := X) trA1 _))) .nil
 case hv18 =>
  refine .cons (.mk (fun _ _ _ => rfl) (fun _ v b H F => by dsimp only at H ⊢; simp [go_sem, exI, H, F]) zPnt ⟨fkc, fkc, fkc, fkc, fkc, fkc, fkc, fka, fku, fkc, trivial⟩) .nil
 intro yw9 v5 hg h9 hV9
 simp only [FW, putFrom, Act.put, lqA, lqB, lqC, wvals, kW, lqD, lqE, Kw.c, pv, Kw.a, Kw.u]
 obtain ⟨⟨N9_7, V9_7⟩, -⟩ : (v4.heap.size ≤ (yw9 7 0).2 ∧ Vr v5 (yw9 7 0).2 (pnt X.1 X.2.1 X.2.2)) ∧ True := hV9
 clear h9
 replace g4 := g4.trans hg
 replace g5 := g5.trans hg
 replace g8 := g8.trans hg
 have g9 := hg
 clear hg
 go_upto_region 10 with fail
 refine wp_v false [.c (pv e9 0), .c (.int .i64 (k : Int)), .c (.agg (prj A1.1 A1.2.1 A1.2.2)), .c (.tuple #[.agg (pnt X.1 X.2.1 X.2.2), .int .i64 0]), .c (.tuple #[.agg (pnt X.1 X.2.1 X.2.2), .int .i64 0]), .c (.agg (pnt X.1 X.2.1 X.2.2)), .c (.int .i64 0), .a, .u, .c (.int .i64 0)] [1, 2, 3] [⟨7, 8, 35, pnt 0 0 false, fun _ => pnt X.1 X.2.1 X.2.2⟩] ?hs19 ?hv19 ?hf19
 case hs19 =>
  refine .cons (.o 3 0 (c9.gr g4) rfl rfl) ?_
  refine .cons (.g 27 0 (V8_8.gr g9) rfl) ?_
  refine .cons (.k _ fun yy vv hg hh => RtW.of_c (Rt.c (toQ h1 h2 (T := A1) (Q := X) trA1 _))) .nil
 case hv19 =>
  refine .cons (.mk (fun _ _ _ => rfl) (fun _ v b H F => by dsimp only at H ⊢; simp [go_sem, exI, H, F]) zPnt ⟨fkc, fkc, fkc, fkc, fkc, fkc, fkc, fka, fku, fkc, trivial⟩) .nil
 intro yw10 v6 hg h10 hV10
 simp only [FW, putFrom, Act.put, lqA, lqB, lqC, wvals, kW, lqD, lqE, Kw.c, pv, Kw.a, Kw.u]
 obtain ⟨⟨N10_7, V10_7⟩, -⟩ : (v5.heap.size ≤ (yw10 7 0).2 ∧ Vr v6 (yw10 7 0).2 (pnt X.1 X.2.1 X.2.2)) ∧ True := hV10
 clear h10
 replace g4 := g4.trans hg
 replace g5 := g5.trans hg
 replace g8 := g8.trans hg
 replace g9 := g9.trans hg
 have g10 := hg
 clear hg
 go_upto_region 11 with fail
 refine wp_v false [.c (.int .u64 (n2 : Int)), .c (.int .u64 (r1 : Int)), .c (.int .u64 (O.2.1 : Int)), .c (.agg (nw 9 O.2.1)), .c (.agg (prj O.1 O.2.1 O.2.2)), .a, .u] [1, 2, 3, 4] [⟨5, 6, 27, prj 0 0 0, fun _ => prj O.1 O.2.1 O.2.2⟩] ?hs20 ?hv20 ?hf20
 case hs20 =>
  refine .cons (.s (.binOp .rem 22 (.const (.int .u64 (n2 : Int))) (.const (.int .u64 200)) 22) rfl fun vv hg => by simp [go_sem, exI, q1]) ?_
  refine .cons (.s (.binOp .add 22 (.const (.int .u64 1)) (.const (.int .u64 (r1 : Int))) 22) rfl fun vv hg => by simp [go_sem, exI, q2]) ?_
  refine .cons (.k _ fun yy vv hg hh => RtW.of_c (Rt.c (one_any O.2.1 lO _))) ?_
  refine .cons (.s (.build 27 #[(1, (.const (.agg (nw 9 O.2.1))))]) rfl fun vv hg => by simp [go_sem, exI, buildPj1, hO0]) .nil
 case hv20 =>
  refine .cons (.mk (fun _ _ _ => rfl) (fun _ v b H F => by dsimp only at H ⊢; simp [go_sem, exI, H, F]) zPj ⟨fkc, fkc, fkc, fkc, fkc, fka, fku, trivial⟩) .nil
 intro yw11 v7 hg h11 hV11
 simp only [FW, putFrom, Act.put, lqA, lqB, lqC, wvals, kW, lqD, lqE, Kw.c, Kw.a, Kw.u]
 obtain ⟨⟨N11_5, V11_5⟩, -⟩ : (v6.heap.size ≤ (yw11 5 0).2 ∧ Vr v7 (yw11 5 0).2 (prj O.1 O.2.1 O.2.2)) ∧ True := hV11
 clear h11
 replace g10 := g10.trans hg
 replace g4 := g4.trans hg
 replace g5 := g5.trans hg
 replace g8 := g8.trans hg
 replace g9 := g9.trans hg
 have g11 := hg
 clear hg
 go_upto_region 12 with fail
 refine wp_v false [.c (pv e9 0), .c (.int .i64 (k : Int)), .c (.agg (prj O.1 O.2.1 O.2.2)), .c (.tuple #[.agg (prj A3.1 A3.2.1 A3.2.2), .int .i64 0]), .c (.tuple #[.agg (prj A3.1 A3.2.1 A3.2.2), .int .i64 0]), .c (.agg (prj A3.1 A3.2.1 A3.2.2)), .c (.int .i64 0), .a, .u, .c (.int .i64 0)] [1, 2, 3] [⟨7, 8, 27, prj 0 0 0, fun _ => prj A3.1 A3.2.1 A3.2.2⟩] ?hs21 ?hv21 ?hf21
 case hs21 =>
  refine .cons (.o 3 0 (c9.gr g4) rfl rfl) ?_
  refine .cons (.g 27 0 V11_5 rfl) ?_
  refine .cons (.k _ fun yy vv hg hh => RtW.of_c (Rt.c (jdblQ h1 h2 (T := O) (R := A3) trO hA3 _))) .nil
 case hv21 =>
  refine .cons (.mk (fun _ _ _ => rfl) (fun _ v b H F => by dsimp only at H ⊢; simp [go_sem, exI, H, F]) zPj ⟨fkc, fkc, fkc, fkc, fkc, fkc, fkc, fka, fku, fkc, trivial⟩) .nil
 intro yw12 v8 hg h12 hV12
 simp only [FW, putFrom, Act.put, lqA, lqB, lqC, wvals, kW, lqD, lqE, Kw.c, pv, Kw.a, Kw.u]
 obtain ⟨⟨N12_7, V12_7⟩, -⟩ : (v7.heap.size ≤ (yw12 7 0).2 ∧ Vr v8 (yw12 7 0).2 (prj A3.1 A3.2.1 A3.2.2)) ∧ True := hV12
 clear h12
 replace g10 := g10.trans hg
 replace g11 := g11.trans hg
 replace g4 := g4.trans hg
 replace g5 := g5.trans hg
 replace g8 := g8.trans hg
 replace g9 := g9.trans hg
 have g12 := hg
 clear hg
 go_upto_region 13 with fail
 refine wp_v false [.c (pv e9 0), .c (.int .i64 (k : Int)), .c (.agg (prj A3.1 A3.2.1 A3.2.2)), .c (.tuple #[.agg (pnt 0 0 true), .int .i64 0]), .c (.tuple #[.agg (pnt 0 0 true), .int .i64 0]), .c (.agg (pnt 0 0 true)), .c (.int .i64 0), .a, .u, .c (.int .i64 0)] [1, 2, 3] [⟨7, 8, 35, pnt 0 0 false, fun _ => pnt 0 0 true⟩] ?hs22 ?hv22 ?hf22
 case hs22 =>
  refine .cons (.o 3 0 (c9.gr g4) rfl rfl) ?_
  refine .cons (.g 27 0 V12_7 rfl) ?_
  refine .cons (.k _ fun yy vv hg hh => RtW.of_c (Rt.c (toQ h1 h2 (T := A3) (Q := inf) trA3 _))) .nil
 case hv22 =>
  refine .cons (.mk (fun _ _ _ => rfl) (fun _ v b H F => by dsimp only at H ⊢; simp [go_sem, exI, H, F]) zPnt ⟨fkc, fkc, fkc, fkc, fkc, fkc, fkc, fka, fku, fkc, trivial⟩) .nil
 intro yw13 v9 hg h13 hV13
 simp only [FW, putFrom, Act.put, lqA, lqB, lqC, wvals, kW, lqD, lqE, Kw.c, pv, Kw.a, Kw.u]
 obtain ⟨⟨N13_7, V13_7⟩, -⟩ : (v8.heap.size ≤ (yw13 7 0).2 ∧ Vr v9 (yw13 7 0).2 (pnt 0 0 true)) ∧ True := hV13
 clear h13
 replace g10 := g10.trans hg
 replace g11 := g11.trans hg
 replace g12 := g12.trans hg
 replace g4 := g4.trans hg
 replace g5 := g5.trans hg
 replace g8 := g8.trans hg
 replace g9 := g9.trans hg
 have g13 := hg
 clear hg
 go_upto_region 14 with fail
 refine wp_v false [.c (pv e9 0), .c (.int .i64 (k : Int)), .c (.agg (prj O.1 O.2.1 O.2.2)), .c (.agg (prj S1.1 S1.2.1 S1.2.2)), .c (.tuple #[.agg (prj A2.1 A2.2.1 A2.2.2), .int .i64 0]), .c (.tuple #[.agg (prj A2.1 A2.2.1 A2.2.2), .int .i64 0]), .c (.agg (prj A2.1 A2.2.1 A2.2.2)), .c (.int .i64 0), .a, .u, .c (.int .i64 0)] [1, 2, 3, 4] [⟨8, 9, 27, prj 0 0 0, fun _ => prj A2.1 A2.2.1 A2.2.2⟩] ?hs23 ?hv23 ?hf23
 case hs23 =>
  refine .cons (.o 3 0 (c9.gr g4) rfl rfl) ?_
  refine .cons (.g 27 0 (V11_5.gr g12) rfl) ?_
  refine .cons (.g 27 0 (V4_7.gr g5) rfl) ?_
  refine .cons (.k _ fun yy vv hg hh => RtW.of_c (Rt.c (jaddQ h1 h2 (S := O) (T := S1) (R := A2) trO trS1 hA2 _))) .nil
 case hv23 =>
  refine .cons (.mk (fun _ _ _ => rfl) (fun _ v b H F => by dsimp only at H ⊢; simp [go_sem, exI, H, F]) zPj ⟨fkc, fkc, fkc, fkc, fkc, fkc, fkc, fkc, fka, fku, fkc, trivial⟩) .nil
 intro yw14 v10 hg h14 hV14
 simp only [FW, putFrom, Act.put, lqA, lqB, lqC, wvals, kW, lqD, lqE, Kw.c, pv, Kw.a, Kw.u]
 obtain ⟨⟨N14_8, V14_8⟩, -⟩ : (v9.heap.size ≤ (yw14 8 0).2 ∧ Vr v10 (yw14 8 0).2 (prj A2.1 A2.2.1 A2.2.2)) ∧ True := hV14
 clear h14
 replace g10 := g10.trans hg
 replace g11 := g11.trans hg
 replace g12 := g12.trans hg
 replace g13 := g13.trans hg
 replace g4 := g4.trans hg
 replace g5 := g5.trans hg
 replace g8 := g8.trans hg
 replace g9 := g9.trans hg
 have g14 := hg
 clear hg
 go_upto_region 15 with fail
 refine wp_v false [.c (pv e9 0), .c (.int .i64 (k : Int)), .c (.agg (prj A2.1 A2.2.1 A2.2.2)), .c (.tuple #[.agg (pnt P.1 P.2.1 P.2.2), .int .i64 0]), .c (.tuple #[.agg (pnt P.1 P.2.1 P.2.2), .int .i64 0]), .c (.agg (pnt P.1 P.2.1 P.2.2)), .c (.int .i64 0), .a, .u, .c (.int .i64 0)] [1, 2, 3] [⟨7, 8, 35, pnt 0 0 false, fun _ => pnt P.1 P.2.1 P.2.2⟩] ?hs24 ?hv24 ?hf24
 case hs24 =>
  refine .cons (.o 3 0 (c9.gr g4) rfl rfl) ?_
  refine .cons (.g 27 0 V14_8 rfl) ?_
  refine .cons (.k _ fun yy vv hg hh => RtW.of_c (Rt.c (toQ h1 h2 (T := A2) (Q := P) trA2 _))) .nil
 case hv24 =>
  refine .cons (.mk (fun _ _ _ => rfl) (fun _ v b H F => by dsimp only at H ⊢; simp [go_sem, exI, H, F]) zPnt ⟨fkc, fkc, fkc, fkc, fkc, fkc, fkc, fka, fku, fkc, trivial⟩) .nil
 intro yw15 v11 hg h15 hV15
 simp only [FW, putFrom, Act.put, lqA, lqB, lqC, wvals, kW, lqD, lqE, Kw.c, pv, Kw.a, Kw.u]
 obtain ⟨⟨N15_7, V15_7⟩, -⟩ : (v10.heap.size ≤ (yw15 7 0).2 ∧ Vr v11 (yw15 7 0).2 (pnt P.1 P.2.1 P.2.2)) ∧ True := hV15
 clear h15
 replace g10 := g10.trans hg
 replace g11 := g11.trans hg
 replace g12 := g12.trans hg
 replace g13 := g13.trans hg
 replace g14 := g14.trans hg
 replace g4 := g4.trans hg
 replace g5 := g5.trans hg
 replace g8 := g8.trans hg
 replace g9 := g9.trans hg
 have g15 := hg
 clear hg
 go_upto_region 16 with fail
 refine wp_v false [.c (pv e9 0), .c (.int .i64 (k : Int)), .c (.agg (prj S1.1 S1.2.1 S1.2.2)), .c (.tuple #[.agg (pnt P.1 P.2.1 P.2.2), .int .i64 0]), .c (.tuple #[.agg (pnt P.1 P.2.1 P.2.2), .int .i64 0]), .c (.agg (pnt P.1 P.2.1 P.2.2)), .c (.int .i64 0), .a, .u, .c (.int .i64 0)] [1, 2, 3] [⟨7, 8, 35, pnt 0 0 false, fun _ => pnt P.1 P.2.1 P.2.2⟩] ?hs25 ?hv25 ?hf25
 case hs25 =>
  refine .cons (.o 3 0 (c9.gr g4) rfl rfl) ?_
  refine .cons (.g 27 0 (V4_7.gr g5) rfl) ?_
  refine .cons (.k _ fun yy vv hg hh => RtW.of_c (Rt.c (toQ h1 h2 (T := S1) (Q := P) trS1 _))) .nil
 case hv25 =>
  refine .cons (.mk (fun _ _ _ => rfl) (fun _ v b H F => by dsimp only at H ⊢; simp [go_sem, exI, H, F]) zPnt ⟨fkc, fkc, fkc, fkc, fkc, fkc, fkc, fka, fku, fkc, trivial⟩) .nil
 intro yw16 v12 hg h16 hV16
 simp only [FW, putFrom, Act.put, lqA, lqB, lqC, wvals, kW, lqD, lqE, Kw.c, pv, Kw.a, Kw.u]
 obtain ⟨⟨N16_7, V16_7⟩, -⟩ : (v11.heap.size ≤ (yw16 7 0).2 ∧ Vr v12 (yw16 7 0).2 (pnt P.1 P.2.1 P.2.2)) ∧ True := hV16
 clear h16
 replace g10 := g10.trans hg
 replace g11 := g11.trans hg
 replace g12 := g12.trans hg
 replace g13 := g13.trans hg
 replace g14 := g14.trans hg
 replace g15 := g15.trans hg
 replace g4 := g4.trans hg
 replace g5 := g5.trans hg
 replace g8 := g8.trans hg
 replace g9 := g9.trans hg
 have g16 := hg
 clear hg
 go_upto_region 17 with fail
 refine wp_wS [.c (.int .i64 0), .c (.int .i64 0), .c (.bool true), .c (.bool true), .c (.int .i64 0), .c (.int .i64 0), .c (.bool true), .c (.bool true), .c (.bool true), .c (.int .i64 0), .c (.int .i64 0), .c (.bool true), .c (.bool true), .c (.bool true), .c (.int .i64 0), .c (.int .i64 0), .c (.bool true), .c (.bool true), .c (.bool true), .c (.int .i64 0), .c (.int .i64 0), .c (.bool true), .c (.bool true), .c (.bool true), .c (.int .i64 0), .c (.int .i64 0), .c (.bool true), .c (.bool true), .c (.bool true), .c (.agg (pnt X.1 X.2.1 X.2.2)), .c (.agg (pnt X.1 X.2.1 X.2.2)), .c (.bool true), .c (.bool true), .c (.bool true), .c (.agg (pnt 0 0 true)), .c (.agg (pnt 0 0 true)), .c (.bool true), .c (.bool true), .c (.bool true), .c (.agg (pnt P.1 P.2.1 P.2.2)), .c (.agg (pnt P.1 P.2.1 P.2.2)), .c (.bool true), .c (.bool true), .c (.bool true)] [1, 5, 10, 15, 20, 25, 29, 30, 31, 34, 36, 39, 40, 41] ?hs26 ?hf26
 case hs26 =>
  refine .cons (.k _ fun yy vv hg hh => RtW.of_c (Rt.same (num_any _ _))) ?_
  refine .cons (.k _ fun yy vv hg hh => RtW.of_c (Rt.same (num_any _ _))) ?_
  refine .cons (.k _ fun yy vv hg hh => RtW.of_c (Rt.same (num_any _ _))) ?_
  refine .cons (.k _ fun yy vv hg hh => RtW.of_c (Rt.same (num_any _ _))) ?_
  refine .cons (.k _ fun yy vv hg hh => RtW.of_c (Rt.same (num_any _ _))) ?_
  refine .cons (.k _ fun yy vv hg hh => RtW.of_c (Rt.same (num_any _ _))) ?_
  refine .cons (.g 35 0 (V9_7.gr g10) rfl) ?_
  refine .cons (.g 35 0 (V10_7.gr g11) rfl) ?_
  refine .cons (.s (.binOp .eql 35 (.const (.agg (pnt X.1 X.2.1 X.2.2))) (.const (.agg (pnt X.1 X.2.1 X.2.2))) 35) rfl fun vv hg => by simp [go_sem, exI, eqPn, eqN_self]) ?_
  refine .cons (.g 35 0 (V13_7.gr g14) rfl) ?_
  refine .cons (.s (.binOp .eql 35 (.const (.agg (pnt 0 0 true))) (.const (.agg (pnt 0 0 true))) 35) rfl fun vv hg => by simp [go_sem, exI, eqPn, eqN_self]) ?_
  refine .cons (.g 35 0 (V15_7.gr g16) rfl) ?_
  refine .cons (.g 35 0 V16_7 rfl) ?_
  refine .cons (.s (.binOp .eql 35 (.const (.agg (pnt P.1 P.2.1 P.2.2))) (.const (.agg (pnt P.1 P.2.1 P.2.2))) 35) rfl fun vv hg => by simp [go_sem, exI, eqPn, eqN_self]) .nil
 intro yw17 v13 hg h17
 simp only [FW, putFrom, Act.put, lqA, lqB, lqC, wvals, kW, lqD, lqE, Kw.c]
 clear h17
 replace g10 := g10.trans hg
 replace g11 := g11.trans hg
 replace g12 := g12.trans hg
 replace g13 := g13.trans hg
 replace g14 := g14.trans hg
 replace g15 := g15.trans hg
 replace g16 := g16.trans hg
 replace g4 := g4.trans hg
 replace g5 := g5.trans hg
 replace g8 := g8.trans hg
 replace g9 := g9.trans hg
 have g17 := hg
 clear hg
 replace G := G.trans g4
 replace c9 := c9.gr g4
 replace HQ := fun k => (HQ k).gr g4
 replace V4_7 := V4_7.gr g5
 replace V4_8 := V4_8.gr g5
 replace V7_7 := V7_7.gr g8
 replace V8_8 := V8_8.gr g9
 replace V9_7 := V9_7.gr g10
 replace V10_7 := V10_7.gr g11
 replace V11_5 := V11_5.gr g12
 replace V12_7 := V12_7.gr g13
 replace V13_7 := V13_7.gr g14
 replace V14_8 := V14_8.gr g15
 replace V15_7 := V15_7.gr g16
 replace V16_7 := V16_7.gr g17
 clear g10 g11 g12 g13 g14 g15 g16 g17 g4 g5 g8 g9
 go_wp2_with fail
 go_ret
 exact ⟨rfl, G⟩
end
end
end Go.Proofs.YtempibiahmmppaaGreat
