import Derived.Test.YtlbkhhihkomahaaGreatXSAS
import Derived.Test.YtlbkhhihkomahaaGreatXSRGet
namespace Go.Proofs.YtlbkhhihkomahaaGreat
open Go.RowKit
attribute [local go_sem ↓] loadNat_is loadArr_is loadWide_is loadArrW_is storeNat_is storeWide_is
attribute [local go_sem] loadNat loadArr loadWide loadArrW storeNat storeWide idxArr fold9 fold18 nw_size nw_elem pre_self pre_1 pre_2 pre_3 pre_4 pre_5 pre_6 pre_7 pre_8 pre_9 pre_10 pre_11 pre_12 pre_13 pre_14 pre_15 pre_16 pre_17 pre_18 pre_19 pre_20 pre_21 pre_22 pre_23 pre_24 pre_25 pre_26 pre_27 pre_28 pre_29 pre_30 pre_31 pre_32 pre_33 pre_34 pre_35 pre_36 pre_37 pre_38 pre_39 pre_40 gro_size gro_drew gro_drewN drew_gro drewN_gro gro_gro blk_gro frz_gro blk_drew frz_drew blk_drewN frz_drewN blk_alloc_at frz_alloc_at blk_alloc frz_alloc cell_gro frozen_gro cell_alloc_pre frozen_alloc_pre setCell_drewN alloc_drewN setBlk_drew setBlk_drewN setBlk_alloc_at setBlk_alloc setBlk_gro setCell_gro setCell_alloc_pre size_setBlk size_setCell
attribute [local go_sem] ppre_1 ppre_2 ppre_3 ppre_4 ppre_5 ppre_6
attribute [local go_sem ↓] bsl_is loadC_is storeC_is loadPt_is storePt_is zvPt_is buildPt_is loadPn_is storePn_is zvPn_is loadCu_is storeCu_is zvCu_is buildCu_is buildPn_is Go.wp_at_zero Go.wp_at_succ
attribute [local go_sem] loadC storeC0 storeCr crA_size loadPt storePt zvPt ptA_size loadPn storePn zvPn pnt_size loadCu storeCu zvCu cu_size buildCu0 buildPnI buildPn2 loadCP loadCA loadCB loadCN loadCG loadCX loadCY cu_P cu_A cu_B cu_N cu_G cu_X cu_Y frz_setBlk blk_setBlk setBlk_setBlk blk_other
set_option maxRecDepth 100000 in
set_option maxHeartbeats 1600000 in
theorem lagroup_any (id : Int) (n1 n2 n3 : Nat) (bn1 : n1 < 18446744073709551616) (bn2 : n2 < 18446744073709551616) (bn3 : n3 < 18446744073709551616) (w : World) : Calls Tryz.prog 6 #[.int .i64 id, .int .u64 (n1 : Int), .int .u64 (n2 : Int), .int .u64 (n3 : Int)] w fun e w' => e = .returned (.bool true) ∧ Gr w w' := by
  obtain ⟨u, hu, hu2, hk⟩ := idx_conv id
  have hbd := idx_bd id
  obtain ⟨k, hkk⟩ : ∃ k, idx id = k := ⟨_, rfl⟩
  rw [hkk] at hk hbd
  obtain ⟨h1, h2⟩ := hbd
  have u0 : (0 : Int) ≤ (u : Int) := by omega
  have hk2 : (1 : Int) + (u : Int) % 15 = (k : Int) := by omega
  have hk3 : IntKind.i64.wrap ((u : Int) % 15) = (u : Int) % 15 := by rw [IntKind.wrap_i64]; omega
  have hk4 : IntKind.u64.wrap ((u : Int) % 15) = (u : Int) % 15 := by rw [IntKind.wrap_u64]; omega
  have hk5 : (u : Int).tmod 15 = (u : Int) % 15 := by rw [Int.tmod_eq_emod_of_nonneg (by omega)]
  have k0 : (1 : Int) ≤ (k : Int) := by omega
  have k1 : (k : Int) ≤ 15 := by omega
  have hu3 : id % 18446744073709551616 = (u : Int) := by rw [← hu, IntKind.wrap_u64]
  clear hkk hk
  have HGR : Hid (∀ w, Calls Tryz.prog 12 #[.int .i64 (k : Int)] w (GetQ k w)) := fun w => getq_yes k h1 h2 w
  have HAW : Hid (∀ w, Calls Tryz.prog 16 #[] w fun e w' => e = .returned (.bool true) ∧ Gr w w') := fun w => awake14_any w
  go_enter Tryz.func6, Tryz.ntmps6
  go_upto_region 6 with (first
    | (go_at_call 16; refine (HAW.out _).mono ?_; rintro e WA ⟨rfl, GA⟩)
    | (go_at_call 12; refine (HGR.out _).mono ?_; rintro e WB ⟨qc, rfl, HQ, GB⟩))
  obtain ⟨e9, he9⟩ : ∃ b, WB.heap.size = b := ⟨_, rfl⟩
  simp only [he9]
  refine gen_w (fun v => Gr w v ∧ Vr v e9 (crA (k : Int) (nN k) qc) ∧ ∀ j, Sl v (qc j).1 (nN k j)) ?_ ?_
  · subst he9
    exact ⟨(GA.trans GB).alloc _, Vr.new _ _ _, fun j => (HQ j).gr ((Gr.refl _).alloc _)⟩
  clear he9 GA GB HQ HAW HGR hu hu2 hk2 hk3 hk4 hk5 hu3 u0 k0 k1
  rintro v0 ⟨G, c9, HQ⟩
  obtain ⟨P, hP⟩ : ∃ Z, mlQ k n1 (gQ k) = Z := ⟨_, rfl⟩
  have oP : OnQ k P := hP ▸ mlQ_on h1 h2 _ (gQ_on h1 h2)
  have bP := bn1
  obtain ⟨Q, hQ⟩ : ∃ Z, mlQ k n2 (gQ k) = Z := ⟨_, rfl⟩
  have oQ : OnQ k Q := hQ ▸ mlQ_on h1 h2 _ (gQ_on h1 h2)
  have bQ := bn2
  obtain ⟨R, hR⟩ : ∃ Z, mlQ k n3 (gQ k) = Z := ⟨_, rfl⟩
  have oR : OnQ k R := hR ▸ mlQ_on h1 h2 _ (gQ_on h1 h2)
  have bR := bn3
  obtain ⟨A, hA⟩ : ∃ Z, plQ k P Q = Z := ⟨_, rfl⟩
  have oA : OnQ k A := hA ▸ plQ_on h1 h2 oP oQ
  obtain ⟨Y, hY⟩ : ∃ Z, plQ k Q R = Z := ⟨_, rfl⟩
  have oY : OnQ k Y := hY ▸ plQ_on h1 h2 oQ oR
  obtain ⟨X, hX⟩ : ∃ Z, plQ k A R = Z := ⟨_, rfl⟩
  obtain ⟨N, hN⟩ : ∃ Z, ngQ k P = Z := ⟨_, rfl⟩
  have oN : OnQ k N := hN ▸ ngQ_on h1 h2 oP
  have hXY : plQ k P Y = X := by rw [← hX, ← hY, ← hA, plQ_assoc h1 h2 oP oQ oR]
  have hN0 : plQ k P N = inf := by rw [← hN, plQ_ng h1 h2]
  refine wp_v true [.c (.agg (crA (k : Int) (nN k) qc)), .c (.int .u64 (n1 : Int)), .c (.agg (pnt P.1 P.2.1 P.2.2)), .c (.agg (crA (k : Int) (nN k) qc)), .c (.int .u64 (n2 : Int)), .c (.agg (pnt Q.1 Q.2.1 Q.2.2)), .c (.agg (crA (k : Int) (nN k) qc)), .c (.int .u64 (n3 : Int)), .c (.agg (pnt R.1 R.2.1 R.2.2)), .a, .a, .a, .u, .u, .u] [0, 2, 3, 5, 6, 8] [⟨9, 12, 27, pnt 0 0 false, fun _ => pnt P.1 P.2.1 P.2.2⟩, ⟨10, 13, 27, pnt 0 0 false, fun _ => pnt Q.1 Q.2.1 Q.2.2⟩, ⟨11, 14, 27, pnt 0 0 false, fun _ => pnt R.1 R.2.1 R.2.2⟩] ?hs1 ?hv1 ?hf1
  case hs1 =>
   refine .cons (.g 31 0 c9 rfl) ?_
   refine .cons (.k _ fun yy vv hg hh => RtW.of_c (Rt.c (some_is h1 h2 bP hP qc _ (fun j => (HQ j).gr hg)))) ?_
   refine .cons (.g 31 0 c9 rfl) ?_
   refine .cons (.k _ fun yy vv hg hh => RtW.of_c (Rt.c (some_is h1 h2 bQ hQ qc _ (fun j => (HQ j).gr hg)))) ?_
   refine .cons (.g 31 0 c9 rfl) ?_
   refine .cons (.k _ fun yy vv hg hh => RtW.of_c (Rt.c (some_is h1 h2 bR hR qc _ (fun j => (HQ j).gr hg)))) .nil
  case hv1 =>
   refine .cons (.mk (fun _ _ _ => rfl) (fun _ v b H F => by dsimp only at H ⊢; simp [go_sem, exI, H, F]) zPnt ⟨fkc, fkc, fkc, fkc, fkc, fkc, fkc, fkc, fkc, fka, fka, fka, fku, fku, fku, trivial⟩) ?_
   refine .cons (.mk (fun _ _ _ => rfl) (fun _ v b H F => by dsimp only at H ⊢; simp [go_sem, exI, H, F]) zPnt ⟨fkc, fkc, fkc, fkc, fkc, fkc, fkc, fkc, fkc, fka, fka, fka, fku, fku, fku, trivial⟩) ?_
   refine .cons (.mk (fun _ _ _ => rfl) (fun _ v b H F => by dsimp only at H ⊢; simp [go_sem, exI, H, F]) zPnt ⟨fkc, fkc, fkc, fkc, fkc, fkc, fkc, fkc, fkc, fka, fka, fka, fku, fku, fku, trivial⟩) .nil
  intro yw6 v1 hg h6 hV6
  simp only [FW, putFrom, Act.put, List.setIfInBounds_toArray, List.set_cons_zero, List.set_cons_succ, wvals, kW, List.getD_cons_zero, List.getD_cons_succ, Kw.c, Kw.a, Kw.u]
  obtain ⟨⟨N6_9, V6_9⟩, ⟨N6_10, V6_10⟩, ⟨N6_11, V6_11⟩, -⟩ : (v0.heap.size ≤ (yw6 9 0).2 ∧ Vr v1 (yw6 9 0).2 (pnt P.1 P.2.1 P.2.2)) ∧ (v0.heap.size ≤ (yw6 10 0).2 ∧ Vr v1 (yw6 10 0).2 (pnt Q.1 Q.2.1 Q.2.2)) ∧ (v0.heap.size ≤ (yw6 11 0).2 ∧ Vr v1 (yw6 11 0).2 (pnt R.1 R.2.1 R.2.2)) ∧ True := hV6
  clear h6
  replace G := G.trans hg
  replace c9 := c9.gr hg
  replace HQ := fun k => (HQ k).gr hg
  clear hg
  go_upto_region 7 with fail
  refine wp_v false [.c (pv e9 0), .c (.int .i64 (k : Int)), .c (.agg (pnt P.1 P.2.1 P.2.2)), .c (.agg (pnt Q.1 Q.2.1 Q.2.2)), .c (.tuple #[.agg (pnt A.1 A.2.1 A.2.2), .int .i64 0]), .c (.tuple #[.agg (pnt A.1 A.2.1 A.2.2), .int .i64 0]), .c (.agg (pnt A.1 A.2.1 A.2.2)), .c (.int .i64 0), .a, .u, .c (.int .i64 0)] [1, 2, 3, 4] [⟨8, 9, 27, pnt 0 0 false, fun _ => pnt A.1 A.2.1 A.2.2⟩] ?hs2 ?hv2 ?hf2
  case hs2 =>
   refine .cons (.o 3 0 c9 rfl rfl) ?_
   refine .cons (.g 27 0 V6_9 rfl) ?_
   refine .cons (.g 27 0 V6_10 rfl) ?_
   refine .cons (.k _ fun yy vv hg hh => RtW.of_c (Rt.c (addQ h1 h2 (P := P) (Q := Q) (R := A) oP oQ hA _))) .nil
  case hv2 =>
   refine .cons (.mk (fun _ _ _ => rfl) (fun _ v b H F => by dsimp only at H ⊢; simp [go_sem, exI, H, F]) zPnt ⟨fkc, fkc, fkc, fkc, fkc, fkc, fkc, fkc, fka, fku, fkc, trivial⟩) .nil
  intro yw7 v2 hg h7 hV7
  simp only [FW, putFrom, Act.put, List.setIfInBounds_toArray, List.set_cons_zero, List.set_cons_succ, wvals, kW, List.getD_cons_zero, List.getD_cons_succ, Kw.c, pv, Kw.a, Kw.u]
  obtain ⟨⟨N7_8, V7_8⟩, -⟩ : (v1.heap.size ≤ (yw7 8 0).2 ∧ Vr v2 (yw7 8 0).2 (pnt A.1 A.2.1 A.2.2)) ∧ True := hV7
  clear h7
  replace G := G.trans hg
  replace c9 := c9.gr hg
  replace V6_9 := V6_9.gr hg
  replace V6_10 := V6_10.gr hg
  replace V6_11 := V6_11.gr hg
  replace HQ := fun k => (HQ k).gr hg
  clear hg
  go_upto_region 8 with fail
  refine wp_v false [.c (pv e9 0), .c (.int .i64 (k : Int)), .c (.agg (pnt Q.1 Q.2.1 Q.2.2)), .c (.agg (pnt P.1 P.2.1 P.2.2)), .c (.tuple #[.agg (pnt A.1 A.2.1 A.2.2), .int .i64 0]), .c (.tuple #[.agg (pnt A.1 A.2.1 A.2.2), .int .i64 0]), .c (.agg (pnt A.1 A.2.1 A.2.2)), .c (.int .i64 0), .a, .u, .c (.int .i64 0)] [1, 2, 3, 4] [⟨8, 9, 27, pnt 0 0 false, fun _ => pnt A.1 A.2.1 A.2.2⟩] ?hs3 ?hv3 ?hf3
  case hs3 =>
   refine .cons (.o 3 0 c9 rfl rfl) ?_
   refine .cons (.g 27 0 V6_10 rfl) ?_
   refine .cons (.g 27 0 V6_9 rfl) ?_
   refine .cons (.k _ fun yy vv hg hh => RtW.of_c (Rt.c (addQ h1 h2 (P := Q) (Q := P) (R := A) oQ oP ((plQ_comm h1 h2 oQ oP).trans hA) _))) .nil
  case hv3 =>
   refine .cons (.mk (fun _ _ _ => rfl) (fun _ v b H F => by dsimp only at H ⊢; simp [go_sem, exI, H, F]) zPnt ⟨fkc, fkc, fkc, fkc, fkc, fkc, fkc, fkc, fka, fku, fkc, trivial⟩) .nil
  intro yw8 v3 hg h8 hV8
  simp only [FW, putFrom, Act.put, List.setIfInBounds_toArray, List.set_cons_zero, List.set_cons_succ, wvals, kW, List.getD_cons_zero, List.getD_cons_succ, Kw.c, pv, Kw.a, Kw.u]
  obtain ⟨⟨N8_8, V8_8⟩, -⟩ : (v2.heap.size ≤ (yw8 8 0).2 ∧ Vr v3 (yw8 8 0).2 (pnt A.1 A.2.1 A.2.2)) ∧ True := hV8
  clear h8
  replace G := G.trans hg
  replace c9 := c9.gr hg
  replace V6_9 := V6_9.gr hg
  replace V6_10 := V6_10.gr hg
  replace V6_11 := V6_11.gr hg
  replace V7_8 := V7_8.gr hg
  replace HQ := fun k => (HQ k).gr hg
  clear hg
  go_upto_region 9 with fail
  refine wp_v false [.c (pv e9 0), .c (.int .i64 (k : Int)), .c (.agg (pnt A.1 A.2.1 A.2.2)), .c (.agg (pnt R.1 R.2.1 R.2.2)), .c (.tuple #[.agg (pnt X.1 X.2.1 X.2.2), .int .i64 0]), .c (.tuple #[.agg (pnt X.1 X.2.1 X.2.2), .int .i64 0]), .c (.agg (pnt X.1 X.2.1 X.2.2)), .c (.int .i64 0), .a, .u, .c (.int .i64 0)] [1, 2, 3, 4] [⟨8, 9, 27, pnt 0 0 false, fun _ => pnt X.1 X.2.1 X.2.2⟩] ?hs4 ?hv4 ?hf4
  case hs4 =>
   refine .cons (.o 3 0 c9 rfl rfl) ?_
   refine .cons (.g 27 0 V7_8 rfl) ?_
   refine .cons (.g 27 0 V6_11 rfl) ?_
   refine .cons (.k _ fun yy vv hg hh => RtW.of_c (Rt.c (addQ h1 h2 (P := A) (Q := R) (R := X) oA oR hX _))) .nil
  case hv4 =>
   refine .cons (.mk (fun _ _ _ => rfl) (fun _ v b H F => by dsimp only at H ⊢; simp [go_sem, exI, H, F]) zPnt ⟨fkc, fkc, fkc, fkc, fkc, fkc, fkc, fkc, fka, fku, fkc, trivial⟩) .nil
  intro yw9 v4 hg h9 hV9
  simp only [FW, putFrom, Act.put, List.setIfInBounds_toArray, List.set_cons_zero, List.set_cons_succ, wvals, kW, List.getD_cons_zero, List.getD_cons_succ, Kw.c, pv, Kw.a, Kw.u]
  obtain ⟨⟨N9_8, V9_8⟩, -⟩ : (v3.heap.size ≤ (yw9 8 0).2 ∧ Vr v4 (yw9 8 0).2 (pnt X.1 X.2.1 X.2.2)) ∧ True := hV9
  clear h9
  replace G := G.trans hg
  replace c9 := c9.gr hg
  replace V6_9 := V6_9.gr hg
  replace V6_10 := V6_10.gr hg
  replace V6_11 := V6_11.gr hg
  replace V7_8 := V7_8.gr hg
  replace V8_8 := V8_8.gr hg
  replace HQ := fun k => (HQ k).gr hg
  clear hg
  go_upto_region 10 with fail
  refine wp_v false [.c (pv e9 0), .c (.int .i64 (k : Int)), .c (.agg (pnt Q.1 Q.2.1 Q.2.2)), .c (.agg (pnt R.1 R.2.1 R.2.2)), .c (.tuple #[.agg (pnt Y.1 Y.2.1 Y.2.2), .int .i64 0]), .c (.tuple #[.agg (pnt Y.1 Y.2.1 Y.2.2), .int .i64 0]), .c (.agg (pnt Y.1 Y.2.1 Y.2.2)), .c (.int .i64 0), .a, .u, .c (.int .i64 0)] [1, 2, 3, 4] [⟨8, 9, 27, pnt 0 0 false, fun _ => pnt Y.1 Y.2.1 Y.2.2⟩] ?hs5 ?hv5 ?hf5
  case hs5 =>
   refine .cons (.o 3 0 c9 rfl rfl) ?_
   refine .cons (.g 27 0 V6_10 rfl) ?_
   refine .cons (.g 27 0 V6_11 rfl) ?_
   refine .cons (.k _ fun yy vv hg hh => RtW.of_c (Rt.c (addQ h1 h2 (P := Q) (Q := R) (R := Y) oQ oR hY _))) .nil
  case hv5 =>
   refine .cons (.mk (fun _ _ _ => rfl) (fun _ v b H F => by dsimp only at H ⊢; simp [go_sem, exI, H, F]) zPnt ⟨fkc, fkc, fkc, fkc, fkc, fkc, fkc, fkc, fka, fku, fkc, trivial⟩) .nil
  intro yw10 v5 hg h10 hV10
  simp only [FW, putFrom, Act.put, List.setIfInBounds_toArray, List.set_cons_zero, List.set_cons_succ, wvals, kW, List.getD_cons_zero, List.getD_cons_succ, Kw.c, pv, Kw.a, Kw.u]
  obtain ⟨⟨N10_8, V10_8⟩, -⟩ : (v4.heap.size ≤ (yw10 8 0).2 ∧ Vr v5 (yw10 8 0).2 (pnt Y.1 Y.2.1 Y.2.2)) ∧ True := hV10
  clear h10
  replace G := G.trans hg
  replace c9 := c9.gr hg
  replace V6_9 := V6_9.gr hg
  replace V6_10 := V6_10.gr hg
  replace V6_11 := V6_11.gr hg
  replace V7_8 := V7_8.gr hg
  replace V8_8 := V8_8.gr hg
  replace V9_8 := V9_8.gr hg
  replace HQ := fun k => (HQ k).gr hg
  clear hg
  go_upto_region 11 with fail
  refine wp_v false [.c (pv e9 0), .c (.int .i64 (k : Int)), .c (.agg (pnt P.1 P.2.1 P.2.2)), .c (.agg (pnt Y.1 Y.2.1 Y.2.2)), .c (.tuple #[.agg (pnt X.1 X.2.1 X.2.2), .int .i64 0]), .c (.tuple #[.agg (pnt X.1 X.2.1 X.2.2), .int .i64 0]), .c (.agg (pnt X.1 X.2.1 X.2.2)), .c (.int .i64 0), .a, .u, .c (.int .i64 0)] [1, 2, 3, 4] [⟨8, 9, 27, pnt 0 0 false, fun _ => pnt X.1 X.2.1 X.2.2⟩] ?hs6 ?hv6 ?hf6
  case hs6 =>
   refine .cons (.o 3 0 c9 rfl rfl) ?_
   refine .cons (.g 27 0 V6_9 rfl) ?_
   refine .cons (.g 27 0 V10_8 rfl) ?_
   refine .cons (.k _ fun yy vv hg hh => RtW.of_c (Rt.c (addQ h1 h2 (P := P) (Q := Y) (R := X) oP oY hXY _))) .nil
  case hv6 =>
   refine .cons (.mk (fun _ _ _ => rfl) (fun _ v b H F => by dsimp only at H ⊢; simp [go_sem, exI, H, F]) zPnt ⟨fkc, fkc, fkc, fkc, fkc, fkc, fkc, fkc, fka, fku, fkc, trivial⟩) .nil
  intro yw11 v6 hg h11 hV11
  simp only [FW, putFrom, Act.put, List.setIfInBounds_toArray, List.set_cons_zero, List.set_cons_succ, wvals, kW, List.getD_cons_zero, List.getD_cons_succ, Kw.c, pv, Kw.a, Kw.u]
  obtain ⟨⟨N11_8, V11_8⟩, -⟩ : (v5.heap.size ≤ (yw11 8 0).2 ∧ Vr v6 (yw11 8 0).2 (pnt X.1 X.2.1 X.2.2)) ∧ True := hV11
  clear h11
  replace G := G.trans hg
  replace c9 := c9.gr hg
  replace V6_9 := V6_9.gr hg
  replace V6_10 := V6_10.gr hg
  replace V6_11 := V6_11.gr hg
  replace V7_8 := V7_8.gr hg
  replace V8_8 := V8_8.gr hg
  replace V9_8 := V9_8.gr hg
  replace V10_8 := V10_8.gr hg
  replace HQ := fun k => (HQ k).gr hg
  clear hg
  go_upto_region 12 with fail
  refine wp_v false [.c (pv e9 0), .c (.int .i64 (k : Int)), .c (.agg (pnt P.1 P.2.1 P.2.2)), .c (.tuple #[.agg (pnt N.1 N.2.1 N.2.2), .int .i64 0]), .c (.tuple #[.agg (pnt N.1 N.2.1 N.2.2), .int .i64 0]), .c (.agg (pnt N.1 N.2.1 N.2.2)), .c (.int .i64 0), .a, .u, .c (.int .i64 0)] [1, 2, 3] [⟨7, 8, 27, pnt 0 0 false, fun _ => pnt N.1 N.2.1 N.2.2⟩] ?hs7 ?hv7 ?hf7
  case hs7 =>
   refine .cons (.o 3 0 c9 rfl rfl) ?_
   refine .cons (.g 27 0 V6_9 rfl) ?_
   refine .cons (.k _ fun yy vv hg hh => RtW.of_c (Rt.c (negQ h1 h2 (P := P) (R := N) oP hN _))) .nil
  case hv7 =>
   refine .cons (.mk (fun _ _ _ => rfl) (fun _ v b H F => by dsimp only at H ⊢; simp [go_sem, exI, H, F]) zPnt ⟨fkc, fkc, fkc, fkc, fkc, fkc, fkc, fka, fku, fkc, trivial⟩) .nil
  intro yw12 v7 hg h12 hV12
  simp only [FW, putFrom, Act.put, List.setIfInBounds_toArray, List.set_cons_zero, List.set_cons_succ, wvals, kW, List.getD_cons_zero, List.getD_cons_succ, Kw.c, pv, Kw.a, Kw.u]
  obtain ⟨⟨N12_7, V12_7⟩, -⟩ : (v6.heap.size ≤ (yw12 7 0).2 ∧ Vr v7 (yw12 7 0).2 (pnt N.1 N.2.1 N.2.2)) ∧ True := hV12
  clear h12
  replace G := G.trans hg
  replace c9 := c9.gr hg
  replace V6_9 := V6_9.gr hg
  replace V6_10 := V6_10.gr hg
  replace V6_11 := V6_11.gr hg
  replace V7_8 := V7_8.gr hg
  replace V8_8 := V8_8.gr hg
  replace V9_8 := V9_8.gr hg
  replace V10_8 := V10_8.gr hg
  replace V11_8 := V11_8.gr hg
  replace HQ := fun k => (HQ k).gr hg
  clear hg
  go_upto_region 13 with fail
  refine wp_v false [.c (pv e9 0), .c (.int .i64 (k : Int)), .c (.agg (pnt P.1 P.2.1 P.2.2)), .c (.agg (pnt N.1 N.2.1 N.2.2)), .c (.tuple #[.agg (pnt 0 0 true), .int .i64 0]), .c (.tuple #[.agg (pnt 0 0 true), .int .i64 0]), .c (.agg (pnt 0 0 true)), .c (.int .i64 0), .a, .u, .c (.int .i64 0)] [1, 2, 3, 4] [⟨8, 9, 27, pnt 0 0 false, fun _ => pnt 0 0 true⟩] ?hs8 ?hv8 ?hf8
  case hs8 =>
   refine .cons (.o 3 0 c9 rfl rfl) ?_
   refine .cons (.g 27 0 V6_9 rfl) ?_
   refine .cons (.g 27 0 V12_7 rfl) ?_
   refine .cons (.k _ fun yy vv hg hh => RtW.of_c (Rt.c (addQ h1 h2 (P := P) (Q := N) (R := inf) oP oN hN0 _))) .nil
  case hv8 =>
   refine .cons (.mk (fun _ _ _ => rfl) (fun _ v b H F => by dsimp only at H ⊢; simp [go_sem, exI, H, F]) zPnt ⟨fkc, fkc, fkc, fkc, fkc, fkc, fkc, fkc, fka, fku, fkc, trivial⟩) .nil
  intro yw13 v8 hg h13 hV13
  simp only [FW, putFrom, Act.put, List.setIfInBounds_toArray, List.set_cons_zero, List.set_cons_succ, wvals, kW, List.getD_cons_zero, List.getD_cons_succ, Kw.c, pv, Kw.a, Kw.u]
  obtain ⟨⟨N13_8, V13_8⟩, -⟩ : (v7.heap.size ≤ (yw13 8 0).2 ∧ Vr v8 (yw13 8 0).2 (pnt 0 0 true)) ∧ True := hV13
  clear h13
  replace G := G.trans hg
  replace c9 := c9.gr hg
  replace V6_9 := V6_9.gr hg
  replace V6_10 := V6_10.gr hg
  replace V6_11 := V6_11.gr hg
  replace V7_8 := V7_8.gr hg
  replace V8_8 := V8_8.gr hg
  replace V9_8 := V9_8.gr hg
  replace V10_8 := V10_8.gr hg
  replace V11_8 := V11_8.gr hg
  replace V12_7 := V12_7.gr hg
  replace HQ := fun k => (HQ k).gr hg
  clear hg
  go_upto_region 14 with fail
  refine wp_v false [.c (pv e9 0), .c (.int .i64 (k : Int)), .c (.agg (pnt P.1 P.2.1 P.2.2)), .c (.agg (pnt 0 0 true)), .c (.tuple #[.agg (pnt P.1 P.2.1 P.2.2), .int .i64 0]), .c (.tuple #[.agg (pnt P.1 P.2.1 P.2.2), .int .i64 0]), .c (.agg (pnt P.1 P.2.1 P.2.2)), .c (.int .i64 0), .a, .u, .c (.int .i64 0)] [1, 2, 4] [⟨8, 9, 27, pnt 0 0 false, fun _ => pnt P.1 P.2.1 P.2.2⟩] ?hs9 ?hv9 ?hf9
  case hs9 =>
   refine .cons (.o 3 0 c9 rfl rfl) ?_
   refine .cons (.g 27 0 V6_9 rfl) ?_
   refine .cons (.k _ fun yy vv hg hh => RtW.of_c (Rt.c (addQ h1 h2 (P := P) (Q := inf) (R := P) oP (inf_on k) (plQ_inf h1 h2 oP) _))) .nil
  case hv9 =>
   refine .cons (.mk (fun _ _ _ => rfl) (fun _ v b H F => by dsimp only at H ⊢; simp [go_sem, exI, H, F]) zPnt ⟨fkc, fkc, fkc, fkc, fkc, fkc, fkc, fkc, fka, fku, fkc, trivial⟩) .nil
  intro yw14 v9 hg h14 hV14
  simp only [FW, putFrom, Act.put, List.setIfInBounds_toArray, List.set_cons_zero, List.set_cons_succ, wvals, kW, List.getD_cons_zero, List.getD_cons_succ, Kw.c, pv, Kw.a, Kw.u]
  obtain ⟨⟨N14_8, V14_8⟩, -⟩ : (v8.heap.size ≤ (yw14 8 0).2 ∧ Vr v9 (yw14 8 0).2 (pnt P.1 P.2.1 P.2.2)) ∧ True := hV14
  clear h14
  replace G := G.trans hg
  replace c9 := c9.gr hg
  replace V6_9 := V6_9.gr hg
  replace V6_10 := V6_10.gr hg
  replace V6_11 := V6_11.gr hg
  replace V7_8 := V7_8.gr hg
  replace V8_8 := V8_8.gr hg
  replace V9_8 := V9_8.gr hg
  replace V10_8 := V10_8.gr hg
  replace V11_8 := V11_8.gr hg
  replace V12_7 := V12_7.gr hg
  replace V13_8 := V13_8.gr hg
  replace HQ := fun k => (HQ k).gr hg
  clear hg
  go_upto_region 15 with fail
  refine wp_wS [.c (.int .i64 0), .c (.int .i64 0), .c (.bool true), .c (.bool true), .c (.int .i64 0), .c (.int .i64 0), .c (.bool true), .c (.bool true), .c (.bool true), .c (.int .i64 0), .c (.int .i64 0), .c (.bool true), .c (.bool true), .c (.bool true), .c (.int .i64 0), .c (.int .i64 0), .c (.bool true), .c (.bool true), .c (.bool true), .c (.agg (pnt A.1 A.2.1 A.2.2)), .c (.agg (pnt A.1 A.2.1 A.2.2)), .c (.bool true), .c (.bool true), .c (.bool true), .c (.agg (pnt X.1 X.2.1 X.2.2)), .c (.agg (pnt X.1 X.2.1 X.2.2)), .c (.bool true), .c (.bool true), .c (.bool true), .c (.agg (pnt 0 0 true)), .c (.agg (pnt 0 0 true)), .c (.bool true), .c (.bool true), .c (.bool true), .c (.agg (pnt P.1 P.2.1 P.2.2)), .c (.agg (pnt P.1 P.2.1 P.2.2)), .c (.bool true), .c (.bool true), .c (.bool true)] [1, 5, 10, 15, 19, 20, 21, 24, 25, 26, 29, 31, 34, 35, 36] ?hs10 ?hf10
  case hs10 =>
   refine .cons (.k _ fun yy vv hg hh => RtW.of_c (Rt.same (num_any _ _))) ?_
   refine .cons (.k _ fun yy vv hg hh => RtW.of_c (Rt.same (num_any _ _))) ?_
   refine .cons (.k _ fun yy vv hg hh => RtW.of_c (Rt.same (num_any _ _))) ?_
   refine .cons (.k _ fun yy vv hg hh => RtW.of_c (Rt.same (num_any _ _))) ?_
   refine .cons (.g 27 0 V7_8 rfl) ?_
   refine .cons (.g 27 0 V8_8 rfl) ?_
   refine .cons (.s (.binOp .eql 27 (.const (.agg (pnt A.1 A.2.1 A.2.2))) (.const (.agg (pnt A.1 A.2.1 A.2.2))) 27) rfl fun vv hg => by simp [go_sem, exI, eqPn, eqN_self]) ?_
   refine .cons (.g 27 0 V9_8 rfl) ?_
   refine .cons (.g 27 0 V11_8 rfl) ?_
   refine .cons (.s (.binOp .eql 27 (.const (.agg (pnt X.1 X.2.1 X.2.2))) (.const (.agg (pnt X.1 X.2.1 X.2.2))) 27) rfl fun vv hg => by simp [go_sem, exI, eqPn, eqN_self]) ?_
   refine .cons (.g 27 0 V13_8 rfl) ?_
   refine .cons (.s (.binOp .eql 27 (.const (.agg (pnt 0 0 true))) (.const (.agg (pnt 0 0 true))) 27) rfl fun vv hg => by simp [go_sem, exI, eqPn, eqN_self]) ?_
   refine .cons (.g 27 0 V14_8 rfl) ?_
   refine .cons (.g 27 0 V6_9 rfl) ?_
   refine .cons (.s (.binOp .eql 27 (.const (.agg (pnt P.1 P.2.1 P.2.2))) (.const (.agg (pnt P.1 P.2.1 P.2.2))) 27) rfl fun vv hg => by simp [go_sem, exI, eqPn, eqN_self]) .nil
  intro yw15 v10 hg h15
  simp only [FW, putFrom, Act.put, List.setIfInBounds_toArray, List.set_cons_zero, List.set_cons_succ, wvals, kW, List.getD_cons_zero, List.getD_cons_succ, Kw.c]
  clear h15
  replace G := G.trans hg
  replace c9 := c9.gr hg
  replace V6_9 := V6_9.gr hg
  replace V6_10 := V6_10.gr hg
  replace V6_11 := V6_11.gr hg
  replace V7_8 := V7_8.gr hg
  replace V8_8 := V8_8.gr hg
  replace V9_8 := V9_8.gr hg
  replace V10_8 := V10_8.gr hg
  replace V11_8 := V11_8.gr hg
  replace V12_7 := V12_7.gr hg
  replace V13_8 := V13_8.gr hg
  replace V14_8 := V14_8.gr hg
  replace HQ := fun k => (HQ k).gr hg
  clear hg
  go_wp2_with fail
  go_ret
  exact ⟨rfl, G⟩

end Go.Proofs.YtlbkhhihkomahaaGreat
