import Derived.Test.YtlbkhhihkomahaaGreatXSAS
import Derived.Test.YtlbkhhihkomahaaGreatXSRGet
namespace Go.Proofs.YtlbkhhihkomahaaGreat
open Go.RowKit
attribute [local go_sem ↓] loadNat_is loadArr_is loadWide_is loadArrW_is storeNat_is storeWide_is
attribute [local go_sem] loadNat loadArr loadWide loadArrW storeNat storeWide idxArr fold9 fold18 nw_size nw_elem pre_self pre_1 pre_2 pre_3 pre_4 pre_5 pre_6 pre_7 pre_8 pre_9 pre_10 pre_11 pre_12 pre_13 pre_14 pre_15 pre_16 pre_17 pre_18 pre_19 pre_20 pre_21 pre_22 pre_23 pre_24 pre_25 pre_26 pre_27 pre_28 pre_29 pre_30 pre_31 pre_32 pre_33 pre_34 pre_35 pre_36 pre_37 pre_38 pre_39 pre_40 gro_size gro_drew gro_drewN drew_gro drewN_gro gro_gro blk_gro frz_gro blk_drew frz_drew blk_drewN frz_drewN blk_alloc_at frz_alloc_at blk_alloc frz_alloc cell_gro frozen_gro cell_alloc_pre frozen_alloc_pre setCell_drewN alloc_drewN setBlk_drew setBlk_drewN setBlk_alloc_at setBlk_alloc setBlk_gro setCell_gro setCell_alloc_pre size_setBlk size_setCell
attribute [local go_sem] ppre_1 ppre_2 ppre_3 ppre_4 ppre_5 ppre_6
attribute [local go_sem ↓] bsl_is loadC_is storeC_is loadPt_is storePt_is zvPt_is buildPt_is loadPn_is storePn_is zvPn_is loadCu_is storeCu_is zvCu_is buildCu_is buildPn_is Go.wp_at_zero Go.wp_at_succ
attribute [local go_sem] loadC storeC0 storeCr crA_size loadPt storePt zvPt ptA_size loadPn storePn zvPn pnt_size loadCu storeCu zvCu cu_size buildCu0 buildPnI buildPn2 loadCP loadCA loadCB loadCN loadCG loadCX loadCY cu_P cu_A cu_B cu_N cu_G cu_X cu_Y frz_setBlk blk_setBlk setBlk_setBlk blk_other
set_option maxRecDepth 100000 in
set_option maxHeartbeats 1600000 in
theorem lasplits_any (id : Int) (n1 n2 n3 : Nat) (bn1 : n1 < 18446744073709551616) (bn2 : n2 < 18446744073709551616) (bn3 : n3 < 18446744073709551616) (w : World) : Calls Tryz.prog 7 #[.int .i64 id, .int .u64 (n1 : Int), .int .u64 (n2 : Int), .int .u64 (n3 : Int)] w fun e w' => e = .returned (.bool true) ∧ Gr w w' := by
  obtain ⟨u, hu, hu2, hk⟩ := idx_conv id
  have hbd := idx_bd id
  obtain ⟨k, hkk⟩ : ∃ k, idx id = k := ⟨_, rfl⟩
  rw [hkk] at hk hbd
  obtain ⟨h1, h2⟩ := hbd
  have u0 : (0 : Int) ≤ (u : Int) := by omega
  have hk2 : (1 : Int) + (u : Int) % 15 = (k : Int) := by omega
  have hk3 : IntKind.i64.wrap ((u : Int) % 15) = (u : Int) % 15 := by rw [IntKind.wrap_i64]; omega
  have hk4 : IntKind.u64.wrap ((u : Int) % 15) = (u : Int) % 15 := by rw [IntKind.wrap_u64]; omega
  have hk5 : (u : Int).tmod 15 = (u : Int) % 15 := by rw [Int.tmod_eq_emod_of_nonneg (by omega)]
  have k0 : (1 : Int) ≤ (k : Int) := by omega
  have k1 : (k : Int) ≤ 15 := by omega
  have hu3 : id % 18446744073709551616 = (u : Int) := by rw [← hu, IntKind.wrap_u64]
  clear hkk hk
  have HGR : Hid (∀ w, Calls Tryz.prog 12 #[.int .i64 (k : Int)] w (GetQ k w)) := fun w => getq_yes k h1 h2 w
  have HAW : Hid (∀ w, Calls Tryz.prog 16 #[] w fun e w' => e = .returned (.bool true) ∧ Gr w w') := fun w => awake14_any w
  go_enter Tryz.func7, Tryz.ntmps7
  go_upto_region 6 with (first
    | (go_at_call 16; refine (HAW.out _).mono ?_; rintro e WA ⟨rfl, GA⟩)
    | (go_at_call 12; refine (HGR.out _).mono ?_; rintro e WB ⟨qc, rfl, HQ, GB⟩))
  obtain ⟨e9, he9⟩ : ∃ b, WB.heap.size = b := ⟨_, rfl⟩
  simp only [he9]
  refine gen_w (fun v => Gr w v ∧ Vr v e9 (crA (k : Int) (nN k) qc) ∧ ∀ j, Sl v (qc j).1 (nN k j)) ?_ ?_
  · subst he9
    exact ⟨(GA.trans GB).alloc _, Vr.new _ _ _, fun j => (HQ j).gr ((Gr.refl _).alloc _)⟩
  clear he9 GA GB HQ HAW HGR hu hu2 hk2 hk3 hk4 hk5 hu3 u0 k0 k1
  rintro v0 ⟨G, c9, HQ⟩
  obtain ⟨d1, hd1⟩ : ∃ z, n1 / 2 = z := ⟨_, rfl⟩
  obtain ⟨d2, hd2⟩ : ∃ z, n2 / 2 = z := ⟨_, rfl⟩
  obtain ⟨d3, hd3⟩ : ∃ z, d1 + d2 = z := ⟨_, rfl⟩
  obtain ⟨m1, hm1⟩ : ∃ z, d1 % 1000 = z := ⟨_, rfl⟩
  obtain ⟨m3, hm3⟩ : ∃ z, 3 * m1 = z := ⟨_, rfl⟩
  have bd1 : d1 < 18446744073709551616 := by omega
  have bd2 : d2 < 18446744073709551616 := by omega
  have bd3 : d3 < 18446744073709551616 := by omega
  have bm1 : m1 < 18446744073709551616 := by omega
  have bm3 : m3 < 18446744073709551616 := by omega
  have q1 : IntKind.u64.wrap ((n1 : Int) / 2) = (d1 : Int) := by rw [IntKind.wrap_u64]; omega
  have q2 : IntKind.u64.wrap ((n2 : Int) / 2) = (d2 : Int) := by rw [IntKind.wrap_u64]; omega
  have q3 : IntKind.u64.wrap ((d1 : Int) + (d2 : Int)) = (d3 : Int) := by rw [IntKind.wrap_u64]; omega
  have q4 : (d1 : Int).tmod 1000 = (m1 : Int) := by rw [Int.tmod_eq_emod_of_nonneg (by omega)]; omega
  have q5 : IntKind.u64.wrap ((m1 : Int) * 3) = (m3 : Int) := by rw [IntKind.wrap_u64]; omega
  obtain ⟨P, hP⟩ : ∃ Z, mlQ k n3 (gQ k) = Z := ⟨_, rfl⟩
  have oP : OnQ k P := hP ▸ mlQ_on h1 h2 _ (gQ_on h1 h2)
  have bP := bn3
  obtain ⟨A, hA⟩ : ∃ Z, mlQ k d1 P = Z := ⟨_, rfl⟩
  have oA : OnQ k A := hA ▸ mlQ_on h1 h2 _ oP
  obtain ⟨B, hB⟩ : ∃ Z, mlQ k d2 P = Z := ⟨_, rfl⟩
  have oB : OnQ k B := hB ▸ mlQ_on h1 h2 _ oP
  obtain ⟨T, hT⟩ : ∃ Z, mlQ k d3 P = Z := ⟨_, rfl⟩
  obtain ⟨U, hU⟩ : ∃ Z, mlQ k 3 A = Z := ⟨_, rfl⟩
  have oU : OnQ k U := hU ▸ mlQ_on h1 h2 _ oA
  obtain ⟨V, hV⟩ : ∃ Z, mlQ k m3 P = Z := ⟨_, rfl⟩
  obtain ⟨E, hE⟩ : ∃ Z, mlQ k m1 P = Z := ⟨_, rfl⟩
  have oE : OnQ k E := hE ▸ mlQ_on h1 h2 _ oP
  have hAB : plQ k A B = T := by rw [← hT, ← hd3, mlQ_add h1 h2 _ _ oP, hA, hB]
  have hEV : mlQ k 3 E = V := by rw [← hV, ← hm3, mlQ_mul h1 h2 _ _ oP, hE]
  clear hd1 hd2 hd3 hm1 hm3
  refine wp_v false [.c (.agg (crA (k : Int) (nN k) qc)), .c (.int .u64 (n3 : Int)), .c (.agg (pnt P.1 P.2.1 P.2.2)), .a, .u] [0, 2] [⟨3, 4, 27, pnt 0 0 false, fun _ => pnt P.1 P.2.1 P.2.2⟩] ?hs12 ?hv12 ?hf12
  case hs12 =>
   refine .cons (.g 31 0 c9 rfl) ?_
   refine .cons (.k _ fun yy vv hg hh => RtW.of_c (Rt.c (some_is h1 h2 bP hP qc _ (fun j => (HQ j).gr hg)))) .nil
  case hv12 =>
   refine .cons (.mk (fun _ _ _ => rfl) (fun _ v b H F => by dsimp only at H ⊢; simp [go_sem, exI, H, F]) zPnt ⟨fkc, fkc, fkc, fka, fku, trivial⟩) .nil
  intro yw6 v1 hg h6 hV6
  simp only [FW, putFrom, Act.put, List.setIfInBounds_toArray, List.set_cons_zero, List.set_cons_succ, wvals, kW, List.getD_cons_zero, List.getD_cons_succ, Kw.c, Kw.a, Kw.u]
  obtain ⟨⟨N6_3, V6_3⟩, -⟩ : (v0.heap.size ≤ (yw6 3 0).2 ∧ Vr v1 (yw6 3 0).2 (pnt P.1 P.2.1 P.2.2)) ∧ True := hV6
  clear h6
  replace G := G.trans hg
  replace c9 := c9.gr hg
  replace HQ := fun k => (HQ k).gr hg
  clear hg
  go_upto_region 7 with fail
  refine wp_v true [.c (pv e9 0), .c (.int .i64 (k : Int)), .c (.int .u64 (n1 : Int)), .c (.int .u64 (d1 : Int)), .c (.agg (nw 9 d1)), .c (.agg (pnt P.1 P.2.1 P.2.2)), .c (.tuple #[.agg (pnt A.1 A.2.1 A.2.2), .int .i64 0]), .c (.tuple #[.agg (pnt A.1 A.2.1 A.2.2), .int .i64 0]), .c (.agg (pnt A.1 A.2.1 A.2.2)), .c (.int .i64 0), .a, .u, .c (.int .i64 0)] [1, 3, 4, 5, 6] [⟨10, 11, 27, pnt 0 0 false, fun _ => pnt A.1 A.2.1 A.2.2⟩] ?hs13 ?hv13 ?hf13
  case hs13 =>
   refine .cons (.o 3 0 c9 rfl rfl) ?_
   refine .cons (.s (.binOp .quo 22 (.const (.int .u64 (n1 : Int))) (.const (.int .u64 2)) 22) rfl fun vv hg => by simp [go_sem, exI, q1]) ?_
   refine .cons (.k _ fun yy vv hg hh => RtW.of_c (Rt.c (one_any _ bd1 _))) ?_
   refine .cons (.g 27 0 V6_3 rfl) ?_
   refine .cons (.k _ fun yy vv hg hh => RtW.of_c (Rt.c (mulQ h1 h2 (P := P) (R := A) oP (lt_M _ bd1) hA _))) .nil
  case hv13 =>
   refine .cons (.mk (fun _ _ _ => rfl) (fun _ v b H F => by dsimp only at H ⊢; simp [go_sem, exI, H, F]) zPnt ⟨fkc, fkc, fkc, fkc, fkc, fkc, fkc, fkc, fkc, fkc, fka, fku, fkc, trivial⟩) .nil
  intro yw7 v2 hg h7 hV7
  simp only [FW, putFrom, Act.put, List.setIfInBounds_toArray, List.set_cons_zero, List.set_cons_succ, wvals, kW, List.getD_cons_zero, List.getD_cons_succ, Kw.c, pv, Kw.a, Kw.u]
  obtain ⟨⟨N7_10, V7_10⟩, -⟩ : (v1.heap.size ≤ (yw7 10 0).2 ∧ Vr v2 (yw7 10 0).2 (pnt A.1 A.2.1 A.2.2)) ∧ True := hV7
  clear h7
  replace G := G.trans hg
  replace c9 := c9.gr hg
  replace V6_3 := V6_3.gr hg
  replace HQ := fun k => (HQ k).gr hg
  clear hg
  go_upto_region 8 with fail
  refine wp_v true [.c (pv e9 0), .c (.int .i64 (k : Int)), .c (.int .u64 (n2 : Int)), .c (.int .u64 (d2 : Int)), .c (.agg (nw 9 d2)), .c (.agg (pnt P.1 P.2.1 P.2.2)), .c (.tuple #[.agg (pnt B.1 B.2.1 B.2.2), .int .i64 0]), .c (.tuple #[.agg (pnt B.1 B.2.1 B.2.2), .int .i64 0]), .c (.agg (pnt B.1 B.2.1 B.2.2)), .c (.int .i64 0), .a, .u, .c (.int .i64 0)] [1, 3, 4, 5, 6] [⟨10, 11, 27, pnt 0 0 false, fun _ => pnt B.1 B.2.1 B.2.2⟩] ?hs14 ?hv14 ?hf14
  case hs14 =>
   refine .cons (.o 3 0 c9 rfl rfl) ?_
   refine .cons (.s (.binOp .quo 22 (.const (.int .u64 (n2 : Int))) (.const (.int .u64 2)) 22) rfl fun vv hg => by simp [go_sem, exI, q2]) ?_
   refine .cons (.k _ fun yy vv hg hh => RtW.of_c (Rt.c (one_any _ bd2 _))) ?_
   refine .cons (.g 27 0 V6_3 rfl) ?_
   refine .cons (.k _ fun yy vv hg hh => RtW.of_c (Rt.c (mulQ h1 h2 (P := P) (R := B) oP (lt_M _ bd2) hB _))) .nil
  case hv14 =>
   refine .cons (.mk (fun _ _ _ => rfl) (fun _ v b H F => by dsimp only at H ⊢; simp [go_sem, exI, H, F]) zPnt ⟨fkc, fkc, fkc, fkc, fkc, fkc, fkc, fkc, fkc, fkc, fka, fku, fkc, trivial⟩) .nil
  intro yw8 v3 hg h8 hV8
  simp only [FW, putFrom, Act.put, List.setIfInBounds_toArray, List.set_cons_zero, List.set_cons_succ, wvals, kW, List.getD_cons_zero, List.getD_cons_succ, Kw.c, pv, Kw.a, Kw.u]
  obtain ⟨⟨N8_10, V8_10⟩, -⟩ : (v2.heap.size ≤ (yw8 10 0).2 ∧ Vr v3 (yw8 10 0).2 (pnt B.1 B.2.1 B.2.2)) ∧ True := hV8
  clear h8
  replace G := G.trans hg
  replace c9 := c9.gr hg
  replace V6_3 := V6_3.gr hg
  replace V7_10 := V7_10.gr hg
  replace HQ := fun k => (HQ k).gr hg
  clear hg
  go_upto_region 9 with fail
  refine wp_v true [.c (pv e9 0), .c (.int .i64 (k : Int)), .c (.int .u64 (n1 : Int)), .c (.int .u64 (d1 : Int)), .c (.int .u64 (n2 : Int)), .c (.int .u64 (d2 : Int)), .c (.int .u64 (d3 : Int)), .c (.agg (nw 9 d3)), .c (.agg (pnt P.1 P.2.1 P.2.2)), .c (.tuple #[.agg (pnt T.1 T.2.1 T.2.2), .int .i64 0]), .c (.tuple #[.agg (pnt T.1 T.2.1 T.2.2), .int .i64 0]), .c (.agg (pnt T.1 T.2.1 T.2.2)), .c (.int .i64 0), .a, .u, .c (.int .i64 0)] [1, 3, 5, 6, 7, 8, 9] [⟨13, 14, 27, pnt 0 0 false, fun _ => pnt T.1 T.2.1 T.2.2⟩] ?hs15 ?hv15 ?hf15
  case hs15 =>
   refine .cons (.o 3 0 c9 rfl rfl) ?_
   refine .cons (.s (.binOp .quo 22 (.const (.int .u64 (n1 : Int))) (.const (.int .u64 2)) 22) rfl fun vv hg => by simp [go_sem, exI, q1]) ?_
   refine .cons (.s (.binOp .quo 22 (.const (.int .u64 (n2 : Int))) (.const (.int .u64 2)) 22) rfl fun vv hg => by simp [go_sem, exI, q2]) ?_
   refine .cons (.s (.binOp .add 22 (.const (.int .u64 (d1 : Int))) (.const (.int .u64 (d2 : Int))) 22) rfl fun vv hg => by simp [go_sem, exI, q3]) ?_
   refine .cons (.k _ fun yy vv hg hh => RtW.of_c (Rt.c (one_any _ bd3 _))) ?_
   refine .cons (.g 27 0 V6_3 rfl) ?_
   refine .cons (.k _ fun yy vv hg hh => RtW.of_c (Rt.c (mulQ h1 h2 (P := P) (R := T) oP (lt_M _ bd3) hT _))) .nil
  case hv15 =>
   refine .cons (.mk (fun _ _ _ => rfl) (fun _ v b H F => by dsimp only at H ⊢; simp [go_sem, exI, H, F]) zPnt ⟨fkc, fkc, fkc, fkc, fkc, fkc, fkc, fkc, fkc, fkc, fkc, fkc, fkc, fka, fku, fkc, trivial⟩) .nil
  intro yw9 v4 hg h9 hV9
  simp only [FW, putFrom, Act.put, List.setIfInBounds_toArray, List.set_cons_zero, List.set_cons_succ, wvals, kW, List.getD_cons_zero, List.getD_cons_succ, Kw.c, pv, Kw.a, Kw.u]
  obtain ⟨⟨N9_13, V9_13⟩, -⟩ : (v3.heap.size ≤ (yw9 13 0).2 ∧ Vr v4 (yw9 13 0).2 (pnt T.1 T.2.1 T.2.2)) ∧ True := hV9
  clear h9
  replace G := G.trans hg
  replace c9 := c9.gr hg
  replace V6_3 := V6_3.gr hg
  replace V7_10 := V7_10.gr hg
  replace V8_10 := V8_10.gr hg
  replace HQ := fun k => (HQ k).gr hg
  clear hg
  go_upto_region 10 with fail
  refine wp_v false [.c (pv e9 0), .c (.int .i64 (k : Int)), .c (.agg (pnt A.1 A.2.1 A.2.2)), .c (.agg (pnt B.1 B.2.1 B.2.2)), .c (.tuple #[.agg (pnt T.1 T.2.1 T.2.2), .int .i64 0]), .c (.tuple #[.agg (pnt T.1 T.2.1 T.2.2), .int .i64 0]), .c (.agg (pnt T.1 T.2.1 T.2.2)), .c (.int .i64 0), .a, .u, .c (.int .i64 0)] [1, 2, 3, 4] [⟨8, 9, 27, pnt 0 0 false, fun _ => pnt T.1 T.2.1 T.2.2⟩] ?hs16 ?hv16 ?hf16
  case hs16 =>
   refine .cons (.o 3 0 c9 rfl rfl) ?_
   refine .cons (.g 27 0 V7_10 rfl) ?_
   refine .cons (.g 27 0 V8_10 rfl) ?_
   refine .cons (.k _ fun yy vv hg hh => RtW.of_c (Rt.c (addQ h1 h2 (P := A) (Q := B) (R := T) oA oB hAB _))) .nil
  case hv16 =>
   refine .cons (.mk (fun _ _ _ => rfl) (fun _ v b H F => by dsimp only at H ⊢; simp [go_sem, exI, H, F]) zPnt ⟨fkc, fkc, fkc, fkc, fkc, fkc, fkc, fkc, fka, fku, fkc, trivial⟩) .nil
  intro yw10 v5 hg h10 hV10
  simp only [FW, putFrom, Act.put, List.setIfInBounds_toArray, List.set_cons_zero, List.set_cons_succ, wvals, kW, List.getD_cons_zero, List.getD_cons_succ, Kw.c, pv, Kw.a, Kw.u]
  obtain ⟨⟨N10_8, V10_8⟩, -⟩ : (v4.heap.size ≤ (yw10 8 0).2 ∧ Vr v5 (yw10 8 0).2 (pnt T.1 T.2.1 T.2.2)) ∧ True := hV10
  clear h10
  replace G := G.trans hg
  replace c9 := c9.gr hg
  replace V6_3 := V6_3.gr hg
  replace V7_10 := V7_10.gr hg
  replace V8_10 := V8_10.gr hg
  replace V9_13 := V9_13.gr hg
  replace HQ := fun k => (HQ k).gr hg
  clear hg
  go_upto_region 11 with fail
  refine wp_v true [.c (pv e9 0), .c (.int .i64 (k : Int)), .c (.agg (nw 9 3)), .c (.agg (pnt A.1 A.2.1 A.2.2)), .c (.tuple #[.agg (pnt U.1 U.2.1 U.2.2), .int .i64 0]), .c (.tuple #[.agg (pnt U.1 U.2.1 U.2.2), .int .i64 0]), .c (.agg (pnt U.1 U.2.1 U.2.2)), .c (.int .i64 0), .a, .u, .c (.int .i64 0)] [1, 2, 3, 4] [⟨8, 9, 27, pnt 0 0 false, fun _ => pnt U.1 U.2.1 U.2.2⟩] ?hs17 ?hv17 ?hf17
  case hs17 =>
   refine .cons (.o 3 0 c9 rfl rfl) ?_
   refine .cons (.k _ fun yy vv hg hh => RtW.of_c (Rt.c (one_any 3 (by decide) _))) ?_
   refine .cons (.g 27 0 V7_10 rfl) ?_
   refine .cons (.k _ fun yy vv hg hh => RtW.of_c (Rt.c (mulQ h1 h2 (P := A) (R := U) oA (lt_M _ (by decide)) hU _))) .nil
  case hv17 =>
   refine .cons (.mk (fun _ _ _ => rfl) (fun _ v b H F => by dsimp only at H ⊢; simp [go_sem, exI, H, F]) zPnt ⟨fkc, fkc, fkc, fkc, fkc, fkc, fkc, fkc, fka, fku, fkc, trivial⟩) .nil
  intro yw11 v6 hg h11 hV11
  simp only [FW, putFrom, Act.put, List.setIfInBounds_toArray, List.set_cons_zero, List.set_cons_succ, wvals, kW, List.getD_cons_zero, List.getD_cons_succ, Kw.c, pv, Kw.a, Kw.u]
  obtain ⟨⟨N11_8, V11_8⟩, -⟩ : (v5.heap.size ≤ (yw11 8 0).2 ∧ Vr v6 (yw11 8 0).2 (pnt U.1 U.2.1 U.2.2)) ∧ True := hV11
  clear h11
  replace G := G.trans hg
  replace c9 := c9.gr hg
  replace V6_3 := V6_3.gr hg
  replace V7_10 := V7_10.gr hg
  replace V8_10 := V8_10.gr hg
  replace V9_13 := V9_13.gr hg
  replace V10_8 := V10_8.gr hg
  replace HQ := fun k => (HQ k).gr hg
  clear hg
  go_upto_region 12 with fail
  refine wp_v true [.c (pv e9 0), .c (.int .i64 (k : Int)), .c (.int .u64 (n1 : Int)), .c (.int .u64 (d1 : Int)), .c (.int .u64 (m1 : Int)), .c (.int .u64 (m3 : Int)), .c (.agg (nw 9 m3)), .c (.agg (pnt P.1 P.2.1 P.2.2)), .c (.tuple #[.agg (pnt V.1 V.2.1 V.2.2), .int .i64 0]), .c (.tuple #[.agg (pnt V.1 V.2.1 V.2.2), .int .i64 0]), .c (.agg (pnt V.1 V.2.1 V.2.2)), .c (.int .i64 0), .a, .u, .c (.int .i64 0)] [1, 3, 4, 5, 6, 7, 8] [⟨12, 13, 27, pnt 0 0 false, fun _ => pnt V.1 V.2.1 V.2.2⟩] ?hs18 ?hv18 ?hf18
  case hs18 =>
   refine .cons (.o 3 0 c9 rfl rfl) ?_
   refine .cons (.s (.binOp .quo 22 (.const (.int .u64 (n1 : Int))) (.const (.int .u64 2)) 22) rfl fun vv hg => by simp [go_sem, exI, q1]) ?_
   refine .cons (.s (.binOp .rem 22 (.const (.int .u64 (d1 : Int))) (.const (.int .u64 1000)) 22) rfl fun vv hg => by simp [go_sem, exI, q4]) ?_
   refine .cons (.s (.binOp .mul 22 (.const (.int .u64 (m1 : Int))) (.const (.int .u64 3)) 22) rfl fun vv hg => by simp [go_sem, exI, q5]) ?_
   refine .cons (.k _ fun yy vv hg hh => RtW.of_c (Rt.c (one_any _ bm3 _))) ?_
   refine .cons (.g 27 0 V6_3 rfl) ?_
   refine .cons (.k _ fun yy vv hg hh => RtW.of_c (Rt.c (mulQ h1 h2 (P := P) (R := V) oP (lt_M _ bm3) hV _))) .nil
  case hv18 =>
   refine .cons (.mk (fun _ _ _ => rfl) (fun _ v b H F => by dsimp only at H ⊢; simp [go_sem, exI, H, F]) zPnt ⟨fkc, fkc, fkc, fkc, fkc, fkc, fkc, fkc, fkc, fkc, fkc, fkc, fka, fku, fkc, trivial⟩) .nil
  intro yw12 v7 hg h12 hV12
  simp only [FW, putFrom, Act.put, List.setIfInBounds_toArray, List.set_cons_zero, List.set_cons_succ, wvals, kW, List.getD_cons_zero, List.getD_cons_succ, Kw.c, pv, Kw.a, Kw.u]
  obtain ⟨⟨N12_12, V12_12⟩, -⟩ : (v6.heap.size ≤ (yw12 12 0).2 ∧ Vr v7 (yw12 12 0).2 (pnt V.1 V.2.1 V.2.2)) ∧ True := hV12
  clear h12
  replace G := G.trans hg
  replace c9 := c9.gr hg
  replace V6_3 := V6_3.gr hg
  replace V7_10 := V7_10.gr hg
  replace V8_10 := V8_10.gr hg
  replace V9_13 := V9_13.gr hg
  replace V10_8 := V10_8.gr hg
  replace V11_8 := V11_8.gr hg
  replace HQ := fun k => (HQ k).gr hg
  clear hg
  go_upto_region 13 with fail
  refine wp_v true [.c (pv e9 0), .c (.int .i64 (k : Int)), .c (.int .u64 (n1 : Int)), .c (.int .u64 (d1 : Int)), .c (.int .u64 (m1 : Int)), .c (.agg (nw 9 m1)), .c (.agg (pnt P.1 P.2.1 P.2.2)), .c (.tuple #[.agg (pnt E.1 E.2.1 E.2.2), .int .i64 0]), .c (.tuple #[.agg (pnt E.1 E.2.1 E.2.2), .int .i64 0]), .c (.agg (pnt E.1 E.2.1 E.2.2)), .c (.int .i64 0), .a, .u, .c (.int .i64 0)] [1, 3, 4, 5, 6, 7] [⟨11, 12, 27, pnt 0 0 false, fun _ => pnt E.1 E.2.1 E.2.2⟩] ?hs19 ?hv19 ?hf19
  case hs19 =>
   refine .cons (.o 3 0 c9 rfl rfl) ?_
   refine .cons (.s (.binOp .quo 22 (.const (.int .u64 (n1 : Int))) (.const (.int .u64 2)) 22) rfl fun vv hg => by simp [go_sem, exI, q1]) ?_
   refine .cons (.s (.binOp .rem 22 (.const (.int .u64 (d1 : Int))) (.const (.int .u64 1000)) 22) rfl fun vv hg => by simp [go_sem, exI, q4]) ?_
   refine .cons (.k _ fun yy vv hg hh => RtW.of_c (Rt.c (one_any _ bm1 _))) ?_
   refine .cons (.g 27 0 V6_3 rfl) ?_
   refine .cons (.k _ fun yy vv hg hh => RtW.of_c (Rt.c (mulQ h1 h2 (P := P) (R := E) oP (lt_M _ bm1) hE _))) .nil
  case hv19 =>
   refine .cons (.mk (fun _ _ _ => rfl) (fun _ v b H F => by dsimp only at H ⊢; simp [go_sem, exI, H, F]) zPnt ⟨fkc, fkc, fkc, fkc, fkc, fkc, fkc, fkc, fkc, fkc, fkc, fka, fku, fkc, trivial⟩) .nil
  intro yw13 v8 hg h13 hV13
  simp only [FW, putFrom, Act.put, List.setIfInBounds_toArray, List.set_cons_zero, List.set_cons_succ, wvals, kW, List.getD_cons_zero, List.getD_cons_succ, Kw.c, pv, Kw.a, Kw.u]
  obtain ⟨⟨N13_11, V13_11⟩, -⟩ : (v7.heap.size ≤ (yw13 11 0).2 ∧ Vr v8 (yw13 11 0).2 (pnt E.1 E.2.1 E.2.2)) ∧ True := hV13
  clear h13
  replace G := G.trans hg
  replace c9 := c9.gr hg
  replace V6_3 := V6_3.gr hg
  replace V7_10 := V7_10.gr hg
  replace V8_10 := V8_10.gr hg
  replace V9_13 := V9_13.gr hg
  replace V10_8 := V10_8.gr hg
  replace V11_8 := V11_8.gr hg
  replace V12_12 := V12_12.gr hg
  replace HQ := fun k => (HQ k).gr hg
  clear hg
  go_upto_region 14 with fail
  refine wp_v true [.c (pv e9 0), .c (.int .i64 (k : Int)), .c (.agg (nw 9 3)), .c (.agg (pnt E.1 E.2.1 E.2.2)), .c (.tuple #[.agg (pnt V.1 V.2.1 V.2.2), .int .i64 0]), .c (.tuple #[.agg (pnt V.1 V.2.1 V.2.2), .int .i64 0]), .c (.agg (pnt V.1 V.2.1 V.2.2)), .c (.int .i64 0), .a, .u, .c (.int .i64 0)] [1, 2, 3, 4] [⟨8, 9, 27, pnt 0 0 false, fun _ => pnt V.1 V.2.1 V.2.2⟩] ?hs20 ?hv20 ?hf20
  case hs20 =>
   refine .cons (.o 3 0 c9 rfl rfl) ?_
   refine .cons (.k _ fun yy vv hg hh => RtW.of_c (Rt.c (one_any 3 (by decide) _))) ?_
   refine .cons (.g 27 0 V13_11 rfl) ?_
   refine .cons (.k _ fun yy vv hg hh => RtW.of_c (Rt.c (mulQ h1 h2 (P := E) (R := V) oE (lt_M _ (by decide)) hEV _))) .nil
  case hv20 =>
   refine .cons (.mk (fun _ _ _ => rfl) (fun _ v b H F => by dsimp only at H ⊢; simp [go_sem, exI, H, F]) zPnt ⟨fkc, fkc, fkc, fkc, fkc, fkc, fkc, fkc, fka, fku, fkc, trivial⟩) .nil
  intro yw14 v9 hg h14 hV14
  simp only [FW, putFrom, Act.put, List.setIfInBounds_toArray, List.set_cons_zero, List.set_cons_succ, wvals, kW, List.getD_cons_zero, List.getD_cons_succ, Kw.c, pv, Kw.a, Kw.u]
  obtain ⟨⟨N14_8, V14_8⟩, -⟩ : (v8.heap.size ≤ (yw14 8 0).2 ∧ Vr v9 (yw14 8 0).2 (pnt V.1 V.2.1 V.2.2)) ∧ True := hV14
  clear h14
  replace G := G.trans hg
  replace c9 := c9.gr hg
  replace V6_3 := V6_3.gr hg
  replace V7_10 := V7_10.gr hg
  replace V8_10 := V8_10.gr hg
  replace V9_13 := V9_13.gr hg
  replace V10_8 := V10_8.gr hg
  replace V11_8 := V11_8.gr hg
  replace V12_12 := V12_12.gr hg
  replace V13_11 := V13_11.gr hg
  replace HQ := fun k => (HQ k).gr hg
  clear hg
  go_upto_region 15 with fail
  refine wp_wS [.c (.int .i64 0), .c (.int .i64 0), .c (.bool true), .c (.bool true), .c (.int .i64 0), .c (.int .i64 0), .c (.bool true), .c (.bool true), .c (.bool true), .c (.int .i64 0), .c (.int .i64 0), .c (.bool true), .c (.bool true), .c (.bool true), .c (.int .i64 0), .c (.int .i64 0), .c (.bool true), .c (.bool true), .c (.bool true), .c (.agg (pnt T.1 T.2.1 T.2.2)), .c (.agg (pnt T.1 T.2.1 T.2.2)), .c (.bool true), .c (.bool true), .c (.bool true), .c (.agg (pnt V.1 V.2.1 V.2.2)), .c (.agg (pnt V.1 V.2.1 V.2.2)), .c (.bool true), .c (.bool true), .c (.bool true), .c (pv e9 0), .c (.int .i64 (k : Int)), .c (.agg (pnt U.1 U.2.1 U.2.2)), .c (.bool true), .c (.bool true), .c (.bool true)] [1, 5, 10, 15, 19, 20, 21, 24, 25, 26, 30, 31, 32] ?hs21 ?hf21
  case hs21 =>
   refine .cons (.k _ fun yy vv hg hh => RtW.of_c (Rt.same (num_any _ _))) ?_
   refine .cons (.k _ fun yy vv hg hh => RtW.of_c (Rt.same (num_any _ _))) ?_
   refine .cons (.k _ fun yy vv hg hh => RtW.of_c (Rt.same (num_any _ _))) ?_
   refine .cons (.k _ fun yy vv hg hh => RtW.of_c (Rt.same (num_any _ _))) ?_
   refine .cons (.g 27 0 V9_13 rfl) ?_
   refine .cons (.g 27 0 V10_8 rfl) ?_
   refine .cons (.s (.binOp .eql 27 (.const (.agg (pnt T.1 T.2.1 T.2.2))) (.const (.agg (pnt T.1 T.2.1 T.2.2))) 27) rfl fun vv hg => by simp [go_sem, exI, eqPn, eqN_self]) ?_
   refine .cons (.g 27 0 V12_12 rfl) ?_
   refine .cons (.g 27 0 V14_8 rfl) ?_
   refine .cons (.s (.binOp .eql 27 (.const (.agg (pnt V.1 V.2.1 V.2.2))) (.const (.agg (pnt V.1 V.2.1 V.2.2))) 27) rfl fun vv hg => by simp [go_sem, exI, eqPn, eqN_self]) ?_
   refine .cons (.o 3 0 c9 rfl rfl) ?_
   refine .cons (.g 27 0 V11_8 rfl) ?_
   refine .cons (.k _ fun yy vv hg hh => RtW.of_c (Rt.c (onQ_yes h1 h2 (P := U) oU _))) .nil
  intro yw15 v10 hg h15
  simp only [FW, putFrom, Act.put, List.setIfInBounds_toArray, List.set_cons_zero, List.set_cons_succ, wvals, kW, List.getD_cons_zero, List.getD_cons_succ, Kw.c, pv]
  clear h15
  replace G := G.trans hg
  replace c9 := c9.gr hg
  replace V6_3 := V6_3.gr hg
  replace V7_10 := V7_10.gr hg
  replace V8_10 := V8_10.gr hg
  replace V9_13 := V9_13.gr hg
  replace V10_8 := V10_8.gr hg
  replace V11_8 := V11_8.gr hg
  replace V12_12 := V12_12.gr hg
  replace V13_11 := V13_11.gr hg
  replace V14_8 := V14_8.gr hg
  replace HQ := fun k => (HQ k).gr hg
  clear hg
  go_wp2_with fail
  go_ret
  exact ⟨rfl, G⟩

end Go.Proofs.YtlbkhhihkomahaaGreat
