import Derived.Test.YtlbkhhihkomahaaGreatXSAU
import Derived.Test.YtlbkhhihkomahaaGreatXSAW
import Derived.Test.YtlbkhhihkomahaaGreatXSAL
import Derived.Test.YtlbkhhihkomahaaGreatXSRGet
namespace Go.Proofs.YtlbkhhihkomahaaGreat
open Go.RowKit
attribute [local go_sem ↓] loadNat_is loadArr_is loadWide_is loadArrW_is storeNat_is storeWide_is
attribute [local go_sem] loadNat loadArr loadWide loadArrW storeNat storeWide idxArr fold9 fold18 nw_size nw_elem pre_self pre_1 pre_2 pre_3 pre_4 pre_5 pre_6 pre_7 pre_8 pre_9 pre_10 pre_11 pre_12 pre_13 pre_14 pre_15 pre_16 pre_17 pre_18 pre_19 pre_20 pre_21 pre_22 pre_23 pre_24 pre_25 pre_26 pre_27 pre_28 pre_29 pre_30 pre_31 pre_32 pre_33 pre_34 pre_35 pre_36 pre_37 pre_38 pre_39 pre_40 gro_size gro_drew gro_drewN drew_gro drewN_gro gro_gro blk_gro frz_gro blk_drew frz_drew blk_drewN frz_drewN blk_alloc_at frz_alloc_at blk_alloc frz_alloc cell_gro frozen_gro cell_alloc_pre frozen_alloc_pre setCell_drewN alloc_drewN setBlk_drew setBlk_drewN setBlk_alloc_at setBlk_alloc setBlk_gro setCell_gro setCell_alloc_pre size_setBlk size_setCell
attribute [local go_sem] ppre_1 ppre_2 ppre_3 ppre_4 ppre_5 ppre_6
attribute [local go_sem ↓] bsl_is loadC_is storeC_is loadPt_is storePt_is zvPt_is buildPt_is loadPn_is storePn_is zvPn_is loadCu_is storeCu_is zvCu_is buildCu_is buildPn_is Go.wp_at_zero Go.wp_at_succ
attribute [local go_sem] loadC storeC0 storeCr crA_size loadPt storePt zvPt ptA_size loadPn storePn zvPn pnt_size loadCu storeCu zvCu cu_size buildCu0 buildPnI buildPn2 loadCP loadCA loadCB loadCN loadCG loadCX loadCY cu_P cu_A cu_B cu_N cu_G cu_X cu_Y frz_setBlk blk_setBlk setBlk_setBlk blk_other
set_option maxRecDepth 100000 in
set_option maxHeartbeats 3200000 in
theorem laline_any (id : Int) (n1 n2 : Nat) (bn1 : n1 < 18446744073709551616) (bn2 : n2 < 18446744073709551616) (w : World) : Calls Tryz.prog 9 #[.int .i64 id, .int .u64 (n1 : Int), .int .u64 (n2 : Int)] w fun e w' => e = .returned (.bool true) ∧ Gr w w' := by
  obtain ⟨u, hu, hu2, hk⟩ := idx_conv id
  have hbd := idx_bd id
  obtain ⟨k, hkk⟩ : ∃ k, idx id = k := ⟨_, rfl⟩
  rw [hkk] at hk hbd
  obtain ⟨h1, h2⟩ := hbd
  have u0 : (0 : Int) ≤ (u : Int) := by omega
  have hk2 : (1 : Int) + (u : Int) % 15 = (k : Int) := by omega
  have hk3 : IntKind.i64.wrap ((u : Int) % 15) = (u : Int) % 15 := by rw [IntKind.wrap_i64]; omega
  have hk4 : IntKind.u64.wrap ((u : Int) % 15) = (u : Int) % 15 := by rw [IntKind.wrap_u64]; omega
  have hk5 : (u : Int).tmod 15 = (u : Int) % 15 := by rw [Int.tmod_eq_emod_of_nonneg (by omega)]
  have k0 : (1 : Int) ≤ (k : Int) := by omega
  have k1 : (k : Int) ≤ 15 := by omega
  have hu3 : id % 18446744073709551616 = (u : Int) := by rw [← hu, IntKind.wrap_u64]
  clear hkk hk
  have HGR : Hid (∀ w, Calls Tryz.prog 12 #[.int .i64 (k : Int)] w (GetQ k w)) := fun w => getq_yes k h1 h2 w
  have HAW : Hid (∀ w, Calls Tryz.prog 16 #[] w fun e w' => e = .returned (.bool true) ∧ Gr w w') := fun w => awake14_any w
  go_enter Tryz.func9, Tryz.ntmps9
  go_upto_region 6 with (first
    | (go_at_call 16; refine (HAW.out _).mono ?_; rintro e WA ⟨rfl, GA⟩)
    | (go_at_call 12; refine (HGR.out _).mono ?_; rintro e WB ⟨qc, rfl, HQ, GB⟩))
  obtain ⟨e9, he9⟩ : ∃ b, WB.heap.size = b := ⟨_, rfl⟩
  simp only [he9]
  refine gen_w (fun v => Gr w v ∧ Vr v e9 (crA (k : Int) (nN k) qc) ∧ ∀ j, Sl v (qc j).1 (nN k j)) ?_ ?_
  · subst he9
    exact ⟨(GA.trans GB).alloc _, Vr.new _ _ _, fun j => (HQ j).gr ((Gr.refl _).alloc _)⟩
  clear he9 GA GB HQ HAW HGR hu hu2 hk2 hk3 hk4 hk5 hu3 u0 k0 k1
  rintro v0 ⟨G, c9, HQ⟩
  obtain ⟨P, hP⟩ : ∃ Z, mlQ k n1 (gQ k) = Z := ⟨_, rfl⟩
  have oP : OnQ k P := hP ▸ mlQ_on h1 h2 _ (gQ_on h1 h2)
  have bP := bn1
  obtain ⟨Q, hQ⟩ : ∃ Z, mlQ k n2 (gQ k) = Z := ⟨_, rfl⟩
  have oQ : OnQ k Q := hQ ▸ mlQ_on h1 h2 _ (gQ_on h1 h2)
  have bQ := bn2
  obtain ⟨A, hA⟩ : ∃ Z, plQ k P Q = Z := ⟨_, rfl⟩
  have oA : OnQ k A := hA ▸ plQ_on h1 h2 oP oQ
  obtain ⟨N, hN⟩ : ∃ Z, ngQ k A = Z := ⟨_, rfl⟩
  have oN : OnQ k N := hN ▸ ngQ_on h1 h2 oA
  have hAN : plQ k A N = inf := by rw [← hN, plQ_ng h1 h2]
  refine wp_v true [.c (.agg (crA (k : Int) (nN k) qc)), .c (.int .u64 (n1 : Int)), .c (.agg (pnt P.1 P.2.1 P.2.2)), .c (.agg (crA (k : Int) (nN k) qc)), .c (.int .u64 (n2 : Int)), .c (.agg (pnt Q.1 Q.2.1 Q.2.2)), .a, .a, .u, .u] [0, 2, 3, 5] [⟨6, 8, 27, pnt 0 0 false, fun _ => pnt P.1 P.2.1 P.2.2⟩, ⟨7, 9, 27, pnt 0 0 false, fun _ => pnt Q.1 Q.2.1 Q.2.2⟩] ?hs1 ?hv1 ?hf1
  case hs1 =>
   refine .cons (.g 31 0 c9 rfl) ?_
   refine .cons (.k _ fun yy vv hg hh => RtW.of_c (Rt.c (some_is h1 h2 bP hP qc _ (fun j => (HQ j).gr hg)))) ?_
   refine .cons (.g 31 0 c9 rfl) ?_
   refine .cons (.k _ fun yy vv hg hh => RtW.of_c (Rt.c (some_is h1 h2 bQ hQ qc _ (fun j => (HQ j).gr hg)))) .nil
  case hv1 =>
   refine .cons (.mk (fun _ _ _ => rfl) (fun _ v b H F => by dsimp only at H ⊢; simp [go_sem, exI, H, F]) zPnt ⟨fkc, fkc, fkc, fkc, fkc, fkc, fka, fka, fku, fku, trivial⟩) ?_
   refine .cons (.mk (fun _ _ _ => rfl) (fun _ v b H F => by dsimp only at H ⊢; simp [go_sem, exI, H, F]) zPnt ⟨fkc, fkc, fkc, fkc, fkc, fkc, fka, fka, fku, fku, trivial⟩) .nil
  intro yw6 v1 hg h6 hV6
  simp only [FW, putFrom, Act.put, List.setIfInBounds_toArray, List.set_cons_zero, List.set_cons_succ, wvals, kW, List.getD_cons_zero, List.getD_cons_succ, Kw.c, Kw.a, Kw.u]
  obtain ⟨⟨N6_6, V6_6⟩, ⟨N6_7, V6_7⟩, -⟩ : (v0.heap.size ≤ (yw6 6 0).2 ∧ Vr v1 (yw6 6 0).2 (pnt P.1 P.2.1 P.2.2)) ∧ (v0.heap.size ≤ (yw6 7 0).2 ∧ Vr v1 (yw6 7 0).2 (pnt Q.1 Q.2.1 Q.2.2)) ∧ True := hV6
  clear h6
  replace G := G.trans hg
  replace c9 := c9.gr hg
  replace HQ := fun k => (HQ k).gr hg
  clear hg
  go_upto_region 7 with fail
  refine wp_v false [.c (pv e9 0), .c (.int .i64 (k : Int)), .c (.agg (pnt P.1 P.2.1 P.2.2)), .c (.agg (pnt Q.1 Q.2.1 Q.2.2)), .c (.tuple #[.agg (pnt A.1 A.2.1 A.2.2), .int .i64 0]), .c (.tuple #[.agg (pnt A.1 A.2.1 A.2.2), .int .i64 0]), .c (.agg (pnt A.1 A.2.1 A.2.2)), .c (.int .i64 0), .a, .u, .c (.int .i64 0)] [1, 2, 3, 4] [⟨8, 9, 27, pnt 0 0 false, fun _ => pnt A.1 A.2.1 A.2.2⟩] ?hs2 ?hv2 ?hf2
  case hs2 =>
   refine .cons (.o 3 0 c9 rfl rfl) ?_
   refine .cons (.g 27 0 V6_6 rfl) ?_
   refine .cons (.g 27 0 V6_7 rfl) ?_
   refine .cons (.k _ fun yy vv hg hh => RtW.of_c (Rt.c (addQ h1 h2 (P := P) (Q := Q) (R := A) oP oQ hA _))) .nil
  case hv2 =>
   refine .cons (.mk (fun _ _ _ => rfl) (fun _ v b H F => by dsimp only at H ⊢; simp [go_sem, exI, H, F]) zPnt ⟨fkc, fkc, fkc, fkc, fkc, fkc, fkc, fkc, fka, fku, fkc, trivial⟩) .nil
  intro yw7 v2 hg h7 hV7
  simp only [FW, putFrom, Act.put, List.setIfInBounds_toArray, List.set_cons_zero, List.set_cons_succ, wvals, kW, List.getD_cons_zero, List.getD_cons_succ, Kw.c, pv, Kw.a, Kw.u]
  obtain ⟨⟨N7_8, V7_8⟩, -⟩ : (v1.heap.size ≤ (yw7 8 0).2 ∧ Vr v2 (yw7 8 0).2 (pnt A.1 A.2.1 A.2.2)) ∧ True := hV7
  clear h7
  replace G := G.trans hg
  replace c9 := c9.gr hg
  replace V6_6 := V6_6.gr hg
  replace V6_7 := V6_7.gr hg
  replace HQ := fun k => (HQ k).gr hg
  clear hg
  go_upto_region 8 with fail
  refine wp_v false [.c (pv e9 0), .c (.int .i64 (k : Int)), .c (.agg (pnt A.1 A.2.1 A.2.2)), .c (.tuple #[.agg (pnt N.1 N.2.1 N.2.2), .int .i64 0]), .c (.tuple #[.agg (pnt N.1 N.2.1 N.2.2), .int .i64 0]), .c (.agg (pnt N.1 N.2.1 N.2.2)), .c (.int .i64 0), .a, .u, .c (.int .i64 0)] [1, 2, 3] [⟨7, 8, 27, pnt 0 0 false, fun _ => pnt N.1 N.2.1 N.2.2⟩] ?hs3 ?hv3 ?hf3
  case hs3 =>
   refine .cons (.o 3 0 c9 rfl rfl) ?_
   refine .cons (.g 27 0 V7_8 rfl) ?_
   refine .cons (.k _ fun yy vv hg hh => RtW.of_c (Rt.c (negQ h1 h2 (P := A) (R := N) oA hN _))) .nil
  case hv3 =>
   refine .cons (.mk (fun _ _ _ => rfl) (fun _ v b H F => by dsimp only at H ⊢; simp [go_sem, exI, H, F]) zPnt ⟨fkc, fkc, fkc, fkc, fkc, fkc, fkc, fka, fku, fkc, trivial⟩) .nil
  intro yw8 v3 hg h8 hV8
  simp only [FW, putFrom, Act.put, List.setIfInBounds_toArray, List.set_cons_zero, List.set_cons_succ, wvals, kW, List.getD_cons_zero, List.getD_cons_succ, Kw.c, pv, Kw.a, Kw.u]
  obtain ⟨⟨N8_7, V8_7⟩, -⟩ : (v2.heap.size ≤ (yw8 7 0).2 ∧ Vr v3 (yw8 7 0).2 (pnt N.1 N.2.1 N.2.2)) ∧ True := hV8
  clear h8
  replace G := G.trans hg
  replace c9 := c9.gr hg
  replace V6_6 := V6_6.gr hg
  replace V6_7 := V6_7.gr hg
  replace V7_8 := V7_8.gr hg
  replace HQ := fun k => (HQ k).gr hg
  clear hg
  go_upto_region 9 with fail
  refine wp_v false [.c (pv e9 0), .c (.int .i64 (k : Int)), .c (.agg (pnt P.1 P.2.1 P.2.2)), .c (.agg (pnt Q.1 Q.2.1 Q.2.2)), .c (.tuple #[.agg (pnt A.1 A.2.1 A.2.2), .int .i64 0]), .c (.tuple #[.agg (pnt A.1 A.2.1 A.2.2), .int .i64 0]), .c (.agg (pnt A.1 A.2.1 A.2.2)), .c (.int .i64 0), .a, .u, .c (.int .i64 0)] [1, 2, 3, 4] [⟨8, 9, 27, pnt 0 0 false, fun _ => pnt A.1 A.2.1 A.2.2⟩] ?hs4 ?hv4 ?hf4
  case hs4 =>
   refine .cons (.o 3 0 c9 rfl rfl) ?_
   refine .cons (.g 27 0 V6_6 rfl) ?_
   refine .cons (.g 27 0 V6_7 rfl) ?_
   refine .cons (.k _ fun yy vv hg hh => RtW.of_c (Rt.c (addQ h1 h2 (P := P) (Q := Q) (R := A) oP oQ hA _))) .nil
  case hv4 =>
   refine .cons (.mk (fun _ _ _ => rfl) (fun _ v b H F => by dsimp only at H ⊢; simp [go_sem, exI, H, F]) zPnt ⟨fkc, fkc, fkc, fkc, fkc, fkc, fkc, fkc, fka, fku, fkc, trivial⟩) .nil
  intro yw9 v4 hg h9 hV9
  simp only [FW, putFrom, Act.put, List.setIfInBounds_toArray, List.set_cons_zero, List.set_cons_succ, wvals, kW, List.getD_cons_zero, List.getD_cons_succ, Kw.c, pv, Kw.a, Kw.u]
  obtain ⟨⟨N9_8, V9_8⟩, -⟩ : (v3.heap.size ≤ (yw9 8 0).2 ∧ Vr v4 (yw9 8 0).2 (pnt A.1 A.2.1 A.2.2)) ∧ True := hV9
  clear h9
  replace G := G.trans hg
  replace c9 := c9.gr hg
  replace V6_6 := V6_6.gr hg
  replace V6_7 := V6_7.gr hg
  replace V7_8 := V7_8.gr hg
  replace V8_7 := V8_7.gr hg
  replace HQ := fun k => (HQ k).gr hg
  clear hg
  go_upto_region 10 with fail
  refine wp_v false [.c (pv e9 0), .c (.int .i64 (k : Int)), .c (.agg (pnt A.1 A.2.1 A.2.2)), .c (.agg (pnt N.1 N.2.1 N.2.2)), .c (.tuple #[.agg (pnt 0 0 true), .int .i64 0]), .c (.tuple #[.agg (pnt 0 0 true), .int .i64 0]), .c (.agg (pnt 0 0 true)), .c (.int .i64 0), .a, .u, .c (.int .i64 0)] [1, 2, 3, 4] [⟨8, 9, 27, pnt 0 0 false, fun _ => pnt 0 0 true⟩] ?hs5 ?hv5 ?hf5
  case hs5 =>
   refine .cons (.o 3 0 c9 rfl rfl) ?_
   refine .cons (.g 27 0 V9_8 rfl) ?_
   refine .cons (.g 27 0 V8_7 rfl) ?_
   refine .cons (.k _ fun yy vv hg hh => RtW.of_c (Rt.c (addQ h1 h2 (P := A) (Q := N) (R := inf) oA oN hAN _))) .nil
  case hv5 =>
   refine .cons (.mk (fun _ _ _ => rfl) (fun _ v b H F => by dsimp only at H ⊢; simp [go_sem, exI, H, F]) zPnt ⟨fkc, fkc, fkc, fkc, fkc, fkc, fkc, fkc, fka, fku, fkc, trivial⟩) .nil
  intro yw10 v5 hg h10 hV10
  simp only [FW, putFrom, Act.put, List.setIfInBounds_toArray, List.set_cons_zero, List.set_cons_succ, wvals, kW, List.getD_cons_zero, List.getD_cons_succ, Kw.c, pv, Kw.a, Kw.u]
  obtain ⟨⟨N10_8, V10_8⟩, -⟩ : (v4.heap.size ≤ (yw10 8 0).2 ∧ Vr v5 (yw10 8 0).2 (pnt 0 0 true)) ∧ True := hV10
  clear h10
  replace G := G.trans hg
  replace c9 := c9.gr hg
  replace V6_6 := V6_6.gr hg
  replace V6_7 := V6_7.gr hg
  replace V7_8 := V7_8.gr hg
  replace V8_7 := V8_7.gr hg
  replace V9_8 := V9_8.gr hg
  replace HQ := fun k => (HQ k).gr hg
  clear hg
  go_upto_region 11 with fail
  refine wp_wS [.c (.int .i64 0), .c (.int .i64 0), .c (.bool false), .c (.bool false), .c (.int .i64 0), .c (.int .i64 0), .c (.bool false), .c (.bool false), .c (.bool false), .c (.int .i64 0), .c (.int .i64 0), .c (.bool false), .c (.bool false), .c (.bool false), .c (.agg (pnt 0 0 true)), .c (.agg (pnt 0 0 true)), .c (.bool false), .c (.bool false)] [1, 5, 10, 14, 16] ?hs6 ?hf6
  case hs6 =>
   refine .cons (.k _ fun yy vv hg hh => RtW.of_c (Rt.same (num_any _ _))) ?_
   refine .cons (.k _ fun yy vv hg hh => RtW.of_c (Rt.same (num_any _ _))) ?_
   refine .cons (.k _ fun yy vv hg hh => RtW.of_c (Rt.same (num_any _ _))) ?_
   refine .cons (.g 27 0 V10_8 rfl) ?_
   refine .cons (.s (.binOp .neq 27 (.const (.agg (pnt 0 0 true))) (.const (.agg (pnt 0 0 true))) 27) rfl fun vv hg => by simp [go_sem, exI, nePn, eqN_self]) .nil
  intro yw11 v6 hg h11
  simp only [FW, putFrom, Act.put, List.setIfInBounds_toArray, List.set_cons_zero, List.set_cons_succ, wvals, kW, List.getD_cons_zero, List.getD_cons_succ, Kw.c]
  clear h11
  replace G := G.trans hg
  replace c9 := c9.gr hg
  replace V6_6 := V6_6.gr hg
  replace V6_7 := V6_7.gr hg
  replace V7_8 := V7_8.gr hg
  replace V8_7 := V8_7.gr hg
  replace V9_8 := V9_8.gr hg
  replace V10_8 := V10_8.gr hg
  replace HQ := fun k => (HQ k).gr hg
  clear hg
  go_upto_region 13 with fail
  clear hP hQ bP bQ bn1 bn2
  rcases oP.cases with eP | ⟨px, py, eP, lpx, lpy, -⟩
  · subst eP
    replace V6_6 : Vr v6 (yw6 6 0).2 (pnt 0 0 true) := V6_6
    refine wp_wS [.c (pv ((yw6 6 0).2) 18), .c (.bool true), .c (.bool true), .u, .u, .c (.bool true), .c (.bool true), .u, .u, .c (.bool true), .c (.bool true), .u, .u, .u, .c (.bool true)] [1] ?hs7 ?hf7
    case hs7 =>
     refine .cons (.o 4 18 V6_6 rfl (by exact pnt_18 _ _ _)) .nil
    intro yw13 v7 hg h13
    simp only [FW, putFrom, Act.put, List.setIfInBounds_toArray, List.set_cons_zero, List.set_cons_succ, wvals, kW, List.getD_cons_zero, List.getD_cons_succ, Kw.c, pv, Kw.u]
    clear h13
    replace G := G.trans hg
    replace c9 := c9.gr hg
    replace V6_6 := V6_6.gr hg
    replace V6_7 := V6_7.gr hg
    replace V7_8 := V7_8.gr hg
    replace V8_7 := V8_7.gr hg
    replace V9_8 := V9_8.gr hg
    replace V10_8 := V10_8.gr hg
    replace HQ := fun k => (HQ k).gr hg
    clear hg
    go_wp2_with fail
    go_ret
    exact ⟨rfl, G⟩
  · rcases oQ.cases with eQ | ⟨qx, qy, eQ, lqx, lqy, -⟩
    · subst eP eQ
      replace V6_6 : Vr v6 (yw6 6 0).2 (pnt px py false) := V6_6
      replace V6_7 : Vr v6 (yw6 7 0).2 (pnt 0 0 true) := V6_7
      refine wp_wS [.c (pv ((yw6 6 0).2) 18), .c (.bool false), .c (.bool false), .c (pv ((yw6 7 0).2) 18), .c (.bool true), .c (.bool true), .c (.bool true), .u, .u, .c (.bool true), .c (.bool true), .u, .u, .u, .c (.bool true)] [1, 4] ?hs8 ?hf8
      case hs8 =>
       refine .cons (.o 4 18 V6_6 rfl (by exact pnt_18 _ _ _)) ?_
       refine .cons (.o 4 18 V6_7 rfl (by exact pnt_18 _ _ _)) .nil
      intro yw13 v7 hg h13
      simp only [FW, putFrom, Act.put, List.setIfInBounds_toArray, List.set_cons_zero, List.set_cons_succ, wvals, kW, List.getD_cons_zero, List.getD_cons_succ, Kw.c, pv, Kw.u]
      clear h13
      replace G := G.trans hg
      replace c9 := c9.gr hg
      replace V6_6 := V6_6.gr hg
      replace V6_7 := V6_7.gr hg
      replace V7_8 := V7_8.gr hg
      replace V8_7 := V8_7.gr hg
      replace V9_8 := V9_8.gr hg
      replace V10_8 := V10_8.gr hg
      replace HQ := fun k => (HQ k).gr hg
      clear hg
      go_wp2_with fail
      go_ret
      exact ⟨rfl, G⟩
    · rcases oN.cases with eN | ⟨nx, ny, eN, lnx, lny, -⟩
      · subst eP eQ eN
        replace V6_6 : Vr v6 (yw6 6 0).2 (pnt px py false) := V6_6
        replace V6_7 : Vr v6 (yw6 7 0).2 (pnt qx qy false) := V6_7
        replace V8_7 : Vr v6 (yw8 7 0).2 (pnt 0 0 true) := V8_7
        refine wp_wS [.c (pv ((yw6 6 0).2) 18), .c (.bool false), .c (.bool false), .c (pv ((yw6 7 0).2) 18), .c (.bool false), .c (.bool false), .c (.bool false), .c (pv ((yw8 7 0).2) 18), .c (.bool true), .c (.bool true), .c (.bool true), .u, .u, .u, .c (.bool true)] [1, 4, 8] ?hs9 ?hf9
        case hs9 =>
         refine .cons (.o 4 18 V6_6 rfl (by exact pnt_18 _ _ _)) ?_
         refine .cons (.o 4 18 V6_7 rfl (by exact pnt_18 _ _ _)) ?_
         refine .cons (.o 4 18 V8_7 rfl (by exact pnt_18 _ _ _)) .nil
        intro yw13 v7 hg h13
        simp only [FW, putFrom, Act.put, List.setIfInBounds_toArray, List.set_cons_zero, List.set_cons_succ, wvals, kW, List.getD_cons_zero, List.getD_cons_succ, Kw.c, pv, Kw.u]
        clear h13
        replace G := G.trans hg
        replace c9 := c9.gr hg
        replace V6_6 := V6_6.gr hg
        replace V6_7 := V6_7.gr hg
        replace V7_8 := V7_8.gr hg
        replace V8_7 := V8_7.gr hg
        replace V9_8 := V9_8.gr hg
        replace V10_8 := V10_8.gr hg
        replace HQ := fun k => (HQ k).gr hg
        clear hg
        go_wp2_with fail
        go_ret
        exact ⟨rfl, G⟩
      · subst eP eQ eN
        obtain ⟨be, hbe⟩ : ∃ b, (eqN 9 px qx && eqN 9 py qy) = b := ⟨_, rfl⟩
        cases be with
        | true =>
          replace V6_6 : Vr v6 (yw6 6 0).2 (pnt px py false) := V6_6
          replace V6_7 : Vr v6 (yw6 7 0).2 (pnt qx qy false) := V6_7
          replace V8_7 : Vr v6 (yw8 7 0).2 (pnt nx ny false) := V8_7
          refine wp_wS [.c (pv ((yw6 6 0).2) 18), .c (.bool false), .c (.bool false), .c (pv ((yw6 7 0).2) 18), .c (.bool false), .c (.bool false), .c (.bool false), .c (pv ((yw8 7 0).2) 18), .c (.bool false), .c (.bool false), .c (.bool false), .c (.agg (pnt px py false)), .c (.agg (pnt qx qy false)), .c (.bool true), .c (.bool true)] [1, 4, 8, 11, 12, 13] ?hs10 ?hf10
          case hs10 =>
           refine .cons (.o 4 18 V6_6 rfl (by exact pnt_18 _ _ _)) ?_
           refine .cons (.o 4 18 V6_7 rfl (by exact pnt_18 _ _ _)) ?_
           refine .cons (.o 4 18 V8_7 rfl (by exact pnt_18 _ _ _)) ?_
           refine .cons (.g 27 0 V6_6 rfl) ?_
           refine .cons (.g 27 0 V6_7 rfl) ?_
           refine .cons (.s (.binOp .eql 27 (.const (.agg (pnt px py false))) (.const (.agg (pnt qx qy false))) 27) rfl fun vv hg => by simp [go_sem, exI, eqPn, hbe]) .nil
          intro yw13 v7 hg h13
          simp only [FW, putFrom, Act.put, List.setIfInBounds_toArray, List.set_cons_zero, List.set_cons_succ, wvals, kW, List.getD_cons_zero, List.getD_cons_succ, Kw.c, pv]
          clear h13
          replace G := G.trans hg
          replace c9 := c9.gr hg
          replace V6_6 := V6_6.gr hg
          replace V6_7 := V6_7.gr hg
          replace V7_8 := V7_8.gr hg
          replace V8_7 := V8_7.gr hg
          replace V9_8 := V9_8.gr hg
          replace V10_8 := V10_8.gr hg
          replace HQ := fun k => (HQ k).gr hg
          clear hg
          go_wp2_with fail
          go_ret
          exact ⟨rfl, G⟩
        | false =>
          have hd : dl (pN k) ≤ 400 := by have := pN_dl k h1 h2; omega
          have hM := pN_M k
          have lmpx := Nat.lt_trans lpx hM
          have lmpy := Nat.lt_trans lpy hM
          have lmqx := Nat.lt_trans lqx hM
          have lmqy := Nat.lt_trans lqy hM
          have lmnx := Nat.lt_trans lnx hM
          have lmny := Nat.lt_trans lny hM
          have hline := lineQ h1 h2 oP oQ (fun ⟨a, b⟩ => by rw [a, b, eqN_self, eqN_self] at hbe; cases hbe) (by rw [hA]; exact hN)
          obtain ⟨u1, hu1⟩ : ∃ z, subM qy py (pN k) = z := ⟨_, rfl⟩
          obtain ⟨u2, hu2⟩ : ∃ z, subM nx px (pN k) = z := ⟨_, rfl⟩
          obtain ⟨u3, hu3⟩ : ∃ z, subM ny py (pN k) = z := ⟨_, rfl⟩
          obtain ⟨u4, hu4⟩ : ∃ z, subM qx px (pN k) = z := ⟨_, rfl⟩
          rw [hu1, hu2, hu3, hu4] at hline
          obtain ⟨t, ht⟩ : ∃ z, u1 * u2 % pN k = z := ⟨_, rfl⟩
          have ht2 : u3 * u4 % pN k = t := hline ▸ ht
          have lu1 : u1 < pN k := hu1 ▸ subM_lt lqy lpy
          have lu2 : u2 < pN k := hu2 ▸ subM_lt lnx lpx
          have lu3 : u3 < pN k := hu3 ▸ subM_lt lny lpy
          have lu4 : u4 < pN k := hu4 ▸ subM_lt lqx lpx
          have hdt : dl t ≤ 400 := dl_low _ (pN k) 400 (Nat.le_of_lt (ht ▸ Nat.mod_lt _ (by omega))) hd
          clear hline hA hN hAN
          replace V6_6 : Vr v6 (yw6 6 0).2 (pnt px py false) := V6_6
          replace V6_7 : Vr v6 (yw6 7 0).2 (pnt qx qy false) := V6_7
          replace V8_7 : Vr v6 (yw8 7 0).2 (pnt nx ny false) := V8_7
          refine wp_wS [.c (pv ((yw6 6 0).2) 18), .c (.bool false), .c (.bool false), .c (pv ((yw6 7 0).2) 18), .c (.bool false), .c (.bool false), .c (.bool false), .c (pv ((yw8 7 0).2) 18), .c (.bool false), .c (.bool false), .c (.bool false), .c (.agg (pnt px py false)), .c (.agg (pnt qx qy false)), .c (.bool false), .c (.bool false)] [1, 4, 8, 11, 12, 13] ?hs11 ?hf11
          case hs11 =>
           refine .cons (.o 4 18 V6_6 rfl (by exact pnt_18 _ _ _)) ?_
           refine .cons (.o 4 18 V6_7 rfl (by exact pnt_18 _ _ _)) ?_
           refine .cons (.o 4 18 V8_7 rfl (by exact pnt_18 _ _ _)) ?_
           refine .cons (.g 27 0 V6_6 rfl) ?_
           refine .cons (.g 27 0 V6_7 rfl) ?_
           refine .cons (.s (.binOp .eql 27 (.const (.agg (pnt px py false))) (.const (.agg (pnt qx qy false))) 27) rfl fun vv hg => by simp [go_sem, exI, eqPn, hbe]) .nil
          intro yw13 v7 hg h13
          simp only [FW, putFrom, Act.put, List.setIfInBounds_toArray, List.set_cons_zero, List.set_cons_succ, wvals, kW, List.getD_cons_zero, List.getD_cons_succ, Kw.c, pv]
          clear h13
          replace G := G.trans hg
          replace c9 := c9.gr hg
          replace V6_6 := V6_6.gr hg
          replace V6_7 := V6_7.gr hg
          replace V7_8 := V7_8.gr hg
          replace V8_7 := V8_7.gr hg
          replace V9_8 := V9_8.gr hg
          replace V10_8 := V10_8.gr hg
          replace HQ := fun k => (HQ k).gr hg
          clear hg
          go_upto_region 15 with fail
          refine wp_v true [.c (.agg (pnt px py false)), .pt (px) (py) false, .c (.agg (pnt qx qy false)), .pt (qx) (qy) false, .c (.agg (pnt nx ny false)), .pt (nx) (ny) false, .a, .a, .a, .u, .u, .u] [0, 1, 2, 3, 4, 5] [⟨6, 9, 41, ptA none 0 0 none 0 0 false, fun yy => ptA (yy 1 0).1 (px) (yy 1 0).2 (yy 1 1).1 (py) (yy 1 1).2 false⟩, ⟨7, 10, 41, ptA none 0 0 none 0 0 false, fun yy => ptA (yy 3 0).1 (qx) (yy 3 0).2 (yy 3 1).1 (qy) (yy 3 1).2 false⟩, ⟨8, 11, 41, ptA none 0 0 none 0 0 false, fun yy => ptA (yy 5 0).1 (nx) (yy 5 0).2 (yy 5 1).1 (ny) (yy 5 1).2 false⟩] ?hs12 ?hv12 ?hf12
          case hs12 =>
           refine .cons (.g 27 0 V6_6 rfl) ?_
           refine .cons (.k _ fun yy vv hg hh => RtW.of_pt (rin_any _ _ _ lmpx lmpy _)) ?_
           refine .cons (.g 27 0 V6_7 rfl) ?_
           refine .cons (.k _ fun yy vv hg hh => RtW.of_pt (rin_any _ _ _ lmqx lmqy _)) ?_
           refine .cons (.g 27 0 V8_7 rfl) ?_
           refine .cons (.k _ fun yy vv hg hh => RtW.of_pt (rin_any _ _ _ lmnx lmny _)) .nil
          case hv12 =>
           refine .cons (.mk (fun _ _ h => Value.agg.inj (h 1 rfl)) (fun _ v b H F => by dsimp only at H ⊢; simp [go_sem, exI, H, F]) zPt ⟨fkc, fkp bPt, fkc, fkp bPt, fkc, fkp bPt, fka, fka, fka, fku, fku, fku, trivial⟩) ?_
           refine .cons (.mk (fun _ _ h => Value.agg.inj (h 3 rfl)) (fun _ v b H F => by dsimp only at H ⊢; simp [go_sem, exI, H, F]) zPt ⟨fkc, fkp bPt, fkc, fkp bPt, fkc, fkp bPt, fka, fka, fka, fku, fku, fku, trivial⟩) ?_
           refine .cons (.mk (fun _ _ h => Value.agg.inj (h 5 rfl)) (fun _ v b H F => by dsimp only at H ⊢; simp [go_sem, exI, H, F]) zPt ⟨fkc, fkp bPt, fkc, fkp bPt, fkc, fkp bPt, fka, fka, fka, fku, fku, fku, trivial⟩) .nil
          intro yw15 v8 hg h15 hV15
          simp only [FW, putFrom, Act.put, List.setIfInBounds_toArray, List.set_cons_zero, List.set_cons_succ, wvals, kW, List.getD_cons_zero, List.getD_cons_succ, Kw.c, Kw.a, Kw.pt, Kw.u]
          obtain ⟨S15_1, T15_1⟩ : Sl v8 (yw15 1 0).1 (px) ∧ Sl v8 (yw15 1 1).1 (py) := h15 1
          obtain ⟨S15_3, T15_3⟩ : Sl v8 (yw15 3 0).1 (qx) ∧ Sl v8 (yw15 3 1).1 (qy) := h15 3
          obtain ⟨S15_5, T15_5⟩ : Sl v8 (yw15 5 0).1 (nx) ∧ Sl v8 (yw15 5 1).1 (ny) := h15 5
          obtain ⟨⟨N15_6, V15_6⟩, ⟨N15_7, V15_7⟩, ⟨N15_8, V15_8⟩, -⟩ : (v7.heap.size ≤ (yw15 6 0).2 ∧ Vr v8 (yw15 6 0).2 (ptA (yw15 1 0).1 (px) (yw15 1 0).2 (yw15 1 1).1 (py) (yw15 1 1).2 false)) ∧ (v7.heap.size ≤ (yw15 7 0).2 ∧ Vr v8 (yw15 7 0).2 (ptA (yw15 3 0).1 (qx) (yw15 3 0).2 (yw15 3 1).1 (qy) (yw15 3 1).2 false)) ∧ (v7.heap.size ≤ (yw15 8 0).2 ∧ Vr v8 (yw15 8 0).2 (ptA (yw15 5 0).1 (nx) (yw15 5 0).2 (yw15 5 1).1 (ny) (yw15 5 1).2 false)) ∧ True := hV15
          clear h15
          replace G := G.trans hg
          replace c9 := c9.gr hg
          replace V6_6 := V6_6.gr hg
          replace V6_7 := V6_7.gr hg
          replace V7_8 := V7_8.gr hg
          replace V8_7 := V8_7.gr hg
          replace V9_8 := V9_8.gr hg
          replace V10_8 := V10_8.gr hg
          replace HQ := fun k => (HQ k).gr hg
          clear hg
          go_upto_region 16 with fail
          refine wp_w [.c (pv ((yw15 7 0).2) 1), .c (.slice (yw15 3 1).1 (dl (qy)) (yw15 3 1).2), .c (pv ((yw15 6 0).2) 1), .c (.slice (yw15 1 1).1 (dl (py)) (yw15 1 1).2), .c (pv e9 1), .c (.slice (qc 0).1 (dl (pN k)) (qc 0).2), .n (u1), .c (pv ((yw15 8 0).2) 0), .c (.slice (yw15 5 0).1 (dl (nx)) (yw15 5 0).2), .c (pv ((yw15 6 0).2) 0), .c (.slice (yw15 1 0).1 (dl (px)) (yw15 1 0).2), .c (pv e9 1), .c (.slice (qc 0).1 (dl (pN k)) (qc 0).2), .n (u2), .c (pv e9 1), .c (.slice (qc 0).1 (dl (pN k)) (qc 0).2), .n (t), .n (t)] [1, 3, 5, 6, 8, 10, 12, 13, 15, 16, 17] ?hs13 ?hf13
          case hs13 =>
           refine .cons (.o 29 1 V15_7 rfl rfl) ?_
           refine .cons (.o 29 1 V15_6 rfl rfl) ?_
           refine .cons (.o 29 1 c9 rfl rfl) ?_
           refine .cons (.k (fun yy => #[.slice (yw15 3 1).1 (dl (qy)) (yw15 3 1).2, .slice (yw15 1 1).1 (dl (py)) (yw15 1 1).2, .slice (qc 0).1 (dl (pN k)) (qc 0).2]) fun yy vv hg hh => RtW.of_n (sm_any (T15_3.gr hg) (T15_1.gr hg) ((HQ 0).gr hg) lqy lpy hd hu1)) ?_
           refine .cons (.o 29 0 V15_8 rfl rfl) ?_
           refine .cons (.o 29 0 V15_6 rfl rfl) ?_
           refine .cons (.o 29 1 c9 rfl rfl) ?_
           refine .cons (.k (fun yy => #[.slice (yw15 5 0).1 (dl (nx)) (yw15 5 0).2, .slice (yw15 1 0).1 (dl (px)) (yw15 1 0).2, .slice (qc 0).1 (dl (pN k)) (qc 0).2]) fun yy vv hg hh => RtW.of_n (sm_any (S15_5.gr hg) (S15_1.gr hg) ((HQ 0).gr hg) lnx lpx hd hu2)) ?_
           refine .cons (.o 29 1 c9 rfl rfl) ?_
           refine .cons (.k (fun yy => #[.slice (yy 6 0).1 (dl (u1)) (yy 6 0).2, .slice (yy 13 0).1 (dl (u2)) (yy 13 0).2, .slice (qc 0).1 (dl (pN k)) (qc 0).2]) fun yy vv hg hh => RtW.of_n (mm_any (hh 6 rfl) (hh 13 rfl) ((HQ 0).gr hg) lu1 lu2 hd ht)) ?_
           refine .cons (.m 16) .nil
          intro yw16 v9 hg h16
          simp only [FW, putFrom, Act.put, List.setIfInBounds_toArray, List.set_cons_zero, List.set_cons_succ, wvals, kW, List.getD_cons_zero, List.getD_cons_succ, Kw.c, pv, Kw.n]
          have S16_17 : Sl v9 (yw16 17 0).1 (t) := h16 17
          clear h16
          replace G := G.trans hg
          replace c9 := c9.gr hg
          replace V6_6 := V6_6.gr hg
          replace V6_7 := V6_7.gr hg
          replace V7_8 := V7_8.gr hg
          replace V8_7 := V8_7.gr hg
          replace V9_8 := V9_8.gr hg
          replace V10_8 := V10_8.gr hg
          replace V15_6 := V15_6.gr hg
          replace V15_7 := V15_7.gr hg
          replace V15_8 := V15_8.gr hg
          replace HQ := fun k => (HQ k).gr hg
          replace S15_1 := S15_1.gr hg
          replace T15_1 := T15_1.gr hg
          replace S15_3 := S15_3.gr hg
          replace T15_3 := T15_3.gr hg
          replace S15_5 := S15_5.gr hg
          replace T15_5 := T15_5.gr hg
          clear hg
          go_upto_region 17 with fail
          refine wp_w [.c (pv ((yw15 8 0).2) 1), .c (.slice (yw15 5 1).1 (dl (ny)) (yw15 5 1).2), .c (pv ((yw15 6 0).2) 1), .c (.slice (yw15 1 1).1 (dl (py)) (yw15 1 1).2), .c (pv e9 1), .c (.slice (qc 0).1 (dl (pN k)) (qc 0).2), .n (u3), .c (pv ((yw15 7 0).2) 0), .c (.slice (yw15 3 0).1 (dl (qx)) (yw15 3 0).2), .c (pv ((yw15 6 0).2) 0), .c (.slice (yw15 1 0).1 (dl (px)) (yw15 1 0).2), .c (pv e9 1), .c (.slice (qc 0).1 (dl (pN k)) (qc 0).2), .n (u4), .c (pv e9 1), .c (.slice (qc 0).1 (dl (pN k)) (qc 0).2), .n (t), .n (t)] [1, 3, 5, 6, 8, 10, 12, 13, 15, 16, 17] ?hs14 ?hf14
          case hs14 =>
           refine .cons (.o 29 1 V15_8 rfl rfl) ?_
           refine .cons (.o 29 1 V15_6 rfl rfl) ?_
           refine .cons (.o 29 1 c9 rfl rfl) ?_
           refine .cons (.k (fun yy => #[.slice (yw15 5 1).1 (dl (ny)) (yw15 5 1).2, .slice (yw15 1 1).1 (dl (py)) (yw15 1 1).2, .slice (qc 0).1 (dl (pN k)) (qc 0).2]) fun yy vv hg hh => RtW.of_n (sm_any (T15_5.gr hg) (T15_1.gr hg) ((HQ 0).gr hg) lny lpy hd hu3)) ?_
           refine .cons (.o 29 0 V15_7 rfl rfl) ?_
           refine .cons (.o 29 0 V15_6 rfl rfl) ?_
           refine .cons (.o 29 1 c9 rfl rfl) ?_
           refine .cons (.k (fun yy => #[.slice (yw15 3 0).1 (dl (qx)) (yw15 3 0).2, .slice (yw15 1 0).1 (dl (px)) (yw15 1 0).2, .slice (qc 0).1 (dl (pN k)) (qc 0).2]) fun yy vv hg hh => RtW.of_n (sm_any (S15_3.gr hg) (S15_1.gr hg) ((HQ 0).gr hg) lqx lpx hd hu4)) ?_
           refine .cons (.o 29 1 c9 rfl rfl) ?_
           refine .cons (.k (fun yy => #[.slice (yy 6 0).1 (dl (u3)) (yy 6 0).2, .slice (yy 13 0).1 (dl (u4)) (yy 13 0).2, .slice (qc 0).1 (dl (pN k)) (qc 0).2]) fun yy vv hg hh => RtW.of_n (mm_any (hh 6 rfl) (hh 13 rfl) ((HQ 0).gr hg) lu3 lu4 hd ht2)) ?_
           refine .cons (.m 16) .nil
          intro yw17 v10 hg h17
          simp only [FW, putFrom, Act.put, List.setIfInBounds_toArray, List.set_cons_zero, List.set_cons_succ, wvals, kW, List.getD_cons_zero, List.getD_cons_succ, Kw.c, pv, Kw.n]
          have S17_17 : Sl v10 (yw17 17 0).1 (t) := h17 17
          clear h17
          replace G := G.trans hg
          replace c9 := c9.gr hg
          replace V6_6 := V6_6.gr hg
          replace V6_7 := V6_7.gr hg
          replace V7_8 := V7_8.gr hg
          replace V8_7 := V8_7.gr hg
          replace V9_8 := V9_8.gr hg
          replace V10_8 := V10_8.gr hg
          replace V15_6 := V15_6.gr hg
          replace V15_7 := V15_7.gr hg
          replace V15_8 := V15_8.gr hg
          replace HQ := fun k => (HQ k).gr hg
          replace S15_1 := S15_1.gr hg
          replace T15_1 := T15_1.gr hg
          replace S15_3 := S15_3.gr hg
          replace T15_3 := T15_3.gr hg
          replace S15_5 := S15_5.gr hg
          replace T15_5 := T15_5.gr hg
          replace S16_17 := S16_17.gr hg
          clear hg
          go_upto_region 18 with fail
          refine wp_wS [.c (.slice (yw16 17 0).1 (dl (t)) (yw16 17 0).2), .c (.slice (yw17 17 0).1 (dl (t)) (yw17 17 0).2), .c (.int .i64 0), .c (.bool true), .c (.bool true)] [2] ?hs15 ?hf15
          case hs15 =>
           refine .cons (.k (fun yy => #[.slice (yw16 17 0).1 (dl (t)) (yw16 17 0).2, .slice (yw17 17 0).1 (dl (t)) (yw17 17 0).2]) fun yy vv hg hh => RtW.of_c (cz_any (S16_17.gr hg) (S17_17.gr hg) hdt hdt (by unfold cmpZ; simp))) .nil
          intro yw18 v11 hg h18
          simp only [FW, putFrom, Act.put, List.setIfInBounds_toArray, List.set_cons_zero, List.set_cons_succ, wvals, kW, List.getD_cons_zero, List.getD_cons_succ, Kw.c]
          clear h18
          replace G := G.trans hg
          replace c9 := c9.gr hg
          replace V6_6 := V6_6.gr hg
          replace V6_7 := V6_7.gr hg
          replace V7_8 := V7_8.gr hg
          replace V8_7 := V8_7.gr hg
          replace V9_8 := V9_8.gr hg
          replace V10_8 := V10_8.gr hg
          replace V15_6 := V15_6.gr hg
          replace V15_7 := V15_7.gr hg
          replace V15_8 := V15_8.gr hg
          replace HQ := fun k => (HQ k).gr hg
          replace S15_1 := S15_1.gr hg
          replace T15_1 := T15_1.gr hg
          replace S15_3 := S15_3.gr hg
          replace T15_3 := T15_3.gr hg
          replace S15_5 := S15_5.gr hg
          replace T15_5 := T15_5.gr hg
          replace S16_17 := S16_17.gr hg
          replace S17_17 := S17_17.gr hg
          clear hg
          go_wp2_with fail
          go_ret
          exact ⟨rfl, G⟩

end Go.Proofs.YtlbkhhihkomahaaGreat
