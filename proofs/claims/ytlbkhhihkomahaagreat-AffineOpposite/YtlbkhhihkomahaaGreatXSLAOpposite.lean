import Derived.Test.YtlbkhhihkomahaaGreatXSAS
import Derived.Test.YtlbkhhihkomahaaGreatXSRGet
namespace Go.Proofs.YtlbkhhihkomahaaGreat
open Go.RowKit
attribute [local go_sem ↓] loadNat_is loadArr_is loadWide_is loadArrW_is storeNat_is storeWide_is
attribute [local go_sem] loadNat loadArr loadWide loadArrW storeNat storeWide idxArr fold9 fold18 nw_size nw_elem pre_self pre_1 pre_2 pre_3 pre_4 pre_5 pre_6 pre_7 pre_8 pre_9 pre_10 pre_11 pre_12 pre_13 pre_14 pre_15 pre_16 pre_17 pre_18 pre_19 pre_20 pre_21 pre_22 pre_23 pre_24 pre_25 pre_26 pre_27 pre_28 pre_29 pre_30 pre_31 pre_32 pre_33 pre_34 pre_35 pre_36 pre_37 pre_38 pre_39 pre_40 gro_size gro_drew gro_drewN drew_gro drewN_gro gro_gro blk_gro frz_gro blk_drew frz_drew blk_drewN frz_drewN blk_alloc_at frz_alloc_at blk_alloc frz_alloc cell_gro frozen_gro cell_alloc_pre frozen_alloc_pre setCell_drewN alloc_drewN setBlk_drew setBlk_drewN setBlk_alloc_at setBlk_alloc setBlk_gro setCell_gro setCell_alloc_pre size_setBlk size_setCell
attribute [local go_sem] ppre_1 ppre_2 ppre_3 ppre_4 ppre_5 ppre_6
attribute [local go_sem ↓] bsl_is loadC_is storeC_is loadPt_is storePt_is zvPt_is buildPt_is loadPn_is storePn_is zvPn_is loadCu_is storeCu_is zvCu_is buildCu_is buildPn_is Go.wp_at_zero Go.wp_at_succ
attribute [local go_sem] loadC storeC0 storeCr crA_size loadPt storePt zvPt ptA_size loadPn storePn zvPn pnt_size loadCu storeCu zvCu cu_size buildCu0 buildPnI buildPn2 loadCP loadCA loadCB loadCN loadCG loadCX loadCY cu_P cu_A cu_B cu_N cu_G cu_X cu_Y frz_setBlk blk_setBlk setBlk_setBlk blk_other
set_option maxRecDepth 100000 in
set_option maxHeartbeats 1600000 in
theorem laopposite_any (id : Int) (n1 n2 : Nat) (bn1 : n1 < 18446744073709551616) (bn2 : n2 < 18446744073709551616) (w : World) : Calls Tryz.prog 10 #[.int .i64 id, .int .u64 (n1 : Int), .int .u64 (n2 : Int)] w fun e w' => e = .returned (.bool true) ∧ Gr w w' := by
  obtain ⟨u, hu, hu2, hk⟩ := idx_conv id
  have hbd := idx_bd id
  obtain ⟨k, hkk⟩ : ∃ k, idx id = k := ⟨_, rfl⟩
  rw [hkk] at hk hbd
  obtain ⟨h1, h2⟩ := hbd
  have u0 : (0 : Int) ≤ (u : Int) := by omega
  have hk2 : (1 : Int) + (u : Int) % 15 = (k : Int) := by omega
  have hk3 : IntKind.i64.wrap ((u : Int) % 15) = (u : Int) % 15 := by rw [IntKind.wrap_i64]; omega
  have hk4 : IntKind.u64.wrap ((u : Int) % 15) = (u : Int) % 15 := by rw [IntKind.wrap_u64]; omega
  have hk5 : (u : Int).tmod 15 = (u : Int) % 15 := by rw [Int.tmod_eq_emod_of_nonneg (by omega)]
  have k0 : (1 : Int) ≤ (k : Int) := by omega
  have k1 : (k : Int) ≤ 15 := by omega
  have hu3 : id % 18446744073709551616 = (u : Int) := by rw [← hu, IntKind.wrap_u64]
  clear hkk hk
  have HGR : Hid (∀ w, Calls Tryz.prog 12 #[.int .i64 (k : Int)] w (GetQ k w)) := fun w => getq_yes k h1 h2 w
  have HAW : Hid (∀ w, Calls Tryz.prog 16 #[] w fun e w' => e = .returned (.bool true) ∧ Gr w w') := fun w => awake14_any w
  go_enter Tryz.func10, Tryz.ntmps10
  go_upto_region 6 with (first
    | (go_at_call 16; refine (HAW.out _).mono ?_; rintro e WA ⟨rfl, GA⟩)
    | (go_at_call 12; refine (HGR.out _).mono ?_; rintro e WB ⟨qc, rfl, HQ, GB⟩))
  obtain ⟨e9, he9⟩ : ∃ b, WB.heap.size = b := ⟨_, rfl⟩
  simp only [he9]
  refine gen_w (fun v => Gr w v ∧ Vr v e9 (crA (k : Int) (nN k) qc) ∧ ∀ j, Sl v (qc j).1 (nN k j)) ?_ ?_
  · subst he9
    exact ⟨(GA.trans GB).alloc _, Vr.new _ _ _, fun j => (HQ j).gr ((Gr.refl _).alloc _)⟩
  clear he9 GA GB HQ HAW HGR hu hu2 hk2 hk3 hk4 hk5 hu3 u0 k0 k1
  rintro v0 ⟨G, c9, HQ⟩
  obtain ⟨P, hP⟩ : ∃ Z, mlQ k n1 (gQ k) = Z := ⟨_, rfl⟩
  have oP : OnQ k P := hP ▸ mlQ_on h1 h2 _ (gQ_on h1 h2)
  have bP := bn1
  obtain ⟨N, hN⟩ : ∃ Z, ngQ k P = Z := ⟨_, rfl⟩
  have oN : OnQ k N := hN ▸ ngQ_on h1 h2 oP
  obtain ⟨A, hA⟩ : ∃ Z, mlQ k n2 N = Z := ⟨_, rfl⟩
  obtain ⟨B, hB⟩ : ∃ Z, mlQ k n2 P = Z := ⟨_, rfl⟩
  have oB : OnQ k B := hB ▸ mlQ_on h1 h2 _ oP
  have hBA : ngQ k B = A := by rw [← hB, ← hA, ← hN, mlQ_ng h1 h2 _ oP]
  have hNN : ngQ k N = P := by rw [← hN, ngQ_ng h1 h2 oP]
  refine wp_v false [.c (.agg (crA (k : Int) (nN k) qc)), .c (.int .u64 (n1 : Int)), .c (.agg (pnt P.1 P.2.1 P.2.2)), .a, .u] [0, 2] [⟨3, 4, 27, pnt 0 0 false, fun _ => pnt P.1 P.2.1 P.2.2⟩] ?hs5 ?hv5 ?hf5
  case hs5 =>
   refine .cons (.g 31 0 c9 rfl) ?_
   refine .cons (.k _ fun yy vv hg hh => RtW.of_c (Rt.c (some_is h1 h2 bP hP qc _ (fun j => (HQ j).gr hg)))) .nil
  case hv5 =>
   refine .cons (.mk (fun _ _ _ => rfl) (fun _ v b H F => by dsimp only at H ⊢; simp [go_sem, exI, H, F]) zPnt ⟨fkc, fkc, fkc, fka, fku, trivial⟩) .nil
  intro yw6 v1 hg h6 hV6
  simp only [FW, putFrom, Act.put, List.setIfInBounds_toArray, List.set_cons_zero, List.set_cons_succ, wvals, kW, List.getD_cons_zero, List.getD_cons_succ, Kw.c, Kw.a, Kw.u]
  obtain ⟨⟨N6_3, V6_3⟩, -⟩ : (v0.heap.size ≤ (yw6 3 0).2 ∧ Vr v1 (yw6 3 0).2 (pnt P.1 P.2.1 P.2.2)) ∧ True := hV6
  clear h6
  replace G := G.trans hg
  replace c9 := c9.gr hg
  replace HQ := fun k => (HQ k).gr hg
  clear hg
  go_upto_region 7 with fail
  refine wp_v false [.c (pv e9 0), .c (.int .i64 (k : Int)), .c (.agg (pnt P.1 P.2.1 P.2.2)), .c (.tuple #[.agg (pnt N.1 N.2.1 N.2.2), .int .i64 0]), .c (.tuple #[.agg (pnt N.1 N.2.1 N.2.2), .int .i64 0]), .c (.agg (pnt N.1 N.2.1 N.2.2)), .c (.int .i64 0), .a, .u, .c (.int .i64 0)] [1, 2, 3] [⟨7, 8, 27, pnt 0 0 false, fun _ => pnt N.1 N.2.1 N.2.2⟩] ?hs6 ?hv6 ?hf6
  case hs6 =>
   refine .cons (.o 3 0 c9 rfl rfl) ?_
   refine .cons (.g 27 0 V6_3 rfl) ?_
   refine .cons (.k _ fun yy vv hg hh => RtW.of_c (Rt.c (negQ h1 h2 (P := P) (R := N) oP hN _))) .nil
  case hv6 =>
   refine .cons (.mk (fun _ _ _ => rfl) (fun _ v b H F => by dsimp only at H ⊢; simp [go_sem, exI, H, F]) zPnt ⟨fkc, fkc, fkc, fkc, fkc, fkc, fkc, fka, fku, fkc, trivial⟩) .nil
  intro yw7 v2 hg h7 hV7
  simp only [FW, putFrom, Act.put, List.setIfInBounds_toArray, List.set_cons_zero, List.set_cons_succ, wvals, kW, List.getD_cons_zero, List.getD_cons_succ, Kw.c, pv, Kw.a, Kw.u]
  obtain ⟨⟨N7_7, V7_7⟩, -⟩ : (v1.heap.size ≤ (yw7 7 0).2 ∧ Vr v2 (yw7 7 0).2 (pnt N.1 N.2.1 N.2.2)) ∧ True := hV7
  clear h7
  replace G := G.trans hg
  replace c9 := c9.gr hg
  replace V6_3 := V6_3.gr hg
  replace HQ := fun k => (HQ k).gr hg
  clear hg
  go_upto_region 8 with fail
  refine wp_v true [.c (pv e9 0), .c (.int .i64 (k : Int)), .c (.int .u64 (n2 : Int)), .c (.agg (nw 9 n2)), .c (.agg (pnt N.1 N.2.1 N.2.2)), .c (.tuple #[.agg (pnt A.1 A.2.1 A.2.2), .int .i64 0]), .c (.tuple #[.agg (pnt A.1 A.2.1 A.2.2), .int .i64 0]), .c (.agg (pnt A.1 A.2.1 A.2.2)), .c (.int .i64 0), .a, .u, .c (.int .i64 0)] [1, 3, 4, 5] [⟨9, 10, 27, pnt 0 0 false, fun _ => pnt A.1 A.2.1 A.2.2⟩] ?hs7 ?hv7 ?hf7
  case hs7 =>
   refine .cons (.o 3 0 c9 rfl rfl) ?_
   refine .cons (.k _ fun yy vv hg hh => RtW.of_c (Rt.c (one_any _ bn2 _))) ?_
   refine .cons (.g 27 0 V7_7 rfl) ?_
   refine .cons (.k _ fun yy vv hg hh => RtW.of_c (Rt.c (mulQ h1 h2 (P := N) (R := A) oN (lt_M _ bn2) hA _))) .nil
  case hv7 =>
   refine .cons (.mk (fun _ _ _ => rfl) (fun _ v b H F => by dsimp only at H ⊢; simp [go_sem, exI, H, F]) zPnt ⟨fkc, fkc, fkc, fkc, fkc, fkc, fkc, fkc, fkc, fka, fku, fkc, trivial⟩) .nil
  intro yw8 v3 hg h8 hV8
  simp only [FW, putFrom, Act.put, List.setIfInBounds_toArray, List.set_cons_zero, List.set_cons_succ, wvals, kW, List.getD_cons_zero, List.getD_cons_succ, Kw.c, pv, Kw.a, Kw.u]
  obtain ⟨⟨N8_9, V8_9⟩, -⟩ : (v2.heap.size ≤ (yw8 9 0).2 ∧ Vr v3 (yw8 9 0).2 (pnt A.1 A.2.1 A.2.2)) ∧ True := hV8
  clear h8
  replace G := G.trans hg
  replace c9 := c9.gr hg
  replace V6_3 := V6_3.gr hg
  replace V7_7 := V7_7.gr hg
  replace HQ := fun k => (HQ k).gr hg
  clear hg
  go_upto_region 9 with fail
  refine wp_v true [.c (pv e9 0), .c (.int .i64 (k : Int)), .c (.int .u64 (n2 : Int)), .c (.agg (nw 9 n2)), .c (.agg (pnt P.1 P.2.1 P.2.2)), .c (.tuple #[.agg (pnt B.1 B.2.1 B.2.2), .int .i64 0]), .c (.tuple #[.agg (pnt B.1 B.2.1 B.2.2), .int .i64 0]), .c (.agg (pnt B.1 B.2.1 B.2.2)), .c (.int .i64 0), .a, .u, .c (.int .i64 0)] [1, 3, 4, 5] [⟨9, 10, 27, pnt 0 0 false, fun _ => pnt B.1 B.2.1 B.2.2⟩] ?hs8 ?hv8 ?hf8
  case hs8 =>
   refine .cons (.o 3 0 c9 rfl rfl) ?_
   refine .cons (.k _ fun yy vv hg hh => RtW.of_c (Rt.c (one_any _ bn2 _))) ?_
   refine .cons (.g 27 0 V6_3 rfl) ?_
   refine .cons (.k _ fun yy vv hg hh => RtW.of_c (Rt.c (mulQ h1 h2 (P := P) (R := B) oP (lt_M _ bn2) hB _))) .nil
  case hv8 =>
   refine .cons (.mk (fun _ _ _ => rfl) (fun _ v b H F => by dsimp only at H ⊢; simp [go_sem, exI, H, F]) zPnt ⟨fkc, fkc, fkc, fkc, fkc, fkc, fkc, fkc, fkc, fka, fku, fkc, trivial⟩) .nil
  intro yw9 v4 hg h9 hV9
  simp only [FW, putFrom, Act.put, List.setIfInBounds_toArray, List.set_cons_zero, List.set_cons_succ, wvals, kW, List.getD_cons_zero, List.getD_cons_succ, Kw.c, pv, Kw.a, Kw.u]
  obtain ⟨⟨N9_9, V9_9⟩, -⟩ : (v3.heap.size ≤ (yw9 9 0).2 ∧ Vr v4 (yw9 9 0).2 (pnt B.1 B.2.1 B.2.2)) ∧ True := hV9
  clear h9
  replace G := G.trans hg
  replace c9 := c9.gr hg
  replace V6_3 := V6_3.gr hg
  replace V7_7 := V7_7.gr hg
  replace V8_9 := V8_9.gr hg
  replace HQ := fun k => (HQ k).gr hg
  clear hg
  go_upto_region 10 with fail
  refine wp_v false [.c (pv e9 0), .c (.int .i64 (k : Int)), .c (.agg (pnt B.1 B.2.1 B.2.2)), .c (.tuple #[.agg (pnt A.1 A.2.1 A.2.2), .int .i64 0]), .c (.tuple #[.agg (pnt A.1 A.2.1 A.2.2), .int .i64 0]), .c (.agg (pnt A.1 A.2.1 A.2.2)), .c (.int .i64 0), .a, .u, .c (.int .i64 0)] [1, 2, 3] [⟨7, 8, 27, pnt 0 0 false, fun _ => pnt A.1 A.2.1 A.2.2⟩] ?hs9 ?hv9 ?hf9
  case hs9 =>
   refine .cons (.o 3 0 c9 rfl rfl) ?_
   refine .cons (.g 27 0 V9_9 rfl) ?_
   refine .cons (.k _ fun yy vv hg hh => RtW.of_c (Rt.c (negQ h1 h2 (P := B) (R := A) oB hBA _))) .nil
  case hv9 =>
   refine .cons (.mk (fun _ _ _ => rfl) (fun _ v b H F => by dsimp only at H ⊢; simp [go_sem, exI, H, F]) zPnt ⟨fkc, fkc, fkc, fkc, fkc, fkc, fkc, fka, fku, fkc, trivial⟩) .nil
  intro yw10 v5 hg h10 hV10
  simp only [FW, putFrom, Act.put, List.setIfInBounds_toArray, List.set_cons_zero, List.set_cons_succ, wvals, kW, List.getD_cons_zero, List.getD_cons_succ, Kw.c, pv, Kw.a, Kw.u]
  obtain ⟨⟨N10_7, V10_7⟩, -⟩ : (v4.heap.size ≤ (yw10 7 0).2 ∧ Vr v5 (yw10 7 0).2 (pnt A.1 A.2.1 A.2.2)) ∧ True := hV10
  clear h10
  replace G := G.trans hg
  replace c9 := c9.gr hg
  replace V6_3 := V6_3.gr hg
  replace V7_7 := V7_7.gr hg
  replace V8_9 := V8_9.gr hg
  replace V9_9 := V9_9.gr hg
  replace HQ := fun k => (HQ k).gr hg
  clear hg
  go_upto_region 11 with fail
  refine wp_v false [.c (pv e9 0), .c (.int .i64 (k : Int)), .c (.agg (pnt N.1 N.2.1 N.2.2)), .c (.tuple #[.agg (pnt P.1 P.2.1 P.2.2), .int .i64 0]), .c (.tuple #[.agg (pnt P.1 P.2.1 P.2.2), .int .i64 0]), .c (.agg (pnt P.1 P.2.1 P.2.2)), .c (.int .i64 0), .a, .u, .c (.int .i64 0)] [1, 2, 3] [⟨7, 8, 27, pnt 0 0 false, fun _ => pnt P.1 P.2.1 P.2.2⟩] ?hs10 ?hv10 ?hf10
  case hs10 =>
   refine .cons (.o 3 0 c9 rfl rfl) ?_
   refine .cons (.g 27 0 V7_7 rfl) ?_
   refine .cons (.k _ fun yy vv hg hh => RtW.of_c (Rt.c (negQ h1 h2 (P := N) (R := P) oN hNN _))) .nil
  case hv10 =>
   refine .cons (.mk (fun _ _ _ => rfl) (fun _ v b H F => by dsimp only at H ⊢; simp [go_sem, exI, H, F]) zPnt ⟨fkc, fkc, fkc, fkc, fkc, fkc, fkc, fka, fku, fkc, trivial⟩) .nil
  intro yw11 v6 hg h11 hV11
  simp only [FW, putFrom, Act.put, List.setIfInBounds_toArray, List.set_cons_zero, List.set_cons_succ, wvals, kW, List.getD_cons_zero, List.getD_cons_succ, Kw.c, pv, Kw.a, Kw.u]
  obtain ⟨⟨N11_7, V11_7⟩, -⟩ : (v5.heap.size ≤ (yw11 7 0).2 ∧ Vr v6 (yw11 7 0).2 (pnt P.1 P.2.1 P.2.2)) ∧ True := hV11
  clear h11
  replace G := G.trans hg
  replace c9 := c9.gr hg
  replace V6_3 := V6_3.gr hg
  replace V7_7 := V7_7.gr hg
  replace V8_9 := V8_9.gr hg
  replace V9_9 := V9_9.gr hg
  replace V10_7 := V10_7.gr hg
  replace HQ := fun k => (HQ k).gr hg
  clear hg
  go_upto_region 12 with fail
  refine wp_wS [.c (.int .i64 0), .c (.int .i64 0), .c (.bool true), .c (.bool true), .c (.int .i64 0), .c (.int .i64 0), .c (.bool true), .c (.bool true), .c (.bool true), .c (.int .i64 0), .c (.int .i64 0), .c (.bool true), .c (.bool true), .c (.bool true), .c (.int .i64 0), .c (.int .i64 0), .c (.bool true), .c (.bool true), .c (.bool true), .c (.agg (pnt A.1 A.2.1 A.2.2)), .c (.agg (pnt A.1 A.2.1 A.2.2)), .c (.bool true), .c (.bool true), .c (.bool true), .c (.agg (pnt P.1 P.2.1 P.2.2)), .c (.agg (pnt P.1 P.2.1 P.2.2)), .c (.bool true), .c (.bool true), .c (.bool true)] [1, 5, 10, 15, 19, 20, 21, 24, 25, 26] ?hs11 ?hf11
  case hs11 =>
   refine .cons (.k _ fun yy vv hg hh => RtW.of_c (Rt.same (num_any _ _))) ?_
   refine .cons (.k _ fun yy vv hg hh => RtW.of_c (Rt.same (num_any _ _))) ?_
   refine .cons (.k _ fun yy vv hg hh => RtW.of_c (Rt.same (num_any _ _))) ?_
   refine .cons (.k _ fun yy vv hg hh => RtW.of_c (Rt.same (num_any _ _))) ?_
   refine .cons (.g 27 0 V8_9 rfl) ?_
   refine .cons (.g 27 0 V10_7 rfl) ?_
   refine .cons (.s (.binOp .eql 27 (.const (.agg (pnt A.1 A.2.1 A.2.2))) (.const (.agg (pnt A.1 A.2.1 A.2.2))) 27) rfl fun vv hg => by simp [go_sem, exI, eqPn, eqN_self]) ?_
   refine .cons (.g 27 0 V11_7 rfl) ?_
   refine .cons (.g 27 0 V6_3 rfl) ?_
   refine .cons (.s (.binOp .eql 27 (.const (.agg (pnt P.1 P.2.1 P.2.2))) (.const (.agg (pnt P.1 P.2.1 P.2.2))) 27) rfl fun vv hg => by simp [go_sem, exI, eqPn, eqN_self]) .nil
  intro yw12 v7 hg h12
  simp only [FW, putFrom, Act.put, List.setIfInBounds_toArray, List.set_cons_zero, List.set_cons_succ, wvals, kW, List.getD_cons_zero, List.getD_cons_succ, Kw.c]
  clear h12
  replace G := G.trans hg
  replace c9 := c9.gr hg
  replace V6_3 := V6_3.gr hg
  replace V7_7 := V7_7.gr hg
  replace V8_9 := V8_9.gr hg
  replace V9_9 := V9_9.gr hg
  replace V10_7 := V10_7.gr hg
  replace V11_7 := V11_7.gr hg
  replace HQ := fun k => (HQ k).gr hg
  clear hg
  go_wp2_with fail
  go_ret
  exact ⟨rfl, G⟩

end Go.Proofs.YtlbkhhihkomahaaGreat
