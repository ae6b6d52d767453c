import Derived.Test.YtlbkhhihkomahaaGreatXTAS
import Derived.Test.YtlbkhhihkomahaaGreatXTAT
import Derived.Test.YtlbkhhihkomahaaGreatXTCT
import Derived.Test.YtlbkhhihkomahaaGreatXTRGet
namespace Go.Proofs.YtlbkhhihkomahaaGreat
open Go.RowKit
attribute [local go_sem ↓] loadNat_is loadArr_is loadWide_is loadArrW_is storeNat_is storeWide_is
attribute [local go_sem] loadNat loadArr loadWide loadArrW storeNat storeWide idxArr fold9 fold18 nw_size nw_elem pre_self pre_1 pre_2 pre_3 pre_4 pre_5 pre_6 pre_7 pre_8 pre_9 pre_10 pre_11 pre_12 pre_13 pre_14 pre_15 pre_16 pre_17 pre_18 pre_19 pre_20 pre_21 pre_22 pre_23 pre_24 pre_25 pre_26 pre_27 pre_28 pre_29 pre_30 pre_31 pre_32 pre_33 pre_34 pre_35 pre_36 pre_37 pre_38 pre_39 pre_40 gro_size gro_drew gro_drewN drew_gro drewN_gro gro_gro blk_gro frz_gro blk_drew frz_drew blk_drewN frz_drewN blk_alloc_at frz_alloc_at blk_alloc frz_alloc cell_gro frozen_gro cell_alloc_pre frozen_alloc_pre setCell_drewN alloc_drewN setBlk_drew setBlk_drewN setBlk_alloc_at setBlk_alloc setBlk_gro setCell_gro setCell_alloc_pre size_setBlk size_setCell
attribute [local go_sem] ppre_1 ppre_2 ppre_3 ppre_4 ppre_5 ppre_6
attribute [local go_sem ↓] bsl_is loadC_is storeC_is loadPt_is storePt_is zvPt_is buildPt_is loadPn_is storePn_is zvPn_is loadCu_is storeCu_is zvCu_is buildCu_is buildPn_is Go.wp_at_zero Go.wp_at_succ
attribute [local go_sem] loadC storeC0 storeCr crA_size loadPt storePt zvPt ptA_size loadPn storePn zvPn pnt_size loadCu storeCu zvCu cu_size buildCu0 buildPnI buildPn2 loadCP loadCA loadCB loadCN loadCG loadCX loadCY cu_P cu_A cu_B cu_N cu_G cu_X cu_Y frz_setBlk blk_setBlk setBlk_setBlk blk_other
theorem tiny_dl (k : Nat) (h1 : 13 ≤ k) (h2 : k ≤ 15) : dl (oN k) = 1 := by
  obtain rfl | rfl | rfl : k = 13 ∨ k = 14 ∨ k = 15 := by omega
  all_goals decide +kernel
set_option maxRecDepth 100000 in
set_option maxHeartbeats 3200000 in
theorem latiny_any (id : Int) (n1 : Nat) (bn1 : n1 < 18446744073709551616) (w : World) : Calls Tryz.prog 11 #[.int .i64 id, .int .u64 (n1 : Int)] w fun e w' => e = .returned (.bool true) ∧ Gr w w' := by
  obtain ⟨u, hu, hu2, hk⟩ := idxT_conv id
  have hbd := idxT_bd id
  obtain ⟨k, hkk⟩ : ∃ k, idxT id = k := ⟨_, rfl⟩
  rw [hkk] at hk hbd
  obtain ⟨h13, h2⟩ := hbd
  have h1 : 1 ≤ k := by omega
  have u0 : (0 : Int) ≤ (u : Int) := by omega
  have hk2 : (13 : Int) + (u : Int) % 3 = (k : Int) := by omega
  have hk3 : IntKind.i64.wrap ((u : Int) % 3) = (u : Int) % 3 := by rw [IntKind.wrap_i64]; omega
  have hk4 : IntKind.u64.wrap ((u : Int) % 3) = (u : Int) % 3 := by rw [IntKind.wrap_u64]; omega
  have hk5 : (u : Int).tmod 3 = (u : Int) % 3 := by rw [Int.tmod_eq_emod_of_nonneg (by omega)]
  have k0 : (1 : Int) ≤ (k : Int) := by omega
  have k1 : (k : Int) ≤ 15 := by omega
  have hu3 : id % 18446744073709551616 = (u : Int) := by rw [← hu, IntKind.wrap_u64]
  clear hkk hk
  have HGR : Hid (∀ w, Calls Tryz.prog 12 #[.int .i64 (k : Int)] w (GetQ k w)) := fun w => getq_yes k h1 h2 w
  have HAW : Hid (∀ w, Calls Tryz.prog 16 #[] w fun e w' => e = .returned (.bool true) ∧ Gr w w') := fun w => awake14_any w
  go_enter Tryz.func11, Tryz.ntmps11
  go_upto_region 6 with (first
    | (go_at_call 16; refine (HAW.out _).mono ?_; rintro e WA ⟨rfl, GA⟩)
    | (go_at_call 12; refine (HGR.out _).mono ?_; rintro e WB ⟨qc, rfl, HQ, GB⟩))
  obtain ⟨e9, he9⟩ : ∃ b, WB.heap.size = b := ⟨_, rfl⟩
  simp only [he9]
  refine gen_w (fun v => Gr w v ∧ Vr v e9 (crA (k : Int) (nN k) qc) ∧ ∀ j, Sl v (qc j).1 (nN k j)) ?_ ?_
  · subst he9
    exact ⟨(GA.trans GB).alloc _, Vr.new _ _ _, fun j => (HQ j).gr ((Gr.refl _).alloc _)⟩
  clear he9 GA GB HQ HAW HGR hu hu2 hk2 hk3 hk4 hk5 hu3 u0 k0 k1
  rintro v0 ⟨G, c9, HQ⟩
  obtain ⟨m, hm⟩ : ∃ z, oN k = z := ⟨_, rfl⟩
  have hb := tinyP k h13 h2
  rw [hm] at hb
  have bm : m < 18446744073709551616 := by omega
  have hdl1 : dl (oN k) = 1 := tiny_dl k h13 h2
  obtain ⟨bp, hq3, -, hb3⟩ := HQ 3 0 (by show 0 < dl (oN k); rw [hdl1]; decide)
  have hbc : v0.cell? ⟨bp, 0, none⟩ = some (.int .u32 (m : Int)) := by
    rw [cell_blk, hb3]
    show some (Value.int .u32 ((dg (oN k) 0 : Nat) : Int)) = _
    rw [hm, show dg m 0 = m by unfold dg; rw [pq_zero, Nat.div_one]; exact Nat.mod_eq_of_lt (by omega)]
  have k4 : v0.cell? ⟨e9, 4, none⟩ = some (.slice (some ⟨bp, 0, none⟩) 1 (qc 3).2) := by
    rw [c9.cell, ← hq3, ← hdl1]; rfl
  have m1 : (200 : Int) ≤ (m : Int) := by omega
  have m2 : (m : Int) ≤ 255 := by omega
  have m0 : ¬ m = 0 := by omega
  go_upto_region 7 with fail
  clear k4 hbc hb3 hq3
  obtain ⟨r1, hr1⟩ : ∃ z, n1 % m = z := ⟨_, rfl⟩
  have hrm : r1 < m := by rw [← hr1]; exact Nat.mod_lt _ (by omega)
  have br1 : r1 < 18446744073709551616 := by omega
  have q1 : (n1 : Int).tmod (m : Int) = (r1 : Int) := by rw [Int.tmod_eq_emod_of_nonneg (by omega)]; omega
  obtain ⟨P, hP⟩ : ∃ Z, mlQ k r1 (gQ k) = Z := ⟨_, rfl⟩
  have oP : OnQ k P := hP ▸ mlQ_on h1 h2 _ (gQ_on h1 h2)
  have bP := br1
  have hmP : mlQ k m P = inf := by rw [← hm, ← hP, ← mlQ_mul h1 h2 _ _ (gQ_on h1 h2), Nat.mul_comm, mlQ_mul h1 h2 _ _ (gQ_on h1 h2), mlQ_N h1 h2, mlQ_inf h1 h2]
  refine wp_v true [.c (.agg (crA (k : Int) (nN k) qc)), .c (.int .u64 (n1 : Int)), .c (.int .u64 (m : Int)), .c (.int .u64 (r1 : Int)), .c (.agg (pnt P.1 P.2.1 P.2.2)), .a, .u] [0, 3, 4] [⟨5, 6, 27, pnt 0 0 false, fun _ => pnt P.1 P.2.1 P.2.2⟩] ?hs1 ?hv1 ?hf1
  case hs1 =>
   refine .cons (.g 31 0 c9 rfl) ?_
   refine .cons (.s (.binOp .rem 22 (.const (.int .u64 (n1 : Int))) (.const (.int .u64 (m : Int))) 22) rfl fun vv hg => by simp [go_sem, exI, m0, q1]) ?_
   refine .cons (.k _ fun yy vv hg hh => RtW.of_c (Rt.c (some_is h1 h2 bP hP qc _ (fun j => (HQ j).gr hg)))) .nil
  case hv1 =>
   refine .cons (.mk (fun _ _ _ => rfl) (fun _ v b H F => by dsimp only at H ⊢; simp [go_sem, exI, H, F]) zPnt ⟨fkc, fkc, fkc, fkc, fkc, fka, fku, trivial⟩) .nil
  intro yw7 v1 hg h7 hV7
  simp only [FW, putFrom, Act.put, List.setIfInBounds_toArray, List.set_cons_zero, List.set_cons_succ, wvals, kW, List.getD_cons_zero, List.getD_cons_succ, Kw.c, Kw.a, Kw.u]
  obtain ⟨⟨N7_5, V7_5⟩, -⟩ : (v0.heap.size ≤ (yw7 5 0).2 ∧ Vr v1 (yw7 5 0).2 (pnt P.1 P.2.1 P.2.2)) ∧ True := hV7
  clear h7
  replace G := G.trans hg
  replace c9 := c9.gr hg
  replace HQ := fun k => (HQ k).gr hg
  clear hg
  have HV : Hid (Gr w v1 ∧ Vr v1 e9 (crA (k : Int) (nN k) qc) ∧ (∀ j, Sl v1 (qc j).1 (nN k j)) ∧ Vr v1 (yw7 5 0).2 (pnt P.1 P.2.1 P.2.2)) := ⟨G, c9, HQ, V7_5⟩
  clear G c9 HQ V7_5 N7_5
  go_wp2_with fail
  go_loopw [9] (fun ia wr => ∃ j : Nat, ia = .int .u64 (j : Int) ∧ Hid (Unit → j ≤ m + 4) ∧ Hid (Gr w wr ∧ Vr wr e9 (crA (k : Int) (nN k) qc) ∧ (∀ j, Sl wr (qc j).1 (nN k j)) ∧ Vr wr (yw7 5 0).2 (pnt P.1 P.2.1 P.2.2))) (fun ia _ => ((m : Int) + 10 - intOf ia).toNat)
  case atStart => exact ⟨0, rfl, fun _ => Nat.zero_le _, HV⟩
  case round =>
    clear HV
    obtain ⟨j, rfl, HJ, HV⟩ := hrel
    obtain ⟨G, c9, HQ, V7_5⟩ := HV.out
    have j0 : (0 : Int) ≤ (j : Int) := by omega
    clear HV
    by_cases hlt : j < m
    · have j1 : (j : Int) < (m : Int) := by omega
      have bj : j < 18446744073709551616 := by omega
      obtain ⟨s1, hs1⟩ : ∃ z, r1 + j = z := ⟨_, rfl⟩
      obtain ⟨r2, hr2⟩ : ∃ z, s1 % m = z := ⟨_, rfl⟩
      have hrm2 : r2 < m := by rw [← hr2]; exact Nat.mod_lt _ (by omega)
      have br2 : r2 < 18446744073709551616 := by omega
      have q2 : IntKind.u64.wrap ((r1 : Int) + (j : Int)) = (s1 : Int) := by rw [IntKind.wrap_u64]; omega
      have q3 : (s1 : Int).tmod (m : Int) = (r2 : Int) := by rw [Int.tmod_eq_emod_of_nonneg (by omega)]; omega
      obtain ⟨J, hJ⟩ : ∃ Z, mlQ k j (gQ k) = Z := ⟨_, rfl⟩
      have oJ : OnQ k J := hJ ▸ mlQ_on h1 h2 _ (gQ_on h1 h2)
      have bJ := bj
      obtain ⟨D, hPJ⟩ : ∃ Z, plQ k P J = Z := ⟨_, rfl⟩
      have hD : mlQ k r2 (gQ k) = D := by rw [← hr2, ← hm, mlQ_mod h1 h2, ← hs1, mlQ_add h1 h2 _ _ (gQ_on h1 h2), hP, hJ, hPJ]
      have bD := br2
      clear HJ
      go_upto_region 11 with fail
      refine wp_v true [.c (pv e9 0), .c (.int .i64 (k : Int)), .c (.agg (pnt P.1 P.2.1 P.2.2)), .c (.agg (crA (k : Int) (nN k) qc)), .c (.int .u64 (j : Int)), .c (.agg (pnt J.1 J.2.1 J.2.2)), .c (.tuple #[.agg (pnt D.1 D.2.1 D.2.2), .int .i64 0]), .c (.tuple #[.agg (pnt D.1 D.2.1 D.2.2), .int .i64 0]), .c (.agg (pnt D.1 D.2.1 D.2.2)), .c (.int .i64 0), .a, .u, .c (.int .i64 0)] [1, 2, 3, 5, 6] [⟨10, 11, 27, pnt 0 0 false, fun _ => pnt D.1 D.2.1 D.2.2⟩] ?hs2 ?hv2 ?hf2
      case hs2 =>
       refine .cons (.o 3 0 c9 rfl rfl) ?_
       refine .cons (.g 27 0 V7_5 rfl) ?_
       refine .cons (.g 31 0 c9 rfl) ?_
       refine .cons (.k _ fun yy vv hg hh => RtW.of_c (Rt.c (some_is h1 h2 bJ hJ qc _ (fun j => (HQ j).gr hg)))) ?_
       refine .cons (.k _ fun yy vv hg hh => RtW.of_c (Rt.c (addQ h1 h2 (P := P) (Q := J) (R := D) oP oJ hPJ _))) .nil
      case hv2 =>
       refine .cons (.mk (fun _ _ _ => rfl) (fun _ v b H F => by dsimp only at H ⊢; simp [go_sem, exI, H, F]) zPnt ⟨fkc, fkc, fkc, fkc, fkc, fkc, fkc, fkc, fkc, fkc, fka, fku, fkc, trivial⟩) .nil
      intro yw11 v2 hg h11 hV11
      simp only [FW, putFrom, Act.put, List.setIfInBounds_toArray, List.set_cons_zero, List.set_cons_succ, wvals, kW, List.getD_cons_zero, List.getD_cons_succ, Kw.c, pv, Kw.a, Kw.u]
      obtain ⟨⟨N11_10, V11_10⟩, -⟩ : (wr.heap.size ≤ (yw11 10 0).2 ∧ Vr v2 (yw11 10 0).2 (pnt D.1 D.2.1 D.2.2)) ∧ True := hV11
      clear h11
      replace G := G.trans hg
      replace c9 := c9.gr hg
      replace V7_5 := V7_5.gr hg
      replace HQ := fun k => (HQ k).gr hg
      clear hg
      go_upto_region 12 with fail
      refine wp_w [.c (.int .i64 0), .c (.int .i64 0), .c (.bool false), .c (.bool false), .c (.agg (pnt D.1 D.2.1 D.2.2)), .c (.agg (crA (k : Int) (nN k) qc)), .c (.int .u64 (n1 : Int)), .c (.int .u64 (m : Int)), .c (.int .u64 (r1 : Int)), .c (.int .u64 (j : Int)), .c (.int .u64 (s1 : Int)), .c (.int .u64 (m : Int)), .c (.int .u64 (r2 : Int)), .c (.agg (pnt D.1 D.2.1 D.2.2)), .c (.bool false), .c (.bool false)] [1, 4, 5, 8, 10, 12, 13, 14] ?hs3 ?hf3
      case hs3 =>
       refine .cons (.k _ fun yy vv hg hh => RtW.of_c (Rt.same (num_any _ _))) ?_
       refine .cons (.g 27 0 V11_10 rfl) ?_
       refine .cons (.g 31 0 c9 rfl) ?_
       refine .cons (.s (.binOp .rem 22 (.const (.int .u64 (n1 : Int))) (.const (.int .u64 (m : Int))) 22) rfl fun vv hg => by simp [go_sem, exI, m0, q1]) ?_
       refine .cons (.s (.binOp .add 22 (.const (.int .u64 (r1 : Int))) (.const (.int .u64 (j : Int))) 22) rfl fun vv hg => by simp [go_sem, exI, q2]) ?_
       refine .cons (.s (.binOp .rem 22 (.const (.int .u64 (s1 : Int))) (.const (.int .u64 (m : Int))) 22) rfl fun vv hg => by simp [go_sem, exI, m0, q3]) ?_
       refine .cons (.k _ fun yy vv hg hh => RtW.of_c (Rt.c (some_is h1 h2 bD hD qc _ (fun j => (HQ j).gr hg)))) ?_
       refine .cons (.s (.binOp .neq 27 (.const (.agg (pnt D.1 D.2.1 D.2.2))) (.const (.agg (pnt D.1 D.2.1 D.2.2))) 27) rfl fun vv hg => by simp [go_sem, exI, nePn, eqN_self]) .nil
      intro yw12 v3 hg h12
      simp only [FW, putFrom, Act.put, List.setIfInBounds_toArray, List.set_cons_zero, List.set_cons_succ, wvals, kW, List.getD_cons_zero, List.getD_cons_succ, Kw.c]
      clear h12
      replace G := G.trans hg
      replace c9 := c9.gr hg
      replace V7_5 := V7_5.gr hg
      replace V11_10 := V11_10.gr hg
      replace HQ := fun k => (HQ k).gr hg
      clear hg
      go_wp2_with fail
      go_roundw
      case rel => exact ⟨j + 5, by go_num, fun _ => by omega, G, c9, HQ, V7_5⟩
      case measure => simp [intOf]; omega
    · have j1 : ¬ (j : Int) < (m : Int) := by omega
      clear hlt HJ
      go_upto_region 14 with fail
      refine wp_v true [.c (pv e9 0), .c (.int .i64 (k : Int)), .c (.int .u64 (m : Int)), .c (.agg (nw 9 m)), .c (.agg (pnt P.1 P.2.1 P.2.2)), .c (.tuple #[.agg (pnt 0 0 true), .int .i64 0]), .c (.tuple #[.agg (pnt 0 0 true), .int .i64 0]), .c (.agg (pnt 0 0 true)), .c (.int .i64 0), .a, .u, .c (.int .i64 0)] [1, 3, 4, 5] [⟨9, 10, 27, pnt 0 0 false, fun _ => pnt 0 0 true⟩] ?hs4 ?hv4 ?hf4
      case hs4 =>
       refine .cons (.o 3 0 c9 rfl rfl) ?_
       refine .cons (.k _ fun yy vv hg hh => RtW.of_c (Rt.c (one_any _ bm _))) ?_
       refine .cons (.g 27 0 V7_5 rfl) ?_
       refine .cons (.k _ fun yy vv hg hh => RtW.of_c (Rt.c (mulQ h1 h2 (P := P) (R := inf) oP (lt_M _ bm) hmP _))) .nil
      case hv4 =>
       refine .cons (.mk (fun _ _ _ => rfl) (fun _ v b H F => by dsimp only at H ⊢; simp [go_sem, exI, H, F]) zPnt ⟨fkc, fkc, fkc, fkc, fkc, fkc, fkc, fkc, fkc, fka, fku, fkc, trivial⟩) .nil
      intro yw14 v2 hg h14 hV14
      simp only [FW, putFrom, Act.put, List.setIfInBounds_toArray, List.set_cons_zero, List.set_cons_succ, wvals, kW, List.getD_cons_zero, List.getD_cons_succ, Kw.c, pv, Kw.a, Kw.u]
      obtain ⟨⟨N14_9, V14_9⟩, -⟩ : (wr.heap.size ≤ (yw14 9 0).2 ∧ Vr v2 (yw14 9 0).2 (pnt 0 0 true)) ∧ True := hV14
      clear h14
      replace G := G.trans hg
      replace c9 := c9.gr hg
      replace V7_5 := V7_5.gr hg
      replace HQ := fun k => (HQ k).gr hg
      clear hg
      go_upto_region 15 with fail
      refine wp_wS [.c (.int .i64 0), .c (.int .i64 0), .c (.bool true), .c (.bool true), .c (.agg (pnt 0 0 true)), .c (.agg (pnt 0 0 true)), .c (.bool true), .c (.bool true), .c (.bool true)] [1, 4, 6] ?hs5 ?hf5
      case hs5 =>
       refine .cons (.k _ fun yy vv hg hh => RtW.of_c (Rt.same (num_any _ _))) ?_
       refine .cons (.g 27 0 V14_9 rfl) ?_
       refine .cons (.s (.binOp .eql 27 (.const (.agg (pnt 0 0 true))) (.const (.agg (pnt 0 0 true))) 27) rfl fun vv hg => by simp [go_sem, exI, eqPn, eqN_self]) .nil
      intro yw15 v3 hg h15
      simp only [FW, putFrom, Act.put, List.setIfInBounds_toArray, List.set_cons_zero, List.set_cons_succ, wvals, kW, List.getD_cons_zero, List.getD_cons_succ, Kw.c]
      clear h15
      replace G := G.trans hg
      replace c9 := c9.gr hg
      replace V7_5 := V7_5.gr hg
      replace V14_9 := V14_9.gr hg
      replace HQ := fun k => (HQ k).gr hg
      clear hg
      go_wp2_with fail
      go_ret
      exact ⟨rfl, G⟩

end Go.Proofs.YtlbkhhihkomahaaGreat
