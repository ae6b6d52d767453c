import Derived.Test.YtempibiahmmppaaGreatXJJH
import Derived.Test.YtempibiahmmppaaGreatXJAT
import Derived.Test.YtempibiahmmppaaGreatXJCT
import Derived.Test.YtempibiahmmppaaGreatXJCC
namespace Go.Proofs.YtempibiahmmppaaGreat
open Go.RowKit
set_option maxRecDepth 100000
set_option maxHeartbeats 8000000
section
attribute [local go_sem ↓] loadNat_is loadArr_is loadWide_is loadArrW_is storeNat_is storeWide_is
attribute [local go_sem] loadNat loadArr loadWide loadArrW storeNat storeWide idxArr fold9 fold18 nw_size nw_elem pre_self pre_1 pre_2 pre_3 pre_4 pre_5 pre_6 pre_7 pre_8 pre_9 pre_10 pre_11 pre_12 pre_13 pre_14 pre_15 pre_16 pre_17 pre_18 pre_19 pre_20 pre_21 pre_22 pre_23 pre_24 pre_25 pre_26 pre_27 pre_28 pre_29 pre_30 pre_31 pre_32 pre_33 pre_34 pre_35 pre_36 pre_37 pre_38 pre_39 pre_40 gro_size gro_drew gro_drewN drew_gro drewN_gro gro_gro blk_gro frz_gro blk_drew frz_drew blk_drewN frz_drewN blk_alloc_at frz_alloc_at blk_alloc frz_alloc cell_gro frozen_gro cell_alloc_pre frozen_alloc_pre setCell_drewN alloc_drewN setBlk_drew setBlk_drewN setBlk_alloc_at setBlk_alloc setBlk_gro setCell_gro setCell_alloc_pre size_setBlk size_setCell
section
attribute [local go_sem] ppre_1 ppre_2 ppre_3 ppre_4 ppre_5 ppre_6
attribute [local go_sem ↓] bsl_is loadC_is storeC_is loadPt_is storePt_is zvPt_is buildPt_is loadPn_is storePn_is zvPn_is loadCu_is storeCu_is zvCu_is buildCu_is buildPn_is Go.wp_at_zero Go.wp_at_succ
attribute [local go_sem] loadC storeC0 storeCr crA_size loadPt storePt zvPt ptA_size loadPn storePn zvPn pnt_size loadCu storeCu zvCu cu_size buildCu0 buildPnI buildPn2 loadCP loadCA loadCB loadCN loadCG loadCX loadCY cu_P cu_A cu_B cu_N cu_G cu_X cu_Y frz_setBlk blk_setBlk setBlk_setBlk blk_other
attribute [local go_sem ↓] loadPj_is storePj_is zvPj_is buildPj_is
attribute [local go_sem] loadPj storePj zvPj buildPj0 buildPj1 buildPj2 buildPj3 loadJX loadJY loadJZ prj_size prj_X prj_Y prj_Z
theorem tiny_dl (k : Nat) (h1 : 13 ≤ k) (h2 : k ≤ 15) : dl (oN k) = 1 := by
 obtain rfl | rfl | rfl : k = 13 ∨ k = 14 ∨ k = 15 := by omega
 all_goals decide +kernel
theorem nw_no (x i : Nat) (n : Int) : (nw 9 x)[i]? ≠ some (Value.int .u32 n) := by
 by_cases h : i < 9
 · rw [nw_get 9 x i h]
   intro e
   cases e
 · rw [Array.getElem?_eq_none (by rw [nw_size]; omega)]
   intro e
   cases e
theorem prj_no (x y z i : Nat) (n : Int) : (prj x y z)[i]? ≠ some (Value.int .u32 n) := by
 unfold prj
 rw [Array.getElem?_append]
 split
 · rw [Array.getElem?_append]
   split
   · exact nw_no _ _ _
   · exact nw_no _ _ _
 · exact nw_no _ _ _
theorem ljtiny_any (id : Int) (n1 : Nat) (bn1 : n1 < 18446744073709551616) (w : World) : Cg 9 #[.int .i64 id, .int .u64 (n1 : Int)] w (.bool true) := by
 obtain ⟨u, hu, hu2, hk⟩ := idxT_conv id
 have hbd := idxT_bd id
 obtain ⟨k, hkk⟩ : ∃ k, idxT id = k := ⟨_, rfl⟩
 rw [hkk] at hk hbd
 obtain ⟨h13, h2⟩ := hbd
 have h1 : 1 ≤ k := by omega
 have u0 : (0 : Int) ≤ (u : Int) := by omega
 have hk2 : (13 : Int) + (u : Int) % 3 = (k : Int) := by omega
 have hk3 : IntKind.i64.wrap ((u : Int) % 3) = (u : Int) % 3 := by rw [IntKind.wrap_i64]; omega
 have hk4 : IntKind.u64.wrap ((u : Int) % 3) = (u : Int) % 3 := by rw [IntKind.wrap_u64]; omega
 have hk5 : (u : Int).tmod 3 = (u : Int) % 3 := by rw [Int.tmod_eq_emod_of_nonneg (by omega)]
 have k0 : (1 : Int) ≤ (k : Int) := by omega
 have k1 : (k : Int) ≤ 15 := by omega
 have hu3 : id % 18446744073709551616 = (u : Int) := by rw [← hu, IntKind.wrap_u64]
 clear hkk hk
 have HGR : Hid (∀ w, Calls Tryz.prog 10 #[.int .i64 (k : Int)] w (GetQ k w)) := fun w => getq_yes k h1 h2 w
 have HAW : Hid (∀ w, Cg 15 #[] w (.bool true)) := fun w => awake15_any w
 go_enter Tryz.func9, Tryz.ntmps9
 go_upto_region 6 with (first
   | (go_at_call 15; refine (HAW.out _).mono ?_; rintro e WA ⟨rfl, GA⟩)
   | (go_at_call 10; refine (HGR.out _).mono ?_; rintro e WB ⟨qc, rfl, HQ, GB⟩))
 obtain ⟨e9, he9⟩ : ∃ b, WB.heap.size = b := ⟨_, rfl⟩
 simp only [he9]
 refine gen_w (fun v => Gr w v ∧ Vr v e9 (crA (k : Int) (nN k) qc) ∧ ∀ j, Sl v (qc j).1 (nN k j)) ?_ ?_
 · subst he9
   exact ⟨(GA.trans GB).alloc _, Vr.new _ _ _, fun j => (HQ j).gr ((Gr.refl _).alloc _)⟩
 clear he9 GA GB HQ HAW HGR hu hu2 hk2 hk3 hk4 hk5 hu3 u0 k0 k1
 rintro v0 ⟨G, c9, HQ⟩
 obtain ⟨m, hm⟩ : ∃ z, oN k = z := ⟨_, rfl⟩
 have hb := tinyP k h13 h2
 rw [hm] at hb
 have hdl1 : dl (oN k) = 1 := tiny_dl k h13 h2
 obtain ⟨r1, hr1⟩ : ∃ z, n1 % 200 = z := ⟨_, rfl⟩
 have q1 : (n1 : Int).tmod 200 = (r1 : Int) := by rw [Int.tmod_eq_emod_of_nonneg (by omega)]; omega
 obtain ⟨n2, hn2⟩ : ∃ z, 1 + r1 = z := ⟨_, rfl⟩
 have q2 : IntKind.u64.wrap (1 + (r1 : Int)) = (n2 : Int) := by rw [IntKind.wrap_u64]; omega
 have bn2 : n2 < 18446744073709551616 := by omega
 have hwb : w.heap.size ≤ v0.heap.size := G.below.size
 obtain ⟨P, hP⟩ : ∃ Z, mlQ k n2 (gQ k) = Z := ⟨_, rfl⟩
 have oP : OnQ k P := hP ▸ mlQ_on h1 h2 _ (gQ_on h1 h2)
 have bP := bn2
 obtain ⟨S1, hS1⟩ : ∃ Z, frT P = Z := ⟨_, rfl⟩
 have trS1 : TrQ k S1 P := hS1 ▸ frT_tr h1 h2 oP
 have hmP : mlQ k m P = inf := by rw [← hm, ← hP, ← mlQ_mul h1 h2 _ _ (gQ_on h1 h2), Nat.mul_comm, mlQ_mul h1 h2 _ _ (gQ_on h1 h2), mlQ_N h1 h2, mlQ_inf h1 h2]
 refine wp_v false [.c (.agg (crA (k : Int) (nN k) qc)), .c (.int .u64 (n1 : Int)), .c (.int .u64 (r1 : Int)), .c (.int .u64 (n2 : Int)), .c (.tuple #[.agg (prj S1.1 S1.2.1 S1.2.2), .agg (pnt P.1 P.2.1 P.2.2), .bool true]), .c (.tuple #[.agg (prj S1.1 S1.2.1 S1.2.2), .agg (pnt P.1 P.2.1 P.2.2), .bool true]), .c (.agg (prj S1.1 S1.2.1 S1.2.2)), .c (.agg (pnt P.1 P.2.1 P.2.2)), .c (.bool true), .a, .a, .u, .u, .c (.bool true)] [0, 2, 3, 4] [⟨9, 11, 27, prj 0 0 0, fun _ => prj S1.1 S1.2.1 S1.2.2⟩, ⟨10, 12, 35, pnt 0 0 false, fun _ => pnt P.1 P.2.1 P.2.2⟩] ?hs1 ?hv1 ?hf1
 case hs1 =>
  refine .cons (.g 31 0 c9 rfl) ?_
  refine .cons (.s (.binOp .rem 22 (.const (.int .u64 (n1 : Int))) (.const (.int .u64 200)) 22) rfl fun vv hg => by simp [go_sem, exI, q1]) ?_
  refine .cons (.s (.binOp .add 22 (.const (.int .u64 1)) (.const (.int .u64 (r1 : Int))) 22) rfl fun vv hg => by simp [go_sem, exI, q2]) ?_
  refine .cons (.k _ fun yy vv hg hh => RtW.of_c (Rt.c (dr_is h1 h2 bP hP hS1 qc _ (fun j => (HQ j).gr hg)))) .nil
 case hv1 =>
  refine .cons (.mk (fun _ _ _ => rfl) (fun _ v b H F => by dsimp only at H ⊢; simp [go_sem, exI, H, F]) zPj ⟨fkc, fkc, fkc, fkc, fkc, fkc, fkc, fkc, fkc, fka, fka, fku, fku, fkc, trivial⟩) ?_
  refine .cons (.mk (fun _ _ _ => rfl) (fun _ v b H F => by dsimp only at H ⊢; simp [go_sem, exI, H, F]) zPnt ⟨fkc, fkc, fkc, fkc, fkc, fkc, fkc, fkc, fkc, fka, fka, fku, fku, fkc, trivial⟩) .nil
 intro yw6 v1 hg h6 hV6
 simp only [FW, putFrom, Act.put, lqA, lqB, lqC, wvals, kW, lqD, lqE, Kw.c, Kw.a, Kw.u]
 obtain ⟨⟨N6_9, V6_9⟩, ⟨N6_10, V6_10⟩, -⟩ : (v0.heap.size ≤ (yw6 9 0).2 ∧ Vr v1 (yw6 9 0).2 (prj S1.1 S1.2.1 S1.2.2)) ∧ (v0.heap.size ≤ (yw6 10 0).2 ∧ Vr v1 (yw6 10 0).2 (pnt P.1 P.2.1 P.2.2)) ∧ True := hV6
 clear h6
 replace G := G.trans hg
 replace c9 := c9.gr hg
 replace HQ := fun k => (HQ k).gr hg
 clear hg
 go_upto_region 7 with fail
 refine wp_wS [.c (.bool true), .c (.bool false)] [] ?hs2 ?hf2
 case hs2 => exact .nil
 intro yw7 v2 hg h7
 simp only [FW, putFrom, Act.put, lqA, lqB, lqC, wvals, kW, lqD, lqE, Kw.c]
 clear h7
 replace G := G.trans hg
 replace c9 := c9.gr hg
 replace V6_9 := V6_9.gr hg
 replace V6_10 := V6_10.gr hg
 replace HQ := fun k => (HQ k).gr hg
 clear hg
 obtain ⟨bp, hq3, -, hb3⟩ := HQ 3 0 (by show 0 < dl (oN k); rw [hdl1]; decide)
 have hbc : v2.cell? ⟨bp, 0, none⟩ = some (.int .u32 (m : Int)) := by
   rw [cell_blk, hb3]
   show some (Value.int .u32 ((dg (oN k) 0 : Nat) : Int)) = _
   rw [hm, show dg m 0 = m by unfold dg; rw [pq_zero, Nat.div_one]; exact Nat.mod_eq_of_lt (by omega)]
 have k4 : v2.cell? ⟨e9, 4, none⟩ = some (.slice (some ⟨bp, 0, none⟩) 1 (qc 3).2) := by
   rw [c9.cell, ← hq3, ← hdl1]; rfl
 have m1 : (200 : Int) ≤ (m : Int) := by omega
 have m2 : (m : Int) ≤ 255 := by omega
 go_upto_region 10 with fail
 clear k4 hbc hb3 hq3
 have p9 : e9 + 1 ≤ v2.heap.size := c9.p
 have p7 : (yw6 9 0).2 + 1 ≤ v2.heap.size := V6_9.p
 have p8 : (yw6 10 0).2 + 1 ≤ v2.heap.size := V6_10.p
 refine wp_v false [.c (.agg (nw 9 1)), .c (.agg (prj 0 1 0)), .a, .u] [0] [⟨2, 3, 27, prj 0 0 0, fun _ => prj 0 1 0⟩] ?hs3 ?hv3 ?hf3
 case hs3 =>
  refine .cons (.k _ fun yy vv hg hh => RtW.of_c (Rt.c (one_any 1 (by decide) _))) .nil
 case hv3 =>
  refine .cons (.mk (fun _ _ _ => rfl) (fun _ v b H F => by dsimp only at H ⊢; simp [go_sem, exI, H, F]) zPj ⟨fkc, fkc, fka, fku, trivial⟩) .nil
 intro yw10 v3 hg h10 hV10
 simp only [FW, putFrom, Act.put, lqA, lqB, lqC, wvals, kW, lqD, lqE, Kw.c, Kw.a, Kw.u]
 obtain ⟨⟨N10_2, V10_2⟩, -⟩ : (v2.heap.size ≤ (yw10 2 0).2 ∧ Vr v3 (yw10 2 0).2 (prj 0 1 0)) ∧ True := hV10
 clear h10
 replace G := G.trans hg
 replace c9 := c9.gr hg
 replace V6_9 := V6_9.gr hg
 replace V6_10 := V6_10.gr hg
 replace HQ := fun k => (HQ k).gr hg
 clear hg
 have p11 : (yw10 2 0).2 + 1 ≤ v3.heap.size := V10_2.p
 go_upto_region 11 with fail
 refine wp_v false [.pt (0) (0) true, .a, .u] [0] [⟨1, 2, 45, ptA none 0 0 none 0 0 false, fun yy => ptA (yy 0 0).1 (0) (yy 0 0).2 (yy 0 1).1 (0) (yy 0 1).2 true⟩] ?hs4 ?hv4 ?hf4
 case hs4 =>
  refine .cons (.p (fun yy i => match i with | 0 => (none, 0) | _ => (none, 0)) fun yy vv hg hh => ⟨Sl.zero _ _, Sl.zero _ _⟩) .nil
 case hv4 =>
  refine .cons (.mk (fun _ _ h => Value.agg.inj (h 0 rfl)) (fun _ v b H F => by dsimp only at H ⊢; simp [go_sem, exI, H, F]) zPt ⟨fkp bPt, fka, fku, trivial⟩) .nil
 intro yw11 v4 hg h11 hV11
 simp only [FW, putFrom, Act.put, lqA, lqB, lqC, wvals, kW, lqD, lqE, Kw.a, Kw.pt, Kw.u]
 obtain ⟨S11_0, T11_0⟩ : Sl v4 (yw11 0 0).1 (0) ∧ Sl v4 (yw11 0 1).1 (0) := h11 0
 obtain ⟨⟨N11_1, V11_1⟩, -⟩ : (v3.heap.size ≤ (yw11 1 0).2 ∧ Vr v4 (yw11 1 0).2 (ptA (yw11 0 0).1 (0) (yw11 0 0).2 (yw11 0 1).1 (0) (yw11 0 1).2 true)) ∧ True := hV11
 clear h11
 replace G := G.trans hg
 replace c9 := c9.gr hg
 replace V6_9 := V6_9.gr hg
 replace V6_10 := V6_10.gr hg
 replace V10_2 := V10_2.gr hg
 replace HQ := fun k => (HQ k).gr hg
 clear hg
 obtain ⟨e7, he7⟩ : ∃ b, (yw6 9 0).2 = b := ⟨_, rfl⟩
 obtain ⟨e8, he8⟩ : ∃ b, (yw6 10 0).2 = b := ⟨_, rfl⟩
 obtain ⟨e11, he11⟩ : ∃ b, (yw10 2 0).2 = b := ⟨_, rfl⟩
 obtain ⟨e12, he12⟩ : ∃ b, (yw11 1 0).2 = b := ⟨_, rfl⟩
 rw [he7] at V6_9 N6_9
 rw [he8] at V6_10 N6_10
 rw [he11] at V10_2 N10_2
 rw [he12] at V11_1 N11_1
 rw [he7] at p7
 rw [he8] at p8
 rw [he11] at p11
 go_wp2_with fail
 simp only [Nat.zero_add, Nat.reduceAdd, he7, he8, he11, he12]
 have ne1 : e9 < e11 ∧ e7 < e11 ∧ e8 < e11 ∧ e11 < e12 := by omega
 have HV : Hid (Gr w v4 ∧ Vr v4 e9 (crA (k : Int) (nN k) qc) ∧ (∀ j, Sl v4 (qc j).1 (nN k j)) ∧ Vr v4 e7 (prj S1.1 S1.2.1 S1.2.2) ∧ Vr v4 e8 (pnt P.1 P.2.1 P.2.2) ∧ Vr v4 e11 (prj 0 1 0) ∧ TrQ k (0, 1, 0) (mlQ k 0 P) ∧ Vr v4 e12 (ptA (yw11 0 0).1 (mlQ k 0 P).1 (yw11 0 0).2 (yw11 0 1).1 (mlQ k 0 P).2.1 (yw11 0 1).2 (mlQ k 0 P).2.2) ∧ Sl v4 (yw11 0 0).1 (mlQ k 0 P).1 ∧ Sl v4 (yw11 0 1).1 (mlQ k 0 P).2.1) := by
   rw [mlQ_zero h1 h2]
   exact ⟨G, c9, HQ, V6_9, V6_10, V10_2, inf_tr h1 h2 (prm_pN k h1 h2).1 (by decide), V11_1, Sl.zero _ _, Sl.zero _ _⟩
 have GW : Hid (Unit → w.heap.size ≤ e11) := fun _ => by have := hwb; omega
 clear G c9 HQ V6_9 V6_10 V10_2 V11_1 N6_9 N6_10 N10_2 N11_1 p9 p7 p8 p11 he7 he8 he11 he12 hwb
 go_loopw [13] (fun ia wr => ∃ (j : Nat) (T : T3) (p1 p2 : Option Addr) (n3 n4 : Nat), ia = .int .u64 (j : Int) ∧ Hid (Unit → j ≤ m) ∧ Hid (Gr w wr ∧ Vr wr e9 (crA (k : Int) (nN k) qc) ∧ (∀ j, Sl wr (qc j).1 (nN k j)) ∧ Vr wr e7 (prj S1.1 S1.2.1 S1.2.2) ∧ Vr wr e8 (pnt P.1 P.2.1 P.2.2) ∧ Vr wr e11 (prj T.1 T.2.1 T.2.2) ∧ TrQ k T (mlQ k j P) ∧ Vr wr e12 (ptA p1 (mlQ k j P).1 n3 p2 (mlQ k j P).2.1 n4 (mlQ k j P).2.2) ∧ Sl wr p1 (mlQ k j P).1 ∧ Sl wr p2 (mlQ k j P).2.1)) (fun ia _ => ((m : Int) + 10 - intOf ia).toNat)
 case atStart => exact ⟨0, (0, 1, 0), (yw11 0 0).1, (yw11 0 1).1, (yw11 0 0).2, (yw11 0 1).2, rfl, fun _ => Nat.zero_le _, HV⟩
 case round =>
   clear HV
   obtain ⟨j, T, p1, p2, n3, n4, rfl, HJ, HV⟩ := hrel
   have j0 : (0 : Int) ≤ (j : Int) := by omega
   by_cases hlt : j < m
   · have j1 : (j : Int) < (m : Int) := by omega
     obtain ⟨Q, hQ⟩ : ∃ Z, mlQ k j P = Z := ⟨_, rfl⟩
     have oQ : OnQ k Q := hQ ▸ mlQ_on h1 h2 _ oP
     rw [hQ] at HV
     obtain ⟨G, c9, HQ, c7, c8, c11, trT, c12, S1p, S2p⟩ := HV.out
     obtain ⟨R, hR⟩ : ∃ Z, addT k T S1 = Z := ⟨_, rfl⟩
     obtain ⟨Q2, hQ2⟩ : ∃ Z, plQ k Q P = Z := ⟨_, rfl⟩
     have hj1 : mlQ k (j + 1) P = Q2 := by rw [← hQ2, ← hQ, mlQ_add h1 h2 _ _ oP, mlQ_one h1 h2 oP]
     have trR : TrQ k R Q2 := hR ▸ hQ2 ▸ addT_tr h1 h2 trT trS1
     clear HV HJ
     go_upto_region 15 with fail
     refine wp_v false [.c (pv e9 0), .c (.int .i64 (k : Int)), .c (.agg (prj T.1 T.2.1 T.2.2)), .c (.tuple #[.agg (pnt Q.1 Q.2.1 Q.2.2), .int .i64 0]), .c (.tuple #[.agg (pnt Q.1 Q.2.1 Q.2.2), .int .i64 0]), .c (.agg (pnt Q.1 Q.2.1 Q.2.2)), .c (.int .i64 0), .a, .u, .c (.int .i64 0)] [1, 2, 3] [⟨7, 8, 35, pnt 0 0 false, fun _ => pnt Q.1 Q.2.1 Q.2.2⟩] ?hs5 ?hv5 ?hf5
     case hs5 =>
      refine .cons (.o 3 0 c9 rfl rfl) ?_
      refine .cons (.g 27 0 c11 rfl) ?_
      refine .cons (.k _ fun yy vv hg hh => RtW.of_c (Rt.c (toQ h1 h2 (T := T) (Q := Q) trT _))) .nil
     case hv5 =>
      refine .cons (.mk (fun _ _ _ => rfl) (fun _ v b H F => by dsimp only at H ⊢; simp [go_sem, exI, H, F]) zPnt ⟨fkc, fkc, fkc, fkc, fkc, fkc, fkc, fka, fku, fkc, trivial⟩) .nil
     intro yw15 v5 hg h15 hV15
     simp only [FW, putFrom, Act.put, lqA, lqB, lqC, wvals, kW, lqD, lqE, Kw.c, pv, Kw.a, Kw.u]
     obtain ⟨⟨N15_7, V15_7⟩, -⟩ : (wr.heap.size ≤ (yw15 7 0).2 ∧ Vr v5 (yw15 7 0).2 (pnt Q.1 Q.2.1 Q.2.2)) ∧ True := hV15
     clear h15
     replace G := G.trans hg
     replace c9 := c9.gr hg
     replace c7 := c7.gr hg
     replace c8 := c8.gr hg
     replace c11 := c11.gr hg
     replace c12 := c12.gr hg
     replace HQ := fun k => (HQ k).gr hg
     replace S1p := S1p.gr hg
     replace S2p := S2p.gr hg
     clear hg
     go_upto_region 16 with fail
     refine wp_w [.c (.int .i64 0), .c (.int .i64 0), .c (.bool false), .c (.bool false), .c (.agg (pnt Q.1 Q.2.1 Q.2.2)), .c (.agg (ptA p1 (Q.1) n3 p2 (Q.2.1) n4 Q.2.2)), .c (.agg (pnt Q.1 Q.2.1 Q.2.2)), .c (.bool false), .c (.bool false)] [1, 4, 5, 6, 7] ?hs6 ?hf6
     case hs6 =>
      refine .cons (.k _ fun yy vv hg hh => RtW.of_c (Rt.same (num_any _ _))) ?_
      refine .cons (.g 35 0 V15_7 rfl) ?_
      refine .cons (.g 45 0 c12 rfl) ?_
      refine .cons (.k (fun yy => #[.agg (ptA p1 (Q.1) n3 p2 (Q.2.1) n4 Q.2.2)]) fun yy vv hg hh => RtW.of_c (Rt.c (rout_any _ _ _ _ _ _ _ _ (S1p.gr hg) (S2p.gr hg)))) ?_
      refine .cons (.s (.binOp .neq 35 (.const (.agg (pnt Q.1 Q.2.1 Q.2.2))) (.const (.agg (pnt Q.1 Q.2.1 Q.2.2))) 35) rfl fun vv hg => by simp [go_sem, exI, nePn, eqN_self]) .nil
     intro yw16 v6 hg h16
     simp only [FW, putFrom, Act.put, lqA, lqB, lqC, wvals, kW, lqD, lqE, Kw.c]
     clear h16
     replace G := G.trans hg
     replace c9 := c9.gr hg
     replace c7 := c7.gr hg
     replace c8 := c8.gr hg
     replace c11 := c11.gr hg
     replace c12 := c12.gr hg
     replace V15_7 := V15_7.gr hg
     replace HQ := fun k => (HQ k).gr hg
     replace S1p := S1p.gr hg
     replace S2p := S2p.gr hg
     clear hg
     go_upto_region 18 with fail
     refine wp_v false [.c (pv e9 0), .c (.int .i64 (k : Int)), .c (.agg (prj T.1 T.2.1 T.2.2)), .c (.agg (prj S1.1 S1.2.1 S1.2.2)), .c (.tuple #[.agg (prj R.1 R.2.1 R.2.2), .int .i64 0]), .c (.tuple #[.agg (prj R.1 R.2.1 R.2.2), .int .i64 0]), .c (.agg (prj R.1 R.2.1 R.2.2)), .c (.int .i64 0), .a, .u, .c (.int .i64 0)] [1, 2, 3, 4] [⟨8, 9, 27, prj 0 0 0, fun _ => prj R.1 R.2.1 R.2.2⟩] ?hs7 ?hv7 ?hf7
     case hs7 =>
      refine .cons (.o 3 0 c9 rfl rfl) ?_
      refine .cons (.g 27 0 c11 rfl) ?_
      refine .cons (.g 27 0 c7 rfl) ?_
      refine .cons (.k _ fun yy vv hg hh => RtW.of_c (Rt.c (jaddQ h1 h2 (S := T) (T := S1) (R := R) trT trS1 hR _))) .nil
     case hv7 =>
      refine .cons (.mk (fun _ _ _ => rfl) (fun _ v b H F => by dsimp only at H ⊢; simp [go_sem, exI, H, F]) zPj ⟨fkc, fkc, fkc, fkc, fkc, fkc, fkc, fkc, fka, fku, fkc, trivial⟩) .nil
     intro yw18 v7 hg h18 hV18
     simp only [FW, putFrom, Act.put, lqA, lqB, lqC, wvals, kW, lqD, lqE, Kw.c, pv, Kw.a, Kw.u]
     obtain ⟨⟨N18_8, V18_8⟩, -⟩ : (v6.heap.size ≤ (yw18 8 0).2 ∧ Vr v7 (yw18 8 0).2 (prj R.1 R.2.1 R.2.2)) ∧ True := hV18
     clear h18
     replace G := G.trans hg
     replace c9 := c9.gr hg
     replace c7 := c7.gr hg
     replace c8 := c8.gr hg
     replace c11 := c11.gr hg
     replace c12 := c12.gr hg
     replace V15_7 := V15_7.gr hg
     replace HQ := fun k => (HQ k).gr hg
     replace S1p := S1p.gr hg
     replace S2p := S2p.gr hg
     clear hg
     go_upto_region 19 with fail
     refine wp_wS [.c (.int .i64 0), .c (.int .i64 0), .c (.bool false)] [1] ?hs8 ?hf8
     case hs8 =>
      refine .cons (.k _ fun yy vv hg hh => RtW.of_c (Rt.same (num_any _ _))) .nil
     intro yw19 v8 hg h19
     simp only [FW, putFrom, Act.put, lqA, lqB, lqC, wvals, kW, lqD, lqE, Kw.c]
     clear h19
     replace G := G.trans hg
     replace c9 := c9.gr hg
     replace c7 := c7.gr hg
     replace c8 := c8.gr hg
     replace c11 := c11.gr hg
     replace c12 := c12.gr hg
     replace V15_7 := V15_7.gr hg
     replace V18_8 := V18_8.gr hg
     replace HQ := fun k => (HQ k).gr hg
     replace S1p := S1p.gr hg
     replace S2p := S2p.gr hg
     clear hg
     go_upto_region 21 with fail
     refine wp_wTS 1 [.c (.agg (prj R.1 R.2.1 R.2.2))] [0] ?hs9 ?hf9
     case hs9 =>
      refine .cons (.g 27 0 V18_8 rfl) .nil
     refine .s 27 (fun yy => .pointer (some ⟨e11, 0, none⟩)) (fun yy => .agg (prj R.1 R.2.1 R.2.2)) fun yw21 v9 hg h21 => ?_
     have HT := (c11.gr hg).h
     have FT := (c11.gr hg).f
     refine ⟨setBlk v9 (e11) (prj R.1 R.2.1 R.2.2), by simp [go_sem, exI, HT, FT], ?_⟩
     simp only [FW, putFrom, Act.put, lqA, lqB, lqC, wvals, kW, lqD, Kw.c]
     clear h21
     replace G := G.trans hg
     replace c9 := c9.gr hg
     replace c7 := c7.gr hg
     replace c8 := c8.gr hg
     replace c11 := c11.gr hg
     replace c12 := c12.gr hg
     replace V15_7 := V15_7.gr hg
     replace V18_8 := V18_8.gr hg
     replace HQ := fun k => (HQ k).gr hg
     replace S1p := S1p.gr hg
     replace S2p := S2p.gr hg
     clear hg
     go_upto_region 22 with fail
     refine gen_w (fun u => Gr w u ∧ Vr u e9 (crA (k : Int) (nN k) qc) ∧ (∀ j, Sl u (qc j).1 (nN k j)) ∧ Vr u e7 (prj S1.1 S1.2.1 S1.2.2) ∧ Vr u e8 (pnt P.1 P.2.1 P.2.2) ∧ Vr u e11 (prj R.1 R.2.1 R.2.2) ∧ Vr u e12 (ptA p1 Q.1 n3 p2 Q.2.1 n4 Q.2.2) ∧ Sl u p1 Q.1 ∧ Sl u p2 Q.2.1) ⟨gr_setNew G (by have := GW.out (); omega), c9.other (by omega), fun j => Sl.set (HQ j) (by rw [HT]; exact prj_no _ _ _), c7.other (by omega), c8.other (by omega), c11.set (by rw [prj_size]; decide) _, c12.other (by omega), Sl.set S1p (by rw [HT]; exact prj_no _ _ _), Sl.set S2p (by rw [HT]; exact prj_no _ _ _)⟩ ?_
     clear G c9 HQ c7 c8 c11 c12 S1p S2p HT FT
     rintro u ⟨G, c9, HQ, c7, c8, c11, c12, S1p, S2p⟩
     refine wp_wT 5 [.c (.agg (crA (k : Int) (nN k) qc)), .c (.agg (ptA p1 (Q.1) n3 p2 (Q.2.1) n4 Q.2.2)), .c (.agg (pnt P.1 P.2.1 P.2.2)), .pt (P.1) (P.2.1) P.2.2, .pt (Q2.1) (Q2.2.1) Q2.2.2] [0, 1, 2, 3, 4] ?hs10 ?hf10
     case hs10 =>
      refine .cons (.g 31 0 c9 rfl) ?_
      refine .cons (.g 45 0 c12 rfl) ?_
      refine .cons (.g 35 0 c8 rfl) ?_
      refine .cons (.k _ fun yy vv hg hh => RtW.of_pt (rin_any _ _ _ oP.lt.1 oP.lt.2 _)) ?_
      refine .cons (.k (fun yy => #[.agg (crA (k : Int) (nN k) qc), .agg (ptA p1 (Q.1) n3 p2 (Q.2.1) n4 Q.2.2), .agg (ptA (yy 3 0).1 (P.1) (yy 3 0).2 (yy 3 1).1 (P.2.1) (yy 3 1).2 P.2.2)]) fun yy vv hg hh => RtW.of_pt (hQ2 ▸ rplusQ k h1 h2 qc oQ oP (fun j => (HQ j).gr hg) (S1p.gr hg) (S2p.gr hg) (hh 3 rfl).1 (hh 3 rfl).2)) .nil
     refine .s 45 (fun yy => .pointer (some ⟨e12, 0, none⟩)) (fun yy => .agg (ptA (yy 4 0).1 (Q2.1) (yy 4 0).2 (yy 4 1).1 (Q2.2.1) (yy 4 1).2 Q2.2.2)) fun yw22 v10 hg h22 => ?_
     have HT := (c12.gr hg).h
     have FT := (c12.gr hg).f
     refine ⟨setBlk v10 (e12) (ptA (yw22 4 0).1 (Q2.1) (yw22 4 0).2 (yw22 4 1).1 (Q2.2.1) (yw22 4 1).2 Q2.2.2), by simp [go_sem, exI, HT, FT], ?_⟩
     simp only [FW, putFrom, Act.put, lqA, lqB, lqC, wvals, kW, lqD, lqE, Kw.c, Kw.pt]
     obtain ⟨S22_4, T22_4⟩ : Sl v10 (yw22 4 0).1 (Q2.1) ∧ Sl v10 (yw22 4 1).1 (Q2.2.1) := h22 4
     clear h22
     replace G := G.trans hg
     replace c9 := c9.gr hg
     replace c7 := c7.gr hg
     replace c8 := c8.gr hg
     replace c11 := c11.gr hg
     replace c12 := c12.gr hg
     replace HQ := fun k => (HQ k).gr hg
     replace S1p := S1p.gr hg
     replace S2p := S2p.gr hg
     clear hg
     go_wp2_with fail
     go_roundw
     case rel =>
       refine ⟨j + 1, R, (yw22 4 0).1, (yw22 4 1).1, (yw22 4 0).2, (yw22 4 1).2, by go_num, fun _ => hlt, ?_⟩
       rw [hj1]
       exact ⟨gr_setNew G (by have := GW.out (); omega), c9.other (by omega), fun j => Sl.set (HQ j) (by rw [HT]; exact ptA_no _ _ _ _ _ _ _), c7.other (by omega), c8.other (by omega), c11.other (by omega), trR, c12.set (by rw [ptA_size]; decide) _, Sl.set S22_4 (by rw [HT]; exact ptA_no _ _ _ _ _ _ _), Sl.set T22_4 (by rw [HT]; exact ptA_no _ _ _ _ _ _ _)⟩
     case measure => simp [intOf]; omega
   · have j1 : ¬ (j : Int) < (m : Int) := by omega
     have hj : j = m := by have := HJ.out (); omega
     rw [hj, hmP] at HV
     obtain ⟨G, c9, HQ, c7, c8, c11, trT, c12, S1p, S2p⟩ := HV.out
     clear HV HJ hlt
     go_upto_region 23 with fail
     refine wp_v false [.c (pv e9 0), .c (.int .i64 (k : Int)), .c (.agg (prj T.1 T.2.1 T.2.2)), .c (.tuple #[.agg (pnt 0 0 true), .int .i64 0]), .c (.tuple #[.agg (pnt 0 0 true), .int .i64 0]), .c (.agg (pnt 0 0 true)), .c (.int .i64 0), .a, .u, .c (.int .i64 0)] [1, 2, 3] [⟨7, 8, 35, pnt 0 0 false, fun _ => pnt 0 0 true⟩] ?hs11 ?hv11 ?hf11
     case hs11 =>
      refine .cons (.o 3 0 c9 rfl rfl) ?_
      refine .cons (.g 27 0 c11 rfl) ?_
      refine .cons (.k _ fun yy vv hg hh => RtW.of_c (Rt.c (toQ h1 h2 (Q := inf) trT _))) .nil
     case hv11 =>
      refine .cons (.mk (fun _ _ _ => rfl) (fun _ v b H F => by dsimp only at H ⊢; simp [go_sem, exI, H, F]) zPnt ⟨fkc, fkc, fkc, fkc, fkc, fkc, fkc, fka, fku, fkc, trivial⟩) .nil
     intro yw23 v5 hg h23 hV23
     simp only [FW, putFrom, Act.put, lqA, lqB, lqC, wvals, kW, lqD, lqE, Kw.c, pv, Kw.a, Kw.u]
     obtain ⟨⟨N23_7, V23_7⟩, -⟩ : (wr.heap.size ≤ (yw23 7 0).2 ∧ Vr v5 (yw23 7 0).2 (pnt 0 0 true)) ∧ True := hV23
     clear h23
     replace G := G.trans hg
     replace c9 := c9.gr hg
     replace c7 := c7.gr hg
     replace c8 := c8.gr hg
     replace c11 := c11.gr hg
     replace c12 := c12.gr hg
     replace HQ := fun k => (HQ k).gr hg
     replace S1p := S1p.gr hg
     replace S2p := S2p.gr hg
     clear hg
     go_upto_region 24 with fail
     refine wp_wS [.c (.int .i64 0), .c (.int .i64 0), .c (.bool true), .c (.bool true), .c (pv ((yw23 7 0).2) 18), .c (.bool true), .c (.bool true), .c (.bool true)] [1, 5] ?hs12 ?hf12
     case hs12 =>
      refine .cons (.k _ fun yy vv hg hh => RtW.of_c (Rt.same (num_any _ _))) ?_
      refine .cons (.o 4 18 V23_7 rfl (by exact pnt_18 _ _ _)) .nil
     intro yw24 v6 hg h24
     simp only [FW, putFrom, Act.put, lqA, lqB, lqC, wvals, kW, lqD, lqE, Kw.c, pv]
     clear h24
     replace G := G.trans hg
     replace c9 := c9.gr hg
     replace c7 := c7.gr hg
     replace c8 := c8.gr hg
     replace c11 := c11.gr hg
     replace c12 := c12.gr hg
     replace V23_7 := V23_7.gr hg
     replace HQ := fun k => (HQ k).gr hg
     replace S1p := S1p.gr hg
     replace S2p := S2p.gr hg
     clear hg
     go_wp2_with fail
     go_ret
     exact ⟨rfl, G⟩
end
end
end Go.Proofs.YtempibiahmmppaaGreat
