import Derived.Test.YtempibiahmmppaaGreatXJJH
import Derived.Test.YtempibiahmmppaaGreatXJCC
namespace Go.Proofs.YtempibiahmmppaaGreat
open Go.RowKit
set_option maxRecDepth 100000
set_option maxHeartbeats 8000000
section
attribute [local go_sem ↓] loadNat_is loadArr_is loadWide_is loadArrW_is storeNat_is storeWide_is
attribute [local go_sem] loadNat loadArr loadWide loadArrW storeNat storeWide idxArr fold9 fold18 nw_size nw_elem pre_self pre_1 pre_2 pre_3 pre_4 pre_5 pre_6 pre_7 pre_8 pre_9 pre_10 pre_11 pre_12 pre_13 pre_14 pre_15 pre_16 pre_17 pre_18 pre_19 pre_20 pre_21 pre_22 pre_23 pre_24 pre_25 pre_26 pre_27 pre_28 pre_29 pre_30 pre_31 pre_32 pre_33 pre_34 pre_35 pre_36 pre_37 pre_38 pre_39 pre_40 gro_size gro_drew gro_drewN drew_gro drewN_gro gro_gro blk_gro frz_gro blk_drew frz_drew blk_drewN frz_drewN blk_alloc_at frz_alloc_at blk_alloc frz_alloc cell_gro frozen_gro cell_alloc_pre frozen_alloc_pre setCell_drewN alloc_drewN setBlk_drew setBlk_drewN setBlk_alloc_at setBlk_alloc setBlk_gro setCell_gro setCell_alloc_pre size_setBlk size_setCell
section
attribute [local go_sem] ppre_1 ppre_2 ppre_3 ppre_4 ppre_5 ppre_6
attribute [local go_sem ↓] bsl_is loadC_is storeC_is loadPt_is storePt_is zvPt_is buildPt_is loadPn_is storePn_is zvPn_is loadCu_is storeCu_is zvCu_is buildCu_is buildPn_is Go.wp_at_zero Go.wp_at_succ
attribute [local go_sem] loadC storeC0 storeCr crA_size loadPt storePt zvPt ptA_size loadPn storePn zvPn pnt_size loadCu storeCu zvCu cu_size buildCu0 buildPnI buildPn2 loadCP loadCA loadCB loadCN loadCG loadCX loadCY cu_P cu_A cu_B cu_N cu_G cu_X cu_Y frz_setBlk blk_setBlk setBlk_setBlk blk_other
attribute [local go_sem ↓] loadPj_is storePj_is zvPj_is buildPj_is
attribute [local go_sem] loadPj storePj zvPj buildPj0 buildPj1 buildPj2 buildPj3 loadJX loadJY loadJZ prj_size prj_X prj_Y prj_Z
theorem scale_tr {k : Nat} (h1 : 1 ≤ k) (h2 : k ≤ 15) {T : T3} {Q : Q3} (h : TrQ k T Q) {m : Nat} (lm : m < pN k) (h0 : ¬ m = 0) : TrQ k (T.1 * m % pN k, T.2.1 * m % pN k, T.2.2 * m % pN k) Q := by
 haveI := EC.nzP k h1 h2
 have hp := prm_pN k h1 h2
 obtain ⟨o, X, Y, Z, rfl, s⟩ := h
 obtain ⟨c, rfl⟩ : ∃ c : Fin (pN k), m = c.val := ⟨⟨m, lm⟩, rfl⟩
 have hc : c ≠ 0 := fun e => h0 (by rw [e]; exact Fin.val_zero _)
 refine ⟨o, X * c, Y * c, Z * c, by rw [Fin.val_mul, Fin.val_mul, Fin.val_mul], fun {_} => ?_⟩
 have s' := s
 match decQ (pN k) Q, s' with
 | none, ⟨a1, a2, a3⟩ =>
   subst a1 a3
   exact ⟨by clear s s' h0; grobner, EC.mul_ne hp a2 hc, by clear s s' h0; grobner⟩
 | some (x, y), ⟨a1, a2, a3⟩ =>
   subst a2 a3
   exact ⟨EC.mul_ne hp a1 hc, by clear s s' h0; grobner, by clear s s' h0; grobner⟩
theorem ljscaled_any (id : Int) (n1 n2 n3 : Nat) (bn1 : n1 < 18446744073709551616) (bn2 : n2 < 18446744073709551616) (bn3 : n3 < 18446744073709551616) (w : World) : Cg 5 #[.int .i64 id, .int .u64 (n1 : Int), .int .u64 (n2 : Int), .int .u64 (n3 : Int)] w (.bool true) := by
 obtain ⟨u, hu, hu2, hk⟩ := idx_conv id
 have hbd := idx_bd id
 obtain ⟨k, hkk⟩ : ∃ k, idx id = k := ⟨_, rfl⟩
 rw [hkk] at hk hbd
 obtain ⟨h1, h2⟩ := hbd
 have u0 : (0 : Int) ≤ (u : Int) := by omega
 have hk2 : (1 : Int) + (u : Int) % 15 = (k : Int) := by omega
 have hk3 : IntKind.i64.wrap ((u : Int) % 15) = (u : Int) % 15 := by rw [IntKind.wrap_i64]; omega
 have hk4 : IntKind.u64.wrap ((u : Int) % 15) = (u : Int) % 15 := by rw [IntKind.wrap_u64]; omega
 have hk5 : (u : Int).tmod 15 = (u : Int) % 15 := by rw [Int.tmod_eq_emod_of_nonneg (by omega)]
 have k0 : (1 : Int) ≤ (k : Int) := by omega
 have k1 : (k : Int) ≤ 15 := by omega
 have hu3 : id % 18446744073709551616 = (u : Int) := by rw [← hu, IntKind.wrap_u64]
 clear hkk hk
 have HGR : Hid (∀ w, Calls Tryz.prog 10 #[.int .i64 (k : Int)] w (GetQ k w)) := fun w => getq_yes k h1 h2 w
 have HAW : Hid (∀ w, Cg 15 #[] w (.bool true)) := fun w => awake15_any w
 go_enter Tryz.func5, Tryz.ntmps5
 go_upto_region 4 with (first
   | (go_at_call 15; refine (HAW.out _).mono ?_; rintro e WA ⟨rfl, GA⟩)
   | (go_at_call 10; refine (HGR.out _).mono ?_; rintro e WB ⟨qc, rfl, HQ, GB⟩))
 obtain ⟨e9, he9⟩ : ∃ b, WB.heap.size = b := ⟨_, rfl⟩
 simp only [he9]
 refine gen_w (fun v => Gr w v ∧ Vr v e9 (crA (k : Int) (nN k) qc) ∧ ∀ j, Sl v (qc j).1 (nN k j)) ?_ ?_
 · subst he9
   exact ⟨(GA.trans GB).alloc _, Vr.new _ _ _, fun j => (HQ j).gr ((Gr.refl _).alloc _)⟩
 clear he9 GA GB HQ HAW HGR hu hu2 hk2 hk3 hk4 hk5 hu3 u0 k0 k1
 rintro v0 ⟨G, c9, HQ⟩
 have hpp := (prm_pN k h1 h2).1
 have hd : dl (pN k) ≤ 400 := by have := dl_M (pN k) (pN_M k); omega
 have hd2 : dl n2 ≤ 1000 := by have := dl_M n2 (lt_M _ bn2); omega
 obtain ⟨m, hm⟩ : ∃ z, n2 % pN k = z := ⟨_, rfl⟩
 by_cases h0 : m = 0
 · have hdm : dl m = 0 := by rw [h0]; rfl
   refine wp_w [.c (.int .u64 (n2 : Int)), .c (.agg (nw 9 n2)), .n (n2), .c (pv e9 1), .c (.slice (qc 0).1 (dl (pN k)) (qc 0).2), .n (m), .n (m)] [1, 2, 4, 5, 6] ?hs1 ?hf1
   case hs1 =>
    refine .cons (.k _ fun yy vv hg hh => RtW.of_c (Rt.c (one_any _ bn2 _))) ?_
    refine .cons (.k _ fun yy vv hg hh => RtW.of_n (fm_any (show n2 < M from (lt_M _ bn2)))) ?_
    refine .cons (.o 29 1 c9 rfl rfl) ?_
    refine .cons (.k (fun yy => #[.slice (yy 2 0).1 (dl (n2)) (yy 2 0).2, .slice (qc 0).1 (dl (pN k)) (qc 0).2]) fun yy vv hg hh => RtW.of_n (Rt.n (hm ▸ rmod_any n2 (pN k) _ _ _ _ _ (hh 2 rfl) ((HQ 0).gr hg) hd2 (by omega) (by omega)))) ?_
    refine .cons (.m 5) .nil
   intro yw4 v1 hg h4
   simp only [FW, putFrom, Act.put, lqA, lqB, lqC, wvals, kW, lqD, lqE, Kw.c, pv, Kw.n]
   have S4_6 : Sl v1 (yw4 6 0).1 (m) := h4 6
   clear h4
   have g4 := hg
   clear hg
   go_upto_region 5 with fail
   refine wp_wS [.c (.bool true), .c (.bool false), .c (.bool false), .c (.slice (yw4 6 0).1 (dl (m)) (yw4 6 0).2), .c (.int .i64 (dl (m))), .c (.bool true), .c (.bool true)] [5] ?hs2 ?hf2
   case hs2 =>
    refine .cons (.s (.binOp .eql 3 (.const (.int .i64 (dl (m)))) (.const (.int .i64 0)) 3) rfl fun vv hg => by simp [go_sem, exI, hdm]) .nil
   intro yw5 v2 hg h5
   simp only [FW, putFrom, Act.put, lqA, lqB, lqC, wvals, kW, lqD, lqE, Kw.c]
   clear h5
   replace g4 := g4.trans hg
   have g5 := hg
   clear hg
   go_upto_region 6 with fail
   refine wp_wS [.c (.bool true), .c (.bool true)] [] ?hs3 ?hf3
   case hs3 => exact .nil
   intro yw6 v3 hg h6
   simp only [FW, putFrom, Act.put, lqA, lqB, lqC, wvals, kW, lqD, lqE, Kw.c]
   clear h6
   replace g4 := g4.trans hg
   replace g5 := g5.trans hg
   clear hg
   replace G := G.trans g4
   replace c9 := c9.gr g4
   replace HQ := fun k => (HQ k).gr g4
   replace S4_6 := S4_6.gr g5
   clear g4 g5
   go_wp2_with fail
   go_ret
   exact ⟨rfl, G⟩
 · skip
   obtain ⟨P, hP⟩ : ∃ Z, mlQ k n1 (gQ k) = Z := ⟨_, rfl⟩
   have oP : OnQ k P := hP ▸ mlQ_on h1 h2 _ (gQ_on h1 h2)
   have bP := bn1
   obtain ⟨S1, hS1⟩ : ∃ Z, frT P = Z := ⟨_, rfl⟩
   have trS1 : TrQ k S1 P := hS1 ▸ frT_tr h1 h2 oP
   obtain ⟨Q, hQ⟩ : ∃ Z, mlQ k n3 (gQ k) = Z := ⟨_, rfl⟩
   have oQ : OnQ k Q := hQ ▸ mlQ_on h1 h2 _ (gQ_on h1 h2)
   have bQ := bn3
   obtain ⟨S2, hS2⟩ : ∃ Z, frT Q = Z := ⟨_, rfl⟩
   have trS2 : TrQ k S2 Q := hS2 ▸ frT_tr h1 h2 oQ
   have hdn1 : dl n1 ≤ 400 := by have := dl_M n1 (lt_M _ bn1); omega
   have hdn3 : dl n3 ≤ 400 := by have := dl_M n3 (lt_M _ bn3); omega
   have lm : m < pN k := hm ▸ Nat.mod_lt _ (by omega)
   have lS : S1.1 < M ∧ S1.2.1 < M ∧ S1.2.2 < M := ⟨Nat.lt_trans trS1.lt.1 (pN_M k), Nat.lt_trans trS1.lt.2.1 (pN_M k), Nat.lt_trans trS1.lt.2.2 (pN_M k)⟩
   obtain ⟨V, hV, hV1, hV21, hV22⟩ : ∃ V : T3, V = (S1.1 * m % pN k, S1.2.1 * m % pN k, S1.2.2 * m % pN k) ∧ S1.1 * m % pN k = V.1 ∧ S1.2.1 * m % pN k = V.2.1 ∧ S1.2.2 * m % pN k = V.2.2 := ⟨_, rfl, rfl, rfl, rfl⟩
   have trV : TrQ k V P := hV ▸ scale_tr h1 h2 trS1 lm h0
   obtain ⟨A1, hA1⟩ : ∃ Z, addT k V S2 = Z := ⟨_, rfl⟩
   obtain ⟨X, hX⟩ : ∃ Z, plQ k P Q = Z := ⟨_, rfl⟩
   have oX : OnQ k X := hX ▸ plQ_on h1 h2 oP oQ
   have trA1 : TrQ k A1 X := hA1 ▸ hX ▸ addT_tr h1 h2 trV trS2
   obtain ⟨A2, hA2⟩ : ∃ Z, addT k S2 S1 = Z := ⟨_, rfl⟩
   have trA2 : TrQ k A2 X := by have := addT_tr h1 h2 trS2 trS1; rw [hA2, plQ_comm h1 h2 oQ oP, hX] at this; exact this
   have hdm : ¬ dl m = 0 := fun e => h0 (dl_eq_zero m e)
   refine wp_w [.c (.int .u64 (n2 : Int)), .c (.agg (nw 9 n2)), .n (n2), .c (pv e9 1), .c (.slice (qc 0).1 (dl (pN k)) (qc 0).2), .n (m), .n (m)] [1, 2, 4, 5, 6] ?hs4 ?hf4
   case hs4 =>
    refine .cons (.k _ fun yy vv hg hh => RtW.of_c (Rt.c (one_any _ bn2 _))) ?_
    refine .cons (.k _ fun yy vv hg hh => RtW.of_n (fm_any (show n2 < M from (lt_M _ bn2)))) ?_
    refine .cons (.o 29 1 c9 rfl rfl) ?_
    refine .cons (.k (fun yy => #[.slice (yy 2 0).1 (dl (n2)) (yy 2 0).2, .slice (qc 0).1 (dl (pN k)) (qc 0).2]) fun yy vv hg hh => RtW.of_n (Rt.n (hm ▸ rmod_any n2 (pN k) _ _ _ _ _ (hh 2 rfl) ((HQ 0).gr hg) hd2 (by omega) (by omega)))) ?_
    refine .cons (.m 5) .nil
   intro yw4 v1 hg h4
   simp only [FW, putFrom, Act.put, lqA, lqB, lqC, wvals, kW, lqD, lqE, Kw.c, pv, Kw.n]
   have S4_6 : Sl v1 (yw4 6 0).1 (m) := h4 6
   clear h4
   have g4 := hg
   clear hg
   go_upto_region 5 with fail
   refine wp_wS [.c (.bool true), .c (.bool false), .c (.bool false), .c (.slice (yw4 6 0).1 (dl (m)) (yw4 6 0).2), .c (.int .i64 (dl (m))), .c (.bool false), .c (.bool false)] [5] ?hs5 ?hf5
   case hs5 =>
    refine .cons (.s (.binOp .eql 3 (.const (.int .i64 (dl (m)))) (.const (.int .i64 0)) 3) rfl fun vv hg => by simp [go_sem, exI, hdm]) .nil
   intro yw5 v2 hg h5
   simp only [FW, putFrom, Act.put, lqA, lqB, lqC, wvals, kW, lqD, lqE, Kw.c]
   clear h5
   replace g4 := g4.trans hg
   have g5 := hg
   clear hg
   go_upto_region 7 with fail
   refine wp_v true [.c (.agg (crA (k : Int) (nN k) qc)), .c (.int .u64 (n1 : Int)), .c (.agg (nw 9 n1)), .n (n1), .c (.agg (crA (k : Int) (nN k) qc)), .pt (xN k) (yN k) false, .pt (P.1) (P.2.1) P.2.2, .c (.agg (pnt P.1 P.2.1 P.2.2)), .a, .u] [0, 2, 3, 4, 5, 6, 7] [⟨8, 9, 35, pnt 0 0 false, fun _ => pnt P.1 P.2.1 P.2.2⟩] ?hs6 ?hv6 ?hf6
   case hs6 =>
    refine .cons (.g 31 0 (c9.gr g4) rfl) ?_
    refine .cons (.k _ fun yy vv hg hh => RtW.of_c (Rt.c (one_any _ bn1 _))) ?_
    refine .cons (.k _ fun yy vv hg hh => RtW.of_n (fm_any (show n1 < M from (lt_M _ bn1)))) ?_
    refine .cons (.g 31 0 (c9.gr g4) rfl) ?_
    refine .cons (.k _ fun yy vv hg hh => RtW.of_pt (rg_any qc _ (fun j => (HQ j).gr (g4.trans hg)))) ?_
    refine .cons (.k (fun yy => #[.agg (crA (k : Int) (nN k) qc), .slice (yy 3 0).1 (dl (n1)) (yy 3 0).2, .agg (ptA (yy 5 0).1 (xN k) (yy 5 0).2 (yy 5 1).1 (yN k) (yy 5 1).2 false)]) fun yy vv hg hh => RtW.of_pt (hP ▸ rtimesQ k h1 h2 qc (gQ_on h1 h2) hdn1 (fun j => (HQ j).gr (g4.trans hg)) (hh 3 rfl) (hh 5 rfl).1 (hh 5 rfl).2)) ?_
    refine .cons (.k (fun yy => #[.agg (ptA (yy 6 0).1 (P.1) (yy 6 0).2 (yy 6 1).1 (P.2.1) (yy 6 1).2 P.2.2)]) fun yy vv hg hh => RtW.of_c (Rt.c (rout_any _ _ _ _ _ _ _ _ (hh 6 rfl).1 (hh 6 rfl).2))) .nil
   case hv6 =>
    refine .cons (.mk (fun _ _ _ => rfl) (fun _ v b H F => by dsimp only at H ⊢; simp [go_sem, exI, H, F]) zPnt ⟨fkc, fkc, fkc, fkn bPnt, fkc, fkp bPnt, fkp bPnt, fkc, fka, fku, trivial⟩) .nil
   intro yw7 v3 hg h7 hV7
   simp only [FW, putFrom, Act.put, lqA, lqB, lqC, wvals, kW, lqD, lqE, Kw.c, Kw.a, Kw.n, Kw.pt, Kw.u]
   obtain ⟨⟨N7_8, V7_8⟩, -⟩ : (v2.heap.size ≤ (yw7 8 0).2 ∧ Vr v3 (yw7 8 0).2 (pnt P.1 P.2.1 P.2.2)) ∧ True := hV7
   clear h7
   replace g4 := g4.trans hg
   replace g5 := g5.trans hg
   clear hg
   go_upto_region 8 with fail
   refine wp_v true [.c (.agg (crA (k : Int) (nN k) qc)), .c (.int .u64 (n3 : Int)), .c (.agg (nw 9 n3)), .n (n3), .c (.agg (crA (k : Int) (nN k) qc)), .pt (xN k) (yN k) false, .pt (Q.1) (Q.2.1) Q.2.2, .c (.agg (pnt Q.1 Q.2.1 Q.2.2)), .a, .u] [0, 2, 3, 4, 5, 6, 7] [⟨8, 9, 35, pnt 0 0 false, fun _ => pnt Q.1 Q.2.1 Q.2.2⟩] ?hs7 ?hv7 ?hf7
   case hs7 =>
    refine .cons (.g 31 0 (c9.gr g4) rfl) ?_
    refine .cons (.k _ fun yy vv hg hh => RtW.of_c (Rt.c (one_any _ bn3 _))) ?_
    refine .cons (.k _ fun yy vv hg hh => RtW.of_n (fm_any (show n3 < M from (lt_M _ bn3)))) ?_
    refine .cons (.g 31 0 (c9.gr g4) rfl) ?_
    refine .cons (.k _ fun yy vv hg hh => RtW.of_pt (rg_any qc _ (fun j => (HQ j).gr (g4.trans hg)))) ?_
    refine .cons (.k (fun yy => #[.agg (crA (k : Int) (nN k) qc), .slice (yy 3 0).1 (dl (n3)) (yy 3 0).2, .agg (ptA (yy 5 0).1 (xN k) (yy 5 0).2 (yy 5 1).1 (yN k) (yy 5 1).2 false)]) fun yy vv hg hh => RtW.of_pt (hQ ▸ rtimesQ k h1 h2 qc (gQ_on h1 h2) hdn3 (fun j => (HQ j).gr (g4.trans hg)) (hh 3 rfl) (hh 5 rfl).1 (hh 5 rfl).2)) ?_
    refine .cons (.k (fun yy => #[.agg (ptA (yy 6 0).1 (Q.1) (yy 6 0).2 (yy 6 1).1 (Q.2.1) (yy 6 1).2 Q.2.2)]) fun yy vv hg hh => RtW.of_c (Rt.c (rout_any _ _ _ _ _ _ _ _ (hh 6 rfl).1 (hh 6 rfl).2))) .nil
   case hv7 =>
    refine .cons (.mk (fun _ _ _ => rfl) (fun _ v b H F => by dsimp only at H ⊢; simp [go_sem, exI, H, F]) zPnt ⟨fkc, fkc, fkc, fkn bPnt, fkc, fkp bPnt, fkp bPnt, fkc, fka, fku, trivial⟩) .nil
   intro yw8 v4 hg h8 hV8
   simp only [FW, putFrom, Act.put, lqA, lqB, lqC, wvals, kW, lqD, lqE, Kw.c, Kw.a, Kw.n, Kw.pt, Kw.u]
   obtain ⟨⟨N8_8, V8_8⟩, -⟩ : (v3.heap.size ≤ (yw8 8 0).2 ∧ Vr v4 (yw8 8 0).2 (pnt Q.1 Q.2.1 Q.2.2)) ∧ True := hV8
   clear h8
   replace g4 := g4.trans hg
   replace g5 := g5.trans hg
   have g8 := hg
   clear hg
   go_upto_region 9 with fail
   refine wp_v false [.c (pv e9 0), .c (.int .i64 (k : Int)), .c (.agg (pnt P.1 P.2.1 P.2.2)), .c (.tuple #[.agg (prj S1.1 S1.2.1 S1.2.2), .int .i64 0]), .c (.tuple #[.agg (prj S1.1 S1.2.1 S1.2.2), .int .i64 0]), .c (.agg (prj S1.1 S1.2.1 S1.2.2)), .c (.int .i64 0), .a, .u, .c (.int .i64 0)] [1, 2, 3] [⟨7, 8, 27, prj 0 0 0, fun _ => prj S1.1 S1.2.1 S1.2.2⟩] ?hs8 ?hv8 ?hf8
   case hs8 =>
    refine .cons (.o 3 0 (c9.gr g4) rfl rfl) ?_
    refine .cons (.g 35 0 (V7_8.gr g8) rfl) ?_
    refine .cons (.k _ fun yy vv hg hh => RtW.of_c (Rt.c (fromQ h1 h2 (P := P) (T := S1) oP hS1 _))) .nil
   case hv8 =>
    refine .cons (.mk (fun _ _ _ => rfl) (fun _ v b H F => by dsimp only at H ⊢; simp [go_sem, exI, H, F]) zPj ⟨fkc, fkc, fkc, fkc, fkc, fkc, fkc, fka, fku, fkc, trivial⟩) .nil
   intro yw9 v5 hg h9 hV9
   simp only [FW, putFrom, Act.put, lqA, lqB, lqC, wvals, kW, lqD, lqE, Kw.c, pv, Kw.a, Kw.u]
   obtain ⟨⟨N9_7, V9_7⟩, -⟩ : (v4.heap.size ≤ (yw9 7 0).2 ∧ Vr v5 (yw9 7 0).2 (prj S1.1 S1.2.1 S1.2.2)) ∧ True := hV9
   clear h9
   replace g4 := g4.trans hg
   replace g5 := g5.trans hg
   replace g8 := g8.trans hg
   have g9 := hg
   clear hg
   go_upto_region 10 with fail
   refine wp_v false [.c (pv e9 0), .c (.int .i64 (k : Int)), .c (.agg (pnt Q.1 Q.2.1 Q.2.2)), .c (.tuple #[.agg (prj S2.1 S2.2.1 S2.2.2), .int .i64 0]), .c (.tuple #[.agg (prj S2.1 S2.2.1 S2.2.2), .int .i64 0]), .c (.agg (prj S2.1 S2.2.1 S2.2.2)), .c (.int .i64 0), .a, .u, .c (.int .i64 0)] [1, 2, 3] [⟨7, 8, 27, prj 0 0 0, fun _ => prj S2.1 S2.2.1 S2.2.2⟩] ?hs9 ?hv9 ?hf9
   case hs9 =>
    refine .cons (.o 3 0 (c9.gr g4) rfl rfl) ?_
    refine .cons (.g 35 0 (V8_8.gr g9) rfl) ?_
    refine .cons (.k _ fun yy vv hg hh => RtW.of_c (Rt.c (fromQ h1 h2 (P := Q) (T := S2) oQ hS2 _))) .nil
   case hv9 =>
    refine .cons (.mk (fun _ _ _ => rfl) (fun _ v b H F => by dsimp only at H ⊢; simp [go_sem, exI, H, F]) zPj ⟨fkc, fkc, fkc, fkc, fkc, fkc, fkc, fka, fku, fkc, trivial⟩) .nil
   intro yw10 v6 hg h10 hV10
   simp only [FW, putFrom, Act.put, lqA, lqB, lqC, wvals, kW, lqD, lqE, Kw.c, pv, Kw.a, Kw.u]
   obtain ⟨⟨N10_7, V10_7⟩, -⟩ : (v5.heap.size ≤ (yw10 7 0).2 ∧ Vr v6 (yw10 7 0).2 (prj S2.1 S2.2.1 S2.2.2)) ∧ True := hV10
   clear h10
   replace g4 := g4.trans hg
   replace g5 := g5.trans hg
   replace g8 := g8.trans hg
   replace g9 := g9.trans hg
   have g10 := hg
   clear hg
   go_upto_region 11 with fail
   refine wp_v true [.c (pv ((yw9 7 0).2) 0), .c (.agg (nw 9 S1.1)), .n (S1.1), .c (.slice (yw4 6 0).1 (dl (m)) (yw4 6 0).2), .c (pv e9 1), .c (.slice (qc 0).1 (dl (pN k)) (qc 0).2), .n (V.1), .c (.agg (nw 9 V.1)), .c (pv ((yw9 7 0).2) 9), .c (.agg (nw 9 S1.2.1)), .n (S1.2.1), .c (.slice (yw4 6 0).1 (dl (m)) (yw4 6 0).2), .c (pv e9 1), .c (.slice (qc 0).1 (dl (pN k)) (qc 0).2), .n (V.2.1), .c (.agg (nw 9 V.2.1)), .c (pv ((yw9 7 0).2) 18), .c (.agg (nw 9 S1.2.2)), .n (S1.2.2), .c (.slice (yw4 6 0).1 (dl (m)) (yw4 6 0).2), .c (pv e9 1), .c (.slice (qc 0).1 (dl (pN k)) (qc 0).2), .n (V.2.2), .c (.agg (nw 9 V.2.2)), .c (.agg (prj V.1 V.2.1 V.2.2)), .a, .u] [1, 2, 5, 6, 7, 9, 10, 13, 14, 15, 17, 18, 21, 22, 23] [⟨25, 26, 27, prj 0 0 0, fun _ => prj V.1 V.2.1 V.2.2⟩] ?hs10 ?hv10 ?hf10
   case hs10 =>
    refine .cons (.g 25 0 (V9_7.gr g10) rfl) ?_
    refine .cons (.k _ fun yy vv hg hh => RtW.of_n (fm_any (show S1.1 < M from lS.1))) ?_
    refine .cons (.o 29 1 (c9.gr g4) rfl rfl) ?_
    refine .cons (.k (fun yy => #[.slice (yy 2 0).1 (dl (S1.1)) (yy 2 0).2, .slice (yw4 6 0).1 (dl (m)) (yw4 6 0).2, .slice (qc 0).1 (dl (pN k)) (qc 0).2]) fun yy vv hg hh => RtW.of_n (mm_any (hh 2 rfl) (S4_6.gr (g5.trans hg)) ((HQ 0).gr (g4.trans hg)) trS1.lt.1 lm hd hV1)) ?_
    refine .cons (.k (fun yy => #[.slice (yy 6 0).1 (dl (V.1)) (yy 6 0).2]) fun yy vv hg hh => RtW.of_c (nt_any (hh 6 rfl))) ?_
    refine .cons (.g 25 9 (V9_7.gr g10) rfl) ?_
    refine .cons (.k _ fun yy vv hg hh => RtW.of_n (fm_any (show S1.2.1 < M from lS.2.1))) ?_
    refine .cons (.o 29 1 (c9.gr g4) rfl rfl) ?_
    refine .cons (.k (fun yy => #[.slice (yy 10 0).1 (dl (S1.2.1)) (yy 10 0).2, .slice (yw4 6 0).1 (dl (m)) (yw4 6 0).2, .slice (qc 0).1 (dl (pN k)) (qc 0).2]) fun yy vv hg hh => RtW.of_n (mm_any (hh 10 rfl) (S4_6.gr (g5.trans hg)) ((HQ 0).gr (g4.trans hg)) trS1.lt.2.1 lm hd hV21)) ?_
    refine .cons (.k (fun yy => #[.slice (yy 14 0).1 (dl (V.2.1)) (yy 14 0).2]) fun yy vv hg hh => RtW.of_c (nt_any (hh 14 rfl))) ?_
    refine .cons (.g 25 18 (V9_7.gr g10) rfl) ?_
    refine .cons (.k _ fun yy vv hg hh => RtW.of_n (fm_any (show S1.2.2 < M from lS.2.2))) ?_
    refine .cons (.o 29 1 (c9.gr g4) rfl rfl) ?_
    refine .cons (.k (fun yy => #[.slice (yy 18 0).1 (dl (S1.2.2)) (yy 18 0).2, .slice (yw4 6 0).1 (dl (m)) (yw4 6 0).2, .slice (qc 0).1 (dl (pN k)) (qc 0).2]) fun yy vv hg hh => RtW.of_n (mm_any (hh 18 rfl) (S4_6.gr (g5.trans hg)) ((HQ 0).gr (g4.trans hg)) trS1.lt.2.2 lm hd hV22)) ?_
    refine .cons (.k (fun yy => #[.slice (yy 22 0).1 (dl (V.2.2)) (yy 22 0).2]) fun yy vv hg hh => RtW.of_c (nt_any (hh 22 rfl))) .nil
   case hv10 =>
    refine .cons (.mk (fun _ _ _ => rfl) (fun _ v b H F => by dsimp only at H ⊢; simp [go_sem, exI, H, F]) zPj ⟨fkc, fkc, fkn bPj, fkc, fkc, fkc, fkn bPj, fkc, fkc, fkc, fkn bPj, fkc, fkc, fkc, fkn bPj, fkc, fkc, fkc, fkn bPj, fkc, fkc, fkc, fkn bPj, fkc, fkc, fka, fku, trivial⟩) .nil
   intro yw11 v7 hg h11 hV11
   simp only [FW, putFrom, Act.put, lqA, lqB, lqC, wvals, kW, lqD, lqE, Kw.c, pv, Kw.a, Kw.n, Kw.u]
   obtain ⟨⟨N11_25, V11_25⟩, -⟩ : (v6.heap.size ≤ (yw11 25 0).2 ∧ Vr v7 (yw11 25 0).2 (prj V.1 V.2.1 V.2.2)) ∧ True := hV11
   clear h11
   replace g10 := g10.trans hg
   replace g4 := g4.trans hg
   replace g5 := g5.trans hg
   replace g8 := g8.trans hg
   replace g9 := g9.trans hg
   have g11 := hg
   clear hg
   go_upto_region 12 with fail
   refine wp_v false [.c (pv e9 0), .c (.int .i64 (k : Int)), .c (.agg (prj V.1 V.2.1 V.2.2)), .c (.tuple #[.agg (pnt P.1 P.2.1 P.2.2), .int .i64 0]), .c (.tuple #[.agg (pnt P.1 P.2.1 P.2.2), .int .i64 0]), .c (.agg (pnt P.1 P.2.1 P.2.2)), .c (.int .i64 0), .a, .u, .c (.int .i64 0)] [1, 2, 3] [⟨7, 8, 35, pnt 0 0 false, fun _ => pnt P.1 P.2.1 P.2.2⟩] ?hs11 ?hv11 ?hf11
   case hs11 =>
    refine .cons (.o 3 0 (c9.gr g4) rfl rfl) ?_
    refine .cons (.g 27 0 V11_25 rfl) ?_
    refine .cons (.k _ fun yy vv hg hh => RtW.of_c (Rt.c (toQ h1 h2 (T := V) (Q := P) trV _))) .nil
   case hv11 =>
    refine .cons (.mk (fun _ _ _ => rfl) (fun _ v b H F => by dsimp only at H ⊢; simp [go_sem, exI, H, F]) zPnt ⟨fkc, fkc, fkc, fkc, fkc, fkc, fkc, fka, fku, fkc, trivial⟩) .nil
   intro yw12 v8 hg h12 hV12
   simp only [FW, putFrom, Act.put, lqA, lqB, lqC, wvals, kW, lqD, lqE, Kw.c, pv, Kw.a, Kw.u]
   obtain ⟨⟨N12_7, V12_7⟩, -⟩ : (v7.heap.size ≤ (yw12 7 0).2 ∧ Vr v8 (yw12 7 0).2 (pnt P.1 P.2.1 P.2.2)) ∧ True := hV12
   clear h12
   replace g10 := g10.trans hg
   replace g11 := g11.trans hg
   replace g4 := g4.trans hg
   replace g5 := g5.trans hg
   replace g8 := g8.trans hg
   replace g9 := g9.trans hg
   have g12 := hg
   clear hg
   go_upto_region 13 with fail
   refine wp_v false [.c (pv e9 0), .c (.int .i64 (k : Int)), .c (.agg (prj V.1 V.2.1 V.2.2)), .c (.agg (prj S2.1 S2.2.1 S2.2.2)), .c (.tuple #[.agg (prj A1.1 A1.2.1 A1.2.2), .int .i64 0]), .c (.tuple #[.agg (prj A1.1 A1.2.1 A1.2.2), .int .i64 0]), .c (.agg (prj A1.1 A1.2.1 A1.2.2)), .c (.int .i64 0), .a, .u, .c (.int .i64 0)] [1, 2, 3, 4] [⟨8, 9, 27, prj 0 0 0, fun _ => prj A1.1 A1.2.1 A1.2.2⟩] ?hs12 ?hv12 ?hf12
   case hs12 =>
    refine .cons (.o 3 0 (c9.gr g4) rfl rfl) ?_
    refine .cons (.g 27 0 (V11_25.gr g12) rfl) ?_
    refine .cons (.g 27 0 (V10_7.gr g11) rfl) ?_
    refine .cons (.k _ fun yy vv hg hh => RtW.of_c (Rt.c (jaddQ h1 h2 (S := V) (T := S2) (R := A1) trV trS2 hA1 _))) .nil
   case hv12 =>
    refine .cons (.mk (fun _ _ _ => rfl) (fun _ v b H F => by dsimp only at H ⊢; simp [go_sem, exI, H, F]) zPj ⟨fkc, fkc, fkc, fkc, fkc, fkc, fkc, fkc, fka, fku, fkc, trivial⟩) .nil
   intro yw13 v9 hg h13 hV13
   simp only [FW, putFrom, Act.put, lqA, lqB, lqC, wvals, kW, lqD, lqE, Kw.c, pv, Kw.a, Kw.u]
   obtain ⟨⟨N13_8, V13_8⟩, -⟩ : (v8.heap.size ≤ (yw13 8 0).2 ∧ Vr v9 (yw13 8 0).2 (prj A1.1 A1.2.1 A1.2.2)) ∧ True := hV13
   clear h13
   replace g10 := g10.trans hg
   replace g11 := g11.trans hg
   replace g12 := g12.trans hg
   replace g4 := g4.trans hg
   replace g5 := g5.trans hg
   replace g8 := g8.trans hg
   replace g9 := g9.trans hg
   have g13 := hg
   clear hg
   go_upto_region 14 with fail
   refine wp_v false [.c (pv e9 0), .c (.int .i64 (k : Int)), .c (.agg (prj S2.1 S2.2.1 S2.2.2)), .c (.agg (prj S1.1 S1.2.1 S1.2.2)), .c (.tuple #[.agg (prj A2.1 A2.2.1 A2.2.2), .int .i64 0]), .c (.tuple #[.agg (prj A2.1 A2.2.1 A2.2.2), .int .i64 0]), .c (.agg (prj A2.1 A2.2.1 A2.2.2)), .c (.int .i64 0), .a, .u, .c (.int .i64 0)] [1, 2, 3, 4] [⟨8, 9, 27, prj 0 0 0, fun _ => prj A2.1 A2.2.1 A2.2.2⟩] ?hs13 ?hv13 ?hf13
   case hs13 =>
    refine .cons (.o 3 0 (c9.gr g4) rfl rfl) ?_
    refine .cons (.g 27 0 (V10_7.gr g11) rfl) ?_
    refine .cons (.g 27 0 (V9_7.gr g10) rfl) ?_
    refine .cons (.k _ fun yy vv hg hh => RtW.of_c (Rt.c (jaddQ h1 h2 (S := S2) (T := S1) (R := A2) trS2 trS1 hA2 _))) .nil
   case hv13 =>
    refine .cons (.mk (fun _ _ _ => rfl) (fun _ v b H F => by dsimp only at H ⊢; simp [go_sem, exI, H, F]) zPj ⟨fkc, fkc, fkc, fkc, fkc, fkc, fkc, fkc, fka, fku, fkc, trivial⟩) .nil
   intro yw14 v10 hg h14 hV14
   simp only [FW, putFrom, Act.put, lqA, lqB, lqC, wvals, kW, lqD, lqE, Kw.c, pv, Kw.a, Kw.u]
   obtain ⟨⟨N14_8, V14_8⟩, -⟩ : (v9.heap.size ≤ (yw14 8 0).2 ∧ Vr v10 (yw14 8 0).2 (prj A2.1 A2.2.1 A2.2.2)) ∧ True := hV14
   clear h14
   replace g10 := g10.trans hg
   replace g11 := g11.trans hg
   replace g12 := g12.trans hg
   replace g13 := g13.trans hg
   replace g4 := g4.trans hg
   replace g5 := g5.trans hg
   replace g8 := g8.trans hg
   replace g9 := g9.trans hg
   have g14 := hg
   clear hg
   go_upto_region 15 with fail
   refine wp_v false [.c (pv e9 0), .c (.int .i64 (k : Int)), .c (.agg (prj A1.1 A1.2.1 A1.2.2)), .c (.tuple #[.agg (pnt X.1 X.2.1 X.2.2), .int .i64 0]), .c (.tuple #[.agg (pnt X.1 X.2.1 X.2.2), .int .i64 0]), .c (.agg (pnt X.1 X.2.1 X.2.2)), .c (.int .i64 0), .a, .u, .c (.int .i64 0)] [1, 2, 3] [⟨7, 8, 35, pnt 0 0 false, fun _ => pnt X.1 X.2.1 X.2.2⟩] ?hs14 ?hv14 ?hf14
   case hs14 =>
    refine .cons (.o 3 0 (c9.gr g4) rfl rfl) ?_
    refine .cons (.g 27 0 (V13_8.gr g14) rfl) ?_
    refine .cons (.k _ fun yy vv hg hh => RtW.of_c (Rt.c (toQ h1 h2 (T := A1) (Q := X) trA1 _))) .nil
   case hv14 =>
    refine .cons (.mk (fun _ _ _ => rfl) (fun _ v b H F => by dsimp only at H ⊢; simp [go_sem, exI, H, F]) zPnt ⟨fkc, fkc, fkc, fkc, fkc, fkc, fkc, fka, fku, fkc, trivial⟩) .nil
   intro yw15 v11 hg h15 hV15
   simp only [FW, putFrom, Act.put, lqA, lqB, lqC, wvals, kW, lqD, lqE, Kw.c, pv, Kw.a, Kw.u]
   obtain ⟨⟨N15_7, V15_7⟩, -⟩ : (v10.heap.size ≤ (yw15 7 0).2 ∧ Vr v11 (yw15 7 0).2 (pnt X.1 X.2.1 X.2.2)) ∧ True := hV15
   clear h15
   replace g10 := g10.trans hg
   replace g11 := g11.trans hg
   replace g12 := g12.trans hg
   replace g13 := g13.trans hg
   replace g14 := g14.trans hg
   replace g4 := g4.trans hg
   replace g5 := g5.trans hg
   replace g8 := g8.trans hg
   replace g9 := g9.trans hg
   have g15 := hg
   clear hg
   go_upto_region 16 with fail
   refine wp_v false [.c (pv e9 0), .c (.int .i64 (k : Int)), .c (.agg (prj A2.1 A2.2.1 A2.2.2)), .c (.tuple #[.agg (pnt X.1 X.2.1 X.2.2), .int .i64 0]), .c (.tuple #[.agg (pnt X.1 X.2.1 X.2.2), .int .i64 0]), .c (.agg (pnt X.1 X.2.1 X.2.2)), .c (.int .i64 0), .a, .u, .c (.int .i64 0)] [1, 2, 3] [⟨7, 8, 35, pnt 0 0 false, fun _ => pnt X.1 X.2.1 X.2.2⟩] ?hs15 ?hv15 ?hf15
   case hs15 =>
    refine .cons (.o 3 0 (c9.gr g4) rfl rfl) ?_
    refine .cons (.g 27 0 (V14_8.gr g15) rfl) ?_
    refine .cons (.k _ fun yy vv hg hh => RtW.of_c (Rt.c (toQ h1 h2 (T := A2) (Q := X) trA2 _))) .nil
   case hv15 =>
    refine .cons (.mk (fun _ _ _ => rfl) (fun _ v b H F => by dsimp only at H ⊢; simp [go_sem, exI, H, F]) zPnt ⟨fkc, fkc, fkc, fkc, fkc, fkc, fkc, fka, fku, fkc, trivial⟩) .nil
   intro yw16 v12 hg h16 hV16
   simp only [FW, putFrom, Act.put, lqA, lqB, lqC, wvals, kW, lqD, lqE, Kw.c, pv, Kw.a, Kw.u]
   obtain ⟨⟨N16_7, V16_7⟩, -⟩ : (v11.heap.size ≤ (yw16 7 0).2 ∧ Vr v12 (yw16 7 0).2 (pnt X.1 X.2.1 X.2.2)) ∧ True := hV16
   clear h16
   replace g10 := g10.trans hg
   replace g11 := g11.trans hg
   replace g12 := g12.trans hg
   replace g13 := g13.trans hg
   replace g14 := g14.trans hg
   replace g15 := g15.trans hg
   replace g4 := g4.trans hg
   replace g5 := g5.trans hg
   replace g8 := g8.trans hg
   replace g9 := g9.trans hg
   have g16 := hg
   clear hg
   go_upto_region 17 with fail
   refine wp_wS [.c (.int .i64 0), .c (.int .i64 0), .c (.bool true), .c (.bool true), .c (.int .i64 0), .c (.int .i64 0), .c (.bool true), .c (.bool true), .c (.bool true), .c (.int .i64 0), .c (.int .i64 0), .c (.bool true), .c (.bool true), .c (.bool true), .c (.int .i64 0), .c (.int .i64 0), .c (.bool true), .c (.bool true), .c (.bool true), .c (.int .i64 0), .c (.int .i64 0), .c (.bool true), .c (.bool true), .c (.bool true), .c (.agg (pnt P.1 P.2.1 P.2.2)), .c (.agg (pnt P.1 P.2.1 P.2.2)), .c (.bool true), .c (.bool true), .c (.bool true), .c (.agg (pnt X.1 X.2.1 X.2.2)), .c (.agg (pnt X.1 X.2.1 X.2.2)), .c (.bool true), .c (.bool true), .c (.bool true)] [1, 5, 10, 15, 20, 24, 25, 26, 29, 30, 31] ?hs16 ?hf16
   case hs16 =>
    refine .cons (.k _ fun yy vv hg hh => RtW.of_c (Rt.same (num_any _ _))) ?_
    refine .cons (.k _ fun yy vv hg hh => RtW.of_c (Rt.same (num_any _ _))) ?_
    refine .cons (.k _ fun yy vv hg hh => RtW.of_c (Rt.same (num_any _ _))) ?_
    refine .cons (.k _ fun yy vv hg hh => RtW.of_c (Rt.same (num_any _ _))) ?_
    refine .cons (.k _ fun yy vv hg hh => RtW.of_c (Rt.same (num_any _ _))) ?_
    refine .cons (.g 35 0 (V12_7.gr g13) rfl) ?_
    refine .cons (.g 35 0 (V7_8.gr g8) rfl) ?_
    refine .cons (.s (.binOp .eql 35 (.const (.agg (pnt P.1 P.2.1 P.2.2))) (.const (.agg (pnt P.1 P.2.1 P.2.2))) 35) rfl fun vv hg => by simp [go_sem, exI, eqPn, eqN_self]) ?_
    refine .cons (.g 35 0 (V15_7.gr g16) rfl) ?_
    refine .cons (.g 35 0 V16_7 rfl) ?_
    refine .cons (.s (.binOp .eql 35 (.const (.agg (pnt X.1 X.2.1 X.2.2))) (.const (.agg (pnt X.1 X.2.1 X.2.2))) 35) rfl fun vv hg => by simp [go_sem, exI, eqPn, eqN_self]) .nil
   intro yw17 v13 hg h17
   simp only [FW, putFrom, Act.put, lqA, lqB, lqC, wvals, kW, lqD, lqE, Kw.c]
   clear h17
   replace g10 := g10.trans hg
   replace g11 := g11.trans hg
   replace g12 := g12.trans hg
   replace g13 := g13.trans hg
   replace g14 := g14.trans hg
   replace g15 := g15.trans hg
   replace g16 := g16.trans hg
   replace g4 := g4.trans hg
   replace g5 := g5.trans hg
   replace g8 := g8.trans hg
   replace g9 := g9.trans hg
   have g17 := hg
   clear hg
   replace G := G.trans g4
   replace c9 := c9.gr g4
   replace HQ := fun k => (HQ k).gr g4
   replace S4_6 := S4_6.gr g5
   replace V7_8 := V7_8.gr g8
   replace V8_8 := V8_8.gr g9
   replace V9_7 := V9_7.gr g10
   replace V10_7 := V10_7.gr g11
   replace V11_25 := V11_25.gr g12
   replace V12_7 := V12_7.gr g13
   replace V13_8 := V13_8.gr g14
   replace V14_8 := V14_8.gr g15
   replace V15_7 := V15_7.gr g16
   replace V16_7 := V16_7.gr g17
   clear g10 g11 g12 g13 g14 g15 g16 g17 g4 g5 g8 g9
   go_wp2_with fail
   go_ret
   exact ⟨rfl, G⟩
end
end
end Go.Proofs.YtempibiahmmppaaGreat
