import Derived.Test.YtempibiahmmppaaGreatXJJH
import Derived.Test.YtempibiahmmppaaGreatXJCC
namespace Go.Proofs.YtempibiahmmppaaGreat
open Go.RowKit
set_option maxRecDepth 100000
set_option maxHeartbeats 8000000
section
attribute [local go_sem ↓] loadNat_is loadArr_is loadWide_is loadArrW_is storeNat_is storeWide_is
attribute [local go_sem] loadNat loadArr loadWide loadArrW storeNat storeWide idxArr fold9 fold18 nw_size nw_elem pre_self pre_1 pre_2 pre_3 pre_4 pre_5 pre_6 pre_7 pre_8 pre_9 pre_10 pre_11 pre_12 pre_13 pre_14 pre_15 pre_16 pre_17 pre_18 pre_19 pre_20 pre_21 pre_22 pre_23 pre_24 pre_25 pre_26 pre_27 pre_28 pre_29 pre_30 pre_31 pre_32 pre_33 pre_34 pre_35 pre_36 pre_37 pre_38 pre_39 pre_40 gro_size gro_drew gro_drewN drew_gro drewN_gro gro_gro blk_gro frz_gro blk_drew frz_drew blk_drewN frz_drewN blk_alloc_at frz_alloc_at blk_alloc frz_alloc cell_gro frozen_gro cell_alloc_pre frozen_alloc_pre setCell_drewN alloc_drewN setBlk_drew setBlk_drewN setBlk_alloc_at setBlk_alloc setBlk_gro setCell_gro setCell_alloc_pre size_setBlk size_setCell
section
attribute [local go_sem] ppre_1 ppre_2 ppre_3 ppre_4 ppre_5 ppre_6
attribute [local go_sem ↓] bsl_is loadC_is storeC_is loadPt_is storePt_is zvPt_is buildPt_is loadPn_is storePn_is zvPn_is loadCu_is storeCu_is zvCu_is buildCu_is buildPn_is Go.wp_at_zero Go.wp_at_succ
attribute [local go_sem] loadC storeC0 storeCr crA_size loadPt storePt zvPt ptA_size loadPn storePn zvPn pnt_size loadCu storeCu zvCu cu_size buildCu0 buildPnI buildPn2 loadCP loadCA loadCB loadCN loadCG loadCX loadCY cu_P cu_A cu_B cu_N cu_G cu_X cu_Y frz_setBlk blk_setBlk setBlk_setBlk blk_other
attribute [local go_sem ↓] loadPj_is storePj_is zvPj_is buildPj_is
attribute [local go_sem] loadPj storePj zvPj buildPj0 buildPj1 buildPj2 buildPj3 loadJX loadJY loadJZ prj_size prj_X prj_Y prj_Z
theorem rowJ5 (x0 y0 z0 x1 y1 z1 x2 y2 z2 x3 y3 z3 x4 y4 z4 : Nat) (w : World) : (exI (.buildSlice 68 5 #[(0, .const (.agg (prj x0 y0 z0))), (1, .const (.agg (prj x1 y1 z1))), (2, .const (.agg (prj x2 y2 z2))), (3, .const (.agg (prj x3 y3 z3))), (4, .const (.agg (prj x4 y4 z4)))])).run Tryz.prog w = .ok (.value (.slice (some ⟨w.heap.size, 0, none⟩) 5 5)) (w.alloc (.cells (prj x0 y0 z0 ++ prj x1 y1 z1 ++ prj x2 y2 z2 ++ prj x3 y3 z3 ++ prj x4 y4 z4) 27)) := by kernel_rfl
theorem z_no {k x y : Nat} {Q : Q3} (h : TrQ k (x, y, 0) Q) : x = 0 := by
 obtain ⟨-, X, Y, Z, e, s⟩ := h
 simp only [Prod.mk.injEq] at e
 obtain ⟨rfl, -, e3⟩ := e
 haveI : NeZero (pN k) := ⟨fun e => by have := X.isLt; omega⟩
 have hz : Z = 0 := Fin.ext (e3.symm.trans (Fin.val_zero _).symm)
 revert s
 intro s
 have s' := s
 match decQ (pN k) Q, s' with
 | none, ⟨a, _, _⟩ => rw [a]; exact Fin.val_zero _
 | some (_, _), ⟨a, _, _⟩ => exact absurd hz a
theorem ljnone_any (id wh : Int) (n1 : Nat) (bn1 : n1 < 18446744073709551616) (w : World) : Cg 8 #[.int .i64 id, .int .u64 (n1 : Int), .int .i64 wh] w (.bool true) := by
 obtain ⟨u, hu, hu2, hk⟩ := idx_conv id
 have hbd := idx_bd id
 obtain ⟨k, hkk⟩ : ∃ k, idx id = k := ⟨_, rfl⟩
 rw [hkk] at hk hbd
 obtain ⟨h1, h2⟩ := hbd
 have u0 : (0 : Int) ≤ (u : Int) := by omega
 have hk2 : (1 : Int) + (u : Int) % 15 = (k : Int) := by omega
 have hk3 : IntKind.i64.wrap ((u : Int) % 15) = (u : Int) % 15 := by rw [IntKind.wrap_i64]; omega
 have hk4 : IntKind.u64.wrap ((u : Int) % 15) = (u : Int) % 15 := by rw [IntKind.wrap_u64]; omega
 have hk5 : (u : Int).tmod 15 = (u : Int) % 15 := by rw [Int.tmod_eq_emod_of_nonneg (by omega)]
 have k0 : (1 : Int) ≤ (k : Int) := by omega
 have k1 : (k : Int) ≤ 15 := by omega
 have hu3 : id % 18446744073709551616 = (u : Int) := by rw [← hu, IntKind.wrap_u64]
 clear hkk hk
 have HGR : Hid (∀ w, Calls Tryz.prog 10 #[.int .i64 (k : Int)] w (GetQ k w)) := fun w => getq_yes k h1 h2 w
 have HAW : Hid (∀ w, Cg 15 #[] w (.bool true)) := fun w => awake15_any w
 go_enter Tryz.func8, Tryz.ntmps8
 go_upto_region 4 with (first
   | (go_at_call 15; refine (HAW.out _).mono ?_; rintro e WA ⟨rfl, GA⟩)
   | (go_at_call 10; refine (HGR.out _).mono ?_; rintro e WB ⟨qc, rfl, HQ, GB⟩))
 obtain ⟨e9, he9⟩ : ∃ b, WB.heap.size = b := ⟨_, rfl⟩
 simp only [he9]
 refine gen_w (fun v => Gr w v ∧ Vr v e9 (crA (k : Int) (nN k) qc) ∧ ∀ j, Sl v (qc j).1 (nN k j)) ?_ ?_
 · subst he9
   exact ⟨(GA.trans GB).alloc _, Vr.new _ _ _, fun j => (HQ j).gr ((Gr.refl _).alloc _)⟩
 clear he9 GA GB HQ HAW HGR hu hu2 hk2 hk3 hk4 hk5 hu3 u0 k0 k1
 rintro v0 ⟨G, c9, HQ⟩
 have b1 : 1 < 18446744073709551616 := by decide
 obtain ⟨P, hP⟩ : ∃ Z, mlQ k 1 (gQ k) = Z := ⟨_, rfl⟩
 have oP : OnQ k P := hP ▸ mlQ_on h1 h2 _ (gQ_on h1 h2)
 have bP := b1
 obtain ⟨S1, hS1⟩ : ∃ Z, frT P = Z := ⟨_, rfl⟩
 have trS1 : TrQ k S1 P := hS1 ▸ frT_tr h1 h2 oP
 have lS : S1.1 < M ∧ S1.2.1 < M ∧ S1.2.2 < M := ⟨Nat.lt_trans trS1.lt.1 (pN_M k), Nat.lt_trans trS1.lt.2.1 (pN_M k), Nat.lt_trans trS1.lt.2.2 (pN_M k)⟩
 obtain ⟨r1, hr1⟩ : ∃ z, n1 % 200 = z := ⟨_, rfl⟩
 have q1 : (n1 : Int).tmod 200 = (r1 : Int) := by rw [Int.tmod_eq_emod_of_nonneg (by omega)]; omega
 obtain ⟨a1, ha1⟩ : ∃ z, 1 + r1 = z := ⟨_, rfl⟩
 have q2 : IntKind.u64.wrap (1 + (r1 : Int)) = (a1 : Int) := by rw [IntKind.wrap_u64]; omega
 have la1 : a1 < 18446744073709551616 := by omega
 obtain ⟨u2, hu, hu2, -⟩ := idx_conv wh
 obtain ⟨r2, hr2⟩ : ∃ z, u2 % 5 = z := ⟨_, rfl⟩
 have q3 : (u2 : Int).tmod 5 = (r2 : Int) := by rw [Int.tmod_eq_emod_of_nonneg (by omega)]; omega
 have r25 : r2 < 5 := by omega
 have r20 : (0 : Int) ≤ (r2 : Int) := by omega
 have r21 : (r2 : Int) < 5 := by omega
 obtain ⟨T, lT, nT, hTe⟩ : ∃ T : T3, (T.1 < M ∧ T.2.1 < M ∧ T.2.2 < M) ∧ (∀ Q, ¬ TrQ k T Q) ∧ (prj 0 0 0 ++ prj a1 1 0 ++ prj (pN k) S1.2.1 S1.2.2 ++ prj S1.1 (pN k) S1.2.2 ++ prj S1.1 S1.2.1 (pN k)).extract (r2 * 27) (r2 * 27 + 27) = pjT T := by
   have hp := pN_M k
   have l0 : 0 < M := Nat.lt_of_le_of_lt (Nat.zero_le _) hp
   obtain rfl | rfl | rfl | rfl | rfl : r2 = 0 ∨ r2 = 1 ∨ r2 = 2 ∨ r2 = 3 ∨ r2 = 4 := by omega
   · exact ⟨(0, 0, 0), ⟨l0, l0, l0⟩, zero_no h1 h2, by kernel_rfl⟩
   · exact ⟨(a1, 1, 0), ⟨lt_M _ la1, lt_M 1 (by decide), l0⟩, fun Q h => by have := z_no h; omega, by kernel_rfl⟩
   · exact ⟨(pN k, S1.2.1, S1.2.2), ⟨hp, lS.2.1, lS.2.2⟩, fun Q h => Nat.lt_irrefl _ h.lt.1, by kernel_rfl⟩
   · exact ⟨(S1.1, pN k, S1.2.2), ⟨lS.1, hp, lS.2.2⟩, fun Q h => Nat.lt_irrefl _ h.lt.2.1, by kernel_rfl⟩
   · exact ⟨(S1.1, S1.2.1, pN k), ⟨lS.1, lS.2.1, hp⟩, fun Q h => Nat.lt_irrefl _ h.lt.2.2, by kernel_rfl⟩
 have ldT : ∀ (v : World) (b : Nat), blk v b = prj 0 0 0 ++ prj a1 1 0 ++ prj (pN k) S1.2.1 S1.2.2 ++ prj S1.1 (pN k) S1.2.2 ++ prj S1.1 S1.2.1 (pN k) → (loadS 27 (.pointer (some ⟨b, r2 * 27, none⟩))).run Tryz.prog v = .ok (.agg (prj T.1 T.2.1 T.2.2)) v := fun v b hb => by
   rw [loadPartJ v b (r2 * 27) (by rw [hb]; simp [prj_size]; omega), hb, hTe]
 clear hTe hr2 hu2 hr1 ha1
 refine wp_v false [.c (.agg (crA (k : Int) (nN k) qc)), .c (.tuple #[.agg (prj S1.1 S1.2.1 S1.2.2), .agg (pnt P.1 P.2.1 P.2.2), .bool true]), .c (.tuple #[.agg (prj S1.1 S1.2.1 S1.2.2), .agg (pnt P.1 P.2.1 P.2.2), .bool true]), .c (.agg (prj S1.1 S1.2.1 S1.2.2)), .c (.agg (pnt P.1 P.2.1 P.2.2)), .c (.bool true), .a, .a, .u, .u, .c (.bool true)] [0, 1] [⟨6, 8, 27, prj 0 0 0, fun _ => prj S1.1 S1.2.1 S1.2.2⟩, ⟨7, 9, 35, pnt 0 0 false, fun _ => pnt P.1 P.2.1 P.2.2⟩] ?hs1 ?hv1 ?hf1
 case hs1 =>
  refine .cons (.g 31 0 c9 rfl) ?_
  refine .cons (.k _ fun yy vv hg hh => RtW.of_c (Rt.c (dr_is h1 h2 bP hP hS1 qc _ (fun j => (HQ j).gr hg)))) .nil
 case hv1 =>
  refine .cons (.mk (fun _ _ _ => rfl) (fun _ v b H F => by dsimp only at H ⊢; simp [go_sem, exI, H, F]) zPj ⟨fkc, fkc, fkc, fkc, fkc, fkc, fka, fka, fku, fku, fkc, trivial⟩) ?_
  refine .cons (.mk (fun _ _ _ => rfl) (fun _ v b H F => by dsimp only at H ⊢; simp [go_sem, exI, H, F]) zPnt ⟨fkc, fkc, fkc, fkc, fkc, fkc, fka, fka, fku, fku, fkc, trivial⟩) .nil
 intro yw4 v1 hg h4 hV4
 simp only [FW, putFrom, Act.put, lqA, lqB, lqC, wvals, kW, lqD, lqE, Kw.c, Kw.a, Kw.u]
 obtain ⟨⟨N4_6, V4_6⟩, ⟨N4_7, V4_7⟩, -⟩ : (v0.heap.size ≤ (yw4 6 0).2 ∧ Vr v1 (yw4 6 0).2 (prj S1.1 S1.2.1 S1.2.2)) ∧ (v0.heap.size ≤ (yw4 7 0).2 ∧ Vr v1 (yw4 7 0).2 (pnt P.1 P.2.1 P.2.2)) ∧ True := hV4
 clear h4
 have g4 := hg
 clear hg
 go_upto_region 5 with fail
 refine wp_wS [.c (.bool true), .c (.bool false), .c (.bool false), .c (.bool true), .c (.bool false), .c (.bool false)] [] ?hs2 ?hf2
 case hs2 => exact .nil
 intro yw5 v2 hg h5
 simp only [FW, putFrom, Act.put, lqA, lqB, lqC, wvals, kW, lqD, lqE, Kw.c]
 clear h5
 replace g4 := g4.trans hg
 have g5 := hg
 clear hg
 go_upto_region 7 with fail
 refine wp_w [.c (.agg (prj 0 0 0)), .c (.int .u64 (n1 : Int)), .c (.int .u64 (r1 : Int)), .c (.int .u64 (a1 : Int)), .c (.agg (nw 9 a1)), .c (.agg (nw 9 1)), .c (.agg (prj a1 1 0)), .c (pv e9 1), .c (.slice (qc 0).1 (dl (pN k)) (qc 0).2), .c (.agg (nw 9 (pN k))), .c (pv ((yw4 6 0).2) 9), .c (.agg (nw 9 S1.2.1)), .c (pv ((yw4 6 0).2) 18), .c (.agg (nw 9 S1.2.2)), .c (.agg (prj (pN k) S1.2.1 S1.2.2)), .c (pv ((yw4 6 0).2) 0), .c (.agg (nw 9 S1.1)), .c (pv e9 1), .c (.slice (qc 0).1 (dl (pN k)) (qc 0).2), .c (.agg (nw 9 (pN k))), .c (pv ((yw4 6 0).2) 18), .c (.agg (nw 9 S1.2.2)), .c (.agg (prj S1.1 (pN k) S1.2.2)), .c (pv ((yw4 6 0).2) 0), .c (.agg (nw 9 S1.1)), .c (pv ((yw4 6 0).2) 9), .c (.agg (nw 9 S1.2.1)), .c (pv e9 1), .c (.slice (qc 0).1 (dl (pN k)) (qc 0).2), .c (.agg (nw 9 (pN k))), .c (.agg (prj S1.1 S1.2.1 (pN k))), .r 5 (prj 0 0 0 ++ prj a1 1 0 ++ prj (pN k) S1.2.1 S1.2.2 ++ prj S1.1 (pN k) S1.2.2 ++ prj S1.1 S1.2.1 (pN k)), .r 5 (prj 0 0 0 ++ prj a1 1 0 ++ prj (pN k) S1.2.1 S1.2.2 ++ prj S1.1 (pN k) S1.2.2 ++ prj S1.1 S1.2.1 (pN k))] [2, 3, 4, 5, 8, 9, 11, 13, 16, 18, 19, 21, 24, 26, 28, 29, 31, 32] ?hs3 ?hf3
 case hs3 =>
  refine .cons (.s (.binOp .rem 22 (.const (.int .u64 (n1 : Int))) (.const (.int .u64 200)) 22) rfl fun vv hg => by simp [go_sem, exI, q1]) ?_
  refine .cons (.s (.binOp .add 22 (.const (.int .u64 1)) (.const (.int .u64 (r1 : Int))) 22) rfl fun vv hg => by simp [go_sem, exI, q2]) ?_
  refine .cons (.k _ fun yy vv hg hh => RtW.of_c (Rt.c (one_any a1 la1 _))) ?_
  refine .cons (.k _ fun yy vv hg hh => RtW.of_c (Rt.c (one_any 1 (by decide) _))) ?_
  refine .cons (.o 29 1 (c9.gr g4) rfl rfl) ?_
  refine .cons (.k (fun yy => #[.slice (qc 0).1 (dl (pN k)) (qc 0).2]) fun yy vv hg hh => RtW.of_c (nt_any ((HQ 0).gr (g4.trans hg)))) ?_
  refine .cons (.g 25 9 (V4_6.gr g5) rfl) ?_
  refine .cons (.g 25 18 (V4_6.gr g5) rfl) ?_
  refine .cons (.g 25 0 (V4_6.gr g5) rfl) ?_
  refine .cons (.o 29 1 (c9.gr g4) rfl rfl) ?_
  refine .cons (.k (fun yy => #[.slice (qc 0).1 (dl (pN k)) (qc 0).2]) fun yy vv hg hh => RtW.of_c (nt_any ((HQ 0).gr (g4.trans hg)))) ?_
  refine .cons (.g 25 18 (V4_6.gr g5) rfl) ?_
  refine .cons (.g 25 0 (V4_6.gr g5) rfl) ?_
  refine .cons (.g 25 9 (V4_6.gr g5) rfl) ?_
  refine .cons (.o 29 1 (c9.gr g4) rfl rfl) ?_
  refine .cons (.k (fun yy => #[.slice (qc 0).1 (dl (pN k)) (qc 0).2]) fun yy vv hg hh => RtW.of_c (nt_any ((HQ 0).gr (g4.trans hg)))) ?_
  refine .cons (.r (.buildSlice 68 5 #[(0, .const (.agg (prj 0 0 0))), (1, .const (.agg (prj a1 1 0))), (2, .const (.agg (prj (pN k) S1.2.1 S1.2.2))), (3, .const (.agg (prj S1.1 (pN k) S1.2.2))), (4, .const (.agg (prj S1.1 S1.2.1 (pN k))))]) rfl (rowJ5 _ _ _ _ _ _ _ _ _ _ _ _ _ _ _)) ?_
  refine .cons (.m 31) .nil
 intro yw7 v3 hg h7
 simp only [FW, putFrom, Act.put, lqA, lqB, lqC, wvals, kW, lqD, lqE, Kw.c, pv, Kw.r]
 have R7_32 : Vr v3 (yw7 32 0).2 (prj 0 0 0 ++ prj a1 1 0 ++ prj (pN k) S1.2.1 S1.2.2 ++ prj S1.1 (pN k) S1.2.2 ++ prj S1.1 S1.2.1 (pN k)) := h7 32
 clear h7
 replace g4 := g4.trans hg
 replace g5 := g5.trans hg
 clear hg
 go_upto_region 8 with fail
 refine wp_v false [.c (.slice (some ⟨(yw7 32 0).2, 0, none⟩) 5 5), .c (.int .i64 wh), .c (.int .u64 (u2 : Int)), .c (.int .u64 (r2 : Int)), .c (pv ((yw7 32 0).2) (r2 * 27)), .c (.agg (prj T.1 T.2.1 T.2.2)), .a, .u] [2, 3, 4, 5] [⟨6, 7, 27, prj 0 0 0, fun _ => prj T.1 T.2.1 T.2.2⟩] ?hs4 ?hv4 ?hf4
 case hs4 =>
  refine .cons (.s (.convert 3 55 (.const (.int .i64 wh))) rfl fun vv hg => by simp [go_sem, exI, hu]) ?_
  refine .cons (.s (.binOp .rem 55 (.const (.int .u64 (u2 : Int))) (.const (.int .u64 5)) 55) rfl fun vv hg => by simp [go_sem, exI, q3]) ?_
  refine .cons (.s (.indexAddr 68 (.const (.slice (some ⟨(yw7 32 0).2, 0, none⟩) 5 5)) (.const (.int .u64 (r2 : Int)))) rfl fun vv hg => by simp [go_sem, exI, r20, r21]) ?_
  refine .cons (.s (.load 27 (.const (.pointer (some ⟨(yw7 32 0).2, r2 * 27, none⟩)))) rfl fun vv hg => by have HR7_32 := (R7_32.gr hg).h; simp [go_sem, exI, ldT _ _ HR7_32]) .nil
 case hv4 =>
  refine .cons (.mk (fun _ _ _ => rfl) (fun _ v b H F => by dsimp only at H ⊢; simp [go_sem, exI, H, F]) zPj ⟨fkc, fkc, fkc, fkc, fkc, fkc, fka, fku, trivial⟩) .nil
 intro yw8 v4 hg h8 hV8
 simp only [FW, putFrom, Act.put, lqA, lqB, lqC, wvals, kW, lqD, lqE, Kw.c, pv, Kw.a, Kw.u]
 obtain ⟨⟨N8_6, V8_6⟩, -⟩ : (v3.heap.size ≤ (yw8 6 0).2 ∧ Vr v4 (yw8 6 0).2 (prj T.1 T.2.1 T.2.2)) ∧ True := hV8
 clear h8
 replace g4 := g4.trans hg
 replace g5 := g5.trans hg
 have g8 := hg
 clear hg
 go_upto_region 9 with fail
 refine wp_v false [.c (pv e9 0), .c (.int .i64 (k : Int)), .c (.agg (prj T.1 T.2.1 T.2.2)), .c (.tuple #[.agg (pnt 0 0 false), .int .i64 1501]), .c (.tuple #[.agg (pnt 0 0 false), .int .i64 1501]), .c (.agg (pnt 0 0 false)), .c (.int .i64 1501), .a, .u, .c (.int .i64 1501)] [1, 2, 3] [⟨7, 8, 35, pnt 0 0 false, fun _ => pnt 0 0 false⟩] ?hs5 ?hv5 ?hf5
 case hs5 =>
  refine .cons (.o 3 0 (c9.gr g4) rfl rfl) ?_
  refine .cons (.g 27 0 V8_6 rfl) ?_
  refine .cons (.k _ fun yy vv hg hh => RtW.of_c (Rt.c (to_off h1 h2 lT nT _))) .nil
 case hv5 =>
  refine .cons (.mk (fun _ _ _ => rfl) (fun _ v b H F => by dsimp only at H ⊢; simp [go_sem, exI, H, F]) zPnt ⟨fkc, fkc, fkc, fkc, fkc, fkc, fkc, fka, fku, fkc, trivial⟩) .nil
 intro yw9 v5 hg h9 hV9
 simp only [FW, putFrom, Act.put, lqA, lqB, lqC, wvals, kW, lqD, lqE, Kw.c, pv, Kw.a, Kw.u]
 obtain ⟨⟨N9_7, V9_7⟩, -⟩ : (v4.heap.size ≤ (yw9 7 0).2 ∧ Vr v5 (yw9 7 0).2 (pnt 0 0 false)) ∧ True := hV9
 clear h9
 replace g4 := g4.trans hg
 replace g5 := g5.trans hg
 replace g8 := g8.trans hg
 have g9 := hg
 clear hg
 go_upto_region 10 with fail
 refine wp_v false [.c (pv e9 0), .c (.int .i64 (k : Int)), .c (.agg (prj S1.1 S1.2.1 S1.2.2)), .c (.agg (prj T.1 T.2.1 T.2.2)), .c (.tuple #[.agg (prj 0 0 0), .int .i64 1501]), .c (.tuple #[.agg (prj 0 0 0), .int .i64 1501]), .c (.agg (prj 0 0 0)), .c (.int .i64 1501), .a, .u, .c (.int .i64 1501)] [1, 2, 3, 4] [⟨8, 9, 27, prj 0 0 0, fun _ => prj 0 0 0⟩] ?hs6 ?hv6 ?hf6
 case hs6 =>
  refine .cons (.o 3 0 (c9.gr g4) rfl rfl) ?_
  refine .cons (.g 27 0 (V4_6.gr g5) rfl) ?_
  refine .cons (.g 27 0 (V8_6.gr g9) rfl) ?_
  refine .cons (.k _ fun yy vv hg hh => RtW.of_c (Rt.c (jadd_off h1 h2 lS lT (.inr nT) _))) .nil
 case hv6 =>
  refine .cons (.mk (fun _ _ _ => rfl) (fun _ v b H F => by dsimp only at H ⊢; simp [go_sem, exI, H, F]) zPj ⟨fkc, fkc, fkc, fkc, fkc, fkc, fkc, fkc, fka, fku, fkc, trivial⟩) .nil
 intro yw10 v6 hg h10 hV10
 simp only [FW, putFrom, Act.put, lqA, lqB, lqC, wvals, kW, lqD, lqE, Kw.c, pv, Kw.a, Kw.u]
 obtain ⟨⟨N10_8, V10_8⟩, -⟩ : (v5.heap.size ≤ (yw10 8 0).2 ∧ Vr v6 (yw10 8 0).2 (prj 0 0 0)) ∧ True := hV10
 clear h10
 replace g4 := g4.trans hg
 replace g5 := g5.trans hg
 replace g8 := g8.trans hg
 replace g9 := g9.trans hg
 have g10 := hg
 clear hg
 go_upto_region 11 with fail
 refine wp_v false [.c (pv e9 0), .c (.int .i64 (k : Int)), .c (.agg (prj T.1 T.2.1 T.2.2)), .c (.agg (prj S1.1 S1.2.1 S1.2.2)), .c (.tuple #[.agg (prj 0 0 0), .int .i64 1501]), .c (.tuple #[.agg (prj 0 0 0), .int .i64 1501]), .c (.agg (prj 0 0 0)), .c (.int .i64 1501), .a, .u, .c (.int .i64 1501)] [1, 2, 3, 4] [⟨8, 9, 27, prj 0 0 0, fun _ => prj 0 0 0⟩] ?hs7 ?hv7 ?hf7
 case hs7 =>
  refine .cons (.o 3 0 (c9.gr g4) rfl rfl) ?_
  refine .cons (.g 27 0 (V8_6.gr g9) rfl) ?_
  refine .cons (.g 27 0 (V4_6.gr g5) rfl) ?_
  refine .cons (.k _ fun yy vv hg hh => RtW.of_c (Rt.c (jadd_off h1 h2 lT lS (.inl nT) _))) .nil
 case hv7 =>
  refine .cons (.mk (fun _ _ _ => rfl) (fun _ v b H F => by dsimp only at H ⊢; simp [go_sem, exI, H, F]) zPj ⟨fkc, fkc, fkc, fkc, fkc, fkc, fkc, fkc, fka, fku, fkc, trivial⟩) .nil
 intro yw11 v7 hg h11 hV11
 simp only [FW, putFrom, Act.put, lqA, lqB, lqC, wvals, kW, lqD, lqE, Kw.c, pv, Kw.a, Kw.u]
 obtain ⟨⟨N11_8, V11_8⟩, -⟩ : (v6.heap.size ≤ (yw11 8 0).2 ∧ Vr v7 (yw11 8 0).2 (prj 0 0 0)) ∧ True := hV11
 clear h11
 replace g10 := g10.trans hg
 replace g4 := g4.trans hg
 replace g5 := g5.trans hg
 replace g8 := g8.trans hg
 replace g9 := g9.trans hg
 have g11 := hg
 clear hg
 go_upto_region 12 with fail
 refine wp_v false [.c (pv e9 0), .c (.int .i64 (k : Int)), .c (.agg (prj T.1 T.2.1 T.2.2)), .c (.tuple #[.agg (prj 0 0 0), .int .i64 1501]), .c (.tuple #[.agg (prj 0 0 0), .int .i64 1501]), .c (.agg (prj 0 0 0)), .c (.int .i64 1501), .a, .u, .c (.int .i64 1501)] [1, 2, 3] [⟨7, 8, 27, prj 0 0 0, fun _ => prj 0 0 0⟩] ?hs8 ?hv8 ?hf8
 case hs8 =>
  refine .cons (.o 3 0 (c9.gr g4) rfl rfl) ?_
  refine .cons (.g 27 0 (V8_6.gr g9) rfl) ?_
  refine .cons (.k _ fun yy vv hg hh => RtW.of_c (Rt.c (jdbl_off h1 h2 lT nT _))) .nil
 case hv8 =>
  refine .cons (.mk (fun _ _ _ => rfl) (fun _ v b H F => by dsimp only at H ⊢; simp [go_sem, exI, H, F]) zPj ⟨fkc, fkc, fkc, fkc, fkc, fkc, fkc, fka, fku, fkc, trivial⟩) .nil
 intro yw12 v8 hg h12 hV12
 simp only [FW, putFrom, Act.put, lqA, lqB, lqC, wvals, kW, lqD, lqE, Kw.c, pv, Kw.a, Kw.u]
 obtain ⟨⟨N12_7, V12_7⟩, -⟩ : (v7.heap.size ≤ (yw12 7 0).2 ∧ Vr v8 (yw12 7 0).2 (prj 0 0 0)) ∧ True := hV12
 clear h12
 replace g10 := g10.trans hg
 replace g11 := g11.trans hg
 replace g4 := g4.trans hg
 replace g5 := g5.trans hg
 replace g8 := g8.trans hg
 replace g9 := g9.trans hg
 have g12 := hg
 clear hg
 go_upto_region 13 with fail
 refine wp_wS [.c (.int .i64 1501), .c (.int .i64 1501), .c (.bool true), .c (.bool true), .c (.int .i64 1501), .c (.int .i64 1501), .c (.bool true), .c (.bool true), .c (.bool true), .c (.int .i64 1501), .c (.int .i64 1501), .c (.bool true), .c (.bool true), .c (.bool true), .c (.int .i64 1501), .c (.int .i64 1501), .c (.bool true), .c (.bool true), .c (.bool true)] [1, 5, 10, 15] ?hs9 ?hf9
 case hs9 =>
  refine .cons (.k _ fun yy vv hg hh => RtW.of_c (Rt.same (num_any _ _))) ?_
  refine .cons (.k _ fun yy vv hg hh => RtW.of_c (Rt.same (num_any _ _))) ?_
  refine .cons (.k _ fun yy vv hg hh => RtW.of_c (Rt.same (num_any _ _))) ?_
  refine .cons (.k _ fun yy vv hg hh => RtW.of_c (Rt.same (num_any _ _))) .nil
 intro yw13 v9 hg h13
 simp only [FW, putFrom, Act.put, lqA, lqB, lqC, wvals, kW, lqD, lqE, Kw.c]
 clear h13
 replace g10 := g10.trans hg
 replace g11 := g11.trans hg
 replace g12 := g12.trans hg
 replace g4 := g4.trans hg
 replace g5 := g5.trans hg
 replace g8 := g8.trans hg
 replace g9 := g9.trans hg
 have g13 := hg
 clear hg
 replace G := G.trans g4
 replace c9 := c9.gr g4
 replace HQ := fun k => (HQ k).gr g4
 replace V4_6 := V4_6.gr g5
 replace V4_7 := V4_7.gr g5
 replace R7_32 := R7_32.gr g8
 replace V8_6 := V8_6.gr g9
 replace V9_7 := V9_7.gr g10
 replace V10_8 := V10_8.gr g11
 replace V11_8 := V11_8.gr g12
 replace V12_7 := V12_7.gr g13
 clear g10 g11 g12 g13 g4 g5 g8 g9
 go_wp2_with fail
 go_ret
 exact ⟨rfl, G⟩
end
end
end Go.Proofs.YtempibiahmmppaaGreat
