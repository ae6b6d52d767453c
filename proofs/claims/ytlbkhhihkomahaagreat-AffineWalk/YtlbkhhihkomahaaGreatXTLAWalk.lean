import Derived.Test.YtlbkhhihkomahaaGreatXTAS
import Derived.Test.YtlbkhhihkomahaaGreatXTAV
import Derived.Test.YtlbkhhihkomahaaGreatXTCT
import Derived.Test.YtlbkhhihkomahaaGreatXTRGet
namespace Go.Proofs.YtlbkhhihkomahaaGreat
open Go.RowKit
attribute [local go_sem ↓] loadNat_is loadArr_is loadWide_is loadArrW_is storeNat_is storeWide_is
attribute [local go_sem] loadNat loadArr loadWide loadArrW storeNat storeWide idxArr fold9 fold18 nw_size nw_elem pre_self pre_1 pre_2 pre_3 pre_4 pre_5 pre_6 pre_7 pre_8 pre_9 pre_10 pre_11 pre_12 pre_13 pre_14 pre_15 pre_16 pre_17 pre_18 pre_19 pre_20 pre_21 pre_22 pre_23 pre_24 pre_25 pre_26 pre_27 pre_28 pre_29 pre_30 pre_31 pre_32 pre_33 pre_34 pre_35 pre_36 pre_37 pre_38 pre_39 pre_40 gro_size gro_drew gro_drewN drew_gro drewN_gro gro_gro blk_gro frz_gro blk_drew frz_drew blk_drewN frz_drewN blk_alloc_at frz_alloc_at blk_alloc frz_alloc cell_gro frozen_gro cell_alloc_pre frozen_alloc_pre setCell_drewN alloc_drewN setBlk_drew setBlk_drewN setBlk_alloc_at setBlk_alloc setBlk_gro setCell_gro setCell_alloc_pre size_setBlk size_setCell
attribute [local go_sem] ppre_1 ppre_2 ppre_3 ppre_4 ppre_5 ppre_6
attribute [local go_sem ↓] bsl_is loadC_is storeC_is loadPt_is storePt_is zvPt_is buildPt_is loadPn_is storePn_is zvPn_is loadCu_is storeCu_is zvCu_is buildCu_is buildPn_is Go.wp_at_zero Go.wp_at_succ
attribute [local go_sem] loadC storeC0 storeCr crA_size loadPt storePt zvPt ptA_size loadPn storePn zvPn pnt_size loadCu storeCu zvCu cu_size buildCu0 buildPnI buildPn2 loadCP loadCA loadCB loadCN loadCG loadCX loadCY cu_P cu_A cu_B cu_N cu_G cu_X cu_Y frz_setBlk blk_setBlk setBlk_setBlk blk_other
attribute [local go_sem ↓] mkB_is
attribute [local go_sem] mkB_run eqPn eqN_self setCell_setBlk
set_option maxRecDepth 100000 in
set_option maxHeartbeats 3200000 in
theorem lawalk_any (id : Int) (w : World) : Calls Tryz.prog 5 #[.int .i64 id] w fun e w' => e = .returned (.bool true) ∧ Gr w w' := by
  obtain ⟨u, hu, hu2, hk⟩ := idxT_conv id
  have hbd := idxT_bd id
  obtain ⟨k, hkk⟩ : ∃ k, idxT id = k := ⟨_, rfl⟩
  rw [hkk] at hk hbd
  obtain ⟨h13, h2⟩ := hbd
  have h1 : 1 ≤ k := by omega
  have u0 : (0 : Int) ≤ (u : Int) := by omega
  have hk2 : (13 : Int) + (u : Int) % 3 = (k : Int) := by omega
  have hk3 : IntKind.i64.wrap ((u : Int) % 3) = (u : Int) % 3 := by rw [IntKind.wrap_i64]; omega
  have hk4 : IntKind.u64.wrap ((u : Int) % 3) = (u : Int) % 3 := by rw [IntKind.wrap_u64]; omega
  have hk5 : (u : Int).tmod 3 = (u : Int) % 3 := by rw [Int.tmod_eq_emod_of_nonneg (by omega)]
  have k0 : (1 : Int) ≤ (k : Int) := by omega
  have k1 : (k : Int) ≤ 15 := by omega
  have hu3 : id % 18446744073709551616 = (u : Int) := by rw [← hu, IntKind.wrap_u64]
  clear hkk hk
  have HG : Hid (∀ w, Calls Tryz.prog 25 #[.int .i64 (k : Int)] w fun e w' => e = .returned (.tuple #[.agg (cu (k : Int) (pN k) (aN k) (bN k) (oN k) (xN k) (yN k) (bl (oN k)) (szN k) (lgN k)), .int .i64 0]) ∧ Gr w w') := fun w => get13_yes k h1 h2 w
  have HAW : Hid (∀ w, Calls Tryz.prog 16 #[] w fun e w' => e = .returned (.bool true) ∧ Gr w w') := fun w => awake14_any w
  obtain ⟨N, hN⟩ : ∃ m, oN k = m := ⟨_, rfl⟩
  have htb := tinyP k h13 h2
  rw [hN] at htb
  have hcN : (cu (k : Int) (pN k) (aN k) (bN k) (oN k) (xN k) (yN k) (bl (oN k)) (szN k) (lgN k))[28]? = some (.int .u64 (N : Int)) := by rw [cu_28, hN, wd_small _ (by omega)]
  have N1 : (200 : Int) ≤ (N : Int) := by omega
  have N2 : (N : Int) ≤ 255 := by omega
  have HNN : Hid (Unit → oN k = N) := fun _ => hN
  have HCN : Hid (Unit → (cu (k : Int) (pN k) (aN k) (bN k) (oN k) (xN k) (yN k) (bl (oN k)) (szN k) (lgN k))[28]? = some (.int .u64 (N : Int))) := fun _ => hcN
  have N3 : ¬ (N : Int) > 255 := by omega
  have N4 : ¬ (N : Int) < 2 := by omega
  clear hN hcN htb
  go_enter Tryz.func5, Tryz.ntmps5
  go_upto_region 5 with (first
    | (go_at_call 16; refine (HAW.out _).mono ?_; rintro e WA ⟨rfl, GA⟩)
    | (go_at_call 25; refine (HG.out _).mono ?_; rintro e WB ⟨rfl, GB⟩))
  obtain ⟨e4, he4⟩ : ∃ b, WB.heap.size = b := ⟨_, rfl⟩
  simp only [he4]
  refine gen_w (fun v => Gr w v ∧ Vr v e4 (cu (k : Int) (pN k) (aN k) (bN k) (oN k) (xN k) (yN k) (bl (oN k)) (szN k) (lgN k)) ∧ w.heap.size ≤ e4) ?_ ?_
  · subst he4
    exact ⟨(GA.trans GB).alloc _, Vr.new _ _ _, (GA.trans GB).below.size⟩
  clear he4 GA GB HAW HG hu hu2 hk2 hk3 hk4 hk5 hu3 u0 k0 k1
  rintro v0 ⟨G, c4, he4⟩
  have K28 : v0.cell? ⟨e4, 28, none⟩ = some (.int .u64 (N : Int)) := by rw [c4.cell]; exact HCN.out ()
  have ⟨hh4, ff4, pp4⟩ := c4
  go_upto_region 10 with (go_at_call 15; refine (num_any _ _).mono ?_; rintro e w' ⟨rfl, hw⟩; replace hw := hw.symm; subst hw)
  clear K28 HCN hh4 ff4 pp4
  obtain ⟨e7, he7⟩ : ∃ b, v0.heap.size = b := ⟨_, rfl⟩
  simp only [he7]
  refine gen_w (fun wr => Hid (Gr w wr ∧ Vr wr e4 (cu (k : Int) (pN k) (aN k) (bN k) (oN k) (xN k) (yN k) (bl (oN k)) (szN k) (lgN k)) ∧ Vr wr e7 (pnt (xN k) (yN k) false) ∧ Vr wr (e7 + 1) (blN 65536))) ?_ ?_
  · subst he7
    have g1 : Gr v0 (v0.alloc (.cells (pnt (xN k) (yN k) false) 27)) := (Gr.refl _).alloc _
    have g2 : Gr (v0.alloc (.cells (pnt (xN k) (yN k) false) 27)) ((v0.alloc (.cells (pnt (xN k) (yN k) false) 27)).alloc (.cells (blN 65536) 4)) := (Gr.refl _).alloc _
    have hn := Vr.new (v0.alloc (.cells (pnt (xN k) (yN k) false) 27)) (blN 65536) 4
    rw [show (v0.alloc (.cells (pnt (xN k) (yN k) false) 27)).heap.size = v0.heap.size + 1 by simp] at hn
    exact ⟨(G.trans g1).trans g2, (c4.gr g1).gr g2, (Vr.new v0 _ _).gr g2, hn⟩
  have n47 : e4 < e7 := by have : e4 + 1 ≤ v0.heap.size := c4.p; omega
  clear G c4 he7
  intro v1 HV
  obtain ⟨e8, he8⟩ : ∃ b, e7 + 1 = b := ⟨_, rfl⟩
  rw [he8] at HV ⊢
  go_wp2_with fail
  go_loopw [9] (fun ia wr => ∃ i : Nat, ia = .int .i64 (i : Int) ∧ Hid (Unit → 1 ≤ i ∧ i ≤ N) ∧ Hid (Gr w wr ∧ Vr wr e4 (cu (k : Int) (pN k) (aN k) (bN k) (oN k) (xN k) (yN k) (bl (oN k)) (szN k) (lgN k)) ∧ Vr wr e7 (pnt (mlQ k i (gQ k)).1 (mlQ k i (gQ k)).2.1 (mlQ k i (gQ k)).2.2) ∧ ∃ c f, Vr wr e8 c ∧ Bs c f ∧ ∀ a, f a = true → ∃ j, 1 ≤ j ∧ j < i ∧ atQ (mlQ k j (gQ k)) = a)) (fun ia _ => ((N : Int) - intOf ia).toNat)
  case atStart =>
    refine ⟨1, rfl, fun _ => ⟨Nat.le_refl _, by omega⟩, ?_⟩
    rw [mlQ_one h1 h2 (gQ_on h1 h2)]
    obtain ⟨a1, a2, a3, a4⟩ := HV.out
    exact ⟨a1, a2, a3, (blN 65536), _, a4, blN_Bs, fun a h => by cases h⟩
  case round =>
    clear HV
    obtain ⟨i, rfl, HI, HR⟩ := hrel
    have i0 : (0 : Int) ≤ (i : Int) := by omega
    by_cases hlt : i < N
    · have i1 : (i : Int) < (N : Int) := by omega
      have hi1 : 1 ≤ i := (HI.out ()).1
      obtain ⟨P, hP⟩ : ∃ P, mlQ k i (gQ k) = P := ⟨_, rfl⟩
      have oP : OnQ k P := hP ▸ mlQ_on h1 h2 _ (gQ_on h1 h2)
      have fP : P.2.2 = false := hP ▸ walk_ne h13 h2 i hi1 (by rw [HNN.out ()]; omega)
      rw [hP] at HR
      obtain ⟨G, c4, c7, c, f, c8, hB, hf⟩ := HR.out
      have hbd := fin_bd h13 h2 oP
      have hPP : ∀ j, 1 ≤ j → j < i → atQ (mlQ k j (gQ k)) ≠ atQ P := fun j hj1 hj2 e => by
        have e2 := atQ_inj h13 h2 (mlQ_on h1 h2 j (gQ_on h1 h2)) oP (walk_ne h13 h2 j hj1 (by rw [HNN.out ()]; omega)) fP e
        rw [← hP] at e2
        exact walk_inj h13 h2 j i hj2 (by rw [HNN.out ()]; omega) e2
      obtain ⟨R, hR⟩ : ∃ R, mlQ k (i + 1) (gQ k) = R := ⟨_, rfl⟩
      have hPR : plQ k P (gQ k) = R := by rw [← hR, mlQ_add h1 h2 _ _ (gQ_on h1 h2), hP, mlQ_one h1 h2 (gQ_on h1 h2)]
      obtain ⟨px, py, pf⟩ := P
      obtain rfl : pf = false := fP
      simp only [atQ] at hbd hPP
      obtain ⟨at0, hat⟩ : ∃ z, px * 256 + py = z := ⟨_, rfl⟩
      rw [hat] at hPP
      have hfa : f at0 = false := by
        cases hc : f at0 with
        | false => rfl
        | true =>
          obtain ⟨j, a1, a2, a3⟩ := hf _ hc
          exact absurd a3 (hPP j a1 a2)
      have HON : Hid (∀ w, Calls Tryz.prog 26 #[.int .i64 (k : Int), .agg (pnt px py false)] w fun e w' => e = .returned (.bool true) ∧ Gr w w') := fun w => onQ_yes h1 h2 oP w
      have HAD : Hid (∀ w, Calls Tryz.prog 13 #[.int .i64 (k : Int), .agg (pnt px py false), .agg (pnt (xN k) (yN k) false)] w fun e w' => e = .returned (.tuple #[.agg (pnt R.1 R.2.1 R.2.2), .int .i64 0]) ∧ Gr w w') := fun w => addQ h1 h2 oP (gQ_on h1 h2) hPR w
      have k70 : wr.cell? ⟨e7, 0, none⟩ = some (.int .u64 (px : Int)) := by rw [c7.cell, show (pnt px py false)[0]? = some (.int .u64 ((wd px 0 : Nat) : Int)) by kernel_rfl, wd_small _ (by omega)]
      have k79 : wr.cell? ⟨e7, 9, none⟩ = some (.int .u64 (py : Int)) := by rw [c7.cell, show (pnt px py false)[9]? = some (.int .u64 ((wd py 0 : Nat) : Int)) by kernel_rfl, wd_small _ (by omega)]
      have k8 : wr.cell? ⟨e8, at0, none⟩ = some (.bool false) := by rw [c8.cell, hB.2 _ (by omega), hfa]
      have px0 : (0 : Int) ≤ (px : Int) := by omega
      have px1 : (px : Int) ≤ 255 := by omega
      have py0 : (0 : Int) ≤ (py : Int) := by omega
      have py1 : (py : Int) ≤ 255 := by omega
      have at1 : (at0 : Int) < 65536 := by omega
      have at00 : (0 : Int) ≤ (at0 : Int) := by omega
      have HCA : Hid (Unit → c[at0]? = some (.bool false)) := fun _ => by rw [hB.2 _ (by omega), hfa]
      have HF2 : Hid (∀ a, (f a || decide (a = at0)) = true → ∃ j, 1 ≤ j ∧ j < i + 1 ∧ atQ (mlQ k j (gQ k)) = a) := fun a ha => by
        rw [Bool.or_eq_true] at ha
        rcases ha with ha | ha
        · obtain ⟨j, a1, a2, a3⟩ := hf a ha
          exact ⟨j, a1, by omega, a3⟩
        · exact ⟨i, hi1, by omega, by rw [hP, of_decide_eq_true ha]; unfold atQ; exact hat⟩
      clear HR HI hf hPP hP oP hbd k8 hfa
      go_upto_region 14 with fail
      have hat2 := atW64 (x := px) (y := py) (a := at0) (by omega) (by omega) hat
      simp only [hat2]
      clear hat hat2 k70 k79 px0 px1 py0 py1
      have hca := HCA.out ()
      refine wp_wS [.c (pv e7 18), .c (.bool false), .c (.bool false), .c (.slice (some ⟨e8, 0, none⟩) 65536 65536), .c (.int .i64 (at0 : Int)), .c (pv e8 at0), .c (.bool false), .c (.bool false), .c (.bool false), .c (.int .i64 (k : Int)), .c (.agg (pnt px py false)), .c (.bool true), .c (.bool false), .c (.bool false)] [1, 5, 6, 10, 11] ?hs1 ?hf1
      case hs1 =>
       refine .cons (.o 4 18 c7 rfl (by exact pnt_18 _ _ _)) ?_
       refine .cons (.s (.indexAddr 57 (.const (.slice (some ⟨e8, 0, none⟩) 65536 65536)) (.const (.int .i64 (at0 : Int)))) rfl fun vv hg => by simp [go_sem, exI, at1, at00]) ?_
       refine .cons (.o 4 at0 c8 rfl (by exact hca)) ?_
       refine .cons (.g 27 0 c7 rfl) ?_
       refine .cons (.k _ fun yy vv hg hh => RtW.of_c (Rt.c (HON.out _))) .nil
      intro yw14 v1 hg h14
      simp only [FW, putFrom, Act.put, List.setIfInBounds_toArray, List.set_cons_zero, List.set_cons_succ, wvals, kW, List.getD_cons_zero, List.getD_cons_succ, Kw.c, pv]
      clear h14
      replace G := G.trans hg
      replace c4 := c4.gr hg
      replace c7 := c7.gr hg
      replace c8 := c8.gr hg
      clear hg
      go_upto_region 16 with fail
      refine wp_wTS 3 [.c (.slice (some ⟨e8, 0, none⟩) 65536 65536), .c (.int .i64 (at0 : Int)), .c (pv e8 at0)] [2] ?hs2 ?hf2
      case hs2 =>
       refine .cons (.s (.indexAddr 57 (.const (.slice (some ⟨e8, 0, none⟩) 65536 65536)) (.const (.int .i64 (at0 : Int)))) rfl fun vv hg => by simp [go_sem, exI, at1, at00]) .nil
      refine .s 4 (fun yy => .pointer (some ⟨e8, at0, none⟩)) (fun yy => .bool true) fun yw16 v2 hg h16 => ?_
      have HT := (c8.gr hg).h
      have FT := (c8.gr hg).f
      refine ⟨setBlk v2 (e8) (c.setIfInBounds at0 (.bool true)), by simp [go_sem, exI, HT, cell_blk, hca, frz_at _ _ _ FT, setCell_setBlk], ?_⟩
      simp only [FW, putFrom, Act.put, List.setIfInBounds_toArray, List.set_cons_zero, List.set_cons_succ, wvals, kW, List.getD_cons_zero, List.getD_cons_succ, Kw.c, pv]
      clear h16
      replace G := G.trans hg
      replace c4 := c4.gr hg
      replace c7 := c7.gr hg
      replace c8 := c8.gr hg
      clear hg
      go_upto_region 17 with fail
      refine gen_w (fun u => Gr w u ∧ Vr u e4 (cu (k : Int) (pN k) (aN k) (bN k) (oN k) (xN k) (yN k) (bl (oN k)) (szN k) (lgN k)) ∧ Vr u e7 (pnt px py false) ∧ Vr u e8 (c.setIfInBounds at0 (.bool true))) ⟨gr_setNew G (by omega), c4.other (by omega), c7.other (by omega), c8.set (by rw [hB.1]; decide) _⟩ ?_
      clear G c4 c7 c8 HT FT
      rintro u ⟨G, c4, c7, c8⟩
      refine wp_v false [.c (.int .i64 (k : Int)), .c (.agg (pnt px py false)), .c (pv e4 37), .c (.agg (pnt (xN k) (yN k) false)), .c (.tuple #[.agg (pnt R.1 R.2.1 R.2.2), .int .i64 0]), .c (.tuple #[.agg (pnt R.1 R.2.1 R.2.2), .int .i64 0]), .c (.agg (pnt R.1 R.2.1 R.2.2)), .c (.int .i64 0), .a, .u, .c (.int .i64 0)] [1, 3, 4] [⟨8, 9, 27, pnt 0 0 false, fun _ => pnt R.1 R.2.1 R.2.2⟩] ?hs3 ?hv3 ?hf3
      case hs3 =>
       refine .cons (.g 27 0 c7 rfl) ?_
       refine .cons (.g 27 37 c4 rfl) ?_
       refine .cons (.k _ fun yy vv hg hh => RtW.of_c (Rt.c (HAD.out _))) .nil
      case hv3 =>
       refine .cons (.mk (fun _ _ _ => rfl) (fun _ v b H F => by dsimp only at H ⊢; simp [go_sem, exI, H, F]) zPnt ⟨fkc, fkc, fkc, fkc, fkc, fkc, fkc, fkc, fka, fku, fkc, trivial⟩) .nil
      intro yw17 v3 hg h17 hV17
      simp only [FW, putFrom, Act.put, List.setIfInBounds_toArray, List.set_cons_zero, List.set_cons_succ, wvals, kW, List.getD_cons_zero, List.getD_cons_succ, Kw.c, pv, Kw.a, Kw.u]
      obtain ⟨⟨N17_8, V17_8⟩, -⟩ : (u.heap.size ≤ (yw17 8 0).2 ∧ Vr v3 (yw17 8 0).2 (pnt R.1 R.2.1 R.2.2)) ∧ True := hV17
      clear h17
      replace G := G.trans hg
      replace c4 := c4.gr hg
      replace c7 := c7.gr hg
      replace c8 := c8.gr hg
      clear hg
      go_upto_region 18 with fail
      refine wp_wS [.c (.int .i64 0), .c (.int .i64 0), .c (.bool false)] [1] ?hs4 ?hf4
      case hs4 =>
       refine .cons (.k _ fun yy vv hg hh => RtW.of_c (Rt.same (num_any _ _))) .nil
      intro yw18 v4 hg h18
      simp only [FW, putFrom, Act.put, List.setIfInBounds_toArray, List.set_cons_zero, List.set_cons_succ, wvals, kW, List.getD_cons_zero, List.getD_cons_succ, Kw.c]
      clear h18
      replace G := G.trans hg
      replace c4 := c4.gr hg
      replace c7 := c7.gr hg
      replace c8 := c8.gr hg
      replace V17_8 := V17_8.gr hg
      clear hg
      go_upto_region 20 with fail
      refine wp_wTS 1 [.c (.agg (pnt R.1 R.2.1 R.2.2))] [0] ?hs5 ?hf5
      case hs5 =>
       refine .cons (.g 27 0 V17_8 rfl) .nil
      refine .s 27 (fun yy => .pointer (some ⟨e7, 0, none⟩)) (fun yy => .agg (pnt R.1 R.2.1 R.2.2)) fun yw20 v5 hg h20 => ?_
      have HT := (c7.gr hg).h
      have FT := (c7.gr hg).f
      refine ⟨setBlk v5 (e7) (pnt R.1 R.2.1 R.2.2), by simp [go_sem, exI, HT, FT], ?_⟩
      simp only [FW, putFrom, Act.put, List.setIfInBounds_toArray, List.set_cons_zero, List.set_cons_succ, wvals, kW, List.getD_cons_zero, Kw.c]
      clear h20
      replace G := G.trans hg
      replace c4 := c4.gr hg
      replace c7 := c7.gr hg
      replace c8 := c8.gr hg
      replace V17_8 := V17_8.gr hg
      clear hg
      go_wp2_with fail
      go_roundw
      case rel =>
        refine ⟨i + 1, by go_num, fun _ => ⟨by omega, hlt⟩, ?_⟩
        rw [hR]
        exact ⟨gr_setNew G (by omega), c4.other (by omega), c7.set (by rw [pnt_size]; decide) _, _, _, c8.other (by omega), hB.set at0, HF2.out⟩
      case measure => simp [intOf]; omega
    · have hi : i = N := by have := HI.out (); omega
      have i1 : ¬ (i : Int) < (N : Int) := by omega
      rw [hi, ← HNN.out (), mlQ_N h1 h2] at HR
      obtain ⟨G, c4, c7, -⟩ := HR.out
      replace c7 : Vr wr e7 (pnt 0 0 true) := c7
      clear HR HI hi hlt
      go_upto_region 21 with fail
      refine wp_wS [.c (pv e7 18), .c (.bool true), .c (.bool true), .c (.agg (pnt 0 0 true)), .c (.agg (pnt 0 0 true)), .c (.bool true), .c (.bool true), .c (.bool true)] [1, 3, 5] ?hs6 ?hf6
      case hs6 =>
       refine .cons (.o 4 18 c7 rfl (by exact pnt_18 _ _ _)) ?_
       refine .cons (.g 27 0 c7 rfl) ?_
       refine .cons (.s (.binOp .eql 27 (.const (.agg (pnt 0 0 true))) (.const (.agg (pnt 0 0 true))) 27) rfl fun vv hg => by simp [go_sem, exI, eqPn, eqN_self]) .nil
      intro yw21 v1 hg h21
      simp only [FW, putFrom, Act.put, List.setIfInBounds_toArray, List.set_cons_zero, List.set_cons_succ, wvals, kW, List.getD_cons_zero, List.getD_cons_succ, Kw.c, pv]
      clear h21
      replace G := G.trans hg
      replace c4 := c4.gr hg
      replace c7 := c7.gr hg
      clear hg
      go_wp2_with fail
      go_ret
      exact ⟨rfl, G⟩

end Go.Proofs.YtlbkhhihkomahaaGreat
