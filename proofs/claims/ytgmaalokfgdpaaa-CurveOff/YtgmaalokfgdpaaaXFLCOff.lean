import Derived.Test.YtgmaalokfgdpaaaXFCW
import Derived.Test.YtgmaalokfgdpaaaXFRPt
import Derived.Test.YtgmaalokfgdpaaaXFCO
import Derived.Test.YtgmaalokfgdpaaaXFEJ
import Derived.Test.YtgmaalokfgdpaaaXFPC
import Derived.Test.YtgmaalokfgdpaaaXFLtC
namespace Go.Proofs.Ytgmaalokfgdpaaa
open Go.RowKit
theorem crA_one (id : Int) (x : Nat → Nat) (q : Nat → Option Addr × Nat) : (crA id x q).all (·.oneCell') = true := by simp [crA, Value.oneCell']
theorem storeCr (w : World) (b : Nat) (id : Int) (x : Nat → Nat) (q : Nat → Option Addr × Nat) (hs : (blk w b).size = 7) (hf : frz w b = (0, 0)) :
    (storeS 36 (.pointer (some ⟨b, 0, none⟩)) (.agg (crA id x q))).run Try.prog w = .ok () (setBlk w b (crA id x q)) :=
  storeS_run 7 (by decide) (by kernel_rfl) w b _ (crA_size id x q) (crA_one id x q) hs hf
end Go.Proofs.Ytgmaalokfgdpaaa
namespace Go.Proofs.Ytgmaalokfgdpaaa
open Go.RowKit
theorem nN_M (k : Nat) (h1 : 1 ≤ k) (h2 : k ≤ 15) : pN k < M ∧ aN k < M ∧ bN k < M ∧ oN k < M ∧ xN k < M ∧ yN k < M := by
  have hp := pN_M k
  have := aN_lt k h1 h2
  have := bN_lt k h1 h2
  have := xN_lt k h1 h2
  have := (yN_lt k h1 h2).1
  exact ⟨hp, by omega, by omega, oN_bd k, by omega, by omega⟩
end Go.Proofs.Ytgmaalokfgdpaaa
namespace Go.Proofs.Ytgmaalokfgdpaaa
open Go.RowKit
attribute [local go_sem ↓] loadNat_is loadArr_is loadWide_is loadArrW_is storeNat_is storeWide_is
attribute [local go_sem] loadNat loadArr loadWide loadArrW storeNat storeWide idxArr fold9 fold18 nw_size nw_elem pre_self pre_1 pre_2 pre_3 pre_4 pre_5 pre_6 pre_7 pre_8 pre_9 pre_10 pre_11 pre_12 pre_13 pre_14 pre_15 pre_16 pre_17 pre_18 pre_19 pre_20 pre_21 pre_22 pre_23 pre_24 pre_25 pre_26 pre_27 pre_28 pre_29 pre_30 pre_31 pre_32 pre_33 pre_34 pre_35 pre_36 pre_37 pre_38 pre_39 pre_40 gro_size gro_drew gro_drewN drew_gro drewN_gro gro_gro blk_gro frz_gro blk_drew frz_drew blk_drewN frz_drewN blk_alloc_at frz_alloc_at blk_alloc frz_alloc cell_gro frozen_gro cell_alloc_pre frozen_alloc_pre setCell_drewN alloc_drewN setBlk_drew setBlk_drewN setBlk_alloc_at setBlk_alloc setBlk_gro setCell_gro setCell_alloc_pre size_setBlk size_setCell
attribute [local go_sem] ppre_1 ppre_2 ppre_3 ppre_4 ppre_5 ppre_6
attribute [local go_sem ↓] bsl_is loadC_is storeC_is loadPt_is storePt_is zvPt_is buildPt_is loadPn_is storePn_is zvPn_is loadCu_is storeCu_is zvCu_is buildCu_is buildPn_is Go.wp_at_zero Go.wp_at_succ
attribute [local go_sem] loadC storeC0 storeCr crA_size loadPt storePt zvPt ptA_size loadPn storePn zvPn pnt_size loadCu storeCu zvCu cu_size buildCu0 buildPnI buildPn2 loadCP loadCA loadCB loadCN loadCG loadCX loadCY cu_P cu_A cu_B cu_N cu_G cu_X cu_Y frz_setBlk blk_setBlk setBlk_setBlk blk_other
attribute [local go_sem] loadPX loadPY pnt_X pnt_Y
theorem u64_conv (x : Int) : ∃ u : Nat, IntKind.u64.wrap x = (u : Int) ∧ (u : Int) < 18446744073709551616 := by
  have h : 0 ≤ IntKind.u64.wrap x ∧ IntKind.u64.wrap x < 18446744073709551616 := by rw [IntKind.wrap_u64]; omega
  exact ⟨(IntKind.u64.wrap x).toNat, by omega, by omega⟩
theorem pnt_atX (x y j : Nat) (f : Bool) (hj : j < 9) : (pnt x y f)[j]? = some (Value.int .u64 ((wd x j : Nat) : Int)) := by
  unfold pnt
  rw [Array.getElem?_append_left (by simp [nw_size]; omega), Array.getElem?_append_left (by simp [nw_size]; omega), nw_get _ _ _ hj]
theorem pnt_atY (x y j : Nat) (f : Bool) (hj : j < 9) : (pnt x y f)[9 + j]? = some (Value.int .u64 ((wd y j : Nat) : Int)) := by
  unfold pnt
  rw [Array.getElem?_append_left (by simp [nw_size]; omega), Array.getElem?_append_right (by simp [nw_size])]
  simp only [nw_size, Nat.add_sub_cancel_left]
  exact nw_get _ _ _ hj
set_option maxRecDepth 100000 in
set_option maxHeartbeats 4000000 in
theorem lcoff_y (id bit : Int) (w : World) : Calls Try.prog 7 #[.int .i64 id, .int .i64 bit, .bool true] w fun e w' => e = .returned (.bool true) ∧ Gr w w' := by
  obtain ⟨u, hu, hu2, hk⟩ := idx_conv id
  have hbd := idx_bd id
  obtain ⟨k, hkk⟩ : ∃ k, idx id = k := ⟨_, rfl⟩
  rw [hkk] at hk hbd
  obtain ⟨h1, h2⟩ := hbd
  have u0 : (0 : Int) ≤ (u : Int) := by omega
  have hk2 : (1 : Int) + (u : Int) % 15 = (k : Int) := by omega
  have hk3 : IntKind.i64.wrap ((u : Int) % 15) = (u : Int) % 15 := by rw [IntKind.wrap_i64]; omega
  have hk4 : IntKind.u64.wrap ((u : Int) % 15) = (u : Int) % 15 := by rw [IntKind.wrap_u64]; omega
  have hk5 : (u : Int).tmod 15 = (u : Int) % 15 := by rw [Int.tmod_eq_emod_of_nonneg (by omega)]
  have k0 : (1 : Int) ≤ (k : Int) := by omega
  have k1 : (k : Int) ≤ 15 := by omega
  have hu3 : id % 18446744073709551616 = (u : Int) := by rw [← hu, IntKind.wrap_u64]
  clear hkk hk
  have HG : Hid (∀ w, Calls Try.prog 9 #[.int .i64 (k : Int)] w fun e w' => e = .returned (.tuple #[.agg (cu (k : Int) (pN k) (aN k) (bN k) (oN k) (xN k) (yN k) (bl (oN k)) (szN k) (lgN k)), .int .i64 0]) ∧ Gr w w') := fun w => get13_yes k h1 h2 w
  have HAW : Hid (∀ w, Calls Try.prog 14 #[] w fun e w' => e = .returned (.bool true) ∧ Gr w w') := fun w => awake13_any w
  have hon := gN_on k h1 h2
  obtain ⟨z1, z2⟩ := szN_bd k h1 h2
  obtain ⟨ub, hub, hub2⟩ := u64_conv bit
  obtain ⟨m, hm⟩ : ∃ m, 8 * szN k = m := ⟨_, rfl⟩
  obtain ⟨i, hi⟩ : ∃ i, ub % m = i := ⟨_, rfl⟩
  have m1 : 8 ≤ m := by omega
  have hi1 : i < m := hi ▸ Nat.mod_lt _ (by omega)
  have hi2 : i < 576 := by omega
  have g1 : (8 : Int) * (szN k : Int) = (m : Int) := by omega
  have g2 : IntKind.i64.wrap (m : Int) = (m : Int) := by rw [IntKind.wrap_i64]; omega
  have g3 : IntKind.u64.wrap (m : Int) = (m : Int) := by rw [IntKind.wrap_u64]; omega
  have g4 : (ub : Int).tmod (m : Int) = (i : Int) := by rw [← hi, Int.tmod_eq_emod_of_nonneg (by omega)]; omega
  have g5 : IntKind.u64.wrap (i : Int) = (i : Int) := by rw [IntKind.wrap_u64]; omega
  have g6 : IntKind.i64.wrap (i : Int) = (i : Int) := by rw [IntKind.wrap_i64]; omega
  have g7 : max (m : Int) 1 = (m : Int) := by omega
  have g8 : ¬ m = 0 := by omega
  obtain ⟨j, hj⟩ : ∃ j, i / 64 = j := ⟨_, rfl⟩
  obtain ⟨tt, ht⟩ : ∃ j, i % 64 = j := ⟨_, rfl⟩
  have j1 : j < 9 := by omega
  have t1 : tt < 64 := by omega
  obtain ⟨wv, hwv⟩ : ∃ x, wd (yN k) j = x := ⟨_, rfl⟩
  obtain ⟨P2, hP2⟩ : ∃ x, 2 ^ tt = x := ⟨_, rfl⟩
  obtain ⟨xv, hxv⟩ : ∃ x, wv ^^^ P2 = x := ⟨_, rfl⟩
  obtain ⟨fv, hfv⟩ : ∃ x, flp (yN k) i = x := ⟨_, rfl⟩
  have hf1 : fv < M := hfv ▸ flp_lt _ _ (nN_M k h1 h2).2.2.2.2.2 hi2
  have hf2 : fv ≠ yN k := hfv ▸ flp_ne _ _
  have hdp := pN_dl k h1 h2
  have hdf : dl fv ≤ 18 := dl_M _ hf1
  have hdy : dl (yN k) ≤ 18 := dl_M _ (nN_M k h1 h2).2.2.2.2.2
  have hcl : (pnt (xN k) (yN k) false)[9 + j]? = some (Value.int .u64 (wv : Int)) := hwv ▸ pnt_atY _ _ j _ j1
  have hfl : (pnt (xN k) (yN k) false).setIfInBounds (9 + j) (.int .u64 (xv : Int)) = pnt (xN k) fv false := by
    rw [← hfv, ← hxv, ← hwv, ← hP2, ← hj, ← ht]; exact pnt_flpY _ _ _ _ hi2
  have hq1 : (i : Int).tdiv 64 = (j : Int) := by rw [Int.tdiv_eq_ediv_of_nonneg (by omega)]; omega
  have hq2 : IntKind.i64.wrap (j : Int) = (j : Int) := by rw [IntKind.wrap_i64]; omega
  have hr1 : (i : Int).tmod 64 = (tt : Int) := by rw [Int.tmod_eq_emod_of_nonneg (by omega)]; omega
  have p1 : P2 < 18446744073709551616 := hP2 ▸ Nat.pow_lt_pow_right (n := 64) (by decide) t1
  have w1 : wv < 18446744073709551616 := hwv ▸ wd_lt _ _
  have hs1 : IntKind.u64.wrap ((2 : Int) ^ tt) = (P2 : Int) := by
    have e : (2 : Int) ^ tt = (P2 : Int) := by rw [← hP2]; simp
    rw [e, IntKind.wrap_u64]; omega
  have hw1 : bits BinOp.xor IntKind.u64 (wv : Int) (P2 : Int) = (xv : Int) := by rw [bits_xor_u64_nat _ _ w1 p1, hxv]
  have hx1 : ¬ (9 : Int) ≤ (j : Int) := by omega
  have hds : dl (yN k + fv) ≤ 400 := by
    have e : pq 19 = M * 4294967296 := by rw [← pq_M]; exact pq_succ 18
    have := (nN_M k h1 h2).2.2.2.2.2
    exact Nat.le_trans ((dl_le _ 19).2 (by omega)) (by decide)
  obtain ⟨zz, hzz⟩ : ∃ z, cmpZ (yN k + fv) (pN k) = z := ⟨_, rfl⟩
  obtain ⟨rr, hzr⟩ : ∃ r, (zz == 0) = r := ⟨_, rfl⟩
  have hzd : decide (zz = 0) = rr := by rw [← hzr]; rfl
  have honf : onB k (xN k) fv false = rr := by
    rw [onB_other k h1 h2 fv hf2, ← hzd, ← hzz]
    refine decide_eq_decide.2 ?_
    unfold cmpZ
    split
    · simp; omega
    · split
      · simp; omega
      · simp; omega
  have honi := onB_inf k h1 h2
  go_enter Try.func7, Try.ntmps7
  go_upto_region 4 with (first
    | (go_at_call 14; refine (HAW.out _).mono ?_; rintro e WA ⟨rfl, GA⟩)
    | (go_at_call 9; refine (HG.out _).mono ?_; rintro e WB ⟨rfl, GB⟩))
  obtain ⟨e7, he7⟩ : ∃ b, WB.heap.size = b := ⟨_, rfl⟩
  simp only [he7]
  refine gen_w (fun v => Gr w v ∧ Vr v e7 (cu (k : Int) (pN k) (aN k) (bN k) (oN k) (xN k) (yN k) (bl (oN k)) (szN k) (lgN k))) ?_ ?_
  · subst he7
    exact ⟨(GA.trans GB).alloc _, Vr.new WB _ _⟩
  clear he7 GA GB
  rintro v0 ⟨G, c7⟩
  refine wp_region_qS (by kernel_rfl) [.c (.int .i64 bit), .c (.int .u64 (ub : Int)), .c (.pointer (some ⟨e7, 57, none⟩)), .c (.int .i64 (szN k)), .c (.int .i64 (m : Int)), .c (.int .i64 (m : Int)), .c (.int .u64 (m : Int)), .c (.int .u64 (i : Int)), .c (.int .i64 (i : Int)), .c (.int .i64 (i : Int))] ?hs1 ?hf1
  case hs1 =>
    intro listed vals a1 v1 io oo hg zR zF zo zD
    have Hc7 : blk v1 (e7) = cu (k : Int) (pN k) (aN k) (bN k) (oN k) (xN k) (yN k) (bl (oN k)) (szN k) (lgN k) := (hg.blk _ c7.p).trans c7.h
    have Kc7_57 : v1.cell? ⟨e7, 57, none⟩ = some (.int .i64 (szN k)) := by rw [cell_blk, Hc7]; exact cu_57 _ _ _ _ _ _ _ _ _ _
    have zi : io < 10 := by simpa using (Array.getElem?_eq_some_iff.1 zo).1
    obtain rfl | rfl | rfl | rfl | rfl | rfl | rfl | rfl | rfl | rfl := lc10 zi
    · obtain rfl := Option.some.inj zo
      have f0 := zF.old (s := 1) (v := .int .i64 bit) (by kernel_rfl) rfl
      refine Or.inl ⟨wanted_no rfl, ?_⟩
      exact wp_val (.int .i64 bit) (by simp [go_sem, f0]) ⟨_, rfl, Gr.refl _, rfl⟩
    · obtain rfl := Option.some.inj zo
      have l0 := on_of zD 0 (by kernel_rfl)
      have f0 := zF.at (s := 24) (i := 0) (by kernel_rfl) (by simp) l0
      have e0 : vals 0 = .int .i64 bit := zR 0 l0
      rw [e0] at f0
      refine Or.inl ⟨wanted_no rfl, ?_⟩
      exact wp_val (.int .u64 (ub : Int)) (by simp [go_sem, f0, hub]) ⟨_, rfl, Gr.refl _, rfl⟩
    · obtain rfl := Option.some.inj zo
      have f0 := zF.old (s := 7) (v := .pointer (some ⟨e7, 0, none⟩)) (by kernel_rfl) rfl
      refine Or.inl ⟨wanted_no rfl, ?_⟩
      exact wp_val (.pointer (some ⟨e7, 57, none⟩)) (by simp [go_sem, f0]) ⟨_, rfl, Gr.refl _, rfl⟩
    · obtain rfl := Option.some.inj zo
      have l0 := on_of zD 2 (by kernel_rfl)
      have f0 := zF.at (s := 26) (i := 2) (by kernel_rfl) (by simp) l0
      have e0 : vals 2 = .pointer (some ⟨e7, 57, none⟩) := zR 2 l0
      rw [e0] at f0
      refine Or.inl ⟨wanted_no rfl, ?_⟩
      exact wp_val (.int .i64 (szN k)) (by simp [go_sem, f0, Kc7_57]) ⟨_, rfl, Gr.refl _, rfl⟩
    · obtain rfl := Option.some.inj zo
      have l0 := on_of zD 3 (by kernel_rfl)
      have f0 := zF.at (s := 27) (i := 3) (by kernel_rfl) (by simp) l0
      have e0 : vals 3 = .int .i64 (szN k) := zR 3 l0
      rw [e0] at f0
      refine Or.inl ⟨wanted_no rfl, ?_⟩
      exact wp_val (.int .i64 (m : Int)) (by simp [go_sem, f0, g1, g2]) ⟨_, rfl, Gr.refl _, rfl⟩
    · obtain rfl := Option.some.inj zo
      have l0 := on_of zD 4 (by kernel_rfl)
      have f0 := zF.at (s := 28) (i := 4) (by kernel_rfl) (by simp) l0
      have e0 : vals 4 = .int .i64 (m : Int) := zR 4 l0
      rw [e0] at f0
      refine Or.inl ⟨wanted_no rfl, ?_⟩
      exact wp_val (.int .i64 (m : Int)) (by simp [go_sem, f0, g7]) ⟨_, rfl, Gr.refl _, rfl⟩
    · obtain rfl := Option.some.inj zo
      have l0 := on_of zD 5 (by kernel_rfl)
      have f0 := zF.at (s := 29) (i := 5) (by kernel_rfl) (by simp) l0
      have e0 : vals 5 = .int .i64 (m : Int) := zR 5 l0
      rw [e0] at f0
      refine Or.inl ⟨wanted_no rfl, ?_⟩
      exact wp_val (.int .u64 (m : Int)) (by simp [go_sem, f0, g3]) ⟨_, rfl, Gr.refl _, rfl⟩
    · obtain rfl := Option.some.inj zo
      have l0 := on_of zD 1 (by kernel_rfl)
      have f0 := zF.at (s := 25) (i := 1) (by kernel_rfl) (by simp) l0
      have e0 : vals 1 = .int .u64 (ub : Int) := zR 1 l0
      rw [e0] at f0
      have l1 := on_of zD 6 (by kernel_rfl)
      have f1 := zF.at (s := 30) (i := 6) (by kernel_rfl) (by simp) l1
      have e1 : vals 6 = .int .u64 (m : Int) := zR 6 l1
      rw [e1] at f1
      refine Or.inl ⟨wanted_no rfl, ?_⟩
      exact wp_val (.int .u64 (i : Int)) (by simp [go_sem, f0, f1, g4, g8]) ⟨_, rfl, Gr.refl _, rfl⟩
    · obtain rfl := Option.some.inj zo
      have l0 := on_of zD 7 (by kernel_rfl)
      have f0 := zF.at (s := 31) (i := 7) (by kernel_rfl) (by simp) l0
      have e0 : vals 7 = .int .u64 (i : Int) := zR 7 l0
      rw [e0] at f0
      refine Or.inl ⟨wanted_no rfl, ?_⟩
      exact wp_val (.int .i64 (i : Int)) (by simp [go_sem, f0, g6]) ⟨_, rfl, Gr.refl _, rfl⟩
    · obtain rfl := Option.some.inj zo
      have l0 := on_of zD 8 (by kernel_rfl)
      have f0 := zF.at (s := 32) (i := 8) (by kernel_rfl) (by simp) l0
      have e0 : vals 8 = .int .i64 (i : Int) := zR 8 l0
      rw [e0] at f0
      refine Or.inl ⟨wanted_no rfl, ?_⟩
      exact wp_val (.int .i64 (i : Int)) (by simp [go_sem, f0]) ⟨_, rfl, Gr.refl _, rfl⟩
  case hf1 =>
    intro vals v1 hg zR
    have e4_0 : vals 0 = .int .i64 bit := zR 0 (by simp)
    have e4_1 : vals 1 = .int .u64 (ub : Int) := zR 1 (by simp)
    have e4_2 : vals 2 = .pointer (some ⟨e7, 57, none⟩) := zR 2 (by simp)
    have e4_3 : vals 3 = .int .i64 (szN k) := zR 3 (by simp)
    have e4_4 : vals 4 = .int .i64 (m : Int) := zR 4 (by simp)
    have e4_5 : vals 5 = .int .i64 (m : Int) := zR 5 (by simp)
    have e4_6 : vals 6 = .int .u64 (m : Int) := zR 6 (by simp)
    have e4_7 : vals 7 = .int .u64 (i : Int) := zR 7 (by simp)
    have e4_8 : vals 8 = .int .i64 (i : Int) := zR 8 (by simp)
    have e4_9 : vals 9 = .int .i64 (i : Int) := zR 9 (by simp)
    simp only [putFrom, Act.put, List.setIfInBounds_toArray, List.set_cons_zero, List.set_cons_succ, e4_0, e4_1, e4_2, e4_3, e4_4, e4_5, e4_6, e4_7, e4_8, e4_9]
    clear zR e4_0 e4_1 e4_2 e4_3 e4_4 e4_5 e4_6 e4_7 e4_8 e4_9
    replace G := G.trans hg
    replace c7 := c7.gr hg
    clear hg
    have q7 : e7 + 1 ≤ v1.heap.size := c7.p
    have qw : w.heap.size ≤ v1.heap.size := G.below.size
    go_upto_region 5 with fail
    refine wp_region_qTS (by kernel_rfl) 3 (by kernel_rfl) [.c (.pointer (some ⟨e7, 37, none⟩)), .c (.agg (pnt (xN k) (yN k) false)), .v (v1.heap.size) (pnt 0 0 false)] ?hs2 ?hf2
    case hs2 =>
      intro listed vals a1 v2 io oo hg zR zF zo zi zD
      have Hc7 : blk v2 (e7) = cu (k : Int) (pN k) (aN k) (bN k) (oN k) (xN k) (yN k) (bl (oN k)) (szN k) (lgN k) := (hg.blk _ c7.p).trans c7.h
      obtain rfl | rfl | rfl := lc3 zi
      · obtain rfl := Option.some.inj zo
        have f0 := zF.old (s := 7) (v := .pointer (some ⟨e7, 0, none⟩)) (by kernel_rfl) rfl
        refine Or.inl ⟨wanted_no rfl, ?_⟩
        exact wp_val (.pointer (some ⟨e7, 37, none⟩)) (by simp [go_sem, f0]) ⟨_, rfl, Gr.refl _, rfl⟩
      · obtain rfl := Option.some.inj zo
        have l0 := on_of zD 0 (by kernel_rfl)
        have f0 := zF.at (s := 33) (i := 0) (by kernel_rfl) (by simp) l0
        have e0 : vals 0 = .pointer (some ⟨e7, 37, none⟩) := zR 0 l0
        rw [e0] at f0
        refine Or.inl ⟨wanted_no rfl, ?_⟩
        exact wp_val (.agg (pnt (xN k) (yN k) false)) (by simp [go_sem, f0, Hc7]) ⟨_, rfl, Gr.refl _, rfl⟩
      · obtain rfl := Option.some.inj zo
        refine Or.inl ⟨wanted_no rfl, ?_⟩
        exact wp_val (.pointer (some ⟨v2.heap.size, 0, none⟩)) (w' := v2.alloc (.cells (pnt 0 0 false) 27)) (by simp [go_sem]) ⟨_, rfl, (Gr.refl _).alloc _, v2.heap.size, rfl, hg.below.size, Vr.new _ _ _⟩
    case hf2 =>
      intro listed vals a1 v2 oo hg zR zF zA zo
      obtain rfl := Option.some.inj zo
      have l5_2 := zA 2 (by decide)
      have f5_2 := zF.at (s := 10) (i := 2) (by kernel_rfl) (by simp) l5_2
      obtain ⟨b5_2, e5_2, N5_2, V5_2⟩ := (show ∃ b, vals 2 = Value.pointer (some ⟨b, 0, none⟩) ∧ (v1.heap.size) ≤ b ∧ Vr v2 b (pnt 0 0 false) from zR 2 (by decide))
      rw [e5_2] at f5_2
      have l5_1 := zA 1 (by decide)
      have f5_1 := zF.at (s := 34) (i := 1) (by kernel_rfl) (by simp) l5_1
      have e5_1 : vals 1 = .agg (pnt (xN k) (yN k) false) := zR 1 (by decide)
      rw [e5_1] at f5_1
      have HT := V5_2.h
      have FT := V5_2.f
      refine wp_skip (w' := setBlk v2 (b5_2) (pnt (xN k) (yN k) false)) (by simp [go_sem, f5_2, f5_1, HT, FT]) ⟨rfl, ?_⟩
      have e5_0 : vals 0 = .pointer (some ⟨e7, 37, none⟩) := zR 0 (by decide)
      simp only [putFrom, Act.put, List.setIfInBounds_toArray, List.set_cons_zero, List.set_cons_succ, e5_0, e5_1, e5_2]
      clear zR zF zA e5_0 e5_1 e5_2
      replace G := G.trans hg
      replace c7 := c7.gr hg
      clear hg
      have ne7 : b5_2 ≠ e7 := by omega
      have lo10 : w.heap.size ≤ b5_2 := by omega
      go_upto_region 7 with fail
      refine gen_w (fun u => Gr w u ∧ Vr u e7 (cu (k : Int) (pN k) (aN k) (bN k) (oN k) (xN k) (yN k) (bl (oN k)) (szN k) (lgN k)) ∧ Vr u (b5_2) (pnt (xN k) (yN k) false)) ⟨gr_setNew G lo10, c7.other ne7, V5_2.set (by rw [pnt_size]; decide) _⟩ ?_
      clear HT FT G c7
      rintro u5 ⟨G, c7, c10⟩
      refine wp_region_qT (by kernel_rfl) (by kernel_rfl) 15 (by kernel_rfl) [.c (.int .i64 (i : Int)), .c (.int .i64 (j : Int)), .c (.int .i64 (i : Int)), .c (.int .i64 (j : Int)), .c (.pointer (some ⟨b5_2, 9, none⟩)), .c (.pointer (some ⟨b5_2, 9, none⟩)), .c (.pointer (some ⟨b5_2, 9 + j, none⟩)), .c (.int .u64 (wv : Int)), .c (.int .i64 (i : Int)), .c (.int .i64 (tt : Int)), .c (.int .u64 (P2 : Int)), .c (.int .u64 (xv : Int)), .c (.pointer (some ⟨b5_2, 9, none⟩)), .c (.pointer (some ⟨b5_2, 9, none⟩)), .c (.pointer (some ⟨b5_2, 9 + j, none⟩))] ?hs3 ?hf3
      case hs3 =>
        intro listed vals a1 v3 io oo hg zR zF zo zi zD
        have Hc10 : blk v3 (b5_2) = pnt (xN k) (yN k) false := (hg.blk _ c10.p).trans c10.h
        obtain rfl | rfl | rfl | rfl | rfl | rfl | rfl | rfl | rfl | rfl | rfl | rfl | rfl | rfl | rfl := lc15 zi
        · obtain rfl := Option.some.inj zo
          have f0 := zF.old (s := 9) (v := .int .i64 (i : Int)) (by kernel_rfl) rfl
          refine Or.inl ⟨wanted_no rfl, ?_⟩
          exact wp_val (.int .i64 (i : Int)) (by simp [go_sem, f0]) ⟨_, rfl, Gr.refl _, rfl⟩
        · obtain rfl := Option.some.inj zo
          have l0 := on_of zD 0 (by kernel_rfl)
          have f0 := zF.at (s := 36) (i := 0) (by kernel_rfl) (by simp) l0
          have e0 : vals 0 = .int .i64 (i : Int) := zR 0 l0
          rw [e0] at f0
          refine Or.inl ⟨wanted_no rfl, ?_⟩
          exact wp_val (.int .i64 (j : Int)) (by simp [go_sem, f0, hq1, hq2]) ⟨_, rfl, Gr.refl _, rfl⟩
        · obtain rfl := Option.some.inj zo
          have f0 := zF.old (s := 9) (v := .int .i64 (i : Int)) (by kernel_rfl) rfl
          refine Or.inl ⟨wanted_no rfl, ?_⟩
          exact wp_val (.int .i64 (i : Int)) (by simp [go_sem, f0]) ⟨_, rfl, Gr.refl _, rfl⟩
        · obtain rfl := Option.some.inj zo
          have l0 := on_of zD 2 (by kernel_rfl)
          have f0 := zF.at (s := 38) (i := 2) (by kernel_rfl) (by simp) l0
          have e0 : vals 2 = .int .i64 (i : Int) := zR 2 l0
          rw [e0] at f0
          refine Or.inl ⟨wanted_no rfl, ?_⟩
          exact wp_val (.int .i64 (j : Int)) (by simp [go_sem, f0, hq1, hq2]) ⟨_, rfl, Gr.refl _, rfl⟩
        · obtain rfl := Option.some.inj zo
          have f0 := zF.old (s := 10) (v := .pointer (some ⟨b5_2, 0, none⟩)) (by kernel_rfl) rfl
          refine Or.inl ⟨wanted_no rfl, ?_⟩
          exact wp_val (.pointer (some ⟨b5_2, 9, none⟩)) (by simp [go_sem, f0]) ⟨_, rfl, Gr.refl _, rfl⟩
        · obtain rfl := Option.some.inj zo
          have l0 := on_of zD 4 (by kernel_rfl)
          have f0 := zF.at (s := 40) (i := 4) (by kernel_rfl) (by simp) l0
          have e0 : vals 4 = .pointer (some ⟨b5_2, 9, none⟩) := zR 4 l0
          rw [e0] at f0
          refine Or.inl ⟨wanted_no rfl, ?_⟩
          exact wp_val (.pointer (some ⟨b5_2, 9, none⟩)) (by simp [go_sem, f0]) ⟨_, rfl, Gr.refl _, rfl⟩
        · obtain rfl := Option.some.inj zo
          have l0 := on_of zD 5 (by kernel_rfl)
          have f0 := zF.at (s := 41) (i := 5) (by kernel_rfl) (by simp) l0
          have e0 : vals 5 = .pointer (some ⟨b5_2, 9, none⟩) := zR 5 l0
          rw [e0] at f0
          have l1 := on_of zD 3 (by kernel_rfl)
          have f1 := zF.at (s := 39) (i := 3) (by kernel_rfl) (by simp) l1
          have e1 : vals 3 = .int .i64 (j : Int) := zR 3 l1
          rw [e1] at f1
          refine Or.inl ⟨wanted_no rfl, ?_⟩
          exact wp_val (.pointer (some ⟨b5_2, 9 + j, none⟩)) (by simp [go_sem, f0, f1, hx1]) ⟨_, rfl, Gr.refl _, rfl⟩
        · obtain rfl := Option.some.inj zo
          have l0 := on_of zD 6 (by kernel_rfl)
          have f0 := zF.at (s := 42) (i := 6) (by kernel_rfl) (by simp) l0
          have e0 : vals 6 = .pointer (some ⟨b5_2, 9 + j, none⟩) := zR 6 l0
          rw [e0] at f0
          refine Or.inl ⟨wanted_no rfl, ?_⟩
          exact wp_val (.int .u64 (wv : Int)) (by simp [go_sem, f0, cell_blk, Hc10, hcl]) ⟨_, rfl, Gr.refl _, rfl⟩
        · obtain rfl := Option.some.inj zo
          have f0 := zF.old (s := 9) (v := .int .i64 (i : Int)) (by kernel_rfl) rfl
          refine Or.inl ⟨wanted_no rfl, ?_⟩
          exact wp_val (.int .i64 (i : Int)) (by simp [go_sem, f0]) ⟨_, rfl, Gr.refl _, rfl⟩
        · obtain rfl := Option.some.inj zo
          have l0 := on_of zD 8 (by kernel_rfl)
          have f0 := zF.at (s := 44) (i := 8) (by kernel_rfl) (by simp) l0
          have e0 : vals 8 = .int .i64 (i : Int) := zR 8 l0
          rw [e0] at f0
          refine Or.inl ⟨wanted_no rfl, ?_⟩
          exact wp_val (.int .i64 (tt : Int)) (by simp [go_sem, f0, hr1]) ⟨_, rfl, Gr.refl _, rfl⟩
        · obtain rfl := Option.some.inj zo
          have l0 := on_of zD 9 (by kernel_rfl)
          have f0 := zF.at (s := 45) (i := 9) (by kernel_rfl) (by simp) l0
          have e0 : vals 9 = .int .i64 (tt : Int) := zR 9 l0
          rw [e0] at f0
          refine Or.inl ⟨wanted_no rfl, ?_⟩
          exact wp_val (.int .u64 (P2 : Int)) (by simp [go_sem, f0, hs1]) ⟨_, rfl, Gr.refl _, rfl⟩
        · obtain rfl := Option.some.inj zo
          have l0 := on_of zD 7 (by kernel_rfl)
          have f0 := zF.at (s := 43) (i := 7) (by kernel_rfl) (by simp) l0
          have e0 : vals 7 = .int .u64 (wv : Int) := zR 7 l0
          rw [e0] at f0
          have l1 := on_of zD 10 (by kernel_rfl)
          have f1 := zF.at (s := 46) (i := 10) (by kernel_rfl) (by simp) l1
          have e1 : vals 10 = .int .u64 (P2 : Int) := zR 10 l1
          rw [e1] at f1
          refine Or.inl ⟨wanted_no rfl, ?_⟩
          exact wp_val (.int .u64 (xv : Int)) (by simp [go_sem, f0, f1, hw1]) ⟨_, rfl, Gr.refl _, rfl⟩
        · obtain rfl := Option.some.inj zo
          have f0 := zF.old (s := 10) (v := .pointer (some ⟨b5_2, 0, none⟩)) (by kernel_rfl) rfl
          refine Or.inl ⟨wanted_no rfl, ?_⟩
          exact wp_val (.pointer (some ⟨b5_2, 9, none⟩)) (by simp [go_sem, f0]) ⟨_, rfl, Gr.refl _, rfl⟩
        · obtain rfl := Option.some.inj zo
          have l0 := on_of zD 12 (by kernel_rfl)
          have f0 := zF.at (s := 48) (i := 12) (by kernel_rfl) (by simp) l0
          have e0 : vals 12 = .pointer (some ⟨b5_2, 9, none⟩) := zR 12 l0
          rw [e0] at f0
          refine Or.inl ⟨wanted_no rfl, ?_⟩
          exact wp_val (.pointer (some ⟨b5_2, 9, none⟩)) (by simp [go_sem, f0]) ⟨_, rfl, Gr.refl _, rfl⟩
        · obtain rfl := Option.some.inj zo
          have l0 := on_of zD 13 (by kernel_rfl)
          have f0 := zF.at (s := 49) (i := 13) (by kernel_rfl) (by simp) l0
          have e0 : vals 13 = .pointer (some ⟨b5_2, 9, none⟩) := zR 13 l0
          rw [e0] at f0
          have l1 := on_of zD 1 (by kernel_rfl)
          have f1 := zF.at (s := 37) (i := 1) (by kernel_rfl) (by simp) l1
          have e1 : vals 1 = .int .i64 (j : Int) := zR 1 l1
          rw [e1] at f1
          refine Or.inl ⟨wanted_no rfl, ?_⟩
          exact wp_val (.pointer (some ⟨b5_2, 9 + j, none⟩)) (by simp [go_sem, f0, f1, hx1]) ⟨_, rfl, Gr.refl _, rfl⟩
      case hf3 =>
        intro listed vals a1 v3 oo hg zR zF zA zo
        obtain rfl := Option.some.inj zo
        have l7_14 := zA 14 (by decide)
        have f7_14 := zF.at (s := 50) (i := 14) (by kernel_rfl) (by simp) l7_14
        have e7_14 : vals 14 = .pointer (some ⟨b5_2, 9 + j, none⟩) := zR 14 (by decide)
        rw [e7_14] at f7_14
        have l7_11 := zA 11 (by decide)
        have f7_11 := zF.at (s := 47) (i := 11) (by kernel_rfl) (by simp) l7_11
        have e7_11 : vals 11 = .int .u64 (xv : Int) := zR 11 (by decide)
        rw [e7_11] at f7_11
        have HT := (c10.gr hg).h
        have FT := (c10.gr hg).f
        refine wp_skip (w' := setBlk v3 (b5_2) (pnt (xN k) fv false)) (by simp [go_sem, f7_14, f7_11, HT, cell_blk, setCell_setBlk, hcl, hfl, frozen_frz _ _ _ FT]) ⟨rfl, ?_⟩
        have e7_0 : vals 0 = .int .i64 (i : Int) := zR 0 (by decide)
        have e7_1 : vals 1 = .int .i64 (j : Int) := zR 1 (by decide)
        have e7_2 : vals 2 = .int .i64 (i : Int) := zR 2 (by decide)
        have e7_3 : vals 3 = .int .i64 (j : Int) := zR 3 (by decide)
        have e7_4 : vals 4 = .pointer (some ⟨b5_2, 9, none⟩) := zR 4 (by decide)
        have e7_5 : vals 5 = .pointer (some ⟨b5_2, 9, none⟩) := zR 5 (by decide)
        have e7_6 : vals 6 = .pointer (some ⟨b5_2, 9 + j, none⟩) := zR 6 (by decide)
        have e7_7 : vals 7 = .int .u64 (wv : Int) := zR 7 (by decide)
        have e7_8 : vals 8 = .int .i64 (i : Int) := zR 8 (by decide)
        have e7_9 : vals 9 = .int .i64 (tt : Int) := zR 9 (by decide)
        have e7_10 : vals 10 = .int .u64 (P2 : Int) := zR 10 (by decide)
        have e7_12 : vals 12 = .pointer (some ⟨b5_2, 9, none⟩) := zR 12 (by decide)
        have e7_13 : vals 13 = .pointer (some ⟨b5_2, 9, none⟩) := zR 13 (by decide)
        simp only [putFrom, Act.put, List.setIfInBounds_toArray, List.set_cons_zero, List.set_cons_succ, e7_0, e7_1, e7_2, e7_3, e7_4, e7_5, e7_6, e7_7, e7_8, e7_9, e7_10, e7_11, e7_12, e7_13, e7_14]
        clear zR zF zA e7_0 e7_1 e7_2 e7_3 e7_4 e7_5 e7_6 e7_7 e7_8 e7_9 e7_10 e7_11 e7_12 e7_13 e7_14
        replace G := G.trans hg
        replace c7 := c7.gr hg
        replace c10 := c10.gr hg
        clear hg
        go_upto_region 9 with fail
        refine gen_w (fun u => Gr w u ∧ Vr u e7 (cu (k : Int) (pN k) (aN k) (bN k) (oN k) (xN k) (yN k) (bl (oN k)) (szN k) (lgN k)) ∧ Vr u (b5_2) (pnt (xN k) fv false)) ⟨gr_setNew G lo10, c7.other ne7, c10.set (by rw [pnt_size]; decide) _⟩ ?_
        clear HT FT G c7 c10 hcl hfl hxv hwv hP2 hw1 hs1 p1 w1 hq1 hq2 hr1 hx1 hj ht j1 t1
        rintro u8 ⟨G, c7, c10⟩
        refine wp_region_q (by kernel_rfl) (by kernel_rfl) [.c (.pointer (some ⟨e7, 37, none⟩)), .c (.pointer (some ⟨e7, 46, none⟩)), .c (.agg (nw 9 (yN k))), .n (yN k), .c (.pointer (some ⟨b5_2, 9, none⟩)), .c (.agg (nw 9 fv)), .n (fv), .n (yN k + fv), .n (yN k + fv)] ?hs4 ?hf4
        case hs4 =>
          intro listed vals a1 v4 io oo hg zR zF zo zD
          have Hc7 : blk v4 (e7) = cu (k : Int) (pN k) (aN k) (bN k) (oN k) (xN k) (yN k) (bl (oN k)) (szN k) (lgN k) := (hg.blk _ c7.p).trans c7.h
          have Hc10 : blk v4 (b5_2) = pnt (xN k) fv false := (hg.blk _ c10.p).trans c10.h
          have zi : io < 9 := by simpa using (Array.getElem?_eq_some_iff.1 zo).1
          obtain rfl | rfl | rfl | rfl | rfl | rfl | rfl | rfl | rfl := lc9 zi
          · obtain rfl := Option.some.inj zo
            have f0 := zF.old (s := 7) (v := .pointer (some ⟨e7, 0, none⟩)) (by kernel_rfl) rfl
            refine Or.inl ⟨wanted_no rfl, ?_⟩
            exact wp_val (.pointer (some ⟨e7, 37, none⟩)) (by simp [go_sem, f0]) ⟨_, rfl, Gr.refl _, rfl⟩
          · obtain rfl := Option.some.inj zo
            have l0 := on_of zD 0 (by kernel_rfl)
            have f0 := zF.at (s := 66) (i := 0) (by kernel_rfl) (by simp) l0
            have e0 : vals 0 = .pointer (some ⟨e7, 37, none⟩) := zR 0 l0
            rw [e0] at f0
            refine Or.inl ⟨wanted_no rfl, ?_⟩
            exact wp_val (.pointer (some ⟨e7, 46, none⟩)) (by simp [go_sem, f0]) ⟨_, rfl, Gr.refl _, rfl⟩
          · obtain rfl := Option.some.inj zo
            have l0 := on_of zD 1 (by kernel_rfl)
            have f0 := zF.at (s := 67) (i := 1) (by kernel_rfl) (by simp) l0
            have e0 : vals 1 = .pointer (some ⟨e7, 46, none⟩) := zR 1 l0
            rw [e0] at f0
            refine Or.inl ⟨wanted_no rfl, ?_⟩
            exact wp_val (.agg (nw 9 (yN k))) (by simp [go_sem, f0, Hc7]) ⟨_, rfl, Gr.refl _, rfl⟩
          · obtain rfl := Option.some.inj zo
            have l0 := on_of zD 2 (by kernel_rfl)
            have f0 := zF.at (s := 68) (i := 2) (by kernel_rfl) (by simp) l0
            have e0 : vals 2 = .agg (nw 9 (yN k)) := zR 2 l0
            rw [e0] at f0
            refine Or.inl ⟨wanted_no rfl, ?_⟩
            exact wp_retz (k := .n (yN k)) (by simp [go_sem, f0]) (show Calls Try.prog 20 #[.agg (nw 9 (yN k))] v4 (Rt (.n (yN k)) v4) from fm_any (nN_M k h1 h2).2.2.2.2.2) (fun u w2 hu hg2 => ⟨_, rfl, hg2, hu⟩)
          · obtain rfl := Option.some.inj zo
            have f0 := zF.old (s := 10) (v := .pointer (some ⟨b5_2, 0, none⟩)) (by kernel_rfl) rfl
            refine Or.inl ⟨wanted_no rfl, ?_⟩
            exact wp_val (.pointer (some ⟨b5_2, 9, none⟩)) (by simp [go_sem, f0]) ⟨_, rfl, Gr.refl _, rfl⟩
          · obtain rfl := Option.some.inj zo
            have l0 := on_of zD 4 (by kernel_rfl)
            have f0 := zF.at (s := 70) (i := 4) (by kernel_rfl) (by simp) l0
            have e0 : vals 4 = .pointer (some ⟨b5_2, 9, none⟩) := zR 4 l0
            rw [e0] at f0
            refine Or.inl ⟨wanted_no rfl, ?_⟩
            exact wp_val (.agg (nw 9 fv)) (by simp [go_sem, f0, Hc10]) ⟨_, rfl, Gr.refl _, rfl⟩
          · obtain rfl := Option.some.inj zo
            have l0 := on_of zD 5 (by kernel_rfl)
            have f0 := zF.at (s := 71) (i := 5) (by kernel_rfl) (by simp) l0
            have e0 : vals 5 = .agg (nw 9 fv) := zR 5 l0
            rw [e0] at f0
            refine Or.inl ⟨wanted_no rfl, ?_⟩
            exact wp_retz (k := .n (fv)) (by simp [go_sem, f0]) (show Calls Try.prog 20 #[.agg (nw 9 fv)] v4 (Rt (.n (fv)) v4) from fm_any hf1) (fun u w2 hu hg2 => ⟨_, rfl, hg2, hu⟩)
          · obtain rfl := Option.some.inj zo
            have l0 := on_of zD 3 (by kernel_rfl)
            have f0 := zF.at (s := 69) (i := 3) (by kernel_rfl) (by simp) l0
            obtain ⟨p0, n0, e0, S0⟩ := (show ∃ p n, vals 3 = .slice p (dl (yN k)) n ∧ Sl v4 p (yN k) from zR 3 l0)
            rw [e0] at f0
            have l1 := on_of zD 6 (by kernel_rfl)
            have f1 := zF.at (s := 72) (i := 6) (by kernel_rfl) (by simp) l1
            obtain ⟨p1, n1, e1, S1⟩ := (show ∃ p n, vals 6 = .slice p (dl (fv)) n ∧ Sl v4 p (fv) from zR 6 l1)
            rw [e1] at f1
            refine Or.inl ⟨wanted_no rfl, ?_⟩
            exact wp_retz (k := .n (yN k + fv)) (by simp [go_sem, f0, f1]) (show Calls Try.prog 30 #[.slice p0 (dl (yN k)) n0, .slice p1 (dl (fv)) n1] v4 (Rt (.n (yN k + fv)) v4) from Rt.n (radd_any _ _ _ _ _ _ _ S0 S1 (by omega) (by omega))) (fun u w2 hu hg2 => ⟨_, rfl, hg2, hu⟩)
          · obtain rfl := Option.some.inj zo
            have l0 := on_of zD 7 (by kernel_rfl)
            have f0 := zF.at (s := 73) (i := 7) (by kernel_rfl) (by simp) l0
            obtain ⟨p0, n0, e0, S0⟩ := (show ∃ p n, vals 7 = .slice p (dl (yN k + fv)) n ∧ Sl v4 p (yN k + fv) from zR 7 l0)
            rw [e0] at f0
            refine Or.inl ⟨wanted_no rfl, ?_⟩
            exact wp_val (.slice p0 (dl (yN k + fv)) n0) (by simp [go_sem, f0]) ⟨_, rfl, Gr.refl _, ⟨_, _, rfl, S0⟩⟩
        case hf4 =>
          intro vals v4 hg zR
          have e9_0 : vals 0 = .pointer (some ⟨e7, 37, none⟩) := zR 0 (by simp)
          have e9_1 : vals 1 = .pointer (some ⟨e7, 46, none⟩) := zR 1 (by simp)
          have e9_2 : vals 2 = .agg (nw 9 (yN k)) := zR 2 (by simp)
          obtain ⟨p9_3, n9_3, e9_3, S9_3⟩ := (show ∃ p n, vals 3 = .slice p (dl (yN k)) n ∧ Sl v4 p (yN k) from zR 3 (by simp))
          have e9_4 : vals 4 = .pointer (some ⟨b5_2, 9, none⟩) := zR 4 (by simp)
          have e9_5 : vals 5 = .agg (nw 9 fv) := zR 5 (by simp)
          obtain ⟨p9_6, n9_6, e9_6, S9_6⟩ := (show ∃ p n, vals 6 = .slice p (dl (fv)) n ∧ Sl v4 p (fv) from zR 6 (by simp))
          obtain ⟨p9_7, n9_7, e9_7, S9_7⟩ := (show ∃ p n, vals 7 = .slice p (dl (yN k + fv)) n ∧ Sl v4 p (yN k + fv) from zR 7 (by simp))
          obtain ⟨p9_8, n9_8, e9_8, S9_8⟩ := (show ∃ p n, vals 8 = .slice p (dl (yN k + fv)) n ∧ Sl v4 p (yN k + fv) from zR 8 (by simp))
          simp only [putFrom, Act.put, List.setIfInBounds_toArray, List.set_cons_zero, List.set_cons_succ, e9_0, e9_1, e9_2, e9_3, e9_4, e9_5, e9_6, e9_7, e9_8]
          clear zR e9_0 e9_1 e9_2 e9_3 e9_4 e9_5 e9_6 e9_7 e9_8
          replace G := G.trans hg
          replace c7 := c7.gr hg
          replace c10 := c10.gr hg
          clear hg
          go_upto_region 10 with fail
          refine wp_region_qS (by kernel_rfl) [.c (.bool true), .c (.bool true), .c (.slice p9_8 (dl (yN k + fv)) n9_8), .c (.pointer (some ⟨e7, 1, none⟩)), .c (.agg (nw 9 (pN k))), .n (pN k), .c (.int .i64 zz), .c (.bool rr), .c (.bool rr), .c (.bool rr)] ?hs5 ?hf5
          case hs5 =>
            intro listed vals a1 v5 io oo hg zR zF zo zD
            have Hc7 : blk v5 (e7) = cu (k : Int) (pN k) (aN k) (bN k) (oN k) (xN k) (yN k) (bl (oN k)) (szN k) (lgN k) := (hg.blk _ c7.p).trans c7.h
            have zi : io < 10 := by simpa using (Array.getElem?_eq_some_iff.1 zo).1
            obtain rfl | rfl | rfl | rfl | rfl | rfl | rfl | rfl | rfl | rfl := lc10 zi
            · obtain rfl := Option.some.inj zo
              have f0 := zF.old (s := 2) (v := .bool true) (by kernel_rfl) rfl
              refine Or.inl ⟨wanted_no rfl, ?_⟩
              exact wp_val (.bool true) (by simp [go_sem, f0]) ⟨_, rfl, Gr.refl _, rfl⟩
            · obtain rfl := Option.some.inj zo
              have l0 := on_of zD 0 (by kernel_rfl)
              have f0 := zF.at (s := 74) (i := 0) (by kernel_rfl) (by simp) l0
              have e0 : vals 0 = .bool true := zR 0 l0
              rw [e0] at f0
              refine Or.inl ⟨wanted_no rfl, ?_⟩
              exact wp_val (.bool true) (by simp [go_sem, f0]) ⟨_, rfl, Gr.refl _, rfl⟩
            · obtain rfl := Option.some.inj zo
              have lg := on_of zD 1 (by kernel_rfl)
              have fg := zF.at (s := 75) (i := 1) (by kernel_rfl) (by simp) lg
              rw [show vals 1 = .bool true from zR 1 lg] at fg
              have f0 := zF.old (s := 11) (v := .slice p9_8 (dl (yN k + fv)) n9_8) (by kernel_rfl) rfl
              refine Or.inl ⟨wanted_at (j := 1) (s := 75) rfl rfl rfl fg, ?_⟩
              exact wp_val (.slice p9_8 (dl (yN k + fv)) n9_8) (by simp [go_sem, f0]) ⟨_, rfl, Gr.refl _, rfl⟩
            · obtain rfl := Option.some.inj zo
              have lg := on_of zD 1 (by kernel_rfl)
              have fg := zF.at (s := 75) (i := 1) (by kernel_rfl) (by simp) lg
              rw [show vals 1 = .bool true from zR 1 lg] at fg
              have f0 := zF.old (s := 7) (v := .pointer (some ⟨e7, 0, none⟩)) (by kernel_rfl) rfl
              refine Or.inl ⟨wanted_at (j := 1) (s := 75) rfl rfl rfl fg, ?_⟩
              exact wp_val (.pointer (some ⟨e7, 1, none⟩)) (by simp [go_sem, f0]) ⟨_, rfl, Gr.refl _, rfl⟩
            · obtain rfl := Option.some.inj zo
              have lg := on_of zD 1 (by kernel_rfl)
              have fg := zF.at (s := 75) (i := 1) (by kernel_rfl) (by simp) lg
              rw [show vals 1 = .bool true from zR 1 lg] at fg
              have l0 := on_of zD 3 (by kernel_rfl)
              have f0 := zF.at (s := 77) (i := 3) (by kernel_rfl) (by simp) l0
              have e0 : vals 3 = .pointer (some ⟨e7, 1, none⟩) := zR 3 l0
              rw [e0] at f0
              refine Or.inl ⟨wanted_at (j := 1) (s := 75) rfl rfl rfl fg, ?_⟩
              exact wp_val (.agg (nw 9 (pN k))) (by simp [go_sem, f0, Hc7]) ⟨_, rfl, Gr.refl _, rfl⟩
            · obtain rfl := Option.some.inj zo
              have lg := on_of zD 1 (by kernel_rfl)
              have fg := zF.at (s := 75) (i := 1) (by kernel_rfl) (by simp) lg
              rw [show vals 1 = .bool true from zR 1 lg] at fg
              have l0 := on_of zD 4 (by kernel_rfl)
              have f0 := zF.at (s := 78) (i := 4) (by kernel_rfl) (by simp) l0
              have e0 : vals 4 = .agg (nw 9 (pN k)) := zR 4 l0
              rw [e0] at f0
              refine Or.inl ⟨wanted_at (j := 1) (s := 75) rfl rfl rfl fg, ?_⟩
              exact wp_retz (k := .n (pN k)) (by simp [go_sem, f0]) (show Calls Try.prog 20 #[.agg (nw 9 (pN k))] v5 (Rt (.n (pN k)) v5) from fm_any (nN_M k h1 h2).1) (fun u w2 hu hg2 => ⟨_, rfl, hg2, hu⟩)
            · obtain rfl := Option.some.inj zo
              have lg := on_of zD 1 (by kernel_rfl)
              have fg := zF.at (s := 75) (i := 1) (by kernel_rfl) (by simp) lg
              rw [show vals 1 = .bool true from zR 1 lg] at fg
              have l0 := on_of zD 2 (by kernel_rfl)
              have f0 := zF.at (s := 76) (i := 2) (by kernel_rfl) (by simp) l0
              have e0 : vals 2 = .slice p9_8 (dl (yN k + fv)) n9_8 := zR 2 l0
              rw [e0] at f0
              have l1 := on_of zD 5 (by kernel_rfl)
              have f1 := zF.at (s := 79) (i := 5) (by kernel_rfl) (by simp) l1
              obtain ⟨p1, n1, e1, S1⟩ := (show ∃ p n, vals 5 = .slice p (dl (pN k)) n ∧ Sl v5 p (pN k) from zR 5 l1)
              rw [e1] at f1
              refine Or.inl ⟨wanted_at (j := 1) (s := 75) rfl rfl rfl fg, ?_⟩
              exact wp_retz (k := .c (.int .i64 zz)) (by simp [go_sem, f0, f1]) (show Calls Try.prog 26 #[.slice p9_8 (dl (yN k + fv)) n9_8, .slice p1 (dl (pN k)) n1] v5 (Rt (.c (.int .i64 zz)) v5) from cz_any (S9_8.gr hg) S1 hds (by omega) hzz) (fun u w2 hu hg2 => ⟨_, rfl, hg2, hu⟩)
            · obtain rfl := Option.some.inj zo
              have lg := on_of zD 1 (by kernel_rfl)
              have fg := zF.at (s := 75) (i := 1) (by kernel_rfl) (by simp) lg
              rw [show vals 1 = .bool true from zR 1 lg] at fg
              have l0 := on_of zD 6 (by kernel_rfl)
              have f0 := zF.at (s := 80) (i := 6) (by kernel_rfl) (by simp) l0
              have e0 : vals 6 = .int .i64 zz := zR 6 l0
              rw [e0] at f0
              refine Or.inl ⟨wanted_at (j := 1) (s := 75) rfl rfl rfl fg, ?_⟩
              exact wp_val (.bool rr) (by simp [go_sem, f0, hzr]) ⟨_, rfl, Gr.refl _, rfl⟩
            · obtain rfl := Option.some.inj zo
              have l0 := on_of zD 1 (by kernel_rfl)
              have f0 := zF.at (s := 75) (i := 1) (by kernel_rfl) (by simp) l0
              have e0 : vals 1 = .bool true := zR 1 l0
              rw [e0] at f0
              have l1 := on_of zD 7 (by kernel_rfl)
              have f1 := zF.at (s := 81) (i := 7) (by kernel_rfl) (by simp) l1
              have e1 : vals 7 = .bool rr := zR 7 l1
              rw [e1] at f1
              refine Or.inl ⟨wanted_no rfl, ?_⟩
              exact wp_val (.bool rr) (by simp [go_sem, f0, f1]) ⟨_, rfl, Gr.refl _, rfl⟩
            · obtain rfl := Option.some.inj zo
              have l0 := on_of zD 8 (by kernel_rfl)
              have f0 := zF.at (s := 82) (i := 8) (by kernel_rfl) (by simp) l0
              have e0 : vals 8 = .bool rr := zR 8 l0
              rw [e0] at f0
              refine Or.inl ⟨wanted_no rfl, ?_⟩
              exact wp_val (.bool rr) (by simp [go_sem, f0]) ⟨_, rfl, Gr.refl _, rfl⟩
          case hf5 =>
            intro vals v5 hg zR
            have e10_0 : vals 0 = .bool true := zR 0 (by simp)
            have e10_1 : vals 1 = .bool true := zR 1 (by simp)
            have e10_2 : vals 2 = .slice p9_8 (dl (yN k + fv)) n9_8 := zR 2 (by simp)
            have e10_3 : vals 3 = .pointer (some ⟨e7, 1, none⟩) := zR 3 (by simp)
            have e10_4 : vals 4 = .agg (nw 9 (pN k)) := zR 4 (by simp)
            obtain ⟨p10_5, n10_5, e10_5, S10_5⟩ := (show ∃ p n, vals 5 = .slice p (dl (pN k)) n ∧ Sl v5 p (pN k) from zR 5 (by simp))
            have e10_6 : vals 6 = .int .i64 zz := zR 6 (by simp)
            have e10_7 : vals 7 = .bool rr := zR 7 (by simp)
            have e10_8 : vals 8 = .bool rr := zR 8 (by simp)
            have e10_9 : vals 9 = .bool rr := zR 9 (by simp)
            simp only [putFrom, Act.put, List.setIfInBounds_toArray, List.set_cons_zero, List.set_cons_succ, e10_0, e10_1, e10_2, e10_3, e10_4, e10_5, e10_6, e10_7, e10_8, e10_9]
            clear zR e10_0 e10_1 e10_2 e10_3 e10_4 e10_5 e10_6 e10_7 e10_8 e10_9
            replace G := G.trans hg
            replace c7 := c7.gr hg
            replace c10 := c10.gr hg
            replace S9_3 := S9_3.gr hg
            replace S9_6 := S9_6.gr hg
            replace S9_7 := S9_7.gr hg
            replace S9_8 := S9_8.gr hg
            clear hg
            go_upto_region 11 with fail
            refine wp_region_qS (by kernel_rfl) [.c (.bool true), .c (.bool false)] ?hs6 ?hf6
            case hs6 =>
              intro listed vals a1 v6 io oo hg zR zF zo zD
              have zi : io < 2 := by simpa using (Array.getElem?_eq_some_iff.1 zo).1
              obtain rfl | rfl := lc2 zi
              · obtain rfl := Option.some.inj zo
                have f0 := zF.old (s := 2) (v := .bool true) (by kernel_rfl) rfl
                refine Or.inl ⟨wanted_no rfl, ?_⟩
                exact wp_val (.bool true) (by simp [go_sem, f0]) ⟨_, rfl, Gr.refl _, rfl⟩
              · obtain rfl := Option.some.inj zo
                have l0 := on_of zD 0 (by kernel_rfl)
                have f0 := zF.at (s := 83) (i := 0) (by kernel_rfl) (by simp) l0
                have e0 : vals 0 = .bool true := zR 0 l0
                rw [e0] at f0
                refine Or.inl ⟨wanted_no rfl, ?_⟩
                exact wp_val (.bool false) (by simp [go_sem, f0]) ⟨_, rfl, Gr.refl _, rfl⟩
            case hf6 =>
              intro vals v6 hg zR
              have e11_0 : vals 0 = .bool true := zR 0 (by simp)
              have e11_1 : vals 1 = .bool false := zR 1 (by simp)
              simp only [putFrom, Act.put, List.setIfInBounds_toArray, List.set_cons_zero, List.set_cons_succ, e11_0, e11_1]
              clear zR e11_0 e11_1
              replace G := G.trans hg
              replace c7 := c7.gr hg
              replace c10 := c10.gr hg
              replace S9_3 := S9_3.gr hg
              replace S9_6 := S9_6.gr hg
              replace S9_7 := S9_7.gr hg
              replace S9_8 := S9_8.gr hg
              replace S10_5 := S10_5.gr hg
              clear hg
              go_upto_region 13 with fail
              refine wp_region_qS (by kernel_rfl) [.c (.int .i64 0), .c (.int .i64 0), .c (.bool true), .c (.bool true), .c (.pointer (some ⟨e7, 0, none⟩)), .c (.int .i64 (k : Int)), .c (.agg (pnt (xN k) fv false)), .c (.bool rr), .c (.bool rr), .c (.bool true), .c (.bool true), .c (.bool true), .c (.pointer (some ⟨e7, 0, none⟩)), .c (.int .i64 (k : Int)), .c (.pointer (some ⟨e7, 37, none⟩)), .c (.pointer (some ⟨e7, 37, none⟩)), .c (.agg (nw 9 (xN k))), .c (.pointer (some ⟨e7, 37, none⟩)), .c (.pointer (some ⟨e7, 46, none⟩)), .c (.agg (nw 9 (yN k))), .c (.agg (pnt (xN k) (yN k) true)), .c (.bool false), .c (.bool true), .c (.bool true), .c (.bool true)] ?hs7 ?hf7
              case hs7 =>
                intro listed vals a1 v7 io oo hg zR zF zo zD
                have Hc7 : blk v7 (e7) = cu (k : Int) (pN k) (aN k) (bN k) (oN k) (xN k) (yN k) (bl (oN k)) (szN k) (lgN k) := (hg.blk _ c7.p).trans c7.h
                have Kc7_0 : v7.cell? ⟨e7, 0, none⟩ = some (.int .i64 (k : Int)) := by rw [cell_blk, Hc7]; exact cu_0 _ _ _ _ _ _ _ _ _ _
                have Hc10 : blk v7 (b5_2) = pnt (xN k) fv false := (hg.blk _ c10.p).trans c10.h
                have zi : io < 25 := by simpa using (Array.getElem?_eq_some_iff.1 zo).1
                obtain rfl | rfl | rfl | rfl | rfl | rfl | rfl | rfl | rfl | rfl | rfl | rfl | rfl | rfl | rfl | rfl | rfl | rfl | rfl | rfl | rfl | rfl | rfl | rfl | rfl := lc25 zi
                · obtain rfl := Option.some.inj zo
                  have f0 := zF.old (s := 8) (v := .int .i64 0) (by kernel_rfl) rfl
                  refine Or.inl ⟨wanted_no rfl, ?_⟩
                  exact wp_val (.int .i64 0) (by simp [go_sem, f0]) ⟨_, rfl, Gr.refl _, rfl⟩
                · obtain rfl := Option.some.inj zo
                  have l0 := on_of zD 0 (by kernel_rfl)
                  have f0 := zF.at (s := 95) (i := 0) (by kernel_rfl) (by simp) l0
                  have e0 : vals 0 = .int .i64 0 := zR 0 l0
                  rw [e0] at f0
                  refine Or.inl ⟨wanted_no rfl, ?_⟩
                  exact wp_retz (k := .c (.int .i64 0)) (by simp [go_sem, f0]) (show Calls Try.prog 13 #[.int .i64 0] v7 (Rt (.c (.int .i64 0)) v7) from Rt.same (num_any _ _)) (fun u w2 hu hg2 => ⟨_, rfl, hg2, hu⟩)
                · obtain rfl := Option.some.inj zo
                  have l0 := on_of zD 1 (by kernel_rfl)
                  have f0 := zF.at (s := 96) (i := 1) (by kernel_rfl) (by simp) l0
                  have e0 : vals 1 = .int .i64 0 := zR 1 l0
                  rw [e0] at f0
                  refine Or.inl ⟨wanted_no rfl, ?_⟩
                  exact wp_val (.bool true) (by simp [go_sem, f0]) ⟨_, rfl, Gr.refl _, rfl⟩
                · obtain rfl := Option.some.inj zo
                  have l0 := on_of zD 2 (by kernel_rfl)
                  have f0 := zF.at (s := 97) (i := 2) (by kernel_rfl) (by simp) l0
                  have e0 : vals 2 = .bool true := zR 2 l0
                  rw [e0] at f0
                  refine Or.inl ⟨wanted_no rfl, ?_⟩
                  exact wp_val (.bool true) (by simp [go_sem, f0]) ⟨_, rfl, Gr.refl _, rfl⟩
                · obtain rfl := Option.some.inj zo
                  have lg := on_of zD 3 (by kernel_rfl)
                  have fg := zF.at (s := 98) (i := 3) (by kernel_rfl) (by simp) lg
                  rw [show vals 3 = .bool true from zR 3 lg] at fg
                  have f0 := zF.old (s := 7) (v := .pointer (some ⟨e7, 0, none⟩)) (by kernel_rfl) rfl
                  refine Or.inl ⟨wanted_at (j := 3) (s := 98) rfl rfl rfl fg, ?_⟩
                  exact wp_val (.pointer (some ⟨e7, 0, none⟩)) (by simp [go_sem, f0]) ⟨_, rfl, Gr.refl _, rfl⟩
                · obtain rfl := Option.some.inj zo
                  have lg := on_of zD 3 (by kernel_rfl)
                  have fg := zF.at (s := 98) (i := 3) (by kernel_rfl) (by simp) lg
                  rw [show vals 3 = .bool true from zR 3 lg] at fg
                  have l0 := on_of zD 4 (by kernel_rfl)
                  have f0 := zF.at (s := 99) (i := 4) (by kernel_rfl) (by simp) l0
                  have e0 : vals 4 = .pointer (some ⟨e7, 0, none⟩) := zR 4 l0
                  rw [e0] at f0
                  refine Or.inl ⟨wanted_at (j := 3) (s := 98) rfl rfl rfl fg, ?_⟩
                  exact wp_val (.int .i64 (k : Int)) (by simp [go_sem, f0, Kc7_0]) ⟨_, rfl, Gr.refl _, rfl⟩
                · obtain rfl := Option.some.inj zo
                  have lg := on_of zD 3 (by kernel_rfl)
                  have fg := zF.at (s := 98) (i := 3) (by kernel_rfl) (by simp) lg
                  rw [show vals 3 = .bool true from zR 3 lg] at fg
                  have f0 := zF.old (s := 10) (v := .pointer (some ⟨b5_2, 0, none⟩)) (by kernel_rfl) rfl
                  refine Or.inl ⟨wanted_at (j := 3) (s := 98) rfl rfl rfl fg, ?_⟩
                  exact wp_val (.agg (pnt (xN k) fv false)) (by simp [go_sem, f0, Hc10]) ⟨_, rfl, Gr.refl _, rfl⟩
                · obtain rfl := Option.some.inj zo
                  have lg := on_of zD 3 (by kernel_rfl)
                  have fg := zF.at (s := 98) (i := 3) (by kernel_rfl) (by simp) lg
                  rw [show vals 3 = .bool true from zR 3 lg] at fg
                  have l0 := on_of zD 5 (by kernel_rfl)
                  have f0 := zF.at (s := 100) (i := 5) (by kernel_rfl) (by simp) l0
                  have e0 : vals 5 = .int .i64 (k : Int) := zR 5 l0
                  rw [e0] at f0
                  have l1 := on_of zD 6 (by kernel_rfl)
                  have f1 := zF.at (s := 101) (i := 6) (by kernel_rfl) (by simp) l1
                  have e1 : vals 6 = .agg (pnt (xN k) fv false) := zR 6 l1
                  rw [e1] at f1
                  refine Or.inl ⟨wanted_at (j := 3) (s := 98) rfl rfl rfl fg, ?_⟩
                  exact wp_retz (k := .c (.bool rr)) (by simp [go_sem, f0, f1]) (show Calls Try.prog 16 #[.int .i64 (k : Int), .agg (pnt (xN k) fv false)] v7 (Rt (.c (.bool rr)) v7) from Rt.c (honf ▸ on13_yes k h1 h2 _ _ false (nN_M k h1 h2).2.2.2.2.1 hf1 _)) (fun u w2 hu hg2 => ⟨_, rfl, hg2, hu⟩)
                · obtain rfl := Option.some.inj zo
                  have lg := on_of zD 3 (by kernel_rfl)
                  have fg := zF.at (s := 98) (i := 3) (by kernel_rfl) (by simp) lg
                  rw [show vals 3 = .bool true from zR 3 lg] at fg
                  have f0 := zF.old (s := 12) (v := .bool rr) (by kernel_rfl) rfl
                  refine Or.inl ⟨wanted_at (j := 3) (s := 98) rfl rfl rfl fg, ?_⟩
                  exact wp_val (.bool rr) (by simp [go_sem, f0]) ⟨_, rfl, Gr.refl _, rfl⟩
                · obtain rfl := Option.some.inj zo
                  have lg := on_of zD 3 (by kernel_rfl)
                  have fg := zF.at (s := 98) (i := 3) (by kernel_rfl) (by simp) lg
                  rw [show vals 3 = .bool true from zR 3 lg] at fg
                  have l0 := on_of zD 7 (by kernel_rfl)
                  have f0 := zF.at (s := 102) (i := 7) (by kernel_rfl) (by simp) l0
                  have e0 : vals 7 = .bool rr := zR 7 l0
                  rw [e0] at f0
                  have l1 := on_of zD 8 (by kernel_rfl)
                  have f1 := zF.at (s := 103) (i := 8) (by kernel_rfl) (by simp) l1
                  have e1 : vals 8 = .bool rr := zR 8 l1
                  rw [e1] at f1
                  refine Or.inl ⟨wanted_at (j := 3) (s := 98) rfl rfl rfl fg, ?_⟩
                  exact wp_val (.bool true) (by simp [go_sem, f0, f1]) ⟨_, rfl, Gr.refl _, rfl⟩
                · obtain rfl := Option.some.inj zo
                  have l0 := on_of zD 3 (by kernel_rfl)
                  have f0 := zF.at (s := 98) (i := 3) (by kernel_rfl) (by simp) l0
                  have e0 : vals 3 = .bool true := zR 3 l0
                  rw [e0] at f0
                  have l1 := on_of zD 9 (by kernel_rfl)
                  have f1 := zF.at (s := 104) (i := 9) (by kernel_rfl) (by simp) l1
                  have e1 : vals 9 = .bool true := zR 9 l1
                  rw [e1] at f1
                  refine Or.inl ⟨wanted_no rfl, ?_⟩
                  exact wp_val (.bool true) (by simp [go_sem, f0, f1]) ⟨_, rfl, Gr.refl _, rfl⟩
                · obtain rfl := Option.some.inj zo
                  have l0 := on_of zD 10 (by kernel_rfl)
                  have f0 := zF.at (s := 105) (i := 10) (by kernel_rfl) (by simp) l0
                  have e0 : vals 10 = .bool true := zR 10 l0
                  rw [e0] at f0
                  refine Or.inl ⟨wanted_no rfl, ?_⟩
                  exact wp_val (.bool true) (by simp [go_sem, f0]) ⟨_, rfl, Gr.refl _, rfl⟩
                · obtain rfl := Option.some.inj zo
                  have lg := on_of zD 11 (by kernel_rfl)
                  have fg := zF.at (s := 106) (i := 11) (by kernel_rfl) (by simp) lg
                  rw [show vals 11 = .bool true from zR 11 lg] at fg
                  have f0 := zF.old (s := 7) (v := .pointer (some ⟨e7, 0, none⟩)) (by kernel_rfl) rfl
                  refine Or.inl ⟨wanted_at (j := 11) (s := 106) rfl rfl rfl fg, ?_⟩
                  exact wp_val (.pointer (some ⟨e7, 0, none⟩)) (by simp [go_sem, f0]) ⟨_, rfl, Gr.refl _, rfl⟩
                · obtain rfl := Option.some.inj zo
                  have lg := on_of zD 11 (by kernel_rfl)
                  have fg := zF.at (s := 106) (i := 11) (by kernel_rfl) (by simp) lg
                  rw [show vals 11 = .bool true from zR 11 lg] at fg
                  have l0 := on_of zD 12 (by kernel_rfl)
                  have f0 := zF.at (s := 107) (i := 12) (by kernel_rfl) (by simp) l0
                  have e0 : vals 12 = .pointer (some ⟨e7, 0, none⟩) := zR 12 l0
                  rw [e0] at f0
                  refine Or.inl ⟨wanted_at (j := 11) (s := 106) rfl rfl rfl fg, ?_⟩
                  exact wp_val (.int .i64 (k : Int)) (by simp [go_sem, f0, Kc7_0]) ⟨_, rfl, Gr.refl _, rfl⟩
                · obtain rfl := Option.some.inj zo
                  have lg := on_of zD 11 (by kernel_rfl)
                  have fg := zF.at (s := 106) (i := 11) (by kernel_rfl) (by simp) lg
                  rw [show vals 11 = .bool true from zR 11 lg] at fg
                  have f0 := zF.old (s := 7) (v := .pointer (some ⟨e7, 0, none⟩)) (by kernel_rfl) rfl
                  refine Or.inl ⟨wanted_at (j := 11) (s := 106) rfl rfl rfl fg, ?_⟩
                  exact wp_val (.pointer (some ⟨e7, 37, none⟩)) (by simp [go_sem, f0]) ⟨_, rfl, Gr.refl _, rfl⟩
                · obtain rfl := Option.some.inj zo
                  have lg := on_of zD 11 (by kernel_rfl)
                  have fg := zF.at (s := 106) (i := 11) (by kernel_rfl) (by simp) lg
                  rw [show vals 11 = .bool true from zR 11 lg] at fg
                  have l0 := on_of zD 14 (by kernel_rfl)
                  have f0 := zF.at (s := 109) (i := 14) (by kernel_rfl) (by simp) l0
                  have e0 : vals 14 = .pointer (some ⟨e7, 37, none⟩) := zR 14 l0
                  rw [e0] at f0
                  refine Or.inl ⟨wanted_at (j := 11) (s := 106) rfl rfl rfl fg, ?_⟩
                  exact wp_val (.pointer (some ⟨e7, 37, none⟩)) (by simp [go_sem, f0]) ⟨_, rfl, Gr.refl _, rfl⟩
                · obtain rfl := Option.some.inj zo
                  have lg := on_of zD 11 (by kernel_rfl)
                  have fg := zF.at (s := 106) (i := 11) (by kernel_rfl) (by simp) lg
                  rw [show vals 11 = .bool true from zR 11 lg] at fg
                  have l0 := on_of zD 15 (by kernel_rfl)
                  have f0 := zF.at (s := 110) (i := 15) (by kernel_rfl) (by simp) l0
                  have e0 : vals 15 = .pointer (some ⟨e7, 37, none⟩) := zR 15 l0
                  rw [e0] at f0
                  refine Or.inl ⟨wanted_at (j := 11) (s := 106) rfl rfl rfl fg, ?_⟩
                  exact wp_val (.agg (nw 9 (xN k))) (by simp [go_sem, f0, Hc7]) ⟨_, rfl, Gr.refl _, rfl⟩
                · obtain rfl := Option.some.inj zo
                  have lg := on_of zD 11 (by kernel_rfl)
                  have fg := zF.at (s := 106) (i := 11) (by kernel_rfl) (by simp) lg
                  rw [show vals 11 = .bool true from zR 11 lg] at fg
                  have f0 := zF.old (s := 7) (v := .pointer (some ⟨e7, 0, none⟩)) (by kernel_rfl) rfl
                  refine Or.inl ⟨wanted_at (j := 11) (s := 106) rfl rfl rfl fg, ?_⟩
                  exact wp_val (.pointer (some ⟨e7, 37, none⟩)) (by simp [go_sem, f0]) ⟨_, rfl, Gr.refl _, rfl⟩
                · obtain rfl := Option.some.inj zo
                  have lg := on_of zD 11 (by kernel_rfl)
                  have fg := zF.at (s := 106) (i := 11) (by kernel_rfl) (by simp) lg
                  rw [show vals 11 = .bool true from zR 11 lg] at fg
                  have l0 := on_of zD 17 (by kernel_rfl)
                  have f0 := zF.at (s := 112) (i := 17) (by kernel_rfl) (by simp) l0
                  have e0 : vals 17 = .pointer (some ⟨e7, 37, none⟩) := zR 17 l0
                  rw [e0] at f0
                  refine Or.inl ⟨wanted_at (j := 11) (s := 106) rfl rfl rfl fg, ?_⟩
                  exact wp_val (.pointer (some ⟨e7, 46, none⟩)) (by simp [go_sem, f0]) ⟨_, rfl, Gr.refl _, rfl⟩
                · obtain rfl := Option.some.inj zo
                  have lg := on_of zD 11 (by kernel_rfl)
                  have fg := zF.at (s := 106) (i := 11) (by kernel_rfl) (by simp) lg
                  rw [show vals 11 = .bool true from zR 11 lg] at fg
                  have l0 := on_of zD 18 (by kernel_rfl)
                  have f0 := zF.at (s := 113) (i := 18) (by kernel_rfl) (by simp) l0
                  have e0 : vals 18 = .pointer (some ⟨e7, 46, none⟩) := zR 18 l0
                  rw [e0] at f0
                  refine Or.inl ⟨wanted_at (j := 11) (s := 106) rfl rfl rfl fg, ?_⟩
                  exact wp_val (.agg (nw 9 (yN k))) (by simp [go_sem, f0, Hc7]) ⟨_, rfl, Gr.refl _, rfl⟩
                · obtain rfl := Option.some.inj zo
                  have lg := on_of zD 11 (by kernel_rfl)
                  have fg := zF.at (s := 106) (i := 11) (by kernel_rfl) (by simp) lg
                  rw [show vals 11 = .bool true from zR 11 lg] at fg
                  have l0 := on_of zD 16 (by kernel_rfl)
                  have f0 := zF.at (s := 111) (i := 16) (by kernel_rfl) (by simp) l0
                  have e0 : vals 16 = .agg (nw 9 (xN k)) := zR 16 l0
                  rw [e0] at f0
                  have l1 := on_of zD 19 (by kernel_rfl)
                  have f1 := zF.at (s := 114) (i := 19) (by kernel_rfl) (by simp) l1
                  have e1 : vals 19 = .agg (nw 9 (yN k)) := zR 19 l1
                  rw [e1] at f1
                  refine Or.inl ⟨wanted_at (j := 11) (s := 106) rfl rfl rfl fg, ?_⟩
                  exact wp_val (.agg (pnt (xN k) (yN k) true)) (by simp [go_sem, f0, f1, buildPn3]) ⟨_, rfl, Gr.refl _, rfl⟩
                · obtain rfl := Option.some.inj zo
                  have lg := on_of zD 11 (by kernel_rfl)
                  have fg := zF.at (s := 106) (i := 11) (by kernel_rfl) (by simp) lg
                  rw [show vals 11 = .bool true from zR 11 lg] at fg
                  have l0 := on_of zD 13 (by kernel_rfl)
                  have f0 := zF.at (s := 108) (i := 13) (by kernel_rfl) (by simp) l0
                  have e0 : vals 13 = .int .i64 (k : Int) := zR 13 l0
                  rw [e0] at f0
                  have l1 := on_of zD 20 (by kernel_rfl)
                  have f1 := zF.at (s := 115) (i := 20) (by kernel_rfl) (by simp) l1
                  have e1 : vals 20 = .agg (pnt (xN k) (yN k) true) := zR 20 l1
                  rw [e1] at f1
                  refine Or.inl ⟨wanted_at (j := 11) (s := 106) rfl rfl rfl fg, ?_⟩
                  exact wp_retz (k := .c (.bool false)) (by simp [go_sem, f0, f1]) (show Calls Try.prog 16 #[.int .i64 (k : Int), .agg (pnt (xN k) (yN k) true)] v7 (Rt (.c (.bool false)) v7) from Rt.c (honi ▸ on13_yes k h1 h2 _ _ true (nN_M k h1 h2).2.2.2.2.1 (nN_M k h1 h2).2.2.2.2.2 _)) (fun u w2 hu hg2 => ⟨_, rfl, hg2, hu⟩)
                · obtain rfl := Option.some.inj zo
                  have lg := on_of zD 11 (by kernel_rfl)
                  have fg := zF.at (s := 106) (i := 11) (by kernel_rfl) (by simp) lg
                  rw [show vals 11 = .bool true from zR 11 lg] at fg
                  have l0 := on_of zD 21 (by kernel_rfl)
                  have f0 := zF.at (s := 116) (i := 21) (by kernel_rfl) (by simp) l0
                  have e0 : vals 21 = .bool false := zR 21 l0
                  rw [e0] at f0
                  refine Or.inl ⟨wanted_at (j := 11) (s := 106) rfl rfl rfl fg, ?_⟩
                  exact wp_val (.bool true) (by simp [go_sem, f0]) ⟨_, rfl, Gr.refl _, rfl⟩
                · obtain rfl := Option.some.inj zo
                  have l0 := on_of zD 11 (by kernel_rfl)
                  have f0 := zF.at (s := 106) (i := 11) (by kernel_rfl) (by simp) l0
                  have e0 : vals 11 = .bool true := zR 11 l0
                  rw [e0] at f0
                  have l1 := on_of zD 22 (by kernel_rfl)
                  have f1 := zF.at (s := 117) (i := 22) (by kernel_rfl) (by simp) l1
                  have e1 : vals 22 = .bool true := zR 22 l1
                  rw [e1] at f1
                  refine Or.inl ⟨wanted_no rfl, ?_⟩
                  exact wp_val (.bool true) (by simp [go_sem, f0, f1]) ⟨_, rfl, Gr.refl _, rfl⟩
                · obtain rfl := Option.some.inj zo
                  have l0 := on_of zD 23 (by kernel_rfl)
                  have f0 := zF.at (s := 118) (i := 23) (by kernel_rfl) (by simp) l0
                  have e0 : vals 23 = .bool true := zR 23 l0
                  rw [e0] at f0
                  refine Or.inl ⟨wanted_no rfl, ?_⟩
                  exact wp_val (.bool true) (by simp [go_sem, f0]) ⟨_, rfl, Gr.refl _, rfl⟩
              case hf7 =>
                intro vals v7 hg zR
                have e13_0 : vals 0 = .int .i64 0 := zR 0 (by simp)
                have e13_1 : vals 1 = .int .i64 0 := zR 1 (by simp)
                have e13_2 : vals 2 = .bool true := zR 2 (by simp)
                have e13_3 : vals 3 = .bool true := zR 3 (by simp)
                have e13_4 : vals 4 = .pointer (some ⟨e7, 0, none⟩) := zR 4 (by simp)
                have e13_5 : vals 5 = .int .i64 (k : Int) := zR 5 (by simp)
                have e13_6 : vals 6 = .agg (pnt (xN k) fv false) := zR 6 (by simp)
                have e13_7 : vals 7 = .bool rr := zR 7 (by simp)
                have e13_8 : vals 8 = .bool rr := zR 8 (by simp)
                have e13_9 : vals 9 = .bool true := zR 9 (by simp)
                have e13_10 : vals 10 = .bool true := zR 10 (by simp)
                have e13_11 : vals 11 = .bool true := zR 11 (by simp)
                have e13_12 : vals 12 = .pointer (some ⟨e7, 0, none⟩) := zR 12 (by simp)
                have e13_13 : vals 13 = .int .i64 (k : Int) := zR 13 (by simp)
                have e13_14 : vals 14 = .pointer (some ⟨e7, 37, none⟩) := zR 14 (by simp)
                have e13_15 : vals 15 = .pointer (some ⟨e7, 37, none⟩) := zR 15 (by simp)
                have e13_16 : vals 16 = .agg (nw 9 (xN k)) := zR 16 (by simp)
                have e13_17 : vals 17 = .pointer (some ⟨e7, 37, none⟩) := zR 17 (by simp)
                have e13_18 : vals 18 = .pointer (some ⟨e7, 46, none⟩) := zR 18 (by simp)
                have e13_19 : vals 19 = .agg (nw 9 (yN k)) := zR 19 (by simp)
                have e13_20 : vals 20 = .agg (pnt (xN k) (yN k) true) := zR 20 (by simp)
                have e13_21 : vals 21 = .bool false := zR 21 (by simp)
                have e13_22 : vals 22 = .bool true := zR 22 (by simp)
                have e13_23 : vals 23 = .bool true := zR 23 (by simp)
                have e13_24 : vals 24 = .bool true := zR 24 (by simp)
                simp only [putFrom, Act.put, List.setIfInBounds_toArray, List.set_cons_zero, List.set_cons_succ, e13_0, e13_1, e13_2, e13_3, e13_4, e13_5, e13_6, e13_7, e13_8, e13_9, e13_10, e13_11, e13_12, e13_13, e13_14, e13_15, e13_16, e13_17, e13_18, e13_19, e13_20, e13_21, e13_22, e13_23, e13_24]
                clear zR e13_0 e13_1 e13_2 e13_3 e13_4 e13_5 e13_6 e13_7 e13_8 e13_9 e13_10 e13_11 e13_12 e13_13 e13_14 e13_15 e13_16 e13_17 e13_18 e13_19 e13_20 e13_21 e13_22 e13_23 e13_24
                replace G := G.trans hg
                replace c7 := c7.gr hg
                replace c10 := c10.gr hg
                replace S9_3 := S9_3.gr hg
                replace S9_6 := S9_6.gr hg
                replace S9_7 := S9_7.gr hg
                replace S9_8 := S9_8.gr hg
                replace S10_5 := S10_5.gr hg
                clear hg
                go_wp2_with fail
                go_ret
                exact ⟨rfl, G⟩
set_option maxRecDepth 100000 in
set_option maxHeartbeats 4000000 in
theorem lcoff_n (id bit : Int) (w : World) : Calls Try.prog 7 #[.int .i64 id, .int .i64 bit, .bool false] w fun e w' => e = .returned (.bool true) ∧ Gr w w' := by
  obtain ⟨u, hu, hu2, hk⟩ := idx_conv id
  have hbd := idx_bd id
  obtain ⟨k, hkk⟩ : ∃ k, idx id = k := ⟨_, rfl⟩
  rw [hkk] at hk hbd
  obtain ⟨h1, h2⟩ := hbd
  have u0 : (0 : Int) ≤ (u : Int) := by omega
  have hk2 : (1 : Int) + (u : Int) % 15 = (k : Int) := by omega
  have hk3 : IntKind.i64.wrap ((u : Int) % 15) = (u : Int) % 15 := by rw [IntKind.wrap_i64]; omega
  have hk4 : IntKind.u64.wrap ((u : Int) % 15) = (u : Int) % 15 := by rw [IntKind.wrap_u64]; omega
  have hk5 : (u : Int).tmod 15 = (u : Int) % 15 := by rw [Int.tmod_eq_emod_of_nonneg (by omega)]
  have k0 : (1 : Int) ≤ (k : Int) := by omega
  have k1 : (k : Int) ≤ 15 := by omega
  have hu3 : id % 18446744073709551616 = (u : Int) := by rw [← hu, IntKind.wrap_u64]
  clear hkk hk
  have HG : Hid (∀ w, Calls Try.prog 9 #[.int .i64 (k : Int)] w fun e w' => e = .returned (.tuple #[.agg (cu (k : Int) (pN k) (aN k) (bN k) (oN k) (xN k) (yN k) (bl (oN k)) (szN k) (lgN k)), .int .i64 0]) ∧ Gr w w') := fun w => get13_yes k h1 h2 w
  have HAW : Hid (∀ w, Calls Try.prog 14 #[] w fun e w' => e = .returned (.bool true) ∧ Gr w w') := fun w => awake13_any w
  have hon := gN_on k h1 h2
  obtain ⟨z1, z2⟩ := szN_bd k h1 h2
  obtain ⟨ub, hub, hub2⟩ := u64_conv bit
  obtain ⟨m, hm⟩ : ∃ m, 8 * szN k = m := ⟨_, rfl⟩
  obtain ⟨i, hi⟩ : ∃ i, ub % m = i := ⟨_, rfl⟩
  have m1 : 8 ≤ m := by omega
  have hi1 : i < m := hi ▸ Nat.mod_lt _ (by omega)
  have hi2 : i < 576 := by omega
  have g1 : (8 : Int) * (szN k : Int) = (m : Int) := by omega
  have g2 : IntKind.i64.wrap (m : Int) = (m : Int) := by rw [IntKind.wrap_i64]; omega
  have g3 : IntKind.u64.wrap (m : Int) = (m : Int) := by rw [IntKind.wrap_u64]; omega
  have g4 : (ub : Int).tmod (m : Int) = (i : Int) := by rw [← hi, Int.tmod_eq_emod_of_nonneg (by omega)]; omega
  have g5 : IntKind.u64.wrap (i : Int) = (i : Int) := by rw [IntKind.wrap_u64]; omega
  have g6 : IntKind.i64.wrap (i : Int) = (i : Int) := by rw [IntKind.wrap_i64]; omega
  have g7 : max (m : Int) 1 = (m : Int) := by omega
  have g8 : ¬ m = 0 := by omega
  obtain ⟨j, hj⟩ : ∃ j, i / 64 = j := ⟨_, rfl⟩
  obtain ⟨tt, ht⟩ : ∃ j, i % 64 = j := ⟨_, rfl⟩
  have j1 : j < 9 := by omega
  have t1 : tt < 64 := by omega
  obtain ⟨wv, hwv⟩ : ∃ x, wd (xN k) j = x := ⟨_, rfl⟩
  obtain ⟨P2, hP2⟩ : ∃ x, 2 ^ tt = x := ⟨_, rfl⟩
  obtain ⟨xv, hxv⟩ : ∃ x, wv ^^^ P2 = x := ⟨_, rfl⟩
  obtain ⟨fv, hfv⟩ : ∃ x, flp (xN k) i = x := ⟨_, rfl⟩
  have hf1 : fv < M := hfv ▸ flp_lt _ _ (nN_M k h1 h2).2.2.2.2.1 hi2
  have hf2 : fv ≠ xN k := hfv ▸ flp_ne _ _
  have hdp := pN_dl k h1 h2
  have hdf : dl fv ≤ 18 := dl_M _ hf1
  have hdy : dl (yN k) ≤ 18 := dl_M _ (nN_M k h1 h2).2.2.2.2.2
  have hcl : (pnt (xN k) (yN k) false)[j]? = some (Value.int .u64 (wv : Int)) := hwv ▸ pnt_atX _ _ j _ j1
  have hfl : (pnt (xN k) (yN k) false).setIfInBounds (j) (.int .u64 (xv : Int)) = pnt fv (yN k) false := by
    rw [← hfv, ← hxv, ← hwv, ← hP2, ← hj, ← ht]; exact pnt_flpX _ _ _ _ hi2
  have hq1 : (i : Int).tdiv 64 = (j : Int) := by rw [Int.tdiv_eq_ediv_of_nonneg (by omega)]; omega
  have hq2 : IntKind.i64.wrap (j : Int) = (j : Int) := by rw [IntKind.wrap_i64]; omega
  have hr1 : (i : Int).tmod 64 = (tt : Int) := by rw [Int.tmod_eq_emod_of_nonneg (by omega)]; omega
  have p1 : P2 < 18446744073709551616 := hP2 ▸ Nat.pow_lt_pow_right (n := 64) (by decide) t1
  have w1 : wv < 18446744073709551616 := hwv ▸ wd_lt _ _
  have hs1 : IntKind.u64.wrap ((2 : Int) ^ tt) = (P2 : Int) := by
    have e : (2 : Int) ^ tt = (P2 : Int) := by rw [← hP2]; simp
    rw [e, IntKind.wrap_u64]; omega
  have hw1 : bits BinOp.xor IntKind.u64 (wv : Int) (P2 : Int) = (xv : Int) := by rw [bits_xor_u64_nat _ _ w1 p1, hxv]
  have hx1 : ¬ (9 : Int) ≤ (j : Int) := by omega
  go_enter Try.func7, Try.ntmps7
  go_upto_region 4 with (first
    | (go_at_call 14; refine (HAW.out _).mono ?_; rintro e WA ⟨rfl, GA⟩)
    | (go_at_call 9; refine (HG.out _).mono ?_; rintro e WB ⟨rfl, GB⟩))
  obtain ⟨e7, he7⟩ : ∃ b, WB.heap.size = b := ⟨_, rfl⟩
  simp only [he7]
  refine gen_w (fun v => Gr w v ∧ Vr v e7 (cu (k : Int) (pN k) (aN k) (bN k) (oN k) (xN k) (yN k) (bl (oN k)) (szN k) (lgN k))) ?_ ?_
  · subst he7
    exact ⟨(GA.trans GB).alloc _, Vr.new WB _ _⟩
  clear he7 GA GB
  rintro v0 ⟨G, c7⟩
  refine wp_region_qS (by kernel_rfl) [.c (.int .i64 bit), .c (.int .u64 (ub : Int)), .c (.pointer (some ⟨e7, 57, none⟩)), .c (.int .i64 (szN k)), .c (.int .i64 (m : Int)), .c (.int .i64 (m : Int)), .c (.int .u64 (m : Int)), .c (.int .u64 (i : Int)), .c (.int .i64 (i : Int)), .c (.int .i64 (i : Int))] ?hs8 ?hf8
  case hs8 =>
    intro listed vals a1 v1 io oo hg zR zF zo zD
    have Hc7 : blk v1 (e7) = cu (k : Int) (pN k) (aN k) (bN k) (oN k) (xN k) (yN k) (bl (oN k)) (szN k) (lgN k) := (hg.blk _ c7.p).trans c7.h
    have Kc7_57 : v1.cell? ⟨e7, 57, none⟩ = some (.int .i64 (szN k)) := by rw [cell_blk, Hc7]; exact cu_57 _ _ _ _ _ _ _ _ _ _
    have zi : io < 10 := by simpa using (Array.getElem?_eq_some_iff.1 zo).1
    obtain rfl | rfl | rfl | rfl | rfl | rfl | rfl | rfl | rfl | rfl := lc10 zi
    · obtain rfl := Option.some.inj zo
      have f0 := zF.old (s := 1) (v := .int .i64 bit) (by kernel_rfl) rfl
      refine Or.inl ⟨wanted_no rfl, ?_⟩
      exact wp_val (.int .i64 bit) (by simp [go_sem, f0]) ⟨_, rfl, Gr.refl _, rfl⟩
    · obtain rfl := Option.some.inj zo
      have l0 := on_of zD 0 (by kernel_rfl)
      have f0 := zF.at (s := 24) (i := 0) (by kernel_rfl) (by simp) l0
      have e0 : vals 0 = .int .i64 bit := zR 0 l0
      rw [e0] at f0
      refine Or.inl ⟨wanted_no rfl, ?_⟩
      exact wp_val (.int .u64 (ub : Int)) (by simp [go_sem, f0, hub]) ⟨_, rfl, Gr.refl _, rfl⟩
    · obtain rfl := Option.some.inj zo
      have f0 := zF.old (s := 7) (v := .pointer (some ⟨e7, 0, none⟩)) (by kernel_rfl) rfl
      refine Or.inl ⟨wanted_no rfl, ?_⟩
      exact wp_val (.pointer (some ⟨e7, 57, none⟩)) (by simp [go_sem, f0]) ⟨_, rfl, Gr.refl _, rfl⟩
    · obtain rfl := Option.some.inj zo
      have l0 := on_of zD 2 (by kernel_rfl)
      have f0 := zF.at (s := 26) (i := 2) (by kernel_rfl) (by simp) l0
      have e0 : vals 2 = .pointer (some ⟨e7, 57, none⟩) := zR 2 l0
      rw [e0] at f0
      refine Or.inl ⟨wanted_no rfl, ?_⟩
      exact wp_val (.int .i64 (szN k)) (by simp [go_sem, f0, Kc7_57]) ⟨_, rfl, Gr.refl _, rfl⟩
    · obtain rfl := Option.some.inj zo
      have l0 := on_of zD 3 (by kernel_rfl)
      have f0 := zF.at (s := 27) (i := 3) (by kernel_rfl) (by simp) l0
      have e0 : vals 3 = .int .i64 (szN k) := zR 3 l0
      rw [e0] at f0
      refine Or.inl ⟨wanted_no rfl, ?_⟩
      exact wp_val (.int .i64 (m : Int)) (by simp [go_sem, f0, g1, g2]) ⟨_, rfl, Gr.refl _, rfl⟩
    · obtain rfl := Option.some.inj zo
      have l0 := on_of zD 4 (by kernel_rfl)
      have f0 := zF.at (s := 28) (i := 4) (by kernel_rfl) (by simp) l0
      have e0 : vals 4 = .int .i64 (m : Int) := zR 4 l0
      rw [e0] at f0
      refine Or.inl ⟨wanted_no rfl, ?_⟩
      exact wp_val (.int .i64 (m : Int)) (by simp [go_sem, f0, g7]) ⟨_, rfl, Gr.refl _, rfl⟩
    · obtain rfl := Option.some.inj zo
      have l0 := on_of zD 5 (by kernel_rfl)
      have f0 := zF.at (s := 29) (i := 5) (by kernel_rfl) (by simp) l0
      have e0 : vals 5 = .int .i64 (m : Int) := zR 5 l0
      rw [e0] at f0
      refine Or.inl ⟨wanted_no rfl, ?_⟩
      exact wp_val (.int .u64 (m : Int)) (by simp [go_sem, f0, g3]) ⟨_, rfl, Gr.refl _, rfl⟩
    · obtain rfl := Option.some.inj zo
      have l0 := on_of zD 1 (by kernel_rfl)
      have f0 := zF.at (s := 25) (i := 1) (by kernel_rfl) (by simp) l0
      have e0 : vals 1 = .int .u64 (ub : Int) := zR 1 l0
      rw [e0] at f0
      have l1 := on_of zD 6 (by kernel_rfl)
      have f1 := zF.at (s := 30) (i := 6) (by kernel_rfl) (by simp) l1
      have e1 : vals 6 = .int .u64 (m : Int) := zR 6 l1
      rw [e1] at f1
      refine Or.inl ⟨wanted_no rfl, ?_⟩
      exact wp_val (.int .u64 (i : Int)) (by simp [go_sem, f0, f1, g4, g8]) ⟨_, rfl, Gr.refl _, rfl⟩
    · obtain rfl := Option.some.inj zo
      have l0 := on_of zD 7 (by kernel_rfl)
      have f0 := zF.at (s := 31) (i := 7) (by kernel_rfl) (by simp) l0
      have e0 : vals 7 = .int .u64 (i : Int) := zR 7 l0
      rw [e0] at f0
      refine Or.inl ⟨wanted_no rfl, ?_⟩
      exact wp_val (.int .i64 (i : Int)) (by simp [go_sem, f0, g6]) ⟨_, rfl, Gr.refl _, rfl⟩
    · obtain rfl := Option.some.inj zo
      have l0 := on_of zD 8 (by kernel_rfl)
      have f0 := zF.at (s := 32) (i := 8) (by kernel_rfl) (by simp) l0
      have e0 : vals 8 = .int .i64 (i : Int) := zR 8 l0
      rw [e0] at f0
      refine Or.inl ⟨wanted_no rfl, ?_⟩
      exact wp_val (.int .i64 (i : Int)) (by simp [go_sem, f0]) ⟨_, rfl, Gr.refl _, rfl⟩
  case hf8 =>
    intro vals v1 hg zR
    have e4_0 : vals 0 = .int .i64 bit := zR 0 (by simp)
    have e4_1 : vals 1 = .int .u64 (ub : Int) := zR 1 (by simp)
    have e4_2 : vals 2 = .pointer (some ⟨e7, 57, none⟩) := zR 2 (by simp)
    have e4_3 : vals 3 = .int .i64 (szN k) := zR 3 (by simp)
    have e4_4 : vals 4 = .int .i64 (m : Int) := zR 4 (by simp)
    have e4_5 : vals 5 = .int .i64 (m : Int) := zR 5 (by simp)
    have e4_6 : vals 6 = .int .u64 (m : Int) := zR 6 (by simp)
    have e4_7 : vals 7 = .int .u64 (i : Int) := zR 7 (by simp)
    have e4_8 : vals 8 = .int .i64 (i : Int) := zR 8 (by simp)
    have e4_9 : vals 9 = .int .i64 (i : Int) := zR 9 (by simp)
    simp only [putFrom, Act.put, List.setIfInBounds_toArray, List.set_cons_zero, List.set_cons_succ, e4_0, e4_1, e4_2, e4_3, e4_4, e4_5, e4_6, e4_7, e4_8, e4_9]
    clear zR e4_0 e4_1 e4_2 e4_3 e4_4 e4_5 e4_6 e4_7 e4_8 e4_9
    replace G := G.trans hg
    replace c7 := c7.gr hg
    clear hg
    have q7 : e7 + 1 ≤ v1.heap.size := c7.p
    have qw : w.heap.size ≤ v1.heap.size := G.below.size
    go_upto_region 5 with fail
    refine wp_region_qTS (by kernel_rfl) 3 (by kernel_rfl) [.c (.pointer (some ⟨e7, 37, none⟩)), .c (.agg (pnt (xN k) (yN k) false)), .v (v1.heap.size) (pnt 0 0 false)] ?hs9 ?hf9
    case hs9 =>
      intro listed vals a1 v2 io oo hg zR zF zo zi zD
      have Hc7 : blk v2 (e7) = cu (k : Int) (pN k) (aN k) (bN k) (oN k) (xN k) (yN k) (bl (oN k)) (szN k) (lgN k) := (hg.blk _ c7.p).trans c7.h
      obtain rfl | rfl | rfl := lc3 zi
      · obtain rfl := Option.some.inj zo
        have f0 := zF.old (s := 7) (v := .pointer (some ⟨e7, 0, none⟩)) (by kernel_rfl) rfl
        refine Or.inl ⟨wanted_no rfl, ?_⟩
        exact wp_val (.pointer (some ⟨e7, 37, none⟩)) (by simp [go_sem, f0]) ⟨_, rfl, Gr.refl _, rfl⟩
      · obtain rfl := Option.some.inj zo
        have l0 := on_of zD 0 (by kernel_rfl)
        have f0 := zF.at (s := 33) (i := 0) (by kernel_rfl) (by simp) l0
        have e0 : vals 0 = .pointer (some ⟨e7, 37, none⟩) := zR 0 l0
        rw [e0] at f0
        refine Or.inl ⟨wanted_no rfl, ?_⟩
        exact wp_val (.agg (pnt (xN k) (yN k) false)) (by simp [go_sem, f0, Hc7]) ⟨_, rfl, Gr.refl _, rfl⟩
      · obtain rfl := Option.some.inj zo
        refine Or.inl ⟨wanted_no rfl, ?_⟩
        exact wp_val (.pointer (some ⟨v2.heap.size, 0, none⟩)) (w' := v2.alloc (.cells (pnt 0 0 false) 27)) (by simp [go_sem]) ⟨_, rfl, (Gr.refl _).alloc _, v2.heap.size, rfl, hg.below.size, Vr.new _ _ _⟩
    case hf9 =>
      intro listed vals a1 v2 oo hg zR zF zA zo
      obtain rfl := Option.some.inj zo
      have l5_2 := zA 2 (by decide)
      have f5_2 := zF.at (s := 10) (i := 2) (by kernel_rfl) (by simp) l5_2
      obtain ⟨b5_2, e5_2, N5_2, V5_2⟩ := (show ∃ b, vals 2 = Value.pointer (some ⟨b, 0, none⟩) ∧ (v1.heap.size) ≤ b ∧ Vr v2 b (pnt 0 0 false) from zR 2 (by decide))
      rw [e5_2] at f5_2
      have l5_1 := zA 1 (by decide)
      have f5_1 := zF.at (s := 34) (i := 1) (by kernel_rfl) (by simp) l5_1
      have e5_1 : vals 1 = .agg (pnt (xN k) (yN k) false) := zR 1 (by decide)
      rw [e5_1] at f5_1
      have HT := V5_2.h
      have FT := V5_2.f
      refine wp_skip (w' := setBlk v2 (b5_2) (pnt (xN k) (yN k) false)) (by simp [go_sem, f5_2, f5_1, HT, FT]) ⟨rfl, ?_⟩
      have e5_0 : vals 0 = .pointer (some ⟨e7, 37, none⟩) := zR 0 (by decide)
      simp only [putFrom, Act.put, List.setIfInBounds_toArray, List.set_cons_zero, List.set_cons_succ, e5_0, e5_1, e5_2]
      clear zR zF zA e5_0 e5_1 e5_2
      replace G := G.trans hg
      replace c7 := c7.gr hg
      clear hg
      have ne7 : b5_2 ≠ e7 := by omega
      have lo10 : w.heap.size ≤ b5_2 := by omega
      go_upto_region 8 with fail
      refine gen_w (fun u => Gr w u ∧ Vr u e7 (cu (k : Int) (pN k) (aN k) (bN k) (oN k) (xN k) (yN k) (bl (oN k)) (szN k) (lgN k)) ∧ Vr u (b5_2) (pnt (xN k) (yN k) false)) ⟨gr_setNew G lo10, c7.other ne7, V5_2.set (by rw [pnt_size]; decide) _⟩ ?_
      clear HT FT G c7
      rintro u5 ⟨G, c7, c10⟩
      refine wp_region_qT (by kernel_rfl) (by kernel_rfl) 15 (by kernel_rfl) [.c (.int .i64 (i : Int)), .c (.int .i64 (j : Int)), .c (.int .i64 (i : Int)), .c (.int .i64 (j : Int)), .c (.pointer (some ⟨b5_2, 0, none⟩)), .c (.pointer (some ⟨b5_2, 0, none⟩)), .c (.pointer (some ⟨b5_2, j, none⟩)), .c (.int .u64 (wv : Int)), .c (.int .i64 (i : Int)), .c (.int .i64 (tt : Int)), .c (.int .u64 (P2 : Int)), .c (.int .u64 (xv : Int)), .c (.pointer (some ⟨b5_2, 0, none⟩)), .c (.pointer (some ⟨b5_2, 0, none⟩)), .c (.pointer (some ⟨b5_2, j, none⟩))] ?hs10 ?hf10
      case hs10 =>
        intro listed vals a1 v3 io oo hg zR zF zo zi zD
        have Hc10 : blk v3 (b5_2) = pnt (xN k) (yN k) false := (hg.blk _ c10.p).trans c10.h
        obtain rfl | rfl | rfl | rfl | rfl | rfl | rfl | rfl | rfl | rfl | rfl | rfl | rfl | rfl | rfl := lc15 zi
        · obtain rfl := Option.some.inj zo
          have f0 := zF.old (s := 9) (v := .int .i64 (i : Int)) (by kernel_rfl) rfl
          refine Or.inl ⟨wanted_no rfl, ?_⟩
          exact wp_val (.int .i64 (i : Int)) (by simp [go_sem, f0]) ⟨_, rfl, Gr.refl _, rfl⟩
        · obtain rfl := Option.some.inj zo
          have l0 := on_of zD 0 (by kernel_rfl)
          have f0 := zF.at (s := 51) (i := 0) (by kernel_rfl) (by simp) l0
          have e0 : vals 0 = .int .i64 (i : Int) := zR 0 l0
          rw [e0] at f0
          refine Or.inl ⟨wanted_no rfl, ?_⟩
          exact wp_val (.int .i64 (j : Int)) (by simp [go_sem, f0, hq1, hq2]) ⟨_, rfl, Gr.refl _, rfl⟩
        · obtain rfl := Option.some.inj zo
          have f0 := zF.old (s := 9) (v := .int .i64 (i : Int)) (by kernel_rfl) rfl
          refine Or.inl ⟨wanted_no rfl, ?_⟩
          exact wp_val (.int .i64 (i : Int)) (by simp [go_sem, f0]) ⟨_, rfl, Gr.refl _, rfl⟩
        · obtain rfl := Option.some.inj zo
          have l0 := on_of zD 2 (by kernel_rfl)
          have f0 := zF.at (s := 53) (i := 2) (by kernel_rfl) (by simp) l0
          have e0 : vals 2 = .int .i64 (i : Int) := zR 2 l0
          rw [e0] at f0
          refine Or.inl ⟨wanted_no rfl, ?_⟩
          exact wp_val (.int .i64 (j : Int)) (by simp [go_sem, f0, hq1, hq2]) ⟨_, rfl, Gr.refl _, rfl⟩
        · obtain rfl := Option.some.inj zo
          have f0 := zF.old (s := 10) (v := .pointer (some ⟨b5_2, 0, none⟩)) (by kernel_rfl) rfl
          refine Or.inl ⟨wanted_no rfl, ?_⟩
          exact wp_val (.pointer (some ⟨b5_2, 0, none⟩)) (by simp [go_sem, f0]) ⟨_, rfl, Gr.refl _, rfl⟩
        · obtain rfl := Option.some.inj zo
          have l0 := on_of zD 4 (by kernel_rfl)
          have f0 := zF.at (s := 55) (i := 4) (by kernel_rfl) (by simp) l0
          have e0 : vals 4 = .pointer (some ⟨b5_2, 0, none⟩) := zR 4 l0
          rw [e0] at f0
          refine Or.inl ⟨wanted_no rfl, ?_⟩
          exact wp_val (.pointer (some ⟨b5_2, 0, none⟩)) (by simp [go_sem, f0]) ⟨_, rfl, Gr.refl _, rfl⟩
        · obtain rfl := Option.some.inj zo
          have l0 := on_of zD 5 (by kernel_rfl)
          have f0 := zF.at (s := 56) (i := 5) (by kernel_rfl) (by simp) l0
          have e0 : vals 5 = .pointer (some ⟨b5_2, 0, none⟩) := zR 5 l0
          rw [e0] at f0
          have l1 := on_of zD 3 (by kernel_rfl)
          have f1 := zF.at (s := 54) (i := 3) (by kernel_rfl) (by simp) l1
          have e1 : vals 3 = .int .i64 (j : Int) := zR 3 l1
          rw [e1] at f1
          refine Or.inl ⟨wanted_no rfl, ?_⟩
          exact wp_val (.pointer (some ⟨b5_2, j, none⟩)) (by simp [go_sem, f0, f1, hx1]) ⟨_, rfl, Gr.refl _, rfl⟩
        · obtain rfl := Option.some.inj zo
          have l0 := on_of zD 6 (by kernel_rfl)
          have f0 := zF.at (s := 57) (i := 6) (by kernel_rfl) (by simp) l0
          have e0 : vals 6 = .pointer (some ⟨b5_2, j, none⟩) := zR 6 l0
          rw [e0] at f0
          refine Or.inl ⟨wanted_no rfl, ?_⟩
          exact wp_val (.int .u64 (wv : Int)) (by simp [go_sem, f0, cell_blk, Hc10, hcl]) ⟨_, rfl, Gr.refl _, rfl⟩
        · obtain rfl := Option.some.inj zo
          have f0 := zF.old (s := 9) (v := .int .i64 (i : Int)) (by kernel_rfl) rfl
          refine Or.inl ⟨wanted_no rfl, ?_⟩
          exact wp_val (.int .i64 (i : Int)) (by simp [go_sem, f0]) ⟨_, rfl, Gr.refl _, rfl⟩
        · obtain rfl := Option.some.inj zo
          have l0 := on_of zD 8 (by kernel_rfl)
          have f0 := zF.at (s := 59) (i := 8) (by kernel_rfl) (by simp) l0
          have e0 : vals 8 = .int .i64 (i : Int) := zR 8 l0
          rw [e0] at f0
          refine Or.inl ⟨wanted_no rfl, ?_⟩
          exact wp_val (.int .i64 (tt : Int)) (by simp [go_sem, f0, hr1]) ⟨_, rfl, Gr.refl _, rfl⟩
        · obtain rfl := Option.some.inj zo
          have l0 := on_of zD 9 (by kernel_rfl)
          have f0 := zF.at (s := 60) (i := 9) (by kernel_rfl) (by simp) l0
          have e0 : vals 9 = .int .i64 (tt : Int) := zR 9 l0
          rw [e0] at f0
          refine Or.inl ⟨wanted_no rfl, ?_⟩
          exact wp_val (.int .u64 (P2 : Int)) (by simp [go_sem, f0, hs1]) ⟨_, rfl, Gr.refl _, rfl⟩
        · obtain rfl := Option.some.inj zo
          have l0 := on_of zD 7 (by kernel_rfl)
          have f0 := zF.at (s := 58) (i := 7) (by kernel_rfl) (by simp) l0
          have e0 : vals 7 = .int .u64 (wv : Int) := zR 7 l0
          rw [e0] at f0
          have l1 := on_of zD 10 (by kernel_rfl)
          have f1 := zF.at (s := 61) (i := 10) (by kernel_rfl) (by simp) l1
          have e1 : vals 10 = .int .u64 (P2 : Int) := zR 10 l1
          rw [e1] at f1
          refine Or.inl ⟨wanted_no rfl, ?_⟩
          exact wp_val (.int .u64 (xv : Int)) (by simp [go_sem, f0, f1, hw1]) ⟨_, rfl, Gr.refl _, rfl⟩
        · obtain rfl := Option.some.inj zo
          have f0 := zF.old (s := 10) (v := .pointer (some ⟨b5_2, 0, none⟩)) (by kernel_rfl) rfl
          refine Or.inl ⟨wanted_no rfl, ?_⟩
          exact wp_val (.pointer (some ⟨b5_2, 0, none⟩)) (by simp [go_sem, f0]) ⟨_, rfl, Gr.refl _, rfl⟩
        · obtain rfl := Option.some.inj zo
          have l0 := on_of zD 12 (by kernel_rfl)
          have f0 := zF.at (s := 63) (i := 12) (by kernel_rfl) (by simp) l0
          have e0 : vals 12 = .pointer (some ⟨b5_2, 0, none⟩) := zR 12 l0
          rw [e0] at f0
          refine Or.inl ⟨wanted_no rfl, ?_⟩
          exact wp_val (.pointer (some ⟨b5_2, 0, none⟩)) (by simp [go_sem, f0]) ⟨_, rfl, Gr.refl _, rfl⟩
        · obtain rfl := Option.some.inj zo
          have l0 := on_of zD 13 (by kernel_rfl)
          have f0 := zF.at (s := 64) (i := 13) (by kernel_rfl) (by simp) l0
          have e0 : vals 13 = .pointer (some ⟨b5_2, 0, none⟩) := zR 13 l0
          rw [e0] at f0
          have l1 := on_of zD 1 (by kernel_rfl)
          have f1 := zF.at (s := 52) (i := 1) (by kernel_rfl) (by simp) l1
          have e1 : vals 1 = .int .i64 (j : Int) := zR 1 l1
          rw [e1] at f1
          refine Or.inl ⟨wanted_no rfl, ?_⟩
          exact wp_val (.pointer (some ⟨b5_2, j, none⟩)) (by simp [go_sem, f0, f1, hx1]) ⟨_, rfl, Gr.refl _, rfl⟩
      case hf10 =>
        intro listed vals a1 v3 oo hg zR zF zA zo
        obtain rfl := Option.some.inj zo
        have l8_14 := zA 14 (by decide)
        have f8_14 := zF.at (s := 65) (i := 14) (by kernel_rfl) (by simp) l8_14
        have e8_14 : vals 14 = .pointer (some ⟨b5_2, j, none⟩) := zR 14 (by decide)
        rw [e8_14] at f8_14
        have l8_11 := zA 11 (by decide)
        have f8_11 := zF.at (s := 62) (i := 11) (by kernel_rfl) (by simp) l8_11
        have e8_11 : vals 11 = .int .u64 (xv : Int) := zR 11 (by decide)
        rw [e8_11] at f8_11
        have HT := (c10.gr hg).h
        have FT := (c10.gr hg).f
        refine wp_skip (w' := setBlk v3 (b5_2) (pnt fv (yN k) false)) (by simp [go_sem, f8_14, f8_11, HT, cell_blk, setCell_setBlk, hcl, hfl, frozen_frz _ _ _ FT]) ⟨rfl, ?_⟩
        have e8_0 : vals 0 = .int .i64 (i : Int) := zR 0 (by decide)
        have e8_1 : vals 1 = .int .i64 (j : Int) := zR 1 (by decide)
        have e8_2 : vals 2 = .int .i64 (i : Int) := zR 2 (by decide)
        have e8_3 : vals 3 = .int .i64 (j : Int) := zR 3 (by decide)
        have e8_4 : vals 4 = .pointer (some ⟨b5_2, 0, none⟩) := zR 4 (by decide)
        have e8_5 : vals 5 = .pointer (some ⟨b5_2, 0, none⟩) := zR 5 (by decide)
        have e8_6 : vals 6 = .pointer (some ⟨b5_2, j, none⟩) := zR 6 (by decide)
        have e8_7 : vals 7 = .int .u64 (wv : Int) := zR 7 (by decide)
        have e8_8 : vals 8 = .int .i64 (i : Int) := zR 8 (by decide)
        have e8_9 : vals 9 = .int .i64 (tt : Int) := zR 9 (by decide)
        have e8_10 : vals 10 = .int .u64 (P2 : Int) := zR 10 (by decide)
        have e8_12 : vals 12 = .pointer (some ⟨b5_2, 0, none⟩) := zR 12 (by decide)
        have e8_13 : vals 13 = .pointer (some ⟨b5_2, 0, none⟩) := zR 13 (by decide)
        simp only [putFrom, Act.put, List.setIfInBounds_toArray, List.set_cons_zero, List.set_cons_succ, e8_0, e8_1, e8_2, e8_3, e8_4, e8_5, e8_6, e8_7, e8_8, e8_9, e8_10, e8_11, e8_12, e8_13, e8_14]
        clear zR zF zA e8_0 e8_1 e8_2 e8_3 e8_4 e8_5 e8_6 e8_7 e8_8 e8_9 e8_10 e8_11 e8_12 e8_13 e8_14
        replace G := G.trans hg
        replace c7 := c7.gr hg
        replace c10 := c10.gr hg
        clear hg
        go_upto_region 9 with fail
        refine gen_w (fun u => Gr w u ∧ Vr u e7 (cu (k : Int) (pN k) (aN k) (bN k) (oN k) (xN k) (yN k) (bl (oN k)) (szN k) (lgN k)) ∧ Vr u (b5_2) (pnt fv (yN k) false)) ⟨gr_setNew G lo10, c7.other ne7, c10.set (by rw [pnt_size]; decide) _⟩ ?_
        clear HT FT G c7 c10 hcl hfl hxv hwv hP2 hw1 hs1 p1 w1 hq1 hq2 hr1 hx1 hj ht j1 t1
        rintro u8 ⟨G, c7, c10⟩
        refine wp_region_q (by kernel_rfl) (by kernel_rfl) [.c (.pointer (some ⟨e7, 37, none⟩)), .c (.pointer (some ⟨e7, 46, none⟩)), .c (.agg (nw 9 (yN k))), .n (yN k), .c (.pointer (some ⟨b5_2, 9, none⟩)), .c (.agg (nw 9 (yN k))), .n (yN k), .n (yN k + yN k), .n (yN k + yN k)] ?hs11 ?hf11
        case hs11 =>
          intro listed vals a1 v4 io oo hg zR zF zo zD
          have Hc7 : blk v4 (e7) = cu (k : Int) (pN k) (aN k) (bN k) (oN k) (xN k) (yN k) (bl (oN k)) (szN k) (lgN k) := (hg.blk _ c7.p).trans c7.h
          have Hc10 : blk v4 (b5_2) = pnt fv (yN k) false := (hg.blk _ c10.p).trans c10.h
          have zi : io < 9 := by simpa using (Array.getElem?_eq_some_iff.1 zo).1
          obtain rfl | rfl | rfl | rfl | rfl | rfl | rfl | rfl | rfl := lc9 zi
          · obtain rfl := Option.some.inj zo
            have f0 := zF.old (s := 7) (v := .pointer (some ⟨e7, 0, none⟩)) (by kernel_rfl) rfl
            refine Or.inl ⟨wanted_no rfl, ?_⟩
            exact wp_val (.pointer (some ⟨e7, 37, none⟩)) (by simp [go_sem, f0]) ⟨_, rfl, Gr.refl _, rfl⟩
          · obtain rfl := Option.some.inj zo
            have l0 := on_of zD 0 (by kernel_rfl)
            have f0 := zF.at (s := 66) (i := 0) (by kernel_rfl) (by simp) l0
            have e0 : vals 0 = .pointer (some ⟨e7, 37, none⟩) := zR 0 l0
            rw [e0] at f0
            refine Or.inl ⟨wanted_no rfl, ?_⟩
            exact wp_val (.pointer (some ⟨e7, 46, none⟩)) (by simp [go_sem, f0]) ⟨_, rfl, Gr.refl _, rfl⟩
          · obtain rfl := Option.some.inj zo
            have l0 := on_of zD 1 (by kernel_rfl)
            have f0 := zF.at (s := 67) (i := 1) (by kernel_rfl) (by simp) l0
            have e0 : vals 1 = .pointer (some ⟨e7, 46, none⟩) := zR 1 l0
            rw [e0] at f0
            refine Or.inl ⟨wanted_no rfl, ?_⟩
            exact wp_val (.agg (nw 9 (yN k))) (by simp [go_sem, f0, Hc7]) ⟨_, rfl, Gr.refl _, rfl⟩
          · obtain rfl := Option.some.inj zo
            have l0 := on_of zD 2 (by kernel_rfl)
            have f0 := zF.at (s := 68) (i := 2) (by kernel_rfl) (by simp) l0
            have e0 : vals 2 = .agg (nw 9 (yN k)) := zR 2 l0
            rw [e0] at f0
            refine Or.inl ⟨wanted_no rfl, ?_⟩
            exact wp_retz (k := .n (yN k)) (by simp [go_sem, f0]) (show Calls Try.prog 20 #[.agg (nw 9 (yN k))] v4 (Rt (.n (yN k)) v4) from fm_any (nN_M k h1 h2).2.2.2.2.2) (fun u w2 hu hg2 => ⟨_, rfl, hg2, hu⟩)
          · obtain rfl := Option.some.inj zo
            have f0 := zF.old (s := 10) (v := .pointer (some ⟨b5_2, 0, none⟩)) (by kernel_rfl) rfl
            refine Or.inl ⟨wanted_no rfl, ?_⟩
            exact wp_val (.pointer (some ⟨b5_2, 9, none⟩)) (by simp [go_sem, f0]) ⟨_, rfl, Gr.refl _, rfl⟩
          · obtain rfl := Option.some.inj zo
            have l0 := on_of zD 4 (by kernel_rfl)
            have f0 := zF.at (s := 70) (i := 4) (by kernel_rfl) (by simp) l0
            have e0 : vals 4 = .pointer (some ⟨b5_2, 9, none⟩) := zR 4 l0
            rw [e0] at f0
            refine Or.inl ⟨wanted_no rfl, ?_⟩
            exact wp_val (.agg (nw 9 (yN k))) (by simp [go_sem, f0, Hc10]) ⟨_, rfl, Gr.refl _, rfl⟩
          · obtain rfl := Option.some.inj zo
            have l0 := on_of zD 5 (by kernel_rfl)
            have f0 := zF.at (s := 71) (i := 5) (by kernel_rfl) (by simp) l0
            have e0 : vals 5 = .agg (nw 9 (yN k)) := zR 5 l0
            rw [e0] at f0
            refine Or.inl ⟨wanted_no rfl, ?_⟩
            exact wp_retz (k := .n (yN k)) (by simp [go_sem, f0]) (show Calls Try.prog 20 #[.agg (nw 9 (yN k))] v4 (Rt (.n (yN k)) v4) from fm_any (nN_M k h1 h2).2.2.2.2.2) (fun u w2 hu hg2 => ⟨_, rfl, hg2, hu⟩)
          · obtain rfl := Option.some.inj zo
            have l0 := on_of zD 3 (by kernel_rfl)
            have f0 := zF.at (s := 69) (i := 3) (by kernel_rfl) (by simp) l0
            obtain ⟨p0, n0, e0, S0⟩ := (show ∃ p n, vals 3 = .slice p (dl (yN k)) n ∧ Sl v4 p (yN k) from zR 3 l0)
            rw [e0] at f0
            have l1 := on_of zD 6 (by kernel_rfl)
            have f1 := zF.at (s := 72) (i := 6) (by kernel_rfl) (by simp) l1
            obtain ⟨p1, n1, e1, S1⟩ := (show ∃ p n, vals 6 = .slice p (dl (yN k)) n ∧ Sl v4 p (yN k) from zR 6 l1)
            rw [e1] at f1
            refine Or.inl ⟨wanted_no rfl, ?_⟩
            exact wp_retz (k := .n (yN k + yN k)) (by simp [go_sem, f0, f1]) (show Calls Try.prog 30 #[.slice p0 (dl (yN k)) n0, .slice p1 (dl (yN k)) n1] v4 (Rt (.n (yN k + yN k)) v4) from Rt.n (radd_any _ _ _ _ _ _ _ S0 S1 (by omega) (by omega))) (fun u w2 hu hg2 => ⟨_, rfl, hg2, hu⟩)
          · obtain rfl := Option.some.inj zo
            have l0 := on_of zD 7 (by kernel_rfl)
            have f0 := zF.at (s := 73) (i := 7) (by kernel_rfl) (by simp) l0
            obtain ⟨p0, n0, e0, S0⟩ := (show ∃ p n, vals 7 = .slice p (dl (yN k + yN k)) n ∧ Sl v4 p (yN k + yN k) from zR 7 l0)
            rw [e0] at f0
            refine Or.inl ⟨wanted_no rfl, ?_⟩
            exact wp_val (.slice p0 (dl (yN k + yN k)) n0) (by simp [go_sem, f0]) ⟨_, rfl, Gr.refl _, ⟨_, _, rfl, S0⟩⟩
        case hf11 =>
          intro vals v4 hg zR
          have e9_0 : vals 0 = .pointer (some ⟨e7, 37, none⟩) := zR 0 (by simp)
          have e9_1 : vals 1 = .pointer (some ⟨e7, 46, none⟩) := zR 1 (by simp)
          have e9_2 : vals 2 = .agg (nw 9 (yN k)) := zR 2 (by simp)
          obtain ⟨p9_3, n9_3, e9_3, S9_3⟩ := (show ∃ p n, vals 3 = .slice p (dl (yN k)) n ∧ Sl v4 p (yN k) from zR 3 (by simp))
          have e9_4 : vals 4 = .pointer (some ⟨b5_2, 9, none⟩) := zR 4 (by simp)
          have e9_5 : vals 5 = .agg (nw 9 (yN k)) := zR 5 (by simp)
          obtain ⟨p9_6, n9_6, e9_6, S9_6⟩ := (show ∃ p n, vals 6 = .slice p (dl (yN k)) n ∧ Sl v4 p (yN k) from zR 6 (by simp))
          obtain ⟨p9_7, n9_7, e9_7, S9_7⟩ := (show ∃ p n, vals 7 = .slice p (dl (yN k + yN k)) n ∧ Sl v4 p (yN k + yN k) from zR 7 (by simp))
          obtain ⟨p9_8, n9_8, e9_8, S9_8⟩ := (show ∃ p n, vals 8 = .slice p (dl (yN k + yN k)) n ∧ Sl v4 p (yN k + yN k) from zR 8 (by simp))
          simp only [putFrom, Act.put, List.setIfInBounds_toArray, List.set_cons_zero, List.set_cons_succ, e9_0, e9_1, e9_2, e9_3, e9_4, e9_5, e9_6, e9_7, e9_8]
          clear zR e9_0 e9_1 e9_2 e9_3 e9_4 e9_5 e9_6 e9_7 e9_8
          replace G := G.trans hg
          replace c7 := c7.gr hg
          replace c10 := c10.gr hg
          clear hg
          go_upto_region 10 with fail
          refine wp_region_qS (by kernel_rfl) [.c (.bool false), .c (.bool false), .top, .top, .top, .top, .top, .top, .c (.bool false), .c (.bool false)] ?hs12 ?hf12
          case hs12 =>
            intro listed vals a1 v5 io oo hg zR zF zo zD
            have zi : io < 10 := by simpa using (Array.getElem?_eq_some_iff.1 zo).1
            obtain rfl | rfl | rfl | rfl | rfl | rfl | rfl | rfl | rfl | rfl := lc10 zi
            · obtain rfl := Option.some.inj zo
              have f0 := zF.old (s := 2) (v := .bool false) (by kernel_rfl) rfl
              refine Or.inl ⟨wanted_no rfl, ?_⟩
              exact wp_val (.bool false) (by simp [go_sem, f0]) ⟨_, rfl, Gr.refl _, rfl⟩
            · obtain rfl := Option.some.inj zo
              have l0 := on_of zD 0 (by kernel_rfl)
              have f0 := zF.at (s := 74) (i := 0) (by kernel_rfl) (by simp) l0
              have e0 : vals 0 = .bool false := zR 0 l0
              rw [e0] at f0
              refine Or.inl ⟨wanted_no rfl, ?_⟩
              exact wp_val (.bool false) (by simp [go_sem, f0]) ⟨_, rfl, Gr.refl _, rfl⟩
            · obtain rfl := Option.some.inj zo
              have lg := on_of zD 1 (by kernel_rfl)
              have fg := zF.at (s := 75) (i := 1) (by kernel_rfl) (by simp) lg
              rw [show vals 1 = .bool false from zR 1 lg] at fg
              exact Or.inr ⟨unwanted_at (j := 1) (s := 75) rfl rfl rfl fg (by decide), trivial⟩
            · obtain rfl := Option.some.inj zo
              have lg := on_of zD 1 (by kernel_rfl)
              have fg := zF.at (s := 75) (i := 1) (by kernel_rfl) (by simp) lg
              rw [show vals 1 = .bool false from zR 1 lg] at fg
              exact Or.inr ⟨unwanted_at (j := 1) (s := 75) rfl rfl rfl fg (by decide), trivial⟩
            · obtain rfl := Option.some.inj zo
              have lg := on_of zD 1 (by kernel_rfl)
              have fg := zF.at (s := 75) (i := 1) (by kernel_rfl) (by simp) lg
              rw [show vals 1 = .bool false from zR 1 lg] at fg
              exact Or.inr ⟨unwanted_at (j := 1) (s := 75) rfl rfl rfl fg (by decide), trivial⟩
            · obtain rfl := Option.some.inj zo
              have lg := on_of zD 1 (by kernel_rfl)
              have fg := zF.at (s := 75) (i := 1) (by kernel_rfl) (by simp) lg
              rw [show vals 1 = .bool false from zR 1 lg] at fg
              exact Or.inr ⟨unwanted_at (j := 1) (s := 75) rfl rfl rfl fg (by decide), trivial⟩
            · obtain rfl := Option.some.inj zo
              have lg := on_of zD 1 (by kernel_rfl)
              have fg := zF.at (s := 75) (i := 1) (by kernel_rfl) (by simp) lg
              rw [show vals 1 = .bool false from zR 1 lg] at fg
              exact Or.inr ⟨unwanted_at (j := 1) (s := 75) rfl rfl rfl fg (by decide), trivial⟩
            · obtain rfl := Option.some.inj zo
              have lg := on_of zD 1 (by kernel_rfl)
              have fg := zF.at (s := 75) (i := 1) (by kernel_rfl) (by simp) lg
              rw [show vals 1 = .bool false from zR 1 lg] at fg
              exact Or.inr ⟨unwanted_at (j := 1) (s := 75) rfl rfl rfl fg (by decide), trivial⟩
            · obtain rfl := Option.some.inj zo
              have l0 := on_of zD 1 (by kernel_rfl)
              have f0 := zF.at (s := 75) (i := 1) (by kernel_rfl) (by simp) l0
              have e0 : vals 1 = .bool false := zR 1 l0
              rw [e0] at f0
              have l1 := on_of zD 7 (by kernel_rfl)
              have f1 := zF.at (s := 81) (i := 7) (by kernel_rfl) (by simp) l1
              refine Or.inl ⟨wanted_no rfl, ?_⟩
              exact wp_val (.bool false) (by simp [go_sem, f0, f1]) ⟨_, rfl, Gr.refl _, rfl⟩
            · obtain rfl := Option.some.inj zo
              have l0 := on_of zD 8 (by kernel_rfl)
              have f0 := zF.at (s := 82) (i := 8) (by kernel_rfl) (by simp) l0
              have e0 : vals 8 = .bool false := zR 8 l0
              rw [e0] at f0
              refine Or.inl ⟨wanted_no rfl, ?_⟩
              exact wp_val (.bool false) (by simp [go_sem, f0]) ⟨_, rfl, Gr.refl _, rfl⟩
          case hf12 =>
            intro vals v5 hg zR
            have e10_0 : vals 0 = .bool false := zR 0 (by simp)
            have e10_1 : vals 1 = .bool false := zR 1 (by simp)
            have e10_8 : vals 8 = .bool false := zR 8 (by simp)
            have e10_9 : vals 9 = .bool false := zR 9 (by simp)
            simp only [putFrom, Act.put, List.setIfInBounds_toArray, List.set_cons_zero, List.set_cons_succ, e10_0, e10_1, e10_8, e10_9]
            clear zR e10_0 e10_1 e10_8 e10_9
            replace G := G.trans hg
            replace c7 := c7.gr hg
            replace c10 := c10.gr hg
            replace S9_3 := S9_3.gr hg
            replace S9_6 := S9_6.gr hg
            replace S9_7 := S9_7.gr hg
            replace S9_8 := S9_8.gr hg
            clear hg
            go_upto_region 11 with fail
            refine wp_region_qS (by kernel_rfl) [.c (.bool false), .c (.bool true)] ?hs13 ?hf13
            case hs13 =>
              intro listed vals a1 v6 io oo hg zR zF zo zD
              have zi : io < 2 := by simpa using (Array.getElem?_eq_some_iff.1 zo).1
              obtain rfl | rfl := lc2 zi
              · obtain rfl := Option.some.inj zo
                have f0 := zF.old (s := 2) (v := .bool false) (by kernel_rfl) rfl
                refine Or.inl ⟨wanted_no rfl, ?_⟩
                exact wp_val (.bool false) (by simp [go_sem, f0]) ⟨_, rfl, Gr.refl _, rfl⟩
              · obtain rfl := Option.some.inj zo
                have l0 := on_of zD 0 (by kernel_rfl)
                have f0 := zF.at (s := 83) (i := 0) (by kernel_rfl) (by simp) l0
                have e0 : vals 0 = .bool false := zR 0 l0
                rw [e0] at f0
                refine Or.inl ⟨wanted_no rfl, ?_⟩
                exact wp_val (.bool true) (by simp [go_sem, f0]) ⟨_, rfl, Gr.refl _, rfl⟩
            case hf13 =>
              intro vals v6 hg zR
              have e11_0 : vals 0 = .bool false := zR 0 (by simp)
              have e11_1 : vals 1 = .bool true := zR 1 (by simp)
              simp only [putFrom, Act.put, List.setIfInBounds_toArray, List.set_cons_zero, List.set_cons_succ, e11_0, e11_1]
              clear zR e11_0 e11_1
              replace G := G.trans hg
              replace c7 := c7.gr hg
              replace c10 := c10.gr hg
              replace S9_3 := S9_3.gr hg
              replace S9_6 := S9_6.gr hg
              replace S9_7 := S9_7.gr hg
              replace S9_8 := S9_8.gr hg
              clear hg
              go_upto_region 12 with fail
              refine wp_region_qS (by kernel_rfl) [.c (.int .i64 0), .c (.int .i64 0), .c (.bool true), .c (.bool true), .c (.pointer (some ⟨e7, 0, none⟩)), .c (.int .i64 (k : Int)), .c (.pointer (some ⟨e7, 37, none⟩)), .c (.agg (pnt (xN k) (yN k) false)), .c (.bool true), .c (.bool true), .c (.bool true)] ?hs14 ?hf14
              case hs14 =>
                intro listed vals a1 v7 io oo hg zR zF zo zD
                have Hc7 : blk v7 (e7) = cu (k : Int) (pN k) (aN k) (bN k) (oN k) (xN k) (yN k) (bl (oN k)) (szN k) (lgN k) := (hg.blk _ c7.p).trans c7.h
                have Kc7_0 : v7.cell? ⟨e7, 0, none⟩ = some (.int .i64 (k : Int)) := by rw [cell_blk, Hc7]; exact cu_0 _ _ _ _ _ _ _ _ _ _
                have zi : io < 11 := by simpa using (Array.getElem?_eq_some_iff.1 zo).1
                obtain rfl | rfl | rfl | rfl | rfl | rfl | rfl | rfl | rfl | rfl | rfl := lc11 zi
                · obtain rfl := Option.some.inj zo
                  have f0 := zF.old (s := 8) (v := .int .i64 0) (by kernel_rfl) rfl
                  refine Or.inl ⟨wanted_no rfl, ?_⟩
                  exact wp_val (.int .i64 0) (by simp [go_sem, f0]) ⟨_, rfl, Gr.refl _, rfl⟩
                · obtain rfl := Option.some.inj zo
                  have l0 := on_of zD 0 (by kernel_rfl)
                  have f0 := zF.at (s := 85) (i := 0) (by kernel_rfl) (by simp) l0
                  have e0 : vals 0 = .int .i64 0 := zR 0 l0
                  rw [e0] at f0
                  refine Or.inl ⟨wanted_no rfl, ?_⟩
                  exact wp_retz (k := .c (.int .i64 0)) (by simp [go_sem, f0]) (show Calls Try.prog 13 #[.int .i64 0] v7 (Rt (.c (.int .i64 0)) v7) from Rt.same (num_any _ _)) (fun u w2 hu hg2 => ⟨_, rfl, hg2, hu⟩)
                · obtain rfl := Option.some.inj zo
                  have l0 := on_of zD 1 (by kernel_rfl)
                  have f0 := zF.at (s := 86) (i := 1) (by kernel_rfl) (by simp) l0
                  have e0 : vals 1 = .int .i64 0 := zR 1 l0
                  rw [e0] at f0
                  refine Or.inl ⟨wanted_no rfl, ?_⟩
                  exact wp_val (.bool true) (by simp [go_sem, f0]) ⟨_, rfl, Gr.refl _, rfl⟩
                · obtain rfl := Option.some.inj zo
                  have l0 := on_of zD 2 (by kernel_rfl)
                  have f0 := zF.at (s := 87) (i := 2) (by kernel_rfl) (by simp) l0
                  have e0 : vals 2 = .bool true := zR 2 l0
                  rw [e0] at f0
                  refine Or.inl ⟨wanted_no rfl, ?_⟩
                  exact wp_val (.bool true) (by simp [go_sem, f0]) ⟨_, rfl, Gr.refl _, rfl⟩
                · obtain rfl := Option.some.inj zo
                  have lg := on_of zD 3 (by kernel_rfl)
                  have fg := zF.at (s := 88) (i := 3) (by kernel_rfl) (by simp) lg
                  rw [show vals 3 = .bool true from zR 3 lg] at fg
                  have f0 := zF.old (s := 7) (v := .pointer (some ⟨e7, 0, none⟩)) (by kernel_rfl) rfl
                  refine Or.inl ⟨wanted_at (j := 3) (s := 88) rfl rfl rfl fg, ?_⟩
                  exact wp_val (.pointer (some ⟨e7, 0, none⟩)) (by simp [go_sem, f0]) ⟨_, rfl, Gr.refl _, rfl⟩
                · obtain rfl := Option.some.inj zo
                  have lg := on_of zD 3 (by kernel_rfl)
                  have fg := zF.at (s := 88) (i := 3) (by kernel_rfl) (by simp) lg
                  rw [show vals 3 = .bool true from zR 3 lg] at fg
                  have l0 := on_of zD 4 (by kernel_rfl)
                  have f0 := zF.at (s := 89) (i := 4) (by kernel_rfl) (by simp) l0
                  have e0 : vals 4 = .pointer (some ⟨e7, 0, none⟩) := zR 4 l0
                  rw [e0] at f0
                  refine Or.inl ⟨wanted_at (j := 3) (s := 88) rfl rfl rfl fg, ?_⟩
                  exact wp_val (.int .i64 (k : Int)) (by simp [go_sem, f0, Kc7_0]) ⟨_, rfl, Gr.refl _, rfl⟩
                · obtain rfl := Option.some.inj zo
                  have lg := on_of zD 3 (by kernel_rfl)
                  have fg := zF.at (s := 88) (i := 3) (by kernel_rfl) (by simp) lg
                  rw [show vals 3 = .bool true from zR 3 lg] at fg
                  have f0 := zF.old (s := 7) (v := .pointer (some ⟨e7, 0, none⟩)) (by kernel_rfl) rfl
                  refine Or.inl ⟨wanted_at (j := 3) (s := 88) rfl rfl rfl fg, ?_⟩
                  exact wp_val (.pointer (some ⟨e7, 37, none⟩)) (by simp [go_sem, f0]) ⟨_, rfl, Gr.refl _, rfl⟩
                · obtain rfl := Option.some.inj zo
                  have lg := on_of zD 3 (by kernel_rfl)
                  have fg := zF.at (s := 88) (i := 3) (by kernel_rfl) (by simp) lg
                  rw [show vals 3 = .bool true from zR 3 lg] at fg
                  have l0 := on_of zD 6 (by kernel_rfl)
                  have f0 := zF.at (s := 91) (i := 6) (by kernel_rfl) (by simp) l0
                  have e0 : vals 6 = .pointer (some ⟨e7, 37, none⟩) := zR 6 l0
                  rw [e0] at f0
                  refine Or.inl ⟨wanted_at (j := 3) (s := 88) rfl rfl rfl fg, ?_⟩
                  exact wp_val (.agg (pnt (xN k) (yN k) false)) (by simp [go_sem, f0, Hc7]) ⟨_, rfl, Gr.refl _, rfl⟩
                · obtain rfl := Option.some.inj zo
                  have lg := on_of zD 3 (by kernel_rfl)
                  have fg := zF.at (s := 88) (i := 3) (by kernel_rfl) (by simp) lg
                  rw [show vals 3 = .bool true from zR 3 lg] at fg
                  have l0 := on_of zD 5 (by kernel_rfl)
                  have f0 := zF.at (s := 90) (i := 5) (by kernel_rfl) (by simp) l0
                  have e0 : vals 5 = .int .i64 (k : Int) := zR 5 l0
                  rw [e0] at f0
                  have l1 := on_of zD 7 (by kernel_rfl)
                  have f1 := zF.at (s := 92) (i := 7) (by kernel_rfl) (by simp) l1
                  have e1 : vals 7 = .agg (pnt (xN k) (yN k) false) := zR 7 l1
                  rw [e1] at f1
                  refine Or.inl ⟨wanted_at (j := 3) (s := 88) rfl rfl rfl fg, ?_⟩
                  exact wp_retz (k := .c (.bool true)) (by simp [go_sem, f0, f1]) (show Calls Try.prog 16 #[.int .i64 (k : Int), .agg (pnt (xN k) (yN k) false)] v7 (Rt (.c (.bool true)) v7) from Rt.c (hon ▸ on13_yes k h1 h2 _ _ false (nN_M k h1 h2).2.2.2.2.1 (nN_M k h1 h2).2.2.2.2.2 _)) (fun u w2 hu hg2 => ⟨_, rfl, hg2, hu⟩)
                · obtain rfl := Option.some.inj zo
                  have l0 := on_of zD 3 (by kernel_rfl)
                  have f0 := zF.at (s := 88) (i := 3) (by kernel_rfl) (by simp) l0
                  have e0 : vals 3 = .bool true := zR 3 l0
                  rw [e0] at f0
                  have l1 := on_of zD 8 (by kernel_rfl)
                  have f1 := zF.at (s := 93) (i := 8) (by kernel_rfl) (by simp) l1
                  have e1 : vals 8 = .bool true := zR 8 l1
                  rw [e1] at f1
                  refine Or.inl ⟨wanted_no rfl, ?_⟩
                  exact wp_val (.bool true) (by simp [go_sem, f0, f1]) ⟨_, rfl, Gr.refl _, rfl⟩
                · obtain rfl := Option.some.inj zo
                  have l0 := on_of zD 9 (by kernel_rfl)
                  have f0 := zF.at (s := 94) (i := 9) (by kernel_rfl) (by simp) l0
                  have e0 : vals 9 = .bool true := zR 9 l0
                  rw [e0] at f0
                  refine Or.inl ⟨wanted_no rfl, ?_⟩
                  exact wp_val (.bool true) (by simp [go_sem, f0]) ⟨_, rfl, Gr.refl _, rfl⟩
              case hf14 =>
                intro vals v7 hg zR
                have e12_0 : vals 0 = .int .i64 0 := zR 0 (by simp)
                have e12_1 : vals 1 = .int .i64 0 := zR 1 (by simp)
                have e12_2 : vals 2 = .bool true := zR 2 (by simp)
                have e12_3 : vals 3 = .bool true := zR 3 (by simp)
                have e12_4 : vals 4 = .pointer (some ⟨e7, 0, none⟩) := zR 4 (by simp)
                have e12_5 : vals 5 = .int .i64 (k : Int) := zR 5 (by simp)
                have e12_6 : vals 6 = .pointer (some ⟨e7, 37, none⟩) := zR 6 (by simp)
                have e12_7 : vals 7 = .agg (pnt (xN k) (yN k) false) := zR 7 (by simp)
                have e12_8 : vals 8 = .bool true := zR 8 (by simp)
                have e12_9 : vals 9 = .bool true := zR 9 (by simp)
                have e12_10 : vals 10 = .bool true := zR 10 (by simp)
                simp only [putFrom, Act.put, List.setIfInBounds_toArray, List.set_cons_zero, List.set_cons_succ, e12_0, e12_1, e12_2, e12_3, e12_4, e12_5, e12_6, e12_7, e12_8, e12_9, e12_10]
                clear zR e12_0 e12_1 e12_2 e12_3 e12_4 e12_5 e12_6 e12_7 e12_8 e12_9 e12_10
                replace G := G.trans hg
                replace c7 := c7.gr hg
                replace c10 := c10.gr hg
                replace S9_3 := S9_3.gr hg
                replace S9_6 := S9_6.gr hg
                replace S9_7 := S9_7.gr hg
                replace S9_8 := S9_8.gr hg
                clear hg
                go_wp2_with fail
                go_ret
                exact ⟨rfl, G⟩
theorem lcoff_any (id bit : Int) (y : Bool) (w : World) : Calls Try.prog 7 #[.int .i64 id, .int .i64 bit, .bool y] w fun e w' => e = .returned (.bool true) ∧ Gr w w' := by
  cases y with
  | true => exact lcoff_y id bit w
  | false => exact lcoff_n id bit w

end Go.Proofs.Ytgmaalokfgdpaaa
