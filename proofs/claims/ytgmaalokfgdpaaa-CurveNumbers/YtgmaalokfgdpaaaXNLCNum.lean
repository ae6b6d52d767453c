import Derived.Test.YtgmaalokfgdpaaaXNCW
import Derived.Test.YtgmaalokfgdpaaaXNRP1
import Derived.Test.YtgmaalokfgdpaaaXNEL
import Derived.Test.YtgmaalokfgdpaaaXNEC
import Derived.Test.YtgmaalokfgdpaaaXNLtC
namespace Go.Proofs.Ytgmaalokfgdpaaa
open Go.RowKit
theorem crA_one (id : Int) (x : Nat → Nat) (q : Nat → Option Addr × Nat) : (crA id x q).all (·.oneCell') = true := by simp [crA, Value.oneCell']
theorem storeCr (w : World) (b : Nat) (id : Int) (x : Nat → Nat) (q : Nat → Option Addr × Nat) (hs : (blk w b).size = 7) (hf : frz w b = (0, 0)) :
    (storeS 36 (.pointer (some ⟨b, 0, none⟩)) (.agg (crA id x q))).run Try.prog w = .ok () (setBlk w b (crA id x q)) :=
  storeS_run 7 (by decide) (by kernel_rfl) w b _ (crA_size id x q) (crA_one id x q) hs hf
theorem oN_dl (i : Nat) : dl (oN i) ≤ 18 := dl_M _ (oN_bd i)
end Go.Proofs.Ytgmaalokfgdpaaa
namespace Go.Proofs.Ytgmaalokfgdpaaa
open Go.RowKit
theorem nN_M (k : Nat) (h1 : 1 ≤ k) (h2 : k ≤ 15) : pN k < M ∧ aN k < M ∧ bN k < M ∧ oN k < M ∧ xN k < M ∧ yN k < M := by
  have hp := pN_M k
  have := aN_lt k h1 h2
  have := bN_lt k h1 h2
  have := xN_lt k h1 h2
  have := (yN_lt k h1 h2).1
  exact ⟨hp, by omega, by omega, oN_bd k, by omega, by omega⟩
theorem sl_lit (c : Nat) (hc : c < pq 1) (w : World) : Sl (w.alloc (.cells (nd 1 c) 55)) (some ⟨w.heap.size, 0, none⟩) c := Sl.of_blk (n := 1) (by simp [Pre]) (blk_alloc_at _ _ _ _ _ rfl) hc
end Go.Proofs.Ytgmaalokfgdpaaa
namespace Go.Proofs.Ytgmaalokfgdpaaa
open Go.RowKit
attribute [local go_sem ↓] loadNat_is loadArr_is loadWide_is loadArrW_is storeNat_is storeWide_is
attribute [local go_sem] loadNat loadArr loadWide loadArrW storeNat storeWide idxArr fold9 fold18 nw_size nw_elem pre_self pre_1 pre_2 pre_3 pre_4 pre_5 pre_6 pre_7 pre_8 pre_9 pre_10 pre_11 pre_12 pre_13 pre_14 pre_15 pre_16 pre_17 pre_18 pre_19 pre_20 pre_21 pre_22 pre_23 pre_24 pre_25 pre_26 pre_27 pre_28 pre_29 pre_30 pre_31 pre_32 pre_33 pre_34 pre_35 pre_36 pre_37 pre_38 pre_39 pre_40 gro_size gro_drew gro_drewN drew_gro drewN_gro gro_gro blk_gro frz_gro blk_drew frz_drew blk_drewN frz_drewN blk_alloc_at frz_alloc_at blk_alloc frz_alloc cell_gro frozen_gro cell_alloc_pre frozen_alloc_pre setCell_drewN alloc_drewN setBlk_drew setBlk_drewN setBlk_alloc_at setBlk_alloc setBlk_gro setCell_gro setCell_alloc_pre size_setBlk size_setCell
attribute [local go_sem] ppre_1 ppre_2 ppre_3 ppre_4 ppre_5 ppre_6
attribute [local go_sem ↓] bsl_is loadC_is storeC_is loadPt_is storePt_is zvPt_is buildPt_is loadPn_is storePn_is zvPn_is loadCu_is storeCu_is zvCu_is buildCu_is buildPn_is Go.wp_at_zero Go.wp_at_succ
attribute [local go_sem] loadC storeC0 storeCr crA_size loadPt storePt zvPt ptA_size loadPn storePn zvPn pnt_size loadCu storeCu zvCu cu_size buildCu0 buildPnI buildPn2 loadCP loadCA loadCB loadCN loadCG loadCX loadCY cu_P cu_A cu_B cu_N cu_G cu_X cu_Y frz_setBlk blk_setBlk setBlk_setBlk blk_other
/-- How far N is from P + 1. -/
def farN (k : Nat) : Nat := if oN k ≤ pN k + 1 then pN k + 1 - oN k else oN k - (pN k + 1)
theorem nearN (k : Nat) (h1 : 1 ≤ k) (h2 : k ≤ 15) : farN k * farN k ≤ pN k * 2 ^ 2 ∧ oN k % 2 = 1 ∧ 0 < bN k ∧ 27 < pN k := by
  obtain rfl | rfl | rfl | rfl | rfl | rfl | rfl | rfl | rfl | rfl | rfl | rfl | rfl | rfl | rfl : k = 1 ∨ k = 2 ∨ k = 3 ∨ k = 4 ∨ k = 5 ∨ k = 6 ∨ k = 7 ∨ k = 8 ∨ k = 9 ∨ k = 10 ∨ k = 11 ∨ k = 12 ∨ k = 13 ∨ k = 14 ∨ k = 15 := by omega
  all_goals decide +kernel
set_option maxRecDepth 100000 in
set_option maxHeartbeats 8000000 in
theorem lcnum_any (id : Int) (w : World) : Calls Try.prog 6 #[.int .i64 id] w fun e w' => e = .returned (.bool true) ∧ Gr w w' := by
  obtain ⟨u, hu, hu2, hk⟩ := idx_conv id
  have hbd := idx_bd id
  obtain ⟨k, hkk⟩ : ∃ k, idx id = k := ⟨_, rfl⟩
  rw [hkk] at hk hbd
  obtain ⟨h1, h2⟩ := hbd
  have u0 : (0 : Int) ≤ (u : Int) := by omega
  have hk2 : (1 : Int) + (u : Int) % 15 = (k : Int) := by omega
  have hk3 : IntKind.i64.wrap ((u : Int) % 15) = (u : Int) % 15 := by rw [IntKind.wrap_i64]; omega
  have hk4 : IntKind.u64.wrap ((u : Int) % 15) = (u : Int) % 15 := by rw [IntKind.wrap_u64]; omega
  have hk5 : (u : Int).tmod 15 = (u : Int) % 15 := by rw [Int.tmod_eq_emod_of_nonneg (by omega)]
  have k0 : (1 : Int) ≤ (k : Int) := by omega
  have k1 : (k : Int) ≤ 15 := by omega
  have hu3 : id % 18446744073709551616 = (u : Int) := by rw [← hu, IntKind.wrap_u64]
  clear hkk hk
  have HG : Hid (∀ w, Calls Try.prog 9 #[.int .i64 (k : Int)] w fun e w' => e = .returned (.tuple #[.agg (cu (k : Int) (pN k) (aN k) (bN k) (oN k) (xN k) (yN k) (bl (oN k)) (szN k) (lgN k)), .int .i64 0]) ∧ Gr w w') := fun w => get13_yes k h1 h2 w
  have HAW : Hid (∀ w, Calls Try.prog 14 #[] w fun e w' => e = .returned (.bool true) ∧ Gr w w') := fun w => awake13_any w
  have hbs1 : ∀ w, (bslS 34 1 #[(0, .int .u32 1)]).run Try.prog w = .ok (.slice (some ⟨w.heap.size, 0, none⟩) 1 1) (w.alloc (.cells (nd 1 1) 55)) := fun w => build1 1 (by decide) w
  have hbs4 : ∀ w, (bslS 34 1 #[(0, .int .u32 4)]).run Try.prog w = .ok (.slice (some ⟨w.heap.size, 0, none⟩) 1 1) (w.alloc (.cells (nd 1 4) 55)) := fun w => build1 4 (by decide) w
  have hbs27 : ∀ w, (bslS 34 1 #[(0, .int .u32 27)]).run Try.prog w = .ok (.slice (some ⟨w.heap.size, 0, none⟩) 1 1) (w.alloc (.cells (nd 1 27) 55)) := fun w => build1 27 (by decide) w
  have hbs0 : ∀ w, (bslS 34 0 #[]).run Try.prog w = .ok (.slice (some ⟨w.heap.size, 0, none⟩) 0 0) (w.alloc (.cells #[] 55)) := fun w => by kernel_rfl
  go_enter Try.func6, Try.ntmps6
  go_upto_region 4 with (first
    | (go_at_call 14; refine (HAW.out _).mono ?_; rintro e WA ⟨rfl, GA⟩)
    | (go_at_call 9; refine (HG.out _).mono ?_; rintro e WB ⟨rfl, GB⟩))
  obtain ⟨e3, he3⟩ : ∃ b, WB.heap.size = b := ⟨_, rfl⟩
  simp only [he3]
  refine gen_w (fun v => Gr w v ∧ Vr v e3 (cu (k : Int) (pN k) (aN k) (bN k) (oN k) (xN k) (yN k) (bl (oN k)) (szN k) (lgN k))) ?_ ?_
  · subst he3
    exact ⟨(GA.trans GB).alloc _, Vr.new _ _ _⟩
  clear he3 GA GB
  rintro v0 ⟨G, c3⟩
  obtain ⟨hnear, hodd, hb0, hp27⟩ := nearN k h1 h2
  have hbd := pN_bd k h1 h2
  have hP : 0 < pN k := by omega
  have hd18 := pN_dl k h1 h2
  have hd : dl (pN k) ≤ 400 := by omega
  have ho : dl (oN k) ≤ 400 := by have := oN_dl k; omega
  have la := aN_lt k h1 h2
  have lb := bN_lt k h1 h2
  have l4 : 4 < pN k := by omega
  have hp1 : ∀ w' {p : Option Addr} {n : Nat}, Sl w' p (pN k) → Calls Try.prog 25 #[.slice p (dl (pN k)) n, .int .i64 0] w' fun e w'' => e = .returned (.int .i64 1) ∧ w'' = w' := fun w' p n s => by
    have := rbit_any (pN k) n 0 p w' s (by decide)
    rw [show bitN (pN k) 0 = 1 by unfold bitN; rw [Nat.pow_zero, Nat.div_one]; exact hbd.2.2] at this
    exact this
  have ho1 : ∀ w' {p : Option Addr} {n : Nat}, Sl w' p (oN k) → Calls Try.prog 25 #[.slice p (dl (oN k)) n, .int .i64 0] w' fun e w'' => e = .returned (.int .i64 1) ∧ w'' = w' := fun w' p n s => by
    have := rbit_any (oN k) n 0 p w' s (by decide)
    rw [show bitN (oN k) 0 = 1 by unfold bitN; rw [Nat.pow_zero, Nat.div_one]; exact hodd] at this
    exact this
  have zb : ((dl (bN k) : Int) == 0) = false := by rw [dl_nought, decide_eq_false (by omega)]
  obtain ⟨t1, ht1⟩ : ∃ z, aN k * aN k % pN k = z := ⟨_, rfl⟩
  have lt1 : t1 < pN k := ht1 ▸ Nat.mod_lt _ hP
  obtain ⟨t2, ht2⟩ : ∃ z, t1 * aN k % pN k = z := ⟨_, rfl⟩
  have lt2 : t2 < pN k := ht2 ▸ Nat.mod_lt _ hP
  obtain ⟨t3, ht3⟩ : ∃ z, t2 * 4 % pN k = z := ⟨_, rfl⟩
  have lt3 : t3 < pN k := ht3 ▸ Nat.mod_lt _ hP
  obtain ⟨t4, ht4⟩ : ∃ z, bN k * bN k % pN k = z := ⟨_, rfl⟩
  have lt4 : t4 < pN k := ht4 ▸ Nat.mod_lt _ hP
  obtain ⟨t5, ht5⟩ : ∃ z, 27 % pN k = z := ⟨_, rfl⟩
  have lt5 : t5 < pN k := ht5 ▸ Nat.mod_lt _ hP
  obtain ⟨t6, ht6⟩ : ∃ z, t4 * t5 % pN k = z := ⟨_, rfl⟩
  have lt6 : t6 < pN k := ht6 ▸ Nat.mod_lt _ hP
  obtain ⟨t7, ht7⟩ : ∃ z, (t3 + t6) % pN k = z := ⟨_, rfl⟩
  have lt7 : t7 < pN k := ht7 ▸ Nat.mod_lt _ hP
  have hdis := (EC.disN k h1 h2).2
  have hD0 : t7 ≠ 0 := fun e => hdis (by
    have e1 : (4 * (aN k * aN k % pN k * aN k % pN k) % pN k + 27 * (bN k * bN k % pN k) % pN k) % pN k = t7 := by
      rw [← ht7, ← ht6, ← ht5, ← ht4, ← ht3, ← ht2, ← ht1]
      rw [Nat.mul_comm 4, Nat.mul_comm 27, Nat.mod_eq_of_lt hp27]
    rw [e1]; exact e)
  have hdl0 : 0 < dl t7 := by
    have : dl t7 ≠ 0 := fun e => hD0 (dl_eq_zero _ e)
    omega
  obtain ⟨Q1, hQ1⟩ : ∃ z, pN k + 1 = z := ⟨_, rfl⟩
  have hq1 : dl Q1 ≤ 400 := by rw [← hQ1]; have := dl_add (pN k) 1 18 hd18 (by decide); omega
  obtain ⟨F, hF⟩ : ∃ z, farN k = z := ⟨_, rfl⟩
  rw [hF] at hnear
  unfold farN at hF
  rw [hQ1] at hF
  have hF18 : dl F ≤ 19 := by
    have h1 := dl_add (pN k) 1 18 hd18 (by decide)
    have h2 := oN_dl k
    rw [hQ1] at h1
    rw [← hF]
    split
    · exact dl_low _ Q1 19 (by omega) h1
    · exact dl_low _ (oN k) 19 (by omega) (by omega)
  have hff : dl (F * F) ≤ 400 := by have := dl_mul F F 19 19 hF18 hF18; omega
  have hp4 : dl (pN k * 2 ^ 2) ≤ 400 := by have := dl_mul (pN k) (2 ^ 2) 18 1 hd18 (by decide); omega
  obtain ⟨zn, ezn⟩ : ∃ z, cmpZ (F * F) (pN k * 2 ^ 2) = z := ⟨_, rfl⟩
  have bzn : decide (zn ≤ 0) = true := decide_eq_true (by rw [← ezn]; unfold cmpZ; split <;> (try split) <;> omega)
  obtain ⟨yo, eyo⟩ : ∃ z, cmpZ Q1 (oN k) = z := ⟨_, rfl⟩
  obtain ⟨bq, hbq⟩ : ∃ b, decide (0 ≤ yo) = b := ⟨_, rfl⟩
  obtain ⟨T, hT⟩ : ∃ z, bl (pN k) = z := ⟨_, rfl⟩
  have hT5 : (T : Int) ≤ 576 := by
    have : (bl (pN k) + 31) / 32 ≤ 18 := hd18
    omega
  have tw : IntKind.i64.wrap ((T : Int) + 7) = (T : Int) + 7 := wrap_id (by omega) (by omega)
  have tv : IntKind.i64.wrap (((T : Int) + 7).tdiv 8) = (szN k : Int) := tdiv8 (by omega) (by omega) (by unfold szN; rw [hT]; omega)
  obtain ⟨b7, h7⟩ : ∃ b, ((k : Int) == 7) = b := ⟨_, rfl⟩
  clear hdis hD0 hu hu2 hk2 hk3 hk4 hk5 hu3 u0
  refine wp_region_q (by kernel_rfl) (by kernel_rfl) [.c (.pointer (some ⟨e3, 1, none⟩)), .c (.agg (nw 9 (pN k))), .n (pN k), .c (.pointer (some ⟨e3, 28, none⟩)), .c (.agg (nw 9 (oN k))), .n (oN k), .n (pN k), .n (oN k)] ?hs1 ?hf1
  case hs1 =>
    intro listed vals a1 v1 io oo hg zR zF zo zD
    have Hc3 : blk v1 (e3) = cu (k : Int) (pN k) (aN k) (bN k) (oN k) (xN k) (yN k) (bl (oN k)) (szN k) (lgN k) := (hg.blk _ c3.p).trans c3.h
    have zi : io < 8 := by simpa using (Array.getElem?_eq_some_iff.1 zo).1
    obtain rfl | rfl | rfl | rfl | rfl | rfl | rfl | rfl := lc8 zi
    · obtain rfl := Option.some.inj zo
      have f0 := zF.old (s := 3) (v := .pointer (some ⟨e3, 0, none⟩)) (by kernel_rfl) rfl
      refine Or.inl ⟨wanted_no rfl, ?_⟩
      exact wp_val (.pointer (some ⟨e3, 1, none⟩)) (by simp [go_sem, f0]) ⟨_, rfl, Gr.refl _, rfl⟩
    · obtain rfl := Option.some.inj zo
      have l0 := on_of zD 0 (by kernel_rfl)
      have f0 := zF.at (s := 25) (i := 0) (by kernel_rfl) (by simp) l0
      have e0 : vals 0 = .pointer (some ⟨e3, 1, none⟩) := zR 0 l0
      rw [e0] at f0
      refine Or.inl ⟨wanted_no rfl, ?_⟩
      exact wp_val (.agg (nw 9 (pN k))) (by simp [go_sem, f0, Hc3]) ⟨_, rfl, Gr.refl _, rfl⟩
    · obtain rfl := Option.some.inj zo
      have l0 := on_of zD 1 (by kernel_rfl)
      have f0 := zF.at (s := 26) (i := 1) (by kernel_rfl) (by simp) l0
      have e0 : vals 1 = .agg (nw 9 (pN k)) := zR 1 l0
      rw [e0] at f0
      refine Or.inl ⟨wanted_no rfl, ?_⟩
      exact wp_retz (k := .n (pN k)) (by simp [go_sem, f0]) (show Calls Try.prog 20 #[.agg (nw 9 (pN k))] v1 (Rt (.n (pN k)) v1) from fm_any (nN_M k h1 h2).1) (fun u w2 hu hg2 => ⟨_, rfl, hg2, hu⟩)
    · obtain rfl := Option.some.inj zo
      have f0 := zF.old (s := 3) (v := .pointer (some ⟨e3, 0, none⟩)) (by kernel_rfl) rfl
      refine Or.inl ⟨wanted_no rfl, ?_⟩
      exact wp_val (.pointer (some ⟨e3, 28, none⟩)) (by simp [go_sem, f0]) ⟨_, rfl, Gr.refl _, rfl⟩
    · obtain rfl := Option.some.inj zo
      have l0 := on_of zD 3 (by kernel_rfl)
      have f0 := zF.at (s := 28) (i := 3) (by kernel_rfl) (by simp) l0
      have e0 : vals 3 = .pointer (some ⟨e3, 28, none⟩) := zR 3 l0
      rw [e0] at f0
      refine Or.inl ⟨wanted_no rfl, ?_⟩
      exact wp_val (.agg (nw 9 (oN k))) (by simp [go_sem, f0, Hc3]) ⟨_, rfl, Gr.refl _, rfl⟩
    · obtain rfl := Option.some.inj zo
      have l0 := on_of zD 4 (by kernel_rfl)
      have f0 := zF.at (s := 29) (i := 4) (by kernel_rfl) (by simp) l0
      have e0 : vals 4 = .agg (nw 9 (oN k)) := zR 4 l0
      rw [e0] at f0
      refine Or.inl ⟨wanted_no rfl, ?_⟩
      exact wp_retz (k := .n (oN k)) (by simp [go_sem, f0]) (show Calls Try.prog 20 #[.agg (nw 9 (oN k))] v1 (Rt (.n (oN k)) v1) from fm_any (nN_M k h1 h2).2.2.2.1) (fun u w2 hu hg2 => ⟨_, rfl, hg2, hu⟩)
    · obtain rfl := Option.some.inj zo
      have l0 := on_of zD 2 (by kernel_rfl)
      have f0 := zF.at (s := 27) (i := 2) (by kernel_rfl) (by simp) l0
      obtain ⟨p0, n0, e0, S0⟩ := (show ∃ p n, vals 2 = .slice p (dl (pN k)) n ∧ Sl v1 p (pN k) from zR 2 l0)
      rw [e0] at f0
      refine Or.inl ⟨wanted_no rfl, ?_⟩
      exact wp_val (.slice p0 (dl (pN k)) n0) (by simp [go_sem, f0]) ⟨_, rfl, Gr.refl _, ⟨_, _, rfl, S0⟩⟩
    · obtain rfl := Option.some.inj zo
      have l0 := on_of zD 5 (by kernel_rfl)
      have f0 := zF.at (s := 30) (i := 5) (by kernel_rfl) (by simp) l0
      obtain ⟨p0, n0, e0, S0⟩ := (show ∃ p n, vals 5 = .slice p (dl (oN k)) n ∧ Sl v1 p (oN k) from zR 5 l0)
      rw [e0] at f0
      refine Or.inl ⟨wanted_no rfl, ?_⟩
      exact wp_val (.slice p0 (dl (oN k)) n0) (by simp [go_sem, f0]) ⟨_, rfl, Gr.refl _, ⟨_, _, rfl, S0⟩⟩
  case hf1 =>
    intro vals v1 hg zR
    have e4_0 : vals 0 = .pointer (some ⟨e3, 1, none⟩) := zR 0 (by simp)
    have e4_1 : vals 1 = .agg (nw 9 (pN k)) := zR 1 (by simp)
    obtain ⟨p4_2, n4_2, e4_2, S4_2⟩ := (show ∃ p n, vals 2 = .slice p (dl (pN k)) n ∧ Sl v1 p (pN k) from zR 2 (by simp))
    have e4_3 : vals 3 = .pointer (some ⟨e3, 28, none⟩) := zR 3 (by simp)
    have e4_4 : vals 4 = .agg (nw 9 (oN k)) := zR 4 (by simp)
    obtain ⟨p4_5, n4_5, e4_5, S4_5⟩ := (show ∃ p n, vals 5 = .slice p (dl (oN k)) n ∧ Sl v1 p (oN k) from zR 5 (by simp))
    obtain ⟨p4_6, n4_6, e4_6, S4_6⟩ := (show ∃ p n, vals 6 = .slice p (dl (pN k)) n ∧ Sl v1 p (pN k) from zR 6 (by simp))
    obtain ⟨p4_7, n4_7, e4_7, S4_7⟩ := (show ∃ p n, vals 7 = .slice p (dl (oN k)) n ∧ Sl v1 p (oN k) from zR 7 (by simp))
    simp only [putFrom, Act.put, List.setIfInBounds_toArray, List.set_cons_zero, List.set_cons_succ, e4_0, e4_1, e4_2, e4_3, e4_4, e4_5, e4_6, e4_7]
    clear zR e4_0 e4_1 e4_2 e4_3 e4_4 e4_5 e4_6 e4_7
    replace G := G.trans hg
    replace c3 := c3.gr hg
    clear hg
    go_upto_region 5 with fail
    refine wp_region_q (by kernel_rfl) (by kernel_rfl) [.c (.pointer (some ⟨e3, 10, none⟩)), .c (.agg (nw 9 (aN k))), .n (aN k), .c (.pointer (some ⟨e3, 19, none⟩)), .c (.agg (nw 9 (bN k))), .n (bN k), .n (aN k), .n (bN k)] ?hs2 ?hf2
    case hs2 =>
      intro listed vals a1 v2 io oo hg zR zF zo zD
      have Hc3 : blk v2 (e3) = cu (k : Int) (pN k) (aN k) (bN k) (oN k) (xN k) (yN k) (bl (oN k)) (szN k) (lgN k) := (hg.blk _ c3.p).trans c3.h
      have zi : io < 8 := by simpa using (Array.getElem?_eq_some_iff.1 zo).1
      obtain rfl | rfl | rfl | rfl | rfl | rfl | rfl | rfl := lc8 zi
      · obtain rfl := Option.some.inj zo
        have f0 := zF.old (s := 3) (v := .pointer (some ⟨e3, 0, none⟩)) (by kernel_rfl) rfl
        refine Or.inl ⟨wanted_no rfl, ?_⟩
        exact wp_val (.pointer (some ⟨e3, 10, none⟩)) (by simp [go_sem, f0]) ⟨_, rfl, Gr.refl _, rfl⟩
      · obtain rfl := Option.some.inj zo
        have l0 := on_of zD 0 (by kernel_rfl)
        have f0 := zF.at (s := 31) (i := 0) (by kernel_rfl) (by simp) l0
        have e0 : vals 0 = .pointer (some ⟨e3, 10, none⟩) := zR 0 l0
        rw [e0] at f0
        refine Or.inl ⟨wanted_no rfl, ?_⟩
        exact wp_val (.agg (nw 9 (aN k))) (by simp [go_sem, f0, Hc3]) ⟨_, rfl, Gr.refl _, rfl⟩
      · obtain rfl := Option.some.inj zo
        have l0 := on_of zD 1 (by kernel_rfl)
        have f0 := zF.at (s := 32) (i := 1) (by kernel_rfl) (by simp) l0
        have e0 : vals 1 = .agg (nw 9 (aN k)) := zR 1 l0
        rw [e0] at f0
        refine Or.inl ⟨wanted_no rfl, ?_⟩
        exact wp_retz (k := .n (aN k)) (by simp [go_sem, f0]) (show Calls Try.prog 20 #[.agg (nw 9 (aN k))] v2 (Rt (.n (aN k)) v2) from fm_any (nN_M k h1 h2).2.1) (fun u w2 hu hg2 => ⟨_, rfl, hg2, hu⟩)
      · obtain rfl := Option.some.inj zo
        have f0 := zF.old (s := 3) (v := .pointer (some ⟨e3, 0, none⟩)) (by kernel_rfl) rfl
        refine Or.inl ⟨wanted_no rfl, ?_⟩
        exact wp_val (.pointer (some ⟨e3, 19, none⟩)) (by simp [go_sem, f0]) ⟨_, rfl, Gr.refl _, rfl⟩
      · obtain rfl := Option.some.inj zo
        have l0 := on_of zD 3 (by kernel_rfl)
        have f0 := zF.at (s := 34) (i := 3) (by kernel_rfl) (by simp) l0
        have e0 : vals 3 = .pointer (some ⟨e3, 19, none⟩) := zR 3 l0
        rw [e0] at f0
        refine Or.inl ⟨wanted_no rfl, ?_⟩
        exact wp_val (.agg (nw 9 (bN k))) (by simp [go_sem, f0, Hc3]) ⟨_, rfl, Gr.refl _, rfl⟩
      · obtain rfl := Option.some.inj zo
        have l0 := on_of zD 4 (by kernel_rfl)
        have f0 := zF.at (s := 35) (i := 4) (by kernel_rfl) (by simp) l0
        have e0 : vals 4 = .agg (nw 9 (bN k)) := zR 4 l0
        rw [e0] at f0
        refine Or.inl ⟨wanted_no rfl, ?_⟩
        exact wp_retz (k := .n (bN k)) (by simp [go_sem, f0]) (show Calls Try.prog 20 #[.agg (nw 9 (bN k))] v2 (Rt (.n (bN k)) v2) from fm_any (nN_M k h1 h2).2.2.1) (fun u w2 hu hg2 => ⟨_, rfl, hg2, hu⟩)
      · obtain rfl := Option.some.inj zo
        have l0 := on_of zD 2 (by kernel_rfl)
        have f0 := zF.at (s := 33) (i := 2) (by kernel_rfl) (by simp) l0
        obtain ⟨p0, n0, e0, S0⟩ := (show ∃ p n, vals 2 = .slice p (dl (aN k)) n ∧ Sl v2 p (aN k) from zR 2 l0)
        rw [e0] at f0
        refine Or.inl ⟨wanted_no rfl, ?_⟩
        exact wp_val (.slice p0 (dl (aN k)) n0) (by simp [go_sem, f0]) ⟨_, rfl, Gr.refl _, ⟨_, _, rfl, S0⟩⟩
      · obtain rfl := Option.some.inj zo
        have l0 := on_of zD 5 (by kernel_rfl)
        have f0 := zF.at (s := 36) (i := 5) (by kernel_rfl) (by simp) l0
        obtain ⟨p0, n0, e0, S0⟩ := (show ∃ p n, vals 5 = .slice p (dl (bN k)) n ∧ Sl v2 p (bN k) from zR 5 l0)
        rw [e0] at f0
        refine Or.inl ⟨wanted_no rfl, ?_⟩
        exact wp_val (.slice p0 (dl (bN k)) n0) (by simp [go_sem, f0]) ⟨_, rfl, Gr.refl _, ⟨_, _, rfl, S0⟩⟩
    case hf2 =>
      intro vals v2 hg zR
      have e5_0 : vals 0 = .pointer (some ⟨e3, 10, none⟩) := zR 0 (by simp)
      have e5_1 : vals 1 = .agg (nw 9 (aN k)) := zR 1 (by simp)
      obtain ⟨p5_2, n5_2, e5_2, S5_2⟩ := (show ∃ p n, vals 2 = .slice p (dl (aN k)) n ∧ Sl v2 p (aN k) from zR 2 (by simp))
      have e5_3 : vals 3 = .pointer (some ⟨e3, 19, none⟩) := zR 3 (by simp)
      have e5_4 : vals 4 = .agg (nw 9 (bN k)) := zR 4 (by simp)
      obtain ⟨p5_5, n5_5, e5_5, S5_5⟩ := (show ∃ p n, vals 5 = .slice p (dl (bN k)) n ∧ Sl v2 p (bN k) from zR 5 (by simp))
      obtain ⟨p5_6, n5_6, e5_6, S5_6⟩ := (show ∃ p n, vals 6 = .slice p (dl (aN k)) n ∧ Sl v2 p (aN k) from zR 6 (by simp))
      obtain ⟨p5_7, n5_7, e5_7, S5_7⟩ := (show ∃ p n, vals 7 = .slice p (dl (bN k)) n ∧ Sl v2 p (bN k) from zR 7 (by simp))
      simp only [putFrom, Act.put, List.setIfInBounds_toArray, List.set_cons_zero, List.set_cons_succ, e5_0, e5_1, e5_2, e5_3, e5_4, e5_5, e5_6, e5_7]
      clear zR e5_0 e5_1 e5_2 e5_3 e5_4 e5_5 e5_6 e5_7
      replace G := G.trans hg
      replace c3 := c3.gr hg
      replace S4_2 := S4_2.gr hg
      replace S4_5 := S4_5.gr hg
      replace S4_6 := S4_6.gr hg
      replace S4_7 := S4_7.gr hg
      clear hg
      go_upto_region 6 with fail
      refine wp_region_qS (by kernel_rfl) [.c (.int .i64 0), .c (.int .i64 0), .c (.bool false), .c (.bool false), .c (.slice p4_6 (dl (pN k)) n4_6), .c (.int .i64 1), .c (.bool false), .c (.bool false), .c (.bool false), .c (.slice p4_7 (dl (oN k)) n4_7), .c (.int .i64 1), .c (.bool false), .c (.bool false), .c (.bool false), .c (.slice p5_6 (dl (aN k)) n5_6), .c (.slice p4_6 (dl (pN k)) n4_6), .c (.int .i64 (-1)), .c (.bool false), .c (.bool false), .c (.bool false), .c (.slice p5_7 (dl (bN k)) n5_7), .c (.slice p4_6 (dl (pN k)) n4_6), .c (.int .i64 (-1)), .c (.bool false), .c (.bool false), .c (.bool false), .c (.slice p5_7 (dl (bN k)) n5_7), .c (.int .i64 (dl (bN k))), .c (.bool false), .c (.bool false)] ?hs3 ?hf3
      case hs3 =>
        intro listed vals a1 v3 io oo hg zR zF zo zD
        have zi : io < 30 := by simpa using (Array.getElem?_eq_some_iff.1 zo).1
        obtain rfl | rfl | rfl | rfl | rfl | rfl | rfl | rfl | rfl | rfl | rfl | rfl | rfl | rfl | rfl | rfl | rfl | rfl | rfl | rfl | rfl | rfl | rfl | rfl | rfl | rfl | rfl | rfl | rfl | rfl := lc30 zi
        · obtain rfl := Option.some.inj zo
          have f0 := zF.old (s := 4) (v := .int .i64 0) (by kernel_rfl) rfl
          refine Or.inl ⟨wanted_no rfl, ?_⟩
          exact wp_val (.int .i64 0) (by simp [go_sem, f0]) ⟨_, rfl, Gr.refl _, rfl⟩
        · obtain rfl := Option.some.inj zo
          have l0 := on_of zD 0 (by kernel_rfl)
          have f0 := zF.at (s := 37) (i := 0) (by kernel_rfl) (by simp) l0
          have e0 : vals 0 = .int .i64 0 := zR 0 l0
          rw [e0] at f0
          refine Or.inl ⟨wanted_no rfl, ?_⟩
          exact wp_retz (k := .c (.int .i64 0)) (by simp [go_sem, f0]) (show Calls Try.prog 13 #[.int .i64 0] v3 (Rt (.c (.int .i64 0)) v3) from Rt.same (num_any _ _)) (fun u w2 hu hg2 => ⟨_, rfl, hg2, hu⟩)
        · obtain rfl := Option.some.inj zo
          have l0 := on_of zD 1 (by kernel_rfl)
          have f0 := zF.at (s := 38) (i := 1) (by kernel_rfl) (by simp) l0
          have e0 : vals 1 = .int .i64 0 := zR 1 l0
          rw [e0] at f0
          refine Or.inl ⟨wanted_no rfl, ?_⟩
          exact wp_val (.bool false) (by simp [go_sem, f0]) ⟨_, rfl, Gr.refl _, rfl⟩
        · obtain rfl := Option.some.inj zo
          have l0 := on_of zD 2 (by kernel_rfl)
          have f0 := zF.at (s := 39) (i := 2) (by kernel_rfl) (by simp) l0
          have e0 : vals 2 = .bool false := zR 2 l0
          rw [e0] at f0
          refine Or.inl ⟨wanted_no rfl, ?_⟩
          exact wp_val (.bool false) (by simp [go_sem, f0]) ⟨_, rfl, Gr.refl _, rfl⟩
        · obtain rfl := Option.some.inj zo
          have lg := on_of zD 3 (by kernel_rfl)
          have fg := zF.at (s := 40) (i := 3) (by kernel_rfl) (by simp) lg
          rw [show vals 3 = .bool false from zR 3 lg] at fg
          have f0 := zF.old (s := 5) (v := .slice p4_6 (dl (pN k)) n4_6) (by kernel_rfl) rfl
          refine Or.inl ⟨wanted_at (j := 3) (s := 40) rfl rfl rfl fg, ?_⟩
          exact wp_val (.slice p4_6 (dl (pN k)) n4_6) (by simp [go_sem, f0]) ⟨_, rfl, Gr.refl _, rfl⟩
        · obtain rfl := Option.some.inj zo
          have lg := on_of zD 3 (by kernel_rfl)
          have fg := zF.at (s := 40) (i := 3) (by kernel_rfl) (by simp) lg
          rw [show vals 3 = .bool false from zR 3 lg] at fg
          have l0 := on_of zD 4 (by kernel_rfl)
          have f0 := zF.at (s := 41) (i := 4) (by kernel_rfl) (by simp) l0
          have e0 : vals 4 = .slice p4_6 (dl (pN k)) n4_6 := zR 4 l0
          rw [e0] at f0
          refine Or.inl ⟨wanted_at (j := 3) (s := 40) rfl rfl rfl fg, ?_⟩
          exact wp_retz (k := .c (.int .i64 1)) (by simp [go_sem, f0]) (show Calls Try.prog 25 #[.slice p4_6 (dl (pN k)) n4_6, .int .i64 0] v3 (Rt (.c (.int .i64 1)) v3) from Rt.same (hp1 _ (S4_6.gr hg))) (fun u w2 hu hg2 => ⟨_, rfl, hg2, hu⟩)
        · obtain rfl := Option.some.inj zo
          have lg := on_of zD 3 (by kernel_rfl)
          have fg := zF.at (s := 40) (i := 3) (by kernel_rfl) (by simp) lg
          rw [show vals 3 = .bool false from zR 3 lg] at fg
          have l0 := on_of zD 5 (by kernel_rfl)
          have f0 := zF.at (s := 42) (i := 5) (by kernel_rfl) (by simp) l0
          have e0 : vals 5 = .int .i64 1 := zR 5 l0
          rw [e0] at f0
          refine Or.inl ⟨wanted_at (j := 3) (s := 40) rfl rfl rfl fg, ?_⟩
          exact wp_val (.bool false) (by simp [go_sem, f0]) ⟨_, rfl, Gr.refl _, rfl⟩
        · obtain rfl := Option.some.inj zo
          have l0 := on_of zD 3 (by kernel_rfl)
          have f0 := zF.at (s := 40) (i := 3) (by kernel_rfl) (by simp) l0
          have e0 : vals 3 = .bool false := zR 3 l0
          rw [e0] at f0
          have l1 := on_of zD 6 (by kernel_rfl)
          have f1 := zF.at (s := 43) (i := 6) (by kernel_rfl) (by simp) l1
          have e1 : vals 6 = .bool false := zR 6 l1
          rw [e1] at f1
          refine Or.inl ⟨wanted_no rfl, ?_⟩
          exact wp_val (.bool false) (by simp [go_sem, f0, f1]) ⟨_, rfl, Gr.refl _, rfl⟩
        · obtain rfl := Option.some.inj zo
          have l0 := on_of zD 7 (by kernel_rfl)
          have f0 := zF.at (s := 44) (i := 7) (by kernel_rfl) (by simp) l0
          have e0 : vals 7 = .bool false := zR 7 l0
          rw [e0] at f0
          refine Or.inl ⟨wanted_no rfl, ?_⟩
          exact wp_val (.bool false) (by simp [go_sem, f0]) ⟨_, rfl, Gr.refl _, rfl⟩
        · obtain rfl := Option.some.inj zo
          have lg := on_of zD 8 (by kernel_rfl)
          have fg := zF.at (s := 45) (i := 8) (by kernel_rfl) (by simp) lg
          rw [show vals 8 = .bool false from zR 8 lg] at fg
          have f0 := zF.old (s := 6) (v := .slice p4_7 (dl (oN k)) n4_7) (by kernel_rfl) rfl
          refine Or.inl ⟨wanted_at (j := 8) (s := 45) rfl rfl rfl fg, ?_⟩
          exact wp_val (.slice p4_7 (dl (oN k)) n4_7) (by simp [go_sem, f0]) ⟨_, rfl, Gr.refl _, rfl⟩
        · obtain rfl := Option.some.inj zo
          have lg := on_of zD 8 (by kernel_rfl)
          have fg := zF.at (s := 45) (i := 8) (by kernel_rfl) (by simp) lg
          rw [show vals 8 = .bool false from zR 8 lg] at fg
          have l0 := on_of zD 9 (by kernel_rfl)
          have f0 := zF.at (s := 46) (i := 9) (by kernel_rfl) (by simp) l0
          have e0 : vals 9 = .slice p4_7 (dl (oN k)) n4_7 := zR 9 l0
          rw [e0] at f0
          refine Or.inl ⟨wanted_at (j := 8) (s := 45) rfl rfl rfl fg, ?_⟩
          exact wp_retz (k := .c (.int .i64 1)) (by simp [go_sem, f0]) (show Calls Try.prog 25 #[.slice p4_7 (dl (oN k)) n4_7, .int .i64 0] v3 (Rt (.c (.int .i64 1)) v3) from Rt.same (ho1 _ (S4_7.gr hg))) (fun u w2 hu hg2 => ⟨_, rfl, hg2, hu⟩)
        · obtain rfl := Option.some.inj zo
          have lg := on_of zD 8 (by kernel_rfl)
          have fg := zF.at (s := 45) (i := 8) (by kernel_rfl) (by simp) lg
          rw [show vals 8 = .bool false from zR 8 lg] at fg
          have l0 := on_of zD 10 (by kernel_rfl)
          have f0 := zF.at (s := 47) (i := 10) (by kernel_rfl) (by simp) l0
          have e0 : vals 10 = .int .i64 1 := zR 10 l0
          rw [e0] at f0
          refine Or.inl ⟨wanted_at (j := 8) (s := 45) rfl rfl rfl fg, ?_⟩
          exact wp_val (.bool false) (by simp [go_sem, f0]) ⟨_, rfl, Gr.refl _, rfl⟩
        · obtain rfl := Option.some.inj zo
          have l0 := on_of zD 8 (by kernel_rfl)
          have f0 := zF.at (s := 45) (i := 8) (by kernel_rfl) (by simp) l0
          have e0 : vals 8 = .bool false := zR 8 l0
          rw [e0] at f0
          have l1 := on_of zD 11 (by kernel_rfl)
          have f1 := zF.at (s := 48) (i := 11) (by kernel_rfl) (by simp) l1
          have e1 : vals 11 = .bool false := zR 11 l1
          rw [e1] at f1
          refine Or.inl ⟨wanted_no rfl, ?_⟩
          exact wp_val (.bool false) (by simp [go_sem, f0, f1]) ⟨_, rfl, Gr.refl _, rfl⟩
        · obtain rfl := Option.some.inj zo
          have l0 := on_of zD 12 (by kernel_rfl)
          have f0 := zF.at (s := 49) (i := 12) (by kernel_rfl) (by simp) l0
          have e0 : vals 12 = .bool false := zR 12 l0
          rw [e0] at f0
          refine Or.inl ⟨wanted_no rfl, ?_⟩
          exact wp_val (.bool false) (by simp [go_sem, f0]) ⟨_, rfl, Gr.refl _, rfl⟩
        · obtain rfl := Option.some.inj zo
          have lg := on_of zD 13 (by kernel_rfl)
          have fg := zF.at (s := 50) (i := 13) (by kernel_rfl) (by simp) lg
          rw [show vals 13 = .bool false from zR 13 lg] at fg
          have f0 := zF.old (s := 7) (v := .slice p5_6 (dl (aN k)) n5_6) (by kernel_rfl) rfl
          refine Or.inl ⟨wanted_at (j := 13) (s := 50) rfl rfl rfl fg, ?_⟩
          exact wp_val (.slice p5_6 (dl (aN k)) n5_6) (by simp [go_sem, f0]) ⟨_, rfl, Gr.refl _, rfl⟩
        · obtain rfl := Option.some.inj zo
          have lg := on_of zD 13 (by kernel_rfl)
          have fg := zF.at (s := 50) (i := 13) (by kernel_rfl) (by simp) lg
          rw [show vals 13 = .bool false from zR 13 lg] at fg
          have f0 := zF.old (s := 5) (v := .slice p4_6 (dl (pN k)) n4_6) (by kernel_rfl) rfl
          refine Or.inl ⟨wanted_at (j := 13) (s := 50) rfl rfl rfl fg, ?_⟩
          exact wp_val (.slice p4_6 (dl (pN k)) n4_6) (by simp [go_sem, f0]) ⟨_, rfl, Gr.refl _, rfl⟩
        · obtain rfl := Option.some.inj zo
          have lg := on_of zD 13 (by kernel_rfl)
          have fg := zF.at (s := 50) (i := 13) (by kernel_rfl) (by simp) lg
          rw [show vals 13 = .bool false from zR 13 lg] at fg
          have l0 := on_of zD 14 (by kernel_rfl)
          have f0 := zF.at (s := 51) (i := 14) (by kernel_rfl) (by simp) l0
          have e0 : vals 14 = .slice p5_6 (dl (aN k)) n5_6 := zR 14 l0
          rw [e0] at f0
          have l1 := on_of zD 15 (by kernel_rfl)
          have f1 := zF.at (s := 52) (i := 15) (by kernel_rfl) (by simp) l1
          have e1 : vals 15 = .slice p4_6 (dl (pN k)) n4_6 := zR 15 l1
          rw [e1] at f1
          refine Or.inl ⟨wanted_at (j := 13) (s := 50) rfl rfl rfl fg, ?_⟩
          exact wp_retz (k := .c (.int .i64 (-1))) (by simp [go_sem, f0, f1]) (show Calls Try.prog 26 #[.slice p5_6 (dl (aN k)) n5_6, .slice p4_6 (dl (pN k)) n4_6] v3 (Rt (.c (.int .i64 (-1))) v3) from cz_any (S5_6.gr hg) (S4_6.gr hg) (dl_low _ (pN k) 400 (by omega) hd) hd (by unfold cmpZ; rw [if_pos la])) (fun u w2 hu hg2 => ⟨_, rfl, hg2, hu⟩)
        · obtain rfl := Option.some.inj zo
          have lg := on_of zD 13 (by kernel_rfl)
          have fg := zF.at (s := 50) (i := 13) (by kernel_rfl) (by simp) lg
          rw [show vals 13 = .bool false from zR 13 lg] at fg
          have l0 := on_of zD 16 (by kernel_rfl)
          have f0 := zF.at (s := 53) (i := 16) (by kernel_rfl) (by simp) l0
          have e0 : vals 16 = .int .i64 (-1) := zR 16 l0
          rw [e0] at f0
          refine Or.inl ⟨wanted_at (j := 13) (s := 50) rfl rfl rfl fg, ?_⟩
          exact wp_val (.bool false) (by simp [go_sem, f0]) ⟨_, rfl, Gr.refl _, rfl⟩
        · obtain rfl := Option.some.inj zo
          have l0 := on_of zD 13 (by kernel_rfl)
          have f0 := zF.at (s := 50) (i := 13) (by kernel_rfl) (by simp) l0
          have e0 : vals 13 = .bool false := zR 13 l0
          rw [e0] at f0
          have l1 := on_of zD 17 (by kernel_rfl)
          have f1 := zF.at (s := 54) (i := 17) (by kernel_rfl) (by simp) l1
          have e1 : vals 17 = .bool false := zR 17 l1
          rw [e1] at f1
          refine Or.inl ⟨wanted_no rfl, ?_⟩
          exact wp_val (.bool false) (by simp [go_sem, f0, f1]) ⟨_, rfl, Gr.refl _, rfl⟩
        · obtain rfl := Option.some.inj zo
          have l0 := on_of zD 18 (by kernel_rfl)
          have f0 := zF.at (s := 55) (i := 18) (by kernel_rfl) (by simp) l0
          have e0 : vals 18 = .bool false := zR 18 l0
          rw [e0] at f0
          refine Or.inl ⟨wanted_no rfl, ?_⟩
          exact wp_val (.bool false) (by simp [go_sem, f0]) ⟨_, rfl, Gr.refl _, rfl⟩
        · obtain rfl := Option.some.inj zo
          have lg := on_of zD 19 (by kernel_rfl)
          have fg := zF.at (s := 56) (i := 19) (by kernel_rfl) (by simp) lg
          rw [show vals 19 = .bool false from zR 19 lg] at fg
          have f0 := zF.old (s := 8) (v := .slice p5_7 (dl (bN k)) n5_7) (by kernel_rfl) rfl
          refine Or.inl ⟨wanted_at (j := 19) (s := 56) rfl rfl rfl fg, ?_⟩
          exact wp_val (.slice p5_7 (dl (bN k)) n5_7) (by simp [go_sem, f0]) ⟨_, rfl, Gr.refl _, rfl⟩
        · obtain rfl := Option.some.inj zo
          have lg := on_of zD 19 (by kernel_rfl)
          have fg := zF.at (s := 56) (i := 19) (by kernel_rfl) (by simp) lg
          rw [show vals 19 = .bool false from zR 19 lg] at fg
          have f0 := zF.old (s := 5) (v := .slice p4_6 (dl (pN k)) n4_6) (by kernel_rfl) rfl
          refine Or.inl ⟨wanted_at (j := 19) (s := 56) rfl rfl rfl fg, ?_⟩
          exact wp_val (.slice p4_6 (dl (pN k)) n4_6) (by simp [go_sem, f0]) ⟨_, rfl, Gr.refl _, rfl⟩
        · obtain rfl := Option.some.inj zo
          have lg := on_of zD 19 (by kernel_rfl)
          have fg := zF.at (s := 56) (i := 19) (by kernel_rfl) (by simp) lg
          rw [show vals 19 = .bool false from zR 19 lg] at fg
          have l0 := on_of zD 20 (by kernel_rfl)
          have f0 := zF.at (s := 57) (i := 20) (by kernel_rfl) (by simp) l0
          have e0 : vals 20 = .slice p5_7 (dl (bN k)) n5_7 := zR 20 l0
          rw [e0] at f0
          have l1 := on_of zD 21 (by kernel_rfl)
          have f1 := zF.at (s := 58) (i := 21) (by kernel_rfl) (by simp) l1
          have e1 : vals 21 = .slice p4_6 (dl (pN k)) n4_6 := zR 21 l1
          rw [e1] at f1
          refine Or.inl ⟨wanted_at (j := 19) (s := 56) rfl rfl rfl fg, ?_⟩
          exact wp_retz (k := .c (.int .i64 (-1))) (by simp [go_sem, f0, f1]) (show Calls Try.prog 26 #[.slice p5_7 (dl (bN k)) n5_7, .slice p4_6 (dl (pN k)) n4_6] v3 (Rt (.c (.int .i64 (-1))) v3) from cz_any (S5_7.gr hg) (S4_6.gr hg) (dl_low _ (pN k) 400 (by omega) hd) hd (by unfold cmpZ; rw [if_pos lb])) (fun u w2 hu hg2 => ⟨_, rfl, hg2, hu⟩)
        · obtain rfl := Option.some.inj zo
          have lg := on_of zD 19 (by kernel_rfl)
          have fg := zF.at (s := 56) (i := 19) (by kernel_rfl) (by simp) lg
          rw [show vals 19 = .bool false from zR 19 lg] at fg
          have l0 := on_of zD 22 (by kernel_rfl)
          have f0 := zF.at (s := 59) (i := 22) (by kernel_rfl) (by simp) l0
          have e0 : vals 22 = .int .i64 (-1) := zR 22 l0
          rw [e0] at f0
          refine Or.inl ⟨wanted_at (j := 19) (s := 56) rfl rfl rfl fg, ?_⟩
          exact wp_val (.bool false) (by simp [go_sem, f0]) ⟨_, rfl, Gr.refl _, rfl⟩
        · obtain rfl := Option.some.inj zo
          have l0 := on_of zD 19 (by kernel_rfl)
          have f0 := zF.at (s := 56) (i := 19) (by kernel_rfl) (by simp) l0
          have e0 : vals 19 = .bool false := zR 19 l0
          rw [e0] at f0
          have l1 := on_of zD 23 (by kernel_rfl)
          have f1 := zF.at (s := 60) (i := 23) (by kernel_rfl) (by simp) l1
          have e1 : vals 23 = .bool false := zR 23 l1
          rw [e1] at f1
          refine Or.inl ⟨wanted_no rfl, ?_⟩
          exact wp_val (.bool false) (by simp [go_sem, f0, f1]) ⟨_, rfl, Gr.refl _, rfl⟩
        · obtain rfl := Option.some.inj zo
          have l0 := on_of zD 24 (by kernel_rfl)
          have f0 := zF.at (s := 61) (i := 24) (by kernel_rfl) (by simp) l0
          have e0 : vals 24 = .bool false := zR 24 l0
          rw [e0] at f0
          refine Or.inl ⟨wanted_no rfl, ?_⟩
          exact wp_val (.bool false) (by simp [go_sem, f0]) ⟨_, rfl, Gr.refl _, rfl⟩
        · obtain rfl := Option.some.inj zo
          have lg := on_of zD 25 (by kernel_rfl)
          have fg := zF.at (s := 62) (i := 25) (by kernel_rfl) (by simp) lg
          rw [show vals 25 = .bool false from zR 25 lg] at fg
          have f0 := zF.old (s := 8) (v := .slice p5_7 (dl (bN k)) n5_7) (by kernel_rfl) rfl
          refine Or.inl ⟨wanted_at (j := 25) (s := 62) rfl rfl rfl fg, ?_⟩
          exact wp_val (.slice p5_7 (dl (bN k)) n5_7) (by simp [go_sem, f0]) ⟨_, rfl, Gr.refl _, rfl⟩
        · obtain rfl := Option.some.inj zo
          have lg := on_of zD 25 (by kernel_rfl)
          have fg := zF.at (s := 62) (i := 25) (by kernel_rfl) (by simp) lg
          rw [show vals 25 = .bool false from zR 25 lg] at fg
          have l0 := on_of zD 26 (by kernel_rfl)
          have f0 := zF.at (s := 63) (i := 26) (by kernel_rfl) (by simp) l0
          have e0 : vals 26 = .slice p5_7 (dl (bN k)) n5_7 := zR 26 l0
          rw [e0] at f0
          refine Or.inl ⟨wanted_at (j := 25) (s := 62) rfl rfl rfl fg, ?_⟩
          exact wp_val (.int .i64 (dl (bN k))) (by simp [go_sem, f0]) ⟨_, rfl, Gr.refl _, rfl⟩
        · obtain rfl := Option.some.inj zo
          have lg := on_of zD 25 (by kernel_rfl)
          have fg := zF.at (s := 62) (i := 25) (by kernel_rfl) (by simp) lg
          rw [show vals 25 = .bool false from zR 25 lg] at fg
          have l0 := on_of zD 27 (by kernel_rfl)
          have f0 := zF.at (s := 64) (i := 27) (by kernel_rfl) (by simp) l0
          have e0 : vals 27 = .int .i64 (dl (bN k)) := zR 27 l0
          rw [e0] at f0
          refine Or.inl ⟨wanted_at (j := 25) (s := 62) rfl rfl rfl fg, ?_⟩
          exact wp_val (.bool false) (by simp [go_sem, f0, zb]) ⟨_, rfl, Gr.refl _, rfl⟩
        · obtain rfl := Option.some.inj zo
          have l0 := on_of zD 25 (by kernel_rfl)
          have f0 := zF.at (s := 62) (i := 25) (by kernel_rfl) (by simp) l0
          have e0 : vals 25 = .bool false := zR 25 l0
          rw [e0] at f0
          have l1 := on_of zD 28 (by kernel_rfl)
          have f1 := zF.at (s := 65) (i := 28) (by kernel_rfl) (by simp) l1
          have e1 : vals 28 = .bool false := zR 28 l1
          rw [e1] at f1
          refine Or.inl ⟨wanted_no rfl, ?_⟩
          exact wp_val (.bool false) (by simp [go_sem, f0, f1]) ⟨_, rfl, Gr.refl _, rfl⟩
      case hf3 =>
        intro vals v3 hg zR
        have e6_0 : vals 0 = .int .i64 0 := zR 0 (by simp)
        have e6_1 : vals 1 = .int .i64 0 := zR 1 (by simp)
        have e6_2 : vals 2 = .bool false := zR 2 (by simp)
        have e6_3 : vals 3 = .bool false := zR 3 (by simp)
        have e6_4 : vals 4 = .slice p4_6 (dl (pN k)) n4_6 := zR 4 (by simp)
        have e6_5 : vals 5 = .int .i64 1 := zR 5 (by simp)
        have e6_6 : vals 6 = .bool false := zR 6 (by simp)
        have e6_7 : vals 7 = .bool false := zR 7 (by simp)
        have e6_8 : vals 8 = .bool false := zR 8 (by simp)
        have e6_9 : vals 9 = .slice p4_7 (dl (oN k)) n4_7 := zR 9 (by simp)
        have e6_10 : vals 10 = .int .i64 1 := zR 10 (by simp)
        have e6_11 : vals 11 = .bool false := zR 11 (by simp)
        have e6_12 : vals 12 = .bool false := zR 12 (by simp)
        have e6_13 : vals 13 = .bool false := zR 13 (by simp)
        have e6_14 : vals 14 = .slice p5_6 (dl (aN k)) n5_6 := zR 14 (by simp)
        have e6_15 : vals 15 = .slice p4_6 (dl (pN k)) n4_6 := zR 15 (by simp)
        have e6_16 : vals 16 = .int .i64 (-1) := zR 16 (by simp)
        have e6_17 : vals 17 = .bool false := zR 17 (by simp)
        have e6_18 : vals 18 = .bool false := zR 18 (by simp)
        have e6_19 : vals 19 = .bool false := zR 19 (by simp)
        have e6_20 : vals 20 = .slice p5_7 (dl (bN k)) n5_7 := zR 20 (by simp)
        have e6_21 : vals 21 = .slice p4_6 (dl (pN k)) n4_6 := zR 21 (by simp)
        have e6_22 : vals 22 = .int .i64 (-1) := zR 22 (by simp)
        have e6_23 : vals 23 = .bool false := zR 23 (by simp)
        have e6_24 : vals 24 = .bool false := zR 24 (by simp)
        have e6_25 : vals 25 = .bool false := zR 25 (by simp)
        have e6_26 : vals 26 = .slice p5_7 (dl (bN k)) n5_7 := zR 26 (by simp)
        have e6_27 : vals 27 = .int .i64 (dl (bN k)) := zR 27 (by simp)
        have e6_28 : vals 28 = .bool false := zR 28 (by simp)
        have e6_29 : vals 29 = .bool false := zR 29 (by simp)
        simp only [putFrom, Act.put, List.setIfInBounds_toArray, List.set_cons_zero, List.set_cons_succ, e6_0, e6_1, e6_2, e6_3, e6_4, e6_5, e6_6, e6_7, e6_8, e6_9, e6_10, e6_11, e6_12, e6_13, e6_14, e6_15, e6_16, e6_17, e6_18, e6_19, e6_20, e6_21, e6_22, e6_23, e6_24, e6_25, e6_26, e6_27, e6_28, e6_29]
        clear zR e6_0 e6_1 e6_2 e6_3 e6_4 e6_5 e6_6 e6_7 e6_8 e6_9 e6_10 e6_11 e6_12 e6_13 e6_14 e6_15 e6_16 e6_17 e6_18 e6_19 e6_20 e6_21 e6_22 e6_23 e6_24 e6_25 e6_26 e6_27 e6_28 e6_29
        replace G := G.trans hg
        replace c3 := c3.gr hg
        replace S4_2 := S4_2.gr hg
        replace S4_5 := S4_5.gr hg
        replace S4_6 := S4_6.gr hg
        replace S4_7 := S4_7.gr hg
        replace S5_2 := S5_2.gr hg
        replace S5_5 := S5_5.gr hg
        replace S5_6 := S5_6.gr hg
        replace S5_7 := S5_7.gr hg
        clear hg
        go_upto_region 8 with fail
        refine wp_region_qS (by kernel_rfl) [.c (.slice p5_6 (dl (aN k)) n5_6), .c (.slice p5_6 (dl (aN k)) n5_6), .c (.slice p4_6 (dl (pN k)) n4_6), .n (t1), .c (.slice p5_6 (dl (aN k)) n5_6), .c (.slice p4_6 (dl (pN k)) n4_6), .n (t2), .n (t2)] ?hs4 ?hf4
        case hs4 =>
          intro listed vals a1 v4 io oo hg zR zF zo zD
          have zi : io < 8 := by simpa using (Array.getElem?_eq_some_iff.1 zo).1
          obtain rfl | rfl | rfl | rfl | rfl | rfl | rfl | rfl := lc8 zi
          · obtain rfl := Option.some.inj zo
            have f0 := zF.old (s := 7) (v := .slice p5_6 (dl (aN k)) n5_6) (by kernel_rfl) rfl
            refine Or.inl ⟨wanted_no rfl, ?_⟩
            exact wp_val (.slice p5_6 (dl (aN k)) n5_6) (by simp [go_sem, f0]) ⟨_, rfl, Gr.refl _, rfl⟩
          · obtain rfl := Option.some.inj zo
            have f0 := zF.old (s := 7) (v := .slice p5_6 (dl (aN k)) n5_6) (by kernel_rfl) rfl
            refine Or.inl ⟨wanted_no rfl, ?_⟩
            exact wp_val (.slice p5_6 (dl (aN k)) n5_6) (by simp [go_sem, f0]) ⟨_, rfl, Gr.refl _, rfl⟩
          · obtain rfl := Option.some.inj zo
            have f0 := zF.old (s := 5) (v := .slice p4_6 (dl (pN k)) n4_6) (by kernel_rfl) rfl
            refine Or.inl ⟨wanted_no rfl, ?_⟩
            exact wp_val (.slice p4_6 (dl (pN k)) n4_6) (by simp [go_sem, f0]) ⟨_, rfl, Gr.refl _, rfl⟩
          · obtain rfl := Option.some.inj zo
            have l0 := on_of zD 0 (by kernel_rfl)
            have f0 := zF.at (s := 67) (i := 0) (by kernel_rfl) (by simp) l0
            have e0 : vals 0 = .slice p5_6 (dl (aN k)) n5_6 := zR 0 l0
            rw [e0] at f0
            have l1 := on_of zD 1 (by kernel_rfl)
            have f1 := zF.at (s := 68) (i := 1) (by kernel_rfl) (by simp) l1
            have e1 : vals 1 = .slice p5_6 (dl (aN k)) n5_6 := zR 1 l1
            rw [e1] at f1
            have l2 := on_of zD 2 (by kernel_rfl)
            have f2 := zF.at (s := 69) (i := 2) (by kernel_rfl) (by simp) l2
            have e2 : vals 2 = .slice p4_6 (dl (pN k)) n4_6 := zR 2 l2
            rw [e2] at f2
            refine Or.inl ⟨wanted_no rfl, ?_⟩
            exact wp_retz (k := .n (t1)) (by simp [go_sem, f0, f1, f2]) (show Calls Try.prog 27 #[.slice p5_6 (dl (aN k)) n5_6, .slice p5_6 (dl (aN k)) n5_6, .slice p4_6 (dl (pN k)) n4_6] v4 (Rt (.n (t1)) v4) from mm_any (S5_6.gr hg) (S5_6.gr hg) (S4_6.gr hg) la la hd ht1) (fun u w2 hu hg2 => ⟨_, rfl, hg2, hu⟩)
          · obtain rfl := Option.some.inj zo
            have f0 := zF.old (s := 7) (v := .slice p5_6 (dl (aN k)) n5_6) (by kernel_rfl) rfl
            refine Or.inl ⟨wanted_no rfl, ?_⟩
            exact wp_val (.slice p5_6 (dl (aN k)) n5_6) (by simp [go_sem, f0]) ⟨_, rfl, Gr.refl _, rfl⟩
          · obtain rfl := Option.some.inj zo
            have f0 := zF.old (s := 5) (v := .slice p4_6 (dl (pN k)) n4_6) (by kernel_rfl) rfl
            refine Or.inl ⟨wanted_no rfl, ?_⟩
            exact wp_val (.slice p4_6 (dl (pN k)) n4_6) (by simp [go_sem, f0]) ⟨_, rfl, Gr.refl _, rfl⟩
          · obtain rfl := Option.some.inj zo
            have l0 := on_of zD 3 (by kernel_rfl)
            have f0 := zF.at (s := 70) (i := 3) (by kernel_rfl) (by simp) l0
            obtain ⟨p0, n0, e0, S0⟩ := (show ∃ p n, vals 3 = .slice p (dl (t1)) n ∧ Sl v4 p (t1) from zR 3 l0)
            rw [e0] at f0
            have l1 := on_of zD 4 (by kernel_rfl)
            have f1 := zF.at (s := 71) (i := 4) (by kernel_rfl) (by simp) l1
            have e1 : vals 4 = .slice p5_6 (dl (aN k)) n5_6 := zR 4 l1
            rw [e1] at f1
            have l2 := on_of zD 5 (by kernel_rfl)
            have f2 := zF.at (s := 72) (i := 5) (by kernel_rfl) (by simp) l2
            have e2 : vals 5 = .slice p4_6 (dl (pN k)) n4_6 := zR 5 l2
            rw [e2] at f2
            refine Or.inl ⟨wanted_no rfl, ?_⟩
            exact wp_retz (k := .n (t2)) (by simp [go_sem, f0, f1, f2]) (show Calls Try.prog 27 #[.slice p0 (dl (t1)) n0, .slice p5_6 (dl (aN k)) n5_6, .slice p4_6 (dl (pN k)) n4_6] v4 (Rt (.n (t2)) v4) from mm_any S0 (S5_6.gr hg) (S4_6.gr hg) lt1 la hd ht2) (fun u w2 hu hg2 => ⟨_, rfl, hg2, hu⟩)
          · obtain rfl := Option.some.inj zo
            have l0 := on_of zD 6 (by kernel_rfl)
            have f0 := zF.at (s := 73) (i := 6) (by kernel_rfl) (by simp) l0
            obtain ⟨p0, n0, e0, S0⟩ := (show ∃ p n, vals 6 = .slice p (dl (t2)) n ∧ Sl v4 p (t2) from zR 6 l0)
            rw [e0] at f0
            refine Or.inl ⟨wanted_no rfl, ?_⟩
            exact wp_val (.slice p0 (dl (t2)) n0) (by simp [go_sem, f0]) ⟨_, rfl, Gr.refl _, ⟨_, _, rfl, S0⟩⟩
        case hf4 =>
          intro vals v4 hg zR
          have e8_0 : vals 0 = .slice p5_6 (dl (aN k)) n5_6 := zR 0 (by simp)
          have e8_1 : vals 1 = .slice p5_6 (dl (aN k)) n5_6 := zR 1 (by simp)
          have e8_2 : vals 2 = .slice p4_6 (dl (pN k)) n4_6 := zR 2 (by simp)
          obtain ⟨p8_3, n8_3, e8_3, S8_3⟩ := (show ∃ p n, vals 3 = .slice p (dl (t1)) n ∧ Sl v4 p (t1) from zR 3 (by simp))
          have e8_4 : vals 4 = .slice p5_6 (dl (aN k)) n5_6 := zR 4 (by simp)
          have e8_5 : vals 5 = .slice p4_6 (dl (pN k)) n4_6 := zR 5 (by simp)
          obtain ⟨p8_6, n8_6, e8_6, S8_6⟩ := (show ∃ p n, vals 6 = .slice p (dl (t2)) n ∧ Sl v4 p (t2) from zR 6 (by simp))
          obtain ⟨p8_7, n8_7, e8_7, S8_7⟩ := (show ∃ p n, vals 7 = .slice p (dl (t2)) n ∧ Sl v4 p (t2) from zR 7 (by simp))
          simp only [putFrom, Act.put, List.setIfInBounds_toArray, List.set_cons_zero, List.set_cons_succ, e8_0, e8_1, e8_2, e8_3, e8_4, e8_5, e8_6, e8_7]
          clear zR e8_0 e8_1 e8_2 e8_3 e8_4 e8_5 e8_6 e8_7
          replace G := G.trans hg
          replace c3 := c3.gr hg
          replace S4_2 := S4_2.gr hg
          replace S4_5 := S4_5.gr hg
          replace S4_6 := S4_6.gr hg
          replace S4_7 := S4_7.gr hg
          replace S5_2 := S5_2.gr hg
          replace S5_5 := S5_5.gr hg
          replace S5_6 := S5_6.gr hg
          replace S5_7 := S5_7.gr hg
          clear hg
          go_upto_region 9 with fail
          refine wp_region_qS (by kernel_rfl) [.c (.slice p8_7 (dl (t2)) n8_7), .n (4), .c (.slice p4_6 (dl (pN k)) n4_6), .n (t3), .c (.slice p5_7 (dl (bN k)) n5_7), .c (.slice p5_7 (dl (bN k)) n5_7), .c (.slice p4_6 (dl (pN k)) n4_6), .n (t4), .n (27), .c (.slice p4_6 (dl (pN k)) n4_6), .n (t5), .c (.slice p4_6 (dl (pN k)) n4_6), .n (t6), .c (.slice p4_6 (dl (pN k)) n4_6), .n (t7), .n (t7)] ?hs5 ?hf5
          case hs5 =>
            intro listed vals a1 v5 io oo hg zR zF zo zD
            have zi : io < 16 := by simpa using (Array.getElem?_eq_some_iff.1 zo).1
            obtain rfl | rfl | rfl | rfl | rfl | rfl | rfl | rfl | rfl | rfl | rfl | rfl | rfl | rfl | rfl | rfl := lc16 zi
            · obtain rfl := Option.some.inj zo
              have f0 := zF.old (s := 9) (v := .slice p8_7 (dl (t2)) n8_7) (by kernel_rfl) rfl
              refine Or.inl ⟨wanted_no rfl, ?_⟩
              exact wp_val (.slice p8_7 (dl (t2)) n8_7) (by simp [go_sem, f0]) ⟨_, rfl, Gr.refl _, rfl⟩
            · obtain rfl := Option.some.inj zo
              refine Or.inl ⟨wanted_no rfl, ?_⟩
              exact wp_val (.slice (some ⟨v5.heap.size, 0, none⟩) 1 1) (w' := v5.alloc (.cells (nd 1 4) 55)) (by simp [go_sem, hbs4]) ⟨_, rfl, (Gr.refl _).alloc _, _, 1, rfl, sl_lit 4 (by decide) _⟩
            · obtain rfl := Option.some.inj zo
              have f0 := zF.old (s := 5) (v := .slice p4_6 (dl (pN k)) n4_6) (by kernel_rfl) rfl
              refine Or.inl ⟨wanted_no rfl, ?_⟩
              exact wp_val (.slice p4_6 (dl (pN k)) n4_6) (by simp [go_sem, f0]) ⟨_, rfl, Gr.refl _, rfl⟩
            · obtain rfl := Option.some.inj zo
              have l0 := on_of zD 0 (by kernel_rfl)
              have f0 := zF.at (s := 74) (i := 0) (by kernel_rfl) (by simp) l0
              have e0 : vals 0 = .slice p8_7 (dl (t2)) n8_7 := zR 0 l0
              rw [e0] at f0
              have l1 := on_of zD 1 (by kernel_rfl)
              have f1 := zF.at (s := 75) (i := 1) (by kernel_rfl) (by simp) l1
              obtain ⟨p1, n1, e1, S1⟩ := (show ∃ p n, vals 1 = .slice p (dl (4)) n ∧ Sl v5 p (4) from zR 1 l1)
              rw [e1] at f1
              have l2 := on_of zD 2 (by kernel_rfl)
              have f2 := zF.at (s := 76) (i := 2) (by kernel_rfl) (by simp) l2
              have e2 : vals 2 = .slice p4_6 (dl (pN k)) n4_6 := zR 2 l2
              rw [e2] at f2
              refine Or.inl ⟨wanted_no rfl, ?_⟩
              exact wp_retz (k := .n (t3)) (by simp [go_sem, f0, f1, f2]) (show Calls Try.prog 27 #[.slice p8_7 (dl (t2)) n8_7, .slice p1 (dl (4)) n1, .slice p4_6 (dl (pN k)) n4_6] v5 (Rt (.n (t3)) v5) from mm_any (S8_7.gr hg) S1 (S4_6.gr hg) lt2 l4 hd ht3) (fun u w2 hu hg2 => ⟨_, rfl, hg2, hu⟩)
            · obtain rfl := Option.some.inj zo
              have f0 := zF.old (s := 8) (v := .slice p5_7 (dl (bN k)) n5_7) (by kernel_rfl) rfl
              refine Or.inl ⟨wanted_no rfl, ?_⟩
              exact wp_val (.slice p5_7 (dl (bN k)) n5_7) (by simp [go_sem, f0]) ⟨_, rfl, Gr.refl _, rfl⟩
            · obtain rfl := Option.some.inj zo
              have f0 := zF.old (s := 8) (v := .slice p5_7 (dl (bN k)) n5_7) (by kernel_rfl) rfl
              refine Or.inl ⟨wanted_no rfl, ?_⟩
              exact wp_val (.slice p5_7 (dl (bN k)) n5_7) (by simp [go_sem, f0]) ⟨_, rfl, Gr.refl _, rfl⟩
            · obtain rfl := Option.some.inj zo
              have f0 := zF.old (s := 5) (v := .slice p4_6 (dl (pN k)) n4_6) (by kernel_rfl) rfl
              refine Or.inl ⟨wanted_no rfl, ?_⟩
              exact wp_val (.slice p4_6 (dl (pN k)) n4_6) (by simp [go_sem, f0]) ⟨_, rfl, Gr.refl _, rfl⟩
            · obtain rfl := Option.some.inj zo
              have l0 := on_of zD 4 (by kernel_rfl)
              have f0 := zF.at (s := 78) (i := 4) (by kernel_rfl) (by simp) l0
              have e0 : vals 4 = .slice p5_7 (dl (bN k)) n5_7 := zR 4 l0
              rw [e0] at f0
              have l1 := on_of zD 5 (by kernel_rfl)
              have f1 := zF.at (s := 79) (i := 5) (by kernel_rfl) (by simp) l1
              have e1 : vals 5 = .slice p5_7 (dl (bN k)) n5_7 := zR 5 l1
              rw [e1] at f1
              have l2 := on_of zD 6 (by kernel_rfl)
              have f2 := zF.at (s := 80) (i := 6) (by kernel_rfl) (by simp) l2
              have e2 : vals 6 = .slice p4_6 (dl (pN k)) n4_6 := zR 6 l2
              rw [e2] at f2
              refine Or.inl ⟨wanted_no rfl, ?_⟩
              exact wp_retz (k := .n (t4)) (by simp [go_sem, f0, f1, f2]) (show Calls Try.prog 27 #[.slice p5_7 (dl (bN k)) n5_7, .slice p5_7 (dl (bN k)) n5_7, .slice p4_6 (dl (pN k)) n4_6] v5 (Rt (.n (t4)) v5) from mm_any (S5_7.gr hg) (S5_7.gr hg) (S4_6.gr hg) lb lb hd ht4) (fun u w2 hu hg2 => ⟨_, rfl, hg2, hu⟩)
            · obtain rfl := Option.some.inj zo
              refine Or.inl ⟨wanted_no rfl, ?_⟩
              exact wp_val (.slice (some ⟨v5.heap.size, 0, none⟩) 1 1) (w' := v5.alloc (.cells (nd 1 27) 55)) (by simp [go_sem, hbs27]) ⟨_, rfl, (Gr.refl _).alloc _, _, 1, rfl, sl_lit 27 (by decide) _⟩
            · obtain rfl := Option.some.inj zo
              have f0 := zF.old (s := 5) (v := .slice p4_6 (dl (pN k)) n4_6) (by kernel_rfl) rfl
              refine Or.inl ⟨wanted_no rfl, ?_⟩
              exact wp_val (.slice p4_6 (dl (pN k)) n4_6) (by simp [go_sem, f0]) ⟨_, rfl, Gr.refl _, rfl⟩
            · obtain rfl := Option.some.inj zo
              have l0 := on_of zD 8 (by kernel_rfl)
              have f0 := zF.at (s := 82) (i := 8) (by kernel_rfl) (by simp) l0
              obtain ⟨p0, n0, e0, S0⟩ := (show ∃ p n, vals 8 = .slice p (dl (27)) n ∧ Sl v5 p (27) from zR 8 l0)
              rw [e0] at f0
              have l1 := on_of zD 9 (by kernel_rfl)
              have f1 := zF.at (s := 83) (i := 9) (by kernel_rfl) (by simp) l1
              have e1 : vals 9 = .slice p4_6 (dl (pN k)) n4_6 := zR 9 l1
              rw [e1] at f1
              refine Or.inl ⟨wanted_no rfl, ?_⟩
              exact wp_retz (k := .n (t5)) (by simp [go_sem, f0, f1]) (show Calls Try.prog 29 #[.slice p0 (dl (27)) n0, .slice p4_6 (dl (pN k)) n4_6] v5 (Rt (.n (t5)) v5) from Rt.n (ht5 ▸ rmod_any 27 (pN k) _ _ _ _ _ S0 (S4_6.gr hg) (by decide) (by omega) hP)) (fun u w2 hu hg2 => ⟨_, rfl, hg2, hu⟩)
            · obtain rfl := Option.some.inj zo
              have f0 := zF.old (s := 5) (v := .slice p4_6 (dl (pN k)) n4_6) (by kernel_rfl) rfl
              refine Or.inl ⟨wanted_no rfl, ?_⟩
              exact wp_val (.slice p4_6 (dl (pN k)) n4_6) (by simp [go_sem, f0]) ⟨_, rfl, Gr.refl _, rfl⟩
            · obtain rfl := Option.some.inj zo
              have l0 := on_of zD 7 (by kernel_rfl)
              have f0 := zF.at (s := 81) (i := 7) (by kernel_rfl) (by simp) l0
              obtain ⟨p0, n0, e0, S0⟩ := (show ∃ p n, vals 7 = .slice p (dl (t4)) n ∧ Sl v5 p (t4) from zR 7 l0)
              rw [e0] at f0
              have l1 := on_of zD 10 (by kernel_rfl)
              have f1 := zF.at (s := 84) (i := 10) (by kernel_rfl) (by simp) l1
              obtain ⟨p1, n1, e1, S1⟩ := (show ∃ p n, vals 10 = .slice p (dl (t5)) n ∧ Sl v5 p (t5) from zR 10 l1)
              rw [e1] at f1
              have l2 := on_of zD 11 (by kernel_rfl)
              have f2 := zF.at (s := 85) (i := 11) (by kernel_rfl) (by simp) l2
              have e2 : vals 11 = .slice p4_6 (dl (pN k)) n4_6 := zR 11 l2
              rw [e2] at f2
              refine Or.inl ⟨wanted_no rfl, ?_⟩
              exact wp_retz (k := .n (t6)) (by simp [go_sem, f0, f1, f2]) (show Calls Try.prog 27 #[.slice p0 (dl (t4)) n0, .slice p1 (dl (t5)) n1, .slice p4_6 (dl (pN k)) n4_6] v5 (Rt (.n (t6)) v5) from mm_any S0 S1 (S4_6.gr hg) lt4 lt5 hd ht6) (fun u w2 hu hg2 => ⟨_, rfl, hg2, hu⟩)
            · obtain rfl := Option.some.inj zo
              have f0 := zF.old (s := 5) (v := .slice p4_6 (dl (pN k)) n4_6) (by kernel_rfl) rfl
              refine Or.inl ⟨wanted_no rfl, ?_⟩
              exact wp_val (.slice p4_6 (dl (pN k)) n4_6) (by simp [go_sem, f0]) ⟨_, rfl, Gr.refl _, rfl⟩
            · obtain rfl := Option.some.inj zo
              have l0 := on_of zD 3 (by kernel_rfl)
              have f0 := zF.at (s := 77) (i := 3) (by kernel_rfl) (by simp) l0
              obtain ⟨p0, n0, e0, S0⟩ := (show ∃ p n, vals 3 = .slice p (dl (t3)) n ∧ Sl v5 p (t3) from zR 3 l0)
              rw [e0] at f0
              have l1 := on_of zD 12 (by kernel_rfl)
              have f1 := zF.at (s := 86) (i := 12) (by kernel_rfl) (by simp) l1
              obtain ⟨p1, n1, e1, S1⟩ := (show ∃ p n, vals 12 = .slice p (dl (t6)) n ∧ Sl v5 p (t6) from zR 12 l1)
              rw [e1] at f1
              have l2 := on_of zD 13 (by kernel_rfl)
              have f2 := zF.at (s := 87) (i := 13) (by kernel_rfl) (by simp) l2
              have e2 : vals 13 = .slice p4_6 (dl (pN k)) n4_6 := zR 13 l2
              rw [e2] at f2
              refine Or.inl ⟨wanted_no rfl, ?_⟩
              exact wp_retz (k := .n (t7)) (by simp [go_sem, f0, f1, f2]) (show Calls Try.prog 28 #[.slice p0 (dl (t3)) n0, .slice p1 (dl (t6)) n1, .slice p4_6 (dl (pN k)) n4_6] v5 (Rt (.n (t7)) v5) from am_any S0 S1 (S4_6.gr hg) lt3 lt6 hd ht7) (fun u w2 hu hg2 => ⟨_, rfl, hg2, hu⟩)
            · obtain rfl := Option.some.inj zo
              have l0 := on_of zD 14 (by kernel_rfl)
              have f0 := zF.at (s := 88) (i := 14) (by kernel_rfl) (by simp) l0
              obtain ⟨p0, n0, e0, S0⟩ := (show ∃ p n, vals 14 = .slice p (dl (t7)) n ∧ Sl v5 p (t7) from zR 14 l0)
              rw [e0] at f0
              refine Or.inl ⟨wanted_no rfl, ?_⟩
              exact wp_val (.slice p0 (dl (t7)) n0) (by simp [go_sem, f0]) ⟨_, rfl, Gr.refl _, ⟨_, _, rfl, S0⟩⟩
          case hf5 =>
            intro vals v5 hg zR
            have e9_0 : vals 0 = .slice p8_7 (dl (t2)) n8_7 := zR 0 (by simp)
            obtain ⟨p9_1, n9_1, e9_1, S9_1⟩ := (show ∃ p n, vals 1 = .slice p (dl (4)) n ∧ Sl v5 p (4) from zR 1 (by simp))
            have e9_2 : vals 2 = .slice p4_6 (dl (pN k)) n4_6 := zR 2 (by simp)
            obtain ⟨p9_3, n9_3, e9_3, S9_3⟩ := (show ∃ p n, vals 3 = .slice p (dl (t3)) n ∧ Sl v5 p (t3) from zR 3 (by simp))
            have e9_4 : vals 4 = .slice p5_7 (dl (bN k)) n5_7 := zR 4 (by simp)
            have e9_5 : vals 5 = .slice p5_7 (dl (bN k)) n5_7 := zR 5 (by simp)
            have e9_6 : vals 6 = .slice p4_6 (dl (pN k)) n4_6 := zR 6 (by simp)
            obtain ⟨p9_7, n9_7, e9_7, S9_7⟩ := (show ∃ p n, vals 7 = .slice p (dl (t4)) n ∧ Sl v5 p (t4) from zR 7 (by simp))
            obtain ⟨p9_8, n9_8, e9_8, S9_8⟩ := (show ∃ p n, vals 8 = .slice p (dl (27)) n ∧ Sl v5 p (27) from zR 8 (by simp))
            have e9_9 : vals 9 = .slice p4_6 (dl (pN k)) n4_6 := zR 9 (by simp)
            obtain ⟨p9_10, n9_10, e9_10, S9_10⟩ := (show ∃ p n, vals 10 = .slice p (dl (t5)) n ∧ Sl v5 p (t5) from zR 10 (by simp))
            have e9_11 : vals 11 = .slice p4_6 (dl (pN k)) n4_6 := zR 11 (by simp)
            obtain ⟨p9_12, n9_12, e9_12, S9_12⟩ := (show ∃ p n, vals 12 = .slice p (dl (t6)) n ∧ Sl v5 p (t6) from zR 12 (by simp))
            have e9_13 : vals 13 = .slice p4_6 (dl (pN k)) n4_6 := zR 13 (by simp)
            obtain ⟨p9_14, n9_14, e9_14, S9_14⟩ := (show ∃ p n, vals 14 = .slice p (dl (t7)) n ∧ Sl v5 p (t7) from zR 14 (by simp))
            obtain ⟨p9_15, n9_15, e9_15, S9_15⟩ := (show ∃ p n, vals 15 = .slice p (dl (t7)) n ∧ Sl v5 p (t7) from zR 15 (by simp))
            simp only [putFrom, Act.put, List.setIfInBounds_toArray, List.set_cons_zero, List.set_cons_succ, e9_0, e9_1, e9_2, e9_3, e9_4, e9_5, e9_6, e9_7, e9_8, e9_9, e9_10, e9_11, e9_12, e9_13, e9_14, e9_15]
            clear zR e9_0 e9_1 e9_2 e9_3 e9_4 e9_5 e9_6 e9_7 e9_8 e9_9 e9_10 e9_11 e9_12 e9_13 e9_14 e9_15
            replace G := G.trans hg
            replace c3 := c3.gr hg
            replace S4_2 := S4_2.gr hg
            replace S4_5 := S4_5.gr hg
            replace S4_6 := S4_6.gr hg
            replace S4_7 := S4_7.gr hg
            replace S5_2 := S5_2.gr hg
            replace S5_5 := S5_5.gr hg
            replace S5_6 := S5_6.gr hg
            replace S5_7 := S5_7.gr hg
            replace S8_3 := S8_3.gr hg
            replace S8_6 := S8_6.gr hg
            replace S8_7 := S8_7.gr hg
            clear hg
            go_upto_region 10 with fail
            refine wp_region_qS (by kernel_rfl) [.c (.slice p4_6 (dl (pN k)) n4_6), .n (1), .n (Q1), .n (Q1)] ?hs6 ?hf6
            case hs6 =>
              intro listed vals a1 v6 io oo hg zR zF zo zD
              have zi : io < 4 := by simpa using (Array.getElem?_eq_some_iff.1 zo).1
              obtain rfl | rfl | rfl | rfl := lc4 zi
              · obtain rfl := Option.some.inj zo
                have f0 := zF.old (s := 5) (v := .slice p4_6 (dl (pN k)) n4_6) (by kernel_rfl) rfl
                refine Or.inl ⟨wanted_no rfl, ?_⟩
                exact wp_val (.slice p4_6 (dl (pN k)) n4_6) (by simp [go_sem, f0]) ⟨_, rfl, Gr.refl _, rfl⟩
              · obtain rfl := Option.some.inj zo
                refine Or.inl ⟨wanted_no rfl, ?_⟩
                exact wp_val (.slice (some ⟨v6.heap.size, 0, none⟩) 1 1) (w' := v6.alloc (.cells (nd 1 1) 55)) (by simp [go_sem, hbs1]) ⟨_, rfl, (Gr.refl _).alloc _, _, 1, rfl, sl_lit 1 (by decide) _⟩
              · obtain rfl := Option.some.inj zo
                have l0 := on_of zD 0 (by kernel_rfl)
                have f0 := zF.at (s := 89) (i := 0) (by kernel_rfl) (by simp) l0
                have e0 : vals 0 = .slice p4_6 (dl (pN k)) n4_6 := zR 0 l0
                rw [e0] at f0
                have l1 := on_of zD 1 (by kernel_rfl)
                have f1 := zF.at (s := 90) (i := 1) (by kernel_rfl) (by simp) l1
                obtain ⟨p1, n1, e1, S1⟩ := (show ∃ p n, vals 1 = .slice p (dl (1)) n ∧ Sl v6 p (1) from zR 1 l1)
                rw [e1] at f1
                refine Or.inl ⟨wanted_no rfl, ?_⟩
                exact wp_retz (k := .n (Q1)) (by simp [go_sem, f0, f1]) (show Calls Try.prog 30 #[.slice p4_6 (dl (pN k)) n4_6, .slice p1 (dl (1)) n1] v6 (Rt (.n (Q1)) v6) from Rt.n (hQ1 ▸ radd_any (pN k) 1 _ _ _ _ _ (S4_6.gr hg) S1 (by omega) (by decide))) (fun u w2 hu hg2 => ⟨_, rfl, hg2, hu⟩)
              · obtain rfl := Option.some.inj zo
                have l0 := on_of zD 2 (by kernel_rfl)
                have f0 := zF.at (s := 91) (i := 2) (by kernel_rfl) (by simp) l0
                obtain ⟨p0, n0, e0, S0⟩ := (show ∃ p n, vals 2 = .slice p (dl (Q1)) n ∧ Sl v6 p (Q1) from zR 2 l0)
                rw [e0] at f0
                refine Or.inl ⟨wanted_no rfl, ?_⟩
                exact wp_val (.slice p0 (dl (Q1)) n0) (by simp [go_sem, f0]) ⟨_, rfl, Gr.refl _, ⟨_, _, rfl, S0⟩⟩
            case hf6 =>
              intro vals v6 hg zR
              have e10_0 : vals 0 = .slice p4_6 (dl (pN k)) n4_6 := zR 0 (by simp)
              obtain ⟨p10_1, n10_1, e10_1, S10_1⟩ := (show ∃ p n, vals 1 = .slice p (dl (1)) n ∧ Sl v6 p (1) from zR 1 (by simp))
              obtain ⟨p10_2, n10_2, e10_2, S10_2⟩ := (show ∃ p n, vals 2 = .slice p (dl (Q1)) n ∧ Sl v6 p (Q1) from zR 2 (by simp))
              obtain ⟨p10_3, n10_3, e10_3, S10_3⟩ := (show ∃ p n, vals 3 = .slice p (dl (Q1)) n ∧ Sl v6 p (Q1) from zR 3 (by simp))
              simp only [putFrom, Act.put, List.setIfInBounds_toArray, List.set_cons_zero, List.set_cons_succ, e10_0, e10_1, e10_2, e10_3]
              clear zR e10_0 e10_1 e10_2 e10_3
              replace G := G.trans hg
              replace c3 := c3.gr hg
              replace S4_2 := S4_2.gr hg
              replace S4_5 := S4_5.gr hg
              replace S4_6 := S4_6.gr hg
              replace S4_7 := S4_7.gr hg
              replace S5_2 := S5_2.gr hg
              replace S5_5 := S5_5.gr hg
              replace S5_6 := S5_6.gr hg
              replace S5_7 := S5_7.gr hg
              replace S8_3 := S8_3.gr hg
              replace S8_6 := S8_6.gr hg
              replace S8_7 := S8_7.gr hg
              replace S9_1 := S9_1.gr hg
              replace S9_3 := S9_3.gr hg
              replace S9_7 := S9_7.gr hg
              replace S9_8 := S9_8.gr hg
              replace S9_10 := S9_10.gr hg
              replace S9_12 := S9_12.gr hg
              replace S9_14 := S9_14.gr hg
              replace S9_15 := S9_15.gr hg
              clear hg
              go_upto_region 11 with fail
              refine wp_region_qS (by kernel_rfl) [.n (0), .n (0)] ?hs7 ?hf7
              case hs7 =>
                intro listed vals a1 v7 io oo hg zR zF zo zD
                have zi : io < 2 := by simpa using (Array.getElem?_eq_some_iff.1 zo).1
                obtain rfl | rfl := lc2 zi
                · obtain rfl := Option.some.inj zo
                  refine Or.inl ⟨wanted_no rfl, ?_⟩
                  exact wp_val (.slice (some ⟨v7.heap.size, 0, none⟩) 0 0) (w' := v7.alloc (.cells #[] 55)) (by simp [go_sem, hbs0]) ⟨_, rfl, (Gr.refl _).alloc _, _, 0, rfl, Sl.zero _ _⟩
                · obtain rfl := Option.some.inj zo
                  have l0 := on_of zD 0 (by kernel_rfl)
                  have f0 := zF.at (s := 92) (i := 0) (by kernel_rfl) (by simp) l0
                  obtain ⟨p0, n0, e0, S0⟩ := (show ∃ p n, vals 0 = .slice p (dl (0)) n ∧ Sl v7 p (0) from zR 0 l0)
                  rw [e0] at f0
                  refine Or.inl ⟨wanted_no rfl, ?_⟩
                  exact wp_val (.slice p0 (dl (0)) n0) (by simp [go_sem, f0]) ⟨_, rfl, Gr.refl _, ⟨_, _, rfl, S0⟩⟩
              case hf7 =>
                intro vals v7 hg zR
                obtain ⟨p11_0, n11_0, e11_0, S11_0⟩ := (show ∃ p n, vals 0 = .slice p (dl (0)) n ∧ Sl v7 p (0) from zR 0 (by simp))
                obtain ⟨p11_1, n11_1, e11_1, S11_1⟩ := (show ∃ p n, vals 1 = .slice p (dl (0)) n ∧ Sl v7 p (0) from zR 1 (by simp))
                simp only [putFrom, Act.put, List.setIfInBounds_toArray, List.set_cons_zero, List.set_cons_succ, e11_0, e11_1]
                clear zR e11_0 e11_1
                replace G := G.trans hg
                replace c3 := c3.gr hg
                replace S4_2 := S4_2.gr hg
                replace S4_5 := S4_5.gr hg
                replace S4_6 := S4_6.gr hg
                replace S4_7 := S4_7.gr hg
                replace S5_2 := S5_2.gr hg
                replace S5_5 := S5_5.gr hg
                replace S5_6 := S5_6.gr hg
                replace S5_7 := S5_7.gr hg
                replace S8_3 := S8_3.gr hg
                replace S8_6 := S8_6.gr hg
                replace S8_7 := S8_7.gr hg
                replace S9_1 := S9_1.gr hg
                replace S9_3 := S9_3.gr hg
                replace S9_7 := S9_7.gr hg
                replace S9_8 := S9_8.gr hg
                replace S9_10 := S9_10.gr hg
                replace S9_12 := S9_12.gr hg
                replace S9_14 := S9_14.gr hg
                replace S9_15 := S9_15.gr hg
                replace S10_1 := S10_1.gr hg
                replace S10_2 := S10_2.gr hg
                replace S10_3 := S10_3.gr hg
                clear hg
                go_upto_region 12 with fail
                refine wp_region_qS (by kernel_rfl) [.c (.slice p10_3 (dl (Q1)) n10_3), .c (.slice p4_7 (dl (oN k)) n4_7), .c (.int .i64 yo), .c (.bool bq)] ?hs8 ?hf8
                case hs8 =>
                  intro listed vals a1 v8 io oo hg zR zF zo zD
                  have zi : io < 4 := by simpa using (Array.getElem?_eq_some_iff.1 zo).1
                  obtain rfl | rfl | rfl | rfl := lc4 zi
                  · obtain rfl := Option.some.inj zo
                    have f0 := zF.old (s := 11) (v := .slice p10_3 (dl (Q1)) n10_3) (by kernel_rfl) rfl
                    refine Or.inl ⟨wanted_no rfl, ?_⟩
                    exact wp_val (.slice p10_3 (dl (Q1)) n10_3) (by simp [go_sem, f0]) ⟨_, rfl, Gr.refl _, rfl⟩
                  · obtain rfl := Option.some.inj zo
                    have f0 := zF.old (s := 6) (v := .slice p4_7 (dl (oN k)) n4_7) (by kernel_rfl) rfl
                    refine Or.inl ⟨wanted_no rfl, ?_⟩
                    exact wp_val (.slice p4_7 (dl (oN k)) n4_7) (by simp [go_sem, f0]) ⟨_, rfl, Gr.refl _, rfl⟩
                  · obtain rfl := Option.some.inj zo
                    have l0 := on_of zD 0 (by kernel_rfl)
                    have f0 := zF.at (s := 93) (i := 0) (by kernel_rfl) (by simp) l0
                    have e0 : vals 0 = .slice p10_3 (dl (Q1)) n10_3 := zR 0 l0
                    rw [e0] at f0
                    have l1 := on_of zD 1 (by kernel_rfl)
                    have f1 := zF.at (s := 94) (i := 1) (by kernel_rfl) (by simp) l1
                    have e1 : vals 1 = .slice p4_7 (dl (oN k)) n4_7 := zR 1 l1
                    rw [e1] at f1
                    refine Or.inl ⟨wanted_no rfl, ?_⟩
                    exact wp_retz (k := .c (.int .i64 yo)) (by simp [go_sem, f0, f1]) (show Calls Try.prog 26 #[.slice p10_3 (dl (Q1)) n10_3, .slice p4_7 (dl (oN k)) n4_7] v8 (Rt (.c (.int .i64 yo)) v8) from cz_any (S10_3.gr hg) (S4_7.gr hg) hq1 ho eyo) (fun u w2 hu hg2 => ⟨_, rfl, hg2, hu⟩)
                  · obtain rfl := Option.some.inj zo
                    have l0 := on_of zD 2 (by kernel_rfl)
                    have f0 := zF.at (s := 95) (i := 2) (by kernel_rfl) (by simp) l0
                    have e0 : vals 2 = .int .i64 yo := zR 2 l0
                    rw [e0] at f0
                    refine Or.inl ⟨wanted_no rfl, ?_⟩
                    exact wp_val (.bool bq) (by simp [go_sem, f0, hbq]) ⟨_, rfl, Gr.refl _, rfl⟩
                case hf8 =>
                  intro vals v8 hg zR
                  have e12_0 : vals 0 = .slice p10_3 (dl (Q1)) n10_3 := zR 0 (by simp)
                  have e12_1 : vals 1 = .slice p4_7 (dl (oN k)) n4_7 := zR 1 (by simp)
                  have e12_2 : vals 2 = .int .i64 yo := zR 2 (by simp)
                  have e12_3 : vals 3 = .bool bq := zR 3 (by simp)
                  simp only [putFrom, Act.put, List.setIfInBounds_toArray, List.set_cons_zero, List.set_cons_succ, e12_0, e12_1, e12_2, e12_3]
                  clear zR e12_0 e12_1 e12_2 e12_3
                  replace G := G.trans hg
                  replace c3 := c3.gr hg
                  replace S4_2 := S4_2.gr hg
                  replace S4_5 := S4_5.gr hg
                  replace S4_6 := S4_6.gr hg
                  replace S4_7 := S4_7.gr hg
                  replace S5_2 := S5_2.gr hg
                  replace S5_5 := S5_5.gr hg
                  replace S5_6 := S5_6.gr hg
                  replace S5_7 := S5_7.gr hg
                  replace S8_3 := S8_3.gr hg
                  replace S8_6 := S8_6.gr hg
                  replace S8_7 := S8_7.gr hg
                  replace S9_1 := S9_1.gr hg
                  replace S9_3 := S9_3.gr hg
                  replace S9_7 := S9_7.gr hg
                  replace S9_8 := S9_8.gr hg
                  replace S9_10 := S9_10.gr hg
                  replace S9_12 := S9_12.gr hg
                  replace S9_14 := S9_14.gr hg
                  replace S9_15 := S9_15.gr hg
                  replace S10_1 := S10_1.gr hg
                  replace S10_2 := S10_2.gr hg
                  replace S10_3 := S10_3.gr hg
                  replace S11_0 := S11_0.gr hg
                  replace S11_1 := S11_1.gr hg
                  clear hg
                  go_upto_if 96 with fail
                  go_cut [12] from 97 to 102 (fun a0 wx => ∃ (px : Option Addr) (nx : Nat), a0 = .slice px (dl F) nx ∧ Hid (Gr w wx ∧ Vr wx e3 (cu (k : Int) (pN k) (aN k) (bN k) (oN k) (xN k) (yN k) (bl (oN k)) (szN k) (lgN k)) ∧ Sl wx p4_6 (pN k) ∧ Sl wx p4_7 (oN k) ∧ Sl wx p9_15 t7 ∧ Sl wx px F))
                  case first =>
                    by_cases hle : oN k ≤ Q1
                    · obtain rfl : bq = true := by rw [← hbq]; exact decide_eq_true (by rw [← eyo]; unfold cmpZ; split <;> (try split) <;> omega)
                      rw [if_pos hle] at hF
                      go_upto_region 13 with fail
                      refine wp_region_qS (by kernel_rfl) [.c (.slice p10_3 (dl (Q1)) n10_3), .c (.slice p4_7 (dl (oN k)) n4_7), .n (F), .n (F)] ?hs9 ?hf9
                      case hs9 =>
                        intro listed vals a1 v9 io oo hg zR zF zo zD
                        have zi : io < 4 := by simpa using (Array.getElem?_eq_some_iff.1 zo).1
                        obtain rfl | rfl | rfl | rfl := lc4 zi
                        · obtain rfl := Option.some.inj zo
                          have f0 := zF.old (s := 11) (v := .slice p10_3 (dl (Q1)) n10_3) (by kernel_rfl) rfl
                          refine Or.inl ⟨wanted_no rfl, ?_⟩
                          exact wp_val (.slice p10_3 (dl (Q1)) n10_3) (by simp [go_sem, f0]) ⟨_, rfl, Gr.refl _, rfl⟩
                        · obtain rfl := Option.some.inj zo
                          have f0 := zF.old (s := 6) (v := .slice p4_7 (dl (oN k)) n4_7) (by kernel_rfl) rfl
                          refine Or.inl ⟨wanted_no rfl, ?_⟩
                          exact wp_val (.slice p4_7 (dl (oN k)) n4_7) (by simp [go_sem, f0]) ⟨_, rfl, Gr.refl _, rfl⟩
                        · obtain rfl := Option.some.inj zo
                          have l0 := on_of zD 0 (by kernel_rfl)
                          have f0 := zF.at (s := 97) (i := 0) (by kernel_rfl) (by simp) l0
                          have e0 : vals 0 = .slice p10_3 (dl (Q1)) n10_3 := zR 0 l0
                          rw [e0] at f0
                          have l1 := on_of zD 1 (by kernel_rfl)
                          have f1 := zF.at (s := 98) (i := 1) (by kernel_rfl) (by simp) l1
                          have e1 : vals 1 = .slice p4_7 (dl (oN k)) n4_7 := zR 1 l1
                          rw [e1] at f1
                          refine Or.inl ⟨wanted_no rfl, ?_⟩
                          exact wp_retz (k := .n (F)) (by simp [go_sem, f0, f1]) (show Calls Try.prog 21 #[.slice p10_3 (dl (Q1)) n10_3, .slice p4_7 (dl (oN k)) n4_7] v9 (Rt (.n (F)) v9) from sb_any (S10_3.gr hg) (S4_7.gr hg) hq1 (by omega) hF) (fun u w2 hu hg2 => ⟨_, rfl, hg2, hu⟩)
                        · obtain rfl := Option.some.inj zo
                          have l0 := on_of zD 2 (by kernel_rfl)
                          have f0 := zF.at (s := 99) (i := 2) (by kernel_rfl) (by simp) l0
                          obtain ⟨p0, n0, e0, S0⟩ := (show ∃ p n, vals 2 = .slice p (dl (F)) n ∧ Sl v9 p (F) from zR 2 l0)
                          rw [e0] at f0
                          refine Or.inl ⟨wanted_no rfl, ?_⟩
                          exact wp_val (.slice p0 (dl (F)) n0) (by simp [go_sem, f0]) ⟨_, rfl, Gr.refl _, ⟨_, _, rfl, S0⟩⟩
                      case hf9 =>
                        intro vals v9 hg zR
                        have e13_0 : vals 0 = .slice p10_3 (dl (Q1)) n10_3 := zR 0 (by simp)
                        have e13_1 : vals 1 = .slice p4_7 (dl (oN k)) n4_7 := zR 1 (by simp)
                        obtain ⟨p13_2, n13_2, e13_2, S13_2⟩ := (show ∃ p n, vals 2 = .slice p (dl (F)) n ∧ Sl v9 p (F) from zR 2 (by simp))
                        obtain ⟨p13_3, n13_3, e13_3, S13_3⟩ := (show ∃ p n, vals 3 = .slice p (dl (F)) n ∧ Sl v9 p (F) from zR 3 (by simp))
                        simp only [putFrom, Act.put, List.setIfInBounds_toArray, List.set_cons_zero, List.set_cons_succ, e13_0, e13_1, e13_2, e13_3]
                        clear zR e13_0 e13_1 e13_2 e13_3
                        replace G := G.trans hg
                        replace c3 := c3.gr hg
                        replace S4_2 := S4_2.gr hg
                        replace S4_5 := S4_5.gr hg
                        replace S4_6 := S4_6.gr hg
                        replace S4_7 := S4_7.gr hg
                        replace S5_2 := S5_2.gr hg
                        replace S5_5 := S5_5.gr hg
                        replace S5_6 := S5_6.gr hg
                        replace S5_7 := S5_7.gr hg
                        replace S8_3 := S8_3.gr hg
                        replace S8_6 := S8_6.gr hg
                        replace S8_7 := S8_7.gr hg
                        replace S9_1 := S9_1.gr hg
                        replace S9_3 := S9_3.gr hg
                        replace S9_7 := S9_7.gr hg
                        replace S9_8 := S9_8.gr hg
                        replace S9_10 := S9_10.gr hg
                        replace S9_12 := S9_12.gr hg
                        replace S9_14 := S9_14.gr hg
                        replace S9_15 := S9_15.gr hg
                        replace S10_1 := S10_1.gr hg
                        replace S10_2 := S10_2.gr hg
                        replace S10_3 := S10_3.gr hg
                        replace S11_0 := S11_0.gr hg
                        replace S11_1 := S11_1.gr hg
                        clear hg
                        go_wp2_with fail
                        go_meet
                        exact ⟨p13_3, n13_3, rfl, G, c3, S4_6, S4_7, S9_15, S13_3⟩
                    · obtain rfl : bq = false := by rw [← hbq]; exact decide_eq_false (by rw [← eyo]; unfold cmpZ; split <;> (try split) <;> omega)
                      rw [if_neg hle] at hF
                      go_upto_region 14 with fail
                      refine wp_region_qS (by kernel_rfl) [.c (.slice p4_7 (dl (oN k)) n4_7), .c (.slice p10_3 (dl (Q1)) n10_3), .n (F), .n (F)] ?hs10 ?hf10
                      case hs10 =>
                        intro listed vals a1 v9 io oo hg zR zF zo zD
                        have zi : io < 4 := by simpa using (Array.getElem?_eq_some_iff.1 zo).1
                        obtain rfl | rfl | rfl | rfl := lc4 zi
                        · obtain rfl := Option.some.inj zo
                          have f0 := zF.old (s := 6) (v := .slice p4_7 (dl (oN k)) n4_7) (by kernel_rfl) rfl
                          refine Or.inl ⟨wanted_no rfl, ?_⟩
                          exact wp_val (.slice p4_7 (dl (oN k)) n4_7) (by simp [go_sem, f0]) ⟨_, rfl, Gr.refl _, rfl⟩
                        · obtain rfl := Option.some.inj zo
                          have f0 := zF.old (s := 11) (v := .slice p10_3 (dl (Q1)) n10_3) (by kernel_rfl) rfl
                          refine Or.inl ⟨wanted_no rfl, ?_⟩
                          exact wp_val (.slice p10_3 (dl (Q1)) n10_3) (by simp [go_sem, f0]) ⟨_, rfl, Gr.refl _, rfl⟩
                        · obtain rfl := Option.some.inj zo
                          have l0 := on_of zD 0 (by kernel_rfl)
                          have f0 := zF.at (s := 100) (i := 0) (by kernel_rfl) (by simp) l0
                          have e0 : vals 0 = .slice p4_7 (dl (oN k)) n4_7 := zR 0 l0
                          rw [e0] at f0
                          have l1 := on_of zD 1 (by kernel_rfl)
                          have f1 := zF.at (s := 101) (i := 1) (by kernel_rfl) (by simp) l1
                          have e1 : vals 1 = .slice p10_3 (dl (Q1)) n10_3 := zR 1 l1
                          rw [e1] at f1
                          refine Or.inl ⟨wanted_no rfl, ?_⟩
                          exact wp_retz (k := .n (F)) (by simp [go_sem, f0, f1]) (show Calls Try.prog 21 #[.slice p4_7 (dl (oN k)) n4_7, .slice p10_3 (dl (Q1)) n10_3] v9 (Rt (.n (F)) v9) from sb_any (S4_7.gr hg) (S10_3.gr hg) ho (by omega) hF) (fun u w2 hu hg2 => ⟨_, rfl, hg2, hu⟩)
                        · obtain rfl := Option.some.inj zo
                          have l0 := on_of zD 2 (by kernel_rfl)
                          have f0 := zF.at (s := 102) (i := 2) (by kernel_rfl) (by simp) l0
                          obtain ⟨p0, n0, e0, S0⟩ := (show ∃ p n, vals 2 = .slice p (dl (F)) n ∧ Sl v9 p (F) from zR 2 l0)
                          rw [e0] at f0
                          refine Or.inl ⟨wanted_no rfl, ?_⟩
                          exact wp_val (.slice p0 (dl (F)) n0) (by simp [go_sem, f0]) ⟨_, rfl, Gr.refl _, ⟨_, _, rfl, S0⟩⟩
                      case hf10 =>
                        intro vals v9 hg zR
                        have e14_0 : vals 0 = .slice p4_7 (dl (oN k)) n4_7 := zR 0 (by simp)
                        have e14_1 : vals 1 = .slice p10_3 (dl (Q1)) n10_3 := zR 1 (by simp)
                        obtain ⟨p14_2, n14_2, e14_2, S14_2⟩ := (show ∃ p n, vals 2 = .slice p (dl (F)) n ∧ Sl v9 p (F) from zR 2 (by simp))
                        obtain ⟨p14_3, n14_3, e14_3, S14_3⟩ := (show ∃ p n, vals 3 = .slice p (dl (F)) n ∧ Sl v9 p (F) from zR 3 (by simp))
                        simp only [putFrom, Act.put, List.setIfInBounds_toArray, List.set_cons_zero, List.set_cons_succ, e14_0, e14_1, e14_2, e14_3]
                        clear zR e14_0 e14_1 e14_2 e14_3
                        replace G := G.trans hg
                        replace c3 := c3.gr hg
                        replace S4_2 := S4_2.gr hg
                        replace S4_5 := S4_5.gr hg
                        replace S4_6 := S4_6.gr hg
                        replace S4_7 := S4_7.gr hg
                        replace S5_2 := S5_2.gr hg
                        replace S5_5 := S5_5.gr hg
                        replace S5_6 := S5_6.gr hg
                        replace S5_7 := S5_7.gr hg
                        replace S8_3 := S8_3.gr hg
                        replace S8_6 := S8_6.gr hg
                        replace S8_7 := S8_7.gr hg
                        replace S9_1 := S9_1.gr hg
                        replace S9_3 := S9_3.gr hg
                        replace S9_7 := S9_7.gr hg
                        replace S9_8 := S9_8.gr hg
                        replace S9_10 := S9_10.gr hg
                        replace S9_12 := S9_12.gr hg
                        replace S9_14 := S9_14.gr hg
                        replace S9_15 := S9_15.gr hg
                        replace S10_1 := S10_1.gr hg
                        replace S10_2 := S10_2.gr hg
                        replace S10_3 := S10_3.gr hg
                        replace S11_0 := S11_0.gr hg
                        replace S11_1 := S11_1.gr hg
                        clear hg
                        go_wp2_with fail
                        go_meet
                        exact ⟨p14_3, n14_3, rfl, G, c3, S4_6, S4_7, S9_15, S14_3⟩
                  clear G c3 S4_2 S4_5 S4_6 S4_7 S5_2 S5_5 S5_6 S5_7 S8_3 S8_6 S8_7 S9_1 S9_3 S9_7 S9_8 S9_10 S9_12 S9_14 S9_15 S10_1 S10_2 S10_3 S11_0 S11_1
                  obtain ⟨px, nx, rfl, HV⟩ := hcut
                  obtain ⟨G, c3, S4_6, S4_7, S9_15, SF⟩ := HV.out
                  clear HV
                  go_upto_region 15 with fail
                  refine wp_region_qS (by kernel_rfl) [.c (.slice px (dl (F)) nx), .c (.slice px (dl (F)) nx), .n (F * F), .c (.slice p4_6 (dl (pN k)) n4_6), .n (pN k * 2 ^ 2), .c (.int .i64 zn), .c (.bool true), .c (.bool true)] ?hs11 ?hf11
                  case hs11 =>
                    intro listed vals a1 v9 io oo hg zR zF zo zD
                    have zi : io < 8 := by simpa using (Array.getElem?_eq_some_iff.1 zo).1
                    obtain rfl | rfl | rfl | rfl | rfl | rfl | rfl | rfl := lc8 zi
                    · obtain rfl := Option.some.inj zo
                      have f0 := zF.old (s := 12) (v := .slice px (dl (F)) nx) (by kernel_rfl) rfl
                      refine Or.inl ⟨wanted_no rfl, ?_⟩
                      exact wp_val (.slice px (dl (F)) nx) (by simp [go_sem, f0]) ⟨_, rfl, Gr.refl _, rfl⟩
                    · obtain rfl := Option.some.inj zo
                      have f0 := zF.old (s := 12) (v := .slice px (dl (F)) nx) (by kernel_rfl) rfl
                      refine Or.inl ⟨wanted_no rfl, ?_⟩
                      exact wp_val (.slice px (dl (F)) nx) (by simp [go_sem, f0]) ⟨_, rfl, Gr.refl _, rfl⟩
                    · obtain rfl := Option.some.inj zo
                      have l0 := on_of zD 0 (by kernel_rfl)
                      have f0 := zF.at (s := 103) (i := 0) (by kernel_rfl) (by simp) l0
                      have e0 : vals 0 = .slice px (dl (F)) nx := zR 0 l0
                      rw [e0] at f0
                      have l1 := on_of zD 1 (by kernel_rfl)
                      have f1 := zF.at (s := 104) (i := 1) (by kernel_rfl) (by simp) l1
                      have e1 : vals 1 = .slice px (dl (F)) nx := zR 1 l1
                      rw [e1] at f1
                      refine Or.inl ⟨wanted_no rfl, ?_⟩
                      exact wp_retz (k := .n (F * F)) (by simp [go_sem, f0, f1]) (show Calls Try.prog 31 #[.slice px (dl (F)) nx, .slice px (dl (F)) nx] v9 (Rt (.n (F * F)) v9) from Rt.n (rmul_any F F _ _ _ _ _ (SF.gr hg) (SF.gr hg) (by omega) (by omega))) (fun u w2 hu hg2 => ⟨_, rfl, hg2, hu⟩)
                    · obtain rfl := Option.some.inj zo
                      have f0 := zF.old (s := 5) (v := .slice p4_6 (dl (pN k)) n4_6) (by kernel_rfl) rfl
                      refine Or.inl ⟨wanted_no rfl, ?_⟩
                      exact wp_val (.slice p4_6 (dl (pN k)) n4_6) (by simp [go_sem, f0]) ⟨_, rfl, Gr.refl _, rfl⟩
                    · obtain rfl := Option.some.inj zo
                      have l0 := on_of zD 3 (by kernel_rfl)
                      have f0 := zF.at (s := 106) (i := 3) (by kernel_rfl) (by simp) l0
                      have e0 : vals 3 = .slice p4_6 (dl (pN k)) n4_6 := zR 3 l0
                      rw [e0] at f0
                      refine Or.inl ⟨wanted_no rfl, ?_⟩
                      exact wp_retz (k := .n (pN k * 2 ^ 2)) (by simp [go_sem, f0]) (show Calls Try.prog 32 #[.slice p4_6 (dl (pN k)) n4_6, .int .i64 2] v9 (Rt (.n (pN k * 2 ^ 2)) v9) from Rt.n (rshl_any (pN k) _ 2 _ _ (S4_6.gr hg) (by omega) (by decide))) (fun u w2 hu hg2 => ⟨_, rfl, hg2, hu⟩)
                    · obtain rfl := Option.some.inj zo
                      have l0 := on_of zD 2 (by kernel_rfl)
                      have f0 := zF.at (s := 105) (i := 2) (by kernel_rfl) (by simp) l0
                      obtain ⟨p0, n0, e0, S0⟩ := (show ∃ p n, vals 2 = .slice p (dl (F * F)) n ∧ Sl v9 p (F * F) from zR 2 l0)
                      rw [e0] at f0
                      have l1 := on_of zD 4 (by kernel_rfl)
                      have f1 := zF.at (s := 107) (i := 4) (by kernel_rfl) (by simp) l1
                      obtain ⟨p1, n1, e1, S1⟩ := (show ∃ p n, vals 4 = .slice p (dl (pN k * 2 ^ 2)) n ∧ Sl v9 p (pN k * 2 ^ 2) from zR 4 l1)
                      rw [e1] at f1
                      refine Or.inl ⟨wanted_no rfl, ?_⟩
                      exact wp_retz (k := .c (.int .i64 zn)) (by simp [go_sem, f0, f1]) (show Calls Try.prog 26 #[.slice p0 (dl (F * F)) n0, .slice p1 (dl (pN k * 2 ^ 2)) n1] v9 (Rt (.c (.int .i64 zn)) v9) from cz_any S0 S1 hff hp4 ezn) (fun u w2 hu hg2 => ⟨_, rfl, hg2, hu⟩)
                    · obtain rfl := Option.some.inj zo
                      have l0 := on_of zD 5 (by kernel_rfl)
                      have f0 := zF.at (s := 108) (i := 5) (by kernel_rfl) (by simp) l0
                      have e0 : vals 5 = .int .i64 zn := zR 5 l0
                      rw [e0] at f0
                      refine Or.inl ⟨wanted_no rfl, ?_⟩
                      exact wp_val (.bool true) (by simp [go_sem, f0, bzn]) ⟨_, rfl, Gr.refl _, rfl⟩
                    · obtain rfl := Option.some.inj zo
                      have l0 := on_of zD 6 (by kernel_rfl)
                      have f0 := zF.at (s := 109) (i := 6) (by kernel_rfl) (by simp) l0
                      have e0 : vals 6 = .bool true := zR 6 l0
                      rw [e0] at f0
                      refine Or.inl ⟨wanted_no rfl, ?_⟩
                      exact wp_val (.bool true) (by simp [go_sem, f0]) ⟨_, rfl, Gr.refl _, rfl⟩
                  case hf11 =>
                    intro vals v9 hg zR
                    have e15_0 : vals 0 = .slice px (dl (F)) nx := zR 0 (by simp)
                    have e15_1 : vals 1 = .slice px (dl (F)) nx := zR 1 (by simp)
                    obtain ⟨p15_2, n15_2, e15_2, S15_2⟩ := (show ∃ p n, vals 2 = .slice p (dl (F * F)) n ∧ Sl v9 p (F * F) from zR 2 (by simp))
                    have e15_3 : vals 3 = .slice p4_6 (dl (pN k)) n4_6 := zR 3 (by simp)
                    obtain ⟨p15_4, n15_4, e15_4, S15_4⟩ := (show ∃ p n, vals 4 = .slice p (dl (pN k * 2 ^ 2)) n ∧ Sl v9 p (pN k * 2 ^ 2) from zR 4 (by simp))
                    have e15_5 : vals 5 = .int .i64 zn := zR 5 (by simp)
                    have e15_6 : vals 6 = .bool true := zR 6 (by simp)
                    have e15_7 : vals 7 = .bool true := zR 7 (by simp)
                    simp only [putFrom, Act.put, List.setIfInBounds_toArray, List.set_cons_zero, List.set_cons_succ, e15_0, e15_1, e15_2, e15_3, e15_4, e15_5, e15_6, e15_7]
                    clear zR e15_0 e15_1 e15_2 e15_3 e15_4 e15_5 e15_6 e15_7
                    replace G := G.trans hg
                    replace c3 := c3.gr hg
                    replace S4_6 := S4_6.gr hg
                    replace S4_7 := S4_7.gr hg
                    replace S9_15 := S9_15.gr hg
                    replace SF := SF.gr hg
                    clear hg
                    go_upto_region 16 with fail
                    by_cases hk1 : (k : Int) = 1
                    · have b1 : ((k : Int) == 1) = true := by rw [beq_iff_eq]; exact hk1
                      have hlg : lgN k = true := by unfold lgN; rw [b1]; rfl
                      refine wp_region_q (by kernel_rfl) (by kernel_rfl) [.c (.slice p9_15 (dl (t7)) n9_15), .c (.int .i64 (dl (t7))), .c (.bool true), .c (.bool true), .c (.bool true), .c (.bool true), .c (.bool true), .c (.pointer (some ⟨e3, 56, none⟩)), .c (.int .i64 (bl (oN k))), .c (.slice p4_7 (dl (oN k)) n4_7), .c (.int .i64 (bl (oN k) : Nat)), .c (.bool true), .c (.bool true), .c (.bool true), .c (.pointer (some ⟨e3, 57, none⟩)), .c (.int .i64 (szN k)), .c (.slice p4_6 (dl (pN k)) n4_6), .c (.int .i64 (T : Int)), .c (.int .i64 ((T : Int) + 7)), .c (.int .i64 (szN k)), .c (.bool true), .c (.bool true), .c (.bool true), .c (.pointer (some ⟨e3, 58, none⟩)), .c (.bool (lgN k)), .c (.pointer (some ⟨e3, 0, none⟩)), .c (.int .i64 (k : Int)), .c (.bool true), .c (.bool true), .top, .top, .top, .c (.bool true), .c (.bool true), .c (.bool true), .c (.bool true)] ?hs12 ?hf12
                      case hs12 =>
                        intro listed vals a1 v10 io oo hg zR zF zo zD
                        have Hc3 : blk v10 (e3) = cu (k : Int) (pN k) (aN k) (bN k) (oN k) (xN k) (yN k) (bl (oN k)) (szN k) (lgN k) := (hg.blk _ c3.p).trans c3.h
                        have Kc3_56 : v10.cell? ⟨e3, 56, none⟩ = some (.int .i64 (bl (oN k))) := by rw [cell_blk, Hc3]; exact cu_56 _ _ _ _ _ _ _ _ _ _
                        have Kc3_57 : v10.cell? ⟨e3, 57, none⟩ = some (.int .i64 (szN k)) := by rw [cell_blk, Hc3]; exact cu_57 _ _ _ _ _ _ _ _ _ _
                        have Kc3_58 : v10.cell? ⟨e3, 58, none⟩ = some (.bool (lgN k)) := by rw [cell_blk, Hc3]; exact cu_58 _ _ _ _ _ _ _ _ _ _
                        have Kc3_0 : v10.cell? ⟨e3, 0, none⟩ = some (.int .i64 (k : Int)) := by rw [cell_blk, Hc3]; exact cu_0 _ _ _ _ _ _ _ _ _ _
                        have zi : io < 36 := by simpa using (Array.getElem?_eq_some_iff.1 zo).1
                        obtain rfl | rfl | rfl | rfl | rfl | rfl | rfl | rfl | rfl | rfl | rfl | rfl | rfl | rfl | rfl | rfl | rfl | rfl | rfl | rfl | rfl | rfl | rfl | rfl | rfl | rfl | rfl | rfl | rfl | rfl | rfl | rfl | rfl | rfl | rfl | rfl := lc36 zi
                        · obtain rfl := Option.some.inj zo
                          have f0 := zF.old (s := 10) (v := .slice p9_15 (dl (t7)) n9_15) (by kernel_rfl) rfl
                          refine Or.inl ⟨wanted_no rfl, ?_⟩
                          exact wp_val (.slice p9_15 (dl (t7)) n9_15) (by simp [go_sem, f0]) ⟨_, rfl, Gr.refl _, rfl⟩
                        · obtain rfl := Option.some.inj zo
                          have l0 := on_of zD 0 (by kernel_rfl)
                          have f0 := zF.at (s := 110) (i := 0) (by kernel_rfl) (by simp) l0
                          have e0 : vals 0 = .slice p9_15 (dl (t7)) n9_15 := zR 0 l0
                          rw [e0] at f0
                          refine Or.inl ⟨wanted_no rfl, ?_⟩
                          exact wp_val (.int .i64 (dl (t7))) (by simp [go_sem, f0]) ⟨_, rfl, Gr.refl _, rfl⟩
                        · obtain rfl := Option.some.inj zo
                          have l0 := on_of zD 1 (by kernel_rfl)
                          have f0 := zF.at (s := 111) (i := 1) (by kernel_rfl) (by simp) l0
                          have e0 : vals 1 = .int .i64 (dl (t7)) := zR 1 l0
                          rw [e0] at f0
                          refine Or.inl ⟨wanted_no rfl, ?_⟩
                          exact wp_val (.bool true) (by simp [go_sem, f0, hdl0]) ⟨_, rfl, Gr.refl _, rfl⟩
                        · obtain rfl := Option.some.inj zo
                          have l0 := on_of zD 2 (by kernel_rfl)
                          have f0 := zF.at (s := 112) (i := 2) (by kernel_rfl) (by simp) l0
                          have e0 : vals 2 = .bool true := zR 2 l0
                          rw [e0] at f0
                          refine Or.inl ⟨wanted_no rfl, ?_⟩
                          exact wp_val (.bool true) (by simp [go_sem, f0]) ⟨_, rfl, Gr.refl _, rfl⟩
                        · obtain rfl := Option.some.inj zo
                          have lg := on_of zD 3 (by kernel_rfl)
                          have fg := zF.at (s := 113) (i := 3) (by kernel_rfl) (by simp) lg
                          rw [show vals 3 = .bool true from zR 3 lg] at fg
                          have f0 := zF.old (s := 13) (v := .bool true) (by kernel_rfl) rfl
                          refine Or.inl ⟨wanted_at (j := 3) (s := 113) rfl rfl rfl fg, ?_⟩
                          exact wp_val (.bool true) (by simp [go_sem, f0]) ⟨_, rfl, Gr.refl _, rfl⟩
                        · obtain rfl := Option.some.inj zo
                          have l0 := on_of zD 3 (by kernel_rfl)
                          have f0 := zF.at (s := 113) (i := 3) (by kernel_rfl) (by simp) l0
                          have e0 : vals 3 = .bool true := zR 3 l0
                          rw [e0] at f0
                          have l1 := on_of zD 4 (by kernel_rfl)
                          have f1 := zF.at (s := 114) (i := 4) (by kernel_rfl) (by simp) l1
                          have e1 : vals 4 = .bool true := zR 4 l1
                          rw [e1] at f1
                          refine Or.inl ⟨wanted_no rfl, ?_⟩
                          exact wp_val (.bool true) (by simp [go_sem, f0, f1]) ⟨_, rfl, Gr.refl _, rfl⟩
                        · obtain rfl := Option.some.inj zo
                          have l0 := on_of zD 5 (by kernel_rfl)
                          have f0 := zF.at (s := 115) (i := 5) (by kernel_rfl) (by simp) l0
                          have e0 : vals 5 = .bool true := zR 5 l0
                          rw [e0] at f0
                          refine Or.inl ⟨wanted_no rfl, ?_⟩
                          exact wp_val (.bool true) (by simp [go_sem, f0]) ⟨_, rfl, Gr.refl _, rfl⟩
                        · obtain rfl := Option.some.inj zo
                          have lg := on_of zD 6 (by kernel_rfl)
                          have fg := zF.at (s := 116) (i := 6) (by kernel_rfl) (by simp) lg
                          rw [show vals 6 = .bool true from zR 6 lg] at fg
                          have f0 := zF.old (s := 3) (v := .pointer (some ⟨e3, 0, none⟩)) (by kernel_rfl) rfl
                          refine Or.inl ⟨wanted_at (j := 6) (s := 116) rfl rfl rfl fg, ?_⟩
                          exact wp_val (.pointer (some ⟨e3, 56, none⟩)) (by simp [go_sem, f0]) ⟨_, rfl, Gr.refl _, rfl⟩
                        · obtain rfl := Option.some.inj zo
                          have lg := on_of zD 6 (by kernel_rfl)
                          have fg := zF.at (s := 116) (i := 6) (by kernel_rfl) (by simp) lg
                          rw [show vals 6 = .bool true from zR 6 lg] at fg
                          have l0 := on_of zD 7 (by kernel_rfl)
                          have f0 := zF.at (s := 117) (i := 7) (by kernel_rfl) (by simp) l0
                          have e0 : vals 7 = .pointer (some ⟨e3, 56, none⟩) := zR 7 l0
                          rw [e0] at f0
                          refine Or.inl ⟨wanted_at (j := 6) (s := 116) rfl rfl rfl fg, ?_⟩
                          exact wp_val (.int .i64 (bl (oN k))) (by simp [go_sem, f0, Kc3_56]) ⟨_, rfl, Gr.refl _, rfl⟩
                        · obtain rfl := Option.some.inj zo
                          have lg := on_of zD 6 (by kernel_rfl)
                          have fg := zF.at (s := 116) (i := 6) (by kernel_rfl) (by simp) lg
                          rw [show vals 6 = .bool true from zR 6 lg] at fg
                          have f0 := zF.old (s := 6) (v := .slice p4_7 (dl (oN k)) n4_7) (by kernel_rfl) rfl
                          refine Or.inl ⟨wanted_at (j := 6) (s := 116) rfl rfl rfl fg, ?_⟩
                          exact wp_val (.slice p4_7 (dl (oN k)) n4_7) (by simp [go_sem, f0]) ⟨_, rfl, Gr.refl _, rfl⟩
                        · obtain rfl := Option.some.inj zo
                          have lg := on_of zD 6 (by kernel_rfl)
                          have fg := zF.at (s := 116) (i := 6) (by kernel_rfl) (by simp) lg
                          rw [show vals 6 = .bool true from zR 6 lg] at fg
                          have l0 := on_of zD 9 (by kernel_rfl)
                          have f0 := zF.at (s := 119) (i := 9) (by kernel_rfl) (by simp) l0
                          have e0 : vals 9 = .slice p4_7 (dl (oN k)) n4_7 := zR 9 l0
                          rw [e0] at f0
                          refine Or.inl ⟨wanted_at (j := 6) (s := 116) rfl rfl rfl fg, ?_⟩
                          exact wp_retz (k := .c (.int .i64 (bl (oN k) : Nat))) (by simp [go_sem, f0]) (show Calls Try.prog 33 #[.slice p4_7 (dl (oN k)) n4_7] v10 (Rt (.c (.int .i64 (bl (oN k) : Nat))) v10) from bt_any (S4_7.gr hg) ho rfl) (fun u w2 hu hg2 => ⟨_, rfl, hg2, hu⟩)
                        · obtain rfl := Option.some.inj zo
                          have lg := on_of zD 6 (by kernel_rfl)
                          have fg := zF.at (s := 116) (i := 6) (by kernel_rfl) (by simp) lg
                          rw [show vals 6 = .bool true from zR 6 lg] at fg
                          have l0 := on_of zD 8 (by kernel_rfl)
                          have f0 := zF.at (s := 118) (i := 8) (by kernel_rfl) (by simp) l0
                          have e0 : vals 8 = .int .i64 (bl (oN k)) := zR 8 l0
                          rw [e0] at f0
                          have l1 := on_of zD 10 (by kernel_rfl)
                          have f1 := zF.at (s := 120) (i := 10) (by kernel_rfl) (by simp) l1
                          have e1 : vals 10 = .int .i64 (bl (oN k) : Nat) := zR 10 l1
                          rw [e1] at f1
                          refine Or.inl ⟨wanted_at (j := 6) (s := 116) rfl rfl rfl fg, ?_⟩
                          exact wp_val (.bool true) (by simp [go_sem, f0, f1]) ⟨_, rfl, Gr.refl _, rfl⟩
                        · obtain rfl := Option.some.inj zo
                          have l0 := on_of zD 6 (by kernel_rfl)
                          have f0 := zF.at (s := 116) (i := 6) (by kernel_rfl) (by simp) l0
                          have e0 : vals 6 = .bool true := zR 6 l0
                          rw [e0] at f0
                          have l1 := on_of zD 11 (by kernel_rfl)
                          have f1 := zF.at (s := 121) (i := 11) (by kernel_rfl) (by simp) l1
                          have e1 : vals 11 = .bool true := zR 11 l1
                          rw [e1] at f1
                          refine Or.inl ⟨wanted_no rfl, ?_⟩
                          exact wp_val (.bool true) (by simp [go_sem, f0, f1]) ⟨_, rfl, Gr.refl _, rfl⟩
                        · obtain rfl := Option.some.inj zo
                          have l0 := on_of zD 12 (by kernel_rfl)
                          have f0 := zF.at (s := 122) (i := 12) (by kernel_rfl) (by simp) l0
                          have e0 : vals 12 = .bool true := zR 12 l0
                          rw [e0] at f0
                          refine Or.inl ⟨wanted_no rfl, ?_⟩
                          exact wp_val (.bool true) (by simp [go_sem, f0]) ⟨_, rfl, Gr.refl _, rfl⟩
                        · obtain rfl := Option.some.inj zo
                          have lg := on_of zD 13 (by kernel_rfl)
                          have fg := zF.at (s := 123) (i := 13) (by kernel_rfl) (by simp) lg
                          rw [show vals 13 = .bool true from zR 13 lg] at fg
                          have f0 := zF.old (s := 3) (v := .pointer (some ⟨e3, 0, none⟩)) (by kernel_rfl) rfl
                          refine Or.inl ⟨wanted_at (j := 13) (s := 123) rfl rfl rfl fg, ?_⟩
                          exact wp_val (.pointer (some ⟨e3, 57, none⟩)) (by simp [go_sem, f0]) ⟨_, rfl, Gr.refl _, rfl⟩
                        · obtain rfl := Option.some.inj zo
                          have lg := on_of zD 13 (by kernel_rfl)
                          have fg := zF.at (s := 123) (i := 13) (by kernel_rfl) (by simp) lg
                          rw [show vals 13 = .bool true from zR 13 lg] at fg
                          have l0 := on_of zD 14 (by kernel_rfl)
                          have f0 := zF.at (s := 124) (i := 14) (by kernel_rfl) (by simp) l0
                          have e0 : vals 14 = .pointer (some ⟨e3, 57, none⟩) := zR 14 l0
                          rw [e0] at f0
                          refine Or.inl ⟨wanted_at (j := 13) (s := 123) rfl rfl rfl fg, ?_⟩
                          exact wp_val (.int .i64 (szN k)) (by simp [go_sem, f0, Kc3_57]) ⟨_, rfl, Gr.refl _, rfl⟩
                        · obtain rfl := Option.some.inj zo
                          have lg := on_of zD 13 (by kernel_rfl)
                          have fg := zF.at (s := 123) (i := 13) (by kernel_rfl) (by simp) lg
                          rw [show vals 13 = .bool true from zR 13 lg] at fg
                          have f0 := zF.old (s := 5) (v := .slice p4_6 (dl (pN k)) n4_6) (by kernel_rfl) rfl
                          refine Or.inl ⟨wanted_at (j := 13) (s := 123) rfl rfl rfl fg, ?_⟩
                          exact wp_val (.slice p4_6 (dl (pN k)) n4_6) (by simp [go_sem, f0]) ⟨_, rfl, Gr.refl _, rfl⟩
                        · obtain rfl := Option.some.inj zo
                          have lg := on_of zD 13 (by kernel_rfl)
                          have fg := zF.at (s := 123) (i := 13) (by kernel_rfl) (by simp) lg
                          rw [show vals 13 = .bool true from zR 13 lg] at fg
                          have l0 := on_of zD 16 (by kernel_rfl)
                          have f0 := zF.at (s := 126) (i := 16) (by kernel_rfl) (by simp) l0
                          have e0 : vals 16 = .slice p4_6 (dl (pN k)) n4_6 := zR 16 l0
                          rw [e0] at f0
                          refine Or.inl ⟨wanted_at (j := 13) (s := 123) rfl rfl rfl fg, ?_⟩
                          exact wp_retz (k := .c (.int .i64 (T : Int))) (by simp [go_sem, f0]) (show Calls Try.prog 33 #[.slice p4_6 (dl (pN k)) n4_6] v10 (Rt (.c (.int .i64 (T : Int))) v10) from bt_any (S4_6.gr hg) hd hT) (fun u w2 hu hg2 => ⟨_, rfl, hg2, hu⟩)
                        · obtain rfl := Option.some.inj zo
                          have lg := on_of zD 13 (by kernel_rfl)
                          have fg := zF.at (s := 123) (i := 13) (by kernel_rfl) (by simp) lg
                          rw [show vals 13 = .bool true from zR 13 lg] at fg
                          have l0 := on_of zD 17 (by kernel_rfl)
                          have f0 := zF.at (s := 127) (i := 17) (by kernel_rfl) (by simp) l0
                          have e0 : vals 17 = .int .i64 (T : Int) := zR 17 l0
                          rw [e0] at f0
                          refine Or.inl ⟨wanted_at (j := 13) (s := 123) rfl rfl rfl fg, ?_⟩
                          exact wp_val (.int .i64 ((T : Int) + 7)) (by simp [go_sem, f0, tw]) ⟨_, rfl, Gr.refl _, rfl⟩
                        · obtain rfl := Option.some.inj zo
                          have lg := on_of zD 13 (by kernel_rfl)
                          have fg := zF.at (s := 123) (i := 13) (by kernel_rfl) (by simp) lg
                          rw [show vals 13 = .bool true from zR 13 lg] at fg
                          have l0 := on_of zD 18 (by kernel_rfl)
                          have f0 := zF.at (s := 128) (i := 18) (by kernel_rfl) (by simp) l0
                          have e0 : vals 18 = .int .i64 ((T : Int) + 7) := zR 18 l0
                          rw [e0] at f0
                          refine Or.inl ⟨wanted_at (j := 13) (s := 123) rfl rfl rfl fg, ?_⟩
                          exact wp_val (.int .i64 (szN k)) (by simp [go_sem, f0, tv]) ⟨_, rfl, Gr.refl _, rfl⟩
                        · obtain rfl := Option.some.inj zo
                          have lg := on_of zD 13 (by kernel_rfl)
                          have fg := zF.at (s := 123) (i := 13) (by kernel_rfl) (by simp) lg
                          rw [show vals 13 = .bool true from zR 13 lg] at fg
                          have l0 := on_of zD 15 (by kernel_rfl)
                          have f0 := zF.at (s := 125) (i := 15) (by kernel_rfl) (by simp) l0
                          have e0 : vals 15 = .int .i64 (szN k) := zR 15 l0
                          rw [e0] at f0
                          have l1 := on_of zD 19 (by kernel_rfl)
                          have f1 := zF.at (s := 129) (i := 19) (by kernel_rfl) (by simp) l1
                          have e1 : vals 19 = .int .i64 (szN k) := zR 19 l1
                          rw [e1] at f1
                          refine Or.inl ⟨wanted_at (j := 13) (s := 123) rfl rfl rfl fg, ?_⟩
                          exact wp_val (.bool true) (by simp [go_sem, f0, f1]) ⟨_, rfl, Gr.refl _, rfl⟩
                        · obtain rfl := Option.some.inj zo
                          have l0 := on_of zD 13 (by kernel_rfl)
                          have f0 := zF.at (s := 123) (i := 13) (by kernel_rfl) (by simp) l0
                          have e0 : vals 13 = .bool true := zR 13 l0
                          rw [e0] at f0
                          have l1 := on_of zD 20 (by kernel_rfl)
                          have f1 := zF.at (s := 130) (i := 20) (by kernel_rfl) (by simp) l1
                          have e1 : vals 20 = .bool true := zR 20 l1
                          rw [e1] at f1
                          refine Or.inl ⟨wanted_no rfl, ?_⟩
                          exact wp_val (.bool true) (by simp [go_sem, f0, f1]) ⟨_, rfl, Gr.refl _, rfl⟩
                        · obtain rfl := Option.some.inj zo
                          have l0 := on_of zD 21 (by kernel_rfl)
                          have f0 := zF.at (s := 131) (i := 21) (by kernel_rfl) (by simp) l0
                          have e0 : vals 21 = .bool true := zR 21 l0
                          rw [e0] at f0
                          refine Or.inl ⟨wanted_no rfl, ?_⟩
                          exact wp_val (.bool true) (by simp [go_sem, f0]) ⟨_, rfl, Gr.refl _, rfl⟩
                        · obtain rfl := Option.some.inj zo
                          have lg := on_of zD 22 (by kernel_rfl)
                          have fg := zF.at (s := 132) (i := 22) (by kernel_rfl) (by simp) lg
                          rw [show vals 22 = .bool true from zR 22 lg] at fg
                          have f0 := zF.old (s := 3) (v := .pointer (some ⟨e3, 0, none⟩)) (by kernel_rfl) rfl
                          refine Or.inl ⟨wanted_at (j := 22) (s := 132) rfl rfl rfl fg, ?_⟩
                          exact wp_val (.pointer (some ⟨e3, 58, none⟩)) (by simp [go_sem, f0]) ⟨_, rfl, Gr.refl _, rfl⟩
                        · obtain rfl := Option.some.inj zo
                          have lg := on_of zD 22 (by kernel_rfl)
                          have fg := zF.at (s := 132) (i := 22) (by kernel_rfl) (by simp) lg
                          rw [show vals 22 = .bool true from zR 22 lg] at fg
                          have l0 := on_of zD 23 (by kernel_rfl)
                          have f0 := zF.at (s := 133) (i := 23) (by kernel_rfl) (by simp) l0
                          have e0 : vals 23 = .pointer (some ⟨e3, 58, none⟩) := zR 23 l0
                          rw [e0] at f0
                          refine Or.inl ⟨wanted_at (j := 22) (s := 132) rfl rfl rfl fg, ?_⟩
                          exact wp_val (.bool (lgN k)) (by simp [go_sem, f0, Kc3_58]) ⟨_, rfl, Gr.refl _, rfl⟩
                        · obtain rfl := Option.some.inj zo
                          have lg := on_of zD 22 (by kernel_rfl)
                          have fg := zF.at (s := 132) (i := 22) (by kernel_rfl) (by simp) lg
                          rw [show vals 22 = .bool true from zR 22 lg] at fg
                          have f0 := zF.old (s := 3) (v := .pointer (some ⟨e3, 0, none⟩)) (by kernel_rfl) rfl
                          refine Or.inl ⟨wanted_at (j := 22) (s := 132) rfl rfl rfl fg, ?_⟩
                          exact wp_val (.pointer (some ⟨e3, 0, none⟩)) (by simp [go_sem, f0]) ⟨_, rfl, Gr.refl _, rfl⟩
                        · obtain rfl := Option.some.inj zo
                          have lg := on_of zD 22 (by kernel_rfl)
                          have fg := zF.at (s := 132) (i := 22) (by kernel_rfl) (by simp) lg
                          rw [show vals 22 = .bool true from zR 22 lg] at fg
                          have l0 := on_of zD 25 (by kernel_rfl)
                          have f0 := zF.at (s := 135) (i := 25) (by kernel_rfl) (by simp) l0
                          have e0 : vals 25 = .pointer (some ⟨e3, 0, none⟩) := zR 25 l0
                          rw [e0] at f0
                          refine Or.inl ⟨wanted_at (j := 22) (s := 132) rfl rfl rfl fg, ?_⟩
                          exact wp_val (.int .i64 (k : Int)) (by simp [go_sem, f0, Kc3_0]) ⟨_, rfl, Gr.refl _, rfl⟩
                        · obtain rfl := Option.some.inj zo
                          have lg := on_of zD 22 (by kernel_rfl)
                          have fg := zF.at (s := 132) (i := 22) (by kernel_rfl) (by simp) lg
                          rw [show vals 22 = .bool true from zR 22 lg] at fg
                          have l0 := on_of zD 26 (by kernel_rfl)
                          have f0 := zF.at (s := 136) (i := 26) (by kernel_rfl) (by simp) l0
                          have e0 : vals 26 = .int .i64 (k : Int) := zR 26 l0
                          rw [e0] at f0
                          refine Or.inl ⟨wanted_at (j := 22) (s := 132) rfl rfl rfl fg, ?_⟩
                          exact wp_val (.bool true) (by simp [go_sem, f0, b1]) ⟨_, rfl, Gr.refl _, rfl⟩
                        · obtain rfl := Option.some.inj zo
                          have lg := on_of zD 22 (by kernel_rfl)
                          have fg := zF.at (s := 132) (i := 22) (by kernel_rfl) (by simp) lg
                          rw [show vals 22 = .bool true from zR 22 lg] at fg
                          have l0 := on_of zD 27 (by kernel_rfl)
                          have f0 := zF.at (s := 137) (i := 27) (by kernel_rfl) (by simp) l0
                          have e0 : vals 27 = .bool true := zR 27 l0
                          rw [e0] at f0
                          refine Or.inl ⟨wanted_at (j := 22) (s := 132) rfl rfl rfl fg, ?_⟩
                          exact wp_val (.bool true) (by simp [go_sem, f0]) ⟨_, rfl, Gr.refl _, rfl⟩
                        · obtain rfl := Option.some.inj zo
                          have lg := on_of zD 28 (by kernel_rfl)
                          have fg := zF.at (s := 138) (i := 28) (by kernel_rfl) (by simp) lg
                          rw [show vals 28 = .bool true from zR 28 lg] at fg
                          exact Or.inr ⟨unwanted_at (j := 28) (s := 138) rfl rfl rfl fg (by decide), trivial⟩
                        · obtain rfl := Option.some.inj zo
                          have lg := on_of zD 28 (by kernel_rfl)
                          have fg := zF.at (s := 138) (i := 28) (by kernel_rfl) (by simp) lg
                          rw [show vals 28 = .bool true from zR 28 lg] at fg
                          exact Or.inr ⟨unwanted_at (j := 28) (s := 138) rfl rfl rfl fg (by decide), trivial⟩
                        · obtain rfl := Option.some.inj zo
                          have lg := on_of zD 28 (by kernel_rfl)
                          have fg := zF.at (s := 138) (i := 28) (by kernel_rfl) (by simp) lg
                          rw [show vals 28 = .bool true from zR 28 lg] at fg
                          exact Or.inr ⟨unwanted_at (j := 28) (s := 138) rfl rfl rfl fg (by decide), trivial⟩
                        · obtain rfl := Option.some.inj zo
                          have lg := on_of zD 22 (by kernel_rfl)
                          have fg := zF.at (s := 132) (i := 22) (by kernel_rfl) (by simp) lg
                          rw [show vals 22 = .bool true from zR 22 lg] at fg
                          have l0 := on_of zD 28 (by kernel_rfl)
                          have f0 := zF.at (s := 138) (i := 28) (by kernel_rfl) (by simp) l0
                          have e0 : vals 28 = .bool true := zR 28 l0
                          rw [e0] at f0
                          have l1 := on_of zD 31 (by kernel_rfl)
                          have f1 := zF.at (s := 141) (i := 31) (by kernel_rfl) (by simp) l1
                          refine Or.inl ⟨wanted_at (j := 22) (s := 132) rfl rfl rfl fg, ?_⟩
                          exact wp_val (.bool true) (by simp [go_sem, f0, f1]) ⟨_, rfl, Gr.refl _, rfl⟩
                        · obtain rfl := Option.some.inj zo
                          have lg := on_of zD 22 (by kernel_rfl)
                          have fg := zF.at (s := 132) (i := 22) (by kernel_rfl) (by simp) lg
                          rw [show vals 22 = .bool true from zR 22 lg] at fg
                          have l0 := on_of zD 24 (by kernel_rfl)
                          have f0 := zF.at (s := 134) (i := 24) (by kernel_rfl) (by simp) l0
                          have e0 : vals 24 = .bool (lgN k) := zR 24 l0
                          rw [e0] at f0
                          have l1 := on_of zD 32 (by kernel_rfl)
                          have f1 := zF.at (s := 142) (i := 32) (by kernel_rfl) (by simp) l1
                          have e1 : vals 32 = .bool true := zR 32 l1
                          rw [e1] at f1
                          refine Or.inl ⟨wanted_at (j := 22) (s := 132) rfl rfl rfl fg, ?_⟩
                          exact wp_val (.bool true) (by simp [go_sem, f0, f1, hlg]) ⟨_, rfl, Gr.refl _, rfl⟩
                        · obtain rfl := Option.some.inj zo
                          have l0 := on_of zD 22 (by kernel_rfl)
                          have f0 := zF.at (s := 132) (i := 22) (by kernel_rfl) (by simp) l0
                          have e0 : vals 22 = .bool true := zR 22 l0
                          rw [e0] at f0
                          have l1 := on_of zD 33 (by kernel_rfl)
                          have f1 := zF.at (s := 143) (i := 33) (by kernel_rfl) (by simp) l1
                          have e1 : vals 33 = .bool true := zR 33 l1
                          rw [e1] at f1
                          refine Or.inl ⟨wanted_no rfl, ?_⟩
                          exact wp_val (.bool true) (by simp [go_sem, f0, f1]) ⟨_, rfl, Gr.refl _, rfl⟩
                        · obtain rfl := Option.some.inj zo
                          have l0 := on_of zD 34 (by kernel_rfl)
                          have f0 := zF.at (s := 144) (i := 34) (by kernel_rfl) (by simp) l0
                          have e0 : vals 34 = .bool true := zR 34 l0
                          rw [e0] at f0
                          refine Or.inl ⟨wanted_no rfl, ?_⟩
                          exact wp_val (.bool true) (by simp [go_sem, f0]) ⟨_, rfl, Gr.refl _, rfl⟩
                      case hf12 =>
                        intro vals v10 hg zR
                        have e16_0 : vals 0 = .slice p9_15 (dl (t7)) n9_15 := zR 0 (by simp)
                        have e16_1 : vals 1 = .int .i64 (dl (t7)) := zR 1 (by simp)
                        have e16_2 : vals 2 = .bool true := zR 2 (by simp)
                        have e16_3 : vals 3 = .bool true := zR 3 (by simp)
                        have e16_4 : vals 4 = .bool true := zR 4 (by simp)
                        have e16_5 : vals 5 = .bool true := zR 5 (by simp)
                        have e16_6 : vals 6 = .bool true := zR 6 (by simp)
                        have e16_7 : vals 7 = .pointer (some ⟨e3, 56, none⟩) := zR 7 (by simp)
                        have e16_8 : vals 8 = .int .i64 (bl (oN k)) := zR 8 (by simp)
                        have e16_9 : vals 9 = .slice p4_7 (dl (oN k)) n4_7 := zR 9 (by simp)
                        have e16_10 : vals 10 = .int .i64 (bl (oN k) : Nat) := zR 10 (by simp)
                        have e16_11 : vals 11 = .bool true := zR 11 (by simp)
                        have e16_12 : vals 12 = .bool true := zR 12 (by simp)
                        have e16_13 : vals 13 = .bool true := zR 13 (by simp)
                        have e16_14 : vals 14 = .pointer (some ⟨e3, 57, none⟩) := zR 14 (by simp)
                        have e16_15 : vals 15 = .int .i64 (szN k) := zR 15 (by simp)
                        have e16_16 : vals 16 = .slice p4_6 (dl (pN k)) n4_6 := zR 16 (by simp)
                        have e16_17 : vals 17 = .int .i64 (T : Int) := zR 17 (by simp)
                        have e16_18 : vals 18 = .int .i64 ((T : Int) + 7) := zR 18 (by simp)
                        have e16_19 : vals 19 = .int .i64 (szN k) := zR 19 (by simp)
                        have e16_20 : vals 20 = .bool true := zR 20 (by simp)
                        have e16_21 : vals 21 = .bool true := zR 21 (by simp)
                        have e16_22 : vals 22 = .bool true := zR 22 (by simp)
                        have e16_23 : vals 23 = .pointer (some ⟨e3, 58, none⟩) := zR 23 (by simp)
                        have e16_24 : vals 24 = .bool (lgN k) := zR 24 (by simp)
                        have e16_25 : vals 25 = .pointer (some ⟨e3, 0, none⟩) := zR 25 (by simp)
                        have e16_26 : vals 26 = .int .i64 (k : Int) := zR 26 (by simp)
                        have e16_27 : vals 27 = .bool true := zR 27 (by simp)
                        have e16_28 : vals 28 = .bool true := zR 28 (by simp)
                        have e16_32 : vals 32 = .bool true := zR 32 (by simp)
                        have e16_33 : vals 33 = .bool true := zR 33 (by simp)
                        have e16_34 : vals 34 = .bool true := zR 34 (by simp)
                        have e16_35 : vals 35 = .bool true := zR 35 (by simp)
                        simp only [putFrom, Act.put, List.setIfInBounds_toArray, List.set_cons_zero, List.set_cons_succ, e16_0, e16_1, e16_2, e16_3, e16_4, e16_5, e16_6, e16_7, e16_8, e16_9, e16_10, e16_11, e16_12, e16_13, e16_14, e16_15, e16_16, e16_17, e16_18, e16_19, e16_20, e16_21, e16_22, e16_23, e16_24, e16_25, e16_26, e16_27, e16_28, e16_32, e16_33, e16_34, e16_35]
                        clear zR e16_0 e16_1 e16_2 e16_3 e16_4 e16_5 e16_6 e16_7 e16_8 e16_9 e16_10 e16_11 e16_12 e16_13 e16_14 e16_15 e16_16 e16_17 e16_18 e16_19 e16_20 e16_21 e16_22 e16_23 e16_24 e16_25 e16_26 e16_27 e16_28 e16_32 e16_33 e16_34 e16_35
                        replace G := G.trans hg
                        replace c3 := c3.gr hg
                        replace S4_6 := S4_6.gr hg
                        replace S4_7 := S4_7.gr hg
                        replace S9_15 := S9_15.gr hg
                        replace SF := SF.gr hg
                        replace S15_2 := S15_2.gr hg
                        replace S15_4 := S15_4.gr hg
                        clear hg
                        go_wp2_with fail
                        go_ret
                        exact ⟨rfl, G⟩
                    · have b1 : ((k : Int) == 1) = false := by rw [beq_eq_false_iff_ne]; exact hk1
                      have hlg : lgN k = b7 := by unfold lgN; rw [b1, h7]; rfl
                      refine wp_region_q (by kernel_rfl) (by kernel_rfl) [.c (.slice p9_15 (dl (t7)) n9_15), .c (.int .i64 (dl (t7))), .c (.bool true), .c (.bool true), .c (.bool true), .c (.bool true), .c (.bool true), .c (.pointer (some ⟨e3, 56, none⟩)), .c (.int .i64 (bl (oN k))), .c (.slice p4_7 (dl (oN k)) n4_7), .c (.int .i64 (bl (oN k) : Nat)), .c (.bool true), .c (.bool true), .c (.bool true), .c (.pointer (some ⟨e3, 57, none⟩)), .c (.int .i64 (szN k)), .c (.slice p4_6 (dl (pN k)) n4_6), .c (.int .i64 (T : Int)), .c (.int .i64 ((T : Int) + 7)), .c (.int .i64 (szN k)), .c (.bool true), .c (.bool true), .c (.bool true), .c (.pointer (some ⟨e3, 58, none⟩)), .c (.bool (lgN k)), .c (.pointer (some ⟨e3, 0, none⟩)), .c (.int .i64 (k : Int)), .c (.bool false), .c (.bool false), .c (.pointer (some ⟨e3, 0, none⟩)), .c (.int .i64 (k : Int)), .c (.bool b7), .c (.bool b7), .c (.bool true), .c (.bool true), .c (.bool true)] ?hs13 ?hf13
                      case hs13 =>
                        intro listed vals a1 v10 io oo hg zR zF zo zD
                        have Hc3 : blk v10 (e3) = cu (k : Int) (pN k) (aN k) (bN k) (oN k) (xN k) (yN k) (bl (oN k)) (szN k) (lgN k) := (hg.blk _ c3.p).trans c3.h
                        have Kc3_56 : v10.cell? ⟨e3, 56, none⟩ = some (.int .i64 (bl (oN k))) := by rw [cell_blk, Hc3]; exact cu_56 _ _ _ _ _ _ _ _ _ _
                        have Kc3_57 : v10.cell? ⟨e3, 57, none⟩ = some (.int .i64 (szN k)) := by rw [cell_blk, Hc3]; exact cu_57 _ _ _ _ _ _ _ _ _ _
                        have Kc3_58 : v10.cell? ⟨e3, 58, none⟩ = some (.bool (lgN k)) := by rw [cell_blk, Hc3]; exact cu_58 _ _ _ _ _ _ _ _ _ _
                        have Kc3_0 : v10.cell? ⟨e3, 0, none⟩ = some (.int .i64 (k : Int)) := by rw [cell_blk, Hc3]; exact cu_0 _ _ _ _ _ _ _ _ _ _
                        have zi : io < 36 := by simpa using (Array.getElem?_eq_some_iff.1 zo).1
                        obtain rfl | rfl | rfl | rfl | rfl | rfl | rfl | rfl | rfl | rfl | rfl | rfl | rfl | rfl | rfl | rfl | rfl | rfl | rfl | rfl | rfl | rfl | rfl | rfl | rfl | rfl | rfl | rfl | rfl | rfl | rfl | rfl | rfl | rfl | rfl | rfl := lc36 zi
                        · obtain rfl := Option.some.inj zo
                          have f0 := zF.old (s := 10) (v := .slice p9_15 (dl (t7)) n9_15) (by kernel_rfl) rfl
                          refine Or.inl ⟨wanted_no rfl, ?_⟩
                          exact wp_val (.slice p9_15 (dl (t7)) n9_15) (by simp [go_sem, f0]) ⟨_, rfl, Gr.refl _, rfl⟩
                        · obtain rfl := Option.some.inj zo
                          have l0 := on_of zD 0 (by kernel_rfl)
                          have f0 := zF.at (s := 110) (i := 0) (by kernel_rfl) (by simp) l0
                          have e0 : vals 0 = .slice p9_15 (dl (t7)) n9_15 := zR 0 l0
                          rw [e0] at f0
                          refine Or.inl ⟨wanted_no rfl, ?_⟩
                          exact wp_val (.int .i64 (dl (t7))) (by simp [go_sem, f0]) ⟨_, rfl, Gr.refl _, rfl⟩
                        · obtain rfl := Option.some.inj zo
                          have l0 := on_of zD 1 (by kernel_rfl)
                          have f0 := zF.at (s := 111) (i := 1) (by kernel_rfl) (by simp) l0
                          have e0 : vals 1 = .int .i64 (dl (t7)) := zR 1 l0
                          rw [e0] at f0
                          refine Or.inl ⟨wanted_no rfl, ?_⟩
                          exact wp_val (.bool true) (by simp [go_sem, f0, hdl0]) ⟨_, rfl, Gr.refl _, rfl⟩
                        · obtain rfl := Option.some.inj zo
                          have l0 := on_of zD 2 (by kernel_rfl)
                          have f0 := zF.at (s := 112) (i := 2) (by kernel_rfl) (by simp) l0
                          have e0 : vals 2 = .bool true := zR 2 l0
                          rw [e0] at f0
                          refine Or.inl ⟨wanted_no rfl, ?_⟩
                          exact wp_val (.bool true) (by simp [go_sem, f0]) ⟨_, rfl, Gr.refl _, rfl⟩
                        · obtain rfl := Option.some.inj zo
                          have lg := on_of zD 3 (by kernel_rfl)
                          have fg := zF.at (s := 113) (i := 3) (by kernel_rfl) (by simp) lg
                          rw [show vals 3 = .bool true from zR 3 lg] at fg
                          have f0 := zF.old (s := 13) (v := .bool true) (by kernel_rfl) rfl
                          refine Or.inl ⟨wanted_at (j := 3) (s := 113) rfl rfl rfl fg, ?_⟩
                          exact wp_val (.bool true) (by simp [go_sem, f0]) ⟨_, rfl, Gr.refl _, rfl⟩
                        · obtain rfl := Option.some.inj zo
                          have l0 := on_of zD 3 (by kernel_rfl)
                          have f0 := zF.at (s := 113) (i := 3) (by kernel_rfl) (by simp) l0
                          have e0 : vals 3 = .bool true := zR 3 l0
                          rw [e0] at f0
                          have l1 := on_of zD 4 (by kernel_rfl)
                          have f1 := zF.at (s := 114) (i := 4) (by kernel_rfl) (by simp) l1
                          have e1 : vals 4 = .bool true := zR 4 l1
                          rw [e1] at f1
                          refine Or.inl ⟨wanted_no rfl, ?_⟩
                          exact wp_val (.bool true) (by simp [go_sem, f0, f1]) ⟨_, rfl, Gr.refl _, rfl⟩
                        · obtain rfl := Option.some.inj zo
                          have l0 := on_of zD 5 (by kernel_rfl)
                          have f0 := zF.at (s := 115) (i := 5) (by kernel_rfl) (by simp) l0
                          have e0 : vals 5 = .bool true := zR 5 l0
                          rw [e0] at f0
                          refine Or.inl ⟨wanted_no rfl, ?_⟩
                          exact wp_val (.bool true) (by simp [go_sem, f0]) ⟨_, rfl, Gr.refl _, rfl⟩
                        · obtain rfl := Option.some.inj zo
                          have lg := on_of zD 6 (by kernel_rfl)
                          have fg := zF.at (s := 116) (i := 6) (by kernel_rfl) (by simp) lg
                          rw [show vals 6 = .bool true from zR 6 lg] at fg
                          have f0 := zF.old (s := 3) (v := .pointer (some ⟨e3, 0, none⟩)) (by kernel_rfl) rfl
                          refine Or.inl ⟨wanted_at (j := 6) (s := 116) rfl rfl rfl fg, ?_⟩
                          exact wp_val (.pointer (some ⟨e3, 56, none⟩)) (by simp [go_sem, f0]) ⟨_, rfl, Gr.refl _, rfl⟩
                        · obtain rfl := Option.some.inj zo
                          have lg := on_of zD 6 (by kernel_rfl)
                          have fg := zF.at (s := 116) (i := 6) (by kernel_rfl) (by simp) lg
                          rw [show vals 6 = .bool true from zR 6 lg] at fg
                          have l0 := on_of zD 7 (by kernel_rfl)
                          have f0 := zF.at (s := 117) (i := 7) (by kernel_rfl) (by simp) l0
                          have e0 : vals 7 = .pointer (some ⟨e3, 56, none⟩) := zR 7 l0
                          rw [e0] at f0
                          refine Or.inl ⟨wanted_at (j := 6) (s := 116) rfl rfl rfl fg, ?_⟩
                          exact wp_val (.int .i64 (bl (oN k))) (by simp [go_sem, f0, Kc3_56]) ⟨_, rfl, Gr.refl _, rfl⟩
                        · obtain rfl := Option.some.inj zo
                          have lg := on_of zD 6 (by kernel_rfl)
                          have fg := zF.at (s := 116) (i := 6) (by kernel_rfl) (by simp) lg
                          rw [show vals 6 = .bool true from zR 6 lg] at fg
                          have f0 := zF.old (s := 6) (v := .slice p4_7 (dl (oN k)) n4_7) (by kernel_rfl) rfl
                          refine Or.inl ⟨wanted_at (j := 6) (s := 116) rfl rfl rfl fg, ?_⟩
                          exact wp_val (.slice p4_7 (dl (oN k)) n4_7) (by simp [go_sem, f0]) ⟨_, rfl, Gr.refl _, rfl⟩
                        · obtain rfl := Option.some.inj zo
                          have lg := on_of zD 6 (by kernel_rfl)
                          have fg := zF.at (s := 116) (i := 6) (by kernel_rfl) (by simp) lg
                          rw [show vals 6 = .bool true from zR 6 lg] at fg
                          have l0 := on_of zD 9 (by kernel_rfl)
                          have f0 := zF.at (s := 119) (i := 9) (by kernel_rfl) (by simp) l0
                          have e0 : vals 9 = .slice p4_7 (dl (oN k)) n4_7 := zR 9 l0
                          rw [e0] at f0
                          refine Or.inl ⟨wanted_at (j := 6) (s := 116) rfl rfl rfl fg, ?_⟩
                          exact wp_retz (k := .c (.int .i64 (bl (oN k) : Nat))) (by simp [go_sem, f0]) (show Calls Try.prog 33 #[.slice p4_7 (dl (oN k)) n4_7] v10 (Rt (.c (.int .i64 (bl (oN k) : Nat))) v10) from bt_any (S4_7.gr hg) ho rfl) (fun u w2 hu hg2 => ⟨_, rfl, hg2, hu⟩)
                        · obtain rfl := Option.some.inj zo
                          have lg := on_of zD 6 (by kernel_rfl)
                          have fg := zF.at (s := 116) (i := 6) (by kernel_rfl) (by simp) lg
                          rw [show vals 6 = .bool true from zR 6 lg] at fg
                          have l0 := on_of zD 8 (by kernel_rfl)
                          have f0 := zF.at (s := 118) (i := 8) (by kernel_rfl) (by simp) l0
                          have e0 : vals 8 = .int .i64 (bl (oN k)) := zR 8 l0
                          rw [e0] at f0
                          have l1 := on_of zD 10 (by kernel_rfl)
                          have f1 := zF.at (s := 120) (i := 10) (by kernel_rfl) (by simp) l1
                          have e1 : vals 10 = .int .i64 (bl (oN k) : Nat) := zR 10 l1
                          rw [e1] at f1
                          refine Or.inl ⟨wanted_at (j := 6) (s := 116) rfl rfl rfl fg, ?_⟩
                          exact wp_val (.bool true) (by simp [go_sem, f0, f1]) ⟨_, rfl, Gr.refl _, rfl⟩
                        · obtain rfl := Option.some.inj zo
                          have l0 := on_of zD 6 (by kernel_rfl)
                          have f0 := zF.at (s := 116) (i := 6) (by kernel_rfl) (by simp) l0
                          have e0 : vals 6 = .bool true := zR 6 l0
                          rw [e0] at f0
                          have l1 := on_of zD 11 (by kernel_rfl)
                          have f1 := zF.at (s := 121) (i := 11) (by kernel_rfl) (by simp) l1
                          have e1 : vals 11 = .bool true := zR 11 l1
                          rw [e1] at f1
                          refine Or.inl ⟨wanted_no rfl, ?_⟩
                          exact wp_val (.bool true) (by simp [go_sem, f0, f1]) ⟨_, rfl, Gr.refl _, rfl⟩
                        · obtain rfl := Option.some.inj zo
                          have l0 := on_of zD 12 (by kernel_rfl)
                          have f0 := zF.at (s := 122) (i := 12) (by kernel_rfl) (by simp) l0
                          have e0 : vals 12 = .bool true := zR 12 l0
                          rw [e0] at f0
                          refine Or.inl ⟨wanted_no rfl, ?_⟩
                          exact wp_val (.bool true) (by simp [go_sem, f0]) ⟨_, rfl, Gr.refl _, rfl⟩
                        · obtain rfl := Option.some.inj zo
                          have lg := on_of zD 13 (by kernel_rfl)
                          have fg := zF.at (s := 123) (i := 13) (by kernel_rfl) (by simp) lg
                          rw [show vals 13 = .bool true from zR 13 lg] at fg
                          have f0 := zF.old (s := 3) (v := .pointer (some ⟨e3, 0, none⟩)) (by kernel_rfl) rfl
                          refine Or.inl ⟨wanted_at (j := 13) (s := 123) rfl rfl rfl fg, ?_⟩
                          exact wp_val (.pointer (some ⟨e3, 57, none⟩)) (by simp [go_sem, f0]) ⟨_, rfl, Gr.refl _, rfl⟩
                        · obtain rfl := Option.some.inj zo
                          have lg := on_of zD 13 (by kernel_rfl)
                          have fg := zF.at (s := 123) (i := 13) (by kernel_rfl) (by simp) lg
                          rw [show vals 13 = .bool true from zR 13 lg] at fg
                          have l0 := on_of zD 14 (by kernel_rfl)
                          have f0 := zF.at (s := 124) (i := 14) (by kernel_rfl) (by simp) l0
                          have e0 : vals 14 = .pointer (some ⟨e3, 57, none⟩) := zR 14 l0
                          rw [e0] at f0
                          refine Or.inl ⟨wanted_at (j := 13) (s := 123) rfl rfl rfl fg, ?_⟩
                          exact wp_val (.int .i64 (szN k)) (by simp [go_sem, f0, Kc3_57]) ⟨_, rfl, Gr.refl _, rfl⟩
                        · obtain rfl := Option.some.inj zo
                          have lg := on_of zD 13 (by kernel_rfl)
                          have fg := zF.at (s := 123) (i := 13) (by kernel_rfl) (by simp) lg
                          rw [show vals 13 = .bool true from zR 13 lg] at fg
                          have f0 := zF.old (s := 5) (v := .slice p4_6 (dl (pN k)) n4_6) (by kernel_rfl) rfl
                          refine Or.inl ⟨wanted_at (j := 13) (s := 123) rfl rfl rfl fg, ?_⟩
                          exact wp_val (.slice p4_6 (dl (pN k)) n4_6) (by simp [go_sem, f0]) ⟨_, rfl, Gr.refl _, rfl⟩
                        · obtain rfl := Option.some.inj zo
                          have lg := on_of zD 13 (by kernel_rfl)
                          have fg := zF.at (s := 123) (i := 13) (by kernel_rfl) (by simp) lg
                          rw [show vals 13 = .bool true from zR 13 lg] at fg
                          have l0 := on_of zD 16 (by kernel_rfl)
                          have f0 := zF.at (s := 126) (i := 16) (by kernel_rfl) (by simp) l0
                          have e0 : vals 16 = .slice p4_6 (dl (pN k)) n4_6 := zR 16 l0
                          rw [e0] at f0
                          refine Or.inl ⟨wanted_at (j := 13) (s := 123) rfl rfl rfl fg, ?_⟩
                          exact wp_retz (k := .c (.int .i64 (T : Int))) (by simp [go_sem, f0]) (show Calls Try.prog 33 #[.slice p4_6 (dl (pN k)) n4_6] v10 (Rt (.c (.int .i64 (T : Int))) v10) from bt_any (S4_6.gr hg) hd hT) (fun u w2 hu hg2 => ⟨_, rfl, hg2, hu⟩)
                        · obtain rfl := Option.some.inj zo
                          have lg := on_of zD 13 (by kernel_rfl)
                          have fg := zF.at (s := 123) (i := 13) (by kernel_rfl) (by simp) lg
                          rw [show vals 13 = .bool true from zR 13 lg] at fg
                          have l0 := on_of zD 17 (by kernel_rfl)
                          have f0 := zF.at (s := 127) (i := 17) (by kernel_rfl) (by simp) l0
                          have e0 : vals 17 = .int .i64 (T : Int) := zR 17 l0
                          rw [e0] at f0
                          refine Or.inl ⟨wanted_at (j := 13) (s := 123) rfl rfl rfl fg, ?_⟩
                          exact wp_val (.int .i64 ((T : Int) + 7)) (by simp [go_sem, f0, tw]) ⟨_, rfl, Gr.refl _, rfl⟩
                        · obtain rfl := Option.some.inj zo
                          have lg := on_of zD 13 (by kernel_rfl)
                          have fg := zF.at (s := 123) (i := 13) (by kernel_rfl) (by simp) lg
                          rw [show vals 13 = .bool true from zR 13 lg] at fg
                          have l0 := on_of zD 18 (by kernel_rfl)
                          have f0 := zF.at (s := 128) (i := 18) (by kernel_rfl) (by simp) l0
                          have e0 : vals 18 = .int .i64 ((T : Int) + 7) := zR 18 l0
                          rw [e0] at f0
                          refine Or.inl ⟨wanted_at (j := 13) (s := 123) rfl rfl rfl fg, ?_⟩
                          exact wp_val (.int .i64 (szN k)) (by simp [go_sem, f0, tv]) ⟨_, rfl, Gr.refl _, rfl⟩
                        · obtain rfl := Option.some.inj zo
                          have lg := on_of zD 13 (by kernel_rfl)
                          have fg := zF.at (s := 123) (i := 13) (by kernel_rfl) (by simp) lg
                          rw [show vals 13 = .bool true from zR 13 lg] at fg
                          have l0 := on_of zD 15 (by kernel_rfl)
                          have f0 := zF.at (s := 125) (i := 15) (by kernel_rfl) (by simp) l0
                          have e0 : vals 15 = .int .i64 (szN k) := zR 15 l0
                          rw [e0] at f0
                          have l1 := on_of zD 19 (by kernel_rfl)
                          have f1 := zF.at (s := 129) (i := 19) (by kernel_rfl) (by simp) l1
                          have e1 : vals 19 = .int .i64 (szN k) := zR 19 l1
                          rw [e1] at f1
                          refine Or.inl ⟨wanted_at (j := 13) (s := 123) rfl rfl rfl fg, ?_⟩
                          exact wp_val (.bool true) (by simp [go_sem, f0, f1]) ⟨_, rfl, Gr.refl _, rfl⟩
                        · obtain rfl := Option.some.inj zo
                          have l0 := on_of zD 13 (by kernel_rfl)
                          have f0 := zF.at (s := 123) (i := 13) (by kernel_rfl) (by simp) l0
                          have e0 : vals 13 = .bool true := zR 13 l0
                          rw [e0] at f0
                          have l1 := on_of zD 20 (by kernel_rfl)
                          have f1 := zF.at (s := 130) (i := 20) (by kernel_rfl) (by simp) l1
                          have e1 : vals 20 = .bool true := zR 20 l1
                          rw [e1] at f1
                          refine Or.inl ⟨wanted_no rfl, ?_⟩
                          exact wp_val (.bool true) (by simp [go_sem, f0, f1]) ⟨_, rfl, Gr.refl _, rfl⟩
                        · obtain rfl := Option.some.inj zo
                          have l0 := on_of zD 21 (by kernel_rfl)
                          have f0 := zF.at (s := 131) (i := 21) (by kernel_rfl) (by simp) l0
                          have e0 : vals 21 = .bool true := zR 21 l0
                          rw [e0] at f0
                          refine Or.inl ⟨wanted_no rfl, ?_⟩
                          exact wp_val (.bool true) (by simp [go_sem, f0]) ⟨_, rfl, Gr.refl _, rfl⟩
                        · obtain rfl := Option.some.inj zo
                          have lg := on_of zD 22 (by kernel_rfl)
                          have fg := zF.at (s := 132) (i := 22) (by kernel_rfl) (by simp) lg
                          rw [show vals 22 = .bool true from zR 22 lg] at fg
                          have f0 := zF.old (s := 3) (v := .pointer (some ⟨e3, 0, none⟩)) (by kernel_rfl) rfl
                          refine Or.inl ⟨wanted_at (j := 22) (s := 132) rfl rfl rfl fg, ?_⟩
                          exact wp_val (.pointer (some ⟨e3, 58, none⟩)) (by simp [go_sem, f0]) ⟨_, rfl, Gr.refl _, rfl⟩
                        · obtain rfl := Option.some.inj zo
                          have lg := on_of zD 22 (by kernel_rfl)
                          have fg := zF.at (s := 132) (i := 22) (by kernel_rfl) (by simp) lg
                          rw [show vals 22 = .bool true from zR 22 lg] at fg
                          have l0 := on_of zD 23 (by kernel_rfl)
                          have f0 := zF.at (s := 133) (i := 23) (by kernel_rfl) (by simp) l0
                          have e0 : vals 23 = .pointer (some ⟨e3, 58, none⟩) := zR 23 l0
                          rw [e0] at f0
                          refine Or.inl ⟨wanted_at (j := 22) (s := 132) rfl rfl rfl fg, ?_⟩
                          exact wp_val (.bool (lgN k)) (by simp [go_sem, f0, Kc3_58]) ⟨_, rfl, Gr.refl _, rfl⟩
                        · obtain rfl := Option.some.inj zo
                          have lg := on_of zD 22 (by kernel_rfl)
                          have fg := zF.at (s := 132) (i := 22) (by kernel_rfl) (by simp) lg
                          rw [show vals 22 = .bool true from zR 22 lg] at fg
                          have f0 := zF.old (s := 3) (v := .pointer (some ⟨e3, 0, none⟩)) (by kernel_rfl) rfl
                          refine Or.inl ⟨wanted_at (j := 22) (s := 132) rfl rfl rfl fg, ?_⟩
                          exact wp_val (.pointer (some ⟨e3, 0, none⟩)) (by simp [go_sem, f0]) ⟨_, rfl, Gr.refl _, rfl⟩
                        · obtain rfl := Option.some.inj zo
                          have lg := on_of zD 22 (by kernel_rfl)
                          have fg := zF.at (s := 132) (i := 22) (by kernel_rfl) (by simp) lg
                          rw [show vals 22 = .bool true from zR 22 lg] at fg
                          have l0 := on_of zD 25 (by kernel_rfl)
                          have f0 := zF.at (s := 135) (i := 25) (by kernel_rfl) (by simp) l0
                          have e0 : vals 25 = .pointer (some ⟨e3, 0, none⟩) := zR 25 l0
                          rw [e0] at f0
                          refine Or.inl ⟨wanted_at (j := 22) (s := 132) rfl rfl rfl fg, ?_⟩
                          exact wp_val (.int .i64 (k : Int)) (by simp [go_sem, f0, Kc3_0]) ⟨_, rfl, Gr.refl _, rfl⟩
                        · obtain rfl := Option.some.inj zo
                          have lg := on_of zD 22 (by kernel_rfl)
                          have fg := zF.at (s := 132) (i := 22) (by kernel_rfl) (by simp) lg
                          rw [show vals 22 = .bool true from zR 22 lg] at fg
                          have l0 := on_of zD 26 (by kernel_rfl)
                          have f0 := zF.at (s := 136) (i := 26) (by kernel_rfl) (by simp) l0
                          have e0 : vals 26 = .int .i64 (k : Int) := zR 26 l0
                          rw [e0] at f0
                          refine Or.inl ⟨wanted_at (j := 22) (s := 132) rfl rfl rfl fg, ?_⟩
                          exact wp_val (.bool false) (by simp [go_sem, f0, b1]) ⟨_, rfl, Gr.refl _, rfl⟩
                        · obtain rfl := Option.some.inj zo
                          have lg := on_of zD 22 (by kernel_rfl)
                          have fg := zF.at (s := 132) (i := 22) (by kernel_rfl) (by simp) lg
                          rw [show vals 22 = .bool true from zR 22 lg] at fg
                          have l0 := on_of zD 27 (by kernel_rfl)
                          have f0 := zF.at (s := 137) (i := 27) (by kernel_rfl) (by simp) l0
                          have e0 : vals 27 = .bool false := zR 27 l0
                          rw [e0] at f0
                          refine Or.inl ⟨wanted_at (j := 22) (s := 132) rfl rfl rfl fg, ?_⟩
                          exact wp_val (.bool false) (by simp [go_sem, f0]) ⟨_, rfl, Gr.refl _, rfl⟩
                        · obtain rfl := Option.some.inj zo
                          have lg := on_of zD 28 (by kernel_rfl)
                          have fg := zF.at (s := 138) (i := 28) (by kernel_rfl) (by simp) lg
                          rw [show vals 28 = .bool false from zR 28 lg] at fg
                          have f0 := zF.old (s := 3) (v := .pointer (some ⟨e3, 0, none⟩)) (by kernel_rfl) rfl
                          refine Or.inl ⟨wanted_at (j := 28) (s := 138) rfl rfl rfl fg, ?_⟩
                          exact wp_val (.pointer (some ⟨e3, 0, none⟩)) (by simp [go_sem, f0]) ⟨_, rfl, Gr.refl _, rfl⟩
                        · obtain rfl := Option.some.inj zo
                          have lg := on_of zD 28 (by kernel_rfl)
                          have fg := zF.at (s := 138) (i := 28) (by kernel_rfl) (by simp) lg
                          rw [show vals 28 = .bool false from zR 28 lg] at fg
                          have l0 := on_of zD 29 (by kernel_rfl)
                          have f0 := zF.at (s := 139) (i := 29) (by kernel_rfl) (by simp) l0
                          have e0 : vals 29 = .pointer (some ⟨e3, 0, none⟩) := zR 29 l0
                          rw [e0] at f0
                          refine Or.inl ⟨wanted_at (j := 28) (s := 138) rfl rfl rfl fg, ?_⟩
                          exact wp_val (.int .i64 (k : Int)) (by simp [go_sem, f0, Kc3_0]) ⟨_, rfl, Gr.refl _, rfl⟩
                        · obtain rfl := Option.some.inj zo
                          have lg := on_of zD 28 (by kernel_rfl)
                          have fg := zF.at (s := 138) (i := 28) (by kernel_rfl) (by simp) lg
                          rw [show vals 28 = .bool false from zR 28 lg] at fg
                          have l0 := on_of zD 30 (by kernel_rfl)
                          have f0 := zF.at (s := 140) (i := 30) (by kernel_rfl) (by simp) l0
                          have e0 : vals 30 = .int .i64 (k : Int) := zR 30 l0
                          rw [e0] at f0
                          refine Or.inl ⟨wanted_at (j := 28) (s := 138) rfl rfl rfl fg, ?_⟩
                          exact wp_val (.bool b7) (by simp [go_sem, f0, h7]) ⟨_, rfl, Gr.refl _, rfl⟩
                        · obtain rfl := Option.some.inj zo
                          have lg := on_of zD 22 (by kernel_rfl)
                          have fg := zF.at (s := 132) (i := 22) (by kernel_rfl) (by simp) lg
                          rw [show vals 22 = .bool true from zR 22 lg] at fg
                          have l0 := on_of zD 28 (by kernel_rfl)
                          have f0 := zF.at (s := 138) (i := 28) (by kernel_rfl) (by simp) l0
                          have e0 : vals 28 = .bool false := zR 28 l0
                          rw [e0] at f0
                          have l1 := on_of zD 31 (by kernel_rfl)
                          have f1 := zF.at (s := 141) (i := 31) (by kernel_rfl) (by simp) l1
                          have e1 : vals 31 = .bool b7 := zR 31 l1
                          rw [e1] at f1
                          refine Or.inl ⟨wanted_at (j := 22) (s := 132) rfl rfl rfl fg, ?_⟩
                          exact wp_val (.bool b7) (by simp [go_sem, f0, f1]) ⟨_, rfl, Gr.refl _, rfl⟩
                        · obtain rfl := Option.some.inj zo
                          have lg := on_of zD 22 (by kernel_rfl)
                          have fg := zF.at (s := 132) (i := 22) (by kernel_rfl) (by simp) lg
                          rw [show vals 22 = .bool true from zR 22 lg] at fg
                          have l0 := on_of zD 24 (by kernel_rfl)
                          have f0 := zF.at (s := 134) (i := 24) (by kernel_rfl) (by simp) l0
                          have e0 : vals 24 = .bool (lgN k) := zR 24 l0
                          rw [e0] at f0
                          have l1 := on_of zD 32 (by kernel_rfl)
                          have f1 := zF.at (s := 142) (i := 32) (by kernel_rfl) (by simp) l1
                          have e1 : vals 32 = .bool b7 := zR 32 l1
                          rw [e1] at f1
                          refine Or.inl ⟨wanted_at (j := 22) (s := 132) rfl rfl rfl fg, ?_⟩
                          exact wp_val (.bool true) (by simp [go_sem, f0, f1, hlg]) ⟨_, rfl, Gr.refl _, rfl⟩
                        · obtain rfl := Option.some.inj zo
                          have l0 := on_of zD 22 (by kernel_rfl)
                          have f0 := zF.at (s := 132) (i := 22) (by kernel_rfl) (by simp) l0
                          have e0 : vals 22 = .bool true := zR 22 l0
                          rw [e0] at f0
                          have l1 := on_of zD 33 (by kernel_rfl)
                          have f1 := zF.at (s := 143) (i := 33) (by kernel_rfl) (by simp) l1
                          have e1 : vals 33 = .bool true := zR 33 l1
                          rw [e1] at f1
                          refine Or.inl ⟨wanted_no rfl, ?_⟩
                          exact wp_val (.bool true) (by simp [go_sem, f0, f1]) ⟨_, rfl, Gr.refl _, rfl⟩
                        · obtain rfl := Option.some.inj zo
                          have l0 := on_of zD 34 (by kernel_rfl)
                          have f0 := zF.at (s := 144) (i := 34) (by kernel_rfl) (by simp) l0
                          have e0 : vals 34 = .bool true := zR 34 l0
                          rw [e0] at f0
                          refine Or.inl ⟨wanted_no rfl, ?_⟩
                          exact wp_val (.bool true) (by simp [go_sem, f0]) ⟨_, rfl, Gr.refl _, rfl⟩
                      case hf13 =>
                        intro vals v10 hg zR
                        have e16_0 : vals 0 = .slice p9_15 (dl (t7)) n9_15 := zR 0 (by simp)
                        have e16_1 : vals 1 = .int .i64 (dl (t7)) := zR 1 (by simp)
                        have e16_2 : vals 2 = .bool true := zR 2 (by simp)
                        have e16_3 : vals 3 = .bool true := zR 3 (by simp)
                        have e16_4 : vals 4 = .bool true := zR 4 (by simp)
                        have e16_5 : vals 5 = .bool true := zR 5 (by simp)
                        have e16_6 : vals 6 = .bool true := zR 6 (by simp)
                        have e16_7 : vals 7 = .pointer (some ⟨e3, 56, none⟩) := zR 7 (by simp)
                        have e16_8 : vals 8 = .int .i64 (bl (oN k)) := zR 8 (by simp)
                        have e16_9 : vals 9 = .slice p4_7 (dl (oN k)) n4_7 := zR 9 (by simp)
                        have e16_10 : vals 10 = .int .i64 (bl (oN k) : Nat) := zR 10 (by simp)
                        have e16_11 : vals 11 = .bool true := zR 11 (by simp)
                        have e16_12 : vals 12 = .bool true := zR 12 (by simp)
                        have e16_13 : vals 13 = .bool true := zR 13 (by simp)
                        have e16_14 : vals 14 = .pointer (some ⟨e3, 57, none⟩) := zR 14 (by simp)
                        have e16_15 : vals 15 = .int .i64 (szN k) := zR 15 (by simp)
                        have e16_16 : vals 16 = .slice p4_6 (dl (pN k)) n4_6 := zR 16 (by simp)
                        have e16_17 : vals 17 = .int .i64 (T : Int) := zR 17 (by simp)
                        have e16_18 : vals 18 = .int .i64 ((T : Int) + 7) := zR 18 (by simp)
                        have e16_19 : vals 19 = .int .i64 (szN k) := zR 19 (by simp)
                        have e16_20 : vals 20 = .bool true := zR 20 (by simp)
                        have e16_21 : vals 21 = .bool true := zR 21 (by simp)
                        have e16_22 : vals 22 = .bool true := zR 22 (by simp)
                        have e16_23 : vals 23 = .pointer (some ⟨e3, 58, none⟩) := zR 23 (by simp)
                        have e16_24 : vals 24 = .bool (lgN k) := zR 24 (by simp)
                        have e16_25 : vals 25 = .pointer (some ⟨e3, 0, none⟩) := zR 25 (by simp)
                        have e16_26 : vals 26 = .int .i64 (k : Int) := zR 26 (by simp)
                        have e16_27 : vals 27 = .bool false := zR 27 (by simp)
                        have e16_28 : vals 28 = .bool false := zR 28 (by simp)
                        have e16_29 : vals 29 = .pointer (some ⟨e3, 0, none⟩) := zR 29 (by simp)
                        have e16_30 : vals 30 = .int .i64 (k : Int) := zR 30 (by simp)
                        have e16_31 : vals 31 = .bool b7 := zR 31 (by simp)
                        have e16_32 : vals 32 = .bool b7 := zR 32 (by simp)
                        have e16_33 : vals 33 = .bool true := zR 33 (by simp)
                        have e16_34 : vals 34 = .bool true := zR 34 (by simp)
                        have e16_35 : vals 35 = .bool true := zR 35 (by simp)
                        simp only [putFrom, Act.put, List.setIfInBounds_toArray, List.set_cons_zero, List.set_cons_succ, e16_0, e16_1, e16_2, e16_3, e16_4, e16_5, e16_6, e16_7, e16_8, e16_9, e16_10, e16_11, e16_12, e16_13, e16_14, e16_15, e16_16, e16_17, e16_18, e16_19, e16_20, e16_21, e16_22, e16_23, e16_24, e16_25, e16_26, e16_27, e16_28, e16_29, e16_30, e16_31, e16_32, e16_33, e16_34, e16_35]
                        clear zR e16_0 e16_1 e16_2 e16_3 e16_4 e16_5 e16_6 e16_7 e16_8 e16_9 e16_10 e16_11 e16_12 e16_13 e16_14 e16_15 e16_16 e16_17 e16_18 e16_19 e16_20 e16_21 e16_22 e16_23 e16_24 e16_25 e16_26 e16_27 e16_28 e16_29 e16_30 e16_31 e16_32 e16_33 e16_34 e16_35
                        replace G := G.trans hg
                        replace c3 := c3.gr hg
                        replace S4_6 := S4_6.gr hg
                        replace S4_7 := S4_7.gr hg
                        replace S9_15 := S9_15.gr hg
                        replace SF := SF.gr hg
                        replace S15_2 := S15_2.gr hg
                        replace S15_4 := S15_4.gr hg
                        clear hg
                        go_wp2_with fail
                        go_ret
                        exact ⟨rfl, G⟩

end Go.Proofs.Ytgmaalokfgdpaaa
