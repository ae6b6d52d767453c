import Derived.Test.YtgmaalokfgdpaaaXSCW
import Derived.Test.YtgmaalokfgdpaaaXSRP4
import Derived.Test.YtgmaalokfgdpaaaXSEL
import Derived.Test.YtgmaalokfgdpaaaXSRT
namespace Go.Proofs.Ytgmaalokfgdpaaa
open Go.RowKit
theorem crA_one (id : Int) (x : Nat → Nat) (q : Nat → Option Addr × Nat) : (crA id x q).all (·.oneCell') = true := by simp [crA, Value.oneCell']
theorem storeCr (w : World) (b : Nat) (id : Int) (x : Nat → Nat) (q : Nat → Option Addr × Nat) (hs : (blk w b).size = 7) (hf : frz w b = (0, 0)) :
    (storeS 36 (.pointer (some ⟨b, 0, none⟩)) (.agg (crA id x q))).run Try.prog w = .ok () (setBlk w b (crA id x q)) :=
  storeS_run 7 (by decide) (by kernel_rfl) w b _ (crA_size id x q) (crA_one id x q) hs hf
theorem oN_dl (i : Nat) : dl (oN i) ≤ 18 := dl_M _ (oN_bd i)
theorem rsize_yes (i : Nat) (h1 : 1 ≤ i) (h2 : i ≤ 15) (qc : Nat → Option Addr × Nat) (w : World) (HQ : ∀ k, Sl w (qc k).1 (nN i k)) :
    Calls Try.prog 24 #[.agg (crA (i : Int) (nN i) qc)] w (Rt (.c (.int .i64 (szN i : Int))) w) :=
  Rt.c (rsize_any i _ _ _ _ _ _ qc (szN i) (pN_dl i h1 h2) rfl w HQ)

end Go.Proofs.Ytgmaalokfgdpaaa
namespace Go.Proofs.Ytgmaalokfgdpaaa
open Go.RowKit
theorem nN_M (k : Nat) (h1 : 1 ≤ k) (h2 : k ≤ 15) : pN k < M ∧ aN k < M ∧ bN k < M ∧ oN k < M ∧ xN k < M ∧ yN k < M := by
  have hp := pN_M k
  have := aN_lt k h1 h2
  have := bN_lt k h1 h2
  have := xN_lt k h1 h2
  have := (yN_lt k h1 h2).1
  exact ⟨hp, by omega, by omega, oN_bd k, by omega, by omega⟩
theorem sl_lit (c : Nat) (hc : c < pq 1) (w : World) : Sl (w.alloc (.cells (nd 1 c) 55)) (some ⟨w.heap.size, 0, none⟩) c := Sl.of_blk (n := 1) (by simp [Pre]) (blk_alloc_at _ _ _ _ _ rfl) hc
theorem rtimes_N (k : Nat) (h1 : 1 ≤ k) (h2 : k ≤ 15) (qc : Nat → Option Addr × Nat) (n nk m : Nat) (p q pk : Option Addr) (w : World) (HQ : ∀ j, Sl w (qc j).1 (nN k j)) (Sx : Sl w p (xN k)) (Sy : Sl w q (yN k)) (Sk : Sl w pk (oN k)) : Calls Try.prog 19 #[.agg (crA (k : Int) (nN k) qc), .slice pk (dl (oN k)) nk, .agg (ptA p (xN k) n q (yN k) m false)] w (Rt (.pt 0 0 true) w) := by
  haveI := EC.nzP k h1 h2
  have hd := pN_dl k h1 h2
  have ho := oN_dl k
  have h := rtimes_any (EC.curN k h1 h2) (by omega) (k : Int) (oN k) (xN k) (yN k) qc (oN k) nk pk (by omega) (some (EC.xF k h1 h2, EC.yF k h1 h2)) (EC.onG k h1 h2) p q n m w HQ Sk Sx Sy
  rw [EC.ml_G k h1 h2] at h
  exact h
theorem rtimes_N1 (k : Nat) (h1 : 1 ≤ k) (h2 : k ≤ 15) (qc : Nat → Option Addr × Nat) (n nk m : Nat) (p q pk : Option Addr) (w : World) (HQ : ∀ j, Sl w (qc j).1 (nN k j)) (Sx : Sl w p (xN k)) (Sy : Sl w q (yN k)) (Sk : Sl w pk (oN k - 1)) : Calls Try.prog 19 #[.agg (crA (k : Int) (nN k) qc), .slice pk (dl (oN k - 1)) nk, .agg (ptA p (xN k) n q (yN k) m false)] w (Rt (.pt (xN k) (pN k - yN k) false) w) := by
  haveI := EC.nzP k h1 h2
  have hd := pN_dl k h1 h2
  have ho := oN_dl k
  have ho1 := dl_low (oN k - 1) (oN k) 18 (by omega) ho
  have hy : EC.yF k h1 h2 ≠ 0 := fun e => by
    have e' := congrArg Fin.val e
    rw [Fin.val_zero] at e'
    have := (yN_lt k h1 h2).2
    have : yN k = 0 := e'
    omega
  have h := rtimes_any (EC.curN k h1 h2) (by omega) (k : Int) (oN k) (xN k) (yN k) qc (oN k - 1) nk pk (by omega) (some (EC.xF k h1 h2, EC.yF k h1 h2)) (EC.onG k h1 h2) p q n m w HQ Sk Sx Sy
  rw [EC.ml_pred_G k h1 h2] at h
  have e : pN k - yN k = (-(EC.yF k h1 h2)).val := neg_val (EC.yF k h1 h2) hy
  rw [e]
  exact h
theorem rneg_G (k : Nat) (h1 : 1 ≤ k) (h2 : k ≤ 15) (qc : Nat → Option Addr × Nat) (n m : Nat) (p q : Option Addr) (w : World) (HQ : ∀ j, Sl w (qc j).1 (nN k j)) (Sx : Sl w p (xN k)) (Sy : Sl w q (yN k)) : Calls Try.prog 23 #[.agg (crA (k : Int) (nN k) qc), .agg (ptA p (xN k) n q (yN k) m false)] w (Rt (.pt (xN k) (pN k - yN k) false) w) :=
  rneg_ok (k : Int) _ _ _ _ _ _ qc (xN k) (yN k) p q n m _ (by have := pN_dl k h1 h2; omega) (by have := (yN_lt k h1 h2).2; omega) (yN_lt k h1 h2).1 rfl w HQ Sx Sy

end Go.Proofs.Ytgmaalokfgdpaaa
namespace Go.Proofs.Ytgmaalokfgdpaaa
open Go.RowKit
attribute [local go_sem ↓] loadNat_is loadArr_is loadWide_is loadArrW_is storeNat_is storeWide_is
attribute [local go_sem] loadNat loadArr loadWide loadArrW storeNat storeWide idxArr fold9 fold18 nw_size nw_elem pre_self pre_1 pre_2 pre_3 pre_4 pre_5 pre_6 pre_7 pre_8 pre_9 pre_10 pre_11 pre_12 pre_13 pre_14 pre_15 pre_16 pre_17 pre_18 pre_19 pre_20 pre_21 pre_22 pre_23 pre_24 pre_25 pre_26 pre_27 pre_28 pre_29 pre_30 pre_31 pre_32 pre_33 pre_34 pre_35 pre_36 pre_37 pre_38 pre_39 pre_40 gro_size gro_drew gro_drewN drew_gro drewN_gro gro_gro blk_gro frz_gro blk_drew frz_drew blk_drewN frz_drewN blk_alloc_at frz_alloc_at blk_alloc frz_alloc cell_gro frozen_gro cell_alloc_pre frozen_alloc_pre setCell_drewN alloc_drewN setBlk_drew setBlk_drewN setBlk_alloc_at setBlk_alloc setBlk_gro setCell_gro setCell_alloc_pre size_setBlk size_setCell
attribute [local go_sem] ppre_1 ppre_2 ppre_3 ppre_4 ppre_5 ppre_6
attribute [local go_sem ↓] bsl_is loadC_is storeC_is loadPt_is storePt_is zvPt_is buildPt_is loadPn_is storePn_is zvPn_is loadCu_is storeCu_is zvCu_is buildCu_is buildPn_is Go.wp_at_zero Go.wp_at_succ
attribute [local go_sem] loadC storeC0 storeCr crA_size loadPt storePt zvPt ptA_size loadPn storePn zvPn pnt_size loadCu storeCu zvCu cu_size buildCu0 buildPnI buildPn2 loadCP loadCA loadCB loadCN loadCG loadCX loadCY cu_P cu_A cu_B cu_N cu_G cu_X cu_Y frz_setBlk blk_setBlk setBlk_setBlk blk_other
set_option maxRecDepth 100000 in
set_option maxHeartbeats 4000000 in
theorem lcsound_any (id : Int) (w : World) : Calls Try.prog 5 #[.int .i64 id] w fun e w' => e = .returned (.bool true) ∧ Gr w w' := by
  obtain ⟨u, hu, hu2, hk⟩ := idx_conv id
  have hbd := idx_bd id
  obtain ⟨k, hkk⟩ : ∃ k, idx id = k := ⟨_, rfl⟩
  rw [hkk] at hk hbd
  obtain ⟨h1, h2⟩ := hbd
  have u0 : (0 : Int) ≤ (u : Int) := by omega
  have hk2 : (1 : Int) + (u : Int) % 15 = (k : Int) := by omega
  have hk3 : IntKind.i64.wrap ((u : Int) % 15) = (u : Int) % 15 := by rw [IntKind.wrap_i64]; omega
  have hk4 : IntKind.u64.wrap ((u : Int) % 15) = (u : Int) % 15 := by rw [IntKind.wrap_u64]; omega
  have hk5 : (u : Int).tmod 15 = (u : Int) % 15 := by rw [Int.tmod_eq_emod_of_nonneg (by omega)]
  have k0 : (1 : Int) ≤ (k : Int) := by omega
  have k1 : (k : Int) ≤ 15 := by omega
  have hu3 : id % 18446744073709551616 = (u : Int) := by rw [← hu, IntKind.wrap_u64]
  clear hkk hk
  have HG : Hid (∀ w, Calls Try.prog 9 #[.int .i64 (k : Int)] w fun e w' => e = .returned (.tuple #[.agg (cu (k : Int) (pN k) (aN k) (bN k) (oN k) (xN k) (yN k) (bl (oN k)) (szN k) (lgN k)), .int .i64 0]) ∧ Gr w w') := fun w => get13_yes k h1 h2 w
  have HGR : Hid (∀ w, Calls Try.prog 10 #[.int .i64 (k : Int)] w (GetQ k w)) := fun w => getq_yes k h1 h2 w
  have HAW : Hid (∀ w, Calls Try.prog 14 #[] w fun e w' => e = .returned (.bool true) ∧ Gr w w') := fun w => awake13_any w
  have hon := gN_on k h1 h2
  have hbs1 : ∀ w, (bslS 34 1 #[(0, .int .u32 1)]).run Try.prog w = .ok (.slice (some ⟨w.heap.size, 0, none⟩) 1 1) (w.alloc (.cells (nd 1 1) 55)) := fun w => build1 1 (by decide) w
  go_enter Try.func5, Try.ntmps5
  go_upto_region 6 with (first
    | (go_at_call 14; refine (HAW.out _).mono ?_; rintro e WA ⟨rfl, GA⟩)
    | (go_at_call 9; refine (HG.out _).mono ?_; rintro e WB ⟨rfl, GB⟩)
    | (go_at_call 10; refine (HGR.out _).mono ?_; rintro e W1 ⟨qc, rfl, HQ, G1⟩))
  obtain ⟨e6, he6⟩ : ∃ b, W1.heap.size = b := ⟨_, rfl⟩
  simp only [he6]
  obtain ⟨e4, he4⟩ : ∃ b, WB.heap.size = b := ⟨_, rfl⟩
  simp only [he4]
  refine gen_w (fun v => Gr w v ∧ Vr v e4 (cu (k : Int) (pN k) (aN k) (bN k) (oN k) (xN k) (yN k) (bl (oN k)) (szN k) (lgN k)) ∧ Vr v e6 (crA (k : Int) (nN k) qc) ∧ ∀ j, Sl v (qc j).1 (nN k j)) ?_ ?_
  · subst he6 he4
    exact ⟨(((GA.trans GB).alloc _).trans G1).alloc _, ((Vr.new WB _ _).gr G1).gr ((Gr.refl _).alloc _), Vr.new _ _ _, fun j => (HQ j).gr ((Gr.refl _).alloc _)⟩
  clear HQ G1 he6 he4 GA GB
  rintro v0 ⟨G, c4, c6, HQ⟩
  refine wp_region_qS (by kernel_rfl) [.c (.int .i64 0), .c (.int .i64 0), .c (.bool false), .c (.bool false), .c (.bool true), .c (.bool false), .c (.bool false), .c (.bool false), .c (.int .i64 (k : Int)), .c (.pointer (some ⟨e4, 37, none⟩)), .c (.agg (pnt (xN k) (yN k) false)), .c (.bool true), .c (.bool false), .c (.bool false), .c (.bool false), .c (.pointer (some ⟨e4, 37, none⟩)), .c (.pointer (some ⟨e4, 55, none⟩)), .c (.bool false), .c (.bool false)] ?hs ?hf
  case hs =>
    intro listed vals a1 v1 io oo hg zR zF zo zD
    have Hc4 : blk v1 (e4) = cu (k : Int) (pN k) (aN k) (bN k) (oN k) (xN k) (yN k) (bl (oN k)) (szN k) (lgN k) := (hg.blk _ c4.p).trans c4.h
    have Kc4_55 : v1.cell? ⟨e4, 55, none⟩ = some (.bool false) := by rw [cell_blk, Hc4]; exact cu_55 _ _ _ _ _ _ _ _ _ _
    have zi : io < 19 := by simpa using (Array.getElem?_eq_some_iff.1 zo).1
    obtain rfl | rfl | rfl | rfl | rfl | rfl | rfl | rfl | rfl | rfl | rfl | rfl | rfl | rfl | rfl | rfl | rfl | rfl | rfl : io = 0 ∨ io = 1 ∨ io = 2 ∨ io = 3 ∨ io = 4 ∨ io = 5 ∨ io = 6 ∨ io = 7 ∨ io = 8 ∨ io = 9 ∨ io = 10 ∨ io = 11 ∨ io = 12 ∨ io = 13 ∨ io = 14 ∨ io = 15 ∨ io = 16 ∨ io = 17 ∨ io = 18 := by omega
    · obtain rfl := Option.some.inj zo
      have f0 := zF.old (s := 5) (v := .int .i64 0) (by kernel_rfl) rfl
      refine Or.inl ⟨wanted_no rfl, ?_⟩
      exact wp_val (.int .i64 0) (by simp [go_sem, f0]) ⟨_, rfl, Gr.refl _, rfl⟩
    · obtain rfl := Option.some.inj zo
      have l0 := on_of zD 0 (by kernel_rfl)
      have f0 := zF.at (s := 27) (i := 0) (by kernel_rfl) (by simp) l0
      have e0 : vals 0 = .int .i64 0 := zR 0 l0
      rw [e0] at f0
      refine Or.inl ⟨wanted_no rfl, ?_⟩
      exact wp_retz (k := .c (.int .i64 0)) (by simp [go_sem, f0]) (show Calls Try.prog 13 #[.int .i64 0] v1 (Rt (.c (.int .i64 0)) v1) from Rt.same (num_any _ _)) (fun u w2 hu hg2 => ⟨_, rfl, hg2, hu⟩)
    · obtain rfl := Option.some.inj zo
      have l0 := on_of zD 1 (by kernel_rfl)
      have f0 := zF.at (s := 28) (i := 1) (by kernel_rfl) (by simp) l0
      have e0 : vals 1 = .int .i64 0 := zR 1 l0
      rw [e0] at f0
      refine Or.inl ⟨wanted_no rfl, ?_⟩
      exact wp_val (.bool false) (by simp [go_sem, f0]) ⟨_, rfl, Gr.refl _, rfl⟩
    · obtain rfl := Option.some.inj zo
      have l0 := on_of zD 2 (by kernel_rfl)
      have f0 := zF.at (s := 29) (i := 2) (by kernel_rfl) (by simp) l0
      have e0 : vals 2 = .bool false := zR 2 l0
      rw [e0] at f0
      refine Or.inl ⟨wanted_no rfl, ?_⟩
      exact wp_val (.bool false) (by simp [go_sem, f0]) ⟨_, rfl, Gr.refl _, rfl⟩
    · obtain rfl := Option.some.inj zo
      have lg := on_of zD 3 (by kernel_rfl)
      have fg := zF.at (s := 30) (i := 3) (by kernel_rfl) (by simp) lg
      rw [show vals 3 = .bool false from zR 3 lg] at fg
      have f0 := zF.old (s := 7) (v := .bool true) (by kernel_rfl) rfl
      refine Or.inl ⟨wanted_at (j := 3) (s := 30) rfl rfl rfl fg, ?_⟩
      exact wp_val (.bool true) (by simp [go_sem, f0]) ⟨_, rfl, Gr.refl _, rfl⟩
    · obtain rfl := Option.some.inj zo
      have lg := on_of zD 3 (by kernel_rfl)
      have fg := zF.at (s := 30) (i := 3) (by kernel_rfl) (by simp) lg
      rw [show vals 3 = .bool false from zR 3 lg] at fg
      have l0 := on_of zD 4 (by kernel_rfl)
      have f0 := zF.at (s := 31) (i := 4) (by kernel_rfl) (by simp) l0
      have e0 : vals 4 = .bool true := zR 4 l0
      rw [e0] at f0
      refine Or.inl ⟨wanted_at (j := 3) (s := 30) rfl rfl rfl fg, ?_⟩
      exact wp_val (.bool false) (by simp [go_sem, f0]) ⟨_, rfl, Gr.refl _, rfl⟩
    · obtain rfl := Option.some.inj zo
      have l0 := on_of zD 3 (by kernel_rfl)
      have f0 := zF.at (s := 30) (i := 3) (by kernel_rfl) (by simp) l0
      have e0 : vals 3 = .bool false := zR 3 l0
      rw [e0] at f0
      have l1 := on_of zD 5 (by kernel_rfl)
      have f1 := zF.at (s := 32) (i := 5) (by kernel_rfl) (by simp) l1
      have e1 : vals 5 = .bool false := zR 5 l1
      rw [e1] at f1
      refine Or.inl ⟨wanted_no rfl, ?_⟩
      exact wp_val (.bool false) (by simp [go_sem, f0, f1]) ⟨_, rfl, Gr.refl _, rfl⟩
    · obtain rfl := Option.some.inj zo
      have l0 := on_of zD 6 (by kernel_rfl)
      have f0 := zF.at (s := 33) (i := 6) (by kernel_rfl) (by simp) l0
      have e0 : vals 6 = .bool false := zR 6 l0
      rw [e0] at f0
      refine Or.inl ⟨wanted_no rfl, ?_⟩
      exact wp_val (.bool false) (by simp [go_sem, f0]) ⟨_, rfl, Gr.refl _, rfl⟩
    · obtain rfl := Option.some.inj zo
      have lg := on_of zD 7 (by kernel_rfl)
      have fg := zF.at (s := 34) (i := 7) (by kernel_rfl) (by simp) lg
      rw [show vals 7 = .bool false from zR 7 lg] at fg
      have f0 := zF.old (s := 3) (v := .int .i64 (k : Int)) (by kernel_rfl) rfl
      refine Or.inl ⟨wanted_at (j := 7) (s := 34) rfl rfl rfl fg, ?_⟩
      exact wp_val (.int .i64 (k : Int)) (by simp [go_sem, f0]) ⟨_, rfl, Gr.refl _, rfl⟩
    · obtain rfl := Option.some.inj zo
      have lg := on_of zD 7 (by kernel_rfl)
      have fg := zF.at (s := 34) (i := 7) (by kernel_rfl) (by simp) lg
      rw [show vals 7 = .bool false from zR 7 lg] at fg
      have f0 := zF.old (s := 4) (v := .pointer (some ⟨e4, 0, none⟩)) (by kernel_rfl) rfl
      refine Or.inl ⟨wanted_at (j := 7) (s := 34) rfl rfl rfl fg, ?_⟩
      exact wp_val (.pointer (some ⟨e4, 37, none⟩)) (by simp [go_sem, f0]) ⟨_, rfl, Gr.refl _, rfl⟩
    · obtain rfl := Option.some.inj zo
      have lg := on_of zD 7 (by kernel_rfl)
      have fg := zF.at (s := 34) (i := 7) (by kernel_rfl) (by simp) lg
      rw [show vals 7 = .bool false from zR 7 lg] at fg
      have l0 := on_of zD 9 (by kernel_rfl)
      have f0 := zF.at (s := 36) (i := 9) (by kernel_rfl) (by simp) l0
      have e0 : vals 9 = .pointer (some ⟨e4, 37, none⟩) := zR 9 l0
      rw [e0] at f0
      refine Or.inl ⟨wanted_at (j := 7) (s := 34) rfl rfl rfl fg, ?_⟩
      exact wp_val (.agg (pnt (xN k) (yN k) false)) (by simp [go_sem, f0, Hc4]) ⟨_, rfl, Gr.refl _, rfl⟩
    · obtain rfl := Option.some.inj zo
      have lg := on_of zD 7 (by kernel_rfl)
      have fg := zF.at (s := 34) (i := 7) (by kernel_rfl) (by simp) lg
      rw [show vals 7 = .bool false from zR 7 lg] at fg
      have l0 := on_of zD 8 (by kernel_rfl)
      have f0 := zF.at (s := 35) (i := 8) (by kernel_rfl) (by simp) l0
      have e0 : vals 8 = .int .i64 (k : Int) := zR 8 l0
      rw [e0] at f0
      have l1 := on_of zD 10 (by kernel_rfl)
      have f1 := zF.at (s := 37) (i := 10) (by kernel_rfl) (by simp) l1
      have e1 : vals 10 = .agg (pnt (xN k) (yN k) false) := zR 10 l1
      rw [e1] at f1
      refine Or.inl ⟨wanted_at (j := 7) (s := 34) rfl rfl rfl fg, ?_⟩
      exact wp_retz (k := .c (.bool true)) (by simp [go_sem, f0, f1]) (show Calls Try.prog 16 #[.int .i64 (k : Int), .agg (pnt (xN k) (yN k) false)] v1 (Rt (.c (.bool true)) v1) from Rt.c (hon ▸ on13_yes k h1 h2 _ _ false (nN_M k h1 h2).2.2.2.2.1 (nN_M k h1 h2).2.2.2.2.2 _)) (fun u w2 hu hg2 => ⟨_, rfl, hg2, hu⟩)
    · obtain rfl := Option.some.inj zo
      have lg := on_of zD 7 (by kernel_rfl)
      have fg := zF.at (s := 34) (i := 7) (by kernel_rfl) (by simp) lg
      rw [show vals 7 = .bool false from zR 7 lg] at fg
      have l0 := on_of zD 11 (by kernel_rfl)
      have f0 := zF.at (s := 38) (i := 11) (by kernel_rfl) (by simp) l0
      have e0 : vals 11 = .bool true := zR 11 l0
      rw [e0] at f0
      refine Or.inl ⟨wanted_at (j := 7) (s := 34) rfl rfl rfl fg, ?_⟩
      exact wp_val (.bool false) (by simp [go_sem, f0]) ⟨_, rfl, Gr.refl _, rfl⟩
    · obtain rfl := Option.some.inj zo
      have l0 := on_of zD 7 (by kernel_rfl)
      have f0 := zF.at (s := 34) (i := 7) (by kernel_rfl) (by simp) l0
      have e0 : vals 7 = .bool false := zR 7 l0
      rw [e0] at f0
      have l1 := on_of zD 12 (by kernel_rfl)
      have f1 := zF.at (s := 39) (i := 12) (by kernel_rfl) (by simp) l1
      have e1 : vals 12 = .bool false := zR 12 l1
      rw [e1] at f1
      refine Or.inl ⟨wanted_no rfl, ?_⟩
      exact wp_val (.bool false) (by simp [go_sem, f0, f1]) ⟨_, rfl, Gr.refl _, rfl⟩
    · obtain rfl := Option.some.inj zo
      have l0 := on_of zD 13 (by kernel_rfl)
      have f0 := zF.at (s := 40) (i := 13) (by kernel_rfl) (by simp) l0
      have e0 : vals 13 = .bool false := zR 13 l0
      rw [e0] at f0
      refine Or.inl ⟨wanted_no rfl, ?_⟩
      exact wp_val (.bool false) (by simp [go_sem, f0]) ⟨_, rfl, Gr.refl _, rfl⟩
    · obtain rfl := Option.some.inj zo
      have lg := on_of zD 14 (by kernel_rfl)
      have fg := zF.at (s := 41) (i := 14) (by kernel_rfl) (by simp) lg
      rw [show vals 14 = .bool false from zR 14 lg] at fg
      have f0 := zF.old (s := 4) (v := .pointer (some ⟨e4, 0, none⟩)) (by kernel_rfl) rfl
      refine Or.inl ⟨wanted_at (j := 14) (s := 41) rfl rfl rfl fg, ?_⟩
      exact wp_val (.pointer (some ⟨e4, 37, none⟩)) (by simp [go_sem, f0]) ⟨_, rfl, Gr.refl _, rfl⟩
    · obtain rfl := Option.some.inj zo
      have lg := on_of zD 14 (by kernel_rfl)
      have fg := zF.at (s := 41) (i := 14) (by kernel_rfl) (by simp) lg
      rw [show vals 14 = .bool false from zR 14 lg] at fg
      have l0 := on_of zD 15 (by kernel_rfl)
      have f0 := zF.at (s := 42) (i := 15) (by kernel_rfl) (by simp) l0
      have e0 : vals 15 = .pointer (some ⟨e4, 37, none⟩) := zR 15 l0
      rw [e0] at f0
      refine Or.inl ⟨wanted_at (j := 14) (s := 41) rfl rfl rfl fg, ?_⟩
      exact wp_val (.pointer (some ⟨e4, 55, none⟩)) (by simp [go_sem, f0]) ⟨_, rfl, Gr.refl _, rfl⟩
    · obtain rfl := Option.some.inj zo
      have lg := on_of zD 14 (by kernel_rfl)
      have fg := zF.at (s := 41) (i := 14) (by kernel_rfl) (by simp) lg
      rw [show vals 14 = .bool false from zR 14 lg] at fg
      have l0 := on_of zD 16 (by kernel_rfl)
      have f0 := zF.at (s := 43) (i := 16) (by kernel_rfl) (by simp) l0
      have e0 : vals 16 = .pointer (some ⟨e4, 55, none⟩) := zR 16 l0
      rw [e0] at f0
      refine Or.inl ⟨wanted_at (j := 14) (s := 41) rfl rfl rfl fg, ?_⟩
      exact wp_val (.bool false) (by simp [go_sem, f0, Kc4_55]) ⟨_, rfl, Gr.refl _, rfl⟩
    · obtain rfl := Option.some.inj zo
      have l0 := on_of zD 14 (by kernel_rfl)
      have f0 := zF.at (s := 41) (i := 14) (by kernel_rfl) (by simp) l0
      have e0 : vals 14 = .bool false := zR 14 l0
      rw [e0] at f0
      have l1 := on_of zD 17 (by kernel_rfl)
      have f1 := zF.at (s := 44) (i := 17) (by kernel_rfl) (by simp) l1
      have e1 : vals 17 = .bool false := zR 17 l1
      rw [e1] at f1
      refine Or.inl ⟨wanted_no rfl, ?_⟩
      exact wp_val (.bool false) (by simp [go_sem, f0, f1]) ⟨_, rfl, Gr.refl _, rfl⟩
  case hf =>
    intro vals v1 hg zR
    have e6_0 : vals 0 = .int .i64 0 := zR 0 (by simp)
    have e6_1 : vals 1 = .int .i64 0 := zR 1 (by simp)
    have e6_2 : vals 2 = .bool false := zR 2 (by simp)
    have e6_3 : vals 3 = .bool false := zR 3 (by simp)
    have e6_4 : vals 4 = .bool true := zR 4 (by simp)
    have e6_5 : vals 5 = .bool false := zR 5 (by simp)
    have e6_6 : vals 6 = .bool false := zR 6 (by simp)
    have e6_7 : vals 7 = .bool false := zR 7 (by simp)
    have e6_8 : vals 8 = .int .i64 (k : Int) := zR 8 (by simp)
    have e6_9 : vals 9 = .pointer (some ⟨e4, 37, none⟩) := zR 9 (by simp)
    have e6_10 : vals 10 = .agg (pnt (xN k) (yN k) false) := zR 10 (by simp)
    have e6_11 : vals 11 = .bool true := zR 11 (by simp)
    have e6_12 : vals 12 = .bool false := zR 12 (by simp)
    have e6_13 : vals 13 = .bool false := zR 13 (by simp)
    have e6_14 : vals 14 = .bool false := zR 14 (by simp)
    have e6_15 : vals 15 = .pointer (some ⟨e4, 37, none⟩) := zR 15 (by simp)
    have e6_16 : vals 16 = .pointer (some ⟨e4, 55, none⟩) := zR 16 (by simp)
    have e6_17 : vals 17 = .bool false := zR 17 (by simp)
    have e6_18 : vals 18 = .bool false := zR 18 (by simp)
    simp only [putFrom, Act.put, List.setIfInBounds_toArray, List.set_cons_zero, List.set_cons_succ, e6_0, e6_1, e6_2, e6_3, e6_4, e6_5, e6_6, e6_7, e6_8, e6_9, e6_10, e6_11, e6_12, e6_13, e6_14, e6_15, e6_16, e6_17, e6_18]
    clear zR e6_0 e6_1 e6_2 e6_3 e6_4 e6_5 e6_6 e6_7 e6_8 e6_9 e6_10 e6_11 e6_12 e6_13 e6_14 e6_15 e6_16 e6_17 e6_18
    replace G := G.trans hg
    replace c4 := c4.gr hg
    replace c6 := c6.gr hg
    replace HQ := fun k => (HQ k).gr hg
    clear hg
    have q_c4 : e4 + 1 ≤ v1.heap.size := c4.p
    have q_c6 : e6 + 1 ≤ v1.heap.size := c6.p
    have q_w : w.heap.size ≤ v1.heap.size := G.below.size
    go_upto_region 8 with fail
    refine wp_region_qT (by kernel_rfl) (by kernel_rfl) 9 (by kernel_rfl) [.c (.agg (crA (k : Int) (nN k) qc)), .c (.pointer (some ⟨e4, 28, none⟩)), .c (.agg (nw 9 (oN k))), .n (oN k), .c (.pointer (some ⟨e4, 37, none⟩)), .c (.agg (pnt (xN k) (yN k) false)), .pt (xN k) (yN k) false, .pt (0) (0) true, .v (v1.heap.size) (ptA none 0 0 none 0 0 false)] ?hs ?hf
    case hs =>
      intro listed vals a1 v2 io oo hg zR zF zo zi zD
      have Hc4 : blk v2 (e4) = cu (k : Int) (pN k) (aN k) (bN k) (oN k) (xN k) (yN k) (bl (oN k)) (szN k) (lgN k) := (hg.blk _ c4.p).trans c4.h
      have Hc6 : blk v2 (e6) = crA (k : Int) (nN k) qc := (hg.blk _ c6.p).trans c6.h
      obtain rfl | rfl | rfl | rfl | rfl | rfl | rfl | rfl | rfl : io = 0 ∨ io = 1 ∨ io = 2 ∨ io = 3 ∨ io = 4 ∨ io = 5 ∨ io = 6 ∨ io = 7 ∨ io = 8 := by omega
      · obtain rfl := Option.some.inj zo
        have f0 := zF.old (s := 6) (v := .pointer (some ⟨e6, 0, none⟩)) (by kernel_rfl) rfl
        refine Or.inl ⟨wanted_no rfl, ?_⟩
        exact wp_val (.agg (crA (k : Int) (nN k) qc)) (by simp [go_sem, f0, Hc6]) ⟨_, rfl, Gr.refl _, rfl⟩
      · obtain rfl := Option.some.inj zo
        have f0 := zF.old (s := 4) (v := .pointer (some ⟨e4, 0, none⟩)) (by kernel_rfl) rfl
        refine Or.inl ⟨wanted_no rfl, ?_⟩
        exact wp_val (.pointer (some ⟨e4, 28, none⟩)) (by simp [go_sem, f0]) ⟨_, rfl, Gr.refl _, rfl⟩
      · obtain rfl := Option.some.inj zo
        have l0 := on_of zD 1 (by kernel_rfl)
        have f0 := zF.at (s := 47) (i := 1) (by kernel_rfl) (by simp) l0
        have e0 : vals 1 = .pointer (some ⟨e4, 28, none⟩) := zR 1 l0
        rw [e0] at f0
        refine Or.inl ⟨wanted_no rfl, ?_⟩
        exact wp_val (.agg (nw 9 (oN k))) (by simp [go_sem, f0, Hc4]) ⟨_, rfl, Gr.refl _, rfl⟩
      · obtain rfl := Option.some.inj zo
        have l0 := on_of zD 2 (by kernel_rfl)
        have f0 := zF.at (s := 48) (i := 2) (by kernel_rfl) (by simp) l0
        have e0 : vals 2 = .agg (nw 9 (oN k)) := zR 2 l0
        rw [e0] at f0
        refine Or.inl ⟨wanted_no rfl, ?_⟩
        exact wp_retz (k := .n (oN k)) (by simp [go_sem, f0]) (show Calls Try.prog 20 #[.agg (nw 9 (oN k))] v2 (Rt (.n (oN k)) v2) from fm_any (nN_M k h1 h2).2.2.2.1) (fun u w2 hu hg2 => ⟨_, rfl, hg2, hu⟩)
      · obtain rfl := Option.some.inj zo
        have f0 := zF.old (s := 4) (v := .pointer (some ⟨e4, 0, none⟩)) (by kernel_rfl) rfl
        refine Or.inl ⟨wanted_no rfl, ?_⟩
        exact wp_val (.pointer (some ⟨e4, 37, none⟩)) (by simp [go_sem, f0]) ⟨_, rfl, Gr.refl _, rfl⟩
      · obtain rfl := Option.some.inj zo
        have l0 := on_of zD 4 (by kernel_rfl)
        have f0 := zF.at (s := 50) (i := 4) (by kernel_rfl) (by simp) l0
        have e0 : vals 4 = .pointer (some ⟨e4, 37, none⟩) := zR 4 l0
        rw [e0] at f0
        refine Or.inl ⟨wanted_no rfl, ?_⟩
        exact wp_val (.agg (pnt (xN k) (yN k) false)) (by simp [go_sem, f0, Hc4]) ⟨_, rfl, Gr.refl _, rfl⟩
      · obtain rfl := Option.some.inj zo
        have l0 := on_of zD 5 (by kernel_rfl)
        have f0 := zF.at (s := 51) (i := 5) (by kernel_rfl) (by simp) l0
        have e0 : vals 5 = .agg (pnt (xN k) (yN k) false) := zR 5 l0
        rw [e0] at f0
        refine Or.inl ⟨wanted_no rfl, ?_⟩
        exact wp_retz (k := .pt (xN k) (yN k) false) (by simp [go_sem, f0]) (show Calls Try.prog 18 #[.agg (pnt (xN k) (yN k) false)] v2 (Rt (.pt (xN k) (yN k) false) v2) from rin_any _ _ false (nN_M k h1 h2).2.2.2.2.1 (nN_M k h1 h2).2.2.2.2.2 _) (fun u w2 hu hg2 => ⟨_, rfl, hg2, hu⟩)
      · obtain rfl := Option.some.inj zo
        have l0 := on_of zD 0 (by kernel_rfl)
        have f0 := zF.at (s := 46) (i := 0) (by kernel_rfl) (by simp) l0
        have e0 : vals 0 = .agg (crA (k : Int) (nN k) qc) := zR 0 l0
        rw [e0] at f0
        have l1 := on_of zD 3 (by kernel_rfl)
        have f1 := zF.at (s := 49) (i := 3) (by kernel_rfl) (by simp) l1
        obtain ⟨p1, n1, e1, S1⟩ := (show ∃ p n, vals 3 = .slice p (dl (oN k)) n ∧ Sl v2 p (oN k) from zR 3 l1)
        rw [e1] at f1
        have l2 := on_of zD 6 (by kernel_rfl)
        have f2 := zF.at (s := 52) (i := 6) (by kernel_rfl) (by simp) l2
        obtain ⟨p2, n2, q2, kp2, e2, S2, T2⟩ := (show ∃ p n q kp, vals 6 = .agg (ptA p (xN k) n q (yN k) kp false) ∧ Sl v2 p (xN k) ∧ Sl v2 q (yN k) from zR 6 l2)
        rw [e2] at f2
        refine Or.inl ⟨wanted_no rfl, ?_⟩
        exact wp_retz (k := .pt (0) (0) true) (by simp [go_sem, f0, f1, f2]) (show Calls Try.prog 19 #[.agg (crA (k : Int) (nN k) qc), .slice p1 (dl (oN k)) n1, .agg (ptA p2 (xN k) n2 q2 (yN k) kp2 false)] v2 (Rt (.pt (0) (0) true) v2) from rtimes_N k h1 h2 qc _ _ _ _ _ _ _ (fun j => (HQ j).gr hg) S2 T2 S1) (fun u w2 hu hg2 => ⟨_, rfl, hg2, hu⟩)
      · obtain rfl := Option.some.inj zo
        refine Or.inl ⟨wanted_no rfl, ?_⟩
        exact wp_val (.pointer (some ⟨v2.heap.size, 0, none⟩)) (w' := v2.alloc (.cells (ptA none 0 0 none 0 0 false) 49)) (by simp [go_sem]) ⟨_, rfl, (Gr.refl _).alloc _, v2.heap.size, rfl, hg.below.size, Vr.new _ _ _⟩
    case hf =>
      intro listed vals a1 v2 oo hg zR zF zA zo
      obtain rfl := Option.some.inj zo
      have l8_8 := zA 8 (by decide)
      have f8_8 := zF.at (s := 8) (i := 8) (by kernel_rfl) (by simp) l8_8
      obtain ⟨b8_8, e8_8, N8_8, V8_8⟩ := (show ∃ b, vals 8 = Value.pointer (some ⟨b, 0, none⟩) ∧ (v1.heap.size) ≤ b ∧ Vr v2 b (ptA none 0 0 none 0 0 false) from zR 8 (by decide))
      rw [e8_8] at f8_8
      have l8_7 := zA 7 (by decide)
      have f8_7 := zF.at (s := 53) (i := 7) (by kernel_rfl) (by simp) l8_7
      obtain ⟨p8_7, n8_7, q8_7, kp8_7, e8_7, S8_7, T8_7⟩ := (show ∃ p n q kp, vals 7 = .agg (ptA p (0) n q (0) kp true) ∧ Sl v2 p (0) ∧ Sl v2 q (0) from zR 7 (by decide))
      rw [e8_7] at f8_7
      have HT := V8_8.h
      have FT := V8_8.f
      refine wp_skip (w' := setBlk v2 (b8_8) (ptA p8_7 (0) n8_7 q8_7 (0) kp8_7 true)) (by simp [go_sem, f8_8, f8_7, HT, FT]) ⟨rfl, ?_⟩
      have e8_0 : vals 0 = .agg (crA (k : Int) (nN k) qc) := zR 0 (by decide)
      have e8_1 : vals 1 = .pointer (some ⟨e4, 28, none⟩) := zR 1 (by decide)
      have e8_2 : vals 2 = .agg (nw 9 (oN k)) := zR 2 (by decide)
      obtain ⟨p8_3, n8_3, e8_3, S8_3⟩ := (show ∃ p n, vals 3 = .slice p (dl (oN k)) n ∧ Sl v2 p (oN k) from zR 3 (by decide))
      have e8_4 : vals 4 = .pointer (some ⟨e4, 37, none⟩) := zR 4 (by decide)
      have e8_5 : vals 5 = .agg (pnt (xN k) (yN k) false) := zR 5 (by decide)
      obtain ⟨p8_6, n8_6, q8_6, kp8_6, e8_6, S8_6, T8_6⟩ := (show ∃ p n q kp, vals 6 = .agg (ptA p (xN k) n q (yN k) kp false) ∧ Sl v2 p (xN k) ∧ Sl v2 q (yN k) from zR 6 (by decide))
      simp only [putFrom, Act.put, List.setIfInBounds_toArray, List.set_cons_zero, List.set_cons_succ, e8_0, e8_1, e8_2, e8_3, e8_4, e8_5, e8_6, e8_7, e8_8]
      clear zR zF zA e8_0 e8_1 e8_2 e8_3 e8_4 e8_5 e8_6 e8_7 e8_8
      replace G := G.trans hg
      replace c4 := c4.gr hg
      replace c6 := c6.gr hg
      replace HQ := fun k => (HQ k).gr hg
      clear hg
      go_upto_region 9 with fail
      have ne_c4_c8 : b8_8 ≠ e4 := by have := q_c4; have := N8_8; omega
      have ne_c6_c8 : b8_8 ≠ e6 := by have := q_c6; have := N8_8; omega
      have lo_c8 : w.heap.size ≤ b8_8 := by have := N8_8; omega
      refine gen_w (fun u => Gr w u ∧ Vr u (e4) (cu (k : Int) (pN k) (aN k) (bN k) (oN k) (xN k) (yN k) (bl (oN k)) (szN k) (lgN k)) ∧ Vr u (e6) (crA (k : Int) (nN k) qc) ∧ Vr u (b8_8) (ptA p8_7 (0) n8_7 q8_7 (0) kp8_7 true) ∧ (∀ j, Sl u (qc j).1 (nN k j)) ∧ Sl u p8_7 (0) ∧ Sl u q8_7 (0)) ⟨gr_setNew G lo_c8, c4.other ne_c4_c8, c6.other ne_c6_c8, V8_8.set (by rw [ptA_size]; decide) _, fun j => Sl.set (HQ j) (by rw [HT]; exact ptA_no _ _ _ _ _ _ _), Sl.set S8_7 (by rw [HT]; exact ptA_no _ _ _ _ _ _ _), Sl.set T8_7 (by rw [HT]; exact ptA_no _ _ _ _ _ _ _)⟩ ?_
      clear HT FT G HQ c4 c6 S8_7 T8_7
      rintro u8 ⟨G, c4, c6, c8, HQ, S8_7, T8_7⟩
      have q_c4 : e4 + 1 ≤ u8.heap.size := c4.p
      have q_c6 : e6 + 1 ≤ u8.heap.size := c6.p
      have q_c8 : b8_8 + 1 ≤ u8.heap.size := c8.p
      have q_w : w.heap.size ≤ u8.heap.size := G.below.size
      refine wp_region_qT (by kernel_rfl) (by kernel_rfl) 11 (by kernel_rfl) [.c (.agg (crA (k : Int) (nN k) qc)), .c (.pointer (some ⟨e4, 28, none⟩)), .c (.agg (nw 9 (oN k))), .n (oN k), .n (1), .n (oN k - 1), .c (.pointer (some ⟨e4, 37, none⟩)), .c (.agg (pnt (xN k) (yN k) false)), .pt (xN k) (yN k) false, .pt (xN k) (pN k - yN k) false, .v (u8.heap.size) (ptA none 0 0 none 0 0 false)] ?hs ?hf
      case hs =>
        intro listed vals a1 v3 io oo hg zR zF zo zi zD
        have Hc4 : blk v3 (e4) = cu (k : Int) (pN k) (aN k) (bN k) (oN k) (xN k) (yN k) (bl (oN k)) (szN k) (lgN k) := (hg.blk _ c4.p).trans c4.h
        have Hc6 : blk v3 (e6) = crA (k : Int) (nN k) qc := (hg.blk _ c6.p).trans c6.h
        obtain rfl | rfl | rfl | rfl | rfl | rfl | rfl | rfl | rfl | rfl | rfl : io = 0 ∨ io = 1 ∨ io = 2 ∨ io = 3 ∨ io = 4 ∨ io = 5 ∨ io = 6 ∨ io = 7 ∨ io = 8 ∨ io = 9 ∨ io = 10 := by omega
        · obtain rfl := Option.some.inj zo
          have f0 := zF.old (s := 6) (v := .pointer (some ⟨e6, 0, none⟩)) (by kernel_rfl) rfl
          refine Or.inl ⟨wanted_no rfl, ?_⟩
          exact wp_val (.agg (crA (k : Int) (nN k) qc)) (by simp [go_sem, f0, Hc6]) ⟨_, rfl, Gr.refl _, rfl⟩
        · obtain rfl := Option.some.inj zo
          have f0 := zF.old (s := 4) (v := .pointer (some ⟨e4, 0, none⟩)) (by kernel_rfl) rfl
          refine Or.inl ⟨wanted_no rfl, ?_⟩
          exact wp_val (.pointer (some ⟨e4, 28, none⟩)) (by simp [go_sem, f0]) ⟨_, rfl, Gr.refl _, rfl⟩
        · obtain rfl := Option.some.inj zo
          have l0 := on_of zD 1 (by kernel_rfl)
          have f0 := zF.at (s := 55) (i := 1) (by kernel_rfl) (by simp) l0
          have e0 : vals 1 = .pointer (some ⟨e4, 28, none⟩) := zR 1 l0
          rw [e0] at f0
          refine Or.inl ⟨wanted_no rfl, ?_⟩
          exact wp_val (.agg (nw 9 (oN k))) (by simp [go_sem, f0, Hc4]) ⟨_, rfl, Gr.refl _, rfl⟩
        · obtain rfl := Option.some.inj zo
          have l0 := on_of zD 2 (by kernel_rfl)
          have f0 := zF.at (s := 56) (i := 2) (by kernel_rfl) (by simp) l0
          have e0 : vals 2 = .agg (nw 9 (oN k)) := zR 2 l0
          rw [e0] at f0
          refine Or.inl ⟨wanted_no rfl, ?_⟩
          exact wp_retz (k := .n (oN k)) (by simp [go_sem, f0]) (show Calls Try.prog 20 #[.agg (nw 9 (oN k))] v3 (Rt (.n (oN k)) v3) from fm_any (nN_M k h1 h2).2.2.2.1) (fun u w2 hu hg2 => ⟨_, rfl, hg2, hu⟩)
        · obtain rfl := Option.some.inj zo
          refine Or.inl ⟨wanted_no rfl, ?_⟩
          exact wp_val (.slice (some ⟨v3.heap.size, 0, none⟩) 1 1) (w' := v3.alloc (.cells (nd 1 1) 55)) (by simp [go_sem, hbs1]) ⟨_, rfl, (Gr.refl _).alloc _, _, 1, rfl, sl_lit 1 (by decide) _⟩
        · obtain rfl := Option.some.inj zo
          have l0 := on_of zD 3 (by kernel_rfl)
          have f0 := zF.at (s := 57) (i := 3) (by kernel_rfl) (by simp) l0
          obtain ⟨p0, n0, e0, S0⟩ := (show ∃ p n, vals 3 = .slice p (dl (oN k)) n ∧ Sl v3 p (oN k) from zR 3 l0)
          rw [e0] at f0
          have l1 := on_of zD 4 (by kernel_rfl)
          have f1 := zF.at (s := 58) (i := 4) (by kernel_rfl) (by simp) l1
          obtain ⟨p1, n1, e1, S1⟩ := (show ∃ p n, vals 4 = .slice p (dl (1)) n ∧ Sl v3 p (1) from zR 4 l1)
          rw [e1] at f1
          refine Or.inl ⟨wanted_no rfl, ?_⟩
          exact wp_retz (k := .n (oN k - 1)) (by simp [go_sem, f0, f1]) (show Calls Try.prog 21 #[.slice p0 (dl (oN k)) n0, .slice p1 (dl (1)) n1] v3 (Rt (.n (oN k - 1)) v3) from sb_any S0 S1 (by have := oN_dl k; omega) (by have := EC.oN_pos k h1 h2; omega) rfl) (fun u w2 hu hg2 => ⟨_, rfl, hg2, hu⟩)
        · obtain rfl := Option.some.inj zo
          have f0 := zF.old (s := 4) (v := .pointer (some ⟨e4, 0, none⟩)) (by kernel_rfl) rfl
          refine Or.inl ⟨wanted_no rfl, ?_⟩
          exact wp_val (.pointer (some ⟨e4, 37, none⟩)) (by simp [go_sem, f0]) ⟨_, rfl, Gr.refl _, rfl⟩
        · obtain rfl := Option.some.inj zo
          have l0 := on_of zD 6 (by kernel_rfl)
          have f0 := zF.at (s := 60) (i := 6) (by kernel_rfl) (by simp) l0
          have e0 : vals 6 = .pointer (some ⟨e4, 37, none⟩) := zR 6 l0
          rw [e0] at f0
          refine Or.inl ⟨wanted_no rfl, ?_⟩
          exact wp_val (.agg (pnt (xN k) (yN k) false)) (by simp [go_sem, f0, Hc4]) ⟨_, rfl, Gr.refl _, rfl⟩
        · obtain rfl := Option.some.inj zo
          have l0 := on_of zD 7 (by kernel_rfl)
          have f0 := zF.at (s := 61) (i := 7) (by kernel_rfl) (by simp) l0
          have e0 : vals 7 = .agg (pnt (xN k) (yN k) false) := zR 7 l0
          rw [e0] at f0
          refine Or.inl ⟨wanted_no rfl, ?_⟩
          exact wp_retz (k := .pt (xN k) (yN k) false) (by simp [go_sem, f0]) (show Calls Try.prog 18 #[.agg (pnt (xN k) (yN k) false)] v3 (Rt (.pt (xN k) (yN k) false) v3) from rin_any _ _ false (nN_M k h1 h2).2.2.2.2.1 (nN_M k h1 h2).2.2.2.2.2 _) (fun u w2 hu hg2 => ⟨_, rfl, hg2, hu⟩)
        · obtain rfl := Option.some.inj zo
          have l0 := on_of zD 0 (by kernel_rfl)
          have f0 := zF.at (s := 54) (i := 0) (by kernel_rfl) (by simp) l0
          have e0 : vals 0 = .agg (crA (k : Int) (nN k) qc) := zR 0 l0
          rw [e0] at f0
          have l1 := on_of zD 5 (by kernel_rfl)
          have f1 := zF.at (s := 59) (i := 5) (by kernel_rfl) (by simp) l1
          obtain ⟨p1, n1, e1, S1⟩ := (show ∃ p n, vals 5 = .slice p (dl (oN k - 1)) n ∧ Sl v3 p (oN k - 1) from zR 5 l1)
          rw [e1] at f1
          have l2 := on_of zD 8 (by kernel_rfl)
          have f2 := zF.at (s := 62) (i := 8) (by kernel_rfl) (by simp) l2
          obtain ⟨p2, n2, q2, kp2, e2, S2, T2⟩ := (show ∃ p n q kp, vals 8 = .agg (ptA p (xN k) n q (yN k) kp false) ∧ Sl v3 p (xN k) ∧ Sl v3 q (yN k) from zR 8 l2)
          rw [e2] at f2
          refine Or.inl ⟨wanted_no rfl, ?_⟩
          exact wp_retz (k := .pt (xN k) (pN k - yN k) false) (by simp [go_sem, f0, f1, f2]) (show Calls Try.prog 19 #[.agg (crA (k : Int) (nN k) qc), .slice p1 (dl (oN k - 1)) n1, .agg (ptA p2 (xN k) n2 q2 (yN k) kp2 false)] v3 (Rt (.pt (xN k) (pN k - yN k) false) v3) from rtimes_N1 k h1 h2 qc _ _ _ _ _ _ _ (fun j => (HQ j).gr hg) S2 T2 S1) (fun u w2 hu hg2 => ⟨_, rfl, hg2, hu⟩)
        · obtain rfl := Option.some.inj zo
          refine Or.inl ⟨wanted_no rfl, ?_⟩
          exact wp_val (.pointer (some ⟨v3.heap.size, 0, none⟩)) (w' := v3.alloc (.cells (ptA none 0 0 none 0 0 false) 49)) (by simp [go_sem]) ⟨_, rfl, (Gr.refl _).alloc _, v3.heap.size, rfl, hg.below.size, Vr.new _ _ _⟩
      case hf =>
        intro listed vals a1 v3 oo hg zR zF zA zo
        obtain rfl := Option.some.inj zo
        have l9_10 := zA 10 (by decide)
        have f9_10 := zF.at (s := 9) (i := 10) (by kernel_rfl) (by simp) l9_10
        obtain ⟨b9_10, e9_10, N9_10, V9_10⟩ := (show ∃ b, vals 10 = Value.pointer (some ⟨b, 0, none⟩) ∧ (u8.heap.size) ≤ b ∧ Vr v3 b (ptA none 0 0 none 0 0 false) from zR 10 (by decide))
        rw [e9_10] at f9_10
        have l9_9 := zA 9 (by decide)
        have f9_9 := zF.at (s := 63) (i := 9) (by kernel_rfl) (by simp) l9_9
        obtain ⟨p9_9, n9_9, q9_9, kp9_9, e9_9, S9_9, T9_9⟩ := (show ∃ p n q kp, vals 9 = .agg (ptA p (xN k) n q (pN k - yN k) kp false) ∧ Sl v3 p (xN k) ∧ Sl v3 q (pN k - yN k) from zR 9 (by decide))
        rw [e9_9] at f9_9
        have HT := V9_10.h
        have FT := V9_10.f
        refine wp_skip (w' := setBlk v3 (b9_10) (ptA p9_9 (xN k) n9_9 q9_9 (pN k - yN k) kp9_9 false)) (by simp [go_sem, f9_10, f9_9, HT, FT]) ⟨rfl, ?_⟩
        have e9_0 : vals 0 = .agg (crA (k : Int) (nN k) qc) := zR 0 (by decide)
        have e9_1 : vals 1 = .pointer (some ⟨e4, 28, none⟩) := zR 1 (by decide)
        have e9_2 : vals 2 = .agg (nw 9 (oN k)) := zR 2 (by decide)
        obtain ⟨p9_3, n9_3, e9_3, S9_3⟩ := (show ∃ p n, vals 3 = .slice p (dl (oN k)) n ∧ Sl v3 p (oN k) from zR 3 (by decide))
        obtain ⟨p9_4, n9_4, e9_4, S9_4⟩ := (show ∃ p n, vals 4 = .slice p (dl (1)) n ∧ Sl v3 p (1) from zR 4 (by decide))
        obtain ⟨p9_5, n9_5, e9_5, S9_5⟩ := (show ∃ p n, vals 5 = .slice p (dl (oN k - 1)) n ∧ Sl v3 p (oN k - 1) from zR 5 (by decide))
        have e9_6 : vals 6 = .pointer (some ⟨e4, 37, none⟩) := zR 6 (by decide)
        have e9_7 : vals 7 = .agg (pnt (xN k) (yN k) false) := zR 7 (by decide)
        obtain ⟨p9_8, n9_8, q9_8, kp9_8, e9_8, S9_8, T9_8⟩ := (show ∃ p n q kp, vals 8 = .agg (ptA p (xN k) n q (yN k) kp false) ∧ Sl v3 p (xN k) ∧ Sl v3 q (yN k) from zR 8 (by decide))
        simp only [putFrom, Act.put, List.setIfInBounds_toArray, List.set_cons_zero, List.set_cons_succ, e9_0, e9_1, e9_2, e9_3, e9_4, e9_5, e9_6, e9_7, e9_8, e9_9, e9_10]
        clear zR zF zA e9_0 e9_1 e9_2 e9_3 e9_4 e9_5 e9_6 e9_7 e9_8 e9_9 e9_10
        replace G := G.trans hg
        replace c4 := c4.gr hg
        replace c6 := c6.gr hg
        replace c8 := c8.gr hg
        replace HQ := fun k => (HQ k).gr hg
        replace S8_7 := S8_7.gr hg
        replace T8_7 := T8_7.gr hg
        clear hg
        go_upto_region 10 with fail
        have ne_c4_c9 : b9_10 ≠ e4 := by have := q_c4; have := N9_10; omega
        have ne_c6_c9 : b9_10 ≠ e6 := by have := q_c6; have := N9_10; omega
        have ne_c8_c9 : b9_10 ≠ b8_8 := by have := q_c8; have := N9_10; omega
        have lo_c9 : w.heap.size ≤ b9_10 := by have := N9_10; omega
        refine gen_w (fun u => Gr w u ∧ Vr u (e4) (cu (k : Int) (pN k) (aN k) (bN k) (oN k) (xN k) (yN k) (bl (oN k)) (szN k) (lgN k)) ∧ Vr u (e6) (crA (k : Int) (nN k) qc) ∧ Vr u (b8_8) (ptA p8_7 (0) n8_7 q8_7 (0) kp8_7 true) ∧ Vr u (b9_10) (ptA p9_9 (xN k) n9_9 q9_9 (pN k - yN k) kp9_9 false) ∧ (∀ j, Sl u (qc j).1 (nN k j)) ∧ Sl u p8_7 (0) ∧ Sl u q8_7 (0) ∧ Sl u p9_9 (xN k) ∧ Sl u q9_9 (pN k - yN k)) ⟨gr_setNew G lo_c9, c4.other ne_c4_c9, c6.other ne_c6_c9, c8.other ne_c8_c9, V9_10.set (by rw [ptA_size]; decide) _, fun j => Sl.set (HQ j) (by rw [HT]; exact ptA_no _ _ _ _ _ _ _), Sl.set S8_7 (by rw [HT]; exact ptA_no _ _ _ _ _ _ _), Sl.set T8_7 (by rw [HT]; exact ptA_no _ _ _ _ _ _ _), Sl.set S9_9 (by rw [HT]; exact ptA_no _ _ _ _ _ _ _), Sl.set T9_9 (by rw [HT]; exact ptA_no _ _ _ _ _ _ _)⟩ ?_
        clear HT FT G HQ c4 c6 c8 S8_7 T8_7 S9_9 T9_9
        rintro u9 ⟨G, c4, c6, c8, c9, HQ, S8_7, T8_7, S9_9, T9_9⟩
        refine wp_region_q (by kernel_rfl) (by kernel_rfl) [.c (.pointer (some ⟨b8_8, 2, none⟩)), .c (.bool true), .c (.bool true), .c (.agg (ptA p9_9 (xN k) n9_9 q9_9 (pN k - yN k) kp9_9 false)), .c (.agg (pnt (xN k) (pN k - yN k) false)), .c (.agg (crA (k : Int) (nN k) qc)), .c (.pointer (some ⟨e4, 37, none⟩)), .c (.agg (pnt (xN k) (yN k) false)), .pt (xN k) (yN k) false, .pt (xN k) (pN k - yN k) false, .c (.agg (pnt (xN k) (pN k - yN k) false)), .c (.bool true), .c (.bool true), .c (.bool true), .c (.pointer (some ⟨e4, 57, none⟩)), .c (.int .i64 (szN k)), .c (.agg (crA (k : Int) (nN k) qc)), .c (.int .i64 (szN k : Int)), .c (.bool true), .c (.bool true), .c (.bool true)] ?hs ?hf
        case hs =>
          intro listed vals a1 v4 io oo hg zR zF zo zD
          have Hc4 : blk v4 (e4) = cu (k : Int) (pN k) (aN k) (bN k) (oN k) (xN k) (yN k) (bl (oN k)) (szN k) (lgN k) := (hg.blk _ c4.p).trans c4.h
          have Kc4_57 : v4.cell? ⟨e4, 57, none⟩ = some (.int .i64 (szN k)) := by rw [cell_blk, Hc4]; exact cu_57 _ _ _ _ _ _ _ _ _ _
          have Hc6 : blk v4 (e6) = crA (k : Int) (nN k) qc := (hg.blk _ c6.p).trans c6.h
          have Hc8 : blk v4 (b8_8) = ptA p8_7 (0) n8_7 q8_7 (0) kp8_7 true := (hg.blk _ c8.p).trans c8.h
          have Kc8_2 : v4.cell? ⟨b8_8, 2, none⟩ = some (.bool true) := by rw [cell_blk, Hc8]; rfl
          have Hc9 : blk v4 (b9_10) = ptA p9_9 (xN k) n9_9 q9_9 (pN k - yN k) kp9_9 false := (hg.blk _ c9.p).trans c9.h
          have zi : io < 21 := by simpa using (Array.getElem?_eq_some_iff.1 zo).1
          obtain rfl | rfl | rfl | rfl | rfl | rfl | rfl | rfl | rfl | rfl | rfl | rfl | rfl | rfl | rfl | rfl | rfl | rfl | rfl | rfl | rfl : io = 0 ∨ io = 1 ∨ io = 2 ∨ io = 3 ∨ io = 4 ∨ io = 5 ∨ io = 6 ∨ io = 7 ∨ io = 8 ∨ io = 9 ∨ io = 10 ∨ io = 11 ∨ io = 12 ∨ io = 13 ∨ io = 14 ∨ io = 15 ∨ io = 16 ∨ io = 17 ∨ io = 18 ∨ io = 19 ∨ io = 20 := by omega
          · obtain rfl := Option.some.inj zo
            have f0 := zF.old (s := 8) (v := .pointer (some ⟨b8_8, 0, none⟩)) (by kernel_rfl) rfl
            refine Or.inl ⟨wanted_no rfl, ?_⟩
            exact wp_val (.pointer (some ⟨b8_8, 2, none⟩)) (by simp [go_sem, f0]) ⟨_, rfl, Gr.refl _, rfl⟩
          · obtain rfl := Option.some.inj zo
            have l0 := on_of zD 0 (by kernel_rfl)
            have f0 := zF.at (s := 64) (i := 0) (by kernel_rfl) (by simp) l0
            have e0 : vals 0 = .pointer (some ⟨b8_8, 2, none⟩) := zR 0 l0
            rw [e0] at f0
            refine Or.inl ⟨wanted_no rfl, ?_⟩
            exact wp_val (.bool true) (by simp [go_sem, f0, Kc8_2]) ⟨_, rfl, Gr.refl _, rfl⟩
          · obtain rfl := Option.some.inj zo
            have l0 := on_of zD 1 (by kernel_rfl)
            have f0 := zF.at (s := 65) (i := 1) (by kernel_rfl) (by simp) l0
            have e0 : vals 1 = .bool true := zR 1 l0
            rw [e0] at f0
            refine Or.inl ⟨wanted_no rfl, ?_⟩
            exact wp_val (.bool true) (by simp [go_sem, f0]) ⟨_, rfl, Gr.refl _, rfl⟩
          · obtain rfl := Option.some.inj zo
            have lg := on_of zD 2 (by kernel_rfl)
            have fg := zF.at (s := 66) (i := 2) (by kernel_rfl) (by simp) lg
            rw [show vals 2 = .bool true from zR 2 lg] at fg
            have f0 := zF.old (s := 9) (v := .pointer (some ⟨b9_10, 0, none⟩)) (by kernel_rfl) rfl
            refine Or.inl ⟨wanted_at (j := 2) (s := 66) rfl rfl rfl fg, ?_⟩
            exact wp_val (.agg (ptA p9_9 (xN k) n9_9 q9_9 (pN k - yN k) kp9_9 false)) (by simp [go_sem, f0, Hc9]) ⟨_, rfl, Gr.refl _, rfl⟩
          · obtain rfl := Option.some.inj zo
            have lg := on_of zD 2 (by kernel_rfl)
            have fg := zF.at (s := 66) (i := 2) (by kernel_rfl) (by simp) lg
            rw [show vals 2 = .bool true from zR 2 lg] at fg
            have l0 := on_of zD 3 (by kernel_rfl)
            have f0 := zF.at (s := 67) (i := 3) (by kernel_rfl) (by simp) l0
            have e0 : vals 3 = .agg (ptA p9_9 (xN k) n9_9 q9_9 (pN k - yN k) kp9_9 false) := zR 3 l0
            rw [e0] at f0
            refine Or.inl ⟨wanted_at (j := 2) (s := 66) rfl rfl rfl fg, ?_⟩
            exact wp_retz (k := .c (.agg (pnt (xN k) (pN k - yN k) false))) (by simp [go_sem, f0]) (show Calls Try.prog 22 #[.agg (ptA p9_9 (xN k) n9_9 q9_9 (pN k - yN k) kp9_9 false)] v4 (Rt (.c (.agg (pnt (xN k) (pN k - yN k) false))) v4) from Rt.c (rout_any _ _ _ _ _ _ _ _ (S9_9.gr hg) (T9_9.gr hg))) (fun u w2 hu hg2 => ⟨_, rfl, hg2, hu⟩)
          · obtain rfl := Option.some.inj zo
            have lg := on_of zD 2 (by kernel_rfl)
            have fg := zF.at (s := 66) (i := 2) (by kernel_rfl) (by simp) lg
            rw [show vals 2 = .bool true from zR 2 lg] at fg
            have f0 := zF.old (s := 6) (v := .pointer (some ⟨e6, 0, none⟩)) (by kernel_rfl) rfl
            refine Or.inl ⟨wanted_at (j := 2) (s := 66) rfl rfl rfl fg, ?_⟩
            exact wp_val (.agg (crA (k : Int) (nN k) qc)) (by simp [go_sem, f0, Hc6]) ⟨_, rfl, Gr.refl _, rfl⟩
          · obtain rfl := Option.some.inj zo
            have lg := on_of zD 2 (by kernel_rfl)
            have fg := zF.at (s := 66) (i := 2) (by kernel_rfl) (by simp) lg
            rw [show vals 2 = .bool true from zR 2 lg] at fg
            have f0 := zF.old (s := 4) (v := .pointer (some ⟨e4, 0, none⟩)) (by kernel_rfl) rfl
            refine Or.inl ⟨wanted_at (j := 2) (s := 66) rfl rfl rfl fg, ?_⟩
            exact wp_val (.pointer (some ⟨e4, 37, none⟩)) (by simp [go_sem, f0]) ⟨_, rfl, Gr.refl _, rfl⟩
          · obtain rfl := Option.some.inj zo
            have lg := on_of zD 2 (by kernel_rfl)
            have fg := zF.at (s := 66) (i := 2) (by kernel_rfl) (by simp) lg
            rw [show vals 2 = .bool true from zR 2 lg] at fg
            have l0 := on_of zD 6 (by kernel_rfl)
            have f0 := zF.at (s := 70) (i := 6) (by kernel_rfl) (by simp) l0
            have e0 : vals 6 = .pointer (some ⟨e4, 37, none⟩) := zR 6 l0
            rw [e0] at f0
            refine Or.inl ⟨wanted_at (j := 2) (s := 66) rfl rfl rfl fg, ?_⟩
            exact wp_val (.agg (pnt (xN k) (yN k) false)) (by simp [go_sem, f0, Hc4]) ⟨_, rfl, Gr.refl _, rfl⟩
          · obtain rfl := Option.some.inj zo
            have lg := on_of zD 2 (by kernel_rfl)
            have fg := zF.at (s := 66) (i := 2) (by kernel_rfl) (by simp) lg
            rw [show vals 2 = .bool true from zR 2 lg] at fg
            have l0 := on_of zD 7 (by kernel_rfl)
            have f0 := zF.at (s := 71) (i := 7) (by kernel_rfl) (by simp) l0
            have e0 : vals 7 = .agg (pnt (xN k) (yN k) false) := zR 7 l0
            rw [e0] at f0
            refine Or.inl ⟨wanted_at (j := 2) (s := 66) rfl rfl rfl fg, ?_⟩
            exact wp_retz (k := .pt (xN k) (yN k) false) (by simp [go_sem, f0]) (show Calls Try.prog 18 #[.agg (pnt (xN k) (yN k) false)] v4 (Rt (.pt (xN k) (yN k) false) v4) from rin_any _ _ false (nN_M k h1 h2).2.2.2.2.1 (nN_M k h1 h2).2.2.2.2.2 _) (fun u w2 hu hg2 => ⟨_, rfl, hg2, hu⟩)
          · obtain rfl := Option.some.inj zo
            have lg := on_of zD 2 (by kernel_rfl)
            have fg := zF.at (s := 66) (i := 2) (by kernel_rfl) (by simp) lg
            rw [show vals 2 = .bool true from zR 2 lg] at fg
            have l0 := on_of zD 5 (by kernel_rfl)
            have f0 := zF.at (s := 69) (i := 5) (by kernel_rfl) (by simp) l0
            have e0 : vals 5 = .agg (crA (k : Int) (nN k) qc) := zR 5 l0
            rw [e0] at f0
            have l1 := on_of zD 8 (by kernel_rfl)
            have f1 := zF.at (s := 72) (i := 8) (by kernel_rfl) (by simp) l1
            obtain ⟨p1, n1, q1, kp1, e1, S1, T1⟩ := (show ∃ p n q kp, vals 8 = .agg (ptA p (xN k) n q (yN k) kp false) ∧ Sl v4 p (xN k) ∧ Sl v4 q (yN k) from zR 8 l1)
            rw [e1] at f1
            refine Or.inl ⟨wanted_at (j := 2) (s := 66) rfl rfl rfl fg, ?_⟩
            exact wp_retz (k := .pt (xN k) (pN k - yN k) false) (by simp [go_sem, f0, f1]) (show Calls Try.prog 23 #[.agg (crA (k : Int) (nN k) qc), .agg (ptA p1 (xN k) n1 q1 (yN k) kp1 false)] v4 (Rt (.pt (xN k) (pN k - yN k) false) v4) from rneg_G k h1 h2 qc _ _ _ _ _ (fun j => (HQ j).gr hg) S1 T1) (fun u w2 hu hg2 => ⟨_, rfl, hg2, hu⟩)
          · obtain rfl := Option.some.inj zo
            have lg := on_of zD 2 (by kernel_rfl)
            have fg := zF.at (s := 66) (i := 2) (by kernel_rfl) (by simp) lg
            rw [show vals 2 = .bool true from zR 2 lg] at fg
            have l0 := on_of zD 9 (by kernel_rfl)
            have f0 := zF.at (s := 73) (i := 9) (by kernel_rfl) (by simp) l0
            obtain ⟨p0, n0, q0, kp0, e0, S0, T0⟩ := (show ∃ p n q kp, vals 9 = .agg (ptA p (xN k) n q (pN k - yN k) kp false) ∧ Sl v4 p (xN k) ∧ Sl v4 q (pN k - yN k) from zR 9 l0)
            rw [e0] at f0
            refine Or.inl ⟨wanted_at (j := 2) (s := 66) rfl rfl rfl fg, ?_⟩
            exact wp_retz (k := .c (.agg (pnt (xN k) (pN k - yN k) false))) (by simp [go_sem, f0]) (show Calls Try.prog 22 #[.agg (ptA p0 (xN k) n0 q0 (pN k - yN k) kp0 false)] v4 (Rt (.c (.agg (pnt (xN k) (pN k - yN k) false))) v4) from Rt.c (rout_any _ _ _ _ _ _ _ _ S0 T0)) (fun u w2 hu hg2 => ⟨_, rfl, hg2, hu⟩)
          · obtain rfl := Option.some.inj zo
            have lg := on_of zD 2 (by kernel_rfl)
            have fg := zF.at (s := 66) (i := 2) (by kernel_rfl) (by simp) lg
            rw [show vals 2 = .bool true from zR 2 lg] at fg
            have l0 := on_of zD 4 (by kernel_rfl)
            have f0 := zF.at (s := 68) (i := 4) (by kernel_rfl) (by simp) l0
            have e0 : vals 4 = .agg (pnt (xN k) (pN k - yN k) false) := zR 4 l0
            rw [e0] at f0
            have l1 := on_of zD 10 (by kernel_rfl)
            have f1 := zF.at (s := 74) (i := 10) (by kernel_rfl) (by simp) l1
            have e1 : vals 10 = .agg (pnt (xN k) (pN k - yN k) false) := zR 10 l1
            rw [e1] at f1
            refine Or.inl ⟨wanted_at (j := 2) (s := 66) rfl rfl rfl fg, ?_⟩
            exact wp_val (.bool true) (by simp [go_sem, f0, f1, eqPn, eqN_self]) ⟨_, rfl, Gr.refl _, rfl⟩
          · obtain rfl := Option.some.inj zo
            have l0 := on_of zD 2 (by kernel_rfl)
            have f0 := zF.at (s := 66) (i := 2) (by kernel_rfl) (by simp) l0
            have e0 : vals 2 = .bool true := zR 2 l0
            rw [e0] at f0
            have l1 := on_of zD 11 (by kernel_rfl)
            have f1 := zF.at (s := 75) (i := 11) (by kernel_rfl) (by simp) l1
            have e1 : vals 11 = .bool true := zR 11 l1
            rw [e1] at f1
            refine Or.inl ⟨wanted_no rfl, ?_⟩
            exact wp_val (.bool true) (by simp [go_sem, f0, f1]) ⟨_, rfl, Gr.refl _, rfl⟩
          · obtain rfl := Option.some.inj zo
            have l0 := on_of zD 12 (by kernel_rfl)
            have f0 := zF.at (s := 76) (i := 12) (by kernel_rfl) (by simp) l0
            have e0 : vals 12 = .bool true := zR 12 l0
            rw [e0] at f0
            refine Or.inl ⟨wanted_no rfl, ?_⟩
            exact wp_val (.bool true) (by simp [go_sem, f0]) ⟨_, rfl, Gr.refl _, rfl⟩
          · obtain rfl := Option.some.inj zo
            have lg := on_of zD 13 (by kernel_rfl)
            have fg := zF.at (s := 77) (i := 13) (by kernel_rfl) (by simp) lg
            rw [show vals 13 = .bool true from zR 13 lg] at fg
            have f0 := zF.old (s := 4) (v := .pointer (some ⟨e4, 0, none⟩)) (by kernel_rfl) rfl
            refine Or.inl ⟨wanted_at (j := 13) (s := 77) rfl rfl rfl fg, ?_⟩
            exact wp_val (.pointer (some ⟨e4, 57, none⟩)) (by simp [go_sem, f0]) ⟨_, rfl, Gr.refl _, rfl⟩
          · obtain rfl := Option.some.inj zo
            have lg := on_of zD 13 (by kernel_rfl)
            have fg := zF.at (s := 77) (i := 13) (by kernel_rfl) (by simp) lg
            rw [show vals 13 = .bool true from zR 13 lg] at fg
            have l0 := on_of zD 14 (by kernel_rfl)
            have f0 := zF.at (s := 78) (i := 14) (by kernel_rfl) (by simp) l0
            have e0 : vals 14 = .pointer (some ⟨e4, 57, none⟩) := zR 14 l0
            rw [e0] at f0
            refine Or.inl ⟨wanted_at (j := 13) (s := 77) rfl rfl rfl fg, ?_⟩
            exact wp_val (.int .i64 (szN k)) (by simp [go_sem, f0, Kc4_57]) ⟨_, rfl, Gr.refl _, rfl⟩
          · obtain rfl := Option.some.inj zo
            have lg := on_of zD 13 (by kernel_rfl)
            have fg := zF.at (s := 77) (i := 13) (by kernel_rfl) (by simp) lg
            rw [show vals 13 = .bool true from zR 13 lg] at fg
            have f0 := zF.old (s := 6) (v := .pointer (some ⟨e6, 0, none⟩)) (by kernel_rfl) rfl
            refine Or.inl ⟨wanted_at (j := 13) (s := 77) rfl rfl rfl fg, ?_⟩
            exact wp_val (.agg (crA (k : Int) (nN k) qc)) (by simp [go_sem, f0, Hc6]) ⟨_, rfl, Gr.refl _, rfl⟩
          · obtain rfl := Option.some.inj zo
            have lg := on_of zD 13 (by kernel_rfl)
            have fg := zF.at (s := 77) (i := 13) (by kernel_rfl) (by simp) lg
            rw [show vals 13 = .bool true from zR 13 lg] at fg
            have l0 := on_of zD 16 (by kernel_rfl)
            have f0 := zF.at (s := 80) (i := 16) (by kernel_rfl) (by simp) l0
            have e0 : vals 16 = .agg (crA (k : Int) (nN k) qc) := zR 16 l0
            rw [e0] at f0
            refine Or.inl ⟨wanted_at (j := 13) (s := 77) rfl rfl rfl fg, ?_⟩
            exact wp_retz (k := .c (.int .i64 (szN k : Int))) (by simp [go_sem, f0]) (show Calls Try.prog 24 #[.agg (crA (k : Int) (nN k) qc)] v4 (Rt (.c (.int .i64 (szN k : Int))) v4) from rsize_yes k h1 h2 qc _ (fun j => (HQ j).gr hg)) (fun u w2 hu hg2 => ⟨_, rfl, hg2, hu⟩)
          · obtain rfl := Option.some.inj zo
            have lg := on_of zD 13 (by kernel_rfl)
            have fg := zF.at (s := 77) (i := 13) (by kernel_rfl) (by simp) lg
            rw [show vals 13 = .bool true from zR 13 lg] at fg
            have l0 := on_of zD 15 (by kernel_rfl)
            have f0 := zF.at (s := 79) (i := 15) (by kernel_rfl) (by simp) l0
            have e0 : vals 15 = .int .i64 (szN k) := zR 15 l0
            rw [e0] at f0
            have l1 := on_of zD 17 (by kernel_rfl)
            have f1 := zF.at (s := 81) (i := 17) (by kernel_rfl) (by simp) l1
            have e1 : vals 17 = .int .i64 (szN k : Int) := zR 17 l1
            rw [e1] at f1
            refine Or.inl ⟨wanted_at (j := 13) (s := 77) rfl rfl rfl fg, ?_⟩
            exact wp_val (.bool true) (by simp [go_sem, f0, f1]) ⟨_, rfl, Gr.refl _, rfl⟩
          · obtain rfl := Option.some.inj zo
            have l0 := on_of zD 13 (by kernel_rfl)
            have f0 := zF.at (s := 77) (i := 13) (by kernel_rfl) (by simp) l0
            have e0 : vals 13 = .bool true := zR 13 l0
            rw [e0] at f0
            have l1 := on_of zD 18 (by kernel_rfl)
            have f1 := zF.at (s := 82) (i := 18) (by kernel_rfl) (by simp) l1
            have e1 : vals 18 = .bool true := zR 18 l1
            rw [e1] at f1
            refine Or.inl ⟨wanted_no rfl, ?_⟩
            exact wp_val (.bool true) (by simp [go_sem, f0, f1]) ⟨_, rfl, Gr.refl _, rfl⟩
          · obtain rfl := Option.some.inj zo
            have l0 := on_of zD 19 (by kernel_rfl)
            have f0 := zF.at (s := 83) (i := 19) (by kernel_rfl) (by simp) l0
            have e0 : vals 19 = .bool true := zR 19 l0
            rw [e0] at f0
            refine Or.inl ⟨wanted_no rfl, ?_⟩
            exact wp_val (.bool true) (by simp [go_sem, f0]) ⟨_, rfl, Gr.refl _, rfl⟩
        case hf =>
          intro vals v4 hg zR
          have e10_0 : vals 0 = .pointer (some ⟨b8_8, 2, none⟩) := zR 0 (by simp)
          have e10_1 : vals 1 = .bool true := zR 1 (by simp)
          have e10_2 : vals 2 = .bool true := zR 2 (by simp)
          have e10_3 : vals 3 = .agg (ptA p9_9 (xN k) n9_9 q9_9 (pN k - yN k) kp9_9 false) := zR 3 (by simp)
          have e10_4 : vals 4 = .agg (pnt (xN k) (pN k - yN k) false) := zR 4 (by simp)
          have e10_5 : vals 5 = .agg (crA (k : Int) (nN k) qc) := zR 5 (by simp)
          have e10_6 : vals 6 = .pointer (some ⟨e4, 37, none⟩) := zR 6 (by simp)
          have e10_7 : vals 7 = .agg (pnt (xN k) (yN k) false) := zR 7 (by simp)
          obtain ⟨p10_8, n10_8, q10_8, kp10_8, e10_8, S10_8, T10_8⟩ := (show ∃ p n q kp, vals 8 = .agg (ptA p (xN k) n q (yN k) kp false) ∧ Sl v4 p (xN k) ∧ Sl v4 q (yN k) from zR 8 (by simp))
          obtain ⟨p10_9, n10_9, q10_9, kp10_9, e10_9, S10_9, T10_9⟩ := (show ∃ p n q kp, vals 9 = .agg (ptA p (xN k) n q (pN k - yN k) kp false) ∧ Sl v4 p (xN k) ∧ Sl v4 q (pN k - yN k) from zR 9 (by simp))
          have e10_10 : vals 10 = .agg (pnt (xN k) (pN k - yN k) false) := zR 10 (by simp)
          have e10_11 : vals 11 = .bool true := zR 11 (by simp)
          have e10_12 : vals 12 = .bool true := zR 12 (by simp)
          have e10_13 : vals 13 = .bool true := zR 13 (by simp)
          have e10_14 : vals 14 = .pointer (some ⟨e4, 57, none⟩) := zR 14 (by simp)
          have e10_15 : vals 15 = .int .i64 (szN k) := zR 15 (by simp)
          have e10_16 : vals 16 = .agg (crA (k : Int) (nN k) qc) := zR 16 (by simp)
          have e10_17 : vals 17 = .int .i64 (szN k : Int) := zR 17 (by simp)
          have e10_18 : vals 18 = .bool true := zR 18 (by simp)
          have e10_19 : vals 19 = .bool true := zR 19 (by simp)
          have e10_20 : vals 20 = .bool true := zR 20 (by simp)
          simp only [putFrom, Act.put, List.setIfInBounds_toArray, List.set_cons_zero, List.set_cons_succ, e10_0, e10_1, e10_2, e10_3, e10_4, e10_5, e10_6, e10_7, e10_8, e10_9, e10_10, e10_11, e10_12, e10_13, e10_14, e10_15, e10_16, e10_17, e10_18, e10_19, e10_20]
          clear zR e10_0 e10_1 e10_2 e10_3 e10_4 e10_5 e10_6 e10_7 e10_8 e10_9 e10_10 e10_11 e10_12 e10_13 e10_14 e10_15 e10_16 e10_17 e10_18 e10_19 e10_20
          replace G := G.trans hg
          replace c4 := c4.gr hg
          replace c6 := c6.gr hg
          replace c8 := c8.gr hg
          replace c9 := c9.gr hg
          replace HQ := fun k => (HQ k).gr hg
          replace S8_7 := S8_7.gr hg
          replace T8_7 := T8_7.gr hg
          replace S9_9 := S9_9.gr hg
          replace T9_9 := T9_9.gr hg
          clear hg
          go_wp2_with fail
          go_ret
          exact ⟨rfl, G⟩

end Go.Proofs.Ytgmaalokfgdpaaa
