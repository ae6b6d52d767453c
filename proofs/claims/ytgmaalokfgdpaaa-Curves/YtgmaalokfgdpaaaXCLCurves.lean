import Derived.Test.YtgmaalokfgdpaaaXCCW
import Derived.Test.YtgmaalokfgdpaaaXCRP1
import Derived.Test.YtgmaalokfgdpaaaXCIX
import Derived.Test.YtgmaalokfgdpaaaXCEC
import Derived.Test.YtgmaalokfgdpaaaXCNN
namespace Go.Proofs.Ytgmaalokfgdpaaa
open Go.RowKit
theorem crA_one (id : Int) (x : Nat → Nat) (q : Nat → Option Addr × Nat) : (crA id x q).all (·.oneCell') = true := by simp [crA, Value.oneCell']
theorem storeCr (w : World) (b : Nat) (id : Int) (x : Nat → Nat) (q : Nat → Option Addr × Nat) (hs : (blk w b).size = 7) (hf : frz w b = (0, 0)) :
    (storeS 36 (.pointer (some ⟨b, 0, none⟩)) (.agg (crA id x q))).run Try.prog w = .ok () (setBlk w b (crA id x q)) :=
  storeS_run 7 (by decide) (by kernel_rfl) w b _ (crA_size id x q) (crA_one id x q) hs hf
theorem oN_dl (i : Nat) : dl (oN i) ≤ 18 := dl_M _ (oN_bd i)
theorem rapi_yes (i : Nat) (h1 : 1 ≤ i) (h2 : i ≤ 15) (qc : Nat → Option Addr × Nat) (w : World) (HQ : ∀ k, Sl w (qc k).1 (nN i k)) :
    Calls Try.prog 15 #[.agg (crA (i : Int) (nN i) qc)] w (Rt (.c (.agg (cuN i))) w) :=
  Rt.c (rapi_any i _ _ _ _ _ _ qc (bl (oN i)) (szN i) (lgN i) (pN_dl i h1 h2) (by have := oN_dl i; omega) rfl rfl rfl w HQ)
end Go.Proofs.Ytgmaalokfgdpaaa
namespace Go.Proofs.Ytgmaalokfgdpaaa
open Go.RowKit
attribute [local go_sem ↓] loadNat_is loadArr_is loadWide_is loadArrW_is storeNat_is storeWide_is
attribute [local go_sem] loadNat loadArr loadWide loadArrW storeNat storeWide idxArr fold9 fold18 nw_size nw_elem pre_self pre_1 pre_2 pre_3 pre_4 pre_5 pre_6 pre_7 pre_8 pre_9 pre_10 pre_11 pre_12 pre_13 pre_14 pre_15 pre_16 pre_17 pre_18 pre_19 pre_20 pre_21 pre_22 pre_23 pre_24 pre_25 pre_26 pre_27 pre_28 pre_29 pre_30 pre_31 pre_32 pre_33 pre_34 pre_35 pre_36 pre_37 pre_38 pre_39 pre_40 gro_size gro_drew gro_drewN drew_gro drewN_gro gro_gro blk_gro frz_gro blk_drew frz_drew blk_drewN frz_drewN blk_alloc_at frz_alloc_at blk_alloc frz_alloc cell_gro frozen_gro cell_alloc_pre frozen_alloc_pre setCell_drewN alloc_drewN setBlk_drew setBlk_drewN setBlk_alloc_at setBlk_alloc setBlk_gro setCell_gro setCell_alloc_pre size_setBlk size_setCell
attribute [local go_sem] ppre_1 ppre_2 ppre_3 ppre_4 ppre_5 ppre_6
attribute [local go_sem ↓] bsl_is loadC_is storeC_is loadPt_is storePt_is zvPt_is buildPt_is loadPn_is storePn_is zvPn_is loadCu_is storeCu_is zvCu_is buildCu_is buildPn_is Go.wp_at_zero Go.wp_at_succ
attribute [local go_sem] loadC storeC0 storeCr crA_size loadPt storePt zvPt ptA_size loadPn storePn zvPn pnt_size loadCu storeCu zvCu cu_size buildCu0 buildPnI buildPn2 loadCP loadCA loadCB loadCN loadCG loadCX loadCY cu_P cu_A cu_B cu_N cu_G cu_X cu_Y frz_setBlk blk_setBlk setBlk_setBlk blk_other
set_option maxRecDepth 100000 in
set_option maxHeartbeats 4000000 in
theorem lcurves_yes (k : Nat) (h1 : 1 ≤ k) (h2 : k ≤ 15) (w : World) : Calls Try.prog 3 #[.int .i64 (k : Int)] w fun e w' => e = .returned (.bool true) ∧ Gr w w' := by
  have HG : Hid (∀ w, Calls Try.prog 9 #[.int .i64 (k : Int)] w fun e w' => e = .returned (.tuple #[.agg (cu (k : Int) (pN k) (aN k) (bN k) (oN k) (xN k) (yN k) (bl (oN k)) (szN k) (lgN k)), .int .i64 0]) ∧ Gr w w') := fun w => get13_yes k h1 h2 w
  have HGR : Hid (∀ w, Calls Try.prog 10 #[.int .i64 (k : Int)] w (GetQ k w)) := fun w => getq_yes k h1 h2 w
  have HI : Hid (∀ w, Calls Try.prog 11 #[] w fun e w' => ∃ g cap, e = .returned (.slice (some ⟨g, 0, none⟩) 15 cap) ∧ w.heap.size ≤ g ∧ Rx w' g 15 cap idsF ∧ Gr w w') := fun w => ids_any w
  go_enter Try.func3, Try.ntmps3
  go_upto_region 3 with (first
    | (go_at_call 9; refine (HG.out _).mono ?_; rintro e WA ⟨rfl, GA⟩)
    | (go_at_call 10; refine (HGR.out _).mono ?_; rintro e W1 ⟨qc, rfl, HQ1, G1⟩))
  obtain ⟨e5, he5⟩ : ∃ b, W1.heap.size = b := ⟨_, rfl⟩
  simp only [he5]
  obtain ⟨e3, he3⟩ : ∃ b, WA.heap.size = b := ⟨_, rfl⟩
  simp only [he3]
  refine gen_w (fun v => Gr w v ∧ Vr v e3 (cu (k : Int) (pN k) (aN k) (bN k) (oN k) (xN k) (yN k) (bl (oN k)) (szN k) (lgN k)) ∧ Vr v e5 (crA (k : Int) (nN k) qc) ∧ (∀ j, Sl v (qc j).1 (nN k j))) ?_ ?_
  · subst he5 he3
    exact ⟨((GA.alloc _).trans G1).alloc _, ((Vr.new WA _ _).gr G1).gr ((Gr.refl _).alloc _), Vr.new _ _ _, fun j => (HQ1 j).gr ((Gr.refl _).alloc _)⟩
  clear G1 GA he5 he3 HQ1
  rintro V1 ⟨G, c3, c5, HQ⟩
  go_upto_region 7 with (go_at_call 11; refine (HI.out _).mono ?_; rintro e V2 ⟨g, cap, rfl, hlo, hR, G2⟩)
  have HR : Hid (V1.heap.size ≤ g ∧ Rx V2 g 15 cap idsF ∧ Gr V1 V2) := ⟨hlo, hR, G2⟩
  clear hlo hR G2
  go_loopw [8] (fun ia wr => ∃ j : Nat, ia = .int .i64 (j : Int) ∧ Hid (Unit → j ≤ 15) ∧ wr = V2) (fun ia _ => 15 - (intOf ia).toNat)
  case atStart => exact ⟨0, rfl, fun _ => by omega, rfl⟩
  case round =>
    obtain ⟨j, rfl, HJ, rfl⟩ := hrel
    by_cases hlt : j < 15
    · have j0 : (0 : Int) ≤ (j : Int) := by omega
      have j1 : (j : Int) < 15 := by omega
      have hc : wr.cell? ⟨g, j, none⟩ = some (.int .i64 ((j : Int) + 1)) := HR.out.2.1.cell j hlt
      go_wp2_with fail
      go_roundw
      case rel => exact ⟨j + 1, by go_num, fun _ => by omega, trivial⟩
      case measure => simp [intOf]; omega
    · have ji : ¬ (j : Int) < 15 := by omega
      have HS : Hid (Unit → Calls Try.prog 12 #[.slice (some ⟨g, 0, none⟩) 15 cap] wr fun e w' => e = .returned (.tuple #[]) ∧ ∀ W, Gr W wr → W.heap.size ≤ g → Gr W w') := fun _ => spoil_any wr g cap HR.out.2.1
      clear hlt
      go_upto_region 16 with (first
        | (go_at_call 12; refine (HS.out ()).mono ?_; rintro e V3 ⟨rfl, H3⟩; have G3 := H3 V1 HR.out.2.2 HR.out.1)
        | (go_at_call 11; have _ := G4; refine (HI.out _).mono ?_; rintro e V5 ⟨g5, cap5, rfl, hlo5, hR5, G5⟩; have hc5 : V5.cell? ⟨g5, 3, none⟩ = some (.int .i64 4) := hR5.cell 3 (by decide))
        | (go_at_call 11; refine (HI.out _).mono ?_; rintro e V4 ⟨g4, cap4, rfl, hlo4, hR4, G4⟩))
      have G6 : Gr V1 V5 := (G3.trans G4).trans G5
      clear HR HS H3 G3 G4 G5 hlo4 hR4 hlo5 hR5 hc5
      refine gen_w (fun v => Gr w v ∧ Vr v e3 (cu (k : Int) (pN k) (aN k) (bN k) (oN k) (xN k) (yN k) (bl (oN k)) (szN k) (lgN k)) ∧ Vr v e5 (crA (k : Int) (nN k) qc) ∧ (∀ j, Sl v (qc j).1 (nN k j))) ⟨G.trans G6, c3.gr G6, c5.gr G6, fun j => (HQ j).gr G6⟩ ?_
      clear G6 G c3 c5 HQ
      rintro V6 ⟨G, c3, c5, HQ⟩
      refine wp_region_q (by kernel_rfl) (by kernel_rfl) [.c (.int .i64 0), .c (.int .i64 0), .c (.bool true), .c (.bool true), .c (.agg (cu (k : Int) (pN k) (aN k) (bN k) (oN k) (xN k) (yN k) (bl (oN k)) (szN k) (lgN k))), .c (.agg (crA (k : Int) (nN k) qc)), .c (.agg (cu (k : Int) (pN k) (aN k) (bN k) (oN k) (xN k) (yN k) (bl (oN k)) (szN k) (lgN k))), .c (.bool true), .c (.bool true), .c (.bool true), .c (.bool true), .c (.bool true), .c (.bool true)] ?hs ?hf
      case hs =>
        intro listed vals a1 v1 io oo hg zR zF zo zD
        have Hc3 : blk v1 (e3) = cu (k : Int) (pN k) (aN k) (bN k) (oN k) (xN k) (yN k) (bl (oN k)) (szN k) (lgN k) := (hg.blk _ c3.p).trans c3.h
        have Hc5 : blk v1 (e5) = crA (k : Int) (nN k) qc := (hg.blk _ c5.p).trans c5.h
        have zi : io < 13 := by simpa using (Array.getElem?_eq_some_iff.1 zo).1
        obtain rfl | rfl | rfl | rfl | rfl | rfl | rfl | rfl | rfl | rfl | rfl | rfl | rfl : io = 0 ∨ io = 1 ∨ io = 2 ∨ io = 3 ∨ io = 4 ∨ io = 5 ∨ io = 6 ∨ io = 7 ∨ io = 8 ∨ io = 9 ∨ io = 10 ∨ io = 11 ∨ io = 12 := by omega
        · obtain rfl := Option.some.inj zo
          have f0 := zF.old (s := 4) (v := .int .i64 0) (by kernel_rfl) rfl
          refine Or.inl ⟨wanted_no rfl, ?_⟩
          exact wp_val (.int .i64 0) (by simp [go_sem, f0]) ⟨_, rfl, Gr.refl _, rfl⟩
        · obtain rfl := Option.some.inj zo
          have l0 := on_of zD 0 (by kernel_rfl)
          have f0 := zF.at (s := 58) (i := 0) (by kernel_rfl) (by simp) l0
          have e0 : vals 0 = .int .i64 0 := zR 0 l0
          rw [e0] at f0
          refine Or.inl ⟨wanted_no rfl, ?_⟩
          exact wp_retz (k := .c (.int .i64 0)) (by simp [go_sem, f0]) (show Calls Try.prog 13 #[.int .i64 0] v1 (Rt (.c (.int .i64 0)) v1) from Rt.same (num_any _ _)) (fun u w2 hu hg2 => ⟨_, rfl, hg2, hu⟩)
        · obtain rfl := Option.some.inj zo
          have l0 := on_of zD 1 (by kernel_rfl)
          have f0 := zF.at (s := 59) (i := 1) (by kernel_rfl) (by simp) l0
          have e0 : vals 1 = .int .i64 0 := zR 1 l0
          rw [e0] at f0
          refine Or.inl ⟨wanted_no rfl, ?_⟩
          exact wp_val (.bool true) (by simp [go_sem, f0]) ⟨_, rfl, Gr.refl _, rfl⟩
        · obtain rfl := Option.some.inj zo
          have l0 := on_of zD 2 (by kernel_rfl)
          have f0 := zF.at (s := 60) (i := 2) (by kernel_rfl) (by simp) l0
          have e0 : vals 2 = .bool true := zR 2 l0
          rw [e0] at f0
          refine Or.inl ⟨wanted_no rfl, ?_⟩
          exact wp_val (.bool true) (by simp [go_sem, f0]) ⟨_, rfl, Gr.refl _, rfl⟩
        · obtain rfl := Option.some.inj zo
          have lg := on_of zD 3 (by kernel_rfl)
          have fg := zF.at (s := 61) (i := 3) (by kernel_rfl) (by simp) lg
          rw [show vals 3 = .bool true from zR 3 lg] at fg
          have f0 := zF.old (s := 3) (v := .pointer (some ⟨e3, 0, none⟩)) (by kernel_rfl) rfl
          refine Or.inl ⟨wanted_at (j := 3) (s := 61) rfl rfl rfl fg, ?_⟩
          exact wp_val (.agg (cu (k : Int) (pN k) (aN k) (bN k) (oN k) (xN k) (yN k) (bl (oN k)) (szN k) (lgN k))) (by simp [go_sem, f0, Hc3]) ⟨_, rfl, Gr.refl _, rfl⟩
        · obtain rfl := Option.some.inj zo
          have lg := on_of zD 3 (by kernel_rfl)
          have fg := zF.at (s := 61) (i := 3) (by kernel_rfl) (by simp) lg
          rw [show vals 3 = .bool true from zR 3 lg] at fg
          have f0 := zF.old (s := 5) (v := .pointer (some ⟨e5, 0, none⟩)) (by kernel_rfl) rfl
          refine Or.inl ⟨wanted_at (j := 3) (s := 61) rfl rfl rfl fg, ?_⟩
          exact wp_val (.agg (crA (k : Int) (nN k) qc)) (by simp [go_sem, f0, Hc5]) ⟨_, rfl, Gr.refl _, rfl⟩
        · obtain rfl := Option.some.inj zo
          have lg := on_of zD 3 (by kernel_rfl)
          have fg := zF.at (s := 61) (i := 3) (by kernel_rfl) (by simp) lg
          rw [show vals 3 = .bool true from zR 3 lg] at fg
          have l0 := on_of zD 5 (by kernel_rfl)
          have f0 := zF.at (s := 63) (i := 5) (by kernel_rfl) (by simp) l0
          have e0 : vals 5 = .agg (crA (k : Int) (nN k) qc) := zR 5 l0
          rw [e0] at f0
          refine Or.inl ⟨wanted_at (j := 3) (s := 61) rfl rfl rfl fg, ?_⟩
          exact wp_retz (k := .c (.agg (cu (k : Int) (pN k) (aN k) (bN k) (oN k) (xN k) (yN k) (bl (oN k)) (szN k) (lgN k)))) (by simp [go_sem, f0]) (show Calls Try.prog 15 #[.agg (crA (k : Int) (nN k) qc)] v1 (Rt (.c (.agg (cu (k : Int) (pN k) (aN k) (bN k) (oN k) (xN k) (yN k) (bl (oN k)) (szN k) (lgN k)))) v1) from rapi_yes k h1 h2 qc _ (fun j => (HQ j).gr hg)) (fun u w2 hu hg2 => ⟨_, rfl, hg2, hu⟩)
        · obtain rfl := Option.some.inj zo
          have lg := on_of zD 3 (by kernel_rfl)
          have fg := zF.at (s := 61) (i := 3) (by kernel_rfl) (by simp) lg
          rw [show vals 3 = .bool true from zR 3 lg] at fg
          have l0 := on_of zD 4 (by kernel_rfl)
          have f0 := zF.at (s := 62) (i := 4) (by kernel_rfl) (by simp) l0
          have e0 : vals 4 = .agg (cu (k : Int) (pN k) (aN k) (bN k) (oN k) (xN k) (yN k) (bl (oN k)) (szN k) (lgN k)) := zR 4 l0
          rw [e0] at f0
          have l1 := on_of zD 6 (by kernel_rfl)
          have f1 := zF.at (s := 64) (i := 6) (by kernel_rfl) (by simp) l1
          have e1 : vals 6 = .agg (cu (k : Int) (pN k) (aN k) (bN k) (oN k) (xN k) (yN k) (bl (oN k)) (szN k) (lgN k)) := zR 6 l1
          rw [e1] at f1
          refine Or.inl ⟨wanted_at (j := 3) (s := 61) rfl rfl rfl fg, ?_⟩
          exact wp_val (.bool true) (by simp [go_sem, f0, f1, eqCu_self]) ⟨_, rfl, Gr.refl _, rfl⟩
        · obtain rfl := Option.some.inj zo
          have l0 := on_of zD 3 (by kernel_rfl)
          have f0 := zF.at (s := 61) (i := 3) (by kernel_rfl) (by simp) l0
          have e0 : vals 3 = .bool true := zR 3 l0
          rw [e0] at f0
          have l1 := on_of zD 7 (by kernel_rfl)
          have f1 := zF.at (s := 65) (i := 7) (by kernel_rfl) (by simp) l1
          have e1 : vals 7 = .bool true := zR 7 l1
          rw [e1] at f1
          refine Or.inl ⟨wanted_no rfl, ?_⟩
          exact wp_val (.bool true) (by simp [go_sem, f0, f1]) ⟨_, rfl, Gr.refl _, rfl⟩
        · obtain rfl := Option.some.inj zo
          have l0 := on_of zD 8 (by kernel_rfl)
          have f0 := zF.at (s := 66) (i := 8) (by kernel_rfl) (by simp) l0
          have e0 : vals 8 = .bool true := zR 8 l0
          rw [e0] at f0
          refine Or.inl ⟨wanted_no rfl, ?_⟩
          exact wp_val (.bool true) (by simp [go_sem, f0]) ⟨_, rfl, Gr.refl _, rfl⟩
        · obtain rfl := Option.some.inj zo
          have lg := on_of zD 9 (by kernel_rfl)
          have fg := zF.at (s := 67) (i := 9) (by kernel_rfl) (by simp) lg
          rw [show vals 9 = .bool true from zR 9 lg] at fg
          refine Or.inl ⟨wanted_at (j := 9) (s := 67) rfl rfl rfl fg, ?_⟩
          exact wp_retz (k := .c (.bool true)) (by simp [go_sem]) (show Calls Try.prog 14 #[] v1 (Rt (.c (.bool true)) v1) from Rt.c (awake13_any _)) (fun u w2 hu hg2 => ⟨_, rfl, hg2, hu⟩)
        · obtain rfl := Option.some.inj zo
          have l0 := on_of zD 9 (by kernel_rfl)
          have f0 := zF.at (s := 67) (i := 9) (by kernel_rfl) (by simp) l0
          have e0 : vals 9 = .bool true := zR 9 l0
          rw [e0] at f0
          have l1 := on_of zD 10 (by kernel_rfl)
          have f1 := zF.at (s := 68) (i := 10) (by kernel_rfl) (by simp) l1
          have e1 : vals 10 = .bool true := zR 10 l1
          rw [e1] at f1
          refine Or.inl ⟨wanted_no rfl, ?_⟩
          exact wp_val (.bool true) (by simp [go_sem, f0, f1]) ⟨_, rfl, Gr.refl _, rfl⟩
        · obtain rfl := Option.some.inj zo
          have l0 := on_of zD 11 (by kernel_rfl)
          have f0 := zF.at (s := 69) (i := 11) (by kernel_rfl) (by simp) l0
          have e0 : vals 11 = .bool true := zR 11 l0
          rw [e0] at f0
          refine Or.inl ⟨wanted_no rfl, ?_⟩
          exact wp_val (.bool true) (by simp [go_sem, f0]) ⟨_, rfl, Gr.refl _, rfl⟩
      case hf =>
        intro vals v1 hg zR
        have e16_0 : vals 0 = .int .i64 0 := zR 0 (by simp)
        have e16_1 : vals 1 = .int .i64 0 := zR 1 (by simp)
        have e16_2 : vals 2 = .bool true := zR 2 (by simp)
        have e16_3 : vals 3 = .bool true := zR 3 (by simp)
        have e16_4 : vals 4 = .agg (cu (k : Int) (pN k) (aN k) (bN k) (oN k) (xN k) (yN k) (bl (oN k)) (szN k) (lgN k)) := zR 4 (by simp)
        have e16_5 : vals 5 = .agg (crA (k : Int) (nN k) qc) := zR 5 (by simp)
        have e16_6 : vals 6 = .agg (cu (k : Int) (pN k) (aN k) (bN k) (oN k) (xN k) (yN k) (bl (oN k)) (szN k) (lgN k)) := zR 6 (by simp)
        have e16_7 : vals 7 = .bool true := zR 7 (by simp)
        have e16_8 : vals 8 = .bool true := zR 8 (by simp)
        have e16_9 : vals 9 = .bool true := zR 9 (by simp)
        have e16_10 : vals 10 = .bool true := zR 10 (by simp)
        have e16_11 : vals 11 = .bool true := zR 11 (by simp)
        have e16_12 : vals 12 = .bool true := zR 12 (by simp)
        simp only [putFrom, Act.put, List.setIfInBounds_toArray, List.set_cons_zero, List.set_cons_succ, e16_0, e16_1, e16_2, e16_3, e16_4, e16_5, e16_6, e16_7, e16_8, e16_9, e16_10, e16_11, e16_12]
        clear zR e16_0 e16_1 e16_2 e16_3 e16_4 e16_5 e16_6 e16_7 e16_8 e16_9 e16_10 e16_11 e16_12
        replace G := G.trans hg
        replace c3 := c3.gr hg
        replace c5 := c5.gr hg
        replace HQ := fun k => (HQ k).gr hg
        clear hg
        go_wp2_with fail
        go_ret
        exact ⟨rfl, G⟩
set_option maxRecDepth 100000 in
set_option maxHeartbeats 4000000 in
theorem lcurves_no (id : Int) (h : id < 1 ∨ 15 < id) (w : World) : Calls Try.prog 3 #[.int .i64 id] w fun e w' => e = .returned (.bool true) ∧ Gr w w' := by
  have HG : Hid (∀ w, Calls Try.prog 9 #[.int .i64 id] w fun e w' => e = .returned (.tuple #[.agg (cu 0 0 0 0 0 0 0 0 0 false), .int .i64 1300]) ∧ Gr w w') := fun w => get13_no id h w
  have HGR : Hid (∀ w, Calls Try.prog 10 #[.int .i64 id] w fun e w' => e = .returned (.tuple #[.agg #[.int .i64 0, .slice none 0 0, .slice none 0 0, .slice none 0 0, .slice none 0 0, .slice none 0 0, .slice none 0 0], .bool false]) ∧ Gr w w') := fun w => get_no id h w
  have HI : Hid (∀ w, Calls Try.prog 11 #[] w fun e w' => ∃ g cap, e = .returned (.slice (some ⟨g, 0, none⟩) 15 cap) ∧ w.heap.size ≤ g ∧ Rx w' g 15 cap idsF ∧ Gr w w') := fun w => ids_any w
  go_enter Try.func3, Try.ntmps3
  go_upto_region 3 with (first
    | (go_at_call 9; refine (HG.out _).mono ?_; rintro e WA ⟨rfl, GA⟩)
    | (go_at_call 10; refine (HGR.out _).mono ?_; rintro e W1 ⟨rfl, G1⟩))
  obtain ⟨e5, he5⟩ : ∃ b, W1.heap.size = b := ⟨_, rfl⟩
  simp only [he5]
  obtain ⟨e3, he3⟩ : ∃ b, WA.heap.size = b := ⟨_, rfl⟩
  simp only [he3]
  refine gen_w (fun v => Gr w v ∧ Vr v e3 (cu 0 0 0 0 0 0 0 0 0 false)) ?_ ?_
  · subst he5 he3
    exact ⟨((GA.alloc _).trans G1).alloc _, ((Vr.new WA _ _).gr G1).gr ((Gr.refl _).alloc _)⟩
  clear G1 GA he5 he3
  rintro V1 ⟨G, c3⟩
  go_upto_region 7 with (go_at_call 11; refine (HI.out _).mono ?_; rintro e V2 ⟨g, cap, rfl, hlo, hR, G2⟩)
  have HR : Hid (V1.heap.size ≤ g ∧ Rx V2 g 15 cap idsF ∧ Gr V1 V2) := ⟨hlo, hR, G2⟩
  clear hlo hR G2
  go_loopw [8] (fun ia wr => ∃ j : Nat, ia = .int .i64 (j : Int) ∧ Hid (Unit → j ≤ 15) ∧ wr = V2) (fun ia _ => 15 - (intOf ia).toNat)
  case atStart => exact ⟨0, rfl, fun _ => by omega, rfl⟩
  case round =>
    obtain ⟨j, rfl, HJ, rfl⟩ := hrel
    by_cases hlt : j < 15
    · have j0 : (0 : Int) ≤ (j : Int) := by omega
      have j1 : (j : Int) < 15 := by omega
      have hc : wr.cell? ⟨g, j, none⟩ = some (.int .i64 ((j : Int) + 1)) := HR.out.2.1.cell j hlt
      go_wp2_with fail
      go_roundw
      case rel => exact ⟨j + 1, by go_num, fun _ => by omega, trivial⟩
      case measure => simp [intOf]; omega
    · have ji : ¬ (j : Int) < 15 := by omega
      have HS : Hid (Unit → Calls Try.prog 12 #[.slice (some ⟨g, 0, none⟩) 15 cap] wr fun e w' => e = .returned (.tuple #[]) ∧ ∀ W, Gr W wr → W.heap.size ≤ g → Gr W w') := fun _ => spoil_any wr g cap HR.out.2.1
      clear hlt
      go_upto_region 15 with (first
        | (go_at_call 12; refine (HS.out ()).mono ?_; rintro e V3 ⟨rfl, H3⟩; have G3 := H3 V1 HR.out.2.2 HR.out.1)
        | (go_at_call 11; have _ := G4; refine (HI.out _).mono ?_; rintro e V5 ⟨g5, cap5, rfl, hlo5, hR5, G5⟩; have hc5 : V5.cell? ⟨g5, 3, none⟩ = some (.int .i64 4) := hR5.cell 3 (by decide))
        | (go_at_call 11; refine (HI.out _).mono ?_; rintro e V4 ⟨g4, cap4, rfl, hlo4, hR4, G4⟩))
      have G6 : Gr V1 V5 := (G3.trans G4).trans G5
      clear HR HS H3 G3 G4 G5 hlo4 hR4 hlo5 hR5 hc5
      refine gen_w (fun v => Gr w v ∧ Vr v e3 (cu 0 0 0 0 0 0 0 0 0 false)) ⟨G.trans G6, c3.gr G6⟩ ?_
      clear G6 G c3
      rintro V6 ⟨G, c3⟩
      refine wp_region_qS (by kernel_rfl) [.c (.int .i64 1300), .c (.int .i64 1300), .c (.bool true), .c (.bool true), .c (.agg (cu 0 0 0 0 0 0 0 0 0 false)), .c (.agg (cu 0 0 0 0 0 0 0 0 0 false)), .c (.bool true), .c (.bool true), .c (.bool true), .c (.bool true), .c (.bool true), .c (.bool true)] ?hs ?hf
      case hs =>
        intro listed vals a1 v1 io oo hg zR zF zo zD
        have Hc3 : blk v1 (e3) = cu 0 0 0 0 0 0 0 0 0 false := (hg.blk _ c3.p).trans c3.h
        have zi : io < 12 := by simpa using (Array.getElem?_eq_some_iff.1 zo).1
        obtain rfl | rfl | rfl | rfl | rfl | rfl | rfl | rfl | rfl | rfl | rfl | rfl : io = 0 ∨ io = 1 ∨ io = 2 ∨ io = 3 ∨ io = 4 ∨ io = 5 ∨ io = 6 ∨ io = 7 ∨ io = 8 ∨ io = 9 ∨ io = 10 ∨ io = 11 := by omega
        · obtain rfl := Option.some.inj zo
          have f0 := zF.old (s := 4) (v := .int .i64 1300) (by kernel_rfl) rfl
          refine Or.inl ⟨wanted_no rfl, ?_⟩
          exact wp_val (.int .i64 1300) (by simp [go_sem, f0]) ⟨_, rfl, Gr.refl _, rfl⟩
        · obtain rfl := Option.some.inj zo
          have l0 := on_of zD 0 (by kernel_rfl)
          have f0 := zF.at (s := 47) (i := 0) (by kernel_rfl) (by simp) l0
          have e0 : vals 0 = .int .i64 1300 := zR 0 l0
          rw [e0] at f0
          refine Or.inl ⟨wanted_no rfl, ?_⟩
          exact wp_retz (k := .c (.int .i64 1300)) (by simp [go_sem, f0]) (show Calls Try.prog 13 #[.int .i64 1300] v1 (Rt (.c (.int .i64 1300)) v1) from Rt.same (num_any _ _)) (fun u w2 hu hg2 => ⟨_, rfl, hg2, hu⟩)
        · obtain rfl := Option.some.inj zo
          have l0 := on_of zD 1 (by kernel_rfl)
          have f0 := zF.at (s := 48) (i := 1) (by kernel_rfl) (by simp) l0
          have e0 : vals 1 = .int .i64 1300 := zR 1 l0
          rw [e0] at f0
          refine Or.inl ⟨wanted_no rfl, ?_⟩
          exact wp_val (.bool true) (by simp [go_sem, f0]) ⟨_, rfl, Gr.refl _, rfl⟩
        · obtain rfl := Option.some.inj zo
          have l0 := on_of zD 2 (by kernel_rfl)
          have f0 := zF.at (s := 49) (i := 2) (by kernel_rfl) (by simp) l0
          have e0 : vals 2 = .bool true := zR 2 l0
          rw [e0] at f0
          refine Or.inl ⟨wanted_no rfl, ?_⟩
          exact wp_val (.bool true) (by simp [go_sem, f0]) ⟨_, rfl, Gr.refl _, rfl⟩
        · obtain rfl := Option.some.inj zo
          have lg := on_of zD 3 (by kernel_rfl)
          have fg := zF.at (s := 50) (i := 3) (by kernel_rfl) (by simp) lg
          rw [show vals 3 = .bool true from zR 3 lg] at fg
          have f0 := zF.old (s := 3) (v := .pointer (some ⟨e3, 0, none⟩)) (by kernel_rfl) rfl
          refine Or.inl ⟨wanted_at (j := 3) (s := 50) rfl rfl rfl fg, ?_⟩
          exact wp_val (.agg (cu 0 0 0 0 0 0 0 0 0 false)) (by simp [go_sem, f0, Hc3]) ⟨_, rfl, Gr.refl _, rfl⟩
        · obtain rfl := Option.some.inj zo
          have lg := on_of zD 3 (by kernel_rfl)
          have fg := zF.at (s := 50) (i := 3) (by kernel_rfl) (by simp) lg
          rw [show vals 3 = .bool true from zR 3 lg] at fg
          refine Or.inl ⟨wanted_at (j := 3) (s := 50) rfl rfl rfl fg, ?_⟩
          exact wp_val (.agg (cu 0 0 0 0 0 0 0 0 0 false)) (by simp [go_sem]) ⟨_, rfl, Gr.refl _, rfl⟩
        · obtain rfl := Option.some.inj zo
          have lg := on_of zD 3 (by kernel_rfl)
          have fg := zF.at (s := 50) (i := 3) (by kernel_rfl) (by simp) lg
          rw [show vals 3 = .bool true from zR 3 lg] at fg
          have l0 := on_of zD 4 (by kernel_rfl)
          have f0 := zF.at (s := 51) (i := 4) (by kernel_rfl) (by simp) l0
          have e0 : vals 4 = .agg (cu 0 0 0 0 0 0 0 0 0 false) := zR 4 l0
          rw [e0] at f0
          have l1 := on_of zD 5 (by kernel_rfl)
          have f1 := zF.at (s := 52) (i := 5) (by kernel_rfl) (by simp) l1
          have e1 : vals 5 = .agg (cu 0 0 0 0 0 0 0 0 0 false) := zR 5 l1
          rw [e1] at f1
          refine Or.inl ⟨wanted_at (j := 3) (s := 50) rfl rfl rfl fg, ?_⟩
          exact wp_val (.bool true) (by simp [go_sem, f0, f1, eqCu_self]) ⟨_, rfl, Gr.refl _, rfl⟩
        · obtain rfl := Option.some.inj zo
          have l0 := on_of zD 3 (by kernel_rfl)
          have f0 := zF.at (s := 50) (i := 3) (by kernel_rfl) (by simp) l0
          have e0 : vals 3 = .bool true := zR 3 l0
          rw [e0] at f0
          have l1 := on_of zD 6 (by kernel_rfl)
          have f1 := zF.at (s := 53) (i := 6) (by kernel_rfl) (by simp) l1
          have e1 : vals 6 = .bool true := zR 6 l1
          rw [e1] at f1
          refine Or.inl ⟨wanted_no rfl, ?_⟩
          exact wp_val (.bool true) (by simp [go_sem, f0, f1]) ⟨_, rfl, Gr.refl _, rfl⟩
        · obtain rfl := Option.some.inj zo
          have l0 := on_of zD 7 (by kernel_rfl)
          have f0 := zF.at (s := 54) (i := 7) (by kernel_rfl) (by simp) l0
          have e0 : vals 7 = .bool true := zR 7 l0
          rw [e0] at f0
          refine Or.inl ⟨wanted_no rfl, ?_⟩
          exact wp_val (.bool true) (by simp [go_sem, f0]) ⟨_, rfl, Gr.refl _, rfl⟩
        · obtain rfl := Option.some.inj zo
          have lg := on_of zD 8 (by kernel_rfl)
          have fg := zF.at (s := 55) (i := 8) (by kernel_rfl) (by simp) lg
          rw [show vals 8 = .bool true from zR 8 lg] at fg
          refine Or.inl ⟨wanted_at (j := 8) (s := 55) rfl rfl rfl fg, ?_⟩
          exact wp_retz (k := .c (.bool true)) (by simp [go_sem]) (show Calls Try.prog 14 #[] v1 (Rt (.c (.bool true)) v1) from Rt.c (awake13_any _)) (fun u w2 hu hg2 => ⟨_, rfl, hg2, hu⟩)
        · obtain rfl := Option.some.inj zo
          have l0 := on_of zD 8 (by kernel_rfl)
          have f0 := zF.at (s := 55) (i := 8) (by kernel_rfl) (by simp) l0
          have e0 : vals 8 = .bool true := zR 8 l0
          rw [e0] at f0
          have l1 := on_of zD 9 (by kernel_rfl)
          have f1 := zF.at (s := 56) (i := 9) (by kernel_rfl) (by simp) l1
          have e1 : vals 9 = .bool true := zR 9 l1
          rw [e1] at f1
          refine Or.inl ⟨wanted_no rfl, ?_⟩
          exact wp_val (.bool true) (by simp [go_sem, f0, f1]) ⟨_, rfl, Gr.refl _, rfl⟩
        · obtain rfl := Option.some.inj zo
          have l0 := on_of zD 10 (by kernel_rfl)
          have f0 := zF.at (s := 57) (i := 10) (by kernel_rfl) (by simp) l0
          have e0 : vals 10 = .bool true := zR 10 l0
          rw [e0] at f0
          refine Or.inl ⟨wanted_no rfl, ?_⟩
          exact wp_val (.bool true) (by simp [go_sem, f0]) ⟨_, rfl, Gr.refl _, rfl⟩
      case hf =>
        intro vals v1 hg zR
        have e15_0 : vals 0 = .int .i64 1300 := zR 0 (by simp)
        have e15_1 : vals 1 = .int .i64 1300 := zR 1 (by simp)
        have e15_2 : vals 2 = .bool true := zR 2 (by simp)
        have e15_3 : vals 3 = .bool true := zR 3 (by simp)
        have e15_4 : vals 4 = .agg (cu 0 0 0 0 0 0 0 0 0 false) := zR 4 (by simp)
        have e15_5 : vals 5 = .agg (cu 0 0 0 0 0 0 0 0 0 false) := zR 5 (by simp)
        have e15_6 : vals 6 = .bool true := zR 6 (by simp)
        have e15_7 : vals 7 = .bool true := zR 7 (by simp)
        have e15_8 : vals 8 = .bool true := zR 8 (by simp)
        have e15_9 : vals 9 = .bool true := zR 9 (by simp)
        have e15_10 : vals 10 = .bool true := zR 10 (by simp)
        have e15_11 : vals 11 = .bool true := zR 11 (by simp)
        simp only [putFrom, Act.put, List.setIfInBounds_toArray, List.set_cons_zero, List.set_cons_succ, e15_0, e15_1, e15_2, e15_3, e15_4, e15_5, e15_6, e15_7, e15_8, e15_9, e15_10, e15_11]
        clear zR e15_0 e15_1 e15_2 e15_3 e15_4 e15_5 e15_6 e15_7 e15_8 e15_9 e15_10 e15_11
        replace G := G.trans hg
        replace c3 := c3.gr hg
        clear hg
        go_wp2_with fail
        go_ret
        exact ⟨rfl, G⟩
theorem lcurves_any (id : Int) (w : World) : Calls Try.prog 3 #[.int .i64 id] w fun e w' => e = .returned (.bool true) ∧ Gr w w' := by
  by_cases h : id < 1 ∨ 15 < id
  · exact lcurves_no id h w
  · obtain ⟨k, rfl⟩ := Int.eq_ofNat_of_zero_le (show 0 ≤ id by omega)
    exact lcurves_yes k (by omega) (by omega) w

end Go.Proofs.Ytgmaalokfgdpaaa
