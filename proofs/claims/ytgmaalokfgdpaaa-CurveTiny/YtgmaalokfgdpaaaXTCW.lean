import Derived.Test.YtgmaalokfgdpaaaXTCQ
import Derived.Test.YtgmaalokfgdpaaaXTAG
import Derived.Test.YtgmaalokfgdpaaaXTCT
import Derived.Test.YtgmaalokfgdpaaaXTAdd
namespace Go.Proofs.Ytgmaalokfgdpaaa
open Go.RowKit
attribute [local go_sem ↓] loadNat_is loadArr_is loadWide_is loadArrW_is storeNat_is storeWide_is
attribute [local go_sem] loadNat loadArr loadWide loadArrW storeNat storeWide idxArr fold9 fold18 nw_size nw_elem pre_self pre_1 pre_2 pre_3 pre_4 pre_5 pre_6 pre_7 pre_8 pre_9 pre_10 pre_11 pre_12 pre_13 pre_14 pre_15 pre_16 pre_17 pre_18 pre_19 pre_20 pre_21 pre_22 pre_23 pre_24 pre_25 pre_26 pre_27 pre_28 pre_29 pre_30 pre_31 pre_32 pre_33 pre_34 pre_35 pre_36 pre_37 pre_38 pre_39 pre_40 gro_size gro_drew gro_drewN drew_gro drewN_gro gro_gro blk_gro frz_gro blk_drew frz_drew blk_drewN frz_drewN blk_alloc_at frz_alloc_at blk_alloc frz_alloc cell_gro frozen_gro cell_alloc_pre frozen_alloc_pre setCell_drewN alloc_drewN setBlk_drew setBlk_drewN setBlk_alloc_at setBlk_alloc setBlk_gro setCell_gro setCell_alloc_pre size_setBlk size_setCell
def apI (ty : TypeId) (xs : Array Value) : Sem Value := Builtin.append_ #[39, 39] ty xs
theorem apI_is (ty : TypeId) (xs : Array Value) : Builtin.append_ #[39, 39] ty xs = apI ty xs := rfl
theorem bslI_is (n : Nat) (p : Array (Nat × Value)) : Instr.buildSlice 39 n p = bslF 39 n p := rfl
theorem bslI1 (x : Int) (w : World) : (bslF 39 1 #[(0, .int .i64 x)]).run Try.prog w = .ok (.slice (some ⟨w.heap.size, 0, none⟩) 1 1) (w.alloc (.cells #[.int .i64 x] 3)) := by kernel_rfl
theorem infoI : (Try.prog.info? 3).map (fun i => (i.zero, i.size, i.bytes)) = some (some (.int .i64 0), 1, 8) := by kernel_rfl
/-- The numbers of the curves. -/
def idsF (k : Nat) : Value := .int .i64 ((k : Int) + 1)
theorem tabM_fn (k : Nat) (h1 : 1 ≤ k) (h2 : k < 16) : ∃ f, tabM[k]? = some (.func (.func f) #[] #[]) := by
  obtain rfl | rfl | rfl | rfl | rfl | rfl | rfl | rfl | rfl | rfl | rfl | rfl | rfl | rfl | rfl : k = 1 ∨ k = 2 ∨ k = 3 ∨ k = 4 ∨ k = 5 ∨ k = 6 ∨ k = 7 ∨ k = 8 ∨ k = 9 ∨ k = 10 ∨ k = 11 ∨ k = 12 ∨ k = 13 ∨ k = 14 ∨ k = 15 := by omega
  all_goals exact ⟨_, rfl⟩
theorem idxTm (k : Nat) (v : Value) (h : tabM[k]? = some v) (w : World) : (Instr.index 75 (.agg tabM) (.int .i64 (k : Int))).run Try.prog w = .ok v w := by
  have hk' : k < 16 := (Array.getElem?_eq_some_iff.1 h).1
  simp [Instr.index, run_underlying Try.underlying75, asIntOf, hk', go_sem, h]
attribute [local go_sem ↓] apI_is bslI_is
attribute [local go_sem] bslI1 neFn neFn0
set_option maxRecDepth 100000 in
set_option maxHeartbeats 800000 in
theorem ids_any (w : World) : Calls Try.prog 11 #[] w fun e w' => ∃ g cap, e = .returned (.slice (some ⟨g, 0, none⟩) 15 cap) ∧ w.heap.size ≤ g ∧ Rx w' g 15 cap idsF ∧ Gr w w' := by
  have HT : Hid (∀ w, Calls Try.prog 38 #[] w fun e w' => e = .returned (.agg tabM) ∧ Gr w w') := fun w => table_any w
  go_enter Try.func11, Try.ntmps11
  go_wp2_with (go_at_call 38; refine (HT.out _).mono ?_; rintro e W0 ⟨rfl, G0⟩)
  have HG0 : Hid (Gr w W0) := G0
  clear G0 HT
  go_loopw [1, 5] (fun v i wr => ∃ j : Nat, i = .int .i64 (j : Int) ∧ Hid (Unit → j ≤ 16) ∧ Hid (Unit → Rvx wr w.heap.size v (j - 1) idsF) ∧ Hid (Gr w wr)) (fun _ i _ => 16 - (intOf i).toNat)
  case atStart => exact ⟨0, rfl, fun _ => by omega, fun _ => Or.inl ⟨rfl, rfl⟩, HG0⟩
  case round =>
    obtain ⟨j, rfl, HJ, HR, HG⟩ := hrel
    by_cases hlt : j < 16
    · have j0 : (0 : Int) ≤ (j : Int) := by omega
      have j1 : (j : Int) < 16 := by omega
      by_cases hz : j = 0
      · subst hz
        have hx : ∀ w, (Instr.index 75 (.agg tabM) (.int .i64 0)).run Try.prog w = .ok .nilFunc w := fun w => by kernel_rfl
        go_wp2
        go_roundw
        case rel => exact ⟨1, by go_num, fun _ => by omega, fun _ => HR.out (), HG⟩
        case measure => simp [intOf]
      · obtain ⟨f, hf⟩ := tabM_fn j (by omega) hlt
        have hx := fun w => idxTm j _ hf w
        obtain ⟨i0, hi, hz0, hz1, hz2⟩ := info_parts infoI
        have hsz : w.heap.size ≤ wr.heap.size := HG.out.below.size
        obtain ⟨g, cap, W1, hrun, hlo, hR, hW⟩ := apx_run (P := Try.prog) Try.underlying39 hi hz0 rfl hz1 hz2 (wr.alloc (.cells #[.int .i64 (j : Int)] 3)) w.heap.size wr.heap.size (j - 1) 1 1 u1 idsF (fun _ => rfl) ((HR.out ()).gr ((Gr.refl _).alloc _))
          (fun k hk => by
            obtain rfl : k = 0 := by omega
            rw [cell_new]
            show some (Value.int .i64 (j : Int)) = some (.int .i64 (((j - 1 + 0 : Nat) : Int) + 1))
            rw [show ((j - 1 + 0 : Nat) : Int) + 1 = (j : Int) by omega]) (by omega) (by omega) (by omega) (by simp; omega)
        have hrun' : ∀ ty, (apI ty #[u1, .slice (some ⟨wr.heap.size, 0, none⟩) 1 1]).run Try.prog (wr.alloc (.cells #[.int .i64 (j : Int)] 3)) = .ok (.slice (some ⟨g, 0, none⟩) (j - 1 + 1) cap) W1 := hrun
        have HW : Hid (Gr w W1) := hW w (HG.out.alloc _) (Nat.le_refl _)
        have HR1 : Hid (Unit → Rvx W1 w.heap.size (.slice (some ⟨g, 0, none⟩) (j - 1 + 1) cap) (j + 1 - 1) idsF) := fun _ => Or.inr ⟨g, cap, by rw [show j - 1 + 1 = j + 1 - 1 by omega], hlo, by rw [show j + 1 - 1 = j - 1 + 1 by omega]; exact hR⟩
        have HJ' : Hid (Unit → j + 1 ≤ 16) := fun _ => by omega
        clear hrun hlo hR hW hf hsz hz hlt HR HG HJ hi hz0 hz1 hz2
        go_wp2
        go_roundw
        case rel => exact ⟨j + 1, by go_num, HJ', HR1, HW⟩
        case measure => simp [intOf]; omega
    · obtain rfl : j = 16 := by have := HJ.out (); omega
      rcases HR.out () with ⟨-, h⟩ | ⟨g, cap, rfl, hlo, hR⟩
      · omega
      · have HE : Hid (w.heap.size ≤ g ∧ Rx wr g 15 cap idsF) := ⟨hlo, hR⟩
        clear hlo hR hlt HR HJ
        go_wp2
        go_ret
        exact ⟨g, cap, rfl, HE.out.1, HE.out.2, HG.out⟩
end Go.Proofs.Ytgmaalokfgdpaaa
namespace Go.Proofs.Ytgmaalokfgdpaaa
open Go.RowKit
theorem cuN_13 : cuN 13 = cu 13 251 248 26 223 2 84 8 1 false := by kernel_rfl
attribute [local go_sem ↓] loadNat_is loadArr_is loadWide_is loadArrW_is storeNat_is storeWide_is
attribute [local go_sem] loadNat loadArr loadWide loadArrW storeNat storeWide idxArr fold9 fold18 nw_size nw_elem pre_self pre_1 pre_2 pre_3 pre_4 pre_5 pre_6 pre_7 pre_8 pre_9 pre_10 pre_11 pre_12 pre_13 pre_14 pre_15 pre_16 pre_17 pre_18 pre_19 pre_20 pre_21 pre_22 pre_23 pre_24 pre_25 pre_26 pre_27 pre_28 pre_29 pre_30 pre_31 pre_32 pre_33 pre_34 pre_35 pre_36 pre_37 pre_38 pre_39 pre_40 gro_size gro_drew gro_drewN drew_gro drewN_gro gro_gro blk_gro frz_gro blk_drew frz_drew blk_drewN frz_drewN blk_alloc_at frz_alloc_at blk_alloc frz_alloc cell_gro frozen_gro cell_alloc_pre frozen_alloc_pre setCell_drewN alloc_drewN setBlk_drew setBlk_drewN setBlk_alloc_at setBlk_alloc setBlk_gro setCell_gro setCell_alloc_pre size_setBlk size_setCell
attribute [local go_sem] ppre_1 ppre_2 ppre_3 ppre_4 ppre_5 ppre_6
attribute [local go_sem ↓] zvCu_is storeCu_is loadCu_is loadPn_is buildCu_is buildPn_is Go.wp_at_zero Go.wp_at_succ
attribute [local go_sem] zvCu storeCu loadCu loadPn loadCP loadCX loadCG buildPnI cu_size cu_P cu_X cu_G pnt_size frz_setBlk blk_setBlk setBlk_setBlk blk_other
set_option maxRecDepth 100000 in
set_option maxHeartbeats 1600000 in
theorem awake13_any (w : World) : Calls Try.prog 14 #[] w fun e w' => e = .returned (.bool true) ∧ Gr w w' := by
  have HG1 : Hid (∀ w, Calls Try.prog 9 #[.int .i64 13] w fun e w' => e = .returned (.tuple #[.agg (cu 13 251 248 26 223 2 84 8 1 false), .int .i64 0]) ∧ Gr w w') := fun w => cuN_13 ▸ get13_yes 13 (by decide) (by decide) w
  have HG2 : Hid (∀ w, Calls Try.prog 9 #[.int .i64 16] w fun e w' => e = .returned (.tuple #[.agg (cu 0 0 0 0 0 0 0 0 0 false), .int .i64 1300]) ∧ Gr w w') := fun w => get13_no 16 (by decide) w
  have HI : Hid (∀ w, Calls Try.prog 11 #[] w (Rt (.sl 15) w)) := fun w => (ids_any w).mono fun e w' ⟨g, cap, he, _, _, hg⟩ => ⟨_, he, ⟨_, _, rfl⟩, hg⟩
  have HO1 : Hid (∀ w, Calls Try.prog 16 #[.int .i64 13, .agg (pnt 2 84 false)] w (Rt (.c (.bool true)) w)) := fun w => Rt.c ((show onB 13 2 84 false = true by decide +kernel) ▸ on13_yes 13 (by decide) (by decide) 2 84 false (by decide +kernel) (by decide +kernel) w)
  have HO2 : Hid (∀ w, Calls Try.prog 16 #[.int .i64 13, .agg (pnt 0 0 true)] w (Rt (.c (.bool true)) w)) := fun w => Rt.c ((show onB 13 0 0 true = true by decide +kernel) ▸ on13_yes 13 (by decide) (by decide) 0 0 true (by decide +kernel) (by decide +kernel) w)
  go_enter Try.func14, Try.ntmps14
  go_upto_region 3 with (first
    | (go_at_call_of 9 (Value.int .i64 13); refine (HG1.out _).mono ?_; rintro e w' ⟨rfl, g1, rfl⟩)
    | (go_at_call_of 9 (Value.int .i64 16); refine (HG2.out _).mono ?_; rintro e w' ⟨rfl, g2, rfl⟩))
  obtain ⟨e1, h1⟩ : ∃ b, w.heap.size + g1.os.length = b := ⟨_, rfl⟩
  simp only [h1]
  obtain ⟨e3, h3⟩ : ∃ b, e1 + 1 + g2.os.length = b := ⟨_, rfl⟩
  simp only [h3]
  refine gen_w (fun v => Hid (Gr w v ∧ Vr v e1 (cu 13 251 248 26 223 2 84 8 1 false))) ?_ ?_
  · subst h3 h1
    exact ⟨(by repeat (first | exact Gr.refl _ | apply Gr.drewN | apply Gr.drew | apply Gr.alloc | apply Gr.gro)), ⟨by simp [go_sem], by simp [go_sem], by simp [go_sem]⟩⟩
  intro v0 HV
  obtain ⟨G, c1⟩ := HV.out
  refine wp_region_q (by kernel_rfl) (by kernel_rfl) [.c (.int .i64 0), .c (.int .i64 0), .c (.bool true), .c (.bool true), .c (.pointer (some ⟨e1, 1, none⟩)), .c (.agg (nw 9 251)), .c (.agg (nw 9 251)), .c (.bool true), .c (.bool true), .c (.bool true), .c (.pointer (some ⟨e1, 37, none⟩)), .c (.pointer (some ⟨e1, 37, none⟩)), .c (.agg (nw 9 2)), .c (.agg (nw 9 2)), .c (.bool true), .c (.bool true), .c (.bool true), .c (.pointer (some ⟨e1, 56, none⟩)), .c (.int .i64 8), .c (.bool true), .c (.bool true), .c (.bool true), .c (.int .i64 1300), .c (.int .i64 1300), .c (.bool true), .c (.bool true), .c (.bool true), .c (.pointer (some ⟨e1, 37, none⟩)), .c (.agg (pnt 2 84 false)), .c (.bool true), .c (.bool true), .c (.bool true), .c (.agg (pnt 0 0 true)), .c (.bool true), .c (.bool true), .c (.bool true), .sl 15, .c (.int .i64 15), .c (.bool true), .c (.bool true), .c (.bool true)] ?hs ?hf
  case hs =>
    intro listed vals a1 v io oo hg hR hF ho hd
    have H1 : blk v e1 = cu 13 251 248 26 223 2 84 8 1 false := (hg.blk _ c1.p).trans c1.h
    have K1 : v.cell? ⟨e1, 56, none⟩ = some (.int .i64 8) := by rw [cell_blk, H1]; exact cu_56 _ _ _ _ _ _ _ _ _ _
    have hi : io < 41 := by simpa using (Array.getElem?_eq_some_iff.1 ho).1
    obtain rfl | rfl | rfl | rfl | rfl | rfl | rfl | rfl | rfl | rfl | rfl | rfl | rfl | rfl | rfl | rfl | rfl | rfl | rfl | rfl | rfl | rfl | rfl | rfl | rfl | rfl | rfl | rfl | rfl | rfl | rfl | rfl | rfl | rfl | rfl | rfl | rfl | rfl | rfl | rfl | rfl : io = 0 ∨ io = 1 ∨ io = 2 ∨ io = 3 ∨ io = 4 ∨ io = 5 ∨ io = 6 ∨ io = 7 ∨ io = 8 ∨ io = 9 ∨ io = 10 ∨ io = 11 ∨ io = 12 ∨ io = 13 ∨ io = 14 ∨ io = 15 ∨ io = 16 ∨ io = 17 ∨ io = 18 ∨ io = 19 ∨ io = 20 ∨ io = 21 ∨ io = 22 ∨ io = 23 ∨ io = 24 ∨ io = 25 ∨ io = 26 ∨ io = 27 ∨ io = 28 ∨ io = 29 ∨ io = 30 ∨ io = 31 ∨ io = 32 ∨ io = 33 ∨ io = 34 ∨ io = 35 ∨ io = 36 ∨ io = 37 ∨ io = 38 ∨ io = 39 ∨ io = 40 := by omega
    · obtain rfl := Option.some.inj ho
      have f0 := hF.old (s := 2) (v := .int .i64 0) (by kernel_rfl) rfl
      refine Or.inl ⟨wanted_no rfl, ?_⟩
      exact wp_val (.int .i64 0) (by simp [go_sem, f0]) ⟨_, rfl, Gr.refl _, rfl⟩
    · obtain rfl := Option.some.inj ho
      have l0 := on_of hd 0 (by kernel_rfl)
      have f0 := hF.at (s := 13) (i := 0) (by kernel_rfl) (by simp) l0
      have e0 : vals 0 = .int .i64 0 := hR 0 l0
      rw [e0] at f0
      refine Or.inl ⟨wanted_no rfl, ?_⟩
      exact wp_retz (k := .c (.int .i64 0)) (by simp [go_sem, f0]) (Rt.same (num_any _ _)) (fun u w2 hu hg2 => ⟨_, rfl, hg2, hu⟩)
    · obtain rfl := Option.some.inj ho
      have l0 := on_of hd 1 (by kernel_rfl)
      have f0 := hF.at (s := 14) (i := 1) (by kernel_rfl) (by simp) l0
      have e0 : vals 1 = .int .i64 0 := hR 1 l0
      rw [e0] at f0
      refine Or.inl ⟨wanted_no rfl, ?_⟩
      exact wp_val (.bool true) (by simp [go_sem, f0]) ⟨_, rfl, Gr.refl _, rfl⟩
    · obtain rfl := Option.some.inj ho
      have l0 := on_of hd 2 (by kernel_rfl)
      have f0 := hF.at (s := 15) (i := 2) (by kernel_rfl) (by simp) l0
      have e0 : vals 2 = .bool true := hR 2 l0
      rw [e0] at f0
      refine Or.inl ⟨wanted_no rfl, ?_⟩
      exact wp_val (.bool true) (by simp [go_sem, f0]) ⟨_, rfl, Gr.refl _, rfl⟩
    · obtain rfl := Option.some.inj ho
      have lg := on_of hd 3 (by kernel_rfl)
      have fg := hF.at (s := 16) (i := 3) (by kernel_rfl) (by simp) lg
      rw [show vals 3 = .bool true from hR 3 lg] at fg
      have f0 := hF.old (s := 1) (v := .pointer (some ⟨e1, 0, none⟩)) (by kernel_rfl) rfl
      refine Or.inl ⟨wanted_at (j := 3) (s := 16) rfl rfl rfl fg, ?_⟩
      exact wp_val (.pointer (some ⟨e1, 1, none⟩)) (by simp [go_sem, f0]) ⟨_, rfl, Gr.refl _, rfl⟩
    · obtain rfl := Option.some.inj ho
      have lg := on_of hd 3 (by kernel_rfl)
      have fg := hF.at (s := 16) (i := 3) (by kernel_rfl) (by simp) lg
      rw [show vals 3 = .bool true from hR 3 lg] at fg
      have l0 := on_of hd 4 (by kernel_rfl)
      have f0 := hF.at (s := 17) (i := 4) (by kernel_rfl) (by simp) l0
      have e0 : vals 4 = .pointer (some ⟨e1, 1, none⟩) := hR 4 l0
      rw [e0] at f0
      refine Or.inl ⟨wanted_at (j := 3) (s := 16) rfl rfl rfl fg, ?_⟩
      exact wp_val (.agg (nw 9 251)) (by simp [go_sem, f0, H1]) ⟨_, rfl, Gr.refl _, rfl⟩
    · obtain rfl := Option.some.inj ho
      have lg := on_of hd 3 (by kernel_rfl)
      have fg := hF.at (s := 16) (i := 3) (by kernel_rfl) (by simp) lg
      rw [show vals 3 = .bool true from hR 3 lg] at fg
      refine Or.inl ⟨wanted_at (j := 3) (s := 16) rfl rfl rfl fg, ?_⟩
      exact wp_retz (k := .c (.agg (nw 9 251))) (by simp [go_sem]) (Rt.c (one_any 251 (by decide) _)) (fun u w2 hu hg2 => ⟨_, rfl, hg2, hu⟩)
    · obtain rfl := Option.some.inj ho
      have lg := on_of hd 3 (by kernel_rfl)
      have fg := hF.at (s := 16) (i := 3) (by kernel_rfl) (by simp) lg
      rw [show vals 3 = .bool true from hR 3 lg] at fg
      have l0 := on_of hd 5 (by kernel_rfl)
      have f0 := hF.at (s := 18) (i := 5) (by kernel_rfl) (by simp) l0
      have e0 : vals 5 = .agg (nw 9 251) := hR 5 l0
      rw [e0] at f0
      have l1 := on_of hd 6 (by kernel_rfl)
      have f1 := hF.at (s := 19) (i := 6) (by kernel_rfl) (by simp) l1
      have e1 : vals 6 = .agg (nw 9 251) := hR 6 l1
      rw [e1] at f1
      refine Or.inl ⟨wanted_at (j := 3) (s := 16) rfl rfl rfl fg, ?_⟩
      exact wp_val (.bool true) (by simp [go_sem, f0, f1, eqNat, eqN_self]) ⟨_, rfl, Gr.refl _, rfl⟩
    · obtain rfl := Option.some.inj ho
      have l0 := on_of hd 3 (by kernel_rfl)
      have f0 := hF.at (s := 16) (i := 3) (by kernel_rfl) (by simp) l0
      have e0 : vals 3 = .bool true := hR 3 l0
      rw [e0] at f0
      have l1 := on_of hd 7 (by kernel_rfl)
      have f1 := hF.at (s := 20) (i := 7) (by kernel_rfl) (by simp) l1
      have e1 : vals 7 = .bool true := hR 7 l1
      rw [e1] at f1
      refine Or.inl ⟨wanted_no rfl, ?_⟩
      exact wp_val (.bool true) (by simp [go_sem, f0, f1]) ⟨_, rfl, Gr.refl _, rfl⟩
    · obtain rfl := Option.some.inj ho
      have l0 := on_of hd 8 (by kernel_rfl)
      have f0 := hF.at (s := 21) (i := 8) (by kernel_rfl) (by simp) l0
      have e0 : vals 8 = .bool true := hR 8 l0
      rw [e0] at f0
      refine Or.inl ⟨wanted_no rfl, ?_⟩
      exact wp_val (.bool true) (by simp [go_sem, f0]) ⟨_, rfl, Gr.refl _, rfl⟩
    · obtain rfl := Option.some.inj ho
      have lg := on_of hd 9 (by kernel_rfl)
      have fg := hF.at (s := 22) (i := 9) (by kernel_rfl) (by simp) lg
      rw [show vals 9 = .bool true from hR 9 lg] at fg
      have f0 := hF.old (s := 1) (v := .pointer (some ⟨e1, 0, none⟩)) (by kernel_rfl) rfl
      refine Or.inl ⟨wanted_at (j := 9) (s := 22) rfl rfl rfl fg, ?_⟩
      exact wp_val (.pointer (some ⟨e1, 37, none⟩)) (by simp [go_sem, f0]) ⟨_, rfl, Gr.refl _, rfl⟩
    · obtain rfl := Option.some.inj ho
      have lg := on_of hd 9 (by kernel_rfl)
      have fg := hF.at (s := 22) (i := 9) (by kernel_rfl) (by simp) lg
      rw [show vals 9 = .bool true from hR 9 lg] at fg
      have l0 := on_of hd 10 (by kernel_rfl)
      have f0 := hF.at (s := 23) (i := 10) (by kernel_rfl) (by simp) l0
      have e0 : vals 10 = .pointer (some ⟨e1, 37, none⟩) := hR 10 l0
      rw [e0] at f0
      refine Or.inl ⟨wanted_at (j := 9) (s := 22) rfl rfl rfl fg, ?_⟩
      exact wp_val (.pointer (some ⟨e1, 37, none⟩)) (by simp [go_sem, f0]) ⟨_, rfl, Gr.refl _, rfl⟩
    · obtain rfl := Option.some.inj ho
      have lg := on_of hd 9 (by kernel_rfl)
      have fg := hF.at (s := 22) (i := 9) (by kernel_rfl) (by simp) lg
      rw [show vals 9 = .bool true from hR 9 lg] at fg
      have l0 := on_of hd 11 (by kernel_rfl)
      have f0 := hF.at (s := 24) (i := 11) (by kernel_rfl) (by simp) l0
      have e0 : vals 11 = .pointer (some ⟨e1, 37, none⟩) := hR 11 l0
      rw [e0] at f0
      refine Or.inl ⟨wanted_at (j := 9) (s := 22) rfl rfl rfl fg, ?_⟩
      exact wp_val (.agg (nw 9 2)) (by simp [go_sem, f0, H1]) ⟨_, rfl, Gr.refl _, rfl⟩
    · obtain rfl := Option.some.inj ho
      have lg := on_of hd 9 (by kernel_rfl)
      have fg := hF.at (s := 22) (i := 9) (by kernel_rfl) (by simp) lg
      rw [show vals 9 = .bool true from hR 9 lg] at fg
      refine Or.inl ⟨wanted_at (j := 9) (s := 22) rfl rfl rfl fg, ?_⟩
      exact wp_retz (k := .c (.agg (nw 9 2))) (by simp [go_sem]) (Rt.c (one_any 2 (by decide) _)) (fun u w2 hu hg2 => ⟨_, rfl, hg2, hu⟩)
    · obtain rfl := Option.some.inj ho
      have lg := on_of hd 9 (by kernel_rfl)
      have fg := hF.at (s := 22) (i := 9) (by kernel_rfl) (by simp) lg
      rw [show vals 9 = .bool true from hR 9 lg] at fg
      have l0 := on_of hd 12 (by kernel_rfl)
      have f0 := hF.at (s := 25) (i := 12) (by kernel_rfl) (by simp) l0
      have e0 : vals 12 = .agg (nw 9 2) := hR 12 l0
      rw [e0] at f0
      have l1 := on_of hd 13 (by kernel_rfl)
      have f1 := hF.at (s := 26) (i := 13) (by kernel_rfl) (by simp) l1
      have e1 : vals 13 = .agg (nw 9 2) := hR 13 l1
      rw [e1] at f1
      refine Or.inl ⟨wanted_at (j := 9) (s := 22) rfl rfl rfl fg, ?_⟩
      exact wp_val (.bool true) (by simp [go_sem, f0, f1, eqNat, eqN_self]) ⟨_, rfl, Gr.refl _, rfl⟩
    · obtain rfl := Option.some.inj ho
      have l0 := on_of hd 9 (by kernel_rfl)
      have f0 := hF.at (s := 22) (i := 9) (by kernel_rfl) (by simp) l0
      have e0 : vals 9 = .bool true := hR 9 l0
      rw [e0] at f0
      have l1 := on_of hd 14 (by kernel_rfl)
      have f1 := hF.at (s := 27) (i := 14) (by kernel_rfl) (by simp) l1
      have e1 : vals 14 = .bool true := hR 14 l1
      rw [e1] at f1
      refine Or.inl ⟨wanted_no rfl, ?_⟩
      exact wp_val (.bool true) (by simp [go_sem, f0, f1]) ⟨_, rfl, Gr.refl _, rfl⟩
    · obtain rfl := Option.some.inj ho
      have l0 := on_of hd 15 (by kernel_rfl)
      have f0 := hF.at (s := 28) (i := 15) (by kernel_rfl) (by simp) l0
      have e0 : vals 15 = .bool true := hR 15 l0
      rw [e0] at f0
      refine Or.inl ⟨wanted_no rfl, ?_⟩
      exact wp_val (.bool true) (by simp [go_sem, f0]) ⟨_, rfl, Gr.refl _, rfl⟩
    · obtain rfl := Option.some.inj ho
      have lg := on_of hd 16 (by kernel_rfl)
      have fg := hF.at (s := 29) (i := 16) (by kernel_rfl) (by simp) lg
      rw [show vals 16 = .bool true from hR 16 lg] at fg
      have f0 := hF.old (s := 1) (v := .pointer (some ⟨e1, 0, none⟩)) (by kernel_rfl) rfl
      refine Or.inl ⟨wanted_at (j := 16) (s := 29) rfl rfl rfl fg, ?_⟩
      exact wp_val (.pointer (some ⟨e1, 56, none⟩)) (by simp [go_sem, f0]) ⟨_, rfl, Gr.refl _, rfl⟩
    · obtain rfl := Option.some.inj ho
      have lg := on_of hd 16 (by kernel_rfl)
      have fg := hF.at (s := 29) (i := 16) (by kernel_rfl) (by simp) lg
      rw [show vals 16 = .bool true from hR 16 lg] at fg
      have l0 := on_of hd 17 (by kernel_rfl)
      have f0 := hF.at (s := 30) (i := 17) (by kernel_rfl) (by simp) l0
      have e0 : vals 17 = .pointer (some ⟨e1, 56, none⟩) := hR 17 l0
      rw [e0] at f0
      refine Or.inl ⟨wanted_at (j := 16) (s := 29) rfl rfl rfl fg, ?_⟩
      exact wp_val (.int .i64 8) (by simp [go_sem, f0, K1]) ⟨_, rfl, Gr.refl _, rfl⟩
    · obtain rfl := Option.some.inj ho
      have lg := on_of hd 16 (by kernel_rfl)
      have fg := hF.at (s := 29) (i := 16) (by kernel_rfl) (by simp) lg
      rw [show vals 16 = .bool true from hR 16 lg] at fg
      have l0 := on_of hd 18 (by kernel_rfl)
      have f0 := hF.at (s := 31) (i := 18) (by kernel_rfl) (by simp) l0
      have e0 : vals 18 = .int .i64 8 := hR 18 l0
      rw [e0] at f0
      refine Or.inl ⟨wanted_at (j := 16) (s := 29) rfl rfl rfl fg, ?_⟩
      exact wp_val (.bool true) (by simp [go_sem, f0]) ⟨_, rfl, Gr.refl _, rfl⟩
    · obtain rfl := Option.some.inj ho
      have l0 := on_of hd 16 (by kernel_rfl)
      have f0 := hF.at (s := 29) (i := 16) (by kernel_rfl) (by simp) l0
      have e0 : vals 16 = .bool true := hR 16 l0
      rw [e0] at f0
      have l1 := on_of hd 19 (by kernel_rfl)
      have f1 := hF.at (s := 32) (i := 19) (by kernel_rfl) (by simp) l1
      have e1 : vals 19 = .bool true := hR 19 l1
      rw [e1] at f1
      refine Or.inl ⟨wanted_no rfl, ?_⟩
      exact wp_val (.bool true) (by simp [go_sem, f0, f1]) ⟨_, rfl, Gr.refl _, rfl⟩
    · obtain rfl := Option.some.inj ho
      have l0 := on_of hd 20 (by kernel_rfl)
      have f0 := hF.at (s := 33) (i := 20) (by kernel_rfl) (by simp) l0
      have e0 : vals 20 = .bool true := hR 20 l0
      rw [e0] at f0
      refine Or.inl ⟨wanted_no rfl, ?_⟩
      exact wp_val (.bool true) (by simp [go_sem, f0]) ⟨_, rfl, Gr.refl _, rfl⟩
    · obtain rfl := Option.some.inj ho
      have lg := on_of hd 21 (by kernel_rfl)
      have fg := hF.at (s := 34) (i := 21) (by kernel_rfl) (by simp) lg
      rw [show vals 21 = .bool true from hR 21 lg] at fg
      have f0 := hF.old (s := 4) (v := .int .i64 1300) (by kernel_rfl) rfl
      refine Or.inl ⟨wanted_at (j := 21) (s := 34) rfl rfl rfl fg, ?_⟩
      exact wp_val (.int .i64 1300) (by simp [go_sem, f0]) ⟨_, rfl, Gr.refl _, rfl⟩
    · obtain rfl := Option.some.inj ho
      have lg := on_of hd 21 (by kernel_rfl)
      have fg := hF.at (s := 34) (i := 21) (by kernel_rfl) (by simp) lg
      rw [show vals 21 = .bool true from hR 21 lg] at fg
      have l0 := on_of hd 22 (by kernel_rfl)
      have f0 := hF.at (s := 35) (i := 22) (by kernel_rfl) (by simp) l0
      have e0 : vals 22 = .int .i64 1300 := hR 22 l0
      rw [e0] at f0
      refine Or.inl ⟨wanted_at (j := 21) (s := 34) rfl rfl rfl fg, ?_⟩
      exact wp_retz (k := .c (.int .i64 1300)) (by simp [go_sem, f0]) (Rt.same (num_any _ _)) (fun u w2 hu hg2 => ⟨_, rfl, hg2, hu⟩)
    · obtain rfl := Option.some.inj ho
      have lg := on_of hd 21 (by kernel_rfl)
      have fg := hF.at (s := 34) (i := 21) (by kernel_rfl) (by simp) lg
      rw [show vals 21 = .bool true from hR 21 lg] at fg
      have l0 := on_of hd 23 (by kernel_rfl)
      have f0 := hF.at (s := 36) (i := 23) (by kernel_rfl) (by simp) l0
      have e0 : vals 23 = .int .i64 1300 := hR 23 l0
      rw [e0] at f0
      refine Or.inl ⟨wanted_at (j := 21) (s := 34) rfl rfl rfl fg, ?_⟩
      exact wp_val (.bool true) (by simp [go_sem, f0]) ⟨_, rfl, Gr.refl _, rfl⟩
    · obtain rfl := Option.some.inj ho
      have l0 := on_of hd 21 (by kernel_rfl)
      have f0 := hF.at (s := 34) (i := 21) (by kernel_rfl) (by simp) l0
      have e0 : vals 21 = .bool true := hR 21 l0
      rw [e0] at f0
      have l1 := on_of hd 24 (by kernel_rfl)
      have f1 := hF.at (s := 37) (i := 24) (by kernel_rfl) (by simp) l1
      have e1 : vals 24 = .bool true := hR 24 l1
      rw [e1] at f1
      refine Or.inl ⟨wanted_no rfl, ?_⟩
      exact wp_val (.bool true) (by simp [go_sem, f0, f1]) ⟨_, rfl, Gr.refl _, rfl⟩
    · obtain rfl := Option.some.inj ho
      have l0 := on_of hd 25 (by kernel_rfl)
      have f0 := hF.at (s := 38) (i := 25) (by kernel_rfl) (by simp) l0
      have e0 : vals 25 = .bool true := hR 25 l0
      rw [e0] at f0
      refine Or.inl ⟨wanted_no rfl, ?_⟩
      exact wp_val (.bool true) (by simp [go_sem, f0]) ⟨_, rfl, Gr.refl _, rfl⟩
    · obtain rfl := Option.some.inj ho
      have lg := on_of hd 26 (by kernel_rfl)
      have fg := hF.at (s := 39) (i := 26) (by kernel_rfl) (by simp) lg
      rw [show vals 26 = .bool true from hR 26 lg] at fg
      have f0 := hF.old (s := 1) (v := .pointer (some ⟨e1, 0, none⟩)) (by kernel_rfl) rfl
      refine Or.inl ⟨wanted_at (j := 26) (s := 39) rfl rfl rfl fg, ?_⟩
      exact wp_val (.pointer (some ⟨e1, 37, none⟩)) (by simp [go_sem, f0]) ⟨_, rfl, Gr.refl _, rfl⟩
    · obtain rfl := Option.some.inj ho
      have lg := on_of hd 26 (by kernel_rfl)
      have fg := hF.at (s := 39) (i := 26) (by kernel_rfl) (by simp) lg
      rw [show vals 26 = .bool true from hR 26 lg] at fg
      have l0 := on_of hd 27 (by kernel_rfl)
      have f0 := hF.at (s := 40) (i := 27) (by kernel_rfl) (by simp) l0
      have e0 : vals 27 = .pointer (some ⟨e1, 37, none⟩) := hR 27 l0
      rw [e0] at f0
      refine Or.inl ⟨wanted_at (j := 26) (s := 39) rfl rfl rfl fg, ?_⟩
      exact wp_val (.agg (pnt 2 84 false)) (by simp [go_sem, f0, H1]) ⟨_, rfl, Gr.refl _, rfl⟩
    · obtain rfl := Option.some.inj ho
      have lg := on_of hd 26 (by kernel_rfl)
      have fg := hF.at (s := 39) (i := 26) (by kernel_rfl) (by simp) lg
      rw [show vals 26 = .bool true from hR 26 lg] at fg
      have l0 := on_of hd 28 (by kernel_rfl)
      have f0 := hF.at (s := 41) (i := 28) (by kernel_rfl) (by simp) l0
      have e0 : vals 28 = .agg (pnt 2 84 false) := hR 28 l0
      rw [e0] at f0
      refine Or.inl ⟨wanted_at (j := 26) (s := 39) rfl rfl rfl fg, ?_⟩
      exact wp_retz (k := .c (.bool true)) (by simp [go_sem, f0]) (HO1.out _) (fun u w2 hu hg2 => ⟨_, rfl, hg2, hu⟩)
    · obtain rfl := Option.some.inj ho
      have l0 := on_of hd 26 (by kernel_rfl)
      have f0 := hF.at (s := 39) (i := 26) (by kernel_rfl) (by simp) l0
      have e0 : vals 26 = .bool true := hR 26 l0
      rw [e0] at f0
      have l1 := on_of hd 29 (by kernel_rfl)
      have f1 := hF.at (s := 42) (i := 29) (by kernel_rfl) (by simp) l1
      have e1 : vals 29 = .bool true := hR 29 l1
      rw [e1] at f1
      refine Or.inl ⟨wanted_no rfl, ?_⟩
      exact wp_val (.bool true) (by simp [go_sem, f0, f1]) ⟨_, rfl, Gr.refl _, rfl⟩
    · obtain rfl := Option.some.inj ho
      have l0 := on_of hd 30 (by kernel_rfl)
      have f0 := hF.at (s := 43) (i := 30) (by kernel_rfl) (by simp) l0
      have e0 : vals 30 = .bool true := hR 30 l0
      rw [e0] at f0
      refine Or.inl ⟨wanted_no rfl, ?_⟩
      exact wp_val (.bool true) (by simp [go_sem, f0]) ⟨_, rfl, Gr.refl _, rfl⟩
    · obtain rfl := Option.some.inj ho
      have lg := on_of hd 31 (by kernel_rfl)
      have fg := hF.at (s := 44) (i := 31) (by kernel_rfl) (by simp) lg
      rw [show vals 31 = .bool true from hR 31 lg] at fg
      refine Or.inl ⟨wanted_at (j := 31) (s := 44) rfl rfl rfl fg, ?_⟩
      exact wp_val (.agg (pnt 0 0 true)) (by simp [go_sem]) ⟨_, rfl, Gr.refl _, rfl⟩
    · obtain rfl := Option.some.inj ho
      have lg := on_of hd 31 (by kernel_rfl)
      have fg := hF.at (s := 44) (i := 31) (by kernel_rfl) (by simp) lg
      rw [show vals 31 = .bool true from hR 31 lg] at fg
      have l0 := on_of hd 32 (by kernel_rfl)
      have f0 := hF.at (s := 45) (i := 32) (by kernel_rfl) (by simp) l0
      have e0 : vals 32 = .agg (pnt 0 0 true) := hR 32 l0
      rw [e0] at f0
      refine Or.inl ⟨wanted_at (j := 31) (s := 44) rfl rfl rfl fg, ?_⟩
      exact wp_retz (k := .c (.bool true)) (by simp [go_sem, f0]) (HO2.out _) (fun u w2 hu hg2 => ⟨_, rfl, hg2, hu⟩)
    · obtain rfl := Option.some.inj ho
      have l0 := on_of hd 31 (by kernel_rfl)
      have f0 := hF.at (s := 44) (i := 31) (by kernel_rfl) (by simp) l0
      have e0 : vals 31 = .bool true := hR 31 l0
      rw [e0] at f0
      have l1 := on_of hd 33 (by kernel_rfl)
      have f1 := hF.at (s := 46) (i := 33) (by kernel_rfl) (by simp) l1
      have e1 : vals 33 = .bool true := hR 33 l1
      rw [e1] at f1
      refine Or.inl ⟨wanted_no rfl, ?_⟩
      exact wp_val (.bool true) (by simp [go_sem, f0, f1]) ⟨_, rfl, Gr.refl _, rfl⟩
    · obtain rfl := Option.some.inj ho
      have l0 := on_of hd 34 (by kernel_rfl)
      have f0 := hF.at (s := 47) (i := 34) (by kernel_rfl) (by simp) l0
      have e0 : vals 34 = .bool true := hR 34 l0
      rw [e0] at f0
      refine Or.inl ⟨wanted_no rfl, ?_⟩
      exact wp_val (.bool true) (by simp [go_sem, f0]) ⟨_, rfl, Gr.refl _, rfl⟩
    · obtain rfl := Option.some.inj ho
      have lg := on_of hd 35 (by kernel_rfl)
      have fg := hF.at (s := 48) (i := 35) (by kernel_rfl) (by simp) lg
      rw [show vals 35 = .bool true from hR 35 lg] at fg
      refine Or.inl ⟨wanted_at (j := 35) (s := 48) rfl rfl rfl fg, ?_⟩
      exact wp_retz (k := .sl 15) (by simp [go_sem]) (HI.out _) (fun u w2 hu hg2 => ⟨_, rfl, hg2, hu⟩)
    · obtain rfl := Option.some.inj ho
      have lg := on_of hd 35 (by kernel_rfl)
      have fg := hF.at (s := 48) (i := 35) (by kernel_rfl) (by simp) lg
      rw [show vals 35 = .bool true from hR 35 lg] at fg
      have l0 := on_of hd 36 (by kernel_rfl)
      have f0 := hF.at (s := 49) (i := 36) (by kernel_rfl) (by simp) l0
      obtain ⟨p0, n0, e0⟩ := (show ∃ p n, vals 36 = .slice p 15 n from hR 36 l0)
      rw [e0] at f0
      refine Or.inl ⟨wanted_at (j := 35) (s := 48) rfl rfl rfl fg, ?_⟩
      exact wp_val (.int .i64 15) (by simp [go_sem, f0]) ⟨_, rfl, Gr.refl _, rfl⟩
    · obtain rfl := Option.some.inj ho
      have lg := on_of hd 35 (by kernel_rfl)
      have fg := hF.at (s := 48) (i := 35) (by kernel_rfl) (by simp) lg
      rw [show vals 35 = .bool true from hR 35 lg] at fg
      have l0 := on_of hd 37 (by kernel_rfl)
      have f0 := hF.at (s := 50) (i := 37) (by kernel_rfl) (by simp) l0
      have e0 : vals 37 = .int .i64 15 := hR 37 l0
      rw [e0] at f0
      refine Or.inl ⟨wanted_at (j := 35) (s := 48) rfl rfl rfl fg, ?_⟩
      exact wp_val (.bool true) (by simp [go_sem, f0]) ⟨_, rfl, Gr.refl _, rfl⟩
    · obtain rfl := Option.some.inj ho
      have l0 := on_of hd 35 (by kernel_rfl)
      have f0 := hF.at (s := 48) (i := 35) (by kernel_rfl) (by simp) l0
      have e0 : vals 35 = .bool true := hR 35 l0
      rw [e0] at f0
      have l1 := on_of hd 38 (by kernel_rfl)
      have f1 := hF.at (s := 51) (i := 38) (by kernel_rfl) (by simp) l1
      have e1 : vals 38 = .bool true := hR 38 l1
      rw [e1] at f1
      refine Or.inl ⟨wanted_no rfl, ?_⟩
      exact wp_val (.bool true) (by simp [go_sem, f0, f1]) ⟨_, rfl, Gr.refl _, rfl⟩
    · obtain rfl := Option.some.inj ho
      have l0 := on_of hd 39 (by kernel_rfl)
      have f0 := hF.at (s := 52) (i := 39) (by kernel_rfl) (by simp) l0
      have e0 : vals 39 = .bool true := hR 39 l0
      rw [e0] at f0
      refine Or.inl ⟨wanted_no rfl, ?_⟩
      exact wp_val (.bool true) (by simp [go_sem, f0]) ⟨_, rfl, Gr.refl _, rfl⟩
  case hf =>
    intro vals v hg hR
    have H1 : blk v e1 = cu 13 251 248 26 223 2 84 8 1 false := (hg.blk _ c1.p).trans c1.h
    have K1 : v.cell? ⟨e1, 56, none⟩ = some (.int .i64 8) := by rw [cell_blk, H1]; exact cu_56 _ _ _ _ _ _ _ _ _ _
    have e100 : vals 0 = .int .i64 0 := hR 0 (by simp)
    have e101 : vals 1 = .int .i64 0 := hR 1 (by simp)
    have e102 : vals 2 = .bool true := hR 2 (by simp)
    have e103 : vals 3 = .bool true := hR 3 (by simp)
    have e104 : vals 4 = .pointer (some ⟨e1, 1, none⟩) := hR 4 (by simp)
    have e105 : vals 5 = .agg (nw 9 251) := hR 5 (by simp)
    have e106 : vals 6 = .agg (nw 9 251) := hR 6 (by simp)
    have e107 : vals 7 = .bool true := hR 7 (by simp)
    have e108 : vals 8 = .bool true := hR 8 (by simp)
    have e109 : vals 9 = .bool true := hR 9 (by simp)
    have e110 : vals 10 = .pointer (some ⟨e1, 37, none⟩) := hR 10 (by simp)
    have e111 : vals 11 = .pointer (some ⟨e1, 37, none⟩) := hR 11 (by simp)
    have e112 : vals 12 = .agg (nw 9 2) := hR 12 (by simp)
    have e113 : vals 13 = .agg (nw 9 2) := hR 13 (by simp)
    have e114 : vals 14 = .bool true := hR 14 (by simp)
    have e115 : vals 15 = .bool true := hR 15 (by simp)
    have e116 : vals 16 = .bool true := hR 16 (by simp)
    have e117 : vals 17 = .pointer (some ⟨e1, 56, none⟩) := hR 17 (by simp)
    have e118 : vals 18 = .int .i64 8 := hR 18 (by simp)
    have e119 : vals 19 = .bool true := hR 19 (by simp)
    have e120 : vals 20 = .bool true := hR 20 (by simp)
    have e121 : vals 21 = .bool true := hR 21 (by simp)
    have e122 : vals 22 = .int .i64 1300 := hR 22 (by simp)
    have e123 : vals 23 = .int .i64 1300 := hR 23 (by simp)
    have e124 : vals 24 = .bool true := hR 24 (by simp)
    have e125 : vals 25 = .bool true := hR 25 (by simp)
    have e126 : vals 26 = .bool true := hR 26 (by simp)
    have e127 : vals 27 = .pointer (some ⟨e1, 37, none⟩) := hR 27 (by simp)
    have e128 : vals 28 = .agg (pnt 2 84 false) := hR 28 (by simp)
    have e129 : vals 29 = .bool true := hR 29 (by simp)
    have e130 : vals 30 = .bool true := hR 30 (by simp)
    have e131 : vals 31 = .bool true := hR 31 (by simp)
    have e132 : vals 32 = .agg (pnt 0 0 true) := hR 32 (by simp)
    have e133 : vals 33 = .bool true := hR 33 (by simp)
    have e134 : vals 34 = .bool true := hR 34 (by simp)
    have e135 : vals 35 = .bool true := hR 35 (by simp)
    obtain ⟨p136, n136, e136⟩ := (show ∃ p n, vals 36 = .slice p 15 n from hR 36 (by simp))
    have e137 : vals 37 = .int .i64 15 := hR 37 (by simp)
    have e138 : vals 38 = .bool true := hR 38 (by simp)
    have e139 : vals 39 = .bool true := hR 39 (by simp)
    have e140 : vals 40 = .bool true := hR 40 (by simp)
    simp only [putFrom, Act.put, List.setIfInBounds_toArray, List.set_cons_zero, List.set_cons_succ, e100, e101, e102, e103, e104, e105, e106, e107, e108, e109, e110, e111, e112, e113, e114, e115, e116, e117, e118, e119, e120, e121, e122, e123, e124, e125, e126, e127, e128, e129, e130, e131, e132, e133, e134, e135, e136, e137, e138, e139, e140]
    clear hR e100 e101 e102 e103 e104 e105 e106 e107 e108 e109 e110 e111 e112 e113 e114 e115 e116 e117 e118 e119 e120 e121 e122 e123 e124 e125 e126 e127 e128 e129 e130 e131 e132 e133 e134 e135 e136 e137 e138 e139 e140
    have HG : Gr w v := G.trans hg
    clear hg
    go_wp2_with fail
    go_ret
    exact ⟨rfl, HG⟩

end Go.Proofs.Ytgmaalokfgdpaaa
