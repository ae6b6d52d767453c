/-
  The statement DivideInverse, walked: it answers true for every two numbers and every int.
-/
import Derived.Test.YtbafjcbbiiipfaaDAw
import Derived.Test.YtbafjcbbiiipfaaSmB
import Derived.Test.YtbafjcbbiiipfaaLawA
namespace Go.Proofs.Ytbafjcbbiiipfaa
open Go.RowKit
attribute [local go_sem ↓] loadNat_is loadArr_is loadWide_is loadArrW_is storeNat_is storeWide_is
attribute [local go_sem] loadNat loadArr loadWide loadArrW storeNat storeWide idxArr fold9 fold18 nw_size nw_elem pre_self pre_1 pre_2 pre_3 pre_4 pre_5 pre_6 pre_7 pre_8 pre_9 pre_10 pre_11 pre_12 pre_13 pre_14 pre_15 pre_16 pre_17 pre_18 pre_19 pre_20 pre_21 pre_22 pre_23 pre_24 pre_25 pre_26 pre_27 pre_28 pre_29 pre_30 pre_31 pre_32 pre_33 pre_34 pre_35 pre_36 pre_37 pre_38 pre_39 pre_40 gro_size gro_drew gro_drewN drew_gro drewN_gro gro_gro blk_gro frz_gro blk_drew frz_drew blk_drewN frz_drewN blk_alloc_at frz_alloc_at blk_alloc frz_alloc cell_gro frozen_gro cell_alloc_pre frozen_alloc_pre setCell_drewN alloc_drewN setBlk_drew setBlk_drewN setBlk_alloc_at setBlk_alloc setBlk_gro setCell_gro setCell_alloc_pre size_setBlk size_setCell
attribute [local go_sem] nw_ext9 nw_ext18 eqArr9 eqArr18

attribute [local go_sem] loadNat2 loadArr2 loadWide2 loadK_nw ppre_1 ppre_2 ppre_3 ppre_4 ppre_5 ppre_6 ppre_7 ppre_8 ppre_9 ppre_10 ppre_11 ppre_12 ppre_13 ppre_14 ppre_15 ppre_16 ppre_17 ppre_18 ppre_19 ppre_20

attribute [local go_sem] eqN_self
attribute [local go_sem ↓] Go.wp_at_zero Go.wp_at_succ
attribute [local go_sem] blk_other

set_option maxRecDepth 100000 in
set_option maxHeartbeats 2400000 in
theorem dinv_sz (a m kk xa xm bb x : Nat) (part κ : Int) (k1 : bits BinOp.and IntKind.i64 part 31 = κ) (k2 : 2 + κ = (kk : Int)) (k3 : IntKind.u64.wrap (kk : Int) = (kk : Int)) (k4 : IntKind.i64.wrap (kk : Int) = (kk : Int)) (hb : bb < M) (hc : 0 < M) (o1 : ∀ w, Calls Try.prog 30 #[.int .u64 1] w fun e w' => e = .returned (.agg (nw 9 1)) ∧ Gr w w') (okk : ∀ w, Calls Try.prog 30 #[.int .u64 (kk : Int)] w fun e w' => e = .returned (.agg (nw 9 kk)) ∧ Gr w w') (cx : ∀ w, Calls Try.prog 31 #[.agg (nw 9 a), .int .i64 500] w fun e w' => e = .returned (.agg (nw 9 xa)) ∧ Gr w w') (cy : ∀ w, Calls Try.prog 31 #[.agg (nw 9 m), .int .i64 500] w fun e w' => e = .returned (.agg (nw 9 xm)) ∧ Gr w w') (mx : ∀ w, Calls Try.prog 27 #[.agg (nw 9 xa), .agg (nw 9 kk)] w fun e w' => e = .returned (.agg (nw 18 bb)) ∧ Gr w w') (my : ∀ w, Calls Try.prog 27 #[.agg (nw 9 xm), .agg (nw 9 kk)] w fun e w' => e = .returned (.agg (nw 18 0)) ∧ Gr w w') (i2 : ∀ w, Calls Try.prog 24 #[.agg (nw 9 bb), .agg (nw 9 0)] w fun e w' => e = .returned (.tuple #[.agg (nw 9 0), .int .i64 400]) ∧ Gr w w') (i1 : ∀ w, Calls Try.prog 24 #[.agg (nw 9 a), .agg (nw 9 m)] w fun e w' => e = .returned (.tuple #[.agg (nw 9 x), .int .i64 0]) ∧ Gr w w') (mm : ∀ w, Calls Try.prog 14 #[.agg (nw 9 a), .agg (nw 9 x), .agg (nw 9 m)] w fun e w' => e = .returned (.tuple #[.agg (nw 9 1), .int .i64 0]) ∧ Gr w w') (cz : ∀ w, Calls Try.prog 29 #[.agg (nw 9 x), .agg (nw 9 m)] w fun e w' => e = .returned (.int .i64 (-1)) ∧ Gr w w') (w : World) :
    Calls Try.prog 6 #[.agg (nw 9 a), .agg (nw 9 m), .int .i64 part] w fun e w' => e = .returned (.bool true) ∧ Gr w w' := by
  have O1 : Hid (∀ w, Calls Try.prog 30 #[.int .u64 1] w fun e w' => e = .returned (.agg (nw 9 1)) ∧ Gr w w') := o1
  have OK : Hid (∀ w, Calls Try.prog 30 #[.int .u64 (kk : Int)] w fun e w' => e = .returned (.agg (nw 9 kk)) ∧ Gr w w') := okk
  have CX : Hid (∀ w, Calls Try.prog 31 #[.agg (nw 9 a), .int .i64 500] w fun e w' => e = .returned (.agg (nw 9 xa)) ∧ Gr w w') := cx
  have CY : Hid (∀ w, Calls Try.prog 31 #[.agg (nw 9 m), .int .i64 500] w fun e w' => e = .returned (.agg (nw 9 xm)) ∧ Gr w w') := cy
  have MX : Hid (∀ w, Calls Try.prog 27 #[.agg (nw 9 xa), .agg (nw 9 kk)] w fun e w' => e = .returned (.agg (nw 18 bb)) ∧ Gr w w') := mx
  have MY : Hid (∀ w, Calls Try.prog 27 #[.agg (nw 9 xm), .agg (nw 9 kk)] w fun e w' => e = .returned (.agg (nw 18 0)) ∧ Gr w w') := my
  have I2 : Hid (∀ w, Calls Try.prog 24 #[.agg (nw 9 bb), .agg (nw 9 0)] w fun e w' => e = .returned (.tuple #[.agg (nw 9 0), .int .i64 400]) ∧ Gr w w') := i2
  have I1 : Hid (∀ w, Calls Try.prog 24 #[.agg (nw 9 a), .agg (nw 9 m)] w fun e w' => e = .returned (.tuple #[.agg (nw 9 x), .int .i64 0]) ∧ Gr w w') := i1
  have MM : Hid (∀ w, Calls Try.prog 14 #[.agg (nw 9 a), .agg (nw 9 x), .agg (nw 9 m)] w fun e w' => e = .returned (.tuple #[.agg (nw 9 1), .int .i64 0]) ∧ Gr w w') := mm
  have CZ : Hid (∀ w, Calls Try.prog 29 #[.agg (nw 9 x), .agg (nw 9 m)] w fun e w' => e = .returned (.int .i64 (-1)) ∧ Gr w w') := cz
  have HB : Hid (Unit → bb < M ∧ 0 < M) := fun _ => ⟨hb, hc⟩
  have q1 := eqN_self 9 1
  have q0 := eqN_self 9 0
  clear o1 okk cx cy mx my i2 i1 mm cz hb hc
  go_enter Try.func6, Try.ntmps6
  go_wp2_with (first
    | (go_at_call 17; refine (awake4_any _).mono ?_; rintro e w' ⟨rfl, gaw, rfl⟩)
    | (go_at_call 24; refine (I1.out _).mono ?_; rintro e w' ⟨rfl, gi, rfl⟩)
    | (go_at_call 14; refine (MM.out _).mono ?_; rintro e w' ⟨rfl, gm, rfl⟩)
    | (go_at_call 16; refine (num_any _ _).mono ?_; rintro e w' ⟨rfl, rfl⟩))
  refine wp_region_pred (by kernel_rfl) (by kernel_rfl) [.c (.int .i64 0), .c (.int .i64 0), .c (.bool false), .c (.bool false), .c (.agg (nw 9 1)), .c (.agg (nw 9 1)), .c (.bool false), .c (.bool false), .c (.bool false), .c (.agg (nw 9 x)), .c (.agg (nw 9 m)), .c (.int .i64 (-1)), .c (.bool false), .c (.bool false)] ?hs ?hf
  case hs =>
    intro listed vals a1 v i o hg hR hF ho hd
    have h9 : blk v ((w.heap.size + 1 + 1 + (gaw.os.length + gi.os.length) + 1 + gm.os.length)) = nw 9 1 := (hg.blk ((w.heap.size + 1 + 1 + (gaw.os.length + gi.os.length) + 1 + gm.os.length)) (by simp [go_sem] <;> omega)).trans (by simp [go_sem])
    have ph9 : Pre ((w.heap.size + 1 + 1 + (gaw.os.length + gi.os.length) + 1 + gm.os.length) + 1) v.heap.size := Nat.le_trans (show (w.heap.size + 1 + 1 + (gaw.os.length + gi.os.length) + 1 + gm.os.length) + 1 ≤ _ by simp [go_sem] <;> omega) hg.below.size
    have h7 : blk v ((w.heap.size + 1 + 1 + (gaw.os.length + gi.os.length))) = nw 9 x := (hg.blk ((w.heap.size + 1 + 1 + (gaw.os.length + gi.os.length))) (by simp [go_sem] <;> omega)).trans (by simp [go_sem])
    have ph7 : Pre ((w.heap.size + 1 + 1 + (gaw.os.length + gi.os.length)) + 1) v.heap.size := Nat.le_trans (show (w.heap.size + 1 + 1 + (gaw.os.length + gi.os.length)) + 1 ≤ _ by simp [go_sem] <;> omega) hg.below.size
    have h4 : blk v (w.heap.size + 1) = nw 9 m := (hg.blk (w.heap.size + 1) (by simp [go_sem] <;> omega)).trans (by simp [go_sem])
    have ph4 : Pre (w.heap.size + 1 + 1) v.heap.size := Nat.le_trans (show w.heap.size + 1 + 1 ≤ _ by simp [go_sem] <;> omega) hg.below.size
    have h3 : blk v (w.heap.size) = nw 9 a := (hg.blk (w.heap.size) (by simp [go_sem] <;> omega)).trans (by simp [go_sem])
    have ph3 : Pre (w.heap.size + 1) v.heap.size := Nat.le_trans (show w.heap.size + 1 ≤ _ by simp [go_sem] <;> omega) hg.below.size
    have hi : i < 14 := by simpa using (Array.getElem?_eq_some_iff.1 ho).1
    obtain rfl | rfl | rfl | rfl | rfl | rfl | rfl | rfl | rfl | rfl | rfl | rfl | rfl | rfl : i = 0 ∨ i = 1 ∨ i = 2 ∨ i = 3 ∨ i = 4 ∨ i = 5 ∨ i = 6 ∨ i = 7 ∨ i = 8 ∨ i = 9 ∨ i = 10 ∨ i = 11 ∨ i = 12 ∨ i = 13 := by omega
    · obtain rfl := Option.some.inj ho
      have f0 := hF.old (s := 10) (v := .int .i64 0) (by kernel_rfl) rfl
      refine Or.inl ⟨wanted_no rfl, ?_⟩
      exact wp_val (.int .i64 0) (by simp [go_sem, f0]) ⟨_, rfl, Gr.refl _, rfl⟩
    · obtain rfl := Option.some.inj ho
      have l0 := on_of hd 0 (by kernel_rfl)
      have f0 := hF.at (s := 37) (i := 0) (by kernel_rfl) (by simp) l0
      rw [show vals 0 = .int .i64 0 from hR 0 l0] at f0
      refine Or.inl ⟨wanted_no rfl, ?_⟩
      exact wp_ret (.int .i64 0) (by simp [go_sem, f0]) (num_gr _ _) (fun w2 hg2 => ⟨_, rfl, hg2, rfl⟩)
    · obtain rfl := Option.some.inj ho
      have l0 := on_of hd 1 (by kernel_rfl)
      have f0 := hF.at (s := 38) (i := 1) (by kernel_rfl) (by simp) l0
      rw [show vals 1 = .int .i64 0 from hR 1 l0] at f0
      refine Or.inl ⟨wanted_no rfl, ?_⟩
      exact wp_val (.bool false) (by simp [go_sem, f0]) ⟨_, rfl, Gr.refl _, rfl⟩
    · obtain rfl := Option.some.inj ho
      have l0 := on_of hd 2 (by kernel_rfl)
      have f0 := hF.at (s := 39) (i := 2) (by kernel_rfl) (by simp) l0
      rw [show vals 2 = .bool false from hR 2 l0] at f0
      refine Or.inl ⟨wanted_no rfl, ?_⟩
      exact wp_val (.bool false) (by simp [go_sem, f0]) ⟨_, rfl, Gr.refl _, rfl⟩
    · obtain rfl := Option.some.inj ho
      have lg := on_of hd 3 (by kernel_rfl)
      have fg := hF.at (s := 40) (i := 3) (by kernel_rfl) (by simp) lg
      rw [show vals 3 = .bool false from hR 3 lg] at fg
      have f0 := hF.old (s := 9) (v := .pointer (some ⟨(w.heap.size + 1 + 1 + (gaw.os.length + gi.os.length) + 1 + gm.os.length), 0, none⟩)) (by kernel_rfl) rfl
      refine Or.inl ⟨wanted_at (j := 3) (s := 40) rfl rfl rfl fg, ?_⟩
      exact wp_val (.agg (nw 9 1)) (by simp [go_sem, f0, h9]) ⟨_, rfl, Gr.refl _, rfl⟩
    · obtain rfl := Option.some.inj ho
      have lg := on_of hd 3 (by kernel_rfl)
      have fg := hF.at (s := 40) (i := 3) (by kernel_rfl) (by simp) lg
      rw [show vals 3 = .bool false from hR 3 lg] at fg
      refine Or.inl ⟨wanted_at (j := 3) (s := 40) rfl rfl rfl fg, ?_⟩
      exact wp_ret (.agg (nw 9 1)) (by simp [go_sem]) (O1.out _) (fun w2 hg2 => ⟨_, rfl, hg2, rfl⟩)
    · obtain rfl := Option.some.inj ho
      have lg := on_of hd 3 (by kernel_rfl)
      have fg := hF.at (s := 40) (i := 3) (by kernel_rfl) (by simp) lg
      rw [show vals 3 = .bool false from hR 3 lg] at fg
      have l0 := on_of hd 4 (by kernel_rfl)
      have f0 := hF.at (s := 41) (i := 4) (by kernel_rfl) (by simp) l0
      rw [show vals 4 = .agg (nw 9 1) from hR 4 l0] at f0
      have l1 := on_of hd 5 (by kernel_rfl)
      have f1 := hF.at (s := 42) (i := 5) (by kernel_rfl) (by simp) l1
      rw [show vals 5 = .agg (nw 9 1) from hR 5 l1] at f1
      refine Or.inl ⟨wanted_at (j := 3) (s := 40) rfl rfl rfl fg, ?_⟩
      exact wp_val (.bool false) (by simp [go_sem, f0, f1]) ⟨_, rfl, Gr.refl _, rfl⟩
    · obtain rfl := Option.some.inj ho
      have l0 := on_of hd 3 (by kernel_rfl)
      have f0 := hF.at (s := 40) (i := 3) (by kernel_rfl) (by simp) l0
      rw [show vals 3 = .bool false from hR 3 l0] at f0
      have l1 := on_of hd 6 (by kernel_rfl)
      have f1 := hF.at (s := 43) (i := 6) (by kernel_rfl) (by simp) l1
      rw [show vals 6 = .bool false from hR 6 l1] at f1
      refine Or.inl ⟨wanted_no rfl, ?_⟩
      exact wp_val (.bool false) (by simp [go_sem, f0, f1]) ⟨_, rfl, Gr.refl _, rfl⟩
    · obtain rfl := Option.some.inj ho
      have l0 := on_of hd 7 (by kernel_rfl)
      have f0 := hF.at (s := 44) (i := 7) (by kernel_rfl) (by simp) l0
      rw [show vals 7 = .bool false from hR 7 l0] at f0
      refine Or.inl ⟨wanted_no rfl, ?_⟩
      exact wp_val (.bool false) (by simp [go_sem, f0]) ⟨_, rfl, Gr.refl _, rfl⟩
    · obtain rfl := Option.some.inj ho
      have lg := on_of hd 8 (by kernel_rfl)
      have fg := hF.at (s := 45) (i := 8) (by kernel_rfl) (by simp) lg
      rw [show vals 8 = .bool false from hR 8 lg] at fg
      have f0 := hF.old (s := 7) (v := .pointer (some ⟨(w.heap.size + 1 + 1 + (gaw.os.length + gi.os.length)), 0, none⟩)) (by kernel_rfl) rfl
      refine Or.inl ⟨wanted_at (j := 8) (s := 45) rfl rfl rfl fg, ?_⟩
      exact wp_val (.agg (nw 9 x)) (by simp [go_sem, f0, h7]) ⟨_, rfl, Gr.refl _, rfl⟩
    · obtain rfl := Option.some.inj ho
      have lg := on_of hd 8 (by kernel_rfl)
      have fg := hF.at (s := 45) (i := 8) (by kernel_rfl) (by simp) lg
      rw [show vals 8 = .bool false from hR 8 lg] at fg
      have f0 := hF.old (s := 4) (v := .pointer (some ⟨w.heap.size + 1, 0, none⟩)) (by kernel_rfl) rfl
      refine Or.inl ⟨wanted_at (j := 8) (s := 45) rfl rfl rfl fg, ?_⟩
      exact wp_val (.agg (nw 9 m)) (by simp [go_sem, f0, h4]) ⟨_, rfl, Gr.refl _, rfl⟩
    · obtain rfl := Option.some.inj ho
      have lg := on_of hd 8 (by kernel_rfl)
      have fg := hF.at (s := 45) (i := 8) (by kernel_rfl) (by simp) lg
      rw [show vals 8 = .bool false from hR 8 lg] at fg
      have l0 := on_of hd 9 (by kernel_rfl)
      have f0 := hF.at (s := 46) (i := 9) (by kernel_rfl) (by simp) l0
      rw [show vals 9 = .agg (nw 9 x) from hR 9 l0] at f0
      have l1 := on_of hd 10 (by kernel_rfl)
      have f1 := hF.at (s := 47) (i := 10) (by kernel_rfl) (by simp) l1
      rw [show vals 10 = .agg (nw 9 m) from hR 10 l1] at f1
      refine Or.inl ⟨wanted_at (j := 8) (s := 45) rfl rfl rfl fg, ?_⟩
      exact wp_ret (.int .i64 (-1)) (by simp [go_sem, f0, f1]) (CZ.out _) (fun w2 hg2 => ⟨_, rfl, hg2, rfl⟩)
    · obtain rfl := Option.some.inj ho
      have lg := on_of hd 8 (by kernel_rfl)
      have fg := hF.at (s := 45) (i := 8) (by kernel_rfl) (by simp) lg
      rw [show vals 8 = .bool false from hR 8 lg] at fg
      have l0 := on_of hd 11 (by kernel_rfl)
      have f0 := hF.at (s := 48) (i := 11) (by kernel_rfl) (by simp) l0
      rw [show vals 11 = .int .i64 (-1) from hR 11 l0] at f0
      refine Or.inl ⟨wanted_at (j := 8) (s := 45) rfl rfl rfl fg, ?_⟩
      exact wp_val (.bool false) (by simp [go_sem, f0]) ⟨_, rfl, Gr.refl _, rfl⟩
    · obtain rfl := Option.some.inj ho
      have l0 := on_of hd 8 (by kernel_rfl)
      have f0 := hF.at (s := 45) (i := 8) (by kernel_rfl) (by simp) l0
      rw [show vals 8 = .bool false from hR 8 l0] at f0
      have l1 := on_of hd 12 (by kernel_rfl)
      have f1 := hF.at (s := 49) (i := 12) (by kernel_rfl) (by simp) l1
      rw [show vals 12 = .bool false from hR 12 l1] at f1
      refine Or.inl ⟨wanted_no rfl, ?_⟩
      exact wp_val (.bool false) (by simp [go_sem, f0, f1]) ⟨_, rfl, Gr.refl _, rfl⟩
  case hf =>
    intro vals v hg hR
    have h9 : blk v ((w.heap.size + 1 + 1 + (gaw.os.length + gi.os.length) + 1 + gm.os.length)) = nw 9 1 := (hg.blk ((w.heap.size + 1 + 1 + (gaw.os.length + gi.os.length) + 1 + gm.os.length)) (by simp [go_sem] <;> omega)).trans (by simp [go_sem])
    have ph9 : Pre ((w.heap.size + 1 + 1 + (gaw.os.length + gi.os.length) + 1 + gm.os.length) + 1) v.heap.size := Nat.le_trans (show (w.heap.size + 1 + 1 + (gaw.os.length + gi.os.length) + 1 + gm.os.length) + 1 ≤ _ by simp [go_sem] <;> omega) hg.below.size
    have h7 : blk v ((w.heap.size + 1 + 1 + (gaw.os.length + gi.os.length))) = nw 9 x := (hg.blk ((w.heap.size + 1 + 1 + (gaw.os.length + gi.os.length))) (by simp [go_sem] <;> omega)).trans (by simp [go_sem])
    have ph7 : Pre ((w.heap.size + 1 + 1 + (gaw.os.length + gi.os.length)) + 1) v.heap.size := Nat.le_trans (show (w.heap.size + 1 + 1 + (gaw.os.length + gi.os.length)) + 1 ≤ _ by simp [go_sem] <;> omega) hg.below.size
    have h4 : blk v (w.heap.size + 1) = nw 9 m := (hg.blk (w.heap.size + 1) (by simp [go_sem] <;> omega)).trans (by simp [go_sem])
    have ph4 : Pre (w.heap.size + 1 + 1) v.heap.size := Nat.le_trans (show w.heap.size + 1 + 1 ≤ _ by simp [go_sem] <;> omega) hg.below.size
    have h3 : blk v (w.heap.size) = nw 9 a := (hg.blk (w.heap.size) (by simp [go_sem] <;> omega)).trans (by simp [go_sem])
    have ph3 : Pre (w.heap.size + 1) v.heap.size := Nat.le_trans (show w.heap.size + 1 ≤ _ by simp [go_sem] <;> omega) hg.below.size
    have x0 : vals 0 = .int .i64 0 := hR 0 (by simp)
    have x1 : vals 1 = .int .i64 0 := hR 1 (by simp)
    have x2 : vals 2 = .bool false := hR 2 (by simp)
    have x3 : vals 3 = .bool false := hR 3 (by simp)
    have x4 : vals 4 = .agg (nw 9 1) := hR 4 (by simp)
    have x5 : vals 5 = .agg (nw 9 1) := hR 5 (by simp)
    have x6 : vals 6 = .bool false := hR 6 (by simp)
    have x7 : vals 7 = .bool false := hR 7 (by simp)
    have x8 : vals 8 = .bool false := hR 8 (by simp)
    have x9 : vals 9 = .agg (nw 9 x) := hR 9 (by simp)
    have x10 : vals 10 = .agg (nw 9 m) := hR 10 (by simp)
    have x11 : vals 11 = .int .i64 (-1) := hR 11 (by simp)
    have x12 : vals 12 = .bool false := hR 12 (by simp)
    have x13 : vals 13 = .bool false := hR 13 (by simp)
    simp only [putFrom, Act.put, List.setIfInBounds_toArray, List.set_cons_zero, List.set_cons_succ, x0, x1, x2, x3, x4, x5, x6, x7, x8, x9, x10, x11, x12, x13]
    clear hR x0 x1 x2 x3 x4 x5 x6 x7 x8 x9 x10 x11 x12 x13
    have HG : Hid (Gr w v) := by show Gr w v; refine Gr.trans ?_ hg; exact (by repeat (first | exact Gr.refl _ | apply Gr.drewN | apply Gr.drew | apply Gr.alloc | apply Gr.gro))
    clear hg h9 h7 ph9 ph7
    go_wp2_with (go_at_call 30; refine (OK.out _).mono ?_; rintro e w' ⟨rfl, gk, rfl⟩)
    refine wp_region_mix (by kernel_rfl) (by kernel_rfl) (RG _ (fun i => match i with | 0 => some (.pointer (some ⟨w.heap.size, 0, none⟩)) | 1 => some (.agg (nw 9 a)) | 2 => some (.agg (nw 9 xa)) | 3 => some (.agg (nw 9 kk)) | 4 => some (.agg (nw 18 bb)) | 5 => some (.pointer (some ⟨w.heap.size + 1, 0, none⟩)) | 6 => some (.agg (nw 9 m)) | 7 => some (.agg (nw 9 xm)) | 8 => some (.agg (nw 9 kk)) | 9 => some (.agg (nw 18 0)) | _ => none) (fun i => match i with | 10 => some (nw 18 0) | 11 => some (nw 18 0) | _ => none) (fun i => match i with | 10 => some (12, nw 18 bb) | 11 => some (13, nw 18 0) | _ => none)) (RG.start _ _ _ _ _ _) ?hs ?hf
    case hs =>
      intro listed vals a1 v1 i o hz hR hF ho hl hd
      have hks : ∀ (j k : Nat) (r : Array Value), (match j with | 10 => some (12, nw 18 bb) | 11 => some (13, nw 18 0) | _ => (none : Option (Nat × Array Value))) = some (k, r) → (j = 10 ∧ k = 12) ∨ (j = 11 ∧ k = 13) := fun j k r h => by
        split at h <;> simp_all
      have hba : blk v1 (w.heap.size) = nw 9 a := (blk_of _ _ _ (hR.1.below.block (w.heap.size) (by have h : w.heap.size + 1 ≤ v.heap.size := ph3; simp [go_sem]; omega))).trans ((Gr.blk (w := v) (by repeat (first | exact Gr.refl _ | apply Gr.drewN | apply Gr.drew | apply Gr.alloc | apply Gr.gro)) _ ph3).trans h3)
      have hbm : blk v1 (w.heap.size + 1) = nw 9 m := (blk_of _ _ _ (hR.1.below.block (w.heap.size + 1) (by have h : w.heap.size + 1 + 1 ≤ v.heap.size := ph4; simp [go_sem]; omega))).trans ((Gr.blk (w := v) (by repeat (first | exact Gr.refl _ | apply Gr.drewN | apply Gr.drew | apply Gr.alloc | apply Gr.gro)) _ ph4).trans h4)
      have hbk : blk v1 (v.heap.size + gk.os.length) = nw 9 kk := (blk_of _ _ _ (hR.1.below.block (v.heap.size + gk.os.length) (by simp [go_sem] <;> omega))).trans (by simp [go_sem])
      have hi : i < 14 := by simpa using (Array.getElem?_eq_some_iff.1 ho).1
      have hil : i < listed.size := by rw [hz]; simpa using hi
      obtain rfl | rfl | rfl | rfl | rfl | rfl | rfl | rfl | rfl | rfl | rfl | rfl | rfl | rfl : i = 0 ∨ i = 1 ∨ i = 2 ∨ i = 3 ∨ i = 4 ∨ i = 5 ∨ i = 6 ∨ i = 7 ∨ i = 8 ∨ i = 9 ∨ i = 10 ∨ i = 11 ∨ i = 12 ∨ i = 13 := by omega
      · obtain rfl := Option.some.inj ho
        have f0 := hF.old (s := 3) (v := .pointer (some ⟨w.heap.size, 0, none⟩)) (by kernel_rfl) rfl
        exact wp_val (.pointer (some ⟨w.heap.size, 0, none⟩)) (by simp [go_sem, f0]) ⟨_, rfl, RG.quiet 0 _ hil rfl rfl (fun j k r h => by have := hks j k r h; omega) (Gr.refl _) hR⟩
      · obtain rfl := Option.some.inj ho
        have l0 := hd ⟨0, .data⟩ (by simp) rfl
        have f0 := hF.at (s := 56) (i := 0) (by kernel_rfl) (by simp) l0
        rw [hR.2.1 0 _ l0 rfl] at f0
        exact wp_val (.agg (nw 9 a)) (by simp [go_sem, f0, hba]) ⟨_, rfl, RG.quiet 1 _ hil rfl rfl (fun j k r h => by have := hks j k r h; omega) (Gr.refl _) hR⟩
      · obtain rfl := Option.some.inj ho
        have l0 := hd ⟨1, .data⟩ (by simp) rfl
        have f0 := hF.at (s := 57) (i := 1) (by kernel_rfl) (by simp) l0
        rw [hR.2.1 1 _ l0 rfl] at f0
        exact wp_ret (.agg (nw 9 xa)) (by simp [go_sem, f0]) (CX.out _) (fun w2 hg => ⟨_, rfl, RG.quiet 2 _ hil rfl rfl (fun j k r h => by have := hks j k r h; omega) hg hR⟩)
      · obtain rfl := Option.some.inj ho
        have f0 := hF.old (s := 11) (v := .pointer (some ⟨v.heap.size + gk.os.length, 0, none⟩)) (by kernel_rfl) rfl
        exact wp_val (.agg (nw 9 kk)) (by simp [go_sem, f0, hbk]) ⟨_, rfl, RG.quiet 3 _ hil rfl rfl (fun j k r h => by have := hks j k r h; omega) (Gr.refl _) hR⟩
      · obtain rfl := Option.some.inj ho
        have l0 := hd ⟨2, .data⟩ (by simp) rfl
        have f0 := hF.at (s := 58) (i := 2) (by kernel_rfl) (by simp) l0
        rw [hR.2.1 2 _ l0 rfl] at f0
        have l1 := hd ⟨3, .data⟩ (by simp) rfl
        have f1 := hF.at (s := 59) (i := 3) (by kernel_rfl) (by simp) l1
        rw [hR.2.1 3 _ l1 rfl] at f1
        exact wp_ret (.agg (nw 18 bb)) (by simp [go_sem, f0, f1]) (MX.out _) (fun w2 hg => ⟨_, rfl, RG.quiet 4 _ hil rfl rfl (fun j k r h => by have := hks j k r h; omega) hg hR⟩)
      · obtain rfl := Option.some.inj ho
        have f0 := hF.old (s := 4) (v := .pointer (some ⟨w.heap.size + 1, 0, none⟩)) (by kernel_rfl) rfl
        exact wp_val (.pointer (some ⟨w.heap.size + 1, 0, none⟩)) (by simp [go_sem, f0]) ⟨_, rfl, RG.quiet 5 _ hil rfl rfl (fun j k r h => by have := hks j k r h; omega) (Gr.refl _) hR⟩
      · obtain rfl := Option.some.inj ho
        have l0 := hd ⟨5, .data⟩ (by simp) rfl
        have f0 := hF.at (s := 61) (i := 5) (by kernel_rfl) (by simp) l0
        rw [hR.2.1 5 _ l0 rfl] at f0
        exact wp_val (.agg (nw 9 m)) (by simp [go_sem, f0, hbm]) ⟨_, rfl, RG.quiet 6 _ hil rfl rfl (fun j k r h => by have := hks j k r h; omega) (Gr.refl _) hR⟩
      · obtain rfl := Option.some.inj ho
        have l0 := hd ⟨6, .data⟩ (by simp) rfl
        have f0 := hF.at (s := 62) (i := 6) (by kernel_rfl) (by simp) l0
        rw [hR.2.1 6 _ l0 rfl] at f0
        exact wp_ret (.agg (nw 9 xm)) (by simp [go_sem, f0]) (CY.out _) (fun w2 hg => ⟨_, rfl, RG.quiet 7 _ hil rfl rfl (fun j k r h => by have := hks j k r h; omega) hg hR⟩)
      · obtain rfl := Option.some.inj ho
        have f0 := hF.old (s := 11) (v := .pointer (some ⟨v.heap.size + gk.os.length, 0, none⟩)) (by kernel_rfl) rfl
        exact wp_val (.agg (nw 9 kk)) (by simp [go_sem, f0, hbk]) ⟨_, rfl, RG.quiet 8 _ hil rfl rfl (fun j k r h => by have := hks j k r h; omega) (Gr.refl _) hR⟩
      · obtain rfl := Option.some.inj ho
        have l0 := hd ⟨7, .data⟩ (by simp) rfl
        have f0 := hF.at (s := 63) (i := 7) (by kernel_rfl) (by simp) l0
        rw [hR.2.1 7 _ l0 rfl] at f0
        have l1 := hd ⟨8, .data⟩ (by simp) rfl
        have f1 := hF.at (s := 64) (i := 8) (by kernel_rfl) (by simp) l1
        rw [hR.2.1 8 _ l1 rfl] at f1
        exact wp_ret (.agg (nw 18 0)) (by simp [go_sem, f0, f1]) (MY.out _) (fun w2 hg => ⟨_, rfl, RG.quiet 9 _ hil rfl rfl (fun j k r h => by have := hks j k r h; omega) hg hR⟩)
      · obtain rfl := Option.some.inj ho
        exact wp_val (.pointer (some ⟨v1.heap.size, 0, none⟩)) (w' := v1.alloc (.cells (nw 18 0) 28)) (by simp [go_sem]) ⟨_, rfl, RG.alloc 10 (nw 18 0) 28 hil hl rfl rfl (fun j k r h => by have := hks j k r h; omega) hR⟩
      · obtain rfl := Option.some.inj ho
        exact wp_val (.pointer (some ⟨v1.heap.size, 0, none⟩)) (w' := v1.alloc (.cells (nw 18 0) 28)) (by simp [go_sem]) ⟨_, rfl, RG.alloc 11 (nw 18 0) 28 hil hl rfl rfl (fun j k r h => by have := hks j k r h; omega) hR⟩
      · obtain rfl := Option.some.inj ho
        have l0 := hd ⟨10, .data⟩ (by simp) rfl
        have l1 := hd ⟨4, .data⟩ (by simp) rfl
        obtain ⟨B, h4, h5⟩ := hR.2.2.2
        obtain ⟨e1, e2, e3, e4, e5⟩ := h4 10 (nw 18 0) l0 rfl
        simp only [hl] at e5
        replace e5 : blk v1 (B 10) = nw 18 0 := e5
        have f0 := hF.at (s := 12) (i := 10) (by kernel_rfl) (by simp) l0
        rw [e1] at f0
        have f1 := hF.at (s := 60) (i := 4) (by kernel_rfl) (by simp) l1
        rw [hR.2.1 4 _ l1 rfl] at f1
        exact wp_skip (w' := setBlk v1 (B 10) (nw 18 bb)) (by simp [go_sem, f0, f1, e4, e5]) ⟨undef, rfl, RG.store 12 10 (nw 18 0) (nw 18 bb) (B 10) hil hl rfl rfl rfl l0 rfl (by rw [nw_size]; decide) e1 (fun k r h => by have := hks k _ r h; omega) hR⟩
      · obtain rfl := Option.some.inj ho
        have l0 := hd ⟨11, .data⟩ (by simp) rfl
        have l1 := hd ⟨9, .data⟩ (by simp) rfl
        obtain ⟨B, h4, h5⟩ := hR.2.2.2
        obtain ⟨e1, e2, e3, e4, e5⟩ := h4 11 (nw 18 0) l0 rfl
        simp only [hl] at e5
        replace e5 : blk v1 (B 11) = nw 18 0 := e5
        have f0 := hF.at (s := 13) (i := 11) (by kernel_rfl) (by simp) l0
        rw [e1] at f0
        have f1 := hF.at (s := 65) (i := 9) (by kernel_rfl) (by simp) l1
        rw [hR.2.1 9 _ l1 rfl] at f1
        exact wp_skip (w' := setBlk v1 (B 11) (nw 18 0)) (by simp [go_sem, f0, f1, e4, e5]) ⟨undef, rfl, RG.store 13 11 (nw 18 0) (nw 18 0) (B 11) hil hl rfl rfl rfl l0 rfl (by rw [nw_size]; decide) e1 (fun k r h => by have := hks k _ r h; omega) hR⟩
    case hf =>
      intro listed vals a1 v1 hall hR hF
      have hba : blk v1 (w.heap.size) = nw 9 a := (blk_of _ _ _ (hR.1.below.block (w.heap.size) (by have h : w.heap.size + 1 ≤ v.heap.size := ph3; simp [go_sem]; omega))).trans ((Gr.blk (w := v) (by repeat (first | exact Gr.refl _ | apply Gr.drewN | apply Gr.drew | apply Gr.alloc | apply Gr.gro)) _ ph3).trans h3)
      have phba : Pre (w.heap.size + 1) v1.heap.size := Nat.le_trans (show w.heap.size + 1 ≤ _ from by have h : w.heap.size + 1 ≤ v.heap.size := ph3; simp [go_sem]; omega) hR.1.below.size
      have hbm : blk v1 (w.heap.size + 1) = nw 9 m := (blk_of _ _ _ (hR.1.below.block (w.heap.size + 1) (by have h : w.heap.size + 1 + 1 ≤ v.heap.size := ph4; simp [go_sem]; omega))).trans ((Gr.blk (w := v) (by repeat (first | exact Gr.refl _ | apply Gr.drewN | apply Gr.drew | apply Gr.alloc | apply Gr.gro)) _ ph4).trans h4)
      have phbm : Pre (w.heap.size + 1 + 1) v1.heap.size := Nat.le_trans (show w.heap.size + 1 + 1 ≤ _ from by have h : w.heap.size + 1 + 1 ≤ v.heap.size := ph4; simp [go_sem]; omega) hR.1.below.size
      have hbk : blk v1 (v.heap.size + gk.os.length) = nw 9 kk := (blk_of _ _ _ (hR.1.below.block (v.heap.size + gk.os.length) (by simp [go_sem] <;> omega))).trans (by simp [go_sem])
      have phbk : Pre (v.heap.size + gk.os.length + 1) v1.heap.size := Nat.le_trans (show v.heap.size + gk.os.length + 1 ≤ _ from by simp [go_sem] <;> omega) hR.1.below.size
      have hV := hR.2.1
      obtain ⟨B, h4, h5⟩ := hR.2.2.2
      have x0 := hV 0 _ (hall 0 (by simp)) rfl
      have x1 := hV 1 _ (hall 1 (by simp)) rfl
      have x2 := hV 2 _ (hall 2 (by simp)) rfl
      have x3 := hV 3 _ (hall 3 (by simp)) rfl
      have x4 := hV 4 _ (hall 4 (by simp)) rfl
      have x5 := hV 5 _ (hall 5 (by simp)) rfl
      have x6 := hV 6 _ (hall 6 (by simp)) rfl
      have x7 := hV 7 _ (hall 7 (by simp)) rfl
      have x8 := hV 8 _ (hall 8 (by simp)) rfl
      have x9 := hV 9 _ (hall 9 (by simp)) rfl
      obtain ⟨x10, q10, p10, z10, y10⟩ := h4 10 _ (hall 10 (by simp)) rfl
      simp only [hall 12 (by simp), if_true] at y10
      replace p10 : Pre (B 10 + 1) v1.heap.size := p10
      replace y10 : blk v1 (B 10) = nw 18 bb := y10
      obtain ⟨x11, q11, p11, z11, y11⟩ := h4 11 _ (hall 11 (by simp)) rfl
      simp only [hall 13 (by simp), if_true] at y11
      replace p11 : Pre (B 11 + 1) v1.heap.size := p11
      replace y11 : blk v1 (B 11) = nw 18 0 := y11
      have hb1 := hR.1
      rw [hF.final (by kernel_rfl) hall]
      simp only [putFrom, Act.put, List.setIfInBounds_toArray, List.set_cons_zero, List.set_cons_succ, x0, x1, x2, x3, x4, x5, x6, x7, x8, x9, x10, x11]
      generalize B 10 = b10 at *
      generalize B 11 = b11 at *
      clear hV h4 h5 hR hF hall x0 x1 x2 x3 x4 x5 x6 x7 x8 x9 x10 x11
      have HG9 : Hid (Gr w v1) := HG.out.trans (Gr.trans (by repeat (first | exact Gr.refl _ | apply Gr.drewN | apply Gr.drew | apply Gr.alloc | apply Gr.gro)) hb1)
      clear hb1 hba hbm hbk phba phbm phbk q10 q11 HG h3 h4 ph3 ph4
      go_wp2_with fail
      go_loopw [16] (fun i wr => ∃ (n U V : Nat), n ≤ 9 ∧ i = .int .i64 (n : Int) ∧ Hid (Unit → bb % pw n = U ∧ 0 % pw n = V) ∧ wr = ((v1.alloc (.cells (nw 9 U) 25)).alloc (.cells (nw 9 V) 25))) (fun i _ => 9 - (intOf i).toNat)
      case atStart => exact ⟨0, 0, 0, by omega, rfl, fun _ => ⟨by rw [pw_zero, Nat.mod_one], by rw [pw_zero, Nat.mod_one]⟩, rfl⟩
      case round =>
        obtain ⟨n, U, V, hn, rfl, HU, rfl⟩ := hrel
        have HL : Hid (Unit → U < pw n ∧ V < pw n) := fun _ => by rw [← (HU.out ()).1, ← (HU.out ()).2]; exact ⟨Nat.mod_lt _ (pw_pos n), Nat.mod_lt _ (pw_pos n)⟩
        by_cases hlt : n < 9
        · have n0 : (0 : Int) ≤ (n : Int) := by omega
          have n1 : (n : Int) < 9 := by omega
          have n18 : n < 18 := by omega
          have ga : v1.cell? ⟨b10, n, none⟩ = some (.int .u64 ((wd bb n : Nat) : Int)) := by rw [cell_blk, y10]; exact nw_get 18 bb n n18
          have gb : v1.cell? ⟨b11, n, none⟩ = some (.int .u64 ((wd 0 n : Nat) : Int)) := by rw [cell_blk, y11]; exact nw_get 18 0 n n18
          have gu := nw_get 9 U n hlt
          have gv := nw_get 9 V n hlt
          clear hn
          go_wp2_with fail
          go_roundw
          case rel =>
            refine ⟨n + 1, U + wd bb n * pw n, V + wd 0 n * pw n, by omega, by go_num, fun _ => ⟨by rw [← (HU.out ()).1]; exact mod_succ bb n, by rw [← (HU.out ()).2]; exact mod_succ 0 n⟩, ?_⟩
            rw [nw_set_top 9 U n (wd bb n) (wd_lt _ _) (HL.out ()).1, nw_set_top 9 V n (wd 0 n) (wd_lt _ _) (HL.out ()).2]
          case measure => simp [intOf]; omega
        · have hni : ¬ (n : Int) < 9 := by omega
          obtain rfl : n = 9 := by omega
          obtain rfl : U = bb := by rw [← (HU.out ()).1]; exact Nat.mod_eq_of_lt (HB.out ()).1
          obtain rfl : V = 0 := by rw [← (HU.out ()).2]; exact Nat.mod_eq_of_lt (HB.out ()).2
          clear hlt hn HU HL
          go_wp2_with (first
            | (go_at_call 24; refine (I2.out _).mono ?_; rintro e w' ⟨rfl, g2, rfl⟩)
            | (go_at_call 16; refine (num_any _ _).mono ?_; rintro e w' ⟨rfl, rfl⟩))
          go_ret
          exact ⟨rfl, by repeat (first | exact HG9.out | apply Gr.drewN | apply Gr.drew | apply Gr.alloc | apply Gr.gro)⟩

set_option maxRecDepth 100000 in
set_option maxHeartbeats 2400000 in
theorem dinv_sn (a m kk xa xm bb cc x : Nat) (part κ : Int) (k1 : bits BinOp.and IntKind.i64 part 31 = κ) (k2 : 2 + κ = (kk : Int)) (k3 : IntKind.u64.wrap (kk : Int) = (kk : Int)) (k4 : IntKind.i64.wrap (kk : Int) = (kk : Int)) (hb : bb < M) (hc : cc < M) (e0 : eqN 9 cc 0 = false) (o1 : ∀ w, Calls Try.prog 30 #[.int .u64 1] w fun e w' => e = .returned (.agg (nw 9 1)) ∧ Gr w w') (okk : ∀ w, Calls Try.prog 30 #[.int .u64 (kk : Int)] w fun e w' => e = .returned (.agg (nw 9 kk)) ∧ Gr w w') (cx : ∀ w, Calls Try.prog 31 #[.agg (nw 9 a), .int .i64 500] w fun e w' => e = .returned (.agg (nw 9 xa)) ∧ Gr w w') (cy : ∀ w, Calls Try.prog 31 #[.agg (nw 9 m), .int .i64 500] w fun e w' => e = .returned (.agg (nw 9 xm)) ∧ Gr w w') (mx : ∀ w, Calls Try.prog 27 #[.agg (nw 9 xa), .agg (nw 9 kk)] w fun e w' => e = .returned (.agg (nw 18 bb)) ∧ Gr w w') (my : ∀ w, Calls Try.prog 27 #[.agg (nw 9 xm), .agg (nw 9 kk)] w fun e w' => e = .returned (.agg (nw 18 cc)) ∧ Gr w w') (i2 : ∀ w, Calls Try.prog 24 #[.agg (nw 9 bb), .agg (nw 9 cc)] w fun e w' => e = .returned (.tuple #[.agg (nw 9 0), .int .i64 401]) ∧ Gr w w') (i1 : ∀ w, Calls Try.prog 24 #[.agg (nw 9 a), .agg (nw 9 m)] w fun e w' => e = .returned (.tuple #[.agg (nw 9 x), .int .i64 0]) ∧ Gr w w') (mm : ∀ w, Calls Try.prog 14 #[.agg (nw 9 a), .agg (nw 9 x), .agg (nw 9 m)] w fun e w' => e = .returned (.tuple #[.agg (nw 9 1), .int .i64 0]) ∧ Gr w w') (cz : ∀ w, Calls Try.prog 29 #[.agg (nw 9 x), .agg (nw 9 m)] w fun e w' => e = .returned (.int .i64 (-1)) ∧ Gr w w') (w : World) :
    Calls Try.prog 6 #[.agg (nw 9 a), .agg (nw 9 m), .int .i64 part] w fun e w' => e = .returned (.bool true) ∧ Gr w w' := by
  have O1 : Hid (∀ w, Calls Try.prog 30 #[.int .u64 1] w fun e w' => e = .returned (.agg (nw 9 1)) ∧ Gr w w') := o1
  have OK : Hid (∀ w, Calls Try.prog 30 #[.int .u64 (kk : Int)] w fun e w' => e = .returned (.agg (nw 9 kk)) ∧ Gr w w') := okk
  have CX : Hid (∀ w, Calls Try.prog 31 #[.agg (nw 9 a), .int .i64 500] w fun e w' => e = .returned (.agg (nw 9 xa)) ∧ Gr w w') := cx
  have CY : Hid (∀ w, Calls Try.prog 31 #[.agg (nw 9 m), .int .i64 500] w fun e w' => e = .returned (.agg (nw 9 xm)) ∧ Gr w w') := cy
  have MX : Hid (∀ w, Calls Try.prog 27 #[.agg (nw 9 xa), .agg (nw 9 kk)] w fun e w' => e = .returned (.agg (nw 18 bb)) ∧ Gr w w') := mx
  have MY : Hid (∀ w, Calls Try.prog 27 #[.agg (nw 9 xm), .agg (nw 9 kk)] w fun e w' => e = .returned (.agg (nw 18 cc)) ∧ Gr w w') := my
  have I2 : Hid (∀ w, Calls Try.prog 24 #[.agg (nw 9 bb), .agg (nw 9 cc)] w fun e w' => e = .returned (.tuple #[.agg (nw 9 0), .int .i64 401]) ∧ Gr w w') := i2
  have I1 : Hid (∀ w, Calls Try.prog 24 #[.agg (nw 9 a), .agg (nw 9 m)] w fun e w' => e = .returned (.tuple #[.agg (nw 9 x), .int .i64 0]) ∧ Gr w w') := i1
  have MM : Hid (∀ w, Calls Try.prog 14 #[.agg (nw 9 a), .agg (nw 9 x), .agg (nw 9 m)] w fun e w' => e = .returned (.tuple #[.agg (nw 9 1), .int .i64 0]) ∧ Gr w w') := mm
  have CZ : Hid (∀ w, Calls Try.prog 29 #[.agg (nw 9 x), .agg (nw 9 m)] w fun e w' => e = .returned (.int .i64 (-1)) ∧ Gr w w') := cz
  have HB : Hid (Unit → bb < M ∧ cc < M) := fun _ => ⟨hb, hc⟩
  have q1 := eqN_self 9 1
  have q0 := eqN_self 9 0
  clear o1 okk cx cy mx my i2 i1 mm cz hb hc
  go_enter Try.func6, Try.ntmps6
  go_wp2_with (first
    | (go_at_call 17; refine (awake4_any _).mono ?_; rintro e w' ⟨rfl, gaw, rfl⟩)
    | (go_at_call 24; refine (I1.out _).mono ?_; rintro e w' ⟨rfl, gi, rfl⟩)
    | (go_at_call 14; refine (MM.out _).mono ?_; rintro e w' ⟨rfl, gm, rfl⟩)
    | (go_at_call 16; refine (num_any _ _).mono ?_; rintro e w' ⟨rfl, rfl⟩))
  refine wp_region_pred (by kernel_rfl) (by kernel_rfl) [.c (.int .i64 0), .c (.int .i64 0), .c (.bool false), .c (.bool false), .c (.agg (nw 9 1)), .c (.agg (nw 9 1)), .c (.bool false), .c (.bool false), .c (.bool false), .c (.agg (nw 9 x)), .c (.agg (nw 9 m)), .c (.int .i64 (-1)), .c (.bool false), .c (.bool false)] ?hs ?hf
  case hs =>
    intro listed vals a1 v i o hg hR hF ho hd
    have h9 : blk v ((w.heap.size + 1 + 1 + (gaw.os.length + gi.os.length) + 1 + gm.os.length)) = nw 9 1 := (hg.blk ((w.heap.size + 1 + 1 + (gaw.os.length + gi.os.length) + 1 + gm.os.length)) (by simp [go_sem] <;> omega)).trans (by simp [go_sem])
    have ph9 : Pre ((w.heap.size + 1 + 1 + (gaw.os.length + gi.os.length) + 1 + gm.os.length) + 1) v.heap.size := Nat.le_trans (show (w.heap.size + 1 + 1 + (gaw.os.length + gi.os.length) + 1 + gm.os.length) + 1 ≤ _ by simp [go_sem] <;> omega) hg.below.size
    have h7 : blk v ((w.heap.size + 1 + 1 + (gaw.os.length + gi.os.length))) = nw 9 x := (hg.blk ((w.heap.size + 1 + 1 + (gaw.os.length + gi.os.length))) (by simp [go_sem] <;> omega)).trans (by simp [go_sem])
    have ph7 : Pre ((w.heap.size + 1 + 1 + (gaw.os.length + gi.os.length)) + 1) v.heap.size := Nat.le_trans (show (w.heap.size + 1 + 1 + (gaw.os.length + gi.os.length)) + 1 ≤ _ by simp [go_sem] <;> omega) hg.below.size
    have h4 : blk v (w.heap.size + 1) = nw 9 m := (hg.blk (w.heap.size + 1) (by simp [go_sem] <;> omega)).trans (by simp [go_sem])
    have ph4 : Pre (w.heap.size + 1 + 1) v.heap.size := Nat.le_trans (show w.heap.size + 1 + 1 ≤ _ by simp [go_sem] <;> omega) hg.below.size
    have h3 : blk v (w.heap.size) = nw 9 a := (hg.blk (w.heap.size) (by simp [go_sem] <;> omega)).trans (by simp [go_sem])
    have ph3 : Pre (w.heap.size + 1) v.heap.size := Nat.le_trans (show w.heap.size + 1 ≤ _ by simp [go_sem] <;> omega) hg.below.size
    have hi : i < 14 := by simpa using (Array.getElem?_eq_some_iff.1 ho).1
    obtain rfl | rfl | rfl | rfl | rfl | rfl | rfl | rfl | rfl | rfl | rfl | rfl | rfl | rfl : i = 0 ∨ i = 1 ∨ i = 2 ∨ i = 3 ∨ i = 4 ∨ i = 5 ∨ i = 6 ∨ i = 7 ∨ i = 8 ∨ i = 9 ∨ i = 10 ∨ i = 11 ∨ i = 12 ∨ i = 13 := by omega
    · obtain rfl := Option.some.inj ho
      have f0 := hF.old (s := 10) (v := .int .i64 0) (by kernel_rfl) rfl
      refine Or.inl ⟨wanted_no rfl, ?_⟩
      exact wp_val (.int .i64 0) (by simp [go_sem, f0]) ⟨_, rfl, Gr.refl _, rfl⟩
    · obtain rfl := Option.some.inj ho
      have l0 := on_of hd 0 (by kernel_rfl)
      have f0 := hF.at (s := 37) (i := 0) (by kernel_rfl) (by simp) l0
      rw [show vals 0 = .int .i64 0 from hR 0 l0] at f0
      refine Or.inl ⟨wanted_no rfl, ?_⟩
      exact wp_ret (.int .i64 0) (by simp [go_sem, f0]) (num_gr _ _) (fun w2 hg2 => ⟨_, rfl, hg2, rfl⟩)
    · obtain rfl := Option.some.inj ho
      have l0 := on_of hd 1 (by kernel_rfl)
      have f0 := hF.at (s := 38) (i := 1) (by kernel_rfl) (by simp) l0
      rw [show vals 1 = .int .i64 0 from hR 1 l0] at f0
      refine Or.inl ⟨wanted_no rfl, ?_⟩
      exact wp_val (.bool false) (by simp [go_sem, f0]) ⟨_, rfl, Gr.refl _, rfl⟩
    · obtain rfl := Option.some.inj ho
      have l0 := on_of hd 2 (by kernel_rfl)
      have f0 := hF.at (s := 39) (i := 2) (by kernel_rfl) (by simp) l0
      rw [show vals 2 = .bool false from hR 2 l0] at f0
      refine Or.inl ⟨wanted_no rfl, ?_⟩
      exact wp_val (.bool false) (by simp [go_sem, f0]) ⟨_, rfl, Gr.refl _, rfl⟩
    · obtain rfl := Option.some.inj ho
      have lg := on_of hd 3 (by kernel_rfl)
      have fg := hF.at (s := 40) (i := 3) (by kernel_rfl) (by simp) lg
      rw [show vals 3 = .bool false from hR 3 lg] at fg
      have f0 := hF.old (s := 9) (v := .pointer (some ⟨(w.heap.size + 1 + 1 + (gaw.os.length + gi.os.length) + 1 + gm.os.length), 0, none⟩)) (by kernel_rfl) rfl
      refine Or.inl ⟨wanted_at (j := 3) (s := 40) rfl rfl rfl fg, ?_⟩
      exact wp_val (.agg (nw 9 1)) (by simp [go_sem, f0, h9]) ⟨_, rfl, Gr.refl _, rfl⟩
    · obtain rfl := Option.some.inj ho
      have lg := on_of hd 3 (by kernel_rfl)
      have fg := hF.at (s := 40) (i := 3) (by kernel_rfl) (by simp) lg
      rw [show vals 3 = .bool false from hR 3 lg] at fg
      refine Or.inl ⟨wanted_at (j := 3) (s := 40) rfl rfl rfl fg, ?_⟩
      exact wp_ret (.agg (nw 9 1)) (by simp [go_sem]) (O1.out _) (fun w2 hg2 => ⟨_, rfl, hg2, rfl⟩)
    · obtain rfl := Option.some.inj ho
      have lg := on_of hd 3 (by kernel_rfl)
      have fg := hF.at (s := 40) (i := 3) (by kernel_rfl) (by simp) lg
      rw [show vals 3 = .bool false from hR 3 lg] at fg
      have l0 := on_of hd 4 (by kernel_rfl)
      have f0 := hF.at (s := 41) (i := 4) (by kernel_rfl) (by simp) l0
      rw [show vals 4 = .agg (nw 9 1) from hR 4 l0] at f0
      have l1 := on_of hd 5 (by kernel_rfl)
      have f1 := hF.at (s := 42) (i := 5) (by kernel_rfl) (by simp) l1
      rw [show vals 5 = .agg (nw 9 1) from hR 5 l1] at f1
      refine Or.inl ⟨wanted_at (j := 3) (s := 40) rfl rfl rfl fg, ?_⟩
      exact wp_val (.bool false) (by simp [go_sem, f0, f1]) ⟨_, rfl, Gr.refl _, rfl⟩
    · obtain rfl := Option.some.inj ho
      have l0 := on_of hd 3 (by kernel_rfl)
      have f0 := hF.at (s := 40) (i := 3) (by kernel_rfl) (by simp) l0
      rw [show vals 3 = .bool false from hR 3 l0] at f0
      have l1 := on_of hd 6 (by kernel_rfl)
      have f1 := hF.at (s := 43) (i := 6) (by kernel_rfl) (by simp) l1
      rw [show vals 6 = .bool false from hR 6 l1] at f1
      refine Or.inl ⟨wanted_no rfl, ?_⟩
      exact wp_val (.bool false) (by simp [go_sem, f0, f1]) ⟨_, rfl, Gr.refl _, rfl⟩
    · obtain rfl := Option.some.inj ho
      have l0 := on_of hd 7 (by kernel_rfl)
      have f0 := hF.at (s := 44) (i := 7) (by kernel_rfl) (by simp) l0
      rw [show vals 7 = .bool false from hR 7 l0] at f0
      refine Or.inl ⟨wanted_no rfl, ?_⟩
      exact wp_val (.bool false) (by simp [go_sem, f0]) ⟨_, rfl, Gr.refl _, rfl⟩
    · obtain rfl := Option.some.inj ho
      have lg := on_of hd 8 (by kernel_rfl)
      have fg := hF.at (s := 45) (i := 8) (by kernel_rfl) (by simp) lg
      rw [show vals 8 = .bool false from hR 8 lg] at fg
      have f0 := hF.old (s := 7) (v := .pointer (some ⟨(w.heap.size + 1 + 1 + (gaw.os.length + gi.os.length)), 0, none⟩)) (by kernel_rfl) rfl
      refine Or.inl ⟨wanted_at (j := 8) (s := 45) rfl rfl rfl fg, ?_⟩
      exact wp_val (.agg (nw 9 x)) (by simp [go_sem, f0, h7]) ⟨_, rfl, Gr.refl _, rfl⟩
    · obtain rfl := Option.some.inj ho
      have lg := on_of hd 8 (by kernel_rfl)
      have fg := hF.at (s := 45) (i := 8) (by kernel_rfl) (by simp) lg
      rw [show vals 8 = .bool false from hR 8 lg] at fg
      have f0 := hF.old (s := 4) (v := .pointer (some ⟨w.heap.size + 1, 0, none⟩)) (by kernel_rfl) rfl
      refine Or.inl ⟨wanted_at (j := 8) (s := 45) rfl rfl rfl fg, ?_⟩
      exact wp_val (.agg (nw 9 m)) (by simp [go_sem, f0, h4]) ⟨_, rfl, Gr.refl _, rfl⟩
    · obtain rfl := Option.some.inj ho
      have lg := on_of hd 8 (by kernel_rfl)
      have fg := hF.at (s := 45) (i := 8) (by kernel_rfl) (by simp) lg
      rw [show vals 8 = .bool false from hR 8 lg] at fg
      have l0 := on_of hd 9 (by kernel_rfl)
      have f0 := hF.at (s := 46) (i := 9) (by kernel_rfl) (by simp) l0
      rw [show vals 9 = .agg (nw 9 x) from hR 9 l0] at f0
      have l1 := on_of hd 10 (by kernel_rfl)
      have f1 := hF.at (s := 47) (i := 10) (by kernel_rfl) (by simp) l1
      rw [show vals 10 = .agg (nw 9 m) from hR 10 l1] at f1
      refine Or.inl ⟨wanted_at (j := 8) (s := 45) rfl rfl rfl fg, ?_⟩
      exact wp_ret (.int .i64 (-1)) (by simp [go_sem, f0, f1]) (CZ.out _) (fun w2 hg2 => ⟨_, rfl, hg2, rfl⟩)
    · obtain rfl := Option.some.inj ho
      have lg := on_of hd 8 (by kernel_rfl)
      have fg := hF.at (s := 45) (i := 8) (by kernel_rfl) (by simp) lg
      rw [show vals 8 = .bool false from hR 8 lg] at fg
      have l0 := on_of hd 11 (by kernel_rfl)
      have f0 := hF.at (s := 48) (i := 11) (by kernel_rfl) (by simp) l0
      rw [show vals 11 = .int .i64 (-1) from hR 11 l0] at f0
      refine Or.inl ⟨wanted_at (j := 8) (s := 45) rfl rfl rfl fg, ?_⟩
      exact wp_val (.bool false) (by simp [go_sem, f0]) ⟨_, rfl, Gr.refl _, rfl⟩
    · obtain rfl := Option.some.inj ho
      have l0 := on_of hd 8 (by kernel_rfl)
      have f0 := hF.at (s := 45) (i := 8) (by kernel_rfl) (by simp) l0
      rw [show vals 8 = .bool false from hR 8 l0] at f0
      have l1 := on_of hd 12 (by kernel_rfl)
      have f1 := hF.at (s := 49) (i := 12) (by kernel_rfl) (by simp) l1
      rw [show vals 12 = .bool false from hR 12 l1] at f1
      refine Or.inl ⟨wanted_no rfl, ?_⟩
      exact wp_val (.bool false) (by simp [go_sem, f0, f1]) ⟨_, rfl, Gr.refl _, rfl⟩
  case hf =>
    intro vals v hg hR
    have h9 : blk v ((w.heap.size + 1 + 1 + (gaw.os.length + gi.os.length) + 1 + gm.os.length)) = nw 9 1 := (hg.blk ((w.heap.size + 1 + 1 + (gaw.os.length + gi.os.length) + 1 + gm.os.length)) (by simp [go_sem] <;> omega)).trans (by simp [go_sem])
    have ph9 : Pre ((w.heap.size + 1 + 1 + (gaw.os.length + gi.os.length) + 1 + gm.os.length) + 1) v.heap.size := Nat.le_trans (show (w.heap.size + 1 + 1 + (gaw.os.length + gi.os.length) + 1 + gm.os.length) + 1 ≤ _ by simp [go_sem] <;> omega) hg.below.size
    have h7 : blk v ((w.heap.size + 1 + 1 + (gaw.os.length + gi.os.length))) = nw 9 x := (hg.blk ((w.heap.size + 1 + 1 + (gaw.os.length + gi.os.length))) (by simp [go_sem] <;> omega)).trans (by simp [go_sem])
    have ph7 : Pre ((w.heap.size + 1 + 1 + (gaw.os.length + gi.os.length)) + 1) v.heap.size := Nat.le_trans (show (w.heap.size + 1 + 1 + (gaw.os.length + gi.os.length)) + 1 ≤ _ by simp [go_sem] <;> omega) hg.below.size
    have h4 : blk v (w.heap.size + 1) = nw 9 m := (hg.blk (w.heap.size + 1) (by simp [go_sem] <;> omega)).trans (by simp [go_sem])
    have ph4 : Pre (w.heap.size + 1 + 1) v.heap.size := Nat.le_trans (show w.heap.size + 1 + 1 ≤ _ by simp [go_sem] <;> omega) hg.below.size
    have h3 : blk v (w.heap.size) = nw 9 a := (hg.blk (w.heap.size) (by simp [go_sem] <;> omega)).trans (by simp [go_sem])
    have ph3 : Pre (w.heap.size + 1) v.heap.size := Nat.le_trans (show w.heap.size + 1 ≤ _ by simp [go_sem] <;> omega) hg.below.size
    have x0 : vals 0 = .int .i64 0 := hR 0 (by simp)
    have x1 : vals 1 = .int .i64 0 := hR 1 (by simp)
    have x2 : vals 2 = .bool false := hR 2 (by simp)
    have x3 : vals 3 = .bool false := hR 3 (by simp)
    have x4 : vals 4 = .agg (nw 9 1) := hR 4 (by simp)
    have x5 : vals 5 = .agg (nw 9 1) := hR 5 (by simp)
    have x6 : vals 6 = .bool false := hR 6 (by simp)
    have x7 : vals 7 = .bool false := hR 7 (by simp)
    have x8 : vals 8 = .bool false := hR 8 (by simp)
    have x9 : vals 9 = .agg (nw 9 x) := hR 9 (by simp)
    have x10 : vals 10 = .agg (nw 9 m) := hR 10 (by simp)
    have x11 : vals 11 = .int .i64 (-1) := hR 11 (by simp)
    have x12 : vals 12 = .bool false := hR 12 (by simp)
    have x13 : vals 13 = .bool false := hR 13 (by simp)
    simp only [putFrom, Act.put, List.setIfInBounds_toArray, List.set_cons_zero, List.set_cons_succ, x0, x1, x2, x3, x4, x5, x6, x7, x8, x9, x10, x11, x12, x13]
    clear hR x0 x1 x2 x3 x4 x5 x6 x7 x8 x9 x10 x11 x12 x13
    have HG : Hid (Gr w v) := by show Gr w v; refine Gr.trans ?_ hg; exact (by repeat (first | exact Gr.refl _ | apply Gr.drewN | apply Gr.drew | apply Gr.alloc | apply Gr.gro))
    clear hg h9 h7 ph9 ph7
    go_wp2_with (go_at_call 30; refine (OK.out _).mono ?_; rintro e w' ⟨rfl, gk, rfl⟩)
    refine wp_region_mix (by kernel_rfl) (by kernel_rfl) (RG _ (fun i => match i with | 0 => some (.pointer (some ⟨w.heap.size, 0, none⟩)) | 1 => some (.agg (nw 9 a)) | 2 => some (.agg (nw 9 xa)) | 3 => some (.agg (nw 9 kk)) | 4 => some (.agg (nw 18 bb)) | 5 => some (.pointer (some ⟨w.heap.size + 1, 0, none⟩)) | 6 => some (.agg (nw 9 m)) | 7 => some (.agg (nw 9 xm)) | 8 => some (.agg (nw 9 kk)) | 9 => some (.agg (nw 18 cc)) | _ => none) (fun i => match i with | 10 => some (nw 18 0) | 11 => some (nw 18 0) | _ => none) (fun i => match i with | 10 => some (12, nw 18 bb) | 11 => some (13, nw 18 cc) | _ => none)) (RG.start _ _ _ _ _ _) ?hs ?hf
    case hs =>
      intro listed vals a1 v1 i o hz hR hF ho hl hd
      have hks : ∀ (j k : Nat) (r : Array Value), (match j with | 10 => some (12, nw 18 bb) | 11 => some (13, nw 18 cc) | _ => (none : Option (Nat × Array Value))) = some (k, r) → (j = 10 ∧ k = 12) ∨ (j = 11 ∧ k = 13) := fun j k r h => by
        split at h <;> simp_all
      have hba : blk v1 (w.heap.size) = nw 9 a := (blk_of _ _ _ (hR.1.below.block (w.heap.size) (by have h : w.heap.size + 1 ≤ v.heap.size := ph3; simp [go_sem]; omega))).trans ((Gr.blk (w := v) (by repeat (first | exact Gr.refl _ | apply Gr.drewN | apply Gr.drew | apply Gr.alloc | apply Gr.gro)) _ ph3).trans h3)
      have hbm : blk v1 (w.heap.size + 1) = nw 9 m := (blk_of _ _ _ (hR.1.below.block (w.heap.size + 1) (by have h : w.heap.size + 1 + 1 ≤ v.heap.size := ph4; simp [go_sem]; omega))).trans ((Gr.blk (w := v) (by repeat (first | exact Gr.refl _ | apply Gr.drewN | apply Gr.drew | apply Gr.alloc | apply Gr.gro)) _ ph4).trans h4)
      have hbk : blk v1 (v.heap.size + gk.os.length) = nw 9 kk := (blk_of _ _ _ (hR.1.below.block (v.heap.size + gk.os.length) (by simp [go_sem] <;> omega))).trans (by simp [go_sem])
      have hi : i < 14 := by simpa using (Array.getElem?_eq_some_iff.1 ho).1
      have hil : i < listed.size := by rw [hz]; simpa using hi
      obtain rfl | rfl | rfl | rfl | rfl | rfl | rfl | rfl | rfl | rfl | rfl | rfl | rfl | rfl : i = 0 ∨ i = 1 ∨ i = 2 ∨ i = 3 ∨ i = 4 ∨ i = 5 ∨ i = 6 ∨ i = 7 ∨ i = 8 ∨ i = 9 ∨ i = 10 ∨ i = 11 ∨ i = 12 ∨ i = 13 := by omega
      · obtain rfl := Option.some.inj ho
        have f0 := hF.old (s := 3) (v := .pointer (some ⟨w.heap.size, 0, none⟩)) (by kernel_rfl) rfl
        exact wp_val (.pointer (some ⟨w.heap.size, 0, none⟩)) (by simp [go_sem, f0]) ⟨_, rfl, RG.quiet 0 _ hil rfl rfl (fun j k r h => by have := hks j k r h; omega) (Gr.refl _) hR⟩
      · obtain rfl := Option.some.inj ho
        have l0 := hd ⟨0, .data⟩ (by simp) rfl
        have f0 := hF.at (s := 56) (i := 0) (by kernel_rfl) (by simp) l0
        rw [hR.2.1 0 _ l0 rfl] at f0
        exact wp_val (.agg (nw 9 a)) (by simp [go_sem, f0, hba]) ⟨_, rfl, RG.quiet 1 _ hil rfl rfl (fun j k r h => by have := hks j k r h; omega) (Gr.refl _) hR⟩
      · obtain rfl := Option.some.inj ho
        have l0 := hd ⟨1, .data⟩ (by simp) rfl
        have f0 := hF.at (s := 57) (i := 1) (by kernel_rfl) (by simp) l0
        rw [hR.2.1 1 _ l0 rfl] at f0
        exact wp_ret (.agg (nw 9 xa)) (by simp [go_sem, f0]) (CX.out _) (fun w2 hg => ⟨_, rfl, RG.quiet 2 _ hil rfl rfl (fun j k r h => by have := hks j k r h; omega) hg hR⟩)
      · obtain rfl := Option.some.inj ho
        have f0 := hF.old (s := 11) (v := .pointer (some ⟨v.heap.size + gk.os.length, 0, none⟩)) (by kernel_rfl) rfl
        exact wp_val (.agg (nw 9 kk)) (by simp [go_sem, f0, hbk]) ⟨_, rfl, RG.quiet 3 _ hil rfl rfl (fun j k r h => by have := hks j k r h; omega) (Gr.refl _) hR⟩
      · obtain rfl := Option.some.inj ho
        have l0 := hd ⟨2, .data⟩ (by simp) rfl
        have f0 := hF.at (s := 58) (i := 2) (by kernel_rfl) (by simp) l0
        rw [hR.2.1 2 _ l0 rfl] at f0
        have l1 := hd ⟨3, .data⟩ (by simp) rfl
        have f1 := hF.at (s := 59) (i := 3) (by kernel_rfl) (by simp) l1
        rw [hR.2.1 3 _ l1 rfl] at f1
        exact wp_ret (.agg (nw 18 bb)) (by simp [go_sem, f0, f1]) (MX.out _) (fun w2 hg => ⟨_, rfl, RG.quiet 4 _ hil rfl rfl (fun j k r h => by have := hks j k r h; omega) hg hR⟩)
      · obtain rfl := Option.some.inj ho
        have f0 := hF.old (s := 4) (v := .pointer (some ⟨w.heap.size + 1, 0, none⟩)) (by kernel_rfl) rfl
        exact wp_val (.pointer (some ⟨w.heap.size + 1, 0, none⟩)) (by simp [go_sem, f0]) ⟨_, rfl, RG.quiet 5 _ hil rfl rfl (fun j k r h => by have := hks j k r h; omega) (Gr.refl _) hR⟩
      · obtain rfl := Option.some.inj ho
        have l0 := hd ⟨5, .data⟩ (by simp) rfl
        have f0 := hF.at (s := 61) (i := 5) (by kernel_rfl) (by simp) l0
        rw [hR.2.1 5 _ l0 rfl] at f0
        exact wp_val (.agg (nw 9 m)) (by simp [go_sem, f0, hbm]) ⟨_, rfl, RG.quiet 6 _ hil rfl rfl (fun j k r h => by have := hks j k r h; omega) (Gr.refl _) hR⟩
      · obtain rfl := Option.some.inj ho
        have l0 := hd ⟨6, .data⟩ (by simp) rfl
        have f0 := hF.at (s := 62) (i := 6) (by kernel_rfl) (by simp) l0
        rw [hR.2.1 6 _ l0 rfl] at f0
        exact wp_ret (.agg (nw 9 xm)) (by simp [go_sem, f0]) (CY.out _) (fun w2 hg => ⟨_, rfl, RG.quiet 7 _ hil rfl rfl (fun j k r h => by have := hks j k r h; omega) hg hR⟩)
      · obtain rfl := Option.some.inj ho
        have f0 := hF.old (s := 11) (v := .pointer (some ⟨v.heap.size + gk.os.length, 0, none⟩)) (by kernel_rfl) rfl
        exact wp_val (.agg (nw 9 kk)) (by simp [go_sem, f0, hbk]) ⟨_, rfl, RG.quiet 8 _ hil rfl rfl (fun j k r h => by have := hks j k r h; omega) (Gr.refl _) hR⟩
      · obtain rfl := Option.some.inj ho
        have l0 := hd ⟨7, .data⟩ (by simp) rfl
        have f0 := hF.at (s := 63) (i := 7) (by kernel_rfl) (by simp) l0
        rw [hR.2.1 7 _ l0 rfl] at f0
        have l1 := hd ⟨8, .data⟩ (by simp) rfl
        have f1 := hF.at (s := 64) (i := 8) (by kernel_rfl) (by simp) l1
        rw [hR.2.1 8 _ l1 rfl] at f1
        exact wp_ret (.agg (nw 18 cc)) (by simp [go_sem, f0, f1]) (MY.out _) (fun w2 hg => ⟨_, rfl, RG.quiet 9 _ hil rfl rfl (fun j k r h => by have := hks j k r h; omega) hg hR⟩)
      · obtain rfl := Option.some.inj ho
        exact wp_val (.pointer (some ⟨v1.heap.size, 0, none⟩)) (w' := v1.alloc (.cells (nw 18 0) 28)) (by simp [go_sem]) ⟨_, rfl, RG.alloc 10 (nw 18 0) 28 hil hl rfl rfl (fun j k r h => by have := hks j k r h; omega) hR⟩
      · obtain rfl := Option.some.inj ho
        exact wp_val (.pointer (some ⟨v1.heap.size, 0, none⟩)) (w' := v1.alloc (.cells (nw 18 0) 28)) (by simp [go_sem]) ⟨_, rfl, RG.alloc 11 (nw 18 0) 28 hil hl rfl rfl (fun j k r h => by have := hks j k r h; omega) hR⟩
      · obtain rfl := Option.some.inj ho
        have l0 := hd ⟨10, .data⟩ (by simp) rfl
        have l1 := hd ⟨4, .data⟩ (by simp) rfl
        obtain ⟨B, h4, h5⟩ := hR.2.2.2
        obtain ⟨e1, e2, e3, e4, e5⟩ := h4 10 (nw 18 0) l0 rfl
        simp only [hl] at e5
        replace e5 : blk v1 (B 10) = nw 18 0 := e5
        have f0 := hF.at (s := 12) (i := 10) (by kernel_rfl) (by simp) l0
        rw [e1] at f0
        have f1 := hF.at (s := 60) (i := 4) (by kernel_rfl) (by simp) l1
        rw [hR.2.1 4 _ l1 rfl] at f1
        exact wp_skip (w' := setBlk v1 (B 10) (nw 18 bb)) (by simp [go_sem, f0, f1, e4, e5]) ⟨undef, rfl, RG.store 12 10 (nw 18 0) (nw 18 bb) (B 10) hil hl rfl rfl rfl l0 rfl (by rw [nw_size]; decide) e1 (fun k r h => by have := hks k _ r h; omega) hR⟩
      · obtain rfl := Option.some.inj ho
        have l0 := hd ⟨11, .data⟩ (by simp) rfl
        have l1 := hd ⟨9, .data⟩ (by simp) rfl
        obtain ⟨B, h4, h5⟩ := hR.2.2.2
        obtain ⟨e1, e2, e3, e4, e5⟩ := h4 11 (nw 18 0) l0 rfl
        simp only [hl] at e5
        replace e5 : blk v1 (B 11) = nw 18 0 := e5
        have f0 := hF.at (s := 13) (i := 11) (by kernel_rfl) (by simp) l0
        rw [e1] at f0
        have f1 := hF.at (s := 65) (i := 9) (by kernel_rfl) (by simp) l1
        rw [hR.2.1 9 _ l1 rfl] at f1
        exact wp_skip (w' := setBlk v1 (B 11) (nw 18 cc)) (by simp [go_sem, f0, f1, e4, e5]) ⟨undef, rfl, RG.store 13 11 (nw 18 0) (nw 18 cc) (B 11) hil hl rfl rfl rfl l0 rfl (by rw [nw_size]; decide) e1 (fun k r h => by have := hks k _ r h; omega) hR⟩
    case hf =>
      intro listed vals a1 v1 hall hR hF
      have hba : blk v1 (w.heap.size) = nw 9 a := (blk_of _ _ _ (hR.1.below.block (w.heap.size) (by have h : w.heap.size + 1 ≤ v.heap.size := ph3; simp [go_sem]; omega))).trans ((Gr.blk (w := v) (by repeat (first | exact Gr.refl _ | apply Gr.drewN | apply Gr.drew | apply Gr.alloc | apply Gr.gro)) _ ph3).trans h3)
      have phba : Pre (w.heap.size + 1) v1.heap.size := Nat.le_trans (show w.heap.size + 1 ≤ _ from by have h : w.heap.size + 1 ≤ v.heap.size := ph3; simp [go_sem]; omega) hR.1.below.size
      have hbm : blk v1 (w.heap.size + 1) = nw 9 m := (blk_of _ _ _ (hR.1.below.block (w.heap.size + 1) (by have h : w.heap.size + 1 + 1 ≤ v.heap.size := ph4; simp [go_sem]; omega))).trans ((Gr.blk (w := v) (by repeat (first | exact Gr.refl _ | apply Gr.drewN | apply Gr.drew | apply Gr.alloc | apply Gr.gro)) _ ph4).trans h4)
      have phbm : Pre (w.heap.size + 1 + 1) v1.heap.size := Nat.le_trans (show w.heap.size + 1 + 1 ≤ _ from by have h : w.heap.size + 1 + 1 ≤ v.heap.size := ph4; simp [go_sem]; omega) hR.1.below.size
      have hbk : blk v1 (v.heap.size + gk.os.length) = nw 9 kk := (blk_of _ _ _ (hR.1.below.block (v.heap.size + gk.os.length) (by simp [go_sem] <;> omega))).trans (by simp [go_sem])
      have phbk : Pre (v.heap.size + gk.os.length + 1) v1.heap.size := Nat.le_trans (show v.heap.size + gk.os.length + 1 ≤ _ from by simp [go_sem] <;> omega) hR.1.below.size
      have hV := hR.2.1
      obtain ⟨B, h4, h5⟩ := hR.2.2.2
      have x0 := hV 0 _ (hall 0 (by simp)) rfl
      have x1 := hV 1 _ (hall 1 (by simp)) rfl
      have x2 := hV 2 _ (hall 2 (by simp)) rfl
      have x3 := hV 3 _ (hall 3 (by simp)) rfl
      have x4 := hV 4 _ (hall 4 (by simp)) rfl
      have x5 := hV 5 _ (hall 5 (by simp)) rfl
      have x6 := hV 6 _ (hall 6 (by simp)) rfl
      have x7 := hV 7 _ (hall 7 (by simp)) rfl
      have x8 := hV 8 _ (hall 8 (by simp)) rfl
      have x9 := hV 9 _ (hall 9 (by simp)) rfl
      obtain ⟨x10, q10, p10, z10, y10⟩ := h4 10 _ (hall 10 (by simp)) rfl
      simp only [hall 12 (by simp), if_true] at y10
      replace p10 : Pre (B 10 + 1) v1.heap.size := p10
      replace y10 : blk v1 (B 10) = nw 18 bb := y10
      obtain ⟨x11, q11, p11, z11, y11⟩ := h4 11 _ (hall 11 (by simp)) rfl
      simp only [hall 13 (by simp), if_true] at y11
      replace p11 : Pre (B 11 + 1) v1.heap.size := p11
      replace y11 : blk v1 (B 11) = nw 18 cc := y11
      have hb1 := hR.1
      rw [hF.final (by kernel_rfl) hall]
      simp only [putFrom, Act.put, List.setIfInBounds_toArray, List.set_cons_zero, List.set_cons_succ, x0, x1, x2, x3, x4, x5, x6, x7, x8, x9, x10, x11]
      generalize B 10 = b10 at *
      generalize B 11 = b11 at *
      clear hV h4 h5 hR hF hall x0 x1 x2 x3 x4 x5 x6 x7 x8 x9 x10 x11
      have HG9 : Hid (Gr w v1) := HG.out.trans (Gr.trans (by repeat (first | exact Gr.refl _ | apply Gr.drewN | apply Gr.drew | apply Gr.alloc | apply Gr.gro)) hb1)
      clear hb1 hba hbm hbk phba phbm phbk q10 q11 HG h3 h4 ph3 ph4
      go_wp2_with fail
      go_loopw [16] (fun i wr => ∃ (n U V : Nat), n ≤ 9 ∧ i = .int .i64 (n : Int) ∧ Hid (Unit → bb % pw n = U ∧ cc % pw n = V) ∧ wr = ((v1.alloc (.cells (nw 9 U) 25)).alloc (.cells (nw 9 V) 25))) (fun i _ => 9 - (intOf i).toNat)
      case atStart => exact ⟨0, 0, 0, by omega, rfl, fun _ => ⟨by rw [pw_zero, Nat.mod_one], by rw [pw_zero, Nat.mod_one]⟩, rfl⟩
      case round =>
        obtain ⟨n, U, V, hn, rfl, HU, rfl⟩ := hrel
        have HL : Hid (Unit → U < pw n ∧ V < pw n) := fun _ => by rw [← (HU.out ()).1, ← (HU.out ()).2]; exact ⟨Nat.mod_lt _ (pw_pos n), Nat.mod_lt _ (pw_pos n)⟩
        by_cases hlt : n < 9
        · have n0 : (0 : Int) ≤ (n : Int) := by omega
          have n1 : (n : Int) < 9 := by omega
          have n18 : n < 18 := by omega
          have ga : v1.cell? ⟨b10, n, none⟩ = some (.int .u64 ((wd bb n : Nat) : Int)) := by rw [cell_blk, y10]; exact nw_get 18 bb n n18
          have gb : v1.cell? ⟨b11, n, none⟩ = some (.int .u64 ((wd cc n : Nat) : Int)) := by rw [cell_blk, y11]; exact nw_get 18 cc n n18
          have gu := nw_get 9 U n hlt
          have gv := nw_get 9 V n hlt
          clear hn
          go_wp2_with fail
          go_roundw
          case rel =>
            refine ⟨n + 1, U + wd bb n * pw n, V + wd cc n * pw n, by omega, by go_num, fun _ => ⟨by rw [← (HU.out ()).1]; exact mod_succ bb n, by rw [← (HU.out ()).2]; exact mod_succ cc n⟩, ?_⟩
            rw [nw_set_top 9 U n (wd bb n) (wd_lt _ _) (HL.out ()).1, nw_set_top 9 V n (wd cc n) (wd_lt _ _) (HL.out ()).2]
          case measure => simp [intOf]; omega
        · have hni : ¬ (n : Int) < 9 := by omega
          obtain rfl : n = 9 := by omega
          obtain rfl : U = bb := by rw [← (HU.out ()).1]; exact Nat.mod_eq_of_lt (HB.out ()).1
          obtain rfl : V = cc := by rw [← (HU.out ()).2]; exact Nat.mod_eq_of_lt (HB.out ()).2
          clear hlt hn HU HL
          go_wp2_with (first
            | (go_at_call 24; refine (I2.out _).mono ?_; rintro e w' ⟨rfl, g2, rfl⟩)
            | (go_at_call 16; refine (num_any _ _).mono ?_; rintro e w' ⟨rfl, rfl⟩))
          go_ret
          exact ⟨rfl, by repeat (first | exact HG9.out | apply Gr.drewN | apply Gr.drew | apply Gr.alloc | apply Gr.gro)⟩

set_option maxRecDepth 100000 in
set_option maxHeartbeats 2400000 in
theorem dinv_nz (a m kk xa xm bb : Nat) (part κ err : Int) (her : (err == 0) = false) (k1 : bits BinOp.and IntKind.i64 part 31 = κ) (k2 : 2 + κ = (kk : Int)) (k3 : IntKind.u64.wrap (kk : Int) = (kk : Int)) (k4 : IntKind.i64.wrap (kk : Int) = (kk : Int)) (hb : bb < M) (hc : 0 < M) (o1 : ∀ w, Calls Try.prog 30 #[.int .u64 1] w fun e w' => e = .returned (.agg (nw 9 1)) ∧ Gr w w') (okk : ∀ w, Calls Try.prog 30 #[.int .u64 (kk : Int)] w fun e w' => e = .returned (.agg (nw 9 kk)) ∧ Gr w w') (cx : ∀ w, Calls Try.prog 31 #[.agg (nw 9 a), .int .i64 500] w fun e w' => e = .returned (.agg (nw 9 xa)) ∧ Gr w w') (cy : ∀ w, Calls Try.prog 31 #[.agg (nw 9 m), .int .i64 500] w fun e w' => e = .returned (.agg (nw 9 xm)) ∧ Gr w w') (mx : ∀ w, Calls Try.prog 27 #[.agg (nw 9 xa), .agg (nw 9 kk)] w fun e w' => e = .returned (.agg (nw 18 bb)) ∧ Gr w w') (my : ∀ w, Calls Try.prog 27 #[.agg (nw 9 xm), .agg (nw 9 kk)] w fun e w' => e = .returned (.agg (nw 18 0)) ∧ Gr w w') (i2 : ∀ w, Calls Try.prog 24 #[.agg (nw 9 bb), .agg (nw 9 0)] w fun e w' => e = .returned (.tuple #[.agg (nw 9 0), .int .i64 400]) ∧ Gr w w') (i1 : ∀ w, Calls Try.prog 24 #[.agg (nw 9 a), .agg (nw 9 m)] w fun e w' => e = .returned (.tuple #[.agg (nw 9 0), .int .i64 err]) ∧ Gr w w') (w : World) :
    Calls Try.prog 6 #[.agg (nw 9 a), .agg (nw 9 m), .int .i64 part] w fun e w' => e = .returned (.bool true) ∧ Gr w w' := by
  have O1 : Hid (∀ w, Calls Try.prog 30 #[.int .u64 1] w fun e w' => e = .returned (.agg (nw 9 1)) ∧ Gr w w') := o1
  have OK : Hid (∀ w, Calls Try.prog 30 #[.int .u64 (kk : Int)] w fun e w' => e = .returned (.agg (nw 9 kk)) ∧ Gr w w') := okk
  have CX : Hid (∀ w, Calls Try.prog 31 #[.agg (nw 9 a), .int .i64 500] w fun e w' => e = .returned (.agg (nw 9 xa)) ∧ Gr w w') := cx
  have CY : Hid (∀ w, Calls Try.prog 31 #[.agg (nw 9 m), .int .i64 500] w fun e w' => e = .returned (.agg (nw 9 xm)) ∧ Gr w w') := cy
  have MX : Hid (∀ w, Calls Try.prog 27 #[.agg (nw 9 xa), .agg (nw 9 kk)] w fun e w' => e = .returned (.agg (nw 18 bb)) ∧ Gr w w') := mx
  have MY : Hid (∀ w, Calls Try.prog 27 #[.agg (nw 9 xm), .agg (nw 9 kk)] w fun e w' => e = .returned (.agg (nw 18 0)) ∧ Gr w w') := my
  have I2 : Hid (∀ w, Calls Try.prog 24 #[.agg (nw 9 bb), .agg (nw 9 0)] w fun e w' => e = .returned (.tuple #[.agg (nw 9 0), .int .i64 400]) ∧ Gr w w') := i2
  have I1 : Hid (∀ w, Calls Try.prog 24 #[.agg (nw 9 a), .agg (nw 9 m)] w fun e w' => e = .returned (.tuple #[.agg (nw 9 0), .int .i64 err]) ∧ Gr w w') := i1
  have HB : Hid (Unit → bb < M ∧ 0 < M) := fun _ => ⟨hb, hc⟩
  have q1 := eqN_self 9 1
  have q0 := eqN_self 9 0
  clear o1 okk cx cy mx my i2 i1 hb hc
  go_enter Try.func6, Try.ntmps6
  go_wp2_with (first
    | (go_at_call 17; refine (awake4_any _).mono ?_; rintro e w' ⟨rfl, gaw, rfl⟩)
    | (go_at_call 24; refine (I1.out _).mono ?_; rintro e w' ⟨rfl, gi, rfl⟩)
    | (go_at_call 30; refine (OK.out _).mono ?_; rintro e w' ⟨rfl, gk, rfl⟩)
    | (go_at_call 16; refine (num_any _ _).mono ?_; rintro e w' ⟨rfl, rfl⟩))
  refine wp_region_mix (by kernel_rfl) (by kernel_rfl) (RG _ (fun i => match i with | 0 => some (.pointer (some ⟨w.heap.size, 0, none⟩)) | 1 => some (.agg (nw 9 a)) | 2 => some (.agg (nw 9 xa)) | 3 => some (.agg (nw 9 kk)) | 4 => some (.agg (nw 18 bb)) | 5 => some (.pointer (some ⟨w.heap.size + 1, 0, none⟩)) | 6 => some (.agg (nw 9 m)) | 7 => some (.agg (nw 9 xm)) | 8 => some (.agg (nw 9 kk)) | 9 => some (.agg (nw 18 0)) | _ => none) (fun i => match i with | 10 => some (nw 18 0) | 11 => some (nw 18 0) | _ => none) (fun i => match i with | 10 => some (12, nw 18 bb) | 11 => some (13, nw 18 0) | _ => none)) (RG.start _ _ _ _ _ _) ?hs ?hf
  case hs =>
    intro listed vals a1 v1 i o hz hR hF ho hl hd
    have hks : ∀ (j k : Nat) (r : Array Value), (match j with | 10 => some (12, nw 18 bb) | 11 => some (13, nw 18 0) | _ => (none : Option (Nat × Array Value))) = some (k, r) → (j = 10 ∧ k = 12) ∨ (j = 11 ∧ k = 13) := fun j k r h => by
      split at h <;> simp_all
    have hba : blk v1 (w.heap.size) = nw 9 a := (blk_of _ _ _ (hR.1.below.block (w.heap.size) (by simp [go_sem] <;> omega))).trans (by simp [go_sem])
    have hbm : blk v1 (w.heap.size + 1) = nw 9 m := (blk_of _ _ _ (hR.1.below.block (w.heap.size + 1) (by simp [go_sem] <;> omega))).trans (by simp [go_sem])
    have hbk : blk v1 ((w.heap.size + 1 + 1 + (gaw.os.length + gi.os.length) + 1 + gk.os.length)) = nw 9 kk := (blk_of _ _ _ (hR.1.below.block ((w.heap.size + 1 + 1 + (gaw.os.length + gi.os.length) + 1 + gk.os.length)) (by simp [go_sem] <;> omega))).trans (by simp [go_sem])
    have hi : i < 14 := by simpa using (Array.getElem?_eq_some_iff.1 ho).1
    have hil : i < listed.size := by rw [hz]; simpa using hi
    obtain rfl | rfl | rfl | rfl | rfl | rfl | rfl | rfl | rfl | rfl | rfl | rfl | rfl | rfl : i = 0 ∨ i = 1 ∨ i = 2 ∨ i = 3 ∨ i = 4 ∨ i = 5 ∨ i = 6 ∨ i = 7 ∨ i = 8 ∨ i = 9 ∨ i = 10 ∨ i = 11 ∨ i = 12 ∨ i = 13 := by omega
    · obtain rfl := Option.some.inj ho
      have f0 := hF.old (s := 3) (v := .pointer (some ⟨w.heap.size, 0, none⟩)) (by kernel_rfl) rfl
      exact wp_val (.pointer (some ⟨w.heap.size, 0, none⟩)) (by simp [go_sem, f0]) ⟨_, rfl, RG.quiet 0 _ hil rfl rfl (fun j k r h => by have := hks j k r h; omega) (Gr.refl _) hR⟩
    · obtain rfl := Option.some.inj ho
      have l0 := hd ⟨0, .data⟩ (by simp) rfl
      have f0 := hF.at (s := 56) (i := 0) (by kernel_rfl) (by simp) l0
      rw [hR.2.1 0 _ l0 rfl] at f0
      exact wp_val (.agg (nw 9 a)) (by simp [go_sem, f0, hba]) ⟨_, rfl, RG.quiet 1 _ hil rfl rfl (fun j k r h => by have := hks j k r h; omega) (Gr.refl _) hR⟩
    · obtain rfl := Option.some.inj ho
      have l0 := hd ⟨1, .data⟩ (by simp) rfl
      have f0 := hF.at (s := 57) (i := 1) (by kernel_rfl) (by simp) l0
      rw [hR.2.1 1 _ l0 rfl] at f0
      exact wp_ret (.agg (nw 9 xa)) (by simp [go_sem, f0]) (CX.out _) (fun w2 hg => ⟨_, rfl, RG.quiet 2 _ hil rfl rfl (fun j k r h => by have := hks j k r h; omega) hg hR⟩)
    · obtain rfl := Option.some.inj ho
      have f0 := hF.old (s := 11) (v := .pointer (some ⟨(w.heap.size + 1 + 1 + (gaw.os.length + gi.os.length) + 1 + gk.os.length), 0, none⟩)) (by kernel_rfl) rfl
      exact wp_val (.agg (nw 9 kk)) (by simp [go_sem, f0, hbk]) ⟨_, rfl, RG.quiet 3 _ hil rfl rfl (fun j k r h => by have := hks j k r h; omega) (Gr.refl _) hR⟩
    · obtain rfl := Option.some.inj ho
      have l0 := hd ⟨2, .data⟩ (by simp) rfl
      have f0 := hF.at (s := 58) (i := 2) (by kernel_rfl) (by simp) l0
      rw [hR.2.1 2 _ l0 rfl] at f0
      have l1 := hd ⟨3, .data⟩ (by simp) rfl
      have f1 := hF.at (s := 59) (i := 3) (by kernel_rfl) (by simp) l1
      rw [hR.2.1 3 _ l1 rfl] at f1
      exact wp_ret (.agg (nw 18 bb)) (by simp [go_sem, f0, f1]) (MX.out _) (fun w2 hg => ⟨_, rfl, RG.quiet 4 _ hil rfl rfl (fun j k r h => by have := hks j k r h; omega) hg hR⟩)
    · obtain rfl := Option.some.inj ho
      have f0 := hF.old (s := 4) (v := .pointer (some ⟨w.heap.size + 1, 0, none⟩)) (by kernel_rfl) rfl
      exact wp_val (.pointer (some ⟨w.heap.size + 1, 0, none⟩)) (by simp [go_sem, f0]) ⟨_, rfl, RG.quiet 5 _ hil rfl rfl (fun j k r h => by have := hks j k r h; omega) (Gr.refl _) hR⟩
    · obtain rfl := Option.some.inj ho
      have l0 := hd ⟨5, .data⟩ (by simp) rfl
      have f0 := hF.at (s := 61) (i := 5) (by kernel_rfl) (by simp) l0
      rw [hR.2.1 5 _ l0 rfl] at f0
      exact wp_val (.agg (nw 9 m)) (by simp [go_sem, f0, hbm]) ⟨_, rfl, RG.quiet 6 _ hil rfl rfl (fun j k r h => by have := hks j k r h; omega) (Gr.refl _) hR⟩
    · obtain rfl := Option.some.inj ho
      have l0 := hd ⟨6, .data⟩ (by simp) rfl
      have f0 := hF.at (s := 62) (i := 6) (by kernel_rfl) (by simp) l0
      rw [hR.2.1 6 _ l0 rfl] at f0
      exact wp_ret (.agg (nw 9 xm)) (by simp [go_sem, f0]) (CY.out _) (fun w2 hg => ⟨_, rfl, RG.quiet 7 _ hil rfl rfl (fun j k r h => by have := hks j k r h; omega) hg hR⟩)
    · obtain rfl := Option.some.inj ho
      have f0 := hF.old (s := 11) (v := .pointer (some ⟨(w.heap.size + 1 + 1 + (gaw.os.length + gi.os.length) + 1 + gk.os.length), 0, none⟩)) (by kernel_rfl) rfl
      exact wp_val (.agg (nw 9 kk)) (by simp [go_sem, f0, hbk]) ⟨_, rfl, RG.quiet 8 _ hil rfl rfl (fun j k r h => by have := hks j k r h; omega) (Gr.refl _) hR⟩
    · obtain rfl := Option.some.inj ho
      have l0 := hd ⟨7, .data⟩ (by simp) rfl
      have f0 := hF.at (s := 63) (i := 7) (by kernel_rfl) (by simp) l0
      rw [hR.2.1 7 _ l0 rfl] at f0
      have l1 := hd ⟨8, .data⟩ (by simp) rfl
      have f1 := hF.at (s := 64) (i := 8) (by kernel_rfl) (by simp) l1
      rw [hR.2.1 8 _ l1 rfl] at f1
      exact wp_ret (.agg (nw 18 0)) (by simp [go_sem, f0, f1]) (MY.out _) (fun w2 hg => ⟨_, rfl, RG.quiet 9 _ hil rfl rfl (fun j k r h => by have := hks j k r h; omega) hg hR⟩)
    · obtain rfl := Option.some.inj ho
      exact wp_val (.pointer (some ⟨v1.heap.size, 0, none⟩)) (w' := v1.alloc (.cells (nw 18 0) 28)) (by simp [go_sem]) ⟨_, rfl, RG.alloc 10 (nw 18 0) 28 hil hl rfl rfl (fun j k r h => by have := hks j k r h; omega) hR⟩
    · obtain rfl := Option.some.inj ho
      exact wp_val (.pointer (some ⟨v1.heap.size, 0, none⟩)) (w' := v1.alloc (.cells (nw 18 0) 28)) (by simp [go_sem]) ⟨_, rfl, RG.alloc 11 (nw 18 0) 28 hil hl rfl rfl (fun j k r h => by have := hks j k r h; omega) hR⟩
    · obtain rfl := Option.some.inj ho
      have l0 := hd ⟨10, .data⟩ (by simp) rfl
      have l1 := hd ⟨4, .data⟩ (by simp) rfl
      obtain ⟨B, h4, h5⟩ := hR.2.2.2
      obtain ⟨e1, e2, e3, e4, e5⟩ := h4 10 (nw 18 0) l0 rfl
      simp only [hl] at e5
      replace e5 : blk v1 (B 10) = nw 18 0 := e5
      have f0 := hF.at (s := 12) (i := 10) (by kernel_rfl) (by simp) l0
      rw [e1] at f0
      have f1 := hF.at (s := 60) (i := 4) (by kernel_rfl) (by simp) l1
      rw [hR.2.1 4 _ l1 rfl] at f1
      exact wp_skip (w' := setBlk v1 (B 10) (nw 18 bb)) (by simp [go_sem, f0, f1, e4, e5]) ⟨undef, rfl, RG.store 12 10 (nw 18 0) (nw 18 bb) (B 10) hil hl rfl rfl rfl l0 rfl (by rw [nw_size]; decide) e1 (fun k r h => by have := hks k _ r h; omega) hR⟩
    · obtain rfl := Option.some.inj ho
      have l0 := hd ⟨11, .data⟩ (by simp) rfl
      have l1 := hd ⟨9, .data⟩ (by simp) rfl
      obtain ⟨B, h4, h5⟩ := hR.2.2.2
      obtain ⟨e1, e2, e3, e4, e5⟩ := h4 11 (nw 18 0) l0 rfl
      simp only [hl] at e5
      replace e5 : blk v1 (B 11) = nw 18 0 := e5
      have f0 := hF.at (s := 13) (i := 11) (by kernel_rfl) (by simp) l0
      rw [e1] at f0
      have f1 := hF.at (s := 65) (i := 9) (by kernel_rfl) (by simp) l1
      rw [hR.2.1 9 _ l1 rfl] at f1
      exact wp_skip (w' := setBlk v1 (B 11) (nw 18 0)) (by simp [go_sem, f0, f1, e4, e5]) ⟨undef, rfl, RG.store 13 11 (nw 18 0) (nw 18 0) (B 11) hil hl rfl rfl rfl l0 rfl (by rw [nw_size]; decide) e1 (fun k r h => by have := hks k _ r h; omega) hR⟩
  case hf =>
    intro listed vals a1 v1 hall hR hF
    have hba : blk v1 (w.heap.size) = nw 9 a := (blk_of _ _ _ (hR.1.below.block (w.heap.size) (by simp [go_sem] <;> omega))).trans (by simp [go_sem])
    have phba : Pre (w.heap.size + 1) v1.heap.size := Nat.le_trans (show w.heap.size + 1 ≤ _ from by simp [go_sem] <;> omega) hR.1.below.size
    have hbm : blk v1 (w.heap.size + 1) = nw 9 m := (blk_of _ _ _ (hR.1.below.block (w.heap.size + 1) (by simp [go_sem] <;> omega))).trans (by simp [go_sem])
    have phbm : Pre (w.heap.size + 1 + 1) v1.heap.size := Nat.le_trans (show w.heap.size + 1 + 1 ≤ _ from by simp [go_sem] <;> omega) hR.1.below.size
    have hbk : blk v1 ((w.heap.size + 1 + 1 + (gaw.os.length + gi.os.length) + 1 + gk.os.length)) = nw 9 kk := (blk_of _ _ _ (hR.1.below.block ((w.heap.size + 1 + 1 + (gaw.os.length + gi.os.length) + 1 + gk.os.length)) (by simp [go_sem] <;> omega))).trans (by simp [go_sem])
    have phbk : Pre ((w.heap.size + 1 + 1 + (gaw.os.length + gi.os.length) + 1 + gk.os.length) + 1) v1.heap.size := Nat.le_trans (show (w.heap.size + 1 + 1 + (gaw.os.length + gi.os.length) + 1 + gk.os.length) + 1 ≤ _ from by simp [go_sem] <;> omega) hR.1.below.size
    have hV := hR.2.1
    obtain ⟨B, h4, h5⟩ := hR.2.2.2
    have x0 := hV 0 _ (hall 0 (by simp)) rfl
    have x1 := hV 1 _ (hall 1 (by simp)) rfl
    have x2 := hV 2 _ (hall 2 (by simp)) rfl
    have x3 := hV 3 _ (hall 3 (by simp)) rfl
    have x4 := hV 4 _ (hall 4 (by simp)) rfl
    have x5 := hV 5 _ (hall 5 (by simp)) rfl
    have x6 := hV 6 _ (hall 6 (by simp)) rfl
    have x7 := hV 7 _ (hall 7 (by simp)) rfl
    have x8 := hV 8 _ (hall 8 (by simp)) rfl
    have x9 := hV 9 _ (hall 9 (by simp)) rfl
    obtain ⟨x10, q10, p10, z10, y10⟩ := h4 10 _ (hall 10 (by simp)) rfl
    simp only [hall 12 (by simp), if_true] at y10
    replace p10 : Pre (B 10 + 1) v1.heap.size := p10
    replace y10 : blk v1 (B 10) = nw 18 bb := y10
    obtain ⟨x11, q11, p11, z11, y11⟩ := h4 11 _ (hall 11 (by simp)) rfl
    simp only [hall 13 (by simp), if_true] at y11
    replace p11 : Pre (B 11 + 1) v1.heap.size := p11
    replace y11 : blk v1 (B 11) = nw 18 0 := y11
    have hb1 := hR.1
    rw [hF.final (by kernel_rfl) hall]
    simp only [putFrom, Act.put, List.setIfInBounds_toArray, List.set_cons_zero, List.set_cons_succ, x0, x1, x2, x3, x4, x5, x6, x7, x8, x9, x10, x11]
    generalize B 10 = b10 at *
    generalize B 11 = b11 at *
    clear hV h4 h5 hR hF hall x0 x1 x2 x3 x4 x5 x6 x7 x8 x9 x10 x11
    have HG9 : Hid (Gr w v1) := Gr.trans (by repeat (first | exact Gr.refl _ | apply Gr.drewN | apply Gr.drew | apply Gr.alloc | apply Gr.gro)) hb1
    clear hb1 hba hbm hbk phba phbm phbk q10 q11
    go_wp2_with fail
    go_loopw [16] (fun i wr => ∃ (n U V : Nat), n ≤ 9 ∧ i = .int .i64 (n : Int) ∧ Hid (Unit → bb % pw n = U ∧ 0 % pw n = V) ∧ wr = ((v1.alloc (.cells (nw 9 U) 25)).alloc (.cells (nw 9 V) 25))) (fun i _ => 9 - (intOf i).toNat)
    case atStart => exact ⟨0, 0, 0, by omega, rfl, fun _ => ⟨by rw [pw_zero, Nat.mod_one], by rw [pw_zero, Nat.mod_one]⟩, rfl⟩
    case round =>
      obtain ⟨n, U, V, hn, rfl, HU, rfl⟩ := hrel
      have HL : Hid (Unit → U < pw n ∧ V < pw n) := fun _ => by rw [← (HU.out ()).1, ← (HU.out ()).2]; exact ⟨Nat.mod_lt _ (pw_pos n), Nat.mod_lt _ (pw_pos n)⟩
      by_cases hlt : n < 9
      · have n0 : (0 : Int) ≤ (n : Int) := by omega
        have n1 : (n : Int) < 9 := by omega
        have n18 : n < 18 := by omega
        have ga : v1.cell? ⟨b10, n, none⟩ = some (.int .u64 ((wd bb n : Nat) : Int)) := by rw [cell_blk, y10]; exact nw_get 18 bb n n18
        have gb : v1.cell? ⟨b11, n, none⟩ = some (.int .u64 ((wd 0 n : Nat) : Int)) := by rw [cell_blk, y11]; exact nw_get 18 0 n n18
        have gu := nw_get 9 U n hlt
        have gv := nw_get 9 V n hlt
        clear hn
        go_wp2_with fail
        go_roundw
        case rel =>
          refine ⟨n + 1, U + wd bb n * pw n, V + wd 0 n * pw n, by omega, by go_num, fun _ => ⟨by rw [← (HU.out ()).1]; exact mod_succ bb n, by rw [← (HU.out ()).2]; exact mod_succ 0 n⟩, ?_⟩
          rw [nw_set_top 9 U n (wd bb n) (wd_lt _ _) (HL.out ()).1, nw_set_top 9 V n (wd 0 n) (wd_lt _ _) (HL.out ()).2]
        case measure => simp [intOf]; omega
      · have hni : ¬ (n : Int) < 9 := by omega
        obtain rfl : n = 9 := by omega
        obtain rfl : U = bb := by rw [← (HU.out ()).1]; exact Nat.mod_eq_of_lt (HB.out ()).1
        obtain rfl : V = 0 := by rw [← (HU.out ()).2]; exact Nat.mod_eq_of_lt (HB.out ()).2
        clear hlt hn HU HL
        go_wp2_with (first
          | (go_at_call 24; refine (I2.out _).mono ?_; rintro e w' ⟨rfl, g2, rfl⟩)
          | (go_at_call 16; refine (num_any _ _).mono ?_; rintro e w' ⟨rfl, rfl⟩))
        go_ret
        exact ⟨rfl, by repeat (first | exact HG9.out | apply Gr.drewN | apply Gr.drew | apply Gr.alloc | apply Gr.gro)⟩

set_option maxRecDepth 100000 in
set_option maxHeartbeats 2400000 in
theorem dinv_nn (a m kk xa xm bb cc : Nat) (part κ err : Int) (her : (err == 0) = false) (k1 : bits BinOp.and IntKind.i64 part 31 = κ) (k2 : 2 + κ = (kk : Int)) (k3 : IntKind.u64.wrap (kk : Int) = (kk : Int)) (k4 : IntKind.i64.wrap (kk : Int) = (kk : Int)) (hb : bb < M) (hc : cc < M) (e0 : eqN 9 cc 0 = false) (o1 : ∀ w, Calls Try.prog 30 #[.int .u64 1] w fun e w' => e = .returned (.agg (nw 9 1)) ∧ Gr w w') (okk : ∀ w, Calls Try.prog 30 #[.int .u64 (kk : Int)] w fun e w' => e = .returned (.agg (nw 9 kk)) ∧ Gr w w') (cx : ∀ w, Calls Try.prog 31 #[.agg (nw 9 a), .int .i64 500] w fun e w' => e = .returned (.agg (nw 9 xa)) ∧ Gr w w') (cy : ∀ w, Calls Try.prog 31 #[.agg (nw 9 m), .int .i64 500] w fun e w' => e = .returned (.agg (nw 9 xm)) ∧ Gr w w') (mx : ∀ w, Calls Try.prog 27 #[.agg (nw 9 xa), .agg (nw 9 kk)] w fun e w' => e = .returned (.agg (nw 18 bb)) ∧ Gr w w') (my : ∀ w, Calls Try.prog 27 #[.agg (nw 9 xm), .agg (nw 9 kk)] w fun e w' => e = .returned (.agg (nw 18 cc)) ∧ Gr w w') (i2 : ∀ w, Calls Try.prog 24 #[.agg (nw 9 bb), .agg (nw 9 cc)] w fun e w' => e = .returned (.tuple #[.agg (nw 9 0), .int .i64 401]) ∧ Gr w w') (i1 : ∀ w, Calls Try.prog 24 #[.agg (nw 9 a), .agg (nw 9 m)] w fun e w' => e = .returned (.tuple #[.agg (nw 9 0), .int .i64 err]) ∧ Gr w w') (w : World) :
    Calls Try.prog 6 #[.agg (nw 9 a), .agg (nw 9 m), .int .i64 part] w fun e w' => e = .returned (.bool true) ∧ Gr w w' := by
  have O1 : Hid (∀ w, Calls Try.prog 30 #[.int .u64 1] w fun e w' => e = .returned (.agg (nw 9 1)) ∧ Gr w w') := o1
  have OK : Hid (∀ w, Calls Try.prog 30 #[.int .u64 (kk : Int)] w fun e w' => e = .returned (.agg (nw 9 kk)) ∧ Gr w w') := okk
  have CX : Hid (∀ w, Calls Try.prog 31 #[.agg (nw 9 a), .int .i64 500] w fun e w' => e = .returned (.agg (nw 9 xa)) ∧ Gr w w') := cx
  have CY : Hid (∀ w, Calls Try.prog 31 #[.agg (nw 9 m), .int .i64 500] w fun e w' => e = .returned (.agg (nw 9 xm)) ∧ Gr w w') := cy
  have MX : Hid (∀ w, Calls Try.prog 27 #[.agg (nw 9 xa), .agg (nw 9 kk)] w fun e w' => e = .returned (.agg (nw 18 bb)) ∧ Gr w w') := mx
  have MY : Hid (∀ w, Calls Try.prog 27 #[.agg (nw 9 xm), .agg (nw 9 kk)] w fun e w' => e = .returned (.agg (nw 18 cc)) ∧ Gr w w') := my
  have I2 : Hid (∀ w, Calls Try.prog 24 #[.agg (nw 9 bb), .agg (nw 9 cc)] w fun e w' => e = .returned (.tuple #[.agg (nw 9 0), .int .i64 401]) ∧ Gr w w') := i2
  have I1 : Hid (∀ w, Calls Try.prog 24 #[.agg (nw 9 a), .agg (nw 9 m)] w fun e w' => e = .returned (.tuple #[.agg (nw 9 0), .int .i64 err]) ∧ Gr w w') := i1
  have HB : Hid (Unit → bb < M ∧ cc < M) := fun _ => ⟨hb, hc⟩
  have q1 := eqN_self 9 1
  have q0 := eqN_self 9 0
  clear o1 okk cx cy mx my i2 i1 hb hc
  go_enter Try.func6, Try.ntmps6
  go_wp2_with (first
    | (go_at_call 17; refine (awake4_any _).mono ?_; rintro e w' ⟨rfl, gaw, rfl⟩)
    | (go_at_call 24; refine (I1.out _).mono ?_; rintro e w' ⟨rfl, gi, rfl⟩)
    | (go_at_call 30; refine (OK.out _).mono ?_; rintro e w' ⟨rfl, gk, rfl⟩)
    | (go_at_call 16; refine (num_any _ _).mono ?_; rintro e w' ⟨rfl, rfl⟩))
  refine wp_region_mix (by kernel_rfl) (by kernel_rfl) (RG _ (fun i => match i with | 0 => some (.pointer (some ⟨w.heap.size, 0, none⟩)) | 1 => some (.agg (nw 9 a)) | 2 => some (.agg (nw 9 xa)) | 3 => some (.agg (nw 9 kk)) | 4 => some (.agg (nw 18 bb)) | 5 => some (.pointer (some ⟨w.heap.size + 1, 0, none⟩)) | 6 => some (.agg (nw 9 m)) | 7 => some (.agg (nw 9 xm)) | 8 => some (.agg (nw 9 kk)) | 9 => some (.agg (nw 18 cc)) | _ => none) (fun i => match i with | 10 => some (nw 18 0) | 11 => some (nw 18 0) | _ => none) (fun i => match i with | 10 => some (12, nw 18 bb) | 11 => some (13, nw 18 cc) | _ => none)) (RG.start _ _ _ _ _ _) ?hs ?hf
  case hs =>
    intro listed vals a1 v1 i o hz hR hF ho hl hd
    have hks : ∀ (j k : Nat) (r : Array Value), (match j with | 10 => some (12, nw 18 bb) | 11 => some (13, nw 18 cc) | _ => (none : Option (Nat × Array Value))) = some (k, r) → (j = 10 ∧ k = 12) ∨ (j = 11 ∧ k = 13) := fun j k r h => by
      split at h <;> simp_all
    have hba : blk v1 (w.heap.size) = nw 9 a := (blk_of _ _ _ (hR.1.below.block (w.heap.size) (by simp [go_sem] <;> omega))).trans (by simp [go_sem])
    have hbm : blk v1 (w.heap.size + 1) = nw 9 m := (blk_of _ _ _ (hR.1.below.block (w.heap.size + 1) (by simp [go_sem] <;> omega))).trans (by simp [go_sem])
    have hbk : blk v1 ((w.heap.size + 1 + 1 + (gaw.os.length + gi.os.length) + 1 + gk.os.length)) = nw 9 kk := (blk_of _ _ _ (hR.1.below.block ((w.heap.size + 1 + 1 + (gaw.os.length + gi.os.length) + 1 + gk.os.length)) (by simp [go_sem] <;> omega))).trans (by simp [go_sem])
    have hi : i < 14 := by simpa using (Array.getElem?_eq_some_iff.1 ho).1
    have hil : i < listed.size := by rw [hz]; simpa using hi
    obtain rfl | rfl | rfl | rfl | rfl | rfl | rfl | rfl | rfl | rfl | rfl | rfl | rfl | rfl : i = 0 ∨ i = 1 ∨ i = 2 ∨ i = 3 ∨ i = 4 ∨ i = 5 ∨ i = 6 ∨ i = 7 ∨ i = 8 ∨ i = 9 ∨ i = 10 ∨ i = 11 ∨ i = 12 ∨ i = 13 := by omega
    · obtain rfl := Option.some.inj ho
      have f0 := hF.old (s := 3) (v := .pointer (some ⟨w.heap.size, 0, none⟩)) (by kernel_rfl) rfl
      exact wp_val (.pointer (some ⟨w.heap.size, 0, none⟩)) (by simp [go_sem, f0]) ⟨_, rfl, RG.quiet 0 _ hil rfl rfl (fun j k r h => by have := hks j k r h; omega) (Gr.refl _) hR⟩
    · obtain rfl := Option.some.inj ho
      have l0 := hd ⟨0, .data⟩ (by simp) rfl
      have f0 := hF.at (s := 56) (i := 0) (by kernel_rfl) (by simp) l0
      rw [hR.2.1 0 _ l0 rfl] at f0
      exact wp_val (.agg (nw 9 a)) (by simp [go_sem, f0, hba]) ⟨_, rfl, RG.quiet 1 _ hil rfl rfl (fun j k r h => by have := hks j k r h; omega) (Gr.refl _) hR⟩
    · obtain rfl := Option.some.inj ho
      have l0 := hd ⟨1, .data⟩ (by simp) rfl
      have f0 := hF.at (s := 57) (i := 1) (by kernel_rfl) (by simp) l0
      rw [hR.2.1 1 _ l0 rfl] at f0
      exact wp_ret (.agg (nw 9 xa)) (by simp [go_sem, f0]) (CX.out _) (fun w2 hg => ⟨_, rfl, RG.quiet 2 _ hil rfl rfl (fun j k r h => by have := hks j k r h; omega) hg hR⟩)
    · obtain rfl := Option.some.inj ho
      have f0 := hF.old (s := 11) (v := .pointer (some ⟨(w.heap.size + 1 + 1 + (gaw.os.length + gi.os.length) + 1 + gk.os.length), 0, none⟩)) (by kernel_rfl) rfl
      exact wp_val (.agg (nw 9 kk)) (by simp [go_sem, f0, hbk]) ⟨_, rfl, RG.quiet 3 _ hil rfl rfl (fun j k r h => by have := hks j k r h; omega) (Gr.refl _) hR⟩
    · obtain rfl := Option.some.inj ho
      have l0 := hd ⟨2, .data⟩ (by simp) rfl
      have f0 := hF.at (s := 58) (i := 2) (by kernel_rfl) (by simp) l0
      rw [hR.2.1 2 _ l0 rfl] at f0
      have l1 := hd ⟨3, .data⟩ (by simp) rfl
      have f1 := hF.at (s := 59) (i := 3) (by kernel_rfl) (by simp) l1
      rw [hR.2.1 3 _ l1 rfl] at f1
      exact wp_ret (.agg (nw 18 bb)) (by simp [go_sem, f0, f1]) (MX.out _) (fun w2 hg => ⟨_, rfl, RG.quiet 4 _ hil rfl rfl (fun j k r h => by have := hks j k r h; omega) hg hR⟩)
    · obtain rfl := Option.some.inj ho
      have f0 := hF.old (s := 4) (v := .pointer (some ⟨w.heap.size + 1, 0, none⟩)) (by kernel_rfl) rfl
      exact wp_val (.pointer (some ⟨w.heap.size + 1, 0, none⟩)) (by simp [go_sem, f0]) ⟨_, rfl, RG.quiet 5 _ hil rfl rfl (fun j k r h => by have := hks j k r h; omega) (Gr.refl _) hR⟩
    · obtain rfl := Option.some.inj ho
      have l0 := hd ⟨5, .data⟩ (by simp) rfl
      have f0 := hF.at (s := 61) (i := 5) (by kernel_rfl) (by simp) l0
      rw [hR.2.1 5 _ l0 rfl] at f0
      exact wp_val (.agg (nw 9 m)) (by simp [go_sem, f0, hbm]) ⟨_, rfl, RG.quiet 6 _ hil rfl rfl (fun j k r h => by have := hks j k r h; omega) (Gr.refl _) hR⟩
    · obtain rfl := Option.some.inj ho
      have l0 := hd ⟨6, .data⟩ (by simp) rfl
      have f0 := hF.at (s := 62) (i := 6) (by kernel_rfl) (by simp) l0
      rw [hR.2.1 6 _ l0 rfl] at f0
      exact wp_ret (.agg (nw 9 xm)) (by simp [go_sem, f0]) (CY.out _) (fun w2 hg => ⟨_, rfl, RG.quiet 7 _ hil rfl rfl (fun j k r h => by have := hks j k r h; omega) hg hR⟩)
    · obtain rfl := Option.some.inj ho
      have f0 := hF.old (s := 11) (v := .pointer (some ⟨(w.heap.size + 1 + 1 + (gaw.os.length + gi.os.length) + 1 + gk.os.length), 0, none⟩)) (by kernel_rfl) rfl
      exact wp_val (.agg (nw 9 kk)) (by simp [go_sem, f0, hbk]) ⟨_, rfl, RG.quiet 8 _ hil rfl rfl (fun j k r h => by have := hks j k r h; omega) (Gr.refl _) hR⟩
    · obtain rfl := Option.some.inj ho
      have l0 := hd ⟨7, .data⟩ (by simp) rfl
      have f0 := hF.at (s := 63) (i := 7) (by kernel_rfl) (by simp) l0
      rw [hR.2.1 7 _ l0 rfl] at f0
      have l1 := hd ⟨8, .data⟩ (by simp) rfl
      have f1 := hF.at (s := 64) (i := 8) (by kernel_rfl) (by simp) l1
      rw [hR.2.1 8 _ l1 rfl] at f1
      exact wp_ret (.agg (nw 18 cc)) (by simp [go_sem, f0, f1]) (MY.out _) (fun w2 hg => ⟨_, rfl, RG.quiet 9 _ hil rfl rfl (fun j k r h => by have := hks j k r h; omega) hg hR⟩)
    · obtain rfl := Option.some.inj ho
      exact wp_val (.pointer (some ⟨v1.heap.size, 0, none⟩)) (w' := v1.alloc (.cells (nw 18 0) 28)) (by simp [go_sem]) ⟨_, rfl, RG.alloc 10 (nw 18 0) 28 hil hl rfl rfl (fun j k r h => by have := hks j k r h; omega) hR⟩
    · obtain rfl := Option.some.inj ho
      exact wp_val (.pointer (some ⟨v1.heap.size, 0, none⟩)) (w' := v1.alloc (.cells (nw 18 0) 28)) (by simp [go_sem]) ⟨_, rfl, RG.alloc 11 (nw 18 0) 28 hil hl rfl rfl (fun j k r h => by have := hks j k r h; omega) hR⟩
    · obtain rfl := Option.some.inj ho
      have l0 := hd ⟨10, .data⟩ (by simp) rfl
      have l1 := hd ⟨4, .data⟩ (by simp) rfl
      obtain ⟨B, h4, h5⟩ := hR.2.2.2
      obtain ⟨e1, e2, e3, e4, e5⟩ := h4 10 (nw 18 0) l0 rfl
      simp only [hl] at e5
      replace e5 : blk v1 (B 10) = nw 18 0 := e5
      have f0 := hF.at (s := 12) (i := 10) (by kernel_rfl) (by simp) l0
      rw [e1] at f0
      have f1 := hF.at (s := 60) (i := 4) (by kernel_rfl) (by simp) l1
      rw [hR.2.1 4 _ l1 rfl] at f1
      exact wp_skip (w' := setBlk v1 (B 10) (nw 18 bb)) (by simp [go_sem, f0, f1, e4, e5]) ⟨undef, rfl, RG.store 12 10 (nw 18 0) (nw 18 bb) (B 10) hil hl rfl rfl rfl l0 rfl (by rw [nw_size]; decide) e1 (fun k r h => by have := hks k _ r h; omega) hR⟩
    · obtain rfl := Option.some.inj ho
      have l0 := hd ⟨11, .data⟩ (by simp) rfl
      have l1 := hd ⟨9, .data⟩ (by simp) rfl
      obtain ⟨B, h4, h5⟩ := hR.2.2.2
      obtain ⟨e1, e2, e3, e4, e5⟩ := h4 11 (nw 18 0) l0 rfl
      simp only [hl] at e5
      replace e5 : blk v1 (B 11) = nw 18 0 := e5
      have f0 := hF.at (s := 13) (i := 11) (by kernel_rfl) (by simp) l0
      rw [e1] at f0
      have f1 := hF.at (s := 65) (i := 9) (by kernel_rfl) (by simp) l1
      rw [hR.2.1 9 _ l1 rfl] at f1
      exact wp_skip (w' := setBlk v1 (B 11) (nw 18 cc)) (by simp [go_sem, f0, f1, e4, e5]) ⟨undef, rfl, RG.store 13 11 (nw 18 0) (nw 18 cc) (B 11) hil hl rfl rfl rfl l0 rfl (by rw [nw_size]; decide) e1 (fun k r h => by have := hks k _ r h; omega) hR⟩
  case hf =>
    intro listed vals a1 v1 hall hR hF
    have hba : blk v1 (w.heap.size) = nw 9 a := (blk_of _ _ _ (hR.1.below.block (w.heap.size) (by simp [go_sem] <;> omega))).trans (by simp [go_sem])
    have phba : Pre (w.heap.size + 1) v1.heap.size := Nat.le_trans (show w.heap.size + 1 ≤ _ from by simp [go_sem] <;> omega) hR.1.below.size
    have hbm : blk v1 (w.heap.size + 1) = nw 9 m := (blk_of _ _ _ (hR.1.below.block (w.heap.size + 1) (by simp [go_sem] <;> omega))).trans (by simp [go_sem])
    have phbm : Pre (w.heap.size + 1 + 1) v1.heap.size := Nat.le_trans (show w.heap.size + 1 + 1 ≤ _ from by simp [go_sem] <;> omega) hR.1.below.size
    have hbk : blk v1 ((w.heap.size + 1 + 1 + (gaw.os.length + gi.os.length) + 1 + gk.os.length)) = nw 9 kk := (blk_of _ _ _ (hR.1.below.block ((w.heap.size + 1 + 1 + (gaw.os.length + gi.os.length) + 1 + gk.os.length)) (by simp [go_sem] <;> omega))).trans (by simp [go_sem])
    have phbk : Pre ((w.heap.size + 1 + 1 + (gaw.os.length + gi.os.length) + 1 + gk.os.length) + 1) v1.heap.size := Nat.le_trans (show (w.heap.size + 1 + 1 + (gaw.os.length + gi.os.length) + 1 + gk.os.length) + 1 ≤ _ from by simp [go_sem] <;> omega) hR.1.below.size
    have hV := hR.2.1
    obtain ⟨B, h4, h5⟩ := hR.2.2.2
    have x0 := hV 0 _ (hall 0 (by simp)) rfl
    have x1 := hV 1 _ (hall 1 (by simp)) rfl
    have x2 := hV 2 _ (hall 2 (by simp)) rfl
    have x3 := hV 3 _ (hall 3 (by simp)) rfl
    have x4 := hV 4 _ (hall 4 (by simp)) rfl
    have x5 := hV 5 _ (hall 5 (by simp)) rfl
    have x6 := hV 6 _ (hall 6 (by simp)) rfl
    have x7 := hV 7 _ (hall 7 (by simp)) rfl
    have x8 := hV 8 _ (hall 8 (by simp)) rfl
    have x9 := hV 9 _ (hall 9 (by simp)) rfl
    obtain ⟨x10, q10, p10, z10, y10⟩ := h4 10 _ (hall 10 (by simp)) rfl
    simp only [hall 12 (by simp), if_true] at y10
    replace p10 : Pre (B 10 + 1) v1.heap.size := p10
    replace y10 : blk v1 (B 10) = nw 18 bb := y10
    obtain ⟨x11, q11, p11, z11, y11⟩ := h4 11 _ (hall 11 (by simp)) rfl
    simp only [hall 13 (by simp), if_true] at y11
    replace p11 : Pre (B 11 + 1) v1.heap.size := p11
    replace y11 : blk v1 (B 11) = nw 18 cc := y11
    have hb1 := hR.1
    rw [hF.final (by kernel_rfl) hall]
    simp only [putFrom, Act.put, List.setIfInBounds_toArray, List.set_cons_zero, List.set_cons_succ, x0, x1, x2, x3, x4, x5, x6, x7, x8, x9, x10, x11]
    generalize B 10 = b10 at *
    generalize B 11 = b11 at *
    clear hV h4 h5 hR hF hall x0 x1 x2 x3 x4 x5 x6 x7 x8 x9 x10 x11
    have HG9 : Hid (Gr w v1) := Gr.trans (by repeat (first | exact Gr.refl _ | apply Gr.drewN | apply Gr.drew | apply Gr.alloc | apply Gr.gro)) hb1
    clear hb1 hba hbm hbk phba phbm phbk q10 q11
    go_wp2_with fail
    go_loopw [16] (fun i wr => ∃ (n U V : Nat), n ≤ 9 ∧ i = .int .i64 (n : Int) ∧ Hid (Unit → bb % pw n = U ∧ cc % pw n = V) ∧ wr = ((v1.alloc (.cells (nw 9 U) 25)).alloc (.cells (nw 9 V) 25))) (fun i _ => 9 - (intOf i).toNat)
    case atStart => exact ⟨0, 0, 0, by omega, rfl, fun _ => ⟨by rw [pw_zero, Nat.mod_one], by rw [pw_zero, Nat.mod_one]⟩, rfl⟩
    case round =>
      obtain ⟨n, U, V, hn, rfl, HU, rfl⟩ := hrel
      have HL : Hid (Unit → U < pw n ∧ V < pw n) := fun _ => by rw [← (HU.out ()).1, ← (HU.out ()).2]; exact ⟨Nat.mod_lt _ (pw_pos n), Nat.mod_lt _ (pw_pos n)⟩
      by_cases hlt : n < 9
      · have n0 : (0 : Int) ≤ (n : Int) := by omega
        have n1 : (n : Int) < 9 := by omega
        have n18 : n < 18 := by omega
        have ga : v1.cell? ⟨b10, n, none⟩ = some (.int .u64 ((wd bb n : Nat) : Int)) := by rw [cell_blk, y10]; exact nw_get 18 bb n n18
        have gb : v1.cell? ⟨b11, n, none⟩ = some (.int .u64 ((wd cc n : Nat) : Int)) := by rw [cell_blk, y11]; exact nw_get 18 cc n n18
        have gu := nw_get 9 U n hlt
        have gv := nw_get 9 V n hlt
        clear hn
        go_wp2_with fail
        go_roundw
        case rel =>
          refine ⟨n + 1, U + wd bb n * pw n, V + wd cc n * pw n, by omega, by go_num, fun _ => ⟨by rw [← (HU.out ()).1]; exact mod_succ bb n, by rw [← (HU.out ()).2]; exact mod_succ cc n⟩, ?_⟩
          rw [nw_set_top 9 U n (wd bb n) (wd_lt _ _) (HL.out ()).1, nw_set_top 9 V n (wd cc n) (wd_lt _ _) (HL.out ()).2]
        case measure => simp [intOf]; omega
      · have hni : ¬ (n : Int) < 9 := by omega
        obtain rfl : n = 9 := by omega
        obtain rfl : U = bb := by rw [← (HU.out ()).1]; exact Nat.mod_eq_of_lt (HB.out ()).1
        obtain rfl : V = cc := by rw [← (HU.out ()).2]; exact Nat.mod_eq_of_lt (HB.out ()).2
        clear hlt hn HU HL
        go_wp2_with (first
          | (go_at_call 24; refine (I2.out _).mono ?_; rintro e w' ⟨rfl, g2, rfl⟩)
          | (go_at_call 16; refine (num_any _ _).mono ?_; rintro e w' ⟨rfl, rfl⟩))
        go_ret
        exact ⟨rfl, by repeat (first | exact HG9.out | apply Gr.drewN | apply Gr.drew | apply Gr.alloc | apply Gr.gro)⟩

theorem i64_and31 (n : Int) : bits .and .i64 n 31 = n % 32 := by
  have h31 : (BitVec.ofInt 64 31).toNat = 2 ^ 5 - 1 := by decide
  have key : (BitVec.ofInt 64 n &&& BitVec.ofInt 64 31).toNat = (n % ((2 ^ 64 : Nat) : Int)).toNat % 2 ^ 5 := by
    rw [BitVec.toNat_and, BitVec.toNat_ofInt, h31, Nat.and_two_pow_sub_one_eq_mod]
  show IntKind.i64.wrap ((BitVec.ofInt 64 n &&& BitVec.ofInt 64 31).toNat : Nat) = n % 32
  rw [key, IntKind.wrap_i64]
  omega
theorem M_part (E k : Nat) (hk : k = 9) (h : E + 6 ≤ 64 * k) : 64 * 2 ^ E ≤ M := by
  have h1 : 2 ^ (E + 6) ≤ pw k := Nat.pow_le_pow_right (by decide) h
  rw [Nat.pow_add, hk] at h1
  have h2 : 2 ^ E * 2 ^ 6 ≤ M := h1
  omega
theorem dinv_any (a m : Nat) (part : Int) (ha : a < M) (hm : m < M) (w : World) :
    Calls Try.prog 6 #[.agg (nw 9 a), .agg (nw 9 m), .int .i64 part] w fun e w' => e = .returned (.bool true) ∧ Gr w w' := by
  obtain ⟨E, hE⟩ : ∃ E : Nat, E = 500 := ⟨_, rfl⟩
  have hEi : ((E : Nat) : Int) = 500 := by omega
  have cx := fun w => natcut_any a E (by omega) w
  have cy := fun w => natcut_any m E (by omega) w
  rw [hEi] at cx cy
  have hME := M_part E 9 rfl (by omega)
  have hx : a % 2 ^ E < 2 ^ E := Nat.mod_lt _ (Nat.two_pow_pos E)
  have hy : m % 2 ^ E < 2 ^ E := Nat.mod_lt _ (Nat.two_pow_pos E)
  generalize a % 2 ^ E = xa at *
  generalize m % 2 ^ E = xm at *
  obtain ⟨kk, hk⟩ : ∃ k : Nat, 2 + part % 32 = (k : Int) := ⟨(2 + part % 32).toNat, by omega⟩
  have k0 : 2 ≤ kk := by omega
  have k33 : kk ≤ 33 := by omega
  have k1 : bits BinOp.and IntKind.i64 part 31 = part % 32 := i64_and31 part
  have k3 : IntKind.u64.wrap (kk : Int) = (kk : Int) := by rw [IntKind.wrap_u64]; omega
  have k4 : IntKind.i64.wrap (kk : Int) = (kk : Int) := by rw [IntKind.wrap_i64]; omega
  have hbM : xa * kk < M := by
    have := Nat.mul_le_mul (Nat.le_of_lt hx) k33
    have h2 := Nat.two_pow_pos E
    omega
  have hcM : xm * kk < M := by
    have := Nat.mul_le_mul (Nat.le_of_lt hy) k33
    have h2 := Nat.two_pow_pos E
    omega
  have hxM : xa < M := by have h2 := Nat.two_pow_pos E; omega
  have hyM : xm < M := by have h2 := Nat.two_pow_pos E; omega
  have hkM : kk < M := lt_M kk (by omega)
  have o1 := fun w => one_any 1 (by decide) w
  have okk := fun w => one_any kk (by omega) w
  have mx := fun w => mul_any xa kk hxM hkM w
  have my := fun w => mul_any xm kk hyM hkM w
  have hdiv : xm ≠ 0 → Nat.gcd (xm * kk) (xa * kk) ≠ 1 := fun _ h => by
    have h1 : kk ∣ Nat.gcd (xm * kk) (xa * kk) := Nat.dvd_gcd (Nat.dvd_mul_left _ _) (Nat.dvd_mul_left _ _)
    rw [h] at h1
    have := Nat.le_of_dvd (by decide) h1
    omega
  have hsome : 1 < m ∧ Nat.gcd m a = 1 ∨ ∃ err : Int, (err == 0) = false ∧ ∀ w, Calls Try.prog 24 #[.agg (nw 9 a), .agg (nw 9 m)] w fun e w' => e = .returned (.tuple #[.agg (nw 9 0), .int .i64 err]) ∧ Gr w w' := by
    rcases (show m = 0 ∨ m = 1 ∨ 1 < m by omega) with h | h | h
    · subst h; exact Or.inr ⟨400, by decide, fun w => inv_zero a w⟩
    · subst h; exact Or.inr ⟨401, by decide, fun w => inv_m1 a w⟩
    · by_cases hg : Nat.gcd m a = 1
      · exact Or.inl ⟨h, hg⟩
      · exact Or.inr ⟨401, by decide, fun w => inv_none a m ha h hm hg w⟩
  by_cases hz : xm = 0
  · rw [hz, Nat.zero_mul] at my
    rcases hsome with ⟨h1, hg⟩ | ⟨err, her, hi⟩
    · obtain ⟨x, hx1, hx2, hx3⟩ := inv_some a m ha h1 hm hg
      refine dinv_sz a m kk xa xm (xa * kk) x part (part % 32) k1 hk k3 k4 hbM M_pos o1 okk cx cy mx (by rw [hz]; exact my) (fun w => inv_zero _ w) hx3 (fun w => ?_) (fun w => ?_) w
      · have := mulMod_any a x m ha (by omega) (by omega) hm w
        rw [hx2] at this
        exact this
      · have := cmp_any x m (by omega) hm w
        rw [show cmpZ x m = -1 by unfold cmpZ; rw [if_pos hx1]] at this
        exact this
    · exact dinv_nz a m kk xa xm (xa * kk) part (part % 32) err her k1 hk k3 k4 hbM M_pos o1 okk cx cy mx (by rw [hz]; exact my) (fun w => inv_zero _ w) hi w
  · have hc0 : 0 < xm * kk := Nat.mul_pos (by omega) (by omega)
    have hc1 : 1 < xm * kk := by
      have : 1 * 2 ≤ xm * kk := Nat.mul_le_mul (by omega) k0
      omega
    have e0 : eqN 9 (xm * kk) 0 = false := by rw [eqN9 _ _ hcM M_pos]; exact decide_eq_false (by omega)
    have i2 := fun w => inv_none (xa * kk) (xm * kk) hbM hc1 hcM (hdiv hz) w
    rcases hsome with ⟨h1, hg⟩ | ⟨err, her, hi⟩
    · obtain ⟨x, hx1, hx2, hx3⟩ := inv_some a m ha h1 hm hg
      refine dinv_sn a m kk xa xm (xa * kk) (xm * kk) x part (part % 32) k1 hk k3 k4 hbM hcM e0 o1 okk cx cy mx my i2 hx3 (fun w => ?_) (fun w => ?_) w
      · have := mulMod_any a x m ha (by omega) (by omega) hm w
        rw [hx2] at this
        exact this
      · have := cmp_any x m (by omega) hm w
        rw [show cmpZ x m = -1 by unfold cmpZ; rw [if_pos hx1]] at this
        exact this
    · exact dinv_nn a m kk xa xm (xa * kk) (xm * kk) part (part % 32) err her k1 hk k3 k4 hbM hcM e0 o1 okk cx cy mx my i2 hi w

end Go.Proofs.Ytbafjcbbiiipfaa
