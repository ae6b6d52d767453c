/-
  The statement Divides, walked: it answers true for every three numbers and every Wide.
-/
import Derived.Test.YtbafjcbbiiipfaaDAw
import Derived.Test.YtbafjcbbiiipfaaRDiv
import Derived.Test.YtbafjcbbiiipfaaRMul
import Derived.Test.YtbafjcbbiiipfaaRFrom
import Derived.Test.YtbafjcbbiiipfaaMixP
namespace Go.Proofs.Ytbafjcbbiiipfaa
open Go.RowKit
attribute [local go_sem ↓] loadNat_is loadArr_is loadWide_is loadArrW_is storeNat_is storeWide_is
attribute [local go_sem] loadNat loadArr loadWide loadArrW storeNat storeWide idxArr fold9 fold18 nw_size nw_elem pre_self pre_1 pre_2 pre_3 pre_4 pre_5 pre_6 pre_7 pre_8 pre_9 pre_10 pre_11 pre_12 pre_13 pre_14 pre_15 pre_16 pre_17 pre_18 pre_19 pre_20 pre_21 pre_22 pre_23 pre_24 pre_25 pre_26 pre_27 pre_28 pre_29 pre_30 pre_31 pre_32 pre_33 pre_34 pre_35 pre_36 pre_37 pre_38 pre_39 pre_40 gro_size gro_drew gro_drewN drew_gro drewN_gro blk_gro frz_gro blk_drew frz_drew blk_drewN frz_drewN blk_alloc_at frz_alloc_at blk_alloc frz_alloc cell_gro frozen_gro cell_alloc_pre frozen_alloc_pre setCell_drewN alloc_drewN setBlk_drew setBlk_drewN setBlk_alloc_at setBlk_alloc setBlk_gro setCell_gro setCell_alloc_pre size_setBlk size_setCell
attribute [local go_sem] nw_ext9 nw_ext18 eqArr9 eqArr18 all_grow

attribute [local go_sem] loadNat2 loadArr2 loadWide2 loadK_nw ppre_1 ppre_2 ppre_3 ppre_4 ppre_5 ppre_6 ppre_7 ppre_8 ppre_9 ppre_10 ppre_11 ppre_12 ppre_13 ppre_14 ppre_15 ppre_16 ppre_17 ppre_18 ppre_19 ppre_20

attribute [local go_sem] eqN_self
attribute [local go_sem ↓] Go.wp_at_zero Go.wp_at_succ

attribute [local go_sem] dl_zero
set_option maxRecDepth 100000 in
set_option maxHeartbeats 1600000 in
theorem divides_zero (a b Wd : Nat) (cd : ∀ w, Calls Try.prog 14 #[.agg (nw 9 a), .agg (nw 9 b), .agg (nw 9 0)] w fun e w' => e = .returned (.tuple #[.agg (nw 9 0), .int .i64 400]) ∧ Gr w w') (w : World) :
    Calls Try.prog 3 #[.agg (nw 9 a), .agg (nw 9 b), .agg (nw 9 0), .agg (nw 18 Wd)] w fun e w' => e = .returned (.bool true) ∧ Gr w w' := by
  have CD : Hid (∀ w, Calls Try.prog 14 #[.agg (nw 9 a), .agg (nw 9 b), .agg (nw 9 0)] w fun e w' => e = .returned (.tuple #[.agg (nw 9 0), .int .i64 400]) ∧ Gr w w') := cd
  have CF : Hid (∀ w, Calls Try.prog 15 #[.agg (nw 9 0)] w (Nm 0 w)) := fun w => from_any 0 M_pos w
  have e0 := eqN_self 9 0
  clear cd
  go_enter Try.func3, Try.ntmps3
  go_wp2_with (first
    | (go_at_call 12; refine (div_zero _ _).mono ?_; rintro e w' ⟨rfl, gd, rfl⟩)
    | (go_at_call 13; refine (mod_zero _ _).mono ?_; rintro e w' ⟨rfl, gm, rfl⟩)
    | (go_at_call 14; refine (CD.out _).mono ?_; rintro e w' ⟨rfl, gu, rfl⟩)
    | (go_at_call 15; refine (CF.out _).mono ?_; rintro e w' ⟨pz, nz, rfl, Sz, gz, rfl⟩)
    | (go_at_call 17; refine (awake4_any _).mono ?_; rintro e w' ⟨rfl, gaw, rfl⟩)
    | (go_at_call 16; refine (num_any _ _).mono ?_; rintro e w' ⟨rfl, rfl⟩))
  go_ret
  exact ⟨rfl, (by repeat (first | exact Gr.refl _ | apply Gr.drewN | apply Gr.drew | apply Gr.alloc | apply Gr.gro))⟩
set_option maxRecDepth 100000 in
set_option maxHeartbeats 3200000 in
theorem divides_more (a b m Wd q r s t P : Nat) (zl : ((dl m : Nat) : Int) ≠ 0) (cd : ∀ w, Calls Try.prog 12 #[.agg (nw 9 a), .agg (nw 9 m)] w fun e w' => e = .returned (.tuple #[.agg (nw 9 q), .agg (nw 9 r), .int .i64 0]) ∧ Gr w w') (cm : ∀ w, Calls Try.prog 13 #[.agg (nw 18 Wd), .agg (nw 9 m)] w fun e w' => e = .returned (.tuple #[.agg (nw 9 s), .int .i64 0]) ∧ Gr w w') (cu : ∀ w, Calls Try.prog 14 #[.agg (nw 9 a), .agg (nw 9 b), .agg (nw 9 m)] w fun e w' => e = .returned (.tuple #[.agg (nw 9 t), .int .i64 0]) ∧ Gr w w')
    (cfa : ∀ w, Calls Try.prog 15 #[.agg (nw 9 a)] w (Nm a w)) (cfb : ∀ w, Calls Try.prog 15 #[.agg (nw 9 b)] w (Nm b w)) (cfm : ∀ w, Calls Try.prog 15 #[.agg (nw 9 m)] w (Nm m w)) (co : ∀ w, Calls Try.prog 21 #[.agg (nw 18 Wd)] w (Nm Wd w))
    (cdr : ∀ w p n p' n', Sl w p a → Sl w p' m → Calls Try.prog 18 #[.slice p (dl a) n, .slice p' (dl m) n'] w (Nm2 q r w)) (cmw : ∀ w p n p' n', Sl w p Wd → Sl w p' m → Calls Try.prog 20 #[.slice p (dl Wd) n, .slice p' (dl m) n'] w (Nm s w)) (cmp : ∀ w p n p' n', Sl w p P → Sl w p' m → Calls Try.prog 20 #[.slice p (dl P) n, .slice p' (dl m) n'] w (Nm t w))
    (cmu : ∀ w p n p' n', Sl w p a → Sl w p' b → Calls Try.prog 22 #[.slice p (dl a) n, .slice p' (dl b) n'] w (Nm P w)) (w : World) :
    Calls Try.prog 3 #[.agg (nw 9 a), .agg (nw 9 b), .agg (nw 9 m), .agg (nw 18 Wd)] w fun e w' => e = .returned (.bool true) ∧ Gr w w' := by
  have CD : Hid (∀ w, Calls Try.prog 12 #[.agg (nw 9 a), .agg (nw 9 m)] w fun e w' => e = .returned (.tuple #[.agg (nw 9 q), .agg (nw 9 r), .int .i64 0]) ∧ Gr w w') := cd
  have CM : Hid (∀ w, Calls Try.prog 13 #[.agg (nw 18 Wd), .agg (nw 9 m)] w fun e w' => e = .returned (.tuple #[.agg (nw 9 s), .int .i64 0]) ∧ Gr w w') := cm
  have CU : Hid (∀ w, Calls Try.prog 14 #[.agg (nw 9 a), .agg (nw 9 b), .agg (nw 9 m)] w fun e w' => e = .returned (.tuple #[.agg (nw 9 t), .int .i64 0]) ∧ Gr w w') := cu
  have CFa : Hid (∀ w, Calls Try.prog 15 #[.agg (nw 9 a)] w (Nm a w)) := cfa
  have CFb : Hid (∀ w, Calls Try.prog 15 #[.agg (nw 9 b)] w (Nm b w)) := cfb
  have CFm : Hid (∀ w, Calls Try.prog 15 #[.agg (nw 9 m)] w (Nm m w)) := cfm
  have CO : Hid (∀ w, Calls Try.prog 21 #[.agg (nw 18 Wd)] w (Nm Wd w)) := co
  have CDR : Hid (∀ w p n p' n', Sl w p a → Sl w p' m → Calls Try.prog 18 #[.slice p (dl a) n, .slice p' (dl m) n'] w (Nm2 q r w)) := cdr
  have CMu : Hid (∀ w p n p' n', Sl w p a → Sl w p' b → Calls Try.prog 22 #[.slice p (dl a) n, .slice p' (dl b) n'] w (Nm P w)) := cmu
  have z2 : (((dl m : Nat) : Int) == 0) = false := by rw [beq_eq_false_iff_ne]; exact zl
  have HMW : Hid (∀ w p n p' n', Sl w p Wd → Sl w p' m → Calls Try.prog 20 #[.slice p (dl Wd) n, .slice p' (dl m) n'] w (Nm s w)) := cmw
  have HMP : Hid (∀ w p n p' n', Sl w p P → Sl w p' m → Calls Try.prog 20 #[.slice p (dl P) n, .slice p' (dl m) n'] w (Nm t w)) := cmp
  clear cd cm cu cfa cfb cfm co cdr cmu cmw cmp zl
  go_enter Try.func3, Try.ntmps3
  go_upto_region 7 with (first
    | (go_at_call 12; refine (CD.out _).mono ?_; rintro e w' ⟨rfl, gd, rfl⟩)
    | (go_at_call 13; refine (CM.out _).mono ?_; rintro e w' ⟨rfl, gm, rfl⟩)
    | (go_at_call 14; refine (CU.out _).mono ?_; rintro e w' ⟨rfl, gu, rfl⟩)
    | (go_at_call 15; refine (CFm.out _).mono ?_; rintro e w' ⟨pz, nz, rfl, Sz, gz, rfl⟩))
  go_upto_region 8 with (first
    | (go_at_call 15; refine (CFa.out _).mono ?_; rintro e w' ⟨pa, na, rfl, Sa, ga, rfl⟩)
    | (go_at_call 18; refine (CDR.out _ _ _ _ _ Sa (Sz.gr ?_)).mono ?_; exact (by repeat (first | exact Gr.refl _ | apply Gr.drewN | apply Gr.drew | apply Gr.alloc | apply Gr.gro)); rintro e w' ⟨px, nx, py, ny, rfl, Sx, Sy, gq, rfl⟩))
  have CMW : Hid (∀ w p n, Sl w p Wd → Sl w pz m → Calls Try.prog 20 #[.slice p (dl Wd) n, .slice pz (dl m) nz] w (Nm s w)) := fun w p n h1 h2 => HMW.out w p n pz nz h1 h2
  have CMP : Hid (∀ w p n, Sl w p P → Sl w pz m → Calls Try.prog 20 #[.slice p (dl P) n, .slice pz (dl m) nz] w (Nm t w)) := fun w p n h1 h2 => HMP.out w p n pz nz h1 h2
  refine wp_region_pred (by kernel_rfl) (by kernel_rfl) [.c (.int .i64 0), .c (.int .i64 0), .c (.bool true), .c (.bool true), .c (.int .i64 0), .c (.int .i64 0), .c (.bool true), .c (.bool true), .c (.bool true), .c (.int .i64 0), .c (.int .i64 0), .c (.bool true), .c (.bool true), .c (.bool true), .c (.agg (nw 9 q)), .c (.slice px (dl q) nx), .c (.agg (nw 9 q)), .c (.bool true), .c (.bool true), .c (.bool true), .c (.agg (nw 9 r)), .c (.slice py (dl r) ny), .c (.agg (nw 9 r)), .c (.bool true), .c (.bool true), .c (.bool true), .c (.agg (nw 9 s)), .c (.agg (nw 18 Wd)), .n (Wd), .c (.slice pz (dl m) nz), .n (s), .c (.agg (nw 9 s)), .c (.bool true), .c (.bool true), .c (.bool true), .c (.agg (nw 9 t)), .c (.agg (nw 9 a)), .n (a), .c (.agg (nw 9 b)), .n (b), .n (P), .c (.slice pz (dl m) nz), .n (t), .c (.agg (nw 9 t)), .c (.bool true), .c (.bool true), .c (.bool true), .c (.bool true), .c (.bool true), .c (.bool true)] ?hs ?hf
  case hs =>
    intro listed vals a1 v i o hg hR hF ho hd
    have h4 : blk v (w.heap.size) = nw 9 a := (hg.blk (w.heap.size) (by simp [go_sem] <;> omega)).trans (by simp [go_sem])
    have ph4 : Pre (w.heap.size + 1) v.heap.size := Nat.le_trans (show w.heap.size + 1 ≤ _ by simp [go_sem] <;> omega) hg.below.size
    have h5 : blk v (w.heap.size + 1) = nw 9 b := (hg.blk (w.heap.size + 1) (by simp [go_sem] <;> omega)).trans (by simp [go_sem])
    have ph5 : Pre (w.heap.size + 1 + 1) v.heap.size := Nat.le_trans (show w.heap.size + 1 + 1 ≤ _ by simp [go_sem] <;> omega) hg.below.size
    have h7 : blk v (w.heap.size + 1 + 1 + 1) = nw 18 Wd := (hg.blk (w.heap.size + 1 + 1 + 1) (by simp [go_sem] <;> omega)).trans (by simp [go_sem])
    have ph7 : Pre (w.heap.size + 1 + 1 + 1 + 1) v.heap.size := Nat.le_trans (show w.heap.size + 1 + 1 + 1 + 1 ≤ _ by simp [go_sem] <;> omega) hg.below.size
    have h9 : blk v (w.heap.size + 1 + 1 + 1 + 1 + gd.os.length) = nw 9 q := (hg.blk (w.heap.size + 1 + 1 + 1 + 1 + gd.os.length) (by simp [go_sem] <;> omega)).trans (by simp [go_sem])
    have ph9 : Pre (w.heap.size + 1 + 1 + 1 + 1 + gd.os.length + 1) v.heap.size := Nat.le_trans (show w.heap.size + 1 + 1 + 1 + 1 + gd.os.length + 1 ≤ _ by simp [go_sem] <;> omega) hg.below.size
    have h10 : blk v (w.heap.size + 1 + 1 + 1 + 1 + gd.os.length + 1) = nw 9 r := (hg.blk (w.heap.size + 1 + 1 + 1 + 1 + gd.os.length + 1) (by simp [go_sem] <;> omega)).trans (by simp [go_sem])
    have ph10 : Pre (w.heap.size + 1 + 1 + 1 + 1 + gd.os.length + 1 + 1) v.heap.size := Nat.le_trans (show w.heap.size + 1 + 1 + 1 + 1 + gd.os.length + 1 + 1 ≤ _ by simp [go_sem] <;> omega) hg.below.size
    have h12 : blk v (w.heap.size + 1 + 1 + 1 + 1 + gd.os.length + 1 + 1 + gm.os.length) = nw 9 s := (hg.blk (w.heap.size + 1 + 1 + 1 + 1 + gd.os.length + 1 + 1 + gm.os.length) (by simp [go_sem] <;> omega)).trans (by simp [go_sem])
    have ph12 : Pre (w.heap.size + 1 + 1 + 1 + 1 + gd.os.length + 1 + 1 + gm.os.length + 1) v.heap.size := Nat.le_trans (show w.heap.size + 1 + 1 + 1 + 1 + gd.os.length + 1 + 1 + gm.os.length + 1 ≤ _ by simp [go_sem] <;> omega) hg.below.size
    have h14 : blk v (w.heap.size + 1 + 1 + 1 + 1 + gd.os.length + 1 + 1 + gm.os.length + 1 + gu.os.length) = nw 9 t := (hg.blk (w.heap.size + 1 + 1 + 1 + 1 + gd.os.length + 1 + 1 + gm.os.length + 1 + gu.os.length) (by simp [go_sem] <;> omega)).trans (by simp [go_sem])
    have ph14 : Pre (w.heap.size + 1 + 1 + 1 + 1 + gd.os.length + 1 + 1 + gm.os.length + 1 + gu.os.length + 1) v.heap.size := Nat.le_trans (show w.heap.size + 1 + 1 + 1 + 1 + gd.os.length + 1 + 1 + gm.os.length + 1 + gu.os.length + 1 ≤ _ by simp [go_sem] <;> omega) hg.below.size
    have hi : i < 50 := by simpa using (Array.getElem?_eq_some_iff.1 ho).1
    obtain rfl | rfl | rfl | rfl | rfl | rfl | rfl | rfl | rfl | rfl | rfl | rfl | rfl | rfl | rfl | rfl | rfl | rfl | rfl | rfl | rfl | rfl | rfl | rfl | rfl | rfl | rfl | rfl | rfl | rfl | rfl | rfl | rfl | rfl | rfl | rfl | rfl | rfl | rfl | rfl | rfl | rfl | rfl | rfl | rfl | rfl | rfl | rfl | rfl | rfl : i = 0 ∨ i = 1 ∨ i = 2 ∨ i = 3 ∨ i = 4 ∨ i = 5 ∨ i = 6 ∨ i = 7 ∨ i = 8 ∨ i = 9 ∨ i = 10 ∨ i = 11 ∨ i = 12 ∨ i = 13 ∨ i = 14 ∨ i = 15 ∨ i = 16 ∨ i = 17 ∨ i = 18 ∨ i = 19 ∨ i = 20 ∨ i = 21 ∨ i = 22 ∨ i = 23 ∨ i = 24 ∨ i = 25 ∨ i = 26 ∨ i = 27 ∨ i = 28 ∨ i = 29 ∨ i = 30 ∨ i = 31 ∨ i = 32 ∨ i = 33 ∨ i = 34 ∨ i = 35 ∨ i = 36 ∨ i = 37 ∨ i = 38 ∨ i = 39 ∨ i = 40 ∨ i = 41 ∨ i = 42 ∨ i = 43 ∨ i = 44 ∨ i = 45 ∨ i = 46 ∨ i = 47 ∨ i = 48 ∨ i = 49 := by omega
    · obtain rfl := Option.some.inj ho
      have f0 := hF.old (s := 11) (v := .int .i64 0) (by kernel_rfl) rfl
      refine Or.inl ⟨wanted_no rfl, ?_⟩
      exact wp_val (.int .i64 0) (by simp [go_sem, f0]) ⟨_, rfl, Gr.refl _, rfl⟩
    · obtain rfl := Option.some.inj ho
      have l0 := on_of hd 0 (by kernel_rfl)
      have f0 := hF.at (s := 87) (i := 0) (by kernel_rfl) (by simp) l0
      rw [show vals 0 = .int .i64 0 from hR 0 l0] at f0
      refine Or.inl ⟨wanted_no rfl, ?_⟩
      exact wp_ret (.int .i64 0) (by simp [go_sem, f0]) (num_gr _ _) (fun w2 hg2 => ⟨_, rfl, hg2, rfl⟩)
    · obtain rfl := Option.some.inj ho
      have l0 := on_of hd 1 (by kernel_rfl)
      have f0 := hF.at (s := 88) (i := 1) (by kernel_rfl) (by simp) l0
      rw [show vals 1 = .int .i64 0 from hR 1 l0] at f0
      refine Or.inl ⟨wanted_no rfl, ?_⟩
      exact wp_val (.bool true) (by simp [go_sem, f0]) ⟨_, rfl, Gr.refl _, rfl⟩
    · obtain rfl := Option.some.inj ho
      have l0 := on_of hd 2 (by kernel_rfl)
      have f0 := hF.at (s := 89) (i := 2) (by kernel_rfl) (by simp) l0
      rw [show vals 2 = .bool true from hR 2 l0] at f0
      refine Or.inl ⟨wanted_no rfl, ?_⟩
      exact wp_val (.bool true) (by simp [go_sem, f0]) ⟨_, rfl, Gr.refl _, rfl⟩
    · obtain rfl := Option.some.inj ho
      have lg := on_of hd 3 (by kernel_rfl)
      have fg := hF.at (s := 90) (i := 3) (by kernel_rfl) (by simp) lg
      rw [show vals 3 = .bool true from hR 3 lg] at fg
      have f0 := hF.old (s := 13) (v := .int .i64 0) (by kernel_rfl) rfl
      refine Or.inl ⟨wanted_at (j := 3) (s := 90) rfl rfl rfl fg, ?_⟩
      exact wp_val (.int .i64 0) (by simp [go_sem, f0]) ⟨_, rfl, Gr.refl _, rfl⟩
    · obtain rfl := Option.some.inj ho
      have lg := on_of hd 3 (by kernel_rfl)
      have fg := hF.at (s := 90) (i := 3) (by kernel_rfl) (by simp) lg
      rw [show vals 3 = .bool true from hR 3 lg] at fg
      have l0 := on_of hd 4 (by kernel_rfl)
      have f0 := hF.at (s := 91) (i := 4) (by kernel_rfl) (by simp) l0
      rw [show vals 4 = .int .i64 0 from hR 4 l0] at f0
      refine Or.inl ⟨wanted_at (j := 3) (s := 90) rfl rfl rfl fg, ?_⟩
      exact wp_ret (.int .i64 0) (by simp [go_sem, f0]) (num_gr _ _) (fun w2 hg2 => ⟨_, rfl, hg2, rfl⟩)
    · obtain rfl := Option.some.inj ho
      have lg := on_of hd 3 (by kernel_rfl)
      have fg := hF.at (s := 90) (i := 3) (by kernel_rfl) (by simp) lg
      rw [show vals 3 = .bool true from hR 3 lg] at fg
      have l0 := on_of hd 5 (by kernel_rfl)
      have f0 := hF.at (s := 92) (i := 5) (by kernel_rfl) (by simp) l0
      rw [show vals 5 = .int .i64 0 from hR 5 l0] at f0
      refine Or.inl ⟨wanted_at (j := 3) (s := 90) rfl rfl rfl fg, ?_⟩
      exact wp_val (.bool true) (by simp [go_sem, f0]) ⟨_, rfl, Gr.refl _, rfl⟩
    · obtain rfl := Option.some.inj ho
      have l0 := on_of hd 3 (by kernel_rfl)
      have f0 := hF.at (s := 90) (i := 3) (by kernel_rfl) (by simp) l0
      rw [show vals 3 = .bool true from hR 3 l0] at f0
      have l1 := on_of hd 6 (by kernel_rfl)
      have f1 := hF.at (s := 93) (i := 6) (by kernel_rfl) (by simp) l1
      rw [show vals 6 = .bool true from hR 6 l1] at f1
      refine Or.inl ⟨wanted_no rfl, ?_⟩
      exact wp_val (.bool true) (by simp [go_sem, f0, f1]) ⟨_, rfl, Gr.refl _, rfl⟩
    · obtain rfl := Option.some.inj ho
      have l0 := on_of hd 7 (by kernel_rfl)
      have f0 := hF.at (s := 94) (i := 7) (by kernel_rfl) (by simp) l0
      rw [show vals 7 = .bool true from hR 7 l0] at f0
      refine Or.inl ⟨wanted_no rfl, ?_⟩
      exact wp_val (.bool true) (by simp [go_sem, f0]) ⟨_, rfl, Gr.refl _, rfl⟩
    · obtain rfl := Option.some.inj ho
      have lg := on_of hd 8 (by kernel_rfl)
      have fg := hF.at (s := 95) (i := 8) (by kernel_rfl) (by simp) lg
      rw [show vals 8 = .bool true from hR 8 lg] at fg
      have f0 := hF.old (s := 15) (v := .int .i64 0) (by kernel_rfl) rfl
      refine Or.inl ⟨wanted_at (j := 8) (s := 95) rfl rfl rfl fg, ?_⟩
      exact wp_val (.int .i64 0) (by simp [go_sem, f0]) ⟨_, rfl, Gr.refl _, rfl⟩
    · obtain rfl := Option.some.inj ho
      have lg := on_of hd 8 (by kernel_rfl)
      have fg := hF.at (s := 95) (i := 8) (by kernel_rfl) (by simp) lg
      rw [show vals 8 = .bool true from hR 8 lg] at fg
      have l0 := on_of hd 9 (by kernel_rfl)
      have f0 := hF.at (s := 96) (i := 9) (by kernel_rfl) (by simp) l0
      rw [show vals 9 = .int .i64 0 from hR 9 l0] at f0
      refine Or.inl ⟨wanted_at (j := 8) (s := 95) rfl rfl rfl fg, ?_⟩
      exact wp_ret (.int .i64 0) (by simp [go_sem, f0]) (num_gr _ _) (fun w2 hg2 => ⟨_, rfl, hg2, rfl⟩)
    · obtain rfl := Option.some.inj ho
      have lg := on_of hd 8 (by kernel_rfl)
      have fg := hF.at (s := 95) (i := 8) (by kernel_rfl) (by simp) lg
      rw [show vals 8 = .bool true from hR 8 lg] at fg
      have l0 := on_of hd 10 (by kernel_rfl)
      have f0 := hF.at (s := 97) (i := 10) (by kernel_rfl) (by simp) l0
      rw [show vals 10 = .int .i64 0 from hR 10 l0] at f0
      refine Or.inl ⟨wanted_at (j := 8) (s := 95) rfl rfl rfl fg, ?_⟩
      exact wp_val (.bool true) (by simp [go_sem, f0]) ⟨_, rfl, Gr.refl _, rfl⟩
    · obtain rfl := Option.some.inj ho
      have l0 := on_of hd 8 (by kernel_rfl)
      have f0 := hF.at (s := 95) (i := 8) (by kernel_rfl) (by simp) l0
      rw [show vals 8 = .bool true from hR 8 l0] at f0
      have l1 := on_of hd 11 (by kernel_rfl)
      have f1 := hF.at (s := 98) (i := 11) (by kernel_rfl) (by simp) l1
      rw [show vals 11 = .bool true from hR 11 l1] at f1
      refine Or.inl ⟨wanted_no rfl, ?_⟩
      exact wp_val (.bool true) (by simp [go_sem, f0, f1]) ⟨_, rfl, Gr.refl _, rfl⟩
    · obtain rfl := Option.some.inj ho
      have l0 := on_of hd 12 (by kernel_rfl)
      have f0 := hF.at (s := 99) (i := 12) (by kernel_rfl) (by simp) l0
      rw [show vals 12 = .bool true from hR 12 l0] at f0
      refine Or.inl ⟨wanted_no rfl, ?_⟩
      exact wp_val (.bool true) (by simp [go_sem, f0]) ⟨_, rfl, Gr.refl _, rfl⟩
    · obtain rfl := Option.some.inj ho
      have lg := on_of hd 13 (by kernel_rfl)
      have fg := hF.at (s := 100) (i := 13) (by kernel_rfl) (by simp) lg
      rw [show vals 13 = .bool true from hR 13 lg] at fg
      have f0 := hF.old (s := 9) (v := .pointer (some ⟨w.heap.size + 1 + 1 + 1 + 1 + gd.os.length, 0, none⟩)) (by kernel_rfl) rfl
      refine Or.inl ⟨wanted_at (j := 13) (s := 100) rfl rfl rfl fg, ?_⟩
      exact wp_val (.agg (nw 9 q)) (by simp [go_sem, f0, h9]) ⟨_, rfl, Gr.refl _, rfl⟩
    · obtain rfl := Option.some.inj ho
      have lg := on_of hd 13 (by kernel_rfl)
      have fg := hF.at (s := 100) (i := 13) (by kernel_rfl) (by simp) lg
      rw [show vals 13 = .bool true from hR 13 lg] at fg
      have f0 := hF.old (s := 17) (v := .slice px (dl q) nx) (by kernel_rfl) rfl
      refine Or.inl ⟨wanted_at (j := 13) (s := 100) rfl rfl rfl fg, ?_⟩
      exact wp_val (.slice px (dl q) nx) (by simp [go_sem, f0]) ⟨_, rfl, Gr.refl _, rfl⟩
    · obtain rfl := Option.some.inj ho
      have lg := on_of hd 13 (by kernel_rfl)
      have fg := hF.at (s := 100) (i := 13) (by kernel_rfl) (by simp) lg
      rw [show vals 13 = .bool true from hR 13 lg] at fg
      have l0 := on_of hd 15 (by kernel_rfl)
      have f0 := hF.at (s := 102) (i := 15) (by kernel_rfl) (by simp) l0
      rw [show vals 15 = .slice px (dl q) nx from hR 15 l0] at f0
      refine Or.inl ⟨wanted_at (j := 13) (s := 100) rfl rfl rfl fg, ?_⟩
      exact wp_ret (.agg (nw 9 q)) (by simp [go_sem, f0]) (rnat_any q nx px _ (Sx.gr (Gr.trans (by repeat (first | exact Gr.refl _ | apply Gr.drewN | apply Gr.drew | apply Gr.alloc | apply Gr.gro)) hg))) (fun w2 hg2 => ⟨_, rfl, hg2, rfl⟩)
    · obtain rfl := Option.some.inj ho
      have lg := on_of hd 13 (by kernel_rfl)
      have fg := hF.at (s := 100) (i := 13) (by kernel_rfl) (by simp) lg
      rw [show vals 13 = .bool true from hR 13 lg] at fg
      have l0 := on_of hd 14 (by kernel_rfl)
      have f0 := hF.at (s := 101) (i := 14) (by kernel_rfl) (by simp) l0
      rw [show vals 14 = .agg (nw 9 q) from hR 14 l0] at f0
      have l1 := on_of hd 16 (by kernel_rfl)
      have f1 := hF.at (s := 103) (i := 16) (by kernel_rfl) (by simp) l1
      rw [show vals 16 = .agg (nw 9 q) from hR 16 l1] at f1
      refine Or.inl ⟨wanted_at (j := 13) (s := 100) rfl rfl rfl fg, ?_⟩
      exact wp_val (.bool true) (by simp [go_sem, f0, f1]) ⟨_, rfl, Gr.refl _, rfl⟩
    · obtain rfl := Option.some.inj ho
      have l0 := on_of hd 13 (by kernel_rfl)
      have f0 := hF.at (s := 100) (i := 13) (by kernel_rfl) (by simp) l0
      rw [show vals 13 = .bool true from hR 13 l0] at f0
      have l1 := on_of hd 17 (by kernel_rfl)
      have f1 := hF.at (s := 104) (i := 17) (by kernel_rfl) (by simp) l1
      rw [show vals 17 = .bool true from hR 17 l1] at f1
      refine Or.inl ⟨wanted_no rfl, ?_⟩
      exact wp_val (.bool true) (by simp [go_sem, f0, f1]) ⟨_, rfl, Gr.refl _, rfl⟩
    · obtain rfl := Option.some.inj ho
      have l0 := on_of hd 18 (by kernel_rfl)
      have f0 := hF.at (s := 105) (i := 18) (by kernel_rfl) (by simp) l0
      rw [show vals 18 = .bool true from hR 18 l0] at f0
      refine Or.inl ⟨wanted_no rfl, ?_⟩
      exact wp_val (.bool true) (by simp [go_sem, f0]) ⟨_, rfl, Gr.refl _, rfl⟩
    · obtain rfl := Option.some.inj ho
      have lg := on_of hd 19 (by kernel_rfl)
      have fg := hF.at (s := 106) (i := 19) (by kernel_rfl) (by simp) lg
      rw [show vals 19 = .bool true from hR 19 lg] at fg
      have f0 := hF.old (s := 10) (v := .pointer (some ⟨w.heap.size + 1 + 1 + 1 + 1 + gd.os.length + 1, 0, none⟩)) (by kernel_rfl) rfl
      refine Or.inl ⟨wanted_at (j := 19) (s := 106) rfl rfl rfl fg, ?_⟩
      exact wp_val (.agg (nw 9 r)) (by simp [go_sem, f0, h10]) ⟨_, rfl, Gr.refl _, rfl⟩
    · obtain rfl := Option.some.inj ho
      have lg := on_of hd 19 (by kernel_rfl)
      have fg := hF.at (s := 106) (i := 19) (by kernel_rfl) (by simp) lg
      rw [show vals 19 = .bool true from hR 19 lg] at fg
      have f0 := hF.old (s := 18) (v := .slice py (dl r) ny) (by kernel_rfl) rfl
      refine Or.inl ⟨wanted_at (j := 19) (s := 106) rfl rfl rfl fg, ?_⟩
      exact wp_val (.slice py (dl r) ny) (by simp [go_sem, f0]) ⟨_, rfl, Gr.refl _, rfl⟩
    · obtain rfl := Option.some.inj ho
      have lg := on_of hd 19 (by kernel_rfl)
      have fg := hF.at (s := 106) (i := 19) (by kernel_rfl) (by simp) lg
      rw [show vals 19 = .bool true from hR 19 lg] at fg
      have l0 := on_of hd 21 (by kernel_rfl)
      have f0 := hF.at (s := 108) (i := 21) (by kernel_rfl) (by simp) l0
      rw [show vals 21 = .slice py (dl r) ny from hR 21 l0] at f0
      refine Or.inl ⟨wanted_at (j := 19) (s := 106) rfl rfl rfl fg, ?_⟩
      exact wp_ret (.agg (nw 9 r)) (by simp [go_sem, f0]) (rnat_any r ny py _ (Sy.gr (Gr.trans (by repeat (first | exact Gr.refl _ | apply Gr.drewN | apply Gr.drew | apply Gr.alloc | apply Gr.gro)) hg))) (fun w2 hg2 => ⟨_, rfl, hg2, rfl⟩)
    · obtain rfl := Option.some.inj ho
      have lg := on_of hd 19 (by kernel_rfl)
      have fg := hF.at (s := 106) (i := 19) (by kernel_rfl) (by simp) lg
      rw [show vals 19 = .bool true from hR 19 lg] at fg
      have l0 := on_of hd 20 (by kernel_rfl)
      have f0 := hF.at (s := 107) (i := 20) (by kernel_rfl) (by simp) l0
      rw [show vals 20 = .agg (nw 9 r) from hR 20 l0] at f0
      have l1 := on_of hd 22 (by kernel_rfl)
      have f1 := hF.at (s := 109) (i := 22) (by kernel_rfl) (by simp) l1
      rw [show vals 22 = .agg (nw 9 r) from hR 22 l1] at f1
      refine Or.inl ⟨wanted_at (j := 19) (s := 106) rfl rfl rfl fg, ?_⟩
      exact wp_val (.bool true) (by simp [go_sem, f0, f1]) ⟨_, rfl, Gr.refl _, rfl⟩
    · obtain rfl := Option.some.inj ho
      have l0 := on_of hd 19 (by kernel_rfl)
      have f0 := hF.at (s := 106) (i := 19) (by kernel_rfl) (by simp) l0
      rw [show vals 19 = .bool true from hR 19 l0] at f0
      have l1 := on_of hd 23 (by kernel_rfl)
      have f1 := hF.at (s := 110) (i := 23) (by kernel_rfl) (by simp) l1
      rw [show vals 23 = .bool true from hR 23 l1] at f1
      refine Or.inl ⟨wanted_no rfl, ?_⟩
      exact wp_val (.bool true) (by simp [go_sem, f0, f1]) ⟨_, rfl, Gr.refl _, rfl⟩
    · obtain rfl := Option.some.inj ho
      have l0 := on_of hd 24 (by kernel_rfl)
      have f0 := hF.at (s := 111) (i := 24) (by kernel_rfl) (by simp) l0
      rw [show vals 24 = .bool true from hR 24 l0] at f0
      refine Or.inl ⟨wanted_no rfl, ?_⟩
      exact wp_val (.bool true) (by simp [go_sem, f0]) ⟨_, rfl, Gr.refl _, rfl⟩
    · obtain rfl := Option.some.inj ho
      have lg := on_of hd 25 (by kernel_rfl)
      have fg := hF.at (s := 112) (i := 25) (by kernel_rfl) (by simp) lg
      rw [show vals 25 = .bool true from hR 25 lg] at fg
      have f0 := hF.old (s := 12) (v := .pointer (some ⟨w.heap.size + 1 + 1 + 1 + 1 + gd.os.length + 1 + 1 + gm.os.length, 0, none⟩)) (by kernel_rfl) rfl
      refine Or.inl ⟨wanted_at (j := 25) (s := 112) rfl rfl rfl fg, ?_⟩
      exact wp_val (.agg (nw 9 s)) (by simp [go_sem, f0, h12]) ⟨_, rfl, Gr.refl _, rfl⟩
    · obtain rfl := Option.some.inj ho
      have lg := on_of hd 25 (by kernel_rfl)
      have fg := hF.at (s := 112) (i := 25) (by kernel_rfl) (by simp) lg
      rw [show vals 25 = .bool true from hR 25 lg] at fg
      have f0 := hF.old (s := 7) (v := .pointer (some ⟨w.heap.size + 1 + 1 + 1, 0, none⟩)) (by kernel_rfl) rfl
      refine Or.inl ⟨wanted_at (j := 25) (s := 112) rfl rfl rfl fg, ?_⟩
      exact wp_val (.agg (nw 18 Wd)) (by simp [go_sem, f0, h7]) ⟨_, rfl, Gr.refl _, rfl⟩
    · obtain rfl := Option.some.inj ho
      have lg := on_of hd 25 (by kernel_rfl)
      have fg := hF.at (s := 112) (i := 25) (by kernel_rfl) (by simp) lg
      rw [show vals 25 = .bool true from hR 25 lg] at fg
      have l0 := on_of hd 27 (by kernel_rfl)
      have f0 := hF.at (s := 114) (i := 27) (by kernel_rfl) (by simp) l0
      rw [show vals 27 = .agg (nw 18 Wd) from hR 27 l0] at f0
      refine Or.inl ⟨wanted_at (j := 25) (s := 112) rfl rfl rfl fg, ?_⟩
      exact wp_retN (by simp [go_sem, f0]) (CO.out _) (fun p n w2 hS hg2 => ⟨_, rfl, hg2, p, n, rfl, hS⟩)
    · obtain rfl := Option.some.inj ho
      have lg := on_of hd 25 (by kernel_rfl)
      have fg := hF.at (s := 112) (i := 25) (by kernel_rfl) (by simp) lg
      rw [show vals 25 = .bool true from hR 25 lg] at fg
      have f0 := hF.old (s := 16) (v := .slice pz (dl m) nz) (by kernel_rfl) rfl
      refine Or.inl ⟨wanted_at (j := 25) (s := 112) rfl rfl rfl fg, ?_⟩
      exact wp_val (.slice pz (dl m) nz) (by simp [go_sem, f0]) ⟨_, rfl, Gr.refl _, rfl⟩
    · obtain rfl := Option.some.inj ho
      have lg := on_of hd 25 (by kernel_rfl)
      have fg := hF.at (s := 112) (i := 25) (by kernel_rfl) (by simp) lg
      rw [show vals 25 = .bool true from hR 25 lg] at fg
      have l0 := on_of hd 28 (by kernel_rfl)
      have f0 := hF.at (s := 115) (i := 28) (by kernel_rfl) (by simp) l0
      obtain ⟨p0, n0, e0, S0⟩ := (show ∃ p n, vals 28 = Value.slice p (dl (Wd)) n ∧ Sl v p (Wd) from hR 28 l0)
      rw [e0] at f0
      have l1 := on_of hd 29 (by kernel_rfl)
      have f1 := hF.at (s := 116) (i := 29) (by kernel_rfl) (by simp) l1
      rw [show vals 29 = .slice pz (dl m) nz from hR 29 l1] at f1
      refine Or.inl ⟨wanted_at (j := 25) (s := 112) rfl rfl rfl fg, ?_⟩
      exact wp_retN (by simp [go_sem, f0, f1]) (CMW.out _ _ n0 S0 (Sz.gr (Gr.trans (by repeat (first | exact Gr.refl _ | apply Gr.drewN | apply Gr.drew | apply Gr.alloc | apply Gr.gro)) hg))) (fun p n w2 hS hg2 => ⟨_, rfl, hg2, p, n, rfl, hS⟩)
    · obtain rfl := Option.some.inj ho
      have lg := on_of hd 25 (by kernel_rfl)
      have fg := hF.at (s := 112) (i := 25) (by kernel_rfl) (by simp) lg
      rw [show vals 25 = .bool true from hR 25 lg] at fg
      have l0 := on_of hd 30 (by kernel_rfl)
      have f0 := hF.at (s := 117) (i := 30) (by kernel_rfl) (by simp) l0
      obtain ⟨p0, n0, e0, S0⟩ := (show ∃ p n, vals 30 = Value.slice p (dl (s)) n ∧ Sl v p (s) from hR 30 l0)
      rw [e0] at f0
      refine Or.inl ⟨wanted_at (j := 25) (s := 112) rfl rfl rfl fg, ?_⟩
      exact wp_ret (.agg (nw 9 s)) (by simp [go_sem, f0]) (rnat_any s n0 p0 _ S0) (fun w2 hg2 => ⟨_, rfl, hg2, rfl⟩)
    · obtain rfl := Option.some.inj ho
      have lg := on_of hd 25 (by kernel_rfl)
      have fg := hF.at (s := 112) (i := 25) (by kernel_rfl) (by simp) lg
      rw [show vals 25 = .bool true from hR 25 lg] at fg
      have l0 := on_of hd 26 (by kernel_rfl)
      have f0 := hF.at (s := 113) (i := 26) (by kernel_rfl) (by simp) l0
      rw [show vals 26 = .agg (nw 9 s) from hR 26 l0] at f0
      have l1 := on_of hd 31 (by kernel_rfl)
      have f1 := hF.at (s := 118) (i := 31) (by kernel_rfl) (by simp) l1
      rw [show vals 31 = .agg (nw 9 s) from hR 31 l1] at f1
      refine Or.inl ⟨wanted_at (j := 25) (s := 112) rfl rfl rfl fg, ?_⟩
      exact wp_val (.bool true) (by simp [go_sem, f0, f1]) ⟨_, rfl, Gr.refl _, rfl⟩
    · obtain rfl := Option.some.inj ho
      have l0 := on_of hd 25 (by kernel_rfl)
      have f0 := hF.at (s := 112) (i := 25) (by kernel_rfl) (by simp) l0
      rw [show vals 25 = .bool true from hR 25 l0] at f0
      have l1 := on_of hd 32 (by kernel_rfl)
      have f1 := hF.at (s := 119) (i := 32) (by kernel_rfl) (by simp) l1
      rw [show vals 32 = .bool true from hR 32 l1] at f1
      refine Or.inl ⟨wanted_no rfl, ?_⟩
      exact wp_val (.bool true) (by simp [go_sem, f0, f1]) ⟨_, rfl, Gr.refl _, rfl⟩
    · obtain rfl := Option.some.inj ho
      have l0 := on_of hd 33 (by kernel_rfl)
      have f0 := hF.at (s := 120) (i := 33) (by kernel_rfl) (by simp) l0
      rw [show vals 33 = .bool true from hR 33 l0] at f0
      refine Or.inl ⟨wanted_no rfl, ?_⟩
      exact wp_val (.bool true) (by simp [go_sem, f0]) ⟨_, rfl, Gr.refl _, rfl⟩
    · obtain rfl := Option.some.inj ho
      have lg := on_of hd 34 (by kernel_rfl)
      have fg := hF.at (s := 121) (i := 34) (by kernel_rfl) (by simp) lg
      rw [show vals 34 = .bool true from hR 34 lg] at fg
      have f0 := hF.old (s := 14) (v := .pointer (some ⟨w.heap.size + 1 + 1 + 1 + 1 + gd.os.length + 1 + 1 + gm.os.length + 1 + gu.os.length, 0, none⟩)) (by kernel_rfl) rfl
      refine Or.inl ⟨wanted_at (j := 34) (s := 121) rfl rfl rfl fg, ?_⟩
      exact wp_val (.agg (nw 9 t)) (by simp [go_sem, f0, h14]) ⟨_, rfl, Gr.refl _, rfl⟩
    · obtain rfl := Option.some.inj ho
      have lg := on_of hd 34 (by kernel_rfl)
      have fg := hF.at (s := 121) (i := 34) (by kernel_rfl) (by simp) lg
      rw [show vals 34 = .bool true from hR 34 lg] at fg
      have f0 := hF.old (s := 4) (v := .pointer (some ⟨w.heap.size, 0, none⟩)) (by kernel_rfl) rfl
      refine Or.inl ⟨wanted_at (j := 34) (s := 121) rfl rfl rfl fg, ?_⟩
      exact wp_val (.agg (nw 9 a)) (by simp [go_sem, f0, h4]) ⟨_, rfl, Gr.refl _, rfl⟩
    · obtain rfl := Option.some.inj ho
      have lg := on_of hd 34 (by kernel_rfl)
      have fg := hF.at (s := 121) (i := 34) (by kernel_rfl) (by simp) lg
      rw [show vals 34 = .bool true from hR 34 lg] at fg
      have l0 := on_of hd 36 (by kernel_rfl)
      have f0 := hF.at (s := 123) (i := 36) (by kernel_rfl) (by simp) l0
      rw [show vals 36 = .agg (nw 9 a) from hR 36 l0] at f0
      refine Or.inl ⟨wanted_at (j := 34) (s := 121) rfl rfl rfl fg, ?_⟩
      exact wp_retN (by simp [go_sem, f0]) (CFa.out _) (fun p n w2 hS hg2 => ⟨_, rfl, hg2, p, n, rfl, hS⟩)
    · obtain rfl := Option.some.inj ho
      have lg := on_of hd 34 (by kernel_rfl)
      have fg := hF.at (s := 121) (i := 34) (by kernel_rfl) (by simp) lg
      rw [show vals 34 = .bool true from hR 34 lg] at fg
      have f0 := hF.old (s := 5) (v := .pointer (some ⟨w.heap.size + 1, 0, none⟩)) (by kernel_rfl) rfl
      refine Or.inl ⟨wanted_at (j := 34) (s := 121) rfl rfl rfl fg, ?_⟩
      exact wp_val (.agg (nw 9 b)) (by simp [go_sem, f0, h5]) ⟨_, rfl, Gr.refl _, rfl⟩
    · obtain rfl := Option.some.inj ho
      have lg := on_of hd 34 (by kernel_rfl)
      have fg := hF.at (s := 121) (i := 34) (by kernel_rfl) (by simp) lg
      rw [show vals 34 = .bool true from hR 34 lg] at fg
      have l0 := on_of hd 38 (by kernel_rfl)
      have f0 := hF.at (s := 125) (i := 38) (by kernel_rfl) (by simp) l0
      rw [show vals 38 = .agg (nw 9 b) from hR 38 l0] at f0
      refine Or.inl ⟨wanted_at (j := 34) (s := 121) rfl rfl rfl fg, ?_⟩
      exact wp_retN (by simp [go_sem, f0]) (CFb.out _) (fun p n w2 hS hg2 => ⟨_, rfl, hg2, p, n, rfl, hS⟩)
    · obtain rfl := Option.some.inj ho
      have lg := on_of hd 34 (by kernel_rfl)
      have fg := hF.at (s := 121) (i := 34) (by kernel_rfl) (by simp) lg
      rw [show vals 34 = .bool true from hR 34 lg] at fg
      have l0 := on_of hd 37 (by kernel_rfl)
      have f0 := hF.at (s := 124) (i := 37) (by kernel_rfl) (by simp) l0
      obtain ⟨p0, n0, e0, S0⟩ := (show ∃ p n, vals 37 = Value.slice p (dl (a)) n ∧ Sl v p (a) from hR 37 l0)
      rw [e0] at f0
      have l1 := on_of hd 39 (by kernel_rfl)
      have f1 := hF.at (s := 126) (i := 39) (by kernel_rfl) (by simp) l1
      obtain ⟨p1, n1, e1, S1⟩ := (show ∃ p n, vals 39 = Value.slice p (dl (b)) n ∧ Sl v p (b) from hR 39 l1)
      rw [e1] at f1
      refine Or.inl ⟨wanted_at (j := 34) (s := 121) rfl rfl rfl fg, ?_⟩
      exact wp_retN (by simp [go_sem, f0, f1]) (CMu.out _ _ n0 _ n1 S0 S1) (fun p n w2 hS hg2 => ⟨_, rfl, hg2, p, n, rfl, hS⟩)
    · obtain rfl := Option.some.inj ho
      have lg := on_of hd 34 (by kernel_rfl)
      have fg := hF.at (s := 121) (i := 34) (by kernel_rfl) (by simp) lg
      rw [show vals 34 = .bool true from hR 34 lg] at fg
      have f0 := hF.old (s := 16) (v := .slice pz (dl m) nz) (by kernel_rfl) rfl
      refine Or.inl ⟨wanted_at (j := 34) (s := 121) rfl rfl rfl fg, ?_⟩
      exact wp_val (.slice pz (dl m) nz) (by simp [go_sem, f0]) ⟨_, rfl, Gr.refl _, rfl⟩
    · obtain rfl := Option.some.inj ho
      have lg := on_of hd 34 (by kernel_rfl)
      have fg := hF.at (s := 121) (i := 34) (by kernel_rfl) (by simp) lg
      rw [show vals 34 = .bool true from hR 34 lg] at fg
      have l0 := on_of hd 40 (by kernel_rfl)
      have f0 := hF.at (s := 127) (i := 40) (by kernel_rfl) (by simp) l0
      obtain ⟨p0, n0, e0, S0⟩ := (show ∃ p n, vals 40 = Value.slice p (dl (P)) n ∧ Sl v p (P) from hR 40 l0)
      rw [e0] at f0
      have l1 := on_of hd 41 (by kernel_rfl)
      have f1 := hF.at (s := 128) (i := 41) (by kernel_rfl) (by simp) l1
      rw [show vals 41 = .slice pz (dl m) nz from hR 41 l1] at f1
      refine Or.inl ⟨wanted_at (j := 34) (s := 121) rfl rfl rfl fg, ?_⟩
      exact wp_retN (by simp [go_sem, f0, f1]) (CMP.out _ _ n0 S0 (Sz.gr (Gr.trans (by repeat (first | exact Gr.refl _ | apply Gr.drewN | apply Gr.drew | apply Gr.alloc | apply Gr.gro)) hg))) (fun p n w2 hS hg2 => ⟨_, rfl, hg2, p, n, rfl, hS⟩)
    · obtain rfl := Option.some.inj ho
      have lg := on_of hd 34 (by kernel_rfl)
      have fg := hF.at (s := 121) (i := 34) (by kernel_rfl) (by simp) lg
      rw [show vals 34 = .bool true from hR 34 lg] at fg
      have l0 := on_of hd 42 (by kernel_rfl)
      have f0 := hF.at (s := 129) (i := 42) (by kernel_rfl) (by simp) l0
      obtain ⟨p0, n0, e0, S0⟩ := (show ∃ p n, vals 42 = Value.slice p (dl (t)) n ∧ Sl v p (t) from hR 42 l0)
      rw [e0] at f0
      refine Or.inl ⟨wanted_at (j := 34) (s := 121) rfl rfl rfl fg, ?_⟩
      exact wp_ret (.agg (nw 9 t)) (by simp [go_sem, f0]) (rnat_any t n0 p0 _ S0) (fun w2 hg2 => ⟨_, rfl, hg2, rfl⟩)
    · obtain rfl := Option.some.inj ho
      have lg := on_of hd 34 (by kernel_rfl)
      have fg := hF.at (s := 121) (i := 34) (by kernel_rfl) (by simp) lg
      rw [show vals 34 = .bool true from hR 34 lg] at fg
      have l0 := on_of hd 35 (by kernel_rfl)
      have f0 := hF.at (s := 122) (i := 35) (by kernel_rfl) (by simp) l0
      rw [show vals 35 = .agg (nw 9 t) from hR 35 l0] at f0
      have l1 := on_of hd 43 (by kernel_rfl)
      have f1 := hF.at (s := 130) (i := 43) (by kernel_rfl) (by simp) l1
      rw [show vals 43 = .agg (nw 9 t) from hR 43 l1] at f1
      refine Or.inl ⟨wanted_at (j := 34) (s := 121) rfl rfl rfl fg, ?_⟩
      exact wp_val (.bool true) (by simp [go_sem, f0, f1]) ⟨_, rfl, Gr.refl _, rfl⟩
    · obtain rfl := Option.some.inj ho
      have l0 := on_of hd 34 (by kernel_rfl)
      have f0 := hF.at (s := 121) (i := 34) (by kernel_rfl) (by simp) l0
      rw [show vals 34 = .bool true from hR 34 l0] at f0
      have l1 := on_of hd 44 (by kernel_rfl)
      have f1 := hF.at (s := 131) (i := 44) (by kernel_rfl) (by simp) l1
      rw [show vals 44 = .bool true from hR 44 l1] at f1
      refine Or.inl ⟨wanted_no rfl, ?_⟩
      exact wp_val (.bool true) (by simp [go_sem, f0, f1]) ⟨_, rfl, Gr.refl _, rfl⟩
    · obtain rfl := Option.some.inj ho
      have l0 := on_of hd 45 (by kernel_rfl)
      have f0 := hF.at (s := 132) (i := 45) (by kernel_rfl) (by simp) l0
      rw [show vals 45 = .bool true from hR 45 l0] at f0
      refine Or.inl ⟨wanted_no rfl, ?_⟩
      exact wp_val (.bool true) (by simp [go_sem, f0]) ⟨_, rfl, Gr.refl _, rfl⟩
    · obtain rfl := Option.some.inj ho
      have lg := on_of hd 46 (by kernel_rfl)
      have fg := hF.at (s := 133) (i := 46) (by kernel_rfl) (by simp) lg
      rw [show vals 46 = .bool true from hR 46 lg] at fg
      refine Or.inl ⟨wanted_at (j := 46) (s := 133) rfl rfl rfl fg, ?_⟩
      exact wp_ret (.bool true) (by simp [go_sem]) (awake4_any _) (fun w2 hg2 => ⟨_, rfl, hg2, rfl⟩)
    · obtain rfl := Option.some.inj ho
      have l0 := on_of hd 46 (by kernel_rfl)
      have f0 := hF.at (s := 133) (i := 46) (by kernel_rfl) (by simp) l0
      rw [show vals 46 = .bool true from hR 46 l0] at f0
      have l1 := on_of hd 47 (by kernel_rfl)
      have f1 := hF.at (s := 134) (i := 47) (by kernel_rfl) (by simp) l1
      rw [show vals 47 = .bool true from hR 47 l1] at f1
      refine Or.inl ⟨wanted_no rfl, ?_⟩
      exact wp_val (.bool true) (by simp [go_sem, f0, f1]) ⟨_, rfl, Gr.refl _, rfl⟩
    · obtain rfl := Option.some.inj ho
      have l0 := on_of hd 48 (by kernel_rfl)
      have f0 := hF.at (s := 135) (i := 48) (by kernel_rfl) (by simp) l0
      rw [show vals 48 = .bool true from hR 48 l0] at f0
      refine Or.inl ⟨wanted_no rfl, ?_⟩
      exact wp_val (.bool true) (by simp [go_sem, f0]) ⟨_, rfl, Gr.refl _, rfl⟩
  case hf =>
    intro vals v hg hR
    have h4 : blk v (w.heap.size) = nw 9 a := (hg.blk (w.heap.size) (by simp [go_sem] <;> omega)).trans (by simp [go_sem])
    have ph4 : Pre (w.heap.size + 1) v.heap.size := Nat.le_trans (show w.heap.size + 1 ≤ _ by simp [go_sem] <;> omega) hg.below.size
    have h5 : blk v (w.heap.size + 1) = nw 9 b := (hg.blk (w.heap.size + 1) (by simp [go_sem] <;> omega)).trans (by simp [go_sem])
    have ph5 : Pre (w.heap.size + 1 + 1) v.heap.size := Nat.le_trans (show w.heap.size + 1 + 1 ≤ _ by simp [go_sem] <;> omega) hg.below.size
    have h7 : blk v (w.heap.size + 1 + 1 + 1) = nw 18 Wd := (hg.blk (w.heap.size + 1 + 1 + 1) (by simp [go_sem] <;> omega)).trans (by simp [go_sem])
    have ph7 : Pre (w.heap.size + 1 + 1 + 1 + 1) v.heap.size := Nat.le_trans (show w.heap.size + 1 + 1 + 1 + 1 ≤ _ by simp [go_sem] <;> omega) hg.below.size
    have h9 : blk v (w.heap.size + 1 + 1 + 1 + 1 + gd.os.length) = nw 9 q := (hg.blk (w.heap.size + 1 + 1 + 1 + 1 + gd.os.length) (by simp [go_sem] <;> omega)).trans (by simp [go_sem])
    have ph9 : Pre (w.heap.size + 1 + 1 + 1 + 1 + gd.os.length + 1) v.heap.size := Nat.le_trans (show w.heap.size + 1 + 1 + 1 + 1 + gd.os.length + 1 ≤ _ by simp [go_sem] <;> omega) hg.below.size
    have h10 : blk v (w.heap.size + 1 + 1 + 1 + 1 + gd.os.length + 1) = nw 9 r := (hg.blk (w.heap.size + 1 + 1 + 1 + 1 + gd.os.length + 1) (by simp [go_sem] <;> omega)).trans (by simp [go_sem])
    have ph10 : Pre (w.heap.size + 1 + 1 + 1 + 1 + gd.os.length + 1 + 1) v.heap.size := Nat.le_trans (show w.heap.size + 1 + 1 + 1 + 1 + gd.os.length + 1 + 1 ≤ _ by simp [go_sem] <;> omega) hg.below.size
    have h12 : blk v (w.heap.size + 1 + 1 + 1 + 1 + gd.os.length + 1 + 1 + gm.os.length) = nw 9 s := (hg.blk (w.heap.size + 1 + 1 + 1 + 1 + gd.os.length + 1 + 1 + gm.os.length) (by simp [go_sem] <;> omega)).trans (by simp [go_sem])
    have ph12 : Pre (w.heap.size + 1 + 1 + 1 + 1 + gd.os.length + 1 + 1 + gm.os.length + 1) v.heap.size := Nat.le_trans (show w.heap.size + 1 + 1 + 1 + 1 + gd.os.length + 1 + 1 + gm.os.length + 1 ≤ _ by simp [go_sem] <;> omega) hg.below.size
    have h14 : blk v (w.heap.size + 1 + 1 + 1 + 1 + gd.os.length + 1 + 1 + gm.os.length + 1 + gu.os.length) = nw 9 t := (hg.blk (w.heap.size + 1 + 1 + 1 + 1 + gd.os.length + 1 + 1 + gm.os.length + 1 + gu.os.length) (by simp [go_sem] <;> omega)).trans (by simp [go_sem])
    have ph14 : Pre (w.heap.size + 1 + 1 + 1 + 1 + gd.os.length + 1 + 1 + gm.os.length + 1 + gu.os.length + 1) v.heap.size := Nat.le_trans (show w.heap.size + 1 + 1 + 1 + 1 + gd.os.length + 1 + 1 + gm.os.length + 1 + gu.os.length + 1 ≤ _ by simp [go_sem] <;> omega) hg.below.size
    have x0 : vals 0 = .int .i64 0 := hR 0 (by simp)
    have x1 : vals 1 = .int .i64 0 := hR 1 (by simp)
    have x2 : vals 2 = .bool true := hR 2 (by simp)
    have x3 : vals 3 = .bool true := hR 3 (by simp)
    have x4 : vals 4 = .int .i64 0 := hR 4 (by simp)
    have x5 : vals 5 = .int .i64 0 := hR 5 (by simp)
    have x6 : vals 6 = .bool true := hR 6 (by simp)
    have x7 : vals 7 = .bool true := hR 7 (by simp)
    have x8 : vals 8 = .bool true := hR 8 (by simp)
    have x9 : vals 9 = .int .i64 0 := hR 9 (by simp)
    have x10 : vals 10 = .int .i64 0 := hR 10 (by simp)
    have x11 : vals 11 = .bool true := hR 11 (by simp)
    have x12 : vals 12 = .bool true := hR 12 (by simp)
    have x13 : vals 13 = .bool true := hR 13 (by simp)
    have x14 : vals 14 = .agg (nw 9 q) := hR 14 (by simp)
    have x15 : vals 15 = .slice px (dl q) nx := hR 15 (by simp)
    have x16 : vals 16 = .agg (nw 9 q) := hR 16 (by simp)
    have x17 : vals 17 = .bool true := hR 17 (by simp)
    have x18 : vals 18 = .bool true := hR 18 (by simp)
    have x19 : vals 19 = .bool true := hR 19 (by simp)
    have x20 : vals 20 = .agg (nw 9 r) := hR 20 (by simp)
    have x21 : vals 21 = .slice py (dl r) ny := hR 21 (by simp)
    have x22 : vals 22 = .agg (nw 9 r) := hR 22 (by simp)
    have x23 : vals 23 = .bool true := hR 23 (by simp)
    have x24 : vals 24 = .bool true := hR 24 (by simp)
    have x25 : vals 25 = .bool true := hR 25 (by simp)
    have x26 : vals 26 = .agg (nw 9 s) := hR 26 (by simp)
    have x27 : vals 27 = .agg (nw 18 Wd) := hR 27 (by simp)
    obtain ⟨p28, n28, x28, S28⟩ := (show ∃ p n, vals 28 = Value.slice p (dl (Wd)) n ∧ Sl v p (Wd) from hR 28 (by simp))
    have x29 : vals 29 = .slice pz (dl m) nz := hR 29 (by simp)
    obtain ⟨p30, n30, x30, S30⟩ := (show ∃ p n, vals 30 = Value.slice p (dl (s)) n ∧ Sl v p (s) from hR 30 (by simp))
    have x31 : vals 31 = .agg (nw 9 s) := hR 31 (by simp)
    have x32 : vals 32 = .bool true := hR 32 (by simp)
    have x33 : vals 33 = .bool true := hR 33 (by simp)
    have x34 : vals 34 = .bool true := hR 34 (by simp)
    have x35 : vals 35 = .agg (nw 9 t) := hR 35 (by simp)
    have x36 : vals 36 = .agg (nw 9 a) := hR 36 (by simp)
    obtain ⟨p37, n37, x37, S37⟩ := (show ∃ p n, vals 37 = Value.slice p (dl (a)) n ∧ Sl v p (a) from hR 37 (by simp))
    have x38 : vals 38 = .agg (nw 9 b) := hR 38 (by simp)
    obtain ⟨p39, n39, x39, S39⟩ := (show ∃ p n, vals 39 = Value.slice p (dl (b)) n ∧ Sl v p (b) from hR 39 (by simp))
    obtain ⟨p40, n40, x40, S40⟩ := (show ∃ p n, vals 40 = Value.slice p (dl (P)) n ∧ Sl v p (P) from hR 40 (by simp))
    have x41 : vals 41 = .slice pz (dl m) nz := hR 41 (by simp)
    obtain ⟨p42, n42, x42, S42⟩ := (show ∃ p n, vals 42 = Value.slice p (dl (t)) n ∧ Sl v p (t) from hR 42 (by simp))
    have x43 : vals 43 = .agg (nw 9 t) := hR 43 (by simp)
    have x44 : vals 44 = .bool true := hR 44 (by simp)
    have x45 : vals 45 = .bool true := hR 45 (by simp)
    have x46 : vals 46 = .bool true := hR 46 (by simp)
    have x47 : vals 47 = .bool true := hR 47 (by simp)
    have x48 : vals 48 = .bool true := hR 48 (by simp)
    have x49 : vals 49 = .bool true := hR 49 (by simp)
    simp only [putFrom, Act.put, List.setIfInBounds_toArray, List.set_cons_zero, List.set_cons_succ, x0, x1, x2, x3, x4, x5, x6, x7, x8, x9, x10, x11, x12, x13, x14, x15, x16, x17, x18, x19, x20, x21, x22, x23, x24, x25, x26, x27, x28, x29, x30, x31, x32, x33, x34, x35, x36, x37, x38, x39, x40, x41, x42, x43, x44, x45, x46, x47, x48, x49]
    clear hR x0 x1 x2 x3 x4 x5 x6 x7 x8 x9 x10 x11 x12 x13 x14 x15 x16 x17 x18 x19 x20 x21 x22 x23 x24 x25 x26 x27 x28 x29 x30 x31 x32 x33 x34 x35 x36 x37 x38 x39 x40 x41 x42 x43 x44 x45 x46 x47 x48 x49
    have HG : Gr w v := by refine Gr.trans ?_ hg; exact (by repeat (first | exact Gr.refl _ | apply Gr.drewN | apply Gr.drew | apply Gr.alloc | apply Gr.gro))
    go_wp2_with fail
    go_ret
    exact ⟨rfl, HG⟩
theorem dl_le18 (a : Nat) (h : a < M) : dl a ≤ 18 := (dl_le a 18).2 (by rw [pq_M]; exact h)
theorem dl_le36 (a : Nat) (h : a < pw 18) : dl a ≤ 36 := (dl_le a 36).2 (by rw [pq_36]; exact h)
theorem divides_any (a b m Wd : Nat) (ha : a < M) (hb : b < M) (hm : m < M) (hw : Wd < pw 18) (w : World) :
    Calls Try.prog 3 #[.agg (nw 9 a), .agg (nw 9 b), .agg (nw 9 m), .agg (nw 18 Wd)] w fun e w' => e = .returned (.bool true) ∧ Gr w w' := by
  by_cases h0 : m = 0
  · subst h0
    exact divides_zero a b Wd (fun w => mulMod_zero a b ha hb w) w
  · have m0 : 0 < m := by omega
    have la := dl_le18 a ha
    have lb := dl_le18 b hb
    have lm := dl_le18 m hm
    have lw := dl_le36 Wd hw
    have lP := dl_le36 (a * b) (mul_lt18 a b ha hb)
    refine divides_more a b m Wd (a / m) (a % m) (Wd % m) (a * b % m) (a * b) (fun e => ?_) (fun w => div_any a m ha m0 hm w) (fun w => mod_any Wd m m0 hm hw w) (fun w => mulMod_any a b m ha hb m0 hm w) (fun w => from_any a ha w) (fun w => from_any b hb w) (fun w => from_any m hm w) (fun w => rof_any Wd hw w)
      (fun w p n p' n' h1 h2 => rdiv_any a m n n' p p' w h1 h2 (by omega) (by omega) m0) (fun w p n p' n' h1 h2 => rmod_any Wd m n n' p p' w h1 h2 (by omega) (by omega) m0) (fun w p n p' n' h1 h2 => rmod_any (a * b) m n n' p p' w h1 h2 (by omega) (by omega) m0) (fun w p n p' n' h1 h2 => rmul_any a b n n' p p' w h1 h2 (by omega) (by omega)) w
    have := dl_eq_zero m (by omega)
    omega

end Go.Proofs.Ytbafjcbbiiipfaa
