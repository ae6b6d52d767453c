/-
  curvetlaw6.awake: it answers true.
-/
import Derived.Test.YtleckbdhebjfkaaZMtS
namespace Go.Proofs.Ytleckbdhebjfkaa
open Go.RowKit
attribute [local go_sem ↓] loadNat_is loadArr_is loadWide_is loadArrW_is storeNat_is storeWide_is
attribute [local go_sem] loadNat loadArr loadWide loadArrW storeNat storeWide idxArr fold9 fold18 nw_size nw_elem pre_self pre_1 pre_2 pre_3 pre_4 pre_5 pre_6 pre_7 pre_8 pre_9 pre_10 pre_11 pre_12 pre_13 pre_14 pre_15 pre_16 pre_17 pre_18 pre_19 pre_20 pre_21 pre_22 pre_23 pre_24 pre_25 pre_26 pre_27 pre_28 pre_29 pre_30 pre_31 pre_32 pre_33 pre_34 pre_35 pre_36 pre_37 pre_38 pre_39 pre_40 gro_size gro_drew gro_drewN drew_gro drewN_gro gro_gro blk_gro frz_gro blk_drew frz_drew blk_drewN frz_drewN blk_alloc_at frz_alloc_at blk_alloc frz_alloc cell_gro frozen_gro cell_alloc_pre frozen_alloc_pre setCell_drewN alloc_drewN setBlk_drew setBlk_drewN setBlk_alloc_at setBlk_alloc setBlk_gro setCell_gro setCell_alloc_pre size_setBlk size_setCell
attribute [local go_sem] nw_ext9 nw_ext18 eqArr9 eqArr18

attribute [local go_sem] loadNat2 loadArr2 loadWide2 loadK_nw ppre_1 ppre_2 ppre_3 ppre_4 ppre_5 ppre_6 ppre_7 ppre_8 ppre_9 ppre_10 ppre_11 ppre_12 ppre_13 ppre_14 ppre_15 ppre_16 ppre_17 ppre_18 ppre_19 ppre_20

attribute [local go_sem ↓] Go.wp_at_zero Go.wp_at_succ
attribute [local go_sem] eqN_self frz_setBlk blk_setBlk setBlk_setBlk blk_other
set_option maxRecDepth 100000 in
set_option maxHeartbeats 4000000 in
theorem awake6_any (w : World) :
    Calls Try.prog 13 #[] w fun e w' => e = .returned (.bool true) ∧ Gr w w' := by
  obtain ⟨u, hu, HN0⟩ := New_ok 7 (by decide) (by decide) (lt_M 7 (by decide))
  rw [show kw 7 = 1 by decide] at hu HN0
  have hu6 : 6 * u % 7 = 3 := by
    have h1 := hu.inv
    have h2 := hu.ul
    have h3 : pw 1 * u % 7 = 2 * u % 7 := by rw [Nat.mul_mod, show pw 1 % 7 = 2 by decide]; omega
    rw [h3] at h1
    omega
  have O7 : Hid (∀ w', Calls Try.prog 26 #[.int .u64 7] w' fun e w'' => e = .returned (.agg (nw 9 7)) ∧ Gr w' w'') := fun w => one_any 7 (by decide) w
  have O3 : Hid (∀ w', Calls Try.prog 26 #[.int .u64 3] w' fun e w'' => e = .returned (.agg (nw 9 3)) ∧ Gr w' w'') := fun w => one_any 3 (by decide) w
  have O8 : Hid (∀ w', Calls Try.prog 26 #[.int .u64 8] w' fun e w'' => e = .returned (.agg (nw 9 8)) ∧ Gr w' w'') := fun w => one_any 8 (by decide) w
  have O6 : Hid (∀ w', Calls Try.prog 26 #[.int .u64 6] w' fun e w'' => e = .returned (.agg (nw 9 6)) ∧ Gr w' w'') := fun w => one_any 6 (by decide) w
  have T3 : Hid (∀ (b : Nat) w', Mn w' b 7 1 u → Calls Try.prog 15 #[.pointer (some ⟨b, 0, none⟩), .agg (nw 9 3)] w' fun e w'' => e = .returned (.tuple #[.agg (nw 9 6), .int .i64 0]) ∧ Gr w' w'') := fun b w' h => by
    have := To_ok b 7 1 u 3 w' h (by decide)
    rw [show 3 * pw 1 % 7 = 6 by decide] at this
    exact this
  have F6 : Hid (∀ (b : Nat) w', Mn w' b 7 1 u → Calls Try.prog 16 #[.pointer (some ⟨b, 0, none⟩), .agg (nw 9 6)] w' fun e w'' => e = .returned (.tuple #[.agg (nw 9 3), .int .i64 0]) ∧ Gr w' w'') := fun b w' h => by
    have := From_ok b 7 1 u 6 w' h (by decide)
    rw [hu6] at this
    exact this
  have T7 : Hid (∀ (b : Nat) w', Mn w' b 7 1 u → Calls Try.prog 15 #[.pointer (some ⟨b, 0, none⟩), .agg (nw 9 7)] w' fun e w'' => e = .returned (.tuple #[.agg (nw 9 0), .int .i64 601]) ∧ Gr w' w'') := fun b w' h => To_no b 7 1 u 7 w' h (lt_M 7 (by decide)) (by decide)
  have W1 : Hid (∀ (b : Nat) w', Mn w' b 7 1 u → Calls Try.prog 19 #[.pointer (some ⟨b, 0, none⟩)] w' fun e w'' => e = .returned (.int .i64 1) ∧ Gr w' w'') := fun b w' h => Words_any b 7 1 u w' h
  have N8 : Hid (∀ w', Calls Try.prog 8 #[.agg (nw 9 8)] w' fun e w'' => e = .returned (.tuple #[.pointer none, .int .i64 600]) ∧ Gr w' w'') := fun w => New_no 8 (lt_M 8 (by decide)) (Or.inl (by decide)) w
  have HN : Hid (∀ w, Calls Try.prog 8 #[.agg (nw 9 7)] w fun e w' => ∃ b, e = .returned (.tuple #[.pointer (some ⟨b, 0, none⟩), .int .i64 0]) ∧ Mn w' b 7 1 u ∧ Gr w w') := HN0
  clear HN0 hu hu6
  go_enter Try.func13, Try.ntmps13
  go_upto_region 1 with fail
  refine gen_w (fun v => Hid (Gr w v)) (Gr.refl _) ?_
  intro v0 HV
  go_cut [1, 2] from 11 to 15 (fun a0 a1 wx => ∃ bx : Nat, a0 = .pointer (some ⟨bx, 0, none⟩) ∧ a1 = .int .i64 0 ∧ Hid (Gr w wx ∧ Mn wx bx 7 1 u))
  case first =>
    have G := HV.out
    go_wp2_with (first | (go_at_call 8; refine (HN.out _).mono ?_; rintro e W1 ⟨bx, rfl, S1, G1⟩) | (go_at_call 26; refine (O7.out _).mono ?_; rintro e w' ⟨rfl, gO, rfl⟩))
    go_meet
    exact ⟨bx, rfl, rfl, G.trans ((Gr.trans (by repeat (first | exact Gr.refl _ | apply Gr.drewN | apply Gr.drew | apply Gr.alloc | apply Gr.gro)) G1).trans (by repeat (first | exact Gr.refl _ | apply Gr.drewN | apply Gr.drew | apply Gr.alloc | apply Gr.gro))), S1.gr (by repeat (first | exact Gr.refl _ | apply Gr.drewN | apply Gr.drew | apply Gr.alloc | apply Gr.gro))⟩
  clear HV
  obtain ⟨bx, rfl, rfl, HV⟩ := hcut
  have ⟨G, S_x⟩ := HV.out
  go_upto_region 4 with (first
      | (go_at_call 12; refine (num_any _ _).mono ?_; rintro e w' ⟨rfl, rfl⟩))
  clear G S_x
  go_upto_region 4 with fail
  go_cut [3, 4] from 23 to 28 (fun a0 a1 wx => ∃ e3 : Nat, a0 = .pointer (some ⟨e3, 0, none⟩) ∧ a1 = .int .i64 0 ∧ Hid (Gr w wx ∧ Cl wx e3 6 ∧ Mn wx bx 7 1 u))
  case first =>
    have ⟨G, S_x⟩ := HV.out
    go_wp2_with (first
        | (go_at_call_of 26 ((#[.int .u64 3] : Array Value)); refine (O3.out _).mono ?_; rintro e w' ⟨rfl, g1, rfl⟩)
        | (go_at_call_of 15 ((#[.pointer (some ⟨bx, 0, none⟩), .agg (nw 9 3)] : Array Value)); refine (T3.out bx _ (S_x.gr (by repeat (first | exact Gr.refl _ | apply Gr.drewN | apply Gr.drew | apply Gr.alloc | apply Gr.gro)))).mono ?_; rintro e w' ⟨rfl, g2, rfl⟩)
        | (go_at_call 12; refine (num_any _ _).mono ?_; rintro e w' ⟨rfl, rfl⟩))
    go_meet
    exact ⟨_, rfl, rfl, G.trans (by repeat (first | exact Gr.refl _ | apply Gr.drewN | apply Gr.drew | apply Gr.alloc | apply Gr.gro)), ⟨by simp [go_sem], by simp [go_sem], by simp [go_sem]⟩, S_x.gr (by repeat (first | exact Gr.refl _ | apply Gr.drewN | apply Gr.drew | apply Gr.alloc | apply Gr.gro))⟩
  clear HV
  obtain ⟨e3, rfl, rfl, HV⟩ := hcut
  go_upto_region 5 with fail
  go_cut [5, 6] from 29 to 34 (fun a0 a1 wx => ∃ e5 : Nat, a0 = .pointer (some ⟨e5, 0, none⟩) ∧ a1 = .int .i64 0 ∧ Hid (Gr w wx ∧ Cl wx e3 6 ∧ Cl wx e5 3 ∧ Mn wx bx 7 1 u))
  case first =>
    have ⟨G, c_e3, S_x⟩ := HV.out
    have ⟨hc_e3, fc_e3, pc_e3⟩ := c_e3
    go_wp2_with (first
        | (go_at_call_of 16 ((#[.pointer (some ⟨bx, 0, none⟩), .agg (nw 9 6)] : Array Value)); refine (F6.out bx _ (S_x.gr (by repeat (first | exact Gr.refl _ | apply Gr.drewN | apply Gr.drew | apply Gr.alloc | apply Gr.gro)))).mono ?_; rintro e w' ⟨rfl, g3, rfl⟩)
        | (go_at_call 12; refine (num_any _ _).mono ?_; rintro e w' ⟨rfl, rfl⟩))
    go_meet
    exact ⟨_, rfl, rfl, G.trans (by repeat (first | exact Gr.refl _ | apply Gr.drewN | apply Gr.drew | apply Gr.alloc | apply Gr.gro)), c_e3.gr (by repeat (first | exact Gr.refl _ | apply Gr.drewN | apply Gr.drew | apply Gr.alloc | apply Gr.gro)), ⟨by simp [go_sem], by simp [go_sem], by simp [go_sem]⟩, S_x.gr (by repeat (first | exact Gr.refl _ | apply Gr.drewN | apply Gr.drew | apply Gr.alloc | apply Gr.gro))⟩
  clear HV
  obtain ⟨e5, rfl, rfl, HV⟩ := hcut
  go_upto_region 6 with fail
  go_cut [7, 8] from 35 to 40 (fun a0 a1 wx => ∃ e7 : Nat, a0 = .pointer (some ⟨e7, 0, none⟩) ∧ a1 = .int .i64 601 ∧ Hid (Gr w wx ∧ Cl wx e3 6 ∧ Cl wx e5 3 ∧ Cl wx e7 0 ∧ Mn wx bx 7 1 u))
  case first =>
    have ⟨G, c_e3, c_e5, S_x⟩ := HV.out
    have ⟨hc_e3, fc_e3, pc_e3⟩ := c_e3
    have ⟨hc_e5, fc_e5, pc_e5⟩ := c_e5
    go_wp2_with (first
        | (go_at_call_of 26 ((#[.int .u64 7] : Array Value)); refine (O7.out _).mono ?_; rintro e w' ⟨rfl, g4, rfl⟩)
        | (go_at_call_of 15 ((#[.pointer (some ⟨bx, 0, none⟩), .agg (nw 9 7)] : Array Value)); refine (T7.out bx _ (S_x.gr (by repeat (first | exact Gr.refl _ | apply Gr.drewN | apply Gr.drew | apply Gr.alloc | apply Gr.gro)))).mono ?_; rintro e w' ⟨rfl, g5, rfl⟩)
        | (go_at_call 12; refine (num_any _ _).mono ?_; rintro e w' ⟨rfl, rfl⟩))
    go_meet
    exact ⟨_, rfl, rfl, G.trans (by repeat (first | exact Gr.refl _ | apply Gr.drewN | apply Gr.drew | apply Gr.alloc | apply Gr.gro)), c_e3.gr (by repeat (first | exact Gr.refl _ | apply Gr.drewN | apply Gr.drew | apply Gr.alloc | apply Gr.gro)), c_e5.gr (by repeat (first | exact Gr.refl _ | apply Gr.drewN | apply Gr.drew | apply Gr.alloc | apply Gr.gro)), ⟨by simp [go_sem], by simp [go_sem], by simp [go_sem]⟩, S_x.gr (by repeat (first | exact Gr.refl _ | apply Gr.drewN | apply Gr.drew | apply Gr.alloc | apply Gr.gro))⟩
  clear HV
  obtain ⟨e7, rfl, rfl, HV⟩ := hcut
  go_upto_region 7 with fail
  have ⟨G, c_e3, c_e5, c_e7, S_x⟩ := HV.out
  have ⟨hc_e3, fc_e3, pc_e3⟩ := c_e3
  have ⟨hc_e5, fc_e5, pc_e5⟩ := c_e5
  have ⟨hc_e7, fc_e7, pc_e7⟩ := c_e7
  go_cut [9, 10] from 41 to 45 (fun a0 a1 wx => a0 = .pointer none ∧ a1 = .int .i64 600 ∧ Hid (Gr w wx ∧ Cl wx e3 6 ∧ Cl wx e5 3 ∧ Cl wx e7 0 ∧ Mn wx bx 7 1 u))
  case first =>
    go_wp2_with (first
      | (go_at_call_of 26 ((#[.int .u64 8] : Array Value)); refine (O8.out _).mono ?_; rintro e w' ⟨rfl, g6, rfl⟩)
      | (go_at_call_of 8 ((#[.agg (nw 9 8)] : Array Value)); refine (N8.out _).mono ?_; rintro e w' ⟨rfl, g7, rfl⟩)
      | (go_at_call 12; refine (num_any _ _).mono ?_; rintro e w' ⟨rfl, rfl⟩))
    go_meet
    exact ⟨rfl, rfl, G.trans (by repeat (first | exact Gr.refl _ | apply Gr.drewN | apply Gr.drew | apply Gr.alloc | apply Gr.gro)), c_e3.gr (by repeat (first | exact Gr.refl _ | apply Gr.drewN | apply Gr.drew | apply Gr.alloc | apply Gr.gro)), c_e5.gr (by repeat (first | exact Gr.refl _ | apply Gr.drewN | apply Gr.drew | apply Gr.alloc | apply Gr.gro)), c_e7.gr (by repeat (first | exact Gr.refl _ | apply Gr.drewN | apply Gr.drew | apply Gr.alloc | apply Gr.gro)), S_x.gr (by repeat (first | exact Gr.refl _ | apply Gr.drewN | apply Gr.drew | apply Gr.alloc | apply Gr.gro))⟩
  clear HV G c_e3 c_e5 c_e7 S_x
  obtain ⟨rfl, rfl, HV⟩ := hcut
  go_upto_region 8 with fail
  obtain ⟨G, c_e3, c_e5, c_e7, S_x⟩ := HV.out
  refine wp_region_pred (by kernel_rfl) (by kernel_rfl) [.c (.pointer (some ⟨bx, 0, none⟩)), .c (.int .i64 1), .c (.bool true), .c (.bool true), .c (.agg (nw 9 6)), .c (.agg (nw 9 6)), .c (.bool true), .c (.bool true), .c (.bool true), .c (.int .i64 0), .c (.int .i64 0), .c (.bool true), .c (.bool true), .c (.bool true), .c (.agg (nw 9 3)), .c (.agg (nw 9 3)), .c (.bool true), .c (.bool true), .c (.bool true), .c (.int .i64 0), .c (.int .i64 0), .c (.bool true), .c (.bool true), .c (.bool true), .c (.int .i64 601), .c (.int .i64 601), .c (.bool true), .c (.bool true), .c (.bool true), .c (.int .i64 600), .c (.int .i64 600), .c (.bool true), .c (.bool true), .c (.bool true)] ?hs ?hf
  case hs =>
    intro listed vals a1 v i o hg hR hF ho hd
    have Hc_e3 : blk v e3 = nw 9 6 := (hg.blk _ c_e3.p).trans c_e3.h
    have Hc_e5 : blk v e5 = nw 9 3 := (hg.blk _ c_e5.p).trans c_e5.h
    have Hc_e7 : blk v e7 = nw 9 0 := (hg.blk _ c_e7.p).trans c_e7.h
    have hi : i < 34 := by simpa using (Array.getElem?_eq_some_iff.1 ho).1
    obtain rfl | rfl | rfl | rfl | rfl | rfl | rfl | rfl | rfl | rfl | rfl | rfl | rfl | rfl | rfl | rfl | rfl | rfl | rfl | rfl | rfl | rfl | rfl | rfl | rfl | rfl | rfl | rfl | rfl | rfl | rfl | rfl | rfl | rfl : i = 0 ∨ i = 1 ∨ i = 2 ∨ i = 3 ∨ i = 4 ∨ i = 5 ∨ i = 6 ∨ i = 7 ∨ i = 8 ∨ i = 9 ∨ i = 10 ∨ i = 11 ∨ i = 12 ∨ i = 13 ∨ i = 14 ∨ i = 15 ∨ i = 16 ∨ i = 17 ∨ i = 18 ∨ i = 19 ∨ i = 20 ∨ i = 21 ∨ i = 22 ∨ i = 23 ∨ i = 24 ∨ i = 25 ∨ i = 26 ∨ i = 27 ∨ i = 28 ∨ i = 29 ∨ i = 30 ∨ i = 31 ∨ i = 32 ∨ i = 33 := by omega
    · obtain rfl := Option.some.inj ho
      have f0 := hF.old (s := 1) (v := .pointer (some ⟨bx, 0, none⟩)) (by kernel_rfl) rfl
      refine Or.inl ⟨wanted_no rfl, ?_⟩
      exact wp_val (.pointer (some ⟨bx, 0, none⟩)) (by simp [go_sem, f0]) ⟨_, rfl, Gr.refl _, rfl⟩
    · obtain rfl := Option.some.inj ho
      have l0 := on_of hd 0 (by kernel_rfl)
      have f0 := hF.at (s := 46) (i := 0) (by kernel_rfl) (by simp) l0
      rw [show vals 0 = .pointer (some ⟨bx, 0, none⟩) from hR 0 l0] at f0
      refine Or.inl ⟨wanted_no rfl, ?_⟩
      exact wp_ret (.int .i64 1) (by simp [go_sem, f0]) (W1.out bx _ (S_x.gr hg)) (fun w2 hg2 => ⟨_, rfl, hg2, rfl⟩)
    · obtain rfl := Option.some.inj ho
      have l0 := on_of hd 1 (by kernel_rfl)
      have f0 := hF.at (s := 47) (i := 1) (by kernel_rfl) (by simp) l0
      rw [show vals 1 = .int .i64 1 from hR 1 l0] at f0
      refine Or.inl ⟨wanted_no rfl, ?_⟩
      exact wp_val (.bool true) (by simp [go_sem, f0]) ⟨_, rfl, Gr.refl _, rfl⟩
    · obtain rfl := Option.some.inj ho
      have l0 := on_of hd 2 (by kernel_rfl)
      have f0 := hF.at (s := 48) (i := 2) (by kernel_rfl) (by simp) l0
      rw [show vals 2 = .bool true from hR 2 l0] at f0
      refine Or.inl ⟨wanted_no rfl, ?_⟩
      exact wp_val (.bool true) (by simp [go_sem, f0]) ⟨_, rfl, Gr.refl _, rfl⟩
    · obtain rfl := Option.some.inj ho
      have lg := on_of hd 3 (by kernel_rfl)
      have fg := hF.at (s := 49) (i := 3) (by kernel_rfl) (by simp) lg
      rw [show vals 3 = .bool true from hR 3 lg] at fg
      have f0 := hF.old (s := 3) (v := .pointer (some ⟨e3, 0, none⟩)) (by kernel_rfl) rfl
      refine Or.inl ⟨wanted_at (j := 3) (s := 49) rfl rfl rfl fg, ?_⟩
      exact wp_val (.agg (nw 9 6)) (by simp [go_sem, f0, Hc_e3]) ⟨_, rfl, Gr.refl _, rfl⟩
    · obtain rfl := Option.some.inj ho
      have lg := on_of hd 3 (by kernel_rfl)
      have fg := hF.at (s := 49) (i := 3) (by kernel_rfl) (by simp) lg
      rw [show vals 3 = .bool true from hR 3 lg] at fg
      refine Or.inl ⟨wanted_at (j := 3) (s := 49) rfl rfl rfl fg, ?_⟩
      exact wp_ret (.agg (nw 9 6)) (by simp [go_sem]) (O6.out _) (fun w2 hg2 => ⟨_, rfl, hg2, rfl⟩)
    · obtain rfl := Option.some.inj ho
      have lg := on_of hd 3 (by kernel_rfl)
      have fg := hF.at (s := 49) (i := 3) (by kernel_rfl) (by simp) lg
      rw [show vals 3 = .bool true from hR 3 lg] at fg
      have l0 := on_of hd 4 (by kernel_rfl)
      have f0 := hF.at (s := 50) (i := 4) (by kernel_rfl) (by simp) l0
      rw [show vals 4 = .agg (nw 9 6) from hR 4 l0] at f0
      have l1 := on_of hd 5 (by kernel_rfl)
      have f1 := hF.at (s := 51) (i := 5) (by kernel_rfl) (by simp) l1
      rw [show vals 5 = .agg (nw 9 6) from hR 5 l1] at f1
      refine Or.inl ⟨wanted_at (j := 3) (s := 49) rfl rfl rfl fg, ?_⟩
      exact wp_val (.bool true) (by simp [go_sem, f0, f1, eqN_self]) ⟨_, rfl, Gr.refl _, rfl⟩
    · obtain rfl := Option.some.inj ho
      have l0 := on_of hd 3 (by kernel_rfl)
      have f0 := hF.at (s := 49) (i := 3) (by kernel_rfl) (by simp) l0
      rw [show vals 3 = .bool true from hR 3 l0] at f0
      have l1 := on_of hd 6 (by kernel_rfl)
      have f1 := hF.at (s := 52) (i := 6) (by kernel_rfl) (by simp) l1
      rw [show vals 6 = .bool true from hR 6 l1] at f1
      refine Or.inl ⟨wanted_no rfl, ?_⟩
      exact wp_val (.bool true) (by simp [go_sem, f0, f1]) ⟨_, rfl, Gr.refl _, rfl⟩
    · obtain rfl := Option.some.inj ho
      have l0 := on_of hd 7 (by kernel_rfl)
      have f0 := hF.at (s := 53) (i := 7) (by kernel_rfl) (by simp) l0
      rw [show vals 7 = .bool true from hR 7 l0] at f0
      refine Or.inl ⟨wanted_no rfl, ?_⟩
      exact wp_val (.bool true) (by simp [go_sem, f0]) ⟨_, rfl, Gr.refl _, rfl⟩
    · obtain rfl := Option.some.inj ho
      have lg := on_of hd 8 (by kernel_rfl)
      have fg := hF.at (s := 54) (i := 8) (by kernel_rfl) (by simp) lg
      rw [show vals 8 = .bool true from hR 8 lg] at fg
      have f0 := hF.old (s := 4) (v := .int .i64 0) (by kernel_rfl) rfl
      refine Or.inl ⟨wanted_at (j := 8) (s := 54) rfl rfl rfl fg, ?_⟩
      exact wp_val (.int .i64 0) (by simp [go_sem, f0]) ⟨_, rfl, Gr.refl _, rfl⟩
    · obtain rfl := Option.some.inj ho
      have lg := on_of hd 8 (by kernel_rfl)
      have fg := hF.at (s := 54) (i := 8) (by kernel_rfl) (by simp) lg
      rw [show vals 8 = .bool true from hR 8 lg] at fg
      have l0 := on_of hd 9 (by kernel_rfl)
      have f0 := hF.at (s := 55) (i := 9) (by kernel_rfl) (by simp) l0
      rw [show vals 9 = .int .i64 0 from hR 9 l0] at f0
      refine Or.inl ⟨wanted_at (j := 8) (s := 54) rfl rfl rfl fg, ?_⟩
      exact wp_ret (.int .i64 0) (by simp [go_sem, f0]) (num5_gr _ _) (fun w2 hg2 => ⟨_, rfl, hg2, rfl⟩)
    · obtain rfl := Option.some.inj ho
      have lg := on_of hd 8 (by kernel_rfl)
      have fg := hF.at (s := 54) (i := 8) (by kernel_rfl) (by simp) lg
      rw [show vals 8 = .bool true from hR 8 lg] at fg
      have l0 := on_of hd 10 (by kernel_rfl)
      have f0 := hF.at (s := 56) (i := 10) (by kernel_rfl) (by simp) l0
      rw [show vals 10 = .int .i64 0 from hR 10 l0] at f0
      refine Or.inl ⟨wanted_at (j := 8) (s := 54) rfl rfl rfl fg, ?_⟩
      exact wp_val (.bool true) (by simp [go_sem, f0]) ⟨_, rfl, Gr.refl _, rfl⟩
    · obtain rfl := Option.some.inj ho
      have l0 := on_of hd 8 (by kernel_rfl)
      have f0 := hF.at (s := 54) (i := 8) (by kernel_rfl) (by simp) l0
      rw [show vals 8 = .bool true from hR 8 l0] at f0
      have l1 := on_of hd 11 (by kernel_rfl)
      have f1 := hF.at (s := 57) (i := 11) (by kernel_rfl) (by simp) l1
      rw [show vals 11 = .bool true from hR 11 l1] at f1
      refine Or.inl ⟨wanted_no rfl, ?_⟩
      exact wp_val (.bool true) (by simp [go_sem, f0, f1]) ⟨_, rfl, Gr.refl _, rfl⟩
    · obtain rfl := Option.some.inj ho
      have l0 := on_of hd 12 (by kernel_rfl)
      have f0 := hF.at (s := 58) (i := 12) (by kernel_rfl) (by simp) l0
      rw [show vals 12 = .bool true from hR 12 l0] at f0
      refine Or.inl ⟨wanted_no rfl, ?_⟩
      exact wp_val (.bool true) (by simp [go_sem, f0]) ⟨_, rfl, Gr.refl _, rfl⟩
    · obtain rfl := Option.some.inj ho
      have lg := on_of hd 13 (by kernel_rfl)
      have fg := hF.at (s := 59) (i := 13) (by kernel_rfl) (by simp) lg
      rw [show vals 13 = .bool true from hR 13 lg] at fg
      have f0 := hF.old (s := 5) (v := .pointer (some ⟨e5, 0, none⟩)) (by kernel_rfl) rfl
      refine Or.inl ⟨wanted_at (j := 13) (s := 59) rfl rfl rfl fg, ?_⟩
      exact wp_val (.agg (nw 9 3)) (by simp [go_sem, f0, Hc_e5]) ⟨_, rfl, Gr.refl _, rfl⟩
    · obtain rfl := Option.some.inj ho
      have lg := on_of hd 13 (by kernel_rfl)
      have fg := hF.at (s := 59) (i := 13) (by kernel_rfl) (by simp) lg
      rw [show vals 13 = .bool true from hR 13 lg] at fg
      refine Or.inl ⟨wanted_at (j := 13) (s := 59) rfl rfl rfl fg, ?_⟩
      exact wp_ret (.agg (nw 9 3)) (by simp [go_sem]) (O3.out _) (fun w2 hg2 => ⟨_, rfl, hg2, rfl⟩)
    · obtain rfl := Option.some.inj ho
      have lg := on_of hd 13 (by kernel_rfl)
      have fg := hF.at (s := 59) (i := 13) (by kernel_rfl) (by simp) lg
      rw [show vals 13 = .bool true from hR 13 lg] at fg
      have l0 := on_of hd 14 (by kernel_rfl)
      have f0 := hF.at (s := 60) (i := 14) (by kernel_rfl) (by simp) l0
      rw [show vals 14 = .agg (nw 9 3) from hR 14 l0] at f0
      have l1 := on_of hd 15 (by kernel_rfl)
      have f1 := hF.at (s := 61) (i := 15) (by kernel_rfl) (by simp) l1
      rw [show vals 15 = .agg (nw 9 3) from hR 15 l1] at f1
      refine Or.inl ⟨wanted_at (j := 13) (s := 59) rfl rfl rfl fg, ?_⟩
      exact wp_val (.bool true) (by simp [go_sem, f0, f1, eqN_self]) ⟨_, rfl, Gr.refl _, rfl⟩
    · obtain rfl := Option.some.inj ho
      have l0 := on_of hd 13 (by kernel_rfl)
      have f0 := hF.at (s := 59) (i := 13) (by kernel_rfl) (by simp) l0
      rw [show vals 13 = .bool true from hR 13 l0] at f0
      have l1 := on_of hd 16 (by kernel_rfl)
      have f1 := hF.at (s := 62) (i := 16) (by kernel_rfl) (by simp) l1
      rw [show vals 16 = .bool true from hR 16 l1] at f1
      refine Or.inl ⟨wanted_no rfl, ?_⟩
      exact wp_val (.bool true) (by simp [go_sem, f0, f1]) ⟨_, rfl, Gr.refl _, rfl⟩
    · obtain rfl := Option.some.inj ho
      have l0 := on_of hd 17 (by kernel_rfl)
      have f0 := hF.at (s := 63) (i := 17) (by kernel_rfl) (by simp) l0
      rw [show vals 17 = .bool true from hR 17 l0] at f0
      refine Or.inl ⟨wanted_no rfl, ?_⟩
      exact wp_val (.bool true) (by simp [go_sem, f0]) ⟨_, rfl, Gr.refl _, rfl⟩
    · obtain rfl := Option.some.inj ho
      have lg := on_of hd 18 (by kernel_rfl)
      have fg := hF.at (s := 64) (i := 18) (by kernel_rfl) (by simp) lg
      rw [show vals 18 = .bool true from hR 18 lg] at fg
      have f0 := hF.old (s := 6) (v := .int .i64 0) (by kernel_rfl) rfl
      refine Or.inl ⟨wanted_at (j := 18) (s := 64) rfl rfl rfl fg, ?_⟩
      exact wp_val (.int .i64 0) (by simp [go_sem, f0]) ⟨_, rfl, Gr.refl _, rfl⟩
    · obtain rfl := Option.some.inj ho
      have lg := on_of hd 18 (by kernel_rfl)
      have fg := hF.at (s := 64) (i := 18) (by kernel_rfl) (by simp) lg
      rw [show vals 18 = .bool true from hR 18 lg] at fg
      have l0 := on_of hd 19 (by kernel_rfl)
      have f0 := hF.at (s := 65) (i := 19) (by kernel_rfl) (by simp) l0
      rw [show vals 19 = .int .i64 0 from hR 19 l0] at f0
      refine Or.inl ⟨wanted_at (j := 18) (s := 64) rfl rfl rfl fg, ?_⟩
      exact wp_ret (.int .i64 0) (by simp [go_sem, f0]) (num5_gr _ _) (fun w2 hg2 => ⟨_, rfl, hg2, rfl⟩)
    · obtain rfl := Option.some.inj ho
      have lg := on_of hd 18 (by kernel_rfl)
      have fg := hF.at (s := 64) (i := 18) (by kernel_rfl) (by simp) lg
      rw [show vals 18 = .bool true from hR 18 lg] at fg
      have l0 := on_of hd 20 (by kernel_rfl)
      have f0 := hF.at (s := 66) (i := 20) (by kernel_rfl) (by simp) l0
      rw [show vals 20 = .int .i64 0 from hR 20 l0] at f0
      refine Or.inl ⟨wanted_at (j := 18) (s := 64) rfl rfl rfl fg, ?_⟩
      exact wp_val (.bool true) (by simp [go_sem, f0]) ⟨_, rfl, Gr.refl _, rfl⟩
    · obtain rfl := Option.some.inj ho
      have l0 := on_of hd 18 (by kernel_rfl)
      have f0 := hF.at (s := 64) (i := 18) (by kernel_rfl) (by simp) l0
      rw [show vals 18 = .bool true from hR 18 l0] at f0
      have l1 := on_of hd 21 (by kernel_rfl)
      have f1 := hF.at (s := 67) (i := 21) (by kernel_rfl) (by simp) l1
      rw [show vals 21 = .bool true from hR 21 l1] at f1
      refine Or.inl ⟨wanted_no rfl, ?_⟩
      exact wp_val (.bool true) (by simp [go_sem, f0, f1]) ⟨_, rfl, Gr.refl _, rfl⟩
    · obtain rfl := Option.some.inj ho
      have l0 := on_of hd 22 (by kernel_rfl)
      have f0 := hF.at (s := 68) (i := 22) (by kernel_rfl) (by simp) l0
      rw [show vals 22 = .bool true from hR 22 l0] at f0
      refine Or.inl ⟨wanted_no rfl, ?_⟩
      exact wp_val (.bool true) (by simp [go_sem, f0]) ⟨_, rfl, Gr.refl _, rfl⟩
    · obtain rfl := Option.some.inj ho
      have lg := on_of hd 23 (by kernel_rfl)
      have fg := hF.at (s := 69) (i := 23) (by kernel_rfl) (by simp) lg
      rw [show vals 23 = .bool true from hR 23 lg] at fg
      have f0 := hF.old (s := 8) (v := .int .i64 601) (by kernel_rfl) rfl
      refine Or.inl ⟨wanted_at (j := 23) (s := 69) rfl rfl rfl fg, ?_⟩
      exact wp_val (.int .i64 601) (by simp [go_sem, f0]) ⟨_, rfl, Gr.refl _, rfl⟩
    · obtain rfl := Option.some.inj ho
      have lg := on_of hd 23 (by kernel_rfl)
      have fg := hF.at (s := 69) (i := 23) (by kernel_rfl) (by simp) lg
      rw [show vals 23 = .bool true from hR 23 lg] at fg
      have l0 := on_of hd 24 (by kernel_rfl)
      have f0 := hF.at (s := 70) (i := 24) (by kernel_rfl) (by simp) l0
      rw [show vals 24 = .int .i64 601 from hR 24 l0] at f0
      refine Or.inl ⟨wanted_at (j := 23) (s := 69) rfl rfl rfl fg, ?_⟩
      exact wp_ret (.int .i64 601) (by simp [go_sem, f0]) (num5_gr _ _) (fun w2 hg2 => ⟨_, rfl, hg2, rfl⟩)
    · obtain rfl := Option.some.inj ho
      have lg := on_of hd 23 (by kernel_rfl)
      have fg := hF.at (s := 69) (i := 23) (by kernel_rfl) (by simp) lg
      rw [show vals 23 = .bool true from hR 23 lg] at fg
      have l0 := on_of hd 25 (by kernel_rfl)
      have f0 := hF.at (s := 71) (i := 25) (by kernel_rfl) (by simp) l0
      rw [show vals 25 = .int .i64 601 from hR 25 l0] at f0
      refine Or.inl ⟨wanted_at (j := 23) (s := 69) rfl rfl rfl fg, ?_⟩
      exact wp_val (.bool true) (by simp [go_sem, f0]) ⟨_, rfl, Gr.refl _, rfl⟩
    · obtain rfl := Option.some.inj ho
      have l0 := on_of hd 23 (by kernel_rfl)
      have f0 := hF.at (s := 69) (i := 23) (by kernel_rfl) (by simp) l0
      rw [show vals 23 = .bool true from hR 23 l0] at f0
      have l1 := on_of hd 26 (by kernel_rfl)
      have f1 := hF.at (s := 72) (i := 26) (by kernel_rfl) (by simp) l1
      rw [show vals 26 = .bool true from hR 26 l1] at f1
      refine Or.inl ⟨wanted_no rfl, ?_⟩
      exact wp_val (.bool true) (by simp [go_sem, f0, f1]) ⟨_, rfl, Gr.refl _, rfl⟩
    · obtain rfl := Option.some.inj ho
      have l0 := on_of hd 27 (by kernel_rfl)
      have f0 := hF.at (s := 73) (i := 27) (by kernel_rfl) (by simp) l0
      rw [show vals 27 = .bool true from hR 27 l0] at f0
      refine Or.inl ⟨wanted_no rfl, ?_⟩
      exact wp_val (.bool true) (by simp [go_sem, f0]) ⟨_, rfl, Gr.refl _, rfl⟩
    · obtain rfl := Option.some.inj ho
      have lg := on_of hd 28 (by kernel_rfl)
      have fg := hF.at (s := 74) (i := 28) (by kernel_rfl) (by simp) lg
      rw [show vals 28 = .bool true from hR 28 lg] at fg
      have f0 := hF.old (s := 10) (v := .int .i64 600) (by kernel_rfl) rfl
      refine Or.inl ⟨wanted_at (j := 28) (s := 74) rfl rfl rfl fg, ?_⟩
      exact wp_val (.int .i64 600) (by simp [go_sem, f0]) ⟨_, rfl, Gr.refl _, rfl⟩
    · obtain rfl := Option.some.inj ho
      have lg := on_of hd 28 (by kernel_rfl)
      have fg := hF.at (s := 74) (i := 28) (by kernel_rfl) (by simp) lg
      rw [show vals 28 = .bool true from hR 28 lg] at fg
      have l0 := on_of hd 29 (by kernel_rfl)
      have f0 := hF.at (s := 75) (i := 29) (by kernel_rfl) (by simp) l0
      rw [show vals 29 = .int .i64 600 from hR 29 l0] at f0
      refine Or.inl ⟨wanted_at (j := 28) (s := 74) rfl rfl rfl fg, ?_⟩
      exact wp_ret (.int .i64 600) (by simp [go_sem, f0]) (num5_gr _ _) (fun w2 hg2 => ⟨_, rfl, hg2, rfl⟩)
    · obtain rfl := Option.some.inj ho
      have lg := on_of hd 28 (by kernel_rfl)
      have fg := hF.at (s := 74) (i := 28) (by kernel_rfl) (by simp) lg
      rw [show vals 28 = .bool true from hR 28 lg] at fg
      have l0 := on_of hd 30 (by kernel_rfl)
      have f0 := hF.at (s := 76) (i := 30) (by kernel_rfl) (by simp) l0
      rw [show vals 30 = .int .i64 600 from hR 30 l0] at f0
      refine Or.inl ⟨wanted_at (j := 28) (s := 74) rfl rfl rfl fg, ?_⟩
      exact wp_val (.bool true) (by simp [go_sem, f0]) ⟨_, rfl, Gr.refl _, rfl⟩
    · obtain rfl := Option.some.inj ho
      have l0 := on_of hd 28 (by kernel_rfl)
      have f0 := hF.at (s := 74) (i := 28) (by kernel_rfl) (by simp) l0
      rw [show vals 28 = .bool true from hR 28 l0] at f0
      have l1 := on_of hd 31 (by kernel_rfl)
      have f1 := hF.at (s := 77) (i := 31) (by kernel_rfl) (by simp) l1
      rw [show vals 31 = .bool true from hR 31 l1] at f1
      refine Or.inl ⟨wanted_no rfl, ?_⟩
      exact wp_val (.bool true) (by simp [go_sem, f0, f1]) ⟨_, rfl, Gr.refl _, rfl⟩
    · obtain rfl := Option.some.inj ho
      have l0 := on_of hd 32 (by kernel_rfl)
      have f0 := hF.at (s := 78) (i := 32) (by kernel_rfl) (by simp) l0
      rw [show vals 32 = .bool true from hR 32 l0] at f0
      refine Or.inl ⟨wanted_no rfl, ?_⟩
      exact wp_val (.bool true) (by simp [go_sem, f0]) ⟨_, rfl, Gr.refl _, rfl⟩
  case hf =>
    intro vals v hg hR
    have x0 : vals 0 = .pointer (some ⟨bx, 0, none⟩) := hR 0 (by simp)
    have x1 : vals 1 = .int .i64 1 := hR 1 (by simp)
    have x2 : vals 2 = .bool true := hR 2 (by simp)
    have x3 : vals 3 = .bool true := hR 3 (by simp)
    have x4 : vals 4 = .agg (nw 9 6) := hR 4 (by simp)
    have x5 : vals 5 = .agg (nw 9 6) := hR 5 (by simp)
    have x6 : vals 6 = .bool true := hR 6 (by simp)
    have x7 : vals 7 = .bool true := hR 7 (by simp)
    have x8 : vals 8 = .bool true := hR 8 (by simp)
    have x9 : vals 9 = .int .i64 0 := hR 9 (by simp)
    have x10 : vals 10 = .int .i64 0 := hR 10 (by simp)
    have x11 : vals 11 = .bool true := hR 11 (by simp)
    have x12 : vals 12 = .bool true := hR 12 (by simp)
    have x13 : vals 13 = .bool true := hR 13 (by simp)
    have x14 : vals 14 = .agg (nw 9 3) := hR 14 (by simp)
    have x15 : vals 15 = .agg (nw 9 3) := hR 15 (by simp)
    have x16 : vals 16 = .bool true := hR 16 (by simp)
    have x17 : vals 17 = .bool true := hR 17 (by simp)
    have x18 : vals 18 = .bool true := hR 18 (by simp)
    have x19 : vals 19 = .int .i64 0 := hR 19 (by simp)
    have x20 : vals 20 = .int .i64 0 := hR 20 (by simp)
    have x21 : vals 21 = .bool true := hR 21 (by simp)
    have x22 : vals 22 = .bool true := hR 22 (by simp)
    have x23 : vals 23 = .bool true := hR 23 (by simp)
    have x24 : vals 24 = .int .i64 601 := hR 24 (by simp)
    have x25 : vals 25 = .int .i64 601 := hR 25 (by simp)
    have x26 : vals 26 = .bool true := hR 26 (by simp)
    have x27 : vals 27 = .bool true := hR 27 (by simp)
    have x28 : vals 28 = .bool true := hR 28 (by simp)
    have x29 : vals 29 = .int .i64 600 := hR 29 (by simp)
    have x30 : vals 30 = .int .i64 600 := hR 30 (by simp)
    have x31 : vals 31 = .bool true := hR 31 (by simp)
    have x32 : vals 32 = .bool true := hR 32 (by simp)
    have x33 : vals 33 = .bool true := hR 33 (by simp)
    simp only [putFrom, Act.put, List.setIfInBounds_toArray, List.set_cons_zero, List.set_cons_succ, x0, x1, x2, x3, x4, x5, x6, x7, x8, x9, x10, x11, x12, x13, x14, x15, x16, x17, x18, x19, x20, x21, x22, x23, x24, x25, x26, x27, x28, x29, x30, x31, x32, x33]
    clear hR x0 x1 x2 x3 x4 x5 x6 x7 x8 x9 x10 x11 x12 x13 x14 x15 x16 x17 x18 x19 x20 x21 x22 x23 x24 x25 x26 x27 x28 x29 x30 x31 x32 x33
    have HG : Gr w v := G.trans hg
    clear hg
    go_wp2_with fail
    go_ret
    exact ⟨rfl, HG⟩

end Go.Proofs.Ytleckbdhebjfkaa
