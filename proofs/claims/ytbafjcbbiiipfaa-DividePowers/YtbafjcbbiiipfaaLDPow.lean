/-
  The statement DividePowers, walked: it answers true for every three numbers.
-/
import Derived.Test.YtbafjcbbiiipfaaDAw
import Derived.Test.YtbafjcbbiiipfaaRInv
import Derived.Test.YtbafjcbbiiipfaaRFrom
import Derived.Test.YtbafjcbbiiipfaaMixP
namespace Go.Proofs.Ytbafjcbbiiipfaa
open Go.RowKit
attribute [local go_sem ↓] loadNat_is loadArr_is loadWide_is loadArrW_is storeNat_is storeWide_is
attribute [local go_sem] loadNat loadArr loadWide loadArrW storeNat storeWide idxArr fold9 fold18 nw_size nw_elem pre_self pre_1 pre_2 pre_3 pre_4 pre_5 pre_6 pre_7 pre_8 pre_9 pre_10 pre_11 pre_12 pre_13 pre_14 pre_15 pre_16 pre_17 pre_18 pre_19 pre_20 pre_21 pre_22 pre_23 pre_24 pre_25 pre_26 pre_27 pre_28 pre_29 pre_30 pre_31 pre_32 pre_33 pre_34 pre_35 pre_36 pre_37 pre_38 pre_39 pre_40 gro_size gro_drew gro_drewN drew_gro drewN_gro blk_gro frz_gro blk_drew frz_drew blk_drewN frz_drewN blk_alloc_at frz_alloc_at blk_alloc frz_alloc cell_gro frozen_gro cell_alloc_pre frozen_alloc_pre setCell_drewN alloc_drewN setBlk_drew setBlk_drewN setBlk_alloc_at setBlk_alloc setBlk_gro setCell_gro setCell_alloc_pre size_setBlk size_setCell
attribute [local go_sem] nw_ext9 nw_ext18 eqArr9 eqArr18 all_grow

attribute [local go_sem] loadNat2 loadArr2 loadWide2 loadK_nw ppre_1 ppre_2 ppre_3 ppre_4 ppre_5 ppre_6 ppre_7 ppre_8 ppre_9 ppre_10 ppre_11 ppre_12 ppre_13 ppre_14 ppre_15 ppre_16 ppre_17 ppre_18 ppre_19 ppre_20

attribute [local go_sem] eqN_self
attribute [local go_sem ↓] Go.wp_at_zero Go.wp_at_succ

attribute [local go_sem] dl_zero
/-- A slice that holds x, and true. -/
def NmT (x : Nat) (w : World) (e : Ending) (w' : World) : Prop := ∃ p n, e = .returned (.tuple #[.slice p (dl x) n, .bool true]) ∧ Sl w' p x ∧ Gr w w'
/-- Nothing, and false. -/
def NmF (w : World) (e : Ending) (w' : World) : Prop := e = .returned (.tuple #[.slice none 0 0, .bool false]) ∧ Gr w w'
attribute [local go_sem ↓] bsl_is
set_option maxRecDepth 100000 in
set_option maxHeartbeats 400000 in
theorem rinv_m1 (a n n' : Nat) (p q : Option Addr) (w : World) (hq : Sl w q 1) :
    Calls Try.prog 25 #[.slice p (dl a) n, .slice q (dl 1) n'] w (NmF w) := by
  have HC : Hid (∀ w' k' p', Gr w w' → Sl w' p' 1 → Calls Try.prog 39 #[.slice q 1 n', .slice p' 1 k'] w' fun e w'' => e = .returned (.int .i64 0) ∧ Gr w' w'') := fun w' k' p' g h => rcmp_any 1 1 n' k' q p' w' (hq.gr g) h (by decide) (by decide)
  have hb1 : ∀ w, (bslS 36 1 #[(0, .int .u32 1)]).run Try.prog w = .ok (.slice (some ⟨w.heap.size, 0, none⟩) 1 1) (w.alloc (.cells (nd 1 1) 70)) := fun w => build1 1 (by decide) w
  obtain ⟨A, eA⟩ : ∃ L, dl a = L := ⟨_, rfl⟩
  rw [eA, show dl 1 = 1 from rfl]
  clear hq eA
  go_enter Try.func25, Try.ntmps25
  go_wp2_with (go_at_call 39; refine (HC.out _ _ _ ((Gr.refl _).alloc _) (sl_new w)).mono ?_; rintro e W1 ⟨rfl, G1⟩; have GW1 := ((Gr.refl w).alloc _).trans G1)
  go_ret2
  exact ⟨rfl, GW1⟩
set_option maxRecDepth 100000 in
set_option maxHeartbeats 1600000 in
theorem powers_zero (a f : Nat) (w : World) :
    Calls Try.prog 4 #[.agg (nw 9 a), .agg (nw 9 f), .agg (nw 9 0)] w fun e w' => e = .returned (.bool true) ∧ Gr w w' := by
  have CF : Hid (∀ w, Calls Try.prog 15 #[.agg (nw 9 0)] w (Nm 0 w)) := fun w => from_any 0 M_pos w
  have e0 := eqN_self 9 0
  go_enter Try.func4, Try.ntmps4
  go_wp2_with (first
    | (go_at_call 23; refine (pow_zero _ _ _).mono ?_; rintro e w' ⟨rfl, gd, rfl⟩)
    | (go_at_call 24; refine (inv_zero _ _).mono ?_; rintro e w' ⟨rfl, gm, rfl⟩)
    | (go_at_call 15; refine (CF.out _).mono ?_; rintro e w' ⟨pz, nz, rfl, Sz, gz, rfl⟩)
    | (go_at_call 17; refine (awake4_any _).mono ?_; rintro e w' ⟨rfl, gaw, rfl⟩)
    | (go_at_call 16; refine (num_any _ _).mono ?_; rintro e w' ⟨rfl, rfl⟩))
  go_ret
  exact ⟨rfl, (by repeat (first | exact Gr.refl _ | apply Gr.drewN | apply Gr.drew | apply Gr.alloc | apply Gr.gro))⟩
set_option maxRecDepth 100000 in
set_option maxHeartbeats 3200000 in
theorem powers_none (a f m P : Nat) (zl : ((dl m : Nat) : Int) ≠ 0) (cp : ∀ w, Calls Try.prog 23 #[.agg (nw 9 a), .agg (nw 9 f), .agg (nw 9 m)] w fun e w' => e = .returned (.tuple #[.agg (nw 9 P), .int .i64 0]) ∧ Gr w w') (cfa : ∀ w, Calls Try.prog 15 #[.agg (nw 9 a)] w (Nm a w)) (cff : ∀ w, Calls Try.prog 15 #[.agg (nw 9 f)] w (Nm f w)) (cfm : ∀ w, Calls Try.prog 15 #[.agg (nw 9 m)] w (Nm m w)) (crq : ∀ w p n p' n' q k, Sl w p a → Sl w p' f → Sl w q m → Calls Try.prog 26 #[.slice p (dl a) n, .slice p' (dl f) n', .slice q (dl m) k] w (Nm P w)) (ci : ∀ w, Calls Try.prog 24 #[.agg (nw 9 a), .agg (nw 9 m)] w fun e w' => e = .returned (.tuple #[.agg (nw 9 0), .int .i64 401]) ∧ Gr w w') (cri : ∀ w p n p' n', Sl w p a → Sl w p' m → Calls Try.prog 25 #[.slice p (dl a) n, .slice p' (dl m) n'] w (NmF w)) (w : World) :
    Calls Try.prog 4 #[.agg (nw 9 a), .agg (nw 9 f), .agg (nw 9 m)] w fun e w' => e = .returned (.bool true) ∧ Gr w w' := by
  have CP : Hid (∀ w, Calls Try.prog 23 #[.agg (nw 9 a), .agg (nw 9 f), .agg (nw 9 m)] w fun e w' => e = .returned (.tuple #[.agg (nw 9 P), .int .i64 0]) ∧ Gr w w') := cp
  have CFA : Hid (∀ w, Calls Try.prog 15 #[.agg (nw 9 a)] w (Nm a w)) := cfa
  have CFF : Hid (∀ w, Calls Try.prog 15 #[.agg (nw 9 f)] w (Nm f w)) := cff
  have CFM : Hid (∀ w, Calls Try.prog 15 #[.agg (nw 9 m)] w (Nm m w)) := cfm
  have CRQ : Hid (∀ w p n p' n' q k, Sl w p a → Sl w p' f → Sl w q m → Calls Try.prog 26 #[.slice p (dl a) n, .slice p' (dl f) n', .slice q (dl m) k] w (Nm P w)) := crq
  have CI : Hid (∀ w, Calls Try.prog 24 #[.agg (nw 9 a), .agg (nw 9 m)] w fun e w' => e = .returned (.tuple #[.agg (nw 9 0), .int .i64 401]) ∧ Gr w w') := ci
  have CRI : Hid (∀ w p n p' n', Sl w p a → Sl w p' m → Calls Try.prog 25 #[.slice p (dl a) n, .slice p' (dl m) n'] w (NmF w)) := cri
  have CFa := CFA
  have CFf := CFF
  have e0 := eqN_self 9 0
  have z2 : (((dl m : Nat) : Int) == 0) = false := by rw [beq_eq_false_iff_ne]; exact zl
  clear cp cfa cff cfm crq ci cri zl CFA CFF
  go_enter Try.func4, Try.ntmps4
  go_upto_region 6 with (first
    | (go_at_call 23; refine (CP.out _).mono ?_; rintro e w' ⟨rfl, gp, rfl⟩)
    | (go_at_call 24; refine (CI.out _).mono ?_; rintro e w' ⟨rfl, gi, rfl⟩)
    | (go_at_call 15; refine (CFM.out _).mono ?_; rintro e w' ⟨pz, nz, rfl, Sz, gz, rfl⟩))
  go_upto_region 7 with (first
    | (go_at_call 15; refine (CFa.out _).mono ?_; rintro e w' ⟨pa, na, rfl, Sa, ga, rfl⟩)
    | (go_at_call 25; refine (CRI.out _ _ _ _ _ Sa (Sz.gr ?_)).mono ?_; exact (by repeat (first | exact Gr.refl _ | apply Gr.drewN | apply Gr.drew | apply Gr.alloc | apply Gr.gro)); rintro e w' ⟨rfl, gq, rfl⟩))
  have CRP : Hid (∀ w p n p' n', Sl w p a → Sl w p' f → Sl w pz m → Calls Try.prog 26 #[.slice p (dl a) n, .slice p' (dl f) n', .slice pz (dl m) nz] w (Nm P w)) := fun w p n p' n' h1 h2 h3 => CRQ.out w p n p' n' pz nz h1 h2 h3
  refine wp_region_pred (by kernel_rfl) (by kernel_rfl) [.c (.int .i64 0), .c (.int .i64 0), .c (.bool false), .c (.bool false), .c (.agg (nw 9 P)), .c (.agg (nw 9 a)), .n (a), .c (.agg (nw 9 f)), .n (f), .c (.slice pz (dl m) nz), .n (P), .c (.agg (nw 9 P)), .c (.bool false), .c (.bool false)] ?hs ?hf
  case hs =>
    intro listed vals a1 v i o hg hR hF ho hd
    have h3 : blk v (w.heap.size) = nw 9 a := (hg.blk (w.heap.size) (by simp [go_sem] <;> omega)).trans (by simp [go_sem])
    have ph3 : Pre (w.heap.size + 1) v.heap.size := Nat.le_trans (show w.heap.size + 1 ≤ _ by simp [go_sem] <;> omega) hg.below.size
    have h4 : blk v (w.heap.size + 1) = nw 9 f := (hg.blk (w.heap.size + 1) (by simp [go_sem] <;> omega)).trans (by simp [go_sem])
    have ph4 : Pre (w.heap.size + 1 + 1) v.heap.size := Nat.le_trans (show w.heap.size + 1 + 1 ≤ _ by simp [go_sem] <;> omega) hg.below.size
    have h7 : blk v (w.heap.size + 1 + 1 + 1 + gp.os.length) = nw 9 P := (hg.blk (w.heap.size + 1 + 1 + 1 + gp.os.length) (by simp [go_sem] <;> omega)).trans (by simp [go_sem])
    have ph7 : Pre (w.heap.size + 1 + 1 + 1 + gp.os.length + 1) v.heap.size := Nat.le_trans (show w.heap.size + 1 + 1 + 1 + gp.os.length + 1 ≤ _ by simp [go_sem] <;> omega) hg.below.size
    have h9 : blk v (w.heap.size + 1 + 1 + 1 + gp.os.length + 1 + gi.os.length) = nw 9 0 := (hg.blk (w.heap.size + 1 + 1 + 1 + gp.os.length + 1 + gi.os.length) (by simp [go_sem] <;> omega)).trans (by simp [go_sem])
    have ph9 : Pre (w.heap.size + 1 + 1 + 1 + gp.os.length + 1 + gi.os.length + 1) v.heap.size := Nat.le_trans (show w.heap.size + 1 + 1 + 1 + gp.os.length + 1 + gi.os.length + 1 ≤ _ by simp [go_sem] <;> omega) hg.below.size
    have hi : i < 14 := by simpa using (Array.getElem?_eq_some_iff.1 ho).1
    obtain rfl | rfl | rfl | rfl | rfl | rfl | rfl | rfl | rfl | rfl | rfl | rfl | rfl | rfl : i = 0 ∨ i = 1 ∨ i = 2 ∨ i = 3 ∨ i = 4 ∨ i = 5 ∨ i = 6 ∨ i = 7 ∨ i = 8 ∨ i = 9 ∨ i = 10 ∨ i = 11 ∨ i = 12 ∨ i = 13 := by omega
    · obtain rfl := Option.some.inj ho
      have f0 := hF.old (s := 8) (v := .int .i64 0) (by kernel_rfl) rfl
      refine Or.inl ⟨wanted_no rfl, ?_⟩
      exact wp_val (.int .i64 0) (by simp [go_sem, f0]) ⟨_, rfl, Gr.refl _, rfl⟩
    · obtain rfl := Option.some.inj ho
      have l0 := on_of hd 0 (by kernel_rfl)
      have f0 := hF.at (s := 60) (i := 0) (by kernel_rfl) (by simp) l0
      rw [show vals 0 = .int .i64 0 from hR 0 l0] at f0
      refine Or.inl ⟨wanted_no rfl, ?_⟩
      exact wp_ret (.int .i64 0) (by simp [go_sem, f0]) (num_gr _ _) (fun w2 hg2 => ⟨_, rfl, hg2, rfl⟩)
    · obtain rfl := Option.some.inj ho
      have l0 := on_of hd 1 (by kernel_rfl)
      have f0 := hF.at (s := 61) (i := 1) (by kernel_rfl) (by simp) l0
      rw [show vals 1 = .int .i64 0 from hR 1 l0] at f0
      refine Or.inl ⟨wanted_no rfl, ?_⟩
      exact wp_val (.bool false) (by simp [go_sem, f0]) ⟨_, rfl, Gr.refl _, rfl⟩
    · obtain rfl := Option.some.inj ho
      have l0 := on_of hd 2 (by kernel_rfl)
      have f0 := hF.at (s := 62) (i := 2) (by kernel_rfl) (by simp) l0
      rw [show vals 2 = .bool false from hR 2 l0] at f0
      refine Or.inl ⟨wanted_no rfl, ?_⟩
      exact wp_val (.bool false) (by simp [go_sem, f0]) ⟨_, rfl, Gr.refl _, rfl⟩
    · obtain rfl := Option.some.inj ho
      have lg := on_of hd 3 (by kernel_rfl)
      have fg := hF.at (s := 63) (i := 3) (by kernel_rfl) (by simp) lg
      rw [show vals 3 = .bool false from hR 3 lg] at fg
      have f0 := hF.old (s := 7) (v := .pointer (some ⟨w.heap.size + 1 + 1 + 1 + gp.os.length, 0, none⟩)) (by kernel_rfl) rfl
      refine Or.inl ⟨wanted_at (j := 3) (s := 63) rfl rfl rfl fg, ?_⟩
      exact wp_val (.agg (nw 9 P)) (by simp [go_sem, f0, h7]) ⟨_, rfl, Gr.refl _, rfl⟩
    · obtain rfl := Option.some.inj ho
      have lg := on_of hd 3 (by kernel_rfl)
      have fg := hF.at (s := 63) (i := 3) (by kernel_rfl) (by simp) lg
      rw [show vals 3 = .bool false from hR 3 lg] at fg
      have f0 := hF.old (s := 3) (v := .pointer (some ⟨w.heap.size, 0, none⟩)) (by kernel_rfl) rfl
      refine Or.inl ⟨wanted_at (j := 3) (s := 63) rfl rfl rfl fg, ?_⟩
      exact wp_val (.agg (nw 9 a)) (by simp [go_sem, f0, h3]) ⟨_, rfl, Gr.refl _, rfl⟩
    · obtain rfl := Option.some.inj ho
      have lg := on_of hd 3 (by kernel_rfl)
      have fg := hF.at (s := 63) (i := 3) (by kernel_rfl) (by simp) lg
      rw [show vals 3 = .bool false from hR 3 lg] at fg
      have l0 := on_of hd 5 (by kernel_rfl)
      have f0 := hF.at (s := 65) (i := 5) (by kernel_rfl) (by simp) l0
      rw [show vals 5 = .agg (nw 9 a) from hR 5 l0] at f0
      refine Or.inl ⟨wanted_at (j := 3) (s := 63) rfl rfl rfl fg, ?_⟩
      exact wp_retN (by simp [go_sem, f0]) (CFa.out _) (fun p n w2 hS hg2 => ⟨_, rfl, hg2, p, n, rfl, hS⟩)
    · obtain rfl := Option.some.inj ho
      have lg := on_of hd 3 (by kernel_rfl)
      have fg := hF.at (s := 63) (i := 3) (by kernel_rfl) (by simp) lg
      rw [show vals 3 = .bool false from hR 3 lg] at fg
      have f0 := hF.old (s := 4) (v := .pointer (some ⟨w.heap.size + 1, 0, none⟩)) (by kernel_rfl) rfl
      refine Or.inl ⟨wanted_at (j := 3) (s := 63) rfl rfl rfl fg, ?_⟩
      exact wp_val (.agg (nw 9 f)) (by simp [go_sem, f0, h4]) ⟨_, rfl, Gr.refl _, rfl⟩
    · obtain rfl := Option.some.inj ho
      have lg := on_of hd 3 (by kernel_rfl)
      have fg := hF.at (s := 63) (i := 3) (by kernel_rfl) (by simp) lg
      rw [show vals 3 = .bool false from hR 3 lg] at fg
      have l0 := on_of hd 7 (by kernel_rfl)
      have f0 := hF.at (s := 67) (i := 7) (by kernel_rfl) (by simp) l0
      rw [show vals 7 = .agg (nw 9 f) from hR 7 l0] at f0
      refine Or.inl ⟨wanted_at (j := 3) (s := 63) rfl rfl rfl fg, ?_⟩
      exact wp_retN (by simp [go_sem, f0]) (CFf.out _) (fun p n w2 hS hg2 => ⟨_, rfl, hg2, p, n, rfl, hS⟩)
    · obtain rfl := Option.some.inj ho
      have lg := on_of hd 3 (by kernel_rfl)
      have fg := hF.at (s := 63) (i := 3) (by kernel_rfl) (by simp) lg
      rw [show vals 3 = .bool false from hR 3 lg] at fg
      have f0 := hF.old (s := 11) (v := .slice pz (dl m) nz) (by kernel_rfl) rfl
      refine Or.inl ⟨wanted_at (j := 3) (s := 63) rfl rfl rfl fg, ?_⟩
      exact wp_val (.slice pz (dl m) nz) (by simp [go_sem, f0]) ⟨_, rfl, Gr.refl _, rfl⟩
    · obtain rfl := Option.some.inj ho
      have lg := on_of hd 3 (by kernel_rfl)
      have fg := hF.at (s := 63) (i := 3) (by kernel_rfl) (by simp) lg
      rw [show vals 3 = .bool false from hR 3 lg] at fg
      have l0 := on_of hd 6 (by kernel_rfl)
      have f0 := hF.at (s := 66) (i := 6) (by kernel_rfl) (by simp) l0
      obtain ⟨p0, n0, e0, S0⟩ := (show ∃ p n, vals 6 = Value.slice p (dl (a)) n ∧ Sl v p (a) from hR 6 l0)
      rw [e0] at f0
      have l1 := on_of hd 8 (by kernel_rfl)
      have f1 := hF.at (s := 68) (i := 8) (by kernel_rfl) (by simp) l1
      obtain ⟨p1, n1, e1, S1⟩ := (show ∃ p n, vals 8 = Value.slice p (dl (f)) n ∧ Sl v p (f) from hR 8 l1)
      rw [e1] at f1
      have l2 := on_of hd 9 (by kernel_rfl)
      have f2 := hF.at (s := 69) (i := 9) (by kernel_rfl) (by simp) l2
      rw [show vals 9 = .slice pz (dl m) nz from hR 9 l2] at f2
      refine Or.inl ⟨wanted_at (j := 3) (s := 63) rfl rfl rfl fg, ?_⟩
      exact wp_retN (by simp [go_sem, f0, f1, f2]) (CRP.out _ _ n0 _ n1 S0 S1 (Sz.gr (Gr.trans (by repeat (first | exact Gr.refl _ | apply Gr.drewN | apply Gr.drew | apply Gr.alloc | apply Gr.gro)) hg))) (fun p n w2 hS hg2 => ⟨_, rfl, hg2, p, n, rfl, hS⟩)
    · obtain rfl := Option.some.inj ho
      have lg := on_of hd 3 (by kernel_rfl)
      have fg := hF.at (s := 63) (i := 3) (by kernel_rfl) (by simp) lg
      rw [show vals 3 = .bool false from hR 3 lg] at fg
      have l0 := on_of hd 10 (by kernel_rfl)
      have f0 := hF.at (s := 70) (i := 10) (by kernel_rfl) (by simp) l0
      obtain ⟨p0, n0, e0, S0⟩ := (show ∃ p n, vals 10 = Value.slice p (dl (P)) n ∧ Sl v p (P) from hR 10 l0)
      rw [e0] at f0
      refine Or.inl ⟨wanted_at (j := 3) (s := 63) rfl rfl rfl fg, ?_⟩
      exact wp_ret (.agg (nw 9 P)) (by simp [go_sem, f0]) (rnat_any P n0 p0 _ S0) (fun w2 hg2 => ⟨_, rfl, hg2, rfl⟩)
    · obtain rfl := Option.some.inj ho
      have lg := on_of hd 3 (by kernel_rfl)
      have fg := hF.at (s := 63) (i := 3) (by kernel_rfl) (by simp) lg
      rw [show vals 3 = .bool false from hR 3 lg] at fg
      have l0 := on_of hd 4 (by kernel_rfl)
      have f0 := hF.at (s := 64) (i := 4) (by kernel_rfl) (by simp) l0
      rw [show vals 4 = .agg (nw 9 P) from hR 4 l0] at f0
      have l1 := on_of hd 11 (by kernel_rfl)
      have f1 := hF.at (s := 71) (i := 11) (by kernel_rfl) (by simp) l1
      rw [show vals 11 = .agg (nw 9 P) from hR 11 l1] at f1
      refine Or.inl ⟨wanted_at (j := 3) (s := 63) rfl rfl rfl fg, ?_⟩
      exact wp_val (.bool false) (by simp [go_sem, f0, f1]) ⟨_, rfl, Gr.refl _, rfl⟩
    · obtain rfl := Option.some.inj ho
      have l0 := on_of hd 3 (by kernel_rfl)
      have f0 := hF.at (s := 63) (i := 3) (by kernel_rfl) (by simp) l0
      rw [show vals 3 = .bool false from hR 3 l0] at f0
      have l1 := on_of hd 12 (by kernel_rfl)
      have f1 := hF.at (s := 72) (i := 12) (by kernel_rfl) (by simp) l1
      rw [show vals 12 = .bool false from hR 12 l1] at f1
      refine Or.inl ⟨wanted_no rfl, ?_⟩
      exact wp_val (.bool false) (by simp [go_sem, f0, f1]) ⟨_, rfl, Gr.refl _, rfl⟩
  case hf =>
    intro vals v hg hR
    have h3 : blk v (w.heap.size) = nw 9 a := (hg.blk (w.heap.size) (by simp [go_sem] <;> omega)).trans (by simp [go_sem])
    have ph3 : Pre (w.heap.size + 1) v.heap.size := Nat.le_trans (show w.heap.size + 1 ≤ _ by simp [go_sem] <;> omega) hg.below.size
    have h4 : blk v (w.heap.size + 1) = nw 9 f := (hg.blk (w.heap.size + 1) (by simp [go_sem] <;> omega)).trans (by simp [go_sem])
    have ph4 : Pre (w.heap.size + 1 + 1) v.heap.size := Nat.le_trans (show w.heap.size + 1 + 1 ≤ _ by simp [go_sem] <;> omega) hg.below.size
    have h7 : blk v (w.heap.size + 1 + 1 + 1 + gp.os.length) = nw 9 P := (hg.blk (w.heap.size + 1 + 1 + 1 + gp.os.length) (by simp [go_sem] <;> omega)).trans (by simp [go_sem])
    have ph7 : Pre (w.heap.size + 1 + 1 + 1 + gp.os.length + 1) v.heap.size := Nat.le_trans (show w.heap.size + 1 + 1 + 1 + gp.os.length + 1 ≤ _ by simp [go_sem] <;> omega) hg.below.size
    have h9 : blk v (w.heap.size + 1 + 1 + 1 + gp.os.length + 1 + gi.os.length) = nw 9 0 := (hg.blk (w.heap.size + 1 + 1 + 1 + gp.os.length + 1 + gi.os.length) (by simp [go_sem] <;> omega)).trans (by simp [go_sem])
    have ph9 : Pre (w.heap.size + 1 + 1 + 1 + gp.os.length + 1 + gi.os.length + 1) v.heap.size := Nat.le_trans (show w.heap.size + 1 + 1 + 1 + gp.os.length + 1 + gi.os.length + 1 ≤ _ by simp [go_sem] <;> omega) hg.below.size
    have x0 : vals 0 = .int .i64 0 := hR 0 (by simp)
    have x1 : vals 1 = .int .i64 0 := hR 1 (by simp)
    have x2 : vals 2 = .bool false := hR 2 (by simp)
    have x3 : vals 3 = .bool false := hR 3 (by simp)
    have x4 : vals 4 = .agg (nw 9 P) := hR 4 (by simp)
    have x5 : vals 5 = .agg (nw 9 a) := hR 5 (by simp)
    obtain ⟨p6, n6, x6, S6⟩ := (show ∃ p n, vals 6 = Value.slice p (dl (a)) n ∧ Sl v p (a) from hR 6 (by simp))
    have x7 : vals 7 = .agg (nw 9 f) := hR 7 (by simp)
    obtain ⟨p8, n8, x8, S8⟩ := (show ∃ p n, vals 8 = Value.slice p (dl (f)) n ∧ Sl v p (f) from hR 8 (by simp))
    have x9 : vals 9 = .slice pz (dl m) nz := hR 9 (by simp)
    obtain ⟨p10, n10, x10, S10⟩ := (show ∃ p n, vals 10 = Value.slice p (dl (P)) n ∧ Sl v p (P) from hR 10 (by simp))
    have x11 : vals 11 = .agg (nw 9 P) := hR 11 (by simp)
    have x12 : vals 12 = .bool false := hR 12 (by simp)
    have x13 : vals 13 = .bool false := hR 13 (by simp)
    simp only [putFrom, Act.put, List.setIfInBounds_toArray, List.set_cons_zero, List.set_cons_succ, x0, x1, x2, x3, x4, x5, x6, x7, x8, x9, x10, x11, x12, x13]
    clear hR x0 x1 x2 x3 x4 x5 x6 x7 x8 x9 x10 x11 x12 x13
    have HG : Gr w v := by refine Gr.trans ?_ hg; exact (by repeat (first | exact Gr.refl _ | apply Gr.drewN | apply Gr.drew | apply Gr.alloc | apply Gr.gro))
    clear CP CI CFM CRQ CRI CRP CFa CFf
    go_wp2_with (first
      | (go_at_call 17; refine (awake4_any _).mono ?_; rintro e w' ⟨rfl, gaw, rfl⟩)
      | (go_at_call 16; refine (num_any _ _).mono ?_; rintro e w' ⟨rfl, rfl⟩))
    go_ret
    refine ⟨rfl, Gr.trans HG ?_⟩
    exact (by repeat (first | exact Gr.refl _ | apply Gr.drewN | apply Gr.drew | apply Gr.alloc | apply Gr.gro))
set_option maxRecDepth 100000 in
set_option maxHeartbeats 3200000 in
theorem powers_some (a f m P x : Nat) (zl : ((dl m : Nat) : Int) ≠ 0) (cp : ∀ w, Calls Try.prog 23 #[.agg (nw 9 a), .agg (nw 9 f), .agg (nw 9 m)] w fun e w' => e = .returned (.tuple #[.agg (nw 9 P), .int .i64 0]) ∧ Gr w w') (cfa : ∀ w, Calls Try.prog 15 #[.agg (nw 9 a)] w (Nm a w)) (cff : ∀ w, Calls Try.prog 15 #[.agg (nw 9 f)] w (Nm f w)) (cfm : ∀ w, Calls Try.prog 15 #[.agg (nw 9 m)] w (Nm m w)) (crq : ∀ w p n p' n' q k, Sl w p a → Sl w p' f → Sl w q m → Calls Try.prog 26 #[.slice p (dl a) n, .slice p' (dl f) n', .slice q (dl m) k] w (Nm P w)) (ci : ∀ w, Calls Try.prog 24 #[.agg (nw 9 a), .agg (nw 9 m)] w fun e w' => e = .returned (.tuple #[.agg (nw 9 x), .int .i64 0]) ∧ Gr w w') (cri : ∀ w p n p' n', Sl w p a → Sl w p' m → Calls Try.prog 25 #[.slice p (dl a) n, .slice p' (dl m) n'] w (NmT x w)) (w : World) :
    Calls Try.prog 4 #[.agg (nw 9 a), .agg (nw 9 f), .agg (nw 9 m)] w fun e w' => e = .returned (.bool true) ∧ Gr w w' := by
  have CP : Hid (∀ w, Calls Try.prog 23 #[.agg (nw 9 a), .agg (nw 9 f), .agg (nw 9 m)] w fun e w' => e = .returned (.tuple #[.agg (nw 9 P), .int .i64 0]) ∧ Gr w w') := cp
  have CFA : Hid (∀ w, Calls Try.prog 15 #[.agg (nw 9 a)] w (Nm a w)) := cfa
  have CFF : Hid (∀ w, Calls Try.prog 15 #[.agg (nw 9 f)] w (Nm f w)) := cff
  have CFM : Hid (∀ w, Calls Try.prog 15 #[.agg (nw 9 m)] w (Nm m w)) := cfm
  have CRQ : Hid (∀ w p n p' n' q k, Sl w p a → Sl w p' f → Sl w q m → Calls Try.prog 26 #[.slice p (dl a) n, .slice p' (dl f) n', .slice q (dl m) k] w (Nm P w)) := crq
  have CI : Hid (∀ w, Calls Try.prog 24 #[.agg (nw 9 a), .agg (nw 9 m)] w fun e w' => e = .returned (.tuple #[.agg (nw 9 x), .int .i64 0]) ∧ Gr w w') := ci
  have CRI : Hid (∀ w p n p' n', Sl w p a → Sl w p' m → Calls Try.prog 25 #[.slice p (dl a) n, .slice p' (dl m) n'] w (NmT x w)) := cri
  have CFa := CFA
  have CFf := CFF
  have e0 := eqN_self 9 0
  have z2 : (((dl m : Nat) : Int) == 0) = false := by rw [beq_eq_false_iff_ne]; exact zl
  clear cp cfa cff cfm crq ci cri zl CFA CFF
  go_enter Try.func4, Try.ntmps4
  go_upto_region 6 with (first
    | (go_at_call 23; refine (CP.out _).mono ?_; rintro e w' ⟨rfl, gp, rfl⟩)
    | (go_at_call 24; refine (CI.out _).mono ?_; rintro e w' ⟨rfl, gi, rfl⟩)
    | (go_at_call 15; refine (CFM.out _).mono ?_; rintro e w' ⟨pz, nz, rfl, Sz, gz, rfl⟩))
  go_upto_region 7 with (first
    | (go_at_call 15; refine (CFa.out _).mono ?_; rintro e w' ⟨pa, na, rfl, Sa, ga, rfl⟩)
    | (go_at_call 25; refine (CRI.out _ _ _ _ _ Sa (Sz.gr ?_)).mono ?_; exact (by repeat (first | exact Gr.refl _ | apply Gr.drewN | apply Gr.drew | apply Gr.alloc | apply Gr.gro)); rintro e w' ⟨px, nx, rfl, Sx, gq, rfl⟩))
  have CRP : Hid (∀ w p n p' n', Sl w p a → Sl w p' f → Sl w pz m → Calls Try.prog 26 #[.slice p (dl a) n, .slice p' (dl f) n', .slice pz (dl m) nz] w (Nm P w)) := fun w p n p' n' h1 h2 h3 => CRQ.out w p n p' n' pz nz h1 h2 h3
  refine wp_region_pred (by kernel_rfl) (by kernel_rfl) [.c (.int .i64 0), .c (.int .i64 0), .c (.bool false), .c (.bool false), .c (.agg (nw 9 P)), .c (.agg (nw 9 a)), .n (a), .c (.agg (nw 9 f)), .n (f), .c (.slice pz (dl m) nz), .n (P), .c (.agg (nw 9 P)), .c (.bool false), .c (.bool false)] ?hs ?hf
  case hs =>
    intro listed vals a1 v i o hg hR hF ho hd
    have h3 : blk v (w.heap.size) = nw 9 a := (hg.blk (w.heap.size) (by simp [go_sem] <;> omega)).trans (by simp [go_sem])
    have ph3 : Pre (w.heap.size + 1) v.heap.size := Nat.le_trans (show w.heap.size + 1 ≤ _ by simp [go_sem] <;> omega) hg.below.size
    have h4 : blk v (w.heap.size + 1) = nw 9 f := (hg.blk (w.heap.size + 1) (by simp [go_sem] <;> omega)).trans (by simp [go_sem])
    have ph4 : Pre (w.heap.size + 1 + 1) v.heap.size := Nat.le_trans (show w.heap.size + 1 + 1 ≤ _ by simp [go_sem] <;> omega) hg.below.size
    have h7 : blk v (w.heap.size + 1 + 1 + 1 + gp.os.length) = nw 9 P := (hg.blk (w.heap.size + 1 + 1 + 1 + gp.os.length) (by simp [go_sem] <;> omega)).trans (by simp [go_sem])
    have ph7 : Pre (w.heap.size + 1 + 1 + 1 + gp.os.length + 1) v.heap.size := Nat.le_trans (show w.heap.size + 1 + 1 + 1 + gp.os.length + 1 ≤ _ by simp [go_sem] <;> omega) hg.below.size
    have h9 : blk v (w.heap.size + 1 + 1 + 1 + gp.os.length + 1 + gi.os.length) = nw 9 x := (hg.blk (w.heap.size + 1 + 1 + 1 + gp.os.length + 1 + gi.os.length) (by simp [go_sem] <;> omega)).trans (by simp [go_sem])
    have ph9 : Pre (w.heap.size + 1 + 1 + 1 + gp.os.length + 1 + gi.os.length + 1) v.heap.size := Nat.le_trans (show w.heap.size + 1 + 1 + 1 + gp.os.length + 1 + gi.os.length + 1 ≤ _ by simp [go_sem] <;> omega) hg.below.size
    have hi : i < 14 := by simpa using (Array.getElem?_eq_some_iff.1 ho).1
    obtain rfl | rfl | rfl | rfl | rfl | rfl | rfl | rfl | rfl | rfl | rfl | rfl | rfl | rfl : i = 0 ∨ i = 1 ∨ i = 2 ∨ i = 3 ∨ i = 4 ∨ i = 5 ∨ i = 6 ∨ i = 7 ∨ i = 8 ∨ i = 9 ∨ i = 10 ∨ i = 11 ∨ i = 12 ∨ i = 13 := by omega
    · obtain rfl := Option.some.inj ho
      have f0 := hF.old (s := 8) (v := .int .i64 0) (by kernel_rfl) rfl
      refine Or.inl ⟨wanted_no rfl, ?_⟩
      exact wp_val (.int .i64 0) (by simp [go_sem, f0]) ⟨_, rfl, Gr.refl _, rfl⟩
    · obtain rfl := Option.some.inj ho
      have l0 := on_of hd 0 (by kernel_rfl)
      have f0 := hF.at (s := 60) (i := 0) (by kernel_rfl) (by simp) l0
      rw [show vals 0 = .int .i64 0 from hR 0 l0] at f0
      refine Or.inl ⟨wanted_no rfl, ?_⟩
      exact wp_ret (.int .i64 0) (by simp [go_sem, f0]) (num_gr _ _) (fun w2 hg2 => ⟨_, rfl, hg2, rfl⟩)
    · obtain rfl := Option.some.inj ho
      have l0 := on_of hd 1 (by kernel_rfl)
      have f0 := hF.at (s := 61) (i := 1) (by kernel_rfl) (by simp) l0
      rw [show vals 1 = .int .i64 0 from hR 1 l0] at f0
      refine Or.inl ⟨wanted_no rfl, ?_⟩
      exact wp_val (.bool false) (by simp [go_sem, f0]) ⟨_, rfl, Gr.refl _, rfl⟩
    · obtain rfl := Option.some.inj ho
      have l0 := on_of hd 2 (by kernel_rfl)
      have f0 := hF.at (s := 62) (i := 2) (by kernel_rfl) (by simp) l0
      rw [show vals 2 = .bool false from hR 2 l0] at f0
      refine Or.inl ⟨wanted_no rfl, ?_⟩
      exact wp_val (.bool false) (by simp [go_sem, f0]) ⟨_, rfl, Gr.refl _, rfl⟩
    · obtain rfl := Option.some.inj ho
      have lg := on_of hd 3 (by kernel_rfl)
      have fg := hF.at (s := 63) (i := 3) (by kernel_rfl) (by simp) lg
      rw [show vals 3 = .bool false from hR 3 lg] at fg
      have f0 := hF.old (s := 7) (v := .pointer (some ⟨w.heap.size + 1 + 1 + 1 + gp.os.length, 0, none⟩)) (by kernel_rfl) rfl
      refine Or.inl ⟨wanted_at (j := 3) (s := 63) rfl rfl rfl fg, ?_⟩
      exact wp_val (.agg (nw 9 P)) (by simp [go_sem, f0, h7]) ⟨_, rfl, Gr.refl _, rfl⟩
    · obtain rfl := Option.some.inj ho
      have lg := on_of hd 3 (by kernel_rfl)
      have fg := hF.at (s := 63) (i := 3) (by kernel_rfl) (by simp) lg
      rw [show vals 3 = .bool false from hR 3 lg] at fg
      have f0 := hF.old (s := 3) (v := .pointer (some ⟨w.heap.size, 0, none⟩)) (by kernel_rfl) rfl
      refine Or.inl ⟨wanted_at (j := 3) (s := 63) rfl rfl rfl fg, ?_⟩
      exact wp_val (.agg (nw 9 a)) (by simp [go_sem, f0, h3]) ⟨_, rfl, Gr.refl _, rfl⟩
    · obtain rfl := Option.some.inj ho
      have lg := on_of hd 3 (by kernel_rfl)
      have fg := hF.at (s := 63) (i := 3) (by kernel_rfl) (by simp) lg
      rw [show vals 3 = .bool false from hR 3 lg] at fg
      have l0 := on_of hd 5 (by kernel_rfl)
      have f0 := hF.at (s := 65) (i := 5) (by kernel_rfl) (by simp) l0
      rw [show vals 5 = .agg (nw 9 a) from hR 5 l0] at f0
      refine Or.inl ⟨wanted_at (j := 3) (s := 63) rfl rfl rfl fg, ?_⟩
      exact wp_retN (by simp [go_sem, f0]) (CFa.out _) (fun p n w2 hS hg2 => ⟨_, rfl, hg2, p, n, rfl, hS⟩)
    · obtain rfl := Option.some.inj ho
      have lg := on_of hd 3 (by kernel_rfl)
      have fg := hF.at (s := 63) (i := 3) (by kernel_rfl) (by simp) lg
      rw [show vals 3 = .bool false from hR 3 lg] at fg
      have f0 := hF.old (s := 4) (v := .pointer (some ⟨w.heap.size + 1, 0, none⟩)) (by kernel_rfl) rfl
      refine Or.inl ⟨wanted_at (j := 3) (s := 63) rfl rfl rfl fg, ?_⟩
      exact wp_val (.agg (nw 9 f)) (by simp [go_sem, f0, h4]) ⟨_, rfl, Gr.refl _, rfl⟩
    · obtain rfl := Option.some.inj ho
      have lg := on_of hd 3 (by kernel_rfl)
      have fg := hF.at (s := 63) (i := 3) (by kernel_rfl) (by simp) lg
      rw [show vals 3 = .bool false from hR 3 lg] at fg
      have l0 := on_of hd 7 (by kernel_rfl)
      have f0 := hF.at (s := 67) (i := 7) (by kernel_rfl) (by simp) l0
      rw [show vals 7 = .agg (nw 9 f) from hR 7 l0] at f0
      refine Or.inl ⟨wanted_at (j := 3) (s := 63) rfl rfl rfl fg, ?_⟩
      exact wp_retN (by simp [go_sem, f0]) (CFf.out _) (fun p n w2 hS hg2 => ⟨_, rfl, hg2, p, n, rfl, hS⟩)
    · obtain rfl := Option.some.inj ho
      have lg := on_of hd 3 (by kernel_rfl)
      have fg := hF.at (s := 63) (i := 3) (by kernel_rfl) (by simp) lg
      rw [show vals 3 = .bool false from hR 3 lg] at fg
      have f0 := hF.old (s := 11) (v := .slice pz (dl m) nz) (by kernel_rfl) rfl
      refine Or.inl ⟨wanted_at (j := 3) (s := 63) rfl rfl rfl fg, ?_⟩
      exact wp_val (.slice pz (dl m) nz) (by simp [go_sem, f0]) ⟨_, rfl, Gr.refl _, rfl⟩
    · obtain rfl := Option.some.inj ho
      have lg := on_of hd 3 (by kernel_rfl)
      have fg := hF.at (s := 63) (i := 3) (by kernel_rfl) (by simp) lg
      rw [show vals 3 = .bool false from hR 3 lg] at fg
      have l0 := on_of hd 6 (by kernel_rfl)
      have f0 := hF.at (s := 66) (i := 6) (by kernel_rfl) (by simp) l0
      obtain ⟨p0, n0, e0, S0⟩ := (show ∃ p n, vals 6 = Value.slice p (dl (a)) n ∧ Sl v p (a) from hR 6 l0)
      rw [e0] at f0
      have l1 := on_of hd 8 (by kernel_rfl)
      have f1 := hF.at (s := 68) (i := 8) (by kernel_rfl) (by simp) l1
      obtain ⟨p1, n1, e1, S1⟩ := (show ∃ p n, vals 8 = Value.slice p (dl (f)) n ∧ Sl v p (f) from hR 8 l1)
      rw [e1] at f1
      have l2 := on_of hd 9 (by kernel_rfl)
      have f2 := hF.at (s := 69) (i := 9) (by kernel_rfl) (by simp) l2
      rw [show vals 9 = .slice pz (dl m) nz from hR 9 l2] at f2
      refine Or.inl ⟨wanted_at (j := 3) (s := 63) rfl rfl rfl fg, ?_⟩
      exact wp_retN (by simp [go_sem, f0, f1, f2]) (CRP.out _ _ n0 _ n1 S0 S1 (Sz.gr (Gr.trans (by repeat (first | exact Gr.refl _ | apply Gr.drewN | apply Gr.drew | apply Gr.alloc | apply Gr.gro)) hg))) (fun p n w2 hS hg2 => ⟨_, rfl, hg2, p, n, rfl, hS⟩)
    · obtain rfl := Option.some.inj ho
      have lg := on_of hd 3 (by kernel_rfl)
      have fg := hF.at (s := 63) (i := 3) (by kernel_rfl) (by simp) lg
      rw [show vals 3 = .bool false from hR 3 lg] at fg
      have l0 := on_of hd 10 (by kernel_rfl)
      have f0 := hF.at (s := 70) (i := 10) (by kernel_rfl) (by simp) l0
      obtain ⟨p0, n0, e0, S0⟩ := (show ∃ p n, vals 10 = Value.slice p (dl (P)) n ∧ Sl v p (P) from hR 10 l0)
      rw [e0] at f0
      refine Or.inl ⟨wanted_at (j := 3) (s := 63) rfl rfl rfl fg, ?_⟩
      exact wp_ret (.agg (nw 9 P)) (by simp [go_sem, f0]) (rnat_any P n0 p0 _ S0) (fun w2 hg2 => ⟨_, rfl, hg2, rfl⟩)
    · obtain rfl := Option.some.inj ho
      have lg := on_of hd 3 (by kernel_rfl)
      have fg := hF.at (s := 63) (i := 3) (by kernel_rfl) (by simp) lg
      rw [show vals 3 = .bool false from hR 3 lg] at fg
      have l0 := on_of hd 4 (by kernel_rfl)
      have f0 := hF.at (s := 64) (i := 4) (by kernel_rfl) (by simp) l0
      rw [show vals 4 = .agg (nw 9 P) from hR 4 l0] at f0
      have l1 := on_of hd 11 (by kernel_rfl)
      have f1 := hF.at (s := 71) (i := 11) (by kernel_rfl) (by simp) l1
      rw [show vals 11 = .agg (nw 9 P) from hR 11 l1] at f1
      refine Or.inl ⟨wanted_at (j := 3) (s := 63) rfl rfl rfl fg, ?_⟩
      exact wp_val (.bool false) (by simp [go_sem, f0, f1]) ⟨_, rfl, Gr.refl _, rfl⟩
    · obtain rfl := Option.some.inj ho
      have l0 := on_of hd 3 (by kernel_rfl)
      have f0 := hF.at (s := 63) (i := 3) (by kernel_rfl) (by simp) l0
      rw [show vals 3 = .bool false from hR 3 l0] at f0
      have l1 := on_of hd 12 (by kernel_rfl)
      have f1 := hF.at (s := 72) (i := 12) (by kernel_rfl) (by simp) l1
      rw [show vals 12 = .bool false from hR 12 l1] at f1
      refine Or.inl ⟨wanted_no rfl, ?_⟩
      exact wp_val (.bool false) (by simp [go_sem, f0, f1]) ⟨_, rfl, Gr.refl _, rfl⟩
  case hf =>
    intro vals v hg hR
    have h3 : blk v (w.heap.size) = nw 9 a := (hg.blk (w.heap.size) (by simp [go_sem] <;> omega)).trans (by simp [go_sem])
    have ph3 : Pre (w.heap.size + 1) v.heap.size := Nat.le_trans (show w.heap.size + 1 ≤ _ by simp [go_sem] <;> omega) hg.below.size
    have h4 : blk v (w.heap.size + 1) = nw 9 f := (hg.blk (w.heap.size + 1) (by simp [go_sem] <;> omega)).trans (by simp [go_sem])
    have ph4 : Pre (w.heap.size + 1 + 1) v.heap.size := Nat.le_trans (show w.heap.size + 1 + 1 ≤ _ by simp [go_sem] <;> omega) hg.below.size
    have h7 : blk v (w.heap.size + 1 + 1 + 1 + gp.os.length) = nw 9 P := (hg.blk (w.heap.size + 1 + 1 + 1 + gp.os.length) (by simp [go_sem] <;> omega)).trans (by simp [go_sem])
    have ph7 : Pre (w.heap.size + 1 + 1 + 1 + gp.os.length + 1) v.heap.size := Nat.le_trans (show w.heap.size + 1 + 1 + 1 + gp.os.length + 1 ≤ _ by simp [go_sem] <;> omega) hg.below.size
    have h9 : blk v (w.heap.size + 1 + 1 + 1 + gp.os.length + 1 + gi.os.length) = nw 9 x := (hg.blk (w.heap.size + 1 + 1 + 1 + gp.os.length + 1 + gi.os.length) (by simp [go_sem] <;> omega)).trans (by simp [go_sem])
    have ph9 : Pre (w.heap.size + 1 + 1 + 1 + gp.os.length + 1 + gi.os.length + 1) v.heap.size := Nat.le_trans (show w.heap.size + 1 + 1 + 1 + gp.os.length + 1 + gi.os.length + 1 ≤ _ by simp [go_sem] <;> omega) hg.below.size
    have x0 : vals 0 = .int .i64 0 := hR 0 (by simp)
    have x1 : vals 1 = .int .i64 0 := hR 1 (by simp)
    have x2 : vals 2 = .bool false := hR 2 (by simp)
    have x3 : vals 3 = .bool false := hR 3 (by simp)
    have x4 : vals 4 = .agg (nw 9 P) := hR 4 (by simp)
    have x5 : vals 5 = .agg (nw 9 a) := hR 5 (by simp)
    obtain ⟨p6, n6, x6, S6⟩ := (show ∃ p n, vals 6 = Value.slice p (dl (a)) n ∧ Sl v p (a) from hR 6 (by simp))
    have x7 : vals 7 = .agg (nw 9 f) := hR 7 (by simp)
    obtain ⟨p8, n8, x8, S8⟩ := (show ∃ p n, vals 8 = Value.slice p (dl (f)) n ∧ Sl v p (f) from hR 8 (by simp))
    have x9 : vals 9 = .slice pz (dl m) nz := hR 9 (by simp)
    obtain ⟨p10, n10, x10, S10⟩ := (show ∃ p n, vals 10 = Value.slice p (dl (P)) n ∧ Sl v p (P) from hR 10 (by simp))
    have x11 : vals 11 = .agg (nw 9 P) := hR 11 (by simp)
    have x12 : vals 12 = .bool false := hR 12 (by simp)
    have x13 : vals 13 = .bool false := hR 13 (by simp)
    simp only [putFrom, Act.put, List.setIfInBounds_toArray, List.set_cons_zero, List.set_cons_succ, x0, x1, x2, x3, x4, x5, x6, x7, x8, x9, x10, x11, x12, x13]
    clear hR x0 x1 x2 x3 x4 x5 x6 x7 x8 x9 x10 x11 x12 x13
    have HG : Gr w v := by refine Gr.trans ?_ hg; exact (by repeat (first | exact Gr.refl _ | apply Gr.drewN | apply Gr.drew | apply Gr.alloc | apply Gr.gro))
    have SxV : Sl v px x := Sx.gr (by refine Gr.trans ?_ hg; exact (by repeat (first | exact Gr.refl _ | apply Gr.drewN | apply Gr.drew | apply Gr.alloc | apply Gr.gro)))
    have ex := eqN_self 9 x
    clear hg CP CI CFM CRQ CRI CRP CFa CFf
    go_upto_region 11 with fail
    refine wp_region_pred (by kernel_rfl) (by kernel_rfl) [.c (.int .i64 0), .c (.int .i64 0), .c (.bool true), .c (.bool true), .c (.agg (nw 9 x)), .c (.slice px (dl x) nx), .c (.agg (nw 9 x)), .c (.bool true), .c (.bool true), .c (.bool true), .c (.bool true), .c (.bool true), .c (.bool true)] ?hs ?hf
    case hs =>
      intro listed vals a1 v2 i o hg hR hF ho hd
      have k9 : blk v2 (w.heap.size + 1 + 1 + 1 + gp.os.length + 1 + gi.os.length) = nw 9 x := (hg.blk (w.heap.size + 1 + 1 + 1 + gp.os.length + 1 + gi.os.length) ph9).trans h9
      have pk9 : Pre (w.heap.size + 1 + 1 + 1 + gp.os.length + 1 + gi.os.length + 1) v2.heap.size := Nat.le_trans ph9 hg.below.size
      have Tx : Sl v2 px x := SxV.gr hg
      have hi : i < 13 := by simpa using (Array.getElem?_eq_some_iff.1 ho).1
      obtain rfl | rfl | rfl | rfl | rfl | rfl | rfl | rfl | rfl | rfl | rfl | rfl | rfl : i = 0 ∨ i = 1 ∨ i = 2 ∨ i = 3 ∨ i = 4 ∨ i = 5 ∨ i = 6 ∨ i = 7 ∨ i = 8 ∨ i = 9 ∨ i = 10 ∨ i = 11 ∨ i = 12 := by omega
      · obtain rfl := Option.some.inj ho
        have f0 := hF.old (s := 10) (v := .int .i64 0) (by kernel_rfl) rfl
        refine Or.inl ⟨wanted_no rfl, ?_⟩
        exact wp_val (.int .i64 0) (by simp [go_sem, f0]) ⟨_, rfl, Gr.refl _, rfl⟩
      · obtain rfl := Option.some.inj ho
        have l0 := on_of hd 0 (by kernel_rfl)
        have f0 := hF.at (s := 87) (i := 0) (by kernel_rfl) (by simp) l0
        rw [show vals 0 = .int .i64 0 from hR 0 l0] at f0
        refine Or.inl ⟨wanted_no rfl, ?_⟩
        exact wp_ret (.int .i64 0) (by simp [go_sem, f0]) (num_gr _ _) (fun w2 hg2 => ⟨_, rfl, hg2, rfl⟩)
      · obtain rfl := Option.some.inj ho
        have l0 := on_of hd 1 (by kernel_rfl)
        have f0 := hF.at (s := 88) (i := 1) (by kernel_rfl) (by simp) l0
        rw [show vals 1 = .int .i64 0 from hR 1 l0] at f0
        refine Or.inl ⟨wanted_no rfl, ?_⟩
        exact wp_val (.bool true) (by simp [go_sem, f0]) ⟨_, rfl, Gr.refl _, rfl⟩
      · obtain rfl := Option.some.inj ho
        have l0 := on_of hd 2 (by kernel_rfl)
        have f0 := hF.at (s := 89) (i := 2) (by kernel_rfl) (by simp) l0
        rw [show vals 2 = .bool true from hR 2 l0] at f0
        refine Or.inl ⟨wanted_no rfl, ?_⟩
        exact wp_val (.bool true) (by simp [go_sem, f0]) ⟨_, rfl, Gr.refl _, rfl⟩
      · obtain rfl := Option.some.inj ho
        have lg := on_of hd 3 (by kernel_rfl)
        have fg := hF.at (s := 90) (i := 3) (by kernel_rfl) (by simp) lg
        rw [show vals 3 = .bool true from hR 3 lg] at fg
        have f0 := hF.old (s := 9) (v := .pointer (some ⟨w.heap.size + 1 + 1 + 1 + gp.os.length + 1 + gi.os.length, 0, none⟩)) (by kernel_rfl) rfl
        refine Or.inl ⟨wanted_at (j := 3) (s := 90) rfl rfl rfl fg, ?_⟩
        exact wp_val (.agg (nw 9 x)) (by simp [go_sem, f0, k9]) ⟨_, rfl, Gr.refl _, rfl⟩
      · obtain rfl := Option.some.inj ho
        have lg := on_of hd 3 (by kernel_rfl)
        have fg := hF.at (s := 90) (i := 3) (by kernel_rfl) (by simp) lg
        rw [show vals 3 = .bool true from hR 3 lg] at fg
        have f0 := hF.old (s := 12) (v := .slice px (dl x) nx) (by kernel_rfl) rfl
        refine Or.inl ⟨wanted_at (j := 3) (s := 90) rfl rfl rfl fg, ?_⟩
        exact wp_val (.slice px (dl x) nx) (by simp [go_sem, f0]) ⟨_, rfl, Gr.refl _, rfl⟩
      · obtain rfl := Option.some.inj ho
        have lg := on_of hd 3 (by kernel_rfl)
        have fg := hF.at (s := 90) (i := 3) (by kernel_rfl) (by simp) lg
        rw [show vals 3 = .bool true from hR 3 lg] at fg
        have l0 := on_of hd 5 (by kernel_rfl)
        have f0 := hF.at (s := 92) (i := 5) (by kernel_rfl) (by simp) l0
        rw [show vals 5 = .slice px (dl x) nx from hR 5 l0] at f0
        refine Or.inl ⟨wanted_at (j := 3) (s := 90) rfl rfl rfl fg, ?_⟩
        exact wp_ret (.agg (nw 9 x)) (by simp [go_sem, f0]) (rnat_any x nx px _ Tx) (fun w2 hg2 => ⟨_, rfl, hg2, rfl⟩)
      · obtain rfl := Option.some.inj ho
        have lg := on_of hd 3 (by kernel_rfl)
        have fg := hF.at (s := 90) (i := 3) (by kernel_rfl) (by simp) lg
        rw [show vals 3 = .bool true from hR 3 lg] at fg
        have l0 := on_of hd 4 (by kernel_rfl)
        have f0 := hF.at (s := 91) (i := 4) (by kernel_rfl) (by simp) l0
        rw [show vals 4 = .agg (nw 9 x) from hR 4 l0] at f0
        have l1 := on_of hd 6 (by kernel_rfl)
        have f1 := hF.at (s := 93) (i := 6) (by kernel_rfl) (by simp) l1
        rw [show vals 6 = .agg (nw 9 x) from hR 6 l1] at f1
        refine Or.inl ⟨wanted_at (j := 3) (s := 90) rfl rfl rfl fg, ?_⟩
        exact wp_val (.bool true) (by simp [go_sem, f0, f1]) ⟨_, rfl, Gr.refl _, rfl⟩
      · obtain rfl := Option.some.inj ho
        have l0 := on_of hd 3 (by kernel_rfl)
        have f0 := hF.at (s := 90) (i := 3) (by kernel_rfl) (by simp) l0
        rw [show vals 3 = .bool true from hR 3 l0] at f0
        have l1 := on_of hd 7 (by kernel_rfl)
        have f1 := hF.at (s := 94) (i := 7) (by kernel_rfl) (by simp) l1
        rw [show vals 7 = .bool true from hR 7 l1] at f1
        refine Or.inl ⟨wanted_no rfl, ?_⟩
        exact wp_val (.bool true) (by simp [go_sem, f0, f1]) ⟨_, rfl, Gr.refl _, rfl⟩
      · obtain rfl := Option.some.inj ho
        have l0 := on_of hd 8 (by kernel_rfl)
        have f0 := hF.at (s := 95) (i := 8) (by kernel_rfl) (by simp) l0
        rw [show vals 8 = .bool true from hR 8 l0] at f0
        refine Or.inl ⟨wanted_no rfl, ?_⟩
        exact wp_val (.bool true) (by simp [go_sem, f0]) ⟨_, rfl, Gr.refl _, rfl⟩
      · obtain rfl := Option.some.inj ho
        have lg := on_of hd 9 (by kernel_rfl)
        have fg := hF.at (s := 96) (i := 9) (by kernel_rfl) (by simp) lg
        rw [show vals 9 = .bool true from hR 9 lg] at fg
        refine Or.inl ⟨wanted_at (j := 9) (s := 96) rfl rfl rfl fg, ?_⟩
        exact wp_ret (.bool true) (by simp [go_sem]) (awake4_any _) (fun w2 hg2 => ⟨_, rfl, hg2, rfl⟩)
      · obtain rfl := Option.some.inj ho
        have l0 := on_of hd 9 (by kernel_rfl)
        have f0 := hF.at (s := 96) (i := 9) (by kernel_rfl) (by simp) l0
        rw [show vals 9 = .bool true from hR 9 l0] at f0
        have l1 := on_of hd 10 (by kernel_rfl)
        have f1 := hF.at (s := 97) (i := 10) (by kernel_rfl) (by simp) l1
        rw [show vals 10 = .bool true from hR 10 l1] at f1
        refine Or.inl ⟨wanted_no rfl, ?_⟩
        exact wp_val (.bool true) (by simp [go_sem, f0, f1]) ⟨_, rfl, Gr.refl _, rfl⟩
      · obtain rfl := Option.some.inj ho
        have l0 := on_of hd 11 (by kernel_rfl)
        have f0 := hF.at (s := 98) (i := 11) (by kernel_rfl) (by simp) l0
        rw [show vals 11 = .bool true from hR 11 l0] at f0
        refine Or.inl ⟨wanted_no rfl, ?_⟩
        exact wp_val (.bool true) (by simp [go_sem, f0]) ⟨_, rfl, Gr.refl _, rfl⟩
    case hf =>
      intro vals v2 hg hR
      have x0 : vals 0 = .int .i64 0 := hR 0 (by simp)
      have x1 : vals 1 = .int .i64 0 := hR 1 (by simp)
      have x2 : vals 2 = .bool true := hR 2 (by simp)
      have x3 : vals 3 = .bool true := hR 3 (by simp)
      have x4 : vals 4 = .agg (nw 9 x) := hR 4 (by simp)
      have x5 : vals 5 = .slice px (dl x) nx := hR 5 (by simp)
      have x6 : vals 6 = .agg (nw 9 x) := hR 6 (by simp)
      have x7 : vals 7 = .bool true := hR 7 (by simp)
      have x8 : vals 8 = .bool true := hR 8 (by simp)
      have x9 : vals 9 = .bool true := hR 9 (by simp)
      have x10 : vals 10 = .bool true := hR 10 (by simp)
      have x11 : vals 11 = .bool true := hR 11 (by simp)
      have x12 : vals 12 = .bool true := hR 12 (by simp)
      simp only [putFrom, Act.put, List.setIfInBounds_toArray, List.set_cons_zero, List.set_cons_succ, x0, x1, x2, x3, x4, x5, x6, x7, x8, x9, x10, x11, x12]
      clear hR x0 x1 x2 x3 x4 x5 x6 x7 x8 x9 x10 x11 x12
      go_wp2_with fail
      go_ret
      exact ⟨rfl, HG.trans hg⟩

theorem dl_le18 (a : Nat) (h : a < M) : dl a ≤ 18 := (dl_le a 18).2 (by rw [pq_M]; exact h)
theorem powers_any (a f m : Nat) (ha : a < M) (hf : f < M) (hm : m < M) (w : World) :
    Calls Try.prog 4 #[.agg (nw 9 a), .agg (nw 9 f), .agg (nw 9 m)] w fun e w' => e = .returned (.bool true) ∧ Gr w w' := by
  by_cases h0 : m = 0
  · subst h0
    exact powers_zero a f w
  · have m0 : 0 < m := by omega
    have la := dl_le18 a ha
    have lf := dl_le18 f hf
    have lm := dl_le18 m hm
    have zl : ((dl m : Nat) : Int) ≠ 0 := fun e => by
      have := dl_eq_zero m (by omega)
      omega
    have h1 := fun w => pow_any a f m ha hf m0 hm w
    have h2 := fun w p n p' n' q k (s1 : Sl w p a) (s2 : Sl w p' f) (s3 : Sl w q m) => rpow_any a f m n n' k p p' q w s1 s2 s3 (by omega) (by omega) (by omega) m0
    by_cases h3 : m = 1
    · subst h3
      exact powers_none a f 1 _ zl h1 (fun w => from_any a ha w) (fun w => from_any f hf w) (fun w => from_any 1 hm w) h2 (fun w => inv_m1 a w) (fun w p n p' n' s1 s2 => rinv_m1 a n n' p p' w s2) w
    · have h4 : 1 < m := by omega
      have h5 := fun w p n p' n' (s1 : Sl w p a) (s2 : Sl w p' m) => rinv_any a m n n' p p' w s1 s2 (by omega) (by omega) h4
      by_cases hg : Nat.gcd m a = 1
      · obtain ⟨x, hx, ex, hi⟩ := inv_some a m ha h4 hm hg
        refine powers_some a f m _ x zl h1 (fun w => from_any a ha w) (fun w => from_any f hf w) (fun w => from_any m hm w) h2 hi (fun w p n p' n' s1 s2 => (h5 w p n p' n' s1 s2).mono fun e w' h => ?_) w
        obtain ⟨t, p, n, h6, h7, h8, h9⟩ := h.1 hg
        obtain rfl := inv_one a m t x h6 hx h7 ex
        exact ⟨p, n, h8, h9, h.2.2⟩
      · exact powers_none a f m _ zl h1 (fun w => from_any a ha w) (fun w => from_any f hf w) (fun w => from_any m hm w) h2 (fun w => inv_none a m ha h4 hm hg w) (fun w p n p' n' s1 s2 => (h5 w p n p' n' s1 s2).mono fun e w' h => ⟨h.2.1 hg, h.2.2⟩) w

end Go.Proofs.Ytbafjcbbiiipfaa
