/-
  A field's modulus: nonSquare, inv: what they hand back.
-/
import Derived.Test.YtkmpholjlophpaaZFB
import Derived.Test.YtkmpholjlophpaaZDI
namespace Go.Proofs.Ytkmpholjlophpaa
open Go.RowKit
attribute [local go_sem ↓] loadNat_is loadArr_is loadWide_is loadArrW_is storeNat_is storeWide_is
attribute [local go_sem] loadNat loadArr loadWide loadArrW storeNat storeWide idxArr fold9 fold18 nw_size nw_elem pre_self pre_1 pre_2 pre_3 pre_4 pre_5 pre_6 pre_7 pre_8 pre_9 pre_10 pre_11 pre_12 pre_13 pre_14 pre_15 pre_16 pre_17 pre_18 pre_19 pre_20 pre_21 pre_22 pre_23 pre_24 pre_25 pre_26 pre_27 pre_28 pre_29 pre_30 pre_31 pre_32 pre_33 pre_34 pre_35 pre_36 pre_37 pre_38 pre_39 pre_40 gro_size gro_drew gro_drewN drew_gro drewN_gro gro_gro blk_gro frz_gro blk_drew frz_drew blk_drewN frz_drewN blk_alloc_at frz_alloc_at blk_alloc frz_alloc cell_gro frozen_gro cell_alloc_pre frozen_alloc_pre setCell_drewN alloc_drewN setBlk_drew setBlk_drewN setBlk_alloc_at setBlk_alloc setBlk_gro setCell_gro setCell_alloc_pre size_setBlk size_setCell
attribute [local go_sem ↓] loadDv_is load19_is storeDv_is store19_is copy_is
attribute [local go_sem] idx18 loadDv load19 storeDv store19 dv_size dv_9 dv_10 dv_e9 dv_e10 dv_elem fold11 fold19 setCell_in cell_in frozen_in frz_setBlk blk_setBlk setBlk_setBlk copy_run cpA_nw ones_nw

attribute [local go_sem ↓] loadMd_is storeMd_is buildMd_is Go.wp_at_zero Go.wp_at_succ
attribute [local go_sem] loadMd storeMd buildMd0 buildMd1 blk_other nw_ext9 nw_ext18 eqArr9 eqArr18

theorem mB_cl {w : World} {b x : Nat} (h : Cl w b x) (hx : x < M) : mB w b = x := by
  unfold mB
  rw [h.h, vB_nw 9 _ 9 (by decide)]
  exact Nat.mod_eq_of_lt hx
def blkOf : Value → Nat
  | .pointer (some a) => a.block
  | _ => 0
theorem eqN_yes (x : Nat) : eqN 9 x x = true := eqN_self 9 x
theorem eqN_no (x y : Nat) (hx : x < M) (hy : y < M) (h : x ≠ y) : eqN 9 x y = false := by
  rw [eqN9 x y hx hy]
  exact decide_eq_false h
set_option maxRecDepth 100000 in
set_option maxHeartbeats 1600000 in
theorem fnon_any (m z : Nat) (hm : m + m ≤ M) (hz : 2 ≤ z) (hzm : z < m) (hy : z ^ ((m - 1) / 2) % m = m - 1) (hn : ∀ x, 2 ≤ x → x < z → x ^ ((m - 1) / 2) % m ≠ m - 1) (w : World) :
    Calls Try.prog 96 #[.agg (nw 9 m)] w fun e w' => e = .returned (.agg (nw 9 z)) ∧ Gr w w' := by
  have hmM : m < M := by omega
  have HO : Hid (∀ w, Calls Try.prog 58 #[.int .i64 1] w fun e w' => e = .returned (.agg (nw 9 1)) ∧ Gr w w') := fun w => small_any 1 (by decide) w
  have HT : Hid (∀ w, Calls Try.prog 58 #[.int .i64 2] w fun e w' => e = .returned (.agg (nw 9 2)) ∧ Gr w w') := fun w => small_any 2 (by decide) w
  obtain ⟨L, hL⟩ : ∃ L, m - 1 = L := ⟨_, rfl⟩
  rw [hL] at hy hn
  obtain ⟨h, hh⟩ : ∃ h, L / 2 = h := ⟨_, rfl⟩
  rw [hh] at hy hn
  have HS : Hid (∀ w, Calls Try.prog 78 #[.agg (nw 9 m), .agg (nw 9 0), .agg (nw 9 1)] w fun e w' => e = .returned (.agg (nw 9 L)) ∧ Gr w w') := fun w => by
    have := fsub_any m 0 1 (by omega) (by omega) hm w
    rw [show 0 + m - 1 = L by omega, Nat.mod_eq_of_lt (show L < m by omega)] at this
    exact this
  have HR : Hid (∀ w, Calls Try.prog 86 #[.agg (nw 9 L), .int .i64 1] w fun e w' => e = .returned (.tuple #[.agg (nw 9 h), .int .i64 0]) ∧ Gr w w') := fun w => by
    have := shr_any L 1 (by omega) (by decide) w
    rw [Nat.pow_one, hh] at this
    exact this
  have HP : Hid (∀ x, x < m → ∀ w, Calls Try.prog 95 #[.agg (nw 9 m), .agg (nw 9 x), .agg (nw 9 h)] w fun e w' => e = .returned (.agg (nw 9 (x ^ h % m))) ∧ Gr w w') := fun x hx w => fpow_any m x h (by omega) hmM (by omega) (by omega) w
  have HA : Hid (∀ x, x + 1 < m → ∀ w, Calls Try.prog 77 #[.agg (nw 9 m), .agg (nw 9 x), .agg (nw 9 1)] w fun e w' => e = .returned (.agg (nw 9 (x + 1))) ∧ Gr w w') := fun x hx w => by
    have := fadd_any m x 1 (by omega) (by omega) hm w
    rw [Nat.mod_eq_of_lt hx] at this
    exact this
  have HQ : Hid (Unit → 2 ≤ z ∧ z < m ∧ m < M ∧ L < M ∧ z ^ h % m = L ∧ ∀ x, 2 ≤ x → x < z → x ^ h % m ≠ L) := fun _ => ⟨hz, hzm, hmM, by omega, hy, hn⟩
  clear hm hz hzm hy hn hmM hL hh
  go_enter Try.func96, Try.ntmps96
  go_wp2_with (first
    | (go_at_call_of 58 ((#[.int .i64 1] : Array Value)); refine (HO.out _).mono ?_; rintro e w' ⟨rfl, g, rfl⟩)
    | (go_at_call_of 58 ((#[.int .i64 2] : Array Value)); refine (HT.out _).mono ?_; rintro e w' ⟨rfl, g2, rfl⟩)
    | (go_at_call 78; refine (HS.out _).mono ?_; rintro e w' ⟨rfl, g3, rfl⟩)
    | (go_at_call 86; refine (HR.out _).mono ?_; rintro e w' ⟨rfl, g4, rfl⟩))
  obtain ⟨b3, hb3⟩ : ∃ b, w.heap.size + 1 + 1 + g.os.length = b := ⟨_, rfl⟩
  rw [hb3]
  obtain ⟨b4, hb4⟩ : ∃ b, b3 + 1 + g3.os.length = b := ⟨_, rfl⟩
  rw [hb4]
  obtain ⟨b5, hb5⟩ : ∃ b, b4 + 1 + g4.os.length = b := ⟨_, rfl⟩
  rw [hb5]
  obtain ⟨b7, hb7⟩ : ∃ b, b5 + 1 + g2.os.length = b := ⟨_, rfl⟩
  rw [hb7]
  go_loopw [24] (fun _ wr => ∃ x : Nat, Hid (Unit → 2 ≤ x ∧ x ≤ z) ∧ Hid (Gr w wr ∧ Cl wr w.heap.size m ∧ Cl wr (w.heap.size + 1) 0 ∧ Cl wr b3 1 ∧ Cl wr b4 L ∧ Cl wr b5 h ∧ Cl wr b7 x)) (fun _ wr => z - mB wr b7)
  case atStart =>
    refine ⟨2, fun _ => ⟨Nat.le_refl _, (HQ.out ()).1⟩, ?_⟩
    subst hb7 hb5 hb4 hb3
    refine ⟨(by repeat (first | exact Gr.refl _ | apply Gr.drewN | apply Gr.drew | apply Gr.alloc | apply Gr.gro)), ⟨by simp [go_sem], by simp [go_sem], by simp [go_sem]⟩, ⟨by simp [go_sem], by simp [go_sem], by simp [go_sem]⟩, ⟨by simp [go_sem], by simp [go_sem], by simp [go_sem]⟩, ⟨by simp [go_sem], by simp [go_sem], by simp [go_sem]⟩, ⟨by simp [go_sem], by simp [go_sem], by simp [go_sem]⟩, ⟨by simp [go_sem], by simp [go_sem], by simp [go_sem]⟩⟩
  case round =>
    have n1 : ¬ b7 = w.heap.size := by omega
    have n2 : ¬ b7 = w.heap.size + 1 := by omega
    have n3 : ¬ b7 = b3 := by omega
    have n4 : ¬ b7 = b4 := by omega
    have n5 : ¬ b7 = b5 := by omega
    have n6 : w.heap.size ≤ b7 := by omega
    clear hb3 hb4 hb5 hb7 HO HT HS HR
    obtain ⟨x, HX, HC⟩ := hrel
    obtain ⟨-, ⟨h1, f1, p1⟩, ⟨h2, f2, p2⟩, ⟨h3, f3, p3⟩, ⟨h4, f4, p4⟩, ⟨h5, f5, p5⟩, ⟨h7, f7, p7⟩⟩ := HC.out
    obtain ⟨y, hy⟩ : ∃ y, x ^ h % m = y := ⟨_, rfl⟩
    have hxm : x < m := by have := (HX.out ()).2; have := (HQ.out ()).2.1; omega
    have C1 : Hid (∀ w, Calls Try.prog 95 #[.agg (nw 9 m), .agg (nw 9 x), .agg (nw 9 h)] w fun e w' => e = .returned (.agg (nw 9 y)) ∧ Gr w w') := fun w => hy ▸ HP.out x hxm w
    have hyM : y < M := by
      have := (HQ.out ()).2.1
      have := (HQ.out ()).2.2.1
      have := Nat.mod_lt (x ^ h) (show 0 < m by omega)
      omega
    by_cases hx : x < z
    · have e1 : eqN 9 y L = false := eqN_no y L hyM (HQ.out ()).2.2.2.1 (by rw [← hy]; exact (HQ.out ()).2.2.2.2.2 x (HX.out ()).1 hx)
      have C2 : Hid (∀ w, Calls Try.prog 77 #[.agg (nw 9 m), .agg (nw 9 x), .agg (nw 9 1)] w fun e w' => e = .returned (.agg (nw 9 (x + 1))) ∧ Gr w w') := HA.out x (by have := (HQ.out ()).2.1; omega)
      have HX2 : Hid (Unit → 2 ≤ x + 1 ∧ x + 1 ≤ z) := fun _ => ⟨by have := (HX.out ()).1; omega, hx⟩
      obtain ⟨u, hu⟩ : ∃ u, x + 1 = u := ⟨_, rfl⟩
      rw [hu] at C2 HX2
      have HM : Hid (Unit → ∀ v, Cl v b7 u → z - mB v b7 < z - mB wr b7) := fun _ v hv => by
        have e2 := (HQ.out ()).2.1
        have e3 := (HQ.out ()).2.2.1
        rw [mB_cl hv (by omega), mB_cl HC.out.2.2.2.2.2.2 (by omega)]
        omega
      clear hy hxm hyM hx hu
      go_upto_region 5 with fail
      go_region_with (go_at_call 95; refine (C1.out _).mono ?_; rintro e w' ⟨rfl, g8, rfl⟩)
      all_goals
        go_wp2_with (go_at_call 77; refine (C2.out _).mono ?_; rintro e w' ⟨rfl, g9, rfl⟩)
        go_roundw
        case rel =>
          refine ⟨u, HX2, ?_⟩
          obtain ⟨G, c1, c2, c3, c4, c5, c7⟩ := HC.out
          refine ⟨?_, (c1.other n1).gr ⟨_, rfl⟩, (c2.other n2).gr ⟨_, rfl⟩, (c3.other n3).gr ⟨_, rfl⟩, (c4.other n4).gr ⟨_, rfl⟩, (c5.other n5).gr ⟨_, rfl⟩, (c7.set u).gr ⟨_, rfl⟩⟩
          repeat (first | exact G | apply Gr.drewN | apply Gr.drew | apply Gr.alloc | apply Gr.gro | (refine gr_setNew ?_ (by omega)))
        case measure => exact HM.out () _ ((HC.out.2.2.2.2.2.2.set u).gr ⟨_, rfl⟩)
    · have hxz : x = z := by have := (HX.out ()).2; omega
      subst hxz
      have e1 : eqN 9 y L = true := by rw [← hy, (HQ.out ()).2.2.2.2.1]; exact eqN_yes L
      clear hy hxm hyM hx
      go_upto_region 5 with fail
      go_region_with (go_at_call 95; refine (C1.out _).mono ?_; rintro e w' ⟨rfl, g8, rfl⟩)
      all_goals
        go_wp2_with fail
        refine bodyPost_ret (res_one Try.results96 (rd_nat (x := x) (by rfl) ?_)) rfl ⟨rfl, ?_⟩
        · simp [go_sem, *]
        · have hg := HC.out.1
          repeat (first | exact hg | apply Gr.drewN | apply Gr.drew | apply Gr.alloc | apply Gr.gro | (refine gr_setNew ?_ (by omega)))

end Go.Proofs.Ytkmpholjlophpaa
