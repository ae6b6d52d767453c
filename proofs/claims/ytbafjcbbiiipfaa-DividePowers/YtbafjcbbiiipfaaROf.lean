/-
  The documents' numbers: Of (of a Wide), and by one digit: short.
-/
import Derived.Test.YtbafjcbbiiipfaaRFrom
import Derived.Test.YtbafjcbbiiipfaaRShl
import Derived.Test.YtbafjcbbiiipfaaKr
namespace Go.Proofs.Ytbafjcbbiiipfaa
open Go.RowKit
attribute [local go_sem ↓] loadNat_is loadArr_is loadWide_is loadArrW_is storeNat_is storeWide_is
attribute [local go_sem] loadNat loadArr loadWide loadArrW storeNat storeWide idxArr fold9 fold18 nw_size nw_elem pre_self pre_1 pre_2 pre_3 pre_4 pre_5 pre_6 pre_7 pre_8 pre_9 pre_10 pre_11 pre_12 pre_13 pre_14 pre_15 pre_16 pre_17 pre_18 pre_19 pre_20 pre_21 pre_22 pre_23 pre_24 pre_25 pre_26 pre_27 pre_28 pre_29 pre_30 pre_31 pre_32 pre_33 pre_34 pre_35 pre_36 pre_37 pre_38 pre_39 pre_40 gro_size gro_drew gro_drewN drew_gro drewN_gro gro_gro blk_gro frz_gro blk_drew frz_drew blk_drewN frz_drewN blk_alloc_at frz_alloc_at blk_alloc frz_alloc cell_gro frozen_gro cell_alloc_pre frozen_alloc_pre setCell_drewN alloc_drewN setBlk_drew setBlk_drewN setBlk_alloc_at setBlk_alloc setBlk_gro setCell_gro setCell_alloc_pre size_setBlk size_setCell
theorem pq_36 : pq 36 = pw 18 := pq_two 18
set_option maxRecDepth 100000 in
set_option maxHeartbeats 800000 in
theorem rof_any (a : Nat) (ha : a < pw 18) (w : World) : Calls Try.prog 21 #[.agg (nw 18 a)] w (Nm a w) := by
  have hmk : ∀ w, (Instr.makeSlice 36 (.int .i64 36) (.int .i64 36)).run Try.prog w = .ok (.slice (some ⟨w.heap.size, 0, none⟩) 36 36) (w.alloc (.cells (nd 36 0) 70)) := fun w => make_digits 36 (by decide) w
  have HA : Hid (Unit → a < pw 18) := fun _ => ha
  clear ha
  go_enter Try.func21, Try.ntmps21
  go_wp2
  clear hmk
  go_loopw [4] (fun i wr => ∃ k : Nat, k ≤ 18 ∧ i = .int .i64 (k : Int) ∧ wr = (w.alloc (.cells (nw 18 a) 28)).alloc (.cells (nd 36 (a % pq (2 * k))) 70)) (fun i _ => 18 - (intOf i).toNat)
  case atStart => exact ⟨0, by omega, rfl, by rw [Nat.mul_zero, pq_zero, Nat.mod_one]⟩
  case round =>
    obtain ⟨k, hk, rfl, rfl⟩ := hrel
    by_cases hlt : k < 18
    · have k0 : (0 : Int) ≤ (k : Int) := by omega
      have k1 : (k : Int) < 18 := by omega
      have ga := nw_get 18 a k hlt
      have m1 := mask_wd a k
      have m2 := half_wd a k
      have m3 := dg_i a (2 * k)
      have m4 := dg_i a (2 * k + 1)
      have s1 := nd_next 36 a (2 * k)
      have s2 := nd_next 36 a (2 * k + 1)
      obtain ⟨V, hV⟩ : ∃ V, a % pq (2 * k) = V := ⟨_, rfl⟩
      obtain ⟨V1, hV1⟩ : ∃ V, a % pq (2 * k + 1) = V := ⟨_, rfl⟩
      obtain ⟨V2, hV2⟩ : ∃ V, a % pq (2 * k + 1 + 1) = V := ⟨_, rfl⟩
      rw [hV, hV1] at s1
      rw [hV1, hV2] at s2
      rw [hV]
      have gV := nd_get 36 V (2 * k) (by omega)
      have gV1 := nd_get 36 V1 (2 * k + 1) (by omega)
      have HV : Hid (Unit → V2 = a % pq (2 * (k + 1))) := fun _ => hV2.symm
      clear hV hV1 hV2
      go_wp2
      go_roundw
      case rel => exact ⟨k + 1, by omega, by go_num, by rw [← HV.out ()]⟩
      case measure => simp [intOf]; omega
    · have hk9 : Hid (Unit → k = 18) := fun _ => by omega
      obtain ⟨V, hV⟩ : ∃ V, a % pq (2 * k) = V := ⟨_, rfl⟩
      have HV : Hid (Unit → V = a) := fun _ => by rw [← hV, hk9.out (), pq_36, Nat.mod_eq_of_lt (HA.out ())]
      have ki : ¬ (k : Int) < 18 := by omega
      rw [hV]
      clear hV hlt hk
      have hVq : V < pq 36 := by rw [HV.out (), pq_36]; exact HA.out ()
      have HQ : Hid (Unit → V < pq 36) := fun _ => hVq
      clear hVq
      go_wp2_with (go_at_call 38; refine (trim_nd _ _ 36 V (by decide) (HQ.out ()) (by simp [go_sem])).mono ?_; rintro e w' ⟨rfl, rfl⟩)
      go_ret
      exact Nm.mk (HV.out ()) (HQ.out ()) (by simp [go_sem]) (by simp [go_sem]) (by repeat (first | exact Gr.refl _ | apply Gr.drewN | apply Gr.drew | apply Gr.alloc | apply Gr.gro))

theorem nd_one (x : Nat) (hx : x < 4294967296) : #[Value.int .u32 (x : Int)] = nd 1 x := by
  have e : dg x 0 = x := by unfold dg; rw [pq_zero, Nat.div_one, Nat.mod_eq_of_lt hx]
  show _ = #[Value.int .u32 ((dg x 0 : Nat) : Int)]
  rw [e]
/-- A slice of one digit that is made. -/
def bslS (t : TypeId) (n : Nat) (p : Array (Nat × Value)) : Sem Value := Instr.buildSlice t n p
theorem bsl_is (n : Nat) (p : Array (Nat × Value)) : Instr.buildSlice 36 n p = bslS 36 n p := rfl
theorem build1' (x : Nat) (w : World) : (bslS 36 1 #[(0, .int .u32 (x : Int))]).run Try.prog w = .ok (.slice (some ⟨w.heap.size, 0, none⟩) 1 1) (w.alloc (.cells #[.int .u32 (x : Int)] 70)) := by
  kernel_rfl
theorem build1 (x : Nat) (hx : x < 4294967296) (w : World) : (bslS 36 1 #[(0, .int .u32 (x : Int))]).run Try.prog w = .ok (.slice (some ⟨w.heap.size, 0, none⟩) 1 1) (w.alloc (.cells (nd 1 x) 70)) := by
  rw [build1' x w, nd_one x hx]
/-- Two slices that are handed back. -/
def Nm2 (x y : Nat) (w : World) (e : Ending) (w' : World) : Prop := ∃ p n p' n', e = .returned (.tuple #[.slice p (dl x) n, .slice p' (dl y) n']) ∧ Sl w' p x ∧ Sl w' p' y ∧ Gr w w'
end Go.Proofs.Ytbafjcbbiiipfaa
