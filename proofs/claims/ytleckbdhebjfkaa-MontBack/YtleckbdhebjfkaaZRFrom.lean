/-
  The documents' numbers: From.
-/
import Derived.Shelf.Bits.Mul64
import Derived.Test.YtleckbdhebjfkaaZSl
namespace Go.Proofs.Ytleckbdhebjfkaa
open Go.RowKit
attribute [local go_sem ↓] loadNat_is loadArr_is loadWide_is loadArrW_is storeNat_is storeWide_is
attribute [local go_sem] loadNat loadArr loadWide loadArrW storeNat storeWide idxArr fold9 fold18 nw_size nw_elem pre_self pre_1 pre_2 pre_3 pre_4 pre_5 pre_6 pre_7 pre_8 pre_9 pre_10 pre_11 pre_12 pre_13 pre_14 pre_15 pre_16 pre_17 pre_18 pre_19 pre_20 pre_21 pre_22 pre_23 pre_24 pre_25 pre_26 pre_27 pre_28 pre_29 pre_30 pre_31 pre_32 pre_33 pre_34 pre_35 pre_36 pre_37 pre_38 pre_39 pre_40 gro_size gro_drew gro_drewN drew_gro drewN_gro gro_gro blk_gro frz_gro blk_drew frz_drew blk_drewN frz_drewN blk_alloc_at frz_alloc_at blk_alloc frz_alloc cell_gro frozen_gro cell_alloc_pre frozen_alloc_pre setCell_drewN alloc_drewN setBlk_drew setBlk_drewN setBlk_alloc_at setBlk_alloc setBlk_gro setCell_gro setCell_alloc_pre size_setBlk size_setCell
theorem dg_i (x k : Nat) : ((dg x k : Nat) : Int) % 4294967296 = ((dg x k : Nat) : Int) := by have := dg_lt x k; omega
theorem mask_wd (a k : Nat) : bits BinOp.and IntKind.u64 ((wd a k : Nat) : Int) 4294967295 = ((dg a (2 * k) : Nat) : Int) := by
  rw [Mul64.maskN _ (wd_lt a k), dg_even]
theorem half_wd (a k : Nat) : ((wd a k : Nat) : Int) / 4294967296 = ((dg a (2 * k + 1) : Nat) : Int) := by
  rw [dg_odd]; omega
theorem pq_M : pq 18 = M := pq_two 9
set_option maxRecDepth 100000 in
set_option maxHeartbeats 800000 in
theorem from_any (a : Nat) (ha : a < M) (w : World) : Calls Try.prog 9 #[.agg (nw 9 a)] w (Nm a w) := by
  have hmk : ∀ w, (Instr.makeSlice 31 (.int .i64 18) (.int .i64 18)).run Try.prog w = .ok (.slice (some ⟨w.heap.size, 0, none⟩) 18 18) (w.alloc (.cells (nd 18 0) 35)) := fun w => make_digits 18 (by decide) w
  have HA : Hid (Unit → a < M) := fun _ => ha
  clear ha
  go_enter Try.func9, Try.ntmps9
  go_wp2
  clear hmk
  go_loopw [4] (fun i wr => ∃ k : Nat, k ≤ 9 ∧ i = .int .i64 (k : Int) ∧ wr = (w.alloc (.cells (nw 9 a) 25)).alloc (.cells (nd 18 (a % pq (2 * k))) 35)) (fun i _ => 9 - (intOf i).toNat)
  case atStart => exact ⟨0, by omega, rfl, by rw [Nat.mul_zero, pq_zero, Nat.mod_one]⟩
  case round =>
    obtain ⟨k, hk, rfl, rfl⟩ := hrel
    by_cases hlt : k < 9
    · have k0 : (0 : Int) ≤ (k : Int) := by omega
      have k1 : (k : Int) < 9 := by omega
      have ga := nw_get 9 a k hlt
      have m1 := mask_wd a k
      have m2 := half_wd a k
      have m3 := dg_i a (2 * k)
      have m4 := dg_i a (2 * k + 1)
      have s1 := nd_next 18 a (2 * k)
      have s2 := nd_next 18 a (2 * k + 1)
      obtain ⟨V, hV⟩ : ∃ V, a % pq (2 * k) = V := ⟨_, rfl⟩
      obtain ⟨V1, hV1⟩ : ∃ V, a % pq (2 * k + 1) = V := ⟨_, rfl⟩
      obtain ⟨V2, hV2⟩ : ∃ V, a % pq (2 * k + 1 + 1) = V := ⟨_, rfl⟩
      rw [hV, hV1] at s1
      rw [hV1, hV2] at s2
      rw [hV]
      have gV := nd_get 18 V (2 * k) (by omega)
      have gV1 := nd_get 18 V1 (2 * k + 1) (by omega)
      have HV : Hid (Unit → V2 = a % pq (2 * (k + 1))) := fun _ => hV2.symm
      clear hV hV1 hV2
      go_wp2
      go_roundw
      case rel => exact ⟨k + 1, by omega, by go_num, by rw [← HV.out ()]⟩
      case measure => simp [intOf]; omega
    · have hk9 : Hid (Unit → k = 9) := fun _ => by omega
      obtain ⟨V, hV⟩ : ∃ V, a % pq (2 * k) = V := ⟨_, rfl⟩
      have HV : Hid (Unit → V = a) := fun _ => by rw [← hV, hk9.out (), pq_M, Nat.mod_eq_of_lt (HA.out ())]
      have ki : ¬ (k : Int) < 9 := by omega
      rw [hV]
      clear hV hlt hk
      have hVq : V < pq 18 := by rw [HV.out (), pq_M]; exact HA.out ()
      have HQ : Hid (Unit → V < pq 18) := fun _ => hVq
      clear hVq
      go_wp2_with (go_at_call 37; refine (trim_nd _ _ 18 V (by decide) (HQ.out ()) (by simp [go_sem])).mono ?_; rintro e w' ⟨rfl, rfl⟩)
      go_ret
      exact Nm.mk (HV.out ()) (HQ.out ()) (by simp [go_sem]) (by simp [go_sem]) (by repeat (first | exact Gr.refl _ | apply Gr.drewN | apply Gr.drew | apply Gr.alloc | apply Gr.gro))

end Go.Proofs.Ytleckbdhebjfkaa
