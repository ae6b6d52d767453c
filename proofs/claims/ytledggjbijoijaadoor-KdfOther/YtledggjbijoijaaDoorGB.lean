/-
  sha512.schedule: a block's 80 words.
-/
import Derived.Test.YtledggjbijoijaaDoorGI
import Derived.Test.YtledggjbijoijaaDoorTl
namespace Go.Proofs.YtledggjbijoijaaDoor.L8
open Go.RowKit
attribute [local go_sem ↓] ldB_is ldS_is ldW_is ldH_is stS_is stW_is stH_is
theorem ldB (w : World) (b : Nat) (f : Nat → Nat) (t : TypeId) (h : Bk w b (br 128 f) t) : (loadS 94 (.pointer (some ⟨b, 0, none⟩))).run Tryd.prog w = .ok (.agg (br 128 f)) w :=
  loadS_part 128 Tryd.underlying94 rfl (by kernel_rfl) (br_size _ _) fun i _ => by rw [Nat.zero_add]; exact h.cell i
theorem ldW (w : World) (b : Nat) (f : Nat → Nat) (t : TypeId) (h : Bk w b (wz 80 f) t) : (loadS 119 (.pointer (some ⟨b, 0, none⟩))).run Tryd.prog w = .ok (.agg (wz 80 f)) w :=
  loadS_part 80 Tryd.underlying119 rfl (by kernel_rfl) (wz_size _ _) fun i _ => by rw [Nat.zero_add]; exact h.cell i
theorem zvW_is : zeroValue 119 = zvS 119 := rfl
theorem zvW (w : World) : (zvS 119).run Tryd.prog w = .ok (.agg (wz 80 fun _ => 0)) w := by kernel_rfl
attribute [local go_sem ↓] zvW_is
attribute [local go_sem] zvW
set_option maxRecDepth 100000 in
set_option maxHeartbeats 1600000 in
theorem schedule_any (b : Nat → Nat) (hb : ∀ i, i < 128 → b i < 256) (w : World) :
    Calls Tryd.prog 68 #[.agg (br 128 b)] w fun e w' => e = .returned (.agg (wz 80 (rw0 b 80))) ∧ Sm w w' := by
  have C1 : Hid (∀ (a : Int) k w, k < 16 → a = ((8 * k : Nat) : Int) → Calls Tryd.prog 82 #[.agg (br 128 b), .int .i64 a] w fun e w' => e = .returned (.int .u64 ((w16 b k : Nat) : Int)) ∧ Sm w w') := fun a k w h1 h2 => wordAt_any b k a hb h2 h1 w
  have HL : Hid (∀ k j, rw0 b k j < 18446744073709551616) := rw0_lt b hb
  have C2 : Hid (∀ (x : Nat) w, x < 18446744073709551616 → Calls Tryd.prog 83 #[.int .u64 (x : Int)] w fun e w' => e = .returned (.int .u64 ((s1 x : Nat) : Int)) ∧ w = w') := fun x w h => lateSum_any x h w
  have C3 : Hid (∀ (x : Nat) w, x < 18446744073709551616 → Calls Tryd.prog 84 #[.int .u64 (x : Int)] w fun e w' => e = .returned (.int .u64 ((s0 x : Nat) : Int)) ∧ w = w') := fun x w h => earlySum_any x h w
  clear hb
  go_enter Tryd.func68, Tryd.ntmps68
  go_wp2
  go_loopw [6] (fun i v => ∃ k : Nat, k ≤ 16 ∧ i = .int .i64 (k : Int) ∧ Bk v w.heap.size (br 128 b) 94 ∧ Bk v (w.heap.size + 1) (wz 80 fun _ => 0) 119 ∧ Bk v (w.heap.size + 1 + 1) (wz 80 (rw0 b k)) 119 ∧ Kp (Fr w.heap.size) w v) (fun i _ => 16 - (intOf i).toNat)
  case atStart =>
    refine ⟨0, by omega, rfl, ?_, ?_, ?_, ?_⟩
    · exact ((Bk.new _ _ _).alloc _).alloc _
    · have := ((Bk.new (w.alloc (.cells (br 128 b) 94)) (wz 80 fun _ => 0) 119).alloc (.cells (wz 80 fun _ => 0) 119))
      simpa using this
    · show Bk _ _ (wz 80 fun _ => 0) _
      have := Bk.new ((w.alloc (.cells (br 128 b) 94)).alloc (.cells (wz 80 fun _ => 0) 119)) (wz 80 fun _ => 0) 119
      simpa using this
    · exact (((Kp.refl _ _).alloc _).alloc _).alloc _
  case round =>
    obtain ⟨k, hk, rfl, HB, HZ, HW, HK⟩ := hrel
    by_cases hlt : k < 16
    · have k0 : (0 : Int) ≤ (k : Int) := by omega
      have k1 : (k : Int) < 16 := by omega
      have ld := ldB _ _ _ _ HB
      go_wp2_with (go_at_call 82; refine (C1.out _ k _ hlt (by omega)).mono ?_; rintro e v1 ⟨rfl, S1⟩; have c1 := ((HW.sm S1).cell k).trans (wz_get 80 _ k (by omega)); have f1 := (HW.sm S1).fz k)
      go_roundw
      case rel =>
        refine ⟨k + 1, by omega, by go_num, (HB.sm S1).far _ _ ?_, (HZ.sm S1).far _ _ ?_, ((HW.sm S1).set k _).cast (wz_set _ _ _ _ _ ?_ ?_), (HK.trans (S1.kp _)).setCell _ _ ?_⟩
        · show w.heap.size ≠ w.heap.size + 1 + 1; omega
        · show w.heap.size + 1 ≠ w.heap.size + 1 + 1; omega
        · rw [rw0_step]; unfold nx; rw [if_pos hlt]
        · exact fun j _ hj => rw0_keep b k j hj
        · show w.heap.size ≤ w.heap.size + 1 + 1; omega
      case measure => simp [intOf]; omega
    · obtain rfl : k = 16 := by omega
      clear hlt hk
      go_wp2
      go_loopw [5] (fun i v => ∃ k : Nat, 16 ≤ k ∧ k ≤ 80 ∧ i = .int .i64 (k : Int) ∧ Bk v (w.heap.size + 1) (wz 80 fun _ => 0) 119 ∧ Bk v (w.heap.size + 1 + 1) (wz 80 (rw0 b k)) 119 ∧ Kp (Fr w.heap.size) w v) (fun i _ => 80 - (intOf i).toNat)
      case atStart => exact ⟨16, by omega, by omega, rfl, HZ, HW, HK⟩
      case round =>
        obtain ⟨k, hk16, hk, rfl, HZ, HW, HK⟩ := hrel
        by_cases hlt : k < 80
        · have k0 : (16 : Int) ≤ (k : Int) := by omega
          have k1 : (k : Int) < 80 := by omega
          obtain ⟨j2, hj2⟩ : ∃ j, k - 2 = j := ⟨_, rfl⟩
          have w2 : IntKind.i64.wrap ((k : Int) - 2) = (j2 : Int) := by rw [IntKind.wrap_i64]; omega
          have q2 : (j2 : Int) < 80 := by omega
          have c2 := (HW.cell j2).trans (wz_get 80 _ _ (by omega))
          obtain ⟨j7, hj7⟩ : ∃ j, k - 7 = j := ⟨_, rfl⟩
          have w7 : IntKind.i64.wrap ((k : Int) - 7) = (j7 : Int) := by rw [IntKind.wrap_i64]; omega
          have q7 : (j7 : Int) < 80 := by omega
          have c7 := (HW.cell j7).trans (wz_get 80 _ _ (by omega))
          obtain ⟨j15, hj15⟩ : ∃ j, k - 15 = j := ⟨_, rfl⟩
          have w15 : IntKind.i64.wrap ((k : Int) - 15) = (j15 : Int) := by rw [IntKind.wrap_i64]; omega
          have q15 : (j15 : Int) < 80 := by omega
          have c15 := (HW.cell j15).trans (wz_get 80 _ _ (by omega))
          obtain ⟨j16, hj16⟩ : ∃ j, k - 16 = j := ⟨_, rfl⟩
          have w16 : IntKind.i64.wrap ((k : Int) - 16) = (j16 : Int) := by rw [IntKind.wrap_i64]; omega
          have q16 : (j16 : Int) < 80 := by omega
          have c16 := (HW.cell j16).trans (wz_get 80 _ _ (by omega))
          have cc := (HW.cell k).trans (wz_get 80 _ _ (by omega))
          have f1 := HW.fz k
          go_wp2
          refine wp_region_tail (by kernel_rfl) (by kernel_rfl) (by kernel_rfl) ?_
          simp only [swp, nop, lastL]
          repeat (go_big_quiet_step (first
            | (go_at_call 83; exact quiet_eq (C2.out _ _ (HL.out _ _)))
            | (go_at_call 84; exact quiet_eq (C3.out _ _ (HL.out _ _)))))
          refine wpQuiet_nil ?_
          intro nq
          go_wp2
          go_roundw
          case rel =>
            refine ⟨k + 1, by omega, by omega, by go_num, (HZ.drewN nq).far _ _ ?_, ((HW.drewN nq).set k _).cast ?_, (HK.drewN nq).setCell _ _ ?_⟩
            · show w.heap.size + 1 ≠ w.heap.size + 1 + 1; omega
            · rw [ad_w, ad_w, ad_w]
              refine wz_set _ _ _ _ _ ?_ fun j _ hj => rw0_keep b k j hj
              rw [rw0_step]; unfold nx; rw [if_neg (by omega), hj2, hj7, hj15, hj16]
            · show w.heap.size ≤ w.heap.size + 1 + 1; omega
          case measure => simp [intOf]; omega
        · obtain rfl : k = 80 := by omega
          have ld := ldW _ _ _ _ HW
          have st := storeS_part (P := Tryd.prog) (ty := 119) 80 (by kernel_rfl) HZ (wz_size _ _) (wz_size 80 (rw0 b 80)) (by decide) (wz_one _ _)
          clear hlt hk hk16
          go_wp2
          refine bodyPost_ret (res_one Tryd.results68 (rd_row 80 Tryd.underlying119 rfl (by kernel_rfl) (by rfl) (HZ.put _) (wz_size _ _))) rfl ⟨rfl, Sm.of (HK.put _ _ ?_)⟩
          show w.heap.size ≤ w.heap.size + 1; omega
end Go.Proofs.YtledggjbijoijaaDoor.L8
