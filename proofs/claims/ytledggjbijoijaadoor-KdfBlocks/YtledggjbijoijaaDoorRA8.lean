/-
  The documents' words of a block (curvetref7.words64).
-/
import Derived.Test.YtledggjbijoijaaDoorGI
import Derived.Test.YtledggjbijoijaaDoorTl
import Derived.Test.YtledggjbijoijaaDoorRCg
import Derived.Laws.MakeOwn
namespace Go.Proofs.YtledggjbijoijaaDoor.L8
open Go.RowKit
def mk4 (a b : Value) : Sem Value := Instr.makeSlice 64 a b
theorem mk4_is (a b : Value) : Instr.makeSlice 64 a b = mk4 a b := rfl
theorem mk4_run (w : World) : (mk4 (.int .i64 80) (.int .i64 80)).run Tryd.prog w = .ok (.slice (some ⟨w.heap.size, 0, none⟩) 80 80) (w.alloc (.cells (wz 80 fun _ => 0) 68)) := by kernel_rfl
theorem s0_cast (x : Nat) (hx : x < 18446744073709551616) : bits BinOp.xor IntKind.u64 (bits BinOp.xor IntKind.u64 ((rr x 1 : Nat) : Int) ((rr x 8 : Nat) : Int)) ((x : Int) / 128) = ((s0 x : Nat) : Int) := xor2 x 1 8 128 hx
theorem s1_cast (x : Nat) (hx : x < 18446744073709551616) : bits BinOp.xor IntKind.u64 (bits BinOp.xor IntKind.u64 ((rr x 19 : Nat) : Int) ((rr x 61 : Nat) : Int)) ((x : Int) / 64) = ((s1 x : Nat) : Int) := xor2 x 19 61 64 hx
theorem S0_cast (x : Nat) (hx : x < 18446744073709551616) : bits BinOp.xor IntKind.u64 (bits BinOp.xor IntKind.u64 ((rr x 28 : Nat) : Int) ((rr x 34 : Nat) : Int)) ((rr x 39 : Nat) : Int) = ((S0 x : Nat) : Int) := xor3 x 28 34 39 hx
theorem S1_cast (x : Nat) (hx : x < 18446744073709551616) : bits BinOp.xor IntKind.u64 (bits BinOp.xor IntKind.u64 ((rr x 14 : Nat) : Int) ((rr x 18 : Nat) : Int)) ((rr x 41 : Nat) : Int) = ((S1 x : Nat) : Int) := xor3 x 14 18 41 hx
theorem nx_ref (b r : Nat → Nat) (k : Nat) (hk : ¬ k < 16) : IntKind.u64.wrap (IntKind.u64.wrap (IntKind.u64.wrap ((r (k - 16) : Int) + (s0 (r (k - 15)) : Int)) + (r (k - 7) : Int)) + (s1 (r (k - 2)) : Int)) = ((nx b r k : Nat) : Int) := by
  rw [ad_w, ad_w, ad_w]
  unfold nx
  rw [if_neg hk]
  unfold ad
  omega
theorem rw0_zero (b : Nat → Nat) : ∀ k j, k ≤ j → rw0 b k j = 0
  | 0, _, _ => rfl
  | k + 1, j, h => by rw [rw0_keep b k j (by omega), rw0_zero b k j (by omega)]
/-- The row when k words are laid and m bytes of the next. -/
def rwp (b : Nat → Nat) (k m : Nat) : Nat → Nat := fun j => if j = k then hw b (8 * k) m else rw0 b k j
theorem rwp_zero (b : Nat → Nat) (k j : Nat) : rwp b k 0 j = rw0 b k j := by
  unfold rwp
  split
  · subst j; rw [rw0_zero b k k (Nat.le_refl _)]; rfl
  · rfl
theorem rwp_full (b : Nat → Nat) (k : Nat) (hk : k < 16) (j : Nat) : rwp b k 8 j = rw0 b (k + 1) j := by
  unfold rwp
  split
  · subst j; rw [rw0_step]; unfold nx; rw [if_pos hk]; rfl
  · rw [rw0_keep b k j ‹_›]
attribute [local go_sem ↓] mk4_is
attribute [local go_sem] mk4_run
set_option maxRecDepth 100000 in
set_option maxHeartbeats 1600000 in
theorem words_any (b o c : Nat) (q : Nat → Nat) (hq : ∀ i, i < 128 → q i < 256) (w : World) (hB : By w b o 128 q) :
    Calls Tryd.prog 39 #[.slice (some ⟨b, o, none⟩) 128 c] w fun e w' => ∃ m, e = .returned (.slice (some ⟨m, 0, none⟩) 80 80) ∧ w.heap.size ≤ m ∧ Bk w' m (wz 80 (rw0 q 80)) 68 ∧ Sm w w' := by
  have HL : Hid (∀ k j, rw0 q k j < 18446744073709551616) := rw0_lt q hq
  have CR : Hid (∀ (x : Nat) (k : Int) w, x < 18446744073709551616 → 0 < k → k < 64 → Calls Tryd.prog 40 #[.int .u64 (x : Int), .int .i64 k] w fun e w' => e = .returned (.int .u64 ((rr x k.toNat : Nat) : Int)) ∧ ∃ n, w' = w.drewN n) := fun x k w h1 h2 h3 => by
    obtain ⟨k, rfl⟩ := Int.eq_ofNat_of_zero_le (Int.le_of_lt h2)
    exact rot_any x k h1 (by omega) (by omega) w
  go_enter Tryd.func39, Tryd.ntmps39
  go_wp2
  have h1 : Bk (w.alloc (Obj.cells (wz 80 fun _ => 0) 68)) w.heap.size (wz 80 (rw0 q 0)) 68 := Bk.new w _ _
  have HK : Kp (Fr w.heap.size) w (w.alloc (Obj.cells (wz 80 fun _ => 0) 68)) := (Kp.refl _ _).alloc _
  generalize w.alloc (Obj.cells (wz 80 fun _ => 0) 68) = v at *
  have hnb : ¬ Fr w.heap.size b := fun e => by have : w.heap.size ≤ b := e; have := hB.1; omega
  go_loopw [4] (fun i u => ∃ k : Nat, k ≤ 16 ∧ i = .int .i64 (k : Int) ∧ Bk u w.heap.size (wz 80 (rw0 q k)) 68 ∧ Kp (Fr w.heap.size) w u) (fun i _ => 16 - (intOf i).toNat)
  case atStart => exact ⟨0, by omega, rfl, h1, HK⟩
  case round =>
    clear h1 HK
    obtain ⟨k, hk, rfl, h1, HK⟩ := hrel
    by_cases hlt : k < 16
    · have k0 : (0 : Int) ≤ (k : Int) := by omega
      have k1 : (k : Int) < 16 := by omega
      go_wp2
      go_loopw [5] (fun i u => ∃ m : Nat, m ≤ 8 ∧ i = .int .i64 (m : Int) ∧ Bk u w.heap.size (wz 80 (rwp q k m)) 68 ∧ Kp (Fr w.heap.size) w u) (fun i _ => 8 - (intOf i).toNat)
      case atStart => exact ⟨0, by omega, rfl, h1.cast (wz_ext _ _ _ fun j _ => (rwp_zero q k j).symm), HK⟩
      case round =>
        clear h1 HK
        obtain ⟨m, hm, rfl, h1, HK⟩ := hrel
        by_cases hl : m < 8
        · have m0 : (0 : Int) ≤ (m : Int) := by omega
          have m1 : (m : Int) < 8 := by omega
          have c1 := (h1.cell k).trans (wz_get 80 _ k (by omega))
          have hx : rwp q k m k = hw q (8 * k) m := by unfold rwp; rw [if_pos rfl]
          rw [hx] at c1
          have f1 := h1.fz k
          have b0 := (hB.kp HK hnb).2 (8 * k + m) (by omega)
          have hy := hq (8 * k + m) (by omega)
          have HS : Hid (Unit → rwp q k (m + 1) k = (hw q (8 * k) m * 256 % 18446744073709551616) ||| q (8 * k + m)) := fun _ => by unfold rwp; rw [if_pos rfl]; rfl
          have HJ : Hid (∀ j, j ≠ k → rwp q k (m + 1) j = rwp q k m j) := fun j hj => by unfold rwp; rw [if_neg hj, if_neg hj]
          generalize hw q (8 * k) m = x at *
          generalize q (8 * k + m) = y at *
          obtain ⟨c', hc'⟩ : ∃ c', 8 * k + m = c' := ⟨_, rfl⟩
          obtain ⟨a, ha⟩ : ∃ a, 8 * k = a := ⟨_, rfl⟩
          rw [hc'] at b0
          have a1 : IntKind.i64.wrap ((8 : Int) * (k : Int)) = (a : Int) := by rw [IntKind.wrap_i64]; omega
          have a2 : (8 : Int) * (k : Int) = (a : Int) := by omega
          have a3 : IntKind.i64.wrap ((a : Int) + (m : Int)) = (c' : Int) := by rw [IntKind.wrap_i64]; omega
          have a4 : (a : Int) + (m : Int) = (c' : Int) := by omega
          have a5 : (c' : Int) < 128 := by omega
          have y1 : (y : Int) < 256 := by omega
          have HY : Hid (y < 256) := hy
          have HM : Hid (m < 8) := hl
          have H16 : Hid (k < 16) := hlt
          clear hc' ha hx hy hl hm hk hlt
          go_wp2
          refine wp_region_tail (by kernel_rfl) (by kernel_rfl) (by kernel_rfl) ?_
          simp only [swp, nop, lastL]
          repeat (go_big_quiet_step (fail))
          refine wpQuiet_nil ?_
          intro nq
          go_wp2
          go_roundw
          case rel =>
            refine ⟨m + 1, HM.out, by go_num, ((h1.drewN nq).set k _).cast ?_, (HK.drewN nq).setCell _ _ (Nat.le_refl _)⟩
            rw [IntKind.wrap_u64, hw_step x y HY.out]
            exact wz_set _ _ _ _ _ (HS.out ()) fun j _ hj => HJ.out j hj
          case measure => simp [intOf]; have := HM.out; omega
        · have mi : ¬ (m : Int) < 8 := by omega
          have hm8 : m = 8 := by omega
          have h2 : Bk _ w.heap.size (wz 80 (rw0 q (k + 1))) 68 := h1.cast (wz_ext _ _ _ fun j _ => by rw [hm8]; exact rwp_full q k hlt j)
          clear h1 hm8 hl hm
          go_wp2
          go_roundw
          case rel => exact ⟨k + 1, by omega, by go_num, h2, HK⟩
          case measure => simp [intOf]; omega
    · obtain rfl : k = 16 := by omega
      clear hlt hk
      go_wp2
      go_loopw [6] (fun i u => ∃ k : Nat, 16 ≤ k ∧ k ≤ 80 ∧ i = .int .i64 (k : Int) ∧ Bk u w.heap.size (wz 80 (rw0 q k)) 68 ∧ Kp (Fr w.heap.size) w u) (fun i _ => 80 - (intOf i).toNat)
      case atStart => exact ⟨16, by omega, by omega, rfl, h1, HK⟩
      case round =>
        clear h1 HK
        obtain ⟨k, hk16, hk, rfl, h1, HK⟩ := hrel
        by_cases hlt : k < 80
        · have k0 : (16 : Int) ≤ (k : Int) := by omega
          have k1 : (k : Int) < 80 := by omega
          obtain ⟨j2, hj2⟩ : ∃ j, k - 2 = j := ⟨_, rfl⟩
          have w2 : IntKind.i64.wrap ((k : Int) - 2) = (j2 : Int) := by rw [IntKind.wrap_i64]; omega
          have q2 : (j2 : Int) < 80 := by omega
          have c2 := (h1.cell j2).trans (wz_get 80 _ _ (by omega))
          obtain ⟨j7, hj7⟩ : ∃ j, k - 7 = j := ⟨_, rfl⟩
          have w7 : IntKind.i64.wrap ((k : Int) - 7) = (j7 : Int) := by rw [IntKind.wrap_i64]; omega
          have q7 : (j7 : Int) < 80 := by omega
          have c7 := (h1.cell j7).trans (wz_get 80 _ _ (by omega))
          obtain ⟨j15, hj15⟩ : ∃ j, k - 15 = j := ⟨_, rfl⟩
          have w15 : IntKind.i64.wrap ((k : Int) - 15) = (j15 : Int) := by rw [IntKind.wrap_i64]; omega
          have q15 : (j15 : Int) < 80 := by omega
          have c15 := (h1.cell j15).trans (wz_get 80 _ _ (by omega))
          obtain ⟨j16, hj16⟩ : ∃ j, k - 16 = j := ⟨_, rfl⟩
          have w16 : IntKind.i64.wrap ((k : Int) - 16) = (j16 : Int) := by rw [IntKind.wrap_i64]; omega
          have q16 : (j16 : Int) < 80 := by omega
          have c16 := (h1.cell j16).trans (wz_get 80 _ _ (by omega))
          have cc := (h1.cell k).trans (wz_get 80 _ _ (by omega))
          have f1 := h1.fz k
          have HN : Hid (Unit → IntKind.u64.wrap (IntKind.u64.wrap (IntKind.u64.wrap ((rw0 q k j16 : Int) + (s0 (rw0 q k j15) : Int)) + (rw0 q k j7 : Int)) + (s1 (rw0 q k j2) : Int)) = ((nx q (rw0 q k) k : Nat) : Int)) := fun _ => by
            rw [← hj2, ← hj7, ← hj15, ← hj16]; exact nx_ref q (rw0 q k) k (by omega)
          go_wp2
          go_quiet (fail)
          go_wp2
          have h1 := h1.drewN nq
          have HK := HK.drewN nq
          generalize World.drewN _ nq = v1 at *
          have d16 := (h1.cell j16).trans (wz_get 80 _ _ (by omega))
          have d7 := (h1.cell j7).trans (wz_get 80 _ _ (by omega))
          have dd := (h1.cell k).trans (wz_get 80 _ _ (by omega))
          have f2 := h1.fz k
          clear c2 c7 c15 c16 cc f1
          refine wp_region_tail (by kernel_rfl) (by kernel_rfl) (by kernel_rfl) ?_
          simp only [swp, nop, lastL]
          repeat (go_big_quiet_step (first | (go_at_call 40; exact Calls.quiet_of (CR.out _ _ _ (HL.out _ _) (by decide) (by decide)))))
          refine wpQuiet_nil ?_
          intro nr
          go_wp2
          go_roundw
          case rel =>
            refine ⟨k + 1, by omega, by omega, by go_num, ((h1.drewN nr).set k _).cast ?_, (HK.drewN nr).setCell _ _ (Nat.le_refl _)⟩
            have e : ∀ u v : Int, u = v → (wz 80 (rw0 q k)).setIfInBounds k (.int .u64 u) = (wz 80 (rw0 q k)).setIfInBounds k (.int .u64 v) := fun u v h => by rw [h]
            refine (e _ _ ?_).trans (wz_set _ _ (rw0 q (k + 1)) _ (nx q (rw0 q k) k) (rw0_step q k) fun j _ hj => rw0_keep q k j hj)
            rw [← HN.out (), ← s0_cast _ (HL.out k j15), ← s1_cast _ (HL.out k j2)]
          case measure => simp [intOf]; omega
        · have ki : ¬ (k : Int) < 80 := by omega
          have HE : Hid (Unit → wz 80 (rw0 q k) = wz 80 (rw0 q 80)) := fun _ => by rw [show k = 80 by omega]
          clear hlt hk hk16
          go_wp2
          go_ret
          exact ⟨_, rfl, Nat.le_refl _, h1.cast (HE.out ()), Sm.of HK⟩
end Go.Proofs.YtledggjbijoijaaDoor.L8
