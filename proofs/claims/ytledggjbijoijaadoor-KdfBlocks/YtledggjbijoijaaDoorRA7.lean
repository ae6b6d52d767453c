/-
  The documents' words of a block (curvetref7.words32).
-/
import Derived.Test.YtledggjbijoijaaDoorHI
import Derived.Test.YtledggjbijoijaaDoorTl
import Derived.Test.YtledggjbijoijaaDoorRCg
import Derived.Laws.MakeOwn
namespace Go.Proofs.YtledggjbijoijaaDoor
open Go.RowKit
def mk4 (a b : Value) : Sem Value := Instr.makeSlice 59 a b
theorem mk4_is (a b : Value) : Instr.makeSlice 59 a b = mk4 a b := rfl
theorem mk4_run (w : World) : (mk4 (.int .i64 64) (.int .i64 64)).run Tryd.prog w = .ok (.slice (some ⟨w.heap.size, 0, none⟩) 64 64) (w.alloc (.cells (wz 64 fun _ => 0) 39)) := by kernel_rfl
theorem s0_cast (x : Nat) (hx : x < 4294967296) : bits BinOp.xor IntKind.u32 (bits BinOp.xor IntKind.u32 ((rr x 7 : Nat) : Int) ((rr x 18 : Nat) : Int)) ((x : Int) / 8) = ((s0 x : Nat) : Int) := xor2 x 7 18 8 hx
theorem s1_cast (x : Nat) (hx : x < 4294967296) : bits BinOp.xor IntKind.u32 (bits BinOp.xor IntKind.u32 ((rr x 17 : Nat) : Int) ((rr x 19 : Nat) : Int)) ((x : Int) / 1024) = ((s1 x : Nat) : Int) := xor2 x 17 19 1024 hx
theorem S0_cast (x : Nat) (hx : x < 4294967296) : bits BinOp.xor IntKind.u32 (bits BinOp.xor IntKind.u32 ((rr x 2 : Nat) : Int) ((rr x 13 : Nat) : Int)) ((rr x 22 : Nat) : Int) = ((S0 x : Nat) : Int) := xor3 x 2 13 22 hx
theorem S1_cast (x : Nat) (hx : x < 4294967296) : bits BinOp.xor IntKind.u32 (bits BinOp.xor IntKind.u32 ((rr x 6 : Nat) : Int) ((rr x 11 : Nat) : Int)) ((rr x 25 : Nat) : Int) = ((S1 x : Nat) : Int) := xor3 x 6 11 25 hx
theorem nx_ref (b r : Nat → Nat) (k : Nat) (hk : ¬ k < 16) : ((r (k - 16) : Int) + (s0 (r (k - 15)) : Int) + (r (k - 7) : Int) + (s1 (r (k - 2)) : Int)) % 4294967296 = ((nx b r k : Nat) : Int) := by
  unfold nx
  rw [if_neg hk]
  unfold ad
  omega
attribute [local go_sem ↓] mk4_is
attribute [local go_sem] mk4_run
set_option maxRecDepth 100000 in
set_option maxHeartbeats 1600000 in
theorem words_any (b o c : Nat) (q : Nat → Nat) (hq : ∀ i, i < 64 → q i < 256) (w : World) (hB : By w b o 64 q) :
    Calls Tryd.prog 37 #[.slice (some ⟨b, o, none⟩) 64 c] w fun e w' => ∃ m, e = .returned (.slice (some ⟨m, 0, none⟩) 64 64) ∧ w.heap.size ≤ m ∧ Bk w' m (wz 64 (rw0 q 64)) 39 ∧ Sm w w' := by
  have HL : Hid (∀ k j, rw0 q k j < 4294967296) := rw0_lt q hq
  have CR : Hid (∀ (x : Nat) (k : Int) w, x < 4294967296 → 0 < k → k < 32 → Calls Tryd.prog 38 #[.int .u32 (x : Int), .int .i64 k] w fun e w' => e = .returned (.int .u32 ((rr x k.toNat : Nat) : Int)) ∧ ∃ n, w' = w.drewN n) := fun x k w h1 h2 h3 => by
    obtain ⟨k, rfl⟩ := Int.eq_ofNat_of_zero_le (Int.le_of_lt h2)
    exact rot_any x k h1 (by omega) (by omega) w
  go_enter Tryd.func37, Tryd.ntmps37
  go_wp2
  have h1 : Bk (w.alloc (Obj.cells (wz 64 fun _ => 0) 39)) w.heap.size (wz 64 (rw0 q 0)) 39 := Bk.new w _ _
  have HK : Kp (Fr w.heap.size) w (w.alloc (Obj.cells (wz 64 fun _ => 0) 39)) := (Kp.refl _ _).alloc _
  generalize w.alloc (Obj.cells (wz 64 fun _ => 0) 39) = v at *
  have hnb : ¬ Fr w.heap.size b := fun e => by have : w.heap.size ≤ b := e; have := hB.1; omega
  go_loopw [4] (fun i u => ∃ k : Nat, k ≤ 16 ∧ i = .int .i64 (k : Int) ∧ Bk u w.heap.size (wz 64 (rw0 q k)) 39 ∧ Kp (Fr w.heap.size) w u) (fun i _ => 16 - (intOf i).toNat)
  case atStart => exact ⟨0, by omega, rfl, h1, HK⟩
  case round =>
    clear h1 HK
    obtain ⟨k, hk, rfl, h1, HK⟩ := hrel
    by_cases hlt : k < 16
    · have k0 : (0 : Int) ≤ (k : Int) := by omega
      have k1 : (k : Int) < 16 := by omega
      have c1 := (h1.cell k).trans (wz_get 64 _ k (by omega))
      have f1 := h1.fz k
      have HE : _ = ((w16 q k : Nat) : Int) := word4 (q (4 * k)) (q (4 * k + 1)) (q (4 * k + 2)) (q (4 * k + 3)) (hq _ (by omega)) (hq _ (by omega)) (hq _ (by omega)) (hq _ (by omega))
      have b0 := (hB.kp HK hnb).2 (4 * k) (by omega)
      have b1 := (hB.kp HK hnb).2 (4 * k + 1) (by omega)
      have b2 := (hB.kp HK hnb).2 (4 * k + 2) (by omega)
      have b3 := (hB.kp HK hnb).2 (4 * k + 3) (by omega)
      obtain ⟨a, ha⟩ : ∃ a, 4 * k = a := ⟨_, rfl⟩
      rw [ha] at HE b0 b1 b2 b3
      have HX : Hid (Unit → _) := fun (_ : Unit) => HE
      have a1 : IntKind.i64.wrap ((4 : Int) * (k : Int)) = (a : Int) := by rw [IntKind.wrap_i64]; omega
      have a2 : (4 : Int) * (k : Int) = (a : Int) := by omega
      have a3 : (a : Int) < 61 := by omega
      clear HE
      go_wp2
      refine wp_region_tail (by kernel_rfl) (by kernel_rfl) (by kernel_rfl) ?_
      simp only [swp, nop, lastL]
      repeat (go_big_quiet_step (fail))
      refine wpQuiet_nil ?_
      intro nq
      go_wp2
      go_roundw
      case rel =>
        refine ⟨k + 1, by omega, by go_num, ((h1.drewN nq).set k _).cast ?_, (HK.drewN nq).setCell _ _ (Nat.le_refl _)⟩
        rw [HX.out ()]
        refine wz_set _ _ _ _ _ ?_ fun j _ hj => rw0_keep q k j hj
        rw [rw0_step]; unfold nx; rw [if_pos hlt]
      case measure => simp [intOf]; omega
    · obtain rfl : k = 16 := by omega
      clear hlt hk
      go_wp2
      go_loopw [5] (fun i u => ∃ k : Nat, 16 ≤ k ∧ k ≤ 64 ∧ i = .int .i64 (k : Int) ∧ Bk u w.heap.size (wz 64 (rw0 q k)) 39 ∧ Kp (Fr w.heap.size) w u) (fun i _ => 64 - (intOf i).toNat)
      case atStart => exact ⟨16, by omega, by omega, rfl, h1, HK⟩
      case round =>
        clear h1 HK
        obtain ⟨k, hk16, hk, rfl, h1, HK⟩ := hrel
        by_cases hlt : k < 64
        · have k0 : (16 : Int) ≤ (k : Int) := by omega
          have k1 : (k : Int) < 64 := by omega
          obtain ⟨j2, hj2⟩ : ∃ j, k - 2 = j := ⟨_, rfl⟩
          have w2 : IntKind.i64.wrap ((k : Int) - 2) = (j2 : Int) := by rw [IntKind.wrap_i64]; omega
          have q2 : (j2 : Int) < 64 := by omega
          have c2 := (h1.cell j2).trans (wz_get 64 _ _ (by omega))
          obtain ⟨j7, hj7⟩ : ∃ j, k - 7 = j := ⟨_, rfl⟩
          have w7 : IntKind.i64.wrap ((k : Int) - 7) = (j7 : Int) := by rw [IntKind.wrap_i64]; omega
          have q7 : (j7 : Int) < 64 := by omega
          have c7 := (h1.cell j7).trans (wz_get 64 _ _ (by omega))
          obtain ⟨j15, hj15⟩ : ∃ j, k - 15 = j := ⟨_, rfl⟩
          have w15 : IntKind.i64.wrap ((k : Int) - 15) = (j15 : Int) := by rw [IntKind.wrap_i64]; omega
          have q15 : (j15 : Int) < 64 := by omega
          have c15 := (h1.cell j15).trans (wz_get 64 _ _ (by omega))
          obtain ⟨j16, hj16⟩ : ∃ j, k - 16 = j := ⟨_, rfl⟩
          have w16 : IntKind.i64.wrap ((k : Int) - 16) = (j16 : Int) := by rw [IntKind.wrap_i64]; omega
          have q16 : (j16 : Int) < 64 := by omega
          have c16 := (h1.cell j16).trans (wz_get 64 _ _ (by omega))
          have cc := (h1.cell k).trans (wz_get 64 _ _ (by omega))
          have f1 := h1.fz k
          have HN : Hid (Unit → ((rw0 q k j16 : Int) + (s0 (rw0 q k j15) : Int) + (rw0 q k j7 : Int) + (s1 (rw0 q k j2) : Int)) % 4294967296 = ((nx q (rw0 q k) k : Nat) : Int)) := fun _ => by
            rw [← hj2, ← hj7, ← hj15, ← hj16]; exact nx_ref q (rw0 q k) k (by omega)
          go_wp2
          go_quiet (fail)
          go_wp2
          have h1 := h1.drewN nq
          have HK := HK.drewN nq
          generalize World.drewN _ nq = v1 at *
          have d16 := (h1.cell j16).trans (wz_get 64 _ _ (by omega))
          have d7 := (h1.cell j7).trans (wz_get 64 _ _ (by omega))
          have dd := (h1.cell k).trans (wz_get 64 _ _ (by omega))
          have f2 := h1.fz k
          clear c2 c7 c15 c16 cc f1
          refine wp_region_tail (by kernel_rfl) (by kernel_rfl) (by kernel_rfl) ?_
          simp only [swp, nop, lastL]
          repeat (go_big_quiet_step (first | (go_at_call 38; exact Calls.quiet_of (CR.out _ _ _ (HL.out _ _) (by decide) (by decide)))))
          refine wpQuiet_nil ?_
          intro nr
          go_wp2
          go_roundw
          case rel =>
            refine ⟨k + 1, by omega, by omega, by go_num, ((h1.drewN nr).set k _).cast ?_, (HK.drewN nr).setCell _ _ (Nat.le_refl _)⟩
            have e : ∀ u v : Int, u = v → (wz 64 (rw0 q k)).setIfInBounds k (.int .u32 u) = (wz 64 (rw0 q k)).setIfInBounds k (.int .u32 v) := fun u v h => by rw [h]
            refine (e _ _ ?_).trans (wz_set _ _ (rw0 q (k + 1)) _ (nx q (rw0 q k) k) (rw0_step q k) fun j _ hj => rw0_keep q k j hj)
            rw [← HN.out (), ← s0_cast _ (HL.out k j15), ← s1_cast _ (HL.out k j2)]
          case measure => simp [intOf]; omega
        · have ki : ¬ (k : Int) < 64 := by omega
          have HE : Hid (Unit → wz 64 (rw0 q k) = wz 64 (rw0 q 64)) := fun _ => by rw [show k = 64 by omega]
          clear hlt hk hk16
          go_wp2
          go_ret
          exact ⟨_, rfl, Nat.le_refl _, h1.cast (HE.out ()), Sm.of HK⟩
end Go.Proofs.YtledggjbijoijaaDoor
