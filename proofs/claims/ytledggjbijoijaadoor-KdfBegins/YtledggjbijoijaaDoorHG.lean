/-
  sha256's text, New, Write, Sum, Of: what they hand back.
-/
import Derived.Test.YtledggjbijoijaaDoorHF
namespace Go.Proofs.YtledggjbijoijaaDoor
open Go.RowKit
attribute [local go_sem ↓] mkS_is cvS_is
theorem br32_zero : #[Value.int .u8 0, Value.int .u8 0, Value.int .u8 0, Value.int .u8 0, Value.int .u8 0, Value.int .u8 0, Value.int .u8 0, Value.int .u8 0, Value.int .u8 0, Value.int .u8 0, Value.int .u8 0, Value.int .u8 0, Value.int .u8 0, Value.int .u8 0, Value.int .u8 0, Value.int .u8 0, Value.int .u8 0, Value.int .u8 0, Value.int .u8 0, Value.int .u8 0, Value.int .u8 0, Value.int .u8 0, Value.int .u8 0, Value.int .u8 0, Value.int .u8 0, Value.int .u8 0, Value.int .u8 0, Value.int .u8 0, Value.int .u8 0, Value.int .u8 0, Value.int .u8 0, Value.int .u8 0] = br 32 fun _ => 0 := by unfold br; rfl
/-- The row of a state's bytes when n of them are laid. -/
def tx (f : Nat → Nat) (n i : Nat) : Nat := if i < n then dg8 f i else 0
theorem tx_put (f : Nat → Nat) (k j : Nat) (hj : j < 4) : (br 32 (tx f (4 * k + j))).setIfInBounds (4 * k + j) (.int .u8 ((f k / 2 ^ (24 - 8 * j) % 256 : Nat) : Int)) = br 32 (tx f (4 * k + j + 1)) := by
  refine br_put 32 _ _ _ _ ?_ fun i _ hne => ?_
  · unfold tx dg8
    rw [if_pos (by omega), show (4 * k + j) / 4 = k by omega, show 8 * (3 - (4 * k + j) % 4) = 24 - 8 * j by omega]
  · unfold tx
    by_cases c : i < 4 * k + j
    · rw [if_pos c, if_pos (by omega)]
    · rw [if_neg c, if_neg (by omega)]
set_option maxRecDepth 100000 in
set_option maxHeartbeats 1600000 in
theorem text_any (b : Nat) (f : Nat → Nat) (w : World) (hc : ∀ i, i < 8 → w.cell? ⟨b, i, none⟩ = some (.int .u32 ((f i : Nat) : Int))) (hb : b < w.heap.size) :
    Calls Tryd.prog 56 #[.pointer (some ⟨b, 0, none⟩)] w fun e w' => e = .returned (.string (bt (dg8 f) 32)) ∧ Sm w w' := by
  go_enter Tryd.func56, Tryd.ntmps56
  go_wp2
  rw [br32_zero]
  have h1 : Bk (w.alloc (Obj.cells (br 32 fun _ => 0) 116)) w.heap.size (br 32 (tx f (4 * 0))) 116 := (Bk.new w _ _).cast (br_ext 32 _ _ fun i _ => by unfold tx; rw [if_neg (by omega)])
  have HK : Kp (Fr w.heap.size) w (w.alloc (Obj.cells (br 32 fun _ => 0) 116)) := (Kp.refl _ _).alloc _
  generalize w.alloc (Obj.cells (br 32 fun _ => 0) 116) = v at *
  go_loopw [8] (fun i u => ∃ k : Nat, k ≤ 8 ∧ i = .int .i64 (k : Int) ∧ Bk u w.heap.size (br 32 (tx f (4 * k))) 116 ∧ Kp (Fr w.heap.size) w u) (fun i _ => 8 - (intOf i).toNat)
  case atStart => exact ⟨0, by omega, rfl, h1, HK⟩
  case round =>
    clear h1 HK
    obtain ⟨k, hk, rfl, h1, HK⟩ := hrel
    by_cases hlt : k < 8
    · have k0 : (0 : Int) ≤ (k : Int) := by omega
      have k1 : (k : Int) < 8 := by omega
      have c1 := (HK.cell b k hb (fun e => by have : w.heap.size ≤ b := e; omega)).trans (hc k hlt)
      go_wp2
      go_quiet (fail)
      go_wp2
      go_loopw [14] (fun i u => ∃ j : Nat, j ≤ 4 ∧ i = .int .i64 (j : Int) ∧ Bk u w.heap.size (br 32 (tx f (4 * k + j))) 116 ∧ Kp (Fr w.heap.size) w u) (fun i _ => 4 - (intOf i).toNat)
      case atStart => exact ⟨0, by omega, rfl, h1.drewN _, HK.drewN _⟩
      case round =>
        clear h1 HK c1
        obtain ⟨j, hj, rfl, h1, HK⟩ := hrel
        by_cases hl : j < 4
        · have j0 : (0 : Int) ≤ (j : Int) := by omega
          have j1 : (j : Int) < 4 := by omega
          have hp := tx_put f k j hl
          obtain ⟨q, hq⟩ : ∃ q, 4 * k + j = q := ⟨_, rfl⟩
          rw [hq] at h1 hp
          have e1 : (4 : Int) * (k : Int) + (j : Int) = (q : Int) := by omega
          have e2 : (q : Int) < 32 := by omega
          have c2 := (h1.cell q).trans (br_get 32 _ q (by omega))
          have f2 := h1.fz q
          go_wp2
          go_roundw
          case rel =>
            refine ⟨j + 1, by omega, by go_num, (h1.set q _).cast ?_, HK.setCell _ _ (Nat.le_refl _)⟩
            rw [byte_cast, hp, show 4 * k + (j + 1) = q + 1 by omega]
          case measure => simp [intOf]; omega
        · have ji : ¬ (j : Int) < 4 := by omega
          have hj4 : Hid (j = 4) := show j = 4 by omega
          clear hl hj
          go_wp2
          go_roundw
          case rel => exact ⟨k + 1, by omega, by go_num, h1.cast (by rw [hj4.out]; rfl), HK⟩
          case measure => simp [intOf]; omega
    · have ki : ¬ (k : Int) < 8 := by omega
      have cv := fun c => cvS_run _ w.heap.size 0 32 c (tx f (4 * k)) fun i hi => by rw [Nat.zero_add]; exact (h1.cell i).trans (br_get 32 _ i hi)
      have HE : Hid (Unit → bt (tx f (4 * k)) 32 = bt (dg8 f) 32) := fun _ => bt_ext _ _ _ fun i hi => by unfold tx; rw [if_pos (by omega)]
      clear hlt hk
      go_wp2
      go_ret
      exact ⟨congrArg (fun z => Ending.returned (Value.string z)) (HE.out ()), Sm.of HK⟩

/-! ### New -/
def buildS (ty : TypeId) (p : Array (Nat × Value)) : Sem Value := Instr.build ty p
theorem bdS_is (p : Array (Nat × Value)) : Instr.build 81 p = buildS 81 p := rfl
theorem bdH_is (p : Array (Nat × Value)) : Instr.build 85 p = buildS 85 p := rfl
theorem bdS224 (w : World) : (buildS 81 #[(0, .int .u32 3238371032), (1, .int .u32 914150663), (2, .int .u32 812702999), (3, .int .u32 4144912697), (4, .int .u32 4290775857), (5, .int .u32 1750603025), (6, .int .u32 1694076839), (7, .int .u32 3204075428)]).run Tryd.prog w = .ok (.agg (wz 8 iv224)) w := by kernel_rfl
theorem bdS256 (w : World) : (buildS 81 #[(0, .int .u32 1779033703), (1, .int .u32 3144134277), (2, .int .u32 1013904242), (3, .int .u32 2773480762), (4, .int .u32 1359893119), (5, .int .u32 2600822924), (6, .int .u32 528734635), (7, .int .u32 1541459225)]).run Tryd.prog w = .ok (.agg (wz 8 iv256)) w := by kernel_rfl
theorem bdS0 (w : World) : (buildS 81 #[]).run Tryd.prog w = .ok (.agg (wz 8 fun _ => 0)) w := by kernel_rfl
theorem bdH (f : Nat → Nat) (z : Int) (w : World) : (buildS 85 #[(0, .agg (wz 8 f)), (4, .int .i64 z)]).run Tryd.prog w = .ok (.agg (hc f (fun _ => 0) 0 0 z)) w := by kernel_rfl
theorem wz8_zero : #[Value.int .u32 0, Value.int .u32 0, Value.int .u32 0, Value.int .u32 0, Value.int .u32 0, Value.int .u32 0, Value.int .u32 0, Value.int .u32 0] = wz 8 fun _ => 0 := by unfold wz; rfl
theorem hc_zero : #[Value.int .u32 0, Value.int .u32 0, Value.int .u32 0, Value.int .u32 0, Value.int .u32 0, Value.int .u32 0, Value.int .u32 0, Value.int .u32 0, Value.int .u8 0, Value.int .u8 0, Value.int .u8 0, Value.int .u8 0, Value.int .u8 0, Value.int .u8 0, Value.int .u8 0, Value.int .u8 0, Value.int .u8 0, Value.int .u8 0, Value.int .u8 0, Value.int .u8 0, Value.int .u8 0, Value.int .u8 0, Value.int .u8 0, Value.int .u8 0, Value.int .u8 0, Value.int .u8 0, Value.int .u8 0, Value.int .u8 0, Value.int .u8 0, Value.int .u8 0, Value.int .u8 0, Value.int .u8 0, Value.int .u8 0, Value.int .u8 0, Value.int .u8 0, Value.int .u8 0, Value.int .u8 0, Value.int .u8 0, Value.int .u8 0, Value.int .u8 0, Value.int .u8 0, Value.int .u8 0, Value.int .u8 0, Value.int .u8 0, Value.int .u8 0, Value.int .u8 0, Value.int .u8 0, Value.int .u8 0, Value.int .u8 0, Value.int .u8 0, Value.int .u8 0, Value.int .u8 0, Value.int .u8 0, Value.int .u8 0, Value.int .u8 0, Value.int .u8 0, Value.int .u8 0, Value.int .u8 0, Value.int .u8 0, Value.int .u8 0, Value.int .u8 0, Value.int .u8 0, Value.int .u8 0, Value.int .u8 0, Value.int .u8 0, Value.int .u8 0, Value.int .u8 0, Value.int .u8 0, Value.int .u8 0, Value.int .u8 0, Value.int .u8 0, Value.int .u8 0, Value.int .i64 0, Value.int .u64 0, Value.int .i64 0] = hc (fun _ => 0) (fun _ => 0) 0 0 0 := by kernel_rfl
/-- Which hash: how many bits, where it begins, how many bytes. -/
structure Kd (bits : Int) (iv : Nat → Nat) (z : Nat) : Prop where
  is : (bits = 224 ∧ iv = iv224 ∧ z = 28) ∨ (bits = 256 ∧ iv = iv256 ∧ z = 32)
theorem Kd.lt {bits : Int} {iv : Nat → Nat} {z : Nat} (h : Kd bits iv z) (i : Nat) : iv i < 4294967296 := by
  rcases h.is with ⟨_, rfl, _⟩ | ⟨_, rfl, _⟩
  · exact iv224_lt i
  · exact iv256_lt i
theorem Kd.le {bits : Int} {iv : Nat → Nat} {z : Nat} (h : Kd bits iv z) : z ≤ 32 := by
  rcases h.is with ⟨_, _, rfl⟩ | ⟨_, _, rfl⟩ <;> decide
attribute [local go_sem ↓] ldS_is stS_is bdS_is bdH_is
attribute [local go_sem] bdS224 bdS256 bdS0 bdH wz8_zero
theorem stN (w : World) (f : Nat → Nat) : (storeS 81 (.pointer (some ⟨w.heap.size, 0, none⟩)) (.agg (wz 8 f))).run Tryd.prog (w.alloc (.cells (wz 8 fun _ => 0) 81)) = .ok () (setBlk (w.alloc (.cells (wz 8 fun _ => 0) 81)) w.heap.size (wz 8 f)) :=
  storeS_part (P := Tryd.prog) (ty := 81) 8 (by kernel_rfl) (Bk.new w _ _) (wz_size _ _) (wz_size 8 f) (by decide) (wz_one _ _)
attribute [local go_sem] stN
set_option maxRecDepth 100000 in
set_option maxHeartbeats 1600000 in
theorem beginning_any (bits : Int) (iv : Nat → Nat) (z : Nat) (hk : Kd bits iv z) (w : World) :
    Calls Tryd.prog 52 #[.int .i64 bits] w fun e w' => e = .returned (.tuple #[.agg (wz 8 iv), .bool true]) ∧ Sm w w' := by
  rcases hk.is with ⟨rfl, rfl, _⟩ | ⟨rfl, rfl, _⟩
  all_goals
    go_enter Tryd.func52, Tryd.ntmps52
    go_wp2
    exact bodyPost_ret (res_two Tryd.results52 (rd_row 8 Tryd.underlying81 rfl (by kernel_rfl) (by rfl) ((Bk.new w _ _).put _) (wz_size _ _)) (rd_tmp (by rfl))) rfl ⟨rfl, Sm.of (((Kp.refl _ _).alloc _).put _ _ (Nat.le_refl _))⟩
set_option maxRecDepth 100000 in
set_option maxHeartbeats 1600000 in
theorem beginning_no (bits : Int) (h1 : bits ≠ 224) (h2 : bits ≠ 256) (w : World) :
    Calls Tryd.prog 52 #[.int .i64 bits] w fun e w' => e = .returned (.tuple #[.agg (wz 8 fun _ => 0), .bool false]) ∧ Sm w w' := by
  have e1 : (bits == 224) = false := by simpa using h1
  have e2 : (bits == 256) = false := by simpa using h2
  clear h1 h2
  go_enter Tryd.func52, Tryd.ntmps52
  go_wp2
  exact bodyPost_ret (res_two Tryd.results52 (rd_row 8 Tryd.underlying81 rfl (by kernel_rfl) (by rfl) ((Bk.new w _ _).put _) (wz_size _ _)) (rd_tmp (by rfl))) rfl ⟨rfl, Sm.of (((Kp.refl _ _).alloc _).put _ _ (Nat.le_refl _))⟩
end Go.Proofs.YtledggjbijoijaaDoor
