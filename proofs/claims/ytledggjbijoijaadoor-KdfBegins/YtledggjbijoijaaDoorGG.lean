/-
  sha512's text and beginning: a state as bytes, where a hash begins.
-/
import Derived.Test.YtledggjbijoijaaDoorGF
import Derived.Test.YtledggjbijoijaaDoorHG
namespace Go.Proofs.YtledggjbijoijaaDoor.L8
open Go.RowKit
attribute [local go_sem ↓] mkS_is cvS_is
theorem dg8_at (f : Nat → Nat) (k j : Nat) (hj : j < 8) : dg8 f (8 * k + j) = f k / 2 ^ (56 - 8 * j) % 256 := by
  unfold dg8
  rw [show (8 * k + j) / 8 = k by omega, show 8 * (7 - (8 * k + j) % 8) = 56 - 8 * j by omega]
set_option maxRecDepth 100000 in
set_option maxHeartbeats 1600000 in
theorem text_any (b : Nat) (f : Nat → Nat) (w : World) (hc : ∀ i, i < 8 → w.cell? ⟨b, i, none⟩ = some (.int .u64 ((f i : Nat) : Int))) (hb : b < w.heap.size) :
    Calls Tryd.prog 64 #[.pointer (some ⟨b, 0, none⟩)] w fun e w' => e = .returned (.string (bt (dg8 f) 64)) ∧ Sm w w' := by
  have CA : Hid (∀ w' g cap k, k < 8 → w.heap.size ≤ w'.heap.size → w.heap.size ≤ g → Rb w' g (8 * k) cap (dg8 f) → Calls Tryd.prog 70 #[.slice (some ⟨g, 0, none⟩) (8 * k) cap, .int .u64 ((f k : Nat) : Int)] w' fun e w'' => ∃ g' cap', e = .returned (.slice (some ⟨g', 0, none⟩) (8 * k + 8) cap') ∧ w.heap.size ≤ g' ∧ Rb w'' g' (8 * k + 8) cap' (dg8 f) ∧ Kp (Fr w.heap.size) w' w'') := fun w' g cap k hk h1 h2 h3 =>
    appendWord_any w.heap.size g (8 * k) cap (dg8 f) (f k) (fun j hj => dg8_at f k j hj) (by omega) w' h1 h2 h3
  have mk := mkR_run w .i64 .i64 0 64 (by decide) (by decide)
  have mk : (mkS (.int .i64 0) (.int .i64 64)).run Tryd.prog w = .ok (.slice (some ⟨w.heap.size, 0, none⟩) 0 64) (w.alloc (.cells (br 64 fun _ => 0) 5)) := mk
  go_enter Tryd.func64, Tryd.ntmps64
  go_wp2
  have h1 : Rb (w.alloc (Obj.cells (br 64 fun _ => 0) 5)) w.heap.size 0 64 (dg8 f) := rb_new w 0 64 _ _ (by decide) fun i hi => by omega
  have HK : Kp (Fr w.heap.size) w (w.alloc (Obj.cells (br 64 fun _ => 0) 5)) := (Kp.refl _ _).alloc _
  generalize w.alloc (Obj.cells (br 64 fun _ => 0) 5) = v at *
  clear mk
  go_loopw [3, 8] (fun x i u => ∃ k g cap : Nat, k ≤ 8 ∧ i = .int .i64 (k : Int) ∧ x = .slice (some ⟨g, 0, none⟩) (8 * k) cap ∧ w.heap.size ≤ g ∧ Rb u g (8 * k) cap (dg8 f) ∧ Kp (Fr w.heap.size) w u) (fun _ i _ => 8 - (intOf i).toNat)
  case atStart => exact ⟨0, w.heap.size, 64, by omega, rfl, rfl, Nat.le_refl _, h1, HK⟩
  case round =>
    clear h1 HK
    obtain ⟨k, g, cap, hk, rfl, rfl, hg, h1, HK⟩ := hrel
    by_cases hlt : k < 8
    · have k0 : (0 : Int) ≤ (k : Int) := by omega
      have k1 : (k : Int) < 8 := by omega
      have c1 := (HK.cell b k hb (fun e => by have : w.heap.size ≤ b := e; omega)).trans (hc k hlt)
      have hsz := HK.size
      go_wp2_with (go_at_call 70; refine (CA.out _ g cap k hlt hsz hg h1).mono ?_; rintro e u1 ⟨g1, cap1, rfl, hg1, HR1, K1⟩)
      go_roundw
      case rel => exact ⟨k + 1, g1, cap1, by omega, by go_num, by rw [show 8 * (k + 1) = 8 * k + 8 by omega], hg1, by rw [show 8 * (k + 1) = 8 * k + 8 by omega]; exact HR1, HK.trans K1⟩
      case measure => simp [intOf]; omega
    · have ki : ¬ (k : Int) < 8 := by omega
      have h64 : 8 * k = 64 := by omega
      rw [h64] at h1 ⊢
      have cv := fun c => cvS_run _ g 0 64 c (dg8 f) fun i hi => by rw [Nat.zero_add]; exact h1.cell i hi
      clear hlt hk h64
      go_wp2
      go_ret
      exact ⟨rfl, Sm.of HK⟩

/-! ### New -/
theorem bdS_is (p : Array (Nat × Value)) : Instr.build 92 p = buildS 92 p := rfl
theorem bdH_is (p : Array (Nat × Value)) : Instr.build 96 p = buildS 96 p := rfl
theorem bdS384 (w : World) : (buildS 92 #[(0, .int .u64 14680500436340154072), (1, .int .u64 7105036623409894663), (2, .int .u64 10473403895298186519), (3, .int .u64 1526699215303891257), (4, .int .u64 7436329637833083697), (5, .int .u64 10282925794625328401), (6, .int .u64 15784041429090275239), (7, .int .u64 5167115440072839076)]).run Tryd.prog w = .ok (.agg (wz 8 iv384)) w := by kernel_rfl
theorem bdS512 (w : World) : (buildS 92 #[(0, .int .u64 7640891576956012808), (1, .int .u64 13503953896175478587), (2, .int .u64 4354685564936845355), (3, .int .u64 11912009170470909681), (4, .int .u64 5840696475078001361), (5, .int .u64 11170449401992604703), (6, .int .u64 2270897969802886507), (7, .int .u64 6620516959819538809)]).run Tryd.prog w = .ok (.agg (wz 8 iv512)) w := by kernel_rfl
theorem bdS0 (w : World) : (buildS 92 #[]).run Tryd.prog w = .ok (.agg (wz 8 fun _ => 0)) w := by kernel_rfl
theorem bdH (f : Nat → Nat) (z : Int) (w : World) : (buildS 96 #[(0, .agg (wz 8 f)), (4, .int .i64 z)]).run Tryd.prog w = .ok (.agg (hc f (fun _ => 0) 0 0 z)) w := by kernel_rfl
theorem wz8_zero : #[Value.int .u64 0, Value.int .u64 0, Value.int .u64 0, Value.int .u64 0, Value.int .u64 0, Value.int .u64 0, Value.int .u64 0, Value.int .u64 0] = wz 8 fun _ => 0 := by unfold wz; rfl
/-- Which hash: how many bits, where it begins, how many bytes. -/
structure Kd (bits : Int) (iv : Nat → Nat) (z : Nat) : Prop where
  is : (bits = 384 ∧ iv = iv384 ∧ z = 48) ∨ (bits = 512 ∧ iv = iv512 ∧ z = 64)
theorem Kd.lt {bits : Int} {iv : Nat → Nat} {z : Nat} (h : Kd bits iv z) (i : Nat) : iv i < 18446744073709551616 := by
  rcases h.is with ⟨_, rfl, _⟩ | ⟨_, rfl, _⟩
  · exact iv384_lt i
  · exact iv512_lt i
theorem Kd.le {bits : Int} {iv : Nat → Nat} {z : Nat} (h : Kd bits iv z) : z ≤ 64 := by
  rcases h.is with ⟨_, _, rfl⟩ | ⟨_, _, rfl⟩ <;> decide
attribute [local go_sem ↓] ldS_is stS_is bdS_is bdH_is
attribute [local go_sem] bdS384 bdS512 bdS0 bdH wz8_zero
theorem stN (w : World) (f : Nat → Nat) : (storeS 92 (.pointer (some ⟨w.heap.size, 0, none⟩)) (.agg (wz 8 f))).run Tryd.prog (w.alloc (.cells (wz 8 fun _ => 0) 92)) = .ok () (setBlk (w.alloc (.cells (wz 8 fun _ => 0) 92)) w.heap.size (wz 8 f)) :=
  storeS_part (P := Tryd.prog) (ty := 92) 8 (by kernel_rfl) (Bk.new w _ _) (wz_size _ _) (wz_size 8 f) (by decide) (wz_one _ _)
attribute [local go_sem] stN
set_option maxRecDepth 100000 in
set_option maxHeartbeats 1600000 in
theorem beginning_any (bits : Int) (iv : Nat → Nat) (z : Nat) (hk : Kd bits iv z) (w : World) :
    Calls Tryd.prog 60 #[.int .i64 bits] w fun e w' => e = .returned (.tuple #[.agg (wz 8 iv), .bool true]) ∧ Sm w w' := by
  rcases hk.is with ⟨rfl, rfl, _⟩ | ⟨rfl, rfl, _⟩
  all_goals
    go_enter Tryd.func60, Tryd.ntmps60
    go_wp2
    exact bodyPost_ret (res_two Tryd.results60 (rd_row 8 Tryd.underlying92 rfl (by kernel_rfl) (by rfl) ((Bk.new w _ _).put _) (wz_size _ _)) (rd_tmp (by rfl))) rfl ⟨rfl, Sm.of (((Kp.refl _ _).alloc _).put _ _ (Nat.le_refl _))⟩
set_option maxRecDepth 100000 in
set_option maxHeartbeats 1600000 in
theorem beginning_no (bits : Int) (h1 : bits ≠ 384) (h2 : bits ≠ 512) (w : World) :
    Calls Tryd.prog 60 #[.int .i64 bits] w fun e w' => e = .returned (.tuple #[.agg (wz 8 fun _ => 0), .bool false]) ∧ Sm w w' := by
  have e1 : (bits == 384) = false := by simpa using h1
  have e2 : (bits == 512) = false := by simpa using h2
  clear h1 h2
  go_enter Tryd.func60, Tryd.ntmps60
  go_wp2
  exact bodyPost_ret (res_two Tryd.results60 (rd_row 8 Tryd.underlying92 rfl (by kernel_rfl) (by rfl) ((Bk.new w _ _).put _) (wz_size _ _)) (rd_tmp (by rfl))) rfl ⟨rfl, Sm.of (((Kp.refl _ _).alloc _).put _ _ (Nat.le_refl _))⟩
end Go.Proofs.YtledggjbijoijaaDoor.L8
