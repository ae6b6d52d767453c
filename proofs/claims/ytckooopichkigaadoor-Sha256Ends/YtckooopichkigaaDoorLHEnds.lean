/-
  The statement Sha256Ends, walked: it answers true for every int and bool.
-/
import Derived.Test.YtckooopichkigaaDoorLHCuts
namespace Go.Proofs.YtckooopichkigaaDoor
open Go.RowKit
attribute [local go_sem ↓] mkS_is cvS_is
set_option maxRecDepth 100000 in
set_option maxHeartbeats 1600000 in
theorem lhends_any (i : Int) (p : Bool) (w : World) (hK : Kk w) :
    Calls Tryd.prog 6 #[.int .i64 i, .bool p] w fun e w' => e = .returned (.bool true) ∧ Sm w w' := by
  obtain ⟨bits, iv, z, hk, hbits, hz⟩ : ∃ bits iv z, Kd bits iv z ∧ bits = (if p then 256 else 224) ∧ (8 : Int) * (z : Int) = bits := by
    cases p
    · exact ⟨224, _, _, kd224, rfl, rfl⟩
    · exact ⟨256, _, _, kd256, rfl, rfl⟩
  obtain ⟨k, hkm, hkn⟩ := and_255 i
  have CN : Hid (∀ x w, Calls Tryd.prog 10 #[.int .i64 x] w fun e w' => e = .returned (.int .i64 x) ∧ w = w') := num7_any
  have CA : Hid (∀ w, Kk w → Calls Tryd.prog 11 #[] w fun e w' => e = .returned (.bool true) ∧ Sm w w') := awake7_any
  have HK : Hid (Kk w) := hK
  obtain ⟨X, hX⟩ : ∃ X, sha iv z (nz k) = X := ⟨_, rfl⟩
  have hXs : X.size = z := by rw [← hX]; exact sha_size iv z _
  have C1 : Hid (∀ w, Kk w → Calls Tryd.prog 8 #[.int .i64 bits, .string (nz k)] w fun e w' => e = .returned (.tuple #[.string X, .int .i64 0]) ∧ Sm w w') := fun w h => hX ▸ Of_any bits iv z (nz k) hk (by rw [nz_size]; omega) w h
  have C2 : Hid (∀ w, Calls Tryd.prog 13 #[.int .i64 bits] w fun e w' => ∃ b, e = .returned (.tuple #[.pointer (some ⟨b, 0, none⟩), .int .i64 0]) ∧ w.heap.size ≤ b ∧ Hs w' b iv z .empty ∧ Sm w w') := fun w => New_any bits iv z hk w
  have C3 : Hid (∀ b j w, j < 256 → Kk w → b ≠ 0 → Hs w b iv z (nz j) → Calls Tryd.prog 14 #[.pointer (some ⟨b, 0, none⟩), .string ⟨#[0]⟩] w fun e w' => e = .returned (.int .i64 0) ∧ Kp (At1 b) w w' ∧ Hs w' b iv z (nz (j + 1))) := fun b j w hj h1 h2 h3 => by
    rw [← nz_succ]
    exact Write_any b iv z (nz j) ⟨#[0]⟩ hk.lt (by rw [nz_size]; show j + 1 < _; omega) w h1 h2 h3
  have C4 : Hid (∀ b w, Kk w → b ≠ 0 → Hs w b iv z (nz k) → Calls Tryd.prog 14 #[.pointer (some ⟨b, 0, none⟩), .string ⟨#[]⟩] w fun e w' => e = .returned (.int .i64 0) ∧ Kp (At1 b) w w' ∧ Hs w' b iv z (nz k)) := fun b w h1 h2 h3 => by
    have := Write_any b iv z (nz k) ⟨#[]⟩ hk.lt (by rw [nz_size]; show k + 0 < _; omega) w h1 h2 h3
    rw [show (⟨#[]⟩ : ByteArray) = ByteArray.empty from rfl, app_empty] at this
    exact this
  have C5 : Hid (∀ b w, Kk w → Hs w b iv z (nz k) → Calls Tryd.prog 15 #[.pointer (some ⟨b, 0, none⟩)] w fun e w' => e = .returned (.string X) ∧ Sm w w') := fun b w h1 h2 => hX ▸ Sum_any b iv z _ hk.lt hk.le (by rw [nz_size]; omega) w h1 h2
  have mk := fun w => mkS_run w .i64 .i64 k (by omega)
  have k1 : (k : Int) < 256 := by omega
  have cv := fun w c => cvS_run (World.alloc w (.cells (br k fun _ => 0) 5)) w.heap.size 0 k c (fun _ => 0) fun i hi => by rw [Nat.zero_add]; exact ((Bk.new w _ _).cell i).trans (br_get k _ i hi)
  have cv : ∀ w c, (cvS (.slice (some ⟨w.heap.size, 0, none⟩) k c)).run Tryd.prog (World.alloc w (.cells (br k fun _ => 0) 5)) = .ok (.string (nz k)) (World.alloc w (.cells (br k fun _ => 0) 5)) := cv
  clear hX hK hk
  cases p
  all_goals
    simp only [Bool.false_eq_true, if_false, if_true] at hbits
    subst hbits
    go_enter Tryd.func6, Tryd.ntmps6
    go_wp2_with (first
      | (go_at_call 11; refine (CA.out _ HK.out).mono ?_; rintro e w1 ⟨rfl, S1⟩; have x1 := (HK.out.sm S1).sm ((Sm.refl _).alloc (.cells (br k fun _ => 0) 5)))
      | (go_at_call 8; refine (C1.out _ x1).mono ?_; rintro e w2 ⟨rfl, S2⟩; have x2 := x1.sm S2)
      | (go_at_call 13; refine (C2.out _).mono ?_; rintro e w3 ⟨b, rfl, hb, H3, S3⟩; have x3 := x2.sm S3; have hb0 : b ≠ 0 := (by have := x2.lt; omega)))
    have S3' : Sm w w3 := ((S1.alloc _).trans S2).trans S3
    have hle : w.heap.size ≤ b := Nat.le_trans ((S1.alloc _).trans S2).size hb
    go_loopw [12] (fun y u => ∃ j : Nat, j ≤ k ∧ y = .int .i64 (j : Int) ∧ Hs u b iv z (nz j) ∧ Kp (Fr w.heap.size) w u) (fun y _ => k - (intOf y).toNat)
    case atStart => exact ⟨0, by omega, rfl, H3, S3'.kp _⟩
    case round =>
      clear x3 x1 x2 S1 S2 S3 S3' H3 mk cv
      obtain ⟨j, hj, rfl, H3, KU⟩ := hrel
      have x3 := HK.out.kp KU (fun e => by have : w.heap.size ≤ 0 := e; have := HK.out.lt; omega)
      by_cases hlt : j < k
      · have j1 : (j : Int) < (k : Int) := by omega
        go_wp2_with (go_at_call 14; refine (C3.out _ _ _ (by omega) x3 hb0 H3).mono ?_; rintro e w4 ⟨rfl, K4, H4⟩)
        go_roundw
        case rel => exact ⟨j + 1, by omega, by go_num, H4, KU.trans (K4.fr hle)⟩
        case measure => simp [intOf]; omega
      · have j1 : ¬ (j : Int) < (k : Int) := by omega
        obtain rfl : j = k := by omega
        go_wp2_with (first
          | (go_at_call 14; refine (C4.out _ _ x3 hb0 H3).mono ?_; rintro e w4 ⟨rfl, K4, H4⟩; have x4 := x3.kp K4 (fun e => hb0 (Eq.symm e)))
          | (go_at_call 15; refine (C5.out _ _ x4 H4).mono ?_; rintro e w5 ⟨rfl, S5⟩)
          | (go_at_call 10; refine (CN.out _ _).mono ?_; rintro e w' ⟨rfl, rfl⟩))
        go_ret
        exact ⟨rfl, Sm.of ((KU.trans (K4.fr hle)).trans (S5.kp _))⟩
end Go.Proofs.YtckooopichkigaaDoor
