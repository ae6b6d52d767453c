/-
  kdf's fourBytes, block, check.
-/
import Derived.Test.YtledggjbijoijaaDoorKA
namespace Go.Proofs.YtledggjbijoijaaDoor
open Go.RowKit
/-- Four bytes as a text. -/
theorem cv4 (w : World) (c a0 a1 a2 a3 : Nat) : (cvS (.slice (some ⟨w.heap.size, 0, none⟩) 4 c)).run Tryd.prog (w.alloc (.cells #[.int .u8 (a0 : Int), .int .u8 (a1 : Int), .int .u8 (a2 : Int), .int .u8 (a3 : Int)] 5)) = .ok (.string ⟨#[UInt8.ofNat a0, UInt8.ofNat a1, UInt8.ofNat a2, UInt8.ofNat a3]⟩) (w.alloc (.cells #[.int .u8 (a0 : Int), .int .u8 (a1 : Int), .int .u8 (a2 : Int), .int .u8 (a3 : Int)] 5)) := by
  refine cvS_run _ w.heap.size 0 4 c (fun i => if i = 0 then a0 else if i = 1 then a1 else if i = 2 then a2 else a3) fun i hi => ?_
  rw [Nat.zero_add, (Bk.new w _ _).cell]
  have : i = 0 ∨ i = 1 ∨ i = 2 ∨ i = 3 := by omega
  rcases this with rfl | rfl | rfl | rfl <;> rfl
theorem cv4_is (w : World) (c n : Nat) : (cvS (.slice (some ⟨w.heap.size, 0, none⟩) 4 c)).run Tryd.prog (w.alloc (.cells #[.int .u8 0, .int .u8 0, .int .u8 0, .int .u8 (n : Int)] 5)) = .ok (.string (four n)) (w.alloc (.cells #[.int .u8 0, .int .u8 0, .int .u8 0, .int .u8 (n : Int)] 5)) := cv4 w c 0 0 0 n
attribute [local go_sem ↓] cvS_is
set_option maxRecDepth 100000 in
set_option maxHeartbeats 800000 in
theorem kfour_any (n : Nat) (hn : n < 256) (w : World) : Calls Tryd.prog 24 #[.int .u32 (n : Int)] w fun e w' => e = .returned (.string (four n)) ∧ Sm w w' := by
  have n1 : (n : Int) < 256 := by omega
  have n0 : (0 : Int) ≤ (n : Int) := by omega
  have e1 : (n : Int) / 16777216 = 0 := by omega
  have e2 : (n : Int) / 65536 = 0 := by omega
  have e3 : (n : Int) / 256 = 0 := by omega
  have cv := fun c => cv4_is w c n
  clear hn
  go_enter Tryd.func24, Tryd.ntmps24
  go_wp2_with fail
  go_ret
  exact ⟨rfl, (Sm.refl w).alloc _⟩
set_option maxRecDepth 100000 in
set_option maxHeartbeats 800000 in
theorem kblock_any (id z k : Int) (h : Hi id z k) (n : Nat) (hn : n < 256) (Z I : ByteArray) (hs : Z.size + I.size < 2305843009213690000) (w : World) (hK : KK w) :
    Calls Tryd.prog 15 #[.int .i64 id, .int .u32 (n : Int), .string Z, .string I] w fun e w' => e = .returned (.string (kb id Z I n)) ∧ Sm w w' := by
  have HK : Hid (KK w) := hK
  have C1 : Hid (∀ w, Calls Tryd.prog 21 #[.int .i64 id] w fun e w' => ∃ g b, e = .returned (.tuple #[.pointer (some ⟨g, 0, none⟩), .int .i64 0]) ∧ w.heap.size ≤ g ∧ w.heap.size ≤ b ∧ St w' g b id .empty ∧ Sm w w') := hnew_any id z k h
  have C2 : Hid (∀ w, Calls Tryd.prog 24 #[.int .u32 (n : Int)] w fun e w' => e = .returned (.string (four n)) ∧ Sm w w') := kfour_any n hn
  have hf := four_size n
  have C3 : Hid (∀ g b w, KK w → Nc b → St w g b id .empty → Calls Tryd.prog 22 #[.pointer (some ⟨g, 0, none⟩), .string (four n)] w fun e w' => e = .returned (.int .i64 0) ∧ Kp (At1 b) w w' ∧ St w' g b id (four n)) := fun g b w h1 h2 h3 => by
    have := hwrite_any g b id .empty (four n) (by rw [hf]; decide) w h1 h2 h3
    rwa [app_nil] at this
  have C4 : Hid (∀ g b w, KK w → Nc b → St w g b id (four n) → Calls Tryd.prog 22 #[.pointer (some ⟨g, 0, none⟩), .string Z] w fun e w' => e = .returned (.int .i64 0) ∧ Kp (At1 b) w w' ∧ St w' g b id (four n ++ Z)) := fun g b w h1 h2 h3 => hwrite_any g b id (four n) Z (by omega) w h1 h2 h3
  have C5 : Hid (∀ g b w, KK w → Nc b → St w g b id (four n ++ Z) → Calls Tryd.prog 22 #[.pointer (some ⟨g, 0, none⟩), .string I] w fun e w' => e = .returned (.int .i64 0) ∧ Kp (At1 b) w w' ∧ St w' g b id ((four n ++ Z) ++ I)) := fun g b w h1 h2 h3 => hwrite_any g b id _ I (by rw [ByteArray.size_append]; omega) w h1 h2 h3
  have C6 : Hid (∀ g b w, KK w → St w g b id ((four n ++ Z) ++ I) → Calls Tryd.prog 23 #[.pointer (some ⟨g, 0, none⟩)] w fun e w' => e = .returned (.string (kb id Z I n)) ∧ Sm w w') := fun g b w h1 h2 => hsum_any g b id _ (by rw [ByteArray.size_append, ByteArray.size_append]; omega) w h1 h2
  generalize kb id Z I n = A at *
  generalize (four n ++ Z) ++ I = T3 at *
  generalize four n ++ Z = T2 at *
  generalize four n = T1 at *
  clear h hn hs hK hf
  go_enter Tryd.func15, Tryd.ntmps15
  go_wp2_with (first
    | (go_at_call 21; refine (C1.out _).mono ?_; rintro e w1 ⟨g, b, rfl, hg, hb, H1, S1⟩; have k1 := HK.out.sm S1; have hn := HK.out.nc hb)
    | (go_at_call 24; refine (C2.out _).mono ?_; rintro e w2 ⟨rfl, S2⟩; have k2 := k1.sm S2; have H2 := H1.sm S2)
    | (go_at_call 22; first
        | (refine (C5.out _ _ _ k4 hn H4).mono ?_; rintro e w5 ⟨rfl, K5, H5⟩; have k5 := k4.at1 K5 hn)
        | (refine (C4.out _ _ _ k3 hn H3).mono ?_; rintro e w4 ⟨rfl, K4, H4⟩; have k4 := k3.at1 K4 hn)
        | (refine (C3.out _ _ _ k2 hn H2).mono ?_; rintro e w3 ⟨rfl, K3, H3⟩; have k3 := k2.at1 K3 hn))
    | (go_at_call 23; refine (C6.out _ _ _ k5 H5).mono ?_; rintro e w6 ⟨rfl, S6⟩))
  go_ret
  exact ⟨rfl, Sm.of ((((((S1.trans S2).kp _).trans (K3.fr hb)).trans (K4.fr hb)).trans (K5.fr hb)).trans (S6.kp _))⟩
set_option maxRecDepth 100000 in
set_option maxHeartbeats 800000 in
theorem kcheck_ok (id k : Int) (z n : Nat) (h : Hi id (z : Int) k) (hn : n ≤ 1024) (w : World) : Calls Tryd.prog 13 #[.int .i64 id, .int .i64 (n : Int)] w fun e w' => e = .returned (.int .i64 0) ∧ Sm w w' := by
  have C1 : Hid (∀ w, Calls Tryd.prog 11 #[.int .i64 id] w fun e w' => e = .returned (.int .i64 (z : Int)) ∧ Sm w w') := hsize_any id z k h
  have hz := h.z28
  have e1 : ((z : Int) == 0) = false := by simp; omega
  have n0 : ¬ (n : Int) < 0 := by omega
  have n1 : ¬ (1024 : Int) < (n : Int) := by omega
  clear h hn hz
  go_enter Tryd.func13, Tryd.ntmps13
  go_wp2_with (go_at_call 11; refine (C1.out _).mono ?_; rintro e w1 ⟨rfl, S1⟩)
  go_ret
  exact ⟨rfl, S1⟩
set_option maxRecDepth 100000 in
set_option maxHeartbeats 800000 in
theorem kcheck_no (id n : Int) (h : id ≤ 0 ∨ 5 ≤ id) (w : World) : Calls Tryd.prog 13 #[.int .i64 id, .int .i64 n] w fun e w' => e = .returned (.int .i64 1200) ∧ Sm w w' := by
  have C1 : Hid (∀ w, Calls Tryd.prog 11 #[.int .i64 id] w fun e w' => e = .returned (.int .i64 0) ∧ Sm w w') := hsize_no id h
  clear h
  go_enter Tryd.func13, Tryd.ntmps13
  go_wp2_with (go_at_call 11; refine (C1.out _).mono ?_; rintro e w1 ⟨rfl, S1⟩)
  go_ret
  exact ⟨rfl, S1⟩
set_option maxRecDepth 100000 in
set_option maxHeartbeats 800000 in
theorem kcheck_bad (id z k n : Int) (h : Hi id z k) (hn : n < 0 ∨ 1024 < n) (w : World) : Calls Tryd.prog 13 #[.int .i64 id, .int .i64 n] w fun e w' => e = .returned (.int .i64 1201) ∧ Sm w w' := by
  have C1 : Hid (∀ w, Calls Tryd.prog 11 #[.int .i64 id] w fun e w' => e = .returned (.int .i64 z) ∧ Sm w w') := hsize_any id z k h
  have hz := h.z28
  have e1 : (z == 0) = false := by simp; omega
  clear h hz
  rcases hn with n0 | n1
  · go_enter Tryd.func13, Tryd.ntmps13
    go_wp2_with (go_at_call 11; refine (C1.out _).mono ?_; rintro e w1 ⟨rfl, S1⟩)
    go_ret
    exact ⟨rfl, S1⟩
  · have n0 : ¬ n < 0 := by omega
    go_enter Tryd.func13, Tryd.ntmps13
    go_wp2_with (go_at_call 11; refine (C1.out _).mono ?_; rintro e w1 ⟨rfl, S1⟩)
    go_ret
    exact ⟨rfl, S1⟩
end Go.Proofs.YtledggjbijoijaaDoor
