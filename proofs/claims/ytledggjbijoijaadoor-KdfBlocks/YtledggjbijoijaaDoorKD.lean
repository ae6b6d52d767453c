/-
  The documents' Kdf; the statements' awake.
-/
import Derived.Test.YtledggjbijoijaaDoorKC
namespace Go.Proofs.YtledggjbijoijaaDoor
open Go.RowKit
/-- How long a text is. -/
def szK (v : Value) : Nat := match v with
  | .string s => s.size
  | _ => 0
attribute [local go_sem ↓] cvS_is
set_option maxRecDepth 100000 in
set_option maxHeartbeats 1600000 in
theorem rkdf_ok (id kk : Int) (z : Nat) (h : Hi id (z : Int) kk) (Z I : ByteArray) (hs : Z.size + I.size + 4 ≤ 140737488351232) (n : Nat) (hn : n ≤ 1024) (w : World) :
    Calls Tryd.prog 8 #[.int .i64 id, .string Z, .string I, .int .i64 (n : Int)] w fun e w' => e = .returned (.tuple #[.string (kd (kb id Z I) z n), .int .i64 0]) ∧ Sm w w' := by
  have hz := h.z64
  have hz0 := h.z28
  have C0 : Hid (∀ w, Calls Tryd.prog 18 #[.int .i64 id] w fun e w' => e = .returned (.int .i64 (z : Int)) ∧ w = w') := rsizeA_any id z kk h
  have C1 : Hid (∀ (i : Nat) w, Calls Tryd.prog 19 #[.int .i64 id, .string ((four (i + 1) ++ Z) ++ I)] w fun e w' => e = .returned (.string (kb id Z I (i + 1))) ∧ Sm w w') := fun i w => rofA_any id z kk h _ (by rw [ByteArray.size_append, ByteArray.size_append, four_size]; omega) w
  have HI : Hid (∀ i, (kb id Z I i).size = z) := kb_size h Z I
  have HS : Hid (∀ i, (jn (kb id Z I) i).size = i * z) := jn_size _ z (kb_size h Z I)
  have HG : Hid (∀ i, n ≤ i * z → (i = 0 ∨ (i - 1) * z < n) → kd (kb id Z I) z n = (jn (kb id Z I) i).extract 0 n) := fun i h1 h2 => kd_is _ z n i (by omega) h1 h2
  have HZ : Hid (28 ≤ z ∧ z ≤ 64 ∧ n ≤ 1024) := show 28 ≤ z ∧ z ≤ 64 ∧ n ≤ 1024 by omega
  have n0 : ¬ (n : Int) < 0 := by omega
  have n1 : ¬ (1024 : Int) < (n : Int) := by omega
  have n2 : (n : Int) ≤ 1024 := by omega
  have e1 : ((z : Int) == 0) = false := by simp; omega
  generalize kd (kb id Z I) z n = GT at *
  generalize hvi : kb id Z I = f at *
  generalize hvs : jn f = g at *
  have HF : Hid (g 0 = .empty ∧ ∀ i, g (i + 1) = g i ++ f (i + 1)) := show g 0 = .empty ∧ ∀ i, g (i + 1) = g i ++ f (i + 1) from by
    subst hvs
    exact ⟨rfl, fun _ => rfl⟩
  have HZI : Hid (∀ i, ((four i).size : Int) + (Z.size : Int) ≤ 140737488351232 ∧ (((four i ++ Z).size : Nat) : Int) + (I.size : Int) ≤ 140737488351232) := fun i => by
    rw [ByteArray.size_append, four_size]
    omega
  clear h hz hz0 hs hn hvi hvs
  go_enter Tryd.func8, Tryd.ntmps8
  go_wp2_with (go_at_call 18; refine (C0.out _).mono ?_; rintro e w' ⟨rfl, rfl⟩)
  go_loopw [10, 11] (fun x y u => ∃ i : Nat, x = .string (g i) ∧ y = .int .i64 ((i : Int) + 1) ∧ (i = 0 ∨ (i - 1) * z < n) ∧ Sm w u) (fun x _ _ => n - szK x)
  case atStart =>
    obtain ⟨e2, _⟩ := HF.out
    exact ⟨0, by rw [e2]; rfl, by rfl, Or.inl rfl, Sm.refl _⟩
  case round =>
    obtain ⟨i, rfl, rfl, hi, S0⟩ := hrel
    have hgs := HS.out i
    by_cases c : i * z < n
    · have hfs := HI.out (i + 1)
      have HZ2 := HZ.out
      have hi36 : i ≤ 36 := by
        have := Nat.mul_le_mul_left i HZ2.1
        omega
      have HN : Hid (Unit → g (i + 1) = g i ++ f (i + 1)) := fun _ => HF.out.2 i
      have HR : Hid (i + 1 = 0 ∨ (i + 1 - 1) * z < n) := Or.inr c
      have hTn : ((g i).size : Int) < (n : Int) := by omega
      have hA : ((g i).size : Int) + ((f (i + 1)).size : Int) ≤ 2000 := by omega
      have HM : Hid (szK (.string (g (i + 1))) = (g i).size + z ∧ szK (.string (g i)) = (g i).size ∧ (g i).size < n ∧ 0 < z) := show _ ∧ _ ∧ _ ∧ _ from ⟨by rw [HF.out.2 i]; show (g i ++ f (i + 1)).size = _; rw [ByteArray.size_append, hfs], rfl, by omega, by omega⟩
      have q1 : ((i : Int) + 1) / 256 = 0 := by omega
      have q2 : ((i : Int) + 1) % 256 = (i : Int) + 1 := by omega
      have q3 : Int.tdiv ((i : Int) + 1) 256 = 0 := by rw [Int.tdiv_eq_ediv_of_nonneg (by omega)]; exact q1
      have q4 : Int.tmod ((i : Int) + 1) 256 = (i : Int) + 1 := by rw [Int.tmod_eq_emod_of_nonneg (by omega)]; exact q2
      have i0 : (0 : Int) ≤ (i : Int) := by omega
      have i1 : (i : Int) ≤ 36 := by omega
      have cv : ∀ c, (cvS (.slice (some ⟨wr.heap.size, 0, none⟩) 4 c)).run Tryd.prog (wr.alloc (.cells #[.int .u8 0, .int .u8 0, .int .u8 0, .int .u8 ((i : Int) + 1)] 5)) = .ok (.string (four (i + 1))) (wr.alloc (.cells #[.int .u8 0, .int .u8 0, .int .u8 0, .int .u8 ((i : Int) + 1)] 5)) := fun c => cv4_is wr c (i + 1)
      obtain ⟨z1, z2⟩ := HZI.out (i + 1)
      have C2 := C1.out i
      have C2 : Hid (∀ w, Calls Tryd.prog 19 #[.int .i64 id, .string ((four (i + 1) ++ Z) ++ I)] w fun e w' => e = .returned (.string (f (i + 1))) ∧ Sm w w') := C1.out i
      generalize four (i + 1) = F at *
      clear HZ2 hfs hi36 hi hgs c C1 HZI HG HI HS HF HZ
      go_wp2_with (go_at_call 19; refine (C2.out _).mono ?_; rintro e u1 ⟨rfl, S1⟩)
      go_roundw
      case rel => exact ⟨i + 1, by rw [HN.out ()], by go_num, HR.out, (S0.alloc _).trans S1⟩
      case measure =>
        rw [← HN.out ()]
        obtain ⟨m1, m2, m3, m4⟩ := HM.out
        omega
    · have HQ := HG.out i (by omega) hi
      have HQ' : Hid (GT = (g i).extract 0 n) := HQ
      have hl1 : ¬ ((g i).size : Int) < (n : Int) := by omega
      have hl2 : (n : Int) ≤ ((g i).size : Int) := by omega
      clear HQ hgs c hi
      go_wp2_with fail
      go_ret2
      exact ⟨by rw [HQ'.out]; rfl, S0⟩
set_option maxRecDepth 100000 in
set_option maxHeartbeats 800000 in
theorem rkdf_no (id n : Int) (Z I : ByteArray) (h : id ≤ 0 ∨ 5 ≤ id) (w : World) :
    Calls Tryd.prog 8 #[.int .i64 id, .string Z, .string I, .int .i64 n] w fun e w' => e = .returned (.tuple #[.string .empty, .int .i64 1200]) ∧ w = w' := by
  have C0 : Hid (∀ w, Calls Tryd.prog 18 #[.int .i64 id] w fun e w' => e = .returned (.int .i64 0) ∧ w = w') := rsize_no id h
  clear h
  go_enter Tryd.func8, Tryd.ntmps8
  go_wp2_with (go_at_call 18; refine (C0.out _).mono ?_; rintro e w' ⟨rfl, rfl⟩)
  go_ret2
  exact ⟨rfl, rfl⟩
set_option maxRecDepth 100000 in
set_option maxHeartbeats 800000 in
theorem rkdf_bad (id z k n : Int) (Z I : ByteArray) (h : Hi id z k) (hn : n < 0 ∨ 1024 < n) (w : World) :
    Calls Tryd.prog 8 #[.int .i64 id, .string Z, .string I, .int .i64 n] w fun e w' => e = .returned (.tuple #[.string .empty, .int .i64 1201]) ∧ w = w' := by
  have C0 : Hid (∀ w, Calls Tryd.prog 18 #[.int .i64 id] w fun e w' => e = .returned (.int .i64 z) ∧ w = w') := rsizeA_any id z k h
  have hz := h.z28
  have e1 : (z == 0) = false := by simp; omega
  clear h hz
  rcases hn with n0 | n1
  · go_enter Tryd.func8, Tryd.ntmps8
    go_wp2_with (go_at_call 18; refine (C0.out _).mono ?_; rintro e w' ⟨rfl, rfl⟩)
    go_ret2
    exact ⟨rfl, rfl⟩
  · have n0 : ¬ n < 0 := by omega
    go_enter Tryd.func8, Tryd.ntmps8
    go_wp2_with (go_at_call 18; refine (C0.out _).mono ?_; rintro e w' ⟨rfl, rfl⟩)
    go_ret2
    exact ⟨rfl, rfl⟩
set_option maxRecDepth 100000 in
set_option maxHeartbeats 1600000 in
theorem awake12_any (w : World) (hK : KK w) : Calls Tryd.prog 10 #[] w fun e w' => e = .returned (.bool true) ∧ Sm w w' := by
  obtain ⟨A, hA⟩ : ∃ A, kd (kb 2 ⟨#[122]⟩ ⟨#[105]⟩) 32 50 = A := ⟨_, rfl⟩
  have C1 : Hid (∀ w, KK w → Calls Tryd.prog 7 #[.int .i64 2, .string ⟨#[122]⟩, .string ⟨#[105]⟩, .int .i64 50] w fun e w' => e = .returned (.tuple #[.string A, .int .i64 0]) ∧ Sm w w') := fun w h => hA ▸ kof_ok 2 64 32 hi2 ⟨#[122]⟩ ⟨#[105]⟩ (by decide) 50 (by decide) w h
  have C2 : Hid (∀ w, Calls Tryd.prog 8 #[.int .i64 2, .string ⟨#[122]⟩, .string ⟨#[105]⟩, .int .i64 50] w fun e w' => e = .returned (.tuple #[.string A, .int .i64 0]) ∧ Sm w w') := fun w => hA ▸ rkdf_ok 2 64 32 hi2 ⟨#[122]⟩ ⟨#[105]⟩ (by decide) 50 (by decide) w
  have C3 : Hid (∀ w, Calls Tryd.prog 7 #[.int .i64 2, .string ⟨#[122]⟩, .string ⟨#[105]⟩, .int .i64 1025] w fun e w' => e = .returned (.tuple #[.string .empty, .int .i64 1201]) ∧ Sm w w') := fun w => kof_bad 2 _ _ 1025 _ _ hi2 (by decide) w
  have C4 : Hid (∀ w, Calls Tryd.prog 7 #[.int .i64 0, .string ⟨#[122]⟩, .string ⟨#[105]⟩, .int .i64 5] w fun e w' => e = .returned (.tuple #[.string .empty, .int .i64 1200]) ∧ Sm w w') := fun w => kof_no 0 5 _ _ (by decide) w
  have CN : Hid (∀ x w, Calls Tryd.prog 9 #[.int .i64 x] w fun e w' => e = .returned (.int .i64 x) ∧ w = w') := num7_any
  have HK : Hid (KK w) := hK
  clear hA hK
  go_enter Tryd.func10, Tryd.ntmps10
  go_wp2_with (first
    | (go_at_call_of 7 (Value.int IntKind.i64 50); refine (C1.out _ HK.out).mono ?_; rintro e w1 ⟨rfl, S1⟩)
    | (go_at_call 8; refine (C2.out _).mono ?_; rintro e w2 ⟨rfl, S2⟩)
    | (go_at_call_of 7 (Value.int IntKind.i64 1025); refine (C3.out _).mono ?_; rintro e w3 ⟨rfl, S3⟩)
    | (go_at_call_of 7 (Value.int IntKind.i64 5); refine (C4.out _).mono ?_; rintro e w4 ⟨rfl, S4⟩)
    | (go_at_call 9; refine (CN.out _ _).mono ?_; rintro e w' ⟨rfl, rfl⟩))
  go_ret
  exact ⟨rfl, ((S1.trans S2).trans S3).trans S4⟩
end Go.Proofs.YtledggjbijoijaaDoor
