/-
  The statement Kdfs, walked: it answers true for every two numbers and any two texts that are together not too long.
-/
import Derived.Test.YtledggjbijoijaaDoorKD
namespace Go.Proofs.YtledggjbijoijaaDoor
open Go.RowKit
set_option maxRecDepth 100000 in
set_option maxHeartbeats 1600000 in
theorem lkkdfs_one (i : Int) (Z I : ByteArray) (s e0 : Int) (A : ByteArray) (w : World) (hK : KK w)
    (D1 : ∀ w, KK w → Calls Tryd.prog 7 #[.int .i64 i, .string Z, .string I, .int .i64 s] w fun e w' => e = .returned (.tuple #[.string A, .int .i64 e0]) ∧ Sm w w')
    (D2 : ∀ w, Calls Tryd.prog 8 #[.int .i64 i, .string Z, .string I, .int .i64 s] w fun e w' => e = .returned (.tuple #[.string A, .int .i64 e0]) ∧ Sm w w') :
    Calls Tryd.prog 3 #[.int .i64 i, .string Z, .string I, .int .i64 s] w fun e w' => e = .returned (.bool true) ∧ Sm w w' := by
  have CN : Hid (∀ x w, Calls Tryd.prog 9 #[.int .i64 x] w fun e w' => e = .returned (.int .i64 x) ∧ w = w') := num7_any
  have CA : Hid (∀ w, KK w → Calls Tryd.prog 10 #[] w fun e w' => e = .returned (.bool true) ∧ Sm w w') := awake12_any
  have HK : Hid (KK w) := hK
  have C1 : Hid (∀ w, KK w → Calls Tryd.prog 7 #[.int .i64 i, .string Z, .string I, .int .i64 s] w fun e w' => e = .returned (.tuple #[.string A, .int .i64 e0]) ∧ Sm w w') := D1
  have C2 : Hid (∀ w, Calls Tryd.prog 8 #[.int .i64 i, .string Z, .string I, .int .i64 s] w fun e w' => e = .returned (.tuple #[.string A, .int .i64 e0]) ∧ Sm w w') := D2
  clear hK D1 D2
  go_enter Tryd.func3, Tryd.ntmps3
  go_wp2_with (first
    | (go_at_call 7; refine (C1.out _ HK.out).mono ?_; rintro e w1 ⟨rfl, S1⟩; have k1 := HK.out.sm S1)
    | (go_at_call 8; refine (C2.out _).mono ?_; rintro e w2 ⟨rfl, S2⟩; have k2 := k1.sm S2)
    | (go_at_call 10; refine (CA.out _ k2).mono ?_; rintro e w3 ⟨rfl, S3⟩)
    | (go_at_call 9; refine (CN.out _ _).mono ?_; rintro e w' ⟨rfl, rfl⟩))
  go_ret
  exact ⟨rfl, (S1.trans S2).trans S3⟩
theorem lkkdfs_any (i : Int) (Z I : ByteArray) (s : Int) (hs : Z.size + I.size + 4 ≤ 140737488351232) (w : World) (hK : KK w) :
    Calls Tryd.prog 3 #[.int .i64 i, .string Z, .string I, .int .i64 s] w fun e w' => e = .returned (.bool true) ∧ Sm w w' := by
  have sm_eq : ∀ {w w' : World}, w = w' → Sm w w' := fun h => h ▸ Sm.refl _
  rcases hi_or i with h | ⟨z, k, h⟩
  · exact lkkdfs_one i Z I s _ _ w hK (fun w _ => kof_no i s Z I h w) (fun w => (rkdf_no i s Z I h w).mono fun _ _ ⟨h1, h2⟩ => ⟨h1, sm_eq h2⟩)
  · by_cases c : s < 0 ∨ 1024 < s
    · exact lkkdfs_one i Z I s _ _ w hK (fun w _ => kof_bad i z k s Z I h c w) (fun w => (rkdf_bad i z k s Z I h c w).mono fun _ _ ⟨h1, h2⟩ => ⟨h1, sm_eq h2⟩)
    · obtain ⟨n, rfl⟩ := Int.eq_ofNat_of_zero_le (show 0 ≤ s by omega)
      have h28 := h.z28
      obtain ⟨z, rfl⟩ := Int.eq_ofNat_of_zero_le (show 0 ≤ z by omega)
      exact lkkdfs_one i Z I _ _ _ w hK (fun w hw => kof_ok i k z h Z I (by omega) n (by omega) w hw) (fun w => rkdf_ok i k z h Z I hs n (by omega) w)
end Go.Proofs.YtledggjbijoijaaDoor
