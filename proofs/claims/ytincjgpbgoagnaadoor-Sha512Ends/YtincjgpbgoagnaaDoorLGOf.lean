/-
  The statement Sha512Of, walked: it answers true for every number of bits and every text.
-/
import Derived.Test.YtincjgpbgoagnaaDoorGW
namespace Go.Proofs.YtincjgpbgoagnaaDoor.L8
open Go.RowKit
theorem kd_or (bits : Int) : (bits ≠ 384 ∧ bits ≠ 512 ∧ idN bits = 0) ∨ ∃ iv z, Kd bits iv z ∧ Kr (idN bits) iv z ∧ idN bits ≠ 0 := by
  by_cases h1 : bits = 384
  · subst h1
    exact Or.inr ⟨_, _, kd384, kr384, by decide⟩
  · by_cases h2 : bits = 512
    · subst h2
      exact Or.inr ⟨_, _, kd512, kr512, by decide⟩
    · exact Or.inl ⟨h1, h2, by unfold idN; rw [if_neg h1, if_neg h2]⟩
set_option maxRecDepth 100000 in
set_option maxHeartbeats 1600000 in
theorem lgof_any (bits : Int) (s : ByteArray) (hs : s.size ≤ 140737488351232) (w : World) (hK : Kk w) :
    Calls Tryd.prog 3 #[.int .i64 bits, .string s] w fun e w' => e = .returned (.bool true) ∧ Sm w w' := by
  have CN : Hid (∀ x w, Calls Tryd.prog 10 #[.int .i64 x] w fun e w' => e = .returned (.int .i64 x) ∧ w = w') := num8_any
  have CA : Hid (∀ w, Kk w → Calls Tryd.prog 11 #[] w fun e w' => e = .returned (.bool true) ∧ Sm w w') := awake8_any
  have CI := fun w => id8_any bits w
  have HK : Hid (Kk w) := hK
  rcases kd_or bits with ⟨h1, h2, h3⟩ | ⟨iv, z, h1, h2, h3⟩
  · rw [h3] at CI
    have CI' : Hid (∀ w, Calls Tryd.prog 9 #[.int .i64 bits] w fun e w' => e = .returned (.int .i64 0) ∧ w = w') := CI
    have C1 : Hid (∀ w, Calls Tryd.prog 8 #[.int .i64 bits, .string s] w fun e w' => e = .returned (.tuple #[.string .empty, .int .i64 800]) ∧ Sm w w') := fun w => Of_no bits s h1 h2 w
    clear h1 h2 h3 CI hs hK
    go_enter Tryd.func3, Tryd.ntmps3
    go_wp2_with (first
      | (go_at_call 8; refine (C1.out _).mono ?_; rintro e w1 ⟨rfl, S1⟩)
      | (go_at_call 9; refine (CI'.out _).mono ?_; rintro e w' ⟨rfl, rfl⟩)
      | (go_at_call 10; refine (CN.out _ _).mono ?_; rintro e w' ⟨rfl, rfl⟩)
      | (go_at_call 11; refine (CA.out _ (HK.out.sm S1)).mono ?_; rintro e w2 ⟨rfl, S2⟩))
    go_ret
    exact ⟨rfl, S1.trans S2⟩
  · obtain ⟨A, hA⟩ : ∃ A, sha iv z s = A := ⟨_, rfl⟩
    have C1 : Hid (∀ w, Kk w → Calls Tryd.prog 8 #[.int .i64 bits, .string s] w fun e w' => e = .returned (.tuple #[.string A, .int .i64 0]) ∧ Sm w w') := fun w h => hA ▸ Of_any bits iv z s h1 (by omega) w h
    have C2 : Hid (∀ w, Calls Tryd.prog 12 #[.int .i64 (idN bits), .string s] w fun e w' => e = .returned (.string A) ∧ Sm w w') := fun w => hA ▸ rof_any (idN bits) iv z h2 s hs w
    generalize idN bits = d at *
    have CI' : Hid (∀ w, Calls Tryd.prog 9 #[.int .i64 bits] w fun e w' => e = .returned (.int .i64 d) ∧ w = w') := CI
    have d0 : (d == 0) = false := by simpa using h3
    clear h1 h2 h3 CI hs hK hA
    go_enter Tryd.func3, Tryd.ntmps3
    go_wp2_with (first
      | (go_at_call 8; refine (C1.out _ HK.out).mono ?_; rintro e w1 ⟨rfl, S1⟩)
      | (go_at_call 9; refine (CI'.out _).mono ?_; rintro e w' ⟨rfl, rfl⟩)
      | (go_at_call 10; refine (CN.out _ _).mono ?_; rintro e w' ⟨rfl, rfl⟩)
      | (go_at_call 12; refine (C2.out _).mono ?_; rintro e w2 ⟨rfl, S2⟩)
      | (go_at_call 11; refine (CA.out _ ((HK.out.sm S1).sm S2)).mono ?_; rintro e w3 ⟨rfl, S3⟩))
    go_ret
    exact ⟨rfl, (S1.trans S2).trans S3⟩
end Go.Proofs.YtincjgpbgoagnaaDoor.L8
