/-
  The statements' small functions of layer 8: Num, id, awake.
-/
import Derived.Test.YtincjgpbgoagnaaDoorRE8
import Derived.Test.YtincjgpbgoagnaaDoorGO
namespace Go.Proofs.YtincjgpbgoagnaaDoor.L8
open Go.RowKit
set_option maxRecDepth 100000 in
theorem num8_any (x : Int) (w : World) : Calls Tryd.prog 10 #[.int .i64 x] w fun e w' => e = .returned (.int .i64 x) ∧ w = w' := by
  go_enter Tryd.func10, Tryd.ntmps10
  go_wp2
  go_ret
  exact ⟨rfl, rfl⟩
/-- The documents' number of a hash of so many bits. -/
def idN (bits : Int) : Int := if bits = 384 then 3 else if bits = 512 then 4 else 0
set_option maxRecDepth 100000 in
theorem id8_any (bits : Int) (w : World) : Calls Tryd.prog 9 #[.int .i64 bits] w fun e w' => e = .returned (.int .i64 (idN bits)) ∧ w = w' := by
  by_cases h1 : bits = 384
  · subst h1
    go_enter Tryd.func9, Tryd.ntmps9
    go_wp2
    go_ret
    exact ⟨rfl, rfl⟩
  · by_cases h2 : bits = 512
    · subst h2
      go_enter Tryd.func9, Tryd.ntmps9
      go_wp2
      go_ret
      exact ⟨rfl, rfl⟩
    · have e1 : (bits == 384) = false := by simpa using h1
      have e2 : (bits == 512) = false := by simpa using h2
      have HE : Hid (idN bits = 0) := show idN bits = 0 by unfold idN; rw [if_neg h1, if_neg h2]
      clear h1 h2
      go_enter Tryd.func9, Tryd.ntmps9
      go_wp2
      go_ret
      exact ⟨by rw [HE.out]; rfl, rfl⟩
def abc : ByteArray := ⟨#[97, 98, 99]⟩
theorem kd384 : Kd 384 iv384 48 := ⟨Or.inl ⟨rfl, rfl, rfl⟩⟩
theorem kd512 : Kd 512 iv512 64 := ⟨Or.inr ⟨rfl, rfl, rfl⟩⟩
theorem kr384 : Kr 3 iv384 48 := ⟨Or.inl ⟨rfl, rfl, rfl⟩⟩
theorem kr512 : Kr 4 iv512 64 := ⟨Or.inr ⟨rfl, rfl, rfl⟩⟩
set_option maxRecDepth 100000 in
set_option maxHeartbeats 1600000 in
theorem awake8_any (w : World) (hK : Kk w) : Calls Tryd.prog 11 #[] w fun e w' => e = .returned (.bool true) ∧ Sm w w' := by
  obtain ⟨A, hA⟩ : ∃ A, sha iv512 64 ⟨#[97, 98, 99]⟩ = A := ⟨_, rfl⟩
  obtain ⟨B, hB⟩ : ∃ B, sha iv384 48 ⟨#[97, 98, 99]⟩ = B := ⟨_, rfl⟩
  have C1 : Hid (∀ w, Kk w → Calls Tryd.prog 8 #[.int .i64 512, .string ⟨#[97, 98, 99]⟩] w fun e w' => e = .returned (.tuple #[.string A, .int .i64 0]) ∧ Sm w w') := fun w h => hA ▸ Of_any 512 iv512 64 ⟨#[97, 98, 99]⟩ kd512 (by decide) w h
  have C2 : Hid (∀ w, Calls Tryd.prog 8 #[.int .i64 1, .string ⟨#[]⟩] w fun e w' => e = .returned (.tuple #[.string .empty, .int .i64 800]) ∧ Sm w w') := fun w => Of_no 1 ⟨#[]⟩ (by decide) (by decide) w
  have C3 : Hid (∀ w, Calls Tryd.prog 13 #[.int .i64 384] w fun e w' => ∃ b, e = .returned (.tuple #[.pointer (some ⟨b, 0, none⟩), .int .i64 0]) ∧ w.heap.size ≤ b ∧ Hs w' b iv384 48 .empty ∧ Sm w w') := fun w => New_any 384 iv384 48 kd384 w
  have C4 : Hid (∀ b w, Kk w → b ≠ 0 → Hs w b iv384 48 .empty → Calls Tryd.prog 14 #[.pointer (some ⟨b, 0, none⟩), .string ⟨#[97, 98]⟩] w fun e w' => e = .returned (.int .i64 0) ∧ Kp (At1 b) w w' ∧ Hs w' b iv384 48 ⟨#[97, 98]⟩) := fun b w h1 h2 h3 => by
    have := Write_any b iv384 48 .empty ⟨#[97, 98]⟩ iv384_lt (by decide) w h1 h2 h3
    rw [app_nil] at this
    exact this
  have C5 : Hid (∀ b w, Kk w → b ≠ 0 → Hs w b iv384 48 ⟨#[97, 98]⟩ → Calls Tryd.prog 14 #[.pointer (some ⟨b, 0, none⟩), .string ⟨#[99]⟩] w fun e w' => e = .returned (.int .i64 0) ∧ Kp (At1 b) w w' ∧ Hs w' b iv384 48 ⟨#[97, 98, 99]⟩) := fun b w h1 h2 h3 => Write_any b iv384 48 ⟨#[97, 98]⟩ ⟨#[99]⟩ iv384_lt (by decide) w h1 h2 h3
  have C6 : Hid (∀ b w, Kk w → Hs w b iv384 48 ⟨#[97, 98, 99]⟩ → Calls Tryd.prog 15 #[.pointer (some ⟨b, 0, none⟩)] w fun e w' => e = .returned (.string B) ∧ Sm w w') := fun b w h1 h2 => hB ▸ Sum_any b iv384 48 _ iv384_lt (by decide) (by decide) w h1 h2
  have C7 : Hid (∀ w, Calls Tryd.prog 12 #[.int .i64 4, .string ⟨#[97, 98, 99]⟩] w fun e w' => e = .returned (.string A) ∧ Sm w w') := fun w => hA ▸ rof_any 4 iv512 64 kr512 ⟨#[97, 98, 99]⟩ (by decide) w
  have C8 : Hid (∀ w, Calls Tryd.prog 12 #[.int .i64 3, .string ⟨#[97, 98, 99]⟩] w fun e w' => e = .returned (.string B) ∧ Sm w w') := fun w => hB ▸ rof_any 3 iv384 48 kr384 ⟨#[97, 98, 99]⟩ (by decide) w
  have CN : Hid (∀ x w, Calls Tryd.prog 10 #[.int .i64 x] w fun e w' => e = .returned (.int .i64 x) ∧ w = w') := num8_any
  have HK : Hid (Kk w) := hK
  clear hA hB hK
  go_enter Tryd.func11, Tryd.ntmps11
  go_wp2_with (first
    | (go_at_call_of 8 (Value.int IntKind.i64 512); refine (C1.out _ HK.out).mono ?_; rintro e w1 ⟨rfl, S1⟩)
    | (go_at_call_of 8 (Value.int IntKind.i64 1); refine (C2.out _).mono ?_; rintro e w2 ⟨rfl, S2⟩; have k2 := (HK.out.sm S1).sm S2)
    | (go_at_call 13; refine (C3.out _).mono ?_; rintro e w3 ⟨b, rfl, hb, H3, S3⟩; have k3 := k2.sm S3; have hb0 : b ≠ 0 := (by have := k2.lt; omega))
    | (go_at_call_of 14 (Value.string { data := #[97, 98] }); refine (C4.out _ _ k3 hb0 H3).mono ?_; rintro e w4 ⟨rfl, K4, H4⟩; have k4 := k3.kp K4 (fun e => hb0 (Eq.symm e)))
    | (go_at_call_of 14 (Value.string { data := #[99] }); refine (C5.out _ _ k4 hb0 H4).mono ?_; rintro e w5 ⟨rfl, K5, H5⟩; have k5 := k4.kp K5 (fun e => hb0 (Eq.symm e)))
    | (go_at_call_of 12 (Value.int IntKind.i64 4); refine (C7.out _).mono ?_; rintro e w6 ⟨rfl, S6⟩; have k6 := k5.sm S6; have H6 := H5.sm S6)
    | (go_at_call 15; refine (C6.out _ _ k6 H6).mono ?_; rintro e w7 ⟨rfl, S7⟩)
    | (go_at_call_of 12 (Value.int IntKind.i64 3); refine (C8.out _).mono ?_; rintro e w8 ⟨rfl, S8⟩)
    | (go_at_call 10; refine (CN.out _ _).mono ?_; rintro e w' ⟨rfl, rfl⟩))
  go_ret
  refine ⟨rfl, Sm.of ?_⟩
  have hle : w.heap.size ≤ b := Nat.le_trans (S1.trans S2).size hb
  exact (((((((S1.trans S2).trans S3).kp _).trans (K4.fr hle)).trans (K5.fr hle)).trans (S6.kp _)).trans (S7.kp _)).trans (S8.kp _)
end Go.Proofs.YtincjgpbgoagnaaDoor.L8
