/-
  The statement HashBlocks, walked: it answers true for every number and every text.
-/
import Derived.Test.YtoplcdcjclbckaaDoorYE
namespace Go.Proofs.YtoplcdcjclbckaaDoor
open Go.RowKit
set_option maxRecDepth 100000 in
set_option maxHeartbeats 1600000 in
theorem lyblocks_any (id : Int) (s : ByteArray) (hs : s.size ≤ 140737488351232) (w : World) (hK : KK w) :
    Calls Tryd.prog 6 #[.int .i64 id, .string s] w fun e w' => e = .returned (.bool true) ∧ Sm w w' := by
  have CN : Hid (∀ x w, Calls Tryd.prog 13 #[.int .i64 x] w fun e w' => e = .returned (.int .i64 x) ∧ w = w') := num7_any
  have CA : Hid (∀ w, KK w → Calls Tryd.prog 14 #[] w fun e w' => e = .returned (.bool true) ∧ Sm w w') := awake9_any
  have HK : Hid (KK w) := hK
  obtain ⟨p, hp, hp4⟩ := and_3 id
  obtain ⟨z, k, h, k1, k2, k3⟩ := hi_of p hp4
  obtain ⟨A, hA⟩ : ∃ A, dig (1 + (p : Int)) s = A := ⟨_, rfl⟩
  obtain ⟨B, hB⟩ : ∃ B, dig (1 + (p : Int)) .empty = B := ⟨_, rfl⟩
  have hz : (A.size : Int) = z := by rw [← hA]; exact dig_size h s
  have C1 : Hid (∀ w, KK w → Calls Tryd.prog 7 #[.int .i64 (1 + (p : Int)), .string s] w fun e w' => e = .returned (.tuple #[.string A, .int .i64 0]) ∧ Sm w w') := fun w hw => hA ▸ hof_any _ z k s h (by omega) w hw
  have C2 : Hid (∀ w, KK w → Calls Tryd.prog 7 #[.int .i64 (1 + (p : Int)), .string ⟨#[]⟩] w fun e w' => e = .returned (.tuple #[.string B, .int .i64 0]) ∧ Sm w w') := fun w hw => hB ▸ hof_any _ z k .empty h (by decide) w hw
  have C3 : Hid (∀ w, Calls Tryd.prog 8 #[.int .i64 (1 + (p : Int))] w fun e w' => ∃ g b, e = .returned (.tuple #[.pointer (some ⟨g, 0, none⟩), .int .i64 0]) ∧ w.heap.size ≤ g ∧ w.heap.size ≤ b ∧ St w' g b (1 + (p : Int)) .empty ∧ Sm w w') := hnew_any _ z k h
  have C4 : Hid (∀ g c w, KK w → St w g c (1 + (p : Int)) .empty → Calls Tryd.prog 16 #[.pointer (some ⟨g, 0, none⟩)] w fun e w' => e = .returned (.string B) ∧ Sm w w') := fun g c w h1 h2 => hB ▸ hsum_any g c _ .empty (by decide) w h1 h2
  have C5 : Hid (∀ w, Calls Tryd.prog 9 #[.int .i64 (1 + (p : Int))] w fun e w' => e = .returned (.int .i64 z) ∧ Sm w w') := hsize_any _ z k h
  have C6 : Hid (∀ w, Calls Tryd.prog 11 #[.int .i64 (1 + (p : Int))] w fun e w' => e = .returned (.int .i64 k) ∧ Sm w w') := hblock_any _ z k h
  have C7 : Hid (∀ w, Calls Tryd.prog 9 #[.int .i64 0] w fun e w' => e = .returned (.int .i64 0) ∧ Sm w w') := hsize_no 0 (by decide)
  have C8 : Hid (∀ w, Calls Tryd.prog 11 #[.int .i64 5] w fun e w' => e = .returned (.int .i64 0) ∧ Sm w w') := hblock_no 5 (by decide)
  have p1 : (p : Int) < 4 := by omega
  clear h hs hK hA hB hp4
  go_enter Tryd.func6, Tryd.ntmps6
  go_wp2_with (first
    | (go_at_call 14; refine (CA.out _ HK.out).mono ?_; rintro e w1 ⟨rfl, S1⟩; have x1 := HK.out.sm S1)
    | (go_at_call_of 7 (Value.string s); refine (C1.out _ x1).mono ?_; rintro e w2 ⟨rfl, S2⟩; have x2 := x1.sm S2)
    | (go_at_call 8; refine (C3.out _).mono ?_; rintro e w3 ⟨g, c, rfl, hg, hc, H3, S3⟩; have x3 := x2.sm S3)
    | (go_at_call 16; refine (C4.out _ _ _ x3 H3).mono ?_; rintro e w4 ⟨rfl, S4⟩; have x4 := x3.sm S4)
    | (go_at_call 7; refine (C2.out _ x4).mono ?_; rintro e w5 ⟨rfl, S5⟩; have S15 := (((S1.trans S2).trans S3).trans S4).trans S5)
    | (go_at_call_of 9 (Value.int IntKind.i64 0); refine (C7.out _).mono ?_; rintro e w10 ⟨rfl, S10⟩)
    | (go_at_call_of 11 (Value.int IntKind.i64 5); refine (C8.out _).mono ?_; rintro e w11 ⟨rfl, S11⟩)
    | (go_at_call 9; refine (C5.out _).mono ?_; rintro e w6 ⟨rfl, S6⟩; replace S15 := S15.trans S6)
    | (go_at_call 11; refine (C6.out _).mono ?_; rintro e w7 ⟨rfl, S7⟩; replace S15 := S15.trans S7)
    | (go_at_call 13; refine (CN.out _ _).mono ?_; rintro e w' ⟨rfl, rfl⟩))
  go_ret
  exact ⟨rfl, (S15.trans S10).trans S11⟩
end Go.Proofs.YtoplcdcjclbckaaDoor
