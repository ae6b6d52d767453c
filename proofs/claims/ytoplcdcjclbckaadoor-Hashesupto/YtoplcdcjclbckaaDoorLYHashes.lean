/-
  The statement Hashes, walked: it answers true for every number and any two texts of 2^47 - 4096 bytes together.
-/
import Derived.Test.YtoplcdcjclbckaaDoorYE
namespace Go.Proofs.YtoplcdcjclbckaaDoor
open Go.RowKit
set_option maxRecDepth 100000 in
set_option maxHeartbeats 1600000 in
theorem lyhashes_any (id : Int) (a b : ByteArray) (hs : a.size + b.size ≤ 140737488351232) (w : World) (hK : KK w) :
    Calls Tryd.prog 3 #[.int .i64 id, .string a, .string b] w fun e w' => e = .returned (.bool true) ∧ Sm w w' := by
  have CN : Hid (∀ x w, Calls Tryd.prog 13 #[.int .i64 x] w fun e w' => e = .returned (.int .i64 x) ∧ w = w') := num7_any
  have CA : Hid (∀ w, KK w → Calls Tryd.prog 14 #[] w fun e w' => e = .returned (.bool true) ∧ Sm w w') := awake9_any
  have HK : Hid (KK w) := hK
  have hab : (a.size : Int) + (b.size : Int) ≤ 140737488351232 := by omega
  rcases hi_or id with h | ⟨z, k, h⟩
  · have C1 : Hid (∀ s w, Calls Tryd.prog 7 #[.int .i64 id, .string s] w fun e w' => e = .returned (.tuple #[.string .empty, .int .i64 900]) ∧ Sm w w') := fun s w => hof_no id s h w
    have C2 : Hid (∀ w, Calls Tryd.prog 8 #[.int .i64 id] w fun e w' => e = .returned (.tuple #[.pointer none, .int .i64 900]) ∧ Sm w w') := fun w => hnew_no id h w
    have C3 : Hid (∀ w, Calls Tryd.prog 9 #[.int .i64 id] w fun e w' => e = .returned (.int .i64 0) ∧ Sm w w') := hsize_no id h
    have C4 : Hid (∀ w, Calls Tryd.prog 11 #[.int .i64 id] w fun e w' => e = .returned (.int .i64 0) ∧ Sm w w') := hblock_no id h
    have C5 : Hid (∀ w, Calls Tryd.prog 10 #[.int .i64 id] w fun e w' => e = .returned (.int .i64 0) ∧ w = w') := rsize_no id h
    have C6 : Hid (∀ w, Calls Tryd.prog 12 #[.int .i64 id] w fun e w' => e = .returned (.int .i64 0) ∧ w = w') := rblock_no id h
    clear h hs hK
    go_enter Tryd.func3, Tryd.ntmps3
    go_wp2_with (first
      | (go_at_call 7; refine (C1.out _ _).mono ?_; rintro e w1 ⟨rfl, S1⟩)
      | (go_at_call 8; refine (C2.out _).mono ?_; rintro e w2 ⟨rfl, S2⟩)
      | (go_at_call 9; refine (C3.out _).mono ?_; rintro e w3 ⟨rfl, S3⟩)
      | (go_at_call 11; refine (C4.out _).mono ?_; rintro e w4 ⟨rfl, S4⟩; have S14 := ((S1.trans S2).trans S3).trans S4)
      | (go_at_call 10; refine (C5.out _).mono ?_; rintro e w' ⟨rfl, rfl⟩)
      | (go_at_call 12; refine (C6.out _).mono ?_; rintro e w' ⟨rfl, rfl⟩)
      | (go_at_call 13; refine (CN.out _ _).mono ?_; rintro e w' ⟨rfl, rfl⟩)
      | (go_at_call 14; refine (CA.out _ (HK.out.sm S14)).mono ?_; rintro e w5 ⟨rfl, S5⟩))
    go_ret
    exact ⟨rfl, S14.trans S5⟩
  · obtain ⟨A, hA⟩ : ∃ A, dig id a = A := ⟨_, rfl⟩
    obtain ⟨B, hB⟩ : ∃ B, dig id (a ++ b) = B := ⟨_, rfl⟩
    have hsz : (a ++ b).size = a.size + b.size := ByteArray.size_append
    have C1 : Hid (∀ w, KK w → Calls Tryd.prog 7 #[.int .i64 id, .string (a ++ b)] w fun e w' => e = .returned (.tuple #[.string B, .int .i64 0]) ∧ Sm w w') := fun w hw => hB ▸ hof_any id z k (a ++ b) h (by omega) w hw
    have C2 : Hid (∀ w, Calls Tryd.prog 8 #[.int .i64 id] w fun e w' => ∃ g b, e = .returned (.tuple #[.pointer (some ⟨g, 0, none⟩), .int .i64 0]) ∧ w.heap.size ≤ g ∧ w.heap.size ≤ b ∧ St w' g b id .empty ∧ Sm w w') := hnew_any id z k h
    have C3 : Hid (∀ w, Calls Tryd.prog 9 #[.int .i64 id] w fun e w' => e = .returned (.int .i64 z) ∧ Sm w w') := hsize_any id z k h
    have C4 : Hid (∀ w, Calls Tryd.prog 11 #[.int .i64 id] w fun e w' => e = .returned (.int .i64 k) ∧ Sm w w') := hblock_any id z k h
    have C5 : Hid (∀ w, Calls Tryd.prog 10 #[.int .i64 id] w fun e w' => e = .returned (.int .i64 z) ∧ w = w') := rsizeA_any id z k h
    have C6 : Hid (∀ w, Calls Tryd.prog 12 #[.int .i64 id] w fun e w' => e = .returned (.int .i64 k) ∧ w = w') := rblockA_any id z k h
    have C7 : Hid (∀ g b w, KK w → Nc b → St w g b id .empty → Calls Tryd.prog 15 #[.pointer (some ⟨g, 0, none⟩), .string a] w fun e w' => e = .returned (.int .i64 0) ∧ Kp (At1 b) w w' ∧ St w' g b id a) := fun g b w h1 h2 h3 => by
      have := hwrite_any g b id .empty a (by simp; omega) w h1 h2 h3
      rwa [app_nil] at this
    have C8 : Hid (∀ g c w, KK w → Nc c → St w g c id a → Calls Tryd.prog 15 #[.pointer (some ⟨g, 0, none⟩), .string b] w fun e w' => e = .returned (.int .i64 0) ∧ Kp (At1 c) w w' ∧ St w' g c id (a ++ b)) := fun g c w h1 h2 h3 => hwrite_any g c id a b (by omega) w h1 h2 h3
    have C9 : Hid (∀ g c w, KK w → St w g c id a → Calls Tryd.prog 16 #[.pointer (some ⟨g, 0, none⟩)] w fun e w' => e = .returned (.string A) ∧ Sm w w') := fun g c w h1 h2 => hA ▸ hsum_any g c id a (by omega) w h1 h2
    have C10 : Hid (∀ g c w, KK w → St w g c id (a ++ b) → Calls Tryd.prog 16 #[.pointer (some ⟨g, 0, none⟩)] w fun e w' => e = .returned (.string B) ∧ Sm w w') := fun g c w h1 h2 => hB ▸ hsum_any g c id (a ++ b) (by omega) w h1 h2
    have C11 : Hid (∀ w, Calls Tryd.prog 17 #[.int .i64 id, .string a] w fun e w' => e = .returned (.string A) ∧ Sm w w') := fun w => hA ▸ rofA_any id z k h a (by omega) w
    have C12 : Hid (∀ w, Calls Tryd.prog 17 #[.int .i64 id, .string (a ++ b)] w fun e w' => e = .returned (.string B) ∧ Sm w w') := fun w => hB ▸ rofA_any id z k h (a ++ b) (by omega) w
    have z0 : (z == 0) = false := by rcases h with ⟨_, rfl, _⟩ | ⟨_, rfl, _⟩ | ⟨_, rfl, _⟩ | ⟨_, rfl, _⟩ <;> rfl
    clear h hs hK hA hB hsz
    go_enter Tryd.func3, Tryd.ntmps3
    go_wp2_with (first
      | (go_at_call 7; refine (C1.out _ HK.out).mono ?_; rintro e w1 ⟨rfl, S1⟩)
      | (go_at_call 8; refine (C2.out _).mono ?_; rintro e w2 ⟨g, c, rfl, hg, hc, H2, S2⟩)
      | (go_at_call 9; refine (C3.out _).mono ?_; rintro e w3 ⟨rfl, S3⟩)
      | (go_at_call 11; refine (C4.out _).mono ?_; rintro e w4 ⟨rfl, S4⟩; have S14 := ((S1.trans S2).trans S3).trans S4; have k4 := HK.out.sm S14; have hn := (HK.out.sm S1).nc hc; have H4 := (H2.sm S3).sm S4)
      | (go_at_call 10; refine (C5.out _).mono ?_; rintro e w' ⟨rfl, rfl⟩)
      | (go_at_call 12; refine (C6.out _).mono ?_; rintro e w' ⟨rfl, rfl⟩)
      | (go_at_call 15; first | (refine (C8.out _ _ _ k6 hn H6).mono ?_; rintro e w7 ⟨rfl, K7, H7⟩; have k7 := k6.at1 K7 hn) | (refine (C7.out _ _ _ k4 hn H4).mono ?_; rintro e w5 ⟨rfl, K5, H5⟩; have k5 := k4.at1 K5 hn))
      | (go_at_call 16; first | (refine (C10.out _ _ _ k8 H8).mono ?_; rintro e w9 ⟨rfl, S9⟩; have k9 := k8.sm S9) | (refine (C9.out _ _ _ k5 H5).mono ?_; rintro e w6 ⟨rfl, S6⟩; have k6 := k5.sm S6; have H6 := H5.sm S6))
      | (go_at_call_of 17 (Value.string a); refine (C11.out _).mono ?_; rintro e w8 ⟨rfl, S8⟩; have k8 := k7.sm S8; have H8 := H7.sm S8)
      | (go_at_call_of 17 (Value.string (a ++ b)); refine (C12.out _).mono ?_; rintro e w10 ⟨rfl, S10⟩; have k10 := k9.sm S10)
      | (go_at_call 13; refine (CN.out _ _).mono ?_; rintro e w' ⟨rfl, rfl⟩)
      | (go_at_call 14; refine (CA.out _ k10).mono ?_; rintro e w11 ⟨rfl, S11⟩))
    go_ret
    have hle : w.heap.size ≤ c := Nat.le_trans S1.size hc
    exact ⟨rfl, Sm.of ((((((((S14.kp _).trans (K5.fr hle)).trans (S6.kp _)).trans (K7.fr hle)).trans (S8.kp _)).trans (S9.kp _)).trans (S10.kp _)).trans (S11.kp _))⟩
end Go.Proofs.YtoplcdcjclbckaaDoor
