/-
  sha256's Of: what it hands back.
-/
import Derived.Test.YtckooopichkigaaDoorHH
import Derived.Test.YtckooopichkigaaDoorLG7
namespace Go.Proofs.YtckooopichkigaaDoor
open Go.RowKit
set_option maxRecDepth 100000 in
set_option maxHeartbeats 1600000 in
theorem Of_any (bits : Int) (iv : Nat → Nat) (z : Nat) (s : ByteArray) (hk : Kd bits iv z) (hl : s.size < 2305843009213693952) (w : World) (hK : Kk w) :
    Calls Tryd.prog 8 #[.int .i64 bits, .string s] w fun e w' => e = .returned (.tuple #[.string (sha iv z s), .int .i64 0]) ∧ Sm w w' := by
  have C1 : Hid (∀ w, Calls Tryd.prog 13 #[.int .i64 bits] w fun e w' => ∃ b, e = .returned (.tuple #[.pointer (some ⟨b, 0, none⟩), .int .i64 0]) ∧ w.heap.size ≤ b ∧ Hs w' b iv z .empty ∧ Sm w w') := fun w => New_any bits iv z hk w
  have C2 : Hid (∀ b w, Kk w → b ≠ 0 → Hs w b iv z .empty → Calls Tryd.prog 14 #[.pointer (some ⟨b, 0, none⟩), .string s] w fun e w' => e = .returned (.int .i64 0) ∧ Kp (At1 b) w w' ∧ Hs w' b iv z s) := fun b w h1 h2 h3 => by
    have := Write_any b iv z .empty s hk.lt (by simpa using hl) w h1 h2 h3
    rw [app_nil] at this
    exact this
  have C3 : Hid (∀ b w, Kk w → Hs w b iv z s → Calls Tryd.prog 15 #[.pointer (some ⟨b, 0, none⟩)] w fun e w' => e = .returned (.string (sha iv z s)) ∧ Sm w w') := fun b w h1 h2 => Sum_any b iv z s hk.lt hk.le hl w h1 h2
  have HK : Hid (Kk w) := hK
  clear hK hl hk
  go_enter Tryd.func8, Tryd.ntmps8
  go_wp2_with (first
    | (go_at_call 13; refine (C1.out _).mono ?_; rintro e w1 ⟨b, rfl, hb, H1, S1⟩; have k1 := HK.out.sm S1; have hb0 : b ≠ 0 := (by have := HK.out.lt; omega))
    | (go_at_call 14; refine (C2.out _ _ k1 hb0 H1).mono ?_; rintro e w2 ⟨rfl, K2, H2⟩; have k2 := k1.kp K2 (fun e => hb0 (Eq.symm e)))
    | (go_at_call 15; refine (C3.out _ _ k2 H2).mono ?_; rintro e w3 ⟨rfl, S3⟩))
  go_ret2
  exact ⟨rfl, Sm.of (((S1.kp _).trans (K2.mono fun k _ hk => by have : k = b := hk; subst this; exact hb)).trans (S3.kp _))⟩
set_option maxRecDepth 100000 in
set_option maxHeartbeats 1600000 in
theorem Of_no (bits : Int) (s : ByteArray) (h1 : bits ≠ 224) (h2 : bits ≠ 256) (w : World) :
    Calls Tryd.prog 8 #[.int .i64 bits, .string s] w fun e w' => e = .returned (.tuple #[.string .empty, .int .i64 700]) ∧ Sm w w' := by
  have C1 : Hid (∀ w, Calls Tryd.prog 13 #[.int .i64 bits] w fun e w' => e = .returned (.tuple #[.pointer none, .int .i64 700]) ∧ Sm w w') := fun w => New_no bits h1 h2 w
  clear h1 h2
  go_enter Tryd.func8, Tryd.ntmps8
  go_wp2_with (go_at_call 13; refine (C1.out _).mono ?_; rintro e w1 ⟨rfl, S1⟩)
  go_ret2
  exact ⟨rfl, S1⟩
end Go.Proofs.YtckooopichkigaaDoor
