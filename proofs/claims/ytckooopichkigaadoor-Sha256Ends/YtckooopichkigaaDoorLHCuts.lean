/-
  The statement Sha256Cuts, walked: it answers true for every text, int and bool.
-/
import Derived.Test.YtckooopichkigaaDoorLHOf
namespace Go.Proofs.YtckooopichkigaaDoor
open Go.RowKit
theorem sha_size (iv : Nat → Nat) (z : Nat) (s : ByteArray) : (sha iv z s).size = z := bt_size _ _
/-- The law behind the cut: the bits b, the place k. -/
structure Cut (w : World) (iv : Nat → Nat) (z : Nat) (bits : Int) (s l r : ByteArray) (X Y : ByteArray) : Prop where
  aw : ∀ w, Kk w → Calls Tryd.prog 11 #[] w fun e w' => e = .returned (.bool true) ∧ Sm w w'
  nw : ∀ w, Calls Tryd.prog 13 #[.int .i64 bits] w fun e w' => ∃ b, e = .returned (.tuple #[.pointer (some ⟨b, 0, none⟩), .int .i64 0]) ∧ w.heap.size ≤ b ∧ Hs w' b iv z .empty ∧ Sm w w'
  w1 : ∀ b w, Kk w → b ≠ 0 → Hs w b iv z .empty → Calls Tryd.prog 14 #[.pointer (some ⟨b, 0, none⟩), .string l] w fun e w' => e = .returned (.int .i64 0) ∧ Kp (At1 b) w w' ∧ Hs w' b iv z l
  w2 : ∀ b w, Kk w → b ≠ 0 → Hs w b iv z l → Calls Tryd.prog 14 #[.pointer (some ⟨b, 0, none⟩), .string ⟨#[]⟩] w fun e w' => e = .returned (.int .i64 0) ∧ Kp (At1 b) w w' ∧ Hs w' b iv z l
  w3 : ∀ b w, Kk w → b ≠ 0 → Hs w b iv z l → Calls Tryd.prog 14 #[.pointer (some ⟨b, 0, none⟩), .string r] w fun e w' => e = .returned (.int .i64 0) ∧ Kp (At1 b) w w' ∧ Hs w' b iv z s
  s1 : ∀ b w, Kk w → Hs w b iv z l → Calls Tryd.prog 15 #[.pointer (some ⟨b, 0, none⟩)] w fun e w' => e = .returned (.string Y) ∧ Sm w w'
  s2 : ∀ b w, Kk w → Hs w b iv z s → Calls Tryd.prog 15 #[.pointer (some ⟨b, 0, none⟩)] w fun e w' => e = .returned (.string X) ∧ Sm w w'
  o1 : ∀ w, Kk w → Calls Tryd.prog 8 #[.int .i64 bits, .string s] w fun e w' => e = .returned (.tuple #[.string X, .int .i64 0]) ∧ Sm w w'
  o2 : ∀ w, Kk w → Calls Tryd.prog 8 #[.int .i64 bits, .string l] w fun e w' => e = .returned (.tuple #[.string Y, .int .i64 0]) ∧ Sm w w'
theorem cut_of (w : World) {iv : Nat → Nat} {z : Nat} {bits : Int} (hk : Kd bits iv z) (s : ByteArray) (hs : s.size ≤ 140737488351232) (k : Nat) (hkk : k ≤ s.size) : Cut w iv z bits s (s.extract 0 k) (s.extract k s.size) (sha iv z s) (sha iv z (s.extract 0 k)) := by
  have hl : (s.extract 0 k).size = k := ex_size s k hkk
  have hr : (s.extract k s.size).size = s.size - k := by simp [ByteArray.size_extract]
  refine ⟨awake7_any, fun w => New_any bits iv z hk w, fun b w h1 h2 h3 => ?_, fun b w h1 h2 h3 => ?_, fun b w h1 h2 h3 => ?_, fun b w h1 h2 => Sum_any b iv z _ hk.lt hk.le (by omega) w h1 h2, fun b w h1 h2 => Sum_any b iv z _ hk.lt hk.le (by omega) w h1 h2, fun w h => Of_any bits iv z s hk (by omega) w h, fun w h => Of_any bits iv z _ hk (by omega) w h⟩
  · have := Write_any b iv z .empty (s.extract 0 k) hk.lt (by rw [hl]; show 0 + k < _; omega) w h1 h2 h3
    rw [app_nil] at this
    exact this
  · have := Write_any b iv z (s.extract 0 k) ⟨#[]⟩ hk.lt (by rw [hl]; show k + 0 < _; omega) w h1 h2 h3
    rw [show (⟨#[]⟩ : ByteArray) = ByteArray.empty from rfl, app_empty] at this
    exact this
  · have := Write_any b iv z (s.extract 0 k) (s.extract k s.size) hk.lt (by rw [hl, hr]; omega) w h1 h2 h3
    rw [cut_two s k hkk] at this
    exact this
set_option maxRecDepth 100000 in
set_option maxHeartbeats 1600000 in
theorem lhcuts_any (s : ByteArray) (i : Int) (p : Bool) (hs : s.size ≤ 140737488351232) (w : World) (hK : Kk w) :
    Calls Tryd.prog 5 #[.string s, .int .i64 i, .bool p] w fun e w' => e = .returned (.bool true) ∧ Sm w w' := by
  obtain ⟨bits, iv, z, hk, hbits, hz⟩ : ∃ bits iv z, Kd bits iv z ∧ bits = (if p then 256 else 224) ∧ (8 : Int) * (z : Int) = bits := by
    cases p
    · exact ⟨224, _, _, kd224, rfl, rfl⟩
    · exact ⟨256, _, _, kd256, rfl, rfl⟩
  obtain ⟨n, hn⟩ : ∃ n, s.size = n := ⟨_, rfl⟩
  obtain ⟨k, hkm, hkn⟩ := umod_w64 i (n + 1) (by omega)
  have CN : Hid (∀ x w, Calls Tryd.prog 10 #[.int .i64 x] w fun e w' => e = .returned (.int .i64 x) ∧ w = w') := num7_any
  have HK : Hid (Kk w) := hK
  by_cases h0 : n = 0
  · subst h0
    have hc := cut_of w hk s hs 0 (Nat.zero_le _)
    have he : s.extract 0 0 = ByteArray.empty := by
      apply ByteArray.ext
      rw [ByteArray.data_extract]
      simp
    rw [hn, he] at hc
    obtain ⟨X, hX⟩ : ∃ X, sha iv z s = X := ⟨_, rfl⟩
    obtain ⟨Y, hY⟩ : ∃ Y, sha iv z .empty = Y := ⟨_, rfl⟩
    have hXs : X.size = z := by rw [← hX]; exact sha_size iv z s
    rw [hX, hY] at hc
    clear hkm hkn hX hY hs he
    cases p
    all_goals
      simp only [Bool.false_eq_true, if_false, if_true] at hbits
      subst hbits
      go_enter Tryd.func5, Tryd.ntmps5
      go_wp2_with (first
        | (go_at_call 11; refine (hc.aw _ HK.out).mono ?_; rintro e w1 ⟨rfl, S1⟩; have x1 := HK.out.sm S1)
        | (go_at_call 13; refine (hc.nw _).mono ?_; rintro e w2 ⟨b, rfl, hb, H2, S2⟩; have x2 := x1.sm S2; have hb0 : b ≠ 0 := (by have := x1.lt; omega))
        | (go_at_call_of 14 (Value.string ByteArray.empty); refine (hc.w3 _ _ x5 hb0 H5).mono ?_; rintro e w6 ⟨rfl, K6, H6⟩; have x6 := x5.kp K6 (fun e => hb0 (Eq.symm e)))
        | (go_at_call_of 14 (Value.string ByteArray.empty); refine (hc.w1 _ _ x2 hb0 H2).mono ?_; rintro e w3 ⟨rfl, K3, H3⟩; have x3 := x2.kp K3 (fun e => hb0 (Eq.symm e)))
        | (go_at_call_of 14 (Value.string { data := #[] }); refine (hc.w2 _ _ x4 hb0 H4).mono ?_; rintro e w5 ⟨rfl, K5, H5⟩; have x5 := x4.kp K5 (fun e => hb0 (Eq.symm e)))
        | (go_at_call 15; first | (refine (hc.s2 _ _ x8 H8).mono ?_; rintro e w9 ⟨rfl, S9⟩) | (refine (hc.s1 _ _ x3 H3).mono ?_; rintro e w4 ⟨rfl, S4⟩; have x4 := x3.sm S4; have H4 := H3.sm S4))
        | (go_at_call_of 8 (Value.string s); refine (hc.o1 _ x6).mono ?_; rintro e w7 ⟨rfl, S7⟩; have x7 := x6.sm S7)
        | (go_at_call_of 8 (Value.string ByteArray.empty); refine (hc.o2 _ x7).mono ?_; rintro e w8 ⟨rfl, S8⟩; have x8 := x7.sm S8; have H8 := (H6.sm S7).sm S8)
        | (go_at_call 10; refine (CN.out _ _).mono ?_; rintro e w' ⟨rfl, rfl⟩))
      go_ret
      refine ⟨rfl, Sm.of ?_⟩
      have hle : w.heap.size ≤ b := Nat.le_trans S1.size hb
      exact ((((((((S1.trans S2).kp _).trans (K3.fr hle)).trans (S4.kp _)).trans (K5.fr hle)).trans (K6.fr hle)).trans (S7.kp _)).trans (S8.kp _)).trans (S9.kp _)
  · have hc := cut_of w hk s hs k (by omega)
    obtain ⟨X, hX⟩ : ∃ X, sha iv z s = X := ⟨_, rfl⟩
    obtain ⟨Y, hY⟩ : ∃ Y, sha iv z (s.extract 0 k) = Y := ⟨_, rfl⟩
    have hXs : X.size = z := by rw [← hX]; exact sha_size iv z s
    rw [hX, hY] at hc
    have n0 : (0 : Int) < (n : Int) := by omega
    have n1 : (n : Int) ≤ 140737488351232 := by omega
    have k1 : (k : Int) ≤ (n : Int) := by omega
    have k2 : (IntKind.u64.wrap i).tmod ((n : Int) + 1) = (k : Int) := by rw [← hkm]; rfl
    rw [hn] at hc
    clear hkm hkn hX hY h0 hs
    cases p
    all_goals
      simp only [Bool.false_eq_true, if_false, if_true] at hbits
      subst hbits
      go_enter Tryd.func5, Tryd.ntmps5
      go_wp2_with (first
        | (go_at_call 11; refine (hc.aw _ HK.out).mono ?_; rintro e w1 ⟨rfl, S1⟩; have x1 := HK.out.sm S1)
        | (go_at_call 13; refine (hc.nw _).mono ?_; rintro e w2 ⟨b, rfl, hb, H2, S2⟩; have x2 := x1.sm S2; have hb0 : b ≠ 0 := (by have := x1.lt; omega))
        | (go_at_call_of 14 (Value.string (s.extract 0 k)); refine (hc.w1 _ _ x2 hb0 H2).mono ?_; rintro e w3 ⟨rfl, K3, H3⟩; have x3 := x2.kp K3 (fun e => hb0 (Eq.symm e)))
        | (go_at_call_of 14 (Value.string { data := #[] }); refine (hc.w2 _ _ x4 hb0 H4).mono ?_; rintro e w5 ⟨rfl, K5, H5⟩; have x5 := x4.kp K5 (fun e => hb0 (Eq.symm e)))
        | (go_at_call_of 14 (Value.string (s.extract k n)); refine (hc.w3 _ _ x5 hb0 H5).mono ?_; rintro e w6 ⟨rfl, K6, H6⟩; have x6 := x5.kp K6 (fun e => hb0 (Eq.symm e)))
        | (go_at_call 15; first | (refine (hc.s2 _ _ x8 H8).mono ?_; rintro e w9 ⟨rfl, S9⟩) | (refine (hc.s1 _ _ x3 H3).mono ?_; rintro e w4 ⟨rfl, S4⟩; have x4 := x3.sm S4; have H4 := H3.sm S4))
        | (go_at_call_of 8 (Value.string s); refine (hc.o1 _ x6).mono ?_; rintro e w7 ⟨rfl, S7⟩; have x7 := x6.sm S7)
        | (go_at_call_of 8 (Value.string (s.extract 0 k)); refine (hc.o2 _ x7).mono ?_; rintro e w8 ⟨rfl, S8⟩; have x8 := x7.sm S8; have H8 := (H6.sm S7).sm S8)
        | (go_at_call 10; refine (CN.out _ _).mono ?_; rintro e w' ⟨rfl, rfl⟩))
      go_ret
      refine ⟨rfl, Sm.of ?_⟩
      have hle : w.heap.size ≤ b := Nat.le_trans S1.size hb
      exact ((((((((S1.trans S2).kp _).trans (K3.fr hle)).trans (S4.kp _)).trans (K5.fr hle)).trans (K6.fr hle)).trans (S7.kp _)).trans (S8.kp _)).trans (S9.kp _)
end Go.Proofs.YtckooopichkigaaDoor
