/-
  The statement Sha512Streams, walked: it answers true for every number of bits and every row of texts whose first twelve are, together, no longer than one text may be.
-/
import Derived.Test.YtincjgpbgoagnaaDoorLGApart
namespace Go.Proofs.YtincjgpbgoagnaaDoor.L8
open Go.RowKit
set_option maxRecDepth 100000 in
set_option maxHeartbeats 1600000 in
theorem lgstreams_any (bits : Int) (q : Option Addr) (n c : Nat) (f : Nat → ByteArray) (w : World) (hP : Ps w q n f) (hs : ∀ k, k ≤ n → k ≤ 12 → (cat f k).size ≤ 140737488351232) (hn : n ≤ 4611686018427387904) (hK : Kk w) :
    Calls Tryd.prog 4 #[.int .i64 bits, .slice q n c] w fun e w' => e = .returned (.bool true) ∧ Sm w w' := by
  have CN : Hid (∀ x w, Calls Tryd.prog 10 #[.int .i64 x] w fun e w' => e = .returned (.int .i64 x) ∧ w = w') := num8_any
  have CA : Hid (∀ w, Kk w → Calls Tryd.prog 11 #[] w fun e w' => e = .returned (.bool true) ∧ Sm w w') := awake8_any
  have CI := fun w => id8_any bits w
  have HK : Hid (Kk w) := hK
  have HP : Hid (Ps w q n f) := hP
  have HS : Hid (∀ k, k ≤ n → k ≤ 12 → (cat f k).size ≤ 140737488351232) := hs
  have n1 : (n : Int) ≤ 4611686018427387904 := by omega
  rcases kd_or bits with ⟨h1, h2, h3⟩ | ⟨iv, z, hk, hr, h3⟩
  · rw [h3] at CI
    have CI' : Hid (∀ w, Calls Tryd.prog 9 #[.int .i64 bits] w fun e w' => e = .returned (.int .i64 0) ∧ w = w') := CI
    have C1 : Hid (∀ w, Calls Tryd.prog 13 #[.int .i64 bits] w fun e w' => e = .returned (.tuple #[.pointer none, .int .i64 800]) ∧ Sm w w') := fun w => New_no bits h1 h2 w
    clear h1 h2 h3 CI hs hK hP hn
    go_enter Tryd.func4, Tryd.ntmps4
    go_wp2_with (first
      | (go_at_call 13; refine (C1.out _).mono ?_; rintro e w1 ⟨rfl, S1⟩)
      | (go_at_call 9; refine (CI'.out _).mono ?_; rintro e w' ⟨rfl, rfl⟩)
      | (go_at_call 10; refine (CN.out _ _).mono ?_; rintro e w' ⟨rfl, rfl⟩)
      | (go_at_call 11; refine (CA.out _ (HK.out.sm S1)).mono ?_; rintro e w2 ⟨rfl, S2⟩))
    go_ret
    exact ⟨rfl, S1.trans S2⟩
  · have C1 : Hid (∀ w, Calls Tryd.prog 13 #[.int .i64 bits] w fun e w' => ∃ b, e = .returned (.tuple #[.pointer (some ⟨b, 0, none⟩), .int .i64 0]) ∧ w.heap.size ≤ b ∧ Hs w' b iv z .empty ∧ Sm w w') := fun w => New_any bits iv z hk w
    have C2 : Hid (∀ b k w, k < n → k < 12 → Kk w → b ≠ 0 → Hs w b iv z (cat f k) → Calls Tryd.prog 14 #[.pointer (some ⟨b, 0, none⟩), .string (f k)] w fun e w' => e = .returned (.int .i64 0) ∧ Kp (At1 b) w w' ∧ Hs w' b iv z (cat f (k + 1))) := fun b k w hk1 hk2 h1 h2 h3 => Write_any b iv z (cat f k) (f k) hk.lt (by have := HS.out (k + 1) (by omega) (by omega); rw [cat, ByteArray.size_append] at this; omega) w h1 h2 h3
    have C3 : Hid (∀ b k w, k ≤ n → k ≤ 12 → Kk w → Hs w b iv z (cat f k) → Calls Tryd.prog 15 #[.pointer (some ⟨b, 0, none⟩)] w fun e w' => e = .returned (.string (sha iv z (cat f k))) ∧ Sm w w') := fun b k w hk1 hk2 h1 h2 => Sum_any b iv z _ hk.lt hk.le (by have := HS.out k hk1 hk2; omega) w h1 h2
    have C4 : Hid (∀ k w, k ≤ n → k ≤ 12 → Calls Tryd.prog 12 #[.int .i64 (idN bits), .string (cat f k)] w fun e w' => e = .returned (.string (sha iv z (cat f k))) ∧ Sm w w') := fun k w hk1 hk2 => rof_any (idN bits) iv z hr _ (HS.out k hk1 hk2) w
    generalize idN bits = d at *
    have CI' : Hid (∀ w, Calls Tryd.prog 9 #[.int .i64 bits] w fun e w' => e = .returned (.int .i64 d) ∧ w = w') := CI
    have d0 : (d == 0) = false := by simpa using h3
    clear hk hr h3 CI hs hK hP hn
    go_enter Tryd.func4, Tryd.ntmps4
    go_wp2_with (first
      | (go_at_call 13; refine (C1.out _).mono ?_; rintro e w1 ⟨b, rfl, hb, H1, S1⟩)
      | (go_at_call 9; refine (CI'.out _).mono ?_; rintro e w' ⟨rfl, rfl⟩)
      | (go_at_call 10; refine (CN.out _ _).mono ?_; rintro e w' ⟨rfl, rfl⟩))
    have hw0 := HK.out.lt
    have nb0 : b ≠ 0 := by omega
    go_loopw [7, 8] (fun x y u => ∃ k : Nat, k ≤ n ∧ k ≤ 12 ∧ x = .string (cat f k) ∧ y = .int .i64 (k : Int) ∧ Hs u b iv z (cat f k) ∧ Kp (Fr w.heap.size) w u) (fun _ y _ => 12 - (intOf y).toNat)
    case atStart => exact ⟨0, by omega, by omega, rfl, rfl, H1, S1.kp _⟩
    case round =>
      clear H1 S1
      obtain ⟨k, hkn, hk12, rfl, rfl, HX, HU⟩ := hrel
      have x0 := HK.out.fr HU hw0
      have k0 : (0 : Int) ≤ (k : Int) := by omega
      by_cases hlt : k < n ∧ k < 12
      · obtain ⟨hl1, hl2⟩ := hlt
        have k1 : (k : Int) < (n : Int) := by omega
        have k2 : (k : Int) < 12 := by omega
        obtain ⟨pb, po, rfl, pc⟩ := HP.out.at HU k hl1
        have HPk : Hid (∀ u, Kp (Fr w.heap.size) w u → u.cell? ⟨pb, po + k, none⟩ = some (.string (f k))) := fun u hu => by
          obtain ⟨b', o', e, h⟩ := HP.out.at hu k hl1
          cases e
          exact h
        have hsz : ((cat f k).size : Int) + ((f k).size : Int) ≤ 9223372036854775807 := by have := HS.out (k + 1) (by omega) (by omega); rw [cat, ByteArray.size_append] at this; omega
        have hc1 : k + 1 ≤ n := by omega
        have hc2 : k + 1 ≤ 12 := by omega
        have CS : Hid (∀ b w, Kk w → Hs w b iv z (cat f (k + 1)) → Calls Tryd.prog 15 #[.pointer (some ⟨b, 0, none⟩)] w fun e w' => e = .returned (.string (sha iv z (cat f k ++ f k))) ∧ Sm w w') := fun b w h1 h2 => C3.out b (k + 1) w hc1 hc2 h1 h2
        have CO : Hid (∀ w, Calls Tryd.prog 12 #[.int .i64 d, .string (cat f k ++ f k)] w fun e w' => e = .returned (.string (sha iv z (cat f k ++ f k))) ∧ Sm w w') := fun w => C4.out (k + 1) w hc1 hc2
        by_cases h3 : k % 3 = 0
        · have e3 : ((k : Int) % 3 == 0) = true := by simp; omega
          go_wp2_with (first
            | (go_at_call 14; refine (C2.out _ _ _ hl1 hl2 x0 nb0 HX).mono ?_; rintro e u1 ⟨rfl, K1, HX1⟩; have U1 := HU.trans (K1.fr hb); have x1 := HK.out.fr U1 hw0; have pc1 := HPk.out _ U1)
            | (go_at_call 10; refine (CN.out _ _).mono ?_; rintro e w' ⟨rfl, rfl⟩)
            | (go_at_call 9; refine (CI'.out _).mono ?_; rintro e w' ⟨rfl, rfl⟩)
            | (go_at_call 15; refine (CS.out _ _ x1 HX1).mono ?_; rintro e u2 ⟨rfl, S2⟩; have U2 := U1.trans (S2.kp _); have HX2 := HX1.sm S2)
            | (go_at_call 12; refine (CO.out _).mono ?_; rintro e u3 ⟨rfl, S3⟩; have U3 := U2.trans (S3.kp _); have HX3 := HX2.sm S3))
          go_roundw
          case rel => exact ⟨k + 1, hc1, hc2, rfl, by go_num, HX3, U3⟩
          case measure => simp [intOf]; omega
        · have e3 : ((k : Int) % 3 == 0) = false := by simp; omega
          go_wp2_with (first
            | (go_at_call 14; refine (C2.out _ _ _ hl1 hl2 x0 nb0 HX).mono ?_; rintro e u1 ⟨rfl, K1, HX1⟩; have U1 := HU.trans (K1.fr hb); have x1 := HK.out.fr U1 hw0; have pc1 := HPk.out _ U1)
            | (go_at_call 10; refine (CN.out _ _).mono ?_; rintro e w' ⟨rfl, rfl⟩))
          go_roundw
          case rel => exact ⟨k + 1, hc1, hc2, rfl, by go_num, HX1, U1⟩
          case measure => simp [intOf]; omega
      · have fin : (k : Int) < (n : Int) ∧ ¬ (k : Int) < 12 ∨ ¬ (k : Int) < (n : Int) := by omega
        have CS : Hid (∀ b w, Kk w → Hs w b iv z (cat f k) → Calls Tryd.prog 15 #[.pointer (some ⟨b, 0, none⟩)] w fun e w' => e = .returned (.string (sha iv z (cat f k))) ∧ Sm w w') := fun b w h1 h2 => C3.out b k w hkn hk12 h1 h2
        have CO : Hid (∀ w, Calls Tryd.prog 12 #[.int .i64 d, .string (cat f k)] w fun e w' => e = .returned (.string (sha iv z (cat f k))) ∧ Sm w w') := fun w => C4.out k w hkn hk12
        rcases fin with ⟨k1, k2⟩ | k1
        all_goals
          go_wp2_with (first
            | (go_at_call 15; first | (refine (CS.out _ _ x2 HX2).mono ?_; rintro e u3 ⟨rfl, S3⟩; have x3 := x2.sm S3) | (refine (CS.out _ _ x0 HX).mono ?_; rintro e u1 ⟨rfl, S1⟩; have x1 := x0.sm S1; have HX1 := HX.sm S1))
            | (go_at_call 9; refine (CI'.out _).mono ?_; rintro e w' ⟨rfl, rfl⟩)
            | (go_at_call 12; first | (have y3 := x3; refine (CO.out _).mono ?_; rintro e u4 ⟨rfl, S4⟩; have x4 := x3.sm S4) | (refine (CO.out _).mono ?_; rintro e u2 ⟨rfl, S2⟩; have x2 := x1.sm S2; have HX2 := HX1.sm S2))
            | (go_at_call 11; refine (CA.out _ x4).mono ?_; rintro e u5 ⟨rfl, S5⟩))
          go_ret
          exact ⟨rfl, Sm.of (((((HU.trans (S1.kp _)).trans (S2.kp _)).trans (S3.kp _)).trans (S4.kp _)).trans (S5.kp _))⟩
end Go.Proofs.YtincjgpbgoagnaaDoor.L8
