/-
  The statement Sha256Apart, walked: it answers true for every row of texts and every bool.
-/
import Derived.Test.YtckooopichkigaaDoorLHEnds
namespace Go.Proofs.YtckooopichkigaaDoor
open Go.RowKit
theorem Kk.fr {w w' : World} {n : Nat} (h : Kk w) (k : Kp (Fr n) w w') (hn : 0 < n) : Kk w' := h.kp k fun e => by
  have : n ≤ 0 := e
  omega
set_option maxRecDepth 100000 in
set_option maxHeartbeats 1600000 in
theorem lhapart_any (q : Option Addr) (n c : Nat) (f : Nat → ByteArray) (p : Bool) (w : World) (hP : Ps w q n f) (hf : ∀ i, (f i).size ≤ 140737488351232) (hn : n ≤ 4611686018427387904) (hK : Kk w) :
    Calls Tryd.prog 7 #[.slice q n c, .bool p] w fun e w' => e = .returned (.bool true) ∧ Sm w w' := by
  have CN : Hid (∀ x w, Calls Tryd.prog 10 #[.int .i64 x] w fun e w' => e = .returned (.int .i64 x) ∧ w = w') := num7_any
  have CA : Hid (∀ w, Kk w → Calls Tryd.prog 11 #[] w fun e w' => e = .returned (.bool true) ∧ Sm w w') := awake7_any
  have HK : Hid (Kk w) := hK
  have HP : Hid (Ps w q n f) := hP
  have HS : Hid (∀ k, k ≤ 10 → (cat f k).size ≤ 1407374883512320) := fun k hk => Nat.le_trans (cat_size f _ hf k) (Nat.mul_le_mul_right _ hk)
  have HF : Hid (∀ k, (f k).size ≤ 140737488351232) := hf
  have C1 : Hid (∀ w, Calls Tryd.prog 13 #[.int .i64 224] w fun e w' => ∃ b, e = .returned (.tuple #[.pointer (some ⟨b, 0, none⟩), .int .i64 0]) ∧ w.heap.size ≤ b ∧ Hs w' b iv224 28 .empty ∧ Sm w w') := fun w => New_any 224 iv224 28 kd224 w
  have C2 : Hid (∀ w, Calls Tryd.prog 13 #[.int .i64 256] w fun e w' => ∃ b, e = .returned (.tuple #[.pointer (some ⟨b, 0, none⟩), .int .i64 0]) ∧ w.heap.size ≤ b ∧ Hs w' b iv256 32 .empty ∧ Sm w w') := fun w => New_any 256 iv256 32 kd256 w
  have C3 : Hid (∀ b k w, k < 10 → Kk w → b ≠ 0 → Hs w b iv224 28 (cat f k) → Calls Tryd.prog 14 #[.pointer (some ⟨b, 0, none⟩), .string (f k)] w fun e w' => e = .returned (.int .i64 0) ∧ Kp (At1 b) w w' ∧ Hs w' b iv224 28 (cat f (k + 1))) := fun b k w hk h1 h2 h3 => Write_any b iv224 28 (cat f k) (f k) iv224_lt (by have := HS.out k (by omega); have := HF.out k; omega) w h1 h2 h3
  have C4 : Hid (∀ b k w, k < 10 → Kk w → b ≠ 0 → Hs w b iv256 32 (cat f k) → Calls Tryd.prog 14 #[.pointer (some ⟨b, 0, none⟩), .string (f k)] w fun e w' => e = .returned (.int .i64 0) ∧ Kp (At1 b) w w' ∧ Hs w' b iv256 32 (cat f (k + 1))) := fun b k w hk h1 h2 h3 => Write_any b iv256 32 (cat f k) (f k) iv256_lt (by have := HS.out k (by omega); have := HF.out k; omega) w h1 h2 h3
  have C5 : Hid (∀ b k w, k ≤ 10 → Kk w → Hs w b iv224 28 (cat f k) → Calls Tryd.prog 15 #[.pointer (some ⟨b, 0, none⟩)] w fun e w' => e = .returned (.string (sha iv224 28 (cat f k))) ∧ Sm w w') := fun b k w hk h1 h2 => Sum_any b iv224 28 _ iv224_lt (by decide) (by have := HS.out k hk; omega) w h1 h2
  have C6 : Hid (∀ b k w, k ≤ 10 → Kk w → Hs w b iv256 32 (cat f k) → Calls Tryd.prog 15 #[.pointer (some ⟨b, 0, none⟩)] w fun e w' => e = .returned (.string (sha iv256 32 (cat f k))) ∧ Sm w w') := fun b k w hk h1 h2 => Sum_any b iv256 32 _ iv256_lt (by decide) (by have := HS.out k hk; omega) w h1 h2
  have C7 : Hid (∀ k w, k ≤ 10 → Kk w → Calls Tryd.prog 8 #[.int .i64 224, .string (cat f k)] w fun e w' => e = .returned (.tuple #[.string (sha iv224 28 (cat f k)), .int .i64 0]) ∧ Sm w w') := fun k w hk h => Of_any 224 iv224 28 _ kd224 (by have := HS.out k hk; omega) w h
  have C8 : Hid (∀ k w, k ≤ 10 → Kk w → Calls Tryd.prog 8 #[.int .i64 256, .string (cat f k)] w fun e w' => e = .returned (.tuple #[.string (sha iv256 32 (cat f k)), .int .i64 0]) ∧ Sm w w') := fun k w hk h => Of_any 256 iv256 32 _ kd256 (by have := HS.out k hk; omega) w h
  have n1 : (n : Int) ≤ 4611686018427387904 := by omega
  clear hK hP hf hn
  go_enter Tryd.func7, Tryd.ntmps7
  go_wp2_with (first
    | (go_at_call 11; refine (CA.out _ HK.out).mono ?_; rintro e w1 ⟨rfl, S1⟩)
    | (go_at_call_of 13 (Value.int IntKind.i64 224); refine (C1.out _).mono ?_; rintro e w2 ⟨bx, rfl, hbx, H2, S2⟩)
    | (go_at_call_of 13 (Value.int IntKind.i64 256); refine (C2.out _).mono ?_; rintro e w3 ⟨b2, rfl, hb2, H3, S3⟩))
  have hlx := H2.lt
  have hne : bx ≠ b2 := by omega
  have hle1 : w.heap.size ≤ bx := Nat.le_trans S1.size hbx
  have hle2 : w.heap.size ≤ b2 := by have := S2.size; omega
  have hw0 := HK.out.lt
  have nx : bx ≠ 0 := by omega
  have ny : b2 ≠ 0 := by omega
  have HX0 := H2.sm S3
  have HY0 := H3
  have HK0 : Kp (Fr w.heap.size) w w3 := ((S1.trans S2).trans S3).kp _
  clear H2 H3 S1 S2 S3 hbx hb2 hlx
  go_loopw [9, 10] (fun x y u => ∃ k : Nat, k ≤ n ∧ k ≤ 10 ∧ x = .string (cat f k) ∧ y = .int .i64 (k : Int) ∧ Hs u bx iv224 28 (cat f k) ∧ Hs u b2 iv256 32 (cat f k) ∧ Kp (Fr w.heap.size) w u) (fun _ y _ => 10 - (intOf y).toNat)
  case atStart => exact ⟨0, by omega, by omega, rfl, rfl, HX0, HY0, HK0⟩
  case round =>
    clear HX0 HY0 HK0
    obtain ⟨k, hkn, hk10, rfl, rfl, HX, HY, HU⟩ := hrel
    have x0 := HK.out.fr HU hw0
    have k0 : (0 : Int) ≤ (k : Int) := by omega
    by_cases hlt : k < n ∧ k < 10
    · obtain ⟨hl1, hl2⟩ := hlt
      have k1 : (k : Int) < (n : Int) := by omega
      have k2 : (k : Int) < 10 := by omega
      obtain ⟨pb, po, rfl, pc⟩ := HP.out.at HU k hl1
      have HPk : Hid (∀ u, Kp (Fr w.heap.size) w u → u.cell? ⟨pb, po + k, none⟩ = some (.string (f k))) := fun u hu => by
        obtain ⟨b', o', e, h⟩ := HP.out.at hu k hl1
        cases e
        exact h
      have hsz : ((cat f k).size : Int) + ((f k).size : Int) ≤ 9223372036854775807 := by have := HS.out k hk10; have := HF.out k; omega
      cases p
      · go_wp2_with (first
          | (go_at_call_of 14 (Value.pointer (some ⟨bx, 0, none⟩)); refine (C3.out _ _ _ hl2 x0 nx HX).mono ?_; rintro e u1 ⟨rfl, K1, HX1⟩; have U1 := HU.trans (K1.fr hle1); have x1 := HK.out.fr U1 hw0; have HY1 := HY.kp K1 (Ne.symm hne); have pc1 := HPk.out _ U1)
          | (go_at_call_of 14 (Value.pointer (some ⟨b2, 0, none⟩)); refine (C4.out _ _ _ hl2 x1 ny HY1).mono ?_; rintro e u2 ⟨rfl, K2, HY2⟩; have U2 := U1.trans (K2.fr hle2); have HX2 := HX1.kp K2 hne; have pc2 := HPk.out _ U2))
        go_roundw
        case rel => exact ⟨k + 1, by omega, by omega, rfl, by go_num, HX2, HY2, U2⟩
        case measure => simp [intOf]; omega
      · go_wp2_with (first
          | (go_at_call_of 14 (Value.pointer (some ⟨bx, 0, none⟩)); refine (C3.out _ _ _ hl2 x0 nx HX).mono ?_; rintro e u1 ⟨rfl, K1, HX1⟩; have U1 := HU.trans (K1.fr hle1); have x1 := HK.out.fr U1 hw0; have HY1 := HY.kp K1 (Ne.symm hne); have hk1 : k + 1 ≤ 10 := (by omega))
          | (go_at_call 15; refine (C5.out _ _ _ hk1 x1 HX1).mono ?_; rintro e us ⟨rfl, Ss⟩; have Us := U1.trans (Ss.kp _); have xs := x1.sm Ss; have HYs := HY1.sm Ss; have HXs := HX1.sm Ss; have pcs := HPk.out _ Us)
          | (go_at_call_of 14 (Value.pointer (some ⟨b2, 0, none⟩)); refine (C4.out _ _ _ hl2 xs ny HYs).mono ?_; rintro e u2 ⟨rfl, K2, HY2⟩; have U2 := Us.trans (K2.fr hle2); have HX2 := HXs.kp K2 hne; have pc2 := HPk.out _ U2))
        go_roundw
        case rel => exact ⟨k + 1, by omega, by omega, rfl, by go_num, HX2, HY2, U2⟩
        case measure => simp [intOf]; omega
    · by_cases hkn' : k < n
      · have k1 : (k : Int) < (n : Int) := by omega
        have k2 : ¬ (k : Int) < 10 := by omega
        go_wp2_with (first
          | (go_at_call_of 8 (Value.int IntKind.i64 224); refine (C7.out _ _ hk10 x0).mono ?_; rintro e u1 ⟨rfl, S1⟩; have x1 := x0.sm S1; have HX1 := HX.sm S1; have HY1 := HY.sm S1)
          | (go_at_call_of 8 (Value.int IntKind.i64 256); refine (C8.out _ _ hk10 x1).mono ?_; rintro e u2 ⟨rfl, S2⟩; have x2 := x1.sm S2; have HX2 := HX1.sm S2; have HY2 := HY1.sm S2)
          | (go_at_call_of 15 (Value.pointer (some ⟨b2, 0, none⟩)); refine (C6.out _ _ _ hk10 x3 HY3).mono ?_; rintro e u4 ⟨rfl, S4⟩; have x4 := x3.sm S4; have HX4 := HX3.sm S4)
          | (go_at_call_of 15 (Value.pointer (some ⟨bx, 0, none⟩)); first | (refine (C5.out _ _ _ hk10 x4 HX4).mono ?_; rintro e u5 ⟨rfl, S5⟩) | (refine (C5.out _ _ _ hk10 x2 HX2).mono ?_; rintro e u3 ⟨rfl, S3⟩; have x3 := x2.sm S3; have HX3 := HX2.sm S3; have HY3 := HY2.sm S3))
          | (go_at_call 10; refine (CN.out _ _).mono ?_; rintro e w' ⟨rfl, rfl⟩))
        go_ret
        exact ⟨rfl, Sm.of (((((HU.trans (S1.kp _)).trans (S2.kp _)).trans (S3.kp _)).trans (S4.kp _)).trans (S5.kp _))⟩
      · have k1 : ¬ (k : Int) < (n : Int) := by omega
        go_wp2_with (first
          | (go_at_call_of 8 (Value.int IntKind.i64 224); refine (C7.out _ _ hk10 x0).mono ?_; rintro e u1 ⟨rfl, S1⟩; have x1 := x0.sm S1; have HX1 := HX.sm S1; have HY1 := HY.sm S1)
          | (go_at_call_of 8 (Value.int IntKind.i64 256); refine (C8.out _ _ hk10 x1).mono ?_; rintro e u2 ⟨rfl, S2⟩; have x2 := x1.sm S2; have HX2 := HX1.sm S2; have HY2 := HY1.sm S2)
          | (go_at_call_of 15 (Value.pointer (some ⟨b2, 0, none⟩)); refine (C6.out _ _ _ hk10 x3 HY3).mono ?_; rintro e u4 ⟨rfl, S4⟩; have x4 := x3.sm S4; have HX4 := HX3.sm S4)
          | (go_at_call_of 15 (Value.pointer (some ⟨bx, 0, none⟩)); first | (refine (C5.out _ _ _ hk10 x4 HX4).mono ?_; rintro e u5 ⟨rfl, S5⟩) | (refine (C5.out _ _ _ hk10 x2 HX2).mono ?_; rintro e u3 ⟨rfl, S3⟩; have x3 := x2.sm S3; have HX3 := HX2.sm S3; have HY3 := HY2.sm S3))
          | (go_at_call 10; refine (CN.out _ _).mono ?_; rintro e w' ⟨rfl, rfl⟩))
        go_ret
        exact ⟨rfl, Sm.of (((((HU.trans (S1.kp _)).trans (S2.kp _)).trans (S3.kp _)).trans (S4.kp _)).trans (S5.kp _))⟩
end Go.Proofs.YtckooopichkigaaDoor
