/-
  The statement HashApart, walked: it answers true for every row of texts and any two numbers.
-/
import Derived.Test.YtoplcdcjclbckaaDoorYE
namespace Go.Proofs.YtoplcdcjclbckaaDoor
open Go.RowKit
/-- Of the first k texts those in even places, one behind the other; those in odd places. -/
def evn (f : Nat → ByteArray) : Nat → ByteArray
  | 0 => .empty
  | k + 1 => if k % 2 = 0 then evn f k ++ f k else evn f k
def odn (f : Nat → ByteArray) : Nat → ByteArray
  | 0 => .empty
  | k + 1 => if k % 2 = 0 then odn f k else odn f k ++ f k
theorem evn_size (f : Nat → ByteArray) (M : Nat) (hf : ∀ i, (f i).size ≤ M) : ∀ k, (evn f k).size ≤ k * M
  | 0 => by show 0 ≤ _; omega
  | k + 1 => by
    have h1 := evn_size f M hf k
    have h2 := hf k
    rw [evn, Nat.succ_mul]
    split
    · rw [ByteArray.size_append]; omega
    · omega
theorem odn_size (f : Nat → ByteArray) (M : Nat) (hf : ∀ i, (f i).size ≤ M) : ∀ k, (odn f k).size ≤ k * M
  | 0 => by show 0 ≤ _; omega
  | k + 1 => by
    have h1 := odn_size f M hf k
    have h2 := hf k
    rw [odn, Nat.succ_mul]
    split
    · omega
    · rw [ByteArray.size_append]; omega
theorem evn_even (f : Nat → ByteArray) (k : Nat) (h : k % 2 = 0) : evn f (k + 1) = evn f k ++ f k ∧ odn f (k + 1) = odn f k := ⟨by rw [evn, if_pos h], by rw [odn, if_pos h]⟩
theorem evn_odd (f : Nat → ByteArray) (k : Nat) (h : k % 2 = 1) : evn f (k + 1) = evn f k ∧ odn f (k + 1) = odn f k ++ f k := ⟨by rw [evn, if_neg (by omega)], by rw [odn, if_neg (by omega)]⟩
theorem and_1 (k : Nat) : bits .and .i64 (k : Int) 1 = ((k % 2 : Nat) : Int) := by
  show IntKind.i64.wrap ((BitVec.ofInt 64 (k : Int) &&& BitVec.ofInt 64 1).toNat : Int) = _
  have e1 : BitVec.ofInt 64 (k : Int) = BitVec.ofNat 64 k := rfl
  have e2 : (BitVec.ofInt 64 1).toNat = 1 := by decide
  rw [BitVec.toNat_and, e1, BitVec.toNat_ofNat, e2, Nat.and_one_is_mod, IntKind.wrap_i64]
  omega
set_option maxRecDepth 100000 in
set_option maxHeartbeats 1600000 in
theorem lyapart_any (q : Option Addr) (n c : Nat) (f : Nat → ByteArray) (id other : Int) (w : World) (hP : Ps w q n f) (hf : ∀ i, (f i).size ≤ 140737488351232) (hn : n ≤ 4611686018427387904) (hK : KK w) :
    Calls Tryd.prog 4 #[.slice q n c, .int .i64 id, .int .i64 other] w fun e w' => e = .returned (.bool true) ∧ Sm w w' := by
  have CN : Hid (∀ x w, Calls Tryd.prog 13 #[.int .i64 x] w fun e w' => e = .returned (.int .i64 x) ∧ w = w') := num7_any
  have CA : Hid (∀ w, KK w → Calls Tryd.prog 14 #[] w fun e w' => e = .returned (.bool true) ∧ Sm w w') := awake9_any
  have HK : Hid (KK w) := hK
  have HP : Hid (Ps w q n f) := hP
  have HE : Hid (∀ k, k ≤ 12 → (evn f k).size ≤ 1688849860214784) := fun k hk => by have := evn_size f _ hf k; omega
  have HO : Hid (∀ k, k ≤ 12 → (odn f k).size ≤ 1688849860214784) := fun k hk => by have := odn_size f _ hf k; omega
  have HF : Hid (∀ k, (f k).size ≤ 140737488351232) := hf
  obtain ⟨p, hp, hp4⟩ := and_3 id
  obtain ⟨r, hr, hr4⟩ := and_3 other
  obtain ⟨z, k, h, _⟩ := hi_of p hp4
  obtain ⟨z2, k2, h2, _⟩ := hi_of r hr4
  have p1 : (p : Int) < 4 := by omega
  have r1 : (r : Int) < 4 := by omega
  have C1 : Hid (∀ w, Calls Tryd.prog 8 #[.int .i64 (1 + (p : Int))] w fun e w' => ∃ g b, e = .returned (.tuple #[.pointer (some ⟨g, 0, none⟩), .int .i64 0]) ∧ w.heap.size ≤ g ∧ w.heap.size ≤ b ∧ St w' g b (1 + (p : Int)) .empty ∧ Sm w w') := hnew_any _ z k h
  have C2 : Hid (∀ w, Calls Tryd.prog 8 #[.int .i64 (1 + (r : Int))] w fun e w' => ∃ g b, e = .returned (.tuple #[.pointer (some ⟨g, 0, none⟩), .int .i64 0]) ∧ w.heap.size ≤ g ∧ w.heap.size ≤ b ∧ St w' g b (1 + (r : Int)) .empty ∧ Sm w w') := hnew_any _ z2 k2 h2
  have C3 : Hid (∀ g b k w, k < 12 → k % 2 = 0 → KK w → Nc b → St w g b (1 + (p : Int)) (evn f k) → Calls Tryd.prog 15 #[.pointer (some ⟨g, 0, none⟩), .string (f k)] w fun e w' => e = .returned (.int .i64 0) ∧ Kp (At1 b) w w' ∧ St w' g b (1 + (p : Int)) (evn f (k + 1))) := fun g b k w hk h0 h1 h2 h3 => by
    rw [(evn_even f k h0).1]
    exact hwrite_any g b _ _ _ (by have := HE.out k (by omega); have := HF.out k; omega) w h1 h2 h3
  have C4 : Hid (∀ g b k w, k < 12 → k % 2 = 1 → KK w → Nc b → St w g b (1 + (r : Int)) (odn f k) → Calls Tryd.prog 15 #[.pointer (some ⟨g, 0, none⟩), .string (f k)] w fun e w' => e = .returned (.int .i64 0) ∧ Kp (At1 b) w w' ∧ St w' g b (1 + (r : Int)) (odn f (k + 1))) := fun g b k w hk h0 h1 h2 h3 => by
    rw [(evn_odd f k h0).2]
    exact hwrite_any g b _ _ _ (by have := HO.out k (by omega); have := HF.out k; omega) w h1 h2 h3
  have C5 : Hid (∀ g b k w, k ≤ 12 → KK w → St w g b (1 + (p : Int)) (evn f k) → Calls Tryd.prog 16 #[.pointer (some ⟨g, 0, none⟩)] w fun e w' => e = .returned (.string (dig (1 + (p : Int)) (evn f k))) ∧ Sm w w') := fun g b k w hk h1 h2 => hsum_any g b _ _ (by have := HE.out k hk; omega) w h1 h2
  have C6 : Hid (∀ g b k w, k ≤ 12 → KK w → St w g b (1 + (r : Int)) (odn f k) → Calls Tryd.prog 16 #[.pointer (some ⟨g, 0, none⟩)] w fun e w' => e = .returned (.string (dig (1 + (r : Int)) (odn f k))) ∧ Sm w w') := fun g b k w hk h1 h2 => hsum_any g b _ _ (by have := HO.out k hk; omega) w h1 h2
  have C7 : Hid (∀ k w, k ≤ 12 → KK w → Calls Tryd.prog 7 #[.int .i64 (1 + (p : Int)), .string (evn f k)] w fun e w' => ∃ A, e = .returned (.tuple #[.string A, .int .i64 0]) ∧ dig (1 + (p : Int)) (evn f k) = A ∧ (A.size : Int) = z ∧ Sm w w') := fun j w hk hw => (hof_any _ z k _ h (by have := HE.out j hk; omega) w hw).mono fun _ _ ⟨h1, h2⟩ => ⟨_, h1, rfl, dig_size h _, h2⟩
  have C8 : Hid (∀ k w, k ≤ 12 → KK w → Calls Tryd.prog 7 #[.int .i64 (1 + (r : Int)), .string (odn f k)] w fun e w' => ∃ A, e = .returned (.tuple #[.string A, .int .i64 0]) ∧ dig (1 + (r : Int)) (odn f k) = A ∧ Sm w w') := fun j w hk hw => (hof_any _ z2 k2 _ h2 (by have := HO.out j hk; omega) w hw).mono fun _ _ ⟨h1, h2⟩ => ⟨_, h1, rfl, h2⟩
  have C9 : Hid (∀ w, Calls Tryd.prog 9 #[.int .i64 (1 + (p : Int))] w fun e w' => e = .returned (.int .i64 z) ∧ Sm w w') := hsize_any _ z k h
  have n1 : (n : Int) ≤ 4611686018427387904 := by omega
  clear hK hP hf hn h h2 hp4 hr4
  go_enter Tryd.func4, Tryd.ntmps4
  go_wp2_with (first
    | (go_at_call 14; refine (CA.out _ HK.out).mono ?_; rintro e w1 ⟨rfl, S1⟩)
    | (go_at_call 8; first | (have S2' := S2; clear S2'; refine (C2.out _).mono ?_; rintro e w3 ⟨gy, b2, rfl, hgy, hb2, H3, S3⟩) | (refine (C1.out _).mono ?_; rintro e w2 ⟨gx, bx, rfl, hgx, hbx, H2, S2⟩)))
  have hlx := H2.blt
  have hne : bx ≠ b2 := by omega
  have hle1 : w.heap.size ≤ bx := Nat.le_trans S1.size hbx
  have hle2 : w.heap.size ≤ b2 := by have := S2.size; omega
  have nx := HK.out.nc hle1
  have ny := HK.out.nc hle2
  have HX0 := H2.sm S3
  have HY0 := H3
  have HK0 : Kp (Fr w.heap.size) w w3 := ((S1.trans S2).trans S3).kp _
  clear H2 H3 S1 S2 S3 hbx hb2 hlx hgx hgy
  go_loopw [13, 14, 15] (fun x y v u => ∃ k : Nat, k ≤ n ∧ k ≤ 12 ∧ x = .string (evn f k) ∧ y = .string (odn f k) ∧ v = .int .i64 (k : Int) ∧ St u gx bx (1 + (p : Int)) (evn f k) ∧ St u gy b2 (1 + (r : Int)) (odn f k) ∧ Kp (Fr w.heap.size) w u) (fun _ _ v _ => 12 - (intOf v).toNat)
  case atStart => exact ⟨0, by omega, by omega, rfl, rfl, rfl, HX0, HY0, HK0⟩
  case round =>
    clear HX0 HY0 HK0
    obtain ⟨k, hkn, hk12, rfl, rfl, rfl, HX, HY, HU⟩ := hrel
    have x0 := HK.out.fr HU (Nat.le_refl _)
    have k0 : (0 : Int) ≤ (k : Int) := by omega
    by_cases hlt : k < n ∧ k < 12
    · obtain ⟨hl1, hl2⟩ := hlt
      have k1 : (k : Int) < (n : Int) := by omega
      have k2 : (k : Int) < 12 := by omega
      obtain ⟨pb, po, rfl, pc⟩ := HP.out.at HU k hl1
      have HPk : Hid (∀ u, Kp (Fr w.heap.size) w u → u.cell? ⟨pb, po + k, none⟩ = some (.string (f k))) := fun u hu => by
        obtain ⟨b', o', e, h⟩ := HP.out.at hu k hl1
        cases e
        exact h
      have ha := and_1 k
      rcases (show k % 2 = 0 ∨ k % 2 = 1 by omega) with hm | hm
      · rw [hm] at ha
        have ha : bits .and .i64 (k : Int) 1 = 0 := ha
        have hsz : ((evn f k).size : Int) + ((f k).size : Int) ≤ 9223372036854775807 := by have := HE.out k hk12; have := HF.out k; omega
        have HM : Hid (k % 2 = 0) := hm
        clear hm
        go_wp2_with (go_at_call 15; refine (C3.out _ _ _ _ hl2 HM.out x0 nx HX).mono ?_; rintro e u1 ⟨rfl, K1, HX1⟩; have U1 := HU.trans (K1.fr hle1); have HY1 := HY.far K1 HX (Ne.symm hne); have pc1 := HPk.out _ U1)
        go_roundw
        case rel => exact ⟨k + 1, by omega, by omega, by rw [(evn_even f k HM.out).1], by rw [(evn_even f k HM.out).2], by go_num, HX1, by rw [(evn_even f k HM.out).2]; exact HY1, U1⟩
        case measure => simp [intOf]; omega
      · rw [hm] at ha
        have ha : bits .and .i64 (k : Int) 1 = 1 := ha
        have hsz : ((odn f k).size : Int) + ((f k).size : Int) ≤ 9223372036854775807 := by have := HO.out k hk12; have := HF.out k; omega
        have HM : Hid (k % 2 = 1) := hm
        clear hm
        go_wp2_with (go_at_call 15; refine (C4.out _ _ _ _ hl2 HM.out x0 ny HY).mono ?_; rintro e u1 ⟨rfl, K1, HY1⟩; have U1 := HU.trans (K1.fr hle2); have HX1 := HX.far K1 HY hne; have pc1 := HPk.out _ U1)
        go_roundw
        case rel => exact ⟨k + 1, by omega, by omega, by rw [(evn_odd f k HM.out).1], by rw [(evn_odd f k HM.out).2], by go_num, by rw [(evn_odd f k HM.out).1]; exact HX1, HY1, U1⟩
        case measure => simp [intOf]; omega
    · rcases (show (k < n ∧ ¬ k < 12) ∨ ¬ k < n by omega) with ⟨hkn', hk'⟩ | hkn'
      · have k1 : (k : Int) < (n : Int) := by omega
        have k2 : ¬ (k : Int) < 12 := by omega
        go_wp2_with (first
          | (go_at_call_of 7 (Value.string (evn f k)); refine (C7.out _ _ hk12 x0).mono ?_; rintro e u1 ⟨A, rfl, hA, zA, S1⟩; have x1 := x0.sm S1; have HX1 := HX.sm S1; have HY1 := HY.sm S1; have HhA : Hid (_ = A) := hA; clear hA)
          | (go_at_call_of 7 (Value.string (odn f k)); refine (C8.out _ _ hk12 x1).mono ?_; rintro e u2 ⟨B, rfl, hB, S2⟩; have x2 := x1.sm S2; have HX2 := HX1.sm S2; have HY2 := HY1.sm S2; have HhB : Hid (_ = B) := hB; clear hB)
          | (go_at_call_of 16 (Value.pointer (some ⟨gy, 0, none⟩)); refine (C6.out _ _ _ _ hk12 x3 HY3).mono ?_; rintro e u4 ⟨rfl, S4⟩; rw [HhB.out])
          | (go_at_call_of 16 (Value.pointer (some ⟨gx, 0, none⟩)); refine (C5.out _ _ _ _ hk12 x2 HX2).mono ?_; rintro e u3 ⟨rfl, S3⟩; rw [HhA.out]; have x3 := x2.sm S3; have HY3 := HY2.sm S3)
          | (go_at_call 9; refine (C9.out _).mono ?_; rintro e u5 ⟨rfl, S5⟩)
          | (go_at_call 13; refine (CN.out _ _).mono ?_; rintro e w' ⟨rfl, rfl⟩))
        go_ret
        exact ⟨rfl, Sm.of (((((HU.trans (S1.kp _)).trans (S2.kp _)).trans (S3.kp _)).trans (S4.kp _)).trans (S5.kp _))⟩
      · have k1 : ¬ (k : Int) < (n : Int) := by omega
        go_wp2_with (first
          | (go_at_call_of 7 (Value.string (evn f k)); refine (C7.out _ _ hk12 x0).mono ?_; rintro e u1 ⟨A, rfl, hA, zA, S1⟩; have x1 := x0.sm S1; have HX1 := HX.sm S1; have HY1 := HY.sm S1; have HhA : Hid (_ = A) := hA; clear hA)
          | (go_at_call_of 7 (Value.string (odn f k)); refine (C8.out _ _ hk12 x1).mono ?_; rintro e u2 ⟨B, rfl, hB, S2⟩; have x2 := x1.sm S2; have HX2 := HX1.sm S2; have HY2 := HY1.sm S2; have HhB : Hid (_ = B) := hB; clear hB)
          | (go_at_call_of 16 (Value.pointer (some ⟨gy, 0, none⟩)); refine (C6.out _ _ _ _ hk12 x3 HY3).mono ?_; rintro e u4 ⟨rfl, S4⟩; rw [HhB.out])
          | (go_at_call_of 16 (Value.pointer (some ⟨gx, 0, none⟩)); refine (C5.out _ _ _ _ hk12 x2 HX2).mono ?_; rintro e u3 ⟨rfl, S3⟩; rw [HhA.out]; have x3 := x2.sm S3; have HY3 := HY2.sm S3)
          | (go_at_call 9; refine (C9.out _).mono ?_; rintro e u5 ⟨rfl, S5⟩)
          | (go_at_call 13; refine (CN.out _ _).mono ?_; rintro e w' ⟨rfl, rfl⟩))
        go_ret
        exact ⟨rfl, Sm.of (((((HU.trans (S1.kp _)).trans (S2.kp _)).trans (S3.kp _)).trans (S4.kp _)).trans (S5.kp _))⟩
end Go.Proofs.YtoplcdcjclbckaaDoor
