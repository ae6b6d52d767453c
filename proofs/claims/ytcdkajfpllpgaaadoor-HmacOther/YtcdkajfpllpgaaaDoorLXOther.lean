/-
  The statement HmacOther, walked: it answers true for every number, any key and every row of texts.
-/
import Derived.Test.YtcdkajfpllpgaaaDoorLXKeys
namespace Go.Proofs.YtcdkajfpllpgaaaDoor
open Go.RowKit
set_option maxRecDepth 100000 in
set_option maxHeartbeats 3200000 in
theorem lxother_any (i : Int) (key : ByteArray) (q : Option Addr) (n c : Nat) (f : Nat → ByteArray) (hky : key.size ≤ 140737488351232) (w : World) (hP : Ps w q n f) (hf : ∀ i, (f i).size ≤ 140737488351232) (hn : n ≤ 4611686018427387904) (hK : KK w) :
    Calls Tryd.prog 6 #[.int .i64 i, .string key, .slice q n c] w fun e w' => e = .returned (.bool true) ∧ Sm w w' := by
  have CN : Hid (∀ x w, Calls Tryd.prog 11 #[.int .i64 x] w fun e w' => e = .returned (.int .i64 x) ∧ w = w') := num7_any
  have CA : Hid (∀ w, KK w → Calls Tryd.prog 12 #[] w fun e w' => e = .returned (.bool true) ∧ Sm w w') := awake10_any
  have HK : Hid (KK w) := hK
  have HP : Hid (Ps w q n f) := hP
  have hcat : ∀ k, k ≤ 10 → (cat f k).size ≤ 1407374883512320 := fun k hk => by
    have h1 := cat_size f 140737488351232 hf k
    have h2 : k * 140737488351232 ≤ 10 * 140737488351232 := Nat.mul_le_mul_right _ hk
    omega
  obtain ⟨p, hp, hp4⟩ := and_3 i
  obtain ⟨z, kk, h, _, _, _⟩ := hi_of p hp4
  have p1 : (p : Int) < 4 := by omega
  have hIs : (pd (1 + (p : Int)) key 54).size ≤ 128 := by rw [pd_size]; exact hk_le _
  have hOs : (pd (1 + (p : Int)) key 92).size ≤ 128 := by rw [pd_size]; exact hk_le _
  have hMac : ∀ t, dig (1 + (p : Int)) (pd (1 + (p : Int)) key 92 ++ dig (1 + (p : Int)) (pd (1 + (p : Int)) key 54 ++ t)) = mac (1 + (p : Int)) key t := fun t => rfl
  have C1 : Hid (∀ w, KK w → Calls Tryd.prog 9 #[.int .i64 (1 + (p : Int)), .string key] w fun e w' => ∃ m b, e = .returned (.tuple #[.pointer (some ⟨m, 0, none⟩), .int .i64 0]) ∧ w.heap.size ≤ m ∧ w.heap.size ≤ b ∧ Mc w' m b (1 + (p : Int)) (pd (1 + (p : Int)) key 92) (pd (1 + (p : Int)) key 54) ∧ Sm w w') := mnew_any _ z kk h key (by omega)
  have C2 : Hid (∀ t w, t.size ≤ 1500000000000000 → KK w → Calls Tryd.prog 8 #[.int .i64 (1 + (p : Int)), .string key, .string t] w fun e w' => e = .returned (.tuple #[.string (mac (1 + (p : Int)) key t), .int .i64 0]) ∧ Sm w w') := fun t w ht hw => mof_any _ z kk h key t (by omega) (by omega) w hw
  generalize mac (1 + (p : Int)) key = M at *
  generalize pd (1 + (p : Int)) key 92 = O at *
  generalize pd (1 + (p : Int)) key 54 = I at *
  have C3 : Hid (∀ m b t s w, t.size + s.size ≤ 1500000000000000 → KK w → Nc b → Mc w m b (1 + (p : Int)) O (I ++ t) → Calls Tryd.prog 13 #[.pointer (some ⟨m, 0, none⟩), .string s] w fun e w' => e = .returned (.int .i64 0) ∧ Kp (At1 b) w w' ∧ Mc w' m b (1 + (p : Int)) O (I ++ (t ++ s))) := fun m b t s w ht h1 h2 h3 => by
    rw [← app_assoc]
    exact mwrite_any m b _ O (I ++ t) s (by rw [ByteArray.size_append]; omega) w h1 h2 h3
  have C4 : Hid (∀ m b t w, t.size ≤ 1500000000000000 → KK w → Mc w m b (1 + (p : Int)) O (I ++ t) → Calls Tryd.prog 14 #[.pointer (some ⟨m, 0, none⟩)] w fun e w' => e = .returned (.string (M t)) ∧ Sm w w') := fun m b t w ht h1 h2 => by
    rw [← hMac]
    exact msum_any m b _ z kk h O (I ++ t) hOs (by rw [ByteArray.size_append]; omega) w h1 h2
  have HC : Hid (∀ k, k ≤ 10 → (cat f k).size ≤ 1407374883512320) := hcat
  have n1 : (n : Int) ≤ 4611686018427387904 := by omega
  have HE : Hid (I ++ ByteArray.empty = I) := by
    show I ++ ByteArray.empty = I
    apply ByteArray.ext
    simp
  clear h hK hP hf hn hp4 hIs hOs hMac hky hcat
  go_enter Tryd.func6, Tryd.ntmps6
  go_wp2_with (first
    | (go_at_call 12; refine (CA.out _ HK.out).mono ?_; rintro e w1 ⟨rfl, S1⟩; have k1 := HK.out.sm S1)
    | (go_at_call 9; first | (refine (C1.out _ k2).mono ?_; rintro e w3 ⟨mb, bb, rfl, hmb, hbb, B3, S3⟩; have A3 := A2.sm S3) | (refine (C1.out _ k1).mono ?_; rintro e w2 ⟨ma, ba, rfl, hma, hba, A2, S2⟩; have k2 := k1.sm S2)))
  have hlt := A2.blt
  have hne : ba ≠ bb := by omega
  have n2 := k1.nc hba
  have n3 := k2.nc hbb
  have ga : w.heap.size ≤ ba := Nat.le_trans S1.size hba
  have gb : w.heap.size ≤ bb := Nat.le_trans (S1.trans S2).size hbb
  have K0 : Kp (Fr w.heap.size) w w3 := ((S1.trans S2).trans S3).kp _
  have hw0 : w.heap.size ≤ w.heap.size := Nat.le_refl _
  have A0 : Mc w3 ma ba (1 + (p : Int)) O (I ++ ByteArray.empty) := by rw [HE.out]; exact A3
  have B0 : Mc w3 mb bb (1 + (p : Int)) O (I ++ ByteArray.empty) := by rw [HE.out]; exact B3
  clear S1 S2 S3 k1 k2 A2 A3 B3 hlt hba hbb hma hmb
  go_loopw [12, 13] (fun x y u => ∃ k : Nat, k ≤ n ∧ k ≤ 10 ∧ x = .string (cat f k) ∧ y = .int .i64 (k : Int) ∧ Mc u ma ba (1 + (p : Int)) O (I ++ cat f k) ∧ Mc u mb bb (1 + (p : Int)) O (I ++ ByteArray.empty) ∧ Kp (Fr w.heap.size) w u) (fun _ y _ => 10 - (intOf y).toNat)
  case atStart => exact ⟨0, by omega, by omega, rfl, rfl, A0, B0, K0⟩
  case round =>
    clear A0 B0 K0
    obtain ⟨k, hkn, hk10, rfl, rfl, A0, B0, K0⟩ := hrel
    have x0 := HK.out.fr K0 hw0
    have k0 : (0 : Int) ≤ (k : Int) := by omega
    by_cases hlt : k < n ∧ k < 10
    · obtain ⟨hl1, hl2⟩ := hlt
      have k1 : (k : Int) < (n : Int) := by omega
      have k2 : (k : Int) < 10 := by omega
      obtain ⟨pb, po, rfl, pc⟩ := HP.out.at K0 k hl1
      have HPk : Hid (∀ u, Kp (Fr w.heap.size) w u → u.cell? ⟨pb, po + k, none⟩ = some (.string (f k))) := fun u hu => by
        obtain ⟨b', o', e, h⟩ := HP.out.at hu k hl1
        cases e
        exact h
      have hcs := HC.out (k + 1) (by omega)
      rw [cat, ByteArray.size_append] at hcs
      have hsz : ((cat f k).size : Int) + ((f k).size : Int) ≤ 1500000000000000 := by omega
      have hs2 : (cat f k).size + (f k).size ≤ 1500000000000000 := by omega
      have hc1 : k + 1 ≤ n := by omega
      have hc2 : k + 1 ≤ 10 := by omega
      obtain ⟨bc, bu, bk, bs⟩ := A0.big
      have HB0 : Hid (∀ u, Kp (At1 ba) wr u → Mc u mb bb (1 + (p : Int)) O (I ++ ByteArray.empty)) := fun u hu => B0.far hu bk bs (Ne.symm hne)
      clear hcs hs2 hkn hk10 hl1 hl2 bk bs
      have HS2 : Hid ((cat f k).size + (f k).size ≤ 1500000000000000) := show (cat f k).size + (f k).size ≤ 1500000000000000 by omega
      go_wp2_with (go_at_call 13; refine (C3.out _ _ _ _ _ HS2.out x0 n2 A0).mono ?_; rintro e u1 ⟨rfl, K1, A1⟩; have U1 := K0.trans (K1.fr ga); have pc1 := HPk.out _ U1; have B1 := HB0.out _ K1)
      go_roundw
      case rel => exact ⟨k + 1, hc1, hc2, rfl, by go_num, A1, B1, U1⟩
      case measure => simp [intOf]; omega
    · have fin : (k : Int) < (n : Int) ∧ ¬ (k : Int) < 10 ∨ ¬ (k : Int) < (n : Int) := by omega
      have hcs := HC.out k hk10
      obtain ⟨T, hT⟩ : ∃ T, cat f k = T := ⟨_, rfl⟩
      rw [hT] at A0 hcs ⊢
      have hTm : (T ++ (⟨#[109, 111, 114, 101]⟩ : ByteArray)).size = T.size + 4 := ByteArray.size_append
      have HS1 : Hid (T.size ≤ 1500000000000000) := show T.size ≤ 1500000000000000 by omega
      have HS2 : Hid (ByteArray.empty.size + T.size ≤ 1500000000000000) := show 0 + T.size ≤ 1500000000000000 by omega
      have HS3 : Hid (T.size + (⟨#[109, 111, 114, 101]⟩ : ByteArray).size ≤ 1500000000000000) := show T.size + 4 ≤ 1500000000000000 by omega
      have HS4 : Hid ((T ++ (⟨#[109, 111, 114, 101]⟩ : ByteArray)).size ≤ 1500000000000000) := show (T ++ (⟨#[109, 111, 114, 101]⟩ : ByteArray)).size ≤ 1500000000000000 by omega
      have t1 : (T.size : Int) ≤ 1500000000000000 := by omega
      clear hcs hTm hT hkn hk10
      have CB : Hid (∀ w, KK w → Mc w mb bb (1 + (p : Int)) O (I ++ ByteArray.empty) → Calls Tryd.prog 13 #[.pointer (some ⟨mb, 0, none⟩), .string T] w fun e w' => e = .returned (.int .i64 0) ∧ Kp (At1 bb) w w' ∧ Mc w' mb bb (1 + (p : Int)) O (I ++ T)) := fun w h1 h2 => by
        have := C3.out mb bb ByteArray.empty T w HS2.out h1 n3 h2
        rwa [app_nil] at this
      obtain ⟨bc, bu, bk, bs⟩ := B0.big
      have HA : Hid (∀ u, Kp (At1 bb) wr u → Mc u ma ba (1 + (p : Int)) O (I ++ T)) := fun u hu => A0.far hu bk bs hne
      have HFA : Hid (∀ u u', Mc u ma ba (1 + (p : Int)) O (I ++ T) → Kp (At1 ba) u u' → Mc u mb bb (1 + (p : Int)) O (I ++ T) → Mc u' mb bb (1 + (p : Int)) O (I ++ T)) := fun u u' h1 h2 h3 => by
        obtain ⟨bc, bu, bk, bs⟩ := h1.big
        exact h3.far h2 bk bs (Ne.symm hne)
      clear bk bs
      rcases fin with ⟨k1, k2⟩ | k1
      all_goals
        go_wp2_with (first
          | (go_at_call_of 13 (Value.pointer (some ⟨mb, 0, none⟩)); refine (CB.out _ x0 B0).mono ?_; rintro e u1 ⟨rfl, K1, B1⟩; have U1 := K0.trans (K1.fr gb); have x1 := HK.out.fr U1 hw0; have A1 := HA.out _ K1)
          | (go_at_call 8; first | (refine (C2.out _ _ HS4.out x4).mono ?_; rintro e u5 ⟨rfl, S5⟩; have x5 := x4.sm S5; have A5 := A4.sm S5; have B5 := B4.sm S5) | (refine (C2.out _ _ HS1.out x1).mono ?_; rintro e u2 ⟨rfl, S2⟩; have x2 := x1.sm S2; have A2 := A1.sm S2; have B2 := B1.sm S2))
          | (go_at_call 14; first | (refine (C4.out _ _ _ _ HS4.out x6 A6).mono ?_; rintro e u7 ⟨rfl, S7⟩) | (refine (C4.out _ _ _ _ HS1.out x5 B5).mono ?_; rintro e u6 ⟨rfl, S6⟩; have x6 := x5.sm S6; have A6 := A5.sm S6) | (refine (C4.out _ _ _ _ HS1.out x2 A2).mono ?_; rintro e u3 ⟨rfl, S3⟩; have x3 := x2.sm S3; have A3 := A2.sm S3; have B3 := B2.sm S3))
          | (go_at_call 13; refine (C3.out _ _ _ _ _ HS3.out x3 n2 A3).mono ?_; rintro e u4 ⟨rfl, K4, A4⟩; have x4 := x3.at1 K4 n2; have B4 := HFA.out _ _ A3 K4 B3)
          | (go_at_call 11; refine (CN.out _ _).mono ?_; rintro e w' ⟨rfl, rfl⟩))
        go_ret
        exact ⟨rfl, Sm.of ((((((U1.trans (S2.kp _)).trans (S3.kp _)).trans (K4.fr ga)).trans (S5.kp _)).trans (S6.kp _)).trans (S7.kp _))⟩
end Go.Proofs.YtcdkajfpllpgaaaDoor
