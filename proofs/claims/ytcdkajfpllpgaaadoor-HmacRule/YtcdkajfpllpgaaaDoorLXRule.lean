/-
  The statement HmacRule, walked: it answers true for every number, key and text.
-/
import Derived.Test.YtcdkajfpllpgaaaDoorLXKeys
namespace Go.Proofs.YtcdkajfpllpgaaaDoor
open Go.RowKit
attribute [local go_sem ↓] mkS_is cvS_is copyT_is
/-- Two new rows, apart. -/
structure Ab (w u : World) (a b : Nat) (c d : Array Value) : Prop where
  ra : Bk u a c 5
  rb : Bk u b d 5
  ne : a ≠ b
  ga : w.heap.size ≤ a
  gb : w.heap.size ≤ b
  kp : Kp (Fr w.heap.size) w u
set_option maxRecDepth 100000 in
set_option maxHeartbeats 1600000 in
theorem lxrule_any (i : Int) (key msg : ByteArray) (hm : msg.size ≤ 140737488351232) (w : World) (hK : KK w) :
    Calls Tryd.prog 5 #[.int .i64 i, .string key, .string msg] w fun e w' => e = .returned (.bool true) ∧ Sm w w' := by
  have CN : Hid (∀ x w, Calls Tryd.prog 11 #[.int .i64 x] w fun e w' => e = .returned (.int .i64 x) ∧ w = w') := num7_any
  have CA : Hid (∀ w, KK w → Calls Tryd.prog 12 #[] w fun e w' => e = .returned (.bool true) ∧ Sm w w') := awake10_any
  have HK : Hid (KK w) := hK
  obtain ⟨p, hp, hp4⟩ := and_3 i
  obtain ⟨z, kk, h, _, _, _⟩ := hi_of p hp4
  have p1 : (p : Int) < 4 := by omega
  have hg := hk_ge (1 + (p : Int))
  have hle := hk_le (1 + (p : Int))
  have hkk := h.hk
  obtain ⟨n, hn⟩ : ∃ n, hk (1 + (p : Int)) = n := ⟨_, rfl⟩
  rw [hn] at hg hle hkk
  subst hkk
  have CB : Hid (∀ w, Calls Tryd.prog 18 #[.int .i64 (1 + (p : Int))] w fun e w' => e = .returned (.int .i64 (n : Int)) ∧ Sm w w') := hblock_any _ z n h
  have n0 : (0 : Int) ≤ (n : Int) := by omega
  have n1 : (n : Int) ≤ 128 := by omega
  by_cases c : n < key.size
  · have c1 : (n : Int) < (key.size : Int) := by omega
    clear h hK hm hp4 hg hle c hn
    go_enter Tryd.func5, Tryd.ntmps5
    go_wp2_with (first
      | (go_at_call 12; refine (CA.out _ HK.out).mono ?_; rintro e w1 ⟨rfl, S1⟩)
      | (go_at_call 18; refine (CB.out _).mono ?_; rintro e w2 ⟨rfl, S2⟩))
    go_ret
    exact ⟨rfl, S1.trans S2⟩
  · have hky : ky (1 + (p : Int)) key = key := by unfold ky; rw [if_neg (by omega)]
    have hI : pd (1 + (p : Int)) key 54 = bt (fun i => xb key i ^^^ 54) n := by unfold pd; rw [hky, hn]
    have hO : pd (1 + (p : Int)) key 92 = bt (fun i => xb key i ^^^ 92) n := by unfold pd; rw [hky, hn]
    have hIs : (pd (1 + (p : Int)) key 54).size = n := by rw [pd_size, hn]
    have hOs : (pd (1 + (p : Int)) key 92).size = n := by rw [pd_size, hn]
    have hMac : dig (1 + (p : Int)) (pd (1 + (p : Int)) key 92 ++ dig (1 + (p : Int)) (pd (1 + (p : Int)) key 54 ++ msg)) = mac (1 + (p : Int)) key msg := rfl
    have C8 : Hid (∀ w, KK w → Calls Tryd.prog 8 #[.int .i64 (1 + (p : Int)), .string key, .string msg] w fun e w' => e = .returned (.tuple #[.string (mac (1 + (p : Int)) key msg), .int .i64 0]) ∧ Sm w w') := fun w hw => mof_any _ z n h key msg (by omega) (by omega) w hw
    generalize mac (1 + (p : Int)) key msg = B at *
    generalize pd (1 + (p : Int)) key 92 = O at *
    generalize pd (1 + (p : Int)) key 54 = I at *
    have hIm : (I ++ msg).size = I.size + msg.size := ByteArray.size_append
    obtain ⟨D, hD⟩ : ∃ D, dig (1 + (p : Int)) (I ++ msg) = D := ⟨_, rfl⟩
    rw [hD] at hMac
    have hDz := dig_size h (I ++ msg)
    rw [hD] at hDz
    have hDs : D.size ≤ 64 := by rcases h with ⟨_, rfl, _⟩ | ⟨_, rfl, _⟩ | ⟨_, rfl, _⟩ | ⟨_, rfl, _⟩ <;> omega
    have hOD : (O ++ D).size = O.size + D.size := ByteArray.size_append
    have C6 : Hid (∀ w, KK w → Calls Tryd.prog 16 #[.int .i64 (1 + (p : Int)), .string (I ++ msg)] w fun e w' => e = .returned (.tuple #[.string D, .int .i64 0]) ∧ Sm w w') := fun w hw => hD ▸ hof_any _ z n (I ++ msg) h (by omega) w hw
    have C7 : Hid (∀ w, KK w → Calls Tryd.prog 16 #[.int .i64 (1 + (p : Int)), .string (O ++ D)] w fun e w' => e = .returned (.tuple #[.string B, .int .i64 0]) ∧ Sm w w') := fun w hw => hMac ▸ hof_any _ z n (O ++ D) h (by omega) w hw
    have x1 : (I.size : Int) + (msg.size : Int) ≤ 140737488355328 := by omega
    have x2 : (O.size : Int) + (D.size : Int) ≤ 200 := by omega
    have HI : Hid (I = bt (fun i => xb key i ^^^ 54) n) := hI
    have HO : Hid (O = bt (fun i => xb key i ^^^ 92) n) := hO
    have c1 : ¬ (n : Int) < (key.size : Int) := by omega
    have c2 : decide (n < key.size) = false := by simp; omega
    have HS : Hid (key.size ≤ n ∧ 0 < n) := ⟨by omega, by omega⟩
    have mk := fun w => mkS_run w .i64 .i64 n (by omega)
    clear h hK hm hp4 hg hle c hn hky hI hO hIs hOs hMac hIm hD hDz hDs hOD
    go_enter Tryd.func5, Tryd.ntmps5
    go_wp2_with (first
      | (go_at_call 12; refine (CA.out _ HK.out).mono ?_; rintro e w1 ⟨rfl, S1⟩)
      | (go_at_call 18; refine (CB.out _).mono ?_; rintro e w2 ⟨rfl, S2⟩))
    have S12 := S1.trans S2
    go_cut [9, 10] from 29 to 32 (fun x y wx => ∃ (a b : Nat), x = .slice (some ⟨a, 0, none⟩) n n ∧ y = .slice (some ⟨b, 0, none⟩) n n ∧ Ab w wx a b (br n fun _ => 0) (br n fun _ => 0))
    case first =>
      go_region
      all_goals
        go_wp2
        go_meet
      · exact ⟨_, _, rfl, rfl, ⟨(Bk.at rfl).alloc _, Bk.at (by simp), by omega, S12.size, by have := S12.size; omega, (((S12.kp _).alloc _).alloc _).drew⟩⟩
      · exact ⟨_, _, rfl, rfl, ⟨Bk.at (by simp), (Bk.at rfl).alloc _, by omega, by have := S12.size; omega, S12.size, (((S12.kp _).alloc _).alloc _).drew⟩⟩
    case rest =>
      obtain ⟨a, b, rfl, rfl, AB⟩ := hcut
      obtain ⟨A1, A2, A3, A4, A5, A6⟩ := AB
      clear S1 S2 S12 mk
      have cp1 := fun ty c => copy_key ty wc a n c 5 key A1 HS.out.1 HS.out.2
      have A2' := A2.aside (br n (xb key)) (Ne.symm A3)
      have cp2 := fun ty c => copy_key ty _ b n c 5 key A2' HS.out.1 HS.out.2
      go_wp2
      have B1 : Bk _ a (br n (xb key)) 5 := (A1.put (br n (xb key))).aside (br n (xb key)) A3
      have B2 := A2'.put (br n (xb key))
      have B3 : Kp (Fr w.heap.size) w _ := (A6.put a (br n (xb key)) A4).put b (br n (xb key)) A5
      generalize setBlk (setBlk wc a _) b _ = v at *
      clear cp1 cp2 A1 A2 A2' A6
      go_loopw [11] (fun i u => ∃ k : Nat, k ≤ n ∧ i = .int .i64 (k : Int) ∧ Bk u a (br n (pz (xb key) 54 k)) 5 ∧ Bk u b (br n (pz (xb key) 92 k)) 5 ∧ Kp (Fr w.heap.size) w u) (fun i _ => n - (intOf i).toNat)
      case atStart => exact ⟨0, by omega, rfl, by rw [pz_zero]; exact B1, by rw [pz_zero]; exact B2, B3⟩
      case round =>
        clear B1 B2 B3
        obtain ⟨k, hk, rfl, b1, b2, K1⟩ := hrel
        by_cases c : k < n
        · have k0 : (0 : Int) ≤ (k : Int) := by omega
          have k1 : (k : Int) < (n : Int) := by omega
          have ev : ∀ x, pz (xb key) x k k = xb key k := fun x => by unfold pz; rw [if_neg (by omega)]
          have d1 := (b1.cell k).trans (br_get n _ k c)
          rw [ev] at d1
          have d2 := br_get n (pz (xb key) 92 k) k c
          rw [ev] at d2
          have f1 := b1.fz k
          have s1 := pz_step n (xb key) 54 k
          have s2 := pz_step n (xb key) 92 k
          have e1 : bits .xor .u8 ((xb key k : Nat) : Int) 54 = ((xb key k ^^^ 54 : Nat) : Int) := u8_xor_nat (xb key k) 54 (xb_lt key k) (by decide)
          have e2 : bits .xor .u8 ((xb key k : Nat) : Int) 92 = ((xb key k ^^^ 92 : Nat) : Int) := u8_xor_nat (xb key k) 92 (xb_lt key k) (by decide)
          generalize xb key k ^^^ 54 = y1 at *
          generalize xb key k ^^^ 92 = y2 at *
          generalize xb key k = y at *
          have b1' := (b1.set k (.int .u8 (y1 : Int))).cast s1
          have b2' := b2.far ⟨a, k, none⟩ (.int .u8 (y1 : Int)) (Ne.symm A3)
          have d2 := (b2'.cell k).trans d2
          have f2 := b2'.fz k
          have b1'' := b1'.far ⟨b, k, none⟩ (.int .u8 (y2 : Int)) A3
          have b2'' := (b2'.set k (.int .u8 (y2 : Int))).cast s2
          have K1' := (K1.setCell ⟨a, k, none⟩ (.int .u8 (y1 : Int)) A4).setCell ⟨b, k, none⟩ (.int .u8 (y2 : Int)) A5
          clear ev b1 b2 b1' b2' K1 s1 s2
          go_wp2
          go_roundw
          case rel => exact ⟨k + 1, by omega, by go_num, b1'', b2'', K1'⟩
          case measure => simp [intOf]; omega
        · have ki : ¬ (k : Int) < (n : Int) := by omega
          have hkn : k = n := by omega
          have cv1 := fun u (hu : Bk u a (br n (pz (xb key) 54 k)) 5) c => cvS_run u a 0 n c (pz (xb key) 54 k) fun i hi => by rw [Nat.zero_add]; exact (hu.cell i).trans (br_get n _ i hi)
          have cv2 := fun u (hu : Bk u b (br n (pz (xb key) 92 k)) 5) c => cvS_run u b 0 n c (pz (xb key) 92 k) fun i hi => by rw [Nat.zero_add]; exact (hu.cell i).trans (br_get n _ i hi)
          have q1 : bt (pz (xb key) 54 k) n = I := by
            rw [HI.out]
            exact bt_ext _ _ _ fun i hi => by unfold pz; rw [if_pos (by omega)]
          have q2 : bt (pz (xb key) 92 k) n = O := by
            rw [HO.out]
            exact bt_ext _ _ _ fun i hi => by unfold pz; rw [if_pos (by omega)]
          rw [q1] at cv1
          rw [q2] at cv2
          have CV1 : Hid (∀ u, Bk u a (br n (pz (xb key) 54 k)) 5 → ∀ c, (cvS (.slice (some ⟨a, 0, none⟩) n c)).run Tryd.prog u = .ok (.string I) u) := cv1
          have CV2 : Hid (∀ u, Bk u b (br n (pz (xb key) 92 k)) 5 → ∀ c, (cvS (.slice (some ⟨b, 0, none⟩) n c)).run Tryd.prog u = .ok (.string O) u) := cv2
          clear cv1 cv2 q1 q2 c hk hkn
          have cv1 := CV1.out _ b1
          have k1 := HK.out.fr K1 (Nat.le_refl _)
          go_wp2_with (first
            | (go_at_call_of 16 (Value.string (I ++ msg)); refine (C6.out _ k1).mono ?_; rintro e w6 ⟨rfl, S6⟩; have k6 := k1.sm S6; have cv2 := CV2.out _ (b2.sm S6))
            | (go_at_call_of 16 (Value.string (O ++ D)); refine (C7.out _ k6).mono ?_; rintro e w7 ⟨rfl, S7⟩; have k7 := k6.sm S7)
            | (go_at_call 8; refine (C8.out _ k7).mono ?_; rintro e w8 ⟨rfl, S8⟩)
            | (go_at_call 11; refine (CN.out _ _).mono ?_; rintro e w' ⟨rfl, rfl⟩))
          go_ret
          exact ⟨rfl, Sm.of (((K1.trans (S6.kp _)).trans (S7.kp _)).trans (S8.kp _))⟩
end Go.Proofs.YtcdkajfpllpgaaaDoor
