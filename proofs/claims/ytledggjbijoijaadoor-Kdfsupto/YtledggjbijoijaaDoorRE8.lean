/-
  The documents' digest (curvetref7.Of), whole.
-/
import Derived.Test.YtledggjbijoijaaDoorRD8
import Derived.Test.YtledggjbijoijaaDoorHF
namespace Go.Proofs.YtledggjbijoijaaDoor.L8
open Go.RowKit
theorem pf_lt8 (n : Nat) (t : Nat → Nat) (ht : ∀ k, t k < 256) (k : Nat) : pf n t k < 256 := by
  unfold pf
  split
  · exact ht k
  · split
    · decide
    · split
      · decide
      · exact Nat.mod_lt _ (by decide)
theorem dg8_of (f : Nat → Nat) (k c j : Nat) (hj : j + c = 7) : dg8 f (8 * k + c) = f k / 2 ^ (8 * j) % 256 := by
  unfold dg8
  rw [show (8 * k + c) / 8 = k by omega, show 7 - (8 * k + c) % 8 = j by omega]
attribute [local go_sem ↓] ap1_is cvS_is
set_option maxRecDepth 100000 in
set_option maxHeartbeats 1600000 in
theorem rof_any (id : Int) (iv : Nat → Nat) (z : Nat) (hk : Kr id iv z) (s : ByteArray) (hs : s.size ≤ 140737488351232) (w : World) :
    Calls Tryd.prog 19 #[.int .i64 id, .string s] w fun e w' => e = .returned (.string (sha iv z s)) ∧ Sm w w' := by
  have C1 : Hid (∀ w, Calls Tryd.prog 26 #[.int .i64 id] w fun e w' => e = .returned (.int .i64 128) ∧ w = w') := fun w => rblock_any id iv z hk w
  have C2 : Hid (∀ w, Calls Tryd.prog 18 #[.int .i64 id] w fun e w' => e = .returned (.int .i64 (z : Int)) ∧ w = w') := fun w => rsize_any id iv z hk w
  have C3 : Hid (∀ w, Calls Tryd.prog 31 #[.int .i64 id] w fun e w' => e = .returned (.slice (some ⟨w.heap.size, 0, none⟩) 8 8) ∧ Bk w' w.heap.size (wz 8 iv) 68 ∧ Sm w w') := fun w => rbegin_any id iv z hk w
  have C4 : Hid (∀ w, Calls Tryd.prog 32 #[] w fun e w' => e = .returned (.slice (some ⟨w.heap.size, 0, none⟩) 80 80) ∧ Bk w' w.heap.size (wz 80 kc) 68 ∧ Sm w w') := rk_any
  obtain ⟨P, hP⟩ : ∃ P, pf s.size (xb s) = P := ⟨_, rfl⟩
  obtain ⟨n, hn⟩ : ∃ n, nb s.size = n := ⟨_, rfl⟩
  have C5 : Hid (∀ w, Calls Tryd.prog 33 #[.string s] w fun e w' => ∃ g cap, e = .returned (.slice (some ⟨g, 0, none⟩) (128 * n) cap) ∧ w.heap.size ≤ g ∧ Rb w' g (128 * n) cap P ∧ Sm w w') := fun w => by rw [← hP, ← hn]; exact long_any s hs w
  have P8 : Hid (∀ k, P k < 256) := fun k => by rw [← hP]; exact pf_lt8 _ _ (xb_lt s) k
  have HL : Hid (∀ t i, i < 8 → bls iv P t i < 18446744073709551616) := fun t i hi => bls_lt iv P (fun i _ => hk.lt i) t i hi
  have HZ : Hid (bt (dg8 (bls iv P n)) z = sha iv z s ∧ z ≤ 64 ∧ n ≤ 1099511627776) := ⟨by rw [← hP, ← hn]; rfl, hk.le, by rw [← hn]; unfold nb; omega⟩
  clear hP hn hs hk
  go_enter Tryd.func19, Tryd.ntmps19
  go_wp2_with (first
    | (go_at_call 26; refine (C1.out _).mono ?_; rintro e w' ⟨rfl, rfl⟩)
    | (go_at_call 31; refine (C3.out _).mono ?_; rintro e w1 ⟨rfl, H1, S1⟩)
    | (go_at_call 32; refine (C4.out _).mono ?_; rintro e w2 ⟨rfl, H2, S2⟩)
    | (go_at_call 33; refine (C5.out _).mono ?_; rintro e w3 ⟨g, cap, rfl, hg, H3, S3⟩))
  have l1 := H1.lt
  have l2 := H2.lt
  have hz1 := S1.size
  have H1' := (H1.sm S2).sm S3
  have H2' := H2.sm S3
  have HK : Kp (Fr w.heap.size) w w3 := ((S1.trans S2).trans S3).kp _
  obtain ⟨hb, hhb⟩ : ∃ hb, w.heap.size = hb := ⟨_, rfl⟩
  obtain ⟨kb, hkb⟩ : ∃ kb, w1.heap.size = kb := ⟨_, rfl⟩
  obtain ⟨L, hL⟩ : ∃ L, 128 * n = L := ⟨_, rfl⟩
  have n1 : kb ≠ hb := by omega
  have n2 : g ≠ hb := by omega
  rw [hhb] at H1' HK ⊢
  rw [hkb] at H2' ⊢
  rw [hL] at H3 ⊢
  have HD : Hid (128 * n = L ∧ hb = w.heap.size) := ⟨hL, hhb.symm⟩
  clear H1 H2 S1 S2 S3 l1 l2 hz1 hhb hkb hL hg
  go_loopw [14] (fun i u => ∃ t o : Nat, t ≤ n ∧ o = 128 * t ∧ i = .int .i64 (o : Int) ∧ Bk u hb (wz 8 (bls iv P t)) 68 ∧ Bk u kb (wz 80 kc) 68 ∧ Rb u g L cap P ∧ Kp (Fr hb) w u) (fun i _ => L - (intOf i).toNat)
  case atStart => exact ⟨0, 0, by omega, rfl, rfl, H1', H2', H3, HK⟩
  case round =>
    clear H1' H2' H3 HK
    obtain ⟨t, o, ht, ho, rfl, H1, H2, H3, HK⟩ := hrel
    have hd := HD.out.1
    have hn := HZ.out.2.2
    have hcap := H3.le
    by_cases hlt : o < L
    · have o1 : (o : Int) < (L : Int) := by omega
      have o2 : (o : Int) + 128 ≤ (cap : Int) := by omega
      have o3 : (L : Int) ≤ 140737488355328 := by omega
      have o4 : ¬ cap = o := by omega
      have o5 : (o : Int) ≤ (o : Int) + 128 := by omega
      have C6 : Hid (Unit → ∀ w c, Bk w hb (wz 8 (bls iv P t)) 68 → By w g o 128 (fun i => P (o + i)) → Bk w kb (wz 80 kc) 68 → Calls Tryd.prog 34 #[.slice (some ⟨hb, 0, none⟩) 8 8, .slice (some ⟨g, o, none⟩) 128 c, .slice (some ⟨kb, 0, none⟩) 80 80] w fun e w' => e = .returned (.tuple #[]) ∧ Bk w' hb (wz 8 (bls iv P (t + 1))) 68 ∧ Kp (At1 hb) w w') := fun _ w c h1 h2 h3 => by
        have := block_any hb g o c kb 8 80 (bls iv P t) (fun i => P (o + i)) (fun i hi => HL.out t i hi) (fun i _ => P8.out _) w h1 h2 h3
        rw [ho] at this ⊢
        exact this
      have hB := H3.by o 128 (by omega)
      have HO : Hid (o = 128 * t) := ho
      clear hd hn hcap ho
      go_wp2_with (go_at_call 34; refine (C6.out () _ _ H1 hB H2).mono ?_; rintro e u1 ⟨rfl, H1', K1⟩)
      go_roundw
      case rel => exact ⟨t + 1, o + 128, by have := HD.out.1; have := HO.out; omega, by have := HO.out; omega, by go_num, H1', H2.kp K1 n1, H3.kp K1 n2, HK.trans (K1.mono fun k _ h => Nat.le_of_eq (Eq.symm h))⟩
      case measure => simp [intOf]; omega
    · have o1 : ¬ (o : Int) < (L : Int) := by omega
      have HF : Hid (bt (dg8 (bls iv P t)) z = sha iv z s ∧ z ≤ 64) := by
        obtain rfl : t = n := by omega
        exact ⟨HZ.out.1, HZ.out.2.1⟩
      have F8 : Hid (∀ i, i < 8 → bls iv P t i < 18446744073709551616) := HL.out t
      generalize bls iv P t = F at *
      have hlh := H1.lt
      obtain ⟨v, hv⟩ : ∃ v, wr = v := ⟨_, rfl⟩
      rw [hv] at H1 HK hlh ⊢
      have HKv : Hid (Kp (Fr hb) w v) := HK
      have HH : Hid (Bk v hb (wz 8 F) 68) := H1
      clear hd hn hcap hlt ho ht HZ HL P8 H2 H3 HK H1 hv
      go_wp2
      go_loopw [5, 15] (fun x y u => ∃ k : Nat, k ≤ 8 ∧ y = .int .i64 (k : Int) ∧ Rv u v.heap.size x (8 * k) (dg8 F) ∧ Kp (Fr v.heap.size) v u) (fun _ y _ => 8 - (intOf y).toNat)
      case atStart => exact ⟨0, by omega, rfl, Or.inl ⟨rfl, rfl⟩, Kp.refl _ _⟩
      case round =>
        obtain ⟨k, hk, rfl, HR, HK⟩ := hrel
        by_cases hlt : k < 8
        · have k0 : (0 : Int) ≤ (k : Int) := by omega
          have k1 : (k : Int) < 8 := by omega
          have HH' : Hid (∀ u, Kp (Fr v.heap.size) v u → u.cell? ⟨hb, k, none⟩ = some (.int .u64 ((F k : Nat) : Int))) := fun u hu => ((HH.out.kp hu (fun e => by have : v.heap.size ≤ hb := e; omega)).cell k).trans (wz_get 8 F k hlt)
          have hx := F8.out k hlt
          have HD8 : Hid (∀ c j, j + c = 7 → dg8 F (8 * k + c) = F k / 2 ^ (8 * j) % 256) := fun c j h => dg8_of F k c j h
          generalize F k = x at *
          have HX8 : Hid (x < 18446744073709551616) := hx
          have HK8 : Hid (k < 8) := hlt
          clear hx hlt hk
          go_wp2
          go_loopw [5, 16] (fun X y u => ∃ (c : Nat) (J : Int), c ≤ 8 ∧ J + (c : Int) = 7 ∧ y = .int .i64 J ∧ Rv u v.heap.size X (8 * k + c) (dg8 F) ∧ Kp (Fr v.heap.size) v u) (fun _ y _ => (intOf y + 1).toNat)
          case atStart => exact ⟨0, 7, by omega, by omega, rfl, HR, HK⟩
          case round =>
            clear HR HK
            obtain ⟨c, J, hc, hJ, rfl, HR, HK⟩ := hrel
            by_cases hl : c < 8
            · obtain ⟨j, rfl⟩ := Int.eq_ofNat_of_zero_le (show 0 ≤ J by omega)
              have hp := HD8.out c j (by omega)
              have ha := and255 x (8 * j) HX8.out
              obtain ⟨p, hpp⟩ : ∃ p, x / 2 ^ (8 * j) % 256 = p := ⟨_, rfl⟩
              have p1 : (p : Int) < 256 := by have := Nat.mod_lt (x / 2 ^ (8 * j)) (show 0 < 256 by decide); omega
              rw [hpp] at ha hp
              have j0 : (0 : Int) ≤ (j : Int) := by omega
              have j1 : (j : Int) ≤ 7 := by omega
              have hsz := HK.size
              have hk8 := HK8.out
              have c1 := HH'.out _ HK
              obtain ⟨M, hM⟩ : ∃ M, 8 * k + c = M := ⟨_, rfl⟩
              rw [hM] at HR hp
              obtain ⟨g2, cap2, u2, hap, hg2, HR2, K2⟩ := ap1_run (World.alloc wr (.cells #[.int .u8 (p : Int)] 5)) v.heap.size wr.heap.size M 1 1 _ (dg8 F) (HR.sm ((Sm.refl _).alloc _)) (fun j hj => by
                obtain rfl : j = 0 := by omega
                rw [(Bk.new _ #[.int .u8 (p : Int)] 5).cell 0, Nat.add_zero, hp]
                rfl) (by omega) (by omega) (by simp; omega)
              have HK2 := (HK.alloc (.cells #[.int .u8 (p : Int)] 5)).trans K2
              obtain ⟨M1, hM1⟩ : ∃ M1, M + 1 = M1 := ⟨_, rfl⟩
              rw [hM1] at hap HR2
              have hc1 : 8 * k + (c + 1) = M1 := by omega
              clear HR HK hp hpp hM hM1 hk8
              go_wp2
              go_roundw
              case rel => exact ⟨c + 1, (j : Int) - 1, by omega, by omega, by go_num, Or.inr ⟨g2, cap2, by rw [hc1], hg2, by rw [hc1]; exact HR2⟩, HK2⟩
              case measure => simp [intOf]
            · have hJ1 : J = -1 := by omega
              have hkk : 8 * k + c = 8 * (k + 1) := by omega
              subst hJ1
              rw [hkk] at HR
              clear hl hc hJ hkk
              go_wp2
              go_roundw
              case rel => exact ⟨k + 1, HK8.out, by go_num, HR, HK⟩
              case measure => simp [intOf]; have := HK8.out; omega
        · have ki : ¬ (k : Int) < 8 := by omega
          obtain ⟨g2, cap2, rfl, hg2, HRb⟩ : ∃ g cap, _ ∧ _ ∧ _ := HR.resolve_left (fun h => by omega)
          have h4 : 8 * k = 64 := by omega
          rw [h4] at HRb ⊢
          have hle := HRb.le
          have hz := HF.out.2
          have cv := fun c => cvS_run _ g2 0 z c (dg8 F) fun i hi => by rw [Nat.zero_add]; exact HRb.cell i (by omega)
          have z1 : (z : Int) ≤ (cap2 : Int) := by omega
          clear hlt hk h4 hle hz HRb HR
          go_wp2_with (go_at_call 18; refine (C2.out _).mono ?_; rintro e w' ⟨rfl, rfl⟩)
          go_ret
          refine ⟨congrArg (fun z => Ending.returned (Value.string z)) HF.out.1, Sm.of ?_⟩
          have e := HD.out.2
          have hKv := HKv.out
          rw [e] at hKv
          exact hKv.trans (HK.mono fun j _ h => by have h1 : v.heap.size ≤ j := h; have := hKv.size; show w.heap.size ≤ j; omega)
end Go.Proofs.YtledggjbijoijaaDoor.L8
