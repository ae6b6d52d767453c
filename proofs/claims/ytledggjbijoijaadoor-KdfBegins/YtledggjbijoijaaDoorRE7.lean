/-
  The documents' digest (curvetref7.Of), whole.
-/
import Derived.Test.YtledggjbijoijaaDoorRD7
namespace Go.Proofs.YtledggjbijoijaaDoor
open Go.RowKit
theorem pf_lt8 (n : Nat) (t : Nat → Nat) (ht : ∀ k, t k < 256) (k : Nat) : pf n t k < 256 := by
  unfold pf
  split
  · exact ht k
  · split
    · decide
    · split
      · decide
      · exact Nat.mod_lt _ (by decide)
theorem and255w (B k : Nat) (hB : B < 4294967296) : bits .and .u32 ((B : Int) / (k : Int)) 255 = ((B / k % 256 : Nat) : Int) := by
  rw [← Int.natCast_ediv, show (255 : Int) = ((255 : Nat) : Int) from rfl, u32_and_nat _ _ (Nat.lt_of_le_of_lt (Nat.div_le_self _ _) hB) (by decide), nat_mask8]
attribute [local go_sem ↓] ap1_is cvS_is
set_option maxRecDepth 100000 in
set_option maxHeartbeats 1600000 in
theorem rof_any (id : Int) (iv : Nat → Nat) (z : Nat) (hk : Kr id iv z) (s : ByteArray) (hs : s.size ≤ 140737488351232) (w : World) :
    Calls Tryd.prog 19 #[.int .i64 id, .string s] w fun e w' => e = .returned (.string (sha iv z s)) ∧ Sm w w' := by
  have C1 : Hid (∀ w, Calls Tryd.prog 26 #[.int .i64 id] w fun e w' => e = .returned (.int .i64 64) ∧ w = w') := fun w => rblock_any id iv z hk w
  have C2 : Hid (∀ w, Calls Tryd.prog 18 #[.int .i64 id] w fun e w' => e = .returned (.int .i64 (z : Int)) ∧ w = w') := fun w => rsize_any id iv z hk w
  have C3 : Hid (∀ w, Calls Tryd.prog 27 #[.int .i64 id] w fun e w' => e = .returned (.slice (some ⟨w.heap.size, 0, none⟩) 8 8) ∧ Bk w' w.heap.size (wz 8 iv) 39 ∧ Sm w w') := fun w => rbegin_any id iv z hk w
  have C4 : Hid (∀ w, Calls Tryd.prog 28 #[] w fun e w' => e = .returned (.slice (some ⟨w.heap.size, 0, none⟩) 64 64) ∧ Bk w' w.heap.size (wz 64 kc) 39 ∧ Sm w w') := rk_any
  obtain ⟨P, hP⟩ : ∃ P, pf s.size (xb s) = P := ⟨_, rfl⟩
  obtain ⟨n, hn⟩ : ∃ n, nb s.size = n := ⟨_, rfl⟩
  have C5 : Hid (∀ w, Calls Tryd.prog 29 #[.string s] w fun e w' => ∃ g cap, e = .returned (.slice (some ⟨g, 0, none⟩) (64 * n) cap) ∧ w.heap.size ≤ g ∧ Rb w' g (64 * n) cap P ∧ Sm w w') := fun w => by rw [← hP, ← hn]; exact padded_any s hs w
  have P8 : Hid (∀ k, P k < 256) := fun k => by rw [← hP]; exact pf_lt8 _ _ (xb_lt s) k
  have HL : Hid (∀ t i, i < 8 → bls iv P t i < 4294967296) := fun t i hi => bls_lt iv P (fun i _ => hk.lt i) t i hi
  have HZ : Hid (bt (dg8 (bls iv P n)) z = sha iv z s ∧ z ≤ 32 ∧ n ≤ 2199023255552) := ⟨by rw [← hP, ← hn]; rfl, hk.le, by rw [← hn]; unfold nb; omega⟩
  clear hP hn hs hk
  go_enter Tryd.func19, Tryd.ntmps19
  go_wp2_with (first
    | (go_at_call 26; refine (C1.out _).mono ?_; rintro e w' ⟨rfl, rfl⟩)
    | (go_at_call 27; refine (C3.out _).mono ?_; rintro e w1 ⟨rfl, H1, S1⟩)
    | (go_at_call 28; refine (C4.out _).mono ?_; rintro e w2 ⟨rfl, H2, S2⟩)
    | (go_at_call 29; refine (C5.out _).mono ?_; rintro e w3 ⟨g, cap, rfl, hg, H3, S3⟩))
  have l1 := H1.lt
  have l2 := H2.lt
  have hz1 := S1.size
  have H1' := (H1.sm S2).sm S3
  have H2' := H2.sm S3
  have HK : Kp (Fr w.heap.size) w w3 := ((S1.trans S2).trans S3).kp _
  obtain ⟨hb, hhb⟩ : ∃ hb, w.heap.size = hb := ⟨_, rfl⟩
  obtain ⟨kb, hkb⟩ : ∃ kb, w1.heap.size = kb := ⟨_, rfl⟩
  obtain ⟨L, hL⟩ : ∃ L, 64 * n = L := ⟨_, rfl⟩
  have n1 : kb ≠ hb := by omega
  have n2 : g ≠ hb := by omega
  rw [hhb] at H1' HK ⊢
  rw [hkb] at H2' ⊢
  rw [hL] at H3 ⊢
  have HD : Hid (64 * n = L ∧ hb = w.heap.size) := ⟨hL, hhb.symm⟩
  clear H1 H2 S1 S2 S3 l1 l2 hz1 hhb hkb hL hg
  go_loopw [9] (fun i u => ∃ t o : Nat, t ≤ n ∧ o = 64 * t ∧ i = .int .i64 (o : Int) ∧ Bk u hb (wz 8 (bls iv P t)) 39 ∧ Bk u kb (wz 64 kc) 39 ∧ Rb u g L cap P ∧ Kp (Fr hb) w u) (fun i _ => L - (intOf i).toNat)
  case atStart => exact ⟨0, 0, by omega, rfl, rfl, H1', H2', H3, HK⟩
  case round =>
    clear H1' H2' H3 HK
    obtain ⟨t, o, ht, ho, rfl, H1, H2, H3, HK⟩ := hrel
    have hd := HD.out.1
    have hn := HZ.out.2.2
    have hcap := H3.le
    by_cases hlt : o < L
    · have o1 : (o : Int) < (L : Int) := by omega
      have o2 : (o : Int) + 64 ≤ (cap : Int) := by omega
      have o3 : (L : Int) ≤ 140737488355328 := by omega
      have o4 : ¬ cap = o := by omega
      have o5 : (o : Int) ≤ (o : Int) + 64 := by omega
      have C6 : Hid (Unit → ∀ w c, Bk w hb (wz 8 (bls iv P t)) 39 → By w g o 64 (fun i => P (o + i)) → Bk w kb (wz 64 kc) 39 → Calls Tryd.prog 30 #[.slice (some ⟨hb, 0, none⟩) 8 8, .slice (some ⟨g, o, none⟩) 64 c, .slice (some ⟨kb, 0, none⟩) 64 64] w fun e w' => e = .returned (.tuple #[]) ∧ Bk w' hb (wz 8 (bls iv P (t + 1))) 39 ∧ Kp (At1 hb) w w') := fun _ w c h1 h2 h3 => by
        have := block_any hb g o c kb 8 64 (bls iv P t) (fun i => P (o + i)) (fun i hi => HL.out t i hi) (fun i _ => P8.out _) w h1 h2 h3
        rw [ho] at this ⊢
        exact this
      have hB := H3.by o 64 (by omega)
      have HO : Hid (o = 64 * t) := ho
      clear hd hn hcap ho
      go_wp2_with (go_at_call 30; refine (C6.out () _ _ H1 hB H2).mono ?_; rintro e u1 ⟨rfl, H1', K1⟩)
      go_roundw
      case rel => exact ⟨t + 1, o + 64, by have := HD.out.1; have := HO.out; omega, by have := HO.out; omega, by go_num, H1', H2.kp K1 n1, H3.kp K1 n2, HK.trans (K1.mono fun k _ h => Nat.le_of_eq (Eq.symm h))⟩
      case measure => simp [intOf]; omega
    · have o1 : ¬ (o : Int) < (L : Int) := by omega
      have HF : Hid (bt (dg8 (bls iv P t)) z = sha iv z s ∧ z ≤ 32) := by
        obtain rfl : t = n := by omega
        exact ⟨HZ.out.1, HZ.out.2.1⟩
      have F8 : Hid (∀ i, i < 8 → bls iv P t i < 4294967296) := HL.out t
      generalize bls iv P t = F at *
      have hlh := H1.lt
      obtain ⟨v, hv⟩ : ∃ v, wr = v := ⟨_, rfl⟩
      rw [hv] at H1 HK hlh ⊢
      have HKv : Hid (Kp (Fr hb) w v) := HK
      have HH : Hid (Bk v hb (wz 8 F) 39) := H1
      clear hd hn hcap hlt ho ht HZ HL P8 H2 H3 HK H1 hv
      go_wp2
      go_loopw [5, 10] (fun x y u => ∃ k : Nat, k ≤ 8 ∧ y = .int .i64 (k : Int) ∧ Rv u v.heap.size x (4 * k) (dg8 F) ∧ Kp (Fr v.heap.size) v u) (fun _ y _ => 8 - (intOf y).toNat)
      case atStart => exact ⟨0, by omega, rfl, Or.inl ⟨rfl, rfl⟩, Kp.refl _ _⟩
      case round =>
        obtain ⟨k, hk, rfl, HR, HK⟩ := hrel
        by_cases hlt : k < 8
        · have k0 : (0 : Int) ≤ (k : Int) := by omega
          have k1 : (k : Int) < 8 := by omega
          have c1 := ((HH.out.kp HK (fun e => by have : v.heap.size ≤ hb := e; omega)).cell k).trans (wz_get 8 F k hlt)
          have hx := F8.out k hlt
          obtain ⟨x, hxx⟩ : ∃ x, F k = x := ⟨_, rfl⟩
          rw [hxx] at c1 hx
          have e0 : (x : Int) / 16777216 = ((x / 16777216 % 256 : Nat) : Int) := by omega
          have e1 : bits .and .u32 ((x : Int) / 65536) 255 = ((x / 65536 % 256 : Nat) : Int) := and255w x 65536 hx
          have e2 : bits .and .u32 ((x : Int) / 256) 255 = ((x / 256 % 256 : Nat) : Int) := and255w x 256 hx
          have e3 : bits .and .u32 (x : Int) 255 = ((x / 1 % 256 : Nat) : Int) := by
            have := and255w x 1 hx
            rw [Int.natCast_one, Int.ediv_one] at this
            exact this
          have g0 : dg8 F (4 * k + 0) = x / 16777216 % 256 := by unfold dg8; rw [show (4 * k + 0) / 4 = k by omega, show 8 * (3 - (4 * k + 0) % 4) = 24 by omega, hxx]
          have g1 : dg8 F (4 * k + 1) = x / 65536 % 256 := by unfold dg8; rw [show (4 * k + 1) / 4 = k by omega, show 8 * (3 - (4 * k + 1) % 4) = 16 by omega, hxx]
          have g2 : dg8 F (4 * k + 2) = x / 256 % 256 := by unfold dg8; rw [show (4 * k + 2) / 4 = k by omega, show 8 * (3 - (4 * k + 2) % 4) = 8 by omega, hxx]
          have g3 : dg8 F (4 * k + 3) = x / 1 % 256 := by unfold dg8; rw [show (4 * k + 3) / 4 = k by omega, show 8 * (3 - (4 * k + 3) % 4) = 0 by omega, hxx]
          have m0 : ((x / 16777216 % 256 : Nat) : Int) < 256 := by omega
          have m1 : ((x / 65536 % 256 : Nat) : Int) < 256 := by omega
          have m2 : ((x / 256 % 256 : Nat) : Int) < 256 := by omega
          have m3 : ((x / 1 % 256 : Nat) : Int) < 256 := by omega
          generalize x / 16777216 % 256 = d0 at *
          generalize x / 65536 % 256 = d1 at *
          generalize x / 256 % 256 = d2 at *
          generalize x / 1 % 256 = d3 at *
          have hsz := HK.size
          obtain ⟨N, hN⟩ : ∃ N, 4 * k = N := ⟨_, rfl⟩
          rw [hN] at HR g0 g1 g2 g3
          have hNb := Bk.new wr #[.int .u8 (d0 : Int), .int .u8 (d1 : Int), .int .u8 (d2 : Int), .int .u8 (d3 : Int)] 5
          obtain ⟨g', cap', u2, hap, hg', HR2, K2⟩ := ap1_run (World.drew (World.alloc wr (.cells #[.int .u8 (d0 : Int), .int .u8 (d1 : Int), .int .u8 (d2 : Int), .int .u8 (d3 : Int)] 5))) v.heap.size wr.heap.size N 4 4 _ (dg8 F) (HR.sm (((Sm.refl _).alloc _).drew)) (fun j hj => by
            refine (hNb.cell j).trans ?_
            match j, hj with
            | 0, _ => rw [g0]; rfl
            | 1, _ => rw [g1]; rfl
            | 2, _ => rw [g2]; rfl
            | 3, _ => rw [g3]; rfl) (by omega) (by omega) (by simp; omega)
          have HK2 := (HK.alloc (.cells #[.int .u8 (d0 : Int), .int .u8 (d1 : Int), .int .u8 (d2 : Int), .int .u8 (d3 : Int)] 5)).drew.trans K2
          clear HR HK g0 g1 g2 g3 hNb
          go_wp2
          go_big_region
          go_wp2
          go_roundw
          case rel => exact ⟨k + 1, by omega, by go_num, Or.inr ⟨g', cap', by rw [show 4 * (k + 1) = N + 4 by omega], hg', by rw [show 4 * (k + 1) = N + 4 by omega]; exact HR2⟩, HK2⟩
          case measure => simp [intOf]; omega
        · have ki : ¬ (k : Int) < 8 := by omega
          obtain ⟨g2, cap2, rfl, hg2, HRb⟩ : ∃ g cap, _ ∧ _ ∧ _ := HR.resolve_left (fun h => by omega)
          have h4 : 4 * k = 32 := by omega
          rw [h4] at HRb ⊢
          have hle := HRb.le
          have hz := HF.out.2
          have cv := fun c => cvS_run _ g2 0 z c (dg8 F) fun i hi => by rw [Nat.zero_add]; exact HRb.cell i (by omega)
          have z1 : (z : Int) ≤ (cap2 : Int) := by omega
          clear hlt hk h4 hle hz HRb HR
          go_wp2_with (go_at_call 18; refine (C2.out _).mono ?_; rintro e w' ⟨rfl, rfl⟩)
          go_ret
          refine ⟨congrArg (fun z => Ending.returned (Value.string z)) HF.out.1, Sm.of ?_⟩
          have e := HD.out.2
          have hKv := HKv.out
          rw [e] at hKv
          exact hKv.trans (HK.mono fun j _ h => by have h1 : v.heap.size ≤ j := h; have := hKv.size; show w.heap.size ≤ j; omega)
end Go.Proofs.YtledggjbijoijaaDoor
