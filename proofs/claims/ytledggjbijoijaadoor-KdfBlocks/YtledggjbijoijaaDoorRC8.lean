/-
  The documents' long text with its end (curvetref7.long).
-/
import Derived.Test.YtledggjbijoijaaDoorRB8
import Derived.Test.YtledggjbijoijaaDoorRCg
namespace Go.Proofs.YtledggjbijoijaaDoor.L8
open Go.RowKit
attribute [local go_sem ↓] ap1_is cvB_is
set_option maxRecDepth 100000 in
set_option maxHeartbeats 1600000 in
theorem long_any (s : ByteArray) (hs : s.size ≤ 140737488351232) (w : World) :
    Calls Tryd.prog 33 #[.string s] w fun e w' => ∃ g cap, e = .returned (.slice (some ⟨g, 0, none⟩) (128 * nb s.size) cap) ∧ w.heap.size ≤ g ∧ Rb w' g (128 * nb s.size) cap (pf s.size (xb s)) ∧ Sm w w' := by
  obtain ⟨n, hn⟩ : ∃ n, s.size = n := ⟨_, rfl⟩
  obtain ⟨P, hP⟩ : ∃ P, pf n (xb s) = P := ⟨_, rfl⟩
  have P0 : ∀ i, i < n → P i = xb s i := fun i hi => by rw [← hP]; unfold pf; rw [if_pos hi]
  have P1 : P n = 128 := by rw [← hP]; unfold pf; rw [if_neg (by omega), if_pos rfl]
  have P2 : Hid (∀ i, n < i → i < 128 * nb n - 8 → P i = 0) := fun i h1 h2 => by rw [← hP]; unfold pf; rw [if_neg (by omega), if_neg (by omega), if_pos h2]
  have P3 : Hid (∀ i, 128 * nb n - 8 ≤ i → i < 128 * nb n → P i = n * 8 / 2 ^ (8 * (128 * nb n - 1 - i)) % 256) := fun i h1 h2 => by
    have : n < 128 * nb n - 8 := by unfold nb; omega
    rw [← hP]; unfold pf; rw [if_neg (by omega), if_neg (by omega), if_neg (by omega)]
  obtain ⟨cap0, w0, hcv, HR0, S0⟩ := cvB_run w s P (by rw [hn]; exact P0)
  rw [hn] at hcv HR0
  have HV0 : Rv (w0.alloc (.cells #[.int .u8 128] 5)) w.heap.size (.slice (some ⟨w.heap.size, 0, none⟩) n cap0) n P := Or.inr ⟨_, _, rfl, Nat.le_refl _, HR0.sm ((Sm.refl _).alloc _)⟩
  obtain ⟨g1, cap1, w1, hap1, hg1, HR1, K1⟩ := ap1_run (w0.alloc (.cells #[.int .u8 128] 5)) w.heap.size w0.heap.size n 1 1 _ P HV0 (fun j hj => by
    obtain rfl : j = 0 := by omega
    rw [(Bk.new w0 #[.int .u8 128] 5).cell 0, Nat.add_zero, P1]
    rfl) (by omega) (by omega) (by have := S0.size; simp; omega)
  have HK1 : Kp (Fr w.heap.size) w w1 := ((S0.kp _).alloc _).trans K1
  have h64 : 128 * nb n = n + 1 + (128 * nb n - 16 - (n + 1)) + 16 := by unfold nb; omega
  obtain ⟨q, hq⟩ : ∃ q, 128 * nb n - 16 - (n + 1) = q := ⟨_, rfl⟩
  rw [hq] at h64
  have HQ : Hid (128 * nb n = n + 1 + q + 16 ∧ q < 128 ∧ n ≤ 140737488351232) := ⟨h64, by unfold nb at h64; omega, by omega⟩
  obtain ⟨N1, hN1⟩ : ∃ N, n + 1 = N := ⟨_, rfl⟩
  rw [hN1] at HR1 hap1
  have HN1 : Hid (n + 1 = N1) := hN1
  rw [hn, hP]
  clear HR0 HV0 K1 S0 P0 P1 hP h64 hq hN1 hs
  go_enter Tryd.func33, Tryd.ntmps33
  go_wp2
  clear hcv hap1
  go_loopw [3] (fun x u => ∃ g cap N, n + 1 ≤ N ∧ N ≤ n + 1 + q ∧ x = .slice (some ⟨g, 0, none⟩) N cap ∧ w.heap.size ≤ g ∧ Rb u g N cap P ∧ Kp (Fr w.heap.size) w u) (fun x _ => (match x with | .slice _ m _ => n + 1 + q - m | _ => 0))
  case atStart => exact ⟨g1, cap1, N1, by rw [HN1.out]; exact Nat.le_refl _, by rw [← HN1.out]; omega, rfl, hg1, HR1, HK1⟩
  case round =>
    clear HR1 HK1 hg1 HN1
    obtain ⟨g, cap, N, hN1, hN2, rfl, hg, HR, HK⟩ := hrel
    have hx := HQ.out
    have hN : (N : Int) < 9223372036854775807 := by omega
    by_cases hlt : N < n + 1 + q
    · have e : ((N : Int) % 128 != 112) = true := by simp; omega
      have hsz := HK.size
      obtain ⟨g2, cap2, u2, hap, hg2, HR2, K2⟩ := ap1_run (World.alloc _ (.cells #[.int .u8 0] 5)) w.heap.size _ N 1 1 (.slice (some ⟨g, 0, none⟩) N cap) P (Or.inr ⟨_, _, rfl, hg, HR.sm ((Sm.refl _).alloc _)⟩) (fun j hj => by
        obtain rfl : j = 0 := by omega
        rw [(Bk.new _ #[.int .u8 0] 5).cell 0, Nat.add_zero, P2.out N (by omega) (by omega)]
        rfl) (by omega) (by omega) (by simp; omega)
      have HK2 := (HK.alloc (.cells #[.int .u8 0] 5)).trans K2
      obtain ⟨M1, hM1⟩ : ∃ M, N + 1 = M := ⟨_, rfl⟩
      rw [hM1] at hap HR2
      clear HR HK hx
      go_wp2
      go_roundw
      case rel => exact ⟨g2, cap2, M1, by omega, by omega, rfl, hg2, HR2, HK2⟩
      case measure => show n + 1 + q - M1 < n + 1 + q - N; omega
    · have e : ((N : Int) % 128 != 112) = false := by simp; omega
      obtain ⟨Z, hZ⟩ : ∃ Z, n + 1 + q = Z := ⟨_, rfl⟩
      obtain rfl : N = Z := by omega
      have P5 : Hid (∀ k, k < 8 → P (N + k) = 0) := fun k hk => P2.out (N + k) (by omega) (by omega)
      have HN : Hid (128 * nb n = N + 16 ∧ N ≤ 140737488351400 ∧ n ≤ 140737488351232) := ⟨by omega, by omega, by omega⟩
      clear hx hN1 hN2 hlt P2 HQ
      go_wp2
      go_loopw [3, 4] (fun x y u => ∃ (g cap k : Nat), k ≤ 8 ∧ y = .int .i64 (k : Int) ∧ x = .slice (some ⟨g, 0, none⟩) (N + k) cap ∧ w.heap.size ≤ g ∧ Rb u g (N + k) cap P ∧ Kp (Fr w.heap.size) w u) (fun _ y _ => 8 - (intOf y).toNat)
      case atStart => exact ⟨g, cap, 0, by omega, rfl, rfl, hg, HR, HK⟩
      case round =>
        clear hg HR HK
        obtain ⟨g, cap, k, hk, rfl, rfl, hg, HR, HK⟩ := hrel
        by_cases hlt : k < 8
        · have k0 : (0 : Int) ≤ (k : Int) := by omega
          have k1 : (k : Int) < 8 := by omega
          have hp := P5.out k hlt
          have hsz := HK.size
          have hNN := HN.out.2.1
          obtain ⟨M, hM⟩ : ∃ M, N + k = M := ⟨_, rfl⟩
          rw [hM] at HR hp ⊢
          obtain ⟨g2, cap2, u2, hap, hg2, HR2, K2⟩ := ap1_run (World.alloc _ (.cells #[.int .u8 0] 5)) w.heap.size _ M 1 1 (.slice (some ⟨g, 0, none⟩) M cap) P (Or.inr ⟨_, _, rfl, hg, HR.sm ((Sm.refl _).alloc _)⟩) (fun j hj => by
            obtain rfl : j = 0 := by omega
            rw [(Bk.new _ #[.int .u8 0] 5).cell 0, Nat.add_zero, hp]
            rfl) (by omega) (by omega) (by simp; omega)
          have HK2 := (HK.alloc (.cells #[.int .u8 0] 5)).trans K2
          obtain ⟨M1, hM1⟩ : ∃ M1, M + 1 = M1 := ⟨_, rfl⟩
          rw [hM1] at hap HR2
          clear HR HK hp hNN
          go_wp2
          go_roundw
          case rel => exact ⟨g2, cap2, k + 1, by omega, by go_num, by rw [show N + (k + 1) = M1 by omega], hg2, by rw [show N + (k + 1) = M1 by omega]; exact HR2, HK2⟩
          case measure => simp [intOf]; omega
        · have ki : ¬ (k : Int) < 8 := by omega
          obtain ⟨O, hO⟩ : ∃ O, N + k = O := ⟨_, rfl⟩
          rw [hO] at HR ⊢
          have hnn := HN.out
          have hkO : O = N + 8 := by omega
          obtain ⟨B, hB⟩ : ∃ B, n * 8 = B := ⟨_, rfl⟩
          have HB : Hid (Unit → IntKind.u64.wrap ((n : Int) * 8) = (B : Int)) := fun _ => by rw [IntKind.wrap_u64]; omega
          have P4 : Hid (∀ j i, j ≤ 7 → j + i + 1 = 128 * nb n → P i = B / 2 ^ (8 * j) % 256) := fun j i h1 h2 => by rw [P3.out i (by omega) (by omega), hB, show 128 * nb n - 1 - i = j by omega]
          have HB2 : Hid (B < 18446744073709551616) := show B < _ by omega
          have hNe : O + 8 = 128 * nb n := by omega
          have HNe : Hid (O + 8 = 128 * nb n ∧ O ≤ 140737488351500) := ⟨hNe, by omega⟩
          clear hnn hkO hO hlt hk hB P3 hNe
          go_wp2
          rw [HB.out ()]
          go_loopw [3, 6] (fun x y u => ∃ (g cap k : Nat) (J : Int), k ≤ 8 ∧ J + (k : Int) = 7 ∧ y = .int .i64 J ∧ x = .slice (some ⟨g, 0, none⟩) (O + k) cap ∧ w.heap.size ≤ g ∧ Rb u g (O + k) cap P ∧ Kp (Fr w.heap.size) w u) (fun _ y _ => (intOf y + 1).toNat)
          case atStart => exact ⟨g, cap, 0, 7, by omega, by omega, rfl, rfl, hg, HR, HK⟩
          case round =>
            clear HR HK hg e hN
            obtain ⟨g, cap, k, J, hk, hJ, rfl, rfl, hg, HR, HK⟩ := hrel
            have hNN := HNe.out
            by_cases hlt : k < 8
            · obtain ⟨j, rfl⟩ := Int.eq_ofNat_of_zero_le (show 0 ≤ J by omega)
              have hp := P4.out j (O + k) (by omega) (by omega)
              have ha := and255 B (8 * j) HB2.out
              obtain ⟨p, hpp⟩ : ∃ p, B / 2 ^ (8 * j) % 256 = p := ⟨_, rfl⟩
              have p1 : (p : Int) < 256 := by have := Nat.mod_lt (B / 2 ^ (8 * j)) (show 0 < 256 by decide); omega
              rw [hpp] at ha hp
              have j0 : (0 : Int) ≤ (j : Int) := by omega
              have j1 : (j : Int) ≤ 7 := by omega
              have hsz := HK.size
              obtain ⟨M, hM⟩ : ∃ M, O + k = M := ⟨_, rfl⟩
              rw [hM] at HR hp ⊢
              obtain ⟨g2, cap2, u2, hap, hg2, HR2, K2⟩ := ap1_run (World.alloc _ (.cells #[.int .u8 (p : Int)] 5)) w.heap.size _ M 1 1 (.slice (some ⟨g, 0, none⟩) M cap) P (Or.inr ⟨_, _, rfl, hg, HR.sm ((Sm.refl _).alloc _)⟩) (fun j hj => by
                obtain rfl : j = 0 := by omega
                rw [(Bk.new _ #[.int .u8 (p : Int)] 5).cell 0, Nat.add_zero, hp]
                rfl) (by omega) (by omega) (by simp; omega)
              have HK2 := (HK.alloc (.cells #[.int .u8 (p : Int)] 5)).trans K2
              obtain ⟨M1, hM1⟩ : ∃ M1, M + 1 = M1 := ⟨_, rfl⟩
              rw [hM1] at hap HR2
              clear HR HK hNN hp hpp
              go_wp2
              go_roundw
              case rel => exact ⟨g2, cap2, k + 1, (j : Int) - 1, by omega, by omega, by go_num, by rw [show O + (k + 1) = M1 by omega], hg2, by rw [show O + (k + 1) = M1 by omega]; exact HR2, HK2⟩
              case measure => simp [intOf]
            · have hJ1 : J = -1 := by omega
              have hkk : O + k = 128 * nb n := by omega
              subst hJ1
              rw [hkk] at HR ⊢
              clear hNN hlt hk hJ hkk
              go_wp2
              go_ret
              exact ⟨g, cap, rfl, hg, HR, Sm.of HK⟩
end Go.Proofs.YtledggjbijoijaaDoor.L8
