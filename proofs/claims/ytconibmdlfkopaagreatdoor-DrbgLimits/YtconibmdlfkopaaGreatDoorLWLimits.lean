/-
  The statement DrbgLimits, walked: it answers true for any text and every two numbers.
-/
import Derived.Test.YtconibmdlfkopaaGreatDoorWI
namespace Go.Proofs.YtconibmdlfkopaaGreatDoor
open Go.RowKit
/-- Key and value behind k requests of n bytes. -/
def gs (id : Int) (z n : Nat) (p : ByteArray × ByteArray) : Nat → ByteArray × ByteArray
  | 0 => p
  | k + 1 => gnx id z n ⟨#[]⟩ (gs id z n p k)
theorem gs_wf {id k : Int} {z : Nat} (h : Hi id (z : Int) k) (n : Nat) (p : ByteArray × ByteArray) (hp : Wf z p) : ∀ j, Wf z (gs id z n p j)
  | 0 => hp
  | _ + 1 => gnx_wf h _ _ _
set_option maxRecDepth 100000 in
set_option maxHeartbeats 3200000 in
theorem lwlimits_any (E : ByteArray) (i s : Int) (hE : E.size ≤ 140737488351232) (w : World) (hK : KK w) :
    Calls Tryz.prog 5 #[.string E, .int .i64 i, .int .i64 s] w fun e w' => e = .returned (.bool true) ∧ Sm w w' := by
  have CN : Hid (∀ x w, Calls Tryz.prog 13 #[.int .i64 x] w fun e w' => e = .returned (.int .i64 x) ∧ w = w') := num7_any
  have CA : Hid (∀ w, KK w → Calls Tryz.prog 14 #[] w fun e w' => e = .returned (.bool true) ∧ Sm w w') := awake11_any
  have HK : Hid (KK w) := hK
  obtain ⟨p, hp, hp4⟩ := and_3 i
  obtain ⟨n, hn, hn8⟩ := and_7 s
  obtain ⟨z, kk, h⟩ := hi_nat p hp4
  have hs : (e32 ++ E).size = 32 + E.size := by rw [ByteArray.size_append]; rfl
  have e32' : e32 = ⟨#[48, 49, 50, 51, 52, 53, 54, 55, 56, 57, 97, 98, 99, 100, 101, 102, 48, 49, 50, 51, 52, 53, 54, 55, 56, 57, 97, 98, 99, 100, 101, 102]⟩ := rfl
  rw [e32'] at hs
  generalize hS : (⟨#[48, 49, 50, 51, 52, 53, 54, 55, 56, 57, 97, 98, 99, 100, 101, 102, 48, 49, 50, 51, 52, 53, 54, 55, 56, 57, 97, 98, 99, 100, 101, 102]⟩ ++ E : ByteArray) = S at *
  obtain ⟨A, hA1, hA2, hc⟩ : ∃ A : ByteArray, 32 ≤ A.size ∧ A.size ≤ 100 ∧ ((100 < S.size ∧ S.extract 0 100 = A) ∨ (¬ 100 < S.size ∧ S = A)) := by
    by_cases c : 100 < S.size
    · exact ⟨S.extract 0 100, by rw [ex_sz]; omega, by rw [ex_sz]; omega, Or.inl ⟨c, rfl⟩⟩
    · exact ⟨S, by omega, by omega, Or.inr ⟨c, rfl⟩⟩
  have heo : Eo (z : Int) A := eo_32 h _ hA1 (by omega)
  have hno : No (z : Int) A ⟨#[]⟩ ⟨#[]⟩ := ⟨heo, by decide, by decide⟩
  have C1 : Hid (∀ w, KK w → Calls Tryz.prog 11 #[.int .i64 (1 + (p : Int)), .string A, .string ⟨#[]⟩, .string ⟨#[]⟩] w fun e w' => ∃ d, e = .returned (.tuple #[.pointer (some ⟨d, 0, none⟩), .int .i64 0]) ∧ w.heap.size ≤ d ∧ Dg w' d (1 + (p : Int)) (upd (1 + (p : Int)) ((A ++ ⟨#[]⟩) ++ ⟨#[]⟩) (ini z)) 1 ∧ Sm w w') := fun w hw => dnew_ok _ kk z h _ _ _ hno w hw
  have hwf := upd_wf h ((A ++ ⟨#[]⟩) ++ ⟨#[]⟩) (ini z)
  generalize upd (1 + (p : Int)) ((A ++ ⟨#[]⟩) ++ ⟨#[]⟩) (ini z) = q at *
  have hz := gs_wf h n q hwf
  have C2 : Hid (∀ (j : Nat) d w, j < 64 → KK w → Nc d → Dg w d (1 + (p : Int)) (gs (1 + (p : Int)) z n q j) (1 + (j : Int)) → Calls Tryz.prog 15 #[.pointer (some ⟨d, 0, none⟩), .int .i64 (n : Int), .string ⟨#[]⟩] w fun e w' => ∃ t, e = .returned (.tuple #[.string t, .int .i64 0]) ∧ Kp (At1 d) w w' ∧ Dg w' d (1 + (p : Int)) (gs (1 + (p : Int)) z n q (j + 1)) (1 + ((j + 1 : Nat) : Int))) := fun j d w hj k1 k2 k3 => by
    have := dgen_ok d _ kk z h _ (hz j) (1 + (j : Int)) n ⟨#[]⟩ (by omega) (by decide) (by omega) (by omega) w k1 k2 k3
    rw [show 1 + (j : Int) + 1 = 1 + ((j + 1 : Nat) : Int) by omega] at this
    exact this.mono fun _ _ ⟨h1, h2⟩ => ⟨_, h1, h2⟩
  have hz64 := hz 64
  generalize hf : gs (1 + (p : Int)) z n q = f at *
  have HF : Hid (q = f 0) := show q = f 0 from by rw [← hf]; rfl
  have C3 : Hid (∀ (m : Int) d w, 0 ≤ m → m ≤ 7 → Dg w d (1 + (p : Int)) (f 64) 65 → Calls Tryz.prog 15 #[.pointer (some ⟨d, 0, none⟩), .int .i64 m, .string ⟨#[]⟩] w fun e w' => e = .returned (.tuple #[.string .empty, .int .i64 1103]) ∧ Sm w w') := fun m d w h1 h2 k3 => dgen_bad d _ z kk h _ _ m ⟨#[]⟩ (by decide) w k3 1103 rfl (fun h => absurd ⟨h1, by omega, by decide⟩ h) (fun h => ⟨by omega, rfl⟩)
  have C4 : Hid (∀ d w, Dg w d (1 + (p : Int)) (f 64) 65 → Calls Tryz.prog 18 #[.pointer (some ⟨d, 0, none⟩), .string ⟨#[]⟩, .string ⟨#[]⟩] w fun e w' => e = .returned (.int .i64 1101) ∧ Sm w w') := fun d w k3 => dres_bad d _ z kk h _ _ _ _ (by decide) (fun hh => by have h1 := hh.1.1; have h2 := h.z28; have h3 : ((⟨#[]⟩ : ByteArray).size : Int) = 0 := rfl; omega) w k3
  obtain ⟨q2, hq2⟩ : ∃ q2, upd (1 + (p : Int)) (A ++ ⟨#[]⟩) (f 64) = q2 := ⟨_, rfl⟩
  have hw2 := upd_wf h (A ++ ⟨#[]⟩) (f 64)
  rw [hq2] at hw2
  have C5 : Hid (∀ d w, KK w → Nc d → Dg w d (1 + (p : Int)) (f 64) 65 → Calls Tryz.prog 18 #[.pointer (some ⟨d, 0, none⟩), .string A, .string ⟨#[]⟩] w fun e w' => e = .returned (.int .i64 0) ∧ Kp (At1 d) w w' ∧ Dg w' d (1 + (p : Int)) q2 1) := fun d w k1 k2 k3 => hq2 ▸ dres_ok d _ z kk h _ hz64 _ A ⟨#[]⟩ heo (by decide) w k1 k2 k3
  obtain ⟨T, hT⟩ : ∃ T, gtx (1 + (p : Int)) z 8 ⟨#[]⟩ q2 = T := ⟨_, rfl⟩
  have hTs := gtx_size h 8 ⟨#[]⟩ _ hw2
  rw [hT] at hTs
  obtain ⟨q3, hq3⟩ : ∃ q3, gnx (1 + (p : Int)) z 8 ⟨#[]⟩ q2 = q3 := ⟨_, rfl⟩
  have C6 : Hid (∀ d w, KK w → Nc d → Dg w d (1 + (p : Int)) q2 1 → Calls Tryz.prog 15 #[.pointer (some ⟨d, 0, none⟩), .int .i64 8, .string ⟨#[]⟩] w fun e w' => e = .returned (.tuple #[.string T, .int .i64 0]) ∧ Kp (At1 d) w w' ∧ Dg w' d (1 + (p : Int)) q3 2) := fun d w k1 k2 k3 => by
    have := dgen_ok d _ kk z h _ hw2 1 8 ⟨#[]⟩ (by decide) (by decide) (by decide) (by decide) w k1 k2 k3
    rw [hT, hq3] at this
    exact this
  have CC : Hid (∀ d w, Dg w d (1 + (p : Int)) q3 2 → Calls Tryz.prog 17 #[.pointer (some ⟨d, 0, none⟩)] w fun e w' => e = .returned (.int .i64 2) ∧ w = w') := fun d w k => dcount_any d _ _ q3 w k
  have t1 : ((T.size : Int) == 8) = true := by rw [hTs]; rfl
  have p1 : (p : Int) < 4 := by omega
  have n1 : (n : Int) < 8 := by omega
  have HN : Hid ((0 : Int) ≤ (n : Int) ∧ (n : Int) ≤ 7) := show (0 : Int) ≤ (n : Int) ∧ (n : Int) ≤ 7 by omega
  have a1 : (32 : Int) + (E.size : Int) ≤ 140737488400000 := by omega
  have s1 : (S.size : Int) ≤ 140737488400000 := by omega
  have hc' : ((100 : Int) < (S.size : Int) ∧ S.extract 0 100 = A) ∨ (¬ (100 : Int) < (S.size : Int) ∧ S = A) := by
    rcases hc with ⟨c, e⟩ | ⟨c, e⟩
    · exact Or.inl ⟨by omega, e⟩
    · exact Or.inr ⟨by omega, e⟩
  clear h hK hp4 hn8 hs hno hwf hz hT hTs hq2 hE hf e32' hc hA1 hA2 heo hz64 hw2 hq3
  rcases hc' with ⟨c, hE⟩ | ⟨c, hE⟩
  · skip
    go_enter Tryz.func5, Tryz.ntmps5
    go_wp2_with (first
      | (go_at_call 14; refine (CA.out _ HK.out).mono ?_; rintro e w1 ⟨rfl, S1⟩; have x1 := HK.out.sm S1)
      | (go_at_call 11; refine (C1.out _ x1).mono ?_; rintro e w2 ⟨a, rfl, ha, A2, S2⟩)
      | (go_at_call 13; refine (CN.out _ _).mono ?_; rintro e w' ⟨rfl, rfl⟩))
    have na := x1.nc ha
    have ga : w.heap.size ≤ a := Nat.le_trans S1.size ha
    have K0 : Kp (Fr w.heap.size) w w2 := (S1.trans S2).kp _
    have hw0 : w.heap.size ≤ w.heap.size := Nat.le_refl _
    rw [HF.out] at A2
    clear S1 S2 x1 ha C1 CA
    go_loopw [11] (fun y u => ∃ k : Nat, k ≤ 64 ∧ y = .int .i64 (k : Int) ∧ Dg u a (1 + (p : Int)) (f k) (1 + (k : Int)) ∧ Kp (Fr w.heap.size) w u) (fun y _ => 64 - (intOf y).toNat)
    case atStart => exact ⟨0, by omega, rfl, A2, K0⟩
    case round =>
      clear A2 K0
      obtain ⟨k, hk, rfl, A0, K0⟩ := hrel
      have x0 := HK.out.fr K0 hw0
      have k0 : (0 : Int) ≤ (k : Int) := by omega
      by_cases c : k < 64
      · have k1 : (k : Int) < 64 := by omega
        have HR : Hid (k < 64) := c
        clear c hk C3 C4 C5 C6 CC
        go_wp2_with (first
          | (go_at_call 15; refine (C2.out k _ _ HR.out x0 na A0).mono ?_; rintro e u1 ⟨t, rfl, K1, A1⟩; have U1 := K0.trans (K1.fr ga))
          | (go_at_call 13; refine (CN.out _ _).mono ?_; rintro e w' ⟨rfl, rfl⟩))
        go_roundw
        case rel => exact ⟨k + 1, by have := HR.out; omega, by go_num, A1, U1⟩
        case measure => have := HR.out; simp [intOf]; omega
      · obtain rfl : k = 64 := by omega
        have A0' : Dg wr a (1 + (p : Int)) (f 64) 65 := A0
        clear c hk C2 A0 k0
        go_wp2_with (first
          | (go_at_call 15; first
              | (refine (C6.out _ _ x4 na A4).mono ?_; rintro e u5 ⟨rfl, K5, A5⟩)
              | (refine (C3.out 1 _ _ (by decide) (by decide) A2).mono ?_; rintro e u3 ⟨rfl, S3⟩; have A3 := A2.sm S3; have x3 := x0.sm ((S1.trans S2).trans S3))
              | (refine (C3.out _ _ _ HN.out.1 HN.out.2 A0').mono ?_; rintro e u1 ⟨rfl, S1⟩; have A1 := A0'.sm S1))
          | (go_at_call 18; first
              | (refine (C5.out _ _ x3 na A3).mono ?_; rintro e u4 ⟨rfl, K4, A4⟩; have x4 := x3.at1 K4 na)
              | (refine (C4.out _ _ A1).mono ?_; rintro e u2 ⟨rfl, S2⟩; have A2 := A1.sm S2))
          | (go_at_call 17; refine (CC.out _ _ A5).mono ?_; rintro e w' ⟨rfl, rfl⟩)
          | (go_at_call 13; refine (CN.out _ _).mono ?_; rintro e w' ⟨rfl, rfl⟩))
        go_ret
        exact ⟨rfl, Sm.of ((((K0.trans (S1.kp _)).trans (S2.kp _)).trans (S3.kp _)).trans ((K4.fr ga).trans (K5.fr ga)))⟩
  · subst hE
    go_enter Tryz.func5, Tryz.ntmps5
    go_wp2_with (first
      | (go_at_call 14; refine (CA.out _ HK.out).mono ?_; rintro e w1 ⟨rfl, S1⟩; have x1 := HK.out.sm S1)
      | (go_at_call 11; refine (C1.out _ x1).mono ?_; rintro e w2 ⟨a, rfl, ha, A2, S2⟩)
      | (go_at_call 13; refine (CN.out _ _).mono ?_; rintro e w' ⟨rfl, rfl⟩))
    have na := x1.nc ha
    have ga : w.heap.size ≤ a := Nat.le_trans S1.size ha
    have K0 : Kp (Fr w.heap.size) w w2 := (S1.trans S2).kp _
    have hw0 : w.heap.size ≤ w.heap.size := Nat.le_refl _
    rw [HF.out] at A2
    clear S1 S2 x1 ha C1 CA
    go_loopw [11] (fun y u => ∃ k : Nat, k ≤ 64 ∧ y = .int .i64 (k : Int) ∧ Dg u a (1 + (p : Int)) (f k) (1 + (k : Int)) ∧ Kp (Fr w.heap.size) w u) (fun y _ => 64 - (intOf y).toNat)
    case atStart => exact ⟨0, by omega, rfl, A2, K0⟩
    case round =>
      clear A2 K0
      obtain ⟨k, hk, rfl, A0, K0⟩ := hrel
      have x0 := HK.out.fr K0 hw0
      have k0 : (0 : Int) ≤ (k : Int) := by omega
      by_cases c : k < 64
      · have k1 : (k : Int) < 64 := by omega
        have HR : Hid (k < 64) := c
        clear c hk C3 C4 C5 C6 CC
        go_wp2_with (first
          | (go_at_call 15; refine (C2.out k _ _ HR.out x0 na A0).mono ?_; rintro e u1 ⟨t, rfl, K1, A1⟩; have U1 := K0.trans (K1.fr ga))
          | (go_at_call 13; refine (CN.out _ _).mono ?_; rintro e w' ⟨rfl, rfl⟩))
        go_roundw
        case rel => exact ⟨k + 1, by have := HR.out; omega, by go_num, A1, U1⟩
        case measure => have := HR.out; simp [intOf]; omega
      · obtain rfl : k = 64 := by omega
        have A0' : Dg wr a (1 + (p : Int)) (f 64) 65 := A0
        clear c hk C2 A0 k0
        go_wp2_with (first
          | (go_at_call 15; first
              | (refine (C6.out _ _ x4 na A4).mono ?_; rintro e u5 ⟨rfl, K5, A5⟩)
              | (refine (C3.out 1 _ _ (by decide) (by decide) A2).mono ?_; rintro e u3 ⟨rfl, S3⟩; have A3 := A2.sm S3; have x3 := x0.sm ((S1.trans S2).trans S3))
              | (refine (C3.out _ _ _ HN.out.1 HN.out.2 A0').mono ?_; rintro e u1 ⟨rfl, S1⟩; have A1 := A0'.sm S1))
          | (go_at_call 18; first
              | (refine (C5.out _ _ x3 na A3).mono ?_; rintro e u4 ⟨rfl, K4, A4⟩; have x4 := x3.at1 K4 na)
              | (refine (C4.out _ _ A1).mono ?_; rintro e u2 ⟨rfl, S2⟩; have A2 := A1.sm S2))
          | (go_at_call 17; refine (CC.out _ _ A5).mono ?_; rintro e w' ⟨rfl, rfl⟩)
          | (go_at_call 13; refine (CN.out _ _).mono ?_; rintro e w' ⟨rfl, rfl⟩))
        go_ret
        exact ⟨rfl, Sm.of ((((K0.trans (S1.kp _)).trans (S2.kp _)).trans (S3.kp _)).trans ((K4.fr ga).trans (K5.fr ga)))⟩
end Go.Proofs.YtconibmdlfkopaaGreatDoor
