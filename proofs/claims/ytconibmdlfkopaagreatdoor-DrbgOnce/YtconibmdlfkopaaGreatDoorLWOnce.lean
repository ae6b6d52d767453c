/-
  The statement DrbgOnce, walked: it answers true for every three numbers and any text.
-/
import Derived.Test.YtconibmdlfkopaaGreatDoorWI
namespace Go.Proofs.YtconibmdlfkopaaGreatDoor
open Go.RowKit
theorem ex_left (a b : ByteArray) (n : Nat) (h : n ≤ a.size) : (a ++ b).extract 0 n = a.extract 0 n := by
  rw [ByteArray.extract_append]
  have e : b.extract (0 - a.size) (n - a.size) = .empty := by
    apply ByteArray.ext
    simp
    omega
  rw [e]
  apply ByteArray.ext
  simp
theorem vs_pre {id k : Int} {z : Nat} (h : Hi id (z : Int) k) (K V : ByteArray) (hV : V.size = z) (n i : Nat) (hn : n ≤ i * z) : ∀ j, (vs id K V (i + j)).extract 0 n = (vs id K V i).extract 0 n
  | 0 => rfl
  | j + 1 => by
    have h1 := vs_pre h K V hV n i hn j
    have h2 := vs_size h K V hV (i + j)
    have h3 : i * z ≤ (i + j) * z := Nat.mul_le_mul_right _ (by omega)
    show (vs id K V (i + j) ++ _).extract 0 n = _
    rw [ex_left _ _ _ (by omega), h1]
theorem rn_le (z n : Nat) (hz : 0 < z) : n ≤ rn z n * z := by
  unfold rn
  have h3 := Nat.div_add_mod (n + z - 1) z
  have h4 := Nat.mod_lt (n + z - 1) hz
  rw [Nat.mul_comm] at h3
  omega
theorem rn_mono (z n m : Nat) (h : n ≤ m) : rn z n ≤ rn z m := Nat.div_le_div_right (by omega)
theorem ex_ex (a : ByteArray) (n m : Nat) (h : n ≤ m) : (a.extract 0 m).extract 0 n = a.extract 0 n := by
  apply ByteArray.ext
  simp
  congr 1
  omega
/-- A longer request begins as a shorter one. -/
theorem gt_pre {id k : Int} {z : Nat} (h : Hi id (z : Int) k) (n m : Nat) (hnm : n ≤ m) (p : ByteArray × ByteArray) (hp : Wf z p) : (gt id z m p).extract 0 n = gt id z n p := by
  have h28 := h.z28
  have h2 : p.2.size = z := by have := hp.2; omega
  unfold gt
  rw [ex_ex _ _ _ hnm]
  have hm := rn_mono z n m hnm
  have := vs_pre h p.1 p.2 h2 n (rn z n) (rn_le z n (by omega)) (rn z m - rn z n)
  rwa [show rn z n + (rn z m - rn z n) = rn z m by omega] at this
theorem gtx_pre {id k : Int} {z : Nat} (h : Hi id (z : Int) k) (n m : Nat) (hnm : n ≤ m) (a : ByteArray) (p : ByteArray × ByteArray) (hp : Wf z p) : (gtx id z m a p).extract 0 n = gtx id z n a p := gt_pre h n m hnm _ (gp1_wf h a p hp)
set_option maxRecDepth 100000 in
set_option maxHeartbeats 3200000 in
theorem lwonce_any (i : Int) (E : ByteArray) (s o : Int) (hE : E.size ≤ 140737488351232) (w : World) (hK : KK w) :
    Calls Tryz.prog 4 #[.int .i64 i, .string E, .int .i64 s, .int .i64 o] w fun e w' => e = .returned (.bool true) ∧ Sm w w' := by
  have CN : Hid (∀ x w, Calls Tryz.prog 13 #[.int .i64 x] w fun e w' => e = .returned (.int .i64 x) ∧ w = w') := num7_any
  have CA : Hid (∀ w, KK w → Calls Tryz.prog 14 #[] w fun e w' => e = .returned (.bool true) ∧ Sm w w') := awake11_any
  have HK : Hid (KK w) := hK
  obtain ⟨p, hp, hp4⟩ := and_3 i
  obtain ⟨k, hk, hk7⟩ := and_127 s
  obtain ⟨j, hj, hj7⟩ := and_127 o
  obtain ⟨z, kk, h⟩ := hi_nat p hp4
  have hs : (E ++ e32).size = E.size + 32 := by rw [ByteArray.size_append]; rfl
  have e32' : e32 = ⟨#[48, 49, 50, 51, 52, 53, 54, 55, 56, 57, 97, 98, 99, 100, 101, 102, 48, 49, 50, 51, 52, 53, 54, 55, 56, 57, 97, 98, 99, 100, 101, 102]⟩ := rfl
  rw [e32'] at hs
  generalize hS : (E ++ ⟨#[48, 49, 50, 51, 52, 53, 54, 55, 56, 57, 97, 98, 99, 100, 101, 102, 48, 49, 50, 51, 52, 53, 54, 55, 56, 57, 97, 98, 99, 100, 101, 102]⟩ : ByteArray) = S at *
  obtain ⟨A, hA1, hA2, hc⟩ : ∃ A : ByteArray, 32 ≤ A.size ∧ A.size ≤ 200 ∧ ((200 < S.size ∧ S.extract 0 200 = A) ∨ (¬ 200 < S.size ∧ S = A)) := by
    by_cases c : 200 < S.size
    · exact ⟨S.extract 0 200, by rw [ex_sz]; omega, by rw [ex_sz]; omega, Or.inl ⟨c, rfl⟩⟩
    · exact ⟨S, by omega, by omega, Or.inr ⟨c, rfl⟩⟩
  have hno : No (z : Int) A ⟨#[]⟩ ⟨#[112]⟩ := ⟨eo_32 h _ hA1 (by omega), by decide, by decide⟩
  have C1 : Hid (∀ w, KK w → Calls Tryz.prog 11 #[.int .i64 (1 + (p : Int)), .string A, .string ⟨#[]⟩, .string ⟨#[112]⟩] w fun e w' => ∃ d, e = .returned (.tuple #[.pointer (some ⟨d, 0, none⟩), .int .i64 0]) ∧ w.heap.size ≤ d ∧ Dg w' d (1 + (p : Int)) (upd (1 + (p : Int)) ((A ++ ⟨#[]⟩) ++ ⟨#[112]⟩) (ini z)) 1 ∧ Sm w w') := fun w hw => dnew_ok _ kk z h _ _ _ hno w hw
  have hwf := upd_wf h ((A ++ ⟨#[]⟩) ++ ⟨#[112]⟩) (ini z)
  generalize upd (1 + (p : Int)) ((A ++ ⟨#[]⟩) ++ ⟨#[112]⟩) (ini z) = q at *
  have hpre := gtx_pre h k (k + j) (by omega) ⟨#[]⟩ q hwf
  have hsz := gtx_size h (k + j) ⟨#[]⟩ q hwf
  obtain ⟨X, hX⟩ : ∃ X, gtx (1 + (p : Int)) z k ⟨#[]⟩ q = X := ⟨_, rfl⟩
  obtain ⟨Z, hZ⟩ : ∃ Z, gtx (1 + (p : Int)) z (k + j) ⟨#[]⟩ q = Z := ⟨_, rfl⟩
  obtain ⟨q2, hq2⟩ : ∃ q2, gnx (1 + (p : Int)) z k ⟨#[]⟩ q = q2 := ⟨_, rfl⟩
  have hw2 := gnx_wf h k ⟨#[]⟩ q
  rw [hq2] at hw2
  rw [hX, hZ] at hpre
  rw [hZ] at hsz
  have C2 : Hid (∀ d w, KK w → Nc d → Dg w d (1 + (p : Int)) q 1 → Calls Tryz.prog 15 #[.pointer (some ⟨d, 0, none⟩), .int .i64 (k : Int), .string ⟨#[]⟩] w fun e w' => e = .returned (.tuple #[.string X, .int .i64 0]) ∧ Kp (At1 d) w w' ∧ Dg w' d (1 + (p : Int)) q2 2) := fun d w k1 k2 k3 => by
    have := dgen_ok d _ kk z h _ hwf 1 k ⟨#[]⟩ (by omega) (by decide) (by decide) (by decide) w k1 k2 k3
    rw [hX, hq2] at this
    exact this
  have C3 : Hid (∀ d w, KK w → Nc d → Dg w d (1 + (p : Int)) q 1 → Calls Tryz.prog 15 #[.pointer (some ⟨d, 0, none⟩), .int .i64 ((k : Int) + (j : Int)), .string ⟨#[]⟩] w fun e w' => e = .returned (.tuple #[.string Z, .int .i64 0]) ∧ Kp (At1 d) w w' ∧ Dg w' d (1 + (p : Int)) (gnx (1 + (p : Int)) z (k + j) ⟨#[]⟩ q) 2) := fun d w k1 k2 k3 => by
    have := dgen_ok d _ kk z h _ hwf 1 (k + j) ⟨#[]⟩ (by omega) (by decide) (by decide) (by decide) w k1 k2 k3
    rw [hZ, Int.natCast_add] at this
    exact this
  obtain ⟨U, hU⟩ : ∃ U, gtx (1 + (p : Int)) z 16 ⟨#[120]⟩ q2 = U := ⟨_, rfl⟩
  obtain ⟨q3, hq3⟩ : ∃ q3, gnx (1 + (p : Int)) z 16 ⟨#[120]⟩ q2 = q3 := ⟨_, rfl⟩
  have C4 : Hid (∀ d w, KK w → Nc d → Dg w d (1 + (p : Int)) q2 2 → Calls Tryz.prog 15 #[.pointer (some ⟨d, 0, none⟩), .int .i64 16, .string ⟨#[120]⟩] w fun e w' => e = .returned (.tuple #[.string U, .int .i64 0]) ∧ Kp (At1 d) w w' ∧ Dg w' d (1 + (p : Int)) q3 3) := fun d w k1 k2 k3 => by
    have := dgen_ok d _ kk z h _ hw2 2 16 ⟨#[120]⟩ (by decide) (by decide) (by decide) (by decide) w k1 k2 k3
    rw [hU, hq3] at this
    exact this
  have CC : Hid (∀ d w, Dg w d (1 + (p : Int)) q3 3 → Calls Tryz.prog 17 #[.pointer (some ⟨d, 0, none⟩)] w fun e w' => e = .returned (.int .i64 3) ∧ w = w') := fun d w k => dcount_any d _ _ q3 w k
  have t1 : ((Z.size : Int) == (k : Int) + (j : Int)) = true := by rw [hsz, Int.natCast_add]; simp
  have t2 : (k : Int) ≤ (Z.size : Int) := by omega
  have t3 : (Z.size : Int) ≤ 1000 := by omega
  have p1 : (p : Int) < 4 := by omega
  have k1 : (k : Int) < 128 := by omega
  have j1 : (j : Int) < 128 := by omega
  have a1 : (E.size : Int) + 32 ≤ 140737488400000 := by omega
  have s1 : (S.size : Int) ≤ 140737488400000 := by omega
  have hc' : ((200 : Int) < (S.size : Int) ∧ S.extract 0 200 = A) ∨ (¬ (200 : Int) < (S.size : Int) ∧ (E.size : Int) + 32 ≤ 200 ∧ S = A) := by
    rcases hc with ⟨c, e⟩ | ⟨c, e⟩
    · exact Or.inl ⟨by omega, e⟩
    · exact Or.inr ⟨by omega, by omega, e⟩
  generalize gnx (1 + (p : Int)) z (k + j) ⟨#[]⟩ q = q4 at *
  clear h hK hp4 hk7 hj7 hs hno hwf hX hZ hsz hq2 hE e32' hc hA1 hA2 hw2 hq3 hU
  rcases hc' with ⟨c, hE⟩ | ⟨c, a2, hE⟩
  · skip
    go_enter Tryz.func4, Tryz.ntmps4
    go_wp2_with (first
      | (go_at_call 14; refine (CA.out _ HK.out).mono ?_; rintro e w1 ⟨rfl, S1⟩; have x1 := HK.out.sm S1)
      | (go_at_call 11; first
          | (refine (C1.out _ x3).mono ?_; rintro e w4 ⟨c, rfl, hc, G4, S4⟩; have B4 := B3.sm S4; have A4 := A3.sm S4; have x4 := x3.sm S4; have nc := x3.nc hc; have gc := Nat.le_trans ((S1.trans S2).trans S3).size hc; have hcb : c ≠ b := (by have := B3.lt; omega); have hca : c ≠ a := (by have := A3.lt; omega))
          | (refine (C1.out _ x2).mono ?_; rintro e w3 ⟨b, rfl, hb, B3, S3⟩; have A3 := A2.sm S3; have x3 := x2.sm S3; have nb := x2.nc hb; have gb := Nat.le_trans (S1.trans S2).size hb; have hba : b ≠ a := (by have := A2.lt; omega))
          | (refine (C1.out _ x1).mono ?_; rintro e w2 ⟨a, rfl, ha, A2, S2⟩; have x2 := x1.sm S2; have na := x1.nc ha; have ga := Nat.le_trans S1.size ha))
      | (go_at_call 15; first
          | (refine (C4.out _ _ x8 nb B8).mono ?_; rintro e w9 ⟨rfl, K9, B9⟩; have A9 := A8.far K9 (Ne.symm hba))
          | (refine (C4.out _ _ x7 na A7).mono ?_; rintro e w8 ⟨rfl, K8, A8⟩; have B8 := B7.far K8 hba; have x8 := x7.at1 K8 na)
          | (refine (C3.out _ _ x6 nc G6).mono ?_; rintro e w7 ⟨rfl, K7, G7⟩; have A7 := A6.far K7 (Ne.symm hca); have B7 := B6.far K7 (Ne.symm hcb); have x7 := x6.at1 K7 nc)
          | (refine (C2.out _ _ x5 nb B5).mono ?_; rintro e w6 ⟨rfl, K6, B6⟩; have A6 := A5.far K6 (Ne.symm hba); have G6 := G5.far K6 hcb; have x6 := x5.at1 K6 nb)
          | (refine (C2.out _ _ x4 na A4).mono ?_; rintro e w5 ⟨rfl, K5, A5⟩; have B5 := B4.far K5 hba; have G5 := G4.far K5 hca; have x5 := x4.at1 K5 na))
      | (go_at_call 17; refine (CC.out _ _ A9).mono ?_; rintro e w' ⟨rfl, rfl⟩)
      | (go_at_call 13; refine (CN.out _ _).mono ?_; rintro e w' ⟨rfl, rfl⟩))
    go_ret
    exact ⟨rfl, Sm.of (((((((((S1.trans S2).trans S3).trans S4).kp _).trans (K5.fr ga)).trans (K6.fr gb)).trans (K7.fr gc)).trans (K8.fr ga)).trans (K9.fr gb))⟩
  · subst hE
    clear s1 a1
    go_enter Tryz.func4, Tryz.ntmps4
    go_wp2_with (first
      | (go_at_call 14; refine (CA.out _ HK.out).mono ?_; rintro e w1 ⟨rfl, S1⟩; have x1 := HK.out.sm S1)
      | (go_at_call 11; first
          | (refine (C1.out _ x3).mono ?_; rintro e w4 ⟨c, rfl, hc, G4, S4⟩; have B4 := B3.sm S4; have A4 := A3.sm S4; have x4 := x3.sm S4; have nc := x3.nc hc; have gc := Nat.le_trans ((S1.trans S2).trans S3).size hc; have hcb : c ≠ b := (by have := B3.lt; omega); have hca : c ≠ a := (by have := A3.lt; omega))
          | (refine (C1.out _ x2).mono ?_; rintro e w3 ⟨b, rfl, hb, B3, S3⟩; have A3 := A2.sm S3; have x3 := x2.sm S3; have nb := x2.nc hb; have gb := Nat.le_trans (S1.trans S2).size hb; have hba : b ≠ a := (by have := A2.lt; omega))
          | (refine (C1.out _ x1).mono ?_; rintro e w2 ⟨a, rfl, ha, A2, S2⟩; have x2 := x1.sm S2; have na := x1.nc ha; have ga := Nat.le_trans S1.size ha))
      | (go_at_call 15; first
          | (refine (C4.out _ _ x8 nb B8).mono ?_; rintro e w9 ⟨rfl, K9, B9⟩; have A9 := A8.far K9 (Ne.symm hba))
          | (refine (C4.out _ _ x7 na A7).mono ?_; rintro e w8 ⟨rfl, K8, A8⟩; have B8 := B7.far K8 hba; have x8 := x7.at1 K8 na)
          | (refine (C3.out _ _ x6 nc G6).mono ?_; rintro e w7 ⟨rfl, K7, G7⟩; have A7 := A6.far K7 (Ne.symm hca); have B7 := B6.far K7 (Ne.symm hcb); have x7 := x6.at1 K7 nc)
          | (refine (C2.out _ _ x5 nb B5).mono ?_; rintro e w6 ⟨rfl, K6, B6⟩; have A6 := A5.far K6 (Ne.symm hba); have G6 := G5.far K6 hcb; have x6 := x5.at1 K6 nb)
          | (refine (C2.out _ _ x4 na A4).mono ?_; rintro e w5 ⟨rfl, K5, A5⟩; have B5 := B4.far K5 hba; have G5 := G4.far K5 hca; have x5 := x4.at1 K5 na))
      | (go_at_call 17; refine (CC.out _ _ A9).mono ?_; rintro e w' ⟨rfl, rfl⟩)
      | (go_at_call 13; refine (CN.out _ _).mono ?_; rintro e w' ⟨rfl, rfl⟩))
    go_ret
    exact ⟨rfl, Sm.of (((((((((S1.trans S2).trans S3).trans S4).kp _).trans (K5.fr ga)).trans (K6.fr gb)).trans (K7.fr gc)).trans (K8.fr ga)).trans (K9.fr gb))⟩
end Go.Proofs.YtconibmdlfkopaaGreatDoor
