/-
  The statement DrbgReseeded, walked: it answers true for every two numbers and any two texts.
-/
import Derived.Test.YtconibmdlfkopaaGreatDoorWI
namespace Go.Proofs.YtconibmdlfkopaaGreatDoor
open Go.RowKit
/-- Key and value behind requests of 0, 1, .. bytes with M. -/
def gu (id : Int) (z : Nat) (M : ByteArray) (p : ByteArray × ByteArray) : Nat → ByteArray × ByteArray
  | 0 => p
  | k + 1 => gnx id z k M (gu id z M p k)
theorem gu_wf {id k : Int} {z : Nat} (h : Hi id (z : Int) k) (M : ByteArray) (p : ByteArray × ByteArray) (hp : Wf z p) : ∀ j, Wf z (gu id z M p j)
  | 0 => hp
  | _ + 1 => gnx_wf h _ _ _
set_option maxRecDepth 100000 in
set_option maxHeartbeats 3200000 in
theorem lwreseeded_any (i : Int) (E M : ByteArray) (s : Int) (hE : E.size ≤ 140737488351232) (hM : M.size ≤ 140737488351232) (w : World) (hK : KK w) :
    Calls Tryz.prog 7 #[.int .i64 i, .string E, .string M, .int .i64 s] w fun e w' => e = .returned (.bool true) ∧ Sm w w' := by
  have CN : Hid (∀ x w, Calls Tryz.prog 13 #[.int .i64 x] w fun e w' => e = .returned (.int .i64 x) ∧ w = w') := num7_any
  have CA : Hid (∀ w, KK w → Calls Tryz.prog 14 #[] w fun e w' => e = .returned (.bool true) ∧ Sm w w') := awake11_any
  have CH : Hid (∀ w, Calls Tryz.prog 21 #[.string E] w fun e w' => e = .returned (.string (sh E)) ∧ w = w') := fun w => short_any E (by omega) w
  have CM : Hid (∀ w, Calls Tryz.prog 21 #[.string M] w fun e w' => e = .returned (.string (sh M)) ∧ w = w') := fun w => short_any M (by omega) w
  have HK : Hid (KK w) := hK
  obtain ⟨p, hp, hp4⟩ := and_3 i
  obtain ⟨m, hm, hm16⟩ := and_15 s
  obtain ⟨z, kk, h⟩ := hi_nat p hp4
  have hS := sh_size E
  have hN := sh_size M
  generalize sh E = A at *
  generalize sh M = N at *
  have hs : (e32 ++ A).size = 32 + A.size := by rw [ByteArray.size_append]; rfl
  have e32' : e32 = ⟨#[48, 49, 50, 51, 52, 53, 54, 55, 56, 57, 97, 98, 99, 100, 101, 102, 48, 49, 50, 51, 52, 53, 54, 55, 56, 57, 97, 98, 99, 100, 101, 102]⟩ := rfl
  rw [e32'] at hs
  generalize hX : (⟨#[48, 49, 50, 51, 52, 53, 54, 55, 56, 57, 97, 98, 99, 100, 101, 102, 48, 49, 50, 51, 52, 53, 54, 55, 56, 57, 97, 98, 99, 100, 101, 102]⟩ ++ A : ByteArray) = X at *
  have heo : Eo (z : Int) X := eo_32 h _ (by omega) (by omega)
  have hno : No (z : Int) X ⟨#[110]⟩ ⟨#[]⟩ := ⟨heo, by decide, by decide⟩
  have C1 : Hid (∀ w, KK w → Calls Tryz.prog 11 #[.int .i64 (1 + (p : Int)), .string X, .string ⟨#[110]⟩, .string ⟨#[]⟩] w fun e w' => ∃ d, e = .returned (.tuple #[.pointer (some ⟨d, 0, none⟩), .int .i64 0]) ∧ w.heap.size ≤ d ∧ Dg w' d (1 + (p : Int)) (upd (1 + (p : Int)) ((X ++ ⟨#[110]⟩) ++ ⟨#[]⟩) (ini z)) 1 ∧ Sm w w') := fun w hw => dnew_ok _ kk z h _ _ _ hno w hw
  have hwf := upd_wf h ((X ++ ⟨#[110]⟩) ++ ⟨#[]⟩) (ini z)
  generalize upd (1 + (p : Int)) ((X ++ ⟨#[110]⟩) ++ ⟨#[]⟩) (ini z) = q at *
  have hz := gu_wf h N q hwf
  have C2 : Hid (∀ (j : Nat) d w, j < 16 → KK w → Nc d → Dg w d (1 + (p : Int)) (gu (1 + (p : Int)) z N q j) (1 + (j : Int)) → Calls Tryz.prog 15 #[.pointer (some ⟨d, 0, none⟩), .int .i64 (j : Int), .string N] w fun e w' => e = .returned (.tuple #[.string (gtx (1 + (p : Int)) z j N (gu (1 + (p : Int)) z N q j)), .int .i64 0]) ∧ Kp (At1 d) w w' ∧ Dg w' d (1 + (p : Int)) (gu (1 + (p : Int)) z N q (j + 1)) (1 + ((j + 1 : Nat) : Int))) := fun j d w hj k1 k2 k3 => by
    have := dgen_ok d _ kk z h _ (hz j) (1 + (j : Int)) j N (by omega) (by omega) (by omega) (by omega) w k1 k2 k3
    rw [show 1 + (j : Int) + 1 = 1 + ((j + 1 : Nat) : Int) by omega] at this
    exact this
  have HL : Hid (∀ j, (gtx (1 + (p : Int)) z j N (gu (1 + (p : Int)) z N q j)).size = j) := fun j => gtx_size h j N _ (hz j)
  generalize hg : (fun j => gtx (1 + (p : Int)) z j N (gu (1 + (p : Int)) z N q j)) = g at *
  have hg' : ∀ j, gtx (1 + (p : Int)) z j N (gu (1 + (p : Int)) z N q j) = g j := fun j => by rw [← hg]
  simp only [hg'] at C2 HL
  clear hg hg'
  generalize hf : gu (1 + (p : Int)) z N q = f at *
  have HF : Hid (q = f 0) := show q = f 0 from by rw [← hf]; rfl
  have hzm := hz m
  obtain ⟨q2, hq2⟩ : ∃ q2, upd (1 + (p : Int)) (X ++ N) (f m) = q2 := ⟨_, rfl⟩
  have hw2 := upd_wf h (X ++ N) (f m)
  rw [hq2] at hw2
  have C5 : Hid (∀ d w, KK w → Nc d → Dg w d (1 + (p : Int)) (f m) (1 + (m : Int)) → Calls Tryz.prog 18 #[.pointer (some ⟨d, 0, none⟩), .string X, .string N] w fun e w' => e = .returned (.int .i64 0) ∧ Kp (At1 d) w w' ∧ Dg w' d (1 + (p : Int)) q2 1) := fun d w k1 k2 k3 => hq2 ▸ dres_ok d _ z kk h _ hzm _ X N heo (by omega) w k1 k2 k3
  obtain ⟨T, hT⟩ : ∃ T, gtx (1 + (p : Int)) z 32 ⟨#[]⟩ q2 = T := ⟨_, rfl⟩
  obtain ⟨q3, hq3⟩ : ∃ q3, gnx (1 + (p : Int)) z 32 ⟨#[]⟩ q2 = q3 := ⟨_, rfl⟩
  have C6 : Hid (∀ d w, KK w → Nc d → Dg w d (1 + (p : Int)) q2 1 → Calls Tryz.prog 15 #[.pointer (some ⟨d, 0, none⟩), .int .i64 32, .string ⟨#[]⟩] w fun e w' => e = .returned (.tuple #[.string T, .int .i64 0]) ∧ Kp (At1 d) w w' ∧ Dg w' d (1 + (p : Int)) q3 2) := fun d w k1 k2 k3 => by
    have := dgen_ok d _ kk z h _ hw2 1 32 ⟨#[]⟩ (by decide) (by decide) (by decide) (by decide) w k1 k2 k3
    rw [hT, hq3] at this
    exact this
  have CC : Hid (∀ d w, Dg w d (1 + (p : Int)) q3 2 → Calls Tryz.prog 17 #[.pointer (some ⟨d, 0, none⟩)] w fun e w' => e = .returned (.int .i64 2) ∧ w = w') := fun d w k => dcount_any d _ _ q3 w k
  have p1 : (p : Int) < 4 := by omega
  have m1 : (m : Int) < 16 := by omega
  have HM : Hid (m < 16) := hm16
  have a1 : (32 : Int) + (A.size : Int) ≤ 200 := by omega
  clear h hK hp4 hm16 hS hN hs hno hwf hz hT hq2 hE hM hf e32' hzm hw2 hq3 heo
  go_enter Tryz.func7, Tryz.ntmps7
  go_wp2_with (first
    | (go_at_call 14; refine (CA.out _ HK.out).mono ?_; rintro e w1 ⟨rfl, S1⟩; have x1 := HK.out.sm S1)
    | (go_at_call 21; refine (CH.out _).mono ?_; rintro e w' ⟨rfl, rfl⟩)
    | (go_at_call 11; first | (refine (C1.out _ x2).mono ?_; rintro e w3 ⟨b, rfl, hb, B3, S3⟩; have A3 := A2.sm S3; have x3 := x2.sm S3) | (refine (C1.out _ x1).mono ?_; rintro e w2 ⟨a, rfl, ha, A2, S2⟩; have x2 := x1.sm S2))
    | (go_at_call 13; refine (CN.out _ _).mono ?_; rintro e w' ⟨rfl, rfl⟩))
  have la := A2.lt
  have hne : b ≠ a := by omega
  have na := x1.nc ha
  have nb := x2.nc hb
  have ga : w.heap.size ≤ a := Nat.le_trans S1.size ha
  have gb : w.heap.size ≤ b := Nat.le_trans (S1.trans S2).size hb
  have K0 : Kp (Fr w.heap.size) w w3 := ((S1.trans S2).trans S3).kp _
  have hw0 : w.heap.size ≤ w.heap.size := Nat.le_refl _
  rw [HF.out] at A3 B3
  have HA : Hid (∀ v u q c, Dg v a (1 + (p : Int)) q c → Kp (At1 b) v u → Dg u a (1 + (p : Int)) q c) := fun v u q c h1 h2 => h1.far h2 (Ne.symm hne)
  have HB : Hid (∀ v u q c, Dg v b (1 + (p : Int)) q c → Kp (At1 a) v u → Dg u b (1 + (p : Int)) q c) := fun v u q c h1 h2 => h1.far h2 hne
  clear A2 S1 S2 S3 x1 x2 x3 la ha hb hne CH CA C1
  go_loopw [15] (fun y u => ∃ k : Nat, k ≤ m ∧ y = .int .i64 (k : Int) ∧ Dg u a (1 + (p : Int)) (f k) (1 + (k : Int)) ∧ Dg u b (1 + (p : Int)) (f k) (1 + (k : Int)) ∧ Kp (Fr w.heap.size) w u) (fun y _ => 16 - (intOf y).toNat)
  case atStart => exact ⟨0, by omega, rfl, A3, B3, K0⟩
  case round =>
    clear A3 B3 K0
    obtain ⟨k, hk, rfl, A0, B0, K0⟩ := hrel
    have x0 := HK.out.fr K0 hw0
    have k0 : (0 : Int) ≤ (k : Int) := by omega
    by_cases c : k < m
    · have k1 : (k : Int) < (m : Int) := by omega
      have HR : Hid (k < 16 ∧ k + 1 ≤ m) := show k < 16 ∧ k + 1 ≤ m from ⟨by have := HM.out; omega, by omega⟩
      have t1 : ((g k).size : Int) = (k : Int) := by rw [HL.out k]
      clear c hk C5 C6 CC
      go_wp2_with (first
        | (go_at_call 21; refine (CM.out _).mono ?_; rintro e w' ⟨rfl, rfl⟩)
        | (go_at_call_of 15 (Value.pointer (some ⟨a, 0, none⟩)); refine (C2.out k _ _ HR.out.1 x0 na A0).mono ?_; rintro e u1 ⟨rfl, K1, A1⟩; have B1 := HB.out _ _ _ _ B0 K1; have U1 := K0.trans (K1.fr ga); have x1 := HK.out.fr U1 hw0)
        | (go_at_call_of 15 (Value.pointer (some ⟨b, 0, none⟩)); refine (C2.out k _ _ HR.out.1 x1 nb B1).mono ?_; rintro e u2 ⟨rfl, K2, B2⟩; have A2 := HA.out _ _ _ _ A1 K2; have U2 := U1.trans (K2.fr gb)))
      go_roundw
      case rel => exact ⟨k + 1, HR.out.2, by go_num, A2, B2, U2⟩
      case measure => have := HR.out.1; simp [intOf]; omega
    · obtain rfl : k = m := by omega
      have k1 : ¬ (k : Int) < (k : Int) := by omega
      clear c hk C2
      go_wp2_with (first
        | (go_at_call 21; refine (CM.out _).mono ?_; rintro e w' ⟨rfl, rfl⟩)
        | (go_at_call 18; first
            | (refine (C5.out _ _ x1 nb B1).mono ?_; rintro e u2 ⟨rfl, K2, B2⟩; have A2 := HA.out _ _ _ _ A1 K2; have x2 := x1.at1 K2 nb)
            | (refine (C5.out _ _ x0 na A0).mono ?_; rintro e u1 ⟨rfl, K1, A1⟩; have B1 := HB.out _ _ _ _ B0 K1; have x1 := x0.at1 K1 na))
        | (go_at_call 15; first
            | (refine (C6.out _ _ x3 nb B3).mono ?_; rintro e u4 ⟨rfl, K4, B4⟩; have A4 := HA.out _ _ _ _ A3 K4)
            | (refine (C6.out _ _ x2 na A2).mono ?_; rintro e u3 ⟨rfl, K3, A3⟩; have B3 := HB.out _ _ _ _ B2 K3; have x3 := x2.at1 K3 na))
        | (go_at_call 17; refine (CC.out _ _ A4).mono ?_; rintro e w' ⟨rfl, rfl⟩)
        | (go_at_call 13; refine (CN.out _ _).mono ?_; rintro e w' ⟨rfl, rfl⟩))
      go_ret
      exact ⟨rfl, Sm.of ((((K0.trans (K1.fr ga)).trans (K2.fr gb)).trans (K3.fr ga)).trans (K4.fr gb))⟩
end Go.Proofs.YtconibmdlfkopaaGreatDoor
