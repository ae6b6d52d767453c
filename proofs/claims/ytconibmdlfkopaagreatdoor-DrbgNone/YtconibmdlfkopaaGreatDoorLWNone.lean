/-
  The statement DrbgNone, walked: it answers true for every number, any text and every number of requests.
-/
import Derived.Test.YtconibmdlfkopaaGreatDoorWI
namespace Go.Proofs.YtconibmdlfkopaaGreatDoor
open Go.RowKit
/-- Key and value behind so many requests of no bytes. -/
def gz (id : Int) (z : Nat) (p : ByteArray × ByteArray) : Nat → ByteArray × ByteArray
  | 0 => p
  | k + 1 => gnx id z 0 ⟨#[]⟩ (gz id z p k)
theorem gz_wf {id k : Int} {z : Nat} (h : Hi id (z : Int) k) (p : ByteArray × ByteArray) (hp : Wf z p) : ∀ j, Wf z (gz id z p j)
  | 0 => hp
  | _ + 1 => gnx_wf h _ _ _
theorem gtx_none {id k : Int} {z : Nat} (h : Hi id (z : Int) k) (a : ByteArray) (p : ByteArray × ByteArray) (hp : Wf z p) : gtx id z 0 a p = ⟨#[]⟩ := no_text (gtx_size h 0 a p hp)
set_option maxRecDepth 100000 in
set_option maxHeartbeats 3200000 in
theorem lwnone_any (i : Int) (E : ByteArray) (many : Int) (hE : E.size ≤ 140737488351232) (w : World) (hK : KK w) :
    Calls Tryz.prog 9 #[.int .i64 i, .string E, .int .i64 many] w fun e w' => e = .returned (.bool true) ∧ Sm w w' := by
  have CN : Hid (∀ x w, Calls Tryz.prog 13 #[.int .i64 x] w fun e w' => e = .returned (.int .i64 x) ∧ w = w') := num7_any
  have CA : Hid (∀ w, KK w → Calls Tryz.prog 14 #[] w fun e w' => e = .returned (.bool true) ∧ Sm w w') := awake11_any
  have CH : Hid (∀ w, Calls Tryz.prog 21 #[.string E] w fun e w' => e = .returned (.string (sh E)) ∧ w = w') := fun w => short_any E (by omega) w
  have HK : Hid (KK w) := hK
  obtain ⟨p, hp, hp4⟩ := and_3 i
  obtain ⟨m, hm, hm16⟩ := and_15 many
  obtain ⟨z, kk, h⟩ := hi_nat p hp4
  have hS := sh_size E
  generalize sh E = A at *
  have hs : (e32 ++ A).size = 32 + A.size := by rw [ByteArray.size_append]; rfl
  have hno : No (z : Int) (e32 ++ A) ⟨#[]⟩ ⟨#[]⟩ := ⟨eo_32 h _ (by omega) (by omega), by decide, by decide⟩
  have C1 : Hid (∀ w, KK w → Calls Tryz.prog 11 #[.int .i64 (1 + (p : Int)), .string (e32 ++ A), .string ⟨#[]⟩, .string ⟨#[]⟩] w fun e w' => ∃ d, e = .returned (.tuple #[.pointer (some ⟨d, 0, none⟩), .int .i64 0]) ∧ w.heap.size ≤ d ∧ Dg w' d (1 + (p : Int)) (upd (1 + (p : Int)) (((e32 ++ A) ++ ⟨#[]⟩) ++ ⟨#[]⟩) (ini z)) 1 ∧ Sm w w') := fun w hw => dnew_ok _ kk z h _ _ _ hno w hw
  have hwf := upd_wf h (((e32 ++ A) ++ ⟨#[]⟩) ++ ⟨#[]⟩) (ini z)
  generalize upd (1 + (p : Int)) (((e32 ++ A) ++ ⟨#[]⟩) ++ ⟨#[]⟩) (ini z) = q at *
  have hz := gz_wf h q hwf
  have C2 : Hid (∀ (j : Nat) d w, j < 16 → KK w → Nc d → Dg w d (1 + (p : Int)) (gz (1 + (p : Int)) z q j) (1 + (j : Int)) → Calls Tryz.prog 15 #[.pointer (some ⟨d, 0, none⟩), .int .i64 0, .string ⟨#[]⟩] w fun e w' => e = .returned (.tuple #[.string ⟨#[]⟩, .int .i64 0]) ∧ Kp (At1 d) w w' ∧ Dg w' d (1 + (p : Int)) (gz (1 + (p : Int)) z q (j + 1)) (1 + ((j + 1 : Nat) : Int))) := fun j d w hj k1 k2 k3 => by
    have := dgen_ok d _ kk z h _ (hz j) (1 + (j : Int)) 0 ⟨#[]⟩ (by decide) (by decide) (by omega) (by omega) w k1 k2 k3
    rw [gtx_none h _ _ (hz j), show 1 + (j : Int) + 1 = 1 + ((j + 1 : Nat) : Int) by omega] at this
    exact this
  have C3 : Hid (∀ d w, Dg w d (1 + (p : Int)) (gz (1 + (p : Int)) z q m) (1 + (m : Int)) → Calls Tryz.prog 15 #[.pointer (some ⟨d, 0, none⟩), .int .i64 (-1), .string ⟨#[]⟩] w fun e w' => e = .returned (.tuple #[.string .empty, .int .i64 1102]) ∧ Sm w w') := fun d w k3 => dgen_bad d _ z kk h _ _ (-1) ⟨#[]⟩ (by decide) w k3 1102 rfl (fun _ => rfl) (fun h => absurd h.1 (by decide))
  have C4 : Hid (∀ d w, Dg w d (1 + (p : Int)) (gz (1 + (p : Int)) z q m) (1 + (m : Int)) → Calls Tryz.prog 15 #[.pointer (some ⟨d, 0, none⟩), .int .i64 257, .string ⟨#[]⟩] w fun e w' => e = .returned (.tuple #[.string .empty, .int .i64 1102]) ∧ Sm w w') := fun d w k3 => dgen_bad d _ z kk h _ _ 257 ⟨#[]⟩ (by decide) w k3 1102 rfl (fun _ => rfl) (fun h => absurd h.2.1 (by decide))
  obtain ⟨T, hT⟩ : ∃ T, gtx (1 + (p : Int)) z 256 ⟨#[]⟩ (gz (1 + (p : Int)) z q m) = T := ⟨_, rfl⟩
  have hTs := gtx_size h 256 ⟨#[]⟩ _ (hz m)
  rw [hT] at hTs
  obtain ⟨q2, hq2⟩ : ∃ q2, gnx (1 + (p : Int)) z 256 ⟨#[]⟩ (gz (1 + (p : Int)) z q m) = q2 := ⟨_, rfl⟩
  have C5 : Hid (∀ d w, KK w → Nc d → Dg w d (1 + (p : Int)) (gz (1 + (p : Int)) z q m) (1 + (m : Int)) → Calls Tryz.prog 15 #[.pointer (some ⟨d, 0, none⟩), .int .i64 256, .string ⟨#[]⟩] w fun e w' => e = .returned (.tuple #[.string T, .int .i64 0]) ∧ Kp (At1 d) w w' ∧ Dg w' d (1 + (p : Int)) q2 ((m : Int) + 2)) := fun d w k1 k2 k3 => by
    have := dgen_ok d _ kk z h _ (hz m) (1 + (m : Int)) 256 ⟨#[]⟩ (by decide) (by decide) (by omega) (by omega) w k1 k2 k3
    rw [hT, hq2, show 1 + (m : Int) + 1 = (m : Int) + 2 by omega] at this
    exact this
  have CC : Hid (∀ d w, Dg w d (1 + (p : Int)) q2 ((m : Int) + 2) → Calls Tryz.prog 17 #[.pointer (some ⟨d, 0, none⟩)] w fun e w' => e = .returned (.int .i64 ((m : Int) + 2)) ∧ w = w') := fun d w k => dcount_any d _ _ q2 w k
  have HT : Hid (T.size = 256) := hTs
  have t1 : ((T.size : Int) == 256) = true := by rw [hTs]; rfl
  have p1 : (p : Int) < 4 := by omega
  have m1 : (m : Int) < 16 := by omega
  have HM : Hid (m < 16) := hm16
  have a1 : (32 : Int) + (A.size : Int) ≤ 200 := by omega
  generalize hf : gz (1 + (p : Int)) z q = f at *
  have HF : Hid (q = f 0) := show q = f 0 from by rw [← hf]; rfl
  have e32' : e32 = ⟨#[48, 49, 50, 51, 52, 53, 54, 55, 56, 57, 97, 98, 99, 100, 101, 102, 48, 49, 50, 51, 52, 53, 54, 55, 56, 57, 97, 98, 99, 100, 101, 102]⟩ := rfl
  rw [e32'] at C1
  clear h hK hp4 hm16 hS hs hno hwf hz hT hTs hq2 hE hf e32'
  go_enter Tryz.func9, Tryz.ntmps9
  go_wp2_with (first
    | (go_at_call 14; refine (CA.out _ HK.out).mono ?_; rintro e w1 ⟨rfl, S1⟩; have x1 := HK.out.sm S1)
    | (go_at_call 21; refine (CH.out _).mono ?_; rintro e w' ⟨rfl, rfl⟩)
    | (go_at_call 11; first | (refine (C1.out _ x2).mono ?_; rintro e w3 ⟨b, rfl, hb, B3, S3⟩; have A3 := A2.sm S3; have x3 := x2.sm S3) | (refine (C1.out _ x1).mono ?_; rintro e w2 ⟨a, rfl, ha, A2, S2⟩; have x2 := x1.sm S2))
    | (go_at_call 13; refine (CN.out _ _).mono ?_; rintro e w' ⟨rfl, rfl⟩))
  have la := A2.lt
  have hne : b ≠ a := by omega
  have na := x1.nc ha
  have nb := x2.nc hb
  have ga : w.heap.size ≤ a := Nat.le_trans S1.size ha
  have gb : w.heap.size ≤ b := Nat.le_trans (S1.trans S2).size hb
  have K0 : Kp (Fr w.heap.size) w w3 := ((S1.trans S2).trans S3).kp _
  have hw0 : w.heap.size ≤ w.heap.size := Nat.le_refl _
  rw [HF.out] at A3 B3
  have HD : Hid (∀ v u, Dg v b (1 + (p : Int)) (f 0) 1 → Kp (At1 a) v u → Dg u b (1 + (p : Int)) (f 0) 1) := fun v u h1 h2 => h1.far h2 hne
  have HA : Hid (∀ v u q c, Dg v a (1 + (p : Int)) q c → Kp (At1 b) v u → Dg u a (1 + (p : Int)) q c) := fun v u q c h1 h2 => h1.far h2 (Ne.symm hne)
  have HB : Hid (∀ v u q c, Dg v b (1 + (p : Int)) q c → Kp (At1 a) v u → Dg u b (1 + (p : Int)) q c) := fun v u q c h1 h2 => h1.far h2 hne
  clear HD A2 S1 S2 S3 x1 x2 x3 la ha hb hne
  go_loopw [14] (fun y u => ∃ k : Nat, k ≤ m ∧ y = .int .i64 (k : Int) ∧ Dg u a (1 + (p : Int)) (f k) (1 + (k : Int)) ∧ Dg u b (1 + (p : Int)) (f k) (1 + (k : Int)) ∧ Kp (Fr w.heap.size) w u) (fun y _ => 16 - (intOf y).toNat)
  case atStart => exact ⟨0, by omega, rfl, A3, B3, K0⟩
  case round =>
    clear A3 B3 K0
    obtain ⟨k, hk, rfl, A0, B0, K0⟩ := hrel
    have x0 := HK.out.fr K0 hw0
    have k0 : (0 : Int) ≤ (k : Int) := by omega
    by_cases c : k < m
    · have k1 : (k : Int) < (m : Int) := by omega
      have HR : Hid (k < 16 ∧ k + 1 ≤ m) := show k < 16 ∧ k + 1 ≤ m from ⟨by have := HM.out; omega, by omega⟩
      clear c hk C3 C4 C5 CC
      go_wp2_with (first
        | (go_at_call_of 15 (Value.pointer (some ⟨a, 0, none⟩)); refine (C2.out k _ _ HR.out.1 x0 na A0).mono ?_; rintro e u1 ⟨rfl, K1, A1⟩; have B1 := HB.out _ _ _ _ B0 K1; have U1 := K0.trans (K1.fr ga); have x1 := HK.out.fr U1 hw0)
        | (go_at_call_of 15 (Value.pointer (some ⟨b, 0, none⟩)); refine (C2.out k _ _ HR.out.1 x1 nb B1).mono ?_; rintro e u2 ⟨rfl, K2, B2⟩; have A2 := HA.out _ _ _ _ A1 K2; have U2 := U1.trans (K2.fr gb))
        | (go_at_call 13; refine (CN.out _ _).mono ?_; rintro e w' ⟨rfl, rfl⟩))
      go_roundw
      case rel => exact ⟨k + 1, HR.out.2, by go_num, A2, B2, U2⟩
      case measure => have := HR.out.1; simp [intOf]; omega
    · obtain rfl : k = m := by omega
      have k1 : ¬ (k : Int) < (k : Int) := by omega
      clear c hk C2
      go_wp2_with (first
        | (go_at_call 15; first
            | (refine (C5.out _ _ x3 nb B3).mono ?_; rintro e u4 ⟨rfl, K4, B4⟩; have A4 := HA.out _ _ _ _ A3 K4)
            | (refine (C5.out _ _ x2 na A2).mono ?_; rintro e u3 ⟨rfl, K3, A3⟩; have B3 := HB.out _ _ _ _ B2 K3; have x3 := x2.at1 K3 na)
            | (refine (C4.out _ _ A1).mono ?_; rintro e u2 ⟨rfl, S2⟩; have A2 := A1.sm S2; have B2 := B1.sm S2; have x2 := x0.sm (S1.trans S2))
            | (refine (C3.out _ _ A0).mono ?_; rintro e u1 ⟨rfl, S1⟩; have A1 := A0.sm S1; have B1 := B0.sm S1))
        | (go_at_call 17; refine (CC.out _ _ A4).mono ?_; rintro e w' ⟨rfl, rfl⟩)
        | (go_at_call 13; refine (CN.out _ _).mono ?_; rintro e w' ⟨rfl, rfl⟩))
      go_ret
      exact ⟨rfl, Sm.of ((((K0.trans (S1.kp _)).trans (S2.kp _)).trans (K3.fr ga)).trans (K4.fr gb))⟩
end Go.Proofs.YtconibmdlfkopaaGreatDoor
