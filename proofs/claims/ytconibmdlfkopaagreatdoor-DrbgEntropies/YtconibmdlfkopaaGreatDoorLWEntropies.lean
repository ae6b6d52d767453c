/-
  The statement DrbgEntropies, walked: it answers true for every three numbers.
-/
import Derived.Test.YtconibmdlfkopaaGreatDoorWI
namespace Go.Proofs.YtconibmdlfkopaaGreatDoor
open Go.RowKit
/-- What New answers: a generator, or none. -/
def Fnw (z : Int) (k m : Nat) (x y : Value) : Prop := (z ≤ 2 * (k : Int) ∧ (k : Int) ≤ 256 ∧ (m : Int) ≤ 256 ∧ ∃ d, x = .pointer (some ⟨d, 0, none⟩) ∧ y = .int .i64 0) ∨ ((decide (z ≤ 2 * (k : Int)) = false ∨ (z ≤ 2 * (k : Int) ∧ decide ((k : Int) ≤ 256) = false) ∨ (z ≤ 2 * (k : Int) ∧ (k : Int) ≤ 256 ∧ decide ((m : Int) ≤ 256) = false)) ∧ x = .pointer none ∧ y = .int .i64 1101)
attribute [local go_sem ↓] mkS_is cvS_is
set_option maxRecDepth 100000 in
set_option maxHeartbeats 3200000 in
theorem lwentropies_any (i s o : Int) (w : World) (hK : KK w) :
    Calls Tryz.prog 6 #[.int .i64 i, .int .i64 s, .int .i64 o] w fun e w' => e = .returned (.bool true) ∧ Sm w w' := by
  have CN : Hid (∀ x w, Calls Tryz.prog 13 #[.int .i64 x] w fun e w' => e = .returned (.int .i64 x) ∧ w = w') := num7_any
  have CA : Hid (∀ w, KK w → Calls Tryz.prog 14 #[] w fun e w' => e = .returned (.bool true) ∧ Sm w w') := awake11_any
  have C0 : Hid (∀ w, Calls Tryz.prog 11 #[.int .i64 0, .string ⟨#[48, 49, 50, 51, 52, 53, 54, 55, 56, 57, 97, 98, 99, 100, 101, 102]⟩, .string ⟨#[]⟩, .string ⟨#[]⟩] w fun e w' => e = .returned (.tuple #[.pointer none, .int .i64 1100]) ∧ Sm w w') := fun w => dnew_no 0 (by decide) _ _ _ w
  have HK : Hid (KK w) := hK
  obtain ⟨p, hp, hp4⟩ := and_3 i
  obtain ⟨k, hk, hk5⟩ := and_511 s
  obtain ⟨m, hm, hm5⟩ := and_511 o
  obtain ⟨z, kk, h⟩ := hi_nat p hp4
  have CS : Hid (∀ w, Calls Tryz.prog 20 #[.int .i64 (1 + (p : Int))] w fun e w' => e = .returned (.int .i64 (z : Int)) ∧ w = w') := rsizeA_any _ z kk h
  have sk := nz_size k
  have sm := nz_size m
  have mk := fun w => mkS_run w .i64 .i64 k (by omega)
  have mm := fun w => mkS_run w .i64 .i64 m (by omega)
  have p1 : (p : Int) < 4 := by omega
  have k1 : (k : Int) < 512 := by omega
  have m1 : (m : Int) < 512 := by omega
  have cvA : ∀ (W : World) (b n c : Nat) (t : TypeId), Bk W b (br n fun _ => 0) t → (cvS (.slice (some ⟨b, 0, none⟩) n c)).run Tryz.prog W = .ok (.string (nz n)) W := fun W b n c t hB => cvS_run W b 0 n c (fun _ => 0) fun i hi => by rw [Nat.zero_add]; exact (hB.cell i).trans (br_get n _ i hi)
  have HV : Hid (∀ (W : World) (b n c : Nat) (t : TypeId), Bk W b (br n fun _ => 0) t → (cvS (.slice (some ⟨b, 0, none⟩) n c)).run Tryz.prog W = .ok (.string (nz n)) W) := cvA
  clear cvA
  have C1 : Hid (∀ w, KK w → Calls Tryz.prog 11 #[.int .i64 (1 + (p : Int)), .string (nz k), .string (nz m), .string ⟨#[]⟩] w fun e w' => ∃ x y, e = .returned (.tuple #[x, y]) ∧ Fnw (z : Int) k m x y ∧ Sm w w') := fun w hw => by
    by_cases hno : No (z : Int) (nz k) (nz m) ⟨#[]⟩
    · refine (dnew_ok _ kk z h _ _ _ hno w hw).mono fun _ _ ⟨d, h1, _, _, h2⟩ => ⟨_, _, h1, Or.inl ⟨?_, ?_, ?_, d, rfl, rfl⟩, h2⟩
      · have := hno.1.1
        omega
      · have := hno.1.2
        omega
      · have := hno.2.1
        omega
    · refine (dnew_bad _ z kk h _ _ _ (by omega) hno w).mono fun _ _ ⟨h1, h2⟩ => ⟨_, _, h1, Or.inr ⟨?_, rfl, rfl⟩, h2⟩
      by_cases a1 : (z : Int) ≤ 2 * (k : Int)
      · by_cases a2 : (k : Int) ≤ 256
        · by_cases a3 : (m : Int) ≤ 256
          · exact absurd ⟨⟨by omega, by omega⟩, by omega, by decide⟩ hno
          · exact Or.inr (Or.inr ⟨a1, a2, decide_eq_false a3⟩)
        · exact Or.inr (Or.inl ⟨a1, decide_eq_false a2⟩)
      · exact Or.inl (decide_eq_false a1)
  clear h hK hp4 hk5 hm5 sk sm
  go_enter Tryz.func6, Tryz.ntmps6
  go_wp2_with (go_at_call 14; refine (CA.out _ HK.out).mono ?_; rintro e w1 ⟨rfl, S1⟩; have x1 := HK.out.sm S1)
  go_cut [10, 11] from 24 to 34 (fun x y wx => Fnw (z : Int) k m x y ∧ Sm w wx)
  case first =>
    have B1 := (Bk.new w1 (br k fun _ => 0) 5)
    have B2 := (Bk.new w1 (br m fun _ => 0) 5)
    have v1 := fun c => HV.out _ _ _ c _ B1.drew
    have v2 := fun c => HV.out _ _ _ c _ B2.drew
    have v3 := fun c => HV.out _ _ _ c _ (B1.alloc (.cells (br m fun _ => 0) 5)).drew
    have v4 := fun c => HV.out _ _ _ c _ (B2.alloc (.cells (br k fun _ => 0) 5)).drew
    have B3 : Bk ((w1.alloc (.cells (br k fun _ => 0) 5)).alloc (.cells (br m fun _ => 0) 5)) (w1.heap.size + 1) (br m fun _ => 0) 5 := Bk.at (by simp)
    have B4 : Bk ((w1.alloc (.cells (br m fun _ => 0) 5)).alloc (.cells (br k fun _ => 0) 5)) (w1.heap.size + 1) (br k fun _ => 0) 5 := Bk.at (by simp)
    have v5 := fun c => HV.out _ _ _ c _ B3.drew
    have v6 := fun c => HV.out _ _ _ c _ B4.drew
    go_region_with (go_at_call 11; refine (C1.out _ (x1.sm ((((Sm.refl w1).alloc _).alloc _).drew))).mono ?_; rintro e w2 ⟨x, y, rfl, hF, S2⟩)
    all_goals
      go_wp2
      go_meet
      exact ⟨hF, (((S1.alloc _).alloc _).drew).trans S2⟩
  case rest =>
    obtain ⟨hF, S2⟩ := hcut
    clear C1 HV mk mm S1
    rcases hF with ⟨a1, a2, a3, d, rfl, rfl⟩ | ⟨a1 | ⟨a1, a2⟩ | ⟨a1, a2, a3⟩, rfl, rfl⟩
    all_goals
      go_wp2_with (first
        | (go_at_call 20; refine (CS.out _).mono ?_; rintro e w' ⟨rfl, rfl⟩)
        | (go_at_call 11; refine (C0.out _).mono ?_; rintro e w3 ⟨rfl, S3⟩)
        | (go_at_call 13; refine (CN.out _ _).mono ?_; rintro e w' ⟨rfl, rfl⟩))
      go_ret
      exact ⟨rfl, S2.trans S3⟩
end Go.Proofs.YtconibmdlfkopaaGreatDoor
