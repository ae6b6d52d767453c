/-
  The statement KdfBegins, walked: it answers true for every three numbers and any two texts.
-/
import Derived.Test.YtledggjbijoijaaDoorKD
namespace Go.Proofs.YtledggjbijoijaaDoor
open Go.RowKit
theorem one_four : (⟨#[0, 0, 0, 1]⟩ : ByteArray) = four 1 := rfl
theorem kd_one (id : Int) (Z I : ByteArray) (z : Nat) (hz : 0 < z) (h : ∀ i, (kb id Z I i).size = z) : kd (kb id Z I) z z = kb id Z I 1 := by
  have e := kd_whole (kb id Z I) z 1 hz h
  rw [Nat.one_mul] at e
  rw [e]
  show ByteArray.empty ++ kb id Z I 1 = _
  rw [app_nil]
set_option maxRecDepth 100000 in
set_option maxHeartbeats 3200000 in
theorem lkbegins_any (i : Int) (Z I : ByteArray) (s o : Int) (hZ : Z.size ≤ 140737488351232) (hI : I.size ≤ 140737488351232) (w : World) (hK : KK w) :
    Calls Tryd.prog 4 #[.int .i64 i, .string Z, .string I, .int .i64 s, .int .i64 o] w fun e w' => e = .returned (.bool true) ∧ Sm w w' := by
  have CN : Hid (∀ x w, Calls Tryd.prog 9 #[.int .i64 x] w fun e w' => e = .returned (.int .i64 x) ∧ w = w') := num7_any
  have CA : Hid (∀ w, KK w → Calls Tryd.prog 10 #[] w fun e w' => e = .returned (.bool true) ∧ Sm w w') := awake12_any
  have HK : Hid (KK w) := hK
  obtain ⟨p, hp, hp4⟩ := and_3 i
  obtain ⟨k, hk, hk9⟩ := and_511 s
  obtain ⟨j, hj, hj9⟩ := and_511 o
  obtain ⟨z, kk, h⟩ := hi_nat p hp4
  have hz0 := h.z28
  have hz := h.z64
  have HS := kb_size h Z I
  have eP := kd_pre (kb (1 + (p : Int)) Z I) z k (k + j) (by omega) HS (by omega)
  have s1 := kd_size (kb (1 + (p : Int)) Z I) z k (by omega) HS
  have s2 := kd_size (kb (1 + (p : Int)) Z I) z (k + j) (by omega) HS
  have eO := kd_one (1 + (p : Int)) Z I z (by omega) HS
  have C1 : Hid (∀ w, KK w → Calls Tryd.prog 7 #[.int .i64 (1 + (p : Int)), .string Z, .string I, .int .i64 (k : Int)] w fun e w' => e = .returned (.tuple #[.string (kd (kb (1 + (p : Int)) Z I) z k), .int .i64 0]) ∧ Sm w w') := fun w hw => kof_ok _ kk z h Z I (by omega) k (by omega) w hw
  have C2 : Hid (∀ w, KK w → Calls Tryd.prog 7 #[.int .i64 (1 + (p : Int)), .string Z, .string I, .int .i64 ((k : Int) + (j : Int))] w fun e w' => e = .returned (.tuple #[.string (kd (kb (1 + (p : Int)) Z I) z (k + j)), .int .i64 0]) ∧ Sm w w') := fun w hw => kof_ok _ kk z h Z I (by omega) (k + j) (by omega) w hw
  have C3 : Hid (∀ w, Calls Tryd.prog 11 #[.int .i64 (1 + (p : Int))] w fun e w' => e = .returned (.int .i64 (z : Int)) ∧ Sm w w') := hsize_any _ z kk h
  have C4 : Hid (∀ w, KK w → Calls Tryd.prog 7 #[.int .i64 (1 + (p : Int)), .string Z, .string I, .int .i64 (z : Int)] w fun e w' => e = .returned (.tuple #[.string (kb (1 + (p : Int)) Z I 1), .int .i64 0]) ∧ Sm w w') := fun w hw => eO ▸ kof_ok _ kk z h Z I (by omega) z (by omega) w hw
  have C5 : Hid (∀ w, KK w → Calls Tryd.prog 12 #[.int .i64 (1 + (p : Int)), .string ((⟨#[0, 0, 0, 1]⟩ ++ Z) ++ I)] w fun e w' => e = .returned (.tuple #[.string (kb (1 + (p : Int)) Z I 1), .int .i64 0]) ∧ Sm w w') := fun w hw => hof_any _ z kk _ h (by rw [ByteArray.size_append, ByteArray.size_append, one_four, four_size]; omega) w hw
  have hq : ((⟨#[0, 0, 0, 1]⟩ ++ Z : ByteArray).size : Int) + (I.size : Int) ≤ 1000000000000000 := by rw [ByteArray.size_append, one_four, four_size]; omega
  have hq0 : (4 : Int) + (Z.size : Int) ≤ 1000000000000000 := by omega
  generalize kd (kb (1 + (p : Int)) Z I) z k = A at *
  generalize kd (kb (1 + (p : Int)) Z I) z (k + j) = B at *
  generalize kb (1 + (p : Int)) Z I 1 = D at *
  have p1 : (p : Int) < 4 := by omega
  have k1 : (k : Int) < 512 := by omega
  have j1 : (j : Int) < 512 := by omega
  have a1 : ((A.size : Int) == (k : Int)) = true := by simp; omega
  have b1 : ((B.size : Int) == (k : Int) + (j : Int)) = true := by simp; omega
  have b2 : (k : Int) ≤ (B.size : Int) := by omega
  have eP' : B.extract 0 (k : Int).toNat = A := eP
  clear h hK hp4 hk9 hj9 hz0 hz HS s1 s2 eO hZ hI
  go_enter Tryd.func4, Tryd.ntmps4
  go_wp2_with (first
    | (go_at_call 10; refine (CA.out _ HK.out).mono ?_; rintro e w1 ⟨rfl, S1⟩; have x1 := HK.out.sm S1)
    | (go_at_call 7; first
        | (refine (C4.out _ x4).mono ?_; rintro e w5 ⟨rfl, S5⟩; have x5 := x4.sm S5)
        | (refine (C2.out _ x2).mono ?_; rintro e w3 ⟨rfl, S3⟩; have x3 := x2.sm S3)
        | (refine (C1.out _ x1).mono ?_; rintro e w2 ⟨rfl, S2⟩; have x2 := x1.sm S2))
    | (go_at_call 11; refine (C3.out _).mono ?_; rintro e w4 ⟨rfl, S4⟩; have x4 := x3.sm S4)
    | (go_at_call 12; refine (C5.out _ x5).mono ?_; rintro e w6 ⟨rfl, S6⟩)
    | (go_at_call 9; refine (CN.out _ _).mono ?_; rintro e w' ⟨rfl, rfl⟩))
  go_ret
  exact ⟨rfl, ((((S1.trans S2).trans S3).trans S4).trans S5).trans S6⟩
end Go.Proofs.YtledggjbijoijaaDoor
