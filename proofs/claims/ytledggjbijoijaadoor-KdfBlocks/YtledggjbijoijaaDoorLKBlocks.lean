/-
  The statement KdfBlocks, walked: it answers true for every two numbers and any two texts.
-/
import Derived.Test.YtledggjbijoijaaDoorKD
namespace Go.Proofs.YtledggjbijoijaaDoor
open Go.RowKit
theorem ex_end (a b : ByteArray) : (a ++ b).extract a.size (a ++ b).size = b := by
  rw [ByteArray.extract_append]
  have e : a.extract a.size (a ++ b).size = .empty := by
    apply ByteArray.ext
    simp
  rw [e, app_nil]
  apply ByteArray.ext
  simp
attribute [local go_sem ↓] cvS_is
set_option maxRecDepth 100000 in
set_option maxHeartbeats 3200000 in
theorem lkblocks_any (i : Int) (Z I : ByteArray) (o : Int) (hZ : Z.size ≤ 140737488351232) (hI : I.size ≤ 140737488351232) (w : World) (hK : KK w) :
    Calls Tryd.prog 5 #[.int .i64 i, .string Z, .string I, .int .i64 o] w fun e w' => e = .returned (.bool true) ∧ Sm w w' := by
  have CN : Hid (∀ x w, Calls Tryd.prog 9 #[.int .i64 x] w fun e w' => e = .returned (.int .i64 x) ∧ w = w') := num7_any
  have CA : Hid (∀ w, KK w → Calls Tryd.prog 10 #[] w fun e w' => e = .returned (.bool true) ∧ Sm w w') := awake12_any
  have HK : Hid (KK w) := hK
  obtain ⟨p, hp, hp4⟩ := and_3 i
  obtain ⟨q, hq, hq8⟩ := and_7 o
  obtain ⟨z, kk, h⟩ := hi_nat p hp4
  have hz0 := h.z28
  have hz := h.z64
  have HS := kb_size h Z I
  have hm : z * (1 + q) ≤ 64 * 8 := Nat.mul_le_mul (by omega) (by omega)
  have eW := kd_whole (kb (1 + (p : Int)) Z I) z (q + 1) (by omega) HS
  rw [Nat.mul_comm, Nat.add_comm] at eW
  have hJ := jn_size (kb (1 + (p : Int)) Z I) z HS q
  have hJ1 := jn_size (kb (1 + (p : Int)) Z I) z HS (1 + q)
  have eE : (jn (kb (1 + (p : Int)) Z I) (1 + q)).extract (z * q) (z * (1 + q)) = kb (1 + (p : Int)) Z I (1 + q) := by
    have := ex_end (jn (kb (1 + (p : Int)) Z I) q) (kb (1 + (p : Int)) Z I (q + 1))
    rw [Nat.add_comm 1 q]
    rw [Nat.add_comm] at hJ1
    have e2 : (jn (kb (1 + (p : Int)) Z I) q ++ kb (1 + (p : Int)) Z I (q + 1)).size = (q + 1) * z := hJ1
    rw [e2, hJ, Nat.mul_comm, Nat.mul_comm (q + 1)] at this
    exact this
  have e0 : kd (kb (1 + (p : Int)) Z I) z 0 = .empty := by
    have := kd_whole (kb (1 + (p : Int)) Z I) z 0 (by omega) HS
    rwa [Nat.zero_mul] at this
  have eM : (z : Int) * (1 + (q : Int)) = ((z * (1 + q) : Nat) : Int) := by simp
  have C1 : Hid (∀ w, KK w → Calls Tryd.prog 7 #[.int .i64 (1 + (p : Int)), .string Z, .string I, .int .i64 ((z : Int) * (1 + (q : Int)))] w fun e w' => e = .returned (.tuple #[.string (jn (kb (1 + (p : Int)) Z I) (1 + q)), .int .i64 0]) ∧ Sm w w') := fun w hw => by
    rw [eM, ← eW]
    exact kof_ok _ kk z h Z I (by omega) _ (by omega) w hw
  have C2 : Hid (∀ w, KK w → Calls Tryd.prog 7 #[.int .i64 (1 + (p : Int)), .string Z, .string I, .int .i64 0] w fun e w' => e = .returned (.tuple #[.string .empty, .int .i64 0]) ∧ Sm w w') := fun w hw => e0 ▸ kof_ok _ kk z h Z I (by omega) 0 (by omega) w hw
  have C3 : Hid (∀ w, Calls Tryd.prog 7 #[.int .i64 (1 + (p : Int)), .string Z, .string I, .int .i64 (-1)] w fun e w' => e = .returned (.tuple #[.string .empty, .int .i64 1201]) ∧ Sm w w') := fun w => kof_bad _ z kk (-1) Z I h (by decide) w
  have C4 : Hid (∀ w, Calls Tryd.prog 11 #[.int .i64 (1 + (p : Int))] w fun e w' => e = .returned (.int .i64 (z : Int)) ∧ Sm w w') := hsize_any _ z kk h
  have C5 : Hid (∀ w, KK w → Calls Tryd.prog 12 #[.int .i64 (1 + (p : Int)), .string ((four (1 + q) ++ Z) ++ I)] w fun e w' => e = .returned (.tuple #[.string (kb (1 + (p : Int)) Z I (1 + q)), .int .i64 0]) ∧ Sm w w') := fun w hw => hof_any _ z kk _ h (by rw [ByteArray.size_append, ByteArray.size_append, four_size]; omega) w hw
  have hb : ((four (1 + q) ++ Z : ByteArray).size : Int) + (I.size : Int) ≤ 1000000000000000 := by rw [ByteArray.size_append, four_size]; omega
  have hb0 : ((four (1 + q)).size : Int) + (Z.size : Int) ≤ 1000000000000000 := by rw [four_size]; omega
  have HCV : Hid (∀ (w : World) c, (cvS (.slice (some ⟨w.heap.size, 0, none⟩) 4 c)).run Tryd.prog (w.alloc (.cells #[.int .u8 0, .int .u8 0, .int .u8 0, .int .u8 (1 + (q : Int))] 5)) = .ok (.string (four (1 + q))) (w.alloc (.cells #[.int .u8 0, .int .u8 0, .int .u8 0, .int .u8 (1 + (q : Int))] 5))) := fun w c => by
    have := cv4_is w c (1 + q)
    rwa [show (((1 + q : Nat)) : Int) = 1 + (q : Int) by omega] at this
  generalize four (1 + q) = F at *
  generalize kb (1 + (p : Int)) Z I (1 + q) = D at *
  generalize jn (kb (1 + (p : Int)) Z I) (1 + q) = A at *
  have p1 : (p : Int) < 4 := by omega
  have q1 : (q : Int) < 8 := by omega
  have q0 : (0 : Int) ≤ (q : Int) := by omega
  have z1 : (z : Int) ≤ 64 := by omega
  have z0 : (0 : Int) ≤ (z : Int) := by omega
  have hm' : z * q ≤ z * (1 + q) := Nat.mul_le_mul_left _ (by omega)
  have m0 : (0 : Int) ≤ (z : Int) * (1 + (q : Int)) := by rw [eM]; omega
  have m1 : (z : Int) * (1 + (q : Int)) ≤ 512 := by rw [eM]; omega
  have eN : (z : Int) * (q : Int) = ((z * q : Nat) : Int) := by simp
  have m2 : (0 : Int) ≤ (z : Int) * (q : Int) := by rw [eN]; omega
  have m3 : (z : Int) * (q : Int) ≤ 512 := by rw [eN]; omega
  have hA : A.size = z * (1 + q) := by rw [hJ1, Nat.mul_comm]
  have a1 : ((A.size : Int) == (z : Int) * (1 + (q : Int))) = true := by rw [eM, hA]; simp
  have a2 : (z : Int) * (q : Int) ≤ (A.size : Int) := by rw [eN, hA]; omega
  have a3 : A.extract ((z : Int) * (q : Int)).toNat A.size = D := by
    rw [eN, hA]
    exact eE
  have m4 : wrap64 ((z : Int) * (1 + (q : Int) - 1)) = (z : Int) * (q : Int) := by
    rw [show (1 + (q : Int) - 1) = (q : Int) by omega]
    unfold wrap64
    omega
  clear h hK hp4 hq8 hz0 hz HS hm eW hJ hJ1 eE e0 eM eN hA hm' hZ hI
  go_enter Tryd.func5, Tryd.ntmps5
  go_wp2_with (first
    | (go_at_call 10; refine (CA.out _ HK.out).mono ?_; rintro e w1 ⟨rfl, S1⟩; have x1 := HK.out.sm S1)
    | (go_at_call 11; refine (C4.out _).mono ?_; rintro e w2 ⟨rfl, S2⟩; have x2 := x1.sm S2)
    | (go_at_call 7; first
        | (have := x5; refine (C3.out _).mono ?_; rintro e w6 ⟨rfl, S6⟩)
        | (refine (C2.out _ x4).mono ?_; rintro e w5 ⟨rfl, S5⟩; have x5 := x4.sm S5)
        | (refine (C1.out _ x2).mono ?_; rintro e w3 ⟨rfl, S3⟩; have x3 := (x2.sm S3).sm ((Sm.refl _).alloc (.cells #[.int .u8 0, .int .u8 0, .int .u8 0, .int .u8 (1 + (q : Int))] 5)); have cv := HCV.out w3))
    | (go_at_call 12; refine (C5.out _ x3).mono ?_; rintro e w4 ⟨rfl, S4⟩; have x4 := x3.sm S4)
    | (go_at_call 9; refine (CN.out _ _).mono ?_; rintro e w' ⟨rfl, rfl⟩))
  go_ret
  exact ⟨rfl, ((((((S1.trans S2).trans S3).alloc _).trans S4).trans S5).trans S6)⟩
end Go.Proofs.YtledggjbijoijaaDoor
