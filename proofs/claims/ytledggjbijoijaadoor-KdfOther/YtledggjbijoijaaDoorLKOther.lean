/-
  The statement KdfOther, walked: it answers true for every three numbers and any two texts.
-/
import Derived.Test.YtledggjbijoijaaDoorKD
namespace Go.Proofs.YtledggjbijoijaaDoor
open Go.RowKit
theorem cut_app (a : ByteArray) (k : Nat) (h : k ≤ a.size) : a.extract 0 k ++ a.extract k a.size = a := by
  apply ByteArray.ext
  have hk : k ≤ a.data.size := h
  rw [ByteArray.data_append, ByteArray.data_extract, ByteArray.data_extract, Array.extract_append_extract, Nat.zero_min, Nat.max_eq_right h]
  exact Array.extract_size
/-- Where the secret ends is not told. -/
theorem kb_cut (id : Int) (Z I : ByteArray) (k : Nat) (h : k ≤ (Z ++ I).size) : kb id ((Z ++ I).extract 0 k) ((Z ++ I).extract k (Z ++ I).size) = kb id Z I := by
  funext n
  unfold kb
  rw [ByteArray.append_assoc, cut_app _ _ h, ← ByteArray.append_assoc]
set_option maxRecDepth 100000 in
set_option maxHeartbeats 3200000 in
theorem lkother_any (i : Int) (Z I : ByteArray) (c o : Int) (hZ : Z.size ≤ 140737488351232) (hI : I.size ≤ 140737488351232) (w : World) (hK : KK w) :
    Calls Tryd.prog 6 #[.int .i64 i, .string Z, .string I, .int .i64 c, .int .i64 o] w fun e w' => e = .returned (.bool true) ∧ Sm w w' := by
  have CN : Hid (∀ x w, Calls Tryd.prog 9 #[.int .i64 x] w fun e w' => e = .returned (.int .i64 x) ∧ w = w') := num7_any
  have CA : Hid (∀ w, KK w → Calls Tryd.prog 10 #[] w fun e w' => e = .returned (.bool true) ∧ Sm w w') := awake12_any
  have HK : Hid (KK w) := hK
  obtain ⟨p, hp, hp4⟩ := and_3 i
  obtain ⟨m, hm, hm8⟩ := and_255 o
  obtain ⟨z, kk, h⟩ := hi_nat p hp4
  have hTs : (Z ++ I).size = Z.size + I.size := ByteArray.size_append
  obtain ⟨n, hn⟩ : ∃ n, (Z ++ I).size = n := ⟨_, rfl⟩
  obtain ⟨k, hkm, hkn⟩ := umod_w64 c (n + 1) (by omega)
  obtain ⟨k', hk', hc⟩ : ∃ k', k' ≤ n ∧ ((n = 0 ∧ k' = 0) ∨ (¬ n = 0 ∧ k' = k)) := by
    by_cases e : n = 0
    · exact ⟨0, by omega, Or.inl ⟨e, rfl⟩⟩
    · exact ⟨k, by omega, Or.inr ⟨e, rfl⟩⟩
  have e0 := kb_cut (1 + (p : Int)) Z I k' (by omega)
  have C1 : Hid (∀ w, KK w → Calls Tryd.prog 7 #[.int .i64 (1 + (p : Int)), .string Z, .string I, .int .i64 (m : Int)] w fun e w' => e = .returned (.tuple #[.string (kd (kb (1 + (p : Int)) Z I) z m), .int .i64 0]) ∧ Sm w w') := fun w hw => kof_ok _ kk z h Z I (by omega) m (by omega) w hw
  have C2 : Hid (∀ w, KK w → Calls Tryd.prog 7 #[.int .i64 (1 + (p : Int)), .string ((Z ++ I).extract 0 k'), .string ((Z ++ I).extract k' n), .int .i64 (m : Int)] w fun e w' => e = .returned (.tuple #[.string (kd (kb (1 + (p : Int)) Z I) z m), .int .i64 0]) ∧ Sm w w') := fun w hw => by
    rw [← e0, ← hn]
    refine kof_ok _ kk z h _ _ ?_ m (by omega) w hw
    rw [ex_sz, ByteArray.size_extract]
    omega
  have hZI : (Z.size : Int) + (I.size : Int) ≤ 1000000000000000 := by omega
  generalize kd (kb (1 + (p : Int)) Z I) z m = A at *
  generalize hT : Z ++ I = T at *
  have p1 : (p : Int) < 4 := by omega
  have m1 : (m : Int) < 256 := by omega
  have n1 : (n : Int) ≤ 1000000000000000 := by omega
  have k1 : (k' : Int) ≤ (n : Int) := by omega
  have k0 : (0 : Int) ≤ (k' : Int) := by omega
  rcases hc with ⟨e1, e2⟩ | ⟨e1, e2⟩
  · subst e1 e2
    have eT : T.extract 0 0 = ByteArray.empty := by
      apply ByteArray.ext
      simp
    rw [eT] at C2
    clear h hK hp4 hm8 hZ hI e0 hTs hkm hkn hk'
    go_enter Tryd.func6, Tryd.ntmps6
    go_wp2_with (first
      | (go_at_call 10; refine (CA.out _ HK.out).mono ?_; rintro e w1 ⟨rfl, S1⟩; have x1 := HK.out.sm S1)
      | (go_at_call 7; refine (C1.out _ x1).mono ?_; rintro e w2 ⟨rfl, S2⟩; have x2 := x1.sm S2))
    go_region_with (go_at_call 7; refine (C2.out _ (x2.sm ((Sm.refl w2).drew))).mono ?_; rintro e w3 ⟨rfl, S3⟩)
    all_goals
      go_wp2_with (go_at_call 9; refine (CN.out _ _).mono ?_; rintro e w' ⟨rfl, rfl⟩)
      go_ret
      exact ⟨rfl, ((S1.trans S2).drew).trans S3⟩
  · subst e2
    have n0 : (0 : Int) < (n : Int) := by omega
    have k2 : (IntKind.u64.wrap c).tmod ((n : Int) + 1) = (k' : Int) := by rw [← hkm]; rfl
    clear h hK hp4 hm8 hZ hI e0 hTs hkm hkn hk' e1
    go_enter Tryd.func6, Tryd.ntmps6
    go_wp2_with (first
      | (go_at_call 10; refine (CA.out _ HK.out).mono ?_; rintro e w1 ⟨rfl, S1⟩; have x1 := HK.out.sm S1)
      | (go_at_call 7; refine (C1.out _ x1).mono ?_; rintro e w2 ⟨rfl, S2⟩; have x2 := x1.sm S2))
    go_region_with (go_at_call 7; refine (C2.out _ (x2.sm ((Sm.refl w2).drew))).mono ?_; rintro e w3 ⟨rfl, S3⟩)
    all_goals
      go_wp2_with (go_at_call 9; refine (CN.out _ _).mono ?_; rintro e w' ⟨rfl, rfl⟩)
      go_ret
      exact ⟨rfl, ((S1.trans S2).drew).trans S3⟩
end Go.Proofs.YtledggjbijoijaaDoor
