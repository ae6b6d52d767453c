/-
  kdf's Of.
-/
import Derived.Test.YtledggjbijoijaaDoorKB
namespace Go.Proofs.YtledggjbijoijaaDoor
open Go.RowKit
set_option maxRecDepth 100000 in
set_option maxHeartbeats 1600000 in
theorem kof_ok (id kk : Int) (z : Nat) (h : Hi id (z : Int) kk) (Z I : ByteArray) (hs : Z.size + I.size < 2305843009213690000) (n : Nat) (hn : n ≤ 1024) (w : World) (hK : KK w) :
    Calls Tryd.prog 7 #[.int .i64 id, .string Z, .string I, .int .i64 (n : Int)] w fun e w' => e = .returned (.tuple #[.string (kd (kb id Z I) z n), .int .i64 0]) ∧ Sm w w' := by
  have HK : Hid (KK w) := hK
  have hz := h.z64
  have hz0 := h.z28
  have C0 : Hid (∀ w, Calls Tryd.prog 13 #[.int .i64 id, .int .i64 (n : Int)] w fun e w' => e = .returned (.int .i64 0) ∧ Sm w w') := kcheck_ok id kk z n h hn
  have C1 : Hid (∀ (i : Nat) w, i + 1 < 256 → KK w → Calls Tryd.prog 15 #[.int .i64 id, .int .u32 ((i : Int) + 1), .string Z, .string I] w fun e w' => e = .returned (.string (kb id Z I (i + 1))) ∧ Sm w w') := fun i w h1 h2 => kblock_any id z kk h (i + 1) h1 Z I hs w h2
  have HI : Hid (∀ i, (kb id Z I i).size = z) := kb_size h Z I
  have HS : Hid (∀ i, (jn (kb id Z I) i).size = i * z) := jn_size _ z (kb_size h Z I)
  have HG : Hid (∀ i, n ≤ i * z → (i = 0 ∨ (i - 1) * z < n) → kd (kb id Z I) z n = (jn (kb id Z I) i).extract 0 n) := fun i h1 h2 => kd_is _ z n i (by omega) h1 h2
  have HZ : Hid (28 ≤ z ∧ z ≤ 64 ∧ n ≤ 1024) := show 28 ≤ z ∧ z ≤ 64 ∧ n ≤ 1024 by omega
  have CL : Hid (∀ B b t w, Bd w B b t → Calls Tryd.prog 14 #[.pointer (some ⟨b, 0, none⟩)] w fun e w' => e = .returned (.int .i64 (t.size : Int)) ∧ w = w') := blen_any
  have CW : Hid (∀ B b t s w, Bd w B b t → t.size + s.size ≤ 140737488355328 → B ≤ w.heap.size → Calls Tryd.prog 16 #[.pointer (some ⟨b, 0, none⟩), .string s] w fun e w' => e = .returned (.tuple #[.int .i64 (s.size : Int), .nilIface]) ∧ Bd w' B b (t ++ s) ∧ Kp (Fr B) w w') := bwrite_any
  have CS : Hid (∀ B b t w, Bd w B b t → B ≤ w.heap.size → Calls Tryd.prog 17 #[.pointer (some ⟨b, 0, none⟩)] w fun e w' => e = .returned (.string t) ∧ Kp (Fr B) w w') := bstr_any
  have n0 : (0 : Int) ≤ (n : Int) := by omega
  have n1 : (n : Int) ≤ 1024 := by omega
  generalize kd (kb id Z I) z n = GT at *
  generalize hvi : kb id Z I = f at *
  generalize hvs : jn f = g at *
  have HF : Hid (g 0 = .empty ∧ ∀ i, g (i + 1) = g i ++ f (i + 1)) := show g 0 = .empty ∧ ∀ i, g (i + 1) = g i ++ f (i + 1) from by
    subst hvs
    exact ⟨rfl, fun _ => rfl⟩
  clear h hK hz hz0 hs hn hvi hvs
  go_enter Tryd.func7, Tryd.ntmps7
  go_wp2_with (go_at_call 13; refine (C0.out _).mono ?_; rintro e v0 ⟨rfl, S0⟩)
  have B0 := Bd.new v0
  have K0 : Kp (Fr v0.heap.size) v0 (v0.alloc (.cells #[.pointer none, .slice none 0 0] 38)) := ((Sm.refl v0).alloc _).kp _
  generalize v0.alloc (.cells #[.pointer none, .slice none 0 0] 38) = v at *
  have hw0 : v0.heap.size ≤ v0.heap.size := Nat.le_refl _
  have k0 := HK.out.sm S0
  have HK0 : Hid (KK v0) := k0
  clear k0
  obtain ⟨b, hb⟩ : ∃ b, v0.heap.size = b := ⟨_, rfl⟩
  have HB : Hid (v0.heap.size = b) := hb
  rw [hb]
  rw [hb] at B0
  clear hb
  go_loopw [12] (fun x u => ∃ i : Nat, x = .int .u32 ((i : Int) + 1) ∧ Bd u b b ((g i).extract 0 n) ∧ (i = 0 ∨ (i - 1) * z < n) ∧ Kp (Fr v0.heap.size) v0 u) (fun _ u => n - bl u b)
  case atStart =>
    obtain ⟨e2, _⟩ := HF.out
    exact ⟨0, by rfl, by rw [e2, ex_all _ _ (Nat.zero_le n)]; exact B0, Or.inl rfl, K0⟩
  case round =>
    clear B0 K0
    obtain ⟨i, rfl, B0, hi, K0⟩ := hrel
    have x0 := HK0.out.fr K0 hw0
    have hgs := HS.out i
    have hbw : b ≤ wr.heap.size := by rw [← HB.out]; exact K0.size
    by_cases c : i * z < n
    · obtain ⟨T, hT⟩ : ∃ T, g i = T := ⟨_, rfl⟩
      have hE : (g i).extract 0 n = T := by rw [ex_all _ _ (by omega), hT]
      rw [hE] at B0
      rw [hT] at hgs
      have hfs := HI.out (i + 1)
      have HZ2 := HZ.out
      have hi36 : i ≤ 36 := by
        have := Nat.mul_le_mul_left i HZ2.1
        omega
      have HN : Hid (T ++ (f (i + 1)).extract 0 (n - T.size) = (g (i + 1)).extract 0 n) := show _ = _ from by
        rw [(HF.out).2 i, hT, ex_app _ _ _ (by omega)]
      have HR : Hid (i + 1 = 0 ∨ (i + 1 - 1) * z < n) := Or.inr c
      have HBL : Hid (Unit → bl wr b = T.size) := fun _ => B0.bl
      have hTn : (T.size : Int) < (n : Int) := by omega
      have hA : ((f (i + 1)).size : Int) = (z : Int) := by omega
      have HI6 : Hid (i + 1 < 256) := show i + 1 < 256 by omega
      have i0 : (0 : Int) ≤ (i : Int) := by omega
      have i1 : (i : Int) ≤ 36 := by omega
      clear hE hT hi c hgs
      have HL : Hid (∀ m, T.size + ((f (i + 1)).extract 0 m).size ≤ 140737488355328) := fun m => by
        rw [ex_sz]
        omega
      have HX : Hid (Unit → (f (i + 1)).extract 0 (min (z : Int) ((n : Int) - (T.size : Int))).toNat = (f (i + 1)).extract 0 (n - T.size)) := fun _ => by
        by_cases c : (z : Int) ≤ (n : Int) - (T.size : Int)
        · rw [Int.min_eq_left c, ex_all _ _ (by omega), ex_all _ _ (by omega)]
        · rw [Int.min_eq_right (by omega), show ((n : Int) - (T.size : Int)).toNat = n - T.size by omega]
      have HM : Hid (0 < ((f (i + 1)).extract 0 (n - T.size)).size) := show _ < _ by rw [ex_sz]; omega
      have HNB : Hid (T.size < n) := show T.size < n by omega
      clear HZ2 hfs hi36
      go_wp2_with (first
        | (go_at_call 14; first | (refine (CL.out _ _ _ _ B1).mono ?_; rintro e w' ⟨rfl, rfl⟩) | (refine (CL.out _ _ _ _ B0).mono ?_; rintro e w' ⟨rfl, rfl⟩))
        | (go_at_call 15; refine (C1.out _ _ HI6.out x0).mono ?_; rintro e u1 ⟨rfl, S1⟩; have B1 := B0.sm S1; have hb1 := Nat.le_trans hbw S1.size)
        | (go_at_call 16; refine (CW.out _ _ _ _ _ B1 (HL.out _) hb1).mono ?_; rintro e u2 ⟨rfl, B2, K2⟩))
      go_roundw
      case rel =>
        refine ⟨i + 1, by go_num, ?_, HR.out, (K0.trans (S1.kp _)).trans ?_⟩
        · rw [HX.out ()] at B2
          rw [← HN.out]
          exact B2
        · rw [HB.out]
          exact K2
      case measure =>
        have e1 := B2.bl
        rw [HX.out (), ByteArray.size_append] at e1
        have e2 := HBL.out ()
        have := HM.out
        have := HNB.out
        omega
    · have HQ := HG.out i (by omega) hi
      obtain ⟨T, hT⟩ : ∃ T, (g i).extract 0 n = T := ⟨_, rfl⟩
      have hTs : T.size = n := by rw [← hT, ex_sz, hgs]; omega
      rw [hT] at HQ B0
      have HQ' : Hid (GT = T) := HQ
      have hTn : ¬ (T.size : Int) < (n : Int) := by omega
      clear HQ hT hTs hgs c hi
      go_wp2_with (first
        | (go_at_call 14; refine (CL.out _ _ _ _ B0).mono ?_; rintro e w' ⟨rfl, rfl⟩)
        | (go_at_call 17; refine (CS.out _ _ _ _ B0 hbw).mono ?_; rintro e u1 ⟨rfl, K1⟩))
      go_ret2
      refine ⟨by rw [HQ'.out]; rfl, S0.trans (Sm.of (K0.trans ?_))⟩
      rw [HB.out]
      exact K1
set_option maxRecDepth 100000 in
set_option maxHeartbeats 800000 in
theorem kof_no (id n : Int) (Z I : ByteArray) (h : id ≤ 0 ∨ 5 ≤ id) (w : World) :
    Calls Tryd.prog 7 #[.int .i64 id, .string Z, .string I, .int .i64 n] w fun e w' => e = .returned (.tuple #[.string .empty, .int .i64 1200]) ∧ Sm w w' := by
  have C0 : Hid (∀ w, Calls Tryd.prog 13 #[.int .i64 id, .int .i64 n] w fun e w' => e = .returned (.int .i64 1200) ∧ Sm w w') := kcheck_no id n h
  clear h
  go_enter Tryd.func7, Tryd.ntmps7
  go_wp2_with (go_at_call 13; refine (C0.out _).mono ?_; rintro e v0 ⟨rfl, S0⟩)
  go_ret2
  exact ⟨rfl, S0⟩
set_option maxRecDepth 100000 in
set_option maxHeartbeats 800000 in
theorem kof_bad (id z k n : Int) (Z I : ByteArray) (h : Hi id z k) (hn : n < 0 ∨ 1024 < n) (w : World) :
    Calls Tryd.prog 7 #[.int .i64 id, .string Z, .string I, .int .i64 n] w fun e w' => e = .returned (.tuple #[.string .empty, .int .i64 1201]) ∧ Sm w w' := by
  have C0 : Hid (∀ w, Calls Tryd.prog 13 #[.int .i64 id, .int .i64 n] w fun e w' => e = .returned (.int .i64 1201) ∧ Sm w w') := kcheck_bad id z k n h hn
  clear h hn
  go_enter Tryd.func7, Tryd.ntmps7
  go_wp2_with (go_at_call 13; refine (C0.out _).mono ?_; rintro e v0 ⟨rfl, S0⟩)
  go_ret2
  exact ⟨rfl, S0⟩
end Go.Proofs.YtledggjbijoijaaDoor
