/-
  Rows of words of 64 bits in memory; loads and stores of sha512's rows; sha512's wordAt.
-/
import Derived.Test.YtledggjbijoijaaDoorGA
import Derived.Test.YtledggjbijoijaaDoorHI
namespace Go.Proofs.YtledggjbijoijaaDoor.L8
open Go.RowKit

/-- n words as Go's values. -/
def wz (n : Nat) (f : Nat → Nat) : Array Value := ((List.range n).map fun i => Value.int .u64 ((f i : Nat) : Int)).toArray
theorem wz_size (n : Nat) (f : Nat → Nat) : (wz n f).size = n := by simp [wz]
theorem wz_get (n : Nat) (f : Nat → Nat) (k : Nat) (h : k < n) : (wz n f)[k]? = some (.int .u64 ((f k : Nat) : Int)) := by simp [wz, h]
theorem wz_none (n : Nat) (f : Nat → Nat) (k : Nat) (h : n ≤ k) : (wz n f)[k]? = none := Array.getElem?_eq_none (by rw [wz_size]; exact h)
theorem wz_ext (n : Nat) (f g : Nat → Nat) (h : ∀ i, i < n → f i = g i) : wz n f = wz n g := by
  unfold wz
  congr 1
  exact List.map_congr_left fun i hi => by rw [h i (by simpa using hi)]
theorem wz_one (n : Nat) (f : Nat → Nat) : (wz n f).all (·.oneCell') = true := by
  refine Array.all_eq_true_iff_forall_mem.2 fun v hv => ?_
  simp only [wz, List.mem_toArray, List.mem_map] at hv
  obtain ⟨k, _, rfl⟩ := hv
  rfl
theorem wz_set (n : Nat) (f g : Nat → Nat) (k x : Nat) (hk : g k = x) (h : ∀ j, j < n → j ≠ k → g j = f j) : (wz n f).setIfInBounds k (.int .u64 ((x : Nat) : Int)) = wz n g := by
  apply Array.ext_getElem?
  intro j
  rw [Array.getElem?_setIfInBounds]
  by_cases hj : j < n
  · rw [wz_get n g j hj]
    by_cases e : k = j
    · subst e
      rw [if_pos rfl, if_pos (by rw [wz_size]; exact hj), hk]
    · rw [if_neg e, wz_get n f j hj, h j hj (Ne.symm e)]
  · rw [wz_none n g j (by omega)]
    by_cases e : k = j
    · subst e
      rw [if_pos rfl, if_neg (by rw [wz_size]; exact hj)]
    · rw [if_neg e, wz_none n f j (by omega)]

theorem ldB_is (v : Value) : Instr.loadAt 94 v = loadS 94 v := rfl
theorem ldS_is (v : Value) : Instr.loadAt 92 v = loadS 92 v := rfl
theorem ldW_is (v : Value) : Instr.loadAt 119 v = loadS 119 v := rfl
theorem ldH_is (v : Value) : Instr.loadAt 96 v = loadS 96 v := rfl
theorem stS_is (p v : Value) : Instr.storeAt 92 p v = storeS 92 p v := rfl
theorem stW_is (p v : Value) : Instr.storeAt 119 p v = storeS 119 p v := rfl
theorem stH_is (p v : Value) : Instr.storeAt 96 p v = storeS 96 p v := rfl
set_option maxRecDepth 100000 in
set_option maxHeartbeats 800000 in
theorem wordAt_any (b : Nat → Nat) (k : Nat) (a : Int) (hb : ∀ i, i < 128 → b i < 256) (ha : a = ((8 * k : Nat) : Int)) (hk : k < 16) (w : World) :
    Calls Tryd.prog 82 #[.agg (br 128 b), .int .i64 a] w fun e w' => e = .returned (.int .u64 ((w16 b k : Nat) : Int)) ∧ Sm w w' := by
  subst ha
  unfold w16
  obtain ⟨a, ha⟩ : ∃ a, 8 * k = a := ⟨_, rfl⟩
  rw [ha]
  have a1 : (a : Int) ≤ 120 := by omega
  have a2 : a ≤ 120 := by omega
  have a3 : ¬ 128 = a := by omega
  have a4 : (0 : Int) ≤ (a : Int) := by omega
  have a5 : (a : Int) ≤ (a : Int) + 8 := by omega
  have a6 : (a : Int) + 8 ≤ 128 := by omega
  have HB : Hid (∀ i, i < 8 → b (a + i) < 256) := fun i hi => hb _ (by omega)
  clear ha hb hk
  go_enter Tryd.func82, Tryd.ntmps82
  go_wp2
  have h1 := Bk.new w (br 128 b) 94
  have HK : Sm w (w.alloc (Obj.cells (br 128 b) 94)) := (Sm.refl _).alloc _
  generalize w.alloc (Obj.cells (br 128 b) 94) = v at *
  go_loopw [5, 13] (fun x i u => ∃ m : Nat, m ≤ 8 ∧ i = .int .i64 (m : Int) ∧ x = .int .u64 ((hw b a m : Nat) : Int) ∧ Bk u w.heap.size (br 128 b) 94 ∧ Sm w u) (fun _ i _ => 8 - (intOf i).toNat)
  case atStart => exact ⟨0, by omega, rfl, rfl, h1, HK⟩
  case round =>
    clear h1 HK
    obtain ⟨m, hm, rfl, rfl, h1, HK⟩ := hrel
    by_cases hlt : m < 8
    · have m0 : (0 : Int) ≤ (m : Int) := by omega
      have m1 : (m : Int) < 8 := by omega
      have c1 := (h1.cell (a + m)).trans (br_get 128 b (a + m) (by omega))
      have HS : Hid (Unit → hw b a (m + 1) = (hw b a m * 256 % 18446744073709551616) ||| b (a + m)) := fun _ => rfl
      have hy := HB.out m hlt
      generalize b (a + m) = y at *
      have y1 : (y : Int) < 256 := by omega
      generalize hw b a m = x at *
      go_wp2
      go_roundw
      case rel => exact ⟨m + 1, by omega, by go_num, by rw [HS.out (), ← hw_step x y hy, IntKind.wrap_u64], h1, HK⟩
      case measure => simp [intOf]; omega
    · have mi : ¬ (m : Int) < 8 := by omega
      have hm8 : Hid (m = 8) := show m = 8 by omega
      clear hlt hm
      go_wp2
      go_ret
      exact ⟨by rw [hm8.out]; rfl, HK⟩
end Go.Proofs.YtledggjbijoijaaDoor.L8
