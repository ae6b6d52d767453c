/-
  The documents' digest (curvetref7.Of).
-/
import Derived.Test.YtledggjbijoijaaDoorRC7
import Derived.Test.YtledggjbijoijaaDoorHG
namespace Go.Proofs.YtledggjbijoijaaDoor
open Go.RowKit
/-- Which hash, by the documents' number. -/
structure Kr (id : Int) (iv : Nat → Nat) (z : Nat) : Prop where
  is : (id = 1 ∧ iv = iv224 ∧ z = 28) ∨ (id = 2 ∧ iv = iv256 ∧ z = 32)
theorem Kr.lt {id : Int} {iv : Nat → Nat} {z : Nat} (h : Kr id iv z) (i : Nat) : iv i < 4294967296 := by
  rcases h.is with ⟨_, rfl, _⟩ | ⟨_, rfl, _⟩
  · exact iv224_lt i
  · exact iv256_lt i
theorem Kr.le {id : Int} {iv : Nat → Nat} {z : Nat} (h : Kr id iv z) : z ≤ 32 := by
  rcases h.is with ⟨_, _, rfl⟩ | ⟨_, _, rfl⟩ <;> decide
set_option maxRecDepth 100000 in
theorem rblock_any (id : Int) (iv : Nat → Nat) (z : Nat) (hk : Kr id iv z) (w : World) : Calls Tryd.prog 26 #[.int .i64 id] w fun e w' => e = .returned (.int .i64 64) ∧ w = w' := by
  rcases hk.is with ⟨rfl, rfl, _⟩ | ⟨rfl, rfl, _⟩
  all_goals
    go_enter Tryd.func26, Tryd.ntmps26
    go_wp2
    go_ret
    exact ⟨rfl, rfl⟩
set_option maxRecDepth 100000 in
theorem rsize_any (id : Int) (iv : Nat → Nat) (z : Nat) (hk : Kr id iv z) (w : World) : Calls Tryd.prog 18 #[.int .i64 id] w fun e w' => e = .returned (.int .i64 (z : Int)) ∧ w = w' := by
  rcases hk.is with ⟨rfl, _, rfl⟩ | ⟨rfl, _, rfl⟩
  all_goals
    go_enter Tryd.func18, Tryd.ntmps18
    go_wp2
    go_ret
    exact ⟨rfl, rfl⟩
set_option maxRecDepth 100000 in
theorem rbegin_any (id : Int) (iv : Nat → Nat) (z : Nat) (hk : Kr id iv z) (w : World) : Calls Tryd.prog 27 #[.int .i64 id] w fun e w' => e = .returned (.slice (some ⟨w.heap.size, 0, none⟩) 8 8) ∧ Bk w' w.heap.size (wz 8 iv) 39 ∧ Sm w w' := by
  rcases hk.is with ⟨rfl, rfl, _⟩ | ⟨rfl, rfl, _⟩
  all_goals
    go_enter Tryd.func27, Tryd.ntmps27
    go_wp2
    go_ret
    exact ⟨rfl, (Bk.new w _ _).cast (by unfold wz; rfl), (Sm.refl _).alloc _⟩
set_option maxRecDepth 100000 in
theorem rk_any (w : World) : Calls Tryd.prog 28 #[] w fun e w' => e = .returned (.slice (some ⟨w.heap.size, 0, none⟩) 64 64) ∧ Bk w' w.heap.size (wz 64 kc) 39 ∧ Sm w w' := by
  go_enter Tryd.func28, Tryd.ntmps28
  go_wp2
  go_ret
  exact ⟨rfl, (Bk.new w _ _).cast (by unfold wz; rfl), (Sm.refl _).alloc _⟩
end Go.Proofs.YtledggjbijoijaaDoor
