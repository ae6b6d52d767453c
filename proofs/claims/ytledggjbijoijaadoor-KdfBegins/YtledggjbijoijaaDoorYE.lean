/-
  The documents' answers of layer 9, and the statements' awake.
-/
import Derived.Test.YtledggjbijoijaaDoorYD
import Derived.Test.YtledggjbijoijaaDoorRE7
import Derived.Test.YtledggjbijoijaaDoorRE8
namespace Go.Proofs.YtledggjbijoijaaDoor
open Go.RowKit
theorem rofA_any (id z k : Int) (h : Hi id z k) (s : ByteArray) (hs : s.size ≤ 140737488351232) (w : World) :
    Calls Tryd.prog 19 #[.int .i64 id, .string s] w fun e w' => e = .returned (.string (dig id s)) ∧ Sm w w' := by
  rcases h with ⟨rfl, rfl, rfl⟩ | ⟨rfl, rfl, rfl⟩ | ⟨rfl, rfl, rfl⟩ | ⟨rfl, rfl, rfl⟩
  · exact rof_any 1 _ _ kr224 s hs w
  · exact rof_any 2 _ _ kr256 s hs w
  · exact L8.rof_any 3 _ _ L8.kr384 s hs w
  · exact L8.rof_any 4 _ _ L8.kr512 s hs w
theorem rsizeA_any (id z k : Int) (h : Hi id z k) (w : World) : Calls Tryd.prog 18 #[.int .i64 id] w fun e w' => e = .returned (.int .i64 z) ∧ w = w' := by
  rcases h with ⟨rfl, rfl, rfl⟩ | ⟨rfl, rfl, rfl⟩ | ⟨rfl, rfl, rfl⟩ | ⟨rfl, rfl, rfl⟩
  · exact rsize_any 1 _ _ kr224 w
  · exact rsize_any 2 _ _ kr256 w
  · exact L8.rsize_any 3 _ _ L8.kr384 w
  · exact L8.rsize_any 4 _ _ L8.kr512 w
theorem rblockA_any (id z k : Int) (h : Hi id z k) (w : World) : Calls Tryd.prog 26 #[.int .i64 id] w fun e w' => e = .returned (.int .i64 k) ∧ w = w' := by
  rcases h with ⟨rfl, rfl, rfl⟩ | ⟨rfl, rfl, rfl⟩ | ⟨rfl, rfl, rfl⟩ | ⟨rfl, rfl, rfl⟩
  · exact rblock_any 1 _ _ kr224 w
  · exact rblock_any 2 _ _ kr256 w
  · exact L8.rblock_any 3 _ _ L8.kr384 w
  · exact L8.rblock_any 4 _ _ L8.kr512 w
set_option maxRecDepth 100000 in
set_option maxHeartbeats 800000 in
theorem rsize_no (id : Int) (h : id ≤ 0 ∨ 5 ≤ id) (w : World) : Calls Tryd.prog 18 #[.int .i64 id] w fun e w' => e = .returned (.int .i64 0) ∧ w = w' := by
  have e1 : (id == 1) = false := by simp; omega
  have e2 : (id == 2) = false := by simp; omega
  have e3 : (id == 3) = false := by simp; omega
  have e4 : (id == 4) = false := by simp; omega
  clear h
  go_enter Tryd.func18, Tryd.ntmps18
  go_wp2
  go_ret
  exact ⟨rfl, rfl⟩
set_option maxRecDepth 100000 in
set_option maxHeartbeats 800000 in
theorem rblock_no (id : Int) (h : id ≤ 0 ∨ 5 ≤ id) (w : World) : Calls Tryd.prog 26 #[.int .i64 id] w fun e w' => e = .returned (.int .i64 0) ∧ w = w' := by
  have e1 : (id == 1) = false := by simp; omega
  have e2 : (id == 2) = false := by simp; omega
  have e3 : (id == 3) = false := by simp; omega
  have e4 : (id == 4) = false := by simp; omega
  clear h
  go_enter Tryd.func26, Tryd.ntmps26
  go_wp2
  go_ret
  exact ⟨rfl, rfl⟩
theorem hi1 : Hi 1 28 64 := Or.inl ⟨rfl, rfl, rfl⟩
theorem hi2 : Hi 2 32 64 := Or.inr (Or.inl ⟨rfl, rfl, rfl⟩)
theorem hi3 : Hi 3 48 128 := Or.inr (Or.inr (Or.inl ⟨rfl, rfl, rfl⟩))
theorem hi4 : Hi 4 64 128 := Or.inr (Or.inr (Or.inr ⟨rfl, rfl, rfl⟩))
theorem and_3 (i : Int) : ∃ k : Nat, bits .and .i64 i 3 = (k : Int) ∧ k < 4 := by
  refine ⟨(BitVec.ofInt 64 i &&& BitVec.ofInt 64 3).toNat, ?_, ?_⟩
  · have h : (BitVec.ofInt 64 i &&& BitVec.ofInt 64 3).toNat ≤ 3 := by
      rw [BitVec.toNat_and]
      exact Nat.and_le_right
    show IntKind.i64.wrap ((BitVec.ofInt 64 i &&& BitVec.ofInt 64 3).toNat : Int) = _
    rw [IntKind.wrap_i64]
    omega
  · have h : (BitVec.ofInt 64 i &&& BitVec.ofInt 64 3).toNat ≤ 3 := by
      rw [BitVec.toNat_and]
      exact Nat.and_le_right
    omega
theorem hi_of (p : Nat) (h : p < 4) : ∃ z k, Hi (1 + (p : Int)) z k ∧ Int.tmod k 64 = 0 ∧ k % 64 = 0 ∧ z < k := by
  have : p = 0 ∨ p = 1 ∨ p = 2 ∨ p = 3 := by omega
  rcases this with rfl | rfl | rfl | rfl
  · exact ⟨_, _, hi1, by decide, by decide, by decide⟩
  · exact ⟨_, _, hi2, by decide, by decide, by decide⟩
  · exact ⟨_, _, hi3, by decide, by decide, by decide⟩
  · exact ⟨_, _, hi4, by decide, by decide, by decide⟩
end Go.Proofs.YtledggjbijoijaaDoor
