/-
  The documents' answers of layer 9, and the statements' awake.
-/
import Derived.Test.YtoplcdcjclbckaaDoorYD
import Derived.Test.YtoplcdcjclbckaaDoorRE7
import Derived.Test.YtoplcdcjclbckaaDoorRE8
namespace Go.Proofs.YtoplcdcjclbckaaDoor
open Go.RowKit
theorem rofA_any (id z k : Int) (h : Hi id z k) (s : ByteArray) (hs : s.size ≤ 140737488351232) (w : World) :
    Calls Tryd.prog 17 #[.int .i64 id, .string s] w fun e w' => e = .returned (.string (dig id s)) ∧ Sm w w' := by
  rcases h with ⟨rfl, rfl, rfl⟩ | ⟨rfl, rfl, rfl⟩ | ⟨rfl, rfl, rfl⟩ | ⟨rfl, rfl, rfl⟩
  · exact rof_any 1 _ _ kr224 s hs w
  · exact rof_any 2 _ _ kr256 s hs w
  · exact L8.rof_any 3 _ _ L8.kr384 s hs w
  · exact L8.rof_any 4 _ _ L8.kr512 s hs w
theorem rsizeA_any (id z k : Int) (h : Hi id z k) (w : World) : Calls Tryd.prog 10 #[.int .i64 id] w fun e w' => e = .returned (.int .i64 z) ∧ w = w' := by
  rcases h with ⟨rfl, rfl, rfl⟩ | ⟨rfl, rfl, rfl⟩ | ⟨rfl, rfl, rfl⟩ | ⟨rfl, rfl, rfl⟩
  · exact rsize_any 1 _ _ kr224 w
  · exact rsize_any 2 _ _ kr256 w
  · exact L8.rsize_any 3 _ _ L8.kr384 w
  · exact L8.rsize_any 4 _ _ L8.kr512 w
theorem rblockA_any (id z k : Int) (h : Hi id z k) (w : World) : Calls Tryd.prog 12 #[.int .i64 id] w fun e w' => e = .returned (.int .i64 k) ∧ w = w' := by
  rcases h with ⟨rfl, rfl, rfl⟩ | ⟨rfl, rfl, rfl⟩ | ⟨rfl, rfl, rfl⟩ | ⟨rfl, rfl, rfl⟩
  · exact rblock_any 1 _ _ kr224 w
  · exact rblock_any 2 _ _ kr256 w
  · exact L8.rblock_any 3 _ _ L8.kr384 w
  · exact L8.rblock_any 4 _ _ L8.kr512 w
set_option maxRecDepth 100000 in
set_option maxHeartbeats 800000 in
theorem rsize_no (id : Int) (h : id ≤ 0 ∨ 5 ≤ id) (w : World) : Calls Tryd.prog 10 #[.int .i64 id] w fun e w' => e = .returned (.int .i64 0) ∧ w = w' := by
  have e1 : (id == 1) = false := by simp; omega
  have e2 : (id == 2) = false := by simp; omega
  have e3 : (id == 3) = false := by simp; omega
  have e4 : (id == 4) = false := by simp; omega
  clear h
  go_enter Tryd.func10, Tryd.ntmps10
  go_wp2
  go_ret
  exact ⟨rfl, rfl⟩
set_option maxRecDepth 100000 in
set_option maxHeartbeats 800000 in
theorem rblock_no (id : Int) (h : id ≤ 0 ∨ 5 ≤ id) (w : World) : Calls Tryd.prog 12 #[.int .i64 id] w fun e w' => e = .returned (.int .i64 0) ∧ w = w' := by
  have e1 : (id == 1) = false := by simp; omega
  have e2 : (id == 2) = false := by simp; omega
  have e3 : (id == 3) = false := by simp; omega
  have e4 : (id == 4) = false := by simp; omega
  clear h
  go_enter Tryd.func12, Tryd.ntmps12
  go_wp2
  go_ret
  exact ⟨rfl, rfl⟩
theorem hi1 : Hi 1 28 64 := Or.inl ⟨rfl, rfl, rfl⟩
theorem hi2 : Hi 2 32 64 := Or.inr (Or.inl ⟨rfl, rfl, rfl⟩)
theorem hi3 : Hi 3 48 128 := Or.inr (Or.inr (Or.inl ⟨rfl, rfl, rfl⟩))
theorem hi4 : Hi 4 64 128 := Or.inr (Or.inr (Or.inr ⟨rfl, rfl, rfl⟩))
set_option maxRecDepth 100000 in
set_option maxHeartbeats 1600000 in
theorem awake9_any (w : World) (hK : KK w) : Calls Tryd.prog 14 #[] w fun e w' => e = .returned (.bool true) ∧ Sm w w' := by
  obtain ⟨A, hA⟩ : ∃ A, dig 3 ⟨#[97]⟩ = A := ⟨_, rfl⟩
  have C1 : Hid (∀ w, KK w → Calls Tryd.prog 7 #[.int .i64 3, .string ⟨#[97]⟩] w fun e w' => e = .returned (.tuple #[.string A, .int .i64 0]) ∧ Sm w w') := fun w h => hA ▸ hof_any 3 _ _ ⟨#[97]⟩ hi3 (by decide) w h
  have C2 : Hid (∀ w, Calls Tryd.prog 7 #[.int .i64 0, .string ⟨#[97]⟩] w fun e w' => e = .returned (.tuple #[.string .empty, .int .i64 900]) ∧ Sm w w') := fun w => hof_no 0 ⟨#[97]⟩ (by decide) w
  have C3 : Hid (∀ w, Calls Tryd.prog 9 #[.int .i64 4] w fun e w' => e = .returned (.int .i64 64) ∧ Sm w w') := hsize_any 4 _ _ hi4
  have C4 : Hid (∀ w, Calls Tryd.prog 11 #[.int .i64 1] w fun e w' => e = .returned (.int .i64 64) ∧ Sm w w') := hblock_any 1 _ _ hi1
  have C5 : Hid (∀ w, Calls Tryd.prog 9 #[.int .i64 9] w fun e w' => e = .returned (.int .i64 0) ∧ Sm w w') := hsize_no 9 (by decide)
  have C7 : Hid (∀ w, Calls Tryd.prog 17 #[.int .i64 3, .string ⟨#[97]⟩] w fun e w' => e = .returned (.string A) ∧ Sm w w') := fun w => hA ▸ rofA_any 3 _ _ hi3 ⟨#[97]⟩ (by decide) w
  have CN : Hid (∀ x w, Calls Tryd.prog 13 #[.int .i64 x] w fun e w' => e = .returned (.int .i64 x) ∧ w = w') := num7_any
  have HK : Hid (KK w) := hK
  clear hA hK
  go_enter Tryd.func14, Tryd.ntmps14
  go_wp2_with (first
    | (go_at_call_of 7 (Value.int IntKind.i64 3); refine (C1.out _ HK.out).mono ?_; rintro e w1 ⟨rfl, S1⟩)
    | (go_at_call_of 7 (Value.int IntKind.i64 0); refine (C2.out _).mono ?_; rintro e w2 ⟨rfl, S2⟩)
    | (go_at_call_of 9 (Value.int IntKind.i64 4); refine (C3.out _).mono ?_; rintro e w3 ⟨rfl, S3⟩)
    | (go_at_call_of 11 (Value.int IntKind.i64 1); refine (C4.out _).mono ?_; rintro e w4 ⟨rfl, S4⟩)
    | (go_at_call_of 9 (Value.int IntKind.i64 9); refine (C5.out _).mono ?_; rintro e w5 ⟨rfl, S5⟩)
    | (go_at_call 17; refine (C7.out _).mono ?_; rintro e w6 ⟨rfl, S6⟩)
    | (go_at_call 13; refine (CN.out _ _).mono ?_; rintro e w' ⟨rfl, rfl⟩))
  go_ret
  exact ⟨rfl, ((((S1.trans S2).trans S3).trans S4).trans S5).trans S6⟩
theorem and_3 (i : Int) : ∃ k : Nat, bits .and .i64 i 3 = (k : Int) ∧ k < 4 := by
  refine ⟨(BitVec.ofInt 64 i &&& BitVec.ofInt 64 3).toNat, ?_, ?_⟩
  · have h : (BitVec.ofInt 64 i &&& BitVec.ofInt 64 3).toNat ≤ 3 := by
      rw [BitVec.toNat_and]
      exact Nat.and_le_right
    show IntKind.i64.wrap ((BitVec.ofInt 64 i &&& BitVec.ofInt 64 3).toNat : Int) = _
    rw [IntKind.wrap_i64]
    omega
  · have h : (BitVec.ofInt 64 i &&& BitVec.ofInt 64 3).toNat ≤ 3 := by
      rw [BitVec.toNat_and]
      exact Nat.and_le_right
    omega
theorem hi_of (p : Nat) (h : p < 4) : ∃ z k, Hi (1 + (p : Int)) z k ∧ Int.tmod k 64 = 0 ∧ k % 64 = 0 ∧ z < k := by
  have : p = 0 ∨ p = 1 ∨ p = 2 ∨ p = 3 := by omega
  rcases this with rfl | rfl | rfl | rfl
  · exact ⟨_, _, hi1, by decide, by decide, by decide⟩
  · exact ⟨_, _, hi2, by decide, by decide, by decide⟩
  · exact ⟨_, _, hi3, by decide, by decide, by decide⟩
  · exact ⟨_, _, hi4, by decide, by decide, by decide⟩
end Go.Proofs.YtoplcdcjclbckaaDoor
