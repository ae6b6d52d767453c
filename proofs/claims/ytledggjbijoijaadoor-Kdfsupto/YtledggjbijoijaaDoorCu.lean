/-
  Cuts of texts, masks, which hash a number is: what the statements of layers 11 and 12 share.
-/
import Derived.Test.YtledggjbijoijaaDoorYE
import Derived.Test.YtledggjbijoijaaDoorLG7
namespace Go.Proofs.YtledggjbijoijaaDoor
open Go.RowKit
theorem Hi.z64 {id z k : Int} (h : Hi id z k) : z ≤ 64 := by rcases h with ⟨_, rfl, _⟩ | ⟨_, rfl, _⟩ | ⟨_, rfl, _⟩ | ⟨_, rfl, _⟩ <;> omega
theorem Hi.z28 {id z k : Int} (h : Hi id z k) : 28 ≤ z := by rcases h with ⟨_, rfl, _⟩ | ⟨_, rfl, _⟩ | ⟨_, rfl, _⟩ | ⟨_, rfl, _⟩ <;> omega
/-- How many macs n bytes want. -/
def rn (z n : Nat) : Nat := (n + z - 1) / z
theorem rn_is (z n i : Nat) (hz : 0 < z) (h1 : n ≤ i * z) (h2 : i = 0 ∨ (i - 1) * z < n) : i = rn z n := by
  unfold rn
  rcases h2 with rfl | h2
  · rw [Nat.zero_mul] at h1
    obtain rfl : n = 0 := by omega
    rw [Nat.div_eq_of_lt (by omega)]
  · have hi : 0 < i := by
      rcases Nat.eq_zero_or_pos i with rfl | h
      · omega
      · exact h
    have e : i * z = (i - 1) * z + z := by
      have := Nat.succ_mul (i - 1) z
      rw [show (i - 1).succ = i by omega] at this
      exact this
    symm
    rw [Nat.div_eq_iff hz]
    rw [Nat.mul_comm] at e h2
    have := Nat.mul_comm z i
    have := Nat.mul_comm z (i - 1)
    omega
theorem ex_app (a b : ByteArray) (n : Nat) (h : a.size ≤ n) : (a ++ b).extract 0 n = a ++ b.extract 0 (n - a.size) := by
  rw [ByteArray.extract_append]
  have e : a.extract 0 n = a := by
    apply ByteArray.ext
    simp
    omega
  rw [e]
  simp
theorem ex_all (a : ByteArray) (n : Nat) (h : a.size ≤ n) : a.extract 0 n = a := by
  apply ByteArray.ext
  simp
  omega
theorem ex_sz (a : ByteArray) (n : Nat) : (a.extract 0 n).size = min n a.size := by simp
theorem ex_left (a b : ByteArray) (n : Nat) (h : n ≤ a.size) : (a ++ b).extract 0 n = a.extract 0 n := by
  rw [ByteArray.extract_append]
  have e : b.extract (0 - a.size) (n - a.size) = .empty := by
    apply ByteArray.ext
    simp
    omega
  rw [e]
  apply ByteArray.ext
  simp
theorem rn_le (z n : Nat) (hz : 0 < z) : n ≤ rn z n * z := by
  unfold rn
  have h3 := Nat.div_add_mod (n + z - 1) z
  have h4 := Nat.mod_lt (n + z - 1) hz
  rw [Nat.mul_comm] at h3
  omega
theorem rn_mono (z n m : Nat) (h : n ≤ m) : rn z n ≤ rn z m := Nat.div_le_div_right (by omega)
theorem ex_ex (a : ByteArray) (n m : Nat) (h : n ≤ m) : (a.extract 0 m).extract 0 n = a.extract 0 n := by
  apply ByteArray.ext
  simp
  congr 1
  omega
theorem and_7 (i : Int) : ∃ k : Nat, bits .and .i64 i 7 = (k : Int) ∧ k < 8 := by
  have h : (BitVec.ofInt 64 i &&& BitVec.ofInt 64 7).toNat ≤ 7 := by
    rw [BitVec.toNat_and]
    exact Nat.and_le_right
  refine ⟨(BitVec.ofInt 64 i &&& BitVec.ofInt 64 7).toNat, ?_, by omega⟩
  show IntKind.i64.wrap ((BitVec.ofInt 64 i &&& BitVec.ofInt 64 7).toNat : Int) = _
  rw [IntKind.wrap_i64]
  omega
theorem and_127 (i : Int) : ∃ k : Nat, bits .and .i64 i 127 = (k : Int) ∧ k < 128 := by
  have h : (BitVec.ofInt 64 i &&& BitVec.ofInt 64 127).toNat ≤ 127 := by
    rw [BitVec.toNat_and]
    exact Nat.and_le_right
  refine ⟨(BitVec.ofInt 64 i &&& BitVec.ofInt 64 127).toNat, ?_, by omega⟩
  show IntKind.i64.wrap ((BitVec.ofInt 64 i &&& BitVec.ofInt 64 127).toNat : Int) = _
  rw [IntKind.wrap_i64]
  omega
theorem and_511 (i : Int) : ∃ k : Nat, bits .and .i64 i 511 = (k : Int) ∧ k < 512 := by
  have h : (BitVec.ofInt 64 i &&& BitVec.ofInt 64 511).toNat ≤ 511 := by
    rw [BitVec.toNat_and]
    exact Nat.and_le_right
  refine ⟨(BitVec.ofInt 64 i &&& BitVec.ofInt 64 511).toNat, ?_, by omega⟩
  show IntKind.i64.wrap ((BitVec.ofInt 64 i &&& BitVec.ofInt 64 511).toNat : Int) = _
  rw [IntKind.wrap_i64]
  omega
theorem hi_nat (p : Nat) (h : p < 4) : ∃ (z : Nat) (k : Int), Hi (1 + (p : Int)) (z : Int) k := by
  obtain ⟨z, k, hh, _⟩ := hi_of p h
  have h28 := hh.z28
  obtain ⟨n, rfl⟩ := Int.eq_ofNat_of_zero_le (show 0 ≤ z by omega)
  exact ⟨n, k, hh⟩
end Go.Proofs.YtledggjbijoijaaDoor
