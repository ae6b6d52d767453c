/-
  Texts of noughts, rows of texts, texts joined: plain laws that the statements on hashes share.
-/
import Derived.Test.YtledggjbijoijaaDoorHE
namespace Go.Proofs.YtledggjbijoijaaDoor
open Go.RowKit
theorem app_nil (a : ByteArray) : ByteArray.empty ++ a = a := by
  apply ByteArray.ext
  simp
theorem umod_w64 (i : Int) (m : Nat) (h0 : 0 < m) : ∃ p : Nat, (IntKind.u64.wrap i).tmod (m : Int) = (p : Int) ∧ p < m := by
  have h : 0 ≤ IntKind.u64.wrap i := by rw [IntKind.wrap_u64]; omega
  rw [Int.tmod_eq_emod_of_nonneg h]
  refine ⟨(IntKind.u64.wrap i % (m : Int)).toNat, ?_, ?_⟩
  · have := Int.emod_nonneg (IntKind.u64.wrap i) (show (m : Int) ≠ 0 by omega)
    omega
  · have h2 := Int.emod_lt_of_pos (IntKind.u64.wrap i) (show (0 : Int) < (m : Int) by omega)
    omega
/-- So many noughts. -/
def nz (k : Nat) : ByteArray := bt (fun _ => 0) k
theorem nz_size (k : Nat) : (nz k).size = k := bt_size _ _
theorem nz_succ (k : Nat) : nz k ++ ⟨#[0]⟩ = nz (k + 1) := by
  apply ByteArray.ext
  rw [ByteArray.data_append]
  unfold nz bt
  rw [List.range_succ]
  simp
theorem and_255 (i : Int) : ∃ k : Nat, bits .and .i64 i 255 = (k : Int) ∧ k < 256 := by
  refine ⟨(BitVec.ofInt 64 i &&& BitVec.ofInt 64 255).toNat, ?_, ?_⟩
  · have h : (BitVec.ofInt 64 i &&& BitVec.ofInt 64 255).toNat ≤ 255 := by
      rw [BitVec.toNat_and]
      exact Nat.and_le_right
    show IntKind.i64.wrap ((BitVec.ofInt 64 i &&& BitVec.ofInt 64 255).toNat : Int) = _
    rw [IntKind.wrap_i64]
    omega
  · have h : (BitVec.ofInt 64 i &&& BitVec.ofInt 64 255).toNat ≤ 255 := by
      rw [BitVec.toNat_and]
      exact Nat.and_le_right
    omega
/-- The slice at p holds the n texts of f. -/
def Ps (w : World) (p : Option Addr) (n : Nat) (f : Nat → ByteArray) : Prop := n = 0 ∨ ∃ b o, p = some ⟨b, o, none⟩ ∧ b < w.heap.size ∧ ∀ i, i < n → w.cell? ⟨b, o + i, none⟩ = some (.string (f i))
theorem Ps.at {w w' : World} {p : Option Addr} {n : Nat} {f : Nat → ByteArray} (h : Ps w p n f) (k : Kp (Fr w.heap.size) w w') (i : Nat) (hi : i < n) : ∃ b o, p = some ⟨b, o, none⟩ ∧ w'.cell? ⟨b, o + i, none⟩ = some (.string (f i)) := by
  rcases h with h | ⟨b, o, rfl, hb, hc⟩
  · omega
  · exact ⟨b, o, rfl, (k.cell b _ hb (fun e => by have : w.heap.size ≤ b := e; omega)).trans (hc i hi)⟩
/-- The first k texts, one behind the other. -/
def cat (f : Nat → ByteArray) : Nat → ByteArray
  | 0 => .empty
  | k + 1 => cat f k ++ f k
theorem cat_size (f : Nat → ByteArray) (M : Nat) (hf : ∀ i, (f i).size ≤ M) : ∀ k, (cat f k).size ≤ k * M
  | 0 => by show 0 ≤ _; omega
  | k + 1 => by
    have h1 := cat_size f M hf k
    have h2 := hf k
    rw [cat, ByteArray.size_append, Nat.succ_mul]
    omega
end Go.Proofs.YtledggjbijoijaaDoor
