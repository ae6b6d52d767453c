/-
  Keys from shared secrets on plain texts; kdf's fourBytes, block, check.
-/
import Derived.Test.YtledggjbijoijaaDoorCu
import Derived.Test.YtledggjbijoijaaDoorBS
namespace Go.Proofs.YtledggjbijoijaaDoor
open Go.RowKit
/-- The four bytes of a number below 256, the highest first. -/
def four (n : Nat) : ByteArray := ⟨#[0, 0, 0, UInt8.ofNat n]⟩
theorem four_size (n : Nat) : (four n).size = 4 := rfl
/-- The block of number n. -/
def kb (id : Int) (Z I : ByteArray) (n : Nat) : ByteArray := dig id ((four n ++ Z) ++ I)
/-- The first of a row of texts, one behind the other. -/
def jn (f : Nat → ByteArray) : Nat → ByteArray
  | 0 => .empty
  | i + 1 => jn f i ++ f (i + 1)
theorem jn_size (f : Nat → ByteArray) (z : Nat) (h : ∀ i, (f i).size = z) : ∀ i, (jn f i).size = i * z
  | 0 => by rw [Nat.zero_mul]; rfl
  | i + 1 => by
    have h1 := jn_size f z h i
    rw [jn, ByteArray.size_append, h1, h, Nat.succ_mul]
theorem jn_pre (f : Nat → ByteArray) (z : Nat) (h : ∀ i, (f i).size = z) (n i : Nat) (hn : n ≤ i * z) : ∀ j, (jn f (i + j)).extract 0 n = (jn f i).extract 0 n
  | 0 => rfl
  | j + 1 => by
    have h1 := jn_pre f z h n i hn j
    have h2 := jn_size f z h (i + j)
    have h3 : i * z ≤ (i + j) * z := Nat.mul_le_mul_right _ (by omega)
    show (jn f (i + j) ++ _).extract 0 n = _
    rw [ex_left _ _ _ (by omega), h1]
/-- A key of n bytes out of blocks of z. -/
def kd (f : Nat → ByteArray) (z n : Nat) : ByteArray := (jn f (rn z n)).extract 0 n
theorem kd_is (f : Nat → ByteArray) (z n i : Nat) (hz : 0 < z) (h1 : n ≤ i * z) (h2 : i = 0 ∨ (i - 1) * z < n) : kd f z n = (jn f i).extract 0 n := by
  unfold kd
  rw [← rn_is z n i hz h1 h2]
theorem kd_size (f : Nat → ByteArray) (z n : Nat) (hz : 0 < z) (h : ∀ i, (f i).size = z) : (kd f z n).size = n := by
  unfold kd
  rw [ex_sz, jn_size f z h]
  have := rn_le z n hz
  omega
/-- A longer key begins as a shorter one. -/
theorem kd_pre (f : Nat → ByteArray) (z n m : Nat) (hz : 0 < z) (h : ∀ i, (f i).size = z) (hnm : n ≤ m) : (kd f z m).extract 0 n = kd f z n := by
  unfold kd
  rw [ex_ex _ _ _ hnm]
  have hm := rn_mono z n m hnm
  have := jn_pre f z h n (rn z n) (rn_le z n hz) (rn z m - rn z n)
  rwa [show rn z n + (rn z m - rn z n) = rn z m by omega] at this
/-- A key of whole blocks. -/
theorem kd_whole (f : Nat → ByteArray) (z i : Nat) (hz : 0 < z) (h : ∀ i, (f i).size = z) : kd f z (i * z) = jn f i := by
  rw [kd_is f z (i * z) i hz (Nat.le_refl _) (by
    rcases Nat.eq_zero_or_pos i with e | e
    · exact Or.inl e
    · refine Or.inr ?_
      have := Nat.mul_lt_mul_of_pos_right (show i - 1 < i by omega) hz
      exact this)]
  exact ex_all _ _ (by rw [jn_size f z h]; exact Nat.le_refl _)
theorem kb_size {id k : Int} {z : Nat} (h : Hi id (z : Int) k) (Z I : ByteArray) (i : Nat) : (kb id Z I i).size = z := by
  have := dig_size h ((four i ++ Z) ++ I)
  unfold kb
  omega
end Go.Proofs.YtledggjbijoijaaDoor
