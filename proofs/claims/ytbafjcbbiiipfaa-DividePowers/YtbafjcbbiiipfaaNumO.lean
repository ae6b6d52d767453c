/-
  Plain arithmetic of bytes in a number. No Go text is walked here.
-/
import Derived.Test.YtbafjcbbiiipfaaNumS
namespace Go.Proofs.Ytbafjcbbiiipfaa
open Go.RowKit

/-- The number of bytes, the highest first. -/
def bn (l : List UInt8) : Nat := l.foldl (fun n b => n * 256 + b.toNat) 0
theorem bn_nil : bn [] = 0 := rfl
theorem bn_snoc (l : List UInt8) (b : UInt8) : bn (l ++ [b]) = bn l * 256 + b.toNat := by simp [bn]
theorem take_snoc (s : ByteArray) (k : Nat) (h : k < s.size) : s.data.toList.take (k + 1) = s.data.toList.take k ++ [s[k]] := by
  rw [List.take_succ_eq_append_getElem (by simpa using h)]; rfl
/-- One byte more at place P of a number that is 0 from there down. -/
theorem byte_step (X P b : Nat) : (X * 256 + b) * 2 ^ (8 * P) = X * 2 ^ (8 * (P + 1)) + b * 2 ^ (8 * P) := by
  rw [Nat.add_mul, Nat.mul_assoc, show 8 * (P + 1) = 8 * P + 8 from by omega, Nat.pow_add 2 (8 * P), Nat.mul_comm (2 ^ (8 * P))]
theorem byte_place (b q r : Nat) : b * 2 ^ (8 * (8 * q + r)) = b * 2 ^ (8 * r) * pw q := by
  unfold pw
  rw [show 8 * (8 * q + r) = 8 * r + 64 * q from by omega, Nat.pow_add, Nat.mul_assoc]
theorem byte_wd (X q r : Nat) (hr : r < 8) : wd (X * 2 ^ (8 * (8 * q + r + 1))) q = (X % 2 ^ (64 - 8 * (r + 1))) * 2 ^ (8 * (r + 1)) := by
  unfold wd pw
  rw [show 8 * (8 * q + r + 1) = 8 * (r + 1) + 64 * q from by omega, Nat.pow_add, ← Nat.mul_assoc, Nat.mul_div_cancel _ (Nat.two_pow_pos _)]
  exact shl_mod X (8 * (r + 1)) (by omega)
theorem byte_lt (b r : Nat) (hb : b < 256) : b * 2 ^ (8 * r) < 2 ^ (8 * (r + 1)) := by
  rw [show 8 * (r + 1) = 8 + 8 * r from by omega, Nat.pow_add]
  exact Nat.mul_lt_mul_of_pos_right hb (Nat.two_pow_pos _)
theorem byte_le (r : Nat) (hr : r < 8) : 2 ^ (8 * (r + 1)) ≤ 18446744073709551616 := by
  have := Nat.pow_le_pow_right (n := 2) (by decide) (show 8 * (r + 1) ≤ 64 by omega)
  exact this
/-- What the program lays into a word. -/
theorem byte_or (X q r b : Nat) (hr : r < 8) (hb : b < 256) :
    bits BinOp.or IntKind.u64 ((wd (X * 2 ^ (8 * (8 * q + r + 1))) q : Nat) : Int) (IntKind.u64.wrap ((b : Int) * 2 ^ (8 * r))) = ((wd (X * 2 ^ (8 * (8 * q + r + 1))) q + b * 2 ^ (8 * r) : Nat) : Int) := by
  have h1 := byte_lt b r hb
  have h2 := byte_le r hr
  have h3 := wd_lt (X * 2 ^ (8 * (8 * q + r + 1))) q
  have e : IntKind.u64.wrap ((b : Int) * 2 ^ (8 * r)) = ((b * 2 ^ (8 * r) : Nat) : Int) := by
    rw [IntKind.wrap_u64, int_pow, ← Int.natCast_mul]
    generalize b * 2 ^ (8 * r) = y at *
    omega
  rw [e, bits_or_u64_nat _ _ h3 (by omega), byte_wd X q r hr, or_add _ _ _ h1]
theorem byte_word_lt (X q r b : Nat) (hr : r < 8) (hb : b < 256) : wd (X * 2 ^ (8 * (8 * q + r + 1))) q + b * 2 ^ (8 * r) < 18446744073709551616 := by
  have h1 := byte_lt b r hb
  rw [byte_wd X q r hr, ← pow64 (8 * (r + 1)) (by omega)]
  have h2 := Nat.mod_lt X (Nat.two_pow_pos (64 - 8 * (r + 1)))
  have h3 : (X % 2 ^ (64 - 8 * (r + 1)) + 1) * 2 ^ (8 * (r + 1)) ≤ 2 ^ (64 - 8 * (r + 1)) * 2 ^ (8 * (r + 1)) := Nat.mul_le_mul_right _ h2
  rw [Nat.add_mul] at h3
  omega
theorem byte_set (X q r b : Nat) (hr : r < 8) (hb : b < 256) :
    (nw 9 (X * 2 ^ (8 * (8 * q + r + 1)))).setIfInBounds q (Value.int .u64 ((wd (X * 2 ^ (8 * (8 * q + r + 1))) q + b * 2 ^ (8 * r) : Nat) : Int)) = nw 9 ((X * 256 + b) * 2 ^ (8 * (8 * q + r))) := by
  rw [nw_set 9 _ q _ (byte_word_lt X q r b hr hb), byte_step, byte_place]
  have hp := parts (X * 2 ^ (8 * (8 * q + r + 1))) q
  generalize X * 2 ^ (8 * (8 * q + r + 1)) = V at *
  refine congrArg (nw 9) ?_
  rw [Nat.add_mul]
  generalize V / pw (q + 1) * pw (q + 1) = z at *
  generalize b * 2 ^ (8 * r) * pw q = y at *
  generalize wd V q * pw q = t at *
  omega

end Go.Proofs.Ytbafjcbbiiipfaa
