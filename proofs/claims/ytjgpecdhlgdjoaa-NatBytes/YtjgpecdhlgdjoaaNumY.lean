/-
  Plain arithmetic of a number's bytes; the slices and texts that hold them. No Go text is walked here.
-/
import Derived.Test.YtjgpecdhlgdjoaaNumO
import Derived.Test.YtjgpecdhlgdjoaaBlk
import Derived.Laws.MakeOwn
import Derived.Laws.BytesArg
namespace Go.Proofs.Ytjgpecdhlgdjoaa
open Go.RowKit

/-- Byte P of a number, from its lowest. -/
def byt (a P : Nat) : Nat := a / 2 ^ (8 * P) % 256
theorem byt_lt (a P : Nat) : byt a P < 256 := Nat.mod_lt _ (by decide)
/-- The first k of n bytes, the highest first; noughts behind them. -/
def xs (n a k : Nat) : List Int := (List.range n).map fun i => if i < k then ((byt a (n - 1 - i) : Nat) : Int) else 0
def bx (n a k : Nat) : Array Value := ((xs n a k).map (Value.int .u8)).toArray
/-- n bytes of a number, the highest first. -/
def bs (n a : Nat) : List UInt8 := (List.range n).map fun i => UInt8.ofNat (byt a (n - 1 - i))
theorem bx_size (n a k : Nat) : (bx n a k).size = n := by simp [bx, xs]
theorem bx_get (n a k : Nat) (h : k < n) : (bx n a k)[k]? = some (.int .u8 0) := by simp [bx, xs, h]
theorem bx_set (n a k : Nat) : (bx n a k).setIfInBounds k (.int .u8 ((byt a (n - 1 - k) : Nat) : Int)) = bx n a (k + 1) := by
  apply Array.ext_getElem?
  intro j
  rw [Array.getElem?_setIfInBounds]
  by_cases hj : j < n
  · by_cases hk : k = j
    · subst hk
      simp [bx, xs, hj]
    · rw [if_neg hk]
      simp only [bx, xs, List.map_map, List.getElem?_toArray, List.getElem?_map, List.getElem?_range hj, Option.map_some, Function.comp]
      have : (j < k + 1) ↔ (j < k) := by omega
      simp only [this]
  · have h1 : (bx n a k)[j]? = none := Array.getElem?_eq_none (by rw [bx_size]; omega)
    have h2 : (bx n a (k + 1))[j]? = none := Array.getElem?_eq_none (by rw [bx_size]; omega)
    rw [h1, h2]
    by_cases hk : k = j
    · rw [if_pos hk, if_neg (by rw [bx_size]; omega)]
    · rw [if_neg hk]
theorem bx_zero (n a : Nat) : madeCells #[.int .u8 0] n = bx n a 0 := by
  apply Array.ext_getElem?
  intro j
  by_cases hj : j < n
  · simp [madeCells, bx, xs, hj, Nat.mod_one]
  · rw [Array.getElem?_eq_none (by rw [size_madeCells]; omega), Array.getElem?_eq_none (by rw [bx_size]; omega)]
theorem xs_all (n a : Nat) : strOfNums (xs n a n) = ⟨(bs n a).toArray⟩ := by
  unfold strOfNums
  have e : (xs n a n).map (fun z => UInt8.ofNat z.toNat) = bs n a := by
    apply List.ext_getElem?
    intro j
    by_cases hj : j < n
    · simp [xs, bs, hj]
    · rw [List.getElem?_eq_none (by simp [xs]; omega), List.getElem?_eq_none (by simp [bs]; omega)]
  rw [e]
theorem byt_wd (a q r : Nat) (hr : r < 8) : ((wd a q : Nat) : Int) / 2 ^ (8 * r) % 256 = ((byt a (8 * q + r) : Nat) : Int) := by
  have e : byt a (8 * q + r) = wd a q / 2 ^ (8 * r) % 256 := by
    unfold byt wd pw
    obtain ⟨d, hd⟩ : ∃ d, 64 = 8 * r + (8 + d) := ⟨56 - 8 * r, by omega⟩
    have e2 : (18446744073709551616 : Nat) = 2 ^ (8 * r) * (256 * 2 ^ d) := by
      rw [show (256 : Nat) * 2 ^ d = 2 ^ (8 + d) from by rw [Nat.pow_add], ← Nat.pow_add, ← hd]
    rw [e2, Nat.mod_mul_right_div_self, Nat.mod_mul_right_mod, Nat.div_div_eq_div_mul, ← Nat.pow_add, show 64 * q + 8 * r = 8 * (8 * q + r) from by omega]
  rw [e, int_pow, ← Int.natCast_ediv]
  omega
theorem conv_bytes (n a : Nat) (v : World) (b : Nat) (h : blk v b = bx n a n) :
    (convert 69 9 (.slice (some ⟨b, 0, none⟩) n n)).run Try.prog v = .ok (.string ⟨(bs n a).toArray⟩) v := by
  rw [← xs_all]
  refine run_convert_bytes_arg v 69 5 Try.underlying69 Try.underlying5 b 0 n n (xs n a n) (by simp [xs]) (fun i hi => ?_) 9 Try.underlying9
  rw [Nat.zero_add, cell_blk, h]
  simp [bx, xs, hi]
theorem make_bytes (n a : Nat) (hn : n ≤ 72) (v : World) :
    (Instr.makeSlice 69 (.int .i64 (n : Int)) (.int .i64 (n : Int))).run Try.prog v = .ok (.slice (some ⟨v.heap.size, 0, none⟩) n n) (v.alloc (.cells (bx n a 0) 5)) := by
  have hz : (Try.prog.info? 5).map (·.zero) = some (some (.int .u8 0)) := by kernel_rfl
  have hs : (Try.prog.info? 5).map (·.size) = some 1 := by kernel_rfl
  have hby : (Try.prog.info? 5).map (·.bytes) = some 1 := by kernel_rfl
  obtain ⟨i, hi⟩ : ∃ i : TypeInfo, Try.prog.info? 5 = some i := by
    cases h : Try.prog.info? 5 with
    | none => rw [h] at hs; cases hs
    | some i => exact ⟨i, rfl⟩
  rw [hi] at hz hs hby
  replace hz : i.zero = some (.int .u8 0) := by simpa using hz
  replace hs : i.size = 1 := by simpa using hs
  replace hby : i.bytes = 1 := by simpa using hby
  rw [run_make v 69 5 i (.int .u8 0) Try.underlying69 hi hz .i64 .i64 (n : Int) (n : Int) (by omega) (by omega) (by rw [hby]; omega) (by omega), hs, Int.toNat_natCast, Nat.mul_one, ← bx_zero n a]
  rfl

end Go.Proofs.Ytjgpecdhlgdjoaa
