/-
  sha256's padding and text: the end of a text, a state as bytes.
-/
import Derived.Test.YtincjgpbgoagnaaDoorHE
import Derived.Laws.MakeOwn
import Derived.Laws.BytesString
namespace Go.Proofs.YtincjgpbgoagnaaDoor
open Go.RowKit

/-! ### make, and bytes as a text -/
def mkS (a b : Value) : Sem Value := Instr.makeSlice 39 a b
theorem mkS_is (a b : Value) : Instr.makeSlice 39 a b = mkS a b := rfl
theorem Tryd.info8 : (Tryd.prog.info? 5).map (fun i => (i.zero, i.size, i.bytes)) = some (some (.int .u8 0), 1, 1) := by kernel_rfl
theorem made_br (n : Nat) : madeCells (Value.int .u8 0).cells (n * 1) = br n fun _ => 0 := by
  apply Array.ext_getElem?
  intro j
  rw [Nat.mul_one]
  by_cases hj : j < n
  · rw [br_get n _ j hj, Array.getElem?_eq_getElem (by rw [size_madeCells]; exact hj)]
    simp [madeCells, Value.cells, Nat.mod_one]
  · rw [br_none n _ j (by omega), Array.getElem?_eq_none (by rw [size_madeCells]; omega)]
theorem mkS_run (w : World) (k1 k2 : IntKind) (n : Nat) (hn : n ≤ 281474976710656) : (mkS (.int k1 (n : Int)) (.int k2 (n : Int))).run Tryd.prog w = .ok (.slice (some ⟨w.heap.size, 0, none⟩) n n) (w.alloc (.cells (br n fun _ => 0) 5)) := by
  obtain ⟨i0, hi0, hz0, hz1, hz2⟩ := info_parts Tryd.info8
  unfold mkS
  rw [run_make w 39 5 i0 _ Tryd.underlying39 hi0 hz0 k1 k2 (n : Int) (n : Int) (by omega) (by omega) (by rw [hz2]; omega) (by omega), hz1, Int.toNat_natCast, made_br]
def cvS (x : Value) : Sem Value := convert 39 9 x
theorem cvS_is (x : Value) : convert 39 9 x = cvS x := rfl
theorem push_fold (f : Nat → Nat) : ∀ n, ((List.range n).map fun i => ((f i : Nat) : Int)).foldl (fun r z => r.push (UInt8.ofNat z.toNat)) ByteArray.empty = bt f n
  | 0 => rfl
  | n + 1 => by
    rw [List.range_succ, List.map_append, List.foldl_append, push_fold f n]
    apply ByteArray.ext
    simp [bt, List.range_succ]
theorem cvS_run (w : World) (b o n c : Nat) (g : Nat → Nat) (h : ∀ i, i < n → w.cell? ⟨b, o + i, none⟩ = some (.int .u8 ((g i : Nat) : Int))) : (cvS (.slice (some ⟨b, o, none⟩) n c)).run Tryd.prog w = .ok (.string (bt g n)) w := by
  unfold cvS
  rw [run_convert_bytes_string w 39 9 5 _ _ _ Tryd.underlying39 Tryd.underlying5 Tryd.underlying9]
  have hadd : ∀ j, (⟨b, o, none⟩ : Addr).add j = ⟨b, o + j, none⟩ := fun j => by unfold Addr.add; split <;> simp_all
  have hl := run_loadCells_list (P := Tryd.prog) (w := w) ⟨b, o, none⟩ ((List.range n).map fun i => Value.int .u8 ((g i : Nat) : Int)) (fun j v hv => by
    rw [hadd]
    rw [List.getElem?_map] at hv
    by_cases hj : j < n
    · rw [List.getElem?_range hj] at hv
      rw [h j hj]
      simpa using hv
    · rw [List.getElem?_eq_none (by simp; omega)] at hv
      cases hv)
  rw [List.length_map, List.length_range] at hl
  rw [run_bytesToString w ⟨b, o, none⟩ n c ((List.range n).map fun i => ((g i : Nat) : Int)) ?_, push_fold]
  rw [hl, List.map_map]
  rfl

/-! ### the end of a text -/
/-- The bytes behind a text of n bytes. -/
def pdT (n : Nat) : ByteArray := bt (fun k => pf n (fun _ => 0) (n + k)) (64 * nb n - n)
/-- The row when k bytes of the length are laid; B: the length in bits. -/
def pk (L B k : Nat) (j : Nat) : Nat := if L - k ≤ j then B / 2 ^ (8 * (L - 1 - j)) % 256 else if j = 0 then 128 else 0
theorem br_put (n : Nat) (f g : Nat → Nat) (k x : Nat) (hk : g k = x) (h : ∀ j, j < n → j ≠ k → g j = f j) : (br n f).setIfInBounds k (.int .u8 ((x : Nat) : Int)) = br n g := by
  apply Array.ext_getElem?
  intro j
  rw [Array.getElem?_setIfInBounds]
  by_cases hj : j < n
  · rw [br_get n g j hj]
    by_cases e : k = j
    · subst e
      rw [if_pos rfl, if_pos (by rw [br_size]; exact hj), hk]
    · rw [if_neg e, br_get n f j hj, h j hj (Ne.symm e)]
  · rw [br_none n g j (by omega)]
    by_cases e : k = j
    · subst e
      rw [if_pos rfl, if_neg (by rw [br_size]; exact hj)]
    · rw [if_neg e, br_none n f j (by omega)]
theorem pad_len (n : Nat) : 64 * nb n - n = 1 + (119 - n % 64) % 64 + 8 := by unfold nb; omega
theorem pk_end (n L : Nat) (hL : 64 * nb n - n = L) (k : Nat) (hk : k < L) : pk L (n * 8) 8 k = pf n (fun _ => 0) (n + k) := by
  have h9 : 9 ≤ L := by rw [← hL, pad_len]; omega
  have hn : 64 * nb n = n + L := by unfold nb at hL ⊢; omega
  unfold pk pf
  rw [hn, if_neg (show ¬ n + k < n by omega)]
  by_cases c : L - 8 ≤ k
  · rw [if_pos c, if_neg (show ¬ n + k = n by omega), if_neg (show ¬ n + k < n + L - 8 by omega), show n + L - 1 - (n + k) = L - 1 - k by omega]
  · rw [if_neg c]
    by_cases c0 : k = 0
    · rw [if_pos c0, if_pos (show n + k = n by omega)]
    · rw [if_neg c0, if_neg (show ¬ n + k = n by omega), if_pos (show n + k < n + L - 8 by omega)]
theorem byte_cast (B k : Nat) : (B : Int) / 2 ^ k % 256 = ((B / 2 ^ k % 256 : Nat) : Int) := by rw [shr_cast, Int.natCast_emod]; rfl
attribute [local go_sem ↓] mkS_is cvS_is
end Go.Proofs.YtincjgpbgoagnaaDoor
