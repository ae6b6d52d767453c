/-
  sha256's New, Write, Sum, Of: what they hand back.
-/
import Derived.Test.YtincjgpbgoagnaaDoorHG
namespace Go.Proofs.YtincjgpbgoagnaaDoor
open Go.RowKit
attribute [local go_sem] wz8_zero
theorem rp_empty (iv : Nat → Nat) : Rp iv .empty iv fun _ => 0 := ⟨fun _ _ => rfl, fun _ _ => by decide, fun i hi => by simp at hi⟩
/-! ### Sum -/
theorem pdT_size (n : Nat) : (pdT n).size = 64 * nb n - n := bt_size _ _
theorem nb_ge (n : Nat) : n ≤ 64 * nb n := by unfold nb; omega
theorem xb_bt (f : Nat → Nat) (n k : Nat) (hk : k < n) (hf : f k < 256) : xb (bt f n) k = f k := by
  rw [xb_data]
  simp [bt, hk]
  omega
theorem pf_lt (n : Nat) (t : Nat → Nat) (k : Nat) (h : ¬ k < n) : pf n t k < 256 := by
  unfold pf
  rw [if_neg h]
  split
  · decide
  · split
    · decide
    · exact Nat.mod_lt _ (by decide)
theorem xb_pad (t : ByteArray) (k : Nat) (hk : k < 64 * nb t.size) : xb (t ++ pdT t.size) k = pf t.size (xb t) k := by
  by_cases c : k < t.size
  · rw [xb_left _ _ _ c]
    unfold pf
    rw [if_pos c]
  · obtain ⟨j, rfl⟩ : ∃ j, k = t.size + j := ⟨k - t.size, by omega⟩
    rw [xb_right]
    unfold pdT
    rw [xb_bt (fun k => pf t.size (fun _ => 0) (t.size + k)) _ j (by omega) (pf_lt _ _ _ (by omega))]
    unfold pf
    rw [if_neg c, if_neg c]
/-- The digest by a stream's state behind the text's end. -/
theorem sha_is (iv f p : Nat → Nat) (z : Nat) (t : ByteArray) (hz : z ≤ 32) (hR : Rp iv (t ++ pdT t.size) f p) : bt (dg8 f) z = sha iv z t := by
  have hs : (t ++ pdT t.size).size = 64 * nb t.size := by rw [ByteArray.size_append, pdT_size]; have := nb_ge t.size; omega
  unfold sha
  refine bt_ext _ _ _ fun i hi => ?_
  unfold dg8
  rw [hR.st (i / 4) (by omega), hs, Nat.mul_div_cancel_left _ (by decide)]
  rw [bls_ext iv _ _ (nb t.size) (fun j hj => xb_pad t j hj) (i / 4) (by omega)]
theorem bt_cut (f : Nat → Nat) (n z : Nat) (h : z ≤ n) : (bt f n).extract 0 z = bt f z := by
  apply ByteArray.ext
  rw [ByteArray.data_extract]
  apply Array.ext_getElem?
  intro j
  rw [Array.getElem?_extract]
  by_cases hj : j < z
  · simp [bt, hj, show j < n by omega]
    omega
  · simp [bt, hj]
    omega
end Go.Proofs.YtincjgpbgoagnaaDoor
