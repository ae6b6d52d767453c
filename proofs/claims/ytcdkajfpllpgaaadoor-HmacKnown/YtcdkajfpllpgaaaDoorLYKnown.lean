/-
  The statement HashKnown, walked: it answers true.
-/
import Derived.Test.YtcdkajfpllpgaaaDoorYE
namespace Go.Proofs.YtcdkajfpllpgaaaDoor
open Go.RowKit
def idxS (x i : Value) : Sem Value := Instr.index 9 x i
theorem idxS_is (x i : Value) : Instr.index 9 x i = idxS x i := rfl
theorem xb_get (s : ByteArray) (j : Nat) (h : j < s.size) : (s[j]'h).toNat = xb s j := by
  rw [xb_data, Array.getElem?_eq_getElem (show j < s.data.size from h)]
  rfl
theorem idxS_run (s : ByteArray) (k : IntKind) (j : Nat) (h : j < s.size) (w : World) : (idxS (.string s) (.int k (j : Int))).run Tryd.prog w = .ok (.int .u8 ((xb s j : Nat) : Int)) w := by
  unfold idxS
  have hj : (0 : Int) ≤ (j : Int) ∧ (j : Int) < (s.size : Int) := ⟨by omega, by omega⟩
  rw [run_index_string w 9 s k (j : Int) Tryd.underlying9, dif_pos hj]
  exact congrArg (fun x : Nat => Result.ok (Value.int .u8 (x : Int)) w) (xb_get s j h)
/-- A hexadecimal digit's letter; the letters of a text's bytes. -/
def hxc (n : Nat) : Nat := if n < 10 then 48 + n else 87 + n
def hxd (D : ByteArray) (i : Nat) : Nat := if i % 2 = 0 then hxc (xb D (i / 2) / 16) else hxc (xb D (i / 2) % 16)
def hexT (D : ByteArray) : ByteArray := bt (hxd D) (2 * D.size)
def all16 : ByteArray := ⟨#[48, 49, 50, 51, 52, 53, 54, 55, 56, 57, 97, 98, 99, 100, 101, 102]⟩
theorem all16_at : ∀ n, n < 16 → xb all16 n = hxc n := by decide
theorem hxd_even (D : ByteArray) (k : Nat) : hxd D (2 * k) = hxc (xb D k / 16) := by unfold hxd; rw [if_pos (by omega), show 2 * k / 2 = k by omega]
theorem hxd_odd (D : ByteArray) (k : Nat) : hxd D (2 * k + 1) = hxc (xb D k % 16) := by unfold hxd; rw [if_neg (by omega), show (2 * k + 1) / 2 = k by omega]
theorem hxc_lt (n : Nat) (h : n < 16) : hxc n < 256 := by unfold hxc; split <;> omega
attribute [local go_sem ↓] ap1_is cvS_is idxS_is
end Go.Proofs.YtcdkajfpllpgaaaDoor
