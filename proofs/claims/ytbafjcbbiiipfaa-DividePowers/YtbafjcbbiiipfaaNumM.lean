/-
  Plain arithmetic of a product, word by word. No Go text is walked here.
-/
import Derived.Test.YtbafjcbbiiipfaaNum
namespace Go.Proofs.Ytbafjcbbiiipfaa
open Go.RowKit

/-- V with word p set to x. -/
def wset (V p x : Nat) : Nat := V % pw p + x * pw p + V / pw (p + 1) * pw (p + 1)
theorem nw_wset (n V p x : Nat) (hx : x < 18446744073709551616) : (nw n V).setIfInBounds p (Value.int .u64 (x : Int)) = nw n (wset V p x) := nw_set n V p x hx
theorem wset_lt (V p x q : Nat) (hV : V < pw q) (hp : p < q) (hx : x < 18446744073709551616) : wset V p x < pw q := by
  obtain ⟨m, rfl⟩ : ∃ m, q = m + (p + 1) := ⟨q - (p + 1), by omega⟩
  have h1 : V % pw p < pw p := Nat.mod_lt _ (pw_pos p)
  have h2 : V / pw (p + 1) < pw m := by
    rw [Nat.div_lt_iff_lt_mul (pw_pos _), ← pw_add]; exact hV
  have h3 : x * pw p ≤ 18446744073709551615 * pw p := Nat.mul_le_mul_right _ (by omega)
  have h4 : (V / pw (p + 1) + 1) * pw (p + 1) ≤ pw m * pw (p + 1) := Nat.mul_le_mul_right _ h2
  have h5 := pow_succ64 p
  unfold wset
  rw [pw_add m (p + 1)]
  rw [Nat.add_mul] at h4
  generalize V / pw (p + 1) * pw (p + 1) = z at *
  generalize pw m * pw (p + 1) = t at *
  omega
theorem mul_step (a b i j V c : Nat) (h : V + c * pw (i + j) = (a % pw i) * b + wd a i * pw i * (b % pw j)) :
    wset V (i + j) ((wd a i * wd b j + wd V (i + j) + c) % 18446744073709551616) + (wd a i * wd b j + wd V (i + j) + c) / 18446744073709551616 * pw (i + (j + 1)) = (a % pw i) * b + wd a i * pw i * (b % pw (j + 1)) := by
  have hp := parts V (i + j)
  have hd := Nat.div_add_mod (wd a i * wd b j + wd V (i + j) + c) 18446744073709551616
  rw [mod_succ b j, Nat.mul_add, ← Nat.add_assoc ((a % pw i) * b), ← h]
  have e1 : wd a i * pw i * (wd b j * pw j) = wd a i * wd b j * pw (i + j) := by
    rw [pw_add, Nat.mul_mul_mul_comm]
  rw [e1]
  unfold wset
  rw [show i + (j + 1) = i + j + 1 from rfl]
  generalize V / pw (i + j + 1) = z at *
  rw [pow_succ64 (i + j)] at *
  generalize wd V (i + j) = o at *
  generalize wd a i * wd b j = m at *
  generalize (m + o + c) / 18446744073709551616 = q at *
  generalize (m + o + c) % 18446744073709551616 = r at *
  generalize V % pw (i + j) = v at *
  generalize pw (i + j) = P at *
  have e2 : (18446744073709551616 * q + r) * P = (m + o + c) * P := by rw [hd]
  rw [Nat.add_mul, Nat.add_mul, Nat.add_mul] at e2
  have e3 : q * (P * 18446744073709551616) = 18446744073709551616 * q * P := by
    rw [Nat.mul_comm P, ← Nat.mul_assoc, Nat.mul_comm q]
  rw [e3]
  omega
theorem mul_last (a b i V c : Nat) (hb : b < M) (h : V + c * pw (i + 9) = (a % pw i) * b + wd a i * pw i * (b % pw 9)) : V + c * pw (i + 9) = (a % pw (i + 1)) * b := by
  have e : b % pw 9 = b := Nat.mod_eq_of_lt hb
  rw [h, e, mod_succ, Nat.add_mul]
theorem mul_bound (a b i : Nat) (hb : b < M) : (a % pw i) * b < pw (i + 9) := by
  have h1 : a % pw i < pw i := Nat.mod_lt _ (pw_pos i)
  rw [pw_add]
  show _ < pw i * M
  have h2 : (a % pw i) * b ≤ (a % pw i) * M := Nat.mul_le_mul_left _ (by omega)
  have h3 : (a % pw i) * M < pw i * M := Nat.mul_lt_mul_of_pos_right h1 M_pos
  omega
theorem mulAdd_lt (x y o c : Nat) (hx : x < 18446744073709551616) (hy : y < 18446744073709551616) (ho : o < 18446744073709551616) (hc : c < 18446744073709551616) : (x * y + o + c) / 18446744073709551616 < 18446744073709551616 := by
  have : x * y ≤ 18446744073709551615 * 18446744073709551615 := Nat.mul_le_mul (by omega) (by omega)
  omega

end Go.Proofs.Ytbafjcbbiiipfaa
