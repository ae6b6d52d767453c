/-
  The documents' inverse of a number, where it is known; how many digits R has.
-/
import Derived.Test.YtleckbdhebjfkaaZMtS
import Derived.Test.YtleckbdhebjfkaaZMtD
import Derived.Test.YtleckbdhebjfkaaZRInv
import Derived.Test.YtleckbdhebjfkaaZRMod
import Derived.Test.YtleckbdhebjfkaaZRDiv
import Derived.Test.YtleckbdhebjfkaaZRShl
import Derived.Test.YtleckbdhebjfkaaZRBit
namespace Go.Proofs.Ytleckbdhebjfkaa
open Go.RowKit

/-- A call hands back a slice that holds x, and true. -/
def NtM (x : Nat) (w : World) (e : Ending) (w' : World) : Prop := ∃ p n, e = .returned (.tuple #[.slice p (dl x) n, .bool true]) ∧ Sl w' p x ∧ Gr w w'
theorem cop_of (a m x : Nat) (h : a * x % m = 1) : Nat.gcd m a = 1 := by
  have h1 : Nat.gcd m a ∣ m := Nat.gcd_dvd_left m a
  have h2 : Nat.gcd m a ∣ a * x := Nat.dvd_trans (Nat.gcd_dvd_right m a) (Nat.dvd_mul_right a x)
  have h3 : Nat.gcd m a ∣ a * x % m := (Nat.dvd_mod_iff h1).2 h2
  rw [h] at h3
  exact Nat.dvd_one.1 h3
theorem rinv_is (a m x n n' : Nat) (p q : Option Addr) (w : World) (hp : Sl w p a) (hq : Sl w q m) (ha : dl a ≤ 400) (hm : dl m ≤ 400) (h1 : 1 < m) (hx : x < m) (hax : a * x % m = 1) :
    Calls Try.prog 22 #[.slice p (dl a) n, .slice q (dl m) n'] w (NtM x w) := by
  refine (rinv_any a m n n' p q w hp hq ha hm h1).mono fun e w' h => ?_
  obtain ⟨t, p', k, ht, hat, he, hS⟩ := h.1 (cop_of a m x hax)
  obtain rfl := inv_one a m t x ht hx hat hax
  exact ⟨p', k, he, hS, h.2.2⟩
theorem rinv_not (a m n n' : Nat) (p q : Option Addr) (w : World) (hp : Sl w p a) (hq : Sl w q m) (ha : dl a ≤ 400) (hm : dl m ≤ 400) (h1 : 1 < m) (hg : Nat.gcd m a ≠ 1) :
    Calls Try.prog 22 #[.slice p (dl a) n, .slice q (dl m) n'] w fun e w' => e = .returned (.tuple #[.slice none 0 0, .bool false]) ∧ Gr w w' := by
  refine (rinv_any a m n n' p q w hp hq ha hm h1).mono fun e w' h => ?_
  exact ⟨h.2.1 hg, h.2.2⟩
theorem dl_pw (k : Nat) (h : k ≤ 100) : dl (pw k) ≤ 400 := by
  refine Nat.le_trans ((dl_le _ (2 * k + 1)).2 ?_) (by omega : 2 * k + 1 ≤ 400)
  unfold pw pq
  exact Nat.pow_lt_pow_right (by decide) (by omega)
/-- Inv answers something. -/
theorem inv_either (m k u a : Nat) (haM : a < M) (ha : a < m) (hmM : m < M) (h1 : 1 < m) :
    ∃ (x : Nat) (e : Int), ∀ b w, Mn w b m k u → Calls Try.prog 18 #[.pointer (some ⟨b, 0, none⟩), .agg (nw 9 a)] w fun e' w' => e' = .returned (.tuple #[.agg (nw 9 x), .int .i64 e]) ∧ Gr w w' := by
  by_cases hg : Nat.gcd m a = 1
  · obtain ⟨x, hxm, -, hI⟩ := inv_some a m haM h1 hmM hg
    exact ⟨x * pw k % m * pw k % m, 0, fun b w h => Inv_ok b m k u a w h x hxm hI ha⟩
  · exact ⟨0, 401, fun b w h => Inv_none b m k u a w h (fun w => inv_none a m haM h1 hmM hg w) ha⟩

end Go.Proofs.Ytleckbdhebjfkaa
