/-
  A stream in memory: its 75 cells; sha256's turn: one block taken in.
-/
import Derived.Test.YtincjgpbgoagnaaDoorHC
namespace Go.Proofs.YtincjgpbgoagnaaDoor
open Go.RowKit

/-- A stream: the state, what is pending, how many of it, the length, the digest's size. -/
def hc (f p : Nat → Nat) (h l z : Int) : Array Value := wz 8 f ++ (br 64 p ++ #[.int .i64 h, .int .u64 l, .int .i64 z])
theorem hc_size (f p : Nat → Nat) (h l z : Int) : (hc f p h l z).size = 75 := by simp [hc, wz_size, br_size]
theorem hc_st (f p : Nat → Nat) (h l z : Int) (i : Nat) (hi : i < 8) : (hc f p h l z)[i]? = some (.int .u32 ((f i : Nat) : Int)) := by
  unfold hc
  rw [Array.getElem?_append_left (by rw [wz_size]; exact hi), wz_get 8 f i hi]
theorem hc_up (f p : Nat → Nat) (h l z : Int) (i : Nat) : (hc f p h l z)[8 + i]? = (br 64 p ++ #[.int .i64 h, .int .u64 l, .int .i64 z])[i]? := by
  unfold hc
  rw [Array.getElem?_append_right (by rw [wz_size]; omega), wz_size]
  congr 1
  omega
theorem hc_pd (f p : Nat → Nat) (h l z : Int) (i : Nat) (hi : i < 64) : (hc f p h l z)[8 + i]? = some (.int .u8 ((p i : Nat) : Int)) := by
  rw [hc_up, Array.getElem?_append_left (by rw [br_size]; exact hi), br_get 64 p i hi]
theorem hc_h (f p : Nat → Nat) (h l z : Int) : (hc f p h l z)[72]? = some (.int .i64 h) := by
  rw [show 72 = 8 + 64 from rfl, hc_up, Array.getElem?_append_right (by rw [br_size]; exact Nat.le_refl _), br_size]; rfl
theorem hc_l (f p : Nat → Nat) (h l z : Int) : (hc f p h l z)[73]? = some (.int .u64 l) := by
  rw [show 73 = 8 + 65 from rfl, hc_up, Array.getElem?_append_right (by rw [br_size]; decide), br_size]; rfl
theorem hc_z (f p : Nat → Nat) (h l z : Int) : (hc f p h l z)[74]? = some (.int .i64 z) := by
  rw [show 74 = 8 + 66 from rfl, hc_up, Array.getElem?_append_right (by rw [br_size]; decide), br_size]; rfl
theorem hc_all (f p : Nat → Nat) (h l z : Int) (i : Nat) : (hc f p h l z)[i]? = if i < 8 then some (.int .u32 ((f i : Nat) : Int)) else if i < 72 then some (.int .u8 ((p (i - 8) : Nat) : Int)) else if i = 72 then some (.int .i64 h) else if i = 73 then some (.int .u64 l) else if i = 74 then some (.int .i64 z) else none := by
  split
  · exact hc_st _ _ _ _ _ i ‹_›
  · split
    · rw [show i = 8 + (i - 8) by omega, hc_pd _ _ _ _ _ _ (by omega)]
      simp
    · split
      · subst i; exact hc_h _ _ _ _ _
      · split
        · subst i; exact hc_l _ _ _ _ _
        · split
          · subst i; exact hc_z _ _ _ _ _
          · exact Array.getElem?_eq_none (by rw [hc_size]; omega)
theorem hc_ext {f p f' p' : Nat → Nat} {h l z : Int} (h1 : ∀ i, i < 8 → f i = f' i) (h2 : ∀ i, i < 64 → p i = p' i) : hc f p h l z = hc f' p' h l z := by
  unfold hc
  rw [wz_ext 8 f f' h1, br_ext 64 p p' h2]
theorem set_ext {c d : Array Value} {k : Nat} {v : Value} (hs : c.size = d.size) (h1 : d[k]? = some v) (h2 : ∀ j, j ≠ k → c[j]? = d[j]?) : c.setIfInBounds k v = d := by
  apply Array.ext_getElem?
  intro j
  rw [Array.getElem?_setIfInBounds]
  by_cases e : k = j
  · subst e
    have hk : k < c.size := by rw [hs]; exact (Array.getElem?_eq_some_iff.1 h1).1
    rw [if_pos rfl, if_pos hk, h1]
  · rw [if_neg e, h2 j (Ne.symm e)]
theorem hc_put (f g p : Nat → Nat) (h l z : Int) (k x : Nat) (hk : k < 8) (hx : g k = x) (hj : ∀ j, j < 8 → j ≠ k → g j = f j) : (hc f p h l z).setIfInBounds k (.int .u32 ((x : Nat) : Int)) = hc g p h l z := by
  refine set_ext (by rw [hc_size, hc_size]) (by rw [hc_st _ _ _ _ _ k hk, hx]) fun j hne => ?_
  rw [hc_all, hc_all]
  by_cases h8 : j < 8
  · rw [if_pos h8, if_pos h8, hj j h8 hne]
  · rw [if_neg h8, if_neg h8]
theorem hc_seth (f p : Nat → Nat) (h h' l z : Int) : (hc f p h l z).setIfInBounds 72 (.int .i64 h') = hc f p h' l z := by
  refine set_ext (by rw [hc_size, hc_size]) (hc_h _ _ _ _ _) fun j hne => ?_
  rw [hc_all, hc_all, if_neg hne, if_neg hne]
theorem hc_setl (f p : Nat → Nat) (h l l' z : Int) : (hc f p h l z).setIfInBounds 73 (.int .u64 l') = hc f p h l' z := by
  refine set_ext (by rw [hc_size, hc_size]) (hc_l _ _ _ _ _) fun j hne => ?_
  rw [hc_all, hc_all, if_neg hne, if_neg hne]
theorem hc_one (f p : Nat → Nat) (h l z : Int) : (hc f p h l z).all (·.oneCell') = true := by
  unfold hc
  rw [Array.all_append, wz_one, Array.all_append, br_one]
  simp [Value.oneCell']
end Go.Proofs.YtincjgpbgoagnaaDoor
