/-
  A region that leaves its order open and holds reads, calls and one store into an older variable. Plain laws of the model's regions: no Go text is walked here.
-/
import Derived.Test.YtleckbdhebjfkaaZMixG
import Derived.Test.YtleckbdhebjfkaaZDInst
namespace Go.Proofs.Ytleckbdhebjfkaa
open Go.RowKit

/-- Values that are known, and one store, operation st, into the variable b. -/
def RO (W : World) (kV : Nat → Option Value) (st b : Nat) (r : Array Value) (listed : Array Bool) (vals : Nat → Value) (w : World) : Prop :=
  (∀ i v, listed.getD i false = true → kV i = some v → vals i = v) ∧ (listed.getD st false = false → Gr W w) ∧ (listed.getD st false = true → ∃ v, Gr W v ∧ Gr (setBlk v b r) w)
theorem RO.start (W : World) (kV : Nat → Option Value) (st b : Nat) (r : Array Value) (n : Nat) (vals : Nat → Value) : RO W kV st b r (Array.replicate n false) vals W.drew := by
  have h : ∀ i, (Array.replicate n false).getD i false = false := fun i => by by_cases h : i < n <;> simp [h]
  refine ⟨fun i v hi => ?_, fun _ => (Gr.refl _).drew, fun hi => ?_⟩
  · rw [h] at hi; cases hi
  · rw [h] at hi; cases hi
theorem RO.blk {W : World} {kV : Nat → Option Value} {st b : Nat} {r : Array Value} {listed : Array Bool} {vals : Nat → Value} {w : World} (h : RO W kV st b r listed vals w) (c : Nat) (hc : c < W.heap.size) (hb : b ≠ c) : blk w c = blk W c := by
  cases hl : listed.getD st false with
  | false => exact (h.2.1 hl).blk c hc
  | true =>
    obtain ⟨v, g1, g2⟩ := h.2.2 hl
    have hs := g1.below.size
    rw [g2.blk c (by rw [size_setBlk]; omega), blk_other _ _ _ _ hb, g1.blk c hc]
theorem RO.quiet {W : World} {kV : Nat → Option Value} {st b : Nat} {r : Array Value} {listed : Array Bool} {vals : Nat → Value} {w w' : World} (i : Nat) (v : Value)
    (hv : kV i = some v) (hs : i ≠ st) (hg : Gr w w') (h : RO W kV st b r listed vals w) : RO W kV st b r (listed.setIfInBounds i true) (upd vals i v) w' := by
  obtain ⟨h1, h2, h3⟩ := h
  refine ⟨fun j u hj hu => ?_, fun hl => ?_, fun hl => ?_⟩
  · by_cases e : j = i
    · subst e; rw [hv] at hu; cases hu; simp [upd]
    · rw [getD_set_other _ _ _ (Ne.symm e)] at hj
      simp only [upd, e, if_false]
      exact h1 j u hj hu
  · rw [getD_set_other _ _ _ hs] at hl
    exact (h2 hl).trans hg
  · rw [getD_set_other _ _ _ hs] at hl
    obtain ⟨u, g1, g2⟩ := h3 hl
    exact ⟨u, g1, g2.trans hg⟩
theorem RO.store {W : World} {kV : Nat → Option Value} {st b : Nat} {r : Array Value} {listed : Array Bool} {vals : Nat → Value} {w : World} (v : Value)
    (hi : st < listed.size) (hl : listed.getD st false = false) (hv : kV st = none) (h : RO W kV st b r listed vals w) : RO W kV st b r (listed.setIfInBounds st true) (upd vals st v) (setBlk w b r) := by
  obtain ⟨h1, h2, h3⟩ := h
  refine ⟨fun j u hj hu => ?_, fun hl' => ?_, fun _ => ⟨w, h2 hl, Gr.refl _⟩⟩
  · have e : j ≠ st := fun e => by subst e; rw [hv] at hu; cases hu
    rw [getD_set_other _ _ _ (Ne.symm e)] at hj
    simp only [upd, e, if_false]
    exact h1 j u hj hu
  · rw [getD_set_same _ _ hi] at hl'
    cases hl'

/-- The same, where all that stands ahead of the store is done ahead of it. -/
def RO2 (W : World) (kV : Nat → Option Value) (st b : Nat) (r : Array Value) (listed : Array Bool) (vals : Nat → Value) (w : World) : Prop :=
  RO W kV st b r listed vals w ∧ (listed.getD st false = true → ∀ j, j < st → listed.getD j false = true)
theorem RO2.start (W : World) (kV : Nat → Option Value) (st b : Nat) (r : Array Value) (n : Nat) (vals : Nat → Value) : RO2 W kV st b r (Array.replicate n false) vals W.drew := by
  have h : ∀ i, (Array.replicate n false).getD i false = false := fun i => by by_cases h : i < n <;> simp [h]
  refine ⟨RO.start W kV st b r n vals, fun hi => ?_⟩
  rw [h] at hi; cases hi
theorem RO2.ahead {W : World} {kV : Nat → Option Value} {st b : Nat} {r : Array Value} {listed : Array Bool} {vals : Nat → Value} {w : World} (h : RO2 W kV st b r listed vals w) {i : Nat} (hi : i < st) (hl : listed.getD i false = false) : Gr W w := by
  cases hs : listed.getD st false with
  | false => exact h.1.2.1 hs
  | true => rw [h.2 hs i hi] at hl; cases hl
theorem RO2.quiet {W : World} {kV : Nat → Option Value} {st b : Nat} {r : Array Value} {listed : Array Bool} {vals : Nat → Value} {w w' : World} (i : Nat) (v : Value)
    (hi : i < listed.size) (hv : kV i = some v) (hs : i ≠ st) (hg : Gr w w') (h : RO2 W kV st b r listed vals w) : RO2 W kV st b r (listed.setIfInBounds i true) (upd vals i v) w' := by
  refine ⟨RO.quiet i v hv hs hg h.1, fun hl j hj => ?_⟩
  rw [getD_set_other _ _ _ hs] at hl
  by_cases e : j = i
  · subst e; exact getD_set_same _ _ hi
  · rw [getD_set_other _ _ _ (Ne.symm e)]; exact h.2 hl j hj
theorem RO2.store {W : World} {kV : Nat → Option Value} {st b : Nat} {r : Array Value} {listed : Array Bool} {vals : Nat → Value} {w : World} (v : Value)
    (hi : st < listed.size) (hl : listed.getD st false = false) (hv : kV st = none) (hd : ∀ j, j < st → listed.getD j false = true) (h : RO2 W kV st b r listed vals w) : RO2 W kV st b r (listed.setIfInBounds st true) (upd vals st v) (setBlk w b r) := by
  refine ⟨RO.store v hi hl hv h.1, fun _ j hj => ?_⟩
  rw [getD_set_other _ _ _ (by omega)]
  exact hd j hj

end Go.Proofs.Ytleckbdhebjfkaa
