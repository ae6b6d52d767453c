/-
  A region that leaves its order open, with calls that hand back slices, new variables and stores into them. Plain laws of the model's regions: no Go text is walked here.
-/
import Derived.Test.YtleckbdhebjfkaaZMixQ
namespace Go.Proofs.Ytleckbdhebjfkaa
open Go.RowKit

theorem RG.quiet0 {W : World} {kV : Nat → Option Value} {kA : Nat → Option (Array Value)} {kS : Nat → Option (Nat × Array Value)} {listed : Array Bool} {vals : Nat → Value} {w w' : World} (i : Nat) (v : Value)
    (hi : i < listed.size) (hv : kV i = none) (ha : kA i = none) (hs : ∀ j k r, kS j = some (k, r) → k ≠ i) (hg : Gr w w') (h : RG W kV kA kS listed vals w) : RG W kV kA kS (listed.setIfInBounds i true) (upd vals i v) w' := by
  obtain ⟨h1, h2, h3, B, h4, h5⟩ := h
  refine ⟨h1.trans hg, fun j u hj hu => ?_, fun j k r hk hl => ?_, B, fun j z hj hz => ?_, fun j k zj zk hj hk hzj hzk he => ?_⟩
  · have e : j ≠ i := fun e => by subst e; rw [hv] at hu; cases hu
    rw [getD_set_other _ _ _ (Ne.symm e)] at hj
    simp only [upd, e, if_false]
    exact h2 j u hj hu
  · rw [getD_set_other _ _ _ (Ne.symm (hs j k r hk))] at hl
    have := h3 j k r hk hl
    by_cases e : j = i
    · subst e; exact getD_set_same _ _ hi
    · rw [getD_set_other _ _ _ (Ne.symm e)]; exact this
  · have e : j ≠ i := fun e => by subst e; rw [ha] at hz; cases hz
    rw [getD_set_other _ _ _ (Ne.symm e)] at hj
    obtain ⟨a1, a2, a3, a4, a5⟩ := h4 j z hj hz
    refine ⟨by simp only [upd, e, if_false]; exact a1, a2, Nat.lt_of_lt_of_le a3 hg.below.size, by rw [hg.frz _ a3]; exact a4, ?_⟩
    rw [hg.blk _ a3, a5]
    cases hk : kS j with
    | none => rfl
    | some kr =>
      obtain ⟨k, r⟩ := kr
      simp only
      rw [getD_set_other _ _ _ (Ne.symm (hs j k r hk))]
  · have e1 : j ≠ i := fun e => by subst e; rw [ha] at hzj; cases hzj
    have e2 : k ≠ i := fun e => by subst e; rw [ha] at hzk; cases hzk
    rw [getD_set_other _ _ _ (Ne.symm e1)] at hj
    rw [getD_set_other _ _ _ (Ne.symm e2)] at hk
    exact h5 j k zj zk hj hk hzj hzk he
/-- Values and slices that are known (kp), new variables (kA), stores into them (kS). -/
def RS (W : World) (kp : List Kn) (kA : Nat → Option (Array Value)) (kS : Nat → Option (Nat × Array Value)) (listed : Array Bool) (vals : Nat → Value) (w : World) : Prop :=
  RG W (fun _ => none) kA kS listed vals w ∧ ∀ i, listed.getD i false = true → kAt kp i (vals i) w
theorem RS.start (W : World) (kp : List Kn) (kA : Nat → Option (Array Value)) (kS : Nat → Option (Nat × Array Value)) (n : Nat) (vals : Nat → Value) : RS W kp kA kS (Array.replicate n false) vals W.drew := by
  have h : ∀ i, (Array.replicate n false).getD i false = false := fun i => by by_cases h : i < n <;> simp [h]
  refine ⟨RG.start _ _ _ _ _ _, fun i hi => ?_⟩
  rw [h] at hi; cases hi
theorem RS.quiet {W : World} {kp : List Kn} {kA : Nat → Option (Array Value)} {kS : Nat → Option (Nat × Array Value)} {listed : Array Bool} {vals : Nat → Value} {w w' : World} (i : Nat) (v : Value)
    (hi : i < listed.size) (ha : kA i = none) (hs : ∀ j k r, kS j = some (k, r) → k ≠ i) (hg : Gr w w') (hv : kAt kp i v w') (h : RS W kp kA kS listed vals w) : RS W kp kA kS (listed.setIfInBounds i true) (upd vals i v) w' := by
  refine ⟨RG.quiet0 i v hi rfl ha hs hg h.1, fun j hj => ?_⟩
  by_cases e : j = i
  · subst e; simp only [upd, if_true]; exact hv
  · rw [getD_set_other _ _ _ (Ne.symm e)] at hj
    simp only [upd, e, if_false]
    exact (h.2 j hj).gr hg
theorem RS.alloc {W : World} {kp : List Kn} {kA : Nat → Option (Array Value)} {kS : Nat → Option (Nat × Array Value)} {listed : Array Bool} {vals : Nat → Value} {w : World} (i : Nat) (z : Array Value) (t : TypeId)
    (hi : i < listed.size) (hl : listed.getD i false = false) (ha : kA i = some z) (hs : ∀ j k r, kS j = some (k, r) → k ≠ i) (hk : kp[i]? = none) (h : RS W kp kA kS listed vals w) :
    RS W kp kA kS (listed.setIfInBounds i true) (upd vals i (.pointer (some ⟨w.heap.size, 0, none⟩))) (w.alloc (.cells z t)) := by
  refine ⟨RG.alloc i z t hi hl rfl ha hs h.1, fun j hj => ?_⟩
  by_cases e : j = i
  · subst e; unfold kAt; rw [hk]; trivial
  · rw [getD_set_other _ _ _ (Ne.symm e)] at hj
    simp only [upd, e, if_false]
    exact (h.2 j hj).gr ((Gr.refl w).alloc _)
theorem RS.store {W : World} {kp : List Kn} {kA : Nat → Option (Array Value)} {kS : Nat → Option (Nat × Array Value)} {listed : Array Bool} {vals : Nat → Value} {w : World} (i j : Nat) (z r : Array Value) (b : Nat)
    (hi : i < listed.size) (hl : listed.getD i false = false) (ha : kA i = none) (hk : kS j = some (i, r)) (hj : listed.getD j false = true) (hz : kA j = some z) (hzs : 0 < z.size) (hb : vals j = .pointer (some ⟨b, 0, none⟩))
    (hs : ∀ k r', kS k = some (i, r') → k = j) (hp : kp[i]? = none) (hbz : ∀ (i : Nat) (n : Int), (blk w b)[i]? ≠ some (Value.int .u32 n)) (h : RS W kp kA kS listed vals w) :
    RS W kp kA kS (listed.setIfInBounds i true) (upd vals i undef) (setBlk w b r) := by
  refine ⟨RG.store i j z r b hi hl rfl ha hk hj hz hzs hb hs h.1, fun k hk2 => ?_⟩
  by_cases e : k = i
  · subst e; unfold kAt; rw [hp]; trivial
  · rw [getD_set_other _ _ _ (Ne.symm e)] at hk2
    simp only [upd, e, if_false]
    exact (h.2 k hk2).set hbz
theorem nw_no32 (n a : Nat) (i : Nat) (x : Int) : (nw n a)[i]? ≠ some (Value.int .u32 x) := by
  by_cases h : i < n
  · rw [nw_get n a i h]
    intro e
    cases e
  · rw [Array.getElem?_eq_none (by rw [nw_size]; omega)]
    intro e
    cases e

end Go.Proofs.Ytleckbdhebjfkaa
