/-
  A region that leaves its order open and holds reads, calls, new variables and stores into them: what it leaves is what was there, and more. Plain laws of the model's regions: no Go text is walked here.
-/
import Derived.Test.YtbafjcbbiiipfaaMix
namespace Go.Proofs.Ytbafjcbbiiipfaa
open Go.RowKit

theorem gr_setNew {W v : World} (h : Gr W v) {b : Nat} {d : Array Value} (hb : W.heap.size ≤ b) : Gr W (setBlk v b d) := by
  obtain ⟨g, rfl⟩ := h
  refine ⟨⟨g.os.modify (b - W.heap.size) (fun | .cells _ e f => .cells d e f | o => o), g.n⟩, ext_world ?_ rfl rfl rfl rfl⟩
  apply Array.ext_getElem?
  intro k
  simp only [setBlk, gro, Array.getElem?_modify, Array.getElem?_append, List.getElem?_toArray, List.getElem?_modify]
  by_cases hk : k < W.heap.size
  · have e : ¬ b = k := by omega
    simp [hk, e]
  · by_cases e : b = k
    · subst e
      simp [hk]
      cases g.os[b - W.heap.size]? with
      | none => rfl
      | some o => cases o <;> rfl
    · have e2 : ¬ b - W.heap.size = k - W.heap.size := by omega
      simp [hk, e, e2]
/-! ### values that are known, new variables, stores into them -/
def RG (W : World) (kV : Nat → Option Value) (kA : Nat → Option (Array Value)) (kS : Nat → Option (Nat × Array Value)) (listed : Array Bool) (vals : Nat → Value) (w : World) : Prop :=
  Gr W w ∧ (∀ i v, listed.getD i false = true → kV i = some v → vals i = v) ∧ (∀ j k r, kS j = some (k, r) → listed.getD k false = true → listed.getD j false = true) ∧
  ∃ B : Nat → Nat, (∀ i z, listed.getD i false = true → kA i = some z → vals i = .pointer (some ⟨B i, 0, none⟩) ∧ W.heap.size ≤ B i ∧ B i < w.heap.size ∧ frz w (B i) = (0, 0) ∧
      blk w (B i) = match kS i with | some (k, r) => if listed.getD k false = true then r else z | none => z) ∧
    (∀ i j zi zj, listed.getD i false = true → listed.getD j false = true → kA i = some zi → kA j = some zj → B i = B j → i = j)
theorem RG.start (W : World) (kV : Nat → Option Value) (kA : Nat → Option (Array Value)) (kS : Nat → Option (Nat × Array Value)) (n : Nat) (vals : Nat → Value) : RG W kV kA kS (Array.replicate n false) vals W.drew := by
  have h : ∀ i, (Array.replicate n false).getD i false = false := fun i => by by_cases h : i < n <;> simp [h]
  have hn : ∀ (i : Nat) (p : Prop), (Array.replicate n false).getD i false = true → p := fun i p hi => by
    rw [h] at hi
    cases hi
  exact ⟨(Gr.refl _).drew, fun i v hi => hn i _ hi, fun j k r _ hk => hn k _ hk, fun _ => 0, fun i z hi => hn i _ hi, fun i j zi zj hi => hn i _ hi⟩
theorem RG.quiet {W : World} {kV : Nat → Option Value} {kA : Nat → Option (Array Value)} {kS : Nat → Option (Nat × Array Value)} {listed : Array Bool} {vals : Nat → Value} {w w' : World} (i : Nat) (v : Value)
    (hi : i < listed.size) (hv : kV i = some v) (ha : kA i = none) (hs : ∀ j k r, kS j = some (k, r) → k ≠ i) (hg : Gr w w') (h : RG W kV kA kS listed vals w) : RG W kV kA kS (listed.setIfInBounds i true) (upd vals i v) w' := by
  obtain ⟨h1, h2, h3, B, h4, h5⟩ := h
  refine ⟨h1.trans hg, fun j u hj hu => ?_, fun j k r hk hl => ?_, B, fun j z hj hz => ?_, fun j k zj zk hj hk hzj hzk he => ?_⟩
  · by_cases e : j = i
    · subst e; rw [hv] at hu; cases hu; simp [upd]
    · rw [getD_set_other _ _ _ (Ne.symm e)] at hj
      simp only [upd, e, if_false]
      exact h2 j u hj hu
  · rw [getD_set_other _ _ _ (Ne.symm (hs j k r hk))] at hl
    have := h3 j k r hk hl
    by_cases e : j = i
    · subst e; exact getD_set_same _ _ hi
    · rw [getD_set_other _ _ _ (Ne.symm e)]; exact this
  · have e : j ≠ i := fun e => by subst e; rw [ha] at hz; cases hz
    rw [getD_set_other _ _ _ (Ne.symm e)] at hj
    obtain ⟨a1, a2, a3, a4, a5⟩ := h4 j z hj hz
    refine ⟨by simp only [upd, e, if_false]; exact a1, a2, Nat.lt_of_lt_of_le a3 hg.below.size, by rw [hg.frz _ a3]; exact a4, ?_⟩
    rw [hg.blk _ a3, a5]
    cases hk : kS j with
    | none => rfl
    | some kr =>
      obtain ⟨k, r⟩ := kr
      simp only
      rw [getD_set_other _ _ _ (Ne.symm (hs j k r hk))]
  · have e1 : j ≠ i := fun e => by subst e; rw [ha] at hzj; cases hzj
    have e2 : k ≠ i := fun e => by subst e; rw [ha] at hzk; cases hzk
    rw [getD_set_other _ _ _ (Ne.symm e1)] at hj
    rw [getD_set_other _ _ _ (Ne.symm e2)] at hk
    exact h5 j k zj zk hj hk hzj hzk he
theorem RG.alloc {W : World} {kV : Nat → Option Value} {kA : Nat → Option (Array Value)} {kS : Nat → Option (Nat × Array Value)} {listed : Array Bool} {vals : Nat → Value} {w : World} (i : Nat) (z : Array Value) (t : TypeId)
    (hi : i < listed.size) (hl : listed.getD i false = false) (hv : kV i = none) (ha : kA i = some z) (hs : ∀ j k r, kS j = some (k, r) → k ≠ i) (h : RG W kV kA kS listed vals w) :
    RG W kV kA kS (listed.setIfInBounds i true) (upd vals i (.pointer (some ⟨w.heap.size, 0, none⟩))) (w.alloc (.cells z t)) := by
  obtain ⟨h1, h2, h3, B, h4, h5⟩ := h
  have hsz : (w.alloc (.cells z t)).heap.size = w.heap.size + 1 := by simp
  have hg : Gr w (w.alloc (.cells z t)) := (Gr.refl w).alloc _
  refine ⟨h1.trans hg, fun j u hj hu => ?_, fun j k r hk hl' => ?_, fun j => if j = i then w.heap.size else B j, fun j y hj hy => ?_, fun j k zj zk hj hk hzj hzk he => ?_⟩
  · have e : j ≠ i := fun e => by subst e; rw [hv] at hu; cases hu
    rw [getD_set_other _ _ _ (Ne.symm e)] at hj
    simp only [upd, e, if_false]
    exact h2 j u hj hu
  · rw [getD_set_other _ _ _ (Ne.symm (hs j k r hk))] at hl'
    have := h3 j k r hk hl'
    by_cases e : j = i
    · subst e; exact getD_set_same _ _ hi
    · rw [getD_set_other _ _ _ (Ne.symm e)]; exact this
  · by_cases e : j = i
    · subst e
      rw [ha] at hy; cases hy
      simp only [upd, if_true]
      refine ⟨trivial, h1.below.size, by omega, frz_alloc_at _ _ _ _ _ rfl, ?_⟩
      rw [blk_alloc_at _ _ _ _ _ rfl]
      cases hk : kS j with
      | none => rfl
      | some kr =>
        obtain ⟨k, r⟩ := kr
        have hkl : listed.getD k false = false := by
          cases hc : listed.getD k false with
          | false => rfl
          | true => rw [h3 j k r hk hc] at hl; cases hl
        simp only
        rw [getD_set_other _ _ _ (Ne.symm (hs j k r hk)), hkl]
        rfl
    · rw [getD_set_other _ _ _ (Ne.symm e)] at hj
      obtain ⟨a1, a2, a3, a4, a5⟩ := h4 j y hj hy
      simp only [upd, e, if_false]
      refine ⟨a1, a2, by omega, by rw [hg.frz _ a3]; exact a4, ?_⟩
      rw [hg.blk _ a3, a5]
      cases hk : kS j with
      | none => rfl
      | some kr =>
        obtain ⟨k, r⟩ := kr
        simp only
        rw [getD_set_other _ _ _ (Ne.symm (hs j k r hk))]
  · by_cases e1 : j = i
    · by_cases e2 : k = i
      · rw [e1, e2]
      · rw [getD_set_other _ _ _ (Ne.symm e2)] at hk
        have := (h4 k zk hk hzk).2.2.1
        simp only [e1, e2, if_true, if_false] at he
        omega
    · rw [getD_set_other _ _ _ (Ne.symm e1)] at hj
      by_cases e2 : k = i
      · have := (h4 j zj hj hzj).2.2.1
        simp only [e1, e2, if_true, if_false] at he
        omega
      · rw [getD_set_other _ _ _ (Ne.symm e2)] at hk
        simp only [e1, e2, if_false] at he
        exact h5 j k zj zk hj hk hzj hzk he
theorem RG.store {W : World} {kV : Nat → Option Value} {kA : Nat → Option (Array Value)} {kS : Nat → Option (Nat × Array Value)} {listed : Array Bool} {vals : Nat → Value} {w : World} (i j : Nat) (z r : Array Value) (b : Nat)
    (hi : i < listed.size) (hl : listed.getD i false = false) (hv : kV i = none) (ha : kA i = none) (hk : kS j = some (i, r)) (hj : listed.getD j false = true) (hz : kA j = some z) (hzs : 0 < z.size) (hb : vals j = .pointer (some ⟨b, 0, none⟩))
    (hs : ∀ k r', kS k = some (i, r') → k = j) (h : RG W kV kA kS listed vals w) :
    RG W kV kA kS (listed.setIfInBounds i true) (upd vals i undef) (setBlk w b r) := by
  obtain ⟨h1, h2, h3, B, h4, h5⟩ := h
  obtain ⟨b1, b2, b3, b4, b5⟩ := h4 j z hj hz
  have hbB : b = B j := by rw [hb] at b1; simpa using b1
  subst hbB
  have hbz : blk w (B j) = z := by rw [b5, hk]; simp [hl]
  have hbelow : Gr W (setBlk w (B j) r) := gr_setNew h1 b2
  refine ⟨hbelow, fun k u hkl hu => ?_, fun k k' r' hk' hl' => ?_, B, fun k y hkl hy => ?_, fun k k' zj zk hkl hk' hzj hzk he => ?_⟩
  · have e : k ≠ i := fun e => by subst e; rw [hv] at hu; cases hu
    rw [getD_set_other _ _ _ (Ne.symm e)] at hkl
    simp only [upd, e, if_false]
    exact h2 k u hkl hu
  · by_cases e : k' = i
    · subst e
      have := hs k r' hk'
      subst this
      by_cases e2 : k = k'
      · subst e2; exact getD_set_same _ _ hi
      · rw [getD_set_other _ _ _ (Ne.symm e2)]; exact hj
    · rw [getD_set_other _ _ _ (Ne.symm e)] at hl'
      have := h3 k k' r' hk' hl'
      by_cases e2 : k = i
      · subst e2; exact getD_set_same _ _ hi
      · rw [getD_set_other _ _ _ (Ne.symm e2)]; exact this
  · have e : k ≠ i := fun e => by subst e; rw [ha] at hy; cases hy
    rw [getD_set_other _ _ _ (Ne.symm e)] at hkl
    obtain ⟨a1, a2, a3, a4, a5⟩ := h4 k y hkl hy
    simp only [upd, e, if_false]
    refine ⟨a1, a2, by rw [size_setBlk]; exact a3, by rw [frz_setBlk]; exact a4, ?_⟩
    by_cases ek : k = j
    · subst ek
      rw [hk]
      simp only
      rw [getD_set_same _ _ hi, if_pos rfl, blk_setBlk _ _ _ (by rw [hbz]; exact hzs)]
    · have hne : B j ≠ B k := fun eb => ek (h5 j k z y hj hkl hz hy eb).symm
      rw [blk_setBlk_other _ _ _ _ hne, a5]
      cases hkk : kS k with
      | none => rfl
      | some kr =>
        obtain ⟨k', r'⟩ := kr
        simp only
        have e3 : k' ≠ i := fun e3 => by subst e3; exact ek (hs k r' hkk)
        rw [getD_set_other _ _ _ (Ne.symm e3)]
  · have e1 : k ≠ i := fun e => by subst e; rw [ha] at hzj; cases hzj
    have e2 : k' ≠ i := fun e => by subst e; rw [ha] at hzk; cases hzk
    rw [getD_set_other _ _ _ (Ne.symm e1)] at hkl
    rw [getD_set_other _ _ _ (Ne.symm e2)] at hk'
    exact h5 k k' zj zk hkl hk' hzj hzk he

end Go.Proofs.Ytbafjcbbiiipfaa
