import Derived.Test.YtempibiahmmppaaGreatXKMixG
import Derived.Test.YtempibiahmmppaaGreatXKSl
namespace Go.Proofs.YtempibiahmmppaaGreat
open Go.RowKit
set_option maxRecDepth 100000
set_option maxHeartbeats 8000000
section
structure Kn where
 num : Bool
 val : Value
 nat : Nat
def Kn.c (v : Value) : Kn := ⟨false, v, 0⟩
def Kn.n (x : Nat) : Kn := ⟨true, undef, x⟩
def Kn.ok (k : Kn) (v : Value) (w : World) : Prop := match k.num with
 | false => v = k.val
 | true => ∃ p n, v = .slice p (dl k.nat) n ∧ Sl w p k.nat
theorem Kn.gr {k : Kn} {v : Value} {w w' : World} (h : k.ok v w) (g : Gr w w') : k.ok v w' := by
 obtain ⟨b, u, x⟩ := k
 cases b with
 | false => exact h
 | true => obtain ⟨p, n, e, h⟩ := h; exact ⟨p, n, e, h.gr g⟩
def kAt (kp : List Kn) (i : Nat) (v : Value) (w : World) : Prop := match kp[i]? with | some k => k.ok v w | none => True
theorem kAt.gr {kp : List Kn} {i : Nat} {v : Value} {w w' : World} (h : kAt kp i v w) (g : Gr w w') : kAt kp i v w' := by
 unfold kAt at h ⊢
 cases e : kp[i]? with
 | none => trivial
 | some k => rw [e] at h; exact Kn.gr h g
theorem none_listed (n j : Nat) : (Array.replicate n false).getD j false = false := by
 by_cases h : j < n <;> simp [h]
def RP (W : World) (kp : List Kn) (listed : Array Bool) (vals : Nat → Value) (w : World) : Prop :=
 Gr W w ∧ ∀ j, listed.getD j false = true → kAt kp j (vals j) w
theorem RP.next {W w w' : World} {kp : List Kn} {listed : Array Bool} {vals : Nat → Value} {i : Nat} {v : Value} (h : RP W kp listed vals w) (hg : Gr w w') (hv : kAt kp i v w') : RP W kp (listed.setIfInBounds i true) (upd vals i v) w' := by
 refine ⟨?_, fun j hj => ?_⟩
 · obtain ⟨k, rfl⟩ := h.1
   obtain ⟨k', rfl⟩ := hg
   exact ⟨_, gro_gro W k k'⟩
 · by_cases e : j = i
   · subst e; simpa [upd] using hv
   · rw [getD_set_other _ _ _ (Ne.symm e)] at hj
     simp only [upd, e, if_false]
     exact (h.2 j hj).gr hg
theorem on_of {after : Array Edge} {listed : Array Bool} (hd : ∀ e ∈ after, Region.binds .any e = true → listed.getD e.on false = true) (j : Nat) (h : (after.any fun e => e.on == j && Region.binds .any e) = true) : listed.getD j false = true := by
 obtain ⟨i, hi, hb⟩ := Array.any_eq_true.1 h
 simp only [Bool.and_eq_true, beq_iff_eq] at hb
 rw [← hb.1]
 exact hd _ (Array.getElem_mem hi) hb.2
theorem wanted_no {ops : Array Oper} {a : Act} {o : Oper} (hg : o.guard = none) : Region.wanted o (yielded ops a.tmps) = true := by
 unfold Region.wanted
 rw [hg]
end
end Go.Proofs.YtempibiahmmppaaGreat
