import Derived.Test.YtempibiahmmppaaGreatXKMixP
import Derived.Test.YtempibiahmmppaaGreatXKPC
namespace Go.Proofs.YtempibiahmmppaaGreat
open Go.RowKit
set_option maxRecDepth 100000
set_option maxHeartbeats 8000000
section
theorem Sl.set {w : World} {p : Option Addr} {x b : Nat} {d : Array Value} (h : Sl w p x) (hz : ∀ (i : Nat) (n : Int), (blk w b)[i]? ≠ some (Value.int .u32 n)) : Sl (setBlk w b d) p x := fun i hi => by
 obtain ⟨c, h1, h2, h3⟩ := h i hi
 have ne : b ≠ c := fun e => hz i _ (e ▸ h3)
 exact ⟨c, h1, by rw [size_setBlk]; exact h2, by rw [blk_other _ _ _ _ ne]; exact h3⟩
theorem kAt.set {kp : List Kn} {i b : Nat} {v : Value} {w : World} {d : Array Value} (h : kAt kp i v w) (hz : ∀ (i : Nat) (n : Int), (blk w b)[i]? ≠ some (Value.int .u32 n)) : kAt kp i v (setBlk w b d) := by
 unfold kAt at h ⊢
 cases e : kp[i]? with
 | none => trivial
 | some k =>
   rw [e] at h
   obtain ⟨nm, u, x⟩ := k
   cases nm with
   | false => exact h
   | true => obtain ⟨p, n, e, h⟩ := h; exact ⟨p, n, e, Sl.set h hz⟩
structure RQ (W : World) (kp : List Kn) (D : List Nat) (mk : (Nat → Value) → Array Value) (z : Array Value) (bd al st : Nat) (listed : Array Bool) (vals : Nat → Value) (w : World) : Prop where
 g : Gr W w
 k : ∀ j, listed.getD j false = true → kAt kp j (vals j) w
 d : listed.getD bd false = true → (∀ j ∈ D, listed.getD j false = true) ∧ vals bd = .agg (mk vals)
 a : listed.getD al false = true → ∃ b, vals al = .pointer (some ⟨b, 0, none⟩) ∧ W.heap.size ≤ b ∧ b < w.heap.size ∧ frz w b = (0, 0) ∧ (listed.getD st false = false → blk w b = z) ∧ (listed.getD st false = true → blk w b = mk vals)
 s : listed.getD st false = true → listed.getD bd false = true ∧ listed.getD al false = true
theorem RQ.start (W : World) (kp : List Kn) (D : List Nat) (mk : (Nat → Value) → Array Value) (z : Array Value) (bd al st n : Nat) (vals : Nat → Value) : RQ W kp D mk z bd al st (Array.replicate n false) vals W.drew := by
 have h : ∀ i, (Array.replicate n false).getD i false = false := fun i => by by_cases h : i < n <;> simp [h]
 have hn : ∀ (i : Nat) (p : Prop), (Array.replicate n false).getD i false = true → p := fun i p hi => by rw [h] at hi; cases hi
 exact ⟨(Gr.refl _).drew, fun j hj => hn j _ hj, fun hj => hn _ _ hj, fun hj => hn _ _ hj, fun hj => hn _ _ hj⟩
variable {W w w' : World} {kp : List Kn} {D : List Nat} {mk : (Nat → Value) → Array Value} {z : Array Value} {bd al st : Nat} {listed : Array Bool} {vals : Nat → Value}
theorem mk_upd (hmk : ∀ f g : Nat → Value, (∀ j ∈ D, f j = g j) → mk f = mk g) (i : Nat) (v : Value) (hi : i ∉ D) : mk (upd vals i v) = mk vals :=
 hmk _ _ fun j hj => by
   have e : j ≠ i := fun e => hi (e ▸ hj)
   simp [upd, e]
theorem RQ.quiet (hmk : ∀ f g : Nat → Value, (∀ j ∈ D, f j = g j) → mk f = mk g) (i : Nat) (v : Value) (hi : i < listed.size) (hl : listed.getD i false = false) (nb : i ≠ bd) (na : i ≠ al) (ns : i ≠ st)
   (hg : Gr w w') (hv : kAt kp i v w') (h : RQ W kp D mk z bd al st listed vals w) : RQ W kp D mk z bd al st (listed.setIfInBounds i true) (upd vals i v) w' := by
 have stay : listed.getD bd false = true → mk (upd vals i v) = mk vals := fun hb => mk_upd hmk i v fun hD => by rw [(h.d hb).1 i hD] at hl; cases hl
 refine ⟨h.g.trans hg, fun j hj => ?_, fun hb => ?_, fun ha => ?_, fun hs => ?_⟩
 · by_cases e : j = i
   · subst e; simpa [upd] using hv
   · rw [getD_set_other _ _ _ (Ne.symm e)] at hj
     simp only [upd, e, if_false]
     exact (h.k j hj).gr hg
 · rw [getD_set_other _ _ _ nb] at hb
   obtain ⟨h1, h2⟩ := h.d hb
   refine ⟨fun j hj => ?_, ?_⟩
   · by_cases e : j = i
     · subst e; exact getD_set_same _ _ hi
     · rw [getD_set_other _ _ _ (Ne.symm e)]; exact h1 j hj
   · rw [stay hb]
     simp only [upd, Ne.symm nb, if_false]
     exact h2
 · rw [getD_set_other _ _ _ na] at ha
   obtain ⟨b, h1, h2, h3, h4, h5, h6⟩ := h.a ha
   refine ⟨b, by simp only [upd, Ne.symm na, if_false]; exact h1, h2, Nat.lt_of_lt_of_le h3 hg.below.size, by rw [hg.frz _ h3]; exact h4, fun hs => ?_, fun hs => ?_⟩
   · rw [getD_set_other _ _ _ ns] at hs
     rw [hg.blk _ h3]; exact h5 hs
   · rw [getD_set_other _ _ _ ns] at hs
     rw [hg.blk _ h3, stay (h.s hs).1]; exact h6 hs
 · rw [getD_set_other _ _ _ ns] at hs
   rw [getD_set_other _ _ _ nb, getD_set_other _ _ _ na]
   exact h.s hs
theorem RQ.build (hmk : ∀ f g : Nat → Value, (∀ j ∈ D, f j = g j) → mk f = mk g) (hi : bd < listed.size) (hl : listed.getD bd false = false) (na : bd ≠ al) (ns : bd ≠ st) (hD : bd ∉ D) (hk : kp[bd]? = none)
   (hd : ∀ j ∈ D, listed.getD j false = true) (h : RQ W kp D mk z bd al st listed vals w) : RQ W kp D mk z bd al st (listed.setIfInBounds bd true) (upd vals bd (.agg (mk vals))) w := by
 have hs : listed.getD st false = false := by
   cases e : listed.getD st false with
   | false => rfl
   | true => rw [(h.s e).1] at hl; cases hl
 refine ⟨h.g, fun j hj => ?_, fun _ => ?_, fun ha => ?_, fun hs' => ?_⟩
 · by_cases e : j = bd
   · subst e; unfold kAt; rw [hk]; trivial
   · rw [getD_set_other _ _ _ (Ne.symm e)] at hj
     simp only [upd, e, if_false]
     exact h.k j hj
 · refine ⟨fun j hj => ?_, ?_⟩
   · have e : j ≠ bd := fun e => hD (e ▸ hj)
     rw [getD_set_other _ _ _ (Ne.symm e)]; exact hd j hj
   · rw [mk_upd hmk bd _ hD]; simp [upd]
 · rw [getD_set_other _ _ _ na] at ha
   obtain ⟨b, h1, h2, h3, h4, h5, h6⟩ := h.a ha
   refine ⟨b, by simp only [upd, Ne.symm na, if_false]; exact h1, h2, h3, h4, fun _ => h5 hs, fun hs' => ?_⟩
   rw [getD_set_other _ _ _ ns, hs] at hs'
   cases hs'
 · rw [getD_set_other _ _ _ ns, hs] at hs'
   cases hs'
theorem RQ.alloc (hmk : ∀ f g : Nat → Value, (∀ j ∈ D, f j = g j) → mk f = mk g) (t : TypeId) (hi : al < listed.size) (hl : listed.getD al false = false) (nb : al ≠ bd) (ns : al ≠ st) (hD : al ∉ D) (hk : kp[al]? = none)
   (h : RQ W kp D mk z bd al st listed vals w) : RQ W kp D mk z bd al st (listed.setIfInBounds al true) (upd vals al (.pointer (some ⟨w.heap.size, 0, none⟩))) (w.alloc (.cells z t)) := by
 have hs : listed.getD st false = false := by
   cases e : listed.getD st false with
   | false => rfl
   | true => rw [(h.s e).2] at hl; cases hl
 have hg : Gr w (w.alloc (.cells z t)) := (Gr.refl w).alloc _
 refine ⟨h.g.trans hg, fun j hj => ?_, fun hb => ?_, fun _ => ?_, fun hs' => ?_⟩
 · by_cases e : j = al
   · subst e; unfold kAt; rw [hk]; trivial
   · rw [getD_set_other _ _ _ (Ne.symm e)] at hj
     simp only [upd, e, if_false]
     exact (h.k j hj).gr hg
 · rw [getD_set_other _ _ _ nb] at hb
   obtain ⟨h1, h2⟩ := h.d hb
   refine ⟨fun j hj => ?_, ?_⟩
   · have e : j ≠ al := fun e => hD (e ▸ hj)
     rw [getD_set_other _ _ _ (Ne.symm e)]; exact h1 j hj
   · rw [mk_upd hmk al _ hD]
     simp only [upd, Ne.symm nb, if_false]
     exact h2
 · refine ⟨w.heap.size, by simp [upd], h.g.below.size, by simp, frz_alloc_at _ _ _ _ _ rfl, fun _ => blk_alloc_at _ _ _ _ _ rfl, fun hs' => ?_⟩
   rw [getD_set_other _ _ _ ns, hs] at hs'
   cases hs'
 · rw [getD_set_other _ _ _ ns, hs] at hs'
   cases hs'
theorem RQ.store (hmk : ∀ f g : Nat → Value, (∀ j ∈ D, f j = g j) → mk f = mk g) (hi : st < listed.size) (hl : listed.getD st false = false) (nb : st ≠ bd) (na : st ≠ al) (hD : st ∉ D) (hk : kp[st]? = none)
   (hz : ∀ (i : Nat) (n : Int), z[i]? ≠ some (Value.int .u32 n)) (hzs : 0 < z.size) (lb : listed.getD bd false = true) (la : listed.getD al false = true) (b : Nat) (hb : vals al = .pointer (some ⟨b, 0, none⟩))
   (h : RQ W kp D mk z bd al st listed vals w) : RQ W kp D mk z bd al st (listed.setIfInBounds st true) (upd vals st undef) (setBlk w b (mk vals)) := by
 obtain ⟨c, h1, h2, h3, h4, h5, -⟩ := h.a la
 have hcb : b = c := by rw [hb] at h1; simpa using h1
 subst hcb
 have hbz := h5 hl
 refine ⟨gr_setNew h.g h2, fun j hj => ?_, fun _ => ?_, fun _ => ?_, fun _ => ?_⟩
 · by_cases e : j = st
   · subst e; unfold kAt; rw [hk]; trivial
   · rw [getD_set_other _ _ _ (Ne.symm e)] at hj
     simp only [upd, e, if_false]
     exact kAt.set (h.k j hj) (by rw [hbz]; exact hz)
 · obtain ⟨d1, d2⟩ := h.d lb
   refine ⟨fun j hj => ?_, ?_⟩
   · have e : j ≠ st := fun e => hD (e ▸ hj)
     rw [getD_set_other _ _ _ (Ne.symm e)]; exact d1 j hj
   · rw [mk_upd hmk st _ hD]
     simp only [upd, Ne.symm nb, if_false]
     exact d2
 · refine ⟨b, by simp only [upd, Ne.symm na, if_false]; exact hb, h2, by rw [size_setBlk]; exact h3, by rw [frz_setBlk]; exact h4, fun hs => ?_, fun _ => ?_⟩
   · rw [getD_set_same _ _ hi] at hs; cases hs
   · rw [mk_upd hmk st _ hD, blk_setBlk _ _ _ (by rw [hbz]; exact hzs)]
 · rw [getD_set_other _ _ _ nb, getD_set_other _ _ _ na]
   exact ⟨lb, la⟩
end
end Go.Proofs.YtempibiahmmppaaGreat
