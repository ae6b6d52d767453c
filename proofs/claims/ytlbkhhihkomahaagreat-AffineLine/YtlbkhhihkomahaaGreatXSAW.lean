import Derived.Test.YtlbkhhihkomahaaGreatXSAL
namespace Go.Proofs.YtlbkhhihkomahaaGreat
theorem lineF {p : Nat} [NeZero p] {i : Fin p → Fin p} {A B : Fin p} (C : EC.Cur i A B) {x1 y1 x2 y2 z1 z2 : Fin p} (hn : ¬ (x1 = x2 ∧ y1 = y2)) (h : EC.ng (EC.pl i A (some (x1, y1)) (some (x2, y2))) = some (z1, z2)) :
    (y2 - y1) * (z1 - x1) = (z2 - y1) * (x2 - x1) := by
  by_cases hx : x1 = x2
  · subst hx
    have hy : y1 ≠ y2 := fun e => hn ⟨rfl, e⟩
    simp [EC.pl, EC.ng, hy] at h
  · have hs : x2 - x1 ≠ 0 := fun h => hx (EC.sub_zero_of h).symm
    have e : EC.pl i A (some (x1, y1)) (some (x2, y2)) = some (EC.sx ((y2 - y1) * i (x2 - x1)) x1 x2, EC.sy ((y2 - y1) * i (x2 - x1)) x1 y1 (EC.sx ((y2 - y1) * i (x2 - x1)) x1 x2)) := by simp [EC.pl, hx]
    rw [e] at h
    have hi := C.inv _ hs
    simp only [EC.ng, Option.some.injEq, Prod.mk.injEq] at h
    obtain ⟨h1, h2⟩ := h
    generalize i (x2 - x1) = j at *
    unfold EC.sy at h2
    rw [h1] at h2
    rw [← h2]
    clear h1 h2 e hs hx hn
    grobner
theorem lineQ {k : Nat} (h1 : 1 ≤ k) (h2 : k ≤ 15) {px py qx qy nx ny : Nat} (hP : OnQ k (px, py, false)) (hQ : OnQ k (qx, qy, false)) (hn : ¬ (px = qx ∧ py = qy)) (h : ngQ k (plQ k (px, py, false) (qx, qy, false)) = (nx, ny, false)) :
    subM qy py (pN k) * subM nx px (pN k) % pN k = subM ny py (pN k) * subM qx px (pN k) % pN k := by
  haveI := EC.nzP k h1 h2
  have hN : OnQ k (nx, ny, false) := h ▸ ngQ_on h1 h2 (plQ_on h1 h2 hP hQ)
  have lt : ∀ {x y : Nat}, OnQ k (x, y, false) → x < pN k ∧ y < pN k := fun {x y} h => by
    rcases h.cases with e | ⟨a, b, e, ha, hb, -⟩
    · cases e
    · cases e; exact ⟨ha, hb⟩
  obtain ⟨lp, lp'⟩ := lt hP
  obtain ⟨lq, lq'⟩ := lt hQ
  obtain ⟨ln, ln'⟩ := lt hN
  have dc : ∀ {x y : Nat} (hx : x < pN k) (hy : y < pN k), decQ (pN k) (x, y, false) = some (⟨x, hx⟩, ⟨y, hy⟩) := fun {x y} hx hy => by
    show some (Fin.ofNat (pN k) x, Fin.ofNat (pN k) y) = _
    rw [show Fin.ofNat (pN k) x = ⟨x, hx⟩ from Fin.ext (Nat.mod_eq_of_lt hx), show Fin.ofNat (pN k) y = ⟨y, hy⟩ from Fin.ext (Nat.mod_eq_of_lt hy)]
  have hF : EC.ng (EC.pl (EC.iP (pN k)) (EC.aF k h1 h2) (some (⟨px, lp⟩, ⟨py, lp'⟩)) (some (⟨qx, lq⟩, ⟨qy, lq'⟩))) = some (⟨nx, ln⟩, ⟨ny, ln'⟩) := by
    rw [← dc lp lp', ← dc lq lq', ← dc ln ln', ← h, ngQ_is h1 h2, plQ_is h1 h2, dec_enc, dec_enc]
  have e := congrArg Fin.val (lineF (EC.curN k h1 h2) (fun ⟨a, b⟩ => hn ⟨congrArg Fin.val a, congrArg Fin.val b⟩) hF)
  rw [Fin.val_mul, Fin.val_mul, ← subM_val, ← subM_val, ← subM_val, ← subM_val] at e
  exact e

end Go.Proofs.YtlbkhhihkomahaaGreat
