/-
  A region that leaves its order open, whose operations only read but for one store that waits for all of them: one walk in the text's order serves every order. Plain laws of the model's regions: no Go text is walked here.
-/
import Derived.Test.YtledggjbijoijaaDoorRows
import Derived.StillTail
import Derived.BigQuiet
import Derived.WalkKit
namespace Go.Proofs.YtledggjbijoijaaDoor
open Go.RowKit

/-- Nothing, in the place of an operation. -/
def nop (o : Oper) : Oper := ⟨none, .move (.const (.bool true)), o.type, o.pos, o.after, none⟩
/-- The last operation put out. -/
def swp : List Oper → List Oper
  | [] => []
  | [o] => [nop o]
  | o :: p :: r => o :: swp (p :: r)
theorem swp_len : ∀ L : List Oper, (swp L).length = L.length
  | [] => rfl
  | [_] => rfl
  | _ :: p :: r => by simp [swp, swp_len (p :: r)]
/-- The same operations but for the last; there nothing. -/
theorem swp_get : ∀ (L : List Oper) (i : Nat) (o : Oper), L[i]? = some o → (swp L)[i]? = if i + 1 = L.length then some (nop o) else some o
  | [], i, o, h => by simp at h
  | [x], 0, o, h => by simp at h; simp [swp, h]
  | [x], i + 1, o, h => by simp at h
  | x :: p :: r, 0, o, h => by simp at h; simp [swp, h]
  | x :: p :: r, i + 1, o, h => by
    have := swp_get (p :: r) i o (by simpa using h)
    simpa [swp] using this
theorem swp_none (L : List Oper) (i : Nat) (h : L[i]? = none) : (swp L)[i]? = none := by
  rw [List.getElem?_eq_none_iff] at *
  rw [swp_len]
  exact h
/-- The last alone. -/
def lastL : List Oper → List Oper
  | [] => []
  | [o] => [o]
  | _ :: p :: r => lastL (p :: r)
theorem lastL_is : ∀ L : List Oper, lastL L = L.drop (L.length - 1)
  | [] => rfl
  | [_] => rfl
  | x :: p :: r => by rw [lastL, lastL_is (p :: r)]; simp
/-- The last one hands nothing on and is not guarded; all edges go back. -/
def lastB (L : List Oper) : Bool := ((L.getLast?).map fun o => o.dst.isNone && o.guard.isNone).getD false
def backB (L : List Oper) : Bool := (List.range L.length).all fun j => ((L[j]?).map fun o => o.after.all fun e => decide (e.on < j)).getD true
def tailB (L : List Oper) : Bool := lastB L && backB L && Region.sinkB .any L.toArray (L.length - 1) && Region.chainB .any L.toArray (L.length - 1)

section
variable {P : Program} {C : World → Prop} {L : List Oper}
theorem last_some (h : lastB L = true) : ∃ o, L[L.length - 1]? = some o ∧ o.dst = none ∧ o.guard = none ∧ 0 < L.length := by
  unfold lastB at h
  rw [List.getLast?_eq_getElem?] at h
  cases e : L[L.length - 1]? with
  | none => rw [e] at h; simp at h
  | some o =>
    rw [e] at h
    simp only [Option.map_some, Option.getD_some, Bool.and_eq_true, Option.isNone_iff_eq_none] at h
    have := (List.getElem?_eq_some_iff.1 e).1
    exact ⟨o, rfl, h.1, h.2, by omega⟩
theorem ready_swp (md : Region.Mode) (listed : Array Bool) : Region.ready md (swp L).toArray listed = Region.ready md L.toArray listed := by
  unfold Region.ready
  rw [show (swp L).toArray.size = L.toArray.size by simp [swp_len]]
  refine List.filter_congr fun i _ => ?_
  congr 2
  rw [List.getElem?_toArray, List.getElem?_toArray]
  cases h : L[i]? with
  | none => rw [swp_none L i h]
  | some o =>
    rw [swp_get L i o h]
    split <;> rfl
theorem yield_swp (hl : lastB L = true) (tmps : Array Value) : yielded (swp L).toArray tmps = yielded L.toArray tmps := by
  obtain ⟨o, ho, hd, _, h0⟩ := last_some hl
  funext j
  unfold yielded
  rw [List.getElem?_toArray, List.getElem?_toArray]
  cases h : L[j]? with
  | none => rw [swp_none L j h]
  | some x =>
    rw [swp_get L j x h]
    by_cases e : j + 1 = L.length
    · rw [if_pos e]
      have : x = o := Option.some.inj (h.symm.trans ((show j = L.length - 1 by omega) ▸ ho))
      subst this
      simp [nop, hd]
    · rw [if_neg e]
theorem not_stuck (hb : backB L = true) (listed : Array Bool) (hz : listed.size = L.length) (s : Nat) (hs : s < L.length) (hl : listed.getD s true = false) : Region.ready .any L.toArray listed ≠ [] := by
  have key : ∀ n, n ≤ L.length → (∀ j, j < n → listed.getD j true = true) ∨ ∃ i, i < n ∧ listed.getD i true = false ∧ ∀ j, j < i → listed.getD j true = true := by
    intro n
    induction n with
    | zero => intro _; exact Or.inl fun j hj => by omega
    | succ n ih =>
      intro hn
      rcases ih (by omega) with h | ⟨i, hi, h1, h2⟩
      · cases e : listed.getD n true with
        | true => exact Or.inl fun j hj => by rcases Nat.lt_or_ge j n with h' | h'; exact h j h'; rwa [show j = n by omega]
        | false => exact Or.inr ⟨n, by omega, e, h⟩
      · exact Or.inr ⟨i, by omega, h1, h2⟩
  rcases key L.length (Nat.le_refl _) with h | ⟨i, hi, h1, h2⟩
  · rw [h s hs] at hl; cases hl
  · intro h0
    have hm : i ∈ Region.ready .any L.toArray listed := by
      rw [mem_ready]
      refine ⟨h1, L[i], by rw [List.getElem?_toArray]; exact List.getElem?_eq_getElem hi, fun e he _ => ?_⟩
      have hbi := List.all_eq_true.1 hb i (List.mem_range.2 hi)
      rw [List.getElem?_eq_getElem hi, Option.map_some, Option.getD_some, Array.all_eq_true_iff_forall_mem] at hbi
      have hlt : e.on < i := of_decide_eq_true (hbi e he)
      have h3 := h2 e.on hlt
      have hin : e.on < listed.size := by rw [hz]; omega
      simp [hin] at h3 ⊢
      exact h3
    rw [h0] at hm
    cases hm
theorem wpAny_tail {R : Act → Prop} {Q : Exit → Act → World → Prop} (hT : tailB L = true)
    (hR : ∀ a w, C w → R a → wpOp P L.toArray Q (L.length - 1) (fun a' w' => Q .normal a' w') a w) :
    ∀ (fuel : Nat) (listed : Array Bool) (a : Act) (w : World), C w → HeadInv .any L.toArray (L.length - 1) listed → listed.getD (L.length - 1) true = false →
      wpAnyQ P .any (swp L).toArray C R fuel listed a → wpAny P .any L.toArray Q fuel listed a w := by
  simp only [tailB, Bool.and_eq_true] at hT
  obtain ⟨⟨⟨hl, hb⟩, hs⟩, hc⟩ := hT
  obtain ⟨ol, hol, hd, hg, h0⟩ := last_some hl
  intro fuel
  induction fuel with
  | zero =>
    intro listed a w _ inv hn h
    have h1 := h.1
    rw [ready_swp] at h1
    exact absurd h1 (not_stuck hb listed (by simpa using inv.size) _ (by omega) hn)
  | succ fuel ih =>
    intro listed a w hw inv hn h
    refine ⟨fun h1 => absurd h1 (not_stuck hb listed (by simpa using inv.size) _ (by omega) hn), fun i hi => ?_⟩
    have h2 := h.2 i (by rw [ready_swp]; exact hi)
    obtain ⟨hiu, oi, hoi, _⟩ := mem_ready.1 hi
    have hoi' : L[i]? = some oi := by rw [← hoi, List.getElem?_toArray]
    have hil : i < L.length := (List.getElem?_eq_some_iff.1 hoi').1
    by_cases e : i = L.length - 1
    · have e2 : i + 1 = L.length := by omega
      have hall : ∀ j, j < L.length → (listed.setIfInBounds i true).getD j true = true := fun j hj => by
        by_cases ej : j = i
        · subst ej
          have : j < listed.size := by rw [inv.size]; simpa using hj
          simp [this]
        · rw [getD_set_ne true (Ne.symm ej)]
          cases hu : listed.getD j true with
          | true => rfl
          | false => exact absurd (e ▸ hi) (tail_waits hs hc (by simp; omega) inv _ j rfl (by omega) hu _ (Nat.le_refl _))
      have hnone : Region.ready .any L.toArray (listed.setIfInBounds i true) = [] := by
        rw [List.eq_nil_iff_forall_not_mem]
        intro j hj
        obtain ⟨hju, oj, hoj, _⟩ := mem_ready.1 hj
        have hjl : j < L.length := by
          rw [List.getElem?_toArray] at hoj
          exact (List.getElem?_eq_some_iff.1 hoj).1
        rw [hall j hjl] at hju
        cases hju
      have hRa : R a := by
        unfold qOp at h2
        rw [List.getElem?_toArray, swp_get L i oi hoi', if_pos e2] at h2
        simp only at h2
        rw [if_pos (by rfl)] at h2
        obtain ⟨v, _, h3⟩ := h2
        have h4 : wpAnyQ P .any (swp L).toArray C R fuel (listed.setIfInBounds i true) a := h3
        cases fuel with
        | zero => exact h4.2
        | succ f => exact h4.1 (by rw [ready_swp]; exact hnone)
      rw [e]
      refine wpOp_mono (fun a' w' q => ?_) (hR a w hw hRa)
      rw [← e]
      cases fuel with
      | zero => exact ⟨hnone, q⟩
      | succ f => exact ⟨fun _ => q, fun j hj => by rw [hnone] at hj; cases hj⟩
    · have hq : qOp P L.toArray C i (wpAnyQ P .any (swp L).toArray C R fuel (listed.setIfInBounds i true)) a := by
        unfold qOp at h2 ⊢
        rw [List.getElem?_toArray] at h2 ⊢
        rw [swp_get L i oi hoi', if_neg (by omega)] at h2
        rw [hoi']
        rw [yield_swp hl] at h2
        exact h2
      refine wpOp_of_qOp hw (fun a' w' hw' hk => ih _ a' w' hw' (inv.set hi (by omega)) ?_ hk) hq
      rw [getD_set_ne true e]
      exact hn
/-- One walk in the text's order, then the store. -/
theorem wp_region_tail {id : Nat} {Q : Exit → Act → World → Prop} {a : Act} {w : World} (hm : P.follows .mixedOrders = true) (hB : Region.lexB .any (swp L).toArray = true) (hT : tailB L = true)
    (h : wpQuiet P (swp L).toArray (fun w' => ∃ n, w' = w.drewN n) (fun a' => ∀ n, wpList P L.toArray Q (lastL L) a' (w.drewN n)) (swp L) a) : (Code.region id L.toArray true).wp P Q a w := by
  have hT' := hT
  simp only [tailB, Bool.and_eq_true] at hT'
  obtain ⟨⟨⟨hl, hb⟩, hs⟩, hc⟩ := hT'
  obtain ⟨ol, hol, hd, hg, h0⟩ := last_some hl
  simp only [Region.lexB, Bool.and_eq_true] at hB
  have hdrop : L.drop (L.length - 1) = [ol] := by
    have hlt : L.length - 1 < L.length := by omega
    rw [List.drop_eq_getElem_cons hlt, List.drop_eq_nil_of_le (by omega)]
    rw [List.getElem?_eq_getElem hlt] at hol
    rw [Option.some.inj hol]
  rw [lastL_is, hdrop] at h
  refine wp_region_any hm (wpAny_tail (C := fun w' => ∃ n, w' = w.drewN n) (R := fun a' => ∀ n, wpList P L.toArray Q [ol] a' (w.drewN n)) hT ?_ _ _ _ _ ⟨1, rfl⟩ ⟨by simp, fun j oj _ hl => ?_, fun t _ ht => ?_⟩ ?_ ?_)
  · rintro a' w' ⟨n, rfl⟩ hr
    have := hr n
    unfold wpOp
    rw [List.getElem?_toArray, hol]
    exact this
  · rw [getD_replicate_false] at hl; cases hl
  · simp at ht; simp [ht]
  · have : L.length - 1 < L.length := by omega
    simp [this]
  · have := wpAnyQ_lex (P := P) (C := fun w' => ∃ n, w' = w.drewN n) (md := .any) hB.1 (swp L) 0 (Array.replicate (swp L).toArray.size false) a (by simp) (by simpa using hB.2) h
    rw [show (swp L).toArray.size = L.toArray.size by simp [swp_len], swp_len] at this
    simpa using this
/-- A callee that leaves the very world. -/
theorem quiet_eq {f : FuncId} {args : Array Value} {w : World} {n : Nat} {v : Value} (h : Calls P f args (w.drewN n) fun e w' => e = .returned v ∧ w.drewN n = w') :
    Calls P f args (w.drewN n) fun e w'' => e = .returned v ∧ ∃ m, w'' = w.drewN m := h.mono fun _ _ ⟨he, hm⟩ => ⟨he, n, hm.symm⟩
end
end Go.Proofs.YtledggjbijoijaaDoor
