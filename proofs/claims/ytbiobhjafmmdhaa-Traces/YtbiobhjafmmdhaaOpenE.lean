/-
  How an argument that is a row of events comes into a call and reads behind it.
-/
import Derived.Test.YtbiobhjafmmdhaaEv
import Derived.ProofKit
import Derived.OpenShut
import Derived.ChangeOld
import Derived.Carry
import Derived.Deep.SlicePairs
import Derived.SizedLaws
namespace Go.Proofs.Ytbiobhjafmmdhaa
open Go.ChangeShapes Go.WideShapes Go.ChangeAt Go.RowKit Go.Deep

theorem Trod.lt {H : Type} {enc : TypeId × Value → H} {W : World} {t : TypeId} {v : Value} {d : DataW H} {p : List MemPlace}
    (h : DataW.Trod enc Try.prog W 0 (fun _ => true) true t v d p) : ∀ x ∈ p, x.block < W.heap.size := by
  obtain ⟨n, hf⟩ := h
  exact DataW.trod_lt n _ _ _ hf
theorem open_evs {H : Type} {enc : TypeId × Value → H} {W : World} {base : Nat} {v : Value} {d : DataW H} {p : List MemPlace}
    (hv : Value.okWide Try.prog W .any base 22 v) (h : DataW.Trod enc Try.prog W 0 (fun _ => true) true 22 v d p) :
    ∃ q xs c, v = .slice q (xs : List (Int × Int)).length c ∧ Ev W q xs ∧ (q = none → c = 0) ∧ (∀ x ∈ p, x.block < W.heap.size) ∧ (∀ b, At q b → xs ≠ [] → b < W.heap.size) ∧ (xs = [] ∨ ∃ elems spare, d = .slice elems spare ∧ elems.length = xs.length) := by
  have hlt := Trod.lt h
  obtain ⟨a, len, cap, rfl⟩ := okWide_slice Try.underlying22 hv
  obtain ⟨fuel, hf⟩ := h
  have hf' : DataW.trod enc Try.prog W 0 (fun _ => true) true fuel 22 [.slice a len cap] = some (d, p) := hf
  rcases open_slice_pairs (f0 := _) (f1 := _) Try.underlying22 Try.underlying26 (by kernel_rfl) rfl rfl (by kernel_rfl) (by kernel_rfl) hf' with ⟨hcs, hx⟩ | ⟨a', len', cap', m, n, V0, V1, D0, D1, P0, P1, hcs, _, hl, hm, hmm, hx, hc⟩
  · simp only [List.cons.injEq, Value.slice.injEq, and_true] at hcs
    obtain ⟨rfl, rfl, rfl⟩ := hcs
    exact ⟨none, [], 0, rfl, Ev.nil _ _, fun _ => rfl, hlt, fun _ _ h => absurd rfl h, Or.inl rfl⟩
  · simp only [List.cons.injEq, Value.slice.injEq, and_true] at hcs
    obtain ⟨rfl, rfl, rfl⟩ := hcs
    simp only [if_true] at hmm
    subst hmm
    have each : ∀ i, i < len → ∃ e : Int × Int, V0 i = .int .i64 e.1 ∧ V1 i = .int .i64 e.2 := fun i hi => by
      obtain ⟨_, _, h0, h1⟩ := hc i (by omega)
      obtain ⟨z0, e0, _, _⟩ := DataW.trod_int Try.underlying3 h0
      obtain ⟨z1, e1, _, _⟩ := DataW.trod_int Try.underlying3 h1
      simp only [List.cons.injEq, and_true] at e0 e1
      exact ⟨(z0, z1), e0, e1⟩
    obtain ⟨F, hF⟩ := choose_lt each
    have hlen : ((List.range len).map F).length = len := by simp
    have hev : len ≠ 0 → ∃ b o, a' = ⟨b, o, none⟩ ∧ b < W.heap.size := fun h0 => by
      obtain ⟨h1, _⟩ := hc 0 (by omega)
      have hs := World.cell?_spot h1
      have hb := World.block_lt_of_cell? W _ h1
      obtain ⟨b, o, s⟩ := a'
      simp [Addr.add] at hs hb
      subst hs
      exact ⟨b, o, rfl, hb⟩
    have hempty : len = 0 → (List.range len).map F = [] := fun h => by rw [h]; rfl
    refine ⟨some a', (List.range len).map F, m, by rw [hlen], ?_, (fun h => by cases h), hlt, ?_, ?_⟩
    · by_cases h0 : len = 0
      · exact Or.inl (hempty h0)
      · obtain ⟨b, o, rfl, hb⟩ := hev h0
        refine Or.inr ⟨b, o, rfl, hb, fun i k x hx => ?_⟩
        have hi : i < len := by have := (List.getElem?_eq_some_iff.1 hx).1; rwa [hlen] at this
        have hfi : F i = (k, x) := by
          have : ((List.range len).map F)[i]? = some (F i) := by simp [hi]
          rw [this] at hx
          exact Option.some.inj hx
        obtain ⟨h1, h2, _, _⟩ := hc i (by omega)
        obtain ⟨e0, e1⟩ := hF i hi
        rw [e0, hfi] at h1
        rw [e1, hfi] at h2
        have ea : ∀ j, (⟨b, o, none⟩ : Addr).add j = ⟨b, o + j, none⟩ := fun j => by unfold Addr.add; split <;> simp_all
        rw [ea] at h1 h2
        exact ⟨h1, by rw [Nat.add_assoc]; exact h2⟩
    · intro b hb hne
      have h0 : len ≠ 0 := fun h => hne (hempty h)
      obtain ⟨b', o', rfl, hb'⟩ := hev h0
      obtain ⟨o, e⟩ := hb
      cases e
      exact hb'
    · simp only [Prod.mk.injEq] at hx
      exact Or.inr ⟨_, _, hx.1, by simp⟩
theorem stay_evs {H : Type} {enc : TypeId × Value → H} {W W' : World} {v : Value} {d : DataW H} {p : List MemPlace} (h : DataW.Trod enc Try.prog W 0 (fun _ => true) true 22 v d p) (hb : Below W.heap.size W W') :
    DataW.Trod enc Try.prog W' 0 (fun b => decide (b < W.heap.size)) true 22 v d p :=
  Below.trod (by kernel_rfl) (by kernel_rfl) (of_decide_eq_true (by kernel_rfl)) h hb (Trod.lt h)
theorem evs_sized {H : Type} {ts : List TypeId} {ds : List (DataW H)} (hsz : (DataW.weightsEach Try.prog ts ds).all (· ≤ reachBytes) = true) {j : Nat} {d : DataW H} {xs : List (Int × Int)} (ht : ts[j]? = some 22) (hd : ds[j]? = some d)
    (h : xs = [] ∨ ∃ elems spare, d = .slice elems spare ∧ elems.length = xs.length) : xs.length * 16 ≤ 140737488351232 := by
  rcases h with rfl | ⟨el, sp, rfl, hl⟩
  · simp
  · have := sized_slice hsz ht hd Try.underlying22
    rw [show Try.prog.bytesOf 26 = 16 from by kernel_rfl, hl] at this
    have h2 : (xs.length + sp.length) * 16 ≤ 140737488351232 := this
    omega
end Go.Proofs.Ytbiobhjafmmdhaa
