/-
  How an argument that is a row of acts comes into a call and reads behind it; what the reach says of it.
-/
import Derived.Test.YtconibmdlfkopaaGreatDoorWK
import Derived.Test.YtconibmdlfkopaaGreatDoorOpenS
import Derived.Deep.Slices
namespace Go.Proofs.YtconibmdlfkopaaGreatDoor
open Go.ChangeShapes Go.WideShapes Go.ChangeAt Go.RowKit Go.Deep
/-- The datum d is a row of n acts with the texts of a and b. -/
def Ua {H : Type} (d : DataW H) (n : Nat) (a b : Nat → ByteArray) : Prop :=
  n = 0 ∨ ∃ (D : Nat → DataW H) (sp : List (DataW H)), d = .slice ((List.range n).map D) sp ∧ ∀ i, i < n → ∃ x y, D i = .agg [x, y, .lit (.string (a i).data.toList), .lit (.string (b i).data.toList)]
set_option maxRecDepth 100000 in
theorem open_acts {H : Type} {enc : TypeId × Value → H} {W : World} {base : Nat} {v : Value} {d : DataW H} {p : List MemPlace}
    (hv : Value.okWide Tryz.prog W .any base 22 v) (h : DataW.Trod enc Tryz.prog W 0 (fun _ => true) true 22 v d p) :
    ∃ q n c k s a b, v = .slice q n c ∧ Ac W q n k s a b ∧ Ua d n a b ∧ ∀ i, n ≤ i → a i = .empty ∧ b i = .empty := by
  obtain ⟨a', len, cap, rfl⟩ := okWide_slice Tryz.underlying22 hv
  obtain ⟨fuel, hf⟩ := h
  have hf' : DataW.trod enc Tryz.prog W 0 (fun _ => true) true fuel 22 [.slice a' len cap] = some (d, p) := hf
  have ce : Tryz.prog.cellsOf 33 = 4 := by kernel_rfl
  rcases open_slice Tryz.underlying22 hf' with ⟨hcs, hx⟩ | ⟨g, len', cap', m, n, D, Pl, hcs, _, hl, hm, hmm, hx, hc⟩
  · simp only [List.cons.injEq, Value.slice.injEq, and_true] at hcs
    obtain ⟨rfl, rfl, rfl⟩ := hcs
    exact ⟨none, 0, 0, fun _ => 0, fun _ => 0, fun _ => .empty, fun _ => .empty, rfl, Or.inl rfl, Or.inl rfl, fun _ _ => ⟨rfl, rfl⟩⟩
  · simp only [List.cons.injEq, Value.slice.injEq, and_true] at hcs
    obtain ⟨rfl, rfl, rfl⟩ := hcs
    simp only [if_true] at hmm
    subst hmm
    have each : ∀ i, i < len → ∃ e : (Int × Int) × (ByteArray × ByteArray), W.cell? (g.add (i * 4)) = some (.int .i64 e.1.1) ∧ W.cell? (g.add (i * 4 + 1)) = some (.int .i64 e.1.2) ∧ W.cell? (g.add (i * 4 + 2)) = some (.string e.2.1) ∧ W.cell? (g.add (i * 4 + 3)) = some (.string e.2.2) ∧ ∃ x y, D i = .agg [x, y, .lit (.string e.2.1.data.toList), .lit (.string e.2.2.data.toList)] := fun i hi => by
      obtain ⟨cs', h1, h2⟩ := hc i (by omega)
      rw [ce] at h1
      obtain ⟨_, hlen, hcell⟩ := World.cells?_some h1
      obtain ⟨xs, k, hk, hxy, _, hxl, hfs⟩ := DataW.trod_struct Tryz.underlying33 h2
      match xs, hxl, cs', hlen with
      | [y0, y1, y2, y3], _, [v0, v1, v2, v3], _ =>
        have g0 := hfs 0 _ rfl
        have g1 := hfs 1 _ rfl
        have g2 := hfs 2 _ rfl
        have g3 := hfs 3 _ rfl
        have c1 : Tryz.prog.cellsOf 3 = 1 := by kernel_rfl
        have c2 : Tryz.prog.cellsOf 9 = 1 := by kernel_rfl
        simp [c1, c2] at g0 g1 g2 g3
        obtain ⟨z0, e0, _, _⟩ := DataW.trod_int Tryz.underlying3 g0
        obtain ⟨z1, e1, _, _⟩ := DataW.trod_int Tryz.underlying3 g1
        obtain ⟨t0, e2, hd2, _⟩ := DataW.trod_string Tryz.underlying9 g2
        obtain ⟨t1, e3, hd3, _⟩ := DataW.trod_string Tryz.underlying9 g3
        simp only [List.cons.injEq, and_true] at e0 e1 e2 e3
        have f0 := hcell 0 (by omega)
        have f1 := hcell 1 (by omega)
        have f2 := hcell 2 (by omega)
        have f3 := hcell 3 (by omega)
        rw [Go.Deep.add_add] at f0 f1 f2 f3
        simp only [Prod.mk.injEq] at hxy
        refine ⟨((z0, z1), (t0, t1)), ?_, ?_, ?_, ?_, ?_⟩
        · simpa [e0] using f0
        · simpa [e1] using f1
        · simpa [e2] using f2
        · simpa [e3] using f3
        · refine ⟨y0.1, y1.1, ?_⟩
          rw [hxy.1]
          simp [hd2, hd3]
    obtain ⟨F, hF⟩ := choose_lt each
    simp only [Prod.mk.injEq] at hx
    refine ⟨some g, len, _, fun i => (F i).1.1, fun i => (F i).1.2, fun i => if i < len then (F i).2.1 else .empty, fun i => if i < len then (F i).2.2 else .empty, rfl, ?_, Or.inr ⟨D, _, hx.1, fun i hi => ?_⟩, fun i hi => ⟨if_neg (by omega), if_neg (by omega)⟩⟩
    · by_cases h0 : len = 0
      · exact Or.inl h0
      · obtain ⟨h1, _⟩ := hF 0 (by omega)
        have hs := World.cell?_spot h1
        have hb := World.block_lt_of_cell? W _ h1
        obtain ⟨b, o, s⟩ := g
        simp [Addr.add] at hs hb
        subst hs
        have ea : ∀ j, (⟨b, o, none⟩ : Addr).add j = ⟨b, o + j, none⟩ := fun j => by unfold Addr.add; split <;> simp_all
        refine Or.inr ⟨b, o, rfl, hb, fun i hi => ?_⟩
        obtain ⟨h1, h2, h3, h4, _⟩ := hF i hi
        rw [ea] at h1 h2 h3 h4
        simp only [hi, if_true]
        exact ⟨h1, by rw [Nat.add_assoc]; exact h2, by rw [Nat.add_assoc]; exact h3, by rw [Nat.add_assoc]; exact h4⟩
    · obtain ⟨_, _, _, _, x, y, h5⟩ := hF i hi
      simp only [hi, if_true]
      exact ⟨x, y, h5⟩
theorem stay_acts {H : Type} {enc : TypeId × Value → H} {W W' : World} {v : Value} {d : DataW H} {p : List MemPlace} (h : DataW.Trod enc Tryz.prog W 0 (fun _ => true) true 22 v d p) (hb : Below W.heap.size W W') :
    DataW.Trod enc Tryz.prog W' 0 (fun b => decide (b < W.heap.size)) true 22 v d p :=
  Below.trod (by kernel_rfl) (by kernel_rfl) (of_decide_eq_true (by kernel_rfl)) h hb (Trod.lt h)
theorem Ua.sized {H : Type} {ts : List TypeId} {ds : List (DataW H)} {d : DataW H} {n : Nat} {a b : Nat → ByteArray} (h : Ua d n a b) (he : ∀ i, n ≤ i → a i = .empty ∧ b i = .empty) (hsz : (DataW.weightsEach Tryz.prog ts ds).all (· ≤ reachBytes) = true) {j : Nat} (ht : ts[j]? = some 22) (hd : ds[j]? = some d) :
    (∀ i, (a i).size ≤ 140737488351232 ∧ (b i).size ≤ 140737488351232) ∧ n ≤ 4611686018427387904 := by
  rcases h with rfl | ⟨D, sp, rfl, hD⟩
  · refine ⟨fun i => ?_, by omega⟩
    rw [(he i (by omega)).1, (he i (by omega)).2]
    exact ⟨Nat.zero_le _, Nat.zero_le _⟩
  · have hw : ∀ i, i < n → ∀ m ∈ DataW.weights Tryz.prog 33 (D i), m ≤ 140737488351232 := fun i hi m hm => by
      have hmem : D i ∈ (List.range n).map D := List.mem_map.2 ⟨i, List.mem_range.2 hi, rfl⟩
      have hw : m ∈ DataW.weights Tryz.prog 22 (.slice ((List.range n).map D) sp : DataW H) := by
        simp only [DataW.weights, Tryz.underlying22, List.mem_cons, List.mem_append]
        exact Or.inr (Or.inl (mem_weightsAll hm hmem))
      exact of_decide_eq_true (List.all_eq_true.1 hsz _ (DataW.weights_mem_each ht hd _ hw))
    refine ⟨fun i => ?_, ?_⟩
    · by_cases hi : i < n
      · obtain ⟨x, y, e⟩ := hD i hi
        have hm := hw i hi
        rw [e] at hm
        have w1 : (a i).data.toList.length ∈ DataW.weights Tryz.prog 33 (.agg [x, y, .lit (.string (a i).data.toList), .lit (.string (b i).data.toList)] : DataW H) := by
          simp [DataW.weights, Tryz.underlying33, DataW.weightsEach]
        have w2 : (b i).data.toList.length ∈ DataW.weights Tryz.prog 33 (.agg [x, y, .lit (.string (a i).data.toList), .lit (.string (b i).data.toList)] : DataW H) := by
          simp [DataW.weights, Tryz.underlying33, DataW.weightsEach]
        have l1 : (a i).data.toList.length = (a i).size := Array.length_toList
        have l2 : (b i).data.toList.length = (b i).size := Array.length_toList
        have m1 := hm _ w1
        have m2 := hm _ w2
        omega
      · rw [(he i (by omega)).1, (he i (by omega)).2]
        exact ⟨Nat.zero_le _, Nat.zero_le _⟩
    · have := sized_slice hsz ht hd Tryz.underlying22
      have hbz : 1 ≤ Tryz.prog.bytesOf 33 := by
        rw [show Tryz.prog.bytesOf 33 = 48 from by kernel_rfl]
        omega
      have h3 : ((List.range n).map D).length = n := by simp
      have h4 : (((List.range n).map D).length + sp.length) * 1 ≤ (((List.range n).map D).length + sp.length) * Tryz.prog.bytesOf 33 := Nat.mul_le_mul_left _ hbz
      have h5 : (((List.range n).map D).length + sp.length) * Tryz.prog.bytesOf 33 ≤ 140737488351232 := this
      omega
section
variable {H : Type} {enc : TypeId × Value → H} {P : Program} {w : World} {base : Nat} {spare : Nat → Bool} {held : Bool}
theorem trodAll_five {t t' t'' t3 t4 : TypeId} {args : Array Value} {ds : List (DataW H)} {ps : List MemPlace} (h : DataW.TrodAll enc P w base spare held [t, t', t'', t3, t4] args.toList ds ps) :
    ∃ v v' v'' v3 v4 d d' d'' d3 d4 p p' p'' p3 p4, args = #[v, v', v'', v3, v4] ∧ ds = [d, d', d'', d3, d4] ∧ ps = p ++ p' ++ p'' ++ p3 ++ p4 ∧ DataW.Trod enc P w base spare held t v d p ∧ DataW.Trod enc P w base spare held t' v' d' p' ∧ DataW.Trod enc P w base spare held t'' v'' d'' p'' ∧ DataW.Trod enc P w base spare held t3 v3 d3 p3 ∧ DataW.Trod enc P w base spare held t4 v4 d4 p4 := by
  obtain ⟨v, vs, d, ds1, p, q, hargs, rfl, rfl, hd, hrest⟩ := trodAll_cons h
  obtain ⟨v', vs1, d', ds2, p', q1, rfl, rfl, rfl, hd1, hrest1⟩ := trodAll_cons hrest
  obtain ⟨v'', vs2, d'', ds3, p'', q2, rfl, rfl, rfl, hd2, hrest2⟩ := trodAll_cons hrest1
  obtain ⟨v3, vs3, d3, ds4, p3, q3, rfl, rfl, rfl, hd3, hrest3⟩ := trodAll_cons hrest2
  obtain ⟨v4, vs4, d4, ds5, p4, q4, rfl, rfl, rfl, hd4, hrest4⟩ := trodAll_cons hrest3
  obtain ⟨rfl, rfl, rfl⟩ := trodAll_nil hrest4
  exact ⟨v, v', v'', v3, v4, d, d', d'', d3, d4, p, p', p'', p3, p4, by cases args; simp_all, rfl, by simp, hd, hd1, hd2, hd3, hd4⟩
theorem trodAll_mk5 {t t' t'' t3 t4 : TypeId} {v v' v'' v3 v4 : Value} {d d' d'' d3 d4 : DataW H} {p p' p'' p3 p4 : List MemPlace} (h : DataW.Trod enc P w base spare held t v d p) (h' : DataW.Trod enc P w base spare held t' v' d' p')
    (h'' : DataW.Trod enc P w base spare held t'' v'' d'' p'') (h3 : DataW.Trod enc P w base spare held t3 v3 d3 p3) (h4 : DataW.Trod enc P w base spare held t4 v4 d4 p4) : DataW.TrodAll enc P w base spare held [t, t', t'', t3, t4] [v, v', v'', v3, v4] [d, d', d'', d3, d4] (p ++ (p' ++ (p'' ++ (p3 ++ p4)))) := ⟨p, p' ++ (p'' ++ (p3 ++ p4)), h, trodAll_mk4 h' h'' h3 h4, rfl⟩
end
end Go.Proofs.YtconibmdlfkopaaGreatDoor
