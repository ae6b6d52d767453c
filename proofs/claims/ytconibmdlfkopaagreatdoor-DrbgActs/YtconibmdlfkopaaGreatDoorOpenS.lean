/-
  How an argument that is a row of texts comes into a call and reads behind it; what the rows' bound says of it.
-/
import Derived.Test.YtconibmdlfkopaaGreatDoorOpenG
import Derived.Test.YtconibmdlfkopaaGreatDoorLG7
import Derived.SliceStrings
import Derived.ChangeOld
import Derived.SizedLaws
namespace Go.Proofs.YtconibmdlfkopaaGreatDoor
open Go.ChangeShapes Go.WideShapes Go.ChangeAt Go.RowKit
/-- The datum d is a row of the n texts of f. -/
def Us {H : Type} (d : DataW H) (n : Nat) (f : Nat → ByteArray) : Prop :=
  (n = 0 ∧ ∀ i, f i = .empty) ∨ ∃ ss : List ByteArray, n ≤ ss.length ∧ d = .slice (strs (ss.take n)) (strs (ss.drop n)) ∧ ∀ i, f i = if i < n then ss.getD i .empty else .empty
theorem Trod.lt {H : Type} {enc : TypeId × Value → H} {W : World} {t : TypeId} {v : Value} {d : DataW H} {p : List MemPlace}
    (h : DataW.Trod enc Tryz.prog W 0 (fun _ => true) true t v d p) : ∀ x ∈ p, x.block < W.heap.size := by
  obtain ⟨n, hf⟩ := h
  exact DataW.trod_lt n _ _ _ hf
set_option maxRecDepth 100000 in
theorem open_strs {H : Type} {enc : TypeId × Value → H} {W : World} {base : Nat} {v : Value} {d : DataW H} {p : List MemPlace}
    (hv : Value.okWide Tryz.prog W .any base 55 v) (h : DataW.Trod enc Tryz.prog W 0 (fun _ => true) true 55 v d p) :
    ∃ q n c f, v = .slice q n c ∧ Ps W q n f ∧ Us d n f := by
  obtain ⟨a, len, cap, rfl⟩ := okWide_slice Tryz.underlying55 hv
  obtain ⟨fuel, hf⟩ := h
  have hf' : DataW.trod enc Tryz.prog W 0 (fun _ => true) true fuel 55 [.slice a len cap] = some (d, p) := hf
  rcases open_strings Tryz.underlying55 Tryz.underlying9 (by kernel_rfl) hf' with ⟨hcs, hx⟩ | ⟨a', len', cap', ss, hcs, _, hl, hm, hz, hx, hcell, hws⟩
  · simp only [List.cons.injEq, Value.slice.injEq, and_true] at hcs
    obtain ⟨rfl, rfl, rfl⟩ := hcs
    exact ⟨none, 0, 0, fun _ => .empty, rfl, Or.inl rfl, Or.inl ⟨rfl, fun _ => rfl⟩⟩
  · simp only [List.cons.injEq, Value.slice.injEq, and_true] at hcs
    obtain ⟨rfl, rfl, rfl⟩ := hcs
    simp only [if_true] at hz
    simp only [Prod.mk.injEq] at hx
    refine ⟨some a', len, cap, fun i => if i < len then ss.getD i .empty else .empty, rfl, ?_, Or.inr ⟨ss, by omega, hx.1, fun _ => rfl⟩⟩
    by_cases h0 : len = 0
    · exact Or.inl h0
    · have h1 := hcell 0 (by omega)
      have hs := World.cell?_spot h1
      have hb := World.block_lt_of_cell? W _ h1
      obtain ⟨b, o, s⟩ := a'
      simp [Addr.add] at hs hb
      subst hs
      refine Or.inr ⟨b, o, rfl, hb, fun i hi => ?_⟩
      have h2 := hcell i (by omega)
      have ea : (⟨b, o, none⟩ : Addr).add i = ⟨b, o + i, none⟩ := by unfold Addr.add; split <;> simp_all
      rw [ea] at h2
      simp only [hi, if_true]
      exact h2
theorem stay_strs {H : Type} {enc : TypeId × Value → H} {W W' : World} {v : Value} {d : DataW H} {p : List MemPlace} (h : DataW.Trod enc Tryz.prog W 0 (fun _ => true) true 55 v d p) (hb : Below W.heap.size W W') :
    DataW.Trod enc Tryz.prog W' 0 (fun b => decide (b < W.heap.size)) true 55 v d p :=
  Below.trod (by kernel_rfl) (by kernel_rfl) (of_decide_eq_true (by kernel_rfl)) h hb (Trod.lt h)
theorem mem_weightsAll {H : Type} {P : Program} {e : TypeId} {d : DataW H} {m : Nat} (hm : m ∈ d.weights P e) : ∀ {l : List (DataW H)}, d ∈ l → m ∈ DataW.weightsAll P e l
  | x :: r, h => by
    simp only [DataW.weightsAll, List.mem_append]
    rcases List.mem_cons.1 h with e | e
    · subst e; exact Or.inl hm
    · exact Or.inr (mem_weightsAll hm e)
theorem Us.sized {H : Type} {ts : List TypeId} {ds : List (DataW H)} {d : DataW H} {n : Nat} {f : Nat → ByteArray} (h : Us d n f) (hsz : (DataW.weightsEach Tryz.prog ts ds).all (· ≤ reachBytes) = true) {j : Nat} (ht : ts[j]? = some 55) (hd : ds[j]? = some d) :
    (∀ i, (f i).size ≤ 140737488351232) ∧ n ≤ 4611686018427387904 := by
  rcases h with ⟨rfl, hf⟩ | ⟨ss, hl, rfl, hf⟩
  · exact ⟨fun i => by rw [hf i]; show 0 ≤ _; omega, by omega⟩
  · refine ⟨fun i => ?_, ?_⟩
    · rw [hf i]
      split
      · rename_i hi
        have hi' : i < ss.length := by omega
        have hmem : (DataW.lit (.string (ss.getD i .empty).data.toList) : DataW H) ∈ strs (ss.take n) := by
          unfold strs
          refine List.mem_map.2 ⟨ss.getD i .empty, ?_, rfl⟩
          have : (ss.take n)[i]? = some (ss.getD i .empty) := by
            rw [List.getElem?_take_of_lt hi, List.getElem?_eq_getElem hi', List.getD_eq_getElem?_getD, List.getElem?_eq_getElem hi']
            rfl
          exact List.mem_of_getElem? this
        have hw : (ss.getD i .empty).data.toList.length ∈ DataW.weights Tryz.prog 55 (.slice (strs (ss.take n)) (strs (ss.drop n)) : DataW H) := by
          simp only [DataW.weights, Tryz.underlying55, List.mem_cons, List.mem_append]
          exact Or.inr (Or.inl (mem_weightsAll (by simp [DataW.weights]) hmem))
        have hm := List.all_eq_true.1 hsz _ (DataW.weights_mem_each ht hd _ hw)
        have he : (ss.getD i .empty).data.toList.length = (ss.getD i .empty).size := Array.length_toList
        rw [he] at hm
        exact of_decide_eq_true hm
      · show 0 ≤ _; omega
    · have := sized_slice hsz ht hd Tryz.underlying55
      rw [show Tryz.prog.bytesOf 9 = 16 from by kernel_rfl] at this
      have h2 : ((strs (ss.take n) : List (DataW H)).length + (strs (ss.drop n) : List (DataW H)).length) * 16 ≤ 140737488351232 := this
      have h3 : (strs (ss.take n) : List (DataW H)).length = n := by unfold strs; rw [List.length_map, List.length_take]; omega
      omega
/-! ### the rows' bound -/
theorem bulk_part {H : Type} {d : DataW H} : ∀ {l : List (DataW H)} {j : Nat}, l[j]? = some d → Rows.uptoBulk d ≤ Rows.uptoBulkAll l
  | x :: r, 0, h => by
    simp only [List.getElem?_cons_zero, Option.some.injEq] at h
    subst h
    simp only [Rows.uptoBulkAll]
    omega
  | x :: r, j + 1, h => by
    have := bulk_part (l := r) (j := j) (by simpa using h)
    simp only [Rows.uptoBulkAll]
    omega
theorem bulk_of {H : Type} {ds : List (DataW H)} {d : DataW H} (hk : Rows.uptoSmall H ds = true) {j : Nat} (hd : ds[j]? = some d) : Rows.uptoBulk d ≤ 1048576 :=
  Nat.le_trans (bulk_part hd) (of_decide_eq_true hk)
theorem bulk_append {H : Type} : ∀ (l r : List (DataW H)), Rows.uptoBulkAll (l ++ r) = Rows.uptoBulkAll l + Rows.uptoBulkAll r
  | [], r => by simp [Rows.uptoBulkAll]
  | x :: l, r => by
    simp only [List.cons_append, Rows.uptoBulkAll, bulk_append l r]
    omega
theorem strs_append {H : Type} (a b : List ByteArray) : (strs (a ++ b) : List (DataW H)) = strs a ++ strs b := by simp [strs]
theorem bulk_strs {H : Type} (f : Nat → ByteArray) (ss : List ByteArray) : ∀ k, k ≤ ss.length → (∀ i, i < k → f i = ss.getD i .empty) → (cat f k).size ≤ Rows.uptoBulkAll (strs (ss.take k) : List (DataW H))
  | 0, _, _ => Nat.zero_le _
  | k + 1, hk, h => by
    have h1 := bulk_strs (H := H) f ss k (by omega) fun i hi => h i (by omega)
    have h2 := h k (by omega)
    have hlt : k < ss.length := by omega
    have e : ss.take (k + 1) = ss.take k ++ [ss[k]] := (List.take_append_getElem hlt).symm
    rw [e, strs_append, bulk_append, cat, ByteArray.size_append, h2]
    have h3 : Rows.uptoBulkAll (strs [ss[k]] : List (DataW H)) = ss[k].data.toList.length + 1 := by simp [strs, Rows.uptoBulkAll, Rows.uptoBulk]
    have h4 : ss.getD k .empty = ss[k] := by rw [List.getD_eq_getElem?_getD, List.getElem?_eq_getElem hlt]; rfl
    have h5 : ss[k].data.toList.length = ss[k].size := Array.length_toList
    rw [h3, h4, h5]
    omega
theorem Us.small {H : Type} {d : DataW H} {n : Nat} {f : Nat → ByteArray} (h : Us d n f) (hb : Rows.uptoBulk d ≤ 1048576) : ∀ k, k ≤ n → k ≤ 12 → (cat f k).size ≤ 140737488351232 := fun k hk _ => by
  rcases h with ⟨rfl, hf⟩ | ⟨ss, hl, rfl, hf⟩
  · obtain rfl : k = 0 := by omega
    show 0 ≤ _
    omega
  · have h1 := bulk_strs (H := H) f ss k (by omega) fun i hi => by rw [hf i, if_pos (by omega)]
    have e : ss.take n = ss.take k ++ (ss.drop k).take (n - k) := by
      rw [show n = k + (n - k) by omega, List.take_add]
      simp
    have h2 : Rows.uptoBulkAll (strs (ss.take k) : List (DataW H)) ≤ Rows.uptoBulkAll (strs (ss.take n) : List (DataW H)) := by
      rw [e, strs_append, bulk_append]
      omega
    simp only [Rows.uptoBulk] at hb
    omega
end Go.Proofs.YtconibmdlfkopaaGreatDoor
