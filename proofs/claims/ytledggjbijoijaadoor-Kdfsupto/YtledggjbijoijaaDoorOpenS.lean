/-
  How an argument that is a row of texts comes into a call and reads behind it; what the rows' bound says of it.
-/
import Derived.Test.YtledggjbijoijaaDoorOpenG
import Derived.Test.YtledggjbijoijaaDoorLG7
import Derived.SliceStrings
import Derived.ChangeOld
import Derived.SizedLaws
namespace Go.Proofs.YtledggjbijoijaaDoor
open Go.ChangeShapes Go.WideShapes Go.ChangeAt Go.RowKit
/-- The datum d is a row of the n texts of f. -/
def Us {H : Type} (d : DataW H) (n : Nat) (f : Nat → ByteArray) : Prop :=
  (n = 0 ∧ ∀ i, f i = .empty) ∨ ∃ ss : List ByteArray, n ≤ ss.length ∧ d = .slice (strs (ss.take n)) (strs (ss.drop n)) ∧ ∀ i, f i = if i < n then ss.getD i .empty else .empty
theorem Trod.lt {H : Type} {enc : TypeId × Value → H} {W : World} {t : TypeId} {v : Value} {d : DataW H} {p : List MemPlace}
    (h : DataW.Trod enc Tryd.prog W 0 (fun _ => true) true t v d p) : ∀ x ∈ p, x.block < W.heap.size := by
  obtain ⟨n, hf⟩ := h
  exact DataW.trod_lt n _ _ _ hf
theorem mem_weightsAll {H : Type} {P : Program} {e : TypeId} {d : DataW H} {m : Nat} (hm : m ∈ d.weights P e) : ∀ {l : List (DataW H)}, d ∈ l → m ∈ DataW.weightsAll P e l
  | x :: r, h => by
    simp only [DataW.weightsAll, List.mem_append]
    rcases List.mem_cons.1 h with e | e
    · subst e; exact Or.inl hm
    · exact Or.inr (mem_weightsAll hm e)
/-! ### the rows' bound -/
theorem bulk_part {H : Type} {d : DataW H} : ∀ {l : List (DataW H)} {j : Nat}, l[j]? = some d → Rows.uptoBulk d ≤ Rows.uptoBulkAll l
  | x :: r, 0, h => by
    simp only [List.getElem?_cons_zero, Option.some.injEq] at h
    subst h
    simp only [Rows.uptoBulkAll]
    omega
  | x :: r, j + 1, h => by
    have := bulk_part (l := r) (j := j) (by simpa using h)
    simp only [Rows.uptoBulkAll]
    omega
theorem bulk_of {H : Type} {ds : List (DataW H)} {d : DataW H} (hk : Rows.uptoSmall H ds = true) {j : Nat} (hd : ds[j]? = some d) : Rows.uptoBulk d ≤ 1048576 :=
  Nat.le_trans (bulk_part hd) (of_decide_eq_true hk)
theorem bulk_append {H : Type} : ∀ (l r : List (DataW H)), Rows.uptoBulkAll (l ++ r) = Rows.uptoBulkAll l + Rows.uptoBulkAll r
  | [], r => by simp [Rows.uptoBulkAll]
  | x :: l, r => by
    simp only [List.cons_append, Rows.uptoBulkAll, bulk_append l r]
    omega
theorem strs_append {H : Type} (a b : List ByteArray) : (strs (a ++ b) : List (DataW H)) = strs a ++ strs b := by simp [strs]
theorem bulk_strs {H : Type} (f : Nat → ByteArray) (ss : List ByteArray) : ∀ k, k ≤ ss.length → (∀ i, i < k → f i = ss.getD i .empty) → (cat f k).size ≤ Rows.uptoBulkAll (strs (ss.take k) : List (DataW H))
  | 0, _, _ => Nat.zero_le _
  | k + 1, hk, h => by
    have h1 := bulk_strs (H := H) f ss k (by omega) fun i hi => h i (by omega)
    have h2 := h k (by omega)
    have hlt : k < ss.length := by omega
    have e : ss.take (k + 1) = ss.take k ++ [ss[k]] := (List.take_append_getElem hlt).symm
    rw [e, strs_append, bulk_append, cat, ByteArray.size_append, h2]
    have h3 : Rows.uptoBulkAll (strs [ss[k]] : List (DataW H)) = ss[k].data.toList.length + 1 := by simp [strs, Rows.uptoBulkAll, Rows.uptoBulk]
    have h4 : ss.getD k .empty = ss[k] := by rw [List.getD_eq_getElem?_getD, List.getElem?_eq_getElem hlt]; rfl
    have h5 : ss[k].data.toList.length = ss[k].size := Array.length_toList
    rw [h3, h4, h5]
    omega
theorem Us.small {H : Type} {d : DataW H} {n : Nat} {f : Nat → ByteArray} (h : Us d n f) (hb : Rows.uptoBulk d ≤ 1048576) : ∀ k, k ≤ n → k ≤ 12 → (cat f k).size ≤ 140737488351232 := fun k hk _ => by
  rcases h with ⟨rfl, hf⟩ | ⟨ss, hl, rfl, hf⟩
  · obtain rfl : k = 0 := by omega
    show 0 ≤ _
    omega
  · have h1 := bulk_strs (H := H) f ss k (by omega) fun i hi => by rw [hf i, if_pos (by omega)]
    have e : ss.take n = ss.take k ++ (ss.drop k).take (n - k) := by
      rw [show n = k + (n - k) by omega, List.take_add]
      simp
    have h2 : Rows.uptoBulkAll (strs (ss.take k) : List (DataW H)) ≤ Rows.uptoBulkAll (strs (ss.take n) : List (DataW H)) := by
      rw [e, strs_append, bulk_append]
      omega
    simp only [Rows.uptoBulk] at hb
    omega
end Go.Proofs.YtledggjbijoijaaDoor
