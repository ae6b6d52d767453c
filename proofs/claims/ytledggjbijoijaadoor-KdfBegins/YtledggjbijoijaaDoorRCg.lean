/-
  Rows of bytes that grow; a text's bytes as a new row.
-/
import Derived.Test.YtledggjbijoijaaDoorHI
import Derived.Laws.MakeOwn
import Derived.Deep.AppendSrc
import Derived.Laws.IdiomStrings
import Derived.Laws.IdiomCopy
namespace Go.Proofs.YtledggjbijoijaaDoor
open Go.RowKit
/-- Block g holds the first n bytes of P and has room for cap. -/
structure Rb (w : World) (g n cap : Nat) (P : Nat → Nat) : Prop where
  lt : g < w.heap.size
  le : n ≤ cap
  cell : ∀ i, i < n → w.cell? ⟨g, i, none⟩ = some (.int .u8 ((P i : Nat) : Int))
  room : ∀ i, i < cap → (w.cell? ⟨g, i, none⟩).isSome = true ∧ w.frozen? ⟨g, i, none⟩ = false
theorem Rb.kp {S : Nat → Prop} {w w' : World} {g n cap : Nat} {P : Nat → Nat} (h : Rb w g n cap P) (k : Kp S w w') (hn : ¬ S g) : Rb w' g n cap P :=
  ⟨Nat.lt_of_lt_of_le h.lt k.size, h.le, fun i hi => (k.cell g i h.lt hn).trans (h.cell i hi), fun i hi => by rw [k.cell g i h.lt hn, k.frozen g i h.lt hn]; exact h.room i hi⟩
theorem Rb.sm {w w' : World} {g n cap : Nat} {P : Nat → Nat} (h : Rb w g n cap P) (k : Sm w w') : Rb w' g n cap P := h.kp k fun h => h
/-- The slice v holds the first n bytes of P, in a block from lo on (or n is 0 and v nil). -/
def Rv (w : World) (lo : Nat) (v : Value) (n : Nat) (P : Nat → Nat) : Prop :=
  (v = .slice none 0 0 ∧ n = 0) ∨ ∃ g cap, v = .slice (some ⟨g, 0, none⟩) n cap ∧ lo ≤ g ∧ Rb w g n cap P
theorem Rv.sm {w w' : World} {lo n : Nat} {v : Value} {P : Nat → Nat} (h : Rv w lo v n P) (k : Sm w w') : Rv w' lo v n P := by
  rcases h with h | ⟨g, cap, h1, h2, h3⟩
  · exact Or.inl h
  · exact Or.inr ⟨g, cap, h1, h2, h3.sm k⟩
def ap1 (ty : TypeId) (xs : Array Value) : Sem Value := Builtin.append_ #[33, 33] ty xs
theorem ap1_is (ty : TypeId) (xs : Array Value) : Builtin.append_ #[33, 33] ty xs = ap1 ty xs := rfl
theorem Tryd.infoB : (Tryd.prog.info? 5).map (fun i => (i.zero, i.size, i.bytes)) = some (some (.int .u8 0), 1, 1) := by kernel_rfl
theorem ap1_run (w : World) (lo b n m c : Nat) (v : Value) (P : Nat → Nat) (h : Rv w lo v n P) (hb : ∀ j, j < m → w.cell? ⟨b, j, none⟩ = some (.int .u8 ((P (n + j) : Nat) : Int))) (hm : 0 < m) (hbd : n + m ≤ 140737488355328) (hlo : lo ≤ w.heap.size) :
    ∃ g cap w', (∀ ty, (ap1 ty #[v, .slice (some ⟨b, 0, none⟩) m c]).run Tryd.prog w = .ok (.slice (some ⟨g, 0, none⟩) (n + m) cap) w') ∧ lo ≤ g ∧ Rb w' g (n + m) cap P ∧ Kp (Fr lo) w w' := by
  obtain ⟨i, hi, hz, hs, hby⟩ := info_parts Tryd.infoB
  have hlen : (br m fun j => P (n + j)).toList.length = m * i.size := by rw [hs, Array.length_toList, br_size, Nat.mul_one]
  have hsrc : Src Tryd.prog i.size 33 (.slice (some ⟨b, 0, none⟩) m c) m (br m fun j => P (n + j)).toList w := by
    refine Src.ofSlice w Tryd.underlying33 ⟨b, 0, none⟩ m c _ hlen (fun j u hj => ?_) (fun u hu => ?_)
    · have e : (⟨b, 0, none⟩ : Addr).add j = ⟨b, j, none⟩ := by rw [Addr.add_lit, Nat.zero_add]
      rw [Array.getElem?_toList] at hj
      have hjm : j < m := by
        have := (Array.getElem?_eq_some_iff.1 hj).1
        rwa [br_size] at this
      rw [e, hb j hjm, ← hj, br_get m _ j hjm]
    · exact Array.all_eq_true_iff_forall_mem.1 (br_one m _) u (by simpa using hu)
  -- the arm that makes a new row
  have grow : ∀ (base : Option Addr) (cap : Nat) (olds : List Value), olds = (br n P).toList → (Builtin.firstCells i.size n (.slice base n cap)).run Tryd.prog w.drew = .ok olds.toArray w.drew → cap < n + m →
      ∃ g cap' w', (∀ ty, (ap1 ty #[.slice base n cap, .slice (some ⟨b, 0, none⟩) m c]).run Tryd.prog w = .ok (.slice (some ⟨g, 0, none⟩) (n + m) cap') w') ∧ lo ≤ g ∧ Rb w' g (n + m) cap' P ∧ Kp (Fr lo) w w' := by
    intro base cap olds ho hold hg
    have hr := fun ty => run_append_grow_src (P := Tryd.prog) w 33 33 ty 5 i _ Tryd.underlying33 hi hz base n cap olds hold (.slice (some ⟨b, 0, none⟩) m c) m _ hsrc hg (by omega) (growslice_fits hg (by rw [hby]; omega))
    have hN := Bk.new w.drew ((olds ++ (br m fun j => P (n + j)).toList).toArray ++ Builtin.zeroCells (Value.int .u8 0).cells (grownCap w (n + m) cap 5 - (n + m))) 5
    have hcap := grownCap_ge w (n + m) cap 5
    refine ⟨w.heap.size, _, _, hr, hlo, ⟨by simp, hcap, fun k hk => ?_, fun k hk => ⟨?_, hN.fz k⟩⟩, ((Kp.refl _ _).drew).alloc _⟩
    · refine (hN.cell k).trans ?_
      rw [Array.getElem?_append_left (by rw [ho]; simp [br_size]; omega), List.getElem?_toArray, ho]
      by_cases c1 : k < n
      · rw [List.getElem?_append_left (by simp [br_size]; exact c1), Array.getElem?_toList, br_get n P k c1]
      · rw [List.getElem?_append_right (by simp [br_size]; omega), Array.getElem?_toList, Array.length_toList, br_size, br_get m _ _ (by omega), show n + (k - n) = k by omega]
    · have e := hN.cell k
      rw [show (⟨w.heap.size, k, none⟩ : Addr) = ⟨w.drew.heap.size, k, none⟩ from rfl, e, Array.getElem?_eq_getElem (by
        rw [ho]
        simp only [Array.size_append, List.size_toArray, List.length_append, Array.length_toList, br_size, size_zeroCells]
        have : (Value.int .u8 0).cells.size = 1 := rfl
        rw [this]
        omega)]
      rfl
  rcases h with ⟨rfl, rfl⟩ | ⟨g, cap, rfl, hg, hR⟩
  · exact grow none 0 [] (by unfold br; rfl) (by kernel_rfl) (by omega)
  · by_cases hroom : n + m ≤ cap
    · have hr := fun ty => run_append_room_src (P := Tryd.prog) w 33 33 ty 5 i Tryd.underlying33 hi g 0 n cap (.slice (some ⟨b, 0, none⟩) m c) m _ hsrc hroom
        (fun j hj => by rw [hs, Nat.zero_add, Nat.mul_one]; rw [hlen, hs] at hj; exact (hR.room _ (by omega)).1) (fun j hj => by rw [hs, Nat.zero_add, Nat.mul_one]; rw [hlen, hs] at hj; exact (hR.room _ (by omega)).2)
      rw [hs, Nat.zero_add, Nat.mul_one] at hr
      rw [hs] at hlen
      have hl : (br m fun j => P (n + j)).toList.length = m := by rw [Array.length_toList, br_size]
      have hsome : ∀ j, j < (br m fun j => P (n + j)).toList.length → (w.cell? ⟨g, n + j, none⟩).isSome = true := fun j hj => (hR.room _ (by omega)).1
      have hpos : 0 < (blk w g).size := by
        have h0 := (hR.room 0 (by omega)).1
        rw [cell_blk] at h0
        cases hz : (blk w g)[0]? with
        | none => rw [hz] at h0; cases h0
        | some x => exact (Array.getElem?_eq_some_iff.1 hz).1
      have hin : ∀ k, n ≤ k → k < n + m → (w.setCells g n (br m fun j => P (n + j)).toList).cell? ⟨g, k, none⟩ = some (.int .u8 ((P k : Nat) : Int)) := fun k h1 h2 => by
        have := World.cell?_setCells_in g _ n w hsome (k - n) (by omega)
        rw [show n + (k - n) = k by omega] at this
        rw [this, Array.getElem_toList]
        have h3 := br_get m (fun j => P (n + j)) (k - n) (by omega)
        rw [Array.getElem?_eq_getElem (by rw [br_size]; omega)] at h3
        rw [h3, show n + (k - n) = k by omega]
      have hout : ∀ k, k < n ∨ n + m ≤ k → (w.setCells g n (br m fun j => P (n + j)).toList).cell? ⟨g, k, none⟩ = w.cell? ⟨g, k, none⟩ := fun k hk => World.cell?_setCells_out g _ n w ⟨g, k, none⟩ fun _ _ => by rw [hl]; exact hk
      have hsz : (w.setCells g n (br m fun j => P (n + j)).toList).heap.size = w.heap.size := by rw [setCells_setBlk _ _ _ _ hpos, size_setBlk]
      refine ⟨g, cap, _, hr, hg, ⟨by rw [hsz]; exact hR.lt, hroom, fun k hk => ?_, fun k hk => ⟨?_, ?_⟩⟩, ?_⟩
      · by_cases c1 : k < n
        · rw [hout k (Or.inl c1)]; exact hR.cell k c1
        · exact hin k (by omega) hk
      · by_cases c1 : k < n ∨ n + m ≤ k
        · rw [hout k c1]; exact (hR.room k hk).1
        · rw [hin k (by omega) (by omega)]; rfl
      · rw [World.frozen?_setCells]; exact (hR.room k hk).2
      · rw [setCells_setBlk _ _ _ _ hpos]
        exact (Kp.refl _ _).put _ _ hg
    · refine grow (some ⟨g, 0, none⟩) cap (br n P).toList rfl ?_ (by omega)
      rw [hs]
      refine run_firstCells_some w.drew 1 n ⟨g, 0, none⟩ n cap _ (by rw [Array.length_toList, br_size, Nat.mul_one]) fun j u hj => ?_
      have e : (⟨g, 0, none⟩ : Addr).add j = ⟨g, j, none⟩ := by rw [Addr.add_lit, Nat.zero_add]
      rw [Array.getElem?_toList] at hj
      have hjn : j < n := by
        have := (Array.getElem?_eq_some_iff.1 hj).1
        rwa [br_size] at this
      rw [e, ← hj, br_get n P j hjn]
      exact hR.cell j hjn
theorem and255 (B k : Nat) (hB : B < 18446744073709551616) : bits .and .u64 ((B : Int) / 2 ^ k) 255 = ((B / 2 ^ k % 256 : Nat) : Int) := by
  rw [shr_cast, show (255 : Int) = ((255 : Nat) : Int) from rfl, u64_and_nat _ _ (Nat.lt_of_le_of_lt (Nat.div_le_self _ _) hB) (by decide), nat_mask8]
/-! ### a text's bytes as a new row -/
def cvB (x : Value) : Sem Value := convert 9 33 x
theorem cvB_is (x : Value) : convert 9 33 x = cvB x := rfl
theorem row_xb (s : ByteArray) (c j : Nat) (h : j < s.size) : (bytesRow s c)[j]? = some (.int .u8 ((xb s j : Nat) : Int)) := by
  have hs : s.data.size = s.size := rfl
  rw [bytesRow_at s c j h, xb_data, Array.getElem?_eq_getElem h]
  rfl
theorem cvB_run (w : World) (s : ByteArray) (P : Nat → Nat) (hP : ∀ i, i < s.size → P i = xb s i) :
    ∃ cap w', (cvB (.string s)).run Tryd.prog w = .ok (.slice (some ⟨w.heap.size, 0, none⟩) s.size cap) w' ∧ Rb w' w.heap.size s.size cap P ∧ Sm w w' := by
  have hr := run_bytes_of_string (P := Tryd.prog) w 9 33 5 s Tryd.underlying9 Tryd.underlying33 Tryd.underlying5
  have hcap := grownCap_ge w s.size 0 5
  have hsz : (bytesRow s (grownCap w s.size 0 5)).size = grownCap w s.size 0 5 := by
    unfold bytesRow
    have : s.data.size = s.size := rfl
    simp [this]
    omega
  refine ⟨_, _, hr, ⟨by simp, hcap, fun i hi => ?_, fun i hi => ⟨?_, ?_⟩⟩, ((Sm.refl _).drew).alloc _⟩
  · have := World.cell?_alloc_mark w.drew (bytesRow s (grownCap w s.size 0 5)) 5 ((bytesRow s (grownCap w s.size 0 5)).size, (bytesRow s (grownCap w s.size 0 5)).size + 1) i
    refine this.trans ?_
    rw [row_xb s _ i hi, hP i hi]
  · have := World.cell?_alloc_mark w.drew (bytesRow s (grownCap w s.size 0 5)) 5 ((bytesRow s (grownCap w s.size 0 5)).size, (bytesRow s (grownCap w s.size 0 5)).size + 1) i
    rw [show (⟨w.heap.size, i, none⟩ : Addr) = ⟨w.drew.heap.size, i, none⟩ from rfl, this, Array.getElem?_eq_getElem (by rw [hsz]; exact hi)]
    rfl
  · have := World.frozen?_alloc_mark w.drew (bytesRow s (grownCap w s.size 0 5)) 5 (bytesRow s (grownCap w s.size 0 5)).size ((bytesRow s (grownCap w s.size 0 5)).size + 1) i
    refine this.trans ?_
    rw [decide_eq_false (show ¬ (bytesRow s (grownCap w s.size 0 5)).size ≤ i by rw [hsz]; omega)]
    rfl
/-- The bytes of f lie from ⟨b, o⟩ on, n of them. -/
def By (w : World) (b o n : Nat) (f : Nat → Nat) : Prop := b < w.heap.size ∧ ∀ i, i < n → w.cell? ⟨b, o + i, none⟩ = some (.int .u8 ((f i : Nat) : Int))
theorem By.kp {S : Nat → Prop} {w w' : World} {b o n : Nat} {f : Nat → Nat} (h : By w b o n f) (k : Kp S w w') (hn : ¬ S b) : By w' b o n f :=
  ⟨Nat.lt_of_lt_of_le h.1 k.size, fun i hi => (k.cell b _ h.1 hn).trans (h.2 i hi)⟩
theorem By.sm {w w' : World} {b o n : Nat} {f : Nat → Nat} (h : By w b o n f) (k : Sm w w') : By w' b o n f := h.kp k fun h => h
theorem Rb.by {w : World} {g n cap : Nat} {P : Nat → Nat} (h : Rb w g n cap P) (o m : Nat) (hm : o + m ≤ n) : By w g o m fun i => P (o + i) := ⟨h.lt, fun i hi => h.cell _ (by omega)⟩
end Go.Proofs.YtledggjbijoijaaDoor
