/-
  strings.Builder: the library's contracts laid at this program (the numbers of its functions and types).
-/
import Derived.Test.YtledggjbijoijaaDoorHI
import Derived.Shelf.Strings.Builder1
namespace Go.Proofs.YtledggjbijoijaaDoor
open Go.RowKit
def bren : Go.Shelf.Ren := ⟨fun | 166 => 16 | 170 => 14 | 169 => 17 | 240 => 25 | 276 => 36 | n => n, fun | 9 => 9 | 3 => 3 | 4 => 4 | 20 => 20 | 0 => 0 | 5 => 5 | 72 => 38 | 76 => 44 | 70 => 36 | 37 => 33 | 75 => 43 | 127 => 58 | 164 => 73 | 80 => 46 | n => n, fun | n => n⟩
theorem lays166 : Go.Proofs.Lays.n166 Tryd.prog bren := {
  mixed := by kernel_rfl
  f166 := Tryd.func16.trans (congrArg some (by kernel_rfl))
  f240 := Tryd.func25.trans (congrArg some (by kernel_rfl))
  f276 := Tryd.func36.trans (congrArg some (by kernel_rfl))
  t0 := Tryd.underlying0
  a0 := Tryd.isAgg0
  z0 := Tryd.sizeOf0
  v0 := Tryd.zeroValue0
  t3 := Tryd.underlying3
  a3 := Tryd.isAgg3
  z3 := Tryd.sizeOf3
  v3 := Tryd.zeroValue3
  t4 := Tryd.underlying4
  a4 := Tryd.isAgg4
  z4 := Tryd.sizeOf4
  v4 := Tryd.zeroValue4
  t9 := Tryd.underlying9
  a9 := Tryd.isAgg9
  z9 := Tryd.sizeOf9
  v9 := Tryd.zeroValue9
  t20 := Tryd.underlying20
  a20 := Tryd.isAgg20
  z20 := Tryd.sizeOf20
  v20 := Tryd.zeroValue20
  t37 := Tryd.underlying33
  a37 := Tryd.isAgg33
  z37 := Tryd.sizeOf33
  v37 := Tryd.zeroValue33
  t70 := Tryd.underlying36
  a70 := Tryd.isAgg36
  z70 := Tryd.sizeOf36
  v70 := Tryd.zeroValue36
  t72 := Tryd.underlying38
  a72 := Tryd.isAgg38
  z72 := Tryd.sizeOf38
  v72 := Tryd.zeroValue38
  t75 := Tryd.underlying43
  a75 := Tryd.isAgg43
  z75 := Tryd.sizeOf43
  v75 := Tryd.zeroValue43
  t164 := Tryd.underlying73
  a164 := Tryd.isAgg73
  z164 := Tryd.sizeOf73
  v164 := Tryd.zeroValue73 }
theorem lays169 : Go.Proofs.Lays.n169 Tryd.prog bren := {
  mixed := by kernel_rfl
  f169 := Tryd.func17.trans (congrArg some (by kernel_rfl))
  t0 := Tryd.underlying0
  a0 := Tryd.isAgg0
  z0 := Tryd.sizeOf0
  v0 := Tryd.zeroValue0
  t3 := Tryd.underlying3
  a3 := Tryd.isAgg3
  z3 := Tryd.sizeOf3
  v3 := Tryd.zeroValue3
  t9 := Tryd.underlying9
  a9 := Tryd.isAgg9
  z9 := Tryd.sizeOf9
  v9 := Tryd.zeroValue9
  t37 := Tryd.underlying33
  a37 := Tryd.isAgg33
  z37 := Tryd.sizeOf33
  v37 := Tryd.zeroValue33
  t70 := Tryd.underlying36
  a70 := Tryd.isAgg36
  z70 := Tryd.sizeOf36
  v70 := Tryd.zeroValue36
  t72 := Tryd.underlying38
  a72 := Tryd.isAgg38
  z72 := Tryd.sizeOf38
  v72 := Tryd.zeroValue38
  t127 := Tryd.underlying58
  a127 := Tryd.isAgg58
  z127 := Tryd.sizeOf58
  v127 := Tryd.zeroValue58 }
theorem lays170 : Go.Proofs.Lays.n170 Tryd.prog bren := {
  mixed := by kernel_rfl
  f170 := Tryd.func14.trans (congrArg some (by kernel_rfl))
  t0 := Tryd.underlying0
  a0 := Tryd.isAgg0
  z0 := Tryd.sizeOf0
  v0 := Tryd.zeroValue0
  t3 := Tryd.underlying3
  a3 := Tryd.isAgg3
  z3 := Tryd.sizeOf3
  v3 := Tryd.zeroValue3
  t37 := Tryd.underlying33
  a37 := Tryd.isAgg33
  z37 := Tryd.sizeOf33
  v37 := Tryd.zeroValue33
  t70 := Tryd.underlying36
  a70 := Tryd.isAgg36
  z70 := Tryd.sizeOf36
  v70 := Tryd.zeroValue36
  t72 := Tryd.underlying38
  a72 := Tryd.isAgg38
  z72 := Tryd.sizeOf38
  v72 := Tryd.zeroValue38 }
theorem extraB : Builder.Extra Tryd.prog bren := {
  sizeBuilder := by kernel_rfl
  liesBuilder := by kernel_rfl
  t5 := Tryd.underlying5
  a5 := Tryd.isAgg5
  z5 := Tryd.sizeOf5
  v5 := Tryd.zeroValue5
  infoByte := by kernel_rfl
  cellsByte := by kernel_rfl
  sizeByte := by kernel_rfl
  neB5 := by decide }
theorem sm_below {w w' : World} (h : Below w.heap.size w w') : Sm w w' := ⟨h.os, h.tape, h.output, h.size, fun k hk _ => h.block k hk⟩
theorem kp_below {w w' : World} {B : Nat} (h : Below B w w') : Kp (Fr B) w w' := ⟨h.os, h.tape, h.output, h.size, fun k _ hn => h.block k (Nat.lt_of_not_le hn)⟩
/-- The Builder at b, from the block B on: the text t is written. -/
def Bd (w : World) (B b : Nat) (t : ByteArray) : Prop := Lib.IsBuilder 38 5 B b (Lib.strCells t) w
theorem bat_sm {T e : TypeId} {B b : Nat} {p : Value} {bs : List Value} {w w' : World} (h : Lib.BuilderAt T e B b p bs w) (k : Sm w w') : Lib.BuilderAt T e B b p bs w' := by
  have hl := h.lt
  obtain ⟨hB, v, hb, ⟨ho, hor⟩, hn⟩ := h
  refine ⟨hB, v, (k.block b hl fun h => h).trans hb, ⟨ho, ?_⟩, hn⟩
  rcases hor with h | ⟨g, cap, cur, h1, h2, h3, h4⟩
  · exact Or.inl h
  · refine Or.inr ⟨g, cap, cur, h1, h2, (k.block g ?_ fun h => h).trans h3, h4⟩
    exact (Array.getElem?_eq_some_iff.1 h3).1
theorem Bd.sm {B b : Nat} {t : ByteArray} {w w' : World} (h : Bd w B b t) (k : Sm w w') : Bd w' B b t := by
  rcases h with h | h
  · exact Or.inl (bat_sm h k)
  · exact Or.inr (bat_sm h k)
theorem Bd.new (w : World) : Bd (w.alloc (.cells #[.pointer none, .slice none 0 0] 38)) w.heap.size w.heap.size .empty := Lib.fresh_isBuilder _ _ w
/-- How long the row of the Builder at b is. -/
def bl (w : World) (b : Nat) : Nat := match w.cell? ⟨b, 1, none⟩ with
  | some (.slice _ n _) => n
  | _ => 0
theorem Bd.bl {B b : Nat} {t : ByteArray} {w : World} (h : Bd w B b t) : bl w b = t.size := by
  have : ∃ p, Lib.BuilderAt 38 5 B b p (Lib.strCells t) w := by
    rcases h with h | h <;> exact ⟨_, h⟩
  obtain ⟨p, _, v, hb, ⟨ho, hor⟩, _⟩ := this
  have hc : w.cell? ⟨b, 1, none⟩ = some v := by rw [Lib.cell_of_heap hb]; rfl
  unfold Proofs.YtledggjbijoijaaDoor.bl
  rw [hc]
  have hl := Lib.strCells_length t
  rcases hor with ⟨rfl, h2⟩ | ⟨g, cap, cur, rfl, _⟩
  · show 0 = _
    omega
  · show (Lib.strCells t).length = _
    exact hl
theorem blen_any (B b : Nat) (t : ByteArray) (w : World) (h : Bd w B b t) : Calls Tryd.prog 14 #[.pointer (some ⟨b, 0, none⟩)] w fun e w' => e = .returned (.int .i64 (t.size : Int)) ∧ w = w' := by
  have := Any.Builder_Len (P := Tryd.prog) (ρ := bren) lays170 B b (Lib.strCells t) w h
  rw [Lib.strCells_length] at this
  exact this.mono fun _ _ ⟨h1, h2⟩ => ⟨h1, h2.symm⟩
theorem bwrite_any (B b : Nat) (t s : ByteArray) (w : World) (h : Bd w B b t) (hl : t.size + s.size ≤ 140737488355328) (hB : B ≤ w.heap.size) : Calls Tryd.prog 16 #[.pointer (some ⟨b, 0, none⟩), .string s] w fun e w' => e = .returned (.tuple #[.int .i64 (s.size : Int), .nilIface]) ∧ Bd w' B b (t ++ s) ∧ Kp (Fr B) w w' := by
  have := Any.Builder_WriteString (P := Tryd.prog) (ρ := bren) lays166 extraB B b (Lib.strCells t) s w h (by rw [Lib.strCells_length]; exact hl) hB
  refine this.mono fun _ _ ⟨h1, h2, h3⟩ => ⟨h1, Or.inr ?_, kp_below h3⟩
  have e : Lib.strCells (t ++ s) = Lib.strCells t ++ Lib.strCells s := by
    unfold Lib.strCells
    rw [ByteArray.data_append]
    simp
  rw [e]
  exact h2
theorem bstr_any (B b : Nat) (t : ByteArray) (w : World) (h : Bd w B b t) (hB : B ≤ w.heap.size) : Calls Tryd.prog 17 #[.pointer (some ⟨b, 0, none⟩)] w fun e w' => e = .returned (.string t) ∧ Kp (Fr B) w w' := by
  have := Any.Builder_String_any (P := Tryd.prog) (ρ := bren) lays169 extraB B b t.data.toList w h hB
  refine this.mono fun _ _ ⟨h1, h3⟩ => ⟨?_, kp_below h3⟩
  rw [h1]
end Go.Proofs.YtledggjbijoijaaDoor
