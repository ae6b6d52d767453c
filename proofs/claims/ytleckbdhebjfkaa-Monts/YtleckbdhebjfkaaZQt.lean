/-
  A region that leaves its order open, reads and calls: one walk in the text's order, in any world that has only grown.
-/
import Derived.Deep.QuietTactic
import Derived.BigQuiet
import Derived.Test.YtleckbdhebjfkaaZInst
namespace Go.Proofs.Ytleckbdhebjfkaa
open Go.RowKit

theorem ppre_1 (n m a0 : Nat) (h : Pre n m) : Pre n (m + a0) := pre_add _ _ _ (h)
theorem ppre_2 (n m a0 a1 : Nat) (h : Pre n m) : Pre n (m + a0 + a1) := pre_add _ _ _ (ppre_1 _ _ _ h)
theorem ppre_3 (n m a0 a1 a2 : Nat) (h : Pre n m) : Pre n (m + a0 + a1 + a2) := pre_add _ _ _ (ppre_2 _ _ _ _ h)
theorem ppre_4 (n m a0 a1 a2 a3 : Nat) (h : Pre n m) : Pre n (m + a0 + a1 + a2 + a3) := pre_add _ _ _ (ppre_3 _ _ _ _ _ h)
theorem ppre_5 (n m a0 a1 a2 a3 a4 : Nat) (h : Pre n m) : Pre n (m + a0 + a1 + a2 + a3 + a4) := pre_add _ _ _ (ppre_4 _ _ _ _ _ _ h)
theorem ppre_6 (n m a0 a1 a2 a3 a4 a5 : Nat) (h : Pre n m) : Pre n (m + a0 + a1 + a2 + a3 + a4 + a5) := pre_add _ _ _ (ppre_5 _ _ _ _ _ _ _ h)
theorem ppre_7 (n m a0 a1 a2 a3 a4 a5 a6 : Nat) (h : Pre n m) : Pre n (m + a0 + a1 + a2 + a3 + a4 + a5 + a6) := pre_add _ _ _ (ppre_6 _ _ _ _ _ _ _ _ h)
theorem ppre_8 (n m a0 a1 a2 a3 a4 a5 a6 a7 : Nat) (h : Pre n m) : Pre n (m + a0 + a1 + a2 + a3 + a4 + a5 + a6 + a7) := pre_add _ _ _ (ppre_7 _ _ _ _ _ _ _ _ _ h)
theorem ppre_9 (n m a0 a1 a2 a3 a4 a5 a6 a7 a8 : Nat) (h : Pre n m) : Pre n (m + a0 + a1 + a2 + a3 + a4 + a5 + a6 + a7 + a8) := pre_add _ _ _ (ppre_8 _ _ _ _ _ _ _ _ _ _ h)
theorem ppre_10 (n m a0 a1 a2 a3 a4 a5 a6 a7 a8 a9 : Nat) (h : Pre n m) : Pre n (m + a0 + a1 + a2 + a3 + a4 + a5 + a6 + a7 + a8 + a9) := pre_add _ _ _ (ppre_9 _ _ _ _ _ _ _ _ _ _ _ h)
theorem ppre_11 (n m a0 a1 a2 a3 a4 a5 a6 a7 a8 a9 a10 : Nat) (h : Pre n m) : Pre n (m + a0 + a1 + a2 + a3 + a4 + a5 + a6 + a7 + a8 + a9 + a10) := pre_add _ _ _ (ppre_10 _ _ _ _ _ _ _ _ _ _ _ _ h)
theorem ppre_12 (n m a0 a1 a2 a3 a4 a5 a6 a7 a8 a9 a10 a11 : Nat) (h : Pre n m) : Pre n (m + a0 + a1 + a2 + a3 + a4 + a5 + a6 + a7 + a8 + a9 + a10 + a11) := pre_add _ _ _ (ppre_11 _ _ _ _ _ _ _ _ _ _ _ _ _ h)
theorem ppre_13 (n m a0 a1 a2 a3 a4 a5 a6 a7 a8 a9 a10 a11 a12 : Nat) (h : Pre n m) : Pre n (m + a0 + a1 + a2 + a3 + a4 + a5 + a6 + a7 + a8 + a9 + a10 + a11 + a12) := pre_add _ _ _ (ppre_12 _ _ _ _ _ _ _ _ _ _ _ _ _ _ h)
theorem ppre_14 (n m a0 a1 a2 a3 a4 a5 a6 a7 a8 a9 a10 a11 a12 a13 : Nat) (h : Pre n m) : Pre n (m + a0 + a1 + a2 + a3 + a4 + a5 + a6 + a7 + a8 + a9 + a10 + a11 + a12 + a13) := pre_add _ _ _ (ppre_13 _ _ _ _ _ _ _ _ _ _ _ _ _ _ _ h)
theorem ppre_15 (n m a0 a1 a2 a3 a4 a5 a6 a7 a8 a9 a10 a11 a12 a13 a14 : Nat) (h : Pre n m) : Pre n (m + a0 + a1 + a2 + a3 + a4 + a5 + a6 + a7 + a8 + a9 + a10 + a11 + a12 + a13 + a14) := pre_add _ _ _ (ppre_14 _ _ _ _ _ _ _ _ _ _ _ _ _ _ _ _ h)
theorem ppre_16 (n m a0 a1 a2 a3 a4 a5 a6 a7 a8 a9 a10 a11 a12 a13 a14 a15 : Nat) (h : Pre n m) : Pre n (m + a0 + a1 + a2 + a3 + a4 + a5 + a6 + a7 + a8 + a9 + a10 + a11 + a12 + a13 + a14 + a15) := pre_add _ _ _ (ppre_15 _ _ _ _ _ _ _ _ _ _ _ _ _ _ _ _ _ h)
theorem ppre_17 (n m a0 a1 a2 a3 a4 a5 a6 a7 a8 a9 a10 a11 a12 a13 a14 a15 a16 : Nat) (h : Pre n m) : Pre n (m + a0 + a1 + a2 + a3 + a4 + a5 + a6 + a7 + a8 + a9 + a10 + a11 + a12 + a13 + a14 + a15 + a16) := pre_add _ _ _ (ppre_16 _ _ _ _ _ _ _ _ _ _ _ _ _ _ _ _ _ _ h)
theorem ppre_18 (n m a0 a1 a2 a3 a4 a5 a6 a7 a8 a9 a10 a11 a12 a13 a14 a15 a16 a17 : Nat) (h : Pre n m) : Pre n (m + a0 + a1 + a2 + a3 + a4 + a5 + a6 + a7 + a8 + a9 + a10 + a11 + a12 + a13 + a14 + a15 + a16 + a17) := pre_add _ _ _ (ppre_17 _ _ _ _ _ _ _ _ _ _ _ _ _ _ _ _ _ _ _ h)
theorem ppre_19 (n m a0 a1 a2 a3 a4 a5 a6 a7 a8 a9 a10 a11 a12 a13 a14 a15 a16 a17 a18 : Nat) (h : Pre n m) : Pre n (m + a0 + a1 + a2 + a3 + a4 + a5 + a6 + a7 + a8 + a9 + a10 + a11 + a12 + a13 + a14 + a15 + a16 + a17 + a18) := pre_add _ _ _ (ppre_18 _ _ _ _ _ _ _ _ _ _ _ _ _ _ _ _ _ _ _ _ h)
theorem ppre_20 (n m a0 a1 a2 a3 a4 a5 a6 a7 a8 a9 a10 a11 a12 a13 a14 a15 a16 a17 a18 a19 : Nat) (h : Pre n m) : Pre n (m + a0 + a1 + a2 + a3 + a4 + a5 + a6 + a7 + a8 + a9 + a10 + a11 + a12 + a13 + a14 + a15 + a16 + a17 + a18 + a19) := pre_add _ _ _ (ppre_19 _ _ _ _ _ _ _ _ _ _ _ _ _ _ _ _ _ _ _ _ _ h)

theorem all_grow (p : Prop) : (Grow → p) ↔ p := ⟨fun h => h ⟨[], 0⟩, fun h _ => h⟩
theorem wp_region_gr {P : Program} {id : Nat} {Q : Exit → Act → World → Prop} {a : Act} {w : World} {l : List Oper} (hm : P.follows .mixedOrders = true) (hB : Region.lexB .any l.toArray = true)
    (h : wpQuiet P l.toArray (fun w' => ∃ g, w' = gro w g) (fun a' => ∀ w', (∃ g, w' = gro w g) → Q .normal a' w') l a) : (Code.region id l.toArray true).wp P Q a w :=
  wp_region_quiet (C := fun w' => ∃ g, w' = gro w g) hm hB ⟨⟨[], 1⟩, by simp [gro]⟩ (by simpa using h)
theorem calls_gr {P : Program} {f : FuncId} {args : Array Value} {w : World} {g : Grow} {v : Value}
    (h : Calls P f args (gro w g) fun e w' => e = .returned v ∧ Gr (gro w g) w') : Calls P f args (gro w g) fun e w'' => e = .returned v ∧ ∃ g', w'' = gro w g' :=
  h.mono fun _ _ ⟨he, k, hk⟩ => ⟨he, _, hk.trans (gro_gro w g k)⟩
theorem calls_same {P : Program} {f : FuncId} {args : Array Value} {w : World} {g : Grow} {v : Value}
    (h : Calls P f args (gro w g) fun e w' => e = .returned v ∧ w' = gro w g) : Calls P f args (gro w g) fun e w'' => e = .returned v ∧ ∃ g', w'' = gro w g' :=
  h.mono fun _ _ ⟨he, hk⟩ => ⟨he, g, hk⟩

/-- A load whose block is looked at in the open. -/
def failL (P : Program) (ty : TypeId) (b : Nat) (w : World) : Result Value := (loadS ty (.pointer (some ⟨b, 0, none⟩))).run P w
def loadK (n : Nat) (c : Array Value) (f : Result Value) (w : World) : Result Value := if c.size = n then .ok (.agg c) w else f
theorem loadNat2 (w : World) (b : Nat) : (loadS 25 (.pointer (some ⟨b, 0, none⟩))).run Try.prog w = loadK 9 (blk w b) (failL Try.prog 25 b w) w := by
  unfold loadK
  split
  · rename_i h; exact loadNat w b h
  · rfl
theorem loadArr2 (w : World) (b : Nat) : (loadS 23 (.pointer (some ⟨b, 0, none⟩))).run Try.prog w = loadK 9 (blk w b) (failL Try.prog 23 b w) w := by
  unfold loadK
  split
  · rename_i h; exact loadArr w b h
  · rfl
theorem loadWide2 (w : World) (b : Nat) : (loadS 77 (.pointer (some ⟨b, 0, none⟩))).run Try.prog w = loadK 18 (blk w b) (failL Try.prog 77 b w) w := by
  unfold loadK
  split
  · rename_i h; exact loadWide w b h
  · rfl
theorem loadK_nw (n s : Nat) (f : Result Value) (w : World) : loadK n (nw n s) f w = .ok (.agg (nw n s)) w := by
  unfold loadK
  rw [nw_size, if_pos rfl]

end Go.Proofs.Ytleckbdhebjfkaa
