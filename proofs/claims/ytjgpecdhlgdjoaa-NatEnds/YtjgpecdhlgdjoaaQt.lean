/-
  A region that leaves its order open, reads and calls: one walk in the text's order, in any world that has only grown.
-/
import Derived.Test.YtjgpecdhlgdjoaaBlk
import Derived.Deep.QuietTactic
import Derived.BigQuiet
namespace Go.Proofs.Ytjgpecdhlgdjoaa
open Go.RowKit

theorem all_grow (p : Prop) : (Grow → p) ↔ p := ⟨fun h => h ⟨[], 0⟩, fun h _ => h⟩
theorem wp_region_gr {P : Program} {id : Nat} {Q : Exit → Act → World → Prop} {a : Act} {w : World} {l : List Oper} (hm : P.follows .mixedOrders = true) (hB : Region.lexB .any l.toArray = true)
    (h : wpQuiet P l.toArray (fun w' => ∃ g, w' = gro w g) (fun a' => ∀ w', (∃ g, w' = gro w g) → Q .normal a' w') l a) : (Code.region id l.toArray true).wp P Q a w :=
  wp_region_quiet (C := fun w' => ∃ g, w' = gro w g) hm hB ⟨⟨[], 1⟩, by simp [gro]⟩ (by simpa using h)
theorem calls_gr {P : Program} {f : FuncId} {args : Array Value} {w : World} {g : Grow} {v : Value}
    (h : Calls P f args (gro w g) fun e w' => e = .returned v ∧ Gr (gro w g) w') : Calls P f args (gro w g) fun e w'' => e = .returned v ∧ ∃ g', w'' = gro w g' :=
  h.mono fun _ _ ⟨he, k, hk⟩ => ⟨he, _, hk.trans (gro_gro w g k)⟩
theorem calls_same {P : Program} {f : FuncId} {args : Array Value} {w : World} {g : Grow} {v : Value}
    (h : Calls P f args (gro w g) fun e w' => e = .returned v ∧ w' = gro w g) : Calls P f args (gro w g) fun e w'' => e = .returned v ∧ ∃ g', w'' = gro w g' :=
  h.mono fun _ _ ⟨he, hk⟩ => ⟨he, g, hk⟩

end Go.Proofs.Ytjgpecdhlgdjoaa
