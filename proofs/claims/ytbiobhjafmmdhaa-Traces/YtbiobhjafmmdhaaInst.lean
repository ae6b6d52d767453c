/-
  The model's loads and stores of whole numbers (api.Nat, api.Wide, their arrays) at this translation.
-/
import Derived.Test.YtbiobhjafmmdhaaBits
import Derived.Test.YtbiobhjafmmdhaaBlk
namespace Go.Proofs.Ytbiobhjafmmdhaa
open Go.RowKit

/-- A load and a store, kept whole: the walk opens neither; the rules below say what they come to. -/
def loadS (ty : TypeId) (v : Value) : Sem Value := Instr.loadAt ty v
def storeS (ty : TypeId) (p v : Value) : Sem Unit := Instr.storeAt ty p v
theorem loadS_run {P : Program} {d : TypeDesc} {ty : TypeId} (n : Nat) (hu : P.underlying ty = some d) (hd : d.isRow = true) (hi : (P.info? ty).map (·.size) = some n) (w : World) (b : Nat) (hs : (blk w b).size = n) :
    (loadS ty (.pointer (some ⟨b, 0, none⟩))).run P w = .ok (.agg (blk w b)) w := by
  simp only [loadS, Instr.loadAt, Instr.sureAddr, Sem.run_bind, Sem.run_pure, Result.andThen_ok, load_blk n hu hd hi w b hs]
theorem storeS_run {P : Program} {ty : TypeId} (n : Nat) (hn : 0 < n) (hi : (P.info? ty).map (·.size) = some n) (w : World) (b : Nat) (d : Array Value) (hd : d.size = n) (h1 : d.all (·.oneCell') = true)
    (hs : (blk w b).size = n) (hf : frz w b = (0, 0)) :
    (storeS ty (.pointer (some ⟨b, 0, none⟩)) (.agg d)).run P w = .ok () (setBlk w b d) := by
  simp only [storeS, Instr.storeAt, Instr.sureAddr, Sem.run_bind, Sem.run_pure, Result.andThen_ok, store_blk n hn hi w b d hd h1 hs hf]
attribute [local go_sem] nw_size nw_elem
end Go.Proofs.Ytbiobhjafmmdhaa
