/-
  The model's loads and stores of whole numbers (api.Nat, api.Wide, their arrays) at this translation.
-/
import Derived.Test.YtleckbdhebjfkaaZBits
import Derived.Test.YtleckbdhebjfkaaZBlk
namespace Go.Proofs.Ytleckbdhebjfkaa
open Go.RowKit

/-- A load and a store, kept whole: the walk opens neither; the rules below say what they come to. -/
def loadS (ty : TypeId) (v : Value) : Sem Value := Instr.loadAt ty v
def storeS (ty : TypeId) (p v : Value) : Sem Unit := Instr.storeAt ty p v
theorem loadNat_is (v : Value) : Instr.loadAt 25 v = loadS 25 v := rfl
theorem loadArr_is (v : Value) : Instr.loadAt 23 v = loadS 23 v := rfl
theorem loadWide_is (v : Value) : Instr.loadAt 77 v = loadS 77 v := rfl
theorem loadArrW_is (v : Value) : Instr.loadAt 75 v = loadS 75 v := rfl
theorem storeNat_is (p v : Value) : Instr.storeAt 25 p v = storeS 25 p v := rfl
theorem storeWide_is (p v : Value) : Instr.storeAt 77 p v = storeS 77 p v := rfl
theorem loadS_run {P : Program} {d : TypeDesc} {ty : TypeId} (n : Nat) (hu : P.underlying ty = some d) (hd : d.isRow = true) (hi : (P.info? ty).map (·.size) = some n) (w : World) (b : Nat) (hs : (blk w b).size = n) :
    (loadS ty (.pointer (some ⟨b, 0, none⟩))).run P w = .ok (.agg (blk w b)) w := by
  simp only [loadS, Instr.loadAt, Instr.sureAddr, Sem.run_bind, Sem.run_pure, Result.andThen_ok, load_blk n hu hd hi w b hs]
theorem storeS_run {P : Program} {ty : TypeId} (n : Nat) (hn : 0 < n) (hi : (P.info? ty).map (·.size) = some n) (w : World) (b : Nat) (d : Array Value) (hd : d.size = n) (h1 : d.all (·.oneCell') = true)
    (hs : (blk w b).size = n) (hf : frz w b = (0, 0)) :
    (storeS ty (.pointer (some ⟨b, 0, none⟩)) (.agg d)).run P w = .ok () (setBlk w b d) := by
  simp only [storeS, Instr.storeAt, Instr.sureAddr, Sem.run_bind, Sem.run_pure, Result.andThen_ok, store_blk n hn hi w b d hd h1 hs hf]
theorem loadNat (w : World) (b : Nat) (hs : (blk w b).size = 9) : (loadS 25 (.pointer (some ⟨b, 0, none⟩))).run Try.prog w = .ok (.agg (blk w b)) w :=
  loadS_run 9 Try.underlying25 rfl (by kernel_rfl) w b hs
theorem loadArr (w : World) (b : Nat) (hs : (blk w b).size = 9) : (loadS 23 (.pointer (some ⟨b, 0, none⟩))).run Try.prog w = .ok (.agg (blk w b)) w :=
  loadS_run 9 Try.underlying23 rfl (by kernel_rfl) w b hs
theorem loadWide (w : World) (b : Nat) (hs : (blk w b).size = 18) : (loadS 77 (.pointer (some ⟨b, 0, none⟩))).run Try.prog w = .ok (.agg (blk w b)) w :=
  loadS_run 18 Try.underlying77 rfl (by kernel_rfl) w b hs
theorem loadArrW (w : World) (b : Nat) (hs : (blk w b).size = 18) : (loadS 75 (.pointer (some ⟨b, 0, none⟩))).run Try.prog w = .ok (.agg (blk w b)) w :=
  loadS_run 18 Try.underlying75 rfl (by kernel_rfl) w b hs
theorem storeNat (w : World) (b s : Nat) (hs : (blk w b).size = 9) (hf : frz w b = (0, 0)) : (storeS 25 (.pointer (some ⟨b, 0, none⟩)) (.agg (nw 9 s))).run Try.prog w = .ok () (setBlk w b (nw 9 s)) :=
  storeS_run 9 (by decide) (by kernel_rfl) w b (nw 9 s) (nw_size 9 s) (nw_one 9 s) hs hf
theorem storeWide (w : World) (b s : Nat) (hs : (blk w b).size = 18) (hf : frz w b = (0, 0)) : (storeS 77 (.pointer (some ⟨b, 0, none⟩)) (.agg (nw 18 s))).run Try.prog w = .ok () (setBlk w b (nw 18 s)) :=
  storeS_run 18 (by decide) (by kernel_rfl) w b (nw 18 s) (nw_size 18 s) (nw_one 18 s) hs hf

attribute [local go_sem] nw_size nw_elem
theorem idxArr (w : World) (a k : Nat) (h : k < 9) : (Instr.index 23 (.agg (nw 9 a)) (.int .i64 (k : Int))).run Try.prog w = .ok (.int .u64 ((wd a k : Nat) : Int)) w := by
  simp [Instr.index, run_underlying Try.underlying23, asIntOf, h, go_sem]

end Go.Proofs.Ytleckbdhebjfkaa
