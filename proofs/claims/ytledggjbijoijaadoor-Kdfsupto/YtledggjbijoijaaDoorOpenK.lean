/-
  What the rows of layer 7 lay: the constants; a world that holds them.
-/
/-
  What the rows of layer 8 lay: the constants; a world that holds them.
-/
/-
  What the rows lay where both tables of constants are on the road: a world that holds both.
-/
import Derived.Test.YtledggjbijoijaaDoorHC
import Derived.Test.YtledggjbijoijaaDoorOpenG
import Derived.Test.YtledggjbijoijaaDoorCards
import Derived.Test.YtledggjbijoijaaDoorTie
import Derived.ProofKit
import Derived.OpenShut
import Derived.Deep.DeepHandedRow
import Derived.Lib.LaidTab
import Derived.Carry
import Derived.Test.YtledggjbijoijaaDoorGC
import Derived.Test.YtledggjbijoijaaDoorYD
import Derived.Stop.LaidErr
namespace Go.Proofs.YtledggjbijoijaaDoor
open Go.ChangeShapes Go.WideShapes Go.ChangeAt Go.RowKit
theorem gK : Tryd.prog.globalNamed "curvet/sha256.constants" = some 0 := by kernel_rfl
theorem gKt : (Tryd.prog.globals[0]?).map (·.type) = some 114 := by kernel_rfl
theorem cells70 : Tryd.prog.cellsOf 114 = 64 := by kernel_rfl
theorem cells47 : Tryd.prog.cellsOf 39 = 1 := by kernel_rfl
/-- The constants as ints. -/
def KZ : List Int := KL.map fun (x : Nat) => (x : Int)
theorem kz_at (i : Nat) (hi : i < 64) : KZ.getD i 0 = ((kc i : Nat) : Int) := by
  unfold KZ kc
  have h : i < KL.length := hi
  rw [List.getD_eq_getElem?_getD, List.getD_eq_getElem?_getD, List.getElem?_map, List.getElem?_eq_getElem h]
  rfl
theorem kk_met {W : World} {rest : List (String × DataW Unit)} (h : laidMet Tryd.prog (("curvet/sha256.constants", Rows.laid_curvet_sha256_constants) :: rest) W) : Kk W := fun i hi => by
  have ht : Lib.TabIs Tryd.prog W "curvet/sha256.constants" .u32 KZ := Lib.tabIs_of_head (rest := rest) gK gKt Tryd.underlying114 Tryd.underlying39 cells47 cells70 h
  have := ht.cell gK i (show i < KZ.length from hi)
  rw [kz_at i hi] at this
  exact this
theorem kk_of {W : World} (h : laidMetH Tryd.prog [("curvet/sha256.constants", Rows.laid_curvet_sha256_constants)] W) : Kk W := kk_met (rest := []) h
/-- A world for the witness: the settled one, the constants laid. -/
def kWorld (P : Program) (os : Os) : World :=
  { World.holding P os ⟨#[], #[], []⟩ with heap := (World.holding P os ⟨#[], #[], []⟩).heap.modify 0 fun
      | .cells _ t frozen => .cells ((KL.map fun (x : Nat) => Value.int .u32 (x : Int)).toArray) t frozen
      | o => o }
end Go.Proofs.YtledggjbijoijaaDoor
namespace Go.Proofs.YtledggjbijoijaaDoor.L8
open Go.ChangeShapes Go.WideShapes Go.ChangeAt Go.RowKit
theorem gK : Tryd.prog.globalNamed "curvet/sha512.constants" = some 1 := by kernel_rfl
theorem gKt : (Tryd.prog.globals[1]?).map (·.type) = some 119 := by kernel_rfl
theorem cells70 : Tryd.prog.cellsOf 119 = 80 := by kernel_rfl
theorem cells47 : Tryd.prog.cellsOf 68 = 1 := by kernel_rfl
/-- The constants as ints. -/
def KZ : List Int := KL.map fun (x : Nat) => (x : Int)
theorem kz_at (i : Nat) (hi : i < 80) : KZ.getD i 0 = ((kc i : Nat) : Int) := by
  unfold KZ kc
  have h : i < KL.length := hi
  rw [List.getD_eq_getElem?_getD, List.getD_eq_getElem?_getD, List.getElem?_map, List.getElem?_eq_getElem h]
  rfl
theorem kk_met {W : World} {rest : List (String × DataW Unit)} (h : laidMet Tryd.prog (("curvet/sha512.constants", Rows.laid_curvet_sha512_constants) :: rest) W) : Kk W := fun i hi => by
  have ht : Lib.TabIs Tryd.prog W "curvet/sha512.constants" .u64 KZ := Lib.tabIs_of_head (rest := rest) gK gKt Tryd.underlying119 Tryd.underlying68 cells47 cells70 h
  have := ht.cell gK i (show i < KZ.length from hi)
  rw [kz_at i hi] at this
  exact this
theorem kk_of {W : World} (h : laidMetH Tryd.prog [("curvet/sha512.constants", Rows.laid_curvet_sha512_constants)] W) : Kk W := kk_met (rest := []) h
/-- A world for the witness: the settled one, the constants laid. -/
def kWorld (P : Program) (os : Os) : World :=
  { World.holding P os ⟨#[], #[], []⟩ with heap := (World.holding P os ⟨#[], #[], []⟩).heap.modify 1 fun
      | .cells _ t frozen => .cells ((KL.map fun (x : Nat) => Value.int .u64 (x : Int)).toArray) t frozen
      | o => o }
end Go.Proofs.YtledggjbijoijaaDoor.L8
namespace Go.Proofs.YtledggjbijoijaaDoor
open Go.ChangeShapes Go.WideShapes Go.ChangeAt Go.RowKit
theorem kk2_of {W : World} (h : laidMetH Tryd.prog [("curvet/sha256.constants", Rows.laid_curvet_sha256_constants), ("curvet/sha512.constants", Rows.laid_curvet_sha512_constants)] W) : KK W :=
  have h' : laidMet Tryd.prog [("curvet/sha256.constants", Rows.laid_curvet_sha256_constants), ("curvet/sha512.constants", Rows.laid_curvet_sha512_constants)] W := h
  ⟨kk_met h', L8.kk_met (laidMet.tail h')⟩
/-- A world for the witness: the settled one, both tables laid. -/
def kWorld2 (P : Program) (os : Os) : World :=
  { kWorld P os with heap := (kWorld P os).heap.modify 1 fun
      | .cells _ t frozen => .cells ((L8.KL.map fun (x : Nat) => Value.int .u64 (x : Int)).toArray) t frozen
      | o => o }
end Go.Proofs.YtledggjbijoijaaDoor
