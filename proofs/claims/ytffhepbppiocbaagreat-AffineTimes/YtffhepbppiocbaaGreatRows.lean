/-
  No cell of these rows narrows 'for every input' (looked for: loops, veiled, ifaces, maps, wideKeys, modest, calm, conditions, laid).
  DERIVED. THE GIVEN ROWS OF THIS SEAT. 6 by the template 'for every input the law returns true; each argument reads behind the call as it read before'; 0 by the template 'total and deterministic' (their statements: YtffhepbppiocbaaGreatTotals.lean).
  GIVEN WITH THE SEED: the statements are not yours to turn. If you find one false, say at which input.
  Laid BY PROGRAM, IN A SANDBOX (cutbox-rows.mjs): the forced cells as the released guide's own fill.sh prints them over the translation 1028ec30192bedaa… (all of the seat's roots in one cut). By AI agents, Wed Nov 11 2026. No macro, syntax, notation, axiom, sorry.
-/
import Derived.Test.YtffhepbppiocbaaGreatChecked
import GoSem.Claim
import GoSem.ClaimJoined
import GoSem.ClaimMapViews
import Derived.JoinedTies
import Derived.KernelRfl
namespace Go.Proofs.YtffhepbppiocbaaGreat
/- THE CELL 'sum', in the pinned program and in every row, IS THE sha256 OF THE DUMP (.gsa) THAT YtffhepbppiocbaaGreatProg.lean LOADS. Nothing in Lean hashes anything: it is a label: what it is worth is what the hold of that sum in a sandbox is worth. -/
noncomputable def Tryz.pinned : Pinned := { name := "ytffhepbppiocbaagreat", sum := "1028ec30192bedaa01816b86a82d1204ebdd85d88c573e841c7a49557b2c3a02", checked := Tryz.checked }
namespace Rows
def none {H : Type} : Left H := { results := [], args := [] }

/-- 'curvetlaw14.Affines': WHATEVER THE INPUT: true; the input reads as it did. -/
def affinesSpec : ChangeSpec := { name := "affines", fn := fun _ => fun
  | [d1, d2, d3] => { results := [.lit (.bool true)], args := [d1, d2, d3] }
  | _ => none }
def affinesRow : OpenClaim := { program := "ytffhepbppiocbaagreat", sum := "1028ec30192bedaa01816b86a82d1204ebdd85d88c573e841c7a49557b2c3a02", func := "curvet/curvetlaw14.Affines", spec := "affines", inPlace := ["math/bits.Sub64", "math/bits.Add64"], unfollowed := true, recurses := true, named := ["math/bits.divideError", "math/bits.overflowError"], apart := false }
def AffinesSaid : Prop := affinesRow.holds Tryz.pinned (OpenSpec.ofChange affinesSpec)

/-- ITS FALSE NEIGHBOUR: 'it returns false'. Refute it at one input. -/
def affinesWrong : ChangeSpec := { name := "affines", fn := fun _ => fun
  | [d1, d2, d3] => { results := [.lit (.bool false)], args := [d1, d2, d3] }
  | _ => none }
def AffinesWrongFalsely : Prop := affinesRow.holds Tryz.pinned (OpenSpec.ofChange affinesWrong)

/-- 'curvetlaw14.AffineTimes': WHATEVER THE INPUT: true; the input reads as it did. -/
def affineTimesSpec : ChangeSpec := { name := "affineTimes", fn := fun _ => fun
  | [d1, d2, d3] => { results := [.lit (.bool true)], args := [d1, d2, d3] }
  | _ => none }
def affineTimesRow : OpenClaim := { program := "ytffhepbppiocbaagreat", sum := "1028ec30192bedaa01816b86a82d1204ebdd85d88c573e841c7a49557b2c3a02", func := "curvet/curvetlaw14.AffineTimes", spec := "affineTimes", inPlace := ["math/bits.Sub64", "math/bits.Add64"], unfollowed := true, recurses := true, named := ["math/bits.divideError", "math/bits.overflowError"], apart := false }
def AffineTimesSaid : Prop := affineTimesRow.holds Tryz.pinned (OpenSpec.ofChange affineTimesSpec)

/-- ITS FALSE NEIGHBOUR: 'it returns false'. Refute it at one input. -/
def affineTimesWrong : ChangeSpec := { name := "affineTimes", fn := fun _ => fun
  | [d1, d2, d3] => { results := [.lit (.bool false)], args := [d1, d2, d3] }
  | _ => none }
def AffineTimesWrongFalsely : Prop := affineTimesRow.holds Tryz.pinned (OpenSpec.ofChange affineTimesWrong)

/-- 'curvetlaw14.AffineWalk': WHATEVER THE INPUT: true; the input reads as it did. -/
def affineWalkSpec : ChangeSpec := { name := "affineWalk", fn := fun _ => fun
  | [d] => { results := [.lit (.bool true)], args := [d] }
  | _ => none }
def affineWalkRow : OpenClaim := { program := "ytffhepbppiocbaagreat", sum := "1028ec30192bedaa01816b86a82d1204ebdd85d88c573e841c7a49557b2c3a02", func := "curvet/curvetlaw14.AffineWalk", spec := "affineWalk", inPlace := ["math/bits.Sub64", "math/bits.Add64"], unfollowed := true, recurses := true, named := ["math/bits.divideError", "math/bits.overflowError"], apart := false }
def AffineWalkSaid : Prop := affineWalkRow.holds Tryz.pinned (OpenSpec.ofChange affineWalkSpec)

/-- ITS FALSE NEIGHBOUR: 'it returns false'. Refute it at one input. -/
def affineWalkWrong : ChangeSpec := { name := "affineWalk", fn := fun _ => fun
  | [d] => { results := [.lit (.bool false)], args := [d] }
  | _ => none }
def AffineWalkWrongFalsely : Prop := affineWalkRow.holds Tryz.pinned (OpenSpec.ofChange affineWalkWrong)

/-- 'curvetlaw14.AffineGroup': WHATEVER THE INPUT: true; the input reads as it did. -/
def affineGroupSpec : ChangeSpec := { name := "affineGroup", fn := fun _ => fun
  | [d1, d2, d3, d4] => { results := [.lit (.bool true)], args := [d1, d2, d3, d4] }
  | _ => none }
def affineGroupRow : OpenClaim := { program := "ytffhepbppiocbaagreat", sum := "1028ec30192bedaa01816b86a82d1204ebdd85d88c573e841c7a49557b2c3a02", func := "curvet/curvetlaw14.AffineGroup", spec := "affineGroup", inPlace := ["math/bits.Sub64", "math/bits.Add64"], unfollowed := true, recurses := true, named := ["math/bits.divideError", "math/bits.overflowError"], apart := false }
def AffineGroupSaid : Prop := affineGroupRow.holds Tryz.pinned (OpenSpec.ofChange affineGroupSpec)

/-- ITS FALSE NEIGHBOUR: 'it returns false'. Refute it at one input. -/
def affineGroupWrong : ChangeSpec := { name := "affineGroup", fn := fun _ => fun
  | [d1, d2, d3, d4] => { results := [.lit (.bool false)], args := [d1, d2, d3, d4] }
  | _ => none }
def AffineGroupWrongFalsely : Prop := affineGroupRow.holds Tryz.pinned (OpenSpec.ofChange affineGroupWrong)

/-- 'curvetlaw14.AffineSplits': WHATEVER THE INPUT: true; the input reads as it did. -/
def affineSplitsSpec : ChangeSpec := { name := "affineSplits", fn := fun _ => fun
  | [d1, d2, d3, d4] => { results := [.lit (.bool true)], args := [d1, d2, d3, d4] }
  | _ => none }
def affineSplitsRow : OpenClaim := { program := "ytffhepbppiocbaagreat", sum := "1028ec30192bedaa01816b86a82d1204ebdd85d88c573e841c7a49557b2c3a02", func := "curvet/curvetlaw14.AffineSplits", spec := "affineSplits", inPlace := ["math/bits.Sub64", "math/bits.Add64"], unfollowed := true, recurses := true, named := ["math/bits.divideError", "math/bits.overflowError"], apart := false }
def AffineSplitsSaid : Prop := affineSplitsRow.holds Tryz.pinned (OpenSpec.ofChange affineSplitsSpec)

/-- ITS FALSE NEIGHBOUR: 'it returns false'. Refute it at one input. -/
def affineSplitsWrong : ChangeSpec := { name := "affineSplits", fn := fun _ => fun
  | [d1, d2, d3, d4] => { results := [.lit (.bool false)], args := [d1, d2, d3, d4] }
  | _ => none }
def AffineSplitsWrongFalsely : Prop := affineSplitsRow.holds Tryz.pinned (OpenSpec.ofChange affineSplitsWrong)

/-- 'curvetlaw14.AffineOrder': WHATEVER THE INPUT: true; the input reads as it did. -/
def affineOrderSpec : ChangeSpec := { name := "affineOrder", fn := fun _ => fun
  | [d1, d2] => { results := [.lit (.bool true)], args := [d1, d2] }
  | _ => none }
def affineOrderRow : OpenClaim := { program := "ytffhepbppiocbaagreat", sum := "1028ec30192bedaa01816b86a82d1204ebdd85d88c573e841c7a49557b2c3a02", func := "curvet/curvetlaw14.AffineOrder", spec := "affineOrder", inPlace := ["math/bits.Sub64", "math/bits.Add64"], unfollowed := true, recurses := true, named := ["math/bits.divideError", "math/bits.overflowError"], apart := false }
def AffineOrderSaid : Prop := affineOrderRow.holds Tryz.pinned (OpenSpec.ofChange affineOrderSpec)

/-- ITS FALSE NEIGHBOUR: 'it returns false'. Refute it at one input. -/
def affineOrderWrong : ChangeSpec := { name := "affineOrder", fn := fun _ => fun
  | [d1, d2] => { results := [.lit (.bool false)], args := [d1, d2] }
  | _ => none }
def AffineOrderWrongFalsely : Prop := affineOrderRow.holds Tryz.pinned (OpenSpec.ofChange affineOrderWrong)

/- THE SECOND FORM. 'bulk': how many values and letters a reading holds, each counted each time it is reached (what is shared counts as often as it is met; a slice's spare places count too). A statement '..UptoSaid' is the law's where the arguments, and the package variables that the reading takes, are together of bulk at most 1048576: NARROWER than '..Said'. Prove '..Said' where nothing that the law and all that it calls make is longer than what came in: it says more and counts as full. Else prove '..UptoSaid'. A law counts once. -/
mutual
def uptoBulk {H : Type} : DataW H → Nat
  | .lit (.string bytes) => bytes.length + 1
  | .lit _ => 1
  | .nil => 1
  | .ptr d => uptoBulk d + 1
  | .slice elems spare => uptoBulkAll elems + uptoBulkAll spare + 1
  | .agg parts => uptoBulkAll parts + 1
  | .iface _ d => uptoBulk d + 1
  | .map entries => uptoBulkEntries entries + 1
  | .held _ => 1
def uptoBulkAll {H : Type} : List (DataW H) → Nat
  | [] => 0
  | d :: r => uptoBulk d + uptoBulkAll r
def uptoBulkEntries {H : Type} : List (Lit × DataW H) → Nat
  | [] => 0
  | x :: r => uptoBulkEntry x + uptoBulkEntries r
def uptoBulkEntry {H : Type} : Lit × DataW H → Nat
  | (.string bytes, d) => bytes.length + uptoBulk d + 1
  | (_, d) => uptoBulk d + 1
 end
def uptoSmall : (H : Type) → List (DataW H) → Bool := fun _ ds => decide (uptoBulkAll ds ≤ 1048576)
def OpenSpec.upto (s : _root_.Go.ChangeSpec) : _root_.Go.OpenSpec := { _root_.Go.OpenSpec.ofChange s with cond := some uptoSmall }

/-- 'curvetlaw14.Affines', WHERE WHAT IT READS IS OF BULK AT MOST 1048576: true; the input reads as it did. -/
def affinesUptoRow : OpenClaim := { program := "ytffhepbppiocbaagreat", sum := "1028ec30192bedaa01816b86a82d1204ebdd85d88c573e841c7a49557b2c3a02", func := "curvet/curvetlaw14.Affines", spec := "affines", inPlace := ["math/bits.Sub64", "math/bits.Add64"], unfollowed := true, recurses := true, named := ["math/bits.divideError", "math/bits.overflowError"], apart := false, narrowed := true }
def AffinesUptoSaid : Prop := affinesUptoRow.holds Tryz.pinned (OpenSpec.upto affinesSpec)

/-- 'curvetlaw14.AffineTimes', WHERE WHAT IT READS IS OF BULK AT MOST 1048576: true; the input reads as it did. -/
def affineTimesUptoRow : OpenClaim := { program := "ytffhepbppiocbaagreat", sum := "1028ec30192bedaa01816b86a82d1204ebdd85d88c573e841c7a49557b2c3a02", func := "curvet/curvetlaw14.AffineTimes", spec := "affineTimes", inPlace := ["math/bits.Sub64", "math/bits.Add64"], unfollowed := true, recurses := true, named := ["math/bits.divideError", "math/bits.overflowError"], apart := false, narrowed := true }
def AffineTimesUptoSaid : Prop := affineTimesUptoRow.holds Tryz.pinned (OpenSpec.upto affineTimesSpec)

/-- 'curvetlaw14.AffineWalk', WHERE WHAT IT READS IS OF BULK AT MOST 1048576: true; the input reads as it did. -/
def affineWalkUptoRow : OpenClaim := { program := "ytffhepbppiocbaagreat", sum := "1028ec30192bedaa01816b86a82d1204ebdd85d88c573e841c7a49557b2c3a02", func := "curvet/curvetlaw14.AffineWalk", spec := "affineWalk", inPlace := ["math/bits.Sub64", "math/bits.Add64"], unfollowed := true, recurses := true, named := ["math/bits.divideError", "math/bits.overflowError"], apart := false, narrowed := true }
def AffineWalkUptoSaid : Prop := affineWalkUptoRow.holds Tryz.pinned (OpenSpec.upto affineWalkSpec)

/-- 'curvetlaw14.AffineGroup', WHERE WHAT IT READS IS OF BULK AT MOST 1048576: true; the input reads as it did. -/
def affineGroupUptoRow : OpenClaim := { program := "ytffhepbppiocbaagreat", sum := "1028ec30192bedaa01816b86a82d1204ebdd85d88c573e841c7a49557b2c3a02", func := "curvet/curvetlaw14.AffineGroup", spec := "affineGroup", inPlace := ["math/bits.Sub64", "math/bits.Add64"], unfollowed := true, recurses := true, named := ["math/bits.divideError", "math/bits.overflowError"], apart := false, narrowed := true }
def AffineGroupUptoSaid : Prop := affineGroupUptoRow.holds Tryz.pinned (OpenSpec.upto affineGroupSpec)

/-- 'curvetlaw14.AffineSplits', WHERE WHAT IT READS IS OF BULK AT MOST 1048576: true; the input reads as it did. -/
def affineSplitsUptoRow : OpenClaim := { program := "ytffhepbppiocbaagreat", sum := "1028ec30192bedaa01816b86a82d1204ebdd85d88c573e841c7a49557b2c3a02", func := "curvet/curvetlaw14.AffineSplits", spec := "affineSplits", inPlace := ["math/bits.Sub64", "math/bits.Add64"], unfollowed := true, recurses := true, named := ["math/bits.divideError", "math/bits.overflowError"], apart := false, narrowed := true }
def AffineSplitsUptoSaid : Prop := affineSplitsUptoRow.holds Tryz.pinned (OpenSpec.upto affineSplitsSpec)

/-- 'curvetlaw14.AffineOrder', WHERE WHAT IT READS IS OF BULK AT MOST 1048576: true; the input reads as it did. -/
def affineOrderUptoRow : OpenClaim := { program := "ytffhepbppiocbaagreat", sum := "1028ec30192bedaa01816b86a82d1204ebdd85d88c573e841c7a49557b2c3a02", func := "curvet/curvetlaw14.AffineOrder", spec := "affineOrder", inPlace := ["math/bits.Sub64", "math/bits.Add64"], unfollowed := true, recurses := true, named := ["math/bits.divideError", "math/bits.overflowError"], apart := false, narrowed := true }
def AffineOrderUptoSaid : Prop := affineOrderUptoRow.holds Tryz.pinned (OpenSpec.upto affineOrderSpec)

end Rows
end Go.Proofs.YtffhepbppiocbaaGreat
