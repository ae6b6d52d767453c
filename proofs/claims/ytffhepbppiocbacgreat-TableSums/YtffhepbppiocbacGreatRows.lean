/-
  No cell of these rows narrows 'for every input' (looked for: loops, veiled, ifaces, maps, wideKeys, modest, calm, conditions, laid).
  DERIVED. THE GIVEN ROWS OF THIS SEAT. 12 by the template 'for every input the law returns true; each argument reads behind the call as it read before'; 0 by the template 'total and deterministic' (their statements: YtffhepbppiocbacGreatTotals.lean).
  GIVEN WITH THE SEED: the statements are not yours to turn. If you find one false, say at which input.
  Laid BY PROGRAM, IN A SANDBOX (cutbox-rows.mjs): the forced cells as the released guide's own fill.sh prints them over the translation ed2fdd3475bcd017… (all of the seat's roots in one cut). By AI agents, Wed Nov 11 2026. No macro, syntax, notation, axiom, sorry.
-/
import Derived.Test.YtffhepbppiocbacGreatChecked
import GoSem.Claim
import GoSem.ClaimJoined
import GoSem.ClaimMapViews
import Derived.JoinedTies
import Derived.KernelRfl
namespace Go.Proofs.YtffhepbppiocbacGreat
/- THE CELL 'sum', in the pinned program and in every row, IS THE sha256 OF THE DUMP (.gsa) THAT YtffhepbppiocbacGreatProg.lean LOADS. Nothing in Lean hashes anything: it is a label: what it is worth is what the hold of that sum in a sandbox is worth. -/
noncomputable def Tryz.pinned : Pinned := { name := "ytffhepbppiocbacgreat", sum := "ed2fdd3475bcd017c47fcfb50fdb24bef6b3bafcdf2a38acd5674c2fec87b87b", checked := Tryz.checked }
namespace Rows
def none {H : Type} : Left H := { results := [], args := [] }

/-- 'curvetlaw16.TableSums': WHATEVER THE INPUT: true; the input reads as it did. -/
def tableSumsSpec : ChangeSpec := { name := "tableSums", fn := fun _ => fun
  | [d1, d2, d3, d4] => { results := [.lit (.bool true)], args := [d1, d2, d3, d4] }
  | _ => none }
def tableSumsRow : OpenClaim := { program := "ytffhepbppiocbacgreat", sum := "ed2fdd3475bcd017c47fcfb50fdb24bef6b3bafcdf2a38acd5674c2fec87b87b", func := "curvet/curvetlaw16.TableSums", spec := "tableSums", inPlace := ["math/bits.Sub64", "math/bits.Add64"], unfollowed := true, recurses := true, named := ["math/bits.divideError", "math/bits.overflowError"], apart := false }
def TableSumsSaid : Prop := tableSumsRow.holds Tryz.pinned (OpenSpec.ofChange tableSumsSpec)

/-- ITS FALSE NEIGHBOUR: 'it returns false'. Refute it at one input. -/
def tableSumsWrong : ChangeSpec := { name := "tableSums", fn := fun _ => fun
  | [d1, d2, d3, d4] => { results := [.lit (.bool false)], args := [d1, d2, d3, d4] }
  | _ => none }
def TableSumsWrongFalsely : Prop := tableSumsRow.holds Tryz.pinned (OpenSpec.ofChange tableSumsWrong)

/-- 'curvetlaw16.TableSizes': WHATEVER THE INPUT: true; the input reads as it did. -/
def tableSizesSpec : ChangeSpec := { name := "tableSizes", fn := fun _ => fun
  | [d1, d2, d3] => { results := [.lit (.bool true)], args := [d1, d2, d3] }
  | _ => none }
def tableSizesRow : OpenClaim := { program := "ytffhepbppiocbacgreat", sum := "ed2fdd3475bcd017c47fcfb50fdb24bef6b3bafcdf2a38acd5674c2fec87b87b", func := "curvet/curvetlaw16.TableSizes", spec := "tableSizes", inPlace := ["math/bits.Sub64", "math/bits.Add64"], unfollowed := true, recurses := true, named := ["math/bits.divideError", "math/bits.overflowError"], apart := false }
def TableSizesSaid : Prop := tableSizesRow.holds Tryz.pinned (OpenSpec.ofChange tableSizesSpec)

/-- ITS FALSE NEIGHBOUR: 'it returns false'. Refute it at one input. -/
def tableSizesWrong : ChangeSpec := { name := "tableSizes", fn := fun _ => fun
  | [d1, d2, d3] => { results := [.lit (.bool false)], args := [d1, d2, d3] }
  | _ => none }
def TableSizesWrongFalsely : Prop := tableSizesRow.holds Tryz.pinned (OpenSpec.ofChange tableSizesWrong)

/-- 'curvetlaw16.TableNil': WHATEVER THE INPUT: true; the input reads as it did. -/
def tableNilSpec : ChangeSpec := { name := "tableNil", fn := fun _ => fun
  | [d1, d2, d3] => { results := [.lit (.bool true)], args := [d1, d2, d3] }
  | _ => none }
def tableNilRow : OpenClaim := { program := "ytffhepbppiocbacgreat", sum := "ed2fdd3475bcd017c47fcfb50fdb24bef6b3bafcdf2a38acd5674c2fec87b87b", func := "curvet/curvetlaw16.TableNil", spec := "tableNil", inPlace := ["math/bits.Sub64", "math/bits.Add64"], unfollowed := true, recurses := true, named := ["math/bits.divideError", "math/bits.overflowError"], apart := false }
def TableNilSaid : Prop := tableNilRow.holds Tryz.pinned (OpenSpec.ofChange tableNilSpec)

/-- ITS FALSE NEIGHBOUR: 'it returns false'. Refute it at one input. -/
def tableNilWrong : ChangeSpec := { name := "tableNil", fn := fun _ => fun
  | [d1, d2, d3] => { results := [.lit (.bool false)], args := [d1, d2, d3] }
  | _ => none }
def TableNilWrongFalsely : Prop := tableNilRow.holds Tryz.pinned (OpenSpec.ofChange tableNilWrong)

/-- 'curvetlaw18.Mults': WHATEVER THE INPUT: true; the input reads as it did. -/
def multsSpec : ChangeSpec := { name := "mults", fn := fun _ => fun
  | [d1, d2, d3] => { results := [.lit (.bool true)], args := [d1, d2, d3] }
  | _ => none }
def multsRow : OpenClaim := { program := "ytffhepbppiocbacgreat", sum := "ed2fdd3475bcd017c47fcfb50fdb24bef6b3bafcdf2a38acd5674c2fec87b87b", func := "curvet/curvetlaw18.Mults", spec := "mults", inPlace := ["math/bits.Sub64", "math/bits.Add64"], unfollowed := true, recurses := true, named := ["math/bits.divideError", "math/bits.overflowError"], apart := false }
def MultsSaid : Prop := multsRow.holds Tryz.pinned (OpenSpec.ofChange multsSpec)

/-- ITS FALSE NEIGHBOUR: 'it returns false'. Refute it at one input. -/
def multsWrong : ChangeSpec := { name := "mults", fn := fun _ => fun
  | [d1, d2, d3] => { results := [.lit (.bool false)], args := [d1, d2, d3] }
  | _ => none }
def MultsWrongFalsely : Prop := multsRow.holds Tryz.pinned (OpenSpec.ofChange multsWrong)

/-- 'curvetlaw18.MultBlind': WHATEVER THE INPUT: true; the input reads as it did. -/
def multBlindSpec : ChangeSpec := { name := "multBlind", fn := fun _ => fun
  | [d1, d2, d3, d4, d5] => { results := [.lit (.bool true)], args := [d1, d2, d3, d4, d5] }
  | _ => none }
def multBlindRow : OpenClaim := { program := "ytffhepbppiocbacgreat", sum := "ed2fdd3475bcd017c47fcfb50fdb24bef6b3bafcdf2a38acd5674c2fec87b87b", func := "curvet/curvetlaw18.MultBlind", spec := "multBlind", inPlace := ["math/bits.Sub64", "math/bits.Add64"], unfollowed := true, recurses := true, named := ["math/bits.divideError", "math/bits.overflowError"], apart := false }
def MultBlindSaid : Prop := multBlindRow.holds Tryz.pinned (OpenSpec.ofChange multBlindSpec)

/-- ITS FALSE NEIGHBOUR: 'it returns false'. Refute it at one input. -/
def multBlindWrong : ChangeSpec := { name := "multBlind", fn := fun _ => fun
  | [d1, d2, d3, d4, d5] => { results := [.lit (.bool false)], args := [d1, d2, d3, d4, d5] }
  | _ => none }
def MultBlindWrongFalsely : Prop := multBlindRow.holds Tryz.pinned (OpenSpec.ofChange multBlindWrong)

/-- 'curvetlaw18.MultEnds': WHATEVER THE INPUT: true; the input reads as it did. -/
def multEndsSpec : ChangeSpec := { name := "multEnds", fn := fun _ => fun
  | [d1, d2] => { results := [.lit (.bool true)], args := [d1, d2] }
  | _ => none }
def multEndsRow : OpenClaim := { program := "ytffhepbppiocbacgreat", sum := "ed2fdd3475bcd017c47fcfb50fdb24bef6b3bafcdf2a38acd5674c2fec87b87b", func := "curvet/curvetlaw18.MultEnds", spec := "multEnds", inPlace := ["math/bits.Sub64", "math/bits.Add64"], unfollowed := true, recurses := true, named := ["math/bits.divideError", "math/bits.overflowError"], apart := false }
def MultEndsSaid : Prop := multEndsRow.holds Tryz.pinned (OpenSpec.ofChange multEndsSpec)

/-- ITS FALSE NEIGHBOUR: 'it returns false'. Refute it at one input. -/
def multEndsWrong : ChangeSpec := { name := "multEnds", fn := fun _ => fun
  | [d1, d2] => { results := [.lit (.bool false)], args := [d1, d2] }
  | _ => none }
def MultEndsWrongFalsely : Prop := multEndsRow.holds Tryz.pinned (OpenSpec.ofChange multEndsWrong)

/-- 'curvetlaw18.MultAdds': WHATEVER THE INPUT: true; the input reads as it did. -/
def multAddsSpec : ChangeSpec := { name := "multAdds", fn := fun _ => fun
  | [d1, d2, d3, d4] => { results := [.lit (.bool true)], args := [d1, d2, d3, d4] }
  | _ => none }
def multAddsRow : OpenClaim := { program := "ytffhepbppiocbacgreat", sum := "ed2fdd3475bcd017c47fcfb50fdb24bef6b3bafcdf2a38acd5674c2fec87b87b", func := "curvet/curvetlaw18.MultAdds", spec := "multAdds", inPlace := ["math/bits.Sub64", "math/bits.Add64"], unfollowed := true, recurses := true, named := ["math/bits.divideError", "math/bits.overflowError"], apart := false }
def MultAddsSaid : Prop := multAddsRow.holds Tryz.pinned (OpenSpec.ofChange multAddsSpec)

/-- ITS FALSE NEIGHBOUR: 'it returns false'. Refute it at one input. -/
def multAddsWrong : ChangeSpec := { name := "multAdds", fn := fun _ => fun
  | [d1, d2, d3, d4] => { results := [.lit (.bool false)], args := [d1, d2, d3, d4] }
  | _ => none }
def MultAddsWrongFalsely : Prop := multAddsRow.holds Tryz.pinned (OpenSpec.ofChange multAddsWrong)

/-- 'curvetlaw18.MultTwice': WHATEVER THE INPUT: true; the input reads as it did. -/
def multTwiceSpec : ChangeSpec := { name := "multTwice", fn := fun _ => fun
  | [d1, d2, d3, d4] => { results := [.lit (.bool true)], args := [d1, d2, d3, d4] }
  | _ => none }
def multTwiceRow : OpenClaim := { program := "ytffhepbppiocbacgreat", sum := "ed2fdd3475bcd017c47fcfb50fdb24bef6b3bafcdf2a38acd5674c2fec87b87b", func := "curvet/curvetlaw18.MultTwice", spec := "multTwice", inPlace := ["math/bits.Sub64", "math/bits.Add64"], unfollowed := true, recurses := true, named := ["math/bits.divideError", "math/bits.overflowError"], apart := false }
def MultTwiceSaid : Prop := multTwiceRow.holds Tryz.pinned (OpenSpec.ofChange multTwiceSpec)

/-- ITS FALSE NEIGHBOUR: 'it returns false'. Refute it at one input. -/
def multTwiceWrong : ChangeSpec := { name := "multTwice", fn := fun _ => fun
  | [d1, d2, d3, d4] => { results := [.lit (.bool false)], args := [d1, d2, d3, d4] }
  | _ => none }
def MultTwiceWrongFalsely : Prop := multTwiceRow.holds Tryz.pinned (OpenSpec.ofChange multTwiceWrong)

/-- 'curvetlaw18.MultTiny': WHATEVER THE INPUT: true; the input reads as it did. -/
def multTinySpec : ChangeSpec := { name := "multTiny", fn := fun _ => fun
  | [d1, d2] => { results := [.lit (.bool true)], args := [d1, d2] }
  | _ => none }
def multTinyRow : OpenClaim := { program := "ytffhepbppiocbacgreat", sum := "ed2fdd3475bcd017c47fcfb50fdb24bef6b3bafcdf2a38acd5674c2fec87b87b", func := "curvet/curvetlaw18.MultTiny", spec := "multTiny", inPlace := ["math/bits.Sub64", "math/bits.Add64"], unfollowed := true, recurses := true, named := ["math/bits.divideError", "math/bits.overflowError"], apart := false }
def MultTinySaid : Prop := multTinyRow.holds Tryz.pinned (OpenSpec.ofChange multTinySpec)

/-- ITS FALSE NEIGHBOUR: 'it returns false'. Refute it at one input. -/
def multTinyWrong : ChangeSpec := { name := "multTiny", fn := fun _ => fun
  | [d1, d2] => { results := [.lit (.bool false)], args := [d1, d2] }
  | _ => none }
def MultTinyWrongFalsely : Prop := multTinyRow.holds Tryz.pinned (OpenSpec.ofChange multTinyWrong)

/-- 'curvetlaw19.Bases': WHATEVER THE INPUT: true; the input reads as it did. -/
def basesSpec : ChangeSpec := { name := "bases", fn := fun _ => fun
  | [d1, d2] => { results := [.lit (.bool true)], args := [d1, d2] }
  | _ => none }
def basesRow : OpenClaim := { program := "ytffhepbppiocbacgreat", sum := "ed2fdd3475bcd017c47fcfb50fdb24bef6b3bafcdf2a38acd5674c2fec87b87b", func := "curvet/curvetlaw19.Bases", spec := "bases", inPlace := ["math/bits.Sub64", "math/bits.Add64"], unfollowed := true, recurses := true, named := ["math/bits.divideError", "math/bits.overflowError"], apart := false }
def BasesSaid : Prop := basesRow.holds Tryz.pinned (OpenSpec.ofChange basesSpec)

/-- ITS FALSE NEIGHBOUR: 'it returns false'. Refute it at one input. -/
def basesWrong : ChangeSpec := { name := "bases", fn := fun _ => fun
  | [d1, d2] => { results := [.lit (.bool false)], args := [d1, d2] }
  | _ => none }
def BasesWrongFalsely : Prop := basesRow.holds Tryz.pinned (OpenSpec.ofChange basesWrong)

/-- 'curvetlaw19.BaseBlind': WHATEVER THE INPUT: true; the input reads as it did. -/
def baseBlindSpec : ChangeSpec := { name := "baseBlind", fn := fun _ => fun
  | [d1, d2, d3] => { results := [.lit (.bool true)], args := [d1, d2, d3] }
  | _ => none }
def baseBlindRow : OpenClaim := { program := "ytffhepbppiocbacgreat", sum := "ed2fdd3475bcd017c47fcfb50fdb24bef6b3bafcdf2a38acd5674c2fec87b87b", func := "curvet/curvetlaw19.BaseBlind", spec := "baseBlind", inPlace := ["math/bits.Sub64", "math/bits.Add64"], unfollowed := true, recurses := true, named := ["math/bits.divideError", "math/bits.overflowError"], apart := false }
def BaseBlindSaid : Prop := baseBlindRow.holds Tryz.pinned (OpenSpec.ofChange baseBlindSpec)

/-- ITS FALSE NEIGHBOUR: 'it returns false'. Refute it at one input. -/
def baseBlindWrong : ChangeSpec := { name := "baseBlind", fn := fun _ => fun
  | [d1, d2, d3] => { results := [.lit (.bool false)], args := [d1, d2, d3] }
  | _ => none }
def BaseBlindWrongFalsely : Prop := baseBlindRow.holds Tryz.pinned (OpenSpec.ofChange baseBlindWrong)

/-- 'curvetlaw19.BaseSteps': WHATEVER THE INPUT: true; the input reads as it did. -/
def baseStepsSpec : ChangeSpec := { name := "baseSteps", fn := fun _ => fun
  | [d1, d2] => { results := [.lit (.bool true)], args := [d1, d2] }
  | _ => none }
def baseStepsRow : OpenClaim := { program := "ytffhepbppiocbacgreat", sum := "ed2fdd3475bcd017c47fcfb50fdb24bef6b3bafcdf2a38acd5674c2fec87b87b", func := "curvet/curvetlaw19.BaseSteps", spec := "baseSteps", inPlace := ["math/bits.Sub64", "math/bits.Add64"], unfollowed := true, recurses := true, named := ["math/bits.divideError", "math/bits.overflowError"], apart := false }
def BaseStepsSaid : Prop := baseStepsRow.holds Tryz.pinned (OpenSpec.ofChange baseStepsSpec)

/-- ITS FALSE NEIGHBOUR: 'it returns false'. Refute it at one input. -/
def baseStepsWrong : ChangeSpec := { name := "baseSteps", fn := fun _ => fun
  | [d1, d2] => { results := [.lit (.bool false)], args := [d1, d2] }
  | _ => none }
def BaseStepsWrongFalsely : Prop := baseStepsRow.holds Tryz.pinned (OpenSpec.ofChange baseStepsWrong)

/- THE SECOND FORM. 'bulk': how many values and letters a reading holds, each counted each time it is reached (what is shared counts as often as it is met; a slice's spare places count too). A statement '..UptoSaid' is the law's where the arguments, and the package variables that the reading takes, are together of bulk at most 1048576: NARROWER than '..Said'. Prove '..Said' where nothing that the law and all that it calls make is longer than what came in: it says more and counts as full. Else prove '..UptoSaid'. A law counts once. -/
mutual
def uptoBulk {H : Type} : DataW H → Nat
  | .lit (.string bytes) => bytes.length + 1
  | .lit _ => 1
  | .nil => 1
  | .ptr d => uptoBulk d + 1
  | .slice elems spare => uptoBulkAll elems + uptoBulkAll spare + 1
  | .agg parts => uptoBulkAll parts + 1
  | .iface _ d => uptoBulk d + 1
  | .map entries => uptoBulkEntries entries + 1
  | .held _ => 1
def uptoBulkAll {H : Type} : List (DataW H) → Nat
  | [] => 0
  | d :: r => uptoBulk d + uptoBulkAll r
def uptoBulkEntries {H : Type} : List (Lit × DataW H) → Nat
  | [] => 0
  | x :: r => uptoBulkEntry x + uptoBulkEntries r
def uptoBulkEntry {H : Type} : Lit × DataW H → Nat
  | (.string bytes, d) => bytes.length + uptoBulk d + 1
  | (_, d) => uptoBulk d + 1
 end
def uptoSmall : (H : Type) → List (DataW H) → Bool := fun _ ds => decide (uptoBulkAll ds ≤ 1048576)
def OpenSpec.upto (s : _root_.Go.ChangeSpec) : _root_.Go.OpenSpec := { _root_.Go.OpenSpec.ofChange s with cond := some uptoSmall }

/-- 'curvetlaw16.TableSums', WHERE WHAT IT READS IS OF BULK AT MOST 1048576: true; the input reads as it did. -/
def tableSumsUptoRow : OpenClaim := { program := "ytffhepbppiocbacgreat", sum := "ed2fdd3475bcd017c47fcfb50fdb24bef6b3bafcdf2a38acd5674c2fec87b87b", func := "curvet/curvetlaw16.TableSums", spec := "tableSums", inPlace := ["math/bits.Sub64", "math/bits.Add64"], unfollowed := true, recurses := true, named := ["math/bits.divideError", "math/bits.overflowError"], apart := false, narrowed := true }
def TableSumsUptoSaid : Prop := tableSumsUptoRow.holds Tryz.pinned (OpenSpec.upto tableSumsSpec)

/-- 'curvetlaw16.TableSizes', WHERE WHAT IT READS IS OF BULK AT MOST 1048576: true; the input reads as it did. -/
def tableSizesUptoRow : OpenClaim := { program := "ytffhepbppiocbacgreat", sum := "ed2fdd3475bcd017c47fcfb50fdb24bef6b3bafcdf2a38acd5674c2fec87b87b", func := "curvet/curvetlaw16.TableSizes", spec := "tableSizes", inPlace := ["math/bits.Sub64", "math/bits.Add64"], unfollowed := true, recurses := true, named := ["math/bits.divideError", "math/bits.overflowError"], apart := false, narrowed := true }
def TableSizesUptoSaid : Prop := tableSizesUptoRow.holds Tryz.pinned (OpenSpec.upto tableSizesSpec)

/-- 'curvetlaw16.TableNil', WHERE WHAT IT READS IS OF BULK AT MOST 1048576: true; the input reads as it did. -/
def tableNilUptoRow : OpenClaim := { program := "ytffhepbppiocbacgreat", sum := "ed2fdd3475bcd017c47fcfb50fdb24bef6b3bafcdf2a38acd5674c2fec87b87b", func := "curvet/curvetlaw16.TableNil", spec := "tableNil", inPlace := ["math/bits.Sub64", "math/bits.Add64"], unfollowed := true, recurses := true, named := ["math/bits.divideError", "math/bits.overflowError"], apart := false, narrowed := true }
def TableNilUptoSaid : Prop := tableNilUptoRow.holds Tryz.pinned (OpenSpec.upto tableNilSpec)

/-- 'curvetlaw18.Mults', WHERE WHAT IT READS IS OF BULK AT MOST 1048576: true; the input reads as it did. -/
def multsUptoRow : OpenClaim := { program := "ytffhepbppiocbacgreat", sum := "ed2fdd3475bcd017c47fcfb50fdb24bef6b3bafcdf2a38acd5674c2fec87b87b", func := "curvet/curvetlaw18.Mults", spec := "mults", inPlace := ["math/bits.Sub64", "math/bits.Add64"], unfollowed := true, recurses := true, named := ["math/bits.divideError", "math/bits.overflowError"], apart := false, narrowed := true }
def MultsUptoSaid : Prop := multsUptoRow.holds Tryz.pinned (OpenSpec.upto multsSpec)

/-- 'curvetlaw18.MultBlind', WHERE WHAT IT READS IS OF BULK AT MOST 1048576: true; the input reads as it did. -/
def multBlindUptoRow : OpenClaim := { program := "ytffhepbppiocbacgreat", sum := "ed2fdd3475bcd017c47fcfb50fdb24bef6b3bafcdf2a38acd5674c2fec87b87b", func := "curvet/curvetlaw18.MultBlind", spec := "multBlind", inPlace := ["math/bits.Sub64", "math/bits.Add64"], unfollowed := true, recurses := true, named := ["math/bits.divideError", "math/bits.overflowError"], apart := false, narrowed := true }
def MultBlindUptoSaid : Prop := multBlindUptoRow.holds Tryz.pinned (OpenSpec.upto multBlindSpec)

/-- 'curvetlaw18.MultEnds', WHERE WHAT IT READS IS OF BULK AT MOST 1048576: true; the input reads as it did. -/
def multEndsUptoRow : OpenClaim := { program := "ytffhepbppiocbacgreat", sum := "ed2fdd3475bcd017c47fcfb50fdb24bef6b3bafcdf2a38acd5674c2fec87b87b", func := "curvet/curvetlaw18.MultEnds", spec := "multEnds", inPlace := ["math/bits.Sub64", "math/bits.Add64"], unfollowed := true, recurses := true, named := ["math/bits.divideError", "math/bits.overflowError"], apart := false, narrowed := true }
def MultEndsUptoSaid : Prop := multEndsUptoRow.holds Tryz.pinned (OpenSpec.upto multEndsSpec)

/-- 'curvetlaw18.MultAdds', WHERE WHAT IT READS IS OF BULK AT MOST 1048576: true; the input reads as it did. -/
def multAddsUptoRow : OpenClaim := { program := "ytffhepbppiocbacgreat", sum := "ed2fdd3475bcd017c47fcfb50fdb24bef6b3bafcdf2a38acd5674c2fec87b87b", func := "curvet/curvetlaw18.MultAdds", spec := "multAdds", inPlace := ["math/bits.Sub64", "math/bits.Add64"], unfollowed := true, recurses := true, named := ["math/bits.divideError", "math/bits.overflowError"], apart := false, narrowed := true }
def MultAddsUptoSaid : Prop := multAddsUptoRow.holds Tryz.pinned (OpenSpec.upto multAddsSpec)

/-- 'curvetlaw18.MultTwice', WHERE WHAT IT READS IS OF BULK AT MOST 1048576: true; the input reads as it did. -/
def multTwiceUptoRow : OpenClaim := { program := "ytffhepbppiocbacgreat", sum := "ed2fdd3475bcd017c47fcfb50fdb24bef6b3bafcdf2a38acd5674c2fec87b87b", func := "curvet/curvetlaw18.MultTwice", spec := "multTwice", inPlace := ["math/bits.Sub64", "math/bits.Add64"], unfollowed := true, recurses := true, named := ["math/bits.divideError", "math/bits.overflowError"], apart := false, narrowed := true }
def MultTwiceUptoSaid : Prop := multTwiceUptoRow.holds Tryz.pinned (OpenSpec.upto multTwiceSpec)

/-- 'curvetlaw18.MultTiny', WHERE WHAT IT READS IS OF BULK AT MOST 1048576: true; the input reads as it did. -/
def multTinyUptoRow : OpenClaim := { program := "ytffhepbppiocbacgreat", sum := "ed2fdd3475bcd017c47fcfb50fdb24bef6b3bafcdf2a38acd5674c2fec87b87b", func := "curvet/curvetlaw18.MultTiny", spec := "multTiny", inPlace := ["math/bits.Sub64", "math/bits.Add64"], unfollowed := true, recurses := true, named := ["math/bits.divideError", "math/bits.overflowError"], apart := false, narrowed := true }
def MultTinyUptoSaid : Prop := multTinyUptoRow.holds Tryz.pinned (OpenSpec.upto multTinySpec)

/-- 'curvetlaw19.Bases', WHERE WHAT IT READS IS OF BULK AT MOST 1048576: true; the input reads as it did. -/
def basesUptoRow : OpenClaim := { program := "ytffhepbppiocbacgreat", sum := "ed2fdd3475bcd017c47fcfb50fdb24bef6b3bafcdf2a38acd5674c2fec87b87b", func := "curvet/curvetlaw19.Bases", spec := "bases", inPlace := ["math/bits.Sub64", "math/bits.Add64"], unfollowed := true, recurses := true, named := ["math/bits.divideError", "math/bits.overflowError"], apart := false, narrowed := true }
def BasesUptoSaid : Prop := basesUptoRow.holds Tryz.pinned (OpenSpec.upto basesSpec)

/-- 'curvetlaw19.BaseBlind', WHERE WHAT IT READS IS OF BULK AT MOST 1048576: true; the input reads as it did. -/
def baseBlindUptoRow : OpenClaim := { program := "ytffhepbppiocbacgreat", sum := "ed2fdd3475bcd017c47fcfb50fdb24bef6b3bafcdf2a38acd5674c2fec87b87b", func := "curvet/curvetlaw19.BaseBlind", spec := "baseBlind", inPlace := ["math/bits.Sub64", "math/bits.Add64"], unfollowed := true, recurses := true, named := ["math/bits.divideError", "math/bits.overflowError"], apart := false, narrowed := true }
def BaseBlindUptoSaid : Prop := baseBlindUptoRow.holds Tryz.pinned (OpenSpec.upto baseBlindSpec)

/-- 'curvetlaw19.BaseSteps', WHERE WHAT IT READS IS OF BULK AT MOST 1048576: true; the input reads as it did. -/
def baseStepsUptoRow : OpenClaim := { program := "ytffhepbppiocbacgreat", sum := "ed2fdd3475bcd017c47fcfb50fdb24bef6b3bafcdf2a38acd5674c2fec87b87b", func := "curvet/curvetlaw19.BaseSteps", spec := "baseSteps", inPlace := ["math/bits.Sub64", "math/bits.Add64"], unfollowed := true, recurses := true, named := ["math/bits.divideError", "math/bits.overflowError"], apart := false, narrowed := true }
def BaseStepsUptoSaid : Prop := baseStepsUptoRow.holds Tryz.pinned (OpenSpec.upto baseStepsSpec)

end Rows
end Go.Proofs.YtffhepbppiocbacGreat
