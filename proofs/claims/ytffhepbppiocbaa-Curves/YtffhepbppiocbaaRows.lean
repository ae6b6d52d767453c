/-
  No cell of these rows narrows 'for every input' (looked for: loops, veiled, ifaces, maps, wideKeys, modest, calm, conditions, laid).
  DERIVED. THE GIVEN ROWS OF THIS SEAT. 6 by the template 'for every input the law returns true; each argument reads behind the call as it read before'; 0 by the template 'total and deterministic' (their statements: YtffhepbppiocbaaTotals.lean).
  GIVEN WITH THE SEED: the statements are not yours to turn. If you find one false, say at which input.
  Laid BY PROGRAM, IN A SANDBOX (cutbox-rows.mjs): the forced cells as the released guide's own fill.sh prints them over the translation 496eeedf749f01b4… (all of the seat's roots in one cut). By AI agents, Wed Nov 11 2026. No macro, syntax, notation, axiom, sorry.
-/
import Derived.Test.YtffhepbppiocbaaChecked
import GoSem.Claim
import GoSem.ClaimJoined
import GoSem.ClaimMapViews
import Derived.JoinedTies
import Derived.KernelRfl
namespace Go.Proofs.Ytffhepbppiocbaa
/- THE CELL 'sum', in the pinned program and in every row, IS THE sha256 OF THE DUMP (.gsa) THAT YtffhepbppiocbaaProg.lean LOADS. Nothing in Lean hashes anything: it is a label: what it is worth is what the hold of that sum in a sandbox is worth. -/
noncomputable def Try.pinned : Pinned := { name := "ytffhepbppiocbaa", sum := "496eeedf749f01b46603ff796c3853a148a81cca632aa6161190aac9a898d172", checked := Try.checked }
namespace Rows
def none {H : Type} : Left H := { results := [], args := [] }

/-- 'curvetlaw13.Curves': WHATEVER THE INPUT: true; the input reads as it did. -/
def curvesSpec : ChangeSpec := { name := "curves", fn := fun _ => fun
  | [d] => { results := [.lit (.bool true)], args := [d] }
  | _ => none }
def curvesRow : OpenClaim := { program := "ytffhepbppiocbaa", sum := "496eeedf749f01b46603ff796c3853a148a81cca632aa6161190aac9a898d172", func := "curvet/curvetlaw13.Curves", spec := "curves", inPlace := ["math/bits.Sub64", "math/bits.Add64"], unfollowed := true, recurses := true, named := ["math/bits.divideError", "math/bits.overflowError"], apart := false }
def CurvesSaid : Prop := curvesRow.holds Try.pinned (OpenSpec.ofChange curvesSpec)

/-- ITS FALSE NEIGHBOUR: 'it returns false'. Refute it at one input. -/
def curvesWrong : ChangeSpec := { name := "curves", fn := fun _ => fun
  | [d] => { results := [.lit (.bool false)], args := [d] }
  | _ => none }
def CurvesWrongFalsely : Prop := curvesRow.holds Try.pinned (OpenSpec.ofChange curvesWrong)

/-- 'curvetlaw13.CurveOns': WHATEVER THE INPUT: true; the input reads as it did. -/
def curveOnsSpec : ChangeSpec := { name := "curveOns", fn := fun _ => fun
  | [d1, d2] => { results := [.lit (.bool true)], args := [d1, d2] }
  | _ => none }
def curveOnsRow : OpenClaim := { program := "ytffhepbppiocbaa", sum := "496eeedf749f01b46603ff796c3853a148a81cca632aa6161190aac9a898d172", func := "curvet/curvetlaw13.CurveOns", spec := "curveOns", inPlace := ["math/bits.Sub64", "math/bits.Add64"], unfollowed := true, recurses := true, named := ["math/bits.divideError", "math/bits.overflowError"], apart := false }
def CurveOnsSaid : Prop := curveOnsRow.holds Try.pinned (OpenSpec.ofChange curveOnsSpec)

/-- ITS FALSE NEIGHBOUR: 'it returns false'. Refute it at one input. -/
def curveOnsWrong : ChangeSpec := { name := "curveOns", fn := fun _ => fun
  | [d1, d2] => { results := [.lit (.bool false)], args := [d1, d2] }
  | _ => none }
def CurveOnsWrongFalsely : Prop := curveOnsRow.holds Try.pinned (OpenSpec.ofChange curveOnsWrong)

/-- 'curvetlaw13.CurveSound': WHATEVER THE INPUT: true; the input reads as it did. -/
def curveSoundSpec : ChangeSpec := { name := "curveSound", fn := fun _ => fun
  | [d] => { results := [.lit (.bool true)], args := [d] }
  | _ => none }
def curveSoundRow : OpenClaim := { program := "ytffhepbppiocbaa", sum := "496eeedf749f01b46603ff796c3853a148a81cca632aa6161190aac9a898d172", func := "curvet/curvetlaw13.CurveSound", spec := "curveSound", inPlace := ["math/bits.Sub64", "math/bits.Add64"], unfollowed := true, recurses := true, named := ["math/bits.divideError", "math/bits.overflowError"], apart := false }
def CurveSoundSaid : Prop := curveSoundRow.holds Try.pinned (OpenSpec.ofChange curveSoundSpec)

/-- ITS FALSE NEIGHBOUR: 'it returns false'. Refute it at one input. -/
def curveSoundWrong : ChangeSpec := { name := "curveSound", fn := fun _ => fun
  | [d] => { results := [.lit (.bool false)], args := [d] }
  | _ => none }
def CurveSoundWrongFalsely : Prop := curveSoundRow.holds Try.pinned (OpenSpec.ofChange curveSoundWrong)

/-- 'curvetlaw13.CurveNumbers': WHATEVER THE INPUT: true; the input reads as it did. -/
def curveNumbersSpec : ChangeSpec := { name := "curveNumbers", fn := fun _ => fun
  | [d] => { results := [.lit (.bool true)], args := [d] }
  | _ => none }
def curveNumbersRow : OpenClaim := { program := "ytffhepbppiocbaa", sum := "496eeedf749f01b46603ff796c3853a148a81cca632aa6161190aac9a898d172", func := "curvet/curvetlaw13.CurveNumbers", spec := "curveNumbers", inPlace := ["math/bits.Sub64", "math/bits.Add64"], unfollowed := true, recurses := true, named := ["math/bits.divideError", "math/bits.overflowError"], apart := false }
def CurveNumbersSaid : Prop := curveNumbersRow.holds Try.pinned (OpenSpec.ofChange curveNumbersSpec)

/-- ITS FALSE NEIGHBOUR: 'it returns false'. Refute it at one input. -/
def curveNumbersWrong : ChangeSpec := { name := "curveNumbers", fn := fun _ => fun
  | [d] => { results := [.lit (.bool false)], args := [d] }
  | _ => none }
def CurveNumbersWrongFalsely : Prop := curveNumbersRow.holds Try.pinned (OpenSpec.ofChange curveNumbersWrong)

/-- 'curvetlaw13.CurveOff': WHATEVER THE INPUT: true; the input reads as it did. -/
def curveOffSpec : ChangeSpec := { name := "curveOff", fn := fun _ => fun
  | [d1, d2, d3] => { results := [.lit (.bool true)], args := [d1, d2, d3] }
  | _ => none }
def curveOffRow : OpenClaim := { program := "ytffhepbppiocbaa", sum := "496eeedf749f01b46603ff796c3853a148a81cca632aa6161190aac9a898d172", func := "curvet/curvetlaw13.CurveOff", spec := "curveOff", inPlace := ["math/bits.Sub64", "math/bits.Add64"], unfollowed := true, recurses := true, named := ["math/bits.divideError", "math/bits.overflowError"], apart := false }
def CurveOffSaid : Prop := curveOffRow.holds Try.pinned (OpenSpec.ofChange curveOffSpec)

/-- ITS FALSE NEIGHBOUR: 'it returns false'. Refute it at one input. -/
def curveOffWrong : ChangeSpec := { name := "curveOff", fn := fun _ => fun
  | [d1, d2, d3] => { results := [.lit (.bool false)], args := [d1, d2, d3] }
  | _ => none }
def CurveOffWrongFalsely : Prop := curveOffRow.holds Try.pinned (OpenSpec.ofChange curveOffWrong)

/-- 'curvetlaw13.CurveTiny': WHATEVER THE INPUT: true; the input reads as it did. -/
def curveTinySpec : ChangeSpec := { name := "curveTiny", fn := fun _ => fun
  | [d] => { results := [.lit (.bool true)], args := [d] }
  | _ => none }
def curveTinyRow : OpenClaim := { program := "ytffhepbppiocbaa", sum := "496eeedf749f01b46603ff796c3853a148a81cca632aa6161190aac9a898d172", func := "curvet/curvetlaw13.CurveTiny", spec := "curveTiny", inPlace := ["math/bits.Sub64", "math/bits.Add64"], unfollowed := true, recurses := true, named := ["math/bits.divideError", "math/bits.overflowError"], apart := false }
def CurveTinySaid : Prop := curveTinyRow.holds Try.pinned (OpenSpec.ofChange curveTinySpec)

/-- ITS FALSE NEIGHBOUR: 'it returns false'. Refute it at one input. -/
def curveTinyWrong : ChangeSpec := { name := "curveTiny", fn := fun _ => fun
  | [d] => { results := [.lit (.bool false)], args := [d] }
  | _ => none }
def CurveTinyWrongFalsely : Prop := curveTinyRow.holds Try.pinned (OpenSpec.ofChange curveTinyWrong)

/- THE SECOND FORM. 'bulk': how many values and letters a reading holds, each counted each time it is reached (what is shared counts as often as it is met; a slice's spare places count too). A statement '..UptoSaid' is the law's where the arguments, and the package variables that the reading takes, are together of bulk at most 1048576: NARROWER than '..Said'. Prove '..Said' where nothing that the law and all that it calls make is longer than what came in: it says more and counts as full. Else prove '..UptoSaid'. A law counts once. -/
mutual
def uptoBulk {H : Type} : DataW H → Nat
  | .lit (.string bytes) => bytes.length + 1
  | .lit _ => 1
  | .nil => 1
  | .ptr d => uptoBulk d + 1
  | .slice elems spare => uptoBulkAll elems + uptoBulkAll spare + 1
  | .agg parts => uptoBulkAll parts + 1
  | .iface _ d => uptoBulk d + 1
  | .map entries => uptoBulkEntries entries + 1
  | .held _ => 1
def uptoBulkAll {H : Type} : List (DataW H) → Nat
  | [] => 0
  | d :: r => uptoBulk d + uptoBulkAll r
def uptoBulkEntries {H : Type} : List (Lit × DataW H) → Nat
  | [] => 0
  | x :: r => uptoBulkEntry x + uptoBulkEntries r
def uptoBulkEntry {H : Type} : Lit × DataW H → Nat
  | (.string bytes, d) => bytes.length + uptoBulk d + 1
  | (_, d) => uptoBulk d + 1
 end
def uptoSmall : (H : Type) → List (DataW H) → Bool := fun _ ds => decide (uptoBulkAll ds ≤ 1048576)
def OpenSpec.upto (s : _root_.Go.ChangeSpec) : _root_.Go.OpenSpec := { _root_.Go.OpenSpec.ofChange s with cond := some uptoSmall }

/-- 'curvetlaw13.Curves', WHERE WHAT IT READS IS OF BULK AT MOST 1048576: true; the input reads as it did. -/
def curvesUptoRow : OpenClaim := { program := "ytffhepbppiocbaa", sum := "496eeedf749f01b46603ff796c3853a148a81cca632aa6161190aac9a898d172", func := "curvet/curvetlaw13.Curves", spec := "curves", inPlace := ["math/bits.Sub64", "math/bits.Add64"], unfollowed := true, recurses := true, named := ["math/bits.divideError", "math/bits.overflowError"], apart := false, narrowed := true }
def CurvesUptoSaid : Prop := curvesUptoRow.holds Try.pinned (OpenSpec.upto curvesSpec)

/-- 'curvetlaw13.CurveOns', WHERE WHAT IT READS IS OF BULK AT MOST 1048576: true; the input reads as it did. -/
def curveOnsUptoRow : OpenClaim := { program := "ytffhepbppiocbaa", sum := "496eeedf749f01b46603ff796c3853a148a81cca632aa6161190aac9a898d172", func := "curvet/curvetlaw13.CurveOns", spec := "curveOns", inPlace := ["math/bits.Sub64", "math/bits.Add64"], unfollowed := true, recurses := true, named := ["math/bits.divideError", "math/bits.overflowError"], apart := false, narrowed := true }
def CurveOnsUptoSaid : Prop := curveOnsUptoRow.holds Try.pinned (OpenSpec.upto curveOnsSpec)

/-- 'curvetlaw13.CurveSound', WHERE WHAT IT READS IS OF BULK AT MOST 1048576: true; the input reads as it did. -/
def curveSoundUptoRow : OpenClaim := { program := "ytffhepbppiocbaa", sum := "496eeedf749f01b46603ff796c3853a148a81cca632aa6161190aac9a898d172", func := "curvet/curvetlaw13.CurveSound", spec := "curveSound", inPlace := ["math/bits.Sub64", "math/bits.Add64"], unfollowed := true, recurses := true, named := ["math/bits.divideError", "math/bits.overflowError"], apart := false, narrowed := true }
def CurveSoundUptoSaid : Prop := curveSoundUptoRow.holds Try.pinned (OpenSpec.upto curveSoundSpec)

/-- 'curvetlaw13.CurveNumbers', WHERE WHAT IT READS IS OF BULK AT MOST 1048576: true; the input reads as it did. -/
def curveNumbersUptoRow : OpenClaim := { program := "ytffhepbppiocbaa", sum := "496eeedf749f01b46603ff796c3853a148a81cca632aa6161190aac9a898d172", func := "curvet/curvetlaw13.CurveNumbers", spec := "curveNumbers", inPlace := ["math/bits.Sub64", "math/bits.Add64"], unfollowed := true, recurses := true, named := ["math/bits.divideError", "math/bits.overflowError"], apart := false, narrowed := true }
def CurveNumbersUptoSaid : Prop := curveNumbersUptoRow.holds Try.pinned (OpenSpec.upto curveNumbersSpec)

/-- 'curvetlaw13.CurveOff', WHERE WHAT IT READS IS OF BULK AT MOST 1048576: true; the input reads as it did. -/
def curveOffUptoRow : OpenClaim := { program := "ytffhepbppiocbaa", sum := "496eeedf749f01b46603ff796c3853a148a81cca632aa6161190aac9a898d172", func := "curvet/curvetlaw13.CurveOff", spec := "curveOff", inPlace := ["math/bits.Sub64", "math/bits.Add64"], unfollowed := true, recurses := true, named := ["math/bits.divideError", "math/bits.overflowError"], apart := false, narrowed := true }
def CurveOffUptoSaid : Prop := curveOffUptoRow.holds Try.pinned (OpenSpec.upto curveOffSpec)

/-- 'curvetlaw13.CurveTiny', WHERE WHAT IT READS IS OF BULK AT MOST 1048576: true; the input reads as it did. -/
def curveTinyUptoRow : OpenClaim := { program := "ytffhepbppiocbaa", sum := "496eeedf749f01b46603ff796c3853a148a81cca632aa6161190aac9a898d172", func := "curvet/curvetlaw13.CurveTiny", spec := "curveTiny", inPlace := ["math/bits.Sub64", "math/bits.Add64"], unfollowed := true, recurses := true, named := ["math/bits.divideError", "math/bits.overflowError"], apart := false, narrowed := true }
def CurveTinyUptoSaid : Prop := curveTinyUptoRow.holds Try.pinned (OpenSpec.upto curveTinySpec)

end Rows
end Go.Proofs.Ytffhepbppiocbaa
