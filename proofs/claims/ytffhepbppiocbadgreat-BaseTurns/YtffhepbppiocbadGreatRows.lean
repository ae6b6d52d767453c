/-
  No cell of these rows narrows 'for every input' (looked for: loops, veiled, ifaces, maps, wideKeys, modest, calm, conditions, laid).
  DERIVED. THE GIVEN ROWS OF THIS SEAT. 6 by the template 'for every input the law returns true; each argument reads behind the call as it read before'; 0 by the template 'total and deterministic' (their statements: YtffhepbppiocbadGreatTotals.lean).
  GIVEN WITH THE SEED: the statements are not yours to turn. If you find one false, say at which input.
  Laid BY PROGRAM, IN A SANDBOX (cutbox-rows.mjs): the forced cells as the released guide's own fill.sh prints them over the translation d50de4139bbf831f… (all of the seat's roots in one cut). By AI agents, Wed Nov 11 2026. No macro, syntax, notation, axiom, sorry.
-/
import Derived.Test.YtffhepbppiocbadGreatChecked
import GoSem.Claim
import GoSem.ClaimJoined
import GoSem.ClaimMapViews
import Derived.JoinedTies
import Derived.KernelRfl
namespace Go.Proofs.YtffhepbppiocbadGreat
/- THE CELL 'sum', in the pinned program and in every row, IS THE sha256 OF THE DUMP (.gsa) THAT YtffhepbppiocbadGreatProg.lean LOADS. Nothing in Lean hashes anything: it is a label: what it is worth is what the hold of that sum in a sandbox is worth. -/
noncomputable def Tryz.pinned : Pinned := { name := "ytffhepbppiocbadgreat", sum := "d50de4139bbf831fcf7f013d552b9607cca4ef3bfb232e3b04815324f810f094", checked := Tryz.checked }
namespace Rows
def none {H : Type} : Left H := { results := [], args := [] }

/-- 'curvetlaw19.BaseTurns': WHATEVER THE INPUT: true; the input reads as it did. -/
def baseTurnsSpec : ChangeSpec := { name := "baseTurns", fn := fun _ => fun
  | [d1, d2, d3] => { results := [.lit (.bool true)], args := [d1, d2, d3] }
  | _ => none }
def baseTurnsRow : OpenClaim := { program := "ytffhepbppiocbadgreat", sum := "d50de4139bbf831fcf7f013d552b9607cca4ef3bfb232e3b04815324f810f094", func := "curvet/curvetlaw19.BaseTurns", spec := "baseTurns", inPlace := ["math/bits.Sub64", "math/bits.Add64"], unfollowed := true, recurses := true, named := ["math/bits.divideError", "math/bits.overflowError"], apart := false }
def BaseTurnsSaid : Prop := baseTurnsRow.holds Tryz.pinned (OpenSpec.ofChange baseTurnsSpec)

/-- ITS FALSE NEIGHBOUR: 'it returns false'. Refute it at one input. -/
def baseTurnsWrong : ChangeSpec := { name := "baseTurns", fn := fun _ => fun
  | [d1, d2, d3] => { results := [.lit (.bool false)], args := [d1, d2, d3] }
  | _ => none }
def BaseTurnsWrongFalsely : Prop := baseTurnsRow.holds Tryz.pinned (OpenSpec.ofChange baseTurnsWrong)

/-- 'curvetlaw19.BaseNil': WHATEVER THE INPUT: true; the input reads as it did. -/
def baseNilSpec : ChangeSpec := { name := "baseNil", fn := fun _ => fun
  | [d1, d2] => { results := [.lit (.bool true)], args := [d1, d2] }
  | _ => none }
def baseNilRow : OpenClaim := { program := "ytffhepbppiocbadgreat", sum := "d50de4139bbf831fcf7f013d552b9607cca4ef3bfb232e3b04815324f810f094", func := "curvet/curvetlaw19.BaseNil", spec := "baseNil", inPlace := ["math/bits.Sub64", "math/bits.Add64"], unfollowed := true, recurses := true, named := ["math/bits.divideError", "math/bits.overflowError"], apart := false }
def BaseNilSaid : Prop := baseNilRow.holds Tryz.pinned (OpenSpec.ofChange baseNilSpec)

/-- ITS FALSE NEIGHBOUR: 'it returns false'. Refute it at one input. -/
def baseNilWrong : ChangeSpec := { name := "baseNil", fn := fun _ => fun
  | [d1, d2] => { results := [.lit (.bool false)], args := [d1, d2] }
  | _ => none }
def BaseNilWrongFalsely : Prop := baseNilRow.holds Tryz.pinned (OpenSpec.ofChange baseNilWrong)

/-- 'curvetlaw20.Duals': WHATEVER THE INPUT: true; the input reads as it did. -/
def dualsSpec : ChangeSpec := { name := "duals", fn := fun _ => fun
  | [d1, d2, d3, d4] => { results := [.lit (.bool true)], args := [d1, d2, d3, d4] }
  | _ => none }
def dualsRow : OpenClaim := { program := "ytffhepbppiocbadgreat", sum := "d50de4139bbf831fcf7f013d552b9607cca4ef3bfb232e3b04815324f810f094", func := "curvet/curvetlaw20.Duals", spec := "duals", inPlace := ["math/bits.Sub64", "math/bits.Add64"], unfollowed := true, recurses := true, named := ["math/bits.divideError", "math/bits.overflowError"], apart := false }
def DualsSaid : Prop := dualsRow.holds Tryz.pinned (OpenSpec.ofChange dualsSpec)

/-- ITS FALSE NEIGHBOUR: 'it returns false'. Refute it at one input. -/
def dualsWrong : ChangeSpec := { name := "duals", fn := fun _ => fun
  | [d1, d2, d3, d4] => { results := [.lit (.bool false)], args := [d1, d2, d3, d4] }
  | _ => none }
def DualsWrongFalsely : Prop := dualsRow.holds Tryz.pinned (OpenSpec.ofChange dualsWrong)

/-- 'curvetlaw20.DualParts': WHATEVER THE INPUT: true; the input reads as it did. -/
def dualPartsSpec : ChangeSpec := { name := "dualParts", fn := fun _ => fun
  | [d1, d2, d3, d4] => { results := [.lit (.bool true)], args := [d1, d2, d3, d4] }
  | _ => none }
def dualPartsRow : OpenClaim := { program := "ytffhepbppiocbadgreat", sum := "d50de4139bbf831fcf7f013d552b9607cca4ef3bfb232e3b04815324f810f094", func := "curvet/curvetlaw20.DualParts", spec := "dualParts", inPlace := ["math/bits.Sub64", "math/bits.Add64"], unfollowed := true, recurses := true, named := ["math/bits.divideError", "math/bits.overflowError"], apart := false }
def DualPartsSaid : Prop := dualPartsRow.holds Tryz.pinned (OpenSpec.ofChange dualPartsSpec)

/-- ITS FALSE NEIGHBOUR: 'it returns false'. Refute it at one input. -/
def dualPartsWrong : ChangeSpec := { name := "dualParts", fn := fun _ => fun
  | [d1, d2, d3, d4] => { results := [.lit (.bool false)], args := [d1, d2, d3, d4] }
  | _ => none }
def DualPartsWrongFalsely : Prop := dualPartsRow.holds Tryz.pinned (OpenSpec.ofChange dualPartsWrong)

/-- 'curvetlaw20.DualAlone': WHATEVER THE INPUT: true; the input reads as it did. -/
def dualAloneSpec : ChangeSpec := { name := "dualAlone", fn := fun _ => fun
  | [d1, d2, d3, d4] => { results := [.lit (.bool true)], args := [d1, d2, d3, d4] }
  | _ => none }
def dualAloneRow : OpenClaim := { program := "ytffhepbppiocbadgreat", sum := "d50de4139bbf831fcf7f013d552b9607cca4ef3bfb232e3b04815324f810f094", func := "curvet/curvetlaw20.DualAlone", spec := "dualAlone", inPlace := ["math/bits.Sub64", "math/bits.Add64"], unfollowed := true, recurses := true, named := ["math/bits.divideError", "math/bits.overflowError"], apart := false }
def DualAloneSaid : Prop := dualAloneRow.holds Tryz.pinned (OpenSpec.ofChange dualAloneSpec)

/-- ITS FALSE NEIGHBOUR: 'it returns false'. Refute it at one input. -/
def dualAloneWrong : ChangeSpec := { name := "dualAlone", fn := fun _ => fun
  | [d1, d2, d3, d4] => { results := [.lit (.bool false)], args := [d1, d2, d3, d4] }
  | _ => none }
def DualAloneWrongFalsely : Prop := dualAloneRow.holds Tryz.pinned (OpenSpec.ofChange dualAloneWrong)

/-- 'curvetlaw20.DualTiny': WHATEVER THE INPUT: true; the input reads as it did. -/
def dualTinySpec : ChangeSpec := { name := "dualTiny", fn := fun _ => fun
  | [d1, d2, d3] => { results := [.lit (.bool true)], args := [d1, d2, d3] }
  | _ => none }
def dualTinyRow : OpenClaim := { program := "ytffhepbppiocbadgreat", sum := "d50de4139bbf831fcf7f013d552b9607cca4ef3bfb232e3b04815324f810f094", func := "curvet/curvetlaw20.DualTiny", spec := "dualTiny", inPlace := ["math/bits.Sub64", "math/bits.Add64"], unfollowed := true, recurses := true, named := ["math/bits.divideError", "math/bits.overflowError"], apart := false }
def DualTinySaid : Prop := dualTinyRow.holds Tryz.pinned (OpenSpec.ofChange dualTinySpec)

/-- ITS FALSE NEIGHBOUR: 'it returns false'. Refute it at one input. -/
def dualTinyWrong : ChangeSpec := { name := "dualTiny", fn := fun _ => fun
  | [d1, d2, d3] => { results := [.lit (.bool false)], args := [d1, d2, d3] }
  | _ => none }
def DualTinyWrongFalsely : Prop := dualTinyRow.holds Tryz.pinned (OpenSpec.ofChange dualTinyWrong)

/- THE SECOND FORM. 'bulk': how many values and letters a reading holds, each counted each time it is reached (what is shared counts as often as it is met; a slice's spare places count too). A statement '..UptoSaid' is the law's where the arguments, and the package variables that the reading takes, are together of bulk at most 1048576: NARROWER than '..Said'. Prove '..Said' where nothing that the law and all that it calls make is longer than what came in: it says more and counts as full. Else prove '..UptoSaid'. A law counts once. -/
mutual
def uptoBulk {H : Type} : DataW H → Nat
  | .lit (.string bytes) => bytes.length + 1
  | .lit _ => 1
  | .nil => 1
  | .ptr d => uptoBulk d + 1
  | .slice elems spare => uptoBulkAll elems + uptoBulkAll spare + 1
  | .agg parts => uptoBulkAll parts + 1
  | .iface _ d => uptoBulk d + 1
  | .map entries => uptoBulkEntries entries + 1
  | .held _ => 1
def uptoBulkAll {H : Type} : List (DataW H) → Nat
  | [] => 0
  | d :: r => uptoBulk d + uptoBulkAll r
def uptoBulkEntries {H : Type} : List (Lit × DataW H) → Nat
  | [] => 0
  | x :: r => uptoBulkEntry x + uptoBulkEntries r
def uptoBulkEntry {H : Type} : Lit × DataW H → Nat
  | (.string bytes, d) => bytes.length + uptoBulk d + 1
  | (_, d) => uptoBulk d + 1
 end
def uptoSmall : (H : Type) → List (DataW H) → Bool := fun _ ds => decide (uptoBulkAll ds ≤ 1048576)
def OpenSpec.upto (s : _root_.Go.ChangeSpec) : _root_.Go.OpenSpec := { _root_.Go.OpenSpec.ofChange s with cond := some uptoSmall }

/-- 'curvetlaw19.BaseTurns', WHERE WHAT IT READS IS OF BULK AT MOST 1048576: true; the input reads as it did. -/
def baseTurnsUptoRow : OpenClaim := { program := "ytffhepbppiocbadgreat", sum := "d50de4139bbf831fcf7f013d552b9607cca4ef3bfb232e3b04815324f810f094", func := "curvet/curvetlaw19.BaseTurns", spec := "baseTurns", inPlace := ["math/bits.Sub64", "math/bits.Add64"], unfollowed := true, recurses := true, named := ["math/bits.divideError", "math/bits.overflowError"], apart := false, narrowed := true }
def BaseTurnsUptoSaid : Prop := baseTurnsUptoRow.holds Tryz.pinned (OpenSpec.upto baseTurnsSpec)

/-- 'curvetlaw19.BaseNil', WHERE WHAT IT READS IS OF BULK AT MOST 1048576: true; the input reads as it did. -/
def baseNilUptoRow : OpenClaim := { program := "ytffhepbppiocbadgreat", sum := "d50de4139bbf831fcf7f013d552b9607cca4ef3bfb232e3b04815324f810f094", func := "curvet/curvetlaw19.BaseNil", spec := "baseNil", inPlace := ["math/bits.Sub64", "math/bits.Add64"], unfollowed := true, recurses := true, named := ["math/bits.divideError", "math/bits.overflowError"], apart := false, narrowed := true }
def BaseNilUptoSaid : Prop := baseNilUptoRow.holds Tryz.pinned (OpenSpec.upto baseNilSpec)

/-- 'curvetlaw20.Duals', WHERE WHAT IT READS IS OF BULK AT MOST 1048576: true; the input reads as it did. -/
def dualsUptoRow : OpenClaim := { program := "ytffhepbppiocbadgreat", sum := "d50de4139bbf831fcf7f013d552b9607cca4ef3bfb232e3b04815324f810f094", func := "curvet/curvetlaw20.Duals", spec := "duals", inPlace := ["math/bits.Sub64", "math/bits.Add64"], unfollowed := true, recurses := true, named := ["math/bits.divideError", "math/bits.overflowError"], apart := false, narrowed := true }
def DualsUptoSaid : Prop := dualsUptoRow.holds Tryz.pinned (OpenSpec.upto dualsSpec)

/-- 'curvetlaw20.DualParts', WHERE WHAT IT READS IS OF BULK AT MOST 1048576: true; the input reads as it did. -/
def dualPartsUptoRow : OpenClaim := { program := "ytffhepbppiocbadgreat", sum := "d50de4139bbf831fcf7f013d552b9607cca4ef3bfb232e3b04815324f810f094", func := "curvet/curvetlaw20.DualParts", spec := "dualParts", inPlace := ["math/bits.Sub64", "math/bits.Add64"], unfollowed := true, recurses := true, named := ["math/bits.divideError", "math/bits.overflowError"], apart := false, narrowed := true }
def DualPartsUptoSaid : Prop := dualPartsUptoRow.holds Tryz.pinned (OpenSpec.upto dualPartsSpec)

/-- 'curvetlaw20.DualAlone', WHERE WHAT IT READS IS OF BULK AT MOST 1048576: true; the input reads as it did. -/
def dualAloneUptoRow : OpenClaim := { program := "ytffhepbppiocbadgreat", sum := "d50de4139bbf831fcf7f013d552b9607cca4ef3bfb232e3b04815324f810f094", func := "curvet/curvetlaw20.DualAlone", spec := "dualAlone", inPlace := ["math/bits.Sub64", "math/bits.Add64"], unfollowed := true, recurses := true, named := ["math/bits.divideError", "math/bits.overflowError"], apart := false, narrowed := true }
def DualAloneUptoSaid : Prop := dualAloneUptoRow.holds Tryz.pinned (OpenSpec.upto dualAloneSpec)

/-- 'curvetlaw20.DualTiny', WHERE WHAT IT READS IS OF BULK AT MOST 1048576: true; the input reads as it did. -/
def dualTinyUptoRow : OpenClaim := { program := "ytffhepbppiocbadgreat", sum := "d50de4139bbf831fcf7f013d552b9607cca4ef3bfb232e3b04815324f810f094", func := "curvet/curvetlaw20.DualTiny", spec := "dualTiny", inPlace := ["math/bits.Sub64", "math/bits.Add64"], unfollowed := true, recurses := true, named := ["math/bits.divideError", "math/bits.overflowError"], apart := false, narrowed := true }
def DualTinyUptoSaid : Prop := dualTinyUptoRow.holds Tryz.pinned (OpenSpec.upto dualTinySpec)

end Rows
end Go.Proofs.YtffhepbppiocbadGreat
