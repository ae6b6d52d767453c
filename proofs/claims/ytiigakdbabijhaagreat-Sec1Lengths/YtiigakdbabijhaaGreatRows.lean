/-
  No cell of these rows narrows 'for every input' (looked for: loops, veiled, ifaces, maps, wideKeys, modest, calm, conditions, laid).
  DERIVED. THE GIVEN ROWS OF THIS SEAT. 7 by the template 'for every input the law returns true; each argument reads behind the call as it read before'; 0 by the template 'total and deterministic' (their statements: YtiigakdbabijhaaGreatTotals.lean).
  GIVEN WITH THE SEED: the statements are not yours to turn. If you find one false, say at which input.
  Laid BY PROGRAM, IN A SANDBOX (cutbox-rows.mjs): the forced cells as the released guide's own fill.sh prints them over the translation 6aae7a01e19a6ca3… (all of the seat's roots in one cut). By AI agents, Wed Nov 11 2026. No macro, syntax, notation, axiom, sorry.
-/
import Derived.Test.YtiigakdbabijhaaGreatChecked
import GoSem.Claim
import GoSem.ClaimJoined
import GoSem.ClaimMapViews
import Derived.JoinedTies
import Derived.KernelRfl
namespace Go.Proofs.YtiigakdbabijhaaGreat
/- THE CELL 'sum', in the pinned program and in every row, IS THE sha256 OF THE DUMP (.gsa) THAT YtiigakdbabijhaaGreatProg.lean LOADS. Nothing in Lean hashes anything: it is a label: what it is worth is what the hold of that sum in a sandbox is worth. -/
noncomputable def Tryz.pinned : Pinned := { name := "ytiigakdbabijhaagreat", sum := "6aae7a01e19a6ca34fb1f8e017e8fce400e528f45acba958418a8ba09b71c868", checked := Tryz.checked }
namespace Rows
def none {H : Type} : Left H := { results := [], args := [] }

/-- 'curvetlaw21.Sec1s': WHATEVER THE INPUT: true; the input reads as it did. -/
def sec1sSpec : ChangeSpec := { name := "sec1s", fn := fun _ => fun
  | [d1, d2, d3, d4] => { results := [.lit (.bool true)], args := [d1, d2, d3, d4] }
  | _ => none }
def sec1sRow : OpenClaim := { program := "ytiigakdbabijhaagreat", sum := "6aae7a01e19a6ca34fb1f8e017e8fce400e528f45acba958418a8ba09b71c868", func := "curvet/curvetlaw21.Sec1s", spec := "sec1s", inPlace := ["math/bits.Sub64", "math/bits.Add64"], unfollowed := true, recurses := true, named := ["math/bits.divideError", "math/bits.overflowError"], apart := false }
def Sec1sSaid : Prop := sec1sRow.holds Tryz.pinned (OpenSpec.ofChange sec1sSpec)

/-- ITS FALSE NEIGHBOUR: 'it returns false'. Refute it at one input. -/
def sec1sWrong : ChangeSpec := { name := "sec1s", fn := fun _ => fun
  | [d1, d2, d3, d4] => { results := [.lit (.bool false)], args := [d1, d2, d3, d4] }
  | _ => none }
def Sec1sWrongFalsely : Prop := sec1sRow.holds Tryz.pinned (OpenSpec.ofChange sec1sWrong)

/-- 'curvetlaw21.Sec1Back': WHATEVER THE INPUT: true; the input reads as it did. -/
def sec1BackSpec : ChangeSpec := { name := "sec1Back", fn := fun _ => fun
  | [d1, d2, d3, d4] => { results := [.lit (.bool true)], args := [d1, d2, d3, d4] }
  | _ => none }
def sec1BackRow : OpenClaim := { program := "ytiigakdbabijhaagreat", sum := "6aae7a01e19a6ca34fb1f8e017e8fce400e528f45acba958418a8ba09b71c868", func := "curvet/curvetlaw21.Sec1Back", spec := "sec1Back", inPlace := ["math/bits.Sub64", "math/bits.Add64"], unfollowed := true, recurses := true, named := ["math/bits.divideError", "math/bits.overflowError"], apart := false }
def Sec1BackSaid : Prop := sec1BackRow.holds Tryz.pinned (OpenSpec.ofChange sec1BackSpec)

/-- ITS FALSE NEIGHBOUR: 'it returns false'. Refute it at one input. -/
def sec1BackWrong : ChangeSpec := { name := "sec1Back", fn := fun _ => fun
  | [d1, d2, d3, d4] => { results := [.lit (.bool false)], args := [d1, d2, d3, d4] }
  | _ => none }
def Sec1BackWrongFalsely : Prop := sec1BackRow.holds Tryz.pinned (OpenSpec.ofChange sec1BackWrong)

/-- 'curvetlaw21.Sec1Tiny': WHATEVER THE INPUT: true; the input reads as it did. -/
def sec1TinySpec : ChangeSpec := { name := "sec1Tiny", fn := fun _ => fun
  | [d1, d2] => { results := [.lit (.bool true)], args := [d1, d2] }
  | _ => none }
def sec1TinyRow : OpenClaim := { program := "ytiigakdbabijhaagreat", sum := "6aae7a01e19a6ca34fb1f8e017e8fce400e528f45acba958418a8ba09b71c868", func := "curvet/curvetlaw21.Sec1Tiny", spec := "sec1Tiny", inPlace := ["math/bits.Sub64", "math/bits.Add64"], unfollowed := true, recurses := true, named := ["math/bits.divideError", "math/bits.overflowError"], apart := false }
def Sec1TinySaid : Prop := sec1TinyRow.holds Tryz.pinned (OpenSpec.ofChange sec1TinySpec)

/-- ITS FALSE NEIGHBOUR: 'it returns false'. Refute it at one input. -/
def sec1TinyWrong : ChangeSpec := { name := "sec1Tiny", fn := fun _ => fun
  | [d1, d2] => { results := [.lit (.bool false)], args := [d1, d2] }
  | _ => none }
def Sec1TinyWrongFalsely : Prop := sec1TinyRow.holds Tryz.pinned (OpenSpec.ofChange sec1TinyWrong)

/-- 'curvetlaw21.Sec1Both': WHATEVER THE INPUT: true; the input reads as it did. -/
def sec1BothSpec : ChangeSpec := { name := "sec1Both", fn := fun _ => fun
  | [d1, d2] => { results := [.lit (.bool true)], args := [d1, d2] }
  | _ => none }
def sec1BothRow : OpenClaim := { program := "ytiigakdbabijhaagreat", sum := "6aae7a01e19a6ca34fb1f8e017e8fce400e528f45acba958418a8ba09b71c868", func := "curvet/curvetlaw21.Sec1Both", spec := "sec1Both", inPlace := ["math/bits.Sub64", "math/bits.Add64"], unfollowed := true, recurses := true, named := ["math/bits.divideError", "math/bits.overflowError"], apart := false }
def Sec1BothSaid : Prop := sec1BothRow.holds Tryz.pinned (OpenSpec.ofChange sec1BothSpec)

/-- ITS FALSE NEIGHBOUR: 'it returns false'. Refute it at one input. -/
def sec1BothWrong : ChangeSpec := { name := "sec1Both", fn := fun _ => fun
  | [d1, d2] => { results := [.lit (.bool false)], args := [d1, d2] }
  | _ => none }
def Sec1BothWrongFalsely : Prop := sec1BothRow.holds Tryz.pinned (OpenSpec.ofChange sec1BothWrong)

/-- 'curvetlaw21.Sec1Lengths': WHATEVER THE INPUT: true; the input reads as it did. -/
def sec1LengthsSpec : ChangeSpec := { name := "sec1Lengths", fn := fun _ => fun
  | [d1, d2, d3, d4] => { results := [.lit (.bool true)], args := [d1, d2, d3, d4] }
  | _ => none }
def sec1LengthsRow : OpenClaim := { program := "ytiigakdbabijhaagreat", sum := "6aae7a01e19a6ca34fb1f8e017e8fce400e528f45acba958418a8ba09b71c868", func := "curvet/curvetlaw21.Sec1Lengths", spec := "sec1Lengths", inPlace := ["math/bits.Sub64", "math/bits.Add64"], unfollowed := true, recurses := true, named := ["math/bits.divideError", "math/bits.overflowError"], apart := false }
def Sec1LengthsSaid : Prop := sec1LengthsRow.holds Tryz.pinned (OpenSpec.ofChange sec1LengthsSpec)

/-- ITS FALSE NEIGHBOUR: 'it returns false'. Refute it at one input. -/
def sec1LengthsWrong : ChangeSpec := { name := "sec1Lengths", fn := fun _ => fun
  | [d1, d2, d3, d4] => { results := [.lit (.bool false)], args := [d1, d2, d3, d4] }
  | _ => none }
def Sec1LengthsWrongFalsely : Prop := sec1LengthsRow.holds Tryz.pinned (OpenSpec.ofChange sec1LengthsWrong)

/-- 'curvetlaw21.Sec1Great': WHATEVER THE INPUT: true; the input reads as it did. -/
def sec1GreatSpec : ChangeSpec := { name := "sec1Great", fn := fun _ => fun
  | [d1, d2, d3] => { results := [.lit (.bool true)], args := [d1, d2, d3] }
  | _ => none }
def sec1GreatRow : OpenClaim := { program := "ytiigakdbabijhaagreat", sum := "6aae7a01e19a6ca34fb1f8e017e8fce400e528f45acba958418a8ba09b71c868", func := "curvet/curvetlaw21.Sec1Great", spec := "sec1Great", inPlace := ["math/bits.Sub64", "math/bits.Add64"], unfollowed := true, recurses := true, named := ["math/bits.divideError", "math/bits.overflowError"], apart := false }
def Sec1GreatSaid : Prop := sec1GreatRow.holds Tryz.pinned (OpenSpec.ofChange sec1GreatSpec)

/-- ITS FALSE NEIGHBOUR: 'it returns false'. Refute it at one input. -/
def sec1GreatWrong : ChangeSpec := { name := "sec1Great", fn := fun _ => fun
  | [d1, d2, d3] => { results := [.lit (.bool false)], args := [d1, d2, d3] }
  | _ => none }
def Sec1GreatWrongFalsely : Prop := sec1GreatRow.holds Tryz.pinned (OpenSpec.ofChange sec1GreatWrong)

/-- 'curvetlaw21.Sec1Whole': WHATEVER THE INPUT: true; the input reads as it did. -/
def sec1WholeSpec : ChangeSpec := { name := "sec1Whole", fn := fun _ => fun
  | [d] => { results := [.lit (.bool true)], args := [d] }
  | _ => none }
def sec1WholeRow : OpenClaim := { program := "ytiigakdbabijhaagreat", sum := "6aae7a01e19a6ca34fb1f8e017e8fce400e528f45acba958418a8ba09b71c868", func := "curvet/curvetlaw21.Sec1Whole", spec := "sec1Whole", inPlace := ["math/bits.Sub64", "math/bits.Add64"], unfollowed := true, recurses := true, named := ["math/bits.divideError", "math/bits.overflowError"], apart := false }
def Sec1WholeSaid : Prop := sec1WholeRow.holds Tryz.pinned (OpenSpec.ofChange sec1WholeSpec)

/-- ITS FALSE NEIGHBOUR: 'it returns false'. Refute it at one input. -/
def sec1WholeWrong : ChangeSpec := { name := "sec1Whole", fn := fun _ => fun
  | [d] => { results := [.lit (.bool false)], args := [d] }
  | _ => none }
def Sec1WholeWrongFalsely : Prop := sec1WholeRow.holds Tryz.pinned (OpenSpec.ofChange sec1WholeWrong)

/- THE SECOND FORM. 'bulk': how many values and letters a reading holds, each counted each time it is reached (what is shared counts as often as it is met; a slice's spare places count too). A statement '..UptoSaid' is the law's where the arguments, and the package variables that the reading takes, are together of bulk at most 1048576: NARROWER than '..Said'. Prove '..Said' where nothing that the law and all that it calls make is longer than what came in: it says more and counts as full. Else prove '..UptoSaid'. A law counts once. -/
mutual
def uptoBulk {H : Type} : DataW H → Nat
  | .lit (.string bytes) => bytes.length + 1
  | .lit _ => 1
  | .nil => 1
  | .ptr d => uptoBulk d + 1
  | .slice elems spare => uptoBulkAll elems + uptoBulkAll spare + 1
  | .agg parts => uptoBulkAll parts + 1
  | .iface _ d => uptoBulk d + 1
  | .map entries => uptoBulkEntries entries + 1
  | .held _ => 1
def uptoBulkAll {H : Type} : List (DataW H) → Nat
  | [] => 0
  | d :: r => uptoBulk d + uptoBulkAll r
def uptoBulkEntries {H : Type} : List (Lit × DataW H) → Nat
  | [] => 0
  | x :: r => uptoBulkEntry x + uptoBulkEntries r
def uptoBulkEntry {H : Type} : Lit × DataW H → Nat
  | (.string bytes, d) => bytes.length + uptoBulk d + 1
  | (_, d) => uptoBulk d + 1
 end
def uptoSmall : (H : Type) → List (DataW H) → Bool := fun _ ds => decide (uptoBulkAll ds ≤ 1048576)
def OpenSpec.upto (s : _root_.Go.ChangeSpec) : _root_.Go.OpenSpec := { _root_.Go.OpenSpec.ofChange s with cond := some uptoSmall }

/-- 'curvetlaw21.Sec1s', WHERE WHAT IT READS IS OF BULK AT MOST 1048576: true; the input reads as it did. -/
def sec1sUptoRow : OpenClaim := { program := "ytiigakdbabijhaagreat", sum := "6aae7a01e19a6ca34fb1f8e017e8fce400e528f45acba958418a8ba09b71c868", func := "curvet/curvetlaw21.Sec1s", spec := "sec1s", inPlace := ["math/bits.Sub64", "math/bits.Add64"], unfollowed := true, recurses := true, named := ["math/bits.divideError", "math/bits.overflowError"], apart := false, narrowed := true }
def Sec1sUptoSaid : Prop := sec1sUptoRow.holds Tryz.pinned (OpenSpec.upto sec1sSpec)

/-- 'curvetlaw21.Sec1Back', WHERE WHAT IT READS IS OF BULK AT MOST 1048576: true; the input reads as it did. -/
def sec1BackUptoRow : OpenClaim := { program := "ytiigakdbabijhaagreat", sum := "6aae7a01e19a6ca34fb1f8e017e8fce400e528f45acba958418a8ba09b71c868", func := "curvet/curvetlaw21.Sec1Back", spec := "sec1Back", inPlace := ["math/bits.Sub64", "math/bits.Add64"], unfollowed := true, recurses := true, named := ["math/bits.divideError", "math/bits.overflowError"], apart := false, narrowed := true }
def Sec1BackUptoSaid : Prop := sec1BackUptoRow.holds Tryz.pinned (OpenSpec.upto sec1BackSpec)

/-- 'curvetlaw21.Sec1Tiny', WHERE WHAT IT READS IS OF BULK AT MOST 1048576: true; the input reads as it did. -/
def sec1TinyUptoRow : OpenClaim := { program := "ytiigakdbabijhaagreat", sum := "6aae7a01e19a6ca34fb1f8e017e8fce400e528f45acba958418a8ba09b71c868", func := "curvet/curvetlaw21.Sec1Tiny", spec := "sec1Tiny", inPlace := ["math/bits.Sub64", "math/bits.Add64"], unfollowed := true, recurses := true, named := ["math/bits.divideError", "math/bits.overflowError"], apart := false, narrowed := true }
def Sec1TinyUptoSaid : Prop := sec1TinyUptoRow.holds Tryz.pinned (OpenSpec.upto sec1TinySpec)

/-- 'curvetlaw21.Sec1Both', WHERE WHAT IT READS IS OF BULK AT MOST 1048576: true; the input reads as it did. -/
def sec1BothUptoRow : OpenClaim := { program := "ytiigakdbabijhaagreat", sum := "6aae7a01e19a6ca34fb1f8e017e8fce400e528f45acba958418a8ba09b71c868", func := "curvet/curvetlaw21.Sec1Both", spec := "sec1Both", inPlace := ["math/bits.Sub64", "math/bits.Add64"], unfollowed := true, recurses := true, named := ["math/bits.divideError", "math/bits.overflowError"], apart := false, narrowed := true }
def Sec1BothUptoSaid : Prop := sec1BothUptoRow.holds Tryz.pinned (OpenSpec.upto sec1BothSpec)

/-- 'curvetlaw21.Sec1Lengths', WHERE WHAT IT READS IS OF BULK AT MOST 1048576: true; the input reads as it did. -/
def sec1LengthsUptoRow : OpenClaim := { program := "ytiigakdbabijhaagreat", sum := "6aae7a01e19a6ca34fb1f8e017e8fce400e528f45acba958418a8ba09b71c868", func := "curvet/curvetlaw21.Sec1Lengths", spec := "sec1Lengths", inPlace := ["math/bits.Sub64", "math/bits.Add64"], unfollowed := true, recurses := true, named := ["math/bits.divideError", "math/bits.overflowError"], apart := false, narrowed := true }
def Sec1LengthsUptoSaid : Prop := sec1LengthsUptoRow.holds Tryz.pinned (OpenSpec.upto sec1LengthsSpec)

/-- 'curvetlaw21.Sec1Great', WHERE WHAT IT READS IS OF BULK AT MOST 1048576: true; the input reads as it did. -/
def sec1GreatUptoRow : OpenClaim := { program := "ytiigakdbabijhaagreat", sum := "6aae7a01e19a6ca34fb1f8e017e8fce400e528f45acba958418a8ba09b71c868", func := "curvet/curvetlaw21.Sec1Great", spec := "sec1Great", inPlace := ["math/bits.Sub64", "math/bits.Add64"], unfollowed := true, recurses := true, named := ["math/bits.divideError", "math/bits.overflowError"], apart := false, narrowed := true }
def Sec1GreatUptoSaid : Prop := sec1GreatUptoRow.holds Tryz.pinned (OpenSpec.upto sec1GreatSpec)

/-- 'curvetlaw21.Sec1Whole', WHERE WHAT IT READS IS OF BULK AT MOST 1048576: true; the input reads as it did. -/
def sec1WholeUptoRow : OpenClaim := { program := "ytiigakdbabijhaagreat", sum := "6aae7a01e19a6ca34fb1f8e017e8fce400e528f45acba958418a8ba09b71c868", func := "curvet/curvetlaw21.Sec1Whole", spec := "sec1Whole", inPlace := ["math/bits.Sub64", "math/bits.Add64"], unfollowed := true, recurses := true, named := ["math/bits.divideError", "math/bits.overflowError"], apart := false, narrowed := true }
def Sec1WholeUptoSaid : Prop := sec1WholeUptoRow.holds Tryz.pinned (OpenSpec.upto sec1WholeSpec)

end Rows
end Go.Proofs.YtiigakdbabijhaaGreat
