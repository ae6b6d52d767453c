/-
  No cell of these rows narrows 'for every input' (looked for: loops, veiled, ifaces, maps, wideKeys, modest, calm, conditions, laid).
  DERIVED. THE GIVEN ROWS OF THIS SEAT. 4 by the template 'for every input the law returns true; each argument reads behind the call as it read before'; 0 by the template 'total and deterministic' (their statements: YtonbpnbhjghfbaaTotals.lean).
  GIVEN WITH THE SEED: the statements are not yours to turn. If you find one false, say at which input.
  Laid BY PROGRAM, IN A SANDBOX (cutbox-rows.mjs): the forced cells as the released guide's own fill.sh prints them over the translation 7654e476ce5729be… (all of the seat's roots in one cut). By AI agents, Wed Nov 11 2026. No macro, syntax, notation, axiom, sorry.
-/
import Derived.Test.YtonbpnbhjghfbaaChecked
import GoSem.Claim
import GoSem.ClaimJoined
import GoSem.ClaimMapViews
import Derived.JoinedTies
import Derived.KernelRfl
namespace Go.Proofs.Ytonbpnbhjghfbaa
/- THE CELL 'sum', in the pinned program and in every row, IS THE sha256 OF THE DUMP (.gsa) THAT YtonbpnbhjghfbaaProg.lean LOADS. Nothing in Lean hashes anything: it is a label: what it is worth is what the hold of that sum in a sandbox is worth. -/
noncomputable def Try.pinned : Pinned := { name := "ytonbpnbhjghfbaa", sum := "7654e476ce5729be695eaccdd5e0821e8ad03a7c9d88ac81ebb1f74792d6197a", checked := Try.checked }
namespace Rows
def none {H : Type} : Left H := { results := [], args := [] }

/-- 'curvetlaw23.Raws': WHATEVER THE INPUT: true; the input reads as it did. -/
def rawsSpec : ChangeSpec := { name := "raws", fn := fun _ => fun
  | [d1, d2, d3] => { results := [.lit (.bool true)], args := [d1, d2, d3] }
  | _ => none }
def rawsRow : OpenClaim := { program := "ytonbpnbhjghfbaa", sum := "7654e476ce5729be695eaccdd5e0821e8ad03a7c9d88ac81ebb1f74792d6197a", func := "curvet/curvetlaw23.Raws", spec := "raws", inPlace := ["math/bits.Sub64"], unfollowed := true, recurses := true, apart := false }
def RawsSaid : Prop := rawsRow.holds Try.pinned (OpenSpec.ofChange rawsSpec)

/-- ITS FALSE NEIGHBOUR: 'it returns false'. Refute it at one input. -/
def rawsWrong : ChangeSpec := { name := "raws", fn := fun _ => fun
  | [d1, d2, d3] => { results := [.lit (.bool false)], args := [d1, d2, d3] }
  | _ => none }
def RawsWrongFalsely : Prop := rawsRow.holds Try.pinned (OpenSpec.ofChange rawsWrong)

/-- 'curvetlaw23.RawBack': WHATEVER THE INPUT: true; the input reads as it did. -/
def rawBackSpec : ChangeSpec := { name := "rawBack", fn := fun _ => fun
  | [d1, d2, d3, d4] => { results := [.lit (.bool true)], args := [d1, d2, d3, d4] }
  | _ => none }
def rawBackRow : OpenClaim := { program := "ytonbpnbhjghfbaa", sum := "7654e476ce5729be695eaccdd5e0821e8ad03a7c9d88ac81ebb1f74792d6197a", func := "curvet/curvetlaw23.RawBack", spec := "rawBack", inPlace := ["math/bits.Sub64"], unfollowed := true, recurses := true, apart := false }
def RawBackSaid : Prop := rawBackRow.holds Try.pinned (OpenSpec.ofChange rawBackSpec)

/-- ITS FALSE NEIGHBOUR: 'it returns false'. Refute it at one input. -/
def rawBackWrong : ChangeSpec := { name := "rawBack", fn := fun _ => fun
  | [d1, d2, d3, d4] => { results := [.lit (.bool false)], args := [d1, d2, d3, d4] }
  | _ => none }
def RawBackWrongFalsely : Prop := rawBackRow.holds Try.pinned (OpenSpec.ofChange rawBackWrong)

/-- 'curvetlaw23.RawLengths': WHATEVER THE INPUT: true; the input reads as it did. -/
def rawLengthsSpec : ChangeSpec := { name := "rawLengths", fn := fun _ => fun
  | [d1, d2, d3, d4] => { results := [.lit (.bool true)], args := [d1, d2, d3, d4] }
  | _ => none }
def rawLengthsRow : OpenClaim := { program := "ytonbpnbhjghfbaa", sum := "7654e476ce5729be695eaccdd5e0821e8ad03a7c9d88ac81ebb1f74792d6197a", func := "curvet/curvetlaw23.RawLengths", spec := "rawLengths", inPlace := ["math/bits.Sub64"], unfollowed := true, recurses := true, apart := false }
def RawLengthsSaid : Prop := rawLengthsRow.holds Try.pinned (OpenSpec.ofChange rawLengthsSpec)

/-- ITS FALSE NEIGHBOUR: 'it returns false'. Refute it at one input. -/
def rawLengthsWrong : ChangeSpec := { name := "rawLengths", fn := fun _ => fun
  | [d1, d2, d3, d4] => { results := [.lit (.bool false)], args := [d1, d2, d3, d4] }
  | _ => none }
def RawLengthsWrongFalsely : Prop := rawLengthsRow.holds Try.pinned (OpenSpec.ofChange rawLengthsWrong)

/-- 'curvetlaw23.RawTiny': WHATEVER THE INPUT: true; the input reads as it did. -/
def rawTinySpec : ChangeSpec := { name := "rawTiny", fn := fun _ => fun
  | [d1, d2] => { results := [.lit (.bool true)], args := [d1, d2] }
  | _ => none }
def rawTinyRow : OpenClaim := { program := "ytonbpnbhjghfbaa", sum := "7654e476ce5729be695eaccdd5e0821e8ad03a7c9d88ac81ebb1f74792d6197a", func := "curvet/curvetlaw23.RawTiny", spec := "rawTiny", inPlace := ["math/bits.Sub64"], unfollowed := true, recurses := true, apart := false }
def RawTinySaid : Prop := rawTinyRow.holds Try.pinned (OpenSpec.ofChange rawTinySpec)

/-- ITS FALSE NEIGHBOUR: 'it returns false'. Refute it at one input. -/
def rawTinyWrong : ChangeSpec := { name := "rawTiny", fn := fun _ => fun
  | [d1, d2] => { results := [.lit (.bool false)], args := [d1, d2] }
  | _ => none }
def RawTinyWrongFalsely : Prop := rawTinyRow.holds Try.pinned (OpenSpec.ofChange rawTinyWrong)

/- THE SECOND FORM. 'bulk': how many values and letters a reading holds, each counted each time it is reached (what is shared counts as often as it is met; a slice's spare places count too). A statement '..UptoSaid' is the law's where the arguments, and the package variables that the reading takes, are together of bulk at most 1048576: NARROWER than '..Said'. Prove '..Said' where nothing that the law and all that it calls make is longer than what came in: it says more and counts as full. Else prove '..UptoSaid'. A law counts once. -/
mutual
def uptoBulk {H : Type} : DataW H → Nat
  | .lit (.string bytes) => bytes.length + 1
  | .lit _ => 1
  | .nil => 1
  | .ptr d => uptoBulk d + 1
  | .slice elems spare => uptoBulkAll elems + uptoBulkAll spare + 1
  | .agg parts => uptoBulkAll parts + 1
  | .iface _ d => uptoBulk d + 1
  | .map entries => uptoBulkEntries entries + 1
  | .held _ => 1
def uptoBulkAll {H : Type} : List (DataW H) → Nat
  | [] => 0
  | d :: r => uptoBulk d + uptoBulkAll r
def uptoBulkEntries {H : Type} : List (Lit × DataW H) → Nat
  | [] => 0
  | x :: r => uptoBulkEntry x + uptoBulkEntries r
def uptoBulkEntry {H : Type} : Lit × DataW H → Nat
  | (.string bytes, d) => bytes.length + uptoBulk d + 1
  | (_, d) => uptoBulk d + 1
 end
def uptoSmall : (H : Type) → List (DataW H) → Bool := fun _ ds => decide (uptoBulkAll ds ≤ 1048576)
def OpenSpec.upto (s : _root_.Go.ChangeSpec) : _root_.Go.OpenSpec := { _root_.Go.OpenSpec.ofChange s with cond := some uptoSmall }

/-- 'curvetlaw23.Raws', WHERE WHAT IT READS IS OF BULK AT MOST 1048576: true; the input reads as it did. -/
def rawsUptoRow : OpenClaim := { program := "ytonbpnbhjghfbaa", sum := "7654e476ce5729be695eaccdd5e0821e8ad03a7c9d88ac81ebb1f74792d6197a", func := "curvet/curvetlaw23.Raws", spec := "raws", inPlace := ["math/bits.Sub64"], unfollowed := true, recurses := true, apart := false, narrowed := true }
def RawsUptoSaid : Prop := rawsUptoRow.holds Try.pinned (OpenSpec.upto rawsSpec)

/-- 'curvetlaw23.RawBack', WHERE WHAT IT READS IS OF BULK AT MOST 1048576: true; the input reads as it did. -/
def rawBackUptoRow : OpenClaim := { program := "ytonbpnbhjghfbaa", sum := "7654e476ce5729be695eaccdd5e0821e8ad03a7c9d88ac81ebb1f74792d6197a", func := "curvet/curvetlaw23.RawBack", spec := "rawBack", inPlace := ["math/bits.Sub64"], unfollowed := true, recurses := true, apart := false, narrowed := true }
def RawBackUptoSaid : Prop := rawBackUptoRow.holds Try.pinned (OpenSpec.upto rawBackSpec)

/-- 'curvetlaw23.RawLengths', WHERE WHAT IT READS IS OF BULK AT MOST 1048576: true; the input reads as it did. -/
def rawLengthsUptoRow : OpenClaim := { program := "ytonbpnbhjghfbaa", sum := "7654e476ce5729be695eaccdd5e0821e8ad03a7c9d88ac81ebb1f74792d6197a", func := "curvet/curvetlaw23.RawLengths", spec := "rawLengths", inPlace := ["math/bits.Sub64"], unfollowed := true, recurses := true, apart := false, narrowed := true }
def RawLengthsUptoSaid : Prop := rawLengthsUptoRow.holds Try.pinned (OpenSpec.upto rawLengthsSpec)

/-- 'curvetlaw23.RawTiny', WHERE WHAT IT READS IS OF BULK AT MOST 1048576: true; the input reads as it did. -/
def rawTinyUptoRow : OpenClaim := { program := "ytonbpnbhjghfbaa", sum := "7654e476ce5729be695eaccdd5e0821e8ad03a7c9d88ac81ebb1f74792d6197a", func := "curvet/curvetlaw23.RawTiny", spec := "rawTiny", inPlace := ["math/bits.Sub64"], unfollowed := true, recurses := true, apart := false, narrowed := true }
def RawTinyUptoSaid : Prop := rawTinyUptoRow.holds Try.pinned (OpenSpec.upto rawTinySpec)

end Rows
end Go.Proofs.Ytonbpnbhjghfbaa
