/-
  No cell of these rows narrows 'for every input' (looked for: loops, veiled, ifaces, maps, wideKeys, modest, calm, conditions, laid).
  DERIVED. THE GIVEN ROWS OF THIS SEAT. 12 by the template 'for every input the law returns true; each argument reads behind the call as it read before'; 0 by the template 'total and deterministic' (their statements: YtffhepbppiocbabGreatTotals.lean).
  GIVEN WITH THE SEED: the statements are not yours to turn. If you find one false, say at which input.
  Laid BY PROGRAM, IN A SANDBOX (cutbox-rows.mjs): the forced cells as the released guide's own fill.sh prints them over the translation 1fbf2c0bbb3849d2… (all of the seat's roots in one cut). By AI agents, Wed Nov 11 2026. No macro, syntax, notation, axiom, sorry.
-/
import Derived.Test.YtffhepbppiocbabGreatChecked
import GoSem.Claim
import GoSem.ClaimJoined
import GoSem.ClaimMapViews
import Derived.JoinedTies
import Derived.KernelRfl
namespace Go.Proofs.YtffhepbppiocbabGreat
/- THE CELL 'sum', in the pinned program and in every row, IS THE sha256 OF THE DUMP (.gsa) THAT YtffhepbppiocbabGreatProg.lean LOADS. Nothing in Lean hashes anything: it is a label: what it is worth is what the hold of that sum in a sandbox is worth. -/
noncomputable def Tryz.pinned : Pinned := { name := "ytffhepbppiocbabgreat", sum := "1fbf2c0bbb3849d2460b0be5834a7c5eff005d7dcaab3f9f3926da68b5d78aa5", checked := Tryz.checked }
namespace Rows
def none {H : Type} : Left H := { results := [], args := [] }

/-- 'curvetlaw14.AffineLine': WHATEVER THE INPUT: true; the input reads as it did. -/
def affineLineSpec : ChangeSpec := { name := "affineLine", fn := fun _ => fun
  | [d1, d2, d3] => { results := [.lit (.bool true)], args := [d1, d2, d3] }
  | _ => none }
def affineLineRow : OpenClaim := { program := "ytffhepbppiocbabgreat", sum := "1fbf2c0bbb3849d2460b0be5834a7c5eff005d7dcaab3f9f3926da68b5d78aa5", func := "curvet/curvetlaw14.AffineLine", spec := "affineLine", inPlace := ["math/bits.Sub64", "math/bits.Add64"], unfollowed := true, recurses := true, named := ["math/bits.divideError", "math/bits.overflowError"], apart := false }
def AffineLineSaid : Prop := affineLineRow.holds Tryz.pinned (OpenSpec.ofChange affineLineSpec)

/-- ITS FALSE NEIGHBOUR: 'it returns false'. Refute it at one input. -/
def affineLineWrong : ChangeSpec := { name := "affineLine", fn := fun _ => fun
  | [d1, d2, d3] => { results := [.lit (.bool false)], args := [d1, d2, d3] }
  | _ => none }
def AffineLineWrongFalsely : Prop := affineLineRow.holds Tryz.pinned (OpenSpec.ofChange affineLineWrong)

/-- 'curvetlaw14.AffineOpposite': WHATEVER THE INPUT: true; the input reads as it did. -/
def affineOppositeSpec : ChangeSpec := { name := "affineOpposite", fn := fun _ => fun
  | [d1, d2, d3] => { results := [.lit (.bool true)], args := [d1, d2, d3] }
  | _ => none }
def affineOppositeRow : OpenClaim := { program := "ytffhepbppiocbabgreat", sum := "1fbf2c0bbb3849d2460b0be5834a7c5eff005d7dcaab3f9f3926da68b5d78aa5", func := "curvet/curvetlaw14.AffineOpposite", spec := "affineOpposite", inPlace := ["math/bits.Sub64", "math/bits.Add64"], unfollowed := true, recurses := true, named := ["math/bits.divideError", "math/bits.overflowError"], apart := false }
def AffineOppositeSaid : Prop := affineOppositeRow.holds Tryz.pinned (OpenSpec.ofChange affineOppositeSpec)

/-- ITS FALSE NEIGHBOUR: 'it returns false'. Refute it at one input. -/
def affineOppositeWrong : ChangeSpec := { name := "affineOpposite", fn := fun _ => fun
  | [d1, d2, d3] => { results := [.lit (.bool false)], args := [d1, d2, d3] }
  | _ => none }
def AffineOppositeWrongFalsely : Prop := affineOppositeRow.holds Tryz.pinned (OpenSpec.ofChange affineOppositeWrong)

/-- 'curvetlaw14.AffineTiny': WHATEVER THE INPUT: true; the input reads as it did. -/
def affineTinySpec : ChangeSpec := { name := "affineTiny", fn := fun _ => fun
  | [d1, d2] => { results := [.lit (.bool true)], args := [d1, d2] }
  | _ => none }
def affineTinyRow : OpenClaim := { program := "ytffhepbppiocbabgreat", sum := "1fbf2c0bbb3849d2460b0be5834a7c5eff005d7dcaab3f9f3926da68b5d78aa5", func := "curvet/curvetlaw14.AffineTiny", spec := "affineTiny", inPlace := ["math/bits.Sub64", "math/bits.Add64"], unfollowed := true, recurses := true, named := ["math/bits.divideError", "math/bits.overflowError"], apart := false }
def AffineTinySaid : Prop := affineTinyRow.holds Tryz.pinned (OpenSpec.ofChange affineTinySpec)

/-- ITS FALSE NEIGHBOUR: 'it returns false'. Refute it at one input. -/
def affineTinyWrong : ChangeSpec := { name := "affineTiny", fn := fun _ => fun
  | [d1, d2] => { results := [.lit (.bool false)], args := [d1, d2] }
  | _ => none }
def AffineTinyWrongFalsely : Prop := affineTinyRow.holds Tryz.pinned (OpenSpec.ofChange affineTinyWrong)

/-- 'curvetlaw15.Projs': WHATEVER THE INPUT: true; the input reads as it did. -/
def projsSpec : ChangeSpec := { name := "projs", fn := fun _ => fun
  | [d1, d2, d3] => { results := [.lit (.bool true)], args := [d1, d2, d3] }
  | _ => none }
def projsRow : OpenClaim := { program := "ytffhepbppiocbabgreat", sum := "1fbf2c0bbb3849d2460b0be5834a7c5eff005d7dcaab3f9f3926da68b5d78aa5", func := "curvet/curvetlaw15.Projs", spec := "projs", inPlace := ["math/bits.Sub64", "math/bits.Add64"], unfollowed := true, recurses := true, named := ["math/bits.divideError", "math/bits.overflowError"], apart := false }
def ProjsSaid : Prop := projsRow.holds Tryz.pinned (OpenSpec.ofChange projsSpec)

/-- ITS FALSE NEIGHBOUR: 'it returns false'. Refute it at one input. -/
def projsWrong : ChangeSpec := { name := "projs", fn := fun _ => fun
  | [d1, d2, d3] => { results := [.lit (.bool false)], args := [d1, d2, d3] }
  | _ => none }
def ProjsWrongFalsely : Prop := projsRow.holds Tryz.pinned (OpenSpec.ofChange projsWrong)

/-- 'curvetlaw15.ProjFrom': WHATEVER THE INPUT: true; the input reads as it did. -/
def projFromSpec : ChangeSpec := { name := "projFrom", fn := fun _ => fun
  | [d1, d2] => { results := [.lit (.bool true)], args := [d1, d2] }
  | _ => none }
def projFromRow : OpenClaim := { program := "ytffhepbppiocbabgreat", sum := "1fbf2c0bbb3849d2460b0be5834a7c5eff005d7dcaab3f9f3926da68b5d78aa5", func := "curvet/curvetlaw15.ProjFrom", spec := "projFrom", inPlace := ["math/bits.Sub64", "math/bits.Add64"], unfollowed := true, recurses := true, named := ["math/bits.divideError", "math/bits.overflowError"], apart := false }
def ProjFromSaid : Prop := projFromRow.holds Tryz.pinned (OpenSpec.ofChange projFromSpec)

/-- ITS FALSE NEIGHBOUR: 'it returns false'. Refute it at one input. -/
def projFromWrong : ChangeSpec := { name := "projFrom", fn := fun _ => fun
  | [d1, d2] => { results := [.lit (.bool false)], args := [d1, d2] }
  | _ => none }
def ProjFromWrongFalsely : Prop := projFromRow.holds Tryz.pinned (OpenSpec.ofChange projFromWrong)

/-- 'curvetlaw15.ProjScaled': WHATEVER THE INPUT: true; the input reads as it did. -/
def projScaledSpec : ChangeSpec := { name := "projScaled", fn := fun _ => fun
  | [d1, d2, d3, d4] => { results := [.lit (.bool true)], args := [d1, d2, d3, d4] }
  | _ => none }
def projScaledRow : OpenClaim := { program := "ytffhepbppiocbabgreat", sum := "1fbf2c0bbb3849d2460b0be5834a7c5eff005d7dcaab3f9f3926da68b5d78aa5", func := "curvet/curvetlaw15.ProjScaled", spec := "projScaled", inPlace := ["math/bits.Sub64", "math/bits.Add64"], unfollowed := true, recurses := true, named := ["math/bits.divideError", "math/bits.overflowError"], apart := false }
def ProjScaledSaid : Prop := projScaledRow.holds Tryz.pinned (OpenSpec.ofChange projScaledSpec)

/-- ITS FALSE NEIGHBOUR: 'it returns false'. Refute it at one input. -/
def projScaledWrong : ChangeSpec := { name := "projScaled", fn := fun _ => fun
  | [d1, d2, d3, d4] => { results := [.lit (.bool false)], args := [d1, d2, d3, d4] }
  | _ => none }
def ProjScaledWrongFalsely : Prop := projScaledRow.holds Tryz.pinned (OpenSpec.ofChange projScaledWrong)

/-- 'curvetlaw15.ProjSums': WHATEVER THE INPUT: true; the input reads as it did. -/
def projSumsSpec : ChangeSpec := { name := "projSums", fn := fun _ => fun
  | [d1, d2, d3, d4] => { results := [.lit (.bool true)], args := [d1, d2, d3, d4] }
  | _ => none }
def projSumsRow : OpenClaim := { program := "ytffhepbppiocbabgreat", sum := "1fbf2c0bbb3849d2460b0be5834a7c5eff005d7dcaab3f9f3926da68b5d78aa5", func := "curvet/curvetlaw15.ProjSums", spec := "projSums", inPlace := ["math/bits.Sub64", "math/bits.Add64"], unfollowed := true, recurses := true, named := ["math/bits.divideError", "math/bits.overflowError"], apart := false }
def ProjSumsSaid : Prop := projSumsRow.holds Tryz.pinned (OpenSpec.ofChange projSumsSpec)

/-- ITS FALSE NEIGHBOUR: 'it returns false'. Refute it at one input. -/
def projSumsWrong : ChangeSpec := { name := "projSums", fn := fun _ => fun
  | [d1, d2, d3, d4] => { results := [.lit (.bool false)], args := [d1, d2, d3, d4] }
  | _ => none }
def ProjSumsWrongFalsely : Prop := projSumsRow.holds Tryz.pinned (OpenSpec.ofChange projSumsWrong)

/-- 'curvetlaw15.ProjDoubles': WHATEVER THE INPUT: true; the input reads as it did. -/
def projDoublesSpec : ChangeSpec := { name := "projDoubles", fn := fun _ => fun
  | [d1, d2, d3] => { results := [.lit (.bool true)], args := [d1, d2, d3] }
  | _ => none }
def projDoublesRow : OpenClaim := { program := "ytffhepbppiocbabgreat", sum := "1fbf2c0bbb3849d2460b0be5834a7c5eff005d7dcaab3f9f3926da68b5d78aa5", func := "curvet/curvetlaw15.ProjDoubles", spec := "projDoubles", inPlace := ["math/bits.Sub64", "math/bits.Add64"], unfollowed := true, recurses := true, named := ["math/bits.divideError", "math/bits.overflowError"], apart := false }
def ProjDoublesSaid : Prop := projDoublesRow.holds Tryz.pinned (OpenSpec.ofChange projDoublesSpec)

/-- ITS FALSE NEIGHBOUR: 'it returns false'. Refute it at one input. -/
def projDoublesWrong : ChangeSpec := { name := "projDoubles", fn := fun _ => fun
  | [d1, d2, d3] => { results := [.lit (.bool false)], args := [d1, d2, d3] }
  | _ => none }
def ProjDoublesWrongFalsely : Prop := projDoublesRow.holds Tryz.pinned (OpenSpec.ofChange projDoublesWrong)

/-- 'curvetlaw15.ProjNone': WHATEVER THE INPUT: true; the input reads as it did. -/
def projNoneSpec : ChangeSpec := { name := "projNone", fn := fun _ => fun
  | [d1, d2, d3] => { results := [.lit (.bool true)], args := [d1, d2, d3] }
  | _ => none }
def projNoneRow : OpenClaim := { program := "ytffhepbppiocbabgreat", sum := "1fbf2c0bbb3849d2460b0be5834a7c5eff005d7dcaab3f9f3926da68b5d78aa5", func := "curvet/curvetlaw15.ProjNone", spec := "projNone", inPlace := ["math/bits.Sub64", "math/bits.Add64"], unfollowed := true, recurses := true, named := ["math/bits.divideError", "math/bits.overflowError"], apart := false }
def ProjNoneSaid : Prop := projNoneRow.holds Tryz.pinned (OpenSpec.ofChange projNoneSpec)

/-- ITS FALSE NEIGHBOUR: 'it returns false'. Refute it at one input. -/
def projNoneWrong : ChangeSpec := { name := "projNone", fn := fun _ => fun
  | [d1, d2, d3] => { results := [.lit (.bool false)], args := [d1, d2, d3] }
  | _ => none }
def ProjNoneWrongFalsely : Prop := projNoneRow.holds Tryz.pinned (OpenSpec.ofChange projNoneWrong)

/-- 'curvetlaw15.ProjTiny': WHATEVER THE INPUT: true; the input reads as it did. -/
def projTinySpec : ChangeSpec := { name := "projTiny", fn := fun _ => fun
  | [d1, d2] => { results := [.lit (.bool true)], args := [d1, d2] }
  | _ => none }
def projTinyRow : OpenClaim := { program := "ytffhepbppiocbabgreat", sum := "1fbf2c0bbb3849d2460b0be5834a7c5eff005d7dcaab3f9f3926da68b5d78aa5", func := "curvet/curvetlaw15.ProjTiny", spec := "projTiny", inPlace := ["math/bits.Sub64", "math/bits.Add64"], unfollowed := true, recurses := true, named := ["math/bits.divideError", "math/bits.overflowError"], apart := false }
def ProjTinySaid : Prop := projTinyRow.holds Tryz.pinned (OpenSpec.ofChange projTinySpec)

/-- ITS FALSE NEIGHBOUR: 'it returns false'. Refute it at one input. -/
def projTinyWrong : ChangeSpec := { name := "projTiny", fn := fun _ => fun
  | [d1, d2] => { results := [.lit (.bool false)], args := [d1, d2] }
  | _ => none }
def ProjTinyWrongFalsely : Prop := projTinyRow.holds Tryz.pinned (OpenSpec.ofChange projTinyWrong)

/-- 'curvetlaw16.Tables': WHATEVER THE INPUT: true; the input reads as it did. -/
def tablesSpec : ChangeSpec := { name := "tables", fn := fun _ => fun
  | [d1, d2, d3, d4] => { results := [.lit (.bool true)], args := [d1, d2, d3, d4] }
  | _ => none }
def tablesRow : OpenClaim := { program := "ytffhepbppiocbabgreat", sum := "1fbf2c0bbb3849d2460b0be5834a7c5eff005d7dcaab3f9f3926da68b5d78aa5", func := "curvet/curvetlaw16.Tables", spec := "tables", inPlace := ["math/bits.Sub64", "math/bits.Add64"], unfollowed := true, recurses := true, named := ["math/bits.divideError", "math/bits.overflowError"], apart := false }
def TablesSaid : Prop := tablesRow.holds Tryz.pinned (OpenSpec.ofChange tablesSpec)

/-- ITS FALSE NEIGHBOUR: 'it returns false'. Refute it at one input. -/
def tablesWrong : ChangeSpec := { name := "tables", fn := fun _ => fun
  | [d1, d2, d3, d4] => { results := [.lit (.bool false)], args := [d1, d2, d3, d4] }
  | _ => none }
def TablesWrongFalsely : Prop := tablesRow.holds Tryz.pinned (OpenSpec.ofChange tablesWrong)

/-- 'curvetlaw16.TableBlind': WHATEVER THE INPUT: true; the input reads as it did. -/
def tableBlindSpec : ChangeSpec := { name := "tableBlind", fn := fun _ => fun
  | [d1, d2, d3, d4] => { results := [.lit (.bool true)], args := [d1, d2, d3, d4] }
  | _ => none }
def tableBlindRow : OpenClaim := { program := "ytffhepbppiocbabgreat", sum := "1fbf2c0bbb3849d2460b0be5834a7c5eff005d7dcaab3f9f3926da68b5d78aa5", func := "curvet/curvetlaw16.TableBlind", spec := "tableBlind", inPlace := ["math/bits.Sub64", "math/bits.Add64"], unfollowed := true, recurses := true, named := ["math/bits.divideError", "math/bits.overflowError"], apart := false }
def TableBlindSaid : Prop := tableBlindRow.holds Tryz.pinned (OpenSpec.ofChange tableBlindSpec)

/-- ITS FALSE NEIGHBOUR: 'it returns false'. Refute it at one input. -/
def tableBlindWrong : ChangeSpec := { name := "tableBlind", fn := fun _ => fun
  | [d1, d2, d3, d4] => { results := [.lit (.bool false)], args := [d1, d2, d3, d4] }
  | _ => none }
def TableBlindWrongFalsely : Prop := tableBlindRow.holds Tryz.pinned (OpenSpec.ofChange tableBlindWrong)

/- THE SECOND FORM. 'bulk': how many values and letters a reading holds, each counted each time it is reached (what is shared counts as often as it is met; a slice's spare places count too). A statement '..UptoSaid' is the law's where the arguments, and the package variables that the reading takes, are together of bulk at most 1048576: NARROWER than '..Said'. Prove '..Said' where nothing that the law and all that it calls make is longer than what came in: it says more and counts as full. Else prove '..UptoSaid'. A law counts once. -/
mutual
def uptoBulk {H : Type} : DataW H → Nat
  | .lit (.string bytes) => bytes.length + 1
  | .lit _ => 1
  | .nil => 1
  | .ptr d => uptoBulk d + 1
  | .slice elems spare => uptoBulkAll elems + uptoBulkAll spare + 1
  | .agg parts => uptoBulkAll parts + 1
  | .iface _ d => uptoBulk d + 1
  | .map entries => uptoBulkEntries entries + 1
  | .held _ => 1
def uptoBulkAll {H : Type} : List (DataW H) → Nat
  | [] => 0
  | d :: r => uptoBulk d + uptoBulkAll r
def uptoBulkEntries {H : Type} : List (Lit × DataW H) → Nat
  | [] => 0
  | x :: r => uptoBulkEntry x + uptoBulkEntries r
def uptoBulkEntry {H : Type} : Lit × DataW H → Nat
  | (.string bytes, d) => bytes.length + uptoBulk d + 1
  | (_, d) => uptoBulk d + 1
 end
def uptoSmall : (H : Type) → List (DataW H) → Bool := fun _ ds => decide (uptoBulkAll ds ≤ 1048576)
def OpenSpec.upto (s : _root_.Go.ChangeSpec) : _root_.Go.OpenSpec := { _root_.Go.OpenSpec.ofChange s with cond := some uptoSmall }

/-- 'curvetlaw14.AffineLine', WHERE WHAT IT READS IS OF BULK AT MOST 1048576: true; the input reads as it did. -/
def affineLineUptoRow : OpenClaim := { program := "ytffhepbppiocbabgreat", sum := "1fbf2c0bbb3849d2460b0be5834a7c5eff005d7dcaab3f9f3926da68b5d78aa5", func := "curvet/curvetlaw14.AffineLine", spec := "affineLine", inPlace := ["math/bits.Sub64", "math/bits.Add64"], unfollowed := true, recurses := true, named := ["math/bits.divideError", "math/bits.overflowError"], apart := false, narrowed := true }
def AffineLineUptoSaid : Prop := affineLineUptoRow.holds Tryz.pinned (OpenSpec.upto affineLineSpec)

/-- 'curvetlaw14.AffineOpposite', WHERE WHAT IT READS IS OF BULK AT MOST 1048576: true; the input reads as it did. -/
def affineOppositeUptoRow : OpenClaim := { program := "ytffhepbppiocbabgreat", sum := "1fbf2c0bbb3849d2460b0be5834a7c5eff005d7dcaab3f9f3926da68b5d78aa5", func := "curvet/curvetlaw14.AffineOpposite", spec := "affineOpposite", inPlace := ["math/bits.Sub64", "math/bits.Add64"], unfollowed := true, recurses := true, named := ["math/bits.divideError", "math/bits.overflowError"], apart := false, narrowed := true }
def AffineOppositeUptoSaid : Prop := affineOppositeUptoRow.holds Tryz.pinned (OpenSpec.upto affineOppositeSpec)

/-- 'curvetlaw14.AffineTiny', WHERE WHAT IT READS IS OF BULK AT MOST 1048576: true; the input reads as it did. -/
def affineTinyUptoRow : OpenClaim := { program := "ytffhepbppiocbabgreat", sum := "1fbf2c0bbb3849d2460b0be5834a7c5eff005d7dcaab3f9f3926da68b5d78aa5", func := "curvet/curvetlaw14.AffineTiny", spec := "affineTiny", inPlace := ["math/bits.Sub64", "math/bits.Add64"], unfollowed := true, recurses := true, named := ["math/bits.divideError", "math/bits.overflowError"], apart := false, narrowed := true }
def AffineTinyUptoSaid : Prop := affineTinyUptoRow.holds Tryz.pinned (OpenSpec.upto affineTinySpec)

/-- 'curvetlaw15.Projs', WHERE WHAT IT READS IS OF BULK AT MOST 1048576: true; the input reads as it did. -/
def projsUptoRow : OpenClaim := { program := "ytffhepbppiocbabgreat", sum := "1fbf2c0bbb3849d2460b0be5834a7c5eff005d7dcaab3f9f3926da68b5d78aa5", func := "curvet/curvetlaw15.Projs", spec := "projs", inPlace := ["math/bits.Sub64", "math/bits.Add64"], unfollowed := true, recurses := true, named := ["math/bits.divideError", "math/bits.overflowError"], apart := false, narrowed := true }
def ProjsUptoSaid : Prop := projsUptoRow.holds Tryz.pinned (OpenSpec.upto projsSpec)

/-- 'curvetlaw15.ProjFrom', WHERE WHAT IT READS IS OF BULK AT MOST 1048576: true; the input reads as it did. -/
def projFromUptoRow : OpenClaim := { program := "ytffhepbppiocbabgreat", sum := "1fbf2c0bbb3849d2460b0be5834a7c5eff005d7dcaab3f9f3926da68b5d78aa5", func := "curvet/curvetlaw15.ProjFrom", spec := "projFrom", inPlace := ["math/bits.Sub64", "math/bits.Add64"], unfollowed := true, recurses := true, named := ["math/bits.divideError", "math/bits.overflowError"], apart := false, narrowed := true }
def ProjFromUptoSaid : Prop := projFromUptoRow.holds Tryz.pinned (OpenSpec.upto projFromSpec)

/-- 'curvetlaw15.ProjScaled', WHERE WHAT IT READS IS OF BULK AT MOST 1048576: true; the input reads as it did. -/
def projScaledUptoRow : OpenClaim := { program := "ytffhepbppiocbabgreat", sum := "1fbf2c0bbb3849d2460b0be5834a7c5eff005d7dcaab3f9f3926da68b5d78aa5", func := "curvet/curvetlaw15.ProjScaled", spec := "projScaled", inPlace := ["math/bits.Sub64", "math/bits.Add64"], unfollowed := true, recurses := true, named := ["math/bits.divideError", "math/bits.overflowError"], apart := false, narrowed := true }
def ProjScaledUptoSaid : Prop := projScaledUptoRow.holds Tryz.pinned (OpenSpec.upto projScaledSpec)

/-- 'curvetlaw15.ProjSums', WHERE WHAT IT READS IS OF BULK AT MOST 1048576: true; the input reads as it did. -/
def projSumsUptoRow : OpenClaim := { program := "ytffhepbppiocbabgreat", sum := "1fbf2c0bbb3849d2460b0be5834a7c5eff005d7dcaab3f9f3926da68b5d78aa5", func := "curvet/curvetlaw15.ProjSums", spec := "projSums", inPlace := ["math/bits.Sub64", "math/bits.Add64"], unfollowed := true, recurses := true, named := ["math/bits.divideError", "math/bits.overflowError"], apart := false, narrowed := true }
def ProjSumsUptoSaid : Prop := projSumsUptoRow.holds Tryz.pinned (OpenSpec.upto projSumsSpec)

/-- 'curvetlaw15.ProjDoubles', WHERE WHAT IT READS IS OF BULK AT MOST 1048576: true; the input reads as it did. -/
def projDoublesUptoRow : OpenClaim := { program := "ytffhepbppiocbabgreat", sum := "1fbf2c0bbb3849d2460b0be5834a7c5eff005d7dcaab3f9f3926da68b5d78aa5", func := "curvet/curvetlaw15.ProjDoubles", spec := "projDoubles", inPlace := ["math/bits.Sub64", "math/bits.Add64"], unfollowed := true, recurses := true, named := ["math/bits.divideError", "math/bits.overflowError"], apart := false, narrowed := true }
def ProjDoublesUptoSaid : Prop := projDoublesUptoRow.holds Tryz.pinned (OpenSpec.upto projDoublesSpec)

/-- 'curvetlaw15.ProjNone', WHERE WHAT IT READS IS OF BULK AT MOST 1048576: true; the input reads as it did. -/
def projNoneUptoRow : OpenClaim := { program := "ytffhepbppiocbabgreat", sum := "1fbf2c0bbb3849d2460b0be5834a7c5eff005d7dcaab3f9f3926da68b5d78aa5", func := "curvet/curvetlaw15.ProjNone", spec := "projNone", inPlace := ["math/bits.Sub64", "math/bits.Add64"], unfollowed := true, recurses := true, named := ["math/bits.divideError", "math/bits.overflowError"], apart := false, narrowed := true }
def ProjNoneUptoSaid : Prop := projNoneUptoRow.holds Tryz.pinned (OpenSpec.upto projNoneSpec)

/-- 'curvetlaw15.ProjTiny', WHERE WHAT IT READS IS OF BULK AT MOST 1048576: true; the input reads as it did. -/
def projTinyUptoRow : OpenClaim := { program := "ytffhepbppiocbabgreat", sum := "1fbf2c0bbb3849d2460b0be5834a7c5eff005d7dcaab3f9f3926da68b5d78aa5", func := "curvet/curvetlaw15.ProjTiny", spec := "projTiny", inPlace := ["math/bits.Sub64", "math/bits.Add64"], unfollowed := true, recurses := true, named := ["math/bits.divideError", "math/bits.overflowError"], apart := false, narrowed := true }
def ProjTinyUptoSaid : Prop := projTinyUptoRow.holds Tryz.pinned (OpenSpec.upto projTinySpec)

/-- 'curvetlaw16.Tables', WHERE WHAT IT READS IS OF BULK AT MOST 1048576: true; the input reads as it did. -/
def tablesUptoRow : OpenClaim := { program := "ytffhepbppiocbabgreat", sum := "1fbf2c0bbb3849d2460b0be5834a7c5eff005d7dcaab3f9f3926da68b5d78aa5", func := "curvet/curvetlaw16.Tables", spec := "tables", inPlace := ["math/bits.Sub64", "math/bits.Add64"], unfollowed := true, recurses := true, named := ["math/bits.divideError", "math/bits.overflowError"], apart := false, narrowed := true }
def TablesUptoSaid : Prop := tablesUptoRow.holds Tryz.pinned (OpenSpec.upto tablesSpec)

/-- 'curvetlaw16.TableBlind', WHERE WHAT IT READS IS OF BULK AT MOST 1048576: true; the input reads as it did. -/
def tableBlindUptoRow : OpenClaim := { program := "ytffhepbppiocbabgreat", sum := "1fbf2c0bbb3849d2460b0be5834a7c5eff005d7dcaab3f9f3926da68b5d78aa5", func := "curvet/curvetlaw16.TableBlind", spec := "tableBlind", inPlace := ["math/bits.Sub64", "math/bits.Add64"], unfollowed := true, recurses := true, named := ["math/bits.divideError", "math/bits.overflowError"], apart := false, narrowed := true }
def TableBlindUptoSaid : Prop := tableBlindUptoRow.holds Tryz.pinned (OpenSpec.upto tableBlindSpec)

end Rows
end Go.Proofs.YtffhepbppiocbabGreat
