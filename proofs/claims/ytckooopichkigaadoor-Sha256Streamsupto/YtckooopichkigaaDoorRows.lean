/-
  NARROWER THAN 'FOR EVERY INPUT', by the rows' own cells (each row's printed sentence says how): Sha256Of: laid · Sha256Streams: laid · Sha256Cuts: laid · Sha256Ends: laid · Sha256Apart: laid.
  DERIVED. THE GIVEN ROWS OF THIS SEAT. 5 by the template 'for every input the law returns true; each argument reads behind the call as it read before'; 0 by the template 'total and deterministic' (their statements: YtckooopichkigaaDoorTotals.lean).
  GIVEN WITH THE SEED: the statements are not yours to turn. If you find one false, say at which input.
  Laid BY PROGRAM, IN A SANDBOX (cutbox-rows.mjs): the forced cells as the released guide's own fill.sh prints them over the translation bed187c697ed1d2c… (all of the seat's roots in one cut). By AI agents, Wed Nov 11 2026. No macro, syntax, notation, axiom, sorry.
-/
import Derived.Test.YtckooopichkigaaDoorChecked
import GoSem.Claim
import GoSem.ClaimJoined
import GoSem.ClaimMapViews
import Derived.JoinedTies
import Derived.KernelRfl
namespace Go.Proofs.YtckooopichkigaaDoor
/- THE CELL 'sum', in the pinned program and in every row, IS THE sha256 OF THE DUMP (.gsa) THAT YtckooopichkigaaDoorProg.lean LOADS. Nothing in Lean hashes anything: it is a label: what it is worth is what the hold of that sum in a sandbox is worth. -/
noncomputable def Tryd.pinned : Pinned := { name := "ytckooopichkigaadoor", sum := "bed187c697ed1d2ce0744a48b1dad01d936aab3c8092ae23ce91ff2a326e6305", checked := Tryd.checked }
namespace Rows
def none {H : Type} : Left H := { results := [], args := [] }

/- WHAT THE LISTED PACKAGE-LEVEL VARIABLES READ AS WHEN THE CALL BEGINS. Each datum BY PROGRAM (the guide's laid-datum.mjs) off the statement by which the dump's own 'gosem.cut.vars' lays the variable. In a bare row this is a premise. The card (YtckooopichkigaaDoorCards.lean) ties it to the program's text. -/
def laid_curvet_sha256_constants {H : Type} : DataW H := .agg [.lit (.int .u32 1116352408), .lit (.int .u32 1899447441), .lit (.int .u32 3049323471), .lit (.int .u32 3921009573), .lit (.int .u32 961987163), .lit (.int .u32 1508970993), .lit (.int .u32 2453635748), .lit (.int .u32 2870763221), .lit (.int .u32 3624381080), .lit (.int .u32 310598401), .lit (.int .u32 607225278), .lit (.int .u32 1426881987), .lit (.int .u32 1925078388), .lit (.int .u32 2162078206), .lit (.int .u32 2614888103), .lit (.int .u32 3248222580), .lit (.int .u32 3835390401), .lit (.int .u32 4022224774), .lit (.int .u32 264347078), .lit (.int .u32 604807628), .lit (.int .u32 770255983), .lit (.int .u32 1249150122), .lit (.int .u32 1555081692), .lit (.int .u32 1996064986), .lit (.int .u32 2554220882), .lit (.int .u32 2821834349), .lit (.int .u32 2952996808), .lit (.int .u32 3210313671), .lit (.int .u32 3336571891), .lit (.int .u32 3584528711), .lit (.int .u32 113926993), .lit (.int .u32 338241895), .lit (.int .u32 666307205), .lit (.int .u32 773529912), .lit (.int .u32 1294757372), .lit (.int .u32 1396182291), .lit (.int .u32 1695183700), .lit (.int .u32 1986661051), .lit (.int .u32 2177026350), .lit (.int .u32 2456956037), .lit (.int .u32 2730485921), .lit (.int .u32 2820302411), .lit (.int .u32 3259730800), .lit (.int .u32 3345764771), .lit (.int .u32 3516065817), .lit (.int .u32 3600352804), .lit (.int .u32 4094571909), .lit (.int .u32 275423344), .lit (.int .u32 430227734), .lit (.int .u32 506948616), .lit (.int .u32 659060556), .lit (.int .u32 883997877), .lit (.int .u32 958139571), .lit (.int .u32 1322822218), .lit (.int .u32 1537002063), .lit (.int .u32 1747873779), .lit (.int .u32 1955562222), .lit (.int .u32 2024104815), .lit (.int .u32 2227730452), .lit (.int .u32 2361852424), .lit (.int .u32 2428436474), .lit (.int .u32 2756734187), .lit (.int .u32 3204031479), .lit (.int .u32 3329325298)]

/-- 'curvetlaw7.Sha256Of': WHATEVER THE INPUT: true; the input reads as it did. -/
def sha256OfSpec : ChangeSpec := { name := "sha256Of", fn := fun _ => fun
  | [d1, d2] => { results := [.lit (.bool true)], args := [d1, d2] }
  | _ => none }
def sha256OfRow : OpenClaim := { program := "ytckooopichkigaadoor", sum := "bed187c697ed1d2ce0744a48b1dad01d936aab3c8092ae23ce91ff2a326e6305", func := "curvet/curvetlaw7.Sha256Of", spec := "sha256Of", unfollowed := true, recurses := true, named := ["curvet/sha256.constants"], apart := false, laid := [("curvet/sha256.constants", laid_curvet_sha256_constants)] }
def Sha256OfSaid : Prop := sha256OfRow.holds Tryd.pinned (OpenSpec.ofChange sha256OfSpec)

/-- ITS FALSE NEIGHBOUR: 'it returns false'. Refute it at one input. -/
def sha256OfWrong : ChangeSpec := { name := "sha256Of", fn := fun _ => fun
  | [d1, d2] => { results := [.lit (.bool false)], args := [d1, d2] }
  | _ => none }
def Sha256OfWrongFalsely : Prop := sha256OfRow.holds Tryd.pinned (OpenSpec.ofChange sha256OfWrong)

/-- 'curvetlaw7.Sha256Streams': WHATEVER THE INPUT: true; the input reads as it did. -/
def sha256StreamsSpec : ChangeSpec := { name := "sha256Streams", fn := fun _ => fun
  | [d1, d2] => { results := [.lit (.bool true)], args := [d1, d2] }
  | _ => none }
def sha256StreamsRow : OpenClaim := { program := "ytckooopichkigaadoor", sum := "bed187c697ed1d2ce0744a48b1dad01d936aab3c8092ae23ce91ff2a326e6305", func := "curvet/curvetlaw7.Sha256Streams", spec := "sha256Streams", unfollowed := true, recurses := true, named := ["curvet/sha256.constants"], apart := false, laid := [("curvet/sha256.constants", laid_curvet_sha256_constants)] }
def Sha256StreamsSaid : Prop := sha256StreamsRow.holds Tryd.pinned (OpenSpec.ofChange sha256StreamsSpec)

/-- ITS FALSE NEIGHBOUR: 'it returns false'. Refute it at one input. -/
def sha256StreamsWrong : ChangeSpec := { name := "sha256Streams", fn := fun _ => fun
  | [d1, d2] => { results := [.lit (.bool false)], args := [d1, d2] }
  | _ => none }
def Sha256StreamsWrongFalsely : Prop := sha256StreamsRow.holds Tryd.pinned (OpenSpec.ofChange sha256StreamsWrong)

/-- 'curvetlaw7.Sha256Cuts': WHATEVER THE INPUT: true; the input reads as it did. -/
def sha256CutsSpec : ChangeSpec := { name := "sha256Cuts", fn := fun _ => fun
  | [d1, d2, d3] => { results := [.lit (.bool true)], args := [d1, d2, d3] }
  | _ => none }
def sha256CutsRow : OpenClaim := { program := "ytckooopichkigaadoor", sum := "bed187c697ed1d2ce0744a48b1dad01d936aab3c8092ae23ce91ff2a326e6305", func := "curvet/curvetlaw7.Sha256Cuts", spec := "sha256Cuts", unfollowed := true, recurses := true, named := ["curvet/sha256.constants"], apart := false, laid := [("curvet/sha256.constants", laid_curvet_sha256_constants)] }
def Sha256CutsSaid : Prop := sha256CutsRow.holds Tryd.pinned (OpenSpec.ofChange sha256CutsSpec)

/-- ITS FALSE NEIGHBOUR: 'it returns false'. Refute it at one input. -/
def sha256CutsWrong : ChangeSpec := { name := "sha256Cuts", fn := fun _ => fun
  | [d1, d2, d3] => { results := [.lit (.bool false)], args := [d1, d2, d3] }
  | _ => none }
def Sha256CutsWrongFalsely : Prop := sha256CutsRow.holds Tryd.pinned (OpenSpec.ofChange sha256CutsWrong)

/-- 'curvetlaw7.Sha256Ends': WHATEVER THE INPUT: true; the input reads as it did. -/
def sha256EndsSpec : ChangeSpec := { name := "sha256Ends", fn := fun _ => fun
  | [d1, d2] => { results := [.lit (.bool true)], args := [d1, d2] }
  | _ => none }
def sha256EndsRow : OpenClaim := { program := "ytckooopichkigaadoor", sum := "bed187c697ed1d2ce0744a48b1dad01d936aab3c8092ae23ce91ff2a326e6305", func := "curvet/curvetlaw7.Sha256Ends", spec := "sha256Ends", unfollowed := true, recurses := true, named := ["curvet/sha256.constants"], apart := false, laid := [("curvet/sha256.constants", laid_curvet_sha256_constants)] }
def Sha256EndsSaid : Prop := sha256EndsRow.holds Tryd.pinned (OpenSpec.ofChange sha256EndsSpec)

/-- ITS FALSE NEIGHBOUR: 'it returns false'. Refute it at one input. -/
def sha256EndsWrong : ChangeSpec := { name := "sha256Ends", fn := fun _ => fun
  | [d1, d2] => { results := [.lit (.bool false)], args := [d1, d2] }
  | _ => none }
def Sha256EndsWrongFalsely : Prop := sha256EndsRow.holds Tryd.pinned (OpenSpec.ofChange sha256EndsWrong)

/-- 'curvetlaw7.Sha256Apart': WHATEVER THE INPUT: true; the input reads as it did. -/
def sha256ApartSpec : ChangeSpec := { name := "sha256Apart", fn := fun _ => fun
  | [d1, d2] => { results := [.lit (.bool true)], args := [d1, d2] }
  | _ => none }
def sha256ApartRow : OpenClaim := { program := "ytckooopichkigaadoor", sum := "bed187c697ed1d2ce0744a48b1dad01d936aab3c8092ae23ce91ff2a326e6305", func := "curvet/curvetlaw7.Sha256Apart", spec := "sha256Apart", unfollowed := true, recurses := true, named := ["curvet/sha256.constants"], apart := false, laid := [("curvet/sha256.constants", laid_curvet_sha256_constants)] }
def Sha256ApartSaid : Prop := sha256ApartRow.holds Tryd.pinned (OpenSpec.ofChange sha256ApartSpec)

/-- ITS FALSE NEIGHBOUR: 'it returns false'. Refute it at one input. -/
def sha256ApartWrong : ChangeSpec := { name := "sha256Apart", fn := fun _ => fun
  | [d1, d2] => { results := [.lit (.bool false)], args := [d1, d2] }
  | _ => none }
def Sha256ApartWrongFalsely : Prop := sha256ApartRow.holds Tryd.pinned (OpenSpec.ofChange sha256ApartWrong)

/- THE SECOND FORM. 'bulk': how many values and letters a reading holds, each counted each time it is reached (what is shared counts as often as it is met; a slice's spare places count too). A statement '..UptoSaid' is the law's where the arguments, and the package variables that the reading takes, are together of bulk at most 1048576: NARROWER than '..Said'. Prove '..Said' where nothing that the law and all that it calls make is longer than what came in: it says more and counts as full. Else prove '..UptoSaid'. A law counts once. -/
mutual
def uptoBulk {H : Type} : DataW H → Nat
  | .lit (.string bytes) => bytes.length + 1
  | .lit _ => 1
  | .nil => 1
  | .ptr d => uptoBulk d + 1
  | .slice elems spare => uptoBulkAll elems + uptoBulkAll spare + 1
  | .agg parts => uptoBulkAll parts + 1
  | .iface _ d => uptoBulk d + 1
  | .map entries => uptoBulkEntries entries + 1
  | .held _ => 1
def uptoBulkAll {H : Type} : List (DataW H) → Nat
  | [] => 0
  | d :: r => uptoBulk d + uptoBulkAll r
def uptoBulkEntries {H : Type} : List (Lit × DataW H) → Nat
  | [] => 0
  | x :: r => uptoBulkEntry x + uptoBulkEntries r
def uptoBulkEntry {H : Type} : Lit × DataW H → Nat
  | (.string bytes, d) => bytes.length + uptoBulk d + 1
  | (_, d) => uptoBulk d + 1
 end
def uptoSmall : (H : Type) → List (DataW H) → Bool := fun _ ds => decide (uptoBulkAll ds ≤ 1048576)
def OpenSpec.upto (s : _root_.Go.ChangeSpec) : _root_.Go.OpenSpec := { _root_.Go.OpenSpec.ofChange s with cond := some uptoSmall }

/-- 'curvetlaw7.Sha256Of', WHERE WHAT IT READS IS OF BULK AT MOST 1048576: true; the input reads as it did. -/
def sha256OfUptoRow : OpenClaim := { program := "ytckooopichkigaadoor", sum := "bed187c697ed1d2ce0744a48b1dad01d936aab3c8092ae23ce91ff2a326e6305", func := "curvet/curvetlaw7.Sha256Of", spec := "sha256Of", unfollowed := true, recurses := true, named := ["curvet/sha256.constants"], apart := false, laid := [("curvet/sha256.constants", laid_curvet_sha256_constants)], narrowed := true }
def Sha256OfUptoSaid : Prop := sha256OfUptoRow.holds Tryd.pinned (OpenSpec.upto sha256OfSpec)

/-- 'curvetlaw7.Sha256Streams', WHERE WHAT IT READS IS OF BULK AT MOST 1048576: true; the input reads as it did. -/
def sha256StreamsUptoRow : OpenClaim := { program := "ytckooopichkigaadoor", sum := "bed187c697ed1d2ce0744a48b1dad01d936aab3c8092ae23ce91ff2a326e6305", func := "curvet/curvetlaw7.Sha256Streams", spec := "sha256Streams", unfollowed := true, recurses := true, named := ["curvet/sha256.constants"], apart := false, laid := [("curvet/sha256.constants", laid_curvet_sha256_constants)], narrowed := true }
def Sha256StreamsUptoSaid : Prop := sha256StreamsUptoRow.holds Tryd.pinned (OpenSpec.upto sha256StreamsSpec)

/-- 'curvetlaw7.Sha256Cuts', WHERE WHAT IT READS IS OF BULK AT MOST 1048576: true; the input reads as it did. -/
def sha256CutsUptoRow : OpenClaim := { program := "ytckooopichkigaadoor", sum := "bed187c697ed1d2ce0744a48b1dad01d936aab3c8092ae23ce91ff2a326e6305", func := "curvet/curvetlaw7.Sha256Cuts", spec := "sha256Cuts", unfollowed := true, recurses := true, named := ["curvet/sha256.constants"], apart := false, laid := [("curvet/sha256.constants", laid_curvet_sha256_constants)], narrowed := true }
def Sha256CutsUptoSaid : Prop := sha256CutsUptoRow.holds Tryd.pinned (OpenSpec.upto sha256CutsSpec)

/-- 'curvetlaw7.Sha256Ends', WHERE WHAT IT READS IS OF BULK AT MOST 1048576: true; the input reads as it did. -/
def sha256EndsUptoRow : OpenClaim := { program := "ytckooopichkigaadoor", sum := "bed187c697ed1d2ce0744a48b1dad01d936aab3c8092ae23ce91ff2a326e6305", func := "curvet/curvetlaw7.Sha256Ends", spec := "sha256Ends", unfollowed := true, recurses := true, named := ["curvet/sha256.constants"], apart := false, laid := [("curvet/sha256.constants", laid_curvet_sha256_constants)], narrowed := true }
def Sha256EndsUptoSaid : Prop := sha256EndsUptoRow.holds Tryd.pinned (OpenSpec.upto sha256EndsSpec)

/-- 'curvetlaw7.Sha256Apart', WHERE WHAT IT READS IS OF BULK AT MOST 1048576: true; the input reads as it did. -/
def sha256ApartUptoRow : OpenClaim := { program := "ytckooopichkigaadoor", sum := "bed187c697ed1d2ce0744a48b1dad01d936aab3c8092ae23ce91ff2a326e6305", func := "curvet/curvetlaw7.Sha256Apart", spec := "sha256Apart", unfollowed := true, recurses := true, named := ["curvet/sha256.constants"], apart := false, laid := [("curvet/sha256.constants", laid_curvet_sha256_constants)], narrowed := true }
def Sha256ApartUptoSaid : Prop := sha256ApartUptoRow.holds Tryd.pinned (OpenSpec.upto sha256ApartSpec)

end Rows
end Go.Proofs.YtckooopichkigaaDoor
