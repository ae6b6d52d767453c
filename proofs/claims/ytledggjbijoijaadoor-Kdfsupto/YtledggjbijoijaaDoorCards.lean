/-
  DERIVED. GIVEN WITH THE SEED: THE CARDS: each row of YtledggjbijoijaaDoorRows.lean that lists a variable, with what it lists TIED to the program's text (the seventh form; the later family's looks); each row that meets fmt, with fmt's text TOLD by the authors' own Lean function (tested against real Go, not proved from fmt's source: count such statements apart). THE CARD IS WHAT COUNTS. Prove the row's statement (the work); the ties are given (YtledggjbijoijaaDoorTie.lean); close each card by the builder's one call (the guide's Derived/Test/ToyasCard.lean, 'card_holds'). Laid BY PROGRAM, IN A SANDBOX (cutbox-door.mjs). By AI agents, Wed Nov 11 2026. No macro, syntax, notation, axiom, sorry.
-/
import Derived.Test.YtledggjbijoijaaDoorRows
import GoSem.ClaimSeven
namespace Go.Proofs.YtledggjbijoijaaDoor
namespace Rows

/-- THE TIED CARD OF 'curvetlaw12.Kdfs'. -/
def kdfsCard : Claim7 := { stood := { row := kdfsRow, standIns := [], harness := (true, "cf14a7e32dcff21fa41d320252bdf8394cbecdae57bea029cb77a3ee2b82048e"), looks := false }, kinds := [], alts := [], laidByText := true, laidKinds := [.data, .data], laidTests := true, laidLooks := .later }
def KdfsCardSaid : Prop := Claim7.holds Tryd.pinned (.plain (OpenSpec.ofChange kdfsSpec)) kdfsCard

/-- THE TIED CARD OF 'curvetlaw12.KdfBegins'. -/
def kdfBeginsCard : Claim7 := { stood := { row := kdfBeginsRow, standIns := [], harness := (true, "cf14a7e32dcff21fa41d320252bdf8394cbecdae57bea029cb77a3ee2b82048e"), looks := false }, kinds := [], alts := [], laidByText := true, laidKinds := [.data, .data], laidTests := true, laidLooks := .later }
def KdfBeginsCardSaid : Prop := Claim7.holds Tryd.pinned (.plain (OpenSpec.ofChange kdfBeginsSpec)) kdfBeginsCard

/-- THE TIED CARD OF 'curvetlaw12.KdfBlocks'. -/
def kdfBlocksCard : Claim7 := { stood := { row := kdfBlocksRow, standIns := [], harness := (true, "cf14a7e32dcff21fa41d320252bdf8394cbecdae57bea029cb77a3ee2b82048e"), looks := false }, kinds := [], alts := [], laidByText := true, laidKinds := [.data, .data], laidTests := true, laidLooks := .later }
def KdfBlocksCardSaid : Prop := Claim7.holds Tryd.pinned (.plain (OpenSpec.ofChange kdfBlocksSpec)) kdfBlocksCard

/-- THE TIED CARD OF 'curvetlaw12.KdfOther'. -/
def kdfOtherCard : Claim7 := { stood := { row := kdfOtherRow, standIns := [], harness := (true, "cf14a7e32dcff21fa41d320252bdf8394cbecdae57bea029cb77a3ee2b82048e"), looks := false }, kinds := [], alts := [], laidByText := true, laidKinds := [.data, .data], laidTests := true, laidLooks := .later }
def KdfOtherCardSaid : Prop := Claim7.holds Tryd.pinned (.plain (OpenSpec.ofChange kdfOtherSpec)) kdfOtherCard

/-- THE SECOND FORM's CARD OF 'curvetlaw12.Kdfs'. -/
def kdfsUptoCard : Claim7 := { stood := { row := kdfsUptoRow, standIns := [], harness := (true, "cf14a7e32dcff21fa41d320252bdf8394cbecdae57bea029cb77a3ee2b82048e"), looks := false }, kinds := [], alts := [], laidByText := true, laidKinds := [.data, .data], laidTests := true, laidLooks := .later }
def KdfsUptoCardSaid : Prop := Claim7.holds Tryd.pinned (.plain (OpenSpec.upto kdfsSpec)) kdfsUptoCard

/-- THE SECOND FORM's CARD OF 'curvetlaw12.KdfBegins'. -/
def kdfBeginsUptoCard : Claim7 := { stood := { row := kdfBeginsUptoRow, standIns := [], harness := (true, "cf14a7e32dcff21fa41d320252bdf8394cbecdae57bea029cb77a3ee2b82048e"), looks := false }, kinds := [], alts := [], laidByText := true, laidKinds := [.data, .data], laidTests := true, laidLooks := .later }
def KdfBeginsUptoCardSaid : Prop := Claim7.holds Tryd.pinned (.plain (OpenSpec.upto kdfBeginsSpec)) kdfBeginsUptoCard

/-- THE SECOND FORM's CARD OF 'curvetlaw12.KdfBlocks'. -/
def kdfBlocksUptoCard : Claim7 := { stood := { row := kdfBlocksUptoRow, standIns := [], harness := (true, "cf14a7e32dcff21fa41d320252bdf8394cbecdae57bea029cb77a3ee2b82048e"), looks := false }, kinds := [], alts := [], laidByText := true, laidKinds := [.data, .data], laidTests := true, laidLooks := .later }
def KdfBlocksUptoCardSaid : Prop := Claim7.holds Tryd.pinned (.plain (OpenSpec.upto kdfBlocksSpec)) kdfBlocksUptoCard

/-- THE SECOND FORM's CARD OF 'curvetlaw12.KdfOther'. -/
def kdfOtherUptoCard : Claim7 := { stood := { row := kdfOtherUptoRow, standIns := [], harness := (true, "cf14a7e32dcff21fa41d320252bdf8394cbecdae57bea029cb77a3ee2b82048e"), looks := false }, kinds := [], alts := [], laidByText := true, laidKinds := [.data, .data], laidTests := true, laidLooks := .later }
def KdfOtherUptoCardSaid : Prop := Claim7.holds Tryd.pinned (.plain (OpenSpec.upto kdfOtherSpec)) kdfOtherUptoCard
end Rows
end Go.Proofs.YtledggjbijoijaaDoor
