/-
  DERIVED. GIVEN WITH THE SEED: THE CARDS: each row of YtincjgpbgoagnaaDoorRows.lean that lists a variable, with what it lists TIED to the program's text (the seventh form; the later family's looks); each row that meets fmt, with fmt's text TOLD by the authors' own Lean function (tested against real Go, not proved from fmt's source: count such statements apart). THE CARD IS WHAT COUNTS. Prove the row's statement (the work); the ties are given (YtincjgpbgoagnaaDoorTie.lean); close each card by the builder's one call (the guide's Derived/Test/ToyasCard.lean, 'card_holds'). Laid BY PROGRAM, IN A SANDBOX (cutbox-door.mjs). By AI agents, Wed Nov 11 2026. No macro, syntax, notation, axiom, sorry.
-/
import Derived.Test.YtincjgpbgoagnaaDoorRows
import GoSem.ClaimSeven
namespace Go.Proofs.YtincjgpbgoagnaaDoor
namespace Rows

/-- THE TIED CARD OF 'curvetlaw8.Sha512Of'. -/
def sha512OfCard : Claim7 := { stood := { row := sha512OfRow, standIns := [], harness := (true, "c76be0a701bb42c232bc8b304bd151c7521ec1a884336a26fb72d464701d24d7"), looks := false }, kinds := [], alts := [], laidByText := true, laidKinds := [.data], laidTests := true, laidLooks := .later }
def Sha512OfCardSaid : Prop := Claim7.holds Tryd.pinned (.plain (OpenSpec.ofChange sha512OfSpec)) sha512OfCard

/-- THE TIED CARD OF 'curvetlaw8.Sha512Streams'. -/
def sha512StreamsCard : Claim7 := { stood := { row := sha512StreamsRow, standIns := [], harness := (true, "c76be0a701bb42c232bc8b304bd151c7521ec1a884336a26fb72d464701d24d7"), looks := false }, kinds := [], alts := [], laidByText := true, laidKinds := [.data], laidTests := true, laidLooks := .later }
def Sha512StreamsCardSaid : Prop := Claim7.holds Tryd.pinned (.plain (OpenSpec.ofChange sha512StreamsSpec)) sha512StreamsCard

/-- THE TIED CARD OF 'curvetlaw8.Sha512Cuts'. -/
def sha512CutsCard : Claim7 := { stood := { row := sha512CutsRow, standIns := [], harness := (true, "c76be0a701bb42c232bc8b304bd151c7521ec1a884336a26fb72d464701d24d7"), looks := false }, kinds := [], alts := [], laidByText := true, laidKinds := [.data], laidTests := true, laidLooks := .later }
def Sha512CutsCardSaid : Prop := Claim7.holds Tryd.pinned (.plain (OpenSpec.ofChange sha512CutsSpec)) sha512CutsCard

/-- THE TIED CARD OF 'curvetlaw8.Sha512Ends'. -/
def sha512EndsCard : Claim7 := { stood := { row := sha512EndsRow, standIns := [], harness := (true, "c76be0a701bb42c232bc8b304bd151c7521ec1a884336a26fb72d464701d24d7"), looks := false }, kinds := [], alts := [], laidByText := true, laidKinds := [.data], laidTests := true, laidLooks := .later }
def Sha512EndsCardSaid : Prop := Claim7.holds Tryd.pinned (.plain (OpenSpec.ofChange sha512EndsSpec)) sha512EndsCard

/-- THE TIED CARD OF 'curvetlaw8.Sha512Apart'. -/
def sha512ApartCard : Claim7 := { stood := { row := sha512ApartRow, standIns := [], harness := (true, "c76be0a701bb42c232bc8b304bd151c7521ec1a884336a26fb72d464701d24d7"), looks := false }, kinds := [], alts := [], laidByText := true, laidKinds := [.data], laidTests := true, laidLooks := .later }
def Sha512ApartCardSaid : Prop := Claim7.holds Tryd.pinned (.plain (OpenSpec.ofChange sha512ApartSpec)) sha512ApartCard

/-- THE SECOND FORM's CARD OF 'curvetlaw8.Sha512Of'. -/
def sha512OfUptoCard : Claim7 := { stood := { row := sha512OfUptoRow, standIns := [], harness := (true, "c76be0a701bb42c232bc8b304bd151c7521ec1a884336a26fb72d464701d24d7"), looks := false }, kinds := [], alts := [], laidByText := true, laidKinds := [.data], laidTests := true, laidLooks := .later }
def Sha512OfUptoCardSaid : Prop := Claim7.holds Tryd.pinned (.plain (OpenSpec.upto sha512OfSpec)) sha512OfUptoCard

/-- THE SECOND FORM's CARD OF 'curvetlaw8.Sha512Streams'. -/
def sha512StreamsUptoCard : Claim7 := { stood := { row := sha512StreamsUptoRow, standIns := [], harness := (true, "c76be0a701bb42c232bc8b304bd151c7521ec1a884336a26fb72d464701d24d7"), looks := false }, kinds := [], alts := [], laidByText := true, laidKinds := [.data], laidTests := true, laidLooks := .later }
def Sha512StreamsUptoCardSaid : Prop := Claim7.holds Tryd.pinned (.plain (OpenSpec.upto sha512StreamsSpec)) sha512StreamsUptoCard

/-- THE SECOND FORM's CARD OF 'curvetlaw8.Sha512Cuts'. -/
def sha512CutsUptoCard : Claim7 := { stood := { row := sha512CutsUptoRow, standIns := [], harness := (true, "c76be0a701bb42c232bc8b304bd151c7521ec1a884336a26fb72d464701d24d7"), looks := false }, kinds := [], alts := [], laidByText := true, laidKinds := [.data], laidTests := true, laidLooks := .later }
def Sha512CutsUptoCardSaid : Prop := Claim7.holds Tryd.pinned (.plain (OpenSpec.upto sha512CutsSpec)) sha512CutsUptoCard

/-- THE SECOND FORM's CARD OF 'curvetlaw8.Sha512Ends'. -/
def sha512EndsUptoCard : Claim7 := { stood := { row := sha512EndsUptoRow, standIns := [], harness := (true, "c76be0a701bb42c232bc8b304bd151c7521ec1a884336a26fb72d464701d24d7"), looks := false }, kinds := [], alts := [], laidByText := true, laidKinds := [.data], laidTests := true, laidLooks := .later }
def Sha512EndsUptoCardSaid : Prop := Claim7.holds Tryd.pinned (.plain (OpenSpec.upto sha512EndsSpec)) sha512EndsUptoCard

/-- THE SECOND FORM's CARD OF 'curvetlaw8.Sha512Apart'. -/
def sha512ApartUptoCard : Claim7 := { stood := { row := sha512ApartUptoRow, standIns := [], harness := (true, "c76be0a701bb42c232bc8b304bd151c7521ec1a884336a26fb72d464701d24d7"), looks := false }, kinds := [], alts := [], laidByText := true, laidKinds := [.data], laidTests := true, laidLooks := .later }
def Sha512ApartUptoCardSaid : Prop := Claim7.holds Tryd.pinned (.plain (OpenSpec.upto sha512ApartSpec)) sha512ApartUptoCard
end Rows
end Go.Proofs.YtincjgpbgoagnaaDoor
