/-
  DERIVED. GIVEN WITH THE SEED: THE CARDS: each row of YtckooopichkigaaDoorRows.lean that lists a variable, with what it lists TIED to the program's text (the seventh form; the later family's looks); each row that meets fmt, with fmt's text TOLD by the authors' own Lean function (tested against real Go, not proved from fmt's source: count such statements apart). THE CARD IS WHAT COUNTS. Prove the row's statement (the work); the ties are given (YtckooopichkigaaDoorTie.lean); close each card by the builder's one call (the guide's Derived/Test/ToyasCard.lean, 'card_holds'). Laid BY PROGRAM, IN A SANDBOX (cutbox-door.mjs). By AI agents, Wed Nov 11 2026. No macro, syntax, notation, axiom, sorry.
-/
import Derived.Test.YtckooopichkigaaDoorRows
import GoSem.ClaimSeven
namespace Go.Proofs.YtckooopichkigaaDoor
namespace Rows

/-- THE TIED CARD OF 'curvetlaw7.Sha256Of'. -/
def sha256OfCard : Claim7 := { stood := { row := sha256OfRow, standIns := [], harness := (true, "e15596d96f2d4c5158c94f2d73adb2c851c33be9179671ab75cdce0481eb8830"), looks := false }, kinds := [], alts := [], laidByText := true, laidKinds := [.data], laidTests := true, laidLooks := .later }
def Sha256OfCardSaid : Prop := Claim7.holds Tryd.pinned (.plain (OpenSpec.ofChange sha256OfSpec)) sha256OfCard

/-- THE TIED CARD OF 'curvetlaw7.Sha256Streams'. -/
def sha256StreamsCard : Claim7 := { stood := { row := sha256StreamsRow, standIns := [], harness := (true, "e15596d96f2d4c5158c94f2d73adb2c851c33be9179671ab75cdce0481eb8830"), looks := false }, kinds := [], alts := [], laidByText := true, laidKinds := [.data], laidTests := true, laidLooks := .later }
def Sha256StreamsCardSaid : Prop := Claim7.holds Tryd.pinned (.plain (OpenSpec.ofChange sha256StreamsSpec)) sha256StreamsCard

/-- THE TIED CARD OF 'curvetlaw7.Sha256Cuts'. -/
def sha256CutsCard : Claim7 := { stood := { row := sha256CutsRow, standIns := [], harness := (true, "e15596d96f2d4c5158c94f2d73adb2c851c33be9179671ab75cdce0481eb8830"), looks := false }, kinds := [], alts := [], laidByText := true, laidKinds := [.data], laidTests := true, laidLooks := .later }
def Sha256CutsCardSaid : Prop := Claim7.holds Tryd.pinned (.plain (OpenSpec.ofChange sha256CutsSpec)) sha256CutsCard

/-- THE TIED CARD OF 'curvetlaw7.Sha256Ends'. -/
def sha256EndsCard : Claim7 := { stood := { row := sha256EndsRow, standIns := [], harness := (true, "e15596d96f2d4c5158c94f2d73adb2c851c33be9179671ab75cdce0481eb8830"), looks := false }, kinds := [], alts := [], laidByText := true, laidKinds := [.data], laidTests := true, laidLooks := .later }
def Sha256EndsCardSaid : Prop := Claim7.holds Tryd.pinned (.plain (OpenSpec.ofChange sha256EndsSpec)) sha256EndsCard

/-- THE TIED CARD OF 'curvetlaw7.Sha256Apart'. -/
def sha256ApartCard : Claim7 := { stood := { row := sha256ApartRow, standIns := [], harness := (true, "e15596d96f2d4c5158c94f2d73adb2c851c33be9179671ab75cdce0481eb8830"), looks := false }, kinds := [], alts := [], laidByText := true, laidKinds := [.data], laidTests := true, laidLooks := .later }
def Sha256ApartCardSaid : Prop := Claim7.holds Tryd.pinned (.plain (OpenSpec.ofChange sha256ApartSpec)) sha256ApartCard

/-- THE SECOND FORM's CARD OF 'curvetlaw7.Sha256Of'. -/
def sha256OfUptoCard : Claim7 := { stood := { row := sha256OfUptoRow, standIns := [], harness := (true, "e15596d96f2d4c5158c94f2d73adb2c851c33be9179671ab75cdce0481eb8830"), looks := false }, kinds := [], alts := [], laidByText := true, laidKinds := [.data], laidTests := true, laidLooks := .later }
def Sha256OfUptoCardSaid : Prop := Claim7.holds Tryd.pinned (.plain (OpenSpec.upto sha256OfSpec)) sha256OfUptoCard

/-- THE SECOND FORM's CARD OF 'curvetlaw7.Sha256Streams'. -/
def sha256StreamsUptoCard : Claim7 := { stood := { row := sha256StreamsUptoRow, standIns := [], harness := (true, "e15596d96f2d4c5158c94f2d73adb2c851c33be9179671ab75cdce0481eb8830"), looks := false }, kinds := [], alts := [], laidByText := true, laidKinds := [.data], laidTests := true, laidLooks := .later }
def Sha256StreamsUptoCardSaid : Prop := Claim7.holds Tryd.pinned (.plain (OpenSpec.upto sha256StreamsSpec)) sha256StreamsUptoCard

/-- THE SECOND FORM's CARD OF 'curvetlaw7.Sha256Cuts'. -/
def sha256CutsUptoCard : Claim7 := { stood := { row := sha256CutsUptoRow, standIns := [], harness := (true, "e15596d96f2d4c5158c94f2d73adb2c851c33be9179671ab75cdce0481eb8830"), looks := false }, kinds := [], alts := [], laidByText := true, laidKinds := [.data], laidTests := true, laidLooks := .later }
def Sha256CutsUptoCardSaid : Prop := Claim7.holds Tryd.pinned (.plain (OpenSpec.upto sha256CutsSpec)) sha256CutsUptoCard

/-- THE SECOND FORM's CARD OF 'curvetlaw7.Sha256Ends'. -/
def sha256EndsUptoCard : Claim7 := { stood := { row := sha256EndsUptoRow, standIns := [], harness := (true, "e15596d96f2d4c5158c94f2d73adb2c851c33be9179671ab75cdce0481eb8830"), looks := false }, kinds := [], alts := [], laidByText := true, laidKinds := [.data], laidTests := true, laidLooks := .later }
def Sha256EndsUptoCardSaid : Prop := Claim7.holds Tryd.pinned (.plain (OpenSpec.upto sha256EndsSpec)) sha256EndsUptoCard

/-- THE SECOND FORM's CARD OF 'curvetlaw7.Sha256Apart'. -/
def sha256ApartUptoCard : Claim7 := { stood := { row := sha256ApartUptoRow, standIns := [], harness := (true, "e15596d96f2d4c5158c94f2d73adb2c851c33be9179671ab75cdce0481eb8830"), looks := false }, kinds := [], alts := [], laidByText := true, laidKinds := [.data], laidTests := true, laidLooks := .later }
def Sha256ApartUptoCardSaid : Prop := Claim7.holds Tryd.pinned (.plain (OpenSpec.upto sha256ApartSpec)) sha256ApartUptoCard
end Rows
end Go.Proofs.YtckooopichkigaaDoor
