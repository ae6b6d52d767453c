/-
  DERIVED. GIVEN WITH THE SEED: THE CARDS: each row of YtconibmdlfkopaaGreatDoorRows.lean that lists a variable, with what it lists TIED to the program's text (the seventh form; the later family's looks); each row that meets fmt, with fmt's text TOLD by the authors' own Lean function (tested against real Go, not proved from fmt's source: count such statements apart). THE CARD IS WHAT COUNTS. Prove the row's statement (the work); the ties are given (YtconibmdlfkopaaGreatDoorTie.lean); close each card by the builder's one call (the guide's Derived/Test/ToyasCard.lean, 'card_holds'). Laid BY PROGRAM, IN A SANDBOX (cutbox-door.mjs). By AI agents, Wed Nov 11 2026. No macro, syntax, notation, axiom, sorry.
-/
import Derived.Test.YtconibmdlfkopaaGreatDoorRows
import GoSem.ClaimSeven
namespace Go.Proofs.YtconibmdlfkopaaGreatDoor
namespace Rows

/-- THE TIED CARD OF 'curvetlaw11.DrbgActs'. -/
def drbgActsCard : Claim7 := { stood := { row := drbgActsRow, standIns := [], harness := (true, "1e771e28e4d97eb8531b81a18f514f20b56a7d96ab5b2de53b0954937776677f"), looks := false }, kinds := [], alts := [], laidByText := true, laidKinds := [.data, .data], laidTests := true, laidLooks := .later }
def DrbgActsCardSaid : Prop := Claim7.holds Tryz.pinned (.plain (OpenSpec.ofChange drbgActsSpec)) drbgActsCard

/-- THE TIED CARD OF 'curvetlaw11.DrbgOnce'. -/
def drbgOnceCard : Claim7 := { stood := { row := drbgOnceRow, standIns := [], harness := (true, "1e771e28e4d97eb8531b81a18f514f20b56a7d96ab5b2de53b0954937776677f"), looks := false }, kinds := [], alts := [], laidByText := true, laidKinds := [.data, .data], laidTests := true, laidLooks := .later }
def DrbgOnceCardSaid : Prop := Claim7.holds Tryz.pinned (.plain (OpenSpec.ofChange drbgOnceSpec)) drbgOnceCard

/-- THE TIED CARD OF 'curvetlaw11.DrbgLimits'. -/
def drbgLimitsCard : Claim7 := { stood := { row := drbgLimitsRow, standIns := [], harness := (true, "1e771e28e4d97eb8531b81a18f514f20b56a7d96ab5b2de53b0954937776677f"), looks := false }, kinds := [], alts := [], laidByText := true, laidKinds := [.data, .data], laidTests := true, laidLooks := .later }
def DrbgLimitsCardSaid : Prop := Claim7.holds Tryz.pinned (.plain (OpenSpec.ofChange drbgLimitsSpec)) drbgLimitsCard

/-- THE TIED CARD OF 'curvetlaw11.DrbgEntropies'. -/
def drbgEntropiesCard : Claim7 := { stood := { row := drbgEntropiesRow, standIns := [], harness := (true, "1e771e28e4d97eb8531b81a18f514f20b56a7d96ab5b2de53b0954937776677f"), looks := false }, kinds := [], alts := [], laidByText := true, laidKinds := [.data, .data], laidTests := true, laidLooks := .later }
def DrbgEntropiesCardSaid : Prop := Claim7.holds Tryz.pinned (.plain (OpenSpec.ofChange drbgEntropiesSpec)) drbgEntropiesCard

/-- THE TIED CARD OF 'curvetlaw11.DrbgReseeded'. -/
def drbgReseededCard : Claim7 := { stood := { row := drbgReseededRow, standIns := [], harness := (true, "1e771e28e4d97eb8531b81a18f514f20b56a7d96ab5b2de53b0954937776677f"), looks := false }, kinds := [], alts := [], laidByText := true, laidKinds := [.data, .data], laidTests := true, laidLooks := .later }
def DrbgReseededCardSaid : Prop := Claim7.holds Tryz.pinned (.plain (OpenSpec.ofChange drbgReseededSpec)) drbgReseededCard

/-- THE TIED CARD OF 'curvetlaw11.DrbgFirst'. -/
def drbgFirstCard : Claim7 := { stood := { row := drbgFirstRow, standIns := [], harness := (true, "1e771e28e4d97eb8531b81a18f514f20b56a7d96ab5b2de53b0954937776677f"), looks := false }, kinds := [], alts := [], laidByText := true, laidKinds := [.data, .data], laidTests := true, laidLooks := .later }
def DrbgFirstCardSaid : Prop := Claim7.holds Tryz.pinned (.plain (OpenSpec.ofChange drbgFirstSpec)) drbgFirstCard

/-- THE TIED CARD OF 'curvetlaw11.DrbgNone'. -/
def drbgNoneCard : Claim7 := { stood := { row := drbgNoneRow, standIns := [], harness := (true, "1e771e28e4d97eb8531b81a18f514f20b56a7d96ab5b2de53b0954937776677f"), looks := false }, kinds := [], alts := [], laidByText := true, laidKinds := [.data, .data], laidTests := true, laidLooks := .later }
def DrbgNoneCardSaid : Prop := Claim7.holds Tryz.pinned (.plain (OpenSpec.ofChange drbgNoneSpec)) drbgNoneCard

/-- THE TIED CARD OF 'curvetlaw11.DrbgMore'. -/
def drbgMoreCard : Claim7 := { stood := { row := drbgMoreRow, standIns := [], harness := (true, "1e771e28e4d97eb8531b81a18f514f20b56a7d96ab5b2de53b0954937776677f"), looks := false }, kinds := [], alts := [], laidByText := true, laidKinds := [.data, .data], laidTests := true, laidLooks := .later }
def DrbgMoreCardSaid : Prop := Claim7.holds Tryz.pinned (.plain (OpenSpec.ofChange drbgMoreSpec)) drbgMoreCard

/-- THE SECOND FORM's CARD OF 'curvetlaw11.DrbgActs'. -/
def drbgActsUptoCard : Claim7 := { stood := { row := drbgActsUptoRow, standIns := [], harness := (true, "1e771e28e4d97eb8531b81a18f514f20b56a7d96ab5b2de53b0954937776677f"), looks := false }, kinds := [], alts := [], laidByText := true, laidKinds := [.data, .data], laidTests := true, laidLooks := .later }
def DrbgActsUptoCardSaid : Prop := Claim7.holds Tryz.pinned (.plain (OpenSpec.upto drbgActsSpec)) drbgActsUptoCard

/-- THE SECOND FORM's CARD OF 'curvetlaw11.DrbgOnce'. -/
def drbgOnceUptoCard : Claim7 := { stood := { row := drbgOnceUptoRow, standIns := [], harness := (true, "1e771e28e4d97eb8531b81a18f514f20b56a7d96ab5b2de53b0954937776677f"), looks := false }, kinds := [], alts := [], laidByText := true, laidKinds := [.data, .data], laidTests := true, laidLooks := .later }
def DrbgOnceUptoCardSaid : Prop := Claim7.holds Tryz.pinned (.plain (OpenSpec.upto drbgOnceSpec)) drbgOnceUptoCard

/-- THE SECOND FORM's CARD OF 'curvetlaw11.DrbgLimits'. -/
def drbgLimitsUptoCard : Claim7 := { stood := { row := drbgLimitsUptoRow, standIns := [], harness := (true, "1e771e28e4d97eb8531b81a18f514f20b56a7d96ab5b2de53b0954937776677f"), looks := false }, kinds := [], alts := [], laidByText := true, laidKinds := [.data, .data], laidTests := true, laidLooks := .later }
def DrbgLimitsUptoCardSaid : Prop := Claim7.holds Tryz.pinned (.plain (OpenSpec.upto drbgLimitsSpec)) drbgLimitsUptoCard

/-- THE SECOND FORM's CARD OF 'curvetlaw11.DrbgEntropies'. -/
def drbgEntropiesUptoCard : Claim7 := { stood := { row := drbgEntropiesUptoRow, standIns := [], harness := (true, "1e771e28e4d97eb8531b81a18f514f20b56a7d96ab5b2de53b0954937776677f"), looks := false }, kinds := [], alts := [], laidByText := true, laidKinds := [.data, .data], laidTests := true, laidLooks := .later }
def DrbgEntropiesUptoCardSaid : Prop := Claim7.holds Tryz.pinned (.plain (OpenSpec.upto drbgEntropiesSpec)) drbgEntropiesUptoCard

/-- THE SECOND FORM's CARD OF 'curvetlaw11.DrbgReseeded'. -/
def drbgReseededUptoCard : Claim7 := { stood := { row := drbgReseededUptoRow, standIns := [], harness := (true, "1e771e28e4d97eb8531b81a18f514f20b56a7d96ab5b2de53b0954937776677f"), looks := false }, kinds := [], alts := [], laidByText := true, laidKinds := [.data, .data], laidTests := true, laidLooks := .later }
def DrbgReseededUptoCardSaid : Prop := Claim7.holds Tryz.pinned (.plain (OpenSpec.upto drbgReseededSpec)) drbgReseededUptoCard

/-- THE SECOND FORM's CARD OF 'curvetlaw11.DrbgFirst'. -/
def drbgFirstUptoCard : Claim7 := { stood := { row := drbgFirstUptoRow, standIns := [], harness := (true, "1e771e28e4d97eb8531b81a18f514f20b56a7d96ab5b2de53b0954937776677f"), looks := false }, kinds := [], alts := [], laidByText := true, laidKinds := [.data, .data], laidTests := true, laidLooks := .later }
def DrbgFirstUptoCardSaid : Prop := Claim7.holds Tryz.pinned (.plain (OpenSpec.upto drbgFirstSpec)) drbgFirstUptoCard

/-- THE SECOND FORM's CARD OF 'curvetlaw11.DrbgNone'. -/
def drbgNoneUptoCard : Claim7 := { stood := { row := drbgNoneUptoRow, standIns := [], harness := (true, "1e771e28e4d97eb8531b81a18f514f20b56a7d96ab5b2de53b0954937776677f"), looks := false }, kinds := [], alts := [], laidByText := true, laidKinds := [.data, .data], laidTests := true, laidLooks := .later }
def DrbgNoneUptoCardSaid : Prop := Claim7.holds Tryz.pinned (.plain (OpenSpec.upto drbgNoneSpec)) drbgNoneUptoCard

/-- THE SECOND FORM's CARD OF 'curvetlaw11.DrbgMore'. -/
def drbgMoreUptoCard : Claim7 := { stood := { row := drbgMoreUptoRow, standIns := [], harness := (true, "1e771e28e4d97eb8531b81a18f514f20b56a7d96ab5b2de53b0954937776677f"), looks := false }, kinds := [], alts := [], laidByText := true, laidKinds := [.data, .data], laidTests := true, laidLooks := .later }
def DrbgMoreUptoCardSaid : Prop := Claim7.holds Tryz.pinned (.plain (OpenSpec.upto drbgMoreSpec)) drbgMoreUptoCard
end Rows
end Go.Proofs.YtconibmdlfkopaaGreatDoor
