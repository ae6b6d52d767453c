/-
  DERIVED. GIVEN WITH THE SEED: THE CARDS: each row of YtcdkajfpllpgaaaDoorRows.lean that lists a variable, with what it lists TIED to the program's text (the seventh form; the later family's looks); each row that meets fmt, with fmt's text TOLD by the authors' own Lean function (tested against real Go, not proved from fmt's source: count such statements apart). THE CARD IS WHAT COUNTS. Prove the row's statement (the work); the ties are given (YtcdkajfpllpgaaaDoorTie.lean); close each card by the builder's one call (the guide's Derived/Test/ToyasCard.lean, 'card_holds'). Laid BY PROGRAM, IN A SANDBOX (cutbox-door.mjs). By AI agents, Wed Nov 11 2026. No macro, syntax, notation, axiom, sorry.
-/
import Derived.Test.YtcdkajfpllpgaaaDoorRows
import GoSem.ClaimSeven
namespace Go.Proofs.YtcdkajfpllpgaaaDoor
namespace Rows

/-- THE TIED CARD OF 'curvetlaw10.Hmacs'. -/
def hmacsCard : Claim7 := { stood := { row := hmacsRow, standIns := [], harness := (true, "03b8f9a42505774bd539622266691f124c4f926a38c9310d25892f8d8dbe9a26"), looks := false }, kinds := [], alts := [], laidByText := true, laidKinds := [.data, .data], laidTests := true, laidLooks := .later }
def HmacsCardSaid : Prop := Claim7.holds Tryd.pinned (.plain (OpenSpec.ofChange hmacsSpec)) hmacsCard

/-- THE TIED CARD OF 'curvetlaw10.HmacKeys'. -/
def hmacKeysCard : Claim7 := { stood := { row := hmacKeysRow, standIns := [], harness := (true, "03b8f9a42505774bd539622266691f124c4f926a38c9310d25892f8d8dbe9a26"), looks := false }, kinds := [], alts := [], laidByText := true, laidKinds := [.data, .data], laidTests := true, laidLooks := .later }
def HmacKeysCardSaid : Prop := Claim7.holds Tryd.pinned (.plain (OpenSpec.ofChange hmacKeysSpec)) hmacKeysCard

/-- THE TIED CARD OF 'curvetlaw10.HmacRule'. -/
def hmacRuleCard : Claim7 := { stood := { row := hmacRuleRow, standIns := [], harness := (true, "03b8f9a42505774bd539622266691f124c4f926a38c9310d25892f8d8dbe9a26"), looks := false }, kinds := [], alts := [], laidByText := true, laidKinds := [.data, .data], laidTests := true, laidLooks := .later }
def HmacRuleCardSaid : Prop := Claim7.holds Tryd.pinned (.plain (OpenSpec.ofChange hmacRuleSpec)) hmacRuleCard

/-- THE TIED CARD OF 'curvetlaw10.HmacOther'. -/
def hmacOtherCard : Claim7 := { stood := { row := hmacOtherRow, standIns := [], harness := (true, "03b8f9a42505774bd539622266691f124c4f926a38c9310d25892f8d8dbe9a26"), looks := false }, kinds := [], alts := [], laidByText := true, laidKinds := [.data, .data], laidTests := true, laidLooks := .later }
def HmacOtherCardSaid : Prop := Claim7.holds Tryd.pinned (.plain (OpenSpec.ofChange hmacOtherSpec)) hmacOtherCard

/-- THE TIED CARD OF 'curvetlaw10.HmacKnown'. -/
def hmacKnownCard : Claim7 := { stood := { row := hmacKnownRow, standIns := [], harness := (true, "03b8f9a42505774bd539622266691f124c4f926a38c9310d25892f8d8dbe9a26"), looks := false }, kinds := [], alts := [], laidByText := true, laidKinds := [.data, .data], laidTests := true, laidLooks := .later }
def HmacKnownCardSaid : Prop := Claim7.holds Tryd.pinned (.plain (OpenSpec.ofChange hmacKnownSpec)) hmacKnownCard

/-- THE SECOND FORM's CARD OF 'curvetlaw10.Hmacs'. -/
def hmacsUptoCard : Claim7 := { stood := { row := hmacsUptoRow, standIns := [], harness := (true, "03b8f9a42505774bd539622266691f124c4f926a38c9310d25892f8d8dbe9a26"), looks := false }, kinds := [], alts := [], laidByText := true, laidKinds := [.data, .data], laidTests := true, laidLooks := .later }
def HmacsUptoCardSaid : Prop := Claim7.holds Tryd.pinned (.plain (OpenSpec.upto hmacsSpec)) hmacsUptoCard

/-- THE SECOND FORM's CARD OF 'curvetlaw10.HmacKeys'. -/
def hmacKeysUptoCard : Claim7 := { stood := { row := hmacKeysUptoRow, standIns := [], harness := (true, "03b8f9a42505774bd539622266691f124c4f926a38c9310d25892f8d8dbe9a26"), looks := false }, kinds := [], alts := [], laidByText := true, laidKinds := [.data, .data], laidTests := true, laidLooks := .later }
def HmacKeysUptoCardSaid : Prop := Claim7.holds Tryd.pinned (.plain (OpenSpec.upto hmacKeysSpec)) hmacKeysUptoCard

/-- THE SECOND FORM's CARD OF 'curvetlaw10.HmacRule'. -/
def hmacRuleUptoCard : Claim7 := { stood := { row := hmacRuleUptoRow, standIns := [], harness := (true, "03b8f9a42505774bd539622266691f124c4f926a38c9310d25892f8d8dbe9a26"), looks := false }, kinds := [], alts := [], laidByText := true, laidKinds := [.data, .data], laidTests := true, laidLooks := .later }
def HmacRuleUptoCardSaid : Prop := Claim7.holds Tryd.pinned (.plain (OpenSpec.upto hmacRuleSpec)) hmacRuleUptoCard

/-- THE SECOND FORM's CARD OF 'curvetlaw10.HmacOther'. -/
def hmacOtherUptoCard : Claim7 := { stood := { row := hmacOtherUptoRow, standIns := [], harness := (true, "03b8f9a42505774bd539622266691f124c4f926a38c9310d25892f8d8dbe9a26"), looks := false }, kinds := [], alts := [], laidByText := true, laidKinds := [.data, .data], laidTests := true, laidLooks := .later }
def HmacOtherUptoCardSaid : Prop := Claim7.holds Tryd.pinned (.plain (OpenSpec.upto hmacOtherSpec)) hmacOtherUptoCard

/-- THE SECOND FORM's CARD OF 'curvetlaw10.HmacKnown'. -/
def hmacKnownUptoCard : Claim7 := { stood := { row := hmacKnownUptoRow, standIns := [], harness := (true, "03b8f9a42505774bd539622266691f124c4f926a38c9310d25892f8d8dbe9a26"), looks := false }, kinds := [], alts := [], laidByText := true, laidKinds := [.data, .data], laidTests := true, laidLooks := .later }
def HmacKnownUptoCardSaid : Prop := Claim7.holds Tryd.pinned (.plain (OpenSpec.upto hmacKnownSpec)) hmacKnownUptoCard
end Rows
end Go.Proofs.YtcdkajfpllpgaaaDoor
