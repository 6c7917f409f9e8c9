/-
  DERIVED. GIVEN WITH THE SEED: THE CARDS: each row of YtpkjgepchincjaaDoorRows.lean that lists a variable, with what it lists TIED to the program's text (the seventh form; the later family's looks); each row that meets fmt, with fmt's text TOLD by the authors' own Lean function (tested against real Go, not proved from fmt's source: count such statements apart). THE CARD IS WHAT COUNTS. Prove the row's statement (the work); the ties are given (YtpkjgepchincjaaDoorTie.lean); close each card by the builder's one call (the guide's Derived/Test/ToyasCard.lean, 'card_holds'). Laid BY PROGRAM, IN A SANDBOX (cutbox-door.mjs). By AI agents, Wed Nov 11 2026. No macro, syntax, notation, axiom, sorry.
-/
import Derived.Test.YtpkjgepchincjaaDoorRows
import GoSem.ClaimSeven
namespace Go.Proofs.YtpkjgepchincjaaDoor
namespace Rows

/-- THE TIED CARD OF 'laws.FnDateText'. -/
def fnDateTextCard : Claim7 := { stood := { row := fnDateTextRow, standIns := [], harness := (true, "46eeaf9beaaae71613632e0928765572ff960c61f1f22f742e0ce6b31579ee85"), looks := false }, kinds := [], alts := [], laidByText := true, laidKinds := [.data, .data, .data], laidTests := true, laidLooks := .later }
def FnDateTextCardSaid : Prop := Claim7.holds Tryd.pinned (.plain (OpenSpec.ofChange fnDateTextSpec)) fnDateTextCard

/-- THE TIED CARD OF 'laws.FnReadDate'. -/
def fnReadDateCard : Claim7 := { stood := { row := fnReadDateRow, standIns := [], harness := (true, "46eeaf9beaaae71613632e0928765572ff960c61f1f22f742e0ce6b31579ee85"), looks := false }, kinds := [], alts := [], laidByText := true, laidKinds := [.data, .data, .data], laidTests := true, laidLooks := .later }
def FnReadDateCardSaid : Prop := Claim7.holds Tryd.pinned (.plain (OpenSpec.ofChange fnReadDateSpec)) fnReadDateCard

/-- THE TIED CARD OF 'laws.FnExactDateText'. -/
def fnExactDateTextCard : Claim7 := { stood := { row := fnExactDateTextRow, standIns := [], harness := (true, "46eeaf9beaaae71613632e0928765572ff960c61f1f22f742e0ce6b31579ee85"), looks := false }, kinds := [], alts := [], laidByText := true, laidKinds := [.data, .data, .data], laidTests := true, laidLooks := .later }
def FnExactDateTextCardSaid : Prop := Claim7.holds Tryd.pinned (.plain (OpenSpec.ofChange fnExactDateTextSpec)) fnExactDateTextCard

/-- THE TIED CARD OF 'laws.FnExactReadDate'. -/
def fnExactReadDateCard : Claim7 := { stood := { row := fnExactReadDateRow, standIns := [], harness := (true, "46eeaf9beaaae71613632e0928765572ff960c61f1f22f742e0ce6b31579ee85"), looks := false }, kinds := [], alts := [], laidByText := true, laidKinds := [.data, .data, .data], laidTests := true, laidLooks := .later }
def FnExactReadDateCardSaid : Prop := Claim7.holds Tryd.pinned (.plain (OpenSpec.ofChange fnExactReadDateSpec)) fnExactReadDateCard

/-- THE SECOND FORM's CARD OF 'laws.FnDateText'. -/
def fnDateTextUptoCard : Claim7 := { stood := { row := fnDateTextUptoRow, standIns := [], harness := (true, "46eeaf9beaaae71613632e0928765572ff960c61f1f22f742e0ce6b31579ee85"), looks := false }, kinds := [], alts := [], laidByText := true, laidKinds := [.data, .data, .data], laidTests := true, laidLooks := .later }
def FnDateTextUptoCardSaid : Prop := Claim7.holds Tryd.pinned (.plain (OpenSpec.upto fnDateTextSpec)) fnDateTextUptoCard

/-- THE SECOND FORM's CARD OF 'laws.FnReadDate'. -/
def fnReadDateUptoCard : Claim7 := { stood := { row := fnReadDateUptoRow, standIns := [], harness := (true, "46eeaf9beaaae71613632e0928765572ff960c61f1f22f742e0ce6b31579ee85"), looks := false }, kinds := [], alts := [], laidByText := true, laidKinds := [.data, .data, .data], laidTests := true, laidLooks := .later }
def FnReadDateUptoCardSaid : Prop := Claim7.holds Tryd.pinned (.plain (OpenSpec.upto fnReadDateSpec)) fnReadDateUptoCard

/-- THE SECOND FORM's CARD OF 'laws.FnExactDateText'. -/
def fnExactDateTextUptoCard : Claim7 := { stood := { row := fnExactDateTextUptoRow, standIns := [], harness := (true, "46eeaf9beaaae71613632e0928765572ff960c61f1f22f742e0ce6b31579ee85"), looks := false }, kinds := [], alts := [], laidByText := true, laidKinds := [.data, .data, .data], laidTests := true, laidLooks := .later }
def FnExactDateTextUptoCardSaid : Prop := Claim7.holds Tryd.pinned (.plain (OpenSpec.upto fnExactDateTextSpec)) fnExactDateTextUptoCard

/-- THE SECOND FORM's CARD OF 'laws.FnExactReadDate'. -/
def fnExactReadDateUptoCard : Claim7 := { stood := { row := fnExactReadDateUptoRow, standIns := [], harness := (true, "46eeaf9beaaae71613632e0928765572ff960c61f1f22f742e0ce6b31579ee85"), looks := false }, kinds := [], alts := [], laidByText := true, laidKinds := [.data, .data, .data], laidTests := true, laidLooks := .later }
def FnExactReadDateUptoCardSaid : Prop := Claim7.holds Tryd.pinned (.plain (OpenSpec.upto fnExactReadDateSpec)) fnExactReadDateUptoCard
end Rows
end Go.Proofs.YtpkjgepchincjaaDoor
