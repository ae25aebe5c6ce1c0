/-
  DERIVED. GIVEN WITH THE SEED: THE CARDS: each row of YtfghofifjnbicaaGreatDoorRows.lean that lists a variable, with what it lists TIED to the program's text (the seventh form; the later family's looks); each row that meets fmt, with fmt's text TOLD by the authors' own Lean function (tested against real Go, not proved from fmt's source: count such statements apart). THE CARD IS WHAT COUNTS. Prove the row's statement (the work); the ties are given (YtfghofifjnbicaaGreatDoorTie.lean); close each card by the builder's one call (the guide's Derived/Test/ToyasCard.lean, 'card_holds'). Laid BY PROGRAM, IN A SANDBOX (cutbox-door.mjs). By AI agents, Wed Nov 11 2026. No macro, syntax, notation, axiom, sorry.
-/
import Derived.Test.YtfghofifjnbicaaGreatDoorRows
import GoSem.ClaimSeven
namespace Go.Proofs.YtfghofifjnbicaaGreatDoor
namespace Rows

/-- THE TIED CARD OF 'boxhedgelaw06.RenameBodies'. -/
def renameBodiesCard : Claim7 := { stood := { row := renameBodiesRow, standIns := [], harness := (true, "07dc8767075c60199815f0e4cdbdcaac27b97f7f5a1906152923a323b4c81768"), looks := true }, kinds := [], alts := [], laidByText := true, laidKinds := [.data, .data, .data, .data], laidTests := true, laidLooks := .later }
def RenameBodiesCardSaid : Prop := Claim7.holds Tryz.pinned (.plain (OpenSpec.ofChange renameBodiesSpec)) renameBodiesCard

/-- THE TIED CARD OF 'boxhedgelaw06.RenameGood'. -/
def renameGoodCard : Claim7 := { stood := { row := renameGoodRow, standIns := [], harness := (true, "07dc8767075c60199815f0e4cdbdcaac27b97f7f5a1906152923a323b4c81768"), looks := true }, kinds := [], alts := [], laidByText := true, laidKinds := [.data, .data, .data, .data], laidTests := true, laidLooks := .later }
def RenameGoodCardSaid : Prop := Claim7.holds Tryz.pinned (.plain (OpenSpec.ofChange renameGoodSpec)) renameGoodCard

/-- THE TIED CARD OF 'boxhedgelaw06.RenameAgain'. -/
def renameAgainCard : Claim7 := { stood := { row := renameAgainRow, standIns := [], harness := (true, "07dc8767075c60199815f0e4cdbdcaac27b97f7f5a1906152923a323b4c81768"), looks := true }, kinds := [], alts := [], laidByText := true, laidKinds := [.data, .data, .data, .data], laidTests := true, laidLooks := .later }
def RenameAgainCardSaid : Prop := Claim7.holds Tryz.pinned (.plain (OpenSpec.ofChange renameAgainSpec)) renameAgainCard

/-- THE SECOND FORM's CARD OF 'boxhedgelaw06.RenameBodies'. -/
def renameBodiesUptoCard : Claim7 := { stood := { row := renameBodiesUptoRow, standIns := [], harness := (true, "07dc8767075c60199815f0e4cdbdcaac27b97f7f5a1906152923a323b4c81768"), looks := true }, kinds := [], alts := [], laidByText := true, laidKinds := [.data, .data, .data, .data], laidTests := true, laidLooks := .later }
def RenameBodiesUptoCardSaid : Prop := Claim7.holds Tryz.pinned (.plain (OpenSpec.upto renameBodiesSpec)) renameBodiesUptoCard

/-- THE SECOND FORM's CARD OF 'boxhedgelaw06.RenameGood'. -/
def renameGoodUptoCard : Claim7 := { stood := { row := renameGoodUptoRow, standIns := [], harness := (true, "07dc8767075c60199815f0e4cdbdcaac27b97f7f5a1906152923a323b4c81768"), looks := true }, kinds := [], alts := [], laidByText := true, laidKinds := [.data, .data, .data, .data], laidTests := true, laidLooks := .later }
def RenameGoodUptoCardSaid : Prop := Claim7.holds Tryz.pinned (.plain (OpenSpec.upto renameGoodSpec)) renameGoodUptoCard

/-- THE SECOND FORM's CARD OF 'boxhedgelaw06.RenameAgain'. -/
def renameAgainUptoCard : Claim7 := { stood := { row := renameAgainUptoRow, standIns := [], harness := (true, "07dc8767075c60199815f0e4cdbdcaac27b97f7f5a1906152923a323b4c81768"), looks := true }, kinds := [], alts := [], laidByText := true, laidKinds := [.data, .data, .data, .data], laidTests := true, laidLooks := .later }
def RenameAgainUptoCardSaid : Prop := Claim7.holds Tryz.pinned (.plain (OpenSpec.upto renameAgainSpec)) renameAgainUptoCard
end Rows
end Go.Proofs.YtfghofifjnbicaaGreatDoor
