/-
  DERIVED. GIVEN WITH THE SEED: THE CARDS: each row of YtjadgpiafjdnfaaGreatDoorRows.lean that lists a variable, with what it lists TIED to the program's text (the seventh form; the later family's looks); each row that meets fmt, with fmt's text TOLD by the authors' own Lean function (tested against real Go, not proved from fmt's source: count such statements apart). THE CARD IS WHAT COUNTS. Prove the row's statement (the work); the ties are given (YtjadgpiafjdnfaaGreatDoorTie.lean); close each card by the builder's one call (the guide's Derived/Test/ToyasCard.lean, 'card_holds'). Laid BY PROGRAM, IN A SANDBOX (cutbox-door.mjs). By AI agents, Wed Nov 11 2026. No macro, syntax, notation, axiom, sorry.
-/
import Derived.Test.YtjadgpiafjdnfaaGreatDoorRows
import GoSem.ClaimSeven
namespace Go.Proofs.YtjadgpiafjdnfaaGreatDoor
namespace Rows

/-- THE TIED CARD OF 'boxhedgelaw07.EvalGood'. -/
def evalGoodCard : Claim7 := { stood := { row := evalGoodRow, standIns := [], harness := (true, "da0a0a7fcd43e4f70f30af89a273978643176f9d0fbae91bc0db78355862ef98"), looks := true }, kinds := [], alts := [], laidByText := true, laidKinds := [.data], laidTests := true, laidLooks := .later }
def EvalGoodCardSaid : Prop := Claim7.holds Tryz.pinned (.plain (OpenSpec.ofChange evalGoodSpec)) evalGoodCard

/-- THE SECOND FORM's CARD OF 'boxhedgelaw07.EvalGood'. -/
def evalGoodUptoCard : Claim7 := { stood := { row := evalGoodUptoRow, standIns := [], harness := (true, "da0a0a7fcd43e4f70f30af89a273978643176f9d0fbae91bc0db78355862ef98"), looks := true }, kinds := [], alts := [], laidByText := true, laidKinds := [.data], laidTests := true, laidLooks := .later }
def EvalGoodUptoCardSaid : Prop := Claim7.holds Tryz.pinned (.plain (OpenSpec.upto evalGoodSpec)) evalGoodUptoCard
end Rows
end Go.Proofs.YtjadgpiafjdnfaaGreatDoor
