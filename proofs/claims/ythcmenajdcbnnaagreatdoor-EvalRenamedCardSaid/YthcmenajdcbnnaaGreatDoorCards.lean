/-
  DERIVED. GIVEN WITH THE SEED: THE CARDS: each row of YthcmenajdcbnnaaGreatDoorRows.lean that lists a variable, with what it lists TIED to the program's text (the seventh form; the later family's looks); each row that meets fmt, with fmt's text TOLD by the authors' own Lean function (tested against real Go, not proved from fmt's source: count such statements apart). THE CARD IS WHAT COUNTS. Prove the row's statement (the work); the ties are given (YthcmenajdcbnnaaGreatDoorTie.lean); close each card by the builder's one call (the guide's Derived/Test/ToyasCard.lean, 'card_holds'). Laid BY PROGRAM, IN A SANDBOX (cutbox-door.mjs). By AI agents, Wed Nov 11 2026. No macro, syntax, notation, axiom, sorry.
-/
import Derived.Test.YthcmenajdcbnnaaGreatDoorRows
import GoSem.ClaimSeven
namespace Go.Proofs.YthcmenajdcbnnaaGreatDoor
namespace Rows

/-- THE TIED CARD OF 'boxhedgelaw07.EvalBodies'. -/
def evalBodiesCard : Claim7 := { stood := { row := evalBodiesRow, standIns := [], harness := (true, "d4fcacd6e013762fcaf1a36e1f771e3069004aa64e74f61059d7cd07212477d5"), looks := true }, kinds := [], alts := [], laidByText := true, laidKinds := [.data], laidTests := true, laidLooks := .later }
def EvalBodiesCardSaid : Prop := Claim7.holds Tryz.pinned (.plain (OpenSpec.ofChange evalBodiesSpec)) evalBodiesCard

/-- THE TIED CARD OF 'boxhedgelaw07.EvalGood'. -/
def evalGoodCard : Claim7 := { stood := { row := evalGoodRow, standIns := [], harness := (true, "d4fcacd6e013762fcaf1a36e1f771e3069004aa64e74f61059d7cd07212477d5"), looks := true }, kinds := [], alts := [], laidByText := true, laidKinds := [.data], laidTests := true, laidLooks := .later }
def EvalGoodCardSaid : Prop := Claim7.holds Tryz.pinned (.plain (OpenSpec.ofChange evalGoodSpec)) evalGoodCard

/-- THE TIED CARD OF 'boxhedgelaw07.EvalTwo'. -/
def evalTwoCard : Claim7 := { stood := { row := evalTwoRow, standIns := [], harness := (true, "d4fcacd6e013762fcaf1a36e1f771e3069004aa64e74f61059d7cd07212477d5"), looks := true }, kinds := [], alts := [], laidByText := true, laidKinds := [.data], laidTests := true, laidLooks := .later }
def EvalTwoCardSaid : Prop := Claim7.holds Tryz.pinned (.plain (OpenSpec.ofChange evalTwoSpec)) evalTwoCard

/-- THE TIED CARD OF 'boxhedgelaw07.EvalMore'. -/
def evalMoreCard : Claim7 := { stood := { row := evalMoreRow, standIns := [], harness := (true, "d4fcacd6e013762fcaf1a36e1f771e3069004aa64e74f61059d7cd07212477d5"), looks := true }, kinds := [], alts := [], laidByText := true, laidKinds := [.data], laidTests := true, laidLooks := .later }
def EvalMoreCardSaid : Prop := Claim7.holds Tryz.pinned (.plain (OpenSpec.ofChange evalMoreSpec)) evalMoreCard

/-- THE TIED CARD OF 'boxhedgelaw07.EvalReads'. -/
def evalReadsCard : Claim7 := { stood := { row := evalReadsRow, standIns := [], harness := (true, "d4fcacd6e013762fcaf1a36e1f771e3069004aa64e74f61059d7cd07212477d5"), looks := true }, kinds := [], alts := [], laidByText := true, laidKinds := [.data], laidTests := true, laidLooks := .later }
def EvalReadsCardSaid : Prop := Claim7.holds Tryz.pinned (.plain (OpenSpec.ofChange evalReadsSpec)) evalReadsCard

/-- THE TIED CARD OF 'boxhedgelaw07.EvalRenamed'. -/
def evalRenamedCard : Claim7 := { stood := { row := evalRenamedRow, standIns := [], harness := (true, "d4fcacd6e013762fcaf1a36e1f771e3069004aa64e74f61059d7cd07212477d5"), looks := true }, kinds := [], alts := [], laidByText := true, laidKinds := [.data], laidTests := true, laidLooks := .later }
def EvalRenamedCardSaid : Prop := Claim7.holds Tryz.pinned (.plain (OpenSpec.ofChange evalRenamedSpec)) evalRenamedCard

/-- THE TIED CARD OF 'boxhedgelaw07.EvalLoops'. -/
def evalLoopsCard : Claim7 := { stood := { row := evalLoopsRow, standIns := [], harness := (true, "d4fcacd6e013762fcaf1a36e1f771e3069004aa64e74f61059d7cd07212477d5"), looks := true }, kinds := [], alts := [], laidByText := true, laidKinds := [.data], laidTests := true, laidLooks := .later }
def EvalLoopsCardSaid : Prop := Claim7.holds Tryz.pinned (.plain (OpenSpec.ofChange evalLoopsSpec)) evalLoopsCard

/-- THE TIED CARD OF 'boxhedgelaw07.EvalShorts'. -/
def evalShortsCard : Claim7 := { stood := { row := evalShortsRow, standIns := [], harness := (true, "d4fcacd6e013762fcaf1a36e1f771e3069004aa64e74f61059d7cd07212477d5"), looks := true }, kinds := [], alts := [], laidByText := true, laidKinds := [.data], laidTests := true, laidLooks := .later }
def EvalShortsCardSaid : Prop := Claim7.holds Tryz.pinned (.plain (OpenSpec.ofChange evalShortsSpec)) evalShortsCard

/-- THE TIED CARD OF 'boxhedgelaw07.EvalArrays'. -/
def evalArraysCard : Claim7 := { stood := { row := evalArraysRow, standIns := [], harness := (true, "d4fcacd6e013762fcaf1a36e1f771e3069004aa64e74f61059d7cd07212477d5"), looks := true }, kinds := [], alts := [], laidByText := true, laidKinds := [.data], laidTests := true, laidLooks := .later }
def EvalArraysCardSaid : Prop := Claim7.holds Tryz.pinned (.plain (OpenSpec.ofChange evalArraysSpec)) evalArraysCard

/-- THE TIED CARD OF 'boxhedgelaw07.EvalCalls'. -/
def evalCallsCard : Claim7 := { stood := { row := evalCallsRow, standIns := [], harness := (true, "d4fcacd6e013762fcaf1a36e1f771e3069004aa64e74f61059d7cd07212477d5"), looks := true }, kinds := [], alts := [], laidByText := true, laidKinds := [.data], laidTests := true, laidLooks := .later }
def EvalCallsCardSaid : Prop := Claim7.holds Tryz.pinned (.plain (OpenSpec.ofChange evalCallsSpec)) evalCallsCard

/-- THE SECOND FORM's CARD OF 'boxhedgelaw07.EvalBodies'. -/
def evalBodiesUptoCard : Claim7 := { stood := { row := evalBodiesUptoRow, standIns := [], harness := (true, "d4fcacd6e013762fcaf1a36e1f771e3069004aa64e74f61059d7cd07212477d5"), looks := true }, kinds := [], alts := [], laidByText := true, laidKinds := [.data], laidTests := true, laidLooks := .later }
def EvalBodiesUptoCardSaid : Prop := Claim7.holds Tryz.pinned (.plain (OpenSpec.upto evalBodiesSpec)) evalBodiesUptoCard

/-- THE SECOND FORM's CARD OF 'boxhedgelaw07.EvalGood'. -/
def evalGoodUptoCard : Claim7 := { stood := { row := evalGoodUptoRow, standIns := [], harness := (true, "d4fcacd6e013762fcaf1a36e1f771e3069004aa64e74f61059d7cd07212477d5"), looks := true }, kinds := [], alts := [], laidByText := true, laidKinds := [.data], laidTests := true, laidLooks := .later }
def EvalGoodUptoCardSaid : Prop := Claim7.holds Tryz.pinned (.plain (OpenSpec.upto evalGoodSpec)) evalGoodUptoCard

/-- THE SECOND FORM's CARD OF 'boxhedgelaw07.EvalTwo'. -/
def evalTwoUptoCard : Claim7 := { stood := { row := evalTwoUptoRow, standIns := [], harness := (true, "d4fcacd6e013762fcaf1a36e1f771e3069004aa64e74f61059d7cd07212477d5"), looks := true }, kinds := [], alts := [], laidByText := true, laidKinds := [.data], laidTests := true, laidLooks := .later }
def EvalTwoUptoCardSaid : Prop := Claim7.holds Tryz.pinned (.plain (OpenSpec.upto evalTwoSpec)) evalTwoUptoCard

/-- THE SECOND FORM's CARD OF 'boxhedgelaw07.EvalMore'. -/
def evalMoreUptoCard : Claim7 := { stood := { row := evalMoreUptoRow, standIns := [], harness := (true, "d4fcacd6e013762fcaf1a36e1f771e3069004aa64e74f61059d7cd07212477d5"), looks := true }, kinds := [], alts := [], laidByText := true, laidKinds := [.data], laidTests := true, laidLooks := .later }
def EvalMoreUptoCardSaid : Prop := Claim7.holds Tryz.pinned (.plain (OpenSpec.upto evalMoreSpec)) evalMoreUptoCard

/-- THE SECOND FORM's CARD OF 'boxhedgelaw07.EvalReads'. -/
def evalReadsUptoCard : Claim7 := { stood := { row := evalReadsUptoRow, standIns := [], harness := (true, "d4fcacd6e013762fcaf1a36e1f771e3069004aa64e74f61059d7cd07212477d5"), looks := true }, kinds := [], alts := [], laidByText := true, laidKinds := [.data], laidTests := true, laidLooks := .later }
def EvalReadsUptoCardSaid : Prop := Claim7.holds Tryz.pinned (.plain (OpenSpec.upto evalReadsSpec)) evalReadsUptoCard

/-- THE SECOND FORM's CARD OF 'boxhedgelaw07.EvalRenamed'. -/
def evalRenamedUptoCard : Claim7 := { stood := { row := evalRenamedUptoRow, standIns := [], harness := (true, "d4fcacd6e013762fcaf1a36e1f771e3069004aa64e74f61059d7cd07212477d5"), looks := true }, kinds := [], alts := [], laidByText := true, laidKinds := [.data], laidTests := true, laidLooks := .later }
def EvalRenamedUptoCardSaid : Prop := Claim7.holds Tryz.pinned (.plain (OpenSpec.upto evalRenamedSpec)) evalRenamedUptoCard

/-- THE SECOND FORM's CARD OF 'boxhedgelaw07.EvalLoops'. -/
def evalLoopsUptoCard : Claim7 := { stood := { row := evalLoopsUptoRow, standIns := [], harness := (true, "d4fcacd6e013762fcaf1a36e1f771e3069004aa64e74f61059d7cd07212477d5"), looks := true }, kinds := [], alts := [], laidByText := true, laidKinds := [.data], laidTests := true, laidLooks := .later }
def EvalLoopsUptoCardSaid : Prop := Claim7.holds Tryz.pinned (.plain (OpenSpec.upto evalLoopsSpec)) evalLoopsUptoCard

/-- THE SECOND FORM's CARD OF 'boxhedgelaw07.EvalShorts'. -/
def evalShortsUptoCard : Claim7 := { stood := { row := evalShortsUptoRow, standIns := [], harness := (true, "d4fcacd6e013762fcaf1a36e1f771e3069004aa64e74f61059d7cd07212477d5"), looks := true }, kinds := [], alts := [], laidByText := true, laidKinds := [.data], laidTests := true, laidLooks := .later }
def EvalShortsUptoCardSaid : Prop := Claim7.holds Tryz.pinned (.plain (OpenSpec.upto evalShortsSpec)) evalShortsUptoCard

/-- THE SECOND FORM's CARD OF 'boxhedgelaw07.EvalArrays'. -/
def evalArraysUptoCard : Claim7 := { stood := { row := evalArraysUptoRow, standIns := [], harness := (true, "d4fcacd6e013762fcaf1a36e1f771e3069004aa64e74f61059d7cd07212477d5"), looks := true }, kinds := [], alts := [], laidByText := true, laidKinds := [.data], laidTests := true, laidLooks := .later }
def EvalArraysUptoCardSaid : Prop := Claim7.holds Tryz.pinned (.plain (OpenSpec.upto evalArraysSpec)) evalArraysUptoCard

/-- THE SECOND FORM's CARD OF 'boxhedgelaw07.EvalCalls'. -/
def evalCallsUptoCard : Claim7 := { stood := { row := evalCallsUptoRow, standIns := [], harness := (true, "d4fcacd6e013762fcaf1a36e1f771e3069004aa64e74f61059d7cd07212477d5"), looks := true }, kinds := [], alts := [], laidByText := true, laidKinds := [.data], laidTests := true, laidLooks := .later }
def EvalCallsUptoCardSaid : Prop := Claim7.holds Tryz.pinned (.plain (OpenSpec.upto evalCallsSpec)) evalCallsUptoCard
end Rows
end Go.Proofs.YthcmenajdcbnnaaGreatDoor
