/-
  DERIVED. GIVEN WITH THE SEED: THE CARDS: each row of YtbdlofkmcdalaaaDoorRows.lean that lists a variable, with what it lists TIED to the program's text (the seventh form; the later family's looks); each row that meets fmt, with fmt's text TOLD by the authors' own Lean function (tested against real Go, not proved from fmt's source: count such statements apart). THE CARD IS WHAT COUNTS. Prove the row's statement (the work); the ties are given (YtbdlofkmcdalaaaDoorTie.lean); close each card by the builder's one call (the guide's Derived/Test/ToyasCard.lean, 'card_holds'). Laid BY PROGRAM, IN A SANDBOX (cutbox-door.mjs). By AI agents, Wed Nov 11 2026. No macro, syntax, notation, axiom, sorry.
-/
import Derived.Test.YtbdlofkmcdalaaaDoorRows
import GoSem.ClaimSeven
namespace Go.Proofs.YtbdlofkmcdalaaaDoor
namespace Rows

/-- THE TIED CARD OF 'boxhedgelaw01.WrapTwo'. -/
def wrapTwoCard : Claim7 := { stood := { row := wrapTwoRow, standIns := [], harness := (true, "460d86dee298a559f358c1318cbc3cd1f5348975ddbf40c4f5e21204187d2a47"), looks := false }, kinds := [], alts := [], laidByText := true, laidKinds := [.data], laidTests := true, laidLooks := .later }
def WrapTwoCardSaid : Prop := Claim7.holds Tryd.pinned (.plain (OpenSpec.ofChange wrapTwoSpec)) wrapTwoCard

/-- THE TIED CARD OF 'boxhedgelaw01.WrapSmall'. -/
def wrapSmallCard : Claim7 := { stood := { row := wrapSmallRow, standIns := [], harness := (true, "460d86dee298a559f358c1318cbc3cd1f5348975ddbf40c4f5e21204187d2a47"), looks := false }, kinds := [], alts := [], laidByText := true, laidKinds := [.data], laidTests := true, laidLooks := .later }
def WrapSmallCardSaid : Prop := Claim7.holds Tryd.pinned (.plain (OpenSpec.ofChange wrapSmallSpec)) wrapSmallCard

/-- THE TIED CARD OF 'boxhedgelaw01.WrapOne'. -/
def wrapOneCard : Claim7 := { stood := { row := wrapOneRow, standIns := [], harness := (true, "460d86dee298a559f358c1318cbc3cd1f5348975ddbf40c4f5e21204187d2a47"), looks := false }, kinds := [], alts := [], laidByText := true, laidKinds := [.data], laidTests := true, laidLooks := .later }
def WrapOneCardSaid : Prop := Claim7.holds Tryd.pinned (.plain (OpenSpec.ofChange wrapOneSpec)) wrapOneCard

/-- THE TIED CARD OF 'boxhedgelaw01.WrapSigns'. -/
def wrapSignsCard : Claim7 := { stood := { row := wrapSignsRow, standIns := [], harness := (true, "460d86dee298a559f358c1318cbc3cd1f5348975ddbf40c4f5e21204187d2a47"), looks := false }, kinds := [], alts := [], laidByText := true, laidKinds := [.data], laidTests := true, laidLooks := .later }
def WrapSignsCardSaid : Prop := Claim7.holds Tryd.pinned (.plain (OpenSpec.ofChange wrapSignsSpec)) wrapSignsCard

/-- THE TIED CARD OF 'boxhedgelaw01.WrapDivides'. -/
def wrapDividesCard : Claim7 := { stood := { row := wrapDividesRow, standIns := [], harness := (true, "460d86dee298a559f358c1318cbc3cd1f5348975ddbf40c4f5e21204187d2a47"), looks := false }, kinds := [], alts := [], laidByText := true, laidKinds := [.data], laidTests := true, laidLooks := .later }
def WrapDividesCardSaid : Prop := Claim7.holds Tryd.pinned (.plain (OpenSpec.ofChange wrapDividesSpec)) wrapDividesCard

/-- THE TIED CARD OF 'boxhedgelaw01.WrapConverts'. -/
def wrapConvertsCard : Claim7 := { stood := { row := wrapConvertsRow, standIns := [], harness := (true, "460d86dee298a559f358c1318cbc3cd1f5348975ddbf40c4f5e21204187d2a47"), looks := false }, kinds := [], alts := [], laidByText := true, laidKinds := [.data], laidTests := true, laidLooks := .later }
def WrapConvertsCardSaid : Prop := Claim7.holds Tryd.pinned (.plain (OpenSpec.ofChange wrapConvertsSpec)) wrapConvertsCard

/-- THE TIED CARD OF 'boxhedgelaw01.WrapMoves'. -/
def wrapMovesCard : Claim7 := { stood := { row := wrapMovesRow, standIns := [], harness := (true, "460d86dee298a559f358c1318cbc3cd1f5348975ddbf40c4f5e21204187d2a47"), looks := false }, kinds := [], alts := [], laidByText := true, laidKinds := [.data], laidTests := true, laidLooks := .later }
def WrapMovesCardSaid : Prop := Claim7.holds Tryd.pinned (.plain (OpenSpec.ofChange wrapMovesSpec)) wrapMovesCard

/-- THE TIED CARD OF 'boxhedgelaw01.WrapOrder'. -/
def wrapOrderCard : Claim7 := { stood := { row := wrapOrderRow, standIns := [], harness := (true, "460d86dee298a559f358c1318cbc3cd1f5348975ddbf40c4f5e21204187d2a47"), looks := false }, kinds := [], alts := [], laidByText := true, laidKinds := [.data], laidTests := true, laidLooks := .later }
def WrapOrderCardSaid : Prop := Claim7.holds Tryd.pinned (.plain (OpenSpec.ofChange wrapOrderSpec)) wrapOrderCard

/-- THE SECOND FORM's CARD OF 'boxhedgelaw01.WrapTwo'. -/
def wrapTwoUptoCard : Claim7 := { stood := { row := wrapTwoUptoRow, standIns := [], harness := (true, "460d86dee298a559f358c1318cbc3cd1f5348975ddbf40c4f5e21204187d2a47"), looks := false }, kinds := [], alts := [], laidByText := true, laidKinds := [.data], laidTests := true, laidLooks := .later }
def WrapTwoUptoCardSaid : Prop := Claim7.holds Tryd.pinned (.plain (OpenSpec.upto wrapTwoSpec)) wrapTwoUptoCard

/-- THE SECOND FORM's CARD OF 'boxhedgelaw01.WrapSmall'. -/
def wrapSmallUptoCard : Claim7 := { stood := { row := wrapSmallUptoRow, standIns := [], harness := (true, "460d86dee298a559f358c1318cbc3cd1f5348975ddbf40c4f5e21204187d2a47"), looks := false }, kinds := [], alts := [], laidByText := true, laidKinds := [.data], laidTests := true, laidLooks := .later }
def WrapSmallUptoCardSaid : Prop := Claim7.holds Tryd.pinned (.plain (OpenSpec.upto wrapSmallSpec)) wrapSmallUptoCard

/-- THE SECOND FORM's CARD OF 'boxhedgelaw01.WrapOne'. -/
def wrapOneUptoCard : Claim7 := { stood := { row := wrapOneUptoRow, standIns := [], harness := (true, "460d86dee298a559f358c1318cbc3cd1f5348975ddbf40c4f5e21204187d2a47"), looks := false }, kinds := [], alts := [], laidByText := true, laidKinds := [.data], laidTests := true, laidLooks := .later }
def WrapOneUptoCardSaid : Prop := Claim7.holds Tryd.pinned (.plain (OpenSpec.upto wrapOneSpec)) wrapOneUptoCard

/-- THE SECOND FORM's CARD OF 'boxhedgelaw01.WrapSigns'. -/
def wrapSignsUptoCard : Claim7 := { stood := { row := wrapSignsUptoRow, standIns := [], harness := (true, "460d86dee298a559f358c1318cbc3cd1f5348975ddbf40c4f5e21204187d2a47"), looks := false }, kinds := [], alts := [], laidByText := true, laidKinds := [.data], laidTests := true, laidLooks := .later }
def WrapSignsUptoCardSaid : Prop := Claim7.holds Tryd.pinned (.plain (OpenSpec.upto wrapSignsSpec)) wrapSignsUptoCard

/-- THE SECOND FORM's CARD OF 'boxhedgelaw01.WrapDivides'. -/
def wrapDividesUptoCard : Claim7 := { stood := { row := wrapDividesUptoRow, standIns := [], harness := (true, "460d86dee298a559f358c1318cbc3cd1f5348975ddbf40c4f5e21204187d2a47"), looks := false }, kinds := [], alts := [], laidByText := true, laidKinds := [.data], laidTests := true, laidLooks := .later }
def WrapDividesUptoCardSaid : Prop := Claim7.holds Tryd.pinned (.plain (OpenSpec.upto wrapDividesSpec)) wrapDividesUptoCard

/-- THE SECOND FORM's CARD OF 'boxhedgelaw01.WrapConverts'. -/
def wrapConvertsUptoCard : Claim7 := { stood := { row := wrapConvertsUptoRow, standIns := [], harness := (true, "460d86dee298a559f358c1318cbc3cd1f5348975ddbf40c4f5e21204187d2a47"), looks := false }, kinds := [], alts := [], laidByText := true, laidKinds := [.data], laidTests := true, laidLooks := .later }
def WrapConvertsUptoCardSaid : Prop := Claim7.holds Tryd.pinned (.plain (OpenSpec.upto wrapConvertsSpec)) wrapConvertsUptoCard

/-- THE SECOND FORM's CARD OF 'boxhedgelaw01.WrapMoves'. -/
def wrapMovesUptoCard : Claim7 := { stood := { row := wrapMovesUptoRow, standIns := [], harness := (true, "460d86dee298a559f358c1318cbc3cd1f5348975ddbf40c4f5e21204187d2a47"), looks := false }, kinds := [], alts := [], laidByText := true, laidKinds := [.data], laidTests := true, laidLooks := .later }
def WrapMovesUptoCardSaid : Prop := Claim7.holds Tryd.pinned (.plain (OpenSpec.upto wrapMovesSpec)) wrapMovesUptoCard

/-- THE SECOND FORM's CARD OF 'boxhedgelaw01.WrapOrder'. -/
def wrapOrderUptoCard : Claim7 := { stood := { row := wrapOrderUptoRow, standIns := [], harness := (true, "460d86dee298a559f358c1318cbc3cd1f5348975ddbf40c4f5e21204187d2a47"), looks := false }, kinds := [], alts := [], laidByText := true, laidKinds := [.data], laidTests := true, laidLooks := .later }
def WrapOrderUptoCardSaid : Prop := Claim7.holds Tryd.pinned (.plain (OpenSpec.upto wrapOrderSpec)) wrapOrderUptoCard
end Rows
end Go.Proofs.YtbdlofkmcdalaaaDoor
