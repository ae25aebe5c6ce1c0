/-
  DERIVED. GIVEN WITH THE SEED: THE CARDS: each row of YtndgkfkieogplaaDoorRows.lean that lists a variable, with what it lists TIED to the program's text (the seventh form; the later family's looks); each row that meets fmt, with fmt's text TOLD by the authors' own Lean function (tested against real Go, not proved from fmt's source: count such statements apart). THE CARD IS WHAT COUNTS. Prove the row's statement (the work); the ties are given (YtndgkfkieogplaaDoorTie.lean); close each card by the builder's one call (the guide's Derived/Test/ToyasCard.lean, 'card_holds'). Laid BY PROGRAM, IN A SANDBOX (cutbox-door.mjs). By AI agents, Wed Nov 11 2026. No macro, syntax, notation, axiom, sorry.
-/
import Derived.Test.YtndgkfkieogplaaDoorRows
import GoSem.ClaimSeven
namespace Go.Proofs.YtndgkfkieogplaaDoor
namespace Rows

/-- THE TIED CARD OF 'boxhedgelaw05.TypesBodies'. -/
def typesBodiesCard : Claim7 := { stood := { row := typesBodiesRow, standIns := [], harness := (true, "0507d85b8a2fc86c5aa8b216b76906972f23d90fed5ba04515b20fcac19b4c54"), looks := false }, kinds := [], alts := [], laidByText := true, laidKinds := [.data], laidTests := true, laidLooks := .later }
def TypesBodiesCardSaid : Prop := Claim7.holds Tryd.pinned (.plain (OpenSpec.ofChange typesBodiesSpec)) typesBodiesCard

/-- THE TIED CARD OF 'boxhedgelaw05.TypesTypes'. -/
def typesTypesCard : Claim7 := { stood := { row := typesTypesRow, standIns := [], harness := (true, "0507d85b8a2fc86c5aa8b216b76906972f23d90fed5ba04515b20fcac19b4c54"), looks := false }, kinds := [], alts := [], laidByText := true, laidKinds := [.data], laidTests := true, laidLooks := .later }
def TypesTypesCardSaid : Prop := Claim7.holds Tryd.pinned (.plain (OpenSpec.ofChange typesTypesSpec)) typesTypesCard

/-- THE TIED CARD OF 'boxhedgelaw05.TypesOrder'. -/
def typesOrderCard : Claim7 := { stood := { row := typesOrderRow, standIns := [], harness := (true, "0507d85b8a2fc86c5aa8b216b76906972f23d90fed5ba04515b20fcac19b4c54"), looks := false }, kinds := [], alts := [], laidByText := true, laidKinds := [.data], laidTests := true, laidLooks := .later }
def TypesOrderCardSaid : Prop := Claim7.holds Tryd.pinned (.plain (OpenSpec.ofChange typesOrderSpec)) typesOrderCard

/-- THE TIED CARD OF 'boxhedgelaw05.TypesMore'. -/
def typesMoreCard : Claim7 := { stood := { row := typesMoreRow, standIns := [], harness := (true, "0507d85b8a2fc86c5aa8b216b76906972f23d90fed5ba04515b20fcac19b4c54"), looks := false }, kinds := [], alts := [], laidByText := true, laidKinds := [.data], laidTests := true, laidLooks := .later }
def TypesMoreCardSaid : Prop := Claim7.holds Tryd.pinned (.plain (OpenSpec.ofChange typesMoreSpec)) typesMoreCard

/-- THE TIED CARD OF 'boxhedgelaw05.TypesEnds'. -/
def typesEndsCard : Claim7 := { stood := { row := typesEndsRow, standIns := [], harness := (true, "0507d85b8a2fc86c5aa8b216b76906972f23d90fed5ba04515b20fcac19b4c54"), looks := false }, kinds := [], alts := [], laidByText := true, laidKinds := [.data], laidTests := true, laidLooks := .later }
def TypesEndsCardSaid : Prop := Claim7.holds Tryd.pinned (.plain (OpenSpec.ofChange typesEndsSpec)) typesEndsCard

/-- THE SECOND FORM's CARD OF 'boxhedgelaw05.TypesBodies'. -/
def typesBodiesUptoCard : Claim7 := { stood := { row := typesBodiesUptoRow, standIns := [], harness := (true, "0507d85b8a2fc86c5aa8b216b76906972f23d90fed5ba04515b20fcac19b4c54"), looks := false }, kinds := [], alts := [], laidByText := true, laidKinds := [.data], laidTests := true, laidLooks := .later }
def TypesBodiesUptoCardSaid : Prop := Claim7.holds Tryd.pinned (.plain (OpenSpec.upto typesBodiesSpec)) typesBodiesUptoCard

/-- THE SECOND FORM's CARD OF 'boxhedgelaw05.TypesTypes'. -/
def typesTypesUptoCard : Claim7 := { stood := { row := typesTypesUptoRow, standIns := [], harness := (true, "0507d85b8a2fc86c5aa8b216b76906972f23d90fed5ba04515b20fcac19b4c54"), looks := false }, kinds := [], alts := [], laidByText := true, laidKinds := [.data], laidTests := true, laidLooks := .later }
def TypesTypesUptoCardSaid : Prop := Claim7.holds Tryd.pinned (.plain (OpenSpec.upto typesTypesSpec)) typesTypesUptoCard

/-- THE SECOND FORM's CARD OF 'boxhedgelaw05.TypesOrder'. -/
def typesOrderUptoCard : Claim7 := { stood := { row := typesOrderUptoRow, standIns := [], harness := (true, "0507d85b8a2fc86c5aa8b216b76906972f23d90fed5ba04515b20fcac19b4c54"), looks := false }, kinds := [], alts := [], laidByText := true, laidKinds := [.data], laidTests := true, laidLooks := .later }
def TypesOrderUptoCardSaid : Prop := Claim7.holds Tryd.pinned (.plain (OpenSpec.upto typesOrderSpec)) typesOrderUptoCard

/-- THE SECOND FORM's CARD OF 'boxhedgelaw05.TypesMore'. -/
def typesMoreUptoCard : Claim7 := { stood := { row := typesMoreUptoRow, standIns := [], harness := (true, "0507d85b8a2fc86c5aa8b216b76906972f23d90fed5ba04515b20fcac19b4c54"), looks := false }, kinds := [], alts := [], laidByText := true, laidKinds := [.data], laidTests := true, laidLooks := .later }
def TypesMoreUptoCardSaid : Prop := Claim7.holds Tryd.pinned (.plain (OpenSpec.upto typesMoreSpec)) typesMoreUptoCard

/-- THE SECOND FORM's CARD OF 'boxhedgelaw05.TypesEnds'. -/
def typesEndsUptoCard : Claim7 := { stood := { row := typesEndsUptoRow, standIns := [], harness := (true, "0507d85b8a2fc86c5aa8b216b76906972f23d90fed5ba04515b20fcac19b4c54"), looks := false }, kinds := [], alts := [], laidByText := true, laidKinds := [.data], laidTests := true, laidLooks := .later }
def TypesEndsUptoCardSaid : Prop := Claim7.holds Tryd.pinned (.plain (OpenSpec.upto typesEndsSpec)) typesEndsUptoCard
end Rows
end Go.Proofs.YtndgkfkieogplaaDoor
