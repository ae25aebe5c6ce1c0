/-
  NARROWER THAN 'FOR EVERY INPUT', by the rows' own cells (each row's printed sentence says how): TypesBodies: laid · TypesTypes: laid · TypesOrder: laid · TypesMore: laid · TypesEnds: laid.
  DERIVED. THE GIVEN ROWS OF THIS SEAT. 5 by the template 'for every input the law returns true; each argument reads behind the call as it read before'; 0 by the template 'total and deterministic' (their statements: YtndgkfkieogplaaDoorTotals.lean).
  GIVEN WITH THE SEED: the statements are not yours to turn. If you find one false, say at which input.
  Laid BY PROGRAM, IN A SANDBOX (cutbox-rows.mjs): the forced cells as the released guide's own fill.sh prints them over the translation ba1be043e611fd47… (all of the seat's roots in one cut). By AI agents, Wed Nov 11 2026. No macro, syntax, notation, axiom, sorry.
-/
import Derived.Test.YtndgkfkieogplaaDoorChecked
import GoSem.Claim
import GoSem.ClaimJoined
import GoSem.ClaimMapViews
import Derived.JoinedTies
import Derived.KernelRfl
namespace Go.Proofs.YtndgkfkieogplaaDoor
/- THE CELL 'sum', in the pinned program and in every row, IS THE sha256 OF THE DUMP (.gsa) THAT YtndgkfkieogplaaDoorProg.lean LOADS. Nothing in Lean hashes anything: it is a label: what it is worth is what the hold of that sum in a sandbox is worth. -/
noncomputable def Tryd.pinned : Pinned := { name := "ytndgkfkieogplaadoor", sum := "ba1be043e611fd477fef6f4ba9baa4d5907e6c25c5088c8f209a910fa9a7bd16", checked := Tryd.checked }
namespace Rows
def none {H : Type} : Left H := { results := [], args := [] }

/- WHAT THE LISTED PACKAGE-LEVEL VARIABLES READ AS WHEN THE CALL BEGINS. Each datum BY PROGRAM (the guide's laid-datum.mjs) off the statement by which the dump's own 'gosem.cut.vars' lays the variable. In a bare row this is a premise. The card (YtndgkfkieogplaaDoorCards.lean) ties it to the program's text. -/
def laid_boxhedge_wrap_rows {H : Type} : DataW H := .agg [.agg [.lit (.string []), .lit (.int .i64 0)], .agg [.lit (.string [43]), .lit (.int .i64 9)], .agg [.lit (.string [45]), .lit (.int .i64 9)], .agg [.lit (.string [42]), .lit (.int .i64 10)], .agg [.lit (.string [47]), .lit (.int .i64 10)], .agg [.lit (.string [37]), .lit (.int .i64 10)], .agg [.lit (.string [38]), .lit (.int .i64 5)], .agg [.lit (.string [124]), .lit (.int .i64 3)], .agg [.lit (.string [94]), .lit (.int .i64 4)], .agg [.lit (.string [60, 60]), .lit (.int .i64 8)], .agg [.lit (.string [62, 62]), .lit (.int .i64 8)], .agg [.lit (.string [62, 62, 62]), .lit (.int .i64 8)], .agg [.lit (.string [60]), .lit (.int .i64 7)], .agg [.lit (.string [60, 61]), .lit (.int .i64 7)], .agg [.lit (.string [62]), .lit (.int .i64 7)], .agg [.lit (.string [62, 61]), .lit (.int .i64 7)], .agg [.lit (.string [61, 61]), .lit (.int .i64 6)], .agg [.lit (.string [33, 61]), .lit (.int .i64 6)], .agg [.lit (.string [38, 38]), .lit (.int .i64 2)], .agg [.lit (.string [124, 124]), .lit (.int .i64 1)], .agg [.lit (.string [45]), .lit (.int .i64 0)], .agg [.lit (.string [126]), .lit (.int .i64 0)], .agg [.lit (.string [33]), .lit (.int .i64 0)], .agg [.lit (.string [105, 56]), .lit (.int .i64 0)], .agg [.lit (.string [105, 49, 54]), .lit (.int .i64 0)], .agg [.lit (.string [105, 51, 50]), .lit (.int .i64 0)], .agg [.lit (.string [117, 56]), .lit (.int .i64 0)], .agg [.lit (.string [117, 49, 54]), .lit (.int .i64 0)], .agg [.lit (.string [117, 51, 50]), .lit (.int .i64 0)]]

/-- 'boxhedgelaw05.TypesBodies': WHATEVER THE INPUT: true; the input reads as it did. -/
def typesBodiesSpec : ChangeSpec := { name := "typesBodies", fn := fun _ => fun
  | [d1, d2] => { results := [.lit (.bool true)], args := [d1, d2] }
  | _ => none }
def typesBodiesRow : OpenClaim := { program := "ytndgkfkieogplaadoor", sum := "ba1be043e611fd477fef6f4ba9baa4d5907e6c25c5088c8f209a910fa9a7bd16", func := "boxhedge/boxhedgelaw05.TypesBodies", spec := "typesBodies", recurses := true, named := ["boxhedge/wrap.rows"], apart := false, laid := [("boxhedge/wrap.rows", laid_boxhedge_wrap_rows)] }
def TypesBodiesSaid : Prop := typesBodiesRow.holds Tryd.pinned (OpenSpec.ofChange typesBodiesSpec)

/-- ITS FALSE NEIGHBOUR: 'it returns false'. Refute it at one input. -/
def typesBodiesWrong : ChangeSpec := { name := "typesBodies", fn := fun _ => fun
  | [d1, d2] => { results := [.lit (.bool false)], args := [d1, d2] }
  | _ => none }
def TypesBodiesWrongFalsely : Prop := typesBodiesRow.holds Tryd.pinned (OpenSpec.ofChange typesBodiesWrong)

/-- 'boxhedgelaw05.TypesTypes': WHATEVER THE INPUT: true; the input reads as it did. -/
def typesTypesSpec : ChangeSpec := { name := "typesTypes", fn := fun _ => fun
  | [d1, d2, d3] => { results := [.lit (.bool true)], args := [d1, d2, d3] }
  | _ => none }
def typesTypesRow : OpenClaim := { program := "ytndgkfkieogplaadoor", sum := "ba1be043e611fd477fef6f4ba9baa4d5907e6c25c5088c8f209a910fa9a7bd16", func := "boxhedge/boxhedgelaw05.TypesTypes", spec := "typesTypes", recurses := true, named := ["boxhedge/wrap.rows"], apart := false, laid := [("boxhedge/wrap.rows", laid_boxhedge_wrap_rows)] }
def TypesTypesSaid : Prop := typesTypesRow.holds Tryd.pinned (OpenSpec.ofChange typesTypesSpec)

/-- ITS FALSE NEIGHBOUR: 'it returns false'. Refute it at one input. -/
def typesTypesWrong : ChangeSpec := { name := "typesTypes", fn := fun _ => fun
  | [d1, d2, d3] => { results := [.lit (.bool false)], args := [d1, d2, d3] }
  | _ => none }
def TypesTypesWrongFalsely : Prop := typesTypesRow.holds Tryd.pinned (OpenSpec.ofChange typesTypesWrong)

/-- 'boxhedgelaw05.TypesOrder': WHATEVER THE INPUT: true; the input reads as it did. -/
def typesOrderSpec : ChangeSpec := { name := "typesOrder", fn := fun _ => fun
  | [d1, d2] => { results := [.lit (.bool true)], args := [d1, d2] }
  | _ => none }
def typesOrderRow : OpenClaim := { program := "ytndgkfkieogplaadoor", sum := "ba1be043e611fd477fef6f4ba9baa4d5907e6c25c5088c8f209a910fa9a7bd16", func := "boxhedge/boxhedgelaw05.TypesOrder", spec := "typesOrder", recurses := true, named := ["boxhedge/wrap.rows"], apart := false, laid := [("boxhedge/wrap.rows", laid_boxhedge_wrap_rows)] }
def TypesOrderSaid : Prop := typesOrderRow.holds Tryd.pinned (OpenSpec.ofChange typesOrderSpec)

/-- ITS FALSE NEIGHBOUR: 'it returns false'. Refute it at one input. -/
def typesOrderWrong : ChangeSpec := { name := "typesOrder", fn := fun _ => fun
  | [d1, d2] => { results := [.lit (.bool false)], args := [d1, d2] }
  | _ => none }
def TypesOrderWrongFalsely : Prop := typesOrderRow.holds Tryd.pinned (OpenSpec.ofChange typesOrderWrong)

/-- 'boxhedgelaw05.TypesMore': WHATEVER THE INPUT: true; the input reads as it did. -/
def typesMoreSpec : ChangeSpec := { name := "typesMore", fn := fun _ => fun
  | [d1, d2] => { results := [.lit (.bool true)], args := [d1, d2] }
  | _ => none }
def typesMoreRow : OpenClaim := { program := "ytndgkfkieogplaadoor", sum := "ba1be043e611fd477fef6f4ba9baa4d5907e6c25c5088c8f209a910fa9a7bd16", func := "boxhedge/boxhedgelaw05.TypesMore", spec := "typesMore", recurses := true, named := ["boxhedge/wrap.rows"], apart := false, laid := [("boxhedge/wrap.rows", laid_boxhedge_wrap_rows)] }
def TypesMoreSaid : Prop := typesMoreRow.holds Tryd.pinned (OpenSpec.ofChange typesMoreSpec)

/-- ITS FALSE NEIGHBOUR: 'it returns false'. Refute it at one input. -/
def typesMoreWrong : ChangeSpec := { name := "typesMore", fn := fun _ => fun
  | [d1, d2] => { results := [.lit (.bool false)], args := [d1, d2] }
  | _ => none }
def TypesMoreWrongFalsely : Prop := typesMoreRow.holds Tryd.pinned (OpenSpec.ofChange typesMoreWrong)

/-- 'boxhedgelaw05.TypesEnds': WHATEVER THE INPUT: true; the input reads as it did. -/
def typesEndsSpec : ChangeSpec := { name := "typesEnds", fn := fun _ => fun
  | [d] => { results := [.lit (.bool true)], args := [d] }
  | _ => none }
def typesEndsRow : OpenClaim := { program := "ytndgkfkieogplaadoor", sum := "ba1be043e611fd477fef6f4ba9baa4d5907e6c25c5088c8f209a910fa9a7bd16", func := "boxhedge/boxhedgelaw05.TypesEnds", spec := "typesEnds", recurses := true, named := ["boxhedge/wrap.rows"], apart := false, laid := [("boxhedge/wrap.rows", laid_boxhedge_wrap_rows)] }
def TypesEndsSaid : Prop := typesEndsRow.holds Tryd.pinned (OpenSpec.ofChange typesEndsSpec)

/-- ITS FALSE NEIGHBOUR: 'it returns false'. Refute it at one input. -/
def typesEndsWrong : ChangeSpec := { name := "typesEnds", fn := fun _ => fun
  | [d] => { results := [.lit (.bool false)], args := [d] }
  | _ => none }
def TypesEndsWrongFalsely : Prop := typesEndsRow.holds Tryd.pinned (OpenSpec.ofChange typesEndsWrong)

/- THE SECOND FORM. 'bulk': how many values and letters a reading holds, each counted each time it is reached (what is shared counts as often as it is met; a slice's spare places count too). A statement '..UptoSaid' is the law's where the arguments, and the package variables that the reading takes, are together of bulk at most 1048576: NARROWER than '..Said'. Prove '..Said' where nothing that the law and all that it calls make is longer than what came in: it says more and counts as full. Else prove '..UptoSaid'. A law counts once. -/
mutual
def uptoBulk {H : Type} : DataW H → Nat
  | .lit (.string bytes) => bytes.length + 1
  | .lit _ => 1
  | .nil => 1
  | .ptr d => uptoBulk d + 1
  | .slice elems spare => uptoBulkAll elems + uptoBulkAll spare + 1
  | .agg parts => uptoBulkAll parts + 1
  | .iface _ d => uptoBulk d + 1
  | .map entries => uptoBulkEntries entries + 1
  | .held _ => 1
def uptoBulkAll {H : Type} : List (DataW H) → Nat
  | [] => 0
  | d :: r => uptoBulk d + uptoBulkAll r
def uptoBulkEntries {H : Type} : List (Lit × DataW H) → Nat
  | [] => 0
  | x :: r => uptoBulkEntry x + uptoBulkEntries r
def uptoBulkEntry {H : Type} : Lit × DataW H → Nat
  | (.string bytes, d) => bytes.length + uptoBulk d + 1
  | (_, d) => uptoBulk d + 1
 end
def uptoSmall : (H : Type) → List (DataW H) → Bool := fun _ ds => decide (uptoBulkAll ds ≤ 1048576)
def OpenSpec.upto (s : _root_.Go.ChangeSpec) : _root_.Go.OpenSpec := { _root_.Go.OpenSpec.ofChange s with cond := some uptoSmall }

/-- 'boxhedgelaw05.TypesBodies', WHERE WHAT IT READS IS OF BULK AT MOST 1048576: true; the input reads as it did. -/
def typesBodiesUptoRow : OpenClaim := { program := "ytndgkfkieogplaadoor", sum := "ba1be043e611fd477fef6f4ba9baa4d5907e6c25c5088c8f209a910fa9a7bd16", func := "boxhedge/boxhedgelaw05.TypesBodies", spec := "typesBodies", recurses := true, named := ["boxhedge/wrap.rows"], apart := false, laid := [("boxhedge/wrap.rows", laid_boxhedge_wrap_rows)], narrowed := true }
def TypesBodiesUptoSaid : Prop := typesBodiesUptoRow.holds Tryd.pinned (OpenSpec.upto typesBodiesSpec)

/-- 'boxhedgelaw05.TypesTypes', WHERE WHAT IT READS IS OF BULK AT MOST 1048576: true; the input reads as it did. -/
def typesTypesUptoRow : OpenClaim := { program := "ytndgkfkieogplaadoor", sum := "ba1be043e611fd477fef6f4ba9baa4d5907e6c25c5088c8f209a910fa9a7bd16", func := "boxhedge/boxhedgelaw05.TypesTypes", spec := "typesTypes", recurses := true, named := ["boxhedge/wrap.rows"], apart := false, laid := [("boxhedge/wrap.rows", laid_boxhedge_wrap_rows)], narrowed := true }
def TypesTypesUptoSaid : Prop := typesTypesUptoRow.holds Tryd.pinned (OpenSpec.upto typesTypesSpec)

/-- 'boxhedgelaw05.TypesOrder', WHERE WHAT IT READS IS OF BULK AT MOST 1048576: true; the input reads as it did. -/
def typesOrderUptoRow : OpenClaim := { program := "ytndgkfkieogplaadoor", sum := "ba1be043e611fd477fef6f4ba9baa4d5907e6c25c5088c8f209a910fa9a7bd16", func := "boxhedge/boxhedgelaw05.TypesOrder", spec := "typesOrder", recurses := true, named := ["boxhedge/wrap.rows"], apart := false, laid := [("boxhedge/wrap.rows", laid_boxhedge_wrap_rows)], narrowed := true }
def TypesOrderUptoSaid : Prop := typesOrderUptoRow.holds Tryd.pinned (OpenSpec.upto typesOrderSpec)

/-- 'boxhedgelaw05.TypesMore', WHERE WHAT IT READS IS OF BULK AT MOST 1048576: true; the input reads as it did. -/
def typesMoreUptoRow : OpenClaim := { program := "ytndgkfkieogplaadoor", sum := "ba1be043e611fd477fef6f4ba9baa4d5907e6c25c5088c8f209a910fa9a7bd16", func := "boxhedge/boxhedgelaw05.TypesMore", spec := "typesMore", recurses := true, named := ["boxhedge/wrap.rows"], apart := false, laid := [("boxhedge/wrap.rows", laid_boxhedge_wrap_rows)], narrowed := true }
def TypesMoreUptoSaid : Prop := typesMoreUptoRow.holds Tryd.pinned (OpenSpec.upto typesMoreSpec)

/-- 'boxhedgelaw05.TypesEnds', WHERE WHAT IT READS IS OF BULK AT MOST 1048576: true; the input reads as it did. -/
def typesEndsUptoRow : OpenClaim := { program := "ytndgkfkieogplaadoor", sum := "ba1be043e611fd477fef6f4ba9baa4d5907e6c25c5088c8f209a910fa9a7bd16", func := "boxhedge/boxhedgelaw05.TypesEnds", spec := "typesEnds", recurses := true, named := ["boxhedge/wrap.rows"], apart := false, laid := [("boxhedge/wrap.rows", laid_boxhedge_wrap_rows)], narrowed := true }
def TypesEndsUptoSaid : Prop := typesEndsUptoRow.holds Tryd.pinned (OpenSpec.upto typesEndsSpec)

end Rows
end Go.Proofs.YtndgkfkieogplaaDoor
