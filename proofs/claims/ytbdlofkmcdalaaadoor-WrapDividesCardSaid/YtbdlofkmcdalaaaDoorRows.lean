/-
  NARROWER THAN 'FOR EVERY INPUT', by the rows' own cells (each row's printed sentence says how): WrapTwo: laid · WrapSmall: laid · WrapOne: laid · WrapSigns: laid · WrapDivides: laid · WrapConverts: laid · WrapMoves: laid · WrapOrder: laid.
  DERIVED. THE GIVEN ROWS OF THIS SEAT. 8 by the template 'for every input the law returns true; each argument reads behind the call as it read before'; 0 by the template 'total and deterministic' (their statements: YtbdlofkmcdalaaaDoorTotals.lean).
  GIVEN WITH THE SEED: the statements are not yours to turn. If you find one false, say at which input.
  Laid BY PROGRAM, IN A SANDBOX (cutbox-rows.mjs): the forced cells as the released guide's own fill.sh prints them over the translation 9cd9e1de55d818fd… (all of the seat's roots in one cut). By AI agents, Wed Nov 11 2026. No macro, syntax, notation, axiom, sorry.
-/
import Derived.Test.YtbdlofkmcdalaaaDoorChecked
import GoSem.Claim
import GoSem.ClaimJoined
import GoSem.ClaimMapViews
import Derived.JoinedTies
import Derived.KernelRfl
namespace Go.Proofs.YtbdlofkmcdalaaaDoor
/- THE CELL 'sum', in the pinned program and in every row, IS THE sha256 OF THE DUMP (.gsa) THAT YtbdlofkmcdalaaaDoorProg.lean LOADS. Nothing in Lean hashes anything: it is a label: what it is worth is what the hold of that sum in a sandbox is worth. -/
noncomputable def Tryd.pinned : Pinned := { name := "ytbdlofkmcdalaaadoor", sum := "9cd9e1de55d818fd2b36aeccd86ce89b66b8abfaf675a1d3a9ae1c7c5431f0b6", checked := Tryd.checked }
namespace Rows
def none {H : Type} : Left H := { results := [], args := [] }

/- WHAT THE LISTED PACKAGE-LEVEL VARIABLES READ AS WHEN THE CALL BEGINS. Each datum BY PROGRAM (the guide's laid-datum.mjs) off the statement by which the dump's own 'gosem.cut.vars' lays the variable. In a bare row this is a premise. The card (YtbdlofkmcdalaaaDoorCards.lean) ties it to the program's text. -/
def laid_boxhedge_wrap_rows {H : Type} : DataW H := .agg [.agg [.lit (.string []), .lit (.int .i64 0)], .agg [.lit (.string [43]), .lit (.int .i64 9)], .agg [.lit (.string [45]), .lit (.int .i64 9)], .agg [.lit (.string [42]), .lit (.int .i64 10)], .agg [.lit (.string [47]), .lit (.int .i64 10)], .agg [.lit (.string [37]), .lit (.int .i64 10)], .agg [.lit (.string [38]), .lit (.int .i64 5)], .agg [.lit (.string [124]), .lit (.int .i64 3)], .agg [.lit (.string [94]), .lit (.int .i64 4)], .agg [.lit (.string [60, 60]), .lit (.int .i64 8)], .agg [.lit (.string [62, 62]), .lit (.int .i64 8)], .agg [.lit (.string [62, 62, 62]), .lit (.int .i64 8)], .agg [.lit (.string [60]), .lit (.int .i64 7)], .agg [.lit (.string [60, 61]), .lit (.int .i64 7)], .agg [.lit (.string [62]), .lit (.int .i64 7)], .agg [.lit (.string [62, 61]), .lit (.int .i64 7)], .agg [.lit (.string [61, 61]), .lit (.int .i64 6)], .agg [.lit (.string [33, 61]), .lit (.int .i64 6)], .agg [.lit (.string [38, 38]), .lit (.int .i64 2)], .agg [.lit (.string [124, 124]), .lit (.int .i64 1)], .agg [.lit (.string [45]), .lit (.int .i64 0)], .agg [.lit (.string [126]), .lit (.int .i64 0)], .agg [.lit (.string [33]), .lit (.int .i64 0)], .agg [.lit (.string [105, 56]), .lit (.int .i64 0)], .agg [.lit (.string [105, 49, 54]), .lit (.int .i64 0)], .agg [.lit (.string [105, 51, 50]), .lit (.int .i64 0)], .agg [.lit (.string [117, 56]), .lit (.int .i64 0)], .agg [.lit (.string [117, 49, 54]), .lit (.int .i64 0)], .agg [.lit (.string [117, 51, 50]), .lit (.int .i64 0)]]

/-- 'boxhedgelaw01.WrapTwo': WHATEVER THE INPUT: true; the input reads as it did. -/
def wrapTwoSpec : ChangeSpec := { name := "wrapTwo", fn := fun _ => fun
  | [d1, d2, d3] => { results := [.lit (.bool true)], args := [d1, d2, d3] }
  | _ => none }
def wrapTwoRow : OpenClaim := { program := "ytbdlofkmcdalaaadoor", sum := "9cd9e1de55d818fd2b36aeccd86ce89b66b8abfaf675a1d3a9ae1c7c5431f0b6", func := "boxhedge/boxhedgelaw01.WrapTwo", spec := "wrapTwo", named := ["boxhedge/wrap.rows"], apart := false, laid := [("boxhedge/wrap.rows", laid_boxhedge_wrap_rows)] }
def WrapTwoSaid : Prop := wrapTwoRow.holds Tryd.pinned (OpenSpec.ofChange wrapTwoSpec)

/-- ITS FALSE NEIGHBOUR: 'it returns false'. Refute it at one input. -/
def wrapTwoWrong : ChangeSpec := { name := "wrapTwo", fn := fun _ => fun
  | [d1, d2, d3] => { results := [.lit (.bool false)], args := [d1, d2, d3] }
  | _ => none }
def WrapTwoWrongFalsely : Prop := wrapTwoRow.holds Tryd.pinned (OpenSpec.ofChange wrapTwoWrong)

/-- 'boxhedgelaw01.WrapSmall': WHATEVER THE INPUT: true; the input reads as it did. -/
def wrapSmallSpec : ChangeSpec := { name := "wrapSmall", fn := fun _ => fun
  | [d1, d2, d3] => { results := [.lit (.bool true)], args := [d1, d2, d3] }
  | _ => none }
def wrapSmallRow : OpenClaim := { program := "ytbdlofkmcdalaaadoor", sum := "9cd9e1de55d818fd2b36aeccd86ce89b66b8abfaf675a1d3a9ae1c7c5431f0b6", func := "boxhedge/boxhedgelaw01.WrapSmall", spec := "wrapSmall", named := ["boxhedge/wrap.rows"], apart := false, laid := [("boxhedge/wrap.rows", laid_boxhedge_wrap_rows)] }
def WrapSmallSaid : Prop := wrapSmallRow.holds Tryd.pinned (OpenSpec.ofChange wrapSmallSpec)

/-- ITS FALSE NEIGHBOUR: 'it returns false'. Refute it at one input. -/
def wrapSmallWrong : ChangeSpec := { name := "wrapSmall", fn := fun _ => fun
  | [d1, d2, d3] => { results := [.lit (.bool false)], args := [d1, d2, d3] }
  | _ => none }
def WrapSmallWrongFalsely : Prop := wrapSmallRow.holds Tryd.pinned (OpenSpec.ofChange wrapSmallWrong)

/-- 'boxhedgelaw01.WrapOne': WHATEVER THE INPUT: true; the input reads as it did. -/
def wrapOneSpec : ChangeSpec := { name := "wrapOne", fn := fun _ => fun
  | [d1, d2] => { results := [.lit (.bool true)], args := [d1, d2] }
  | _ => none }
def wrapOneRow : OpenClaim := { program := "ytbdlofkmcdalaaadoor", sum := "9cd9e1de55d818fd2b36aeccd86ce89b66b8abfaf675a1d3a9ae1c7c5431f0b6", func := "boxhedge/boxhedgelaw01.WrapOne", spec := "wrapOne", named := ["boxhedge/wrap.rows"], apart := false, laid := [("boxhedge/wrap.rows", laid_boxhedge_wrap_rows)] }
def WrapOneSaid : Prop := wrapOneRow.holds Tryd.pinned (OpenSpec.ofChange wrapOneSpec)

/-- ITS FALSE NEIGHBOUR: 'it returns false'. Refute it at one input. -/
def wrapOneWrong : ChangeSpec := { name := "wrapOne", fn := fun _ => fun
  | [d1, d2] => { results := [.lit (.bool false)], args := [d1, d2] }
  | _ => none }
def WrapOneWrongFalsely : Prop := wrapOneRow.holds Tryd.pinned (OpenSpec.ofChange wrapOneWrong)

/-- 'boxhedgelaw01.WrapSigns': WHATEVER THE INPUT: true; the input reads as it did. -/
def wrapSignsSpec : ChangeSpec := { name := "wrapSigns", fn := fun _ => fun
  | [d] => { results := [.lit (.bool true)], args := [d] }
  | _ => none }
def wrapSignsRow : OpenClaim := { program := "ytbdlofkmcdalaaadoor", sum := "9cd9e1de55d818fd2b36aeccd86ce89b66b8abfaf675a1d3a9ae1c7c5431f0b6", func := "boxhedge/boxhedgelaw01.WrapSigns", spec := "wrapSigns", named := ["boxhedge/wrap.rows"], apart := false, laid := [("boxhedge/wrap.rows", laid_boxhedge_wrap_rows)] }
def WrapSignsSaid : Prop := wrapSignsRow.holds Tryd.pinned (OpenSpec.ofChange wrapSignsSpec)

/-- ITS FALSE NEIGHBOUR: 'it returns false'. Refute it at one input. -/
def wrapSignsWrong : ChangeSpec := { name := "wrapSigns", fn := fun _ => fun
  | [d] => { results := [.lit (.bool false)], args := [d] }
  | _ => none }
def WrapSignsWrongFalsely : Prop := wrapSignsRow.holds Tryd.pinned (OpenSpec.ofChange wrapSignsWrong)

/-- 'boxhedgelaw01.WrapDivides': WHATEVER THE INPUT: true; the input reads as it did. -/
def wrapDividesSpec : ChangeSpec := { name := "wrapDivides", fn := fun _ => fun
  | [d1, d2] => { results := [.lit (.bool true)], args := [d1, d2] }
  | _ => none }
def wrapDividesRow : OpenClaim := { program := "ytbdlofkmcdalaaadoor", sum := "9cd9e1de55d818fd2b36aeccd86ce89b66b8abfaf675a1d3a9ae1c7c5431f0b6", func := "boxhedge/boxhedgelaw01.WrapDivides", spec := "wrapDivides", named := ["boxhedge/wrap.rows"], apart := false, laid := [("boxhedge/wrap.rows", laid_boxhedge_wrap_rows)] }
def WrapDividesSaid : Prop := wrapDividesRow.holds Tryd.pinned (OpenSpec.ofChange wrapDividesSpec)

/-- ITS FALSE NEIGHBOUR: 'it returns false'. Refute it at one input. -/
def wrapDividesWrong : ChangeSpec := { name := "wrapDivides", fn := fun _ => fun
  | [d1, d2] => { results := [.lit (.bool false)], args := [d1, d2] }
  | _ => none }
def WrapDividesWrongFalsely : Prop := wrapDividesRow.holds Tryd.pinned (OpenSpec.ofChange wrapDividesWrong)

/-- 'boxhedgelaw01.WrapConverts': WHATEVER THE INPUT: true; the input reads as it did. -/
def wrapConvertsSpec : ChangeSpec := { name := "wrapConverts", fn := fun _ => fun
  | [d1, d2] => { results := [.lit (.bool true)], args := [d1, d2] }
  | _ => none }
def wrapConvertsRow : OpenClaim := { program := "ytbdlofkmcdalaaadoor", sum := "9cd9e1de55d818fd2b36aeccd86ce89b66b8abfaf675a1d3a9ae1c7c5431f0b6", func := "boxhedge/boxhedgelaw01.WrapConverts", spec := "wrapConverts", named := ["boxhedge/wrap.rows"], apart := false, laid := [("boxhedge/wrap.rows", laid_boxhedge_wrap_rows)] }
def WrapConvertsSaid : Prop := wrapConvertsRow.holds Tryd.pinned (OpenSpec.ofChange wrapConvertsSpec)

/-- ITS FALSE NEIGHBOUR: 'it returns false'. Refute it at one input. -/
def wrapConvertsWrong : ChangeSpec := { name := "wrapConverts", fn := fun _ => fun
  | [d1, d2] => { results := [.lit (.bool false)], args := [d1, d2] }
  | _ => none }
def WrapConvertsWrongFalsely : Prop := wrapConvertsRow.holds Tryd.pinned (OpenSpec.ofChange wrapConvertsWrong)

/-- 'boxhedgelaw01.WrapMoves': WHATEVER THE INPUT: true; the input reads as it did. -/
def wrapMovesSpec : ChangeSpec := { name := "wrapMoves", fn := fun _ => fun
  | [d1, d2] => { results := [.lit (.bool true)], args := [d1, d2] }
  | _ => none }
def wrapMovesRow : OpenClaim := { program := "ytbdlofkmcdalaaadoor", sum := "9cd9e1de55d818fd2b36aeccd86ce89b66b8abfaf675a1d3a9ae1c7c5431f0b6", func := "boxhedge/boxhedgelaw01.WrapMoves", spec := "wrapMoves", named := ["boxhedge/wrap.rows"], apart := false, laid := [("boxhedge/wrap.rows", laid_boxhedge_wrap_rows)] }
def WrapMovesSaid : Prop := wrapMovesRow.holds Tryd.pinned (OpenSpec.ofChange wrapMovesSpec)

/-- ITS FALSE NEIGHBOUR: 'it returns false'. Refute it at one input. -/
def wrapMovesWrong : ChangeSpec := { name := "wrapMoves", fn := fun _ => fun
  | [d1, d2] => { results := [.lit (.bool false)], args := [d1, d2] }
  | _ => none }
def WrapMovesWrongFalsely : Prop := wrapMovesRow.holds Tryd.pinned (OpenSpec.ofChange wrapMovesWrong)

/-- 'boxhedgelaw01.WrapOrder': WHATEVER THE INPUT: true; the input reads as it did. -/
def wrapOrderSpec : ChangeSpec := { name := "wrapOrder", fn := fun _ => fun
  | [d1, d2] => { results := [.lit (.bool true)], args := [d1, d2] }
  | _ => none }
def wrapOrderRow : OpenClaim := { program := "ytbdlofkmcdalaaadoor", sum := "9cd9e1de55d818fd2b36aeccd86ce89b66b8abfaf675a1d3a9ae1c7c5431f0b6", func := "boxhedge/boxhedgelaw01.WrapOrder", spec := "wrapOrder", named := ["boxhedge/wrap.rows"], apart := false, laid := [("boxhedge/wrap.rows", laid_boxhedge_wrap_rows)] }
def WrapOrderSaid : Prop := wrapOrderRow.holds Tryd.pinned (OpenSpec.ofChange wrapOrderSpec)

/-- ITS FALSE NEIGHBOUR: 'it returns false'. Refute it at one input. -/
def wrapOrderWrong : ChangeSpec := { name := "wrapOrder", fn := fun _ => fun
  | [d1, d2] => { results := [.lit (.bool false)], args := [d1, d2] }
  | _ => none }
def WrapOrderWrongFalsely : Prop := wrapOrderRow.holds Tryd.pinned (OpenSpec.ofChange wrapOrderWrong)

/- THE SECOND FORM. 'bulk': how many values and letters a reading holds, each counted each time it is reached (what is shared counts as often as it is met; a slice's spare places count too). A statement '..UptoSaid' is the law's where the arguments, and the package variables that the reading takes, are together of bulk at most 1048576: NARROWER than '..Said'. Prove '..Said' where nothing that the law and all that it calls make is longer than what came in: it says more and counts as full. Else prove '..UptoSaid'. A law counts once. -/
mutual
def uptoBulk {H : Type} : DataW H → Nat
  | .lit (.string bytes) => bytes.length + 1
  | .lit _ => 1
  | .nil => 1
  | .ptr d => uptoBulk d + 1
  | .slice elems spare => uptoBulkAll elems + uptoBulkAll spare + 1
  | .agg parts => uptoBulkAll parts + 1
  | .iface _ d => uptoBulk d + 1
  | .map entries => uptoBulkEntries entries + 1
  | .held _ => 1
def uptoBulkAll {H : Type} : List (DataW H) → Nat
  | [] => 0
  | d :: r => uptoBulk d + uptoBulkAll r
def uptoBulkEntries {H : Type} : List (Lit × DataW H) → Nat
  | [] => 0
  | x :: r => uptoBulkEntry x + uptoBulkEntries r
def uptoBulkEntry {H : Type} : Lit × DataW H → Nat
  | (.string bytes, d) => bytes.length + uptoBulk d + 1
  | (_, d) => uptoBulk d + 1
 end
def uptoSmall : (H : Type) → List (DataW H) → Bool := fun _ ds => decide (uptoBulkAll ds ≤ 1048576)
def OpenSpec.upto (s : _root_.Go.ChangeSpec) : _root_.Go.OpenSpec := { _root_.Go.OpenSpec.ofChange s with cond := some uptoSmall }

/-- 'boxhedgelaw01.WrapTwo', WHERE WHAT IT READS IS OF BULK AT MOST 1048576: true; the input reads as it did. -/
def wrapTwoUptoRow : OpenClaim := { program := "ytbdlofkmcdalaaadoor", sum := "9cd9e1de55d818fd2b36aeccd86ce89b66b8abfaf675a1d3a9ae1c7c5431f0b6", func := "boxhedge/boxhedgelaw01.WrapTwo", spec := "wrapTwo", named := ["boxhedge/wrap.rows"], apart := false, laid := [("boxhedge/wrap.rows", laid_boxhedge_wrap_rows)], narrowed := true }
def WrapTwoUptoSaid : Prop := wrapTwoUptoRow.holds Tryd.pinned (OpenSpec.upto wrapTwoSpec)

/-- 'boxhedgelaw01.WrapSmall', WHERE WHAT IT READS IS OF BULK AT MOST 1048576: true; the input reads as it did. -/
def wrapSmallUptoRow : OpenClaim := { program := "ytbdlofkmcdalaaadoor", sum := "9cd9e1de55d818fd2b36aeccd86ce89b66b8abfaf675a1d3a9ae1c7c5431f0b6", func := "boxhedge/boxhedgelaw01.WrapSmall", spec := "wrapSmall", named := ["boxhedge/wrap.rows"], apart := false, laid := [("boxhedge/wrap.rows", laid_boxhedge_wrap_rows)], narrowed := true }
def WrapSmallUptoSaid : Prop := wrapSmallUptoRow.holds Tryd.pinned (OpenSpec.upto wrapSmallSpec)

/-- 'boxhedgelaw01.WrapOne', WHERE WHAT IT READS IS OF BULK AT MOST 1048576: true; the input reads as it did. -/
def wrapOneUptoRow : OpenClaim := { program := "ytbdlofkmcdalaaadoor", sum := "9cd9e1de55d818fd2b36aeccd86ce89b66b8abfaf675a1d3a9ae1c7c5431f0b6", func := "boxhedge/boxhedgelaw01.WrapOne", spec := "wrapOne", named := ["boxhedge/wrap.rows"], apart := false, laid := [("boxhedge/wrap.rows", laid_boxhedge_wrap_rows)], narrowed := true }
def WrapOneUptoSaid : Prop := wrapOneUptoRow.holds Tryd.pinned (OpenSpec.upto wrapOneSpec)

/-- 'boxhedgelaw01.WrapSigns', WHERE WHAT IT READS IS OF BULK AT MOST 1048576: true; the input reads as it did. -/
def wrapSignsUptoRow : OpenClaim := { program := "ytbdlofkmcdalaaadoor", sum := "9cd9e1de55d818fd2b36aeccd86ce89b66b8abfaf675a1d3a9ae1c7c5431f0b6", func := "boxhedge/boxhedgelaw01.WrapSigns", spec := "wrapSigns", named := ["boxhedge/wrap.rows"], apart := false, laid := [("boxhedge/wrap.rows", laid_boxhedge_wrap_rows)], narrowed := true }
def WrapSignsUptoSaid : Prop := wrapSignsUptoRow.holds Tryd.pinned (OpenSpec.upto wrapSignsSpec)

/-- 'boxhedgelaw01.WrapDivides', WHERE WHAT IT READS IS OF BULK AT MOST 1048576: true; the input reads as it did. -/
def wrapDividesUptoRow : OpenClaim := { program := "ytbdlofkmcdalaaadoor", sum := "9cd9e1de55d818fd2b36aeccd86ce89b66b8abfaf675a1d3a9ae1c7c5431f0b6", func := "boxhedge/boxhedgelaw01.WrapDivides", spec := "wrapDivides", named := ["boxhedge/wrap.rows"], apart := false, laid := [("boxhedge/wrap.rows", laid_boxhedge_wrap_rows)], narrowed := true }
def WrapDividesUptoSaid : Prop := wrapDividesUptoRow.holds Tryd.pinned (OpenSpec.upto wrapDividesSpec)

/-- 'boxhedgelaw01.WrapConverts', WHERE WHAT IT READS IS OF BULK AT MOST 1048576: true; the input reads as it did. -/
def wrapConvertsUptoRow : OpenClaim := { program := "ytbdlofkmcdalaaadoor", sum := "9cd9e1de55d818fd2b36aeccd86ce89b66b8abfaf675a1d3a9ae1c7c5431f0b6", func := "boxhedge/boxhedgelaw01.WrapConverts", spec := "wrapConverts", named := ["boxhedge/wrap.rows"], apart := false, laid := [("boxhedge/wrap.rows", laid_boxhedge_wrap_rows)], narrowed := true }
def WrapConvertsUptoSaid : Prop := wrapConvertsUptoRow.holds Tryd.pinned (OpenSpec.upto wrapConvertsSpec)

/-- 'boxhedgelaw01.WrapMoves', WHERE WHAT IT READS IS OF BULK AT MOST 1048576: true; the input reads as it did. -/
def wrapMovesUptoRow : OpenClaim := { program := "ytbdlofkmcdalaaadoor", sum := "9cd9e1de55d818fd2b36aeccd86ce89b66b8abfaf675a1d3a9ae1c7c5431f0b6", func := "boxhedge/boxhedgelaw01.WrapMoves", spec := "wrapMoves", named := ["boxhedge/wrap.rows"], apart := false, laid := [("boxhedge/wrap.rows", laid_boxhedge_wrap_rows)], narrowed := true }
def WrapMovesUptoSaid : Prop := wrapMovesUptoRow.holds Tryd.pinned (OpenSpec.upto wrapMovesSpec)

/-- 'boxhedgelaw01.WrapOrder', WHERE WHAT IT READS IS OF BULK AT MOST 1048576: true; the input reads as it did. -/
def wrapOrderUptoRow : OpenClaim := { program := "ytbdlofkmcdalaaadoor", sum := "9cd9e1de55d818fd2b36aeccd86ce89b66b8abfaf675a1d3a9ae1c7c5431f0b6", func := "boxhedge/boxhedgelaw01.WrapOrder", spec := "wrapOrder", named := ["boxhedge/wrap.rows"], apart := false, laid := [("boxhedge/wrap.rows", laid_boxhedge_wrap_rows)], narrowed := true }
def WrapOrderUptoSaid : Prop := wrapOrderUptoRow.holds Tryd.pinned (OpenSpec.upto wrapOrderSpec)

end Rows
end Go.Proofs.YtbdlofkmcdalaaaDoor
