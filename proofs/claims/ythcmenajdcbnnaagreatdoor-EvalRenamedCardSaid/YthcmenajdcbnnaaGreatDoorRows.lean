/-
  NARROWER THAN 'FOR EVERY INPUT', by the rows' own cells (each row's printed sentence says how): EvalBodies: laid · EvalGood: laid · EvalTwo: laid · EvalMore: laid · EvalReads: laid · EvalRenamed: laid · EvalLoops: laid · EvalShorts: laid · EvalArrays: laid · EvalCalls: laid.
  DERIVED. THE GIVEN ROWS OF THIS SEAT. 10 by the template 'for every input the law returns true; each argument reads behind the call as it read before'; 0 by the template 'total and deterministic' (their statements: YthcmenajdcbnnaaGreatDoorTotals.lean).
  GIVEN WITH THE SEED: the statements are not yours to turn. If you find one false, say at which input.
  Laid BY PROGRAM, IN A SANDBOX (cutbox-rows.mjs): the forced cells as the released guide's own fill.sh prints them over the translation c59073c95c18feca… (all of the seat's roots in one cut). By AI agents, Wed Nov 11 2026. No macro, syntax, notation, axiom, sorry.
-/
import Derived.Test.YthcmenajdcbnnaaGreatDoorChecked
import GoSem.Claim
import GoSem.ClaimJoined
import GoSem.ClaimMapViews
import Derived.JoinedTies
import Derived.KernelRfl
namespace Go.Proofs.YthcmenajdcbnnaaGreatDoor
/- THE CELL 'sum', in the pinned program and in every row, IS THE sha256 OF THE DUMP (.gsa) THAT YthcmenajdcbnnaaGreatDoorProg.lean LOADS. Nothing in Lean hashes anything: it is a label: what it is worth is what the hold of that sum in a sandbox is worth. -/
noncomputable def Tryz.pinned : Pinned := { name := "ythcmenajdcbnnaagreatdoor", sum := "c59073c95c18fecac433ffc63d27be13d86096878723d2831ad6a8c42791e207", checked := Tryz.checked }
namespace Rows
def none {H : Type} : Left H := { results := [], args := [] }

/- WHAT THE LISTED PACKAGE-LEVEL VARIABLES READ AS WHEN THE CALL BEGINS. Each datum BY PROGRAM (the guide's laid-datum.mjs) off the statement by which the dump's own 'gosem.cut.vars' lays the variable. In a bare row this is a premise. The card (YthcmenajdcbnnaaGreatDoorCards.lean) ties it to the program's text. -/
def laid_boxhedge_wrap_rows {H : Type} : DataW H := .agg [.agg [.lit (.string []), .lit (.int .i64 0)], .agg [.lit (.string [43]), .lit (.int .i64 9)], .agg [.lit (.string [45]), .lit (.int .i64 9)], .agg [.lit (.string [42]), .lit (.int .i64 10)], .agg [.lit (.string [47]), .lit (.int .i64 10)], .agg [.lit (.string [37]), .lit (.int .i64 10)], .agg [.lit (.string [38]), .lit (.int .i64 5)], .agg [.lit (.string [124]), .lit (.int .i64 3)], .agg [.lit (.string [94]), .lit (.int .i64 4)], .agg [.lit (.string [60, 60]), .lit (.int .i64 8)], .agg [.lit (.string [62, 62]), .lit (.int .i64 8)], .agg [.lit (.string [62, 62, 62]), .lit (.int .i64 8)], .agg [.lit (.string [60]), .lit (.int .i64 7)], .agg [.lit (.string [60, 61]), .lit (.int .i64 7)], .agg [.lit (.string [62]), .lit (.int .i64 7)], .agg [.lit (.string [62, 61]), .lit (.int .i64 7)], .agg [.lit (.string [61, 61]), .lit (.int .i64 6)], .agg [.lit (.string [33, 61]), .lit (.int .i64 6)], .agg [.lit (.string [38, 38]), .lit (.int .i64 2)], .agg [.lit (.string [124, 124]), .lit (.int .i64 1)], .agg [.lit (.string [45]), .lit (.int .i64 0)], .agg [.lit (.string [126]), .lit (.int .i64 0)], .agg [.lit (.string [33]), .lit (.int .i64 0)], .agg [.lit (.string [105, 56]), .lit (.int .i64 0)], .agg [.lit (.string [105, 49, 54]), .lit (.int .i64 0)], .agg [.lit (.string [105, 51, 50]), .lit (.int .i64 0)], .agg [.lit (.string [117, 56]), .lit (.int .i64 0)], .agg [.lit (.string [117, 49, 54]), .lit (.int .i64 0)], .agg [.lit (.string [117, 51, 50]), .lit (.int .i64 0)]]

/-- 'boxhedgelaw07.EvalBodies': WHATEVER THE INPUT: true; the input reads as it did. -/
def evalBodiesSpec : ChangeSpec := { name := "evalBodies", fn := fun _ => fun
  | [d1, d2, d3] => { results := [.lit (.bool true)], args := [d1, d2, d3] }
  | _ => none }
def evalBodiesRow : OpenClaim := { program := "ythcmenajdcbnnaagreatdoor", sum := "c59073c95c18fecac433ffc63d27be13d86096878723d2831ad6a8c42791e207", func := "boxhedge/boxhedgelaw07.EvalBodies", spec := "evalBodies", inPlace := ["maps.clone"], unfollowed := true, recurses := true, named := ["boxhedge/wrap.rows"], apart := false, laid := [("boxhedge/wrap.rows", laid_boxhedge_wrap_rows)] }
def EvalBodiesSaid : Prop := evalBodiesRow.holds Tryz.pinned (OpenSpec.ofChange evalBodiesSpec)

/-- ITS FALSE NEIGHBOUR: 'it returns false'. Refute it at one input. -/
def evalBodiesWrong : ChangeSpec := { name := "evalBodies", fn := fun _ => fun
  | [d1, d2, d3] => { results := [.lit (.bool false)], args := [d1, d2, d3] }
  | _ => none }
def EvalBodiesWrongFalsely : Prop := evalBodiesRow.holds Tryz.pinned (OpenSpec.ofChange evalBodiesWrong)

/-- 'boxhedgelaw07.EvalGood': WHATEVER THE INPUT: true; the input reads as it did. -/
def evalGoodSpec : ChangeSpec := { name := "evalGood", fn := fun _ => fun
  | [d1, d2, d3] => { results := [.lit (.bool true)], args := [d1, d2, d3] }
  | _ => none }
def evalGoodRow : OpenClaim := { program := "ythcmenajdcbnnaagreatdoor", sum := "c59073c95c18fecac433ffc63d27be13d86096878723d2831ad6a8c42791e207", func := "boxhedge/boxhedgelaw07.EvalGood", spec := "evalGood", inPlace := ["maps.clone"], unfollowed := true, recurses := true, named := ["boxhedge/wrap.rows"], apart := false, laid := [("boxhedge/wrap.rows", laid_boxhedge_wrap_rows)] }
def EvalGoodSaid : Prop := evalGoodRow.holds Tryz.pinned (OpenSpec.ofChange evalGoodSpec)

/-- ITS FALSE NEIGHBOUR: 'it returns false'. Refute it at one input. -/
def evalGoodWrong : ChangeSpec := { name := "evalGood", fn := fun _ => fun
  | [d1, d2, d3] => { results := [.lit (.bool false)], args := [d1, d2, d3] }
  | _ => none }
def EvalGoodWrongFalsely : Prop := evalGoodRow.holds Tryz.pinned (OpenSpec.ofChange evalGoodWrong)

/-- 'boxhedgelaw07.EvalTwo': WHATEVER THE INPUT: true; the input reads as it did. -/
def evalTwoSpec : ChangeSpec := { name := "evalTwo", fn := fun _ => fun
  | [d1, d2, d3] => { results := [.lit (.bool true)], args := [d1, d2, d3] }
  | _ => none }
def evalTwoRow : OpenClaim := { program := "ythcmenajdcbnnaagreatdoor", sum := "c59073c95c18fecac433ffc63d27be13d86096878723d2831ad6a8c42791e207", func := "boxhedge/boxhedgelaw07.EvalTwo", spec := "evalTwo", inPlace := ["maps.clone"], unfollowed := true, recurses := true, named := ["boxhedge/wrap.rows"], apart := false, laid := [("boxhedge/wrap.rows", laid_boxhedge_wrap_rows)] }
def EvalTwoSaid : Prop := evalTwoRow.holds Tryz.pinned (OpenSpec.ofChange evalTwoSpec)

/-- ITS FALSE NEIGHBOUR: 'it returns false'. Refute it at one input. -/
def evalTwoWrong : ChangeSpec := { name := "evalTwo", fn := fun _ => fun
  | [d1, d2, d3] => { results := [.lit (.bool false)], args := [d1, d2, d3] }
  | _ => none }
def EvalTwoWrongFalsely : Prop := evalTwoRow.holds Tryz.pinned (OpenSpec.ofChange evalTwoWrong)

/-- 'boxhedgelaw07.EvalMore': WHATEVER THE INPUT: true; the input reads as it did. -/
def evalMoreSpec : ChangeSpec := { name := "evalMore", fn := fun _ => fun
  | [d1, d2, d3, d4] => { results := [.lit (.bool true)], args := [d1, d2, d3, d4] }
  | _ => none }
def evalMoreRow : OpenClaim := { program := "ythcmenajdcbnnaagreatdoor", sum := "c59073c95c18fecac433ffc63d27be13d86096878723d2831ad6a8c42791e207", func := "boxhedge/boxhedgelaw07.EvalMore", spec := "evalMore", inPlace := ["maps.clone"], unfollowed := true, recurses := true, named := ["boxhedge/wrap.rows"], apart := false, laid := [("boxhedge/wrap.rows", laid_boxhedge_wrap_rows)] }
def EvalMoreSaid : Prop := evalMoreRow.holds Tryz.pinned (OpenSpec.ofChange evalMoreSpec)

/-- ITS FALSE NEIGHBOUR: 'it returns false'. Refute it at one input. -/
def evalMoreWrong : ChangeSpec := { name := "evalMore", fn := fun _ => fun
  | [d1, d2, d3, d4] => { results := [.lit (.bool false)], args := [d1, d2, d3, d4] }
  | _ => none }
def EvalMoreWrongFalsely : Prop := evalMoreRow.holds Tryz.pinned (OpenSpec.ofChange evalMoreWrong)

/-- 'boxhedgelaw07.EvalReads': WHATEVER THE INPUT: true; the input reads as it did. -/
def evalReadsSpec : ChangeSpec := { name := "evalReads", fn := fun _ => fun
  | [d1, d2, d3, d4] => { results := [.lit (.bool true)], args := [d1, d2, d3, d4] }
  | _ => none }
def evalReadsRow : OpenClaim := { program := "ythcmenajdcbnnaagreatdoor", sum := "c59073c95c18fecac433ffc63d27be13d86096878723d2831ad6a8c42791e207", func := "boxhedge/boxhedgelaw07.EvalReads", spec := "evalReads", inPlace := ["maps.clone"], unfollowed := true, recurses := true, named := ["boxhedge/wrap.rows"], apart := false, laid := [("boxhedge/wrap.rows", laid_boxhedge_wrap_rows)] }
def EvalReadsSaid : Prop := evalReadsRow.holds Tryz.pinned (OpenSpec.ofChange evalReadsSpec)

/-- ITS FALSE NEIGHBOUR: 'it returns false'. Refute it at one input. -/
def evalReadsWrong : ChangeSpec := { name := "evalReads", fn := fun _ => fun
  | [d1, d2, d3, d4] => { results := [.lit (.bool false)], args := [d1, d2, d3, d4] }
  | _ => none }
def EvalReadsWrongFalsely : Prop := evalReadsRow.holds Tryz.pinned (OpenSpec.ofChange evalReadsWrong)

/-- 'boxhedgelaw07.EvalRenamed': WHATEVER THE INPUT: true; the input reads as it did. -/
def evalRenamedSpec : ChangeSpec := { name := "evalRenamed", fn := fun _ => fun
  | [d1, d2, d3] => { results := [.lit (.bool true)], args := [d1, d2, d3] }
  | _ => none }
def evalRenamedRow : OpenClaim := { program := "ythcmenajdcbnnaagreatdoor", sum := "c59073c95c18fecac433ffc63d27be13d86096878723d2831ad6a8c42791e207", func := "boxhedge/boxhedgelaw07.EvalRenamed", spec := "evalRenamed", inPlace := ["maps.clone"], unfollowed := true, recurses := true, named := ["boxhedge/wrap.rows"], apart := false, laid := [("boxhedge/wrap.rows", laid_boxhedge_wrap_rows)] }
def EvalRenamedSaid : Prop := evalRenamedRow.holds Tryz.pinned (OpenSpec.ofChange evalRenamedSpec)

/-- ITS FALSE NEIGHBOUR: 'it returns false'. Refute it at one input. -/
def evalRenamedWrong : ChangeSpec := { name := "evalRenamed", fn := fun _ => fun
  | [d1, d2, d3] => { results := [.lit (.bool false)], args := [d1, d2, d3] }
  | _ => none }
def EvalRenamedWrongFalsely : Prop := evalRenamedRow.holds Tryz.pinned (OpenSpec.ofChange evalRenamedWrong)

/-- 'boxhedgelaw07.EvalLoops': WHATEVER THE INPUT: true; the input reads as it did. -/
def evalLoopsSpec : ChangeSpec := { name := "evalLoops", fn := fun _ => fun
  | [d1, d2, d3] => { results := [.lit (.bool true)], args := [d1, d2, d3] }
  | _ => none }
def evalLoopsRow : OpenClaim := { program := "ythcmenajdcbnnaagreatdoor", sum := "c59073c95c18fecac433ffc63d27be13d86096878723d2831ad6a8c42791e207", func := "boxhedge/boxhedgelaw07.EvalLoops", spec := "evalLoops", inPlace := ["maps.clone"], unfollowed := true, recurses := true, named := ["boxhedge/wrap.rows"], apart := false, laid := [("boxhedge/wrap.rows", laid_boxhedge_wrap_rows)] }
def EvalLoopsSaid : Prop := evalLoopsRow.holds Tryz.pinned (OpenSpec.ofChange evalLoopsSpec)

/-- ITS FALSE NEIGHBOUR: 'it returns false'. Refute it at one input. -/
def evalLoopsWrong : ChangeSpec := { name := "evalLoops", fn := fun _ => fun
  | [d1, d2, d3] => { results := [.lit (.bool false)], args := [d1, d2, d3] }
  | _ => none }
def EvalLoopsWrongFalsely : Prop := evalLoopsRow.holds Tryz.pinned (OpenSpec.ofChange evalLoopsWrong)

/-- 'boxhedgelaw07.EvalShorts': WHATEVER THE INPUT: true; the input reads as it did. -/
def evalShortsSpec : ChangeSpec := { name := "evalShorts", fn := fun _ => fun
  | [d1, d2, d3] => { results := [.lit (.bool true)], args := [d1, d2, d3] }
  | _ => none }
def evalShortsRow : OpenClaim := { program := "ythcmenajdcbnnaagreatdoor", sum := "c59073c95c18fecac433ffc63d27be13d86096878723d2831ad6a8c42791e207", func := "boxhedge/boxhedgelaw07.EvalShorts", spec := "evalShorts", inPlace := ["maps.clone"], unfollowed := true, recurses := true, named := ["boxhedge/wrap.rows"], apart := false, laid := [("boxhedge/wrap.rows", laid_boxhedge_wrap_rows)] }
def EvalShortsSaid : Prop := evalShortsRow.holds Tryz.pinned (OpenSpec.ofChange evalShortsSpec)

/-- ITS FALSE NEIGHBOUR: 'it returns false'. Refute it at one input. -/
def evalShortsWrong : ChangeSpec := { name := "evalShorts", fn := fun _ => fun
  | [d1, d2, d3] => { results := [.lit (.bool false)], args := [d1, d2, d3] }
  | _ => none }
def EvalShortsWrongFalsely : Prop := evalShortsRow.holds Tryz.pinned (OpenSpec.ofChange evalShortsWrong)

/-- 'boxhedgelaw07.EvalArrays': WHATEVER THE INPUT: true; the input reads as it did. -/
def evalArraysSpec : ChangeSpec := { name := "evalArrays", fn := fun _ => fun
  | [d1, d2, d3] => { results := [.lit (.bool true)], args := [d1, d2, d3] }
  | _ => none }
def evalArraysRow : OpenClaim := { program := "ythcmenajdcbnnaagreatdoor", sum := "c59073c95c18fecac433ffc63d27be13d86096878723d2831ad6a8c42791e207", func := "boxhedge/boxhedgelaw07.EvalArrays", spec := "evalArrays", inPlace := ["maps.clone"], unfollowed := true, recurses := true, named := ["boxhedge/wrap.rows"], apart := false, laid := [("boxhedge/wrap.rows", laid_boxhedge_wrap_rows)] }
def EvalArraysSaid : Prop := evalArraysRow.holds Tryz.pinned (OpenSpec.ofChange evalArraysSpec)

/-- ITS FALSE NEIGHBOUR: 'it returns false'. Refute it at one input. -/
def evalArraysWrong : ChangeSpec := { name := "evalArrays", fn := fun _ => fun
  | [d1, d2, d3] => { results := [.lit (.bool false)], args := [d1, d2, d3] }
  | _ => none }
def EvalArraysWrongFalsely : Prop := evalArraysRow.holds Tryz.pinned (OpenSpec.ofChange evalArraysWrong)

/-- 'boxhedgelaw07.EvalCalls': WHATEVER THE INPUT: true; the input reads as it did. -/
def evalCallsSpec : ChangeSpec := { name := "evalCalls", fn := fun _ => fun
  | [d1, d2, d3] => { results := [.lit (.bool true)], args := [d1, d2, d3] }
  | _ => none }
def evalCallsRow : OpenClaim := { program := "ythcmenajdcbnnaagreatdoor", sum := "c59073c95c18fecac433ffc63d27be13d86096878723d2831ad6a8c42791e207", func := "boxhedge/boxhedgelaw07.EvalCalls", spec := "evalCalls", inPlace := ["maps.clone"], unfollowed := true, recurses := true, named := ["boxhedge/wrap.rows"], apart := false, laid := [("boxhedge/wrap.rows", laid_boxhedge_wrap_rows)] }
def EvalCallsSaid : Prop := evalCallsRow.holds Tryz.pinned (OpenSpec.ofChange evalCallsSpec)

/-- ITS FALSE NEIGHBOUR: 'it returns false'. Refute it at one input. -/
def evalCallsWrong : ChangeSpec := { name := "evalCalls", fn := fun _ => fun
  | [d1, d2, d3] => { results := [.lit (.bool false)], args := [d1, d2, d3] }
  | _ => none }
def EvalCallsWrongFalsely : Prop := evalCallsRow.holds Tryz.pinned (OpenSpec.ofChange evalCallsWrong)

/- THE SECOND FORM. 'bulk': how many values and letters a reading holds, each counted each time it is reached (what is shared counts as often as it is met; a slice's spare places count too). A statement '..UptoSaid' is the law's where the arguments, and the package variables that the reading takes, are together of bulk at most 1048576: NARROWER than '..Said'. Prove '..Said' where nothing that the law and all that it calls make is longer than what came in: it says more and counts as full. Else prove '..UptoSaid'. A law counts once. -/
mutual
def uptoBulk {H : Type} : DataW H → Nat
  | .lit (.string bytes) => bytes.length + 1
  | .lit _ => 1
  | .nil => 1
  | .ptr d => uptoBulk d + 1
  | .slice elems spare => uptoBulkAll elems + uptoBulkAll spare + 1
  | .agg parts => uptoBulkAll parts + 1
  | .iface _ d => uptoBulk d + 1
  | .map entries => uptoBulkEntries entries + 1
  | .held _ => 1
def uptoBulkAll {H : Type} : List (DataW H) → Nat
  | [] => 0
  | d :: r => uptoBulk d + uptoBulkAll r
def uptoBulkEntries {H : Type} : List (Lit × DataW H) → Nat
  | [] => 0
  | x :: r => uptoBulkEntry x + uptoBulkEntries r
def uptoBulkEntry {H : Type} : Lit × DataW H → Nat
  | (.string bytes, d) => bytes.length + uptoBulk d + 1
  | (_, d) => uptoBulk d + 1
 end
def uptoSmall : (H : Type) → List (DataW H) → Bool := fun _ ds => decide (uptoBulkAll ds ≤ 1048576)
def OpenSpec.upto (s : _root_.Go.ChangeSpec) : _root_.Go.OpenSpec := { _root_.Go.OpenSpec.ofChange s with cond := some uptoSmall }

/-- 'boxhedgelaw07.EvalBodies', WHERE WHAT IT READS IS OF BULK AT MOST 1048576: true; the input reads as it did. -/
def evalBodiesUptoRow : OpenClaim := { program := "ythcmenajdcbnnaagreatdoor", sum := "c59073c95c18fecac433ffc63d27be13d86096878723d2831ad6a8c42791e207", func := "boxhedge/boxhedgelaw07.EvalBodies", spec := "evalBodies", inPlace := ["maps.clone"], unfollowed := true, recurses := true, named := ["boxhedge/wrap.rows"], apart := false, laid := [("boxhedge/wrap.rows", laid_boxhedge_wrap_rows)], narrowed := true }
def EvalBodiesUptoSaid : Prop := evalBodiesUptoRow.holds Tryz.pinned (OpenSpec.upto evalBodiesSpec)

/-- 'boxhedgelaw07.EvalGood', WHERE WHAT IT READS IS OF BULK AT MOST 1048576: true; the input reads as it did. -/
def evalGoodUptoRow : OpenClaim := { program := "ythcmenajdcbnnaagreatdoor", sum := "c59073c95c18fecac433ffc63d27be13d86096878723d2831ad6a8c42791e207", func := "boxhedge/boxhedgelaw07.EvalGood", spec := "evalGood", inPlace := ["maps.clone"], unfollowed := true, recurses := true, named := ["boxhedge/wrap.rows"], apart := false, laid := [("boxhedge/wrap.rows", laid_boxhedge_wrap_rows)], narrowed := true }
def EvalGoodUptoSaid : Prop := evalGoodUptoRow.holds Tryz.pinned (OpenSpec.upto evalGoodSpec)

/-- 'boxhedgelaw07.EvalTwo', WHERE WHAT IT READS IS OF BULK AT MOST 1048576: true; the input reads as it did. -/
def evalTwoUptoRow : OpenClaim := { program := "ythcmenajdcbnnaagreatdoor", sum := "c59073c95c18fecac433ffc63d27be13d86096878723d2831ad6a8c42791e207", func := "boxhedge/boxhedgelaw07.EvalTwo", spec := "evalTwo", inPlace := ["maps.clone"], unfollowed := true, recurses := true, named := ["boxhedge/wrap.rows"], apart := false, laid := [("boxhedge/wrap.rows", laid_boxhedge_wrap_rows)], narrowed := true }
def EvalTwoUptoSaid : Prop := evalTwoUptoRow.holds Tryz.pinned (OpenSpec.upto evalTwoSpec)

/-- 'boxhedgelaw07.EvalMore', WHERE WHAT IT READS IS OF BULK AT MOST 1048576: true; the input reads as it did. -/
def evalMoreUptoRow : OpenClaim := { program := "ythcmenajdcbnnaagreatdoor", sum := "c59073c95c18fecac433ffc63d27be13d86096878723d2831ad6a8c42791e207", func := "boxhedge/boxhedgelaw07.EvalMore", spec := "evalMore", inPlace := ["maps.clone"], unfollowed := true, recurses := true, named := ["boxhedge/wrap.rows"], apart := false, laid := [("boxhedge/wrap.rows", laid_boxhedge_wrap_rows)], narrowed := true }
def EvalMoreUptoSaid : Prop := evalMoreUptoRow.holds Tryz.pinned (OpenSpec.upto evalMoreSpec)

/-- 'boxhedgelaw07.EvalReads', WHERE WHAT IT READS IS OF BULK AT MOST 1048576: true; the input reads as it did. -/
def evalReadsUptoRow : OpenClaim := { program := "ythcmenajdcbnnaagreatdoor", sum := "c59073c95c18fecac433ffc63d27be13d86096878723d2831ad6a8c42791e207", func := "boxhedge/boxhedgelaw07.EvalReads", spec := "evalReads", inPlace := ["maps.clone"], unfollowed := true, recurses := true, named := ["boxhedge/wrap.rows"], apart := false, laid := [("boxhedge/wrap.rows", laid_boxhedge_wrap_rows)], narrowed := true }
def EvalReadsUptoSaid : Prop := evalReadsUptoRow.holds Tryz.pinned (OpenSpec.upto evalReadsSpec)

/-- 'boxhedgelaw07.EvalRenamed', WHERE WHAT IT READS IS OF BULK AT MOST 1048576: true; the input reads as it did. -/
def evalRenamedUptoRow : OpenClaim := { program := "ythcmenajdcbnnaagreatdoor", sum := "c59073c95c18fecac433ffc63d27be13d86096878723d2831ad6a8c42791e207", func := "boxhedge/boxhedgelaw07.EvalRenamed", spec := "evalRenamed", inPlace := ["maps.clone"], unfollowed := true, recurses := true, named := ["boxhedge/wrap.rows"], apart := false, laid := [("boxhedge/wrap.rows", laid_boxhedge_wrap_rows)], narrowed := true }
def EvalRenamedUptoSaid : Prop := evalRenamedUptoRow.holds Tryz.pinned (OpenSpec.upto evalRenamedSpec)

/-- 'boxhedgelaw07.EvalLoops', WHERE WHAT IT READS IS OF BULK AT MOST 1048576: true; the input reads as it did. -/
def evalLoopsUptoRow : OpenClaim := { program := "ythcmenajdcbnnaagreatdoor", sum := "c59073c95c18fecac433ffc63d27be13d86096878723d2831ad6a8c42791e207", func := "boxhedge/boxhedgelaw07.EvalLoops", spec := "evalLoops", inPlace := ["maps.clone"], unfollowed := true, recurses := true, named := ["boxhedge/wrap.rows"], apart := false, laid := [("boxhedge/wrap.rows", laid_boxhedge_wrap_rows)], narrowed := true }
def EvalLoopsUptoSaid : Prop := evalLoopsUptoRow.holds Tryz.pinned (OpenSpec.upto evalLoopsSpec)

/-- 'boxhedgelaw07.EvalShorts', WHERE WHAT IT READS IS OF BULK AT MOST 1048576: true; the input reads as it did. -/
def evalShortsUptoRow : OpenClaim := { program := "ythcmenajdcbnnaagreatdoor", sum := "c59073c95c18fecac433ffc63d27be13d86096878723d2831ad6a8c42791e207", func := "boxhedge/boxhedgelaw07.EvalShorts", spec := "evalShorts", inPlace := ["maps.clone"], unfollowed := true, recurses := true, named := ["boxhedge/wrap.rows"], apart := false, laid := [("boxhedge/wrap.rows", laid_boxhedge_wrap_rows)], narrowed := true }
def EvalShortsUptoSaid : Prop := evalShortsUptoRow.holds Tryz.pinned (OpenSpec.upto evalShortsSpec)

/-- 'boxhedgelaw07.EvalArrays', WHERE WHAT IT READS IS OF BULK AT MOST 1048576: true; the input reads as it did. -/
def evalArraysUptoRow : OpenClaim := { program := "ythcmenajdcbnnaagreatdoor", sum := "c59073c95c18fecac433ffc63d27be13d86096878723d2831ad6a8c42791e207", func := "boxhedge/boxhedgelaw07.EvalArrays", spec := "evalArrays", inPlace := ["maps.clone"], unfollowed := true, recurses := true, named := ["boxhedge/wrap.rows"], apart := false, laid := [("boxhedge/wrap.rows", laid_boxhedge_wrap_rows)], narrowed := true }
def EvalArraysUptoSaid : Prop := evalArraysUptoRow.holds Tryz.pinned (OpenSpec.upto evalArraysSpec)

/-- 'boxhedgelaw07.EvalCalls', WHERE WHAT IT READS IS OF BULK AT MOST 1048576: true; the input reads as it did. -/
def evalCallsUptoRow : OpenClaim := { program := "ythcmenajdcbnnaagreatdoor", sum := "c59073c95c18fecac433ffc63d27be13d86096878723d2831ad6a8c42791e207", func := "boxhedge/boxhedgelaw07.EvalCalls", spec := "evalCalls", inPlace := ["maps.clone"], unfollowed := true, recurses := true, named := ["boxhedge/wrap.rows"], apart := false, laid := [("boxhedge/wrap.rows", laid_boxhedge_wrap_rows)], narrowed := true }
def EvalCallsUptoSaid : Prop := evalCallsUptoRow.holds Tryz.pinned (OpenSpec.upto evalCallsSpec)

end Rows
end Go.Proofs.YthcmenajdcbnnaaGreatDoor
