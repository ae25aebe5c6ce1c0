/- From the row's condition that wrap.rows reads as the program's text lays it to what the walks ask (Tab); the door's own heap meets it. -/
import Derived.Test.YtbdlofkmcdalaaaDoorRows
import Derived.Test.YtbdlofkmcdalaaaDoorWrapTab
import Derived.ProofKit
import Derived.LaidMore
import Derived.OpenShut
namespace Go.Proofs.YtbdlofkmcdalaaaDoor
open Go.ChangeShapes Go.WideShapes Go.ChangeAt Go.RowKit
theorem own : ownKnob Tryd.prog.godebug = none := by kernel_rfl
abbrev laidRows : List (String × DataW Unit) := [("boxhedge/wrap.rows", Rows.laid_boxhedge_wrap_rows)]
theorem gRows : Tryd.prog.globalNamed "boxhedge/wrap.rows" = some 0 := by kernel_rfl
theorem tRows : (Tryd.prog.globals[0]?).map (·.type) = some 47 := by kernel_rfl
theorem cellsRow : Tryd.prog.cellsOf 42 = 2 := by kernel_rfl
theorem cellsStr : Tryd.prog.cellsOf 9 = 1 := by kernel_rfl
theorem cellsInt : Tryd.prog.cellsOf 3 = 1 := by kernel_rfl
theorem toList_inj {s : ByteArray} {l : List UInt8} (h : s.data.toList = l) : s = ⟨l.toArray⟩ := by
  subst h
  cases s
  simp
/-- One row of the table, off its two cells. -/
theorem row_cells {W : World} {fuel : Nat} {cs : List Value} {b : List UInt8} {n : Int} {p : List MemPlace}
    (h : DataW.trod (fun _ => ()) Tryd.prog W 0 (fun _ => true) false fuel 42 cs = some (.agg [.lit (.string b), .lit (.int .i64 n)], p)) :
    cs[0]? = some (.string ⟨b.toArray⟩) ∧ cs[1]? = some (.int .i64 n) := by
  obtain ⟨y0, y1, m, hx, hl, h0, h1⟩ := trod_struct2 Tryd.underlying42 h
  rw [cellsStr] at h0
  rw [cellsInt] at h1
  obtain ⟨s, e1, e2, _⟩ := DataW.trod_string Tryd.underlying9 h0
  obtain ⟨k, e3, e4, _⟩ := DataW.trod_int Tryd.underlying3 h1
  subst e2 e4
  simp only [Prod.mk.injEq, DataW.agg.injEq, List.cons.injEq, DataW.lit.injEq, Lit.string.injEq, Lit.int.injEq, true_and, and_true] at hx
  obtain ⟨⟨hs, hk⟩, _⟩ := hx
  rw [cellsRow] at hl
  match cs, hl with
  | [c0, c1], _ =>
    simp at e1 e3
    subst e1 e3 hk
    refine ⟨?_, rfl⟩
    rw [toList_inj hs.symm]
    rfl
theorem tab_of_laid {W : World} (h : laidMetH Tryd.prog laidRows W) : Tab W := by
  rw [MakeChecks.laidMetH_plain _ _ _ (by kernel_rfl)] at h
  obtain ⟨ps, ⟨g0, t0, cs0, f0, p0, q0, hg0, ht0, hv0, hd0, _, _⟩, _, _⟩ := h
  obtain rfl := Option.some.inj (gRows.symm.trans hg0)
  obtain rfl := Option.some.inj (tRows.symm.trans ht0)
  obtain ⟨xs, m1, rfl, hx1, hlen, hn, hel⟩ := DataW.trod_array Tryd.underlying47 hd0
  intro k hk
  have hcell : ∀ j, W.cell? ⟨0, j, none⟩ = cs0.toList[j]? := by
    intro j
    have := World.var?_cell hg0 hv0 j
    simpa using this
  have h1 := hel k (by omega)
  rw [cellsRow] at h1
  have hxs : (xs.map (·.1))[k]? = some (.agg [.lit (.string (sgnL.getD k [])), .lit (.int .i64 (lvlL.getD k 0))]) := by
    have hx1' := congrArg Prod.fst hx1
    unfold Rows.laid_boxhedge_wrap_rows at hx1'
    simp only [DataW.agg.injEq] at hx1'
    rw [← hx1']
    obtain rfl | rfl | rfl | rfl | rfl | rfl | rfl | rfl | rfl | rfl | rfl | rfl | rfl | rfl | rfl | rfl | rfl | rfl | rfl | rfl | rfl | rfl | rfl | rfl | rfl | rfl | rfl | rfl | rfl : k = 0 ∨ k = 1 ∨ k = 2 ∨ k = 3 ∨ k = 4 ∨ k = 5 ∨ k = 6 ∨ k = 7 ∨ k = 8 ∨ k = 9 ∨ k = 10 ∨ k = 11 ∨ k = 12 ∨ k = 13 ∨ k = 14 ∨ k = 15 ∨ k = 16 ∨ k = 17 ∨ k = 18 ∨ k = 19 ∨ k = 20 ∨ k = 21 ∨ k = 22 ∨ k = 23 ∨ k = 24 ∨ k = 25 ∨ k = 26 ∨ k = 27 ∨ k = 28 := by omega
    all_goals rfl
  rw [List.getElem?_map] at hxs
  obtain ⟨x, hx, hx2⟩ := Option.map_eq_some_iff.1 hxs
  rw [hx] at h1
  obtain ⟨d, p⟩ := x
  simp only at hx2
  subst hx2
  obtain ⟨e0, e1⟩ := row_cells h1
  rw [hcell, hcell]
  refine ⟨?_, ?_⟩
  · have : cs0.toList[k * 2]? = ((cs0.toList.drop (k * 2)).take 2)[0]? := by simp [List.getElem?_drop]
    rw [this, e0]
    rfl
  · have : cs0.toList[k * 2 + 1]? = ((cs0.toList.drop (k * 2)).take 2)[1]? := by simp [List.getElem?_drop]
    rw [this, e1]
    rfl
theorem door_met (os : Os) (args : Array Value) : laidMetH Tryd.prog laidRows ((World.doorLaid Tryd.prog 42 os).forCall (fun _ _ => 0) ⟨#[], args, []⟩).memory :=
  laidMetH_of_parts3 (fuel := 8) (laidMet_of_run' 8 (by kernel_rfl) (by kernel_rfl)) (by kernel_rfl) (by kernel_rfl)
end Go.Proofs.YtbdlofkmcdalaaaDoor
