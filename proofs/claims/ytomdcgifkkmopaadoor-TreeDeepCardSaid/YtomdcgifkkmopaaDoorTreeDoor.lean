/- From the row's condition that the listed variables read as the program's text lays them to what the walks ask of the variables (TreeTab); the start that meets it. -/
import Derived.Test.YtomdcgifkkmopaaDoorRows
import Derived.Test.YtomdcgifkkmopaaDoorTreeRead
import Derived.ProofKit
import Derived.OpenShut
import Derived.LaidMore
import Derived.Lay
import Derived.LaidSub
import Derived.Lib.LaidTab
import Derived.Lib.SmallJoins
import Derived.SevenTiedAt
import Derived.Stop.Joined
import Derived.ChangeOld
namespace Go.Proofs.YtomdcgifkkmopaaDoor
open Go.ChangeShapes Go.WideShapes Go.ChangeAt Go.RowKit
theorem own : ownKnob Tryd.prog.godebug = none := by kernel_rfl
abbrev laidRows : List (String × DataW Unit) := [("boxhedge/wrap.rows", Rows.laid_boxhedge_wrap_rows), ("math/bits.deBruijn32tab", Rows.laid_math_bits_deBruijn32tab), ("math/bits.deBruijn64tab", Rows.laid_math_bits_deBruijn64tab), ("internal/strconv.uint64pow10", Rows.laid_internal_strconv_uint64pow10)]
theorem plain_of {W : World} (h : laidMetH Tryd.prog laidRows W) : laidMet Tryd.prog laidRows W := by
  rw [MakeChecks.laidMetH_plain _ _ _ (by kernel_rfl)] at h
  exact h
theorem filt (n : String) (d : DataW Unit) {W : World} (h : laidMet Tryd.prog laidRows W) (e : (laidRows.filter fun x => x.1 == n) = [(n, d)]) : laidMet Tryd.prog [(n, d)] W := by
  have := h.filter (fun x => x.1 == n)
  rwa [e] at this
theorem gRows : Tryd.prog.globalNamed "boxhedge/wrap.rows" = some 0 := by kernel_rfl
theorem tRows : (Tryd.prog.globals[0]?).map (·.type) = some 110 := by kernel_rfl
theorem cellsRow : Tryd.prog.cellsOf 100 = 2 := by kernel_rfl
theorem cellsStr : Tryd.prog.cellsOf 9 = 1 := by kernel_rfl
theorem cellsInt : Tryd.prog.cellsOf 3 = 1 := by kernel_rfl
theorem toList_inj {s : ByteArray} {l : List UInt8} (h : s.data.toList = l) : s = ⟨l.toArray⟩ := by
  subst h
  cases s
  simp
/-- One row of the table, off its two cells. -/
theorem row_cells {W : World} {fuel : Nat} {cs : List Value} {b : List UInt8} {n : Int} {p : List MemPlace}
    (h : DataW.trod (fun _ => ()) Tryd.prog W 0 (fun _ => true) false fuel 100 cs = some (.agg [.lit (.string b), .lit (.int .i64 n)], p)) :
    cs[0]? = some (.string ⟨b.toArray⟩) ∧ cs[1]? = some (.int .i64 n) := by
  obtain ⟨y0, y1, m, hx, hl, h0, h1⟩ := trod_struct2 Tryd.underlying100 h
  rw [cellsStr] at h0
  rw [cellsInt] at h1
  obtain ⟨s, e1, e2, _⟩ := DataW.trod_string Tryd.underlying9 h0
  obtain ⟨k, e3, e4, _⟩ := DataW.trod_int Tryd.underlying3 h1
  subst e2 e4
  simp only [Prod.mk.injEq, DataW.agg.injEq, List.cons.injEq, DataW.lit.injEq, Lit.string.injEq, Lit.int.injEq, true_and, and_true] at hx
  obtain ⟨⟨hs, hk⟩, _⟩ := hx
  rw [cellsRow] at hl
  match cs, hl with
  | [c0, c1], _ =>
    simp at e1 e3
    subst e1 e3 hk
    refine ⟨?_, rfl⟩
    rw [toList_inj hs.symm]
    rfl
theorem rows_of_laid {W : World} (h : laidMet Tryd.prog [("boxhedge/wrap.rows", Rows.laid_boxhedge_wrap_rows)] W) : Tab W := by
  obtain ⟨ps, ⟨g0, t0, cs0, f0, p0, q0, hg0, ht0, hv0, hd0, _, _⟩, _, _⟩ := h
  obtain rfl := Option.some.inj (gRows.symm.trans hg0)
  obtain rfl := Option.some.inj (tRows.symm.trans ht0)
  obtain ⟨xs, m1, rfl, hx1, hlen, hn, hel⟩ := DataW.trod_array Tryd.underlying110 hd0
  intro k hk
  have hcell : ∀ j, W.cell? ⟨0, j, none⟩ = cs0.toList[j]? := by
    intro j
    have := World.var?_cell hg0 hv0 j
    simpa using this
  have h1 := hel k (by omega)
  rw [cellsRow] at h1
  have hxs : (xs.map (·.1))[k]? = some (.agg [.lit (.string (sgnL.getD k [])), .lit (.int .i64 (lvlL.getD k 0))]) := by
    have hx1' := congrArg Prod.fst hx1
    unfold Rows.laid_boxhedge_wrap_rows at hx1'
    simp only [DataW.agg.injEq] at hx1'
    rw [← hx1']
    obtain rfl | rfl | rfl | rfl | rfl | rfl | rfl | rfl | rfl | rfl | rfl | rfl | rfl | rfl | rfl | rfl | rfl | rfl | rfl | rfl | rfl | rfl | rfl | rfl | rfl | rfl | rfl | rfl | rfl : k = 0 ∨ k = 1 ∨ k = 2 ∨ k = 3 ∨ k = 4 ∨ k = 5 ∨ k = 6 ∨ k = 7 ∨ k = 8 ∨ k = 9 ∨ k = 10 ∨ k = 11 ∨ k = 12 ∨ k = 13 ∨ k = 14 ∨ k = 15 ∨ k = 16 ∨ k = 17 ∨ k = 18 ∨ k = 19 ∨ k = 20 ∨ k = 21 ∨ k = 22 ∨ k = 23 ∨ k = 24 ∨ k = 25 ∨ k = 26 ∨ k = 27 ∨ k = 28 := by omega
    all_goals rfl
  rw [List.getElem?_map] at hxs
  obtain ⟨x, hx, hx2⟩ := Option.map_eq_some_iff.1 hxs
  rw [hx] at h1
  obtain ⟨d, p⟩ := x
  simp only at hx2
  subst hx2
  obtain ⟨e0, e1⟩ := row_cells h1
  rw [hcell, hcell]
  refine ⟨?_, ?_⟩
  · have : cs0.toList[k * 2]? = ((cs0.toList.drop (k * 2)).take 2)[0]? := by simp [List.getElem?_drop]
    rw [this, e0]
    rfl
  · have : cs0.toList[k * 2 + 1]? = ((cs0.toList.drop (k * 2)).take 2)[1]? := by simp [List.getElem?_drop]
    rw [this, e1]
    rfl
theorem gPow : Tryd.prog.globalNamed "internal/strconv.uint64pow10" = some 1 := by kernel_rfl
theorem tPow : (Tryd.prog.globals[1]?).map (·.type) = some 112 := by kernel_rfl
theorem cellsU64 : Tryd.prog.cellsOf 105 = 1 := by kernel_rfl
theorem cellsPow : Tryd.prog.cellsOf 112 = 20 := by kernel_rfl
theorem pow_of_laid {W : World} (h : laidMet Tryd.prog laidRows W) : Lib.TabIs Tryd.prog W "internal/strconv.uint64pow10" .u64 Lib.pow10Tab := by
  have h1 := filt "internal/strconv.uint64pow10" Rows.laid_internal_strconv_uint64pow10 h rfl
  have e : (Rows.laid_internal_strconv_uint64pow10 : DataW Unit) = Lib.tabData .u64 Lib.pow10Tab := by kernel_rfl
  rw [e] at h1
  exact Lib.tabIs_of_head gPow tPow Tryd.underlying112 Tryd.underlying105 cellsU64 cellsPow h1
theorem tab_of_laid {W : World} (h : laidMetH Tryd.prog laidRows W) : TreeTab W.heap.size W := by
  have h1 := plain_of h
  have ht := rows_of_laid (filt "boxhedge/wrap.rows" Rows.laid_boxhedge_wrap_rows h1 rfl)
  exact ⟨block_lt_of_cell (ht 0 (by omega)).1, ht, fun w' hb => Joins.tab_stays gPow (pow_of_laid h1) hb (Nat.le_refl _)⟩
set_option maxRecDepth 100000 in
theorem start_met (os : Os) (args : Array Value) : laidMetH Tryd.prog laidRows ((World.laidAll Tryd.prog os laidRows).forCall (fun _ _ => 0) ⟨#[], args, []⟩).memory := by
  rw [MakeChecks.laidMetH_plain _ _ _ (by kernel_rfl)]
  exact laidMet_laidAll _ (by kernel_rfl) (by kernel_rfl)
end Go.Proofs.YtomdcgifkkmopaaDoor
