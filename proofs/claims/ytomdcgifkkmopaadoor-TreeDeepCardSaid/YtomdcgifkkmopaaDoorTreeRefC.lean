/- The contract of the document's text of an expression: a call. -/
import Derived.Test.YtomdcgifkkmopaaDoorTreeRefX
import Derived.Test.YtomdcgifkkmopaaDoorTreeList
import Derived.Deep.RegionHeld3
namespace Go.Proofs.YtomdcgifkkmopaaDoor
open Go.RowKit
set_option maxHeartbeats 4000000 in
set_option maxRecDepth 100000 in
theorem rtext_call (B : Nat) (op n : Int) (name : ByteArray) (args : List Ex) (hx : ∀ (i : Nat) e, args[i]? = some e → RtC B e) : RtC B (.mk 7 op n name args) := by
  intro w x hB hv hl
  obtain ⟨A, cap, rfl, hr, hs⟩ := ExV.elim hv
  have hn : args.length ≤ 281474976710656 := by obtain ⟨_, _, _, h⟩ := hs.form; exact h
  have e : exT (.mk 7 op n name args) = name.data.toList ++ 40 :: (joinC (args.map exT) ++ [41]) := by
    have e2 : (args.map fun e => (e.kind, e.op, exT e)).map (·.2.2) = args.map exT := by rw [List.map_map]; rfl
    rw [exT_mk, exTs_map]
    show name.data.toList ++ 40 :: (joinC ((args.map fun e => (e.kind, e.op, exT e)).map (·.2.2)) ++ [41]) = _
    rw [e2]
  rw [e] at hl ⊢
  have hsz : name.size + 1 + (joinC (args.map exT)).length + 1 ≤ 1099511627776 := by
    have h : name.size = name.data.toList.length := rfl
    rw [h]
    simp only [List.length_append, List.length_cons, List.length_nil] at hl
    omega
  have HX := Lib.hid hx
  have HS := Lib.hid hs
  clear hs hv hl hr e hx
  go_enter Tryd.func23, Tryd.ntmps23
  go_wp2_with (fail)
  go_loopw [4, 5] (fun sv iv wr => ∃ i : Nat, i ≤ args.length ∧ iv = .int .i64 i ∧ sv = .string ⟨(joinC ((args.take i).map exT)).toArray⟩ ∧ Below (w.heap.size + 1) (w.alloc (.cells #[.int .i64 7, .int .i64 op, .int .i64 n, .string name, .slice A args.length cap] 24)) wr) (fun _ iv _ => args.length - (intOf iv).toNat)
  case atStart => exact ⟨0, Nat.zero_le _, rfl, rfl, Below.refl _ _⟩
  case round =>
    obtain ⟨i, hi, rfl, hsv, hbw⟩ := hrel
    obtain ⟨J, hJ⟩ : ∃ J, joinC ((args.take i).map exT) = J := ⟨_, rfl⟩
    rw [hJ] at hsv
    subst hsv
    have HJJ := Lib.hid hJ
    have hsz1 : w.heap.size + 1 ≤ wr.heap.size := by have := hbw.size; simpa using this
    have hwr : Below w.heap.size w wr := ((Below.refl _ _).alloc (Nat.le_refl _) _).trans (hbw.mono (by omega))
    have hBr : B ≤ wr.heap.size := by omega
    have hq : w.heap.size < wr.heap.size := by omega
    have hrow : wr.heap[w.heap.size]? = some (.cells #[.int .i64 7, .int .i64 op, .int .i64 n, .string name, .slice A args.length cap] 24 (0, 0)) := (hbw.block _ (by omega)).trans (heap_alloc_new w _)
    have k3 : wr.cell? ⟨w.heap.size, 3, none⟩ = some (.string name) := by rw [Lib.cell_of_heap hrow]; rfl
    have k4 : wr.cell? ⟨w.heap.size, 4, none⟩ = some (.slice A args.length cap) := by rw [Lib.cell_of_heap hrow]; rfl
    clear hrow
    by_cases hlt : i < args.length
    · obtain ⟨⟨kk, op', n', name', args'⟩, he⟩ : ∃ e, args[i]? = some e := ⟨_, List.getElem?_eq_getElem hlt⟩
      obtain ⟨g, o, v, rfl, hg, q0, q1, q2, q3, q4, hs'⟩ := (HS.out.below (hwr.mono hB) (Nat.le_refl _)).cells he
      obtain ⟨A', cap', rfl, _⟩ := hs'.form
      have hrr := HS.out.range he
      have HV : Hid (ExV B wr (.mk kk op' n' name' args') (.agg #[.int .i64 kk, .int .i64 op', .int .i64 n', .string name', .slice A' args'.length cap'])) := ⟨_, rfl, hrr, hs'⟩
      have HE := Lib.hid he
      have HXX := Lib.hid (HX.out i _ he)
      have hgs : g < wr.heap.size := by omega
      have hjl := joinC_len exT he
      rw [hJ] at hjl
      have HL : Hid ((exT (.mk kk op' n' name' args')).length ≤ 1099511627776) := by unfold Hid; omega
      clear he hs' hrr hJ
      by_cases h0 : i = 0
      · subst h0
        have r0 : wr.cell? ⟨g, o, none⟩ = some (.int .i64 kk) := by simpa using q0
        have r1 : wr.cell? ⟨g, o + 1, none⟩ = some (.int .i64 op') := by simpa using q1
        have r2 : wr.cell? ⟨g, o + 2, none⟩ = some (.int .i64 n') := by simpa using q2
        have r3 : wr.cell? ⟨g, o + 3, none⟩ = some (.string name') := by simpa using q3
        have r4 : wr.cell? ⟨g, o + 4, none⟩ = some (.slice A' args'.length cap') := by simpa using q4
        have HJ : Hid (joinC ((args.take (0 + 1)).map exT) = J ++ exT (.mk kk op' n' name' args')) := by unfold Hid; rw [joinC_take exT HE.out, HJJ.out]; simp
        rw [if_pos rfl] at hjl
        have y0 : ¬ 9223372036854775807 < J.length + (exT (.mk kk op' n' name' args')).length := by omega
        have y1 : ¬ 9223372036854775807 < (exT (.mk kk op' n' name' args')).length := by omega
        go_wp2_with (go_at_call 23; (with_reducible refine (RtC.call HXX.out hBr HV.out HL.out).mono ?_); rintro e w2 ⟨rfl, hb2⟩)
        go_roundw
        case rel => exact ⟨1, by omega, by go_num, congrArg Value.string (ba_ext (by rw [HJ.out]; simp [ByteArray.data_append])), hbw.trans (hb2.mono hsz1)⟩
        case measure => simp [intOf]; omega
      · have hip : 0 < i := by omega
        have HJ : Hid (joinC ((args.take (i + 1)).map exT) = J ++ ([44, 32] ++ exT (.mk kk op' n' name' args'))) := by unfold Hid; rw [joinC_take exT HE.out, if_neg h0, HJJ.out]
        rw [if_neg h0] at hjl
        have y0 : ¬ 9223372036854775807 < J.length + 2 := by omega
        have y1 : ¬ 9223372036854775807 < J.length + 2 + (exT (.mk kk op' n' name' args')).length := by omega
        clear h0
        go_wp2_with (go_at_call 23; (with_reducible refine (RtC.call HXX.out hBr HV.out HL.out).mono ?_); rintro e w2 ⟨rfl, hb2⟩)
        go_roundw
        case rel => exact ⟨i + 1, by omega, by go_num, congrArg Value.string (ba_ext (by rw [HJ.out]; simp [ByteArray.data_append])), hbw.trans (hb2.mono hsz1)⟩
        case measure => simp [intOf]; omega
    · have e : i = args.length := by omega
      have HJ : Hid (J = joinC (args.map exT)) := by unfold Hid; rw [← hJ, e, List.take_length]
      rw [HJ.out]
      clear hJ
      have y0 : ¬ 9223372036854775807 < name.size + 1 := by omega
      have y1 : ¬ 9223372036854775807 < name.size + 1 + (joinC (args.map exT)).length := by omega
      have y2 : ¬ 9223372036854775807 < name.size + 1 + (joinC (args.map exT)).length + 1 := by omega
      go_wp2_with (fail)
      go_ret
      refine ⟨ret_str (ba_ext ?_), hwr⟩
      simp [ByteArray.data_append]
end Go.Proofs.YtomdcgifkkmopaaDoor
