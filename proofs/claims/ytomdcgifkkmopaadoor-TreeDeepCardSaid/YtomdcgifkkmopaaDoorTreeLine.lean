/- The contract of the method line of package tree. -/
import Derived.Test.YtomdcgifkkmopaaDoorTreeList
namespace Go.Proofs.YtomdcgifkkmopaaDoor
open Go.RowKit
theorem TextAt.tabs {B b : Nat} {bs : List UInt8} {tabs : Nat} {w : World} (h : TextAt B b bs tabs w) : w.cell? ⟨b, 2, none⟩ = some (.int .i64 tabs) := by
  obtain ⟨_, p, v, _, hb, _⟩ := h
  rw [Lib.cell_of_heap hb]
  rfl
def LnC (B b : Nat) (l : List Pt) : Prop := ∀ (bs : List UInt8) (tabs : Nat) (w : World) (v : Value), TextAt B b bs tabs w → TreeTab B w → B ≤ w.heap.size → PtsAt B w l v → tabs ≤ 1000 → bs.length + tabs + (ptsT l).length + 1 ≤ 140737488355328 →
  Calls Tryd.prog 9 #[.pointer (some ⟨b, 0, none⟩), v] w (Posted B b bs tabs w (tabT tabs ++ (ptsT l ++ [10])))
set_option maxHeartbeats 1000000 in
set_option maxRecDepth 100000 in
/-- A line: tabs, parts, the line's end. -/
theorem line_any (B b : Nat) (l : List Pt) (hw : WrC B b l) : LnC B b l := by
  intro bs tabs w v hT ht hB hv htabs hl
  have c2 := hT.tabs
  have HT := Lib.hid hT
  have HTT := Lib.hid ht
  have HV := Lib.hid hv
  have HW := Lib.hid hw
  clear hT ht hv hw
  go_enter Tryd.func9, Tryd.ntmps9
  go_wp2_with (fail)
  go_loopw [8] (fun iv wr => ∃ i : Nat, i ≤ tabs ∧ iv = .int .i64 i ∧ TextAt B b (bs ++ tabT i) tabs wr ∧ Wr B b w wr) (fun iv _ => tabs - (intOf iv).toNat)
  case atStart => exact ⟨0, Nat.zero_le _, rfl, by show TextAt B b (bs ++ []) tabs w; rw [List.append_nil]; exact HT.out, Wr.refl _ _ _⟩
  case round =>
    obtain ⟨i, hi, rfl, hTr, hwr⟩ := hrel
    have hBr : B ≤ wr.heap.size := Nat.le_trans hB hwr.1.size
    have HTR := Lib.hid hTr
    have HTB := Lib.hid (HTT.out.below hwr.1)
    have HVR := Lib.hid (HV.out.wr HT.out hwr)
    clear hTr
    have hlen : (tabT i).length = i := by simp [tabT]
    by_cases hlt : i < tabs
    · have HS : Hid ((bs ++ tabT i).length + 1 ≤ 140737488355328) := by unfold Hid; rw [List.length_append, hlen]; omega
      clear hlen
      go_wp2_with (go_at_call 20; (with_reducible refine (writeByte_any HTR.out 9 9 rfl HS.out hBr).mono ?_); rintro e w1 ⟨rfl, hT1, hw1⟩)
      go_roundw
      case rel => exact ⟨i + 1, by omega, by go_num, by rw [tabT_succ, ← List.append_assoc]; exact hT1, hwr.trans hw1⟩
      case measure => simp [intOf]; omega
    · have e : i = tabs := by omega
      have HS : Hid ((bs ++ tabT i).length + (ptsT l).length ≤ 140737488355328) := by unfold Hid; rw [List.length_append, hlen]; omega
      have HS2 : Hid ((bs ++ tabT i ++ ptsT l).length + 1 ≤ 140737488355328) := by unfold Hid; rw [List.length_append, List.length_append, hlen]; omega
      clear hlen
      go_wp2_with (first
        | (go_at_call 21; (with_reducible refine (WrC.call HTR.out HTB.out hBr HW.out HVR.out HS.out).mono ?_); rintro e w1 ⟨rfl, hT1, hw1⟩; have hB1 : B ≤ w1.heap.size := Nat.le_trans hBr hw1.bel.size)
        | (go_at_call 20; (with_reducible refine (writeByte_any hT1 10 10 rfl HS2.out hB1).mono ?_); rintro e w2 ⟨rfl, hT2, hw2⟩))
      go_end0
      subst e
      refine ⟨rfl, ?_, hwr.trans (hw1.trans hw2)⟩
      have e3 : bs ++ (tabT i ++ (ptsT l ++ [10])) = bs ++ tabT i ++ ptsT l ++ [10] := by simp
      rw [e3]
      exact hT2
end Go.Proofs.YtomdcgifkkmopaaDoor
