/- The contract of the validation of one statement of package tree: a call that stands alone; all kinds. -/
import Derived.Test.YtomdcgifkkmopaaDoorTreeRightS
namespace Go.Proofs.YtomdcgifkkmopaaDoor
open Go.RowKit
section
variable (ty : Int) (name : ByteArray) (A1 A2 A3 : Option Addr) (m1 m2 m3 c1 c2 c3 : Nat) (w : World)
set_option maxHeartbeats 4000000 in
set_option maxRecDepth 100000 in
theorem rightStmt_do (B : Nat) (args : List Ex) (hA : SlE B w (.slice A1 m1 c1) args) (hm : args.length = m1) :
    Calls Tryd.prog 46 #[.agg #[.int .i64 10, .int .i64 ty, .string name, .slice A1 m1 c1, .slice A2 m2 c2, .slice A3 m3 c3]] w fun e w' => e = .returned (.bool (formS 10 ty name m1 m2 m3 (callB args))) ∧ Below w.heap.size w w' := by
  rcases args with _ | ⟨⟨k', op, n, nm, aa⟩, r⟩
  · subst hm
    go_enter Tryd.func46, Tryd.ntmps46
    go_wp2_with (fail)
    all_goals go_ret
    all_goals refine ⟨ret_bool ?_, ((Below.refl _ _).alloc (Nat.le_refl _) _).alloc (by simp) _⟩
    all_goals go_light
    all_goals simp_all [formS]
  · obtain ⟨g, o, v, rfl, hg, h0, _⟩ := hA.cells (i := 0) rfl
    have h0' : w.cell? ⟨g, o, none⟩ = some (.int .i64 k') := by simpa using h0
    have hz := block_lt_of_cell h0'
    have hmp : 0 < m1 := by rw [← hm]; simp
    clear h0 hm hA
    go_enter Tryd.func46, Tryd.ntmps46
    go_wp2_with (fail)
    all_goals go_ret
    all_goals refine ⟨ret_bool ?_, ((Below.refl _ _).alloc (Nat.le_refl _) _).alloc (by simp) _⟩
    all_goals go_light
    all_goals simp_all [formS, eB, tl_nil', callB, Ex.kind]
    all_goals first
      | (intros; omega)
      | (have e1 : m1 = 1 := by omega
         rw [Bool.eq_iff_iff]
         simp [e1]
         exact ⟨fun h => decide_eq_true h, fun h => of_decide_eq_true h⟩)
theorem rightStmt_any (k : Int) (B : Nat) (args : List Ex) (hA : SlE B w (.slice A1 m1 c1) args) (hm : args.length = m1) :
    Calls Tryd.prog 46 #[.agg #[.int .i64 k, .int .i64 ty, .string name, .slice A1 m1 c1, .slice A2 m2 c2, .slice A3 m3 c3]] w fun e w' => e = .returned (.bool (formS k ty name m1 m2 m3 (callB args))) ∧ Below w.heap.size w w' := by
  by_cases h1 : k = 4 ∨ k = 5 ∨ k = 6 ∨ k = 7 ∨ k = 8 ∨ k = 9
  · exact rightStmt_plain ty name A1 A2 A3 m1 m2 m3 c1 c2 c3 w k _ h1
  by_cases h2 : k = 2 ∨ k = 3
  · exact rightStmt_named ty name A1 A2 A3 m1 m2 m3 c1 c2 c3 w k _ h2 _ rfl
  by_cases h3 : k = 1
  · subst h3
    exact rightStmt_let ty name A1 A2 A3 m1 m2 m3 c1 c2 c3 w _ _ _ rfl rfl
  by_cases h4 : k = 10
  · subst h4
    exact rightStmt_do ty name A1 A2 A3 m1 m2 m3 c1 c2 c3 w B args hA hm
  · exact rightStmt_other ty name A1 A2 A3 m1 m2 m3 c1 c2 c3 w k _ (by omega)
end
end Go.Proofs.YtomdcgifkkmopaaDoor
