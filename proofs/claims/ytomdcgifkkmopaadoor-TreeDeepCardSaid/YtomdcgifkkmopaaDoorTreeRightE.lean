/- The contract of the validation of one expression of package tree. -/
import Derived.Test.YtomdcgifkkmopaaDoorTreeRead
namespace Go.Proofs.YtomdcgifkkmopaaDoor
open Go.RowKit
theorem tl_nil (s : ByteArray) : s.toList = [] ↔ s.size = 0 := by
  rw [Lib.toList_data, Lib.size_eq]
  exact List.length_eq_zero_iff.symm
section
variable (B : Nat) (op n : Int) (name : ByteArray) (A : Option Addr) (m cap : Nat) (w : World)
set_option maxHeartbeats 2000000 in
set_option maxRecDepth 100000 in
theorem rightExpr_plain (k : Int) (hk : k = 1 ∨ k = 2 ∨ k = 4 ∨ k = 8) :
    Calls Tryd.prog 57 #[.agg #[.int .i64 k, .int .i64 op, .int .i64 n, .string name, .slice A m cap]] w fun e w' => e = .returned (.bool (formE k op n name m)) ∧ Below w.heap.size w w' := by
  rcases hk with rfl | rfl | rfl | rfl
  all_goals
    go_enter Tryd.func57, Tryd.ntmps57
    go_wp2_with (fail)
    all_goals go_ret
    all_goals refine ⟨ret_bool ?_, ((Below.refl _ _).alloc (Nat.le_refl _) _).alloc (by simp) _⟩
    all_goals go_light
    all_goals simp_all [formE, eB, tl_nil]
  all_goals omega
set_option maxHeartbeats 2000000 in
set_option maxRecDepth 100000 in
theorem rightExpr_named (k : Int) (hk : k = 3 ∨ k = 6 ∨ k = 7) (b : Bool) (hb : nmB name = b) :
    Calls Tryd.prog 57 #[.agg #[.int .i64 k, .int .i64 op, .int .i64 n, .string name, .slice A m cap]] w fun e w' => e = .returned (.bool (formE k op n name m)) ∧ Below w.heap.size w w' := by
  have HB := Lib.hid hb
  clear hb
  cases b
  all_goals rcases hk with rfl | rfl | rfl
  all_goals
    go_enter Tryd.func57, Tryd.ntmps57
    go_wp2_with (go_at_call 24; (with_reducible refine (nm_is name _ HB.out _).mono ?_); rintro e w1 ⟨rfl, hb1⟩; obtain ⟨hc1, hf1⟩ := bcell hb1)
    all_goals go_ret
    all_goals refine ⟨ret_bool ?_, (((Below.refl _ _).alloc (Nat.le_refl _) _).alloc (by simp) _).trans (hb1.mono (by simp; omega))⟩
    all_goals have HB' := HB.out
    all_goals go_light
    all_goals simp_all [formE]
  all_goals omega
set_option maxHeartbeats 2000000 in
set_option maxRecDepth 100000 in
theorem rightExpr_two (ht : TreeTab B w) (hB : B ≤ w.heap.size) :
    Calls Tryd.prog 57 #[.agg #[.int .i64 5, .int .i64 op, .int .i64 n, .string name, .slice A m cap]] w fun e w' => e = .returned (.bool (formE 5 op n name m)) ∧ Below w.heap.size w w' := by
  have HT := Lib.hid ht
  clear ht
  go_enter Tryd.func57, Tryd.ntmps57
  go_wp2_with (go_at_call 53; (with_reducible refine (level_any op _ (HT.out.below (((Below.refl _ _).alloc hB _).alloc (by simp; omega) _)).rows).mono ?_); rintro e w1 ⟨rfl, hb1⟩; obtain ⟨hc1, hf1⟩ := bcell hb1)
  all_goals go_ret
  all_goals refine ⟨ret_bool ?_, (((Below.refl _ _).alloc (Nat.le_refl _) _).alloc (by simp) _).trans (hb1.mono (by simp; omega))⟩
  all_goals go_light
  all_goals simp_all [formE, eB, tl_nil]
  all_goals omega
set_option maxHeartbeats 2000000 in
set_option maxRecDepth 100000 in
theorem rightExpr_other (k : Int) (hk : k < 1 ∨ 8 < k) :
    Calls Tryd.prog 57 #[.agg #[.int .i64 k, .int .i64 op, .int .i64 n, .string name, .slice A m cap]] w fun e w' => e = .returned (.bool (formE k op n name m)) ∧ Below w.heap.size w w' := by
  have n1 : (k == 1) = false := by simp; omega
  have n2 : (k == 2) = false := by simp; omega
  have n3 : (k == 3) = false := by simp; omega
  have n4 : (k == 4) = false := by simp; omega
  have n5 : (k == 5) = false := by simp; omega
  have n6 : (k == 6) = false := by simp; omega
  have n7 : (k == 7) = false := by simp; omega
  have n8 : (k == 8) = false := by simp; omega
  have hf : Hid (formE k op n name m = false) := by
    unfold Hid formE
    rw [if_neg (by omega), if_neg (by omega), if_neg (by omega), if_neg (by omega), if_neg (by omega), if_neg (by omega), if_neg (by omega), if_neg (by omega)]
  clear hk
  go_enter Tryd.func57, Tryd.ntmps57
  go_wp2_with (fail)
  go_ret
  exact ⟨ret_bool hf.out.symm, ((Below.refl _ _).alloc (Nat.le_refl _) _).alloc (by simp) _⟩
theorem rightExpr_any (k : Int) (ht : TreeTab B w) (hB : B ≤ w.heap.size) :
    Calls Tryd.prog 57 #[.agg #[.int .i64 k, .int .i64 op, .int .i64 n, .string name, .slice A m cap]] w fun e w' => e = .returned (.bool (formE k op n name m)) ∧ Below w.heap.size w w' := by
  by_cases h1 : k = 1 ∨ k = 2 ∨ k = 4 ∨ k = 8
  · exact rightExpr_plain op n name A m cap w k h1
  by_cases h2 : k = 3 ∨ k = 6 ∨ k = 7
  · exact rightExpr_named op n name A m cap w k h2 _ rfl
  by_cases h3 : k = 5
  · subst h3
    exact rightExpr_two B op n name A m cap w ht hB
  · exact rightExpr_other op n name A m cap w k (by omega)
end
end Go.Proofs.YtomdcgifkkmopaaDoor
