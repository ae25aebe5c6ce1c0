/- The contract of the validation of one statement of package tree. -/
import Derived.Test.YtomdcgifkkmopaaDoorTreeRead
namespace Go.Proofs.YtomdcgifkkmopaaDoor
open Go.RowKit
theorem rightType_any (t : Int) (w : World) : Calls Tryd.prog 25 #[.int .i64 t] w fun e w' => e = .returned (.bool (tyB t)) ∧ w = w' := by
  go_enter Tryd.func25, Tryd.ntmps25
  go_wp2_with (fail)
  all_goals go_ret
  all_goals refine ⟨ret_bool ?_, rfl⟩
  all_goals go_light
  all_goals (unfold tyB; rw [Bool.eq_iff_iff]; simp_all)
theorem rightType_is (t : Int) (b : Bool) (h : tyB t = b) (w : World) : Calls Tryd.prog 25 #[.int .i64 t] w fun e w' => e = .returned (.bool b) ∧ w = w' := h ▸ rightType_any t w
theorem tl_nil' (s : ByteArray) : s.toList = [] ↔ s.size = 0 := by
  rw [Lib.toList_data, Lib.size_eq]
  exact List.length_eq_zero_iff.symm
section
variable (ty : Int) (name : ByteArray) (A1 A2 A3 : Option Addr) (m1 m2 m3 c1 c2 c3 : Nat) (w : World)
set_option maxHeartbeats 4000000 in
set_option maxRecDepth 100000 in
theorem rightStmt_plain (k : Int) (ic : Bool) (hk : k = 4 ∨ k = 5 ∨ k = 6 ∨ k = 7 ∨ k = 8 ∨ k = 9) :
    Calls Tryd.prog 46 #[.agg #[.int .i64 k, .int .i64 ty, .string name, .slice A1 m1 c1, .slice A2 m2 c2, .slice A3 m3 c3]] w fun e w' => e = .returned (.bool (formS k ty name m1 m2 m3 ic)) ∧ Below w.heap.size w w' := by
  rcases hk with rfl | rfl | rfl | rfl | rfl | rfl
  all_goals
    go_enter Tryd.func46, Tryd.ntmps46
    go_wp2_with (fail)
    all_goals go_ret
    all_goals refine ⟨ret_bool ?_, ((Below.refl _ _).alloc (Nat.le_refl _) _).alloc (by simp) _⟩
    all_goals go_light
    all_goals simp_all [formS, eB, tl_nil']
  all_goals omega
set_option maxHeartbeats 4000000 in
set_option maxRecDepth 100000 in
theorem rightStmt_named (k : Int) (ic : Bool) (hk : k = 2 ∨ k = 3) (b : Bool) (hb : nmB name = b) :
    Calls Tryd.prog 46 #[.agg #[.int .i64 k, .int .i64 ty, .string name, .slice A1 m1 c1, .slice A2 m2 c2, .slice A3 m3 c3]] w fun e w' => e = .returned (.bool (formS k ty name m1 m2 m3 ic)) ∧ Below w.heap.size w w' := by
  have HB := Lib.hid hb
  clear hb
  cases b
  all_goals rcases hk with rfl | rfl
  all_goals
    go_enter Tryd.func46, Tryd.ntmps46
    go_wp2_with (go_at_call 24; (with_reducible refine (nm_is name _ HB.out _).mono ?_); rintro e w1 ⟨rfl, hb1⟩; obtain ⟨hc1, hf1⟩ := bcell hb1)
    all_goals go_ret
    all_goals refine ⟨ret_bool ?_, (((Below.refl _ _).alloc (Nat.le_refl _) _).alloc (by simp) _).trans (hb1.mono (by simp; omega))⟩
    all_goals have HB' := HB.out
    all_goals go_light
    all_goals simp_all [formS]
  all_goals omega
set_option maxHeartbeats 4000000 in
set_option maxRecDepth 100000 in
theorem rightStmt_let (ic : Bool) (b bt : Bool) (hb : nmB name = b) (hbt : tyB ty = bt) :
    Calls Tryd.prog 46 #[.agg #[.int .i64 1, .int .i64 ty, .string name, .slice A1 m1 c1, .slice A2 m2 c2, .slice A3 m3 c3]] w fun e w' => e = .returned (.bool (formS 1 ty name m1 m2 m3 ic)) ∧ Below w.heap.size w w' := by
  have HB := Lib.hid hb
  have HBT := Lib.hid hbt
  clear hb hbt
  cases bt
  · go_enter Tryd.func46, Tryd.ntmps46
    go_wp2_with (go_at_call 25; (with_reducible refine (rightType_is ty _ HBT.out _).mono ?_); rintro e w1 ⟨rfl, rfl⟩)
    go_ret
    refine ⟨ret_bool ?_, ((Below.refl _ _).alloc (Nat.le_refl _) _).alloc (by simp) _⟩
    have HB' := HBT.out
    go_light
    simp_all [formS]
  · cases b
    all_goals
      go_enter Tryd.func46, Tryd.ntmps46
      go_wp2_with (first
        | (go_at_call 25; (with_reducible refine (rightType_is ty _ HBT.out _).mono ?_); rintro e w1 ⟨rfl, rfl⟩)
        | (go_at_call 24; (with_reducible refine (nm_is name _ HB.out _).mono ?_); rintro e w1 ⟨rfl, hb1⟩; obtain ⟨hc1, hf1⟩ := bcell hb1))
      all_goals go_ret
      all_goals refine ⟨ret_bool ?_, (((Below.refl _ _).alloc (Nat.le_refl _) _).alloc (by simp) _).trans (hb1.mono (by simp; omega))⟩
      all_goals have HB' := HB.out
      all_goals have HBT' := HBT.out
      all_goals go_light
      all_goals simp_all [formS]
    all_goals omega
set_option maxRecDepth 100000 in
theorem rightStmt_other (k : Int) (ic : Bool) (hk : k < 1 ∨ 10 < k) :
    Calls Tryd.prog 46 #[.agg #[.int .i64 k, .int .i64 ty, .string name, .slice A1 m1 c1, .slice A2 m2 c2, .slice A3 m3 c3]] w fun e w' => e = .returned (.bool (formS k ty name m1 m2 m3 ic)) ∧ Below w.heap.size w w' := by
  have n1 : (k == 1) = false := by simp; omega
  have n2 : (k == 2) = false := by simp; omega
  have n3 : (k == 3) = false := by simp; omega
  have n4 : (k == 4) = false := by simp; omega
  have n5 : (k == 5) = false := by simp; omega
  have n6 : (k == 6) = false := by simp; omega
  have n7 : (k == 7) = false := by simp; omega
  have n8 : (k == 8) = false := by simp; omega
  have n9 : (k == 9) = false := by simp; omega
  have n10 : (k == 10) = false := by simp; omega
  have hf : Hid (formS k ty name m1 m2 m3 ic = false) := by
    unfold Hid formS
    rw [if_neg (by omega), if_neg (by omega), if_neg (by omega), if_neg (by omega), if_neg (by omega), if_neg (by omega), if_neg (by omega), if_neg (by omega)]
  clear hk
  go_enter Tryd.func46, Tryd.ntmps46
  go_wp2_with (fail)
  go_ret
  exact ⟨ret_bool hf.out.symm, ((Below.refl _ _).alloc (Nat.le_refl _) _).alloc (by simp) _⟩
end
end Go.Proofs.YtomdcgifkkmopaaDoor
