/- The contracts of wrap.One, wrap.Two, wrap.Sign, wrap.Level and of the document's answers for them: each call returns what wOne, wTwo, wHas, sgn, lvl say. Sign and Level under the condition that wrap.rows reads as the program's text lays it (Tab). -/
import Derived.Test.YtbdlofkmcdalaaaDoorProg
import Derived.Test.YtbdlofkmcdalaaaDoorWrapMath
import Derived.WalkSpells
import Derived.WalkLawsBesides
import Derived.Outline
import Derived.Deep.Light
import Derived.Lib.Hide
namespace Go.Proofs.YtbdlofkmcdalaaaDoor
open Go.RowKit
theorem ret_int {k : IntKind} {a b : Int} (h : a = b) : Ending.returned (.int k a) = .returned (.int k b) := by rw [h]
theorem number_any (b : Bool) (w : World) : Calls Tryd.prog 22 #[.bool b] w fun e w' => e = .returned (.int .i64 (flag b)) ∧ w = w' := by
  cases b
  all_goals
    go_enter Tryd.func22, Tryd.ntmps22
    go_wp2
    go_ret
    exact ⟨rfl, rfl⟩
theorem rflag_any (b : Bool) (w : World) : Calls Tryd.prog 24 #[.bool b] w fun e w' => e = .returned (.int .i64 (flag b)) ∧ w = w' := by
  cases b
  all_goals
    go_enter Tryd.func24, Tryd.ntmps24
    go_wp2
    go_ret
    exact ⟨rfl, rfl⟩
theorem one_any (op a : Int) (ha : (Lit.int .i64 a).wf = true) (w : World) : Calls Tryd.prog 14 #[.int .i64 op, .int .i64 a] w fun e w' => e = .returned (.int .i64 (wOne op a)) ∧ w = w' := by
  have hn := Lib.hid (i64_not a ha)
  clear ha
  go_enter Tryd.func14, Tryd.ntmps14
  go_wp2_with (go_at_call 22; refine (number_any _ _).mono ?_; rintro e w' ⟨rfl, rfl⟩)
  all_goals go_ret
  all_goals refine ⟨ret_int ?_, rfl⟩
  all_goals go_light
  all_goals have hn' := hn.out
  all_goals clear hn
  all_goals simp_all [wOne, flag, w_i8, w_i16, w_u16, w_i32]
theorem ret_two {a b : Int} {c d : Bool} (h : a = b) (h' : c = d) : Ending.returned (.tuple #[.int .i64 a, .bool c]) = .returned (.tuple #[.int .i64 b, .bool d]) := by rw [h, h']
theorem ret_bool {a b : Bool} (h : a = b) : Ending.returned (.bool a) = .returned (.bool b) := by rw [h]
theorem rone_any (op a : Int) (ha : (Lit.int .i64 a).wf = true) (w : World) : Calls Tryd.prog 15 #[.int .i64 op, .int .i64 a] w fun e w' => e = .returned (.int .i64 (wOne op a)) ∧ w = w' := by
  have hn := Lib.hid (r_not a ha)
  clear ha
  go_enter Tryd.func15, Tryd.ntmps15
  go_wp2_with (go_at_call 24; refine (rflag_any _ _).mono ?_; rintro e w' ⟨rfl, rfl⟩)
  all_goals go_ret
  all_goals refine ⟨ret_int ?_, rfl⟩
  all_goals go_light
  all_goals have hn' := hn.out
  all_goals clear hn
  all_goals simp_all [wOne, flag, i64_and255, i64_and65535, i64_and4294967295, r_i8, r_i16, r_i32]
theorem holds_any (op a b : Int) (h1 : 12 ≤ op) (h2 : op ≤ 17) (w : World) : Calls Tryd.prog 23 #[.int .i64 op, .int .i64 a, .int .i64 b] w fun e w' => e = .returned (.bool (cmp op a b)) ∧ w = w' := by
  obtain rfl | rfl | rfl | rfl | rfl | rfl : op = 12 ∨ op = 13 ∨ op = 14 ∨ op = 15 ∨ op = 16 ∨ op = 17 := by omega
  all_goals clear h1 h2
  all_goals
    go_enter Tryd.func23, Tryd.ntmps23
    go_wp2
    go_ret
    exact ⟨ret_bool (by simp [cmp]), rfl⟩
theorem shift_any (op a b : Int) (w : World) : Calls Tryd.prog 21 #[.int .i64 op, .int .i64 a, .int .i64 b] w fun e w' => e = .returned (.int .i64 (sft op a b)) ∧ w = w' := by
  have hc := u64_and63' b
  have h0 : 0 ≤ b % 64 := by omega
  have h1 : b % 64 ≤ 63 := by omega
  go_enter Tryd.func21, Tryd.ntmps21
  go_wp2
  all_goals go_ret
  all_goals refine ⟨ret_int ?_, rfl⟩
  all_goals go_light
  all_goals simp_all [sft, cnt, IntKind.wrap_u64]
theorem divide_any (op a b : Int) (w : World) : Calls Tryd.prog 20 #[.int .i64 op, .int .i64 a, .int .i64 b] w fun e w' => e = .returned (.tuple #[.int .i64 (dvd op a b), .bool (!decide (b = 0))]) ∧ w = w' := by
  by_cases hb : b = 0
  · subst hb
    go_enter Tryd.func20, Tryd.ntmps20
    go_wp2
    go_ret2
    exact ⟨ret_two (by simp [dvd]) (by simp), rfl⟩
  · go_enter Tryd.func20, Tryd.ntmps20
    go_wp2
    all_goals go_ret2
    all_goals refine ⟨ret_two ?_ ?_, rfl⟩
    all_goals go_light
    all_goals simp_all [dvd]
theorem two_in (op a b : Int) (h : 1 ≤ op ∧ op ≤ 17) (w : World) : Calls Tryd.prog 11 #[.int .i64 op, .int .i64 a, .int .i64 b] w fun e w' => e = .returned (.tuple #[.int .i64 (wTwo op a b), .bool (wHas op b)]) ∧ w = w' := by
  obtain rfl | rfl | rfl | rfl | rfl | rfl | rfl | rfl | rfl | rfl | rfl | rfl | rfl | rfl | rfl | rfl | rfl : op = 1 ∨ op = 2 ∨ op = 3 ∨ op = 4 ∨ op = 5 ∨ op = 6 ∨ op = 7 ∨ op = 8 ∨ op = 9 ∨ op = 10 ∨ op = 11 ∨ op = 12 ∨ op = 13 ∨ op = 14 ∨ op = 15 ∨ op = 16 ∨ op = 17 := by omega
  all_goals clear h
  all_goals
    go_enter Tryd.func11, Tryd.ntmps11
    go_wp2_with (first | (go_at_call 20; refine (divide_any _ _ _ _).mono ?_; rintro e w' ⟨rfl, rfl⟩) | (go_at_call 21; refine (shift_any _ _ _ _).mono ?_; rintro e w' ⟨rfl, rfl⟩) | (go_at_call 23; refine (holds_any _ _ _ (by decide) (by decide) _).mono ?_; rintro e w' ⟨rfl, rfl⟩) | (go_at_call 22; refine (number_any _ _).mono ?_; rintro e w' ⟨rfl, rfl⟩))
    all_goals go_ret2
    all_goals exact ⟨ret_two (by simp [wTwo]) (by simp [wHas]), rfl⟩
theorem two_out (op a b : Int) (h : op < 1 ∨ 17 < op) (w : World) : Calls Tryd.prog 11 #[.int .i64 op, .int .i64 a, .int .i64 b] w fun e w' => e = .returned (.tuple #[.int .i64 0, .bool false]) ∧ w = w' := by
  have n1 : (op == 1) = false := by simp; omega
  have n2 : (op == 2) = false := by simp; omega
  have n3 : (op == 3) = false := by simp; omega
  have n4 : (op == 4) = false := by simp; omega
  have n5 : (op == 5) = false := by simp; omega
  have n6 : (op == 6) = false := by simp; omega
  have n7 : (op == 7) = false := by simp; omega
  have n8 : (op == 8) = false := by simp; omega
  have n9 : (op == 9) = false := by simp; omega
  have n10 : (op == 10) = false := by simp; omega
  have n11 : (op == 11) = false := by simp; omega
  have n12 : (op == 12) = false := by simp; omega
  have n13 : (op == 13) = false := by simp; omega
  have n14 : (op == 14) = false := by simp; omega
  have n15 : (op == 15) = false := by simp; omega
  have n16 : (op == 16) = false := by simp; omega
  have n17 : (op == 17) = false := by simp; omega
  clear h
  go_enter Tryd.func11, Tryd.ntmps11
  go_wp2
  go_ret2
  exact ⟨rfl, rfl⟩
theorem two_any (op a b : Int) (w : World) : Calls Tryd.prog 11 #[.int .i64 op, .int .i64 a, .int .i64 b] w fun e w' => e = .returned (.tuple #[.int .i64 (wTwo op a b), .bool (wHas op b)]) ∧ w = w' := by
  by_cases h : 1 ≤ op ∧ op ≤ 17
  · exact two_in op a b h w
  · refine (two_out op a b (by omega) w).mono ?_
    rintro e w' ⟨rfl, rfl⟩
    exact ⟨ret_two (wTwo_out op a b (by omega)).symm (wHas_out op b (by omega)).symm, rfl⟩
theorem rtwo_quo (op a b : Int) (h : op = 4 ∨ op = 5) (w : World) : Calls Tryd.prog 12 #[.int .i64 op, .int .i64 a, .int .i64 b] w fun e w' => e = .returned (.tuple #[.int .i64 (wTwo op a b), .bool (wHas op b)]) ∧ w = w' := by
  by_cases hb : b = 0
  · subst hb
    obtain rfl | rfl := h
    all_goals
      go_enter Tryd.func12, Tryd.ntmps12
      go_wp2
      go_ret2
      exact ⟨ret_two (by simp [wTwo, dvd]) (by simp [wHas]), rfl⟩
  · obtain rfl | rfl := h
    all_goals
      go_enter Tryd.func12, Tryd.ntmps12
      go_wp2
      go_ret2
      go_light
      exact ⟨ret_two (by simp [wTwo, dvd, hb]) (by simp [wHas, hb]), rfl⟩
theorem rtwo_in (op a b : Int) (h : 1 ≤ op ∧ op ≤ 17) (w : World) : Calls Tryd.prog 12 #[.int .i64 op, .int .i64 a, .int .i64 b] w fun e w' => e = .returned (.tuple #[.int .i64 (wTwo op a b), .bool (wHas op b)]) ∧ w = w' := by
  have hc := i64_and63 b
  have h0 : 0 ≤ b % 64 := by omega
  have h1 : b % 64 ≤ 63 := by omega
  by_cases hq : op = 4 ∨ op = 5
  · exact rtwo_quo op a b hq w
  obtain rfl | rfl | rfl | rfl | rfl | rfl | rfl | rfl | rfl | rfl | rfl | rfl | rfl | rfl | rfl : op = 1 ∨ op = 2 ∨ op = 3 ∨ op = 6 ∨ op = 7 ∨ op = 8 ∨ op = 9 ∨ op = 10 ∨ op = 11 ∨ op = 12 ∨ op = 13 ∨ op = 14 ∨ op = 15 ∨ op = 16 ∨ op = 17 := by omega
  all_goals clear h hq
  all_goals
    go_enter Tryd.func12, Tryd.ntmps12
    go_wp2_with (go_at_call 24; refine (rflag_any _ _).mono ?_; rintro e w' ⟨rfl, rfl⟩)
    go_ret2
    exact ⟨ret_two (by simp [wTwo, cmp, sft, cnt, IntKind.wrap_u64]) (by simp [wHas]), rfl⟩
theorem rtwo_out (op a b : Int) (h : op < 1 ∨ 17 < op) (w : World) : Calls Tryd.prog 12 #[.int .i64 op, .int .i64 a, .int .i64 b] w fun e w' => e = .returned (.tuple #[.int .i64 0, .bool false]) ∧ w = w' := by
  have n1 : (op == 1) = false := by simp; omega
  have n2 : (op == 2) = false := by simp; omega
  have n3 : (op == 3) = false := by simp; omega
  have n4 : (op == 4) = false := by simp; omega
  have n5 : (op == 5) = false := by simp; omega
  have n6 : (op == 6) = false := by simp; omega
  have n7 : (op == 7) = false := by simp; omega
  have n8 : (op == 8) = false := by simp; omega
  have n9 : (op == 9) = false := by simp; omega
  have n10 : (op == 10) = false := by simp; omega
  have n11 : (op == 11) = false := by simp; omega
  have n12 : (op == 12) = false := by simp; omega
  have n13 : (op == 13) = false := by simp; omega
  have n14 : (op == 14) = false := by simp; omega
  have n15 : (op == 15) = false := by simp; omega
  have n16 : (op == 16) = false := by simp; omega
  have n17 : (op == 17) = false := by simp; omega
  clear h
  go_enter Tryd.func12, Tryd.ntmps12
  go_wp2
  go_ret2
  exact ⟨rfl, rfl⟩
theorem rtwo_any (op a b : Int) (w : World) : Calls Tryd.prog 12 #[.int .i64 op, .int .i64 a, .int .i64 b] w fun e w' => e = .returned (.tuple #[.int .i64 (wTwo op a b), .bool (wHas op b)]) ∧ w = w' := by
  by_cases h : 1 ≤ op ∧ op ≤ 17
  · exact rtwo_in op a b h w
  · refine (rtwo_out op a b (by omega) w).mono ?_
    rintro e w' ⟨rfl, rfl⟩
    exact ⟨ret_two (wTwo_out op a b (by omega)).symm (wHas_out op b (by omega)).symm, rfl⟩
end Go.Proofs.YtbdlofkmcdalaaaDoor
