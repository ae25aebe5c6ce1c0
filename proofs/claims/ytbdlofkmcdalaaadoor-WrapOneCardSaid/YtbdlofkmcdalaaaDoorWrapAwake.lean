/- awake (what any right program answers) and the eight laws of the layer wrap return true, where wrap.rows reads as the program's text lays it (Tab), for all integers of their kinds. -/
import Derived.Test.YtbdlofkmcdalaaaDoorWrapTab
namespace Go.Proofs.YtbdlofkmcdalaaaDoor
open Go.RowKit
theorem two_c1 (w : World) : Calls Tryd.prog 11 #[.int .i64 11, .int .i64 (-1), .int .i64 60] w fun e w' => e = .returned (.tuple #[.int .i64 15, .bool true]) ∧ w = w' := by
  have h := two_any 11 (-1) 60 w
  rwa [show wTwo 11 (-1) 60 = 15 by decide +kernel, show wHas 11 60 = true by decide] at h
theorem two_c2 (w : World) : Calls Tryd.prog 11 #[.int .i64 4, .int .i64 (-7), .int .i64 2] w fun e w' => e = .returned (.tuple #[.int .i64 (-3), .bool true]) ∧ w = w' := by
  have h := two_any 4 (-7) 2 w
  rwa [show wTwo 4 (-7) 2 = -3 by decide +kernel, show wHas 4 2 = true by decide] at h
theorem one_c (w : World) : Calls Tryd.prog 14 #[.int .i64 23, .int .i64 200] w fun e w' => e = .returned (.int .i64 (-56)) ∧ w = w' := by
  have h := one_any 23 200 rfl w
  rwa [show wOne 23 200 = -56 by decide] at h
theorem sign_c (w : World) (ht : Tab w) : Calls Tryd.prog 16 #[.int .i64 9] w fun e w' => e = .returned (.string ⟨#[60, 60]⟩) ∧ Grown w w' := by
  have h := sign_any 9 w ht
  rwa [show sgnOf 9 = ⟨#[60, 60]⟩ by decide] at h
theorem level_c (w : World) (ht : Tab w) : Calls Tryd.prog 18 #[.int .i64 3] w fun e w' => e = .returned (.int .i64 10) ∧ Grown w w' := by
  have h := level_any 3 w ht
  rwa [show lvlOf 3 = 10 by decide] at h
theorem awake_any (w : World) (ht : Tab w) : Calls Tryd.prog 13 #[] w fun e w' => e = .returned (.bool true) ∧ Grown w w' := by
  go_enter Tryd.func13, Tryd.ntmps13
  go_wp2_with (first | (go_at_call 11; (with_reducible refine (two_c1 _).mono ?_); rintro e w' ⟨rfl, rfl⟩) | (go_at_call 11; (with_reducible refine (two_c2 _).mono ?_); rintro e w' ⟨rfl, rfl⟩) | (go_at_call 14; (with_reducible refine (one_c _).mono ?_); rintro e w' ⟨rfl, rfl⟩) | (go_at_call 16; (with_reducible refine (sign_c _ ht).mono ?_); rintro e w1 ⟨rfl, hg1⟩) | (go_at_call 18; (with_reducible refine (level_c _ (ht.grown hg1)).mono ?_); rintro e w2 ⟨rfl, hg2⟩))
  go_ret
  exact ⟨rfl, Grown.trans hg1 hg2⟩
theorem wrapTwo_law (op a b : Int) (w : World) (ht : Tab w) : Calls Tryd.prog 3 #[.int .i64 op, .int .i64 a, .int .i64 b] w fun e w' => e = .returned (.bool true) ∧ Grown w w' := by
  go_enter Tryd.func3, Tryd.ntmps3
  go_wp2_with (first | (go_at_call 11; (with_reducible refine (two_any _ _ _ _).mono ?_); rintro e w' ⟨rfl, rfl⟩) | (go_at_call 12; (with_reducible refine (rtwo_any _ _ _ _).mono ?_); rintro e w' ⟨rfl, rfl⟩) | (go_at_call 13; (with_reducible refine (awake_any _ ht).mono ?_); rintro e w1 ⟨rfl, hg⟩))
  go_ret
  exact ⟨rfl, hg⟩
theorem wrapSmall_law (op a b : Int) (ho : 0 ≤ op ∧ op ≤ 255) (ha : (Lit.int .i64 a).wf = true) (w : World) (ht : Tab w) : Calls Tryd.prog 4 #[.int .u8 op, .int .i64 a, .int .i64 b] w fun e w' => e = .returned (.bool true) ∧ Grown w w' := by
  obtain ⟨ho1, ho2⟩ := ho
  go_enter Tryd.func4, Tryd.ntmps4
  go_wp2_with (first | (go_at_call 11; (with_reducible refine (two_any _ _ _ _).mono ?_); rintro e w' ⟨rfl, rfl⟩) | (go_at_call 12; (with_reducible refine (rtwo_any _ _ _ _).mono ?_); rintro e w' ⟨rfl, rfl⟩) | (go_at_call 13; (with_reducible refine (awake_any _ ht).mono ?_); rintro e w1 ⟨rfl, hg⟩) | (go_at_call 14; (with_reducible refine (one_any _ _ ha _).mono ?_); rintro e w' ⟨rfl, rfl⟩) | (go_at_call 15; (with_reducible refine (rone_any _ _ ha _).mono ?_); rintro e w' ⟨rfl, rfl⟩))
  go_ret
  exact ⟨rfl, hg⟩
theorem wrapOne_law (op a : Int) (ha : (Lit.int .i64 a).wf = true) (w : World) (ht : Tab w) : Calls Tryd.prog 5 #[.int .i64 op, .int .i64 a] w fun e w' => e = .returned (.bool true) ∧ Grown w w' := by
  go_enter Tryd.func5, Tryd.ntmps5
  go_wp2_with (first | (go_at_call 13; (with_reducible refine (awake_any _ ht).mono ?_); rintro e w1 ⟨rfl, hg⟩) | (go_at_call 14; (with_reducible refine (one_any _ _ ha _).mono ?_); rintro e w' ⟨rfl, rfl⟩) | (go_at_call 15; (with_reducible refine (rone_any _ _ ha _).mono ?_); rintro e w' ⟨rfl, rfl⟩) | (go_at_call 16; (with_reducible refine (sign_any _ _ (ht.grown hg)).mono ?_); rintro e w2 ⟨rfl, hg2⟩) | (go_at_call 17; (with_reducible refine (rsign_any _ _).mono ?_); rintro e w3 ⟨rfl, hg3⟩) | (go_at_call 18; (with_reducible refine (level_any _ _ ((ht.grown hg).grown (Grown.trans hg2 hg3))).mono ?_); rintro e w4 ⟨rfl, hg4⟩) | (go_at_call 19; (with_reducible refine (rlevel_any _ _).mono ?_); rintro e w' ⟨rfl, rfl⟩))
  go_ret
  exact ⟨rfl, Grown.trans hg (Grown.trans (Grown.trans hg2 hg3) hg4)⟩
theorem wrapSigns_law (op : Int) (ho : 0 ≤ op ∧ op ≤ 255) (w : World) (ht : Tab w) : Calls Tryd.prog 6 #[.int .u8 op] w fun e w' => e = .returned (.bool true) ∧ Grown w w' := by
  obtain ⟨ho1, ho2⟩ := ho
  go_enter Tryd.func6, Tryd.ntmps6
  go_wp2_with (first | (go_at_call 13; (with_reducible refine (awake_any _ ht).mono ?_); rintro e w1 ⟨rfl, hg⟩) | (go_at_call 16; (with_reducible refine (sign_any _ _ (ht.grown hg)).mono ?_); rintro e w2 ⟨rfl, hg2⟩) | (go_at_call 17; (with_reducible refine (rsign_any _ _).mono ?_); rintro e w3 ⟨rfl, hg3⟩) | (go_at_call 18; (with_reducible refine (level_any _ _ ((ht.grown hg).grown (Grown.trans hg2 hg3))).mono ?_); rintro e w4 ⟨rfl, hg4⟩) | (go_at_call 19; (with_reducible refine (rlevel_any _ _).mono ?_); rintro e w' ⟨rfl, rfl⟩))
  go_ret
  exact ⟨rfl, Grown.trans hg (Grown.trans (Grown.trans hg2 hg3) hg4)⟩
end Go.Proofs.YtbdlofkmcdalaaaDoor
