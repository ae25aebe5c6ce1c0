/- The laws WrapDivides, WrapOrder, WrapMoves, WrapConverts return true for all integers of their kinds, where wrap.rows reads as the program's text lays it (Tab). -/
import Derived.Test.YtbdlofkmcdalaaaDoorWrapAwake
namespace Go.Proofs.YtbdlofkmcdalaaaDoor
open Go.RowKit
theorem back_div (a b : Int) (ha : (Lit.int .i64 a).wf = true) : wrap64 (wrap64 (wrap64 (a.tdiv b) * b) + a.tmod b) = a := by
  have h := bounds_i64 ha
  have e := Int.mul_tdiv_add_tmod a b
  rw [Int.mul_comm] at e
  have k : ∀ x : Int, ∃ j : Int, wrap64 x = x + j * 18446744073709551616 := by
    intro x
    refine ⟨-((x + 9223372036854775808) / 18446744073709551616), ?_⟩
    unfold wrap64; omega
  obtain ⟨j1, e1⟩ := k (a.tdiv b)
  obtain ⟨j2, e2⟩ := k (wrap64 (a.tdiv b) * b)
  rw [e2, e1, Int.add_mul]
  have e3 : j1 * 18446744073709551616 * b = (j1 * b) * 18446744073709551616 := by rw [Int.mul_assoc, Int.mul_assoc, Int.mul_comm 18446744073709551616 b]
  rw [e3]
  generalize a.tdiv b * b = x at *
  generalize a.tmod b = y at *
  generalize j1 * b = z at *
  unfold wrap64; omega
theorem tmod_bd (a b : Int) : (0 < b → -b < a.tmod b ∧ a.tmod b < b) ∧ (b < 0 → b < a.tmod b ∧ a.tmod b < -b) := by
  refine ⟨fun h => ⟨Int.lt_tmod_of_pos a h, Int.tmod_lt_of_pos a h⟩, fun h => ?_⟩
  have := Int.lt_tmod_of_pos a (b := -b) (by omega)
  have h2 := Int.tmod_lt_of_pos a (b := -b) (by omega)
  rw [Int.tmod_neg] at this h2
  omega
theorem two_quo0 (a : Int) (w : World) : Calls Tryd.prog 11 #[.int .i64 4, .int .i64 a, .int .i64 0] w fun e w' => e = .returned (.tuple #[.int .i64 0, .bool false]) ∧ w = w' := two_any 4 a 0 w
theorem two_rem0 (a : Int) (w : World) : Calls Tryd.prog 11 #[.int .i64 5, .int .i64 a, .int .i64 0] w fun e w' => e = .returned (.tuple #[.int .i64 0, .bool false]) ∧ w = w' := two_any 5 a 0 w
theorem two_is (op a b n : Int) (h : wTwo op a b = n) (hh : wHas op b = true) (w : World) : Calls Tryd.prog 11 #[.int .i64 op, .int .i64 a, .int .i64 b] w fun e w' => e = .returned (.tuple #[.int .i64 n, .bool true]) ∧ w = w' := by
  have := two_any op a b w
  rwa [h, hh] at this
theorem divides_zero (a : Int) (w : World) (ht : Tab w) : Calls Tryd.prog 7 #[.int .i64 a, .int .i64 0] w fun e w' => e = .returned (.bool true) ∧ Grown w w' := by
  go_enter Tryd.func7, Tryd.ntmps7
  go_wp2_with (first | (go_at_call 13; (with_reducible refine (awake_any _ ht).mono ?_); rintro e w1 ⟨rfl, hg⟩) | (go_at_call 11; (with_reducible refine (two_quo0 _ _).mono ?_); rintro e w' ⟨rfl, rfl⟩) | (go_at_call 11; (with_reducible refine (two_rem0 _ _).mono ?_); rintro e w' ⟨rfl, rfl⟩))
  go_ret
  exact ⟨rfl, hg⟩
theorem divides_not (a b : Int) (ha : (Lit.int .i64 a).wf = true) (hw : (Lit.int .i64 b).wf = true) (hb : b ≠ 0) (w : World) (ht : Tab w) : Calls Tryd.prog 7 #[.int .i64 a, .int .i64 b] w fun e w' => e = .returned (.bool true) ∧ Grown w w' := by
  have hbd := bounds_i64 hw
  have hH : ∀ op, 1 ≤ op ∧ op ≤ 17 → wHas op b = true := by
    intro op ho
    have : decide (b = 0) = false := by simpa using hb
    simp [wHas, this, ho.1, ho.2]
  have hm := tmod_bd a b
  have hback := back_div a b ha
  obtain ⟨q, hq⟩ : ∃ q, wTwo 4 a b = q := ⟨_, rfl⟩
  obtain ⟨r, hr⟩ : ∃ r, wTwo 5 a b = r := ⟨_, rfl⟩
  obtain ⟨n, hn⟩ : ∃ n, wTwo 3 q b = n := ⟨_, rfl⟩
  have eq : q = wrap64 (a.tdiv b) := by rw [← hq]; simp [wTwo, dvd, hb]
  have er : r = a.tmod b := by rw [← hr]; simp [wTwo, dvd, hb]
  have en : n = wrap64 (q * b) := by rw [← hn]; simp [wTwo]
  have hs : wTwo 1 n r = a := by
    show wrap64 (n + r) = a
    rw [en, eq, er]; exact hback
  have c1 := two_is 4 a b q hq (hH 4 (by decide))
  have c2 := two_is 5 a b r hr (hH 5 (by decide))
  have c3 := two_is 3 q b n hn (hH 3 (by decide))
  have c4 := two_is 1 n r a hs rfl
  rw [← er] at hm
  have hm1 := hm.1
  have hm2 := hm.2
  have hne : (b == 0) = false := by simpa using hb
  clear hm hback hq hr hn eq er en hs hH hw ha hb
  by_cases hmin : b = -9223372036854775808
  · subst hmin
    clear hm1 hm2
    go_enter Tryd.func7, Tryd.ntmps7
    go_wp2_with (first | (go_at_call 13; (with_reducible refine (awake_any _ ht).mono ?_); rintro e w1 ⟨rfl, hg⟩) | (go_at_call 11; (with_reducible refine (c1 _).mono ?_); rintro e w' ⟨rfl, rfl⟩) | (go_at_call 11; (with_reducible refine (c2 _).mono ?_); rintro e w' ⟨rfl, rfl⟩) | (go_at_call 11; (with_reducible refine (c3 _).mono ?_); rintro e w' ⟨rfl, rfl⟩) | (go_at_call 11; (with_reducible refine (c4 _).mono ?_); rintro e w' ⟨rfl, rfl⟩))
    all_goals go_ret
    all_goals exact ⟨rfl, hg⟩
  · have hmn : (b == -9223372036854775808) = false := by simpa using hmin
    by_cases hp : 0 < b
    · obtain ⟨r1, r2⟩ := hm1 hp
      clear hm1 hm2
      have d1 : decide (0 < b) = true := by simpa using hp
      have d2 : decide (r < b) = true := by simpa using r2
      have d3 : decide (-r < b) = true := by simp; omega
      go_enter Tryd.func7, Tryd.ntmps7
      go_wp2_with (first | (go_at_call 13; (with_reducible refine (awake_any _ ht).mono ?_); rintro e w1 ⟨rfl, hg⟩) | (go_at_call 11; (with_reducible refine (c1 _).mono ?_); rintro e w' ⟨rfl, rfl⟩) | (go_at_call 11; (with_reducible refine (c2 _).mono ?_); rintro e w' ⟨rfl, rfl⟩) | (go_at_call 11; (with_reducible refine (c3 _).mono ?_); rintro e w' ⟨rfl, rfl⟩) | (go_at_call 11; (with_reducible refine (c4 _).mono ?_); rintro e w' ⟨rfl, rfl⟩))
      all_goals go_ret
      all_goals exact ⟨rfl, hg⟩
    · have hn : b < 0 := by
        have : ¬ b = 0 := by simpa using hne
        omega
      obtain ⟨r1, r2⟩ := hm2 hn
      clear hm1 hm2
      have d1 : decide (0 < b) = false := by simpa using hp
      have d0 : decide (b < 0) = true := by simpa using hn
      have d2 : decide (r < -b) = true := by simpa using r2
      have d3 : decide (-r < -b) = true := by simp; omega
      go_enter Tryd.func7, Tryd.ntmps7
      go_wp2_with (first | (go_at_call 13; (with_reducible refine (awake_any _ ht).mono ?_); rintro e w1 ⟨rfl, hg⟩) | (go_at_call 11; (with_reducible refine (c1 _).mono ?_); rintro e w' ⟨rfl, rfl⟩) | (go_at_call 11; (with_reducible refine (c2 _).mono ?_); rintro e w' ⟨rfl, rfl⟩) | (go_at_call 11; (with_reducible refine (c3 _).mono ?_); rintro e w' ⟨rfl, rfl⟩) | (go_at_call 11; (with_reducible refine (c4 _).mono ?_); rintro e w' ⟨rfl, rfl⟩))
      all_goals go_ret
      all_goals exact ⟨rfl, hg⟩
theorem order_law (a b : Int) (w : World) (ht : Tab w) : Calls Tryd.prog 10 #[.int .i64 a, .int .i64 b] w fun e w' => e = .returned (.bool true) ∧ Grown w w' := by
  have hH : ∀ op, 12 ≤ op ∧ op ≤ 17 → wHas op b = true := by
    intro op ho
    have h1 : decide (1 ≤ op) = true := by simp; omega
    have h2 : decide (op ≤ 17) = true := by simp; omega
    have h3 : decide (op = 4) = false := by simp; omega
    have h4 : decide (op = 5) = false := by simp; omega
    simp [wHas, h1, h2, h3, h4]
  rcases (show a < b ∨ a = b ∨ b < a by omega) with h | h | h
  · have c12 := two_is 12 a b 1 (by simp [wTwo, cmp, flag]; omega) (hH 12 (by decide))
    have c16 := two_is 16 a b 0 (by simp [wTwo, cmp, flag]; omega) (hH 16 (by decide))
    have c14 := two_is 14 a b 0 (by simp [wTwo, cmp, flag]; omega) (hH 14 (by decide))
    have c13 := two_is 13 a b 1 (by simp [wTwo, cmp, flag]; omega) (hH 13 (by decide))
    have c15 := two_is 15 a b 0 (by simp [wTwo, cmp, flag]; omega) (hH 15 (by decide))
    have c17 := two_is 17 a b 1 (by simp [wTwo, cmp, flag]; omega) (hH 17 (by decide))
    clear hH h
    go_enter Tryd.func10, Tryd.ntmps10
    go_wp2_with (first | (go_at_call 13; (with_reducible refine (awake_any _ ht).mono ?_); rintro e w1 ⟨rfl, hg⟩) | (go_at_call 11; (with_reducible refine (c12 _).mono ?_); rintro e w' ⟨rfl, rfl⟩) | (go_at_call 11; (with_reducible refine (c16 _).mono ?_); rintro e w' ⟨rfl, rfl⟩) | (go_at_call 11; (with_reducible refine (c14 _).mono ?_); rintro e w' ⟨rfl, rfl⟩) | (go_at_call 11; (with_reducible refine (c13 _).mono ?_); rintro e w' ⟨rfl, rfl⟩) | (go_at_call 11; (with_reducible refine (c15 _).mono ?_); rintro e w' ⟨rfl, rfl⟩) | (go_at_call 11; (with_reducible refine (c17 _).mono ?_); rintro e w' ⟨rfl, rfl⟩))
    go_ret
    exact ⟨rfl, hg⟩
  · have c12 := two_is 12 a b 0 (by simp [wTwo, cmp, flag]; omega) (hH 12 (by decide))
    have c16 := two_is 16 a b 1 (by simp [wTwo, cmp, flag]; omega) (hH 16 (by decide))
    have c14 := two_is 14 a b 0 (by simp [wTwo, cmp, flag]; omega) (hH 14 (by decide))
    have c13 := two_is 13 a b 1 (by simp [wTwo, cmp, flag]; omega) (hH 13 (by decide))
    have c15 := two_is 15 a b 1 (by simp [wTwo, cmp, flag]; omega) (hH 15 (by decide))
    have c17 := two_is 17 a b 0 (by simp [wTwo, cmp, flag]; omega) (hH 17 (by decide))
    clear hH h
    go_enter Tryd.func10, Tryd.ntmps10
    go_wp2_with (first | (go_at_call 13; (with_reducible refine (awake_any _ ht).mono ?_); rintro e w1 ⟨rfl, hg⟩) | (go_at_call 11; (with_reducible refine (c12 _).mono ?_); rintro e w' ⟨rfl, rfl⟩) | (go_at_call 11; (with_reducible refine (c16 _).mono ?_); rintro e w' ⟨rfl, rfl⟩) | (go_at_call 11; (with_reducible refine (c14 _).mono ?_); rintro e w' ⟨rfl, rfl⟩) | (go_at_call 11; (with_reducible refine (c13 _).mono ?_); rintro e w' ⟨rfl, rfl⟩) | (go_at_call 11; (with_reducible refine (c15 _).mono ?_); rintro e w' ⟨rfl, rfl⟩) | (go_at_call 11; (with_reducible refine (c17 _).mono ?_); rintro e w' ⟨rfl, rfl⟩))
    go_ret
    exact ⟨rfl, hg⟩
  · have c12 := two_is 12 a b 0 (by simp [wTwo, cmp, flag]; omega) (hH 12 (by decide))
    have c16 := two_is 16 a b 0 (by simp [wTwo, cmp, flag]; omega) (hH 16 (by decide))
    have c14 := two_is 14 a b 1 (by simp [wTwo, cmp, flag]; omega) (hH 14 (by decide))
    have c13 := two_is 13 a b 0 (by simp [wTwo, cmp, flag]; omega) (hH 13 (by decide))
    have c15 := two_is 15 a b 1 (by simp [wTwo, cmp, flag]; omega) (hH 15 (by decide))
    have c17 := two_is 17 a b 1 (by simp [wTwo, cmp, flag]; omega) (hH 17 (by decide))
    clear hH h
    go_enter Tryd.func10, Tryd.ntmps10
    go_wp2_with (first | (go_at_call 13; (with_reducible refine (awake_any _ ht).mono ?_); rintro e w1 ⟨rfl, hg⟩) | (go_at_call 11; (with_reducible refine (c12 _).mono ?_); rintro e w' ⟨rfl, rfl⟩) | (go_at_call 11; (with_reducible refine (c16 _).mono ?_); rintro e w' ⟨rfl, rfl⟩) | (go_at_call 11; (with_reducible refine (c14 _).mono ?_); rintro e w' ⟨rfl, rfl⟩) | (go_at_call 11; (with_reducible refine (c13 _).mono ?_); rintro e w' ⟨rfl, rfl⟩) | (go_at_call 11; (with_reducible refine (c15 _).mono ?_); rintro e w' ⟨rfl, rfl⟩) | (go_at_call 11; (with_reducible refine (c17 _).mono ?_); rintro e w' ⟨rfl, rfl⟩))
    go_ret
    exact ⟨rfl, hg⟩
theorem two_pow_split (c : Nat) (hc : c < 64) : (18446744073709551616 : Int) = ((2 ^ (64 - c) : Nat) : Int) * ((2 ^ c : Nat) : Int) := by
  have : (2 ^ 64 : Nat) = 2 ^ (64 - c) * 2 ^ c := by rw [← Nat.pow_add]; congr 1; omega
  have h : ((18446744073709551616 : Nat) : Int) = ((2 ^ (64 - c) * 2 ^ c : Nat) : Int) := congrArg _ this
  rw [Int.natCast_mul] at h
  exact h
theorem wrap64_split (x : Int) : ∃ j : Int, wrap64 x = x + j * 18446744073709551616 := by
  refine ⟨-((x + 9223372036854775808) / 18446744073709551616), ?_⟩
  unfold wrap64; omega
theorem wrap64_emod (x : Int) : wrap64 x % 18446744073709551616 = x % 18446744073709551616 := by unfold wrap64; omega
theorem moves_math (a k : Int) (ha : (Lit.int .i64 a).wf = true) :
    wTwo 11 (wTwo 9 a k) k = bits .and .i64 a (wTwo 11 (-1) k) ∧ bits .and .i64 (wTwo 10 (wTwo 9 a k) k) (wTwo 11 (-1) k) = bits .and .i64 a (wTwo 11 (-1) k) := by
  have hb := bounds_i64 ha
  have hc := cnt_lt k
  have e9 : wTwo 9 a k = wrap64 (a * ((2 ^ cnt k : Nat) : Int)) := by simp [wTwo, sft]
  have e10 : ∀ n, wTwo 10 n k = n / ((2 ^ cnt k : Nat) : Int) := by intro n; simp [wTwo, sft]
  have e11 : ∀ n, wTwo 11 n k = wrap64 (n % 18446744073709551616 / ((2 ^ cnt k : Nat) : Int)) := by intro n; simp [wTwo, sft]
  rw [e10, e11, e11, e9, wrap64_emod]
  clear e9 e10 e11
  generalize cnt k = c at *
  have hs := two_pow_split c hc
  have hP : (1 : Int) ≤ ((2 ^ c : Nat) : Int) := by have := Nat.one_le_two_pow (n := c); omega
  by_cases h0 : c = 0
  · subst h0
    have e1 : wrap64 (a * ((2 ^ 0 : Nat) : Int)) = a := by simp only [Nat.pow_zero]; unfold wrap64; omega
    have e2 : wrap64 ((-1 : Int) % 18446744073709551616 / ((2 ^ 0 : Nat) : Int)) = -1 := by decide +kernel
    have e3 : wrap64 (a * ((2 ^ 0 : Nat) : Int) % 18446744073709551616 / ((2 ^ 0 : Nat) : Int)) = a := by simp only [Nat.pow_zero]; unfold wrap64; omega
    have e4 : a / ((2 ^ 0 : Nat) : Int) = a := by simp
    rw [e1, e2, e3, e4]
    have e5 : bits .and .i64 a (-1) = a := by
      have h1 := ofInt64_toNat a
      show IntKind.i64.wrap ((BitVec.ofInt 64 a &&& BitVec.ofInt 64 (-1)).toNat : Nat) = _
      have e : BitVec.ofInt 64 a &&& BitVec.ofInt 64 (-1) = BitVec.ofInt 64 a := by
        have : (BitVec.ofInt 64 (-1)) = BitVec.allOnes 64 := by decide
        rw [this, BitVec.and_allOnes]
      rw [e, IntKind.wrap_i64]
      omega
    exact ⟨e5.symm, rfl⟩
  · have hj : 64 - c ≤ 63 := by omega
    have hQ : (2 ^ (64 - c) : Nat) ≤ 2 ^ 63 := Nat.pow_le_pow_right (by decide) hj
    have hQ1 : 1 ≤ (2 ^ (64 - c) : Nat) := Nat.one_le_two_pow
    have em := fun z => i64_and_mask z (64 - c) hj
    obtain ⟨t, ht⟩ := wrap64_split (a * ((2 ^ c : Nat) : Int))
    have e1 : wrap64 ((-1 : Int) % 18446744073709551616 / ((2 ^ c : Nat) : Int)) = ((2 ^ (64 - c) - 1 : Nat) : Int) := by
      have h1 : (-1 : Int) % 18446744073709551616 = ((2 ^ (64 - c) : Nat) : Int) * ((2 ^ c : Nat) : Int) - 1 := by omega
      have h2 : (((2 ^ (64 - c) : Nat) : Int) * ((2 ^ c : Nat) : Int) - 1) / ((2 ^ c : Nat) : Int) = ((2 ^ (64 - c) : Nat) : Int) - 1 := by
        have : ((2 ^ (64 - c) : Nat) : Int) * ((2 ^ c : Nat) : Int) - 1 = (((2 ^ c : Nat) : Int) - 1) + (((2 ^ (64 - c) : Nat) : Int) - 1) * ((2 ^ c : Nat) : Int) := by rw [Int.sub_mul]; omega
        rw [this, Int.add_mul_ediv_right _ _ (by omega), Int.ediv_eq_zero_of_lt (by omega) (by omega)]; omega
      rw [h1, h2]
      unfold wrap64; omega
    have e2 : a * ((2 ^ c : Nat) : Int) % 18446744073709551616 / ((2 ^ c : Nat) : Int) = a % ((2 ^ (64 - c) : Nat) : Int) := by
      rw [hs, Int.mul_comm a, Int.mul_comm ((2 ^ (64 - c) : Nat) : Int), Int.mul_emod_mul_of_pos _ _ (by omega)]
      exact Int.mul_ediv_cancel_left _ (by omega)
    have e3 : wrap64 (a * ((2 ^ c : Nat) : Int)) / ((2 ^ c : Nat) : Int) = a + t * ((2 ^ (64 - c) : Nat) : Int) := by
      rw [ht, hs, ← Int.mul_assoc, ← Int.add_mul]
      exact Int.mul_ediv_cancel _ (by omega)
    rw [e1, em, e2, e3, em, Int.add_mul_emod_self_right]
    refine ⟨?_, rfl⟩
    have h1 := Int.emod_nonneg a (b := ((2 ^ (64 - c) : Nat) : Int)) (by omega)
    have h2 := Int.emod_lt_of_pos a (b := ((2 ^ (64 - c) : Nat) : Int)) (by omega)
    unfold wrap64; omega
theorem one_is (op a n : Int) (h : wOne op a = n) (ha : (Lit.int .i64 a).wf = true) (w : World) : Calls Tryd.prog 14 #[.int .i64 op, .int .i64 a] w fun e w' => e = .returned (.int .i64 n) ∧ w = w' := by
  have := one_any op a ha w
  rwa [h] at this
theorem moves_law (a k : Int) (ha : (Lit.int .i64 a).wf = true) (w : World) (ht : Tab w) : Calls Tryd.prog 9 #[.int .i64 a, .int .i64 k] w fun e w' => e = .returned (.bool true) ∧ Grown w w' := by
  have hb := bounds_i64 ha
  have hm := moves_math a k ha
  obtain ⟨n, hn⟩ : ∃ n, wTwo 9 a k = n := ⟨_, rfl⟩
  rw [hn] at hm
  obtain ⟨m, hm'⟩ : ∃ m, wTwo 11 n k = m := ⟨_, rfl⟩
  obtain ⟨s, hs⟩ : ∃ s, wTwo 10 n k = s := ⟨_, rfl⟩
  obtain ⟨mask, hk⟩ : ∃ mask, wTwo 11 (-1) k = mask := ⟨_, rfl⟩
  rw [hm', hs, hk] at hm
  obtain ⟨x, hx⟩ : ∃ x, wOne 21 a = x := ⟨_, rfl⟩
  obtain ⟨y, hy⟩ : ∃ y, wOne 20 a = y := ⟨_, rfl⟩
  have ex : x = -1 - a := by rw [← hx]; simp [wOne]
  have ey : y = wrap64 (-a) := by rw [← hy]; simp [wOne]
  have hx' : wOne 21 x = a := by rw [ex]; simp [wOne]; omega
  have hy' : wOne 20 y = a := by rw [ey]; show wrap64 (-wrap64 (-a)) = a; unfold wrap64; omega
  have wx : (Lit.int .i64 x).wf = true := by rw [ex]; simp [Lit.wf, IntKind.min, IntKind.max, IntKind.signed, IntKind.bits]; omega
  have wy : (Lit.int .i64 y).wf = true := by rw [ey]; exact wrap64_wf _
  have c1 := two_is 9 a k n hn rfl
  have c2 := two_is 11 n k m hm' rfl
  have c3 := two_is 10 n k s hs rfl
  have c4 := two_is 11 (-1) k mask hk rfl
  have c5 := one_is 21 a x hx ha
  have c6 := one_is 21 x a hx' wx
  have c7 := one_is 20 a y hy ha
  have c8 := one_is 20 y a hy' wy
  have t1 : (m == bits .and .i64 a mask) = true := by simpa using hm.1
  have t2 : (bits .and .i64 s mask == bits .and .i64 a mask) = true := by simpa using hm.2
  clear hb hm hn hm' hs hk hx hy ex ey hx' hy' wx wy ha
  go_enter Tryd.func9, Tryd.ntmps9
  go_wp2_with (first | (go_at_call 13; (with_reducible refine (awake_any _ ht).mono ?_); rintro e w1 ⟨rfl, hg⟩) | (go_at_call 11; (with_reducible refine (c1 _).mono ?_); rintro e w' ⟨rfl, rfl⟩) | (go_at_call 11; (with_reducible refine (c2 _).mono ?_); rintro e w' ⟨rfl, rfl⟩) | (go_at_call 11; (with_reducible refine (c3 _).mono ?_); rintro e w' ⟨rfl, rfl⟩) | (go_at_call 11; (with_reducible refine (c4 _).mono ?_); rintro e w' ⟨rfl, rfl⟩) | (go_at_call 14; (with_reducible refine (c5 _).mono ?_); rintro e w' ⟨rfl, rfl⟩) | (go_at_call 14; (with_reducible refine (c6 _).mono ?_); rintro e w' ⟨rfl, rfl⟩) | (go_at_call 14; (with_reducible refine (c7 _).mono ?_); rintro e w' ⟨rfl, rfl⟩) | (go_at_call 14; (with_reducible refine (c8 _).mono ?_); rintro e w' ⟨rfl, rfl⟩))
  go_ret
  exact ⟨rfl, hg⟩
theorem conv_math (i : Nat) (hi : i < 6) (a : Int) (ha : (Lit.int .i64 a).wf = true) :
    ∃ n, wOne (23 + i) a = n ∧ wOne (23 + i) n = n ∧ (Lit.int .i64 n).wf = true ∧ ([-128, -32768, -2147483648, 0, 0, 0] : List Int).getD i 0 ≤ n ∧ n ≤ ([127, 32767, 2147483647, 255, 65535, 4294967295] : List Int).getD i 0 ∧
      (([-128, -32768, -2147483648, 0, 0, 0] : List Int).getD i 0 ≤ a → a ≤ ([127, 32767, 2147483647, 255, 65535, 4294967295] : List Int).getD i 0 → n = a) ∧ (n - a) % 256 = 0 := by
  have hb := bounds_i64 ha
  have hw : ∀ n : Int, -9223372036854775808 ≤ n → n ≤ 9223372036854775807 → (Lit.int .i64 n).wf = true := by
    intro n h1 h2
    simp [Lit.wf, IntKind.min, IntKind.max, IntKind.signed, IntKind.bits]; omega
  have e8 : ∀ x : Int, IntKind.i8.wrap x = (x + 128) % 256 - 128 := by
    intro x; simp only [IntKind.wrap, IntKind.bits, IntKind.signed]; simp; split <;> omega
  have e16 : ∀ x : Int, IntKind.i16.wrap x = (x + 32768) % 65536 - 32768 := by
    intro x; simp only [IntKind.wrap, IntKind.bits, IntKind.signed]; simp; split <;> omega
  obtain rfl | rfl | rfl | rfl | rfl | rfl : i = 0 ∨ i = 1 ∨ i = 2 ∨ i = 3 ∨ i = 4 ∨ i = 5 := by omega
  · refine ⟨(a + 128) % 256 - 128, by simp [wOne, e8], by simp [wOne, e8], hw _ (by omega) (by omega), ?_, ?_, ?_, by omega⟩ <;> simp <;> omega
  · refine ⟨(a + 32768) % 65536 - 32768, by simp [wOne, e16], by simp [wOne, e16], hw _ (by omega) (by omega), ?_, ?_, ?_, by omega⟩ <;> simp <;> omega
  · refine ⟨(a + 2147483648) % 4294967296 - 2147483648, by simp [wOne, wrap32], by simp [wOne, wrap32], hw _ (by omega) (by omega), ?_, ?_, ?_, by omega⟩ <;> simp <;> omega
  · refine ⟨a % 256, by simp [wOne], by simp [wOne], hw _ (by omega) (by omega), ?_, ?_, ?_, by omega⟩ <;> simp <;> omega
  · refine ⟨a % 65536, by simp [wOne], by simp [wOne], hw _ (by omega) (by omega), ?_, ?_, ?_, by omega⟩ <;> simp <;> omega
  · refine ⟨a % 4294967296, by simp [wOne], by simp [wOne], hw _ (by omega) (by omega), ?_, ?_, ?_, by omega⟩ <;> simp <;> omega
theorem wrap_sub_and (n a : Int) (h : (n - a) % 256 = 0) : bits .and .i64 (wrap64 (n - a)) 255 = 0 := by
  rw [i64_and255]; unfold wrap64; omega
theorem conv_law0 (a which : Int) (h0 : 0 ≤ which) (h1 : which ≤ 255) (hr : which % 6 = 0) (ha : (Lit.int .i64 a).wf = true) (w : World) (ht : Tab w) :
    Calls Tryd.prog 8 #[.int .i64 a, .int .u8 which] w fun e w' => e = .returned (.bool true) ∧ Grown w w' := by
  obtain ⟨n, hn, hnn, hwn, hlo, hhi, hin, hs⟩ := conv_math 0 (by decide) a ha
  have c1 := one_is 23 a n hn ha
  have c2 := one_is 23 n n hnn hwn
  have s1 := wrap_sub_and n a hs
  have s2 : bits .and .i64 (n - a) 255 = 0 := by rw [i64_and255]; exact hs
  have l1 : -128 ≤ n := hlo
  have l2 : n ≤ 127 := hhi
  have hin' : -128 ≤ a → a ≤ 127 → n = a := hin
  clear hn hnn hwn hlo hhi hin hs ha
  rcases (show a < -128 ∨ 127 < a ∨ (-128 ≤ a ∧ a ≤ 127) by omega) with h | h | ⟨h, h'⟩
  · clear hin'
    go_enter Tryd.func8, Tryd.ntmps8
    go_wp2_with (first | (go_at_call 13; (with_reducible refine (awake_any _ ht).mono ?_); rintro e w1 ⟨rfl, hg⟩) | (go_at_call 14; (with_reducible refine (c1 _).mono ?_); rintro e w' ⟨rfl, rfl⟩) | (go_at_call 14; (with_reducible refine (c2 _).mono ?_); rintro e w' ⟨rfl, rfl⟩))
    go_ret
    exact ⟨rfl, (Grown.alloc (Grown.alloc hg _ _) _ _)⟩
  · clear hin'
    go_enter Tryd.func8, Tryd.ntmps8
    go_wp2_with (first | (go_at_call 13; (with_reducible refine (awake_any _ ht).mono ?_); rintro e w1 ⟨rfl, hg⟩) | (go_at_call 14; (with_reducible refine (c1 _).mono ?_); rintro e w' ⟨rfl, rfl⟩) | (go_at_call 14; (with_reducible refine (c2 _).mono ?_); rintro e w' ⟨rfl, rfl⟩))
    go_ret
    exact ⟨rfl, (Grown.alloc (Grown.alloc hg _ _) _ _)⟩
  · have e : (n == a) = true := by simpa using hin' h h'
    clear hin'
    go_enter Tryd.func8, Tryd.ntmps8
    go_wp2_with (first | (go_at_call 13; (with_reducible refine (awake_any _ ht).mono ?_); rintro e w1 ⟨rfl, hg⟩) | (go_at_call 14; (with_reducible refine (c1 _).mono ?_); rintro e w' ⟨rfl, rfl⟩) | (go_at_call 14; (with_reducible refine (c2 _).mono ?_); rintro e w' ⟨rfl, rfl⟩))
    go_ret
    exact ⟨rfl, (Grown.alloc (Grown.alloc hg _ _) _ _)⟩
theorem conv_law1 (a which : Int) (h0 : 0 ≤ which) (h1 : which ≤ 255) (hr : which % 6 = 1) (ha : (Lit.int .i64 a).wf = true) (w : World) (ht : Tab w) :
    Calls Tryd.prog 8 #[.int .i64 a, .int .u8 which] w fun e w' => e = .returned (.bool true) ∧ Grown w w' := by
  obtain ⟨n, hn, hnn, hwn, hlo, hhi, hin, hs⟩ := conv_math 1 (by decide) a ha
  have c1 := one_is 24 a n hn ha
  have c2 := one_is 24 n n hnn hwn
  have s1 := wrap_sub_and n a hs
  have s2 : bits .and .i64 (n - a) 255 = 0 := by rw [i64_and255]; exact hs
  have l1 : -32768 ≤ n := hlo
  have l2 : n ≤ 32767 := hhi
  have hin' : -32768 ≤ a → a ≤ 32767 → n = a := hin
  clear hn hnn hwn hlo hhi hin hs ha
  rcases (show a < -32768 ∨ 32767 < a ∨ (-32768 ≤ a ∧ a ≤ 32767) by omega) with h | h | ⟨h, h'⟩
  · clear hin'
    go_enter Tryd.func8, Tryd.ntmps8
    go_wp2_with (first | (go_at_call 13; (with_reducible refine (awake_any _ ht).mono ?_); rintro e w1 ⟨rfl, hg⟩) | (go_at_call 14; (with_reducible refine (c1 _).mono ?_); rintro e w' ⟨rfl, rfl⟩) | (go_at_call 14; (with_reducible refine (c2 _).mono ?_); rintro e w' ⟨rfl, rfl⟩))
    go_ret
    exact ⟨rfl, (Grown.alloc (Grown.alloc hg _ _) _ _)⟩
  · clear hin'
    go_enter Tryd.func8, Tryd.ntmps8
    go_wp2_with (first | (go_at_call 13; (with_reducible refine (awake_any _ ht).mono ?_); rintro e w1 ⟨rfl, hg⟩) | (go_at_call 14; (with_reducible refine (c1 _).mono ?_); rintro e w' ⟨rfl, rfl⟩) | (go_at_call 14; (with_reducible refine (c2 _).mono ?_); rintro e w' ⟨rfl, rfl⟩))
    go_ret
    exact ⟨rfl, (Grown.alloc (Grown.alloc hg _ _) _ _)⟩
  · have e : (n == a) = true := by simpa using hin' h h'
    clear hin'
    go_enter Tryd.func8, Tryd.ntmps8
    go_wp2_with (first | (go_at_call 13; (with_reducible refine (awake_any _ ht).mono ?_); rintro e w1 ⟨rfl, hg⟩) | (go_at_call 14; (with_reducible refine (c1 _).mono ?_); rintro e w' ⟨rfl, rfl⟩) | (go_at_call 14; (with_reducible refine (c2 _).mono ?_); rintro e w' ⟨rfl, rfl⟩))
    go_ret
    exact ⟨rfl, (Grown.alloc (Grown.alloc hg _ _) _ _)⟩
theorem conv_law2 (a which : Int) (h0 : 0 ≤ which) (h1 : which ≤ 255) (hr : which % 6 = 2) (ha : (Lit.int .i64 a).wf = true) (w : World) (ht : Tab w) :
    Calls Tryd.prog 8 #[.int .i64 a, .int .u8 which] w fun e w' => e = .returned (.bool true) ∧ Grown w w' := by
  obtain ⟨n, hn, hnn, hwn, hlo, hhi, hin, hs⟩ := conv_math 2 (by decide) a ha
  have c1 := one_is 25 a n hn ha
  have c2 := one_is 25 n n hnn hwn
  have s1 := wrap_sub_and n a hs
  have s2 : bits .and .i64 (n - a) 255 = 0 := by rw [i64_and255]; exact hs
  have l1 : -2147483648 ≤ n := hlo
  have l2 : n ≤ 2147483647 := hhi
  have hin' : -2147483648 ≤ a → a ≤ 2147483647 → n = a := hin
  clear hn hnn hwn hlo hhi hin hs ha
  rcases (show a < -2147483648 ∨ 2147483647 < a ∨ (-2147483648 ≤ a ∧ a ≤ 2147483647) by omega) with h | h | ⟨h, h'⟩
  · clear hin'
    go_enter Tryd.func8, Tryd.ntmps8
    go_wp2_with (first | (go_at_call 13; (with_reducible refine (awake_any _ ht).mono ?_); rintro e w1 ⟨rfl, hg⟩) | (go_at_call 14; (with_reducible refine (c1 _).mono ?_); rintro e w' ⟨rfl, rfl⟩) | (go_at_call 14; (with_reducible refine (c2 _).mono ?_); rintro e w' ⟨rfl, rfl⟩))
    go_ret
    exact ⟨rfl, (Grown.alloc (Grown.alloc hg _ _) _ _)⟩
  · clear hin'
    go_enter Tryd.func8, Tryd.ntmps8
    go_wp2_with (first | (go_at_call 13; (with_reducible refine (awake_any _ ht).mono ?_); rintro e w1 ⟨rfl, hg⟩) | (go_at_call 14; (with_reducible refine (c1 _).mono ?_); rintro e w' ⟨rfl, rfl⟩) | (go_at_call 14; (with_reducible refine (c2 _).mono ?_); rintro e w' ⟨rfl, rfl⟩))
    go_ret
    exact ⟨rfl, (Grown.alloc (Grown.alloc hg _ _) _ _)⟩
  · have e : (n == a) = true := by simpa using hin' h h'
    clear hin'
    go_enter Tryd.func8, Tryd.ntmps8
    go_wp2_with (first | (go_at_call 13; (with_reducible refine (awake_any _ ht).mono ?_); rintro e w1 ⟨rfl, hg⟩) | (go_at_call 14; (with_reducible refine (c1 _).mono ?_); rintro e w' ⟨rfl, rfl⟩) | (go_at_call 14; (with_reducible refine (c2 _).mono ?_); rintro e w' ⟨rfl, rfl⟩))
    go_ret
    exact ⟨rfl, (Grown.alloc (Grown.alloc hg _ _) _ _)⟩
theorem conv_law3 (a which : Int) (h0 : 0 ≤ which) (h1 : which ≤ 255) (hr : which % 6 = 3) (ha : (Lit.int .i64 a).wf = true) (w : World) (ht : Tab w) :
    Calls Tryd.prog 8 #[.int .i64 a, .int .u8 which] w fun e w' => e = .returned (.bool true) ∧ Grown w w' := by
  obtain ⟨n, hn, hnn, hwn, hlo, hhi, hin, hs⟩ := conv_math 3 (by decide) a ha
  have c1 := one_is 26 a n hn ha
  have c2 := one_is 26 n n hnn hwn
  have s1 := wrap_sub_and n a hs
  have s2 : bits .and .i64 (n - a) 255 = 0 := by rw [i64_and255]; exact hs
  have l1 : 0 ≤ n := hlo
  have l2 : n ≤ 255 := hhi
  have hin' : 0 ≤ a → a ≤ 255 → n = a := hin
  clear hn hnn hwn hlo hhi hin hs ha
  rcases (show a < 0 ∨ 255 < a ∨ (0 ≤ a ∧ a ≤ 255) by omega) with h | h | ⟨h, h'⟩
  · clear hin'
    go_enter Tryd.func8, Tryd.ntmps8
    go_wp2_with (first | (go_at_call 13; (with_reducible refine (awake_any _ ht).mono ?_); rintro e w1 ⟨rfl, hg⟩) | (go_at_call 14; (with_reducible refine (c1 _).mono ?_); rintro e w' ⟨rfl, rfl⟩) | (go_at_call 14; (with_reducible refine (c2 _).mono ?_); rintro e w' ⟨rfl, rfl⟩))
    go_ret
    exact ⟨rfl, (Grown.alloc (Grown.alloc hg _ _) _ _)⟩
  · clear hin'
    go_enter Tryd.func8, Tryd.ntmps8
    go_wp2_with (first | (go_at_call 13; (with_reducible refine (awake_any _ ht).mono ?_); rintro e w1 ⟨rfl, hg⟩) | (go_at_call 14; (with_reducible refine (c1 _).mono ?_); rintro e w' ⟨rfl, rfl⟩) | (go_at_call 14; (with_reducible refine (c2 _).mono ?_); rintro e w' ⟨rfl, rfl⟩))
    go_ret
    exact ⟨rfl, (Grown.alloc (Grown.alloc hg _ _) _ _)⟩
  · have e : (n == a) = true := by simpa using hin' h h'
    clear hin'
    go_enter Tryd.func8, Tryd.ntmps8
    go_wp2_with (first | (go_at_call 13; (with_reducible refine (awake_any _ ht).mono ?_); rintro e w1 ⟨rfl, hg⟩) | (go_at_call 14; (with_reducible refine (c1 _).mono ?_); rintro e w' ⟨rfl, rfl⟩) | (go_at_call 14; (with_reducible refine (c2 _).mono ?_); rintro e w' ⟨rfl, rfl⟩))
    go_ret
    exact ⟨rfl, (Grown.alloc (Grown.alloc hg _ _) _ _)⟩
theorem conv_law4 (a which : Int) (h0 : 0 ≤ which) (h1 : which ≤ 255) (hr : which % 6 = 4) (ha : (Lit.int .i64 a).wf = true) (w : World) (ht : Tab w) :
    Calls Tryd.prog 8 #[.int .i64 a, .int .u8 which] w fun e w' => e = .returned (.bool true) ∧ Grown w w' := by
  obtain ⟨n, hn, hnn, hwn, hlo, hhi, hin, hs⟩ := conv_math 4 (by decide) a ha
  have c1 := one_is 27 a n hn ha
  have c2 := one_is 27 n n hnn hwn
  have s1 := wrap_sub_and n a hs
  have s2 : bits .and .i64 (n - a) 255 = 0 := by rw [i64_and255]; exact hs
  have l1 : 0 ≤ n := hlo
  have l2 : n ≤ 65535 := hhi
  have hin' : 0 ≤ a → a ≤ 65535 → n = a := hin
  clear hn hnn hwn hlo hhi hin hs ha
  rcases (show a < 0 ∨ 65535 < a ∨ (0 ≤ a ∧ a ≤ 65535) by omega) with h | h | ⟨h, h'⟩
  · clear hin'
    go_enter Tryd.func8, Tryd.ntmps8
    go_wp2_with (first | (go_at_call 13; (with_reducible refine (awake_any _ ht).mono ?_); rintro e w1 ⟨rfl, hg⟩) | (go_at_call 14; (with_reducible refine (c1 _).mono ?_); rintro e w' ⟨rfl, rfl⟩) | (go_at_call 14; (with_reducible refine (c2 _).mono ?_); rintro e w' ⟨rfl, rfl⟩))
    go_ret
    exact ⟨rfl, (Grown.alloc (Grown.alloc hg _ _) _ _)⟩
  · clear hin'
    go_enter Tryd.func8, Tryd.ntmps8
    go_wp2_with (first | (go_at_call 13; (with_reducible refine (awake_any _ ht).mono ?_); rintro e w1 ⟨rfl, hg⟩) | (go_at_call 14; (with_reducible refine (c1 _).mono ?_); rintro e w' ⟨rfl, rfl⟩) | (go_at_call 14; (with_reducible refine (c2 _).mono ?_); rintro e w' ⟨rfl, rfl⟩))
    go_ret
    exact ⟨rfl, (Grown.alloc (Grown.alloc hg _ _) _ _)⟩
  · have e : (n == a) = true := by simpa using hin' h h'
    clear hin'
    go_enter Tryd.func8, Tryd.ntmps8
    go_wp2_with (first | (go_at_call 13; (with_reducible refine (awake_any _ ht).mono ?_); rintro e w1 ⟨rfl, hg⟩) | (go_at_call 14; (with_reducible refine (c1 _).mono ?_); rintro e w' ⟨rfl, rfl⟩) | (go_at_call 14; (with_reducible refine (c2 _).mono ?_); rintro e w' ⟨rfl, rfl⟩))
    go_ret
    exact ⟨rfl, (Grown.alloc (Grown.alloc hg _ _) _ _)⟩
theorem conv_law5 (a which : Int) (h0 : 0 ≤ which) (h1 : which ≤ 255) (hr : which % 6 = 5) (ha : (Lit.int .i64 a).wf = true) (w : World) (ht : Tab w) :
    Calls Tryd.prog 8 #[.int .i64 a, .int .u8 which] w fun e w' => e = .returned (.bool true) ∧ Grown w w' := by
  obtain ⟨n, hn, hnn, hwn, hlo, hhi, hin, hs⟩ := conv_math 5 (by decide) a ha
  have c1 := one_is 28 a n hn ha
  have c2 := one_is 28 n n hnn hwn
  have s1 := wrap_sub_and n a hs
  have s2 : bits .and .i64 (n - a) 255 = 0 := by rw [i64_and255]; exact hs
  have l1 : 0 ≤ n := hlo
  have l2 : n ≤ 4294967295 := hhi
  have hin' : 0 ≤ a → a ≤ 4294967295 → n = a := hin
  clear hn hnn hwn hlo hhi hin hs ha
  rcases (show a < 0 ∨ 4294967295 < a ∨ (0 ≤ a ∧ a ≤ 4294967295) by omega) with h | h | ⟨h, h'⟩
  · clear hin'
    go_enter Tryd.func8, Tryd.ntmps8
    go_wp2_with (first | (go_at_call 13; (with_reducible refine (awake_any _ ht).mono ?_); rintro e w1 ⟨rfl, hg⟩) | (go_at_call 14; (with_reducible refine (c1 _).mono ?_); rintro e w' ⟨rfl, rfl⟩) | (go_at_call 14; (with_reducible refine (c2 _).mono ?_); rintro e w' ⟨rfl, rfl⟩))
    go_ret
    exact ⟨rfl, (Grown.alloc (Grown.alloc hg _ _) _ _)⟩
  · clear hin'
    go_enter Tryd.func8, Tryd.ntmps8
    go_wp2_with (first | (go_at_call 13; (with_reducible refine (awake_any _ ht).mono ?_); rintro e w1 ⟨rfl, hg⟩) | (go_at_call 14; (with_reducible refine (c1 _).mono ?_); rintro e w' ⟨rfl, rfl⟩) | (go_at_call 14; (with_reducible refine (c2 _).mono ?_); rintro e w' ⟨rfl, rfl⟩))
    go_ret
    exact ⟨rfl, (Grown.alloc (Grown.alloc hg _ _) _ _)⟩
  · have e : (n == a) = true := by simpa using hin' h h'
    clear hin'
    go_enter Tryd.func8, Tryd.ntmps8
    go_wp2_with (first | (go_at_call 13; (with_reducible refine (awake_any _ ht).mono ?_); rintro e w1 ⟨rfl, hg⟩) | (go_at_call 14; (with_reducible refine (c1 _).mono ?_); rintro e w' ⟨rfl, rfl⟩) | (go_at_call 14; (with_reducible refine (c2 _).mono ?_); rintro e w' ⟨rfl, rfl⟩))
    go_ret
    exact ⟨rfl, (Grown.alloc (Grown.alloc hg _ _) _ _)⟩
theorem conv_law (a which : Int) (hw : 0 ≤ which ∧ which ≤ 255) (ha : (Lit.int .i64 a).wf = true) (w : World) (ht : Tab w) :
    Calls Tryd.prog 8 #[.int .i64 a, .int .u8 which] w fun e w' => e = .returned (.bool true) ∧ Grown w w' := by
  rcases (show which % 6 = 0 ∨ which % 6 = 1 ∨ which % 6 = 2 ∨ which % 6 = 3 ∨ which % 6 = 4 ∨ which % 6 = 5 by omega) with h | h | h | h | h | h
  · exact conv_law0 a which hw.1 hw.2 h ha w ht
  · exact conv_law1 a which hw.1 hw.2 h ha w ht
  · exact conv_law2 a which hw.1 hw.2 h ha w ht
  · exact conv_law3 a which hw.1 hw.2 h ha w ht
  · exact conv_law4 a which hw.1 hw.2 h ha w ht
  · exact conv_law5 a which hw.1 hw.2 h ha w ht
theorem divides_law (a b : Int) (ha : (Lit.int .i64 a).wf = true) (hb : (Lit.int .i64 b).wf = true) (w : World) (ht : Tab w) :
    Calls Tryd.prog 7 #[.int .i64 a, .int .i64 b] w fun e w' => e = .returned (.bool true) ∧ Grown w w' := by
  by_cases h : b = 0
  · subst h; exact divides_zero a w ht
  · exact divides_not a b ha hb h w ht
end Go.Proofs.YtbdlofkmcdalaaaDoor
