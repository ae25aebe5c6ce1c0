import Derived.Test.YtakijoblbmfadaaGreatDoorMgPrsPc
import Derived.IntWalk
set_option linter.unusedSimpArgs false
set_option linter.unusedVariables false
/- The laws of parse: many, deep. -/
namespace Go.Proofs.YtakijoblbmfadaaGreatDoor
open Go.RowKit
set_option maxRecDepth 100000 in
theorem lmany_any (s : ByteArray) (n : Int) (w : World) (hs : s.size ≤ 40) (h0 : 0 ≤ n) (h1 : n ≤ 200) : Calls Tryz.prog 13 #[.string s, .int .i64 n] w fun e w' => ∃ r : ByteArray, e = .returned (.string r) ∧ r.size ≤ 8000 ∧ w' = w := by
  go_enter Tryz.func13, Tryz.ntmps13
  go_wp2
  go_loop [5, 6] (fun rv iv => ∃ (k : Nat) (r : ByteArray), (k : Int) ≤ n ∧ iv = .int .i64 k ∧ rv = .string r ∧ r.size ≤ 40 * k) (fun _ iv => 200 - (intOf iv).toNat)
  case atStart => exact ⟨0, ⟨#[]⟩, h0, rfl, rfl, Nat.le_refl _⟩
  case round =>
    obtain ⟨k, r, hk, rfl, rfl, hr⟩ := hrel
    by_cases hlt : (k : Int) < n
    · go_wp2
      go_round
      case rel => exact ⟨k + 1, r ++ s, by omega, by go_num, rfl, by rw [ByteArray.size_append]; omega⟩
      case measure => simp [intOf]; omega
    · go_wp2
      go_ret
      exact ⟨r, rfl, by omega, rfl⟩
set_option maxHeartbeats 6400000 in
set_option maxRecDepth 100000 in
theorem ldeep_any (a b : Int) (w : World) (ht : PT w) (ha : 0 ≤ a ∧ a ≤ 255) (hb : 0 ≤ b ∧ b ≤ 255) : Calls Tryz.prog 5 #[.int .u8 a, .int .u8 b] w fun e w' => e = .returned (.bool true) ∧ Below w.heap.size w w' := by
  have HPT := Lib.hid ht
  obtain ⟨ha0, ha1⟩ := ha
  obtain ⟨hb0, hb1⟩ := hb
  clear ht
  have hj : b % 9 = 0 ∨ b % 9 = 1 ∨ b % 9 = 2 ∨ b % 9 = 3 ∨ b % 9 = 4 ∨ b % 9 = 5 ∨ b % 9 = 6 ∨ b % 9 = 7 ∨ b % 9 = 8 := by omega
  rcases hj with hj | hj | hj | hj | hj | hj | hj | hj | hj
  all_goals
    go_enter Tryz.func5, Tryz.ntmps5
    go_wp2_with (first
      | (go_at_call 13; (with_reducible refine (lmany_any _ _ _ (by decide) (by omega) (by omega)).mono ?_); rintro e w1 ⟨r, rfl, hr, rfl⟩)
      | (go_at_call 8; (with_reducible refine (lawake_any _ (HPT.out.alloc _)).mono ?_); rintro e w3 ⟨rfl, hb⟩
         have HB3 := Lib.hid (((Below.refl _ _).more (Nat.le_refl _) _).trans (hb.mono (by rw [alloc_size]; omega)))
         clear hb)
      | (go_at_call 9; (with_reducible refine (lsame_any _ _ (HPT.out.below HB3.out)).mono ?_); rintro e w4 ⟨rfl, hb⟩
         have HB4 := Lib.hid (HB3.out.trans (hb.mono HB3.out.size))
         clear hb))
    go_ret
    exact ⟨rfl, HB4.out⟩
end Go.Proofs.YtakijoblbmfadaaGreatDoor
