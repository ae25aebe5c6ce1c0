/- The contracts of wrap.rowOf, Sign, Level and of the document's Sign and Level; those of wrap under the condition that wrap.rows reads as the program's text lays it (Tab). -/
import Derived.Test.YtbdlofkmcdalaaaDoorWrapCalls
namespace Go.Proofs.YtbdlofkmcdalaaaDoor
open Go.RowKit
def Tab (w : World) : Prop := ∀ k : Nat, k ≤ 28 → w.cell? ⟨0, k * 2, none⟩ = some (.string (sgn k)) ∧ w.cell? ⟨0, k * 2 + 1, none⟩ = some (.int .i64 (lvl k))
theorem Tab.size {w : World} (h : Tab w) : 0 < w.heap.size := block_lt_of_cell (h 0 (by omega)).1
theorem Grown.cell {w w' : World} (h : Grown w w') {b o : Nat} (hb : b < w.heap.size) : w'.cell? ⟨b, o, none⟩ = w.cell? ⟨b, o, none⟩ := h.1.cell hb (fun f => f)
theorem Tab.grown {w w' : World} (h : Tab w) (g : Grown w w') : Tab w' := fun k hk => ⟨(Grown.cell g h.size).trans (h k hk).1, (Grown.cell g h.size).trans (h k hk).2⟩
theorem Grown.trans {a b c : World} (h : Grown a b) (g : Grown b c) : Grown a c :=
  ⟨World.keptBut_trans h.1 g.1, fun x => (g.2.1 x).trans (h.2.1 x), Nat.le_trans h.2.2 g.2.2⟩
theorem rowOf_in (k : Nat) (h1 : 1 ≤ k) (h2 : k ≤ 28) (w : World) (ht : Tab w) :
    Calls Tryd.prog 25 #[.int .i64 (k : Int)] w fun e w' => e = .returned (.agg #[.string (sgn k), .int .i64 (lvl k)]) ∧ Grown w w' := by
  have hz := ht.size
  obtain ⟨c0, c1⟩ := ht k h2
  clear ht
  go_enter Tryd.func25, Tryd.ntmps25
  go_wp2
  exact bodyPost_ret (v := .agg #[.string (sgn k), .int .i64 (lvl k)]) (by simp [results, Tryd.results25, go_sem]) rfl ⟨rfl, (Grown.refl _).alloc _ _⟩
theorem rowOf_out (op : Int) (h : op < 1 ∨ 28 < op) (w : World) :
    Calls Tryd.prog 25 #[.int .i64 op] w fun e w' => e = .returned (.agg #[.string ⟨#[]⟩, .int .i64 0]) ∧ Grown w w' := by
  rcases h with h | h
  all_goals
    go_enter Tryd.func25, Tryd.ntmps25
    go_wp2
    all_goals exact bodyPost_ret (v := .agg #[.string ⟨#[]⟩, .int .i64 0]) (by simp [results, Tryd.results25, go_sem]) rfl ⟨rfl, (Grown.refl _).alloc _ _⟩
theorem rowOf_any (op : Int) (w : World) (ht : Tab w) :
    Calls Tryd.prog 25 #[.int .i64 op] w fun e w' => e = .returned (.agg #[.string (sgnOf op), .int .i64 (lvlOf op)]) ∧ Grown w w' := by
  by_cases h : 1 ≤ op ∧ op ≤ 28
  · obtain ⟨k, rfl⟩ := Int.eq_ofNat_of_zero_le (show 0 ≤ op by omega)
    have e1 : sgnOf (k : Int) = sgn k := by unfold sgnOf; rw [if_pos h]; rfl
    have e2 : lvlOf (k : Int) = lvl k := by unfold lvlOf; rw [if_pos h]; rfl
    rw [e1, e2]
    exact rowOf_in k (by omega) (by omega) w ht
  · have e1 : sgnOf op = ⟨#[]⟩ := by unfold sgnOf; rw [if_neg h]
    have e2 : lvlOf op = 0 := by unfold lvlOf; rw [if_neg h]
    rw [e1, e2]
    exact rowOf_out op (by omega) w
theorem sign_any (op : Int) (w : World) (ht : Tab w) :
    Calls Tryd.prog 16 #[.int .i64 op] w fun e w' => e = .returned (.string (sgnOf op)) ∧ Grown w w' := by
  have hf : ∀ (s : ByteArray) (l : Int) (w : World), (Instr.field 42 (.agg #[.string s, .int .i64 l]) 0).run Tryd.prog w = .ok (.string s) w := fun _ _ _ => by kernel_rfl
  go_enter Tryd.func16, Tryd.ntmps16
  go_wp2_with (go_at_call 25; refine (rowOf_any _ _ ht).mono ?_; rintro e w' ⟨rfl, hg⟩)
  go_ret
  exact ⟨rfl, hg⟩
theorem level_any (op : Int) (w : World) (ht : Tab w) :
    Calls Tryd.prog 18 #[.int .i64 op] w fun e w' => e = .returned (.int .i64 (lvlOf op)) ∧ Grown w w' := by
  have hf : ∀ (s : ByteArray) (l : Int) (w : World), (Instr.field 42 (.agg #[.string s, .int .i64 l]) 1).run Tryd.prog w = .ok (.int .i64 l) w := fun _ _ _ => by kernel_rfl
  go_enter Tryd.func18, Tryd.ntmps18
  go_wp2_with (go_at_call 25; refine (rowOf_any _ _ ht).mono ?_; rintro e w' ⟨rfl, hg⟩)
  go_ret
  exact ⟨rfl, hg⟩
/-- The document's list of signs: 28 strings in a new block. -/
theorem signs_any (w : World) : Calls Tryd.prog 26 #[] w fun e w' => ∃ C : Array Value, (∀ j : Nat, j < 28 → C[j]? = some (.string (sgn (j + 1)))) ∧ e = .returned (.slice (some ⟨w.heap.size, 0, none⟩) 28 28) ∧ w' = w.alloc (.cells C 9) := by
  go_enter Tryd.func26, Tryd.ntmps26
  go_wp2
  go_ret
  refine ⟨_, ?_, rfl, rfl⟩
  intro j hj
  obtain rfl | rfl | rfl | rfl | rfl | rfl | rfl | rfl | rfl | rfl | rfl | rfl | rfl | rfl | rfl | rfl | rfl | rfl | rfl | rfl | rfl | rfl | rfl | rfl | rfl | rfl | rfl | rfl : j = 0 ∨ j = 1 ∨ j = 2 ∨ j = 3 ∨ j = 4 ∨ j = 5 ∨ j = 6 ∨ j = 7 ∨ j = 8 ∨ j = 9 ∨ j = 10 ∨ j = 11 ∨ j = 12 ∨ j = 13 ∨ j = 14 ∨ j = 15 ∨ j = 16 ∨ j = 17 ∨ j = 18 ∨ j = 19 ∨ j = 20 ∨ j = 21 ∨ j = 22 ∨ j = 23 ∨ j = 24 ∨ j = 25 ∨ j = 26 ∨ j = 27 := by omega
  all_goals rfl
theorem rsign_in (k : Nat) (h : k < 28) (w : World) : Calls Tryd.prog 17 #[.int .i64 ((k : Int) + 1)] w fun e w' => e = .returned (.string (sgn (k + 1))) ∧ Grown w w' := by
  go_enter Tryd.func17, Tryd.ntmps17
  go_wp2_with (go_at_call 26; refine (signs_any _).mono ?_; rintro e w' ⟨C, hC, rfl, rfl⟩; have hc := hC k h; clear hC)
  go_goals
  go_ret
  exact ⟨rfl, (Grown.refl _).alloc _ _⟩
theorem rsign_out (op : Int) (h : op < 1 ∨ 28 < op) (w : World) : Calls Tryd.prog 17 #[.int .i64 op] w fun e w' => e = .returned (.string ⟨#[]⟩) ∧ Grown w w' := by
  rcases h with h | h
  all_goals
    go_enter Tryd.func17, Tryd.ntmps17
    go_wp2
    all_goals go_ret
    all_goals exact ⟨rfl, Grown.refl _⟩
theorem rsign_any (op : Int) (w : World) : Calls Tryd.prog 17 #[.int .i64 op] w fun e w' => e = .returned (.string (sgnOf op)) ∧ Grown w w' := by
  by_cases h : 1 ≤ op ∧ op ≤ 28
  · obtain ⟨k, hk⟩ := Int.eq_ofNat_of_zero_le (show 0 ≤ op - 1 by omega)
    obtain rfl : op = (k : Int) + 1 := by omega
    have e1 : sgnOf ((k : Int) + 1) = sgn (k + 1) := by unfold sgnOf; rw [if_pos h]; rfl
    rw [e1]
    exact rsign_in k (by omega) w
  · have e1 : sgnOf op = ⟨#[]⟩ := by unfold sgnOf; rw [if_neg h]
    rw [e1]
    exact rsign_out op (by omega) w
theorem rlevel_in (op : Int) (h : 1 ≤ op ∧ op ≤ 19) (w : World) : Calls Tryd.prog 19 #[.int .i64 op] w fun e w' => e = .returned (.int .i64 (lvlOf op)) ∧ w = w' := by
  obtain rfl | rfl | rfl | rfl | rfl | rfl | rfl | rfl | rfl | rfl | rfl | rfl | rfl | rfl | rfl | rfl | rfl | rfl | rfl : op = 1 ∨ op = 2 ∨ op = 3 ∨ op = 4 ∨ op = 5 ∨ op = 6 ∨ op = 7 ∨ op = 8 ∨ op = 9 ∨ op = 10 ∨ op = 11 ∨ op = 12 ∨ op = 13 ∨ op = 14 ∨ op = 15 ∨ op = 16 ∨ op = 17 ∨ op = 18 ∨ op = 19 := by omega
  all_goals clear h
  all_goals
    go_enter Tryd.func19, Tryd.ntmps19
    go_wp2
    go_ret
    exact ⟨rfl, rfl⟩
theorem lvlOf_out (op : Int) (h : op < 1 ∨ 19 < op) : lvlOf op = 0 := by
  unfold lvlOf
  split
  · rename_i h'
    obtain rfl | rfl | rfl | rfl | rfl | rfl | rfl | rfl | rfl : op = 20 ∨ op = 21 ∨ op = 22 ∨ op = 23 ∨ op = 24 ∨ op = 25 ∨ op = 26 ∨ op = 27 ∨ op = 28 := by omega
    all_goals rfl
  · rfl
theorem rlevel_out (op : Int) (h : op < 1 ∨ 19 < op) (w : World) : Calls Tryd.prog 19 #[.int .i64 op] w fun e w' => e = .returned (.int .i64 0) ∧ w = w' := by
  have n1 : (op == 1) = false := by simp; omega
  have n2 : (op == 2) = false := by simp; omega
  have n3 : (op == 3) = false := by simp; omega
  have n4 : (op == 4) = false := by simp; omega
  have n5 : (op == 5) = false := by simp; omega
  have n6 : (op == 6) = false := by simp; omega
  have n7 : (op == 7) = false := by simp; omega
  have n8 : (op == 8) = false := by simp; omega
  have n9 : (op == 9) = false := by simp; omega
  have n10 : (op == 10) = false := by simp; omega
  have n11 : (op == 11) = false := by simp; omega
  have n12 : (op == 12) = false := by simp; omega
  have n13 : (op == 13) = false := by simp; omega
  have n14 : (op == 14) = false := by simp; omega
  have n15 : (op == 15) = false := by simp; omega
  have n16 : (op == 16) = false := by simp; omega
  have n17 : (op == 17) = false := by simp; omega
  have n18 : (op == 18) = false := by simp; omega
  have n19 : (op == 19) = false := by simp; omega
  clear h
  go_enter Tryd.func19, Tryd.ntmps19
  go_wp2
  go_ret
  exact ⟨rfl, rfl⟩
theorem rlevel_any (op : Int) (w : World) : Calls Tryd.prog 19 #[.int .i64 op] w fun e w' => e = .returned (.int .i64 (lvlOf op)) ∧ w = w' := by
  by_cases h : 1 ≤ op ∧ op ≤ 19
  · exact rlevel_in op h w
  · rw [lvlOf_out op (by omega)]
    exact rlevel_out op (by omega) w
end Go.Proofs.YtbdlofkmcdalaaaDoor
