/- The law TreeDeep returns true, of statements: where the calls behind its loop answer alike. -/
import Derived.Test.YtomdcgifkkmopaaDoorTreeTail
import Derived.Deep.RegionHeld3
namespace Go.Proofs.YtomdcgifkkmopaaDoor
open Go.RowKit
set_option maxHeartbeats 4000000 in
set_option maxRecDepth 100000 in
theorem whiles_law (n k : Int) (hn0 : 0 ≤ n) (hn1 : n ≤ 255) (hk0 : 0 ≤ k) (hk1 : k ≤ 255) (w : World) (hk : k % 4 = 2) (hT : Tails w) :
    Calls Tryd.prog 3 #[.int .u8 n, .int .u8 k] w fun e w' => e = .returned (.bool true) ∧ Below w.heap.size w w' := by
  go_enter Tryd.func3, Tryd.ntmps3
  go_wp2_with (fail)
  go_loopw [6, 7] (fun lv iv wr => ∃ i : Nat, i ≤ 109 ∧ iv = .int .i64 i ∧ SlS wr.heap.size wr lv (whiles i) ∧ Below w.heap.size w wr) (fun _ iv _ => 109 - (intOf iv).toNat)
  case atStart => exact ⟨0, Nat.zero_le _, rfl, slS_nil _ _, (Below.refl _ _).alloc (Nat.le_refl _) _⟩
  case round =>
    obtain ⟨i, hi, rfl, hs, hb⟩ := hrel
    obtain ⟨A, cap, hlv, hln⟩ := hs.form
    obtain ⟨L, hL0⟩ : ∃ L, (whiles i).length = L := ⟨_, rfl⟩
    rw [hL0] at hlv
    subst hlv
    have HS := Lib.hid hs
    clear hs hln hL0
    by_cases hin : (i : Int) < 90 + n % 20
    · have HI : Hid ((i : Int) < 90 + n % 20) := Lib.hid hin
      have HTT := Lib.hid hT
      clear hT
      go_wp2_with (fail)
      go_roundw
      case rel => exact ⟨i + 1, by have := HI.out; omega, by go_num, whiles_made wr i _ HS.out, (hb.alloc hb.size _).alloc (by rw [alloc_size]; have := hb.size; omega) _⟩
      case measure =>
        have := HI.out
        simp [intOf]
        omega
    · skip
      obtain ⟨W, hW⟩ : ∃ W, rowed wr [.cells #[.string ⟨#[102]⟩, .int .i64 1, .slice none 0 0, .slice A L cap] 30, .cells #[.slice none 0 0, .slice (some ⟨wr.heap.size, 0, none⟩) 1 1] 34] = W := ⟨_, rfl⟩
      have hs : W.heap.size = wr.heap.size + 2 := hW ▸ rowed_size _ _
      have hwW : Below w.heap.size w W := hW ▸ rowed_below _ hb hb.size
      have hF : SlF W.heap.size W (.slice (some ⟨wr.heap.size, 0, none⟩) 1 1) [⟨⟨#[102]⟩, 1, [], whiles i⟩] := slF_at (hW ▸ rowed_at [.cells #[.string ⟨#[102]⟩, .int .i64 1, .slice none 0 0, .slice A L cap] 30, .cells #[.slice none 0 0, .slice (some ⟨wr.heap.size, 0, none⟩) 1 1] 34] wr 0 _ rfl) (by omega) (HS.out.below (hW ▸ rowed_below _ (Below.refl wr.heap.size wr) (Nat.le_refl _)) (by omega))
      have hL : (stsT (whiles i) 1).length ≤ 1000000 := by have h4 := whiles_len i 1 (by omega); omega
      have hp : W.heap[wr.heap.size + 1]? = _ := hW ▸ rowed_at [.cells #[.string ⟨#[102]⟩, .int .i64 1, .slice none 0 0, .slice A L cap] 30, .cells #[.slice none 0 0, .slice (some ⟨wr.heap.size, 0, none⟩) 1 1] 34] wr 1 _ rfl
      obtain ⟨S, C, T, hc⟩ := hT W (.slice (some ⟨wr.heap.size, 0, none⟩) 1 1) _ hwW hF hL
      have k0 : W.cell? ⟨wr.heap.size + 1, 0, none⟩ = some (.slice none 0 0) := by rw [Lib.cell_of_heap hp]; rfl
      have k1 : W.cell? ⟨wr.heap.size + 1, 1, none⟩ = some (.slice (some ⟨wr.heap.size, 0, none⟩) 1 1) := by rw [Lib.cell_of_heap hp]; rfl
      have hlt : wr.heap.size + 1 < W.heap.size := by omega
      have HP := Lib.hid hp
      have HC := Lib.hid hc
      have HT := Lib.hid hT
      simp only [rowed] at hW
      have HW := Lib.hid hW
      clear hF hp hc hL hT hs hW
      go_wp2_with (fail)
      rw [HW.out]
      clear HW
      go_at_call 4
      refine (HC.out.print _ (Below.refl _ _)).mono ?_
      rintro e w1 ⟨rfl, hb1⟩
      have h1 := (hb1.block _ hlt).trans HP.out
      have l0 : w1.cell? ⟨wr.heap.size + 1, 0, none⟩ = some (.slice none 0 0) := by rw [Lib.cell_of_heap h1]; rfl
      have l1 : w1.cell? ⟨wr.heap.size + 1, 1, none⟩ = some (.slice (some ⟨wr.heap.size, 0, none⟩) 1 1) := by rw [Lib.cell_of_heap h1]; rfl
      clear h1
      go_wp2_with (go_at_call 5; (with_reducible refine (HC.out.rprint _ hb1).mono ?_); rintro e w2 ⟨rfl, hb2⟩)
      have hb12 := hb1.trans hb2
      have h2 := (hb12.block _ hlt).trans HP.out
      have m0 : w2.cell? ⟨wr.heap.size + 1, 0, none⟩ = some (.slice none 0 0) := by rw [Lib.cell_of_heap h2]; rfl
      have m1 : w2.cell? ⟨wr.heap.size + 1, 1, none⟩ = some (.slice (some ⟨wr.heap.size, 0, none⟩) 1 1) := by rw [Lib.cell_of_heap h2]; rfl
      clear h2
      have HKEEP : Hid (∀ w', Below W.heap.size W w' → w'.cell? ⟨wr.heap.size + 1, 0, none⟩ = some (.slice none 0 0) ∧ w'.cell? ⟨wr.heap.size + 1, 1, none⟩ = some (.slice (some ⟨wr.heap.size, 0, none⟩) 1 1) ∧ Below W.heap.size W w') := fun w' h => ⟨(by rw [Lib.cell_of_heap ((h.block _ hlt).trans HP.out)]; rfl), (by rw [Lib.cell_of_heap ((h.block _ hlt).trans HP.out)]; rfl), h⟩
      go_region_held3 (fun w' => w'.cell? ⟨wr.heap.size + 1, 0, none⟩ = some (.slice none 0 0) ∧ w'.cell? ⟨wr.heap.size + 1, 1, none⟩ = some (.slice (some ⟨wr.heap.size, 0, none⟩) 1 1) ∧ Below W.heap.size W w')
        (first
          | exact HKEEP.out _ (by assumption)
          | exact HKEEP.out _ hb12.drew
          | go_keep)
        (first
          | (go_at_call 6; go_split_ands; (with_reducible refine (HC.out.awake _ (by assumption)).mono ?_); rintro e w3 ⟨rfl, hb3⟩)
          | (go_at_call 7; go_split_ands; (with_reducible refine (HC.out.right _ (by assumption)).mono ?_); rintro e w3 ⟨rfl, hb3⟩)
          | (go_at_call 8; go_split_ands; (with_reducible refine (HC.out.rright _ (by assumption)).mono ?_); rintro e w3 ⟨rfl, hb3⟩))
      all_goals (go_wp2_with (fail))
      all_goals (go_split_ands; go_ret; exact ⟨rfl, hwW.trans (Below.mono (by assumption : Below W.heap.size W _) hwW.size)⟩)
set_option maxHeartbeats 4000000 in
set_option maxRecDepth 100000 in
theorem elses_law (n k : Int) (hn0 : 0 ≤ n) (hn1 : n ≤ 255) (hk0 : 0 ≤ k) (hk1 : k ≤ 255) (w : World) (hk : k % 4 = 3) (hT : Tails w) :
    Calls Tryd.prog 3 #[.int .u8 n, .int .u8 k] w fun e w' => e = .returned (.bool true) ∧ Below w.heap.size w w' := by
  go_enter Tryd.func3, Tryd.ntmps3
  go_wp2_with (fail)
  go_loopw [6, 7] (fun lv iv wr => ∃ i : Nat, i ≤ 109 ∧ iv = .int .i64 i ∧ SlS wr.heap.size wr lv (elses i) ∧ Below w.heap.size w wr) (fun _ iv _ => 109 - (intOf iv).toNat)
  case atStart => exact ⟨0, Nat.zero_le _, rfl, slS_nil _ _, (Below.refl _ _).alloc (Nat.le_refl _) _⟩
  case round =>
    obtain ⟨i, hi, rfl, hs, hb⟩ := hrel
    obtain ⟨A, cap, hlv, hln⟩ := hs.form
    obtain ⟨L, hL0⟩ : ∃ L, (elses i).length = L := ⟨_, rfl⟩
    rw [hL0] at hlv
    subst hlv
    have HS := Lib.hid hs
    clear hs hln hL0
    by_cases hin : (i : Int) < 90 + n % 20
    · have HI : Hid ((i : Int) < 90 + n % 20) := Lib.hid hin
      have HTT := Lib.hid hT
      clear hT
      go_wp2_with (fail)
      go_roundw
      case rel => exact ⟨i + 1, by have := HI.out; omega, by go_num, elses_made wr i _ HS.out, (hb.alloc hb.size _).alloc (by rw [alloc_size]; have := hb.size; omega) _⟩
      case measure =>
        have := HI.out
        simp [intOf]
        omega
    · skip
      obtain ⟨W, hW⟩ : ∃ W, rowed wr [.cells #[.string ⟨#[102]⟩, .int .i64 1, .slice none 0 0, .slice A L cap] 30, .cells #[.slice none 0 0, .slice (some ⟨wr.heap.size, 0, none⟩) 1 1] 34] = W := ⟨_, rfl⟩
      have hs : W.heap.size = wr.heap.size + 2 := hW ▸ rowed_size _ _
      have hwW : Below w.heap.size w W := hW ▸ rowed_below _ hb hb.size
      have hF : SlF W.heap.size W (.slice (some ⟨wr.heap.size, 0, none⟩) 1 1) [⟨⟨#[102]⟩, 1, [], elses i⟩] := slF_at (hW ▸ rowed_at [.cells #[.string ⟨#[102]⟩, .int .i64 1, .slice none 0 0, .slice A L cap] 30, .cells #[.slice none 0 0, .slice (some ⟨wr.heap.size, 0, none⟩) 1 1] 34] wr 0 _ rfl) (by omega) (HS.out.below (hW ▸ rowed_below _ (Below.refl wr.heap.size wr) (Nat.le_refl _)) (by omega))
      have hL : (stsT (elses i) 1).length ≤ 1000000 := by have h4 := elses_len i 1 (by omega); omega
      have hp : W.heap[wr.heap.size + 1]? = _ := hW ▸ rowed_at [.cells #[.string ⟨#[102]⟩, .int .i64 1, .slice none 0 0, .slice A L cap] 30, .cells #[.slice none 0 0, .slice (some ⟨wr.heap.size, 0, none⟩) 1 1] 34] wr 1 _ rfl
      obtain ⟨S, C, T, hc⟩ := hT W (.slice (some ⟨wr.heap.size, 0, none⟩) 1 1) _ hwW hF hL
      have k0 : W.cell? ⟨wr.heap.size + 1, 0, none⟩ = some (.slice none 0 0) := by rw [Lib.cell_of_heap hp]; rfl
      have k1 : W.cell? ⟨wr.heap.size + 1, 1, none⟩ = some (.slice (some ⟨wr.heap.size, 0, none⟩) 1 1) := by rw [Lib.cell_of_heap hp]; rfl
      have hlt : wr.heap.size + 1 < W.heap.size := by omega
      have HP := Lib.hid hp
      have HC := Lib.hid hc
      have HT := Lib.hid hT
      simp only [rowed] at hW
      have HW := Lib.hid hW
      clear hF hp hc hL hT hs hW
      go_wp2_with (fail)
      rw [HW.out]
      clear HW
      go_at_call 4
      refine (HC.out.print _ (Below.refl _ _)).mono ?_
      rintro e w1 ⟨rfl, hb1⟩
      have h1 := (hb1.block _ hlt).trans HP.out
      have l0 : w1.cell? ⟨wr.heap.size + 1, 0, none⟩ = some (.slice none 0 0) := by rw [Lib.cell_of_heap h1]; rfl
      have l1 : w1.cell? ⟨wr.heap.size + 1, 1, none⟩ = some (.slice (some ⟨wr.heap.size, 0, none⟩) 1 1) := by rw [Lib.cell_of_heap h1]; rfl
      clear h1
      go_wp2_with (go_at_call 5; (with_reducible refine (HC.out.rprint _ hb1).mono ?_); rintro e w2 ⟨rfl, hb2⟩)
      have hb12 := hb1.trans hb2
      have h2 := (hb12.block _ hlt).trans HP.out
      have m0 : w2.cell? ⟨wr.heap.size + 1, 0, none⟩ = some (.slice none 0 0) := by rw [Lib.cell_of_heap h2]; rfl
      have m1 : w2.cell? ⟨wr.heap.size + 1, 1, none⟩ = some (.slice (some ⟨wr.heap.size, 0, none⟩) 1 1) := by rw [Lib.cell_of_heap h2]; rfl
      clear h2
      have HKEEP : Hid (∀ w', Below W.heap.size W w' → w'.cell? ⟨wr.heap.size + 1, 0, none⟩ = some (.slice none 0 0) ∧ w'.cell? ⟨wr.heap.size + 1, 1, none⟩ = some (.slice (some ⟨wr.heap.size, 0, none⟩) 1 1) ∧ Below W.heap.size W w') := fun w' h => ⟨(by rw [Lib.cell_of_heap ((h.block _ hlt).trans HP.out)]; rfl), (by rw [Lib.cell_of_heap ((h.block _ hlt).trans HP.out)]; rfl), h⟩
      go_region_held3 (fun w' => w'.cell? ⟨wr.heap.size + 1, 0, none⟩ = some (.slice none 0 0) ∧ w'.cell? ⟨wr.heap.size + 1, 1, none⟩ = some (.slice (some ⟨wr.heap.size, 0, none⟩) 1 1) ∧ Below W.heap.size W w')
        (first
          | exact HKEEP.out _ (by assumption)
          | exact HKEEP.out _ hb12.drew
          | go_keep)
        (first
          | (go_at_call 6; go_split_ands; (with_reducible refine (HC.out.awake _ (by assumption)).mono ?_); rintro e w3 ⟨rfl, hb3⟩)
          | (go_at_call 7; go_split_ands; (with_reducible refine (HC.out.right _ (by assumption)).mono ?_); rintro e w3 ⟨rfl, hb3⟩)
          | (go_at_call 8; go_split_ands; (with_reducible refine (HC.out.rright _ (by assumption)).mono ?_); rintro e w3 ⟨rfl, hb3⟩))
      all_goals (go_wp2_with (fail))
      all_goals (go_split_ands; go_ret; exact ⟨rfl, hwW.trans (Below.mono (by assumption : Below W.heap.size W _) hwW.size)⟩)
end Go.Proofs.YtomdcgifkkmopaaDoor
