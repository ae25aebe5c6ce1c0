/- The law TreeDeep returns true, of expressions: where the calls behind its loop answer alike. -/
import Derived.Test.YtomdcgifkkmopaaDoorTreeTail
import Derived.Deep.RegionHeld3
namespace Go.Proofs.YtomdcgifkkmopaaDoor
open Go.RowKit
set_option maxHeartbeats 4000000 in
set_option maxRecDepth 100000 in
theorem negs_law (n k : Int) (hn0 : 0 ≤ n) (hn1 : n ≤ 255) (hk0 : 0 ≤ k) (hk1 : k ≤ 255) (w : World) (hk : k % 4 = 0) (hT : Tails w) :
    Calls Tryd.prog 3 #[.int .u8 n, .int .u8 k] w fun e w' => e = .returned (.bool true) ∧ Below w.heap.size w w' := by
  go_enter Tryd.func3, Tryd.ntmps3
  go_wp2_with (fail)
  go_loopw [6, 7] (fun lv iv wr => ∃ i : Nat, i ≤ 109 ∧ iv = .int .i64 i ∧ lv = .slice none 0 0 ∧ Held negs w.heap.size i wr ∧ Below w.heap.size w wr) (fun _ iv _ => 109 - (intOf iv).toNat)
  case atStart => exact ⟨0, Nat.zero_le _, rfl, rfl, ⟨_, heap_alloc_new w _, fun w' _ => slE_nil _ _⟩, (Below.refl _ _).alloc (Nat.le_refl _) _⟩
  case round =>
    obtain ⟨i, hi, rfl, rfl, ⟨v, hrow, hs⟩, hb⟩ := hrel
    obtain ⟨k1, hk1'⟩ : ∃ x, (negs i).kind = x := ⟨_, rfl⟩
    obtain ⟨k2, hk2'⟩ : ∃ x, (negs i).op = x := ⟨_, rfl⟩
    obtain ⟨k3, hk3'⟩ : ∃ x, (negs i).n = x := ⟨_, rfl⟩
    obtain ⟨k4, hk4'⟩ : ∃ x, (negs i).name = x := ⟨_, rfl⟩
    rw [hk1', hk2', hk3', hk4'] at hrow
    have z0 : wr.cell? ⟨w.heap.size, 0, none⟩ = some (.int .i64 k1) := by rw [Lib.cell_of_heap hrow]; rfl
    have f0 := Lib.frozen_of_heap hrow 0
    have z1 : wr.cell? ⟨w.heap.size, 1, none⟩ = some (.int .i64 k2) := by rw [Lib.cell_of_heap hrow]; rfl
    have f1 := Lib.frozen_of_heap hrow 1
    have z2 : wr.cell? ⟨w.heap.size, 2, none⟩ = some (.int .i64 k3) := by rw [Lib.cell_of_heap hrow]; rfl
    have f2 := Lib.frozen_of_heap hrow 2
    have z3 : wr.cell? ⟨w.heap.size, 3, none⟩ = some (.string k4) := by rw [Lib.cell_of_heap hrow]; rfl
    have f3 := Lib.frozen_of_heap hrow 3
    have z4 : wr.cell? ⟨w.heap.size, 4, none⟩ = some (v) := by rw [Lib.cell_of_heap hrow]; rfl
    have f4 := Lib.frozen_of_heap hrow 4
    have hlt0 : w.heap.size < wr.heap.size := (Array.getElem?_eq_some_iff.1 hrow).1
    have HR := Lib.hid hrow
    have HS := Lib.hid hs
    have HK := Lib.hid (And.intro hk1' (And.intro hk2' (And.intro hk3' hk4')))
    clear hrow hs hk1' hk2' hk3' hk4'
    by_cases hin : (i : Int) < 90 + n % 20
    · have HI : Hid ((i : Int) < 90 + n % 20) := Lib.hid hin
      have HTT := Lib.hid hT
      clear hT
      go_wp2_with (fail)
      go_roundw
      case rel => exact ⟨i + 1, by have := HI.out; omega, by go_num, rfl, negs_held w wr i k1 k2 k3 k4 v HR.out HS.out HK.out, (writ_below (Nat.le_refl _) hb _ _ _ _ _).alloc (by rw [writ_size]; omega) _⟩
      case measure =>
        have := HI.out
        simp [intOf]
        omega
    · skip
      obtain ⟨W, hW⟩ : ∃ W, rowed wr [.cells #[.int .i64 k1, .int .i64 k2, .int .i64 k3, .string k4, v] 24, .cells #[.int .i64 8, .int .i64 0, .string ⟨#[]⟩, .slice (some ⟨wr.heap.size, 0, none⟩) 1 1, .slice none 0 0, .slice none 0 0] 27, .cells #[.string ⟨#[102]⟩, .int .i64 1, .slice none 0 0, .slice (some ⟨wr.heap.size + 1, 0, none⟩) 1 1] 30, .cells #[.slice none 0 0, .slice (some ⟨wr.heap.size + 1 + 1, 0, none⟩) 1 1] 34] = W := ⟨_, rfl⟩
      have hs : W.heap.size = wr.heap.size + 4 := hW ▸ rowed_size _ _
      have hwW : Below w.heap.size w W := hW ▸ rowed_below _ hb hb.size
      have hk := rowed_kept [.cells #[.int .i64 k1, .int .i64 k2, .int .i64 k3, .string k4, v] 24, .cells #[.int .i64 8, .int .i64 0, .string ⟨#[]⟩, .slice (some ⟨wr.heap.size, 0, none⟩) 1 1, .slice none 0 0, .slice none 0 0] 27, .cells #[.string ⟨#[102]⟩, .int .i64 1, .slice none 0 0, .slice (some ⟨wr.heap.size + 1, 0, none⟩) 1 1] 30, .cells #[.slice none 0 0, .slice (some ⟨wr.heap.size + 1 + 1, 0, none⟩) 1 1] 34] wr w.heap.size
      rw [hW] at hk
      have hE : SlE W.heap.size W (.slice (some ⟨wr.heap.size, 0, none⟩) 1 1) [negs i] := slE_var (hW ▸ rowed_at [.cells #[.int .i64 k1, .int .i64 k2, .int .i64 k3, .string k4, v] 24, .cells #[.int .i64 8, .int .i64 0, .string ⟨#[]⟩, .slice (some ⟨wr.heap.size, 0, none⟩) 1 1, .slice none 0 0, .slice none 0 0] 27, .cells #[.string ⟨#[102]⟩, .int .i64 1, .slice none 0 0, .slice (some ⟨wr.heap.size + 1, 0, none⟩) 1 1] 30, .cells #[.slice none 0 0, .slice (some ⟨wr.heap.size + 1 + 1, 0, none⟩) 1 1] 34] wr 0 _ rfl) (by omega) (negs_n i) ((HS.out W hk).mono (by omega)) HK.out
      have hF : SlF W.heap.size W (.slice (some ⟨wr.heap.size + 1 + 1, 0, none⟩) 1 1) [⟨⟨#[102]⟩, 1, [], gives (negs i)⟩] := by
        have h1 := hW ▸ rowed_at [.cells #[.int .i64 k1, .int .i64 k2, .int .i64 k3, .string k4, v] 24, .cells #[.int .i64 8, .int .i64 0, .string ⟨#[]⟩, .slice (some ⟨wr.heap.size, 0, none⟩) 1 1, .slice none 0 0, .slice none 0 0] 27, .cells #[.string ⟨#[102]⟩, .int .i64 1, .slice none 0 0, .slice (some ⟨wr.heap.size + 1, 0, none⟩) 1 1] 30, .cells #[.slice none 0 0, .slice (some ⟨wr.heap.size + 1 + 1, 0, none⟩) 1 1] 34] wr 1 _ rfl
        have h2 := hW ▸ rowed_at [.cells #[.int .i64 k1, .int .i64 k2, .int .i64 k3, .string k4, v] 24, .cells #[.int .i64 8, .int .i64 0, .string ⟨#[]⟩, .slice (some ⟨wr.heap.size, 0, none⟩) 1 1, .slice none 0 0, .slice none 0 0] 27, .cells #[.string ⟨#[102]⟩, .int .i64 1, .slice none 0 0, .slice (some ⟨wr.heap.size + 1, 0, none⟩) 1 1] 30, .cells #[.slice none 0 0, .slice (some ⟨wr.heap.size + 1 + 1, 0, none⟩) 1 1] 34] wr 2 _ rfl
        exact slF_at h2 (by omega) (slS_at h1 (by omega) hE (slS_nil _ _) (slS_nil _ _))
      have hL : (stsT (gives (negs i)) 1).length ≤ 1000000 := by have h3 := gives_len (negs i); have h4 := negs_len i; omega
      clear hk hE
      have hp : W.heap[wr.heap.size + 1 + 1 + 1]? = _ := hW ▸ rowed_at [.cells #[.int .i64 k1, .int .i64 k2, .int .i64 k3, .string k4, v] 24, .cells #[.int .i64 8, .int .i64 0, .string ⟨#[]⟩, .slice (some ⟨wr.heap.size, 0, none⟩) 1 1, .slice none 0 0, .slice none 0 0] 27, .cells #[.string ⟨#[102]⟩, .int .i64 1, .slice none 0 0, .slice (some ⟨wr.heap.size + 1, 0, none⟩) 1 1] 30, .cells #[.slice none 0 0, .slice (some ⟨wr.heap.size + 1 + 1, 0, none⟩) 1 1] 34] wr 3 _ rfl
      obtain ⟨S, C, T, hc⟩ := hT W (.slice (some ⟨wr.heap.size + 1 + 1, 0, none⟩) 1 1) _ hwW hF hL
      have k0 : W.cell? ⟨wr.heap.size + 1 + 1 + 1, 0, none⟩ = some (.slice none 0 0) := by rw [Lib.cell_of_heap hp]; rfl
      have k1 : W.cell? ⟨wr.heap.size + 1 + 1 + 1, 1, none⟩ = some (.slice (some ⟨wr.heap.size + 1 + 1, 0, none⟩) 1 1) := by rw [Lib.cell_of_heap hp]; rfl
      have hlt : wr.heap.size + 1 + 1 + 1 < W.heap.size := by omega
      have HP := Lib.hid hp
      have HC := Lib.hid hc
      have HT := Lib.hid hT
      simp only [rowed] at hW
      have HW := Lib.hid hW
      clear hF hp hc hL hT hs hW
      go_wp2_with (fail)
      rw [HW.out]
      clear HW
      go_at_call 4
      refine (HC.out.print _ (Below.refl _ _)).mono ?_
      rintro e w1 ⟨rfl, hb1⟩
      have h1 := (hb1.block _ hlt).trans HP.out
      have l0 : w1.cell? ⟨wr.heap.size + 1 + 1 + 1, 0, none⟩ = some (.slice none 0 0) := by rw [Lib.cell_of_heap h1]; rfl
      have l1 : w1.cell? ⟨wr.heap.size + 1 + 1 + 1, 1, none⟩ = some (.slice (some ⟨wr.heap.size + 1 + 1, 0, none⟩) 1 1) := by rw [Lib.cell_of_heap h1]; rfl
      clear h1
      go_wp2_with (go_at_call 5; (with_reducible refine (HC.out.rprint _ hb1).mono ?_); rintro e w2 ⟨rfl, hb2⟩)
      have hb12 := hb1.trans hb2
      have h2 := (hb12.block _ hlt).trans HP.out
      have m0 : w2.cell? ⟨wr.heap.size + 1 + 1 + 1, 0, none⟩ = some (.slice none 0 0) := by rw [Lib.cell_of_heap h2]; rfl
      have m1 : w2.cell? ⟨wr.heap.size + 1 + 1 + 1, 1, none⟩ = some (.slice (some ⟨wr.heap.size + 1 + 1, 0, none⟩) 1 1) := by rw [Lib.cell_of_heap h2]; rfl
      clear h2
      have HKEEP : Hid (∀ w', Below W.heap.size W w' → w'.cell? ⟨wr.heap.size + 1 + 1 + 1, 0, none⟩ = some (.slice none 0 0) ∧ w'.cell? ⟨wr.heap.size + 1 + 1 + 1, 1, none⟩ = some (.slice (some ⟨wr.heap.size + 1 + 1, 0, none⟩) 1 1) ∧ Below W.heap.size W w') := fun w' h => ⟨(by rw [Lib.cell_of_heap ((h.block _ hlt).trans HP.out)]; rfl), (by rw [Lib.cell_of_heap ((h.block _ hlt).trans HP.out)]; rfl), h⟩
      go_region_held3 (fun w' => w'.cell? ⟨wr.heap.size + 1 + 1 + 1, 0, none⟩ = some (.slice none 0 0) ∧ w'.cell? ⟨wr.heap.size + 1 + 1 + 1, 1, none⟩ = some (.slice (some ⟨wr.heap.size + 1 + 1, 0, none⟩) 1 1) ∧ Below W.heap.size W w')
        (first
          | exact HKEEP.out _ (by assumption)
          | exact HKEEP.out _ hb12.drew
          | go_keep)
        (first
          | (go_at_call 6; go_split_ands; (with_reducible refine (HC.out.awake _ (by assumption)).mono ?_); rintro e w3 ⟨rfl, hb3⟩)
          | (go_at_call 7; go_split_ands; (with_reducible refine (HC.out.right _ (by assumption)).mono ?_); rintro e w3 ⟨rfl, hb3⟩)
          | (go_at_call 8; go_split_ands; (with_reducible refine (HC.out.rright _ (by assumption)).mono ?_); rintro e w3 ⟨rfl, hb3⟩))
      all_goals (go_wp2_with (fail))
      all_goals (go_split_ands; go_ret; exact ⟨rfl, hwW.trans (Below.mono (by assumption : Below W.heap.size W _) hwW.size)⟩)
set_option maxHeartbeats 4000000 in
set_option maxRecDepth 100000 in
theorem subs_law (n k : Int) (hn0 : 0 ≤ n) (hn1 : n ≤ 255) (hk0 : 0 ≤ k) (hk1 : k ≤ 255) (w : World) (hk : k % 4 = 1) (hT : Tails w) :
    Calls Tryd.prog 3 #[.int .u8 n, .int .u8 k] w fun e w' => e = .returned (.bool true) ∧ Below w.heap.size w w' := by
  go_enter Tryd.func3, Tryd.ntmps3
  go_wp2_with (fail)
  go_loopw [6, 7] (fun lv iv wr => ∃ i : Nat, i ≤ 109 ∧ iv = .int .i64 i ∧ lv = .slice none 0 0 ∧ Held subs w.heap.size i wr ∧ Below w.heap.size w wr) (fun _ iv _ => 109 - (intOf iv).toNat)
  case atStart => exact ⟨0, Nat.zero_le _, rfl, rfl, ⟨_, heap_alloc_new w _, fun w' _ => slE_nil _ _⟩, (Below.refl _ _).alloc (Nat.le_refl _) _⟩
  case round =>
    obtain ⟨i, hi, rfl, rfl, ⟨v, hrow, hs⟩, hb⟩ := hrel
    obtain ⟨k1, hk1'⟩ : ∃ x, (subs i).kind = x := ⟨_, rfl⟩
    obtain ⟨k2, hk2'⟩ : ∃ x, (subs i).op = x := ⟨_, rfl⟩
    obtain ⟨k3, hk3'⟩ : ∃ x, (subs i).n = x := ⟨_, rfl⟩
    obtain ⟨k4, hk4'⟩ : ∃ x, (subs i).name = x := ⟨_, rfl⟩
    rw [hk1', hk2', hk3', hk4'] at hrow
    have z0 : wr.cell? ⟨w.heap.size, 0, none⟩ = some (.int .i64 k1) := by rw [Lib.cell_of_heap hrow]; rfl
    have f0 := Lib.frozen_of_heap hrow 0
    have z1 : wr.cell? ⟨w.heap.size, 1, none⟩ = some (.int .i64 k2) := by rw [Lib.cell_of_heap hrow]; rfl
    have f1 := Lib.frozen_of_heap hrow 1
    have z2 : wr.cell? ⟨w.heap.size, 2, none⟩ = some (.int .i64 k3) := by rw [Lib.cell_of_heap hrow]; rfl
    have f2 := Lib.frozen_of_heap hrow 2
    have z3 : wr.cell? ⟨w.heap.size, 3, none⟩ = some (.string k4) := by rw [Lib.cell_of_heap hrow]; rfl
    have f3 := Lib.frozen_of_heap hrow 3
    have z4 : wr.cell? ⟨w.heap.size, 4, none⟩ = some (v) := by rw [Lib.cell_of_heap hrow]; rfl
    have f4 := Lib.frozen_of_heap hrow 4
    have hlt0 : w.heap.size < wr.heap.size := (Array.getElem?_eq_some_iff.1 hrow).1
    have HR := Lib.hid hrow
    have HS := Lib.hid hs
    have HK := Lib.hid (And.intro hk1' (And.intro hk2' (And.intro hk3' hk4')))
    clear hrow hs hk1' hk2' hk3' hk4'
    by_cases hin : (i : Int) < 90 + n % 20
    · have HI : Hid ((i : Int) < 90 + n % 20) := Lib.hid hin
      have HTT := Lib.hid hT
      clear hT
      go_wp2_with (fail)
      go_roundw
      case rel => exact ⟨i + 1, by have := HI.out; omega, by go_num, rfl, subs_held w wr i k1 k2 k3 k4 v HR.out HS.out HK.out, (writ_below (Nat.le_refl _) hb _ _ _ _ _).alloc (by rw [writ_size]; omega) _⟩
      case measure =>
        have := HI.out
        simp [intOf]
        omega
    · skip
      obtain ⟨W, hW⟩ : ∃ W, rowed wr [.cells #[.int .i64 k1, .int .i64 k2, .int .i64 k3, .string k4, v] 24, .cells #[.int .i64 8, .int .i64 0, .string ⟨#[]⟩, .slice (some ⟨wr.heap.size, 0, none⟩) 1 1, .slice none 0 0, .slice none 0 0] 27, .cells #[.string ⟨#[102]⟩, .int .i64 1, .slice none 0 0, .slice (some ⟨wr.heap.size + 1, 0, none⟩) 1 1] 30, .cells #[.slice none 0 0, .slice (some ⟨wr.heap.size + 1 + 1, 0, none⟩) 1 1] 34] = W := ⟨_, rfl⟩
      have hs : W.heap.size = wr.heap.size + 4 := hW ▸ rowed_size _ _
      have hwW : Below w.heap.size w W := hW ▸ rowed_below _ hb hb.size
      have hk := rowed_kept [.cells #[.int .i64 k1, .int .i64 k2, .int .i64 k3, .string k4, v] 24, .cells #[.int .i64 8, .int .i64 0, .string ⟨#[]⟩, .slice (some ⟨wr.heap.size, 0, none⟩) 1 1, .slice none 0 0, .slice none 0 0] 27, .cells #[.string ⟨#[102]⟩, .int .i64 1, .slice none 0 0, .slice (some ⟨wr.heap.size + 1, 0, none⟩) 1 1] 30, .cells #[.slice none 0 0, .slice (some ⟨wr.heap.size + 1 + 1, 0, none⟩) 1 1] 34] wr w.heap.size
      rw [hW] at hk
      have hE : SlE W.heap.size W (.slice (some ⟨wr.heap.size, 0, none⟩) 1 1) [subs i] := slE_var (hW ▸ rowed_at [.cells #[.int .i64 k1, .int .i64 k2, .int .i64 k3, .string k4, v] 24, .cells #[.int .i64 8, .int .i64 0, .string ⟨#[]⟩, .slice (some ⟨wr.heap.size, 0, none⟩) 1 1, .slice none 0 0, .slice none 0 0] 27, .cells #[.string ⟨#[102]⟩, .int .i64 1, .slice none 0 0, .slice (some ⟨wr.heap.size + 1, 0, none⟩) 1 1] 30, .cells #[.slice none 0 0, .slice (some ⟨wr.heap.size + 1 + 1, 0, none⟩) 1 1] 34] wr 0 _ rfl) (by omega) (subs_n i) ((HS.out W hk).mono (by omega)) HK.out
      have hF : SlF W.heap.size W (.slice (some ⟨wr.heap.size + 1 + 1, 0, none⟩) 1 1) [⟨⟨#[102]⟩, 1, [], gives (subs i)⟩] := by
        have h1 := hW ▸ rowed_at [.cells #[.int .i64 k1, .int .i64 k2, .int .i64 k3, .string k4, v] 24, .cells #[.int .i64 8, .int .i64 0, .string ⟨#[]⟩, .slice (some ⟨wr.heap.size, 0, none⟩) 1 1, .slice none 0 0, .slice none 0 0] 27, .cells #[.string ⟨#[102]⟩, .int .i64 1, .slice none 0 0, .slice (some ⟨wr.heap.size + 1, 0, none⟩) 1 1] 30, .cells #[.slice none 0 0, .slice (some ⟨wr.heap.size + 1 + 1, 0, none⟩) 1 1] 34] wr 1 _ rfl
        have h2 := hW ▸ rowed_at [.cells #[.int .i64 k1, .int .i64 k2, .int .i64 k3, .string k4, v] 24, .cells #[.int .i64 8, .int .i64 0, .string ⟨#[]⟩, .slice (some ⟨wr.heap.size, 0, none⟩) 1 1, .slice none 0 0, .slice none 0 0] 27, .cells #[.string ⟨#[102]⟩, .int .i64 1, .slice none 0 0, .slice (some ⟨wr.heap.size + 1, 0, none⟩) 1 1] 30, .cells #[.slice none 0 0, .slice (some ⟨wr.heap.size + 1 + 1, 0, none⟩) 1 1] 34] wr 2 _ rfl
        exact slF_at h2 (by omega) (slS_at h1 (by omega) hE (slS_nil _ _) (slS_nil _ _))
      have hL : (stsT (gives (subs i)) 1).length ≤ 1000000 := by have h3 := gives_len (subs i); have h4 := subs_len i; omega
      clear hk hE
      have hp : W.heap[wr.heap.size + 1 + 1 + 1]? = _ := hW ▸ rowed_at [.cells #[.int .i64 k1, .int .i64 k2, .int .i64 k3, .string k4, v] 24, .cells #[.int .i64 8, .int .i64 0, .string ⟨#[]⟩, .slice (some ⟨wr.heap.size, 0, none⟩) 1 1, .slice none 0 0, .slice none 0 0] 27, .cells #[.string ⟨#[102]⟩, .int .i64 1, .slice none 0 0, .slice (some ⟨wr.heap.size + 1, 0, none⟩) 1 1] 30, .cells #[.slice none 0 0, .slice (some ⟨wr.heap.size + 1 + 1, 0, none⟩) 1 1] 34] wr 3 _ rfl
      obtain ⟨S, C, T, hc⟩ := hT W (.slice (some ⟨wr.heap.size + 1 + 1, 0, none⟩) 1 1) _ hwW hF hL
      have k0 : W.cell? ⟨wr.heap.size + 1 + 1 + 1, 0, none⟩ = some (.slice none 0 0) := by rw [Lib.cell_of_heap hp]; rfl
      have k1 : W.cell? ⟨wr.heap.size + 1 + 1 + 1, 1, none⟩ = some (.slice (some ⟨wr.heap.size + 1 + 1, 0, none⟩) 1 1) := by rw [Lib.cell_of_heap hp]; rfl
      have hlt : wr.heap.size + 1 + 1 + 1 < W.heap.size := by omega
      have HP := Lib.hid hp
      have HC := Lib.hid hc
      have HT := Lib.hid hT
      simp only [rowed] at hW
      have HW := Lib.hid hW
      clear hF hp hc hL hT hs hW
      go_wp2_with (fail)
      rw [HW.out]
      clear HW
      go_at_call 4
      refine (HC.out.print _ (Below.refl _ _)).mono ?_
      rintro e w1 ⟨rfl, hb1⟩
      have h1 := (hb1.block _ hlt).trans HP.out
      have l0 : w1.cell? ⟨wr.heap.size + 1 + 1 + 1, 0, none⟩ = some (.slice none 0 0) := by rw [Lib.cell_of_heap h1]; rfl
      have l1 : w1.cell? ⟨wr.heap.size + 1 + 1 + 1, 1, none⟩ = some (.slice (some ⟨wr.heap.size + 1 + 1, 0, none⟩) 1 1) := by rw [Lib.cell_of_heap h1]; rfl
      clear h1
      go_wp2_with (go_at_call 5; (with_reducible refine (HC.out.rprint _ hb1).mono ?_); rintro e w2 ⟨rfl, hb2⟩)
      have hb12 := hb1.trans hb2
      have h2 := (hb12.block _ hlt).trans HP.out
      have m0 : w2.cell? ⟨wr.heap.size + 1 + 1 + 1, 0, none⟩ = some (.slice none 0 0) := by rw [Lib.cell_of_heap h2]; rfl
      have m1 : w2.cell? ⟨wr.heap.size + 1 + 1 + 1, 1, none⟩ = some (.slice (some ⟨wr.heap.size + 1 + 1, 0, none⟩) 1 1) := by rw [Lib.cell_of_heap h2]; rfl
      clear h2
      have HKEEP : Hid (∀ w', Below W.heap.size W w' → w'.cell? ⟨wr.heap.size + 1 + 1 + 1, 0, none⟩ = some (.slice none 0 0) ∧ w'.cell? ⟨wr.heap.size + 1 + 1 + 1, 1, none⟩ = some (.slice (some ⟨wr.heap.size + 1 + 1, 0, none⟩) 1 1) ∧ Below W.heap.size W w') := fun w' h => ⟨(by rw [Lib.cell_of_heap ((h.block _ hlt).trans HP.out)]; rfl), (by rw [Lib.cell_of_heap ((h.block _ hlt).trans HP.out)]; rfl), h⟩
      go_region_held3 (fun w' => w'.cell? ⟨wr.heap.size + 1 + 1 + 1, 0, none⟩ = some (.slice none 0 0) ∧ w'.cell? ⟨wr.heap.size + 1 + 1 + 1, 1, none⟩ = some (.slice (some ⟨wr.heap.size + 1 + 1, 0, none⟩) 1 1) ∧ Below W.heap.size W w')
        (first
          | exact HKEEP.out _ (by assumption)
          | exact HKEEP.out _ hb12.drew
          | go_keep)
        (first
          | (go_at_call 6; go_split_ands; (with_reducible refine (HC.out.awake _ (by assumption)).mono ?_); rintro e w3 ⟨rfl, hb3⟩)
          | (go_at_call 7; go_split_ands; (with_reducible refine (HC.out.right _ (by assumption)).mono ?_); rintro e w3 ⟨rfl, hb3⟩)
          | (go_at_call 8; go_split_ands; (with_reducible refine (HC.out.rright _ (by assumption)).mono ?_); rintro e w3 ⟨rfl, hb3⟩))
      all_goals (go_wp2_with (fail))
      all_goals (go_split_ands; go_ret; exact ⟨rfl, hwW.trans (Below.mono (by assumption : Below W.heap.size W _) hwW.size)⟩)
end Go.Proofs.YtomdcgifkkmopaaDoor
