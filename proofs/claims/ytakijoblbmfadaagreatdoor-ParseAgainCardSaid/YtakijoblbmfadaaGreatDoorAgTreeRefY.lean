import Derived.Test.YtakijoblbmfadaaGreatDoorAgTreeRefX
import Derived.Deep.RegionHeld3
set_option linter.unusedSimpArgs false
set_option linter.unusedVariables false
/- The contract of the document's text of an expression: an index. -/
namespace Go.Proofs.YtakijoblbmfadaaGreatDoor
open Go.RowKit
section
variable (B : Nat) (op n : Int) (name : ByteArray)
set_option maxHeartbeats 4000000 in
set_option maxRecDepth 100000 in
theorem rtext_index (a : Ex) (hx : RtC B a) : RtC B (.mk 6 op n name [a]) := by
  intro w x hB hv hl
  obtain ⟨A, cap, rfl, hr, hs⟩ := ExV.elim hv
  obtain ⟨k0, op0, n0, nm0, as0⟩ := a
  obtain ⟨g, o, A'0, cap0, rfl, hg, h0, h1, h2, h3, h4, hE0, _⟩ := kid_cells hs 0 k0 op0 n0 nm0 as0 rfl
  have q0 : w.cell? ⟨g, o, none⟩ = some (.int .i64 k0) := by simpa using h0
  have q1 : w.cell? ⟨g, o + 1, none⟩ = some (.int .i64 op0) := by simpa using h1
  have q2 : w.cell? ⟨g, o + 2, none⟩ = some (.int .i64 n0) := by simpa using h2
  have q3 : w.cell? ⟨g, o + 3, none⟩ = some (.string nm0) := by simpa using h3
  have q4 : w.cell? ⟨g, o + 4, none⟩ = some (.slice A'0 as0.length cap0) := by simpa using h4
  have hgs : g < w.heap.size := by omega
  have HE0 := Lib.hid hE0
  have HX := Lib.hid hx
  have e : exT (.mk 6 op n name [(.mk k0 op0 n0 nm0 as0)]) = name.data.toList ++ 91 :: (exT (.mk k0 op0 n0 nm0 as0) ++ [93]) := by rw [exT_mk, exTs_map]; rfl
  rw [e] at hl ⊢
  have hsz : name.size + 1 + (exT (.mk k0 op0 n0 nm0 as0)).length + 1 ≤ 1099511627776 := by
    have h : name.size = name.data.toList.length := rfl
    rw [h]
    simp only [List.length_append, List.length_cons, List.length_nil] at hl
    omega
  have HL0 : Hid ((exT (.mk k0 op0 n0 nm0 as0)).length ≤ 1099511627776) := by unfold Hid; omega
  have y0 : ¬ 9223372036854775807 < name.size + 1 := by omega
  have y1 : ¬ 9223372036854775807 < name.size + 1 + (exT (.mk k0 op0 n0 nm0 as0)).length := by omega
  have y2 : ¬ 9223372036854775807 < name.size + 1 + (exT (.mk k0 op0 n0 nm0 as0)).length + 1 := by omega
  clear hs hv hl hr e hx hE0 h0 h1 h2 h3 h4
  go_enter Tryz.func39, Tryz.ntmps39
  go_wp2_with (fail)
  obtain ⟨W, hW⟩ : ∃ W, w.alloc (.cells #[.int .i64 6, .int .i64 op, .int .i64 n, .string name, .slice (some ⟨g, o, none⟩) 1 cap] 84) = W := ⟨_, rfl⟩
  have hWr : Below w.heap.size w W := hW ▸ (Below.refl _ _).alloc (Nat.le_refl _) _
  have hWs : W.heap.size = w.heap.size + 1 := by rw [← hW]; simp
  have hrow : W.heap[w.heap.size]? = some (.cells #[.int .i64 6, .int .i64 op, .int .i64 n, .string name, .slice (some ⟨g, o, none⟩) 1 cap] 84 (0, 0)) := by rw [← hW]; exact heap_alloc_new w _
  have x1 : W.cell? ⟨w.heap.size, 3, none⟩ = some (.string name) := by rw [Lib.cell_of_heap hrow]; rfl
  have x4 : W.cell? ⟨w.heap.size, 4, none⟩ = some (.slice (some ⟨g, o, none⟩) 1 cap) := by rw [Lib.cell_of_heap hrow]; rfl
  have cc : ∀ k x, w.cell? ⟨g, k, none⟩ = some x → W.cell? ⟨g, k, none⟩ = some x := fun k x h => (hWr.cell (p := ⟨g, k, none⟩) hgs).trans h
  have t0 := cc _ _ q0
  have t1 := cc _ _ q1
  have t2 := cc _ _ q2
  have t3 := cc _ _ q3
  have t4 := cc _ _ q4
  have hBW : B ≤ W.heap.size := by omega
  have hqW : w.heap.size < W.heap.size := by omega
  have hgW : g < W.heap.size := by omega
  have hBWd : B ≤ W.drew.heap.size := hBW
  rw [hW]
  clear cc hW hrow q0 q1 q2 q3 q4
  go_region_held3 (fun w' => w'.cell? ⟨w.heap.size, 3, none⟩ = some (.string name) ∧ w'.cell? ⟨w.heap.size, 4, none⟩ = some (.slice (some ⟨g, o, none⟩) 1 cap) ∧ w'.cell? ⟨g, o, none⟩ = some (.int .i64 k0) ∧ w'.cell? ⟨g, o + 1, none⟩ = some (.int .i64 op0) ∧ w'.cell? ⟨g, o + 2, none⟩ = some (.int .i64 n0) ∧ w'.cell? ⟨g, o + 3, none⟩ = some (.string nm0) ∧ w'.cell? ⟨g, o + 4, none⟩ = some (.slice A'0 as0.length cap0))
    (first
      | (go_split_ands; refine ⟨?_, ?_, ?_, ?_, ?_, ?_, ?_⟩ <;> (first | (rw [hk1]; assumption) | (rw [hg1]; assumption)))
      | go_keep)
    (first
      | (go_at_call 39
         (refine (RtC.call HX.out (w := W.drew) hBWd (HE0.out _ ((hWr.drew).mono hB)) HL0.out).mono ?_)
         rintro e w1 ⟨rfl, hb1⟩
         have ht1 : Below w.heap.size w w1 := (hWr.drew).trans (hb1.mono (by show w.heap.size ≤ W.heap.size; omega))
         have hz1 : W.heap.size ≤ w1.heap.size := (by have := hb1.size; simpa using this)
         have hB1 : B ≤ w1.heap.size := (by omega)
         have hk1 : ∀ k, w1.cell? ⟨w.heap.size, k, none⟩ = W.cell? ⟨w.heap.size, k, none⟩ := fun k => hb1.cell (p := ⟨w.heap.size, k, none⟩) hqW
         have hg1 : ∀ k, w1.cell? ⟨g, k, none⟩ = W.cell? ⟨g, k, none⟩ := fun k => hb1.cell (p := ⟨g, k, none⟩) hgW))
  go_wp2_with (fail)
  go_ret
  refine ⟨ret_str (ba_ext ?_), ht1⟩
  simp [ByteArray.data_append]
end
end Go.Proofs.YtakijoblbmfadaaGreatDoor

/- The contract of the document's text of an expression: an operator of one. -/
namespace Go.Proofs.YtakijoblbmfadaaGreatDoor
open Go.RowKit
section
variable (B : Nat) (op n : Int) (name : ByteArray)
set_option maxHeartbeats 4000000 in
set_option maxRecDepth 100000 in
theorem rtext_one_call (h23 : 23 ≤ op) (a : Ex) (hx : RtC B a) : RtC B (.mk 4 op n name [a]) := by
  intro w x hB hv hl
  obtain ⟨A, cap, rfl, hr, hs⟩ := ExV.elim hv
  obtain ⟨k0, op0, n0, nm0, as0⟩ := a
  obtain ⟨g, o, A'0, cap0, rfl, hg, h0, h1, h2, h3, h4, hE0, _⟩ := kid_cells hs 0 k0 op0 n0 nm0 as0 rfl
  have q0 : w.cell? ⟨g, o, none⟩ = some (.int .i64 k0) := by simpa using h0
  have q1 : w.cell? ⟨g, o + 1, none⟩ = some (.int .i64 op0) := by simpa using h1
  have q2 : w.cell? ⟨g, o + 2, none⟩ = some (.int .i64 n0) := by simpa using h2
  have q3 : w.cell? ⟨g, o + 3, none⟩ = some (.string nm0) := by simpa using h3
  have q4 : w.cell? ⟨g, o + 4, none⟩ = some (.slice A'0 as0.length cap0) := by simpa using h4
  have hgs : g < w.heap.size := by omega
  have HE0 := Lib.hid hE0
  have HX := Lib.hid hx
  have e : exT (.mk 4 op n name [(.mk k0 op0 n0 nm0 as0)]) = (sgnOf op).data.toList ++ 40 :: (exT (.mk k0 op0 n0 nm0 as0) ++ [41]) := by rw [exT_one]; unfold oneT; rw [if_pos h23]
  rw [e] at hl ⊢
  have hsz : (sgnOf op).size + 1 + (exT (.mk k0 op0 n0 nm0 as0)).length + 1 ≤ 1099511627776 := by
    have h : (sgnOf op).size = (sgnOf op).data.toList.length := rfl
    rw [h]
    simp only [List.length_append, List.length_cons, List.length_nil] at hl
    omega
  have HL0 : Hid ((exT (.mk k0 op0 n0 nm0 as0)).length ≤ 1099511627776) := by unfold Hid; omega
  have y0 : ¬ 9223372036854775807 < (sgnOf op).size + 1 := by omega
  have y1 : ¬ 9223372036854775807 < (sgnOf op).size + 1 + (exT (.mk k0 op0 n0 nm0 as0)).length := by omega
  have y2 : ¬ 9223372036854775807 < (sgnOf op).size + 1 + (exT (.mk k0 op0 n0 nm0 as0)).length + 1 := by omega
  clear hs hv hl hr e hx hE0 h0 h1 h2 h3 h4
  go_enter Tryz.func39, Tryz.ntmps39
  go_wp2_with (fail)
  obtain ⟨W, hW⟩ : ∃ W, w.alloc (.cells #[.int .i64 4, .int .i64 op, .int .i64 n, .string name, .slice (some ⟨g, o, none⟩) 1 cap] 84) = W := ⟨_, rfl⟩
  have hWr : Below w.heap.size w W := hW ▸ (Below.refl _ _).alloc (Nat.le_refl _) _
  have hWs : W.heap.size = w.heap.size + 1 := by rw [← hW]; simp
  have hrow : W.heap[w.heap.size]? = some (.cells #[.int .i64 4, .int .i64 op, .int .i64 n, .string name, .slice (some ⟨g, o, none⟩) 1 cap] 84 (0, 0)) := by rw [← hW]; exact heap_alloc_new w _
  have x1 : W.cell? ⟨w.heap.size, 1, none⟩ = some (.int .i64 op) := by rw [Lib.cell_of_heap hrow]; rfl
  have x4 : W.cell? ⟨w.heap.size, 4, none⟩ = some (.slice (some ⟨g, o, none⟩) 1 cap) := by rw [Lib.cell_of_heap hrow]; rfl
  have cc : ∀ k x, w.cell? ⟨g, k, none⟩ = some x → W.cell? ⟨g, k, none⟩ = some x := fun k x h => (hWr.cell (p := ⟨g, k, none⟩) hgs).trans h
  have t0 := cc _ _ q0
  have t1 := cc _ _ q1
  have t2 := cc _ _ q2
  have t3 := cc _ _ q3
  have t4 := cc _ _ q4
  have hBW : B ≤ W.heap.size := by omega
  have hqW : w.heap.size < W.heap.size := by omega
  have hgW : g < W.heap.size := by omega
  have hBWd : B ≤ W.drew.heap.size := hBW
  rw [hW]
  clear cc hW hrow q0 q1 q2 q3 q4
  go_region_held3 (fun w' => w'.cell? ⟨w.heap.size, 1, none⟩ = some (.int .i64 op) ∧ w'.cell? ⟨w.heap.size, 4, none⟩ = some (.slice (some ⟨g, o, none⟩) 1 cap) ∧ w'.cell? ⟨g, o, none⟩ = some (.int .i64 k0) ∧ w'.cell? ⟨g, o + 1, none⟩ = some (.int .i64 op0) ∧ w'.cell? ⟨g, o + 2, none⟩ = some (.int .i64 n0) ∧ w'.cell? ⟨g, o + 3, none⟩ = some (.string nm0) ∧ w'.cell? ⟨g, o + 4, none⟩ = some (.slice A'0 as0.length cap0))
    (first
      | (go_split_ands; refine ⟨?_, ?_, ?_, ?_, ?_, ?_, ?_⟩ <;> (first | (rw [hk2]; assumption) | (rw [hg2]; assumption)))
      | (go_split_ands; refine ⟨?_, ?_, ?_, ?_, ?_, ?_, ?_⟩ <;> (first | (rw [hk1]; assumption) | (rw [hg1]; assumption)))
      | go_keep)
    (first
      | (go_at_call 68
         (refine (rsign_any op W.drew).mono ?_)
         rintro e w1 ⟨rfl, hb1⟩
         have ht1 : Below w.heap.size w w1 := (hWr.drew).trans (hb1.mono (by show w.heap.size ≤ W.heap.size; omega))
         have hz1 : W.heap.size ≤ w1.heap.size := (by have := hb1.size; simpa using this)
         have hB1 : B ≤ w1.heap.size := (by omega)
         have hk1 : ∀ k, w1.cell? ⟨w.heap.size, k, none⟩ = W.cell? ⟨w.heap.size, k, none⟩ := fun k => hb1.cell (p := ⟨w.heap.size, k, none⟩) hqW
         have hg1 : ∀ k, w1.cell? ⟨g, k, none⟩ = W.cell? ⟨g, k, none⟩ := fun k => hb1.cell (p := ⟨g, k, none⟩) hgW)
      | (go_at_call 39
         (refine (RtC.call HX.out (w := w1) hB1 (HE0.out _ (ht1.mono hB)) HL0.out).mono ?_)
         rintro e w2 ⟨rfl, hb2⟩
         have ht2 : Below w.heap.size w w2 := ht1.trans (hb2.mono (by omega))
         have hz2 : W.heap.size ≤ w2.heap.size := (by have := hb2.size; omega)
         have hB2 : B ≤ w2.heap.size := (by omega)
         have hk2 : ∀ k, w2.cell? ⟨w.heap.size, k, none⟩ = W.cell? ⟨w.heap.size, k, none⟩ := fun k => (hb2.cell (p := ⟨w.heap.size, k, none⟩) (by show w.heap.size < w1.heap.size; omega)).trans (hk1 k)
         have hg2 : ∀ k, w2.cell? ⟨g, k, none⟩ = W.cell? ⟨g, k, none⟩ := fun k => (hb2.cell (p := ⟨g, k, none⟩) (by show g < w1.heap.size; omega)).trans (hg1 k)))
  go_wp2_with (fail)
  go_ret
  refine ⟨ret_str (ba_ext ?_), ht2⟩
  simp [ByteArray.data_append]
set_option maxHeartbeats 4000000 in
set_option maxRecDepth 100000 in
theorem rtext_one_sign (h23 : ¬ 23 ≤ op) (a : Ex) (hx : RtC B a) : RtC B (.mk 4 op n name [a]) := by
  intro w x hB hv hl
  obtain ⟨A, cap, rfl, hr, hs⟩ := ExV.elim hv
  obtain ⟨k0, op0, n0, nm0, as0⟩ := a
  obtain ⟨g, o, A'0, cap0, rfl, hg, h0, h1, h2, h3, h4, hE0, _⟩ := kid_cells hs 0 k0 op0 n0 nm0 as0 rfl
  have q0 : w.cell? ⟨g, o, none⟩ = some (.int .i64 k0) := by simpa using h0
  have q1 : w.cell? ⟨g, o + 1, none⟩ = some (.int .i64 op0) := by simpa using h1
  have q2 : w.cell? ⟨g, o + 2, none⟩ = some (.int .i64 n0) := by simpa using h2
  have q3 : w.cell? ⟨g, o + 3, none⟩ = some (.string nm0) := by simpa using h3
  have q4 : w.cell? ⟨g, o + 4, none⟩ = some (.slice A'0 as0.length cap0) := by simpa using h4
  have hgs : g < w.heap.size := by omega
  have HE0 := Lib.hid hE0
  have HX := Lib.hid (part_any B _ 11 hx)
  have e : exT (.mk 4 op n name [(.mk k0 op0 n0 nm0 as0)]) = (sgnOf op).data.toList ++ opT 11 (.mk k0 op0 n0 nm0 as0) := by rw [exT_one]; unfold oneT; rw [if_neg h23]
  rw [e] at hl ⊢
  have hsz : (sgnOf op).size + (opT 11 (.mk k0 op0 n0 nm0 as0)).length ≤ 1099511627776 := by
    have h : (sgnOf op).size = (sgnOf op).data.toList.length := rfl
    rw [h]
    simp only [List.length_append] at hl
    omega
  have HL0 : Hid ((opT 11 (.mk k0 op0 n0 nm0 as0)).length ≤ 1099511627776) := by unfold Hid; omega
  have y0 : ¬ 9223372036854775807 < (sgnOf op).size + (opT 11 (.mk k0 op0 n0 nm0 as0)).length := by omega
  clear hs hv hl hr e hx hE0 h0 h1 h2 h3 h4
  go_enter Tryz.func39, Tryz.ntmps39
  go_wp2_with (fail)
  obtain ⟨W, hW⟩ : ∃ W, w.alloc (.cells #[.int .i64 4, .int .i64 op, .int .i64 n, .string name, .slice (some ⟨g, o, none⟩) 1 cap] 84) = W := ⟨_, rfl⟩
  have hWr : Below w.heap.size w W := hW ▸ (Below.refl _ _).alloc (Nat.le_refl _) _
  have hWs : W.heap.size = w.heap.size + 1 := by rw [← hW]; simp
  have hrow : W.heap[w.heap.size]? = some (.cells #[.int .i64 4, .int .i64 op, .int .i64 n, .string name, .slice (some ⟨g, o, none⟩) 1 cap] 84 (0, 0)) := by rw [← hW]; exact heap_alloc_new w _
  have x1 : W.cell? ⟨w.heap.size, 1, none⟩ = some (.int .i64 op) := by rw [Lib.cell_of_heap hrow]; rfl
  have x4 : W.cell? ⟨w.heap.size, 4, none⟩ = some (.slice (some ⟨g, o, none⟩) 1 cap) := by rw [Lib.cell_of_heap hrow]; rfl
  have cc : ∀ k x, w.cell? ⟨g, k, none⟩ = some x → W.cell? ⟨g, k, none⟩ = some x := fun k x h => (hWr.cell (p := ⟨g, k, none⟩) hgs).trans h
  have t0 := cc _ _ q0
  have t1 := cc _ _ q1
  have t2 := cc _ _ q2
  have t3 := cc _ _ q3
  have t4 := cc _ _ q4
  have hBW : B ≤ W.heap.size := by omega
  have hqW : w.heap.size < W.heap.size := by omega
  have hgW : g < W.heap.size := by omega
  have hBWd : B ≤ W.drew.heap.size := hBW
  rw [hW]
  clear cc hW hrow q0 q1 q2 q3 q4
  go_region_held3 (fun w' => w'.cell? ⟨w.heap.size, 1, none⟩ = some (.int .i64 op) ∧ w'.cell? ⟨w.heap.size, 4, none⟩ = some (.slice (some ⟨g, o, none⟩) 1 cap) ∧ w'.cell? ⟨g, o, none⟩ = some (.int .i64 k0) ∧ w'.cell? ⟨g, o + 1, none⟩ = some (.int .i64 op0) ∧ w'.cell? ⟨g, o + 2, none⟩ = some (.int .i64 n0) ∧ w'.cell? ⟨g, o + 3, none⟩ = some (.string nm0) ∧ w'.cell? ⟨g, o + 4, none⟩ = some (.slice A'0 as0.length cap0))
    (first
      | (go_split_ands; refine ⟨?_, ?_, ?_, ?_, ?_, ?_, ?_⟩ <;> (first | (rw [hk2]; assumption) | (rw [hg2]; assumption)))
      | (go_split_ands; refine ⟨?_, ?_, ?_, ?_, ?_, ?_, ?_⟩ <;> (first | (rw [hk1]; assumption) | (rw [hg1]; assumption)))
      | go_keep)
    (first
      | (go_at_call 68
         (refine (rsign_any op W.drew).mono ?_)
         rintro e w1 ⟨rfl, hb1⟩
         have ht1 : Below w.heap.size w w1 := (hWr.drew).trans (hb1.mono (by show w.heap.size ≤ W.heap.size; omega))
         have hz1 : W.heap.size ≤ w1.heap.size := (by have := hb1.size; simpa using this)
         have hB1 : B ≤ w1.heap.size := (by omega)
         have hk1 : ∀ k, w1.cell? ⟨w.heap.size, k, none⟩ = W.cell? ⟨w.heap.size, k, none⟩ := fun k => hb1.cell (p := ⟨w.heap.size, k, none⟩) hqW
         have hg1 : ∀ k, w1.cell? ⟨g, k, none⟩ = W.cell? ⟨g, k, none⟩ := fun k => hb1.cell (p := ⟨g, k, none⟩) hgW)
      | (go_at_call 69
         (with_reducible refine (RpC.call HX.out (w := w1) hB1 (HE0.out _ (ht1.mono hB)) HL0.out).mono ?_)
         rintro e w2 ⟨rfl, hb2⟩
         have ht2 : Below w.heap.size w w2 := ht1.trans (hb2.mono (by omega))
         have hz2 : W.heap.size ≤ w2.heap.size := (by have := hb2.size; omega)
         have hB2 : B ≤ w2.heap.size := (by omega)
         have hk2 : ∀ k, w2.cell? ⟨w.heap.size, k, none⟩ = W.cell? ⟨w.heap.size, k, none⟩ := fun k => (hb2.cell (p := ⟨w.heap.size, k, none⟩) (by show w.heap.size < w1.heap.size; omega)).trans (hk1 k)
         have hg2 : ∀ k, w2.cell? ⟨g, k, none⟩ = W.cell? ⟨g, k, none⟩ := fun k => (hb2.cell (p := ⟨g, k, none⟩) (by show g < w1.heap.size; omega)).trans (hg1 k)))
  go_wp2_with (fail)
  go_ret
  refine ⟨ret_str (ba_ext ?_), ht2⟩
  simp [ByteArray.data_append]
end
end Go.Proofs.YtakijoblbmfadaaGreatDoor
