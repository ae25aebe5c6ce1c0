import Derived.Test.YtakijoblbmfadaaGreatDoorAgTreeRefX
import Derived.Deep.RegionHeld3
import Derived.Test.YtakijoblbmfadaaGreatDoorAgTreeRefY
set_option linter.unusedSimpArgs false
set_option linter.unusedVariables false
/- The contract of the document's text of an expression: an operator of two. -/
namespace Go.Proofs.YtakijoblbmfadaaGreatDoor
open Go.RowKit
section
variable (B : Nat) (op n : Int) (name : ByteArray)
set_option maxHeartbeats 4000000 in
set_option maxRecDepth 100000 in
theorem rtext_two (a c : Ex) (hx : RtC B a) (hy : RtC B c) : RtC B (.mk 5 op n name [a, c]) := by
  intro w x hB hv hl
  obtain ⟨A, cap, rfl, hr, hs⟩ := ExV.elim hv
  obtain ⟨k0, op0, n0, nm0, as0⟩ := a
  obtain ⟨k1, op1, n1, nm1, as1⟩ := c
  obtain ⟨g, o, A'0, cap0, rfl, hg, h0, h1, h2, h3, h4, hE0, _⟩ := kid_cells hs 0 k0 op0 n0 nm0 as0 rfl
  obtain ⟨g2, o2, A'1, cap1, hA2, _, r0, r1, r2, r3, r4, hE1, _⟩ := kid_cells hs 1 k1 op1 n1 nm1 as1 rfl
  injection hA2 with hA2
  injection hA2 with e1 e2 _
  subst e1 e2
  have q0 : w.cell? ⟨g, o, none⟩ = some (.int .i64 k0) := by simpa using h0
  have q1 : w.cell? ⟨g, o + 1, none⟩ = some (.int .i64 op0) := by simpa using h1
  have q2 : w.cell? ⟨g, o + 2, none⟩ = some (.int .i64 n0) := by simpa using h2
  have q3 : w.cell? ⟨g, o + 3, none⟩ = some (.string nm0) := by simpa using h3
  have q4 : w.cell? ⟨g, o + 4, none⟩ = some (.slice A'0 as0.length cap0) := by simpa using h4
  have s0 : w.cell? ⟨g, o + 5, none⟩ = some (.int .i64 k1) := by simpa using r0
  have s1 : w.cell? ⟨g, o + 5 + 1, none⟩ = some (.int .i64 op1) := by simpa using r1
  have s2 : w.cell? ⟨g, o + 5 + 2, none⟩ = some (.int .i64 n1) := by simpa using r2
  have s3 : w.cell? ⟨g, o + 5 + 3, none⟩ = some (.string nm1) := by simpa using r3
  have s4 : w.cell? ⟨g, o + 5 + 4, none⟩ = some (.slice A'1 as1.length cap1) := by simpa using r4
  have hgs : g < w.heap.size := by omega
  have HE0 := Lib.hid hE0
  have HE1 := Lib.hid hE1
  obtain ⟨lv, hlv⟩ : ∃ lv, lvlOf op = lv := ⟨_, rfl⟩
  have hbd := lvlOf_bd op
  rw [hlv] at hbd
  obtain ⟨hlo, hhi⟩ := hbd
  have HX := Lib.hid (part_any B _ lv hx)
  have HY := Lib.hid (part_any B _ (lv + 1) hy)
  have e : exT (.mk 5 op n name [(.mk k0 op0 n0 nm0 as0), (.mk k1 op1 n1 nm1 as1)]) = opT lv (.mk k0 op0 n0 nm0 as0) ++ 32 :: ((sgnOf op).data.toList ++ 32 :: opT (lv + 1) (.mk k1 op1 n1 nm1 as1)) := by rw [exT_mk, exTs_map, ← hlv]; rfl
  rw [e] at hl ⊢
  have hsz : (opT lv (.mk k0 op0 n0 nm0 as0)).length + 1 + (sgnOf op).size + 1 + (opT (lv + 1) (.mk k1 op1 n1 nm1 as1)).length ≤ 1099511627776 := by
    have h : (sgnOf op).size = (sgnOf op).data.toList.length := rfl
    rw [h]
    simp only [List.length_append, List.length_cons] at hl
    omega
  have HL0 : Hid ((opT lv (.mk k0 op0 n0 nm0 as0)).length ≤ 1099511627776) := by unfold Hid; omega
  have HL1 : Hid ((opT (lv + 1) (.mk k1 op1 n1 nm1 as1)).length ≤ 1099511627776) := by unfold Hid; omega
  have HLV : Hid (∀ w', Calls Tryz.prog 70 #[.int .i64 op] w' fun e w2 => e = .returned (.int .i64 lv) ∧ w' = w2) := fun w' => hlv ▸ rlevel_any op w'
  have HSUM : Hid (IntKind.i64.wrap (lv + 1) = lv + 1) := IntWalk.i64_in (lv + 1) (by omega)
  have y0 : ¬ 9223372036854775807 < (opT lv (.mk k0 op0 n0 nm0 as0)).length + 1 := by omega
  have y1 : ¬ 9223372036854775807 < (opT lv (.mk k0 op0 n0 nm0 as0)).length + 1 + (sgnOf op).size := by omega
  have y2 : ¬ 9223372036854775807 < (opT lv (.mk k0 op0 n0 nm0 as0)).length + 1 + (sgnOf op).size + 1 := by omega
  have y3 : ¬ 9223372036854775807 < (opT lv (.mk k0 op0 n0 nm0 as0)).length + 1 + (sgnOf op).size + 1 + (opT (lv + 1) (.mk k1 op1 n1 nm1 as1)).length := by omega
  clear hs hv hl hr e hx hE0 h0 h1 h2 h3 h4 hE1 hy r0 r1 r2 r3 r4 hlv
  go_enter Tryz.func39, Tryz.ntmps39
  go_wp2_with (go_at_call 70; (refine (HLV.out _).mono ?_); rintro e w1 ⟨rfl, rfl⟩)
  obtain ⟨W, hW⟩ : ∃ W, w.alloc (.cells #[.int .i64 5, .int .i64 op, .int .i64 n, .string name, .slice (some ⟨g, o, none⟩) 2 cap] 84) = W := ⟨_, rfl⟩
  have hWr : Below w.heap.size w W := hW ▸ (Below.refl _ _).alloc (Nat.le_refl _) _
  have hWs : W.heap.size = w.heap.size + 1 := by rw [← hW]; simp
  have hrow : W.heap[w.heap.size]? = some (.cells #[.int .i64 5, .int .i64 op, .int .i64 n, .string name, .slice (some ⟨g, o, none⟩) 2 cap] 84 (0, 0)) := by rw [← hW]; exact heap_alloc_new w _
  have x1 : W.cell? ⟨w.heap.size, 1, none⟩ = some (.int .i64 op) := by rw [Lib.cell_of_heap hrow]; rfl
  have x4 : W.cell? ⟨w.heap.size, 4, none⟩ = some (.slice (some ⟨g, o, none⟩) 2 cap) := by rw [Lib.cell_of_heap hrow]; rfl
  have cc : ∀ k x, w.cell? ⟨g, k, none⟩ = some x → W.cell? ⟨g, k, none⟩ = some x := fun k x h => (hWr.cell (p := ⟨g, k, none⟩) hgs).trans h
  have t0 := cc _ _ q0
  have t1 := cc _ _ q1
  have t2 := cc _ _ q2
  have t3 := cc _ _ q3
  have t4 := cc _ _ q4
  have u0 := cc _ _ s0
  have u1 := cc _ _ s1
  have u2 := cc _ _ s2
  have u3 := cc _ _ s3
  have u4 := cc _ _ s4
  have hBW : B ≤ W.heap.size := by omega
  have hqW : w.heap.size < W.heap.size := by omega
  have hgW : g < W.heap.size := by omega
  have hBWd : B ≤ W.drew.heap.size := hBW
  rw [hW]
  clear cc hW hrow q0 q1 q2 q3 q4 s0 s1 s2 s3 s4
  go_region_held3 (fun w' => w'.cell? ⟨w.heap.size, 1, none⟩ = some (.int .i64 op) ∧ w'.cell? ⟨w.heap.size, 4, none⟩ = some (.slice (some ⟨g, o, none⟩) 2 cap) ∧ w'.cell? ⟨g, o, none⟩ = some (.int .i64 k0) ∧ w'.cell? ⟨g, o + 1, none⟩ = some (.int .i64 op0) ∧ w'.cell? ⟨g, o + 2, none⟩ = some (.int .i64 n0) ∧ w'.cell? ⟨g, o + 3, none⟩ = some (.string nm0) ∧ w'.cell? ⟨g, o + 4, none⟩ = some (.slice A'0 as0.length cap0) ∧ w'.cell? ⟨g, o + 5, none⟩ = some (.int .i64 k1) ∧ w'.cell? ⟨g, o + 5 + 1, none⟩ = some (.int .i64 op1) ∧ w'.cell? ⟨g, o + 5 + 2, none⟩ = some (.int .i64 n1) ∧ w'.cell? ⟨g, o + 5 + 3, none⟩ = some (.string nm1) ∧ w'.cell? ⟨g, o + 5 + 4, none⟩ = some (.slice A'1 as1.length cap1))
    (first
      | (go_split_ands; refine ⟨?_, ?_, ?_, ?_, ?_, ?_, ?_, ?_, ?_, ?_, ?_, ?_⟩ <;> (first | (rw [hk3]; assumption) | (rw [hg3]; assumption)))
      | (go_split_ands; refine ⟨?_, ?_, ?_, ?_, ?_, ?_, ?_, ?_, ?_, ?_, ?_, ?_⟩ <;> (first | (rw [hk2]; assumption) | (rw [hg2]; assumption)))
      | (go_split_ands; refine ⟨?_, ?_, ?_, ?_, ?_, ?_, ?_, ?_, ?_, ?_, ?_, ?_⟩ <;> (first | (rw [hk1]; assumption) | (rw [hg1]; assumption)))
      | go_keep)
    (first
      | (go_at_call 69
         (with_reducible refine (RpC.call HX.out (w := W.drew) hBWd (HE0.out _ ((hWr.drew).mono hB)) HL0.out).mono ?_)
         rintro e w1 ⟨rfl, hb1⟩
         have ht1 : Below w.heap.size w w1 := (hWr.drew).trans (hb1.mono (by show w.heap.size ≤ W.heap.size; omega))
         have hz1 : W.heap.size ≤ w1.heap.size := (by have := hb1.size; simpa using this)
         have hB1 : B ≤ w1.heap.size := (by omega)
         have hk1 : ∀ k, w1.cell? ⟨w.heap.size, k, none⟩ = W.cell? ⟨w.heap.size, k, none⟩ := fun k => hb1.cell (p := ⟨w.heap.size, k, none⟩) hqW
         have hg1 : ∀ k, w1.cell? ⟨g, k, none⟩ = W.cell? ⟨g, k, none⟩ := fun k => hb1.cell (p := ⟨g, k, none⟩) hgW)
      | (go_at_call 68
         (refine (rsign_any op w1).mono ?_)
         rintro e w2 ⟨rfl, hb2⟩
         have ht2 : Below w.heap.size w w2 := ht1.trans (hb2.mono (by omega))
         have hz2 : W.heap.size ≤ w2.heap.size := (by have := hb2.size; omega)
         have hB2 : B ≤ w2.heap.size := (by omega)
         have hk2 : ∀ k, w2.cell? ⟨w.heap.size, k, none⟩ = W.cell? ⟨w.heap.size, k, none⟩ := fun k => (hb2.cell (p := ⟨w.heap.size, k, none⟩) (by show w.heap.size < w1.heap.size; omega)).trans (hk1 k)
         have hg2 : ∀ k, w2.cell? ⟨g, k, none⟩ = W.cell? ⟨g, k, none⟩ := fun k => (hb2.cell (p := ⟨g, k, none⟩) (by show g < w1.heap.size; omega)).trans (hg1 k))
      | (go_at_call 69
         rw [HSUM.out]
         (with_reducible refine (RpC.call HY.out (w := w2) hB2 (HE1.out _ (ht2.mono hB)) HL1.out).mono ?_)
         rintro e w3 ⟨rfl, hb3⟩
         have ht3 : Below w.heap.size w w3 := ht2.trans (hb3.mono (by omega))
         have hz3 : W.heap.size ≤ w3.heap.size := (by have := hb3.size; omega)
         have hB3 : B ≤ w3.heap.size := (by omega)
         have hk3 : ∀ k, w3.cell? ⟨w.heap.size, k, none⟩ = W.cell? ⟨w.heap.size, k, none⟩ := fun k => (hb3.cell (p := ⟨w.heap.size, k, none⟩) (by show w.heap.size < w2.heap.size; omega)).trans (hk2 k)
         have hg3 : ∀ k, w3.cell? ⟨g, k, none⟩ = W.cell? ⟨g, k, none⟩ := fun k => (hb3.cell (p := ⟨g, k, none⟩) (by show g < w2.heap.size; omega)).trans (hg2 k)))
  go_wp2_with (fail)
  go_ret
  refine ⟨ret_str (ba_ext ?_), ht3⟩
  simp [ByteArray.data_append]
end
end Go.Proofs.YtakijoblbmfadaaGreatDoor

/- The contract of the document's text of an expression, at every valid one. -/
namespace Go.Proofs.YtakijoblbmfadaaGreatDoor
open Go.RowKit
theorem formE_num {op n : Int} {name : ByteArray} {m : Nat} (h : formE 1 op n name m = true) : 0 ≤ n := by
  simp [formE] at h
  omega
theorem rtext_any (B : Nat) : ∀ (m : Nat) (e : Ex), exOK e m = true → RtC B e
  | 0, .mk k op n name args, h => by
    rw [exOK_mk] at h
    simp at h
  | m + 1, .mk k op n name args, h => by
    rw [exOK_mk, Bool.and_eq_true, Bool.and_eq_true] at h
    obtain ⟨⟨_, hf⟩, hk⟩ := h
    rw [Nat.add_sub_cancel] at hk
    have ih : ∀ (i : Nat) e, args[i]? = some e → RtC B e := fun i e hi => rtext_any B m e (exsOK_at hk hi)
    rcases formE_kind hf with rfl | rfl | rfl | rfl | rfl | rfl | rfl | rfl
    · exact rtext_num B op n name args (formE_num hf)
    · exact rtext_truth B op n name args
    · exact rtext_var B op n name args
    · obtain ⟨a, rfl⟩ := formE_one hf
      by_cases h23 : 23 ≤ op
      · exact rtext_one_call B op n name h23 a (ih 0 a rfl)
      · exact rtext_one_sign B op n name h23 a (ih 0 a rfl)
    · obtain ⟨a, c, rfl⟩ := formE_two hf
      exact rtext_two B op n name a c (ih 0 a rfl) (ih 1 c rfl)
    · obtain ⟨a, rfl⟩ := formE_index hf
      exact rtext_index B op n name a (ih 0 a rfl)
    · exact rtext_call B op n name args ih
    · exact rtext_read B op n name args
end Go.Proofs.YtakijoblbmfadaaGreatDoor
