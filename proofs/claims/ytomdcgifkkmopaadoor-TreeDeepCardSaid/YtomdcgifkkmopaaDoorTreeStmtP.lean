/- The contract of the method stmt of package tree: put. -/
import Derived.Test.YtomdcgifkkmopaaDoorTreeStmt
import Derived.Deep.RegionHeld3
namespace Go.Proofs.YtomdcgifkkmopaaDoor
open Go.RowKit
section
variable (B b : Nat) (ty : Int) (name : ByteArray) (thn els : List St)
set_option maxHeartbeats 4000000 in
set_option maxRecDepth 100000 in
theorem stmt_put (a c : Ex) (ha : exOK a 100 = true) (hc : exOK c 100 = true) : StC B b 3 ty name [a, c] thn els := by
  intro bs tabs w v hT ht hB hv htabs hl
  obtain ⟨A1, c1, A2, c2, A3, c3, rfl, hs, _, _⟩ := hv.elim
  obtain ⟨k0, op0, n0, nm0, as0⟩ := a
  obtain ⟨k1, op1, n1, nm1, as1⟩ := c
  obtain ⟨g, o, A'0, cap0, rfl, hg, h0, h1, h2, h3, h4, hE0, _⟩ := kid_cells hs 0 k0 op0 n0 nm0 as0 rfl
  obtain ⟨g2, o2, A'1, cap1, hA2, _, r0, r1, r2, r3, r4, hE1, _⟩ := kid_cells hs 1 k1 op1 n1 nm1 as1 rfl
  injection hA2 with hA2
  injection hA2 with e1 e2 _
  subst e1 e2
  have q0 : w.cell? ⟨g, o, none⟩ = some (.int .i64 k0) := by simpa using h0
  have q1 : w.cell? ⟨g, o + 1, none⟩ = some (.int .i64 op0) := by simpa using h1
  have q2 : w.cell? ⟨g, o + 2, none⟩ = some (.int .i64 n0) := by simpa using h2
  have q3 : w.cell? ⟨g, o + 3, none⟩ = some (.string nm0) := by simpa using h3
  have q4 : w.cell? ⟨g, o + 4, none⟩ = some (.slice A'0 as0.length cap0) := by simpa using h4
  have s0 : w.cell? ⟨g, o + 5, none⟩ = some (.int .i64 k1) := by simpa using r0
  have s1 : w.cell? ⟨g, o + 5 + 1, none⟩ = some (.int .i64 op1) := by simpa using r1
  have s2 : w.cell? ⟨g, o + 5 + 2, none⟩ = some (.int .i64 n1) := by simpa using r2
  have s3 : w.cell? ⟨g, o + 5 + 3, none⟩ = some (.string nm1) := by simpa using r3
  have s4 : w.cell? ⟨g, o + 5 + 4, none⟩ = some (.slice A'1 as1.length cap1) := by simpa using r4
  have hgs : g < w.heap.size := by omega
  have HT := Lib.hid hT
  have HTT := Lib.hid ht
  have ht1 : tabs ≤ 1000 := by omega
  have HP : Hid (∀ w', Below B w w' → PtVs B w' [.str name, .str ⟨#[91]⟩, .ex (.mk k0 op0 n0 nm0 as0), .str ⟨#[93, 32, 61, 32]⟩, .ex (.mk k1 op1 n1 nm1 as1), .str ⟨#[59]⟩] (#[.iface 9 (.string name), .iface 9 (.string ⟨#[91]⟩), .iface 24 (.agg #[.int .i64 k0, .int .i64 op0, .int .i64 n0, .string nm0, .slice A'0 as0.length cap0]), .iface 9 (.string ⟨#[93, 32, 61, 32]⟩), .iface 24 (.agg #[.int .i64 k1, .int .i64 op1, .int .i64 n1, .string nm1, .slice A'1 as1.length cap1]), .iface 9 (.string ⟨#[59]⟩)] : Array Value).toList) := fun w' hb => ⟨rfl, rfl, ⟨_, rfl, hE0 w' hb⟩, rfl, ⟨_, rfl, hE1 w' hb⟩, rfl, trivial⟩
  have HW : Hid (LnC B b [.str name, .str ⟨#[91]⟩, .ex (.mk k0 op0 n0 nm0 as0), .str ⟨#[93, 32, 61, 32]⟩, .ex (.mk k1 op1 n1 nm1 as1), .str ⟨#[59]⟩]) := parts_any _ (fun p hp => by
    simp only [List.mem_cons, List.not_mem_nil, or_false] at hp
    rcases hp with rfl | rfl | rfl | rfl | rfl | rfl
    · exact .inl ⟨_, rfl⟩
    · exact .inl ⟨_, rfl⟩
    · exact .inr (.inr ⟨_, rfl, ha⟩)
    · exact .inl ⟨_, rfl⟩
    · exact .inr (.inr ⟨_, rfl, hc⟩)
    · exact .inl ⟨_, rfl⟩)
  rw [stT_line tabs [.str name, .str ⟨#[91]⟩, .ex (.mk k0 op0 n0 nm0 as0), .str ⟨#[93, 32, 61, 32]⟩, .ex (.mk k1 op1 n1 nm1 as1), .str ⟨#[59]⟩] (by decide) (by rw [show headT 3 ty name [(.mk k0 op0 n0 nm0 as0), (.mk k1 op1 n1 nm1 as1)] = _ from rfl]; simp [ptsT, ptT, argT, exTs, kid, headT])] at hl ⊢
  have HL := Lib.hid (line_len hl)
  clear hT ht hl hv hs h0 h1 h2 h3 h4 hE0 ha r0 r1 r2 r3 r4 hE1 hc
  go_enter Tryd.func22, Tryd.ntmps22
  go_wp2_with (fail)
  obtain ⟨W, hW⟩ : ∃ W, w.alloc (.cells #[.int .i64 3, .int .i64 ty, .string name, .slice (some ⟨g, o, none⟩) 2 c1, .slice A2 thn.length c2, .slice A3 els.length c3] 27) = W := ⟨_, rfl⟩
  have hWr : Wr B b w W := hW ▸ (Wr.refl B b w).alloc hB _
  have hWs : W.heap.size = w.heap.size + 1 := by rw [← hW]; simp
  have HTW : Hid (TextAt B b bs tabs W) := by rw [← hW]; exact HT.out.alloc _
  have hrow : W.heap[w.heap.size]? = some (.cells #[.int .i64 3, .int .i64 ty, .string name, .slice (some ⟨g, o, none⟩) 2 c1, .slice A2 thn.length c2, .slice A3 els.length c3] 27 (0, 0)) := by rw [← hW]; exact heap_alloc_new w _
  have x2 : W.cell? ⟨w.heap.size, 2, none⟩ = some (.string name) := by rw [Lib.cell_of_heap hrow]; rfl
  have x3 : W.cell? ⟨w.heap.size, 3, none⟩ = some (.slice (some ⟨g, o, none⟩) 2 c1) := by rw [Lib.cell_of_heap hrow]; rfl
  have cc : ∀ k x, w.cell? ⟨g, k, none⟩ = some x → W.cell? ⟨g, k, none⟩ = some x := fun k x h => (hWr.bel.cell (p := ⟨g, k, none⟩) hg).trans h
  have t0 := cc _ _ q0
  have t1 := cc _ _ q1
  have t2 := cc _ _ q2
  have t3 := cc _ _ q3
  have t4 := cc _ _ q4
  have u0 := cc _ _ s0
  have u1 := cc _ _ s1
  have u2 := cc _ _ s2
  have u3 := cc _ _ s3
  have u4 := cc _ _ s4
  have hBW : B ≤ W.heap.size := Nat.le_trans hB hWr.bel.size
  have HR := Lib.hid hrow
  have HWS := Lib.hid hWs
  have hqW : w.heap.size < W.heap.size := by omega
  have hgW : g < W.heap.size := by omega
  rw [hW]
  clear cc hW hrow hWs q0 q1 q2 q3 q4 s0 s1 s2 s3 s4
  go_region_held3 (fun w' => w'.cell? ⟨w.heap.size, 2, none⟩ = some (.string name) ∧ w'.cell? ⟨w.heap.size, 3, none⟩ = some (.slice (some ⟨g, o, none⟩) 2 c1) ∧ w'.cell? ⟨g, o, none⟩ = some (.int .i64 k0) ∧ w'.cell? ⟨g, o + 1, none⟩ = some (.int .i64 op0) ∧ w'.cell? ⟨g, o + 2, none⟩ = some (.int .i64 n0) ∧ w'.cell? ⟨g, o + 3, none⟩ = some (.string nm0) ∧ w'.cell? ⟨g, o + 4, none⟩ = some (.slice A'0 as0.length cap0) ∧ w'.cell? ⟨g, o + 5, none⟩ = some (.int .i64 k1) ∧ w'.cell? ⟨g, o + 5 + 1, none⟩ = some (.int .i64 op1) ∧ w'.cell? ⟨g, o + 5 + 2, none⟩ = some (.int .i64 n1) ∧ w'.cell? ⟨g, o + 5 + 3, none⟩ = some (.string nm1) ∧ w'.cell? ⟨g, o + 5 + 4, none⟩ = some (.slice A'1 as1.length cap1))
    (first
      | (go_split_ands; refine ⟨?_, ?_, ?_, ?_, ?_, ?_, ?_, ?_, ?_, ?_, ?_, ?_⟩ <;> (first | assumption | (rw [hg3]; assumption) | (rw [Lib.cell_of_heap hrow3]; rfl)))
      | go_keep)
    (first
      | (go_at_call 9
         (refine (LnC.call (HTW.out.drew.alloc _) (HTT.out.below (hWr.bel.drew.alloc hBW _)) (by simp; omega) HW.out (PtsAt.made (w := W.drew) hBW (HP.out _ hWr.bel.drew) _ 6 rfl rfl (by decide)) ht1 HL.out).mono ?_)
         rintro e w2 ⟨rfl, hT2, hw2⟩
         have hrow3 := hw2.row (HTW.out.drew.alloc _) ((Lib.alloc_old W.drew _ _ hqW).trans HR.out) (by decide) (by decide)
         have hg3 : ∀ k, w2.cell? ⟨g, k, none⟩ = W.cell? ⟨g, k, none⟩ := fun k => (((hWr.drew.alloc hBW _).trans hw2).bel.cell (p := ⟨g, k, none⟩) hg).trans (hWr.bel.cell (p := ⟨g, k, none⟩) hg).symm))
  go_wp2_with (fail)
  go_end0
  exact ⟨rfl, hT2, (hWr.drew.alloc hBW _).trans hw2⟩
end
end Go.Proofs.YtomdcgifkkmopaaDoor
