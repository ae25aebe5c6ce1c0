/- The contract of the method expr of package tree: an operator of two. -/
import Derived.Test.YtomdcgifkkmopaaDoorTreeExprI
import Derived.Deep.RegionHeld3
namespace Go.Proofs.YtomdcgifkkmopaaDoor
open Go.RowKit
theorem pts5 (a b c d e : Pt) : ptsT [a, b, c, d, e] = ptT a ++ (ptT b ++ (ptT c ++ (ptT d ++ ptT e))) := by simp [ptsT]
theorem exT_two (op n : Int) (name : ByteArray) (a c : Ex) : exT (.mk 5 op n name [a, c]) = ptsT [.opd a (lvlOf op), .str ⟨#[32]⟩, .str (sgnOf op), .str ⟨#[32]⟩, .opd c (lvlOf op + 1)] := by
  rw [exT_mk, exTs_map, pts5]
  rfl
theorem lvlOf_bd (op : Int) : 0 ≤ lvlOf op ∧ lvlOf op ≤ 10 := by
  unfold lvlOf
  split
  · rename_i h
    have h1 : op.toNat ≤ 28 := by omega
    have key : ∀ k : Nat, k ≤ 28 → 0 ≤ lvl k ∧ lvl k ≤ 10 := by decide
    exact key _ h1
  · omega
set_option maxHeartbeats 4000000 in
set_option maxRecDepth 100000 in
theorem expr_two (B b : Nat) (op n : Int) (name : ByteArray) (a c : Ex) (ha : ExC B b a) (hc : ExC B b c) : ExC B b (.mk 5 op n name [a, c]) := by
  intro bs tabs w v hT ht hB hv hl
  obtain ⟨A, cap, rfl, hr, hs⟩ := ExV.elim hv
  obtain ⟨k1, op1, n1, nm1, as1⟩ := a
  obtain ⟨k2, op2, n2, nm2, as2⟩ := c
  obtain ⟨g, o, A', cap', rfl, hg, h0, h1, h2, h3, h4, _, hE⟩ := kid_cells hs 0 k1 op1 n1 nm1 as1 rfl
  obtain ⟨g2, o2, A2, cap2, hA2, _, r0, r1, r2, r3, r4, _, hE2⟩ := kid_cells hs 1 k2 op2 n2 nm2 as2 rfl
  injection hA2 with hA2
  injection hA2 with e1 e2 _
  subst e1 e2
  have q0 : w.cell? ⟨g, o, none⟩ = some (.int .i64 k1) := by simpa using h0
  have q1 : w.cell? ⟨g, o + 1, none⟩ = some (.int .i64 op1) := by simpa using h1
  have q2 : w.cell? ⟨g, o + 2, none⟩ = some (.int .i64 n1) := by simpa using h2
  have q3 : w.cell? ⟨g, o + 3, none⟩ = some (.string nm1) := by simpa using h3
  have q4 : w.cell? ⟨g, o + 4, none⟩ = some (.slice A' as1.length cap') := by simpa using h4
  have s0 : w.cell? ⟨g, o + 5, none⟩ = some (.int .i64 k2) := by simpa using r0
  have s1 : w.cell? ⟨g, o + 5 + 1, none⟩ = some (.int .i64 op2) := by simpa using r1
  have s2 : w.cell? ⟨g, o + 5 + 2, none⟩ = some (.int .i64 n2) := by simpa using r2
  have s3 : w.cell? ⟨g, o + 5 + 3, none⟩ = some (.string nm2) := by simpa using r3
  have s4 : w.cell? ⟨g, o + 5 + 4, none⟩ = some (.slice A2 as2.length cap2) := by simpa using r4
  have hgs : g < w.heap.size := by omega
  obtain ⟨lv, hlv⟩ : ∃ lv, lvlOf op = lv := ⟨_, rfl⟩
  have hbd := lvlOf_bd op
  rw [hlv] at hbd
  obtain ⟨hlo, hhi⟩ := hbd
  have HT := Lib.hid hT
  have HTT := Lib.hid ht
  have HP : Hid (∀ w', Below B w w' → PtVs B w' [.opd (.mk k1 op1 n1 nm1 as1) lv, .str ⟨#[32]⟩, .str (sgnOf op), .str ⟨#[32]⟩, .opd (.mk k2 op2 n2 nm2 as2) (lv + 1)]
      (#[.iface 81 (.agg #[.int .i64 k1, .int .i64 op1, .int .i64 n1, .string nm1, .slice A' as1.length cap', .int .i64 lv]), .iface 9 (.string ⟨#[32]⟩), .iface 9 (.string (sgnOf op)), .iface 9 (.string ⟨#[32]⟩),
        .iface 81 (.agg #[.int .i64 k2, .int .i64 op2, .int .i64 n2, .string nm2, .slice A2 as2.length cap2, .int .i64 (IntKind.i64.wrap (lv + 1))])] : Array Value).toList) :=
    fun w' hb => by rw [IntWalk.i64_in (lv + 1) (by omega)]; exact ⟨⟨_, rfl, hE w' _ hb⟩, rfl, rfl, rfl, ⟨_, rfl, hE2 w' _ hb⟩, trivial⟩
  have HW : Hid (WrC B b [.opd (.mk k1 op1 n1 nm1 as1) lv, .str ⟨#[32]⟩, .str (sgnOf op), .str ⟨#[32]⟩, .opd (.mk k2 op2 n2 nm2 as2) (lv + 1)]) := write_core B b _ (forall_list fun p hp => by
    simp only [List.mem_cons, List.not_mem_nil, or_false] at hp
    rcases hp with rfl | rfl | rfl | rfl | rfl
    · exact operand_any B b _ ha lv
    · trivial
    · trivial
    · trivial
    · exact operand_any B b _ hc (lv + 1))
  rw [exT_two, hlv] at hl ⊢
  have HL := Lib.hid hl
  have HLV : Hid (∀ w', Tab w' → Calls Tryd.prog 53 #[.int .i64 op] w' fun e w2 => e = .returned (.int .i64 lv) ∧ Below w'.heap.size w' w2) := fun w' h => hlv ▸ level_any op w' h
  clear hT ht hs hr hl hv ha hc h0 h1 h2 h3 h4 r0 r1 r2 r3 r4 hE hE2 hlv
  go_enter Tryd.func37, Tryd.ntmps37
  go_wp2_with (go_at_call 53; (refine (HLV.out _ (HTT.out.below ((Below.refl _ _).alloc hB _)).rows).mono ?_); rintro e w1 ⟨rfl, hb1⟩)
  have hz1 : B ≤ w1.heap.size := by have := hb1.size; simp at this; omega
  have hw1 : Wr B b w w1 := ((Wr.refl B b w).alloc hB _).trans (Wr.of_below hb1 (by simp; omega))
  have hq1 : w.heap.size < w1.heap.size := by have := hb1.size; simp at this; omega
  have hg1 : g < w1.heap.size := by omega
  have HT1 := Lib.hid ((HT.out.alloc (.cells #[.int .i64 5, .int .i64 op, .int .i64 n, .string name, .slice (some ⟨g, o, none⟩) 2 cap] 24)).below hb1)
  have hbb := hw1.bel
  have cc : ∀ k x, w.cell? ⟨g, k, none⟩ = some x → w1.cell? ⟨g, k, none⟩ = some x := fun k x h => (hbb.cell (p := ⟨g, k, none⟩) hg).trans h
  have t0 := cc _ _ q0
  have t1 := cc _ _ q1
  have t2 := cc _ _ q2
  have t3 := cc _ _ q3
  have t4 := cc _ _ q4
  have u0 := cc _ _ s0
  have u1 := cc _ _ s1
  have u2 := cc _ _ s2
  have u3 := cc _ _ s3
  have u4 := cc _ _ s4
  obtain ⟨hc1, hf1⟩ := bcell hb1
  have x1 : w1.cell? ⟨w.heap.size, 1, none⟩ = some (.int .i64 op) := by rw [hc1 _ _ (by simp)]; simp
  have x4 : w1.cell? ⟨w.heap.size, 4, none⟩ = some (.slice (some ⟨g, o, none⟩) 2 cap) := by rw [hc1 _ _ (by simp)]; simp
  clear cc hc1 hf1 q0 q1 q2 q3 q4 s0 s1 s2 s3 s4
  go_wp2_with (fail)
  go_region_held3 (fun w' => w'.cell? ⟨w.heap.size, 1, none⟩ = some (.int .i64 op) ∧ w'.cell? ⟨w.heap.size, 4, none⟩ = some (.slice (some ⟨g, o, none⟩) 2 cap) ∧ w'.cell? ⟨g, o, none⟩ = some (.int .i64 k1) ∧ w'.cell? ⟨g, o + 1, none⟩ = some (.int .i64 op1) ∧ w'.cell? ⟨g, o + 2, none⟩ = some (.int .i64 n1) ∧ w'.cell? ⟨g, o + 3, none⟩ = some (.string nm1) ∧ w'.cell? ⟨g, o + 4, none⟩ = some (.slice A' as1.length cap') ∧ w'.cell? ⟨g, o + 5, none⟩ = some (.int .i64 k2) ∧ w'.cell? ⟨g, o + 5 + 1, none⟩ = some (.int .i64 op2) ∧ w'.cell? ⟨g, o + 5 + 2, none⟩ = some (.int .i64 n2) ∧ w'.cell? ⟨g, o + 5 + 3, none⟩ = some (.string nm2) ∧ w'.cell? ⟨g, o + 5 + 4, none⟩ = some (.slice A2 as2.length cap2))
    (first
      | (go_split_ands; refine ⟨?_, ?_, ?_, ?_, ?_, ?_, ?_, ?_, ?_, ?_, ?_, ?_⟩ <;> (first | assumption | (rw [hg3]; assumption) | (rw [Lib.cell_of_heap hrow3]; rfl)))
      | (go_split_ands; refine ⟨?_, ?_, ?_, ?_, ?_, ?_, ?_, ?_, ?_, ?_, ?_, ?_⟩ <;> (first | assumption | (rw [hc2 _ _ (by simp; omega)]; assumption)))
      | go_keep)
    (first
      | (go_at_call 54
         (refine (sign_any op _ (HTT.out.below hbb.drew).rows).mono ?_)
         rintro e w2 ⟨rfl, hb2⟩
         obtain ⟨hc2, hf2⟩ := bcell hb2
         have hz2 : B ≤ w2.heap.size := (by have := hb2.size; simp at this; omega)
         have hw2 : Wr B b w w2 := (hw1.drew).trans (Wr.of_below hb2 hz1)
         have HT2 := Lib.hid (HT1.out.drew.below hb2)
         have hrow2 : w2.heap[w.heap.size]? = some (.cells #[.int .i64 5, .int .i64 op, .int .i64 n, .string name, .slice (some ⟨g, o, none⟩) 2 cap] 24 (0, 0)) := (hb2.block _ hq1).trans ((hb1.block _ (by simp)).trans (heap_alloc_new w _))
         have hq2 : w.heap.size < w2.heap.size := (by have := hb2.size; simp at this; omega))
      | (go_at_call 21
         (refine (WrC.call (HT2.out.alloc _) (HTT.out.below (hw2.bel.alloc hz2 _)) (by simp; omega) HW.out (PtsAt.made hz2 (HP.out _ hw2.bel) _ 5 rfl rfl (by decide)) HL.out).mono ?_)
         rintro e w3 ⟨rfl, hT3, hw3⟩
         have hrow3 := hw3.row (HT2.out.alloc _) ((Lib.alloc_old w2 _ _ hq2).trans hrow2) (by decide) (by decide)
         have hg3 : ∀ k, w3.cell? ⟨g, k, none⟩ = w1.cell? ⟨g, k, none⟩ := fun k => (((hw2.alloc hz2 _).trans hw3).bel.cell (p := ⟨g, k, none⟩) hg).trans (hbb.cell (p := ⟨g, k, none⟩) hg).symm))
  go_wp2_with (fail)
  go_end0
  exact ⟨rfl, hT3, (hw2.alloc hz2 _).trans hw3⟩
end Go.Proofs.YtomdcgifkkmopaaDoor
