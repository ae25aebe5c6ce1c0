/- The contract of the method stmt of package tree: if. -/
import Derived.Test.YtomdcgifkkmopaaDoorTreeBlock
namespace Go.Proofs.YtomdcgifkkmopaaDoor
open Go.RowKit
section
variable (B b T : Nat) (ty : Int) (name : ByteArray) (a : Ex) (thn els : List St) (ha : exOK a 100 = true) (hT9 : T ≤ 990)
include ha hT9
set_option maxHeartbeats 4000000 in
set_option maxRecDepth 100000 in
theorem stmt_if (h1 : BlC B b T thn) (h2 : BlC B b T els) : StT B b T (.mk 4 ty name [a] thn els) := by
  intro bs w v hT ht hB hv hl
  obtain ⟨A1, c1, A2, c2, A3, c3, rfl, hs, hs4, hs5⟩ := StV.elim hv
  obtain ⟨k0, op0, n0, nm0, as0⟩ := a
  obtain ⟨g, o, A'0, cap0, rfl, hg, p0, p1, p2, p3, p4, hE0, _⟩ := kid_cells hs 0 k0 op0 n0 nm0 as0 rfl
  have q0 : w.cell? ⟨g, o, none⟩ = some (.int .i64 k0) := by simpa using p0
  have q1 : w.cell? ⟨g, o + 1, none⟩ = some (.int .i64 op0) := by simpa using p1
  have q2 : w.cell? ⟨g, o + 2, none⟩ = some (.int .i64 n0) := by simpa using p2
  have q3 : w.cell? ⟨g, o + 3, none⟩ = some (.string nm0) := by simpa using p3
  have q4 : w.cell? ⟨g, o + 4, none⟩ = some (.slice A'0 as0.length cap0) := by simpa using p4
  have hgs : g < w.heap.size := by omega
  have HT := Lib.hid hT
  have HTT := Lib.hid ht
  have hT1000 : T ≤ 1000 := by omega
  have HP : Hid (∀ w', Below B w w' → PtVs B w' [.str ⟨#[105, 102, 32, 40]⟩, .ex (.mk k0 op0 n0 nm0 as0), .str ⟨#[41, 32, 123]⟩] (#[.iface 9 (.string ⟨#[105, 102, 32, 40]⟩), .iface 24 (.agg #[.int .i64 k0, .int .i64 op0, .int .i64 n0, .string nm0, .slice A'0 as0.length cap0]), .iface 9 (.string ⟨#[41, 32, 123]⟩)] : Array Value).toList) := fun w' hb => ⟨rfl, ⟨_, rfl, hE0 w' hb⟩, rfl, trivial⟩
  have HW : Hid (LnC B b [.str ⟨#[105, 102, 32, 40]⟩, .ex (.mk k0 op0 n0 nm0 as0), .str ⟨#[41, 32, 123]⟩]) := parts_any _ (fun p hp => by
    simp only [List.mem_cons, List.not_mem_nil, or_false] at hp
    rcases hp with rfl | rfl | rfl
    · exact .inl ⟨_, rfl⟩
    · exact .inr (.inr ⟨_, rfl, ha⟩)
    · exact .inl ⟨_, rfl⟩)
  have HP2 : Hid (∀ w', PtVs B w' [.str ⟨#[125]⟩] (#[.iface 9 (.string ⟨#[125]⟩)] : Array Value).toList) := fun w' => ⟨rfl, trivial⟩
  have HW2 : Hid (LnC B b [.str ⟨#[125]⟩]) := parts_any _ (by simp)
  have HP3 : Hid (∀ w', PtVs B w' [.str ⟨#[125, 32, 101, 108, 115, 101, 32, 123]⟩] (#[.iface 9 (.string ⟨#[125, 32, 101, 108, 115, 101, 32, 123]⟩)] : Array Value).toList) := fun w' => ⟨rfl, trivial⟩
  have HW3 : Hid (LnC B b [.str ⟨#[125, 32, 101, 108, 115, 101, 32, 123]⟩]) := parts_any _ (by simp)
  have HH : headT 4 ty name [.mk k0 op0 n0 nm0 as0] = ptsT [.str ⟨#[105, 102, 32, 40]⟩, .ex (.mk k0 op0 n0 nm0 as0), .str ⟨#[41, 32, 123]⟩] := by simp [ptsT, ptT, argT, exTs, kid, headT]
  have hlt : (tabT T).length = T := by simp [tabT]
  by_cases hel : els.length = 0
  · have he : stT (.mk 4 ty name [.mk k0 op0 n0 nm0 as0] thn els) T = (tabT T ++ (ptsT [.str ⟨#[105, 102, 32, 40]⟩, .ex (.mk k0 op0 n0 nm0 as0), .str ⟨#[41, 32, 123]⟩] ++ [10])) ++ (stsT thn (T + 1) ++ (tabT T ++ (ptsT [.str ⟨#[125]⟩] ++ [10]))) := by
      rw [stT_mk, HH, if_pos rfl, if_pos hel]
      simp [ptsT, ptT]
    rw [he] at hl ⊢
    have hd : ¬ 0 < els.length := by omega
    have HL1 : Hid (bs.length + T + (ptsT [.str ⟨#[105, 102, 32, 40]⟩, .ex (.mk k0 op0 n0 nm0 as0), .str ⟨#[41, 32, 123]⟩]).length + 1 ≤ 140737488355328) := by unfold Hid; simp only [List.length_append, List.length_singleton, hlt] at hl ⊢; omega
    have HL2 : Hid ((bs ++ (tabT T ++ (ptsT [.str ⟨#[105, 102, 32, 40]⟩, .ex (.mk k0 op0 n0 nm0 as0), .str ⟨#[41, 32, 123]⟩] ++ [10]))).length + (stsT thn (T + 1)).length ≤ 140737488355328) := by unfold Hid; simp only [List.length_append, List.length_singleton, hlt] at hl ⊢; omega
    have HL3 : Hid ((bs ++ (tabT T ++ (ptsT [.str ⟨#[105, 102, 32, 40]⟩, .ex (.mk k0 op0 n0 nm0 as0), .str ⟨#[41, 32, 123]⟩] ++ [10])) ++ stsT thn (T + 1)).length + T + (ptsT [.str ⟨#[125]⟩]).length + 1 ≤ 140737488355328) := by unfold Hid; simp only [List.length_append, List.length_singleton, hlt] at hl ⊢; omega
    have HS4 := Lib.hid hs4
    have HS5 := Lib.hid hs5
    have H1 := Lib.hid h1
    clear hT ht hl hv hs hs4 hs5 p0 p1 p2 p3 p4 hE0 ha h1 hlt he HH h2 hel
    go_enter Tryd.func22, Tryd.ntmps22
    go_wp2_with (first
      | (go_at_call 9
         (with_reducible refine (LnC.call ((HT.out.alloc _).alloc _) ((HTT.out.below ((Below.refl _ _).alloc hB _)).below ((Below.refl _ _).alloc (by simp; omega) _)) (by simp; omega) HW.out (PtsAt.made (by simp; omega) (HP.out _ ((Below.refl _ _).alloc hB _)) _ 3 (by simp) rfl (by decide)) hT1000 HL1.out).mono ?_)
         rintro e w1 ⟨rfl, hT1, hw1⟩
         have hA1 : Wr B b w w1 := (((Wr.refl B b w).alloc hB _).alloc (by simp; omega) _).trans hw1
         have hr1 : w1.heap[w.heap.size]? = some (.cells #[.int .i64 4, .int .i64 ty, .string name, .slice (some ⟨g, o, none⟩) 1 c1, .slice A2 thn.length c2, .slice A3 els.length c3] 27 (0, 0)) := hw1.row ((HT.out.alloc _).alloc _) ((Lib.alloc_old _ _ _ (by simp)).trans (heap_alloc_new w _)) (by decide) (by decide)
         have y4 : w1.cell? ⟨w.heap.size, 4, none⟩ = some (.slice A2 thn.length c2) := (by rw [Lib.cell_of_heap hr1]; rfl)
         have hz1 : B ≤ w1.heap.size := Nat.le_trans hB hA1.bel.size
         have HT1 := Lib.hid hT1
         have HR1 := Lib.hid hr1
         have HA1 := Lib.hid hA1
         clear hT1 hw1 hr1 hA1)
      | (go_at_call 10
         (with_reducible refine (BlC.call HT1.out (HTT.out.below HA1.out.bel) hz1 H1.out (HS4.out.below HA1.out.bel (Nat.le_refl _)) HL2.out).mono ?_)
         rintro e w2 ⟨rfl, hT2, hw2⟩
         have hr2 := hw2.row HT1.out HR1.out (by decide) (by decide)
         have y5 : w2.cell? ⟨w.heap.size, 5, none⟩ = some (.slice A3 els.length c3) := (by rw [Lib.cell_of_heap hr2]; rfl)
         have hz2 : B ≤ w2.heap.size := Nat.le_trans hz1 hw2.bel.size
         have HT2 := Lib.hid hT2
         have HR2 := Lib.hid hr2
         have HA2 := Lib.hid (HA1.out.trans hw2)
         clear hT2 hw2 hr2)
      | (go_at_call 9
         (with_reducible refine (LnC.call (HT2.out.alloc _) (HTT.out.below (HA2.out.bel.alloc hz2 _)) (by simp; omega) HW2.out (PtsAt.made hz2 (HP2.out _) _ 1 rfl rfl (by decide)) hT1000 HL3.out).mono ?_)
         rintro e w3 ⟨rfl, hT3, hw3⟩))
    go_end0
    refine ⟨rfl, ?_, (HA2.out.alloc hz2 _).trans hw3⟩
    rw [← List.append_assoc, ← List.append_assoc]
    exact hT3
  · have he : stT (.mk 4 ty name [.mk k0 op0 n0 nm0 as0] thn els) T = (tabT T ++ (ptsT [.str ⟨#[105, 102, 32, 40]⟩, .ex (.mk k0 op0 n0 nm0 as0), .str ⟨#[41, 32, 123]⟩] ++ [10])) ++ (stsT thn (T + 1) ++ ((tabT T ++ (ptsT [.str ⟨#[125, 32, 101, 108, 115, 101, 32, 123]⟩] ++ [10])) ++ (stsT els (T + 1) ++ (tabT T ++ (ptsT [.str ⟨#[125]⟩] ++ [10]))))) := by
      rw [stT_mk, HH, if_pos rfl, if_neg hel]
      simp [ptsT, ptT]
    rw [he] at hl ⊢
    have hd : 0 < els.length := by omega
    have HL1 : Hid (bs.length + T + (ptsT [.str ⟨#[105, 102, 32, 40]⟩, .ex (.mk k0 op0 n0 nm0 as0), .str ⟨#[41, 32, 123]⟩]).length + 1 ≤ 140737488355328) := by unfold Hid; simp only [List.length_append, List.length_singleton, hlt] at hl ⊢; omega
    have HL2 : Hid ((bs ++ (tabT T ++ (ptsT [.str ⟨#[105, 102, 32, 40]⟩, .ex (.mk k0 op0 n0 nm0 as0), .str ⟨#[41, 32, 123]⟩] ++ [10]))).length + (stsT thn (T + 1)).length ≤ 140737488355328) := by unfold Hid; simp only [List.length_append, List.length_singleton, hlt] at hl ⊢; omega
    have HL3 : Hid ((bs ++ (tabT T ++ (ptsT [.str ⟨#[105, 102, 32, 40]⟩, .ex (.mk k0 op0 n0 nm0 as0), .str ⟨#[41, 32, 123]⟩] ++ [10])) ++ stsT thn (T + 1)).length + T + (ptsT [.str ⟨#[125, 32, 101, 108, 115, 101, 32, 123]⟩]).length + 1 ≤ 140737488355328) := by unfold Hid; simp only [List.length_append, List.length_singleton, hlt] at hl ⊢; omega
    have HL4 : Hid ((bs ++ (tabT T ++ (ptsT [.str ⟨#[105, 102, 32, 40]⟩, .ex (.mk k0 op0 n0 nm0 as0), .str ⟨#[41, 32, 123]⟩] ++ [10])) ++ stsT thn (T + 1) ++ (tabT T ++ (ptsT [.str ⟨#[125, 32, 101, 108, 115, 101, 32, 123]⟩] ++ [10]))).length + (stsT els (T + 1)).length ≤ 140737488355328) := by unfold Hid; simp only [List.length_append, List.length_singleton, hlt] at hl ⊢; omega
    have HL5 : Hid ((bs ++ (tabT T ++ (ptsT [.str ⟨#[105, 102, 32, 40]⟩, .ex (.mk k0 op0 n0 nm0 as0), .str ⟨#[41, 32, 123]⟩] ++ [10])) ++ stsT thn (T + 1) ++ (tabT T ++ (ptsT [.str ⟨#[125, 32, 101, 108, 115, 101, 32, 123]⟩] ++ [10])) ++ stsT els (T + 1)).length + T + (ptsT [.str ⟨#[125]⟩]).length + 1 ≤ 140737488355328) := by unfold Hid; simp only [List.length_append, List.length_singleton, hlt] at hl ⊢; omega
    have HS4 := Lib.hid hs4
    have HS5 := Lib.hid hs5
    have H1 := Lib.hid h1
    have H2 := Lib.hid h2
    clear hT ht hl hv hs hs4 hs5 p0 p1 p2 p3 p4 hE0 ha h1 hlt he HH h2 hel
    go_enter Tryd.func22, Tryd.ntmps22
    go_wp2_with (first
      | (go_at_call 9
         (with_reducible refine (LnC.call ((HT.out.alloc _).alloc _) ((HTT.out.below ((Below.refl _ _).alloc hB _)).below ((Below.refl _ _).alloc (by simp; omega) _)) (by simp; omega) HW.out (PtsAt.made (by simp; omega) (HP.out _ ((Below.refl _ _).alloc hB _)) _ 3 (by simp) rfl (by decide)) hT1000 HL1.out).mono ?_)
         rintro e w1 ⟨rfl, hT1, hw1⟩
         have hA1 : Wr B b w w1 := (((Wr.refl B b w).alloc hB _).alloc (by simp; omega) _).trans hw1
         have hr1 : w1.heap[w.heap.size]? = some (.cells #[.int .i64 4, .int .i64 ty, .string name, .slice (some ⟨g, o, none⟩) 1 c1, .slice A2 thn.length c2, .slice A3 els.length c3] 27 (0, 0)) := hw1.row ((HT.out.alloc _).alloc _) ((Lib.alloc_old _ _ _ (by simp)).trans (heap_alloc_new w _)) (by decide) (by decide)
         have y4 : w1.cell? ⟨w.heap.size, 4, none⟩ = some (.slice A2 thn.length c2) := (by rw [Lib.cell_of_heap hr1]; rfl)
         have hz1 : B ≤ w1.heap.size := Nat.le_trans hB hA1.bel.size
         have HT1 := Lib.hid hT1
         have HR1 := Lib.hid hr1
         have HA1 := Lib.hid hA1
         clear hT1 hw1 hr1 hA1)
      | (go_at_call 10
         (with_reducible refine (BlC.call HT1.out (HTT.out.below HA1.out.bel) hz1 H1.out (HS4.out.below HA1.out.bel (Nat.le_refl _)) HL2.out).mono ?_)
         rintro e w2 ⟨rfl, hT2, hw2⟩
         have hr2 := hw2.row HT1.out HR1.out (by decide) (by decide)
         have y5 : w2.cell? ⟨w.heap.size, 5, none⟩ = some (.slice A3 els.length c3) := (by rw [Lib.cell_of_heap hr2]; rfl)
         have hz2 : B ≤ w2.heap.size := Nat.le_trans hz1 hw2.bel.size
         have HT2 := Lib.hid hT2
         have HR2 := Lib.hid hr2
         have HA2 := Lib.hid (HA1.out.trans hw2)
         clear hT2 hw2 hr2)
      | (go_at_call 9
         (with_reducible refine (LnC.call (HT2.out.alloc _) (HTT.out.below (HA2.out.bel.alloc hz2 _)) (by simp; omega) HW3.out (PtsAt.made hz2 (HP3.out _) _ 1 rfl rfl (by decide)) hT1000 HL3.out).mono ?_)
         rintro e w3 ⟨rfl, hT3, hw3⟩
         have hA3 : Wr B b w w3 := (HA2.out.alloc hz2 _).trans hw3
         have hr3 := hw3.row (HT2.out.alloc _) ((Lib.alloc_old _ _ _ (Array.getElem?_eq_some_iff.1 HR2.out).1).trans HR2.out) (by decide) (by decide)
         have y6 : w3.cell? ⟨w.heap.size, 5, none⟩ = some (.slice A3 els.length c3) := (by rw [Lib.cell_of_heap hr3]; rfl)
         have hz3 : B ≤ w3.heap.size := Nat.le_trans hB hA3.bel.size
         have HT3 := Lib.hid hT3
         have HA3 := Lib.hid hA3
         clear hT3 hw3 hr3 hA3)
      | (go_at_call 10
         (with_reducible refine (BlC.call HT3.out (HTT.out.below HA3.out.bel) hz3 H2.out (HS5.out.below HA3.out.bel (Nat.le_refl _)) HL4.out).mono ?_)
         rintro e w4 ⟨rfl, hT4, hw4⟩
         have hz4 : B ≤ w4.heap.size := Nat.le_trans hz3 hw4.bel.size
         have HT4 := Lib.hid hT4
         have HA4 := Lib.hid (HA3.out.trans hw4)
         clear hT4 hw4)
      | (go_at_call 9
         (with_reducible refine (LnC.call (HT4.out.alloc _) (HTT.out.below (HA4.out.bel.alloc hz4 _)) (by simp; omega) HW2.out (PtsAt.made hz4 (HP2.out _) _ 1 rfl rfl (by decide)) hT1000 HL5.out).mono ?_)
         rintro e w5 ⟨rfl, hT5, hw5⟩))
    go_end0
    refine ⟨rfl, ?_, (HA4.out.alloc hz4 _).trans hw5⟩
    rw [← List.append_assoc, ← List.append_assoc, ← List.append_assoc, ← List.append_assoc]
    exact hT5
end
end Go.Proofs.YtomdcgifkkmopaaDoor
