/- The contract of the method stmt of package tree: return, print, a call alone. -/
import Derived.Test.YtomdcgifkkmopaaDoorTreeStmt
import Derived.Deep.RegionHeld3
namespace Go.Proofs.YtomdcgifkkmopaaDoor
open Go.RowKit
section
variable (B b : Nat) (ty : Int) (name : ByteArray) (thn els : List St)
set_option maxHeartbeats 4000000 in
set_option maxRecDepth 100000 in
theorem stmt_return (a : Ex) (ha : exOK a 100 = true) : StC B b 8 ty name [a] thn els := by
  intro bs tabs w v hT ht hB hv htabs hl
  obtain ⟨A1, c1, A2, c2, A3, c3, rfl, hs, _, _⟩ := hv.elim
  obtain ⟨k0, op0, n0, nm0, as0⟩ := a
  obtain ⟨g, o, A'0, cap0, rfl, hg, h0, h1, h2, h3, h4, hE0, _⟩ := kid_cells hs 0 k0 op0 n0 nm0 as0 rfl
  have q0 : w.cell? ⟨g, o, none⟩ = some (.int .i64 k0) := by simpa using h0
  have q1 : w.cell? ⟨g, o + 1, none⟩ = some (.int .i64 op0) := by simpa using h1
  have q2 : w.cell? ⟨g, o + 2, none⟩ = some (.int .i64 n0) := by simpa using h2
  have q3 : w.cell? ⟨g, o + 3, none⟩ = some (.string nm0) := by simpa using h3
  have q4 : w.cell? ⟨g, o + 4, none⟩ = some (.slice A'0 as0.length cap0) := by simpa using h4
  have hgs : g < w.heap.size := by omega
  have HT := Lib.hid hT
  have HTT := Lib.hid ht
  have ht1 : tabs ≤ 1000 := by omega
  have HP : Hid (∀ w', Below B w w' → PtVs B w' [.str ⟨#[114, 101, 116, 117, 114, 110, 32]⟩, .ex (.mk k0 op0 n0 nm0 as0), .str ⟨#[59]⟩] (#[.iface 9 (.string ⟨#[114, 101, 116, 117, 114, 110, 32]⟩), .iface 24 (.agg #[.int .i64 k0, .int .i64 op0, .int .i64 n0, .string nm0, .slice A'0 as0.length cap0]), .iface 9 (.string ⟨#[59]⟩)] : Array Value).toList) := fun w' hb => ⟨rfl, ⟨_, rfl, hE0 w' hb⟩, rfl, trivial⟩
  have HW : Hid (LnC B b [.str ⟨#[114, 101, 116, 117, 114, 110, 32]⟩, .ex (.mk k0 op0 n0 nm0 as0), .str ⟨#[59]⟩]) := parts_any _ (fun p hp => by
    simp only [List.mem_cons, List.not_mem_nil, or_false] at hp
    rcases hp with rfl | rfl | rfl
    · exact .inl ⟨_, rfl⟩
    · exact .inr (.inr ⟨_, rfl, ha⟩)
    · exact .inl ⟨_, rfl⟩)
  rw [stT_line tabs [.str ⟨#[114, 101, 116, 117, 114, 110, 32]⟩, .ex (.mk k0 op0 n0 nm0 as0), .str ⟨#[59]⟩] (by decide) (by rw [show headT 8 ty name [(.mk k0 op0 n0 nm0 as0)] = _ from rfl]; simp [ptsT, ptT, argT, exTs, kid, headT])] at hl ⊢
  have HL := Lib.hid (line_len hl)
  clear hT ht hl hv hs h0 h1 h2 h3 h4 hE0 ha
  go_enter Tryd.func22, Tryd.ntmps22
  go_wp2_with (go_at_call 9; (refine (LnC.call ((HT.out.alloc _).alloc _) ((HTT.out.below ((Below.refl _ _).alloc hB _)).below ((Below.refl _ _).alloc (by simp; omega) _)) (by simp; omega) HW.out (PtsAt.made (by simp; omega) (HP.out _ ((Below.refl _ _).alloc hB _)) _ 3 (by simp) rfl (by decide)) ht1 HL.out).mono ?_); rintro e w2 ⟨rfl, hT2, hw2⟩)
  go_end0
  exact ⟨rfl, hT2, (((Wr.refl B b w).alloc hB _).alloc (by simp; omega) _).trans hw2⟩
set_option maxHeartbeats 4000000 in
set_option maxRecDepth 100000 in
theorem stmt_print (a : Ex) (ha : exOK a 100 = true) : StC B b 9 ty name [a] thn els := by
  intro bs tabs w v hT ht hB hv htabs hl
  obtain ⟨A1, c1, A2, c2, A3, c3, rfl, hs, _, _⟩ := hv.elim
  obtain ⟨k0, op0, n0, nm0, as0⟩ := a
  obtain ⟨g, o, A'0, cap0, rfl, hg, h0, h1, h2, h3, h4, hE0, _⟩ := kid_cells hs 0 k0 op0 n0 nm0 as0 rfl
  have q0 : w.cell? ⟨g, o, none⟩ = some (.int .i64 k0) := by simpa using h0
  have q1 : w.cell? ⟨g, o + 1, none⟩ = some (.int .i64 op0) := by simpa using h1
  have q2 : w.cell? ⟨g, o + 2, none⟩ = some (.int .i64 n0) := by simpa using h2
  have q3 : w.cell? ⟨g, o + 3, none⟩ = some (.string nm0) := by simpa using h3
  have q4 : w.cell? ⟨g, o + 4, none⟩ = some (.slice A'0 as0.length cap0) := by simpa using h4
  have hgs : g < w.heap.size := by omega
  have HT := Lib.hid hT
  have HTT := Lib.hid ht
  have ht1 : tabs ≤ 1000 := by omega
  have HP : Hid (∀ w', Below B w w' → PtVs B w' [.str ⟨#[112, 114, 105, 110, 116, 40]⟩, .ex (.mk k0 op0 n0 nm0 as0), .str ⟨#[41, 59]⟩] (#[.iface 9 (.string ⟨#[112, 114, 105, 110, 116, 40]⟩), .iface 24 (.agg #[.int .i64 k0, .int .i64 op0, .int .i64 n0, .string nm0, .slice A'0 as0.length cap0]), .iface 9 (.string ⟨#[41, 59]⟩)] : Array Value).toList) := fun w' hb => ⟨rfl, ⟨_, rfl, hE0 w' hb⟩, rfl, trivial⟩
  have HW : Hid (LnC B b [.str ⟨#[112, 114, 105, 110, 116, 40]⟩, .ex (.mk k0 op0 n0 nm0 as0), .str ⟨#[41, 59]⟩]) := parts_any _ (fun p hp => by
    simp only [List.mem_cons, List.not_mem_nil, or_false] at hp
    rcases hp with rfl | rfl | rfl
    · exact .inl ⟨_, rfl⟩
    · exact .inr (.inr ⟨_, rfl, ha⟩)
    · exact .inl ⟨_, rfl⟩)
  rw [stT_line tabs [.str ⟨#[112, 114, 105, 110, 116, 40]⟩, .ex (.mk k0 op0 n0 nm0 as0), .str ⟨#[41, 59]⟩] (by decide) (by rw [show headT 9 ty name [(.mk k0 op0 n0 nm0 as0)] = _ from rfl]; simp [ptsT, ptT, argT, exTs, kid, headT])] at hl ⊢
  have HL := Lib.hid (line_len hl)
  clear hT ht hl hv hs h0 h1 h2 h3 h4 hE0 ha
  go_enter Tryd.func22, Tryd.ntmps22
  go_wp2_with (go_at_call 9; (refine (LnC.call ((HT.out.alloc _).alloc _) ((HTT.out.below ((Below.refl _ _).alloc hB _)).below ((Below.refl _ _).alloc (by simp; omega) _)) (by simp; omega) HW.out (PtsAt.made (by simp; omega) (HP.out _ ((Below.refl _ _).alloc hB _)) _ 3 (by simp) rfl (by decide)) ht1 HL.out).mono ?_); rintro e w2 ⟨rfl, hT2, hw2⟩)
  go_end0
  exact ⟨rfl, hT2, (((Wr.refl B b w).alloc hB _).alloc (by simp; omega) _).trans hw2⟩
set_option maxHeartbeats 4000000 in
set_option maxRecDepth 100000 in
theorem stmt_do (a : Ex) (ha : exOK a 100 = true) : StC B b 10 ty name [a] thn els := by
  intro bs tabs w v hT ht hB hv htabs hl
  obtain ⟨A1, c1, A2, c2, A3, c3, rfl, hs, _, _⟩ := hv.elim
  obtain ⟨k0, op0, n0, nm0, as0⟩ := a
  obtain ⟨g, o, A'0, cap0, rfl, hg, h0, h1, h2, h3, h4, hE0, _⟩ := kid_cells hs 0 k0 op0 n0 nm0 as0 rfl
  have q0 : w.cell? ⟨g, o, none⟩ = some (.int .i64 k0) := by simpa using h0
  have q1 : w.cell? ⟨g, o + 1, none⟩ = some (.int .i64 op0) := by simpa using h1
  have q2 : w.cell? ⟨g, o + 2, none⟩ = some (.int .i64 n0) := by simpa using h2
  have q3 : w.cell? ⟨g, o + 3, none⟩ = some (.string nm0) := by simpa using h3
  have q4 : w.cell? ⟨g, o + 4, none⟩ = some (.slice A'0 as0.length cap0) := by simpa using h4
  have hgs : g < w.heap.size := by omega
  have HT := Lib.hid hT
  have HTT := Lib.hid ht
  have ht1 : tabs ≤ 1000 := by omega
  have HP : Hid (∀ w', Below B w w' → PtVs B w' [.ex (.mk k0 op0 n0 nm0 as0), .str ⟨#[59]⟩] (#[.iface 24 (.agg #[.int .i64 k0, .int .i64 op0, .int .i64 n0, .string nm0, .slice A'0 as0.length cap0]), .iface 9 (.string ⟨#[59]⟩)] : Array Value).toList) := fun w' hb => ⟨⟨_, rfl, hE0 w' hb⟩, rfl, trivial⟩
  have HW : Hid (LnC B b [.ex (.mk k0 op0 n0 nm0 as0), .str ⟨#[59]⟩]) := parts_any _ (fun p hp => by
    simp only [List.mem_cons, List.not_mem_nil, or_false] at hp
    rcases hp with rfl | rfl
    · exact .inr (.inr ⟨_, rfl, ha⟩)
    · exact .inl ⟨_, rfl⟩)
  rw [stT_line tabs [.ex (.mk k0 op0 n0 nm0 as0), .str ⟨#[59]⟩] (by decide) (by rw [show headT 10 ty name [(.mk k0 op0 n0 nm0 as0)] = _ from rfl]; simp [ptsT, ptT, argT, exTs, kid, headT])] at hl ⊢
  have HL := Lib.hid (line_len hl)
  clear hT ht hl hv hs h0 h1 h2 h3 h4 hE0 ha
  go_enter Tryd.func22, Tryd.ntmps22
  go_wp2_with (go_at_call 9; (refine (LnC.call ((HT.out.alloc _).alloc _) ((HTT.out.below ((Below.refl _ _).alloc hB _)).below ((Below.refl _ _).alloc (by simp; omega) _)) (by simp; omega) HW.out (PtsAt.made (by simp; omega) (HP.out _ ((Below.refl _ _).alloc hB _)) _ 2 (by simp) rfl (by decide)) ht1 HL.out).mono ?_); rintro e w2 ⟨rfl, hT2, hw2⟩)
  go_end0
  exact ⟨rfl, hT2, (((Wr.refl B b w).alloc hB _).alloc (by simp; omega) _).trans hw2⟩
end
end Go.Proofs.YtomdcgifkkmopaaDoor
