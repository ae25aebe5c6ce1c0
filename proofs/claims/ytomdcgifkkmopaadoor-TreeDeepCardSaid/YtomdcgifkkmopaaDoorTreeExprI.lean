/- The contract of the method expr of package tree: an index, an operator of one. -/
import Derived.Test.YtomdcgifkkmopaaDoorTreeOne2
namespace Go.Proofs.YtomdcgifkkmopaaDoor
open Go.RowKit
/-- The first (the second) of a slice of expressions, as cells and as a value. -/
theorem kid_cells {B : Nat} {w : World} {A : Option Addr} {m cap : Nat} {l : List Ex} (hs : SlE B w (.slice A m cap) l) (i : Nat) (k op n : Int) (name : ByteArray) (args : List Ex) (hi : l[i]? = some (.mk k op n name args)) :
    ∃ (g o : Nat) (A' : Option Addr) (cap' : Nat), A = some ⟨g, o, none⟩ ∧ g < B ∧ w.cell? ⟨g, o + i * 5, none⟩ = some (.int .i64 k) ∧ w.cell? ⟨g, o + i * 5 + 1, none⟩ = some (.int .i64 op) ∧ w.cell? ⟨g, o + i * 5 + 2, none⟩ = some (.int .i64 n) ∧
      w.cell? ⟨g, o + i * 5 + 3, none⟩ = some (.string name) ∧ w.cell? ⟨g, o + i * 5 + 4, none⟩ = some (.slice A' args.length cap') ∧
      (∀ w', Below B w w' → ExV B w' (.mk k op n name args) (.agg #[.int .i64 k, .int .i64 op, .int .i64 n, .string name, .slice A' args.length cap'])) ∧
      (∀ w' lev, Below B w w' → OpV B w' (.mk k op n name args) lev (.agg #[.int .i64 k, .int .i64 op, .int .i64 n, .string name, .slice A' args.length cap', .int .i64 lev])) := by
  obtain ⟨g, o, v, hA, hg, h0, h1, h2, h3, h4, hk⟩ := hs.cells hi
  obtain ⟨A', cap', rfl, _⟩ := hk.form
  have hr := hs.range hi
  exact ⟨g, o, A', cap', hA, hg, h0, h1, h2, h3, h4, fun w' hb => ⟨_, rfl, hr, hk.below hb (Nat.le_refl _)⟩, fun w' lev hb => ⟨_, rfl, hr, hk.below hb (Nat.le_refl _)⟩⟩
theorem exT_one (op n : Int) (name : ByteArray) (a : Ex) : exT (.mk 4 op n name [a]) = oneT op a := by rw [exT_mk, exTs_map]; rfl
theorem exT_index (op n : Int) (name : ByteArray) (a : Ex) : exT (.mk 6 op n name [a]) = ptsT [.str name, .str ⟨#[91]⟩, .ex a, .str ⟨#[93]⟩] := by
  rw [exT_mk, exTs_map, pts4]
  rfl
section
variable (B b : Nat) (op n : Int) (name : ByteArray)
set_option maxHeartbeats 2000000 in
set_option maxRecDepth 100000 in
theorem expr_one (a : Ex) (hx : ExC B b a) : ExC B b (.mk 4 op n name [a]) := by
  intro bs tabs w v hT ht hB hv hl
  obtain ⟨A, cap, rfl, hr, hs⟩ := ExV.elim hv
  obtain ⟨k1, op1, n1, nm1, as1⟩ := a
  obtain ⟨g, o, A', cap', rfl, hg, h0, h1, h2, h3, h4, hE, _⟩ := kid_cells hs 0 k1 op1 n1 nm1 as1 rfl
  have q0 : w.cell? ⟨g, o, none⟩ = some (.int .i64 k1) := by simpa using h0
  have q1 : w.cell? ⟨g, o + 1, none⟩ = some (.int .i64 op1) := by simpa using h1
  have q2 : w.cell? ⟨g, o + 2, none⟩ = some (.int .i64 n1) := by simpa using h2
  have q3 : w.cell? ⟨g, o + 3, none⟩ = some (.string nm1) := by simpa using h3
  have q4 : w.cell? ⟨g, o + 4, none⟩ = some (.slice A' as1.length cap') := by simpa using h4
  have hgs : g < w.heap.size := by omega
  have HT := Lib.hid hT
  have HTT := Lib.hid ht
  have HO := Lib.hid (one_any B b _ hx op)
  have HE := Lib.hid hE
  rw [exT_one] at hl ⊢
  have HL := Lib.hid hl
  clear hT ht hs hr hl hv hx h0 h1 h2 h3 h4 hE
  go_enter Tryd.func37, Tryd.ntmps37
  go_wp2_with (fail)
  go_region_with (go_at_call 52; (refine (OneC.call ((HT.out.alloc _).drew) (HTT.out.below (((Below.refl _ _).alloc hB _).drew)) (by simp; omega) HO.out (HE.out _ (((Below.refl _ _).alloc hB _).drew)) HL.out).mono ?_); rintro e w2 ⟨rfl, hT2, hw2⟩)
  all_goals
    go_wp2_with (fail)
    go_end0
    exact ⟨rfl, hT2, (((Wr.refl B b w).alloc hB _).drew).trans hw2⟩
set_option maxHeartbeats 2000000 in
set_option maxRecDepth 100000 in
theorem expr_index (a : Ex) (hx : ExC B b a) : ExC B b (.mk 6 op n name [a]) := by
  intro bs tabs w v hT ht hB hv hl
  obtain ⟨A, cap, rfl, hr, hs⟩ := ExV.elim hv
  obtain ⟨k1, op1, n1, nm1, as1⟩ := a
  obtain ⟨g, o, A', cap', rfl, hg, h0, h1, h2, h3, h4, hE, _⟩ := kid_cells hs 0 k1 op1 n1 nm1 as1 rfl
  have q0 : w.cell? ⟨g, o, none⟩ = some (.int .i64 k1) := by simpa using h0
  have q1 : w.cell? ⟨g, o + 1, none⟩ = some (.int .i64 op1) := by simpa using h1
  have q2 : w.cell? ⟨g, o + 2, none⟩ = some (.int .i64 n1) := by simpa using h2
  have q3 : w.cell? ⟨g, o + 3, none⟩ = some (.string nm1) := by simpa using h3
  have q4 : w.cell? ⟨g, o + 4, none⟩ = some (.slice A' as1.length cap') := by simpa using h4
  have hgs : g < w.heap.size := by omega
  have HT := Lib.hid hT
  have HTT := Lib.hid ht
  have HP : Hid (∀ w', Below B w w' → PtVs B w' [.str name, .str ⟨#[91]⟩, .ex (.mk k1 op1 n1 nm1 as1), .str ⟨#[93]⟩] (#[.iface 9 (.string name), .iface 9 (.string ⟨#[91]⟩), .iface 24 (.agg #[.int .i64 k1, .int .i64 op1, .int .i64 n1, .string nm1, .slice A' as1.length cap']), .iface 9 (.string ⟨#[93]⟩)] : Array Value).toList) :=
    fun w' hb => ⟨rfl, rfl, ⟨_, rfl, hE w' hb⟩, rfl, trivial⟩
  have HW : Hid (WrC B b [.str name, .str ⟨#[91]⟩, .ex (.mk k1 op1 n1 nm1 as1), .str ⟨#[93]⟩]) := write_core B b _ (forall_list fun p hp => by
    simp only [List.mem_cons, List.not_mem_nil, or_false] at hp
    rcases hp with rfl | rfl | rfl | rfl
    · trivial
    · trivial
    · exact hx
    · trivial)
  rw [exT_index] at hl ⊢
  have HL := Lib.hid hl
  clear hT ht hs hr hl hv hx h0 h1 h2 h3 h4 hE
  go_enter Tryd.func37, Tryd.ntmps37
  go_wp2_with (fail)
  go_region_with (go_at_call 21; (refine (WrC.call (((HT.out.alloc _).drew).alloc _) ((HTT.out.below (((Below.refl _ _).alloc hB _).drew)).below ((Below.refl _ _).alloc (by simp; omega) _)) (by simp; omega) HW.out (PtsAt.made (by simp; omega) (HP.out _ (((Below.refl _ _).alloc hB _).drew)) _ 4 (by simp) rfl (by decide)) HL.out).mono ?_); rintro e w2 ⟨rfl, hT2, hw2⟩)
  all_goals
    go_wp2_with (fail)
    go_end0
    exact ⟨rfl, hT2, ((((Wr.refl B b w).alloc hB _).drew).alloc (by simp; omega) _).trans hw2⟩
end
end Go.Proofs.YtomdcgifkkmopaaDoor
