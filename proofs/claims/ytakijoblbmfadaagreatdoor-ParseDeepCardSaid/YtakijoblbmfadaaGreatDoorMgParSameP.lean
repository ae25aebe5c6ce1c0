import Derived.Test.YtakijoblbmfadaaGreatDoorMgParSame
import Derived.Test.YtakijoblbmfadaaGreatDoorMgPrsRe
set_option linter.unusedSimpArgs false
set_option linter.unusedVariables false
/- The document's comparison of programs: true where both are the same tree. -/
namespace Go.Proofs.YtakijoblbmfadaaGreatDoor
open Go.RowKit
theorem sstmts_any {l : List St} {B : Nat} {A A' : Option Addr} {cap cap' : Nat} {w : World} (hB : B ≤ w.heap.size) (h1 : SlS B w (.slice A l.length cap) l) (h2 : SlS B w (.slice A' l.length cap') l) :
    Calls Tryz.prog 21 #[.slice A l.length cap, .slice A' l.length cap'] w fun e w' => e = .returned (.bool true) ∧ Below w.heap.size w w' :=
  same_stmts (SizeOf.sizeOf l + 1) l (by omega) B A A' cap cap' w hB h1 h2
/-- Two programs in blocks of their own. -/
def Two (w : World) (a0 a1 b0 b1 : Value) (W : World) : Prop :=
  W.heap[w.heap.size]? = some (.cells #[a0, a1] 35 (0, 0)) ∧ W.heap[w.heap.size + 1]? = some (.cells #[b0, b1] 35 (0, 0)) ∧ Below w.heap.size w W
theorem Two.start (w : World) (a0 a1 b0 b1 : Value) : Two w a0 a1 b0 b1 ((w.alloc (.cells #[a0, a1] 35)).alloc (.cells #[b0, b1] 35)) := by
  refine ⟨own_more (heap_alloc_new w _) _, ?_, ((Below.refl _ _).alloc (Nat.le_refl _) _).alloc (by rw [alloc_size]; omega) _⟩
  have := heap_alloc_new (w.alloc (.cells #[a0, a1] 35)) (.cells #[b0, b1] 35)
  rw [alloc_size] at this
  exact this
theorem Two.step {w W W' : World} {a0 a1 b0 b1 : Value} (h : Two w a0 a1 b0 b1 W) (hb : Below W.heap.size W W') : Two w a0 a1 b0 b1 W' :=
  ⟨(hb.block _ (Array.getElem?_eq_some_iff.1 h.1).1).trans h.1, (hb.block _ (Array.getElem?_eq_some_iff.1 h.2.1).1).trans h.2.1, h.2.2.trans (hb.mono h.2.2.size)⟩
theorem Two.bel {w W : World} {a0 a1 b0 b1 : Value} (h : Two w a0 a1 b0 b1 W) : Below w.heap.size w W := h.2.2
theorem Two.lt {w W : World} {a0 a1 b0 b1 : Value} (h : Two w a0 a1 b0 b1 W) : w.heap.size + 1 < W.heap.size := (Array.getElem?_eq_some_iff.1 h.2.1).1
theorem Two.cells {w W : World} {a0 a1 b0 b1 : Value} (h : Two w a0 a1 b0 b1 W) : (W.cell? ⟨w.heap.size, 0, none⟩ = some a0 ∧ W.cell? ⟨w.heap.size, 1, none⟩ = some a1) ∧ (W.cell? ⟨w.heap.size + 1, 0, none⟩ = some b0 ∧ W.cell? ⟨w.heap.size + 1, 1, none⟩ = some b1) := ⟨(two_cells h.1).1, (two_cells h.2.1).1⟩
/-- Two copies of a function in blocks of their own. -/
def PairF (wr : World) (p q : Nat) (x0 x1 x2 x3 y2 y3 : Value) (W : World) : Prop :=
  W.heap[p]? = some (.cells #[x0, x1, x2, x3] 46 (0, 0)) ∧ W.heap[q]? = some (.cells #[x0, x1, y2, y3] 46 (0, 0)) ∧ Below wr.heap.size wr W
theorem PairF.step {wr W W' : World} {p q : Nat} {x0 x1 x2 x3 y2 y3 : Value} (h : PairF wr p q x0 x1 x2 x3 y2 y3 W) (hb : Below W.heap.size W W') : PairF wr p q x0 x1 x2 x3 y2 y3 W' :=
  ⟨(hb.block _ (Array.getElem?_eq_some_iff.1 h.1).1).trans h.1, (hb.block _ (Array.getElem?_eq_some_iff.1 h.2.1).1).trans h.2.1, h.2.2.trans (hb.mono h.2.2.size)⟩
theorem PairF.bel {wr W : World} {p q : Nat} {x0 x1 x2 x3 y2 y3 : Value} (h : PairF wr p q x0 x1 x2 x3 y2 y3 W) : Below wr.heap.size wr W := h.2.2
theorem PairF.up {wr : World} {x0 x1 x2 x3 y2 y3 : Value} : PairF wr wr.heap.size (wr.heap.size + 1) x0 x1 x2 x3 y2 y3 ((wr.alloc (.cells #[x0, x1, x2, x3] 46)).alloc (.cells #[x0, x1, y2, y3] 46)).drew := by
  have hb : Below wr.heap.size wr ((wr.alloc (.cells #[x0, x1, x2, x3] 46)).alloc (.cells #[x0, x1, y2, y3] 46)) := ((Below.refl _ _).alloc (Nat.le_refl _) _).alloc (by rw [alloc_size]; omega) _
  refine ⟨own_more (heap_alloc_new wr _) _, ?_, hb.drew⟩
  have := heap_alloc_new (wr.alloc (.cells #[x0, x1, x2, x3] 46)) (.cells #[x0, x1, y2, y3] 46)
  rw [alloc_size] at this
  exact this
theorem PairF.down {wr : World} {x0 x1 x2 x3 y2 y3 : Value} : PairF wr (wr.heap.size + 1) wr.heap.size x0 x1 x2 x3 y2 y3 ((wr.alloc (.cells #[x0, x1, y2, y3] 46)).alloc (.cells #[x0, x1, x2, x3] 46)).drew := by
  obtain ⟨h1, h2, h3⟩ := PairF.up (wr := wr) (x0 := x0) (x1 := x1) (x2 := y2) (x3 := y3) (y2 := x2) (y3 := x3)
  exact ⟨h2, h1, h3⟩
theorem PairF.cells {wr W : World} {p q : Nat} {x0 x1 x2 x3 y2 y3 : Value} (h : PairF wr p q x0 x1 x2 x3 y2 y3 W) :
    (W.cell? ⟨p, 0, none⟩ = some x0 ∧ W.cell? ⟨p, 1, none⟩ = some x1 ∧ W.cell? ⟨p, 2, none⟩ = some x2 ∧ W.cell? ⟨p, 3, none⟩ = some x3) ∧
    (W.cell? ⟨q, 0, none⟩ = some x0 ∧ W.cell? ⟨q, 1, none⟩ = some x1 ∧ W.cell? ⟨q, 2, none⟩ = some y2 ∧ W.cell? ⟨q, 3, none⟩ = some y3) := ⟨(four_cells h.1).1, (four_cells h.2.1).1⟩
set_option maxHeartbeats 3200000 in
set_option maxRecDepth 100000 in
theorem same_any (p : Pr) (B : Nat) (v0 v1 u0 u1 : Value) (w : World) (hB : B ≤ w.heap.size) (h0 : SlA B w v0 p.arrays) (h1 : SlF B w v1 p.funcs) (g0 : SlA B w u0 p.arrays) (g1 : SlF B w u1 p.funcs) :
    Calls Tryz.prog 15 #[.agg #[v0, v1], .agg #[u0, u1]] w fun e w' => e = .returned (.bool true) ∧ Below w.heap.size w w' := by
  obtain ⟨A0, c0, rfl, hn0⟩ := h0.form
  obtain ⟨A1, c1, rfl, hn1⟩ := h1.form
  obtain ⟨D0, d0, rfl, _⟩ := g0.form
  obtain ⟨D1, d1, rfl, _⟩ := g1.form
  have H0 := Lib.hid h0
  have H1 := Lib.hid h1
  have G0 := Lib.hid g0
  have G1 := Lib.hid g1
  have HT := Lib.hid (Two.start w (.slice A0 p.arrays.length c0) (.slice A1 p.funcs.length c1) (.slice D0 p.arrays.length d0) (.slice D1 p.funcs.length d1))
  clear h0 h1 g0 g1
  go_enter Tryz.func15, Tryz.ntmps15
  go_wp2
  go_loopw [5] (fun iv wr => ∃ i : Nat, i ≤ p.arrays.length ∧ iv = .int .i64 i ∧ Two w (.slice A0 p.arrays.length c0) (.slice A1 p.funcs.length c1) (.slice D0 p.arrays.length d0) (.slice D1 p.funcs.length d1) wr) (fun iv _ => p.arrays.length - (intOf iv).toNat)
  case atStart => exact ⟨0, Nat.zero_le _, rfl, HT.out⟩
  case round =>
    obtain ⟨i, hi, rfl, hT⟩ := hrel
    replace HT := Lib.hid hT
    have hw := hT.lt
    obtain ⟨⟨p0, p1⟩, q0, q1⟩ := hT.cells
    clear hT
    by_cases hlt : i < p.arrays.length
    · obtain ⟨a, he⟩ : ∃ e, p.arrays[i]? = some e := ⟨_, List.getElem?_eq_getElem hlt⟩
      obtain ⟨g, o, rfl, hg, a0, a1⟩ := (H0.out.below (HT.out.bel.mono hB) (Nat.le_refl _)).cells he
      obtain ⟨g', o', rfl, hg', b0, b1⟩ := (G0.out.below (HT.out.bel.mono hB) (Nat.le_refl _)).cells he
      clear he
      have hlt2 : (i : Int) < p.arrays.length := by omega
      have hi0 : (0 : Int) ≤ i := by omega
      go_wp2
      go_quiet (fail)
      go_wp2
      go_roundw
      case rel => exact ⟨i + 1, by omega, by go_num, HT.out.step (below_drewN (Below.refl _ _) nq)⟩
      case measure => simp [intOf]; omega
    · go_wp2
      clear p0 p1 q0 q1
      obtain ⟨W0, rfl⟩ : ∃ W0, W0 = wr := ⟨_, rfl⟩
      go_loopw [6] (fun iv wr => ∃ i : Nat, i ≤ p.funcs.length ∧ iv = .int .i64 i ∧ Two w (.slice A0 p.arrays.length c0) (.slice A1 p.funcs.length c1) (.slice D0 p.arrays.length d0) (.slice D1 p.funcs.length d1) wr) (fun iv _ => p.funcs.length - (intOf iv).toNat)
      case atStart => exact ⟨0, Nat.zero_le _, rfl, HT.out⟩
      case round =>
      obtain ⟨wr2, hwr2⟩ : ∃ W, W = wr := ⟨_, rfl⟩
      obtain ⟨i, hi, rfl, hT⟩ := hrel
      subst hwr2
      replace HT := Lib.hid hT
      have hw := hT.lt
      have hbs := hT.bel.size
      obtain ⟨⟨p0, p1⟩, q0, q1⟩ := hT.cells
      clear hT
      by_cases hlt : i < p.funcs.length
      · obtain ⟨f, he⟩ : ∃ e, p.funcs[i]? = some e := ⟨_, List.getElem?_eq_getElem hlt⟩
        obtain ⟨g, o, v3, v4, rfl, hg, a0, a1, a2, a3, h3, h4⟩ := (H1.out.below (HT.out.bel.mono hB) (Nat.le_refl _)).cells he
        obtain ⟨g', o', u3, u4, rfl, hg', b0, b1, b2, b3, k3, k4⟩ := (G1.out.below (HT.out.bel.mono hB) (Nat.le_refl _)).cells he
        obtain ⟨A3, c3, rfl, _⟩ := h3.form
        obtain ⟨A4, c4, rfl, _⟩ := h4.form
        obtain ⟨D3, d3, rfl, _⟩ := k3.form
        obtain ⟨D4, d4, rfl, _⟩ := k4.form
        have X3 := Lib.hid h3
        have X4 := Lib.hid h4
        have Y3 := Lib.hid k3
        have Y4 := Lib.hid k4
        clear he h3 h4 k3 k4
        have hlt2 : (i : Int) < p.funcs.length := by omega
        have hi0 : (0 : Int) ≤ i := by omega
        have n1 : wr2.heap.size ≠ g := by omega
        have n2 : wr2.heap.size ≠ g' := by omega
        have n3 : wr2.heap.size + 1 ≠ g := by omega
        have n4 : wr2.heap.size + 1 ≠ g' := by omega
        have m1 : wr2.heap.size ≠ w.heap.size := by omega
        have m2 : wr2.heap.size ≠ w.heap.size + 1 := by omega
        have m3 : wr2.heap.size + 1 ≠ w.heap.size := by omega
        have m4 : wr2.heap.size + 1 ≠ w.heap.size + 1 := by omega
        have n5 : g < wr2.heap.size := by omega
        have n6 : g' < wr2.heap.size := by omega
        go_wp2
        go_region_held3 (fun w' => w'.cell? ⟨w.heap.size, 1, none⟩ = some (.slice (some ⟨g, o, none⟩) p.funcs.length c1) ∧ w'.cell? ⟨w.heap.size + 1, 1, none⟩ = some (.slice (some ⟨g', o', none⟩) p.funcs.length d1) ∧ w'.cell? ⟨g, o + i * 4, none⟩ = some (.string f.name) ∧ w'.cell? ⟨g, o + i * 4 + 1, none⟩ = some (.int .i64 f.type) ∧ w'.cell? ⟨g, o + i * 4 + 2, none⟩ = some (.slice A3 f.params.length c3) ∧ w'.cell? ⟨g, o + i * 4 + 3, none⟩ = some (.slice A4 f.body.length c4) ∧
            w'.cell? ⟨g', o' + i * 4, none⟩ = some (.string f.name) ∧ w'.cell? ⟨g', o' + i * 4 + 1, none⟩ = some (.int .i64 f.type) ∧ w'.cell? ⟨g', o' + i * 4 + 2, none⟩ = some (.slice D3 f.params.length d3) ∧ w'.cell? ⟨g', o' + i * 4 + 3, none⟩ = some (.slice D4 f.body.length d4))
          (go_keep)
          (fail)
        · have HP := Lib.hid (PairF.up (wr := wr2) (x0 := .string f.name) (x1 := .int .i64 f.type) (x2 := .slice A3 f.params.length c3) (x3 := .slice A4 f.body.length c4) (y2 := .slice D3 f.params.length d3) (y3 := .slice D4 f.body.length d4))
          obtain ⟨W1, hW1⟩ : ∃ W1, W1 = ((wr2.alloc (.cells #[.string f.name, .int .i64 f.type, .slice A3 f.params.length c3, .slice A4 f.body.length c4] 46)).alloc (.cells #[.string f.name, .int .i64 f.type, .slice D3 f.params.length d3, .slice D4 f.body.length d4] 46)).drew := ⟨_, rfl⟩
          rw [← hW1] at HP ⊢
          clear hW1
          obtain ⟨⟨x0, x1, x2, x3⟩, y0, y1, y2, y3⟩ := HP.out.cells
          have hs1 := HP.out.bel.size
          clear a0 a1 a2 a3 b0 b1 b2 b3 p0 p1 q0 q1
          go_wp2_with (first
            | (go_at_call 21; (with_reducible refine (sstmts_any (B := B) (by omega) (X4.out.below (HP.out.bel.mono (by omega)) (Nat.le_refl _)) (Y4.out.below (HP.out.bel.mono (by omega)) (Nat.le_refl _))).mono ?_); rintro e w3 ⟨rfl, hb⟩
               replace HP := Lib.hid (HP.out.step hb)
               clear hb))
          obtain ⟨w3', rfl⟩ : ∃ W0, W0 = w3 := ⟨_, rfl⟩
          go_loopw [9] (fun kv wr3 => ∃ k : Nat, k ≤ f.params.length ∧ kv = .int .i64 k ∧ PairF wr2 wr2.heap.size (wr2.heap.size + 1) (.string f.name) (.int .i64 f.type) (.slice A3 f.params.length c3) (.slice A4 f.body.length c4) (.slice D3 f.params.length d3) (.slice D4 f.body.length d4) wr3) (fun kv _ => f.params.length - (intOf kv).toNat)
          case atStart => exact ⟨0, Nat.zero_le _, rfl, HP.out⟩
          case round =>
            obtain ⟨k, hk, rfl, hP⟩ := hrel
            replace HP := Lib.hid hP
            clear hP
            obtain ⟨⟨x0, x1, x2, x3⟩, y0, y1, y2, y3⟩ := HP.out.cells
            have hs3 := HP.out.bel.size
            by_cases hlt3 : k < f.params.length
            · obtain ⟨x, he3⟩ : ∃ e, f.params[k]? = some e := ⟨_, List.getElem?_eq_getElem hlt3⟩
              obtain ⟨g3, o3, rfl, hg3, s0, s1⟩ := (X3.out.below (HP.out.bel.mono (by omega)) (Nat.le_refl _)).cells he3
              obtain ⟨g4, o4, rfl, hg4, t0, t1⟩ := (Y3.out.below (HP.out.bel.mono (by omega)) (Nat.le_refl _)).cells he3
              clear he3
              have hlt4 : (k : Int) < f.params.length := by omega
              have hk0 : (0 : Int) ≤ k := by omega
              go_wp2
              go_quiet (fail)
              go_wp2
              go_roundw
              case rel => exact ⟨k + 1, by omega, by go_num, HP.out.step (below_drewN (Below.refl _ _) nq)⟩
              case measure => simp [intOf]; omega
            · go_wp2
              go_roundw
              case rel => exact ⟨i + 1, by omega, by go_num, HT.out.step HP.out.bel⟩
              case measure => simp [intOf]; omega
        · have HP := Lib.hid (PairF.down (wr := wr2) (x0 := .string f.name) (x1 := .int .i64 f.type) (x2 := .slice A3 f.params.length c3) (x3 := .slice A4 f.body.length c4) (y2 := .slice D3 f.params.length d3) (y3 := .slice D4 f.body.length d4))
          obtain ⟨W1, hW1⟩ : ∃ W1, W1 = ((wr2.alloc (.cells #[.string f.name, .int .i64 f.type, .slice D3 f.params.length d3, .slice D4 f.body.length d4] 46)).alloc (.cells #[.string f.name, .int .i64 f.type, .slice A3 f.params.length c3, .slice A4 f.body.length c4] 46)).drew := ⟨_, rfl⟩
          rw [← hW1] at HP ⊢
          clear hW1
          obtain ⟨⟨x0, x1, x2, x3⟩, y0, y1, y2, y3⟩ := HP.out.cells
          have hs1 := HP.out.bel.size
          clear a0 a1 a2 a3 b0 b1 b2 b3 p0 p1 q0 q1
          go_wp2_with (first
            | (go_at_call 21; (with_reducible refine (sstmts_any (B := B) (by omega) (X4.out.below (HP.out.bel.mono (by omega)) (Nat.le_refl _)) (Y4.out.below (HP.out.bel.mono (by omega)) (Nat.le_refl _))).mono ?_); rintro e w3 ⟨rfl, hb⟩
               replace HP := Lib.hid (HP.out.step hb)
               clear hb))
          obtain ⟨w3', rfl⟩ : ∃ W0, W0 = w3 := ⟨_, rfl⟩
          go_loopw [9] (fun kv wr3 => ∃ k : Nat, k ≤ f.params.length ∧ kv = .int .i64 k ∧ PairF wr2 (wr2.heap.size + 1) wr2.heap.size (.string f.name) (.int .i64 f.type) (.slice A3 f.params.length c3) (.slice A4 f.body.length c4) (.slice D3 f.params.length d3) (.slice D4 f.body.length d4) wr3) (fun kv _ => f.params.length - (intOf kv).toNat)
          case atStart => exact ⟨0, Nat.zero_le _, rfl, HP.out⟩
          case round =>
            obtain ⟨k, hk, rfl, hP⟩ := hrel
            replace HP := Lib.hid hP
            clear hP
            obtain ⟨⟨x0, x1, x2, x3⟩, y0, y1, y2, y3⟩ := HP.out.cells
            have hs3 := HP.out.bel.size
            by_cases hlt3 : k < f.params.length
            · obtain ⟨x, he3⟩ : ∃ e, f.params[k]? = some e := ⟨_, List.getElem?_eq_getElem hlt3⟩
              obtain ⟨g3, o3, rfl, hg3, s0, s1⟩ := (X3.out.below (HP.out.bel.mono (by omega)) (Nat.le_refl _)).cells he3
              obtain ⟨g4, o4, rfl, hg4, t0, t1⟩ := (Y3.out.below (HP.out.bel.mono (by omega)) (Nat.le_refl _)).cells he3
              clear he3
              have hlt4 : (k : Int) < f.params.length := by omega
              have hk0 : (0 : Int) ≤ k := by omega
              go_wp2
              go_quiet (fail)
              go_wp2
              go_roundw
              case rel => exact ⟨k + 1, by omega, by go_num, HP.out.step (below_drewN (Below.refl _ _) nq)⟩
              case measure => simp [intOf]; omega
            · go_wp2
              go_roundw
              case rel => exact ⟨i + 1, by omega, by go_num, HT.out.step HP.out.bel⟩
              case measure => simp [intOf]; omega
      · go_wp2
        go_ret
        exact ⟨rfl, HT.out.bel⟩
end Go.Proofs.YtakijoblbmfadaaGreatDoor

/- The laws of parse: same. -/
namespace Go.Proofs.YtakijoblbmfadaaGreatDoor
open Go.RowKit
theorem slA_below {B C : Nat} {w w' : World} {v : Value} {l : List Ar} (h : SlA B w v l) (hb : Below B w w') (hC : B ≤ C) : SlA C w' v l := h.imp fun g o u hc => ⟨Nat.lt_of_lt_of_le hc.1 hC, (hb.cell (p := ⟨g, o, none⟩) hc.1).trans hc.2⟩
theorem slF_below {B C : Nat} {w w' : World} {v : Value} {l : List Fu} (h : SlF B w v l) (hb : Below B w w') (hC : B ≤ C) : SlF C w' v l := h.imp fun g o u hc => ⟨Nat.lt_of_lt_of_le hc.1 hC, (hb.cell (p := ⟨g, o, none⟩) hc.1).trans hc.2⟩
set_option maxRecDepth 100000 in
theorem lsame_any (s : ByteArray) (w : World) (ht : PT w) : Calls Tryz.prog 9 #[.string s] w fun e w' => e = .returned (.bool true) ∧ Below w.heap.size w w' := by
  obtain ⟨R, hR⟩ : ∃ R, docP s = R := ⟨_, rfl⟩
  obtain ⟨p, k, ln⟩ := R
  have HR := Lib.hid hR
  have HPT := Lib.hid ht
  clear hR ht
  go_enter Tryz.func9, Tryz.ntmps9
  go_wp2_with (first
    | (go_at_call 14; (with_reducible refine (dparse_any s _ HPT.out).mono ?_); rintro e w1 ⟨hb, v0, v1, rfl, ha, hf⟩
       rw [HR.out] at ha hf
       rw [HR.out]
       obtain ⟨A0, q0, rfl, _⟩ := ha.form
       obtain ⟨A1, q1, rfl, _⟩ := hf.form
       have HA := Lib.hid ha
       have HF := Lib.hid hf
       have HB1 := Lib.hid hb
       have HX := Lib.hid (heap_alloc_new w1 (.cells #[.slice A0 p.arrays.length q0, .slice A1 p.funcs.length q1] 35))
       clear ha hf hb)
    | (go_at_call 17; (with_reducible refine (rparse_any s _).mono ?_); rintro e w2 ⟨hb, v0, v1, rfl, ha, hf⟩
       rw [HR.out] at ha hf
       rw [HR.out]
       obtain ⟨B0, u0, rfl, _⟩ := ha.form
       obtain ⟨B1, u1, rfl, _⟩ := hf.form
       have hz1 : w1.heap.size < w2.heap.size := by have := hb.size; rw [alloc_size] at this; omega
       have hb1 : Below w1.heap.size w1 w2 := ((Below.refl _ _).more (Nat.le_refl _) _).trans (hb.mono (by rw [alloc_size]; omega))
       have hb2 : Below w1.heap.size w1 (w2.alloc (.cells #[.slice B0 p.arrays.length u0, .slice B1 p.funcs.length u1] 35)) := hb1.more (Nat.le_refl _) _
       have hb3 : Below w2.heap.size w2 (w2.alloc (.cells #[.slice B0 p.arrays.length u0, .slice B1 p.funcs.length u1] 35)) := (Below.refl _ _).more (Nat.le_refl _) _
       have HA1 := Lib.hid (slA_below HA.out hb2 (Nat.le_trans hb1.size hb3.size))
       have HF1 := Lib.hid (slF_below HF.out hb2 (Nat.le_trans hb1.size hb3.size))
       have HA2 := Lib.hid (slA_below ha hb3 hb3.size)
       have HF2 := Lib.hid (slF_below hf hb3 hb3.size)
       have HBE := Lib.hid (HB1.out.trans (hb2.mono HB1.out.size))
       obtain ⟨⟨p0, p1⟩, pz⟩ := two_cells ((hb.block _ (by rw [alloc_size]; omega)).trans HX.out)
       clear ha hf hb hb1 hb2 hb3)
    | (go_at_call 15; (with_reducible refine (same_any p _ _ _ _ _ _ (Nat.le_refl _) HA1.out HF1.out HA2.out HF2.out).mono ?_); rintro e w3 ⟨rfl, hb⟩
       replace HBE := Lib.hid (HBE.out.trans (hb.mono HBE.out.size))
       clear hb))
  go_ret
  exact ⟨rfl, HBE.out⟩
end Go.Proofs.YtakijoblbmfadaaGreatDoor
