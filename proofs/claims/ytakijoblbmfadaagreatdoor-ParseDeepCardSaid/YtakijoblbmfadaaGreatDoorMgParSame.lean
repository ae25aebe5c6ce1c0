import Derived.Test.YtakijoblbmfadaaGreatDoorMgParFn
set_option linter.unusedSimpArgs false
set_option linter.unusedVariables false
/- The document's comparison of trees: true where both are the same tree. -/
namespace Go.Proofs.YtakijoblbmfadaaGreatDoor
open Go.RowKit
theorem ex_size {l : List Ex} {i : Nat} {k op n : Int} {s : ByteArray} {args : List Ex} (h : l[i]? = some (.mk k op n s args)) : SizeOf.sizeOf args < SizeOf.sizeOf l := by
  have h1 := List.sizeOf_lt_of_mem (List.mem_of_getElem? h)
  have h2 : SizeOf.sizeOf args < SizeOf.sizeOf (Ex.mk k op n s args) := by rw [Ex.mk.sizeOf_spec]; omega
  omega
def SxC (N : Nat) : Prop := ∀ (l : List Ex), SizeOf.sizeOf l < N → ∀ (B : Nat) (A A' : Option Addr) (cap cap' : Nat) (w : World), SlE B w (.slice A l.length cap) l → SlE B w (.slice A' l.length cap') l →
  Calls Tryz.prog 35 #[.slice A l.length cap, .slice A' l.length cap'] w fun e w' => e = .returned (.bool true) ∧ ∃ m, w' = w.drewN m
theorem SxC.call {N : Nat} (h : SxC N) {l : List Ex} (hl : SizeOf.sizeOf l < N) {B : Nat} {A A' : Option Addr} {cap cap' : Nat} {w : World} (h1 : SlE B w (.slice A l.length cap) l) (h2 : SlE B w (.slice A' l.length cap') l) :
  Calls Tryz.prog 35 #[.slice A l.length cap, .slice A' l.length cap'] w fun e w' => e = .returned (.bool true) ∧ ∃ m, w' = w.drewN m := h l hl B A A' cap cap' w h1 h2
theorem SlE.drewN {B : Nat} {w : World} {v : Value} {l : List Ex} (h : SlE B w v l) (n : Nat) : SlE B (w.drewN n) v l := h.below (below_drewN (Below.refl _ _) n) (Nat.le_refl _)
set_option maxHeartbeats 1600000 in
set_option maxRecDepth 100000 in
theorem same_exprs : ∀ N, SxC N
  | 0 => fun l h => absurd h (by omega)
  | N + 1 => by
    intro l hl B A A' cap cap' w h1 h2
    have IH := Lib.hid (same_exprs N)
    have HL := Lib.hid hl
    have H1 := Lib.hid h1
    have H2 := Lib.hid h2
    have hlen : l.length ≤ 281474976710656 := by obtain ⟨_, _, _, h⟩ := h1.form; exact h
    clear hl h1 h2
    go_enter Tryz.func35, Tryz.ntmps35
    go_wp2
    go_loopw [5] (fun iv wr => ∃ i : Nat, i ≤ l.length ∧ iv = .int .i64 i ∧ ∃ m, wr = w.drewN m) (fun iv _ => l.length - (intOf iv).toNat)
    case atStart => exact ⟨0, Nat.zero_le _, rfl, 0, rfl⟩
    case round =>
      obtain ⟨i, hi, rfl, m, hm⟩ := hrel
      have HM := Lib.hid hm
      have HW1 := Lib.hid (show SlE B wr (.slice A l.length cap) l from hm ▸ H1.out.drewN m)
      have HW2 := Lib.hid (show SlE B wr (.slice A' l.length cap') l from hm ▸ H2.out.drewN m)
      clear hm
      by_cases hlt : i < l.length
      · obtain ⟨⟨k, op, n, s, args⟩, he⟩ : ∃ e, l[i]? = some e := ⟨_, List.getElem?_eq_getElem hlt⟩
        obtain ⟨g, o, v, rfl, hg, a0, a1, a2, a3, a4, hs⟩ := HW1.out.cells he
        obtain ⟨g', o', v', rfl, hg', b0, b1, b2, b3, b4, hs'⟩ := HW2.out.cells he
        obtain ⟨A1, c1, rfl, _⟩ := hs.form
        obtain ⟨A2, c2, rfl, _⟩ := hs'.form
        have HS := Lib.hid hs
        have HS' := Lib.hid hs'
        have HZ := Lib.hid (show SizeOf.sizeOf args < N by have := ex_size he; have := HL.out; omega)
        clear he hs hs'
        have hlt2 : (i : Int) < l.length := by omega
        have hi0 : (0 : Int) ≤ i := by omega
        go_wp2
        go_quiet (first
          | (go_at_call 35; exact Calls.quiet_of (IH.out.call HZ.out (HS.out.drewN _) (HS'.out.drewN _))))
        go_wp2
        go_roundw
        case rel => exact ⟨i + 1, by omega, by go_num, m + nq, by rw [HM.out, World.drewN_drewN]⟩
        case measure => simp [intOf]; omega
      · go_wp2
        go_ret
        exact ⟨rfl, m, HM.out⟩
end Go.Proofs.YtakijoblbmfadaaGreatDoor

/- The document's comparison of statements. -/
namespace Go.Proofs.YtakijoblbmfadaaGreatDoor
open Go.RowKit
theorem st_size {l : List St} {i : Nat} {k ty : Int} {s : ByteArray} {args : List Ex} {thn els : List St} (h : l[i]? = some (.mk k ty s args thn els)) : SizeOf.sizeOf thn < SizeOf.sizeOf l ∧ SizeOf.sizeOf els < SizeOf.sizeOf l := by
  have h1 := List.sizeOf_lt_of_mem (List.mem_of_getElem? h)
  rw [St.mk.sizeOf_spec] at h1
  omega
theorem sexprs_any {l : List Ex} {B : Nat} {A A' : Option Addr} {cap cap' : Nat} {w : World} (h1 : SlE B w (.slice A l.length cap) l) (h2 : SlE B w (.slice A' l.length cap') l) :
    Calls Tryz.prog 35 #[.slice A l.length cap, .slice A' l.length cap'] w fun e w' => e = .returned (.bool true) ∧ Below w.heap.size w w' :=
  (same_exprs (SizeOf.sizeOf l + 1) l (by omega) B A A' cap cap' w h1 h2).mono fun e w' ⟨he, m, hm⟩ => ⟨he, hm ▸ below_drewN (Below.refl _ _) m⟩
def SsC (N : Nat) : Prop := ∀ (l : List St), SizeOf.sizeOf l < N → ∀ (B : Nat) (A A' : Option Addr) (cap cap' : Nat) (w : World), B ≤ w.heap.size → SlS B w (.slice A l.length cap) l → SlS B w (.slice A' l.length cap') l →
  Calls Tryz.prog 21 #[.slice A l.length cap, .slice A' l.length cap'] w fun e w' => e = .returned (.bool true) ∧ Below w.heap.size w w'
theorem SsC.call {N : Nat} (h : SsC N) {l : List St} (hl : SizeOf.sizeOf l < N) {B : Nat} {A A' : Option Addr} {cap cap' : Nat} {w : World} (hB : B ≤ w.heap.size) (h1 : SlS B w (.slice A l.length cap) l) (h2 : SlS B w (.slice A' l.length cap') l) :
  Calls Tryz.prog 21 #[.slice A l.length cap, .slice A' l.length cap'] w fun e w' => e = .returned (.bool true) ∧ Below w.heap.size w w' := h l hl B A A' cap cap' w hB h1 h2
/-- Two copies in blocks of their own. -/
def Pair (wr : World) (p q : Nat) (x0 x1 x2 x3 x4 x5 y3 y4 y5 : Value) (W : World) : Prop :=
  W.heap[p]? = some (.cells #[x0, x1, x2, x3, x4, x5] 78 (0, 0)) ∧ W.heap[q]? = some (.cells #[x0, x1, x2, y3, y4, y5] 78 (0, 0)) ∧ Below wr.heap.size wr W
theorem Pair.step {wr W W' : World} {p q : Nat} {x0 x1 x2 x3 x4 x5 y3 y4 y5 : Value} (h : Pair wr p q x0 x1 x2 x3 x4 x5 y3 y4 y5 W) (hb : Below W.heap.size W W') : Pair wr p q x0 x1 x2 x3 x4 x5 y3 y4 y5 W' :=
  ⟨(hb.block _ (Array.getElem?_eq_some_iff.1 h.1).1).trans h.1, (hb.block _ (Array.getElem?_eq_some_iff.1 h.2.1).1).trans h.2.1, h.2.2.trans (hb.mono h.2.2.size)⟩
theorem Pair.bel {wr W : World} {p q : Nat} {x0 x1 x2 x3 x4 x5 y3 y4 y5 : Value} (h : Pair wr p q x0 x1 x2 x3 x4 x5 y3 y4 y5 W) : Below wr.heap.size wr W := h.2.2
theorem Pair.up {wr : World} {x0 x1 x2 x3 x4 x5 y3 y4 y5 : Value} : Pair wr wr.heap.size (wr.heap.size + 1) x0 x1 x2 x3 x4 x5 y3 y4 y5 ((wr.alloc (.cells #[x0, x1, x2, x3, x4, x5] 78)).alloc (.cells #[x0, x1, x2, y3, y4, y5] 78)).drew := by
  have hb : Below wr.heap.size wr ((wr.alloc (.cells #[x0, x1, x2, x3, x4, x5] 78)).alloc (.cells #[x0, x1, x2, y3, y4, y5] 78)) := ((Below.refl _ _).alloc (Nat.le_refl _) _).alloc (by rw [alloc_size]; omega) _
  refine ⟨own_more (heap_alloc_new wr _) _, ?_, hb.drew⟩
  have := heap_alloc_new (wr.alloc (.cells #[x0, x1, x2, x3, x4, x5] 78)) (.cells #[x0, x1, x2, y3, y4, y5] 78)
  rw [alloc_size] at this
  exact this
theorem Pair.down {wr : World} {x0 x1 x2 x3 x4 x5 y3 y4 y5 : Value} : Pair wr (wr.heap.size + 1) wr.heap.size x0 x1 x2 x3 x4 x5 y3 y4 y5 ((wr.alloc (.cells #[x0, x1, x2, y3, y4, y5] 78)).alloc (.cells #[x0, x1, x2, x3, x4, x5] 78)).drew := by
  obtain ⟨h1, h2, h3⟩ := Pair.up (wr := wr) (x0 := x0) (x1 := x1) (x2 := x2) (x3 := y3) (x4 := y4) (x5 := y5) (y3 := x3) (y4 := x4) (y5 := x5)
  exact ⟨h2, h1, h3⟩
theorem Pair.cells {wr W : World} {p q : Nat} {x0 x1 x2 x3 x4 x5 y3 y4 y5 : Value} (h : Pair wr p q x0 x1 x2 x3 x4 x5 y3 y4 y5 W) :
    (W.cell? ⟨p, 0, none⟩ = some x0 ∧ W.cell? ⟨p, 1, none⟩ = some x1 ∧ W.cell? ⟨p, 2, none⟩ = some x2 ∧ W.cell? ⟨p, 3, none⟩ = some x3 ∧ W.cell? ⟨p, 4, none⟩ = some x4 ∧ W.cell? ⟨p, 5, none⟩ = some x5) ∧
    (W.cell? ⟨q, 0, none⟩ = some x0 ∧ W.cell? ⟨q, 1, none⟩ = some x1 ∧ W.cell? ⟨q, 2, none⟩ = some x2 ∧ W.cell? ⟨q, 3, none⟩ = some y3 ∧ W.cell? ⟨q, 4, none⟩ = some y4 ∧ W.cell? ⟨q, 5, none⟩ = some y5) := ⟨(six_cells h.1).1, (six_cells h.2.1).1⟩
set_option maxHeartbeats 1600000 in
set_option maxRecDepth 100000 in
theorem same_stmts : ∀ N, SsC N
  | 0 => fun l h => absurd h (by omega)
  | N + 1 => by
    intro l hl B A A' cap cap' w hB h1 h2
    have IH := Lib.hid (same_stmts N)
    have HL := Lib.hid hl
    have H1 := Lib.hid h1
    have H2 := Lib.hid h2
    have hlen : l.length ≤ 281474976710656 := by obtain ⟨_, _, _, h⟩ := h1.form; exact h
    clear hl h1 h2
    go_enter Tryz.func21, Tryz.ntmps21
    go_wp2
    go_loopw [5] (fun iv wr => ∃ i : Nat, i ≤ l.length ∧ iv = .int .i64 i ∧ Below w.heap.size w wr) (fun iv _ => l.length - (intOf iv).toNat)
    case atStart => exact ⟨0, Nat.zero_le _, rfl, Below.refl _ _⟩
    case round =>
      obtain ⟨i, hi, rfl, hbw⟩ := hrel
      have HBW := Lib.hid hbw
      have hsz := hbw.size
      by_cases hlt : i < l.length
      · obtain ⟨⟨k, ty, s, args, thn, els⟩, he⟩ : ∃ e, l[i]? = some e := ⟨_, List.getElem?_eq_getElem hlt⟩
        obtain ⟨g, o, v3, v4, v5, rfl, hg, a0, a1, a2, a3, a4, a5, x3, x4, x5⟩ := (H1.out.below (hbw.mono hB) (Nat.le_refl _)).cells he
        obtain ⟨g', o', u3, u4, u5, rfl, hg', b0, b1, b2, b3, b4, b5, y3, y4, y5⟩ := (H2.out.below (hbw.mono hB) (Nat.le_refl _)).cells he
        obtain ⟨A3, c3, rfl, _⟩ := x3.form
        obtain ⟨A4, c4, rfl, _⟩ := x4.form
        obtain ⟨A5, c5, rfl, _⟩ := x5.form
        obtain ⟨D3, d3, rfl, _⟩ := y3.form
        obtain ⟨D4, d4, rfl, _⟩ := y4.form
        obtain ⟨D5, d5, rfl, _⟩ := y5.form
        have X3 := Lib.hid x3
        have X4 := Lib.hid x4
        have X5 := Lib.hid x5
        have Y3 := Lib.hid y3
        have Y4 := Lib.hid y4
        have Y5 := Lib.hid y5
        have HZ := Lib.hid (show SizeOf.sizeOf thn < N ∧ SizeOf.sizeOf els < N by have := st_size he; have := HL.out; omega)
        clear he x3 x4 x5 y3 y4 y5 hbw
        have hlt2 : (i : Int) < l.length := by omega
        have hi0 : (0 : Int) ≤ i := by omega
        have n1 : wr.heap.size ≠ g := by omega
        have n2 : wr.heap.size ≠ g' := by omega
        have n3 : wr.heap.size + 1 ≠ g := by omega
        have n4 : wr.heap.size + 1 ≠ g' := by omega
        have n5 : g < wr.heap.size := by omega
        have n6 : g' < wr.heap.size := by omega
        go_wp2
        go_region_held3 (fun w' => w'.cell? ⟨g, o + i * 6, none⟩ = some (.int .i64 k) ∧ w'.cell? ⟨g, o + i * 6 + 1, none⟩ = some (.int .i64 ty) ∧ w'.cell? ⟨g, o + i * 6 + 2, none⟩ = some (.string s) ∧ w'.cell? ⟨g, o + i * 6 + 3, none⟩ = some (.slice A3 args.length c3) ∧ w'.cell? ⟨g, o + i * 6 + 4, none⟩ = some (.slice A4 thn.length c4) ∧ w'.cell? ⟨g, o + i * 6 + 5, none⟩ = some (.slice A5 els.length c5) ∧
            w'.cell? ⟨g', o' + i * 6, none⟩ = some (.int .i64 k) ∧ w'.cell? ⟨g', o' + i * 6 + 1, none⟩ = some (.int .i64 ty) ∧ w'.cell? ⟨g', o' + i * 6 + 2, none⟩ = some (.string s) ∧ w'.cell? ⟨g', o' + i * 6 + 3, none⟩ = some (.slice D3 args.length d3) ∧ w'.cell? ⟨g', o' + i * 6 + 4, none⟩ = some (.slice D4 thn.length d4) ∧ w'.cell? ⟨g', o' + i * 6 + 5, none⟩ = some (.slice D5 els.length d5))
          (go_keep)
          (fail)
        · have HP := Lib.hid (Pair.up (wr := wr) (x0 := .int .i64 k) (x1 := .int .i64 ty) (x2 := .string s) (x3 := .slice A3 args.length c3) (x4 := .slice A4 thn.length c4) (x5 := .slice A5 els.length c5) (y3 := .slice D3 args.length d3) (y4 := .slice D4 thn.length d4) (y5 := .slice D5 els.length d5))
          obtain ⟨W1, hW1⟩ : ∃ W1, W1 = ((wr.alloc (.cells #[.int .i64 k, .int .i64 ty, .string s, .slice A3 args.length c3, .slice A4 thn.length c4, .slice A5 els.length c5] 78)).alloc (.cells #[.int .i64 k, .int .i64 ty, .string s, .slice D3 args.length d3, .slice D4 thn.length d4, .slice D5 els.length d5] 78)).drew := ⟨_, rfl⟩
          rw [← hW1] at HP ⊢
          clear hW1
          obtain ⟨⟨p0, p1, p2, p3, p4, p5⟩, q0, q1, q2, q3, q4, q5⟩ := HP.out.cells
          have hs1 := HP.out.bel.size
          clear a0 a1 a2 a3 a4 a5 b0 b1 b2 b3 b4 b5
          go_wp2_with (first
            | (go_at_call 35; (with_reducible refine (sexprs_any (X3.out.below (HP.out.bel.mono (by omega)) (Nat.le_refl _)) (Y3.out.below (HP.out.bel.mono (by omega)) (Nat.le_refl _))).mono ?_); rintro e w2 ⟨rfl, hb⟩
               replace HP := Lib.hid (HP.out.step hb)
               obtain ⟨⟨p0, p1, p2, p3, p4, p5⟩, q0, q1, q2, q3, q4, q5⟩ := HP.out.cells
               have hs2 := HP.out.bel.size
               clear hb)
            | (go_at_call 21; (with_reducible refine (IH.out.call HZ.out.1 (by omega) (X4.out.below (HP.out.bel.mono (by omega)) (Nat.le_refl _)) (Y4.out.below (HP.out.bel.mono (by omega)) (Nat.le_refl _))).mono ?_); rintro e w3 ⟨rfl, hb⟩
               replace HP := Lib.hid (HP.out.step hb)
               obtain ⟨⟨p0, p1, p2, p3, p4, p5⟩, q0, q1, q2, q3, q4, q5⟩ := HP.out.cells
               have hs3 := HP.out.bel.size
               clear hb)
            | (go_at_call 21; (with_reducible refine (IH.out.call HZ.out.2 (by omega) (X5.out.below (HP.out.bel.mono (by omega)) (Nat.le_refl _)) (Y5.out.below (HP.out.bel.mono (by omega)) (Nat.le_refl _))).mono ?_); rintro e w4 ⟨rfl, hb⟩
               replace HP := Lib.hid (HP.out.step hb)
               clear hb))
          go_roundw
          case rel => exact ⟨i + 1, by omega, by go_num, HBW.out.trans (HP.out.bel.mono (by omega))⟩
          case measure => simp [intOf]; omega
        · have HP := Lib.hid (Pair.down (wr := wr) (x0 := .int .i64 k) (x1 := .int .i64 ty) (x2 := .string s) (x3 := .slice A3 args.length c3) (x4 := .slice A4 thn.length c4) (x5 := .slice A5 els.length c5) (y3 := .slice D3 args.length d3) (y4 := .slice D4 thn.length d4) (y5 := .slice D5 els.length d5))
          obtain ⟨W1, hW1⟩ : ∃ W1, W1 = ((wr.alloc (.cells #[.int .i64 k, .int .i64 ty, .string s, .slice D3 args.length d3, .slice D4 thn.length d4, .slice D5 els.length d5] 78)).alloc (.cells #[.int .i64 k, .int .i64 ty, .string s, .slice A3 args.length c3, .slice A4 thn.length c4, .slice A5 els.length c5] 78)).drew := ⟨_, rfl⟩
          rw [← hW1] at HP ⊢
          clear hW1
          obtain ⟨⟨p0, p1, p2, p3, p4, p5⟩, q0, q1, q2, q3, q4, q5⟩ := HP.out.cells
          have hs1 := HP.out.bel.size
          clear a0 a1 a2 a3 a4 a5 b0 b1 b2 b3 b4 b5
          go_wp2_with (first
            | (go_at_call 35; (with_reducible refine (sexprs_any (X3.out.below (HP.out.bel.mono (by omega)) (Nat.le_refl _)) (Y3.out.below (HP.out.bel.mono (by omega)) (Nat.le_refl _))).mono ?_); rintro e w2 ⟨rfl, hb⟩
               replace HP := Lib.hid (HP.out.step hb)
               obtain ⟨⟨p0, p1, p2, p3, p4, p5⟩, q0, q1, q2, q3, q4, q5⟩ := HP.out.cells
               have hs2 := HP.out.bel.size
               clear hb)
            | (go_at_call 21; (with_reducible refine (IH.out.call HZ.out.1 (by omega) (X4.out.below (HP.out.bel.mono (by omega)) (Nat.le_refl _)) (Y4.out.below (HP.out.bel.mono (by omega)) (Nat.le_refl _))).mono ?_); rintro e w3 ⟨rfl, hb⟩
               replace HP := Lib.hid (HP.out.step hb)
               obtain ⟨⟨p0, p1, p2, p3, p4, p5⟩, q0, q1, q2, q3, q4, q5⟩ := HP.out.cells
               have hs3 := HP.out.bel.size
               clear hb)
            | (go_at_call 21; (with_reducible refine (IH.out.call HZ.out.2 (by omega) (X5.out.below (HP.out.bel.mono (by omega)) (Nat.le_refl _)) (Y5.out.below (HP.out.bel.mono (by omega)) (Nat.le_refl _))).mono ?_); rintro e w4 ⟨rfl, hb⟩
               replace HP := Lib.hid (HP.out.step hb)
               clear hb))
          go_roundw
          case rel => exact ⟨i + 1, by omega, by go_num, HBW.out.trans (HP.out.bel.mono (by omega))⟩
          case measure => simp [intOf]; omega
      · go_wp2
        go_ret
        exact ⟨rfl, HBW.out⟩
end Go.Proofs.YtakijoblbmfadaaGreatDoor
