import Derived.Test.YtakijoblbmfadaaGreatDoorAgParBlk
import Derived.Deep.RegionHeld3
set_option linter.unusedSimpArgs false
set_option linter.unusedVariables false
/- The document's parser: a function behind its name. (By tools/gen_parfn.py.) -/
namespace Go.Proofs.YtakijoblbmfadaaGreatDoor
open Go.RowKit
/-- Parameters in new blocks; a function's value. -/
def FrPs (L : Nat) (w : World) (a : List Pa) (v : Value) : Prop := SlP w.heap.size (mask (low L) w) v a
theorem FrPs.keep {L M : Nat} {w w' : World} {a : List Pa} {v : Value} (h : FrPs L w a v) (k : Keep L w w') (hM : M ≤ L) : FrPs M w' a v := SlP.imp (k.cells hM) h
theorem FrPs.form {L : Nat} {w : World} {a : List Pa} {v : Value} (h : FrPs L w a v) : ∃ A c, v = .slice A a.length c := by
  obtain ⟨A, c, hv, _⟩ := SlP.form h
  exact ⟨A, c, hv⟩
def FrF (L : Nat) (w : World) (a : Fu) (v : Value) : Prop := ∃ v2 v3, v = .agg #[.string a.name, .int .i64 a.type, v2, v3] ∧ FrPs L w a.params v2 ∧ FrSs L w a.body v3
theorem FrF.keep {L M : Nat} {w w' : World} {a : Fu} {v : Value} (h : FrF L w a v) (k : Keep L w w') (hM : M ≤ L) : FrF M w' a v := by
  obtain ⟨v2, v3, hv, h2, h3⟩ := h
  exact ⟨v2, v3, hv, h2.keep k hM, h3.keep k hM⟩
theorem FrF.form {L : Nat} {w : World} {a : Fu} {v : Value} (h : FrF L w a v) : ∃ s t A2 m2 c2 A3 m3 c3, v = .agg #[.string s, .int .i64 t, .slice A2 m2 c2, .slice A3 m3 c3] := by
  obtain ⟨v2, v3, hv, h2, h3⟩ := h
  obtain ⟨A2, c2, rfl⟩ := h2.form
  obtain ⟨A3, c3, rfl, _⟩ := h3.form
  exact ⟨_, _, _, _, _, _, _, _, hv⟩
abbrev fnBox : Obj := .cells #[.string ⟨#[]⟩, .int .i64 0, .slice none 0 0, .slice none 0 0] 46
abbrev nest4 (W : World) (g : Nat) (c0 c1 c2 c3 : Value) : World := (((W.setCell ⟨g, 0, none⟩ c0).setCell ⟨g, 1, none⟩ c1).setCell ⟨g, 2, none⟩ c2).setCell ⟨g, 3, none⟩ c3
theorem nest4_row {W : World} {g : Nat} {d0 d1 d2 d3 : Value} {T : TypeId} {fr : Nat × Nat} (hb : W.heap[g]? = some (.cells #[d0, d1, d2, d3] T fr)) (c0 c1 c2 c3 : Value) : (nest4 W g c0 c1 c2 c3).heap[g]? = some (.cells #[c0, c1, c2, c3] T fr) :=
  Lib.heap_setCell_same (Lib.heap_setCell_same (Lib.heap_setCell_same (Lib.heap_setCell_same hb c0) c1) c2) c3
theorem Keep.nest4 {L g : Nat} {w : World} (hg : g < L) (c0 c1 c2 c3 : Value) : Keep L w (nest4 w g c0 c1 c2 c3) :=
  (((Keep.set hg 0 c0).trans (Keep.set hg 1 c1)).trans (Keep.set hg 2 c2)).trans (Keep.set hg 3 c3)
theorem four_cells {W : World} {g : Nat} {c0 c1 c2 c3 : Value} {T : TypeId} (h : W.heap[g]? = some (.cells #[c0, c1, c2, c3] T (0, 0))) :
    (W.cell? ⟨g, 0, none⟩ = some c0 ∧ W.cell? ⟨g, 1, none⟩ = some c1 ∧ W.cell? ⟨g, 2, none⟩ = some c2 ∧ W.cell? ⟨g, 3, none⟩ = some c3) ∧ ∀ o, W.frozen? ⟨g, o, none⟩ = false := by
  refine ⟨⟨(Lib.cell_of_heap h 0).trans rfl, (Lib.cell_of_heap h 1).trans rfl, (Lib.cell_of_heap h 2).trans rfl, (Lib.cell_of_heap h 3).trans rfl⟩, fun o => ?_⟩
  simp [World.frozen?, h]
theorem Did.nest4 {b : Nat} {V : Value} {all : List Tok} {x : PR Unit} {w W : World} (h : Did b V all w x W) (ht : TokH b V all w) {g : Nat} (hg : w.heap.size ≤ g) (hb : g ≠ b) (c0 c1 c2 c3 : Value) : Did b V all w x (nest4 W g c0 c1 c2 c3) :=
  (((h.set ht hg hb 0 c0).set ht hg hb 1 c1).set ht hg hb 2 c2).set ht hg hb 3 c3
/-- In the midst: the result's block, and the function's. -/
def CurF (b : Nat) (V : Value) (all : List Tok) (w : World) (x : PR Unit) (W : World) (c0 c1 c2 c3 : Value) : Prop :=
  Did b V all w x W ∧ W.heap[w.heap.size]? = some fnBox ∧ W.heap[w.heap.size + 1]? = some (.cells #[c0, c1, c2, c3] 46 (0, 0)) ∧ TokH b V all w ∧ b < w.heap.size
section
variable {b : Nat} {V : Value} {all : List Tok} {w W W' : World} {x y : PR Unit} {c0 c1 c2 c3 : Value}
theorem CurF.start (h : StP b V all x w) (s : ByteArray) (t : Int) : CurF b V all w x ((w.alloc fnBox).alloc (.cells #[.string s, .int .i64 t, .slice none 0 0, .slice none 0 0] 46)) (.string s) (.int .i64 t) (.slice none 0 0) (.slice none 0 0) := by
  have hb : Below w.heap.size w ((w.alloc fnBox).alloc (.cells #[.string s, .int .i64 t, .slice none 0 0, .slice none 0 0] 46)) := ((Below.refl _ _).alloc (Nat.le_refl _) _).alloc (by rw [alloc_size]; omega) _
  refine ⟨⟨h.below hb, OffB.of_below hb h.lt⟩, own_more (heap_alloc_new w fnBox) _, ?_, h.tok, h.lt⟩
  have := heap_alloc_new (w.alloc fnBox) (.cells #[.string s, .int .i64 t, .slice none 0 0, .slice none 0 0] 46)
  rw [alloc_size] at this
  exact this
theorem CurF.did (h : CurF b V all w x W c0 c1 c2 c3) : Did b V all w x W := h.1
theorem CurF.st (h : CurF b V all w x W c0 c1 c2 c3) : StP b V all x W := h.1.1
theorem CurF.lt (h : CurF b V all w x W c0 c1 c2 c3) : b < w.heap.size := h.2.2.2.2
theorem CurF.size (h : CurF b V all w x W c0 c1 c2 c3) : w.heap.size + 1 < W.heap.size := (Array.getElem?_eq_some_iff.1 h.2.2.1).1
theorem CurF.step (h : CurF b V all w x W c0 c1 c2 c3) (g : Did b V all W y W') : CurF b V all w y W' c0 c1 c2 c3 :=
  ⟨h.1.after g, own_next g.off (by have := h.size; omega) (by have := h.lt; omega) h.2.1, own_next g.off h.size (by have := h.lt; omega) h.2.2.1, h.2.2.2⟩
theorem CurF.alloc (h : CurF b V all w x W c0 c1 c2 c3) (o : Obj) : CurF b V all w x (W.alloc o) c0 c1 c2 c3 := ⟨h.1.alloc o, own_more h.2.1 o, own_more h.2.2.1 o, h.2.2.2⟩
theorem CurF.drew (h : CurF b V all w x W c0 c1 c2 c3) : CurF b V all w x W.drew c0 c1 c2 c3 := h.step ⟨h.st.below (Below.refl _ _).drew, OffB.of_below (Below.refl _ _).drew h.st.lt⟩
theorem CurF.own (h : CurF b V all w x W c0 c1 c2 c3) : (W.cell? ⟨w.heap.size, 0, none⟩ = some (.string ⟨#[]⟩) ∧ W.cell? ⟨w.heap.size, 1, none⟩ = some (.int .i64 0) ∧ W.cell? ⟨w.heap.size, 2, none⟩ = some (.slice none 0 0) ∧ W.cell? ⟨w.heap.size, 3, none⟩ = some (.slice none 0 0)) ∧ ∀ o, W.frozen? ⟨w.heap.size, o, none⟩ = false := four_cells h.2.1
theorem CurF.f (h : CurF b V all w x W c0 c1 c2 c3) : (W.cell? ⟨w.heap.size + 1, 0, none⟩ = some c0 ∧ W.cell? ⟨w.heap.size + 1, 1, none⟩ = some c1 ∧ W.cell? ⟨w.heap.size + 1, 2, none⟩ = some c2 ∧ W.cell? ⟨w.heap.size + 1, 3, none⟩ = some c3) ∧ ∀ o, W.frozen? ⟨w.heap.size + 1, o, none⟩ = false := four_cells h.2.2.1
theorem CurF.set (h : CurF b V all w x W c0 c1 c2 c3) (i : Nat) (u : Value) : Did b V all w x (W.setCell ⟨w.heap.size + 1, i, none⟩ u) ∧ (W.setCell ⟨w.heap.size + 1, i, none⟩ u).heap[w.heap.size]? = some fnBox :=
  ⟨h.1.set h.2.2.2.1 (by omega) (by have := h.lt; omega) i u, (Below.heap_setCell W _ u _ (by show w.heap.size ≠ w.heap.size + 1; omega)).trans h.2.1⟩
theorem CurF.set0 (h : CurF b V all w x W c0 c1 c2 c3) (u : Value) : CurF b V all w x (W.setCell ⟨w.heap.size + 1, 0, none⟩ u) u c1 c2 c3 := ⟨(h.set 0 u).1, (h.set 0 u).2, Lib.heap_setCell_same h.2.2.1 u, h.2.2.2⟩
theorem CurF.set1 (h : CurF b V all w x W c0 c1 c2 c3) (u : Value) : CurF b V all w x (W.setCell ⟨w.heap.size + 1, 1, none⟩ u) c0 u c2 c3 := ⟨(h.set 1 u).1, (h.set 1 u).2, Lib.heap_setCell_same h.2.2.1 u, h.2.2.2⟩
theorem CurF.fin (h : CurF b V all w y W c0 c1 c2 c3) {X : PR Fu} (hy : X.un = y) (hG : Got X fun a => FrF w.heap.size (_root_.Go.Proofs.YtakijoblbmfadaaGreatDoor.nest4 W w.heap.size c0 c1 c2 c3) a (.agg #[c0, c1, c2, c3])) :
    Gave b V all w X (FrF w.heap.size) (.returned (.agg #[c0, c1, c2, c3])) (_root_.Go.Proofs.YtakijoblbmfadaaGreatDoor.nest4 W w.heap.size c0 c1 c2 c3) :=
  ⟨_, rfl, hy ▸ h.1.nest4 h.2.2.2.1 (Nat.le_refl _) (by have := h.lt; omega) _ _ _ _, hG⟩
theorem CurF.read (h : CurF b V all w x W c0 c1 c2 c3) : ((((W.setCell ⟨w.heap.size, 0, none⟩ c0).setCell ⟨w.heap.size, 1, none⟩ c1).setCell ⟨w.heap.size, 2, none⟩ c2).setCell ⟨w.heap.size, 3, none⟩ c3).cell? ⟨w.heap.size, 0, none⟩ = some c0 ∧ ((((W.setCell ⟨w.heap.size, 0, none⟩ c0).setCell ⟨w.heap.size, 1, none⟩ c1).setCell ⟨w.heap.size, 2, none⟩ c2).setCell ⟨w.heap.size, 3, none⟩ c3).cell? ⟨w.heap.size, 1, none⟩ = some c1 ∧
    ((((W.setCell ⟨w.heap.size, 0, none⟩ c0).setCell ⟨w.heap.size, 1, none⟩ c1).setCell ⟨w.heap.size, 2, none⟩ c2).setCell ⟨w.heap.size, 3, none⟩ c3).cell? ⟨w.heap.size, 2, none⟩ = some c2 ∧ ((((W.setCell ⟨w.heap.size, 0, none⟩ c0).setCell ⟨w.heap.size, 1, none⟩ c1).setCell ⟨w.heap.size, 2, none⟩ c2).setCell ⟨w.heap.size, 3, none⟩ c3).cell? ⟨w.heap.size, 3, none⟩ = some c3 := (four_cells (nest4_row h.2.1 c0 c1 c2 c3)).1
end
/-! ### the parameters -/
def parRest (m : Nat) (acc : List Pa) (r : List Tok) : PR (List Pa) := if isS [44] r = true then pPL m acc r.tail else (must [41] r).bind fun _ r => .ok acc r
def parOne (r : List Tok) : PR Pa := (pTy r).bind fun t r => (want 1 r).bind fun s r => .ok ⟨s, t⟩ r
theorem pPL_got {m : Nat} {acc : List Pa} {r : List Tok} : pPL (m + 1) acc r = (parOne r).bind fun p r => parRest m (acc ++ [p]) r := by
  rw [pPL]
  unfold parOne
  simp only [bind_assoc]
  rfl
theorem parOne_fits {r : List Tok} (h : EndL r) : Fits 1 r (parOne r) := by
  unfold parOne
  exact (pTy_fits h).bind (m := 0) (fun t r _ hr => (want_fits hr 1 (by decide)).bind (n := 0) (fun _ r _ hr => Fits.self hr _) (by omega)) (by omega)
def parS (n : Nat) (r : List Tok) : PR (List Pa) := if isS [41] r = true then .ok [] r.tail else pPL n [] r
end Go.Proofs.YtakijoblbmfadaaGreatDoor

/- The document's parser: a program. (By tools/gen_parpg.py.) -/
namespace Go.Proofs.YtakijoblbmfadaaGreatDoor
open Go.RowKit
/-! ### worlds -/
abbrev pgBox : Obj := .cells #[.slice none 0 0, .slice none 0 0] 35
abbrev nest2 (W : World) (g : Nat) (c0 c1 : Value) : World := (W.setCell ⟨g, 0, none⟩ c0).setCell ⟨g, 1, none⟩ c1
theorem nest2_row {W : World} {g : Nat} {d0 d1 : Value} {T : TypeId} {fr : Nat × Nat} (hb : W.heap[g]? = some (.cells #[d0, d1] T fr)) (c0 c1 : Value) : (nest2 W g c0 c1).heap[g]? = some (.cells #[c0, c1] T fr) := Lib.heap_setCell_same (Lib.heap_setCell_same hb c0) c1
theorem Keep.nest2 {L g : Nat} {w : World} (hg : g < L) (c0 c1 : Value) : Keep L w (nest2 w g c0 c1) := (Keep.set hg 0 c0).trans (Keep.set hg 1 c1)
theorem two_cells {W : World} {g : Nat} {c0 c1 : Value} {T : TypeId} (h : W.heap[g]? = some (.cells #[c0, c1] T (0, 0))) : (W.cell? ⟨g, 0, none⟩ = some c0 ∧ W.cell? ⟨g, 1, none⟩ = some c1) ∧ ∀ o, W.frozen? ⟨g, o, none⟩ = false := by
  refine ⟨⟨(Lib.cell_of_heap h 0).trans rfl, (Lib.cell_of_heap h 1).trans rfl⟩, fun o => ?_⟩
  simp [World.frozen?, h]
/-- A program's value. -/
def FrG (L : Nat) (w : World) (a : Pr) (v : Value) : Prop := ∃ v0 v1, v = .agg #[v0, v1] ∧ SlA w.heap.size (mask (low L) w) v0 a.arrays ∧ SlF w.heap.size (mask (low L) w) v1 a.funcs
/-- In the midst: the result's block, and the program's. -/
def CurP (b : Nat) (V : Value) (all : List Tok) (w : World) (x : PR Unit) (W : World) (c0 c1 : Value) : Prop :=
  Did b V all w x W ∧ W.heap[w.heap.size]? = some pgBox ∧ W.heap[w.heap.size + 1]? = some (.cells #[c0, c1] 35 (0, 0)) ∧ TokH b V all w ∧ b < w.heap.size
section
variable {b : Nat} {V : Value} {all : List Tok} {w W W' : World} {x y : PR Unit} {c0 c1 : Value}
theorem CurP.start (h : StP b V all x w) : CurP b V all w x ((w.alloc pgBox).alloc pgBox) (.slice none 0 0) (.slice none 0 0) := by
  have hb : Below w.heap.size w ((w.alloc pgBox).alloc pgBox) := ((Below.refl _ _).alloc (Nat.le_refl _) _).alloc (by rw [alloc_size]; omega) _
  refine ⟨⟨h.below hb, OffB.of_below hb h.lt⟩, own_more (heap_alloc_new w pgBox) _, ?_, h.tok, h.lt⟩
  have := heap_alloc_new (w.alloc pgBox) pgBox
  rw [alloc_size] at this
  exact this
theorem CurP.did (h : CurP b V all w x W c0 c1) : Did b V all w x W := h.1
theorem CurP.st (h : CurP b V all w x W c0 c1) : StP b V all x W := h.1.1
theorem CurP.lt (h : CurP b V all w x W c0 c1) : b < w.heap.size := h.2.2.2.2
theorem CurP.size (h : CurP b V all w x W c0 c1) : w.heap.size + 1 < W.heap.size := (Array.getElem?_eq_some_iff.1 h.2.2.1).1
theorem CurP.step (h : CurP b V all w x W c0 c1) (g : Did b V all W y W') : CurP b V all w y W' c0 c1 :=
  ⟨h.1.after g, own_next g.off (by have := h.size; omega) (by have := h.lt; omega) h.2.1, own_next g.off h.size (by have := h.lt; omega) h.2.2.1, h.2.2.2⟩
theorem CurP.alloc (h : CurP b V all w x W c0 c1) (o : Obj) : CurP b V all w x (W.alloc o) c0 c1 := ⟨h.1.alloc o, own_more h.2.1 o, own_more h.2.2.1 o, h.2.2.2⟩
theorem CurP.drew (h : CurP b V all w x W c0 c1) : CurP b V all w x W.drew c0 c1 := h.step ⟨h.st.below (Below.refl _ _).drew, OffB.of_below (Below.refl _ _).drew h.st.lt⟩
theorem CurP.drewN (h : CurP b V all w x W c0 c1) (n : Nat) : CurP b V all w x (W.drewN n) c0 c1 := h.step ⟨h.st.drewN n, (OffB.refl b _ W).drewN n⟩
theorem CurP.own (h : CurP b V all w x W c0 c1) : (W.cell? ⟨w.heap.size, 0, none⟩ = some (.slice none 0 0) ∧ W.cell? ⟨w.heap.size, 1, none⟩ = some (.slice none 0 0)) ∧ ∀ o, W.frozen? ⟨w.heap.size, o, none⟩ = false := two_cells h.2.1
theorem CurP.f (h : CurP b V all w x W c0 c1) : (W.cell? ⟨w.heap.size + 1, 0, none⟩ = some c0 ∧ W.cell? ⟨w.heap.size + 1, 1, none⟩ = some c1) ∧ ∀ o, W.frozen? ⟨w.heap.size + 1, o, none⟩ = false := two_cells h.2.2.1
theorem CurP.set (h : CurP b V all w x W c0 c1) (i : Nat) (u : Value) : Did b V all w x (W.setCell ⟨w.heap.size + 1, i, none⟩ u) ∧ (W.setCell ⟨w.heap.size + 1, i, none⟩ u).heap[w.heap.size]? = some pgBox :=
  ⟨h.1.set h.2.2.2.1 (by omega) (by have := h.lt; omega) i u, (Below.heap_setCell W _ u _ (by show w.heap.size ≠ w.heap.size + 1; omega)).trans h.2.1⟩
theorem CurP.set0 (h : CurP b V all w x W c0 c1) (u : Value) : CurP b V all w x (W.setCell ⟨w.heap.size + 1, 0, none⟩ u) u c1 := ⟨(h.set 0 u).1, (h.set 0 u).2, Lib.heap_setCell_same h.2.2.1 u, h.2.2.2⟩
theorem CurP.set1 (h : CurP b V all w x W c0 c1) (u : Value) : CurP b V all w x (W.setCell ⟨w.heap.size + 1, 1, none⟩ u) c0 u := ⟨(h.set 1 u).1, (h.set 1 u).2, Lib.heap_setCell_same h.2.2.1 u, h.2.2.2⟩
theorem CurP.fin (h : CurP b V all w y W c0 c1) {X : PR Pr} (hy : X.un = y) (hG : Got X fun a => FrG w.heap.size (_root_.Go.Proofs.YtakijoblbmfadaaGreatDoor.nest2 W w.heap.size c0 c1) a (.agg #[c0, c1])) :
    Gave b V all w X (FrG w.heap.size) (.returned (.agg #[c0, c1])) (_root_.Go.Proofs.YtakijoblbmfadaaGreatDoor.nest2 W w.heap.size c0 c1) :=
  ⟨_, rfl, hy ▸ (h.1.set h.2.2.2.1 (Nat.le_refl _) (by have := h.lt; omega) 0 c0).set h.2.2.2.1 (Nat.le_refl _) (by have := h.lt; omega) 1 c1, hG⟩
theorem CurP.read (h : CurP b V all w x W c0 c1) : ((W.setCell ⟨w.heap.size, 0, none⟩ c0).setCell ⟨w.heap.size, 1, none⟩ c1).cell? ⟨w.heap.size, 0, none⟩ = some c0 ∧ ((W.setCell ⟨w.heap.size, 0, none⟩ c0).setCell ⟨w.heap.size, 1, none⟩ c1).cell? ⟨w.heap.size, 1, none⟩ = some c1 := (two_cells (nest2_row h.2.1 c0 c1)).1
end
/-- What a program goes on with behind a name. -/
def pgK (q : Nat) (p : Pr) (a : Pa) (r : List Tok) : PR Pr :=
  if a.type = 1 ∧ p.funcs = [] ∧ isS [91] r = true then (pArr a.name r.tail).bind fun x r => pPr q ⟨p.arrays ++ [x], p.funcs⟩ r
  else (pFn q a.type a.name r).bind fun f r => pPr q ⟨p.arrays, p.funcs ++ [f]⟩ r
theorem pPr_got {q : Nat} {p : Pr} {r : List Tok} (h : hdK r ≠ 3) : pPr (q + 1) p r = (parOne r).bind fun a r => pgK q p a r := by
  rw [pPr, if_neg h]
  unfold parOne
  simp only [bind_assoc]
  rfl
theorem pPr_end {q : Nat} {p : Pr} {r : List Tok} (h : hdK r = 3) : pPr (q + 1) p r = .ok p r := by rw [pPr, if_pos h]
/-! ### the round -/
theorem own_apart {w : World} {B : Nat} {e t : TypeId} {n m k l : Nat} {v u : Value} {xs ys : List Value} (h : w.ownsRow B e n v k xs) (g : w.ownsRow B t m u l ys) (hne : e ≠ t) : ∀ j, v.ownBlock = some j → u.ownBlock ≠ some j := by
  intro j hj
  rcases h.2 with ⟨rfl, _⟩ | ⟨g', cap, cur, rfl, h1, h2, _⟩
  · cases hj
  · injection hj with hj
    subst hj
    exact own_ne g (show Is w g' e cur from h2) (fun e => hne e.symm)
structure PgAt (b : Nat) (V : Value) (all : List Tok) (w : World) (y : PR Unit) (W : World) (va vf : Value) (ars : List Ar) (fs : List FuV) : Prop where
  cur : CurP b V all w y W va vf
  arr : OutK kA (w.heap.size + 2) W va ars
  fnc : OutK kF (w.heap.size + 2) W vf fs
  nil : fs = [] → vf = .slice none 0 0
section
variable {b : Nat} {V : Value} {all : List Tok} {w W W' : World} {x y : PR Unit} {va vf : Value} {ars : List Ar} {fs : List FuV}
theorem PgAt.step (h : PgAt b V all w x W va vf ars fs) (g : Did b V all W y W') : PgAt b V all w y W' va vf ars fs :=
  ⟨h.cur.step g, h.arr.keep (Keep.did g (by have := h.cur.lt; omega)), h.fnc.keep (Keep.did g (by have := h.cur.lt; omega)), h.nil⟩
theorem PgAt.drewN (h : PgAt b V all w x W va vf ars fs) (n : Nat) : PgAt b V all w x (W.drewN n) va vf ars fs := h.step ⟨h.cur.st.drewN n, (OffB.refl b _ W).drewN n⟩
theorem PgAt.drew (h : PgAt b V all w x W va vf ars fs) : PgAt b V all w x W.drew va vf ars fs := h.step ⟨h.cur.st.below (Below.refl _ _).drew, OffB.of_below (Below.refl _ _).drew h.cur.st.lt⟩
/-- An array more. -/
theorem PgAt.array {w5 : World} {v1 : Value} {a : Ar} (h : PgAt b V all w y W va vf ars []) (hg : (W.alloc (.cells #[.string a.name, .int .i64 a.size] 56)).grownBy w5 va.ownBlock) (hr : RowAt (W.alloc (.cells #[.string a.name, .int .i64 a.size] 56)) va v1)
    (ho : w5.ownsRow (w.heap.size + 2) 56 2 v1 (ars.length + 1) (ars.flatMap kA.cs ++ [.string a.name, .int .i64 a.size])) : CurP b V all w y w5 va vf ∧ PgAt b V all w y (w5.setCell ⟨w.heap.size + 1, 0, none⟩ v1) v1 vf (ars ++ [a]) [] := by
  have hC := h.cur
  have hal : Below W.heap.size W (W.alloc (.cells #[.string a.name, .int .i64 a.size] 56)) := (Below.refl _ _).alloc (Nat.le_refl _) _
  have hO1 : OutK kA (w.heap.size + 2) w5 v1 (ars ++ [a]) := h.arr.app (L := W.heap.size) trivial (by have := hC.size; omega) (fun k hk => (h.arr.own k hk).1) hal hg hr ho
  have hown : ∀ j, va.ownBlock = some j → w.heap.size + 2 ≤ j := fun j hj => (h.arr.own j hj).2
  have hblk : ∀ j, j < W.heap.size → j < w.heap.size + 2 → w5.heap[j]? = W.heap[j]? := fun j hj hj2 => (hg.block j (Nat.lt_of_lt_of_le hj hal.size) (fun e => by have := hown j e.symm; omega)).trans (hal.block j hj)
  have hz := hC.size
  have hbl := hC.lt
  have hoff : OffB b w.heap.size w w5 := hC.did.off.trans (OffB.mk' (hg.os.trans hal.os) (hg.tape.trans hal.tape) (hg.output.trans hal.output) (Nat.le_trans hal.size hg.size) hC.st.lt fun j hj _ => hblk j (by have := hC.did.off.size; omega) (by omega))
  have hC1 : CurP b V all w y w5 va vf := ⟨⟨hC.st.move hC.2.2.2.1 hoff (hblk b hC.st.lt (by omega)), hoff⟩, (hblk _ (by omega) (by omega)).trans hC.2.1, (hblk _ hz (by omega)).trans hC.2.2.1, hC.2.2.2⟩
  refine ⟨hC1, hC1.set0 v1, hO1.keep (Keep.set (by omega) 0 v1), ?_, h.nil⟩
  rw [h.nil rfl]
  exact OutK.nil _ _ _
/-- A function more. -/
theorem PgAt.func {w5 : World} {v1 : Value} {s : ByteArray} {t : Int} {v2 v3 : Value} (h : PgAt b V all w y W va vf ars fs) (hg : (W.alloc (.cells #[.string s, .int .i64 t, v2, v3] 46)).grownBy w5 vf.ownBlock) (hr : RowAt (W.alloc (.cells #[.string s, .int .i64 t, v2, v3] 46)) vf v1)
    (ho : w5.ownsRow (w.heap.size + 2) 46 4 v1 (fs.length + 1) (fs.flatMap kF.cs ++ [.string s, .int .i64 t, v2, v3])) {L : Nat} (hL : w.heap.size + 2 ≤ L) (hL2 : ∀ k, vf.ownBlock = some k → k < L) :
    CurP b V all w y w5 va vf ∧ ∀ f, FrF L W f (.agg #[.string s, .int .i64 t, v2, v3]) → ∃ q : FuV, q.f = f ∧ PgAt b V all w y (w5.setCell ⟨w.heap.size + 1, 1, none⟩ v1) va v1 ars (fs ++ [q]) := by
  have hC := h.cur
  have hal : Below W.heap.size W (W.alloc (.cells #[.string s, .int .i64 t, v2, v3] 46)) := (Below.refl _ _).alloc (Nat.le_refl _) _
  have hown : ∀ j, vf.ownBlock = some j → w.heap.size + 2 ≤ j := fun j hj => (h.fnc.own j hj).2
  have hblk0 : ∀ j, j < W.heap.size → vf.ownBlock ≠ some j → w5.heap[j]? = W.heap[j]? := fun j hj hj2 => (hg.block j (Nat.lt_of_lt_of_le hj hal.size) (fun e => hj2 e.symm)).trans (hal.block j hj)
  have hblk : ∀ j, j < W.heap.size → j < w.heap.size + 2 → w5.heap[j]? = W.heap[j]? := fun j hj hj2 => hblk0 j hj (fun e => by have := hown j e; omega)
  have hz := hC.size
  have hbl := hC.lt
  have hoff : OffB b w.heap.size w w5 := hC.did.off.trans (OffB.mk' (hg.os.trans hal.os) (hg.tape.trans hal.tape) (hg.output.trans hal.output) (Nat.le_trans hal.size hg.size) hC.st.lt fun j hj _ => hblk j (by have := hC.did.off.size; omega) (by omega))
  have hC1 : CurP b V all w y w5 va vf := ⟨⟨hC.st.move hC.2.2.2.1 hoff (hblk b hC.st.lt (by omega)), hoff⟩, (hblk _ (by omega) (by omega)).trans hC.2.1, (hblk _ hz (by omega)).trans hC.2.2.1, hC.2.2.2⟩
  refine ⟨hC1, fun f hf => ?_⟩
  obtain ⟨u2, u3, hv, h2, h3⟩ := hf
  simp only [Value.agg.injEq, Array.mk.injEq, List.cons.injEq, Value.int.injEq, Value.string.injEq, true_and, and_true] at hv
  obtain ⟨rfl, rfl, rfl, rfl⟩ := hv
  have hO1 : OutK kF (w.heap.size + 2) w5 v1 (fs ++ [⟨f, v2, v3⟩]) := h.fnc.app (K := kF) (L := L) (p := (⟨f, v2, v3⟩ : FuV)) (show SlP W.heap.size (mask (low L) W) v2 f.params ∧ SlS W.heap.size (mask (low L) W) v3 f.body from ⟨h2, h3⟩) hL hL2 hal hg hr ho
  have hA : OutK kA (w.heap.size + 2) w5 va ars := by
    refine ⟨own_keep h.arr.1 fun j hj => hblk0 j (h.arr.own j hj).1 ?_, fun p hp => trivial⟩
    exact own_apart h.arr.1 h.fnc.1 (by decide) j hj
  exact ⟨⟨f, v2, v3⟩, rfl, hC1.set1 v1, hA.keep (Keep.set (by omega) 1 v1), hO1.keep (Keep.set (by omega) 1 v1), fun e => absurd e (by simp)⟩
end
theorem RdA.imp {B B' : Nat} {w w' : World} (hc : ∀ g o u, CellB B w g o u → CellB B' w' g o u) (a : Ar) (g o : Nat) (h : RdA B w a g o) : RdA B' w' a g o := ⟨hc _ _ _ h.1, hc _ _ _ h.2⟩
theorem SlA.imp {B B' : Nat} {w w' : World} (hc : ∀ g o u, CellB B w g o u → CellB B' w' g o u) {v : Value} {l : List Ar} (h : SlA B w v l) : SlA B' w' v l := SlB.imp h fun g o => RdL.imp (fun a g o => RdA.imp hc a g o) l g o
theorem RdF.imp {B B' : Nat} {w w' : World} (hc : ∀ g o u, CellB B w g o u → CellB B' w' g o u) (a : Fu) (g o : Nat) (h : RdF B w a g o) : RdF B' w' a g o := by
  obtain ⟨h0, h1, ⟨v, h2, h3⟩, ⟨v', h4, h5⟩⟩ := h
  exact ⟨hc _ _ _ h0, hc _ _ _ h1, ⟨v, hc _ _ _ h2, h3.imp hc⟩, ⟨v', hc _ _ _ h4, h5.imp hc⟩⟩
theorem SlF.imp {B B' : Nat} {w w' : World} (hc : ∀ g o u, CellB B w g o u → CellB B' w' g o u) {v : Value} {l : List Fu} (h : SlF B w v l) : SlF B' w' v l := SlB.imp h fun g o => RdL.imp (fun a g o => RdF.imp hc a g o) l g o
theorem pgK_fn {q : Nat} {p : Pr} {a : Pa} {z : PR Unit} (hc : ¬ (a.type = 1 ∧ p.funcs = [] ∧ isAt [91] z = true)) : (z.bind fun _ r => pgK q p a r) = (z.bind fun _ r => pFn q a.type a.name r).bind fun f r => pPr q ⟨p.arrays, p.funcs ++ [f]⟩ r := by
  cases z with
  | ok u r =>
    show pgK q p a r = (pFn q a.type a.name r).bind _
    unfold pgK
    exact congrArg id (if_neg hc)
  | _ => rfl
theorem pgK_arr {q : Nat} {p : Pr} {a : Pa} {r : List Tok} (h1 : a.type = 1) (h2 : p.funcs = []) (h3 : isS [91] r = true) : pgK q p a r = (pArr a.name r.tail).bind fun x r => pPr q ⟨p.arrays ++ [x], p.funcs⟩ r := by
  unfold pgK
  rw [if_pos ⟨h1, h2, h3⟩]
end Go.Proofs.YtakijoblbmfadaaGreatDoor
