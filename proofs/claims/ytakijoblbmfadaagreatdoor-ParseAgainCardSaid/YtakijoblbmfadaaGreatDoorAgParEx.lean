import Derived.Test.YtakijoblbmfadaaGreatDoorAgParUnL
set_option linter.unusedSimpArgs false
set_option linter.unusedVariables false
/- The document's parser: expressions of a level. -/
namespace Go.Proofs.YtakijoblbmfadaaGreatDoor
open Go.RowKit
/-! ### operators of two -/
def aMask (L g : Nat) : Nat → Bool := fun k => decide (k < L) || k == g
theorem aMask_no {L g k : Nat} : aMask L g k = false ↔ L ≤ k ∧ k ≠ g := by
  unfold aMask
  simp [Bool.or_eq_false_iff]
/-- An expression held in block g, its parts in other blocks from L on. -/
def Holds (L g : Nat) (w : World) (a : Ex) : Prop :=
  ∃ k o n s A m c, w.heap[g]? = some (.cells #[.int .i64 k, .int .i64 o, .int .i64 n, .string s, .slice A m c] 84 (0, 0)) ∧ ExV w.heap.size (mask (aMask L g) w) a (.agg #[.int .i64 k, .int .i64 o, .int .i64 n, .string s, .slice A m c])
theorem holds_start {L : Nat} {w2 : World} {a : Ex} {k o n : Int} {s : ByteArray} {A : Option Addr} {m c : Nat} (h : FrE L w2 a (.agg #[.int .i64 k, .int .i64 o, .int .i64 n, .string s, .slice A m c])) :
    Holds L w2.heap.size (w2.alloc (.cells #[.int .i64 k, .int .i64 o, .int .i64 n, .string s, .slice A m c] 84)) a := by
  refine ⟨k, o, n, s, A, m, c, heap_alloc_new w2 _, ?_⟩
  refine h.imp fun g o u hc => ?_
  obtain ⟨hp, hc⟩ := mask_cell hc
  have hg := hc.1
  refine cell_mask (aMask_no.2 ⟨low_no.1 hp, by omega⟩) ⟨by simp; omega, ?_⟩
  exact (World.cell?_of_block (w := w2) (Below.heap_alloc w2 _ g hg)).trans hc.2
/-! ### where it is over -/
def CO (b : Nat) (V : Value) (all : List Tok) (lev d : Int) : Prop := ∀ (w : World) (x : PR Unit), StP b V all x w → isOver x = true →
  Calls Tryz.prog 107 #[.pointer (some ⟨b, 0, none⟩), .int .i64 lev, .int .i64 d] w (Gave b V all w (x.bind fun _ _ => (.out : PR Ex)) (FrE w.heap.size))
theorem CO.call {b : Nat} {V : Value} {all : List Tok} {lev d : Int} (h : CO b V all lev d) {w : World} {x : PR Unit} (hs : StP b V all x w) (ho : isOver x = true) :
  Calls Tryz.prog 107 #[.pointer (some ⟨b, 0, none⟩), .int .i64 lev, .int .i64 d] w (Gave b V all w (x.bind fun _ _ => (.out : PR Ex)) (FrE w.heap.size)) := h w x hs ho
end Go.Proofs.YtakijoblbmfadaaGreatDoor

/- Statements' values in new blocks; an expression in brackets. -/
namespace Go.Proofs.YtakijoblbmfadaaGreatDoor
open Go.RowKit
abbrev stBox : Obj := .cells #[.int .i64 0, .int .i64 0, .string ⟨#[]⟩, .slice none 0 0, .slice none 0 0, .slice none 0 0] 78
abbrev st0V : Value := .agg #[.int .i64 0, .int .i64 0, .string ⟨#[]⟩, .slice none 0 0, .slice none 0 0, .slice none 0 0]
/-- A statement's value whose parts lie in blocks from L on. -/
def FrS (L : Nat) (w : World) (a : St) (v : Value) : Prop :=
  match a with
  | .mk k ty name args thn els => ∃ v3 v4 v5, v = .agg #[.int .i64 k, .int .i64 ty, .string name, v3, v4, v5] ∧ FrEs L w args v3 ∧ FrSs L w thn v4 ∧ FrSs L w els v5
theorem FrS.keep {L M : Nat} {w w' : World} {a : St} {v : Value} (h : FrS L w a v) (k : Keep L w w') (hM : M ≤ L) : FrS M w' a v := by
  obtain ⟨kk, ty, name, args, thn, els⟩ := a
  obtain ⟨v3, v4, v5, hv, h3, h4, h5⟩ := h
  exact ⟨v3, v4, v5, hv, h3.keep k hM, h4.keep k hM, h5.keep k hM⟩
theorem FrS.form {L : Nat} {w : World} {a : St} {v : Value} (h : FrS L w a v) : ∃ k t s A3 m3 c3 A4 m4 c4 A5 m5 c5, v = .agg #[.int .i64 k, .int .i64 t, .string s, .slice A3 m3 c3, .slice A4 m4 c4, .slice A5 m5 c5] := by
  obtain ⟨kk, ty, name, args, thn, els⟩ := a
  obtain ⟨v3, v4, v5, hv, h3, h4, h5⟩ := h
  obtain ⟨A3, c3, rfl, _⟩ := h3.form
  obtain ⟨A4, c4, rfl, _⟩ := h4.form
  obtain ⟨A5, c5, rfl, _⟩ := h5.form
  exact ⟨_, _, _, _, _, _, _, _, _, _, _, _, hv⟩
theorem frEs_nil (L : Nat) (w : World) : FrEs L w [] (.slice none 0 0) := slE_nil _ _
theorem frSs_nil (L : Nat) (w : World) : FrSs L w [] (.slice none 0 0) := slS_nil _ _
/-! ### in the midst of a call whose result is a statement -/
abbrev nest6 (W : World) (g : Nat) (c0 c1 c2 c3 c4 c5 : Value) : World := ((((((W.setCell ⟨g, 0, none⟩ c0).setCell ⟨g, 1, none⟩ c1).setCell ⟨g, 2, none⟩ c2).setCell ⟨g, 3, none⟩ c3).setCell ⟨g, 4, none⟩ c4).setCell ⟨g, 5, none⟩ c5)
theorem nest6_size (W : World) (g : Nat) (c0 c1 c2 c3 c4 c5 : Value) : (nest6 W g c0 c1 c2 c3 c4 c5).heap.size = W.heap.size := by simp [nest6]
theorem nest6_row {W : World} {g : Nat} {d0 d1 d2 d3 d4 d5 : Value} {T : TypeId} {fr : Nat × Nat} (hb : W.heap[g]? = some (.cells #[d0, d1, d2, d3, d4, d5] T fr)) (c0 c1 c2 c3 c4 c5 : Value) : (nest6 W g c0 c1 c2 c3 c4 c5).heap[g]? = some (.cells #[c0, c1, c2, c3, c4, c5] T fr) :=
  Lib.heap_setCell_same (Lib.heap_setCell_same (Lib.heap_setCell_same (Lib.heap_setCell_same (Lib.heap_setCell_same (Lib.heap_setCell_same hb c0) c1) c2) c3) c4) c5
theorem nest6_other {W : World} {g k : Nat} (hk : k ≠ g) (c0 c1 c2 c3 c4 c5 : Value) : (nest6 W g c0 c1 c2 c3 c4 c5).heap[k]? = W.heap[k]? := by
  rw [Below.heap_setCell _ _ _ _ (by show k ≠ g; exact hk), Below.heap_setCell _ _ _ _ (by show k ≠ g; exact hk), Below.heap_setCell _ _ _ _ (by show k ≠ g; exact hk), Below.heap_setCell _ _ _ _ (by show k ≠ g; exact hk), Below.heap_setCell _ _ _ _ (by show k ≠ g; exact hk), Below.heap_setCell _ _ _ _ (by show k ≠ g; exact hk)]
theorem Keep.nest6 {L g : Nat} {w : World} (hg : g < L) (c0 c1 c2 c3 c4 c5 : Value) : Keep L w (nest6 w g c0 c1 c2 c3 c4 c5) :=
  (((((Keep.set hg 0 c0).trans (Keep.set hg 1 c1)).trans (Keep.set hg 2 c2)).trans (Keep.set hg 3 c3)).trans (Keep.set hg 4 c4)).trans (Keep.set hg 5 c5)
theorem six_cells {W : World} {g : Nat} {c0 c1 c2 c3 c4 c5 : Value} {T : TypeId} (h : W.heap[g]? = some (.cells #[c0, c1, c2, c3, c4, c5] T (0, 0))) :
    (W.cell? ⟨g, 0, none⟩ = some c0 ∧ W.cell? ⟨g, 1, none⟩ = some c1 ∧ W.cell? ⟨g, 2, none⟩ = some c2 ∧ W.cell? ⟨g, 3, none⟩ = some c3 ∧ W.cell? ⟨g, 4, none⟩ = some c4 ∧ W.cell? ⟨g, 5, none⟩ = some c5) ∧ ∀ o, W.frozen? ⟨g, o, none⟩ = false := by
  refine ⟨⟨(Lib.cell_of_heap h 0).trans rfl, (Lib.cell_of_heap h 1).trans rfl, (Lib.cell_of_heap h 2).trans rfl, (Lib.cell_of_heap h 3).trans rfl, (Lib.cell_of_heap h 4).trans rfl, (Lib.cell_of_heap h 5).trans rfl⟩, fun o => ?_⟩
  simp [World.frozen?, h]
def CurS (b : Nat) (V : Value) (all : List Tok) (w : World) (x : PR Unit) (W : World) : Prop := Did b V all w x W ∧ W.heap[w.heap.size]? = some stBox ∧ TokH b V all w ∧ b < w.heap.size
section
variable {b : Nat} {V : Value} {all : List Tok} {w W W' : World} {x y : PR Unit}
theorem CurS.start (h : StP b V all x w) : CurS b V all w x (w.alloc stBox) :=
  ⟨⟨h.below ((Below.refl _ _).alloc (Nat.le_refl _) _), OffB.of_below ((Below.refl _ _).alloc (Nat.le_refl _) _) h.lt⟩, heap_alloc_new w stBox, h.tok, h.lt⟩
theorem CurS.did (h : CurS b V all w x W) : Did b V all w x W := h.1
theorem CurS.st (h : CurS b V all w x W) : StP b V all x W := h.1.1
theorem CurS.size (h : CurS b V all w x W) : w.heap.size < W.heap.size := (Array.getElem?_eq_some_iff.1 h.2.1).1
theorem CurS.ne (h : CurS b V all w x W) : w.heap.size ≠ b := by have := h.2.2.2; omega
theorem CurS.lt (h : CurS b V all w x W) : b < w.heap.size := h.2.2.2
theorem CurS.tok (h : CurS b V all w x W) : TokH b V all w := h.2.2.1
theorem CurS.step (h : CurS b V all w x W) (g : Did b V all W y W') : CurS b V all w y W' := ⟨h.1.after g, own_next g.off h.size h.ne h.2.1, h.2.2⟩
theorem CurS.alloc (h : CurS b V all w x W) (o : Obj) : CurS b V all w x (W.alloc o) := ⟨h.1.alloc o, own_more h.2.1 o, h.2.2⟩
theorem CurS.own (h : CurS b V all w x W) : (W.cell? ⟨w.heap.size, 0, none⟩ = some (.int .i64 0) ∧ W.cell? ⟨w.heap.size, 1, none⟩ = some (.int .i64 0) ∧ W.cell? ⟨w.heap.size, 2, none⟩ = some (.string ⟨#[]⟩) ∧
    W.cell? ⟨w.heap.size, 3, none⟩ = some (.slice none 0 0) ∧ W.cell? ⟨w.heap.size, 4, none⟩ = some (.slice none 0 0) ∧ W.cell? ⟨w.heap.size, 5, none⟩ = some (.slice none 0 0)) ∧ ∀ o, W.frozen? ⟨w.heap.size, o, none⟩ = false := six_cells h.2.1
/-- A store into another block of the call's own. -/
theorem CurS.set (h : CurS b V all w x W) {g : Nat} (hg : w.heap.size < g) (i : Nat) (u : Value) : CurS b V all w x (W.setCell ⟨g, i, none⟩ u) :=
  ⟨h.1.set h.2.2.1 (by omega) (by have := h.2.2.2; omega) i u, (Below.heap_setCell W _ u _ (by show w.heap.size ≠ g; omega)).trans h.2.1, h.2.2⟩
theorem Did.nest6 (h : Did b V all w x W) (ht : TokH b V all w) {g : Nat} (hg : w.heap.size ≤ g) (hb : g ≠ b) (c0 c1 c2 c3 c4 c5 : Value) : Did b V all w x (nest6 W g c0 c1 c2 c3 c4 c5) :=
  (((((h.set ht hg hb 0 c0).set ht hg hb 1 c1).set ht hg hb 2 c2).set ht hg hb 3 c3).set ht hg hb 4 c4).set ht hg hb 5 c5
theorem CurS.fin (h : CurS b V all w y W) {X : PR St} (hy : X.un = y) {c0 c1 c2 c3 c4 c5 : Value} (hG : Got X fun a => FrS w.heap.size (nest6 W w.heap.size c0 c1 c2 c3 c4 c5) a (.agg #[c0, c1, c2, c3, c4, c5])) :
    Gave b V all w X (FrS w.heap.size) (.returned (.agg #[c0, c1, c2, c3, c4, c5])) (nest6 W w.heap.size c0 c1 c2 c3 c4 c5) :=
  ⟨_, rfl, hy ▸ h.1.nest6 h.2.2.1 (Nat.le_refl _) h.ne _ _ _ _ _ _, hG⟩
theorem CurS.fina (h : CurS b V all w y W) {X : PR St} (hy : X.un = y) {o : Obj} {c0 c1 c2 c3 c4 c5 : Value} (hG : Got X fun a => FrS w.heap.size ((_root_.Go.Proofs.YtakijoblbmfadaaGreatDoor.nest6 W w.heap.size c0 c1 c2 c3 c4 c5).alloc o) a (.agg #[c0, c1, c2, c3, c4, c5])) :
    Gave b V all w X (FrS w.heap.size) (.returned (.agg #[c0, c1, c2, c3, c4, c5])) ((_root_.Go.Proofs.YtakijoblbmfadaaGreatDoor.nest6 W w.heap.size c0 c1 c2 c3 c4 c5).alloc o) :=
  ⟨_, rfl, hy ▸ (h.1.nest6 h.2.2.1 (Nat.le_refl _) h.ne _ _ _ _ _ _).alloc o, hG⟩
theorem CurS.read (h : CurS b V all w x W) (c0 c1 c2 c3 c4 c5 : Value) : (((((((W.setCell ⟨w.heap.size, 0, none⟩ c0).setCell ⟨w.heap.size, 1, none⟩ c1).setCell ⟨w.heap.size, 2, none⟩ c2).setCell ⟨w.heap.size, 3, none⟩ c3).setCell ⟨w.heap.size, 4, none⟩ c4).setCell ⟨w.heap.size, 5, none⟩ c5)).cell? ⟨w.heap.size, 0, none⟩ = some c0 ∧ (((((((W.setCell ⟨w.heap.size, 0, none⟩ c0).setCell ⟨w.heap.size, 1, none⟩ c1).setCell ⟨w.heap.size, 2, none⟩ c2).setCell ⟨w.heap.size, 3, none⟩ c3).setCell ⟨w.heap.size, 4, none⟩ c4).setCell ⟨w.heap.size, 5, none⟩ c5)).cell? ⟨w.heap.size, 1, none⟩ = some c1 ∧ (((((((W.setCell ⟨w.heap.size, 0, none⟩ c0).setCell ⟨w.heap.size, 1, none⟩ c1).setCell ⟨w.heap.size, 2, none⟩ c2).setCell ⟨w.heap.size, 3, none⟩ c3).setCell ⟨w.heap.size, 4, none⟩ c4).setCell ⟨w.heap.size, 5, none⟩ c5)).cell? ⟨w.heap.size, 2, none⟩ = some c2 ∧ (((((((W.setCell ⟨w.heap.size, 0, none⟩ c0).setCell ⟨w.heap.size, 1, none⟩ c1).setCell ⟨w.heap.size, 2, none⟩ c2).setCell ⟨w.heap.size, 3, none⟩ c3).setCell ⟨w.heap.size, 4, none⟩ c4).setCell ⟨w.heap.size, 5, none⟩ c5)).cell? ⟨w.heap.size, 3, none⟩ = some c3 ∧ (((((((W.setCell ⟨w.heap.size, 0, none⟩ c0).setCell ⟨w.heap.size, 1, none⟩ c1).setCell ⟨w.heap.size, 2, none⟩ c2).setCell ⟨w.heap.size, 3, none⟩ c3).setCell ⟨w.heap.size, 4, none⟩ c4).setCell ⟨w.heap.size, 5, none⟩ c5)).cell? ⟨w.heap.size, 4, none⟩ = some c4 ∧ (((((((W.setCell ⟨w.heap.size, 0, none⟩ c0).setCell ⟨w.heap.size, 1, none⟩ c1).setCell ⟨w.heap.size, 2, none⟩ c2).setCell ⟨w.heap.size, 3, none⟩ c3).setCell ⟨w.heap.size, 4, none⟩ c4).setCell ⟨w.heap.size, 5, none⟩ c5)).cell? ⟨w.heap.size, 5, none⟩ = some c5 := (six_cells (nest6_row h.2.1 c0 c1 c2 c3 c4 c5)).1
theorem CurS.reada (h : CurS b V all w x W) (o : Obj) (c0 c1 c2 c3 c4 c5 : Value) : ((((((((W.setCell ⟨w.heap.size, 0, none⟩ c0).setCell ⟨w.heap.size, 1, none⟩ c1).setCell ⟨w.heap.size, 2, none⟩ c2).setCell ⟨w.heap.size, 3, none⟩ c3).setCell ⟨w.heap.size, 4, none⟩ c4).setCell ⟨w.heap.size, 5, none⟩ c5)).alloc o).cell? ⟨w.heap.size, 0, none⟩ = some c0 ∧ ((((((((W.setCell ⟨w.heap.size, 0, none⟩ c0).setCell ⟨w.heap.size, 1, none⟩ c1).setCell ⟨w.heap.size, 2, none⟩ c2).setCell ⟨w.heap.size, 3, none⟩ c3).setCell ⟨w.heap.size, 4, none⟩ c4).setCell ⟨w.heap.size, 5, none⟩ c5)).alloc o).cell? ⟨w.heap.size, 1, none⟩ = some c1 ∧ ((((((((W.setCell ⟨w.heap.size, 0, none⟩ c0).setCell ⟨w.heap.size, 1, none⟩ c1).setCell ⟨w.heap.size, 2, none⟩ c2).setCell ⟨w.heap.size, 3, none⟩ c3).setCell ⟨w.heap.size, 4, none⟩ c4).setCell ⟨w.heap.size, 5, none⟩ c5)).alloc o).cell? ⟨w.heap.size, 2, none⟩ = some c2 ∧ ((((((((W.setCell ⟨w.heap.size, 0, none⟩ c0).setCell ⟨w.heap.size, 1, none⟩ c1).setCell ⟨w.heap.size, 2, none⟩ c2).setCell ⟨w.heap.size, 3, none⟩ c3).setCell ⟨w.heap.size, 4, none⟩ c4).setCell ⟨w.heap.size, 5, none⟩ c5)).alloc o).cell? ⟨w.heap.size, 3, none⟩ = some c3 ∧ ((((((((W.setCell ⟨w.heap.size, 0, none⟩ c0).setCell ⟨w.heap.size, 1, none⟩ c1).setCell ⟨w.heap.size, 2, none⟩ c2).setCell ⟨w.heap.size, 3, none⟩ c3).setCell ⟨w.heap.size, 4, none⟩ c4).setCell ⟨w.heap.size, 5, none⟩ c5)).alloc o).cell? ⟨w.heap.size, 4, none⟩ = some c4 ∧ ((((((((W.setCell ⟨w.heap.size, 0, none⟩ c0).setCell ⟨w.heap.size, 1, none⟩ c1).setCell ⟨w.heap.size, 2, none⟩ c2).setCell ⟨w.heap.size, 3, none⟩ c3).setCell ⟨w.heap.size, 4, none⟩ c4).setCell ⟨w.heap.size, 5, none⟩ c5)).alloc o).cell? ⟨w.heap.size, 5, none⟩ = some c5 := (six_cells (own_more (nest6_row h.2.1 c0 c1 c2 c3 c4 c5) o)).1
end
end Go.Proofs.YtakijoblbmfadaaGreatDoor
