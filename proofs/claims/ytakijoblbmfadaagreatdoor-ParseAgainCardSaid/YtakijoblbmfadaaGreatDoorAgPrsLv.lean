import Derived.Test.YtakijoblbmfadaaGreatDoorAgParFn
import Derived.Test.YtakijoblbmfadaaGreatDoorAgParBlanks
import Derived.WalkLawsBesides
set_option linter.unusedSimpArgs false
set_option linter.unusedVariables false
/- The developers' parser: its box in memory, what is left alone but for it, how its calls end. -/
namespace Go.Proofs.YtakijoblbmfadaaGreatDoor
open Go.RowKit
/-- The parser's box, at the rest r; what it reads besides stands in other blocks. -/
def Lv (b g : Nat) (r : List Tok) (w : World) : Prop :=
  ∃ (o c : Nat), Is w b 73 #[.slice (some ⟨g, o, none⟩) r.length c] ∧ g ≠ b ∧ g < w.heap.size ∧ (∀ (j : Nat) u, (tokCells r)[j]? = some u → w.cell? ⟨g, o + j, none⟩ = some u) ∧ r.length ≤ c ∧ r.length ≤ 1000000 ∧
    (∀ t ∈ r, t.kind = 0 → numB t.text = true ∧ (⟨t.text.toArray⟩ : ByteArray).size ≤ 281474976710656) ∧ EndL r ∧ (6 < w.heap.size ∧ 6 ≠ b ∧ Tab w)
theorem Tab.same {w w' : World} (h : Tab w) (e : w'.heap[6]? = w.heap[6]?) : Tab w' := fun k hk =>
  ⟨(World.cell?_of_block (w := w) e).trans (h k hk).1, (World.cell?_of_block (w := w) e).trans (h k hk).2⟩
section
variable {b g : Nat} {r : List Tok} {w w' : World}
theorem Lv.lt (h : Lv b g r w) : b < w.heap.size := by obtain ⟨_, _, h, _⟩ := h; exact h.lt
theorem Lv.ends (h : Lv b g r w) : EndL r := by obtain ⟨_, _, _, _, _, _, _, _, _, h, _⟩ := h; exact h
theorem Lv.len (h : Lv b g r w) : r.length ≤ 1000000 := by obtain ⟨_, _, _, _, _, _, _, h, _⟩ := h; exact h
theorem Lv.tab (h : Lv b g r w) : Tab w := by obtain ⟨_, _, _, _, _, _, _, _, _, _, _, _, h⟩ := h; exact h
theorem Lv.num (h : Lv b g r w) (hk : hdK r = 0) : (⟨(hdT r).toArray⟩ : ByteArray).size ≤ 281474976710656 ∧ numB (hdT r) = true := by
  obtain ⟨_, _, _, _, _, _, _, _, hn, he, _⟩ := h
  obtain ⟨t, q, rfl⟩ := List.exists_cons_of_ne_nil he.ne
  exact ⟨(hn t (List.mem_cons_self ..) hk).2, (hn t (List.mem_cons_self ..) hk).1⟩
/-- The box's block as it was, and what else it reads. -/
theorem Lv.move {W : World} (h : Lv b g r w) (hb : W.heap[b]? = w.heap[b]?) (hs : w.heap.size ≤ W.heap.size) (hk : ∀ k, k < w.heap.size → k ≠ b → W.heap[k]? = w.heap[k]?) : Lv b g r W := by
  obtain ⟨o, c, h1, h2, h3, h4, h5, h6, h7, h8, h9, h10, h11⟩ := h
  exact ⟨o, c, hb.trans h1, h2, by omega, fun j u hu => (World.cell?_of_block (w := w) (hk g h3 h2)).trans (h4 j u hu), h5, h6, h7, h8, by omega, h10, h11.same (hk _ h9 h10)⟩
theorem Lv.below (h : Lv b g r w) (hb : Below w.heap.size w w') : Lv b g r w' := h.move (hb.block b h.lt) hb.size fun k hk _ => hb.block k hk
theorem Lv.drewN (h : Lv b g r w) (n : Nat) : Lv b g r (w.drewN n) := h.below (below_drewN (Below.refl _ _) n)
theorem Lv.alloc (h : Lv b g r w) (o : Obj) : Lv b g r (w.alloc o) := h.below ((Below.refl _ _).alloc (Nat.le_refl _) o)
theorem Lv.gne (h : Lv b g r w) : g ≠ b ∧ g < w.heap.size ∧ 6 < w.heap.size ∧ 6 ≠ b := by obtain ⟨_, _, _, h2, h3, _, _, _, _, _, h9, h10, _⟩ := h; exact ⟨h2, h3, h9, h10⟩
/-- What stands at its place. -/
theorem Lv.tok (h : Lv b g r w) : ∃ (o c : Nat) (t : Tok) (q : List Tok), r = t :: q ∧ w.cell? ⟨b, 0, none⟩ = some (.slice (some ⟨g, o, none⟩) r.length c) ∧ w.frozen? ⟨b, 0, none⟩ = false ∧ g ≠ b ∧ g < w.heap.size ∧ b < w.heap.size ∧ r.length ≤ c ∧ 0 < r.length ∧ r.length ≤ 1000000 ∧
    w.cell? ⟨g, o, none⟩ = some (.int .i64 t.kind) ∧ w.cell? ⟨g, o + 1, none⟩ = some (.string ⟨t.text.toArray⟩) ∧ w.cell? ⟨g, o + 2, none⟩ = some (.int .i64 (t.line : Int)) := by
  have hlt := h.lt
  obtain ⟨o, c, h1, h2, h3, h4, h5, h6, h7, h8, h9, h10, h11⟩ := h
  obtain ⟨t, q, rfl⟩ := List.exists_cons_of_ne_nil h8.ne
  have e : tokCells (t :: q) = .int .i64 t.kind :: .string ⟨t.text.toArray⟩ :: .int .i64 (t.line : Int) :: tokCells q := by simp [tokCells]
  exact ⟨o, c, t, q, rfl, (h1.cell 0).trans rfl, h1.frozen 0, h2, h3, hlt, h5, h8.pos, h6, h4 0 _ (by rw [e]; rfl), h4 1 _ (by rw [e]; rfl), h4 2 _ (by rw [e]; rfl)⟩
end
/-- The box one token on. -/
theorem Lv.next {b g : Nat} {r : List Tok} {w : World} (h : Lv b g r w) (hk : hdK r ≠ 3) {o c : Nat} (hc : w.cell? ⟨b, 0, none⟩ = some (.slice (some ⟨g, o, none⟩) r.length c)) (n m : Nat) (hn : n = r.length - 1) (hm : m = c - 1) (o' : Nat) (ho : o' = o + 3) :
    Lv b g r.tail (w.setCell ⟨b, 0, none⟩ (.slice (some ⟨g, o', none⟩) n m)) ∧ OffB b w.heap.size w (w.setCell ⟨b, 0, none⟩ (.slice (some ⟨g, o', none⟩) n m)) := by
  subst hn hm ho
  have hlt := h.lt
  have hoff : OffB b w.heap.size w (w.setCell ⟨b, 0, none⟩ (.slice (some ⟨g, o + 3, none⟩) (r.length - 1) (c - 1))) := (OffB.refl b _ w).setb hlt 0 _
  refine ⟨?_, hoff⟩
  obtain ⟨o', c', h1, h2, h3, h4, h5, h6, h7, h8, h9, h10, h11⟩ := h
  rw [(h1.cell 0).trans rfl] at hc
  injection hc with hc
  injection hc with e1 _ e3
  injection e1 with e1
  injection e1 with _ e2 _
  subst e2 e3
  have ht := tail_len h8
  obtain ⟨t, q, rfl⟩ := List.exists_cons_of_ne_nil h8.ne
  have e : tokCells (t :: q) = .int .i64 t.kind :: .string ⟨t.text.toArray⟩ :: .int .i64 (t.line : Int) :: tokCells q := by simp [tokCells]
  have hlen : (t :: q).length = q.length + 1 := rfl
  refine ⟨o' + 3, c' - 1, ?_, h2, by rw [setCell_size]; exact h3, fun j u hu => ?_, by simp at h5 ⊢; omega, by simp at h6 ⊢; omega, fun x hx => h7 x (List.mem_of_mem_tail hx), h8.tail hk, by rw [setCell_size]; exact h9, h10, h11.same (hoff.block h9 h10)⟩
  · have := h1.set 0 (.slice (some ⟨g, o' + 3, none⟩) ((t :: q).length - 1) (c' - 1))
    exact this
  · rw [hoff.cell h3 h2, show o' + 3 + j = o' + (j + 3) by omega]
    exact h4 (j + 3) u (by rw [e]; simpa using hu)
/-! ### how calls end -/
def mis (k : Int) (r : List Tok) : PanicEntry := { v := .iface 51 (.agg #[.int .i64 k, .int .i64 (hdL r : Int)]), recovered := false }
/-- It fails with an error, from such tokens on. -/
def Fails {α : Type} (T : PR α) (k : Int) (r : List Tok) : Prop := (T = .bad r ∧ k = 20) ∨ (T = .deep r ∧ k = 2)
theorem Fails.bind {α β : Type} {x : PR α} {k : Int} {r : List Tok} (h : Fails x k r) (f : α → List Tok → PR β) : Fails (x.bind f) k r := by
  rcases h with ⟨rfl, hk⟩ | ⟨rfl, hk⟩
  · exact .inl ⟨rfl, hk⟩
  · exact .inr ⟨rfl, hk⟩
theorem Fails.go {α β : Type} {x : PR α} {T : PR β} {f : α → List Tok → PR β} {k : Int} {r : List Tok} (h : Fails x k r) (hT : T = x.bind f) : Fails T k r := hT ▸ h.bind f
def Gets (b g : Nat) (w : World) {α : Type} (T : PR α) (F : World → α → Value → Prop) (e : Ending) (w' : World) : Prop :=
  (∃ a r v, T = .ok a r ∧ e = .returned v ∧ Lv b g r w' ∧ OffB b w.heap.size w w' ∧ F w' a v) ∨ (∃ k r, Fails T k r ∧ e = .panicked [mis k r] ∧ OffB b w.heap.size w w')
theorem Gets.ok {b g : Nat} {w w' : World} {α : Type} {T : PR α} {F : World → α → Value → Prop} {a : α} {r : List Tok} {v : Value} (hT : T = .ok a r) (hL : Lv b g r w') (hO : OffB b w.heap.size w w') (hF : F w' a v) : Gets b g w T F (.returned v) w' := .inl ⟨a, r, v, hT, rfl, hL, hO, hF⟩
theorem Gets.no {b g : Nat} {w w' : World} {α : Type} {T : PR α} {F : World → α → Value → Prop} {k : Int} {r : List Tok} (hT : Fails T k r) (hO : OffB b w.heap.size w w') : Gets b g w T F (.panicked [mis k r]) w' := .inr ⟨k, r, hT, rfl, hO⟩
def UnitV (_ : World) (_ : Unit) (v : Value) : Prop := v = .tuple #[]
/-- In the midst of a call whose result has a block. -/
def At (b g : Nat) (w : World) (X : Obj) (r : List Tok) (W : World) : Prop := Lv b g r W ∧ OffB b w.heap.size w W ∧ W.heap[w.heap.size]? = some X ∧ b < w.heap.size ∧ g < w.heap.size ∧ 6 < w.heap.size
section
variable {b g : Nat} {w W W' : World} {X : Obj} {r r' : List Tok}
theorem At.start (h : Lv b g r w) (X : Obj) : At b g w X r (w.alloc X) := ⟨h.alloc X, OffB.of_below ((Below.refl _ _).alloc (Nat.le_refl _) _) h.lt, heap_alloc_new w X, h.lt, h.gne.2.1, h.gne.2.2.1⟩
theorem At.lv (h : At b g w X r W) : Lv b g r W := h.1
theorem At.size (h : At b g w X r W) : w.heap.size < W.heap.size := (Array.getElem?_eq_some_iff.1 h.2.2.1).1
theorem At.lt (h : At b g w X r W) : b < w.heap.size := h.2.2.2.1
theorem At.row (h : At b g w X r W) : W.heap[w.heap.size]? = some X := h.2.2.1
theorem At.off (h : At b g w X r W) (o : OffB b W.heap.size W W') : OffB b w.heap.size w W' := h.2.1.trans (o.mono h.2.1.size)
theorem At.step (h : At b g w X r W) (l : Lv b g r' W') (o : OffB b W.heap.size W W') : At b g w X r' W' := ⟨l, h.off o, own_next o h.size (by have := h.lt; omega) h.row, h.2.2.2⟩
theorem At.below (h : At b g w X r W) (o : Below W.heap.size W W') : At b g w X r W' := h.step (h.lv.below o) (OffB.of_below o h.lv.lt)
theorem At.alloc (h : At b g w X r W) (o : Obj) : At b g w X r (W.alloc o) := h.below ((Below.refl _ _).alloc (Nat.le_refl _) o)
theorem At.drew (h : At b g w X r W) : At b g w X r W.drew := h.below (Below.refl _ _).drew
theorem At.drewN (h : At b g w X r W) (n : Nat) : At b g w X r (W.drewN n) := h.below (below_drewN (Below.refl _ _) n)
/-- Blocks of the call's own may turn. -/
theorem At.own (h : At b g w X r W) (o : OffB b w.heap.size W W') (hb : W'.heap[b]? = W.heap[b]?) : Lv b g r W' ∧ OffB b w.heap.size w W' := by
  have ho := h.2.1.trans o
  refine ⟨?_, ho⟩
  obtain ⟨⟨o', c, h1, h2, h3, h4, h5, h6, h7, h8, h9, h10, h11⟩, _, _, hbl, hgl, hrl⟩ := h
  have hk : ∀ k, k < w.heap.size → k ≠ b → W'.heap[k]? = W.heap[k]? := fun k hk hkb => o.block hk hkb
  have hs := o.size
  exact ⟨o', c, hb.trans h1, h2, by omega, fun j u hu => (World.cell?_of_block (w := W) (hk g hgl h2)).trans (h4 j u hu), h5, h6, h7, h8, by omega, h10, h11.same (hk _ hrl h10)⟩
/-- A store into another block of the call's own. -/
theorem At.set (h : At b g w X r W) {k : Nat} (hk : w.heap.size < k) (i : Nat) (u : Value) : At b g w X r (W.setCell ⟨k, i, none⟩ u) := by
  have ho : OffB b w.heap.size W (W.setCell ⟨k, i, none⟩ u) := (OffB.refl b _ W).setCell h.lv.lt (by omega) i u
  obtain ⟨h1, h2⟩ := h.own ho (Below.heap_setCell W _ u b (by show b ≠ k; have := h.lt; omega))
  exact ⟨h1, h2, (Below.heap_setCell W _ u _ (by show w.heap.size ≠ k; omega)).trans h.row, h.2.2.2⟩
end
/-! ### an expression's own block -/
section
variable {b g : Nat} {w W W' : World} {r r' : List Tok}
theorem At.five (h : At b g w exBox r W) : (W.cell? ⟨w.heap.size, 0, none⟩ = some (.int .i64 0) ∧ W.cell? ⟨w.heap.size, 1, none⟩ = some (.int .i64 0) ∧ W.cell? ⟨w.heap.size, 2, none⟩ = some (.int .i64 0) ∧
    W.cell? ⟨w.heap.size, 3, none⟩ = some (.string ⟨#[]⟩) ∧ W.cell? ⟨w.heap.size, 4, none⟩ = some (.slice none 0 0)) ∧ ∀ o, W.frozen? ⟨w.heap.size, o, none⟩ = false := row_cells5 h.row
theorem At.read (h : At b g w exBox r W) (c0 c1 c2 c3 c4 : Value) : (((((W.setCell ⟨w.heap.size, 0, none⟩ c0).setCell ⟨w.heap.size, 1, none⟩ c1).setCell ⟨w.heap.size, 2, none⟩ c2).setCell ⟨w.heap.size, 3, none⟩ c3).setCell ⟨w.heap.size, 4, none⟩ c4).cell? ⟨w.heap.size, 0, none⟩ = some c0 ∧ (((((W.setCell ⟨w.heap.size, 0, none⟩ c0).setCell ⟨w.heap.size, 1, none⟩ c1).setCell ⟨w.heap.size, 2, none⟩ c2).setCell ⟨w.heap.size, 3, none⟩ c3).setCell ⟨w.heap.size, 4, none⟩ c4).cell? ⟨w.heap.size, 1, none⟩ = some c1 ∧ (((((W.setCell ⟨w.heap.size, 0, none⟩ c0).setCell ⟨w.heap.size, 1, none⟩ c1).setCell ⟨w.heap.size, 2, none⟩ c2).setCell ⟨w.heap.size, 3, none⟩ c3).setCell ⟨w.heap.size, 4, none⟩ c4).cell? ⟨w.heap.size, 2, none⟩ = some c2 ∧ (((((W.setCell ⟨w.heap.size, 0, none⟩ c0).setCell ⟨w.heap.size, 1, none⟩ c1).setCell ⟨w.heap.size, 2, none⟩ c2).setCell ⟨w.heap.size, 3, none⟩ c3).setCell ⟨w.heap.size, 4, none⟩ c4).cell? ⟨w.heap.size, 3, none⟩ = some c3 ∧ (((((W.setCell ⟨w.heap.size, 0, none⟩ c0).setCell ⟨w.heap.size, 1, none⟩ c1).setCell ⟨w.heap.size, 2, none⟩ c2).setCell ⟨w.heap.size, 3, none⟩ c3).setCell ⟨w.heap.size, 4, none⟩ c4).cell? ⟨w.heap.size, 4, none⟩ = some c4 := _root_.Go.Proofs.YtakijoblbmfadaaGreatDoor.five h.row c0 c1 c2 c3 c4
theorem At.writ (h : At b g w exBox r W) (c0 c1 c2 c3 c4 : Value) : Lv b g r (writ W w.heap.size c0 c1 c2 c3 c4) ∧ OffB b w.heap.size w (_root_.Go.Proofs.YtakijoblbmfadaaGreatDoor.writ W w.heap.size c0 c1 c2 c3 c4) := by
  have hne : b ≠ w.heap.size := by have := h.lt; omega
  have hbel : Below w.heap.size W (_root_.Go.Proofs.YtakijoblbmfadaaGreatDoor.writ W w.heap.size c0 c1 c2 c3 c4) := writ_below (Nat.le_refl _) (Below.refl _ _) _ _ _ _ _
  exact h.own (OffB.of_below hbel h.lv.lt) (writ_other hne _ _ _ _ _)
theorem At.fin (h : At b g w exBox r W) {T : PR Ex} {a : Ex} (hT : T = .ok a r) {c0 c1 c2 c3 c4 : Value} (hF : FrE w.heap.size (_root_.Go.Proofs.YtakijoblbmfadaaGreatDoor.writ W w.heap.size c0 c1 c2 c3 c4) a (.agg #[c0, c1, c2, c3, c4])) :
    Gets b g w T (FrE w.heap.size) (.returned (.agg #[c0, c1, c2, c3, c4])) (_root_.Go.Proofs.YtakijoblbmfadaaGreatDoor.writ W w.heap.size c0 c1 c2 c3 c4) := .ok hT (h.writ _ _ _ _ _).1 (h.writ _ _ _ _ _).2 hF
theorem At.reada (h : At b g w exBox r W) (o : Obj) (c0 c1 c2 c3 c4 : Value) : ((((((W.setCell ⟨w.heap.size, 0, none⟩ c0).setCell ⟨w.heap.size, 1, none⟩ c1).setCell ⟨w.heap.size, 2, none⟩ c2).setCell ⟨w.heap.size, 3, none⟩ c3).setCell ⟨w.heap.size, 4, none⟩ c4).alloc o).cell? ⟨w.heap.size, 0, none⟩ = some c0 ∧ ((((((W.setCell ⟨w.heap.size, 0, none⟩ c0).setCell ⟨w.heap.size, 1, none⟩ c1).setCell ⟨w.heap.size, 2, none⟩ c2).setCell ⟨w.heap.size, 3, none⟩ c3).setCell ⟨w.heap.size, 4, none⟩ c4).alloc o).cell? ⟨w.heap.size, 1, none⟩ = some c1 ∧ ((((((W.setCell ⟨w.heap.size, 0, none⟩ c0).setCell ⟨w.heap.size, 1, none⟩ c1).setCell ⟨w.heap.size, 2, none⟩ c2).setCell ⟨w.heap.size, 3, none⟩ c3).setCell ⟨w.heap.size, 4, none⟩ c4).alloc o).cell? ⟨w.heap.size, 2, none⟩ = some c2 ∧ ((((((W.setCell ⟨w.heap.size, 0, none⟩ c0).setCell ⟨w.heap.size, 1, none⟩ c1).setCell ⟨w.heap.size, 2, none⟩ c2).setCell ⟨w.heap.size, 3, none⟩ c3).setCell ⟨w.heap.size, 4, none⟩ c4).alloc o).cell? ⟨w.heap.size, 3, none⟩ = some c3 ∧ ((((((W.setCell ⟨w.heap.size, 0, none⟩ c0).setCell ⟨w.heap.size, 1, none⟩ c1).setCell ⟨w.heap.size, 2, none⟩ c2).setCell ⟨w.heap.size, 3, none⟩ c3).setCell ⟨w.heap.size, 4, none⟩ c4).alloc o).cell? ⟨w.heap.size, 4, none⟩ = some c4 := by
  have h2 := own_more (writ_row h.row c0 c1 c2 c3 c4) o
  exact ⟨(Lib.cell_of_heap h2 0).trans rfl, (Lib.cell_of_heap h2 1).trans rfl, (Lib.cell_of_heap h2 2).trans rfl, (Lib.cell_of_heap h2 3).trans rfl, (Lib.cell_of_heap h2 4).trans rfl⟩
theorem At.fina (h : At b g w exBox r W) {T : PR Ex} {a : Ex} (hT : T = .ok a r) {o : Obj} {c0 c1 c2 c3 c4 : Value} (hF : FrE w.heap.size ((_root_.Go.Proofs.YtakijoblbmfadaaGreatDoor.writ W w.heap.size c0 c1 c2 c3 c4).alloc o) a (.agg #[c0, c1, c2, c3, c4])) :
    Gets b g w T (FrE w.heap.size) (.returned (.agg #[c0, c1, c2, c3, c4])) ((_root_.Go.Proofs.YtakijoblbmfadaaGreatDoor.writ W w.heap.size c0 c1 c2 c3 c4).alloc o) := by
  obtain ⟨h1, h2⟩ := h.writ c0 c1 c2 c3 c4
  have hal : Below (_root_.Go.Proofs.YtakijoblbmfadaaGreatDoor.writ W w.heap.size c0 c1 c2 c3 c4).heap.size (_root_.Go.Proofs.YtakijoblbmfadaaGreatDoor.writ W w.heap.size c0 c1 c2 c3 c4) ((_root_.Go.Proofs.YtakijoblbmfadaaGreatDoor.writ W w.heap.size c0 c1 c2 c3 c4).alloc o) := (Below.refl _ _).alloc (Nat.le_refl _) o
  exact .ok hT (h1.below hal) (h2.trans ((OffB.of_below hal h1.lt).mono h2.size)) hF
end
end Go.Proofs.YtakijoblbmfadaaGreatDoor

/- The developers' parser: its small methods. -/
namespace Go.Proofs.YtakijoblbmfadaaGreatDoor
open Go.RowKit
theorem dahead_any {b g : Nat} {r : List Tok} {w : World} (h : Lv b g r w) (k : Int) (v : Bool) (hv : decide (hdK r = k) = v) :
    Calls Tryz.prog 57 #[.pointer (some ⟨b, 0, none⟩), .int .i64 k] w fun e w' => e = .returned (.bool v) ∧ w' = w := by
  obtain ⟨o, c, t, q, rfl, c0, f0, h2, h3, h4, h5, h6, h7, t0, t1, t2⟩ := h.tok
  have e2 : (t.kind == k) = v := by rw [← hv]; rfl
  have h6i : (0 : Int) < ((t :: q).length : Int) := by omega
  clear h hv
  go_enter Tryz.func57, Tryz.ntmps57
  go_wp2
  go_ret
  exact ⟨rfl, rfl⟩
theorem dsees_any {b g : Nat} {r : List Tok} {w : World} (h : Lv b g r w) (s : ByteArray) (v : Bool) (hv : isS s.data.toList r = v) :
    Calls Tryz.prog 85 #[.pointer (some ⟨b, 0, none⟩), .string s] w fun e w' => e = .returned (.bool v) ∧ w' = w := by
  have H := Lib.hid h
  obtain ⟨o, c, t, q, rfl, c0, f0, h2, h3, h4, h5, h6, h7, t0, t1, t2⟩ := h.tok
  have h6i : (0 : Int) < ((t :: q).length : Int) := by omega
  rw [isS_head, text_eq] at hv
  obtain ⟨T, hT⟩ : ∃ T : ByteArray, T = ⟨t.text.toArray⟩ := ⟨_, rfl⟩
  rw [← hT] at hv t1
  obtain ⟨L, hL⟩ : ∃ L : List Tok, L = t :: q := ⟨_, rfl⟩
  rw [← hL] at H c0 h5 h6 h6i
  clear hT h
  cases hk2 : decide (t.kind = 2) with
  | true =>
    rw [hk2, Bool.true_and] at hv
    have HA := Lib.hid (show decide (hdK L = 2) = true by rw [hL]; exact hk2)
    clear hk2 hL
    go_enter Tryz.func85, Tryz.ntmps85
    go_wp2_with (go_at_call 57; (with_reducible refine (dahead_any H.out 2 true HA.out).mono ?_); rintro e w1 ⟨rfl, rfl⟩)
    go_ret
    exact ⟨rfl, rfl⟩
  | false =>
    rw [hk2, Bool.false_and] at hv
    subst hv
    have HA := Lib.hid (show decide (hdK L = 2) = false by rw [hL]; exact hk2)
    clear hk2 hL
    go_enter Tryz.func85, Tryz.ntmps85
    go_wp2_with (go_at_call 57; (with_reducible refine (dahead_any H.out 2 false HA.out).mono ?_); rintro e w1 ⟨rfl, rfl⟩)
    go_ret
    exact ⟨rfl, rfl⟩
theorem dtake_no {b g : Nat} {r : List Tok} {w : World} (h : Lv b g r w) (s : ByteArray) (hv : isS s.data.toList r = false) :
    Calls Tryz.prog 60 #[.pointer (some ⟨b, 0, none⟩), .string s] w fun e w' => e = .returned (.bool false) ∧ w' = w := by
  have H := Lib.hid h
  have HV := Lib.hid hv
  clear h hv
  go_enter Tryz.func60, Tryz.ntmps60
  go_wp2_with (go_at_call 85; (with_reducible refine (dsees_any H.out s false HV.out).mono ?_); rintro e w1 ⟨rfl, rfl⟩)
  go_ret
  exact ⟨rfl, rfl⟩
theorem dtake_yes {b g : Nat} {r : List Tok} {w : World} (h : Lv b g r w) (s : ByteArray) (hv : isS s.data.toList r = true) :
    Calls Tryz.prog 60 #[.pointer (some ⟨b, 0, none⟩), .string s] w fun e w' => e = .returned (.bool true) ∧ Lv b g r.tail w' ∧ OffB b w.heap.size w w' := by
  have H := Lib.hid h
  have HV := Lib.hid hv
  have hk3 : hdK r ≠ 3 := by rw [(isS_kind hv).1]; decide
  obtain ⟨o, c, t, q, hr, c0, f0, h2, h3, h4, h5, h6, h7, t0, t1, t2⟩ := h.tok
  have HN := Lib.hid (fun n m hn hm o' ho => h.next hk3 c0 n m hn hm o' ho)
  have h6i : (1 : Int) ≤ (r.length : Int) := by omega
  have h5i : (r.length : Int) ≤ c := by omega
  have h8 := (h.ends.tail hk3).pos
  have h9 := tail_len h.ends
  have hc1 : ¬ c = 1 := by omega
  clear h hv hk3 hr h8 h9
  go_enter Tryz.func60, Tryz.ntmps60
  go_wp2_with (go_at_call 85; (with_reducible refine (dsees_any H.out s true HV.out).mono ?_); rintro e w1 ⟨rfl, rfl⟩)
  go_ret
  exact ⟨rfl, HN.out _ _ rfl rfl _ rfl⟩
theorem dfail_any {b g : Nat} {r : List Tok} {w : World} (h : Lv b g r w) (k : Int) :
    Calls Tryz.prog 84 #[.pointer (some ⟨b, 0, none⟩), .int .i64 k] w fun e w' => e = .panicked [mis k r] ∧ OffB b w.heap.size w w' := by
  have hO := OffB.refl b w.heap.size w
  obtain ⟨o, c, t, q, hr, c0, f0, h2, h3, h4, h5, h6, h7, t0, t1, t2⟩ := h.tok
  have h6i : (0 : Int) < (r.length : Int) := by omega
  have HL := Lib.hid (show mis k r = { v := .iface 51 (.agg #[.int .i64 k, .int .i64 (t.line : Int)]), recovered := false } by rw [hr]; rfl)
  have HO := Lib.hid hO
  clear h hr hO
  go_enter Tryz.func84, Tryz.ntmps84
  go_wp2
  exact ⟨rfl, by rw [HL.out], HO.out⟩
theorem dlimit_ok {b g : Nat} {r : List Tok} {w : World} (_h : Lv b g r w) (d : Int) (hd : d ≤ 100) :
    Calls Tryz.prog 119 #[.pointer (some ⟨b, 0, none⟩), .int .i64 d] w fun e w' => e = .returned (.tuple #[]) ∧ w' = w := by
  have hd2 : ¬ 100 < d := by omega
  go_enter Tryz.func119, Tryz.ntmps119
  go_wp2
  go_end0
  exact ⟨rfl, rfl⟩
theorem dlimit_no {b g : Nat} {r : List Tok} {w : World} (h : Lv b g r w) (d : Int) (hd : 100 < d) :
    Calls Tryz.prog 119 #[.pointer (some ⟨b, 0, none⟩), .int .i64 d] w fun e w' => e = .panicked [mis 2 r] ∧ OffB b w.heap.size w w' := by
  have H := Lib.hid h
  clear h
  go_enter Tryz.func119, Tryz.ntmps119
  go_wp2_with (go_at_call 84; (with_reducible refine (dfail_any H.out 2).mono ?_); rintro e w1 ⟨rfl, hO⟩; exact ⟨rfl, rfl, hO⟩)
theorem dwant_yes {b g : Nat} {r : List Tok} {w : World} (h : Lv b g r w) (s : ByteArray) (hv : isS s.data.toList r = true) :
    Calls Tryz.prog 83 #[.pointer (some ⟨b, 0, none⟩), .string s] w fun e w' => e = .returned (.tuple #[]) ∧ Lv b g r.tail w' ∧ OffB b w.heap.size w w' := by
  have H := Lib.hid h
  have HV := Lib.hid hv
  clear h hv
  go_enter Tryz.func83, Tryz.ntmps83
  go_wp2_with (go_at_call 60; (with_reducible refine (dtake_yes H.out s HV.out).mono ?_); rintro e w1 ⟨rfl, hD⟩)
  go_end0
  exact ⟨rfl, hD⟩
theorem dwant_no {b g : Nat} {r : List Tok} {w : World} (h : Lv b g r w) (s : ByteArray) (hv : isS s.data.toList r = false) :
    Calls Tryz.prog 83 #[.pointer (some ⟨b, 0, none⟩), .string s] w fun e w' => e = .panicked [mis 20 r] ∧ OffB b w.heap.size w w' := by
  have H := Lib.hid h
  have HV := Lib.hid hv
  clear h hv
  go_enter Tryz.func83, Tryz.ntmps83
  go_wp2_with (first
    | (go_at_call 60; (with_reducible refine (dtake_no H.out s HV.out).mono ?_); rintro e w1 ⟨rfl, rfl⟩)
    | (go_at_call 84; (with_reducible refine (dfail_any H.out 20).mono ?_); rintro e w1 ⟨rfl, hO⟩; exact ⟨rfl, rfl, hO⟩))
/-- A sign has to stand here. -/
theorem dwant_any {b g : Nat} {r : List Tok} {w : World} (h : Lv b g r w) (s : ByteArray) :
    Calls Tryz.prog 83 #[.pointer (some ⟨b, 0, none⟩), .string s] w (Gets b g w (must s.data.toList r) UnitV) := by
  cases hv : isS s.data.toList r with
  | true => exact (dwant_yes h s hv).mono fun e w' ⟨he, hL, hO⟩ => he ▸ Gets.ok (a := ()) (by unfold must; rw [if_pos hv]) hL hO rfl
  | false => exact (dwant_no h s hv).mono fun e w' ⟨he, hO⟩ => he ▸ Gets.no (.inl ⟨by unfold must; rw [if_neg (by rw [hv]; decide)], rfl⟩) hO
theorem dtext_yes {b g : Nat} {r : List Tok} {w : World} (h : Lv b g r w) (k : Int) (hk3 : k ≠ 3) (hk : hdK r = k) (s : ByteArray) (hs : s = ⟨(hdT r).toArray⟩) :
    Calls Tryz.prog 59 #[.pointer (some ⟨b, 0, none⟩), .int .i64 k] w fun e w' => e = .returned (.string s) ∧ Lv b g r.tail w' ∧ OffB b w.heap.size w w' := by
  have H := Lib.hid h
  have HV := Lib.hid (show decide (hdK r = k) = true from decide_eq_true hk)
  have hk4 : hdK r ≠ 3 := by rw [hk]; exact hk3
  obtain ⟨o, c, t, q, hr, c0, f0, h2, h3, h4, h5, h6, h7, t0, t1, t2⟩ := h.tok
  have HN := Lib.hid (fun n m hn hm o' ho => h.next hk4 c0 n m hn hm o' ho)
  have h6i : (1 : Int) ≤ (r.length : Int) := by omega
  have h6j : (0 : Int) < (r.length : Int) := by omega
  have h5i : (r.length : Int) ≤ c := by omega
  have h8 := (h.ends.tail hk4).pos
  have h9 := tail_len h.ends
  have hc1 : ¬ c = 1 := by omega
  have hs2 : s = ⟨t.text.toArray⟩ := by rw [hs, hr]; rfl
  rw [← hs2] at t1
  clear h hk hk3 hk4 hr h8 h9 hs hs2
  go_enter Tryz.func59, Tryz.ntmps59
  go_wp2_with (go_at_call 57; (with_reducible refine (dahead_any H.out k true HV.out).mono ?_); rintro e w1 ⟨rfl, rfl⟩)
  go_ret
  exact ⟨rfl, HN.out _ _ rfl rfl _ rfl⟩
theorem dtext_no {b g : Nat} {r : List Tok} {w : World} (h : Lv b g r w) (k : Int) (hk : hdK r ≠ k) :
    Calls Tryz.prog 59 #[.pointer (some ⟨b, 0, none⟩), .int .i64 k] w fun e w' => e = .panicked [mis 20 r] ∧ OffB b w.heap.size w w' := by
  have H := Lib.hid h
  have HV := Lib.hid (show decide (hdK r = k) = false from decide_eq_false hk)
  clear h hk
  go_enter Tryz.func59, Tryz.ntmps59
  go_wp2_with (first
    | (go_at_call 57; (with_reducible refine (dahead_any H.out k false HV.out).mono ?_); rintro e w1 ⟨rfl, rfl⟩)
    | (go_at_call 84; (with_reducible refine (dfail_any H.out 20).mono ?_); rintro e w1 ⟨rfl, hO⟩; exact ⟨rfl, rfl, hO⟩))
/-- A token of a kind has to stand here. -/
theorem dtext_any {b g : Nat} {r : List Tok} {w : World} (h : Lv b g r w) (k : Int) (hk3 : k ≠ 3) :
    Calls Tryz.prog 59 #[.pointer (some ⟨b, 0, none⟩), .int .i64 k] w (Gets b g w (want k r) StrV) := by
  by_cases hk : hdK r = k
  · exact (dtext_yes h k hk3 hk _ rfl).mono fun e w' ⟨he, hL, hO⟩ => he ▸ Gets.ok (by unfold want; rw [if_pos hk]) hL hO rfl
  · exact (dtext_no h k hk).mono fun e w' ⟨he, hO⟩ => he ▸ Gets.no (.inl ⟨by unfold want; rw [if_neg hk], rfl⟩) hO
theorem sInt_eq : sInt = (⟨#[105, 110, 116]⟩ : ByteArray).data.toList := rfl
theorem dkind_bool {b g : Nat} {r : List Tok} {w : World} (h : Lv b g r w) (hv : isS sBool r = true) :
    Calls Tryz.prog 58 #[.pointer (some ⟨b, 0, none⟩)] w (Gets b g w (pTy r) IntV) := by
  have H := Lib.hid h
  have HV := Lib.hid (show isS (⟨#[98, 111, 111, 108]⟩ : ByteArray).data.toList r = true from hv)
  have HT := Lib.hid (show pTy r = .ok 2 r.tail by
    have h1 : isS sInt r = false := by
      cases h2 : isS sInt r with
      | false => rfl
      | true => have h3 := (isS_kind hv).2; rw [(isS_kind h2).2] at h3; cases h3
    unfold pTy must
    rw [if_neg (by rw [h1]; decide), if_pos hv]
    rfl)
  clear h hv
  go_enter Tryz.func58, Tryz.ntmps58
  go_wp2_with (go_at_call 60; (with_reducible refine (dtake_yes H.out _ HV.out).mono ?_); rintro e w1 ⟨rfl, hL, hO⟩)
  go_ret
  exact Gets.ok HT.out hL hO rfl
theorem dkind_int {b g : Nat} {r : List Tok} {w : World} (h : Lv b g r w) (hv : isS sBool r = false) :
    Calls Tryz.prog 58 #[.pointer (some ⟨b, 0, none⟩)] w (Gets b g w (pTy r) IntV) := by
  have H := Lib.hid h
  have HV := Lib.hid (show isS (⟨#[98, 111, 111, 108]⟩ : ByteArray).data.toList r = false from hv)
  have HT := Lib.hid (show pTy r = (must sInt r).bind fun _ r => .ok 1 r by
    unfold pTy must
    cases h1 : isS sInt r with
    | true => rfl
    | false =>
      rw [hv]
      rfl)
  clear h hv
  go_enter Tryz.func58, Tryz.ntmps58
  go_wp2_with (first
    | (go_at_call 60; (with_reducible refine (dtake_no H.out _ HV.out).mono ?_); rintro e w1 ⟨rfl, rfl⟩)
    | (go_at_call 83; (with_reducible refine (dwant_any H.out ⟨#[105, 110, 116]⟩).mono ?_); rintro e w2 (⟨a, r2, v, hx, rfl, hL, hO, rfl⟩ | ⟨k, r2, hx, rfl, hO⟩); rotate_left; exact ⟨rfl, Gets.no (hx.go HT.out) hO⟩))
  go_ret
  exact Gets.ok (by rw [HT.out, sInt_eq, hx]; rfl) hL hO rfl
theorem dkind_any {b g : Nat} {r : List Tok} {w : World} (h : Lv b g r w) :
    Calls Tryz.prog 58 #[.pointer (some ⟨b, 0, none⟩)] w (Gets b g w (pTy r) IntV) := by
  cases hv : isS sBool r with
  | true => exact dkind_bool h hv
  | false => exact dkind_int h hv
end Go.Proofs.YtakijoblbmfadaaGreatDoor
