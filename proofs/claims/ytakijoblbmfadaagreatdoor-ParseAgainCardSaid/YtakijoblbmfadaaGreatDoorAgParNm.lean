import Derived.Test.YtakijoblbmfadaaGreatDoorAgParEx
import Derived.Deep.RegionHeld3
set_option linter.unusedSimpArgs false
set_option linter.unusedVariables false
/- The document's parser: statements that begin with a name. -/
namespace Go.Proofs.YtakijoblbmfadaaGreatDoor
open Go.RowKit
theorem frEs_one_leaf {L : Nat} {W : World} {g : Nat} {k o n : Int} {s : ByteArray} {es : List Ex} {u : Value} {T : TypeId} (h : FrEs L W es u) (hn : i64R n) (hW : L ≤ W.heap.size) (hg : g = W.heap.size) :
    FrEs L (W.alloc (.cells #[.int .i64 k, .int .i64 o, .int .i64 n, .string s, u] T)) [.mk k o n s es] (.slice (some ⟨g, 0, none⟩) 1 1) :=
  fr_one (L := L) (show FrE L W (.mk k o n s es) _ from ⟨u, rfl, hn, h⟩) (Nat.le_refl _) hW hg
theorem r64 : i64R 0 := ⟨by decide, by decide⟩
theorem CurS.drew {b : Nat} {V : Value} {all : List Tok} {w W : World} {x : PR Unit} (h : CurS b V all w x W) : CurS b V all w x W.drew := h.step ⟨h.st.below (Below.refl _ _).drew, OffB.of_below (Below.refl _ _).drew h.st.lt⟩
/-- A slice of two, in a new row. -/
theorem fr_two {L M g : Nat} {W : World} {e e2 : Ex} {k op n k' op' n' : Int} {s s' : ByteArray} {u u' : Value} {T : TypeId} (h : FrE L W e (.agg #[.int .i64 k, .int .i64 op, .int .i64 n, .string s, u])) (h2 : FrE L W e2 (.agg #[.int .i64 k', .int .i64 op', .int .i64 n', .string s', u'])) (hM : M ≤ L) (hW : M ≤ W.heap.size) (hg : g = W.heap.size) :
    FrEs M (W.alloc (.cells #[.int .i64 k, .int .i64 op, .int .i64 n, .string s, u, .int .i64 k', .int .i64 op', .int .i64 n', .string s', u'] T)) [e, e2] (.slice (some ⟨g, 0, none⟩) 2 2) := by
  subst hg
  have hk := Keep.of_below (L := L) ((Below.refl W.heap.size W).alloc (Nat.le_refl _) (.cells #[.int .i64 k, .int .i64 op, .int .i64 n, .string s, u, .int .i64 k', .int .i64 op', .int .i64 n', .string s', u'] T))
  obtain ⟨args, rfl, hn, hs⟩ := exV_at (h.keep hk hM)
  obtain ⟨args2, rfl, hn2, hs2⟩ := exV_at (h2.keep hk hM)
  exact slE_at2 (w := mask (low M) _) (b := W.heap.size) ((mask_in (low_no.2 hW)).trans (heap_alloc_new W _)) (by simp) hn hs hn2 hs2
end Go.Proofs.YtakijoblbmfadaaGreatDoor

/- The document's parser: statements. (By tools/gen_parst.py.) -/
namespace Go.Proofs.YtakijoblbmfadaaGreatDoor
open Go.RowKit
/-- The contract of blocks. -/
def CB (b : Nat) (V : Value) (all : List Tok) (n : Nat) (d : Int) : Prop := ∀ (w : World) (x : PR Unit), StP b V all x w → Ends (x.bind fun _ r => pB n d r) →
  Calls Tryz.prog 72 #[.pointer (some ⟨b, 0, none⟩), .int .i64 d] w (Gave b V all w (x.bind fun _ r => pB n d r) (FrSs w.heap.size))
theorem CB.call {b : Nat} {V : Value} {all : List Tok} {n : Nat} {d : Int} (h : CB b V all n d) {w : World} {x : PR Unit} (hs : StP b V all x w) (he : Ends (x.bind fun _ r => pB n d r)) :
  Calls Tryz.prog 72 #[.pointer (some ⟨b, 0, none⟩), .int .i64 d] w (Gave b V all w (x.bind fun _ r => pB n d r) (FrSs w.heap.size)) := h w x hs he
/-- In the midst of stmt: its result's block, and its own statement's. -/
def Mid (b : Nat) (V : Value) (all : List Tok) (w : World) (x : PR Unit) (W : World) (c0 c1 c2 c3 c4 c5 : Value) : Prop := CurS b V all w x W ∧ W.heap[w.heap.size + 1]? = some (.cells #[c0, c1, c2, c3, c4, c5] 78 (0, 0))
section
variable {b : Nat} {V : Value} {all : List Tok} {w W W' : World} {x y : PR Unit} {c0 c1 c2 c3 c4 c5 : Value}
theorem Mid.start (h : StP b V all x w) : Mid b V all w x ((w.alloc stBox).alloc stBox) (.int .i64 0) (.int .i64 0) (.string ⟨#[]⟩) (.slice none 0 0) (.slice none 0 0) (.slice none 0 0) :=
  ⟨(CurS.start h).alloc stBox, by have := heap_alloc_new (w.alloc stBox) stBox; rw [alloc_size] at this; exact this⟩
theorem Mid.st (h : Mid b V all w x W c0 c1 c2 c3 c4 c5) : StP b V all x W := h.1.st
theorem Mid.size (h : Mid b V all w x W c0 c1 c2 c3 c4 c5) : w.heap.size + 1 < W.heap.size := (Array.getElem?_eq_some_iff.1 h.2).1
theorem Mid.ne (h : Mid b V all w x W c0 c1 c2 c3 c4 c5) : w.heap.size + 1 ≠ b := by have := h.1.lt; omega
theorem Mid.lt (h : Mid b V all w x W c0 c1 c2 c3 c4 c5) : b < w.heap.size := h.1.lt
theorem Mid.step (h : Mid b V all w x W c0 c1 c2 c3 c4 c5) (g : Did b V all W y W') : Mid b V all w y W' c0 c1 c2 c3 c4 c5 := ⟨h.1.step g, own_next g.off h.size h.ne h.2⟩
theorem Mid.alloc (h : Mid b V all w x W c0 c1 c2 c3 c4 c5) (o : Obj) : Mid b V all w x (W.alloc o) c0 c1 c2 c3 c4 c5 := ⟨h.1.alloc o, own_more h.2 o⟩
theorem Mid.own (h : Mid b V all w x W c0 c1 c2 c3 c4 c5) : (W.cell? ⟨w.heap.size, 0, none⟩ = some (.int .i64 0) ∧ W.cell? ⟨w.heap.size, 1, none⟩ = some (.int .i64 0) ∧ W.cell? ⟨w.heap.size, 2, none⟩ = some (.string ⟨#[]⟩) ∧
    W.cell? ⟨w.heap.size, 3, none⟩ = some (.slice none 0 0) ∧ W.cell? ⟨w.heap.size, 4, none⟩ = some (.slice none 0 0) ∧ W.cell? ⟨w.heap.size, 5, none⟩ = some (.slice none 0 0)) ∧ ∀ o, W.frozen? ⟨w.heap.size, o, none⟩ = false := h.1.own
theorem Mid.s (h : Mid b V all w x W c0 c1 c2 c3 c4 c5) : (W.cell? ⟨w.heap.size + 1, 0, none⟩ = some c0 ∧ W.cell? ⟨w.heap.size + 1, 1, none⟩ = some c1 ∧ W.cell? ⟨w.heap.size + 1, 2, none⟩ = some c2 ∧ W.cell? ⟨w.heap.size + 1, 3, none⟩ = some c3 ∧ W.cell? ⟨w.heap.size + 1, 4, none⟩ = some c4 ∧ W.cell? ⟨w.heap.size + 1, 5, none⟩ = some c5) ∧ ∀ o, W.frozen? ⟨w.heap.size + 1, o, none⟩ = false := six_cells h.2
theorem Mid.set0 (h : Mid b V all w x W c0 c1 c2 c3 c4 c5) (u : Value) : Mid b V all w x (W.setCell ⟨w.heap.size + 1, 0, none⟩ u) u c1 c2 c3 c4 c5 := ⟨h.1.set (by omega) 0 u, Lib.heap_setCell_same h.2 u⟩
theorem Mid.set1 (h : Mid b V all w x W c0 c1 c2 c3 c4 c5) (u : Value) : Mid b V all w x (W.setCell ⟨w.heap.size + 1, 1, none⟩ u) c0 u c2 c3 c4 c5 := ⟨h.1.set (by omega) 1 u, Lib.heap_setCell_same h.2 u⟩
theorem Mid.fin (h : Mid b V all w y W c0 c1 c2 c3 c4 c5) {X : PR St} (hy : X.un = y) (hG : Got X fun a => FrS w.heap.size (nest6 W w.heap.size c0 c1 c2 c3 c4 c5) a (.agg #[c0, c1, c2, c3, c4, c5])) :
    Gave b V all w X (FrS w.heap.size) (.returned (.agg #[c0, c1, c2, c3, c4, c5])) (nest6 W w.heap.size c0 c1 c2 c3 c4 c5) := h.1.fin hy hG
end
end Go.Proofs.YtakijoblbmfadaaGreatDoor
