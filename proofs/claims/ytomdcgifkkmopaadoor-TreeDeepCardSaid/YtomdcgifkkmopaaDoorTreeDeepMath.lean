/- Expressions and statements that stand in one another, deeply: as plain trees, the length of their texts, and how they come to lie in memory. -/
import Derived.Test.YtomdcgifkkmopaaDoorTreeParts
import Derived.Lib.BufferMore
namespace Go.Proofs.YtomdcgifkkmopaaDoor
open Go.RowKit
def num0 : Ex := .mk 1 0 0 ⟨#[]⟩ []
def negs : Nat → Ex
  | 0 => num0
  | i + 1 => .mk 4 20 0 ⟨#[]⟩ [negs i]
def subs : Nat → Ex
  | 0 => num0
  | i + 1 => .mk 5 2 0 ⟨#[]⟩ [num0, subs i]
def whiles : Nat → List St
  | 0 => []
  | i + 1 => [.mk 5 0 ⟨#[]⟩ [num0] (whiles i) []]
def elses : Nat → List St
  | 0 => []
  | i + 1 => [.mk 4 0 ⟨#[]⟩ [num0] [] (elses i)]
def gives (e : Ex) : List St := [.mk 8 0 ⟨#[]⟩ [e] [] []]
/-- The program whose one function has such a body. -/
def oneF (l : List St) : Pr := ⟨[], [⟨⟨#[102]⟩, 1, [], l⟩]⟩
theorem itoa0 : Lib.itoa 0 = [48] := by decide +kernel
theorem exT_num0 : exT num0 = [48] := by
  unfold num0
  rw [exT_mk]
  simp [nodeT, itoa0]
theorem sgn20 : (sgnOf 20).data.toList = [45] := by decide +kernel
theorem sgn2 : (sgnOf 2).data.toList = [45] := by decide +kernel
theorem parT_len (lev : Int) (c : Int × Int × List UInt8) : (parT lev c).length ≤ c.2.2.length + 2 := by
  unfold parT
  split <;> simp
theorem negs_len (i : Nat) : (exT (negs i)).length ≤ 3 * i + 1 := by
  induction i with
  | zero => unfold negs; rw [exT_num0]; simp
  | succ i ih =>
    unfold negs
    rw [exT_mk, exTs_map]
    have h := parT_len 11 (kid ([negs i].map fun e => (e.kind, e.op, exT e)) 0)
    have h2 : (kid ([negs i].map fun e => (e.kind, e.op, exT e)) 0).2.2 = exT (negs i) := rfl
    rw [h2] at h
    unfold nodeT
    simp only [if_true, if_false, Int.reduceEq, Int.reduceLE, List.length_append, sgn20, List.length_cons, List.length_nil]
    omega
theorem subs_len (i : Nat) : (exT (subs i)).length ≤ 10 * i + 1 := by
  induction i with
  | zero => unfold subs; rw [exT_num0]; simp
  | succ i ih =>
    unfold subs
    rw [exT_mk, exTs_map]
    have h := parT_len (lvlOf 2 + 1) (kid ([num0, subs i].map fun e => (e.kind, e.op, exT e)) 1)
    have h2 : (kid ([num0, subs i].map fun e => (e.kind, e.op, exT e)) 1).2.2 = exT (subs i) := rfl
    rw [h2] at h
    have k := parT_len (lvlOf 2) (kid ([num0, subs i].map fun e => (e.kind, e.op, exT e)) 0)
    have k2 : (kid ([num0, subs i].map fun e => (e.kind, e.op, exT e)) 0).2.2 = exT num0 := rfl
    rw [k2, exT_num0] at k
    unfold nodeT
    simp only [if_true, if_false, Int.reduceEq, Int.reduceLE, List.length_append, sgn2, List.length_cons, List.length_nil] at k ⊢
    omega
theorem tabT_len (t : Nat) : (tabT t).length = t := by simp [tabT]
theorem argT_num0 : argT [num0] 0 = [48] := by rw [argT_at (e := num0) rfl, exT_num0]
theorem whiles_len (i : Nat) : ∀ t, t + i ≤ 300 → (stsT (whiles i) t).length ≤ 1000 * i := by
  induction i with
  | zero => intro t _; unfold whiles; rw [stsT_nil]; simp
  | succ i ih =>
    intro t ht
    unfold whiles
    rw [stsT_cons, stsT_nil, stT_mk, List.append_nil]
    have h := ih (t + 1) (by omega)
    simp only [headT, if_true, if_false, Int.reduceEq, List.length_append, List.length_cons, List.length_nil, tabT_len, argT_num0]
    omega
theorem elses_len (i : Nat) : ∀ t, t + i ≤ 300 → (stsT (elses i) t).length ≤ 1000 * i := by
  induction i with
  | zero => intro t _; unfold elses; rw [stsT_nil]; simp
  | succ i ih =>
    intro t ht
    unfold elses
    rw [stsT_cons, stsT_nil, stT_mk, List.append_nil]
    have h := ih (t + 1) (by omega)
    simp only [headT, if_true, if_false, Int.reduceEq, List.length_append, List.length_cons, List.length_nil, tabT_len, argT_num0, stsT_nil]
    split <;> simp only [List.length_append, List.length_cons, List.length_nil, tabT_len] <;> omega
theorem gives_len (e : Ex) : (stsT (gives e) 1).length ≤ (exT e).length + 100 := by
  unfold gives
  rw [stsT_cons, stsT_nil, stT_mk, List.append_nil]
  simp only [headT, if_true, if_false, Int.reduceEq, List.length_append, List.length_cons, List.length_nil, tabT_len, argT_at (l := [e]) (i := 0) (e := e) rfl]
  simp
  omega
theorem oneF_len (l : List St) (h : (stsT l 1).length ≤ 1000000) : (prT (oneF l)).length ≤ 1099511627776 := by
  have e : prT (oneF l) = fuT ⟨⟨#[102]⟩, 1, [], l⟩ := by simp [prT, oneF]
  rw [e]
  simp [fuT, tyT, joinC]
  omega
/-! ### in memory -/
theorem slE_nil (B : Nat) (w : World) : SlE B w (.slice none 0 0) [] := ⟨none, 0, rfl, Nat.zero_le _, fun h => absurd h (by simp)⟩
theorem slS_nil (B : Nat) (w : World) : SlS B w (.slice none 0 0) [] := ⟨none, 0, rfl, Nat.zero_le _, fun h => absurd h (by simp)⟩
theorem slP_nil (B : Nat) (w : World) : SlP B w (.slice none 0 0) [] := ⟨none, 0, rfl, Nat.zero_le _, fun h => absurd h (by simp)⟩
theorem slA_nil (B : Nat) (w : World) : SlA B w (.slice none 0 0) [] := ⟨none, 0, rfl, Nat.zero_le _, fun h => absurd h (by simp)⟩
theorem exV_num0 (B : Nat) (w : World) : ExV B w num0 (.agg #[.int .i64 1, .int .i64 0, .int .i64 0, .string ⟨#[]⟩, .slice none 0 0]) := ⟨_, rfl, by constructor <;> decide, slE_nil B w⟩
theorem cellB_of {w : World} {b : Nat} {cs : Array Value} {T : TypeId} {fr : Nat × Nat} {B : Nat} (hb : w.heap[b]? = some (.cells cs T fr)) (hB : b < B) (j : Nat) (u : Value) (hu : cs[j]? = some u) : CellB B w b j u := ⟨hB, (Lib.cell_of_heap hb j).trans hu⟩
theorem rdE_at {w : World} {b B : Nat} {cs : Array Value} {T : TypeId} {fr : Nat × Nat} (hb : w.heap[b]? = some (.cells cs T fr)) (hB : b < B) (o : Nat) {k op n : Int} {name : ByteArray} {args : List Ex} {v : Value} (hn : i64R n) (hs : SlE B w v args)
    (h0 : cs[o]? = some (.int .i64 k)) (h1 : cs[o + 1]? = some (.int .i64 op)) (h2 : cs[o + 2]? = some (.int .i64 n)) (h3 : cs[o + 3]? = some (.string name)) (h4 : cs[o + 4]? = some v) : RdE B w (.mk k op n name args) b o := by
  rw [RdE]
  exact ⟨cellB_of hb hB _ _ h0, cellB_of hb hB _ _ h1, cellB_of hb hB _ _ h2, cellB_of hb hB _ _ h3, hn, v, cellB_of hb hB _ _ h4, hs⟩
/-- A slice of one expression, that lies in a row. -/
theorem slE_at1 {w : World} {b B : Nat} {k op n : Int} {name : ByteArray} {args : List Ex} {v : Value} {T : TypeId} {fr : Nat × Nat} (hb : w.heap[b]? = some (.cells #[.int .i64 k, .int .i64 op, .int .i64 n, .string name, v] T fr)) (hB : b < B) (hn : i64R n) (hs : SlE B w v args) :
    SlE B w (.slice (some ⟨b, 0, none⟩) 1 1) [.mk k op n name args] := by
  refine ⟨_, 1, rfl, by simp, fun _ => ⟨b, 0, rfl, ?_⟩⟩
  rw [RdEs, RdEs]
  exact ⟨rdE_at hb hB 0 hn hs rfl rfl rfl rfl rfl, trivial⟩
/-- A slice of two. -/
theorem slE_at2 {w : World} {b B : Nat} {k op n k' op' n' : Int} {name name' : ByteArray} {args args' : List Ex} {v v' : Value} {T : TypeId} {fr : Nat × Nat}
    (hb : w.heap[b]? = some (.cells #[.int .i64 k, .int .i64 op, .int .i64 n, .string name, v, .int .i64 k', .int .i64 op', .int .i64 n', .string name', v'] T fr)) (hB : b < B) (hn : i64R n) (hs : SlE B w v args) (hn' : i64R n') (hs' : SlE B w v' args') :
    SlE B w (.slice (some ⟨b, 0, none⟩) 2 2) [.mk k op n name args, .mk k' op' n' name' args'] := by
  refine ⟨_, 2, rfl, by simp, fun _ => ⟨b, 0, rfl, ?_⟩⟩
  rw [RdEs, RdEs, RdEs]
  exact ⟨rdE_at hb hB 0 hn hs rfl rfl rfl rfl rfl, rdE_at hb hB 5 hn' hs' rfl rfl rfl rfl rfl, trivial⟩
/-- A slice of one statement. -/
theorem slS_at {w : World} {b B : Nat} {k ty : Int} {name : ByteArray} {args : List Ex} {thn els : List St} {v3 v4 v5 : Value} {T : TypeId} {fr : Nat × Nat} (hb : w.heap[b]? = some (.cells #[.int .i64 k, .int .i64 ty, .string name, v3, v4, v5] T fr)) (hB : b < B) (h3 : SlE B w v3 args) (h4 : SlS B w v4 thn) (h5 : SlS B w v5 els) :
    SlS B w (.slice (some ⟨b, 0, none⟩) 1 1) [.mk k ty name args thn els] := by
  refine ⟨_, 1, rfl, by simp, fun _ => ⟨b, 0, rfl, ?_⟩⟩
  rw [RdSs, RdSs, RdS]
  exact ⟨⟨cellB_of hb hB _ _ rfl, cellB_of hb hB _ _ rfl, cellB_of hb hB _ _ rfl, ⟨v3, cellB_of hb hB _ _ rfl, h3⟩, ⟨v4, cellB_of hb hB _ _ rfl, h4⟩, ⟨v5, cellB_of hb hB _ _ rfl, h5⟩⟩, trivial⟩
/-- A slice of one function without parameters. -/
theorem slF_at {w : World} {b B : Nat} {ty : Int} {name : ByteArray} {body : List St} {v : Value} {T : TypeId} {fr : Nat × Nat} (hb : w.heap[b]? = some (.cells #[.string name, .int .i64 ty, .slice none 0 0, v] T fr)) (hB : b < B) (h : SlS B w v body) :
    SlF B w (.slice (some ⟨b, 0, none⟩) 1 1) [⟨name, ty, [], body⟩] := by
  refine ⟨_, 1, rfl, by simp, fun _ => ⟨b, 0, rfl, ?_⟩⟩
  exact ⟨⟨cellB_of hb hB _ _ rfl, cellB_of hb hB _ _ rfl, ⟨_, cellB_of hb hB _ _ rfl, slP_nil _ _⟩, ⟨v, cellB_of hb hB _ _ rfl, h⟩⟩, trivial⟩
/-- Rows that are made one after the other. -/
def rowed (w : World) : List Obj → World
  | [] => w
  | o :: r => rowed (w.alloc o) r
theorem alloc_size (w : World) (o : Obj) : (w.alloc o).heap.size = w.heap.size + 1 := by simp
theorem rowed_size : ∀ (l : List Obj) (w : World), (rowed w l).heap.size = w.heap.size + l.length
  | [], w => rfl
  | o :: r, w => by rw [rowed, rowed_size r, alloc_size, List.length_cons]; omega
theorem rowed_below {B : Nat} : ∀ (l : List Obj) {a w : World}, Below B a w → B ≤ w.heap.size → Below B a (rowed w l)
  | [], _, _, h, _ => h
  | o :: r, a, w, h, hB => rowed_below r (h.alloc hB o) (by rw [alloc_size]; omega)
theorem rowed_old : ∀ (l : List Obj) (w : World) (k : Nat), k < w.heap.size → (rowed w l).heap[k]? = w.heap[k]?
  | [], _, _, _ => rfl
  | o :: r, w, k, h => by rw [rowed, rowed_old r _ k (by rw [alloc_size]; omega), Below.heap_alloc w o k h]
theorem rowed_at : ∀ (l : List Obj) (w : World) (i : Nat) (o : Obj), l[i]? = some o → (rowed w l).heap[w.heap.size + i]? = some o
  | [], _, _, _, h => by simp at h
  | a :: r, w, 0, o, h => by
    simp at h
    subst h
    rw [rowed, Nat.add_zero, rowed_old r _ _ (by rw [alloc_size]; omega)]
    exact heap_alloc_new w a
  | a :: r, w, i + 1, o, h => by
    have := rowed_at r (w.alloc a) i o (by simpa using h)
    rw [alloc_size] at this
    rw [rowed, show w.heap.size + (i + 1) = w.heap.size + 1 + i by omega]
    exact this
/-- What is left alone but for one block. -/
def Kept (b : Nat) (w w' : World) : Prop := w.heap.size ≤ w'.heap.size ∧ ∀ g, g < w.heap.size → g ≠ b → w'.heap[g]? = w.heap[g]?
theorem Kept.refl (b : Nat) (w : World) : Kept b w w := ⟨Nat.le_refl _, fun _ _ _ => rfl⟩
theorem Kept.trans {b : Nat} {w w' w2 : World} (h : Kept b w w') (k : Kept b w' w2) : Kept b w w2 := ⟨Nat.le_trans h.1 k.1, fun g hg hn => (k.2 g (Nat.lt_of_lt_of_le hg h.1) hn).trans (h.2 g hg hn)⟩
theorem Kept.alloc (b : Nat) (w : World) (o : Obj) : Kept b w (w.alloc o) := ⟨by rw [alloc_size]; omega, fun g hg _ => Below.heap_alloc w o g hg⟩
theorem setCell_size (w : World) (a : Addr) (u : Value) : (w.setCell a u).heap.size = w.heap.size := by simp
theorem Kept.set (b j : Nat) (w : World) (u : Value) : Kept b w (w.setCell ⟨b, j, none⟩ u) := ⟨by rw [setCell_size]; omega, fun g hg hn => Below.heap_setCell w _ u g hn⟩
/-- An expression's cells are written anew. -/
def writ (w : World) (b : Nat) (c0 c1 c2 c3 c4 : Value) : World := ((((w.setCell ⟨b, 0, none⟩ c0).setCell ⟨b, 1, none⟩ c1).setCell ⟨b, 2, none⟩ c2).setCell ⟨b, 3, none⟩ c3).setCell ⟨b, 4, none⟩ c4
theorem writ_kept (w : World) (b : Nat) (c0 c1 c2 c3 c4 : Value) : Kept b w (writ w b c0 c1 c2 c3 c4) := ((((Kept.set b 0 w c0).trans (Kept.set b 1 _ c1)).trans (Kept.set b 2 _ c2)).trans (Kept.set b 3 _ c3)).trans (Kept.set b 4 _ c4)
theorem writ_size (w : World) (b : Nat) (c0 c1 c2 c3 c4 : Value) : (writ w b c0 c1 c2 c3 c4).heap.size = w.heap.size := by simp [writ]
theorem writ_row {w : World} {b : Nat} {d0 d1 d2 d3 d4 : Value} {T : TypeId} {fr : Nat × Nat} (hb : w.heap[b]? = some (.cells #[d0, d1, d2, d3, d4] T fr)) (c0 c1 c2 c3 c4 : Value) : (writ w b c0 c1 c2 c3 c4).heap[b]? = some (.cells #[c0, c1, c2, c3, c4] T fr) :=
  Lib.heap_setCell_same (Lib.heap_setCell_same (Lib.heap_setCell_same (Lib.heap_setCell_same (Lib.heap_setCell_same hb c0) c1) c2) c3) c4
theorem writ_below {B b : Nat} (hB : B ≤ b) {a w : World} (h : Below B a w) (c0 c1 c2 c3 c4 : Value) : Below B a (writ w b c0 c1 c2 c3 c4) :=
  ((((h.setCell (p := ⟨b, 0, none⟩) hB c0).setCell (p := ⟨b, 1, none⟩) hB c1).setCell (p := ⟨b, 2, none⟩) hB c2).setCell (p := ⟨b, 3, none⟩) hB c3).setCell (p := ⟨b, 4, none⟩) hB c4
end Go.Proofs.YtomdcgifkkmopaaDoor
