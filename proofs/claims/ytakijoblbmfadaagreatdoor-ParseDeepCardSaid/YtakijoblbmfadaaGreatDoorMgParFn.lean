import Derived.Test.YtakijoblbmfadaaGreatDoorMgParBlk
import Derived.Deep.RegionHeld3
set_option linter.unusedSimpArgs false
set_option linter.unusedVariables false
/- The document's parser: a function behind its name. (By tools/gen_parfn.py.) -/
namespace Go.Proofs.YtakijoblbmfadaaGreatDoor
open Go.RowKit
/-- Parameters in new blocks; a function's value. -/
def FrPs (L : Nat) (w : World) (a : List Pa) (v : Value) : Prop := SlP w.heap.size (mask (low L) w) v a
theorem FrPs.keep {L M : Nat} {w w' : World} {a : List Pa} {v : Value} (h : FrPs L w a v) (k : Keep L w w') (hM : M ≤ L) : FrPs M w' a v := SlP.imp (k.cells hM) h
theorem FrPs.form {L : Nat} {w : World} {a : List Pa} {v : Value} (h : FrPs L w a v) : ∃ A c, v = .slice A a.length c := by
  obtain ⟨A, c, hv, _⟩ := SlP.form h
  exact ⟨A, c, hv⟩
def FrF (L : Nat) (w : World) (a : Fu) (v : Value) : Prop := ∃ v2 v3, v = .agg #[.string a.name, .int .i64 a.type, v2, v3] ∧ FrPs L w a.params v2 ∧ FrSs L w a.body v3
theorem FrF.keep {L M : Nat} {w w' : World} {a : Fu} {v : Value} (h : FrF L w a v) (k : Keep L w w') (hM : M ≤ L) : FrF M w' a v := by
  obtain ⟨v2, v3, hv, h2, h3⟩ := h
  exact ⟨v2, v3, hv, h2.keep k hM, h3.keep k hM⟩
theorem FrF.form {L : Nat} {w : World} {a : Fu} {v : Value} (h : FrF L w a v) : ∃ s t A2 m2 c2 A3 m3 c3, v = .agg #[.string s, .int .i64 t, .slice A2 m2 c2, .slice A3 m3 c3] := by
  obtain ⟨v2, v3, hv, h2, h3⟩ := h
  obtain ⟨A2, c2, rfl⟩ := h2.form
  obtain ⟨A3, c3, rfl, _⟩ := h3.form
  exact ⟨_, _, _, _, _, _, _, _, hv⟩
theorem gotf_form {L : Nat} {w : World} {x : PR Fu} {v : Value} (h : Got x fun a => FrF L w a v) (he : Ends x) : ∃ s t A2 m2 c2 A3 m3 c3, v = .agg #[.string s, .int .i64 t, .slice A2 m2 c2, .slice A3 m3 c3] := by
  obtain ⟨a, ha⟩ := h.some he
  exact ha.form
abbrev fnBox : Obj := .cells #[.string ⟨#[]⟩, .int .i64 0, .slice none 0 0, .slice none 0 0] 46
abbrev nest4 (W : World) (g : Nat) (c0 c1 c2 c3 : Value) : World := (((W.setCell ⟨g, 0, none⟩ c0).setCell ⟨g, 1, none⟩ c1).setCell ⟨g, 2, none⟩ c2).setCell ⟨g, 3, none⟩ c3
theorem nest4_size (W : World) (g : Nat) (c0 c1 c2 c3 : Value) : (nest4 W g c0 c1 c2 c3).heap.size = W.heap.size := by simp [nest4]
theorem nest4_row {W : World} {g : Nat} {d0 d1 d2 d3 : Value} {T : TypeId} {fr : Nat × Nat} (hb : W.heap[g]? = some (.cells #[d0, d1, d2, d3] T fr)) (c0 c1 c2 c3 : Value) : (nest4 W g c0 c1 c2 c3).heap[g]? = some (.cells #[c0, c1, c2, c3] T fr) :=
  Lib.heap_setCell_same (Lib.heap_setCell_same (Lib.heap_setCell_same (Lib.heap_setCell_same hb c0) c1) c2) c3
theorem nest4_other {W : World} {g k : Nat} (hk : k ≠ g) (c0 c1 c2 c3 : Value) : (nest4 W g c0 c1 c2 c3).heap[k]? = W.heap[k]? := by
  rw [Below.heap_setCell _ _ _ _ (by show k ≠ g; exact hk), Below.heap_setCell _ _ _ _ (by show k ≠ g; exact hk), Below.heap_setCell _ _ _ _ (by show k ≠ g; exact hk), Below.heap_setCell _ _ _ _ (by show k ≠ g; exact hk)]
theorem Keep.nest4 {L g : Nat} {w : World} (hg : g < L) (c0 c1 c2 c3 : Value) : Keep L w (nest4 w g c0 c1 c2 c3) :=
  (((Keep.set hg 0 c0).trans (Keep.set hg 1 c1)).trans (Keep.set hg 2 c2)).trans (Keep.set hg 3 c3)
theorem four_cells {W : World} {g : Nat} {c0 c1 c2 c3 : Value} {T : TypeId} (h : W.heap[g]? = some (.cells #[c0, c1, c2, c3] T (0, 0))) :
    (W.cell? ⟨g, 0, none⟩ = some c0 ∧ W.cell? ⟨g, 1, none⟩ = some c1 ∧ W.cell? ⟨g, 2, none⟩ = some c2 ∧ W.cell? ⟨g, 3, none⟩ = some c3) ∧ ∀ o, W.frozen? ⟨g, o, none⟩ = false := by
  refine ⟨⟨(Lib.cell_of_heap h 0).trans rfl, (Lib.cell_of_heap h 1).trans rfl, (Lib.cell_of_heap h 2).trans rfl, (Lib.cell_of_heap h 3).trans rfl⟩, fun o => ?_⟩
  simp [World.frozen?, h]
theorem Did.nest4 {b : Nat} {V : Value} {all : List Tok} {x : PR Unit} {w W : World} (h : Did b V all w x W) (ht : TokH b V all w) {g : Nat} (hg : w.heap.size ≤ g) (hb : g ≠ b) (c0 c1 c2 c3 : Value) : Did b V all w x (nest4 W g c0 c1 c2 c3) :=
  (((h.set ht hg hb 0 c0).set ht hg hb 1 c1).set ht hg hb 2 c2).set ht hg hb 3 c3
/-- In the midst: the result's block, and the function's. -/
def CurF (b : Nat) (V : Value) (all : List Tok) (w : World) (x : PR Unit) (W : World) (c0 c1 c2 c3 : Value) : Prop :=
  Did b V all w x W ∧ W.heap[w.heap.size]? = some fnBox ∧ W.heap[w.heap.size + 1]? = some (.cells #[c0, c1, c2, c3] 46 (0, 0)) ∧ TokH b V all w ∧ b < w.heap.size
section
variable {b : Nat} {V : Value} {all : List Tok} {w W W' : World} {x y : PR Unit} {c0 c1 c2 c3 : Value}
theorem CurF.start (h : StP b V all x w) (s : ByteArray) (t : Int) : CurF b V all w x ((w.alloc fnBox).alloc (.cells #[.string s, .int .i64 t, .slice none 0 0, .slice none 0 0] 46)) (.string s) (.int .i64 t) (.slice none 0 0) (.slice none 0 0) := by
  have hb : Below w.heap.size w ((w.alloc fnBox).alloc (.cells #[.string s, .int .i64 t, .slice none 0 0, .slice none 0 0] 46)) := ((Below.refl _ _).alloc (Nat.le_refl _) _).alloc (by rw [alloc_size]; omega) _
  refine ⟨⟨h.below hb, OffB.of_below hb h.lt⟩, own_more (heap_alloc_new w fnBox) _, ?_, h.tok, h.lt⟩
  have := heap_alloc_new (w.alloc fnBox) (.cells #[.string s, .int .i64 t, .slice none 0 0, .slice none 0 0] 46)
  rw [alloc_size] at this
  exact this
theorem CurF.did (h : CurF b V all w x W c0 c1 c2 c3) : Did b V all w x W := h.1
theorem CurF.st (h : CurF b V all w x W c0 c1 c2 c3) : StP b V all x W := h.1.1
theorem CurF.lt (h : CurF b V all w x W c0 c1 c2 c3) : b < w.heap.size := h.2.2.2.2
theorem CurF.size (h : CurF b V all w x W c0 c1 c2 c3) : w.heap.size + 1 < W.heap.size := (Array.getElem?_eq_some_iff.1 h.2.2.1).1
theorem CurF.step (h : CurF b V all w x W c0 c1 c2 c3) (g : Did b V all W y W') : CurF b V all w y W' c0 c1 c2 c3 :=
  ⟨h.1.after g, own_next g.off (by have := h.size; omega) (by have := h.lt; omega) h.2.1, own_next g.off h.size (by have := h.lt; omega) h.2.2.1, h.2.2.2⟩
theorem CurF.alloc (h : CurF b V all w x W c0 c1 c2 c3) (o : Obj) : CurF b V all w x (W.alloc o) c0 c1 c2 c3 := ⟨h.1.alloc o, own_more h.2.1 o, own_more h.2.2.1 o, h.2.2.2⟩
theorem CurF.drew (h : CurF b V all w x W c0 c1 c2 c3) : CurF b V all w x W.drew c0 c1 c2 c3 := h.step ⟨h.st.below (Below.refl _ _).drew, OffB.of_below (Below.refl _ _).drew h.st.lt⟩
theorem CurF.own (h : CurF b V all w x W c0 c1 c2 c3) : (W.cell? ⟨w.heap.size, 0, none⟩ = some (.string ⟨#[]⟩) ∧ W.cell? ⟨w.heap.size, 1, none⟩ = some (.int .i64 0) ∧ W.cell? ⟨w.heap.size, 2, none⟩ = some (.slice none 0 0) ∧ W.cell? ⟨w.heap.size, 3, none⟩ = some (.slice none 0 0)) ∧ ∀ o, W.frozen? ⟨w.heap.size, o, none⟩ = false := four_cells h.2.1
theorem CurF.f (h : CurF b V all w x W c0 c1 c2 c3) : (W.cell? ⟨w.heap.size + 1, 0, none⟩ = some c0 ∧ W.cell? ⟨w.heap.size + 1, 1, none⟩ = some c1 ∧ W.cell? ⟨w.heap.size + 1, 2, none⟩ = some c2 ∧ W.cell? ⟨w.heap.size + 1, 3, none⟩ = some c3) ∧ ∀ o, W.frozen? ⟨w.heap.size + 1, o, none⟩ = false := four_cells h.2.2.1
theorem CurF.set (h : CurF b V all w x W c0 c1 c2 c3) (i : Nat) (u : Value) : Did b V all w x (W.setCell ⟨w.heap.size + 1, i, none⟩ u) ∧ (W.setCell ⟨w.heap.size + 1, i, none⟩ u).heap[w.heap.size]? = some fnBox :=
  ⟨h.1.set h.2.2.2.1 (by omega) (by have := h.lt; omega) i u, (Below.heap_setCell W _ u _ (by show w.heap.size ≠ w.heap.size + 1; omega)).trans h.2.1⟩
theorem CurF.set0 (h : CurF b V all w x W c0 c1 c2 c3) (u : Value) : CurF b V all w x (W.setCell ⟨w.heap.size + 1, 0, none⟩ u) u c1 c2 c3 := ⟨(h.set 0 u).1, (h.set 0 u).2, Lib.heap_setCell_same h.2.2.1 u, h.2.2.2⟩
theorem CurF.set1 (h : CurF b V all w x W c0 c1 c2 c3) (u : Value) : CurF b V all w x (W.setCell ⟨w.heap.size + 1, 1, none⟩ u) c0 u c2 c3 := ⟨(h.set 1 u).1, (h.set 1 u).2, Lib.heap_setCell_same h.2.2.1 u, h.2.2.2⟩
theorem CurF.set2 (h : CurF b V all w x W c0 c1 c2 c3) (u : Value) : CurF b V all w x (W.setCell ⟨w.heap.size + 1, 2, none⟩ u) c0 c1 u c3 := ⟨(h.set 2 u).1, (h.set 2 u).2, Lib.heap_setCell_same h.2.2.1 u, h.2.2.2⟩
theorem CurF.set3 (h : CurF b V all w x W c0 c1 c2 c3) (u : Value) : CurF b V all w x (W.setCell ⟨w.heap.size + 1, 3, none⟩ u) c0 c1 c2 u := ⟨(h.set 3 u).1, (h.set 3 u).2, Lib.heap_setCell_same h.2.2.1 u, h.2.2.2⟩
theorem CurF.fin (h : CurF b V all w y W c0 c1 c2 c3) {X : PR Fu} (hy : X.un = y) (hG : Got X fun a => FrF w.heap.size (_root_.Go.Proofs.YtakijoblbmfadaaGreatDoor.nest4 W w.heap.size c0 c1 c2 c3) a (.agg #[c0, c1, c2, c3])) :
    Gave b V all w X (FrF w.heap.size) (.returned (.agg #[c0, c1, c2, c3])) (_root_.Go.Proofs.YtakijoblbmfadaaGreatDoor.nest4 W w.heap.size c0 c1 c2 c3) :=
  ⟨_, rfl, hy ▸ h.1.nest4 h.2.2.2.1 (Nat.le_refl _) (by have := h.lt; omega) _ _ _ _, hG⟩
theorem CurF.read (h : CurF b V all w x W c0 c1 c2 c3) : ((((W.setCell ⟨w.heap.size, 0, none⟩ c0).setCell ⟨w.heap.size, 1, none⟩ c1).setCell ⟨w.heap.size, 2, none⟩ c2).setCell ⟨w.heap.size, 3, none⟩ c3).cell? ⟨w.heap.size, 0, none⟩ = some c0 ∧ ((((W.setCell ⟨w.heap.size, 0, none⟩ c0).setCell ⟨w.heap.size, 1, none⟩ c1).setCell ⟨w.heap.size, 2, none⟩ c2).setCell ⟨w.heap.size, 3, none⟩ c3).cell? ⟨w.heap.size, 1, none⟩ = some c1 ∧
    ((((W.setCell ⟨w.heap.size, 0, none⟩ c0).setCell ⟨w.heap.size, 1, none⟩ c1).setCell ⟨w.heap.size, 2, none⟩ c2).setCell ⟨w.heap.size, 3, none⟩ c3).cell? ⟨w.heap.size, 2, none⟩ = some c2 ∧ ((((W.setCell ⟨w.heap.size, 0, none⟩ c0).setCell ⟨w.heap.size, 1, none⟩ c1).setCell ⟨w.heap.size, 2, none⟩ c2).setCell ⟨w.heap.size, 3, none⟩ c3).cell? ⟨w.heap.size, 3, none⟩ = some c3 := (four_cells (nest4_row h.2.1 c0 c1 c2 c3)).1
end
/-! ### the parameters -/
def parRest (m : Nat) (acc : List Pa) (r : List Tok) : PR (List Pa) := if isS [44] r = true then pPL m acc r.tail else (must [41] r).bind fun _ r => .ok acc r
def parOne (r : List Tok) : PR Pa := (pTy r).bind fun t r => (want 1 r).bind fun s r => .ok ⟨s, t⟩ r
theorem pPL_got {m : Nat} {acc : List Pa} {r : List Tok} : pPL (m + 1) acc r = (parOne r).bind fun p r => parRest m (acc ++ [p]) r := by
  rw [pPL]
  unfold parOne
  simp only [bind_assoc]
  rfl
theorem parOne_fits {r : List Tok} (h : EndL r) : Fits 1 r (parOne r) := by
  unfold parOne
  exact (pTy_fits h).bind (m := 0) (fun t r _ hr => (want_fits hr 1 (by decide)).bind (n := 0) (fun _ r _ hr => Fits.self hr _) (by omega)) (by omega)
theorem parOne_un (r : List Tok) : (parOne r).un = ((pTy r).un.bind fun _ r => want 1 r).un := by
  unfold parOne
  cases pTy r with
  | ok t r =>
    show ((want 1 r).bind fun s r => PR.ok (⟨s, t⟩ : Pa) r).un = (want 1 r).un
    rw [un_bind]
    rfl
  | _ => rfl
theorem parOne_ends (r : List Tok) : Ends (parOne r) := by
  unfold parOne pTy must want
  repeat' (first | split | trivial | (show Ends _; trivial))
  all_goals (try (show Ends (PR.bind (ite _ _ _) _); split <;> trivial))
theorem ty_ends (r : List Tok) : Ends (pTy r) := by
  unfold pTy must
  split
  · trivial
  · split <;> trivial
theorem parOne_got {r : List Tok} {tv : Int} {s : ByteArray} (h1 : Got (pTy r) fun a => a = tv) (h2 : Got ((pTy r).un.bind fun _ r => want 1 r) fun a => a = s) : Got (parOne r) fun p => p = ⟨s, tv⟩ := by
  unfold parOne
  cases hx : pTy r with
  | ok t r1 =>
    rw [hx] at h1 h2
    obtain rfl : t = tv := h1
    have h2' : Got (want 1 r1) fun a => a = s := h2
    show Got ((want 1 r1).bind fun s r => PR.ok (⟨s, t⟩ : Pa) r) _
    exact h2'.bind (fun a r _ ha => by subst ha; exact rfl) fun a ha => ⟨_, rfl⟩
  | bad r1 => exact ⟨_, rfl⟩
  | deep r1 => exact ⟨_, rfl⟩
  | out => trivial
theorem ty_got {r : List Tok} {w : World} {v : Value} (h : Got (pTy r) fun a => IntV w a v) : ∃ tv, v = .int .i64 tv ∧ Got (pTy r) fun a => a = tv := by
  obtain ⟨tv, hv⟩ := h.some (ty_ends r)
  have hv' : v = .int .i64 tv := hv
  refine ⟨tv, hv', h.imp fun a ha => ?_⟩
  have ha' : v = .int .i64 a := ha
  rw [hv'] at ha'
  injection ha' with _ e
  exact e.symm
/-- What a round leaves. -/
theorem fn_next {b : Nat} {V : Value} {all : List Tok} {w w2 w5 : World} {Y : PR Unit} {c0 c1 v c3 v1 : Value} {acc : List Pa} {q : Pa} (hC : CurF b V all w Y w2 c0 c1 v c3) (hO : OutK kP (w.heap.size + 2) w2 v acc)
    (hg : (w2.alloc (.cells #[.string q.name, .int .i64 q.type] 59)).grownBy w5 v.ownBlock) (hr : RowAt (w2.alloc (.cells #[.string q.name, .int .i64 q.type] 59)) v v1)
    (ho : w5.ownsRow (w.heap.size + 2) 59 2 v1 (acc.length + 1) (acc.flatMap kP.cs ++ [.string q.name, .int .i64 q.type])) :
    CurF b V all w Y w5 c0 c1 v c3 ∧ CurF b V all w Y (w5.setCell ⟨w.heap.size + 1, 2, none⟩ v1) c0 c1 v1 c3 ∧ OutK kP (w.heap.size + 2) (w5.setCell ⟨w.heap.size + 1, 2, none⟩ v1) v1 (acc ++ [q]) := by
  have hal : Below w2.heap.size w2 (w2.alloc (.cells #[.string q.name, .int .i64 q.type] 59)) := (Below.refl _ _).alloc (Nat.le_refl _) _
  have hO1 : OutK kP (w.heap.size + 2) w5 v1 (acc ++ [q]) := hO.app (L := w2.heap.size) trivial (by have := hC.size; omega) (fun k hk => (hO.own k hk).1) hal hg hr ho
  have hown : ∀ j, v.ownBlock = some j → w.heap.size + 2 ≤ j := fun j hj => (hO.own j hj).2
  have hblk : ∀ j, j < w2.heap.size → j < w.heap.size + 2 → w5.heap[j]? = w2.heap[j]? := fun j hj hj2 => (hg.block j (Nat.lt_of_lt_of_le hj hal.size) (fun e => by have := hown j e.symm; omega)).trans (hal.block j hj)
  have hz := hC.size
  have hbl := hC.lt
  have hoff : OffB b w.heap.size w w5 := hC.did.off.trans (OffB.mk' (hg.os.trans hal.os) (hg.tape.trans hal.tape) (hg.output.trans hal.output) (Nat.le_trans hal.size hg.size) hC.st.lt fun j hj _ => hblk j (by have := hC.did.off.size; omega) (by omega))
  have hC1 : CurF b V all w Y w5 c0 c1 v c3 := ⟨⟨hC.st.move hC.2.2.2.1 hoff (hblk b hC.st.lt (by omega)), hoff⟩, (hblk _ (by omega) (by omega)).trans hC.2.1, (hblk _ hz (by omega)).trans hC.2.2.1, hC.2.2.2⟩
  exact ⟨hC1, hC1.set2 v1, hO1.keep (Keep.set (by omega) 2 v1)⟩
def FnB (b : Nat) (V : Value) (all : List Tok) (w : World) (T : PR (List Pa)) (n : Nat) (c0 c1 : Value) (wr : World) : Prop :=
  ∃ (m : Nat) (acc : List Pa) (y : PR Unit) (v : Value), m ≤ n ∧ OutK kP (w.heap.size + 2) wr v acc ∧ CurF b V all w y wr c0 c1 v (.slice none 0 0) ∧ T = y.bind (fun _ r => parRest m acc r) ∧ (isOver y = false → acc.length ≤ atOf b wr) ∧ acc.length ≤ 2000000
def FnRel (b : Nat) (V : Value) (all : List Tok) (w : World) (T : PR (List Pa)) (n : Nat) (c0 c1 : Value) (X : PR Unit) (fv : Value) (wr : World) : Prop :=
  (fv = .bool true ∧ CurF b V all w X wr c0 c1 (.slice none 0 0) (.slice none 0 0)) ∨ (fv = .bool false ∧ FnB b V all w T n c0 c1 wr)
theorem fn_rel {b : Nat} {V : Value} {all : List Tok} {w W : World} {c0 c1 v1 : Value} {acc : List Pa} {q : Pa} {r : List Tok} {T : PR (List Pa)} {m n : Nat} (hm : m ≤ n) (hT : T = pPL (m + 1) acc r) (hC : CurF b V all w (parOne r).un W c0 c1 v1 (.slice none 0 0)) (hO : OutK kP (w.heap.size + 2) W v1 (acc ++ [q]))
    (hq : Got (parOne r) fun p => p = q) (hE : EndL r) (hrl : r.length ≤ all.length) (hat : acc.length ≤ all.length - r.length) (hacc : acc.length ≤ 1000000) : FnB b V all w T n c0 c1 W ∧ all.length - r.length ≤ atOf b W := by
  rw [pPL_got] at hT
  have hF := parOne_fits hE
  have hlen : (acc ++ [q]).length = acc.length + 1 := by simp
  cases hx : parOne r with
  | ok p r2 =>
    rw [hx] at hT hC hq hF
    obtain rfl : p = q := hq
    have hp : Pbox b V all r2 false false W := hC.st
    have hao := atOf_box hp
    have hl := (show RestOf 1 r r2 from hF).2.2
    exact ⟨⟨m, acc ++ [p], .ok () r2, v1, hm, hO, hC, hT, fun _ => by rw [hlen]; omega, by rw [hlen]; omega⟩, by omega⟩
  | bad r2 =>
    rw [hx] at hT hC hF
    have hp : Pbox b V all r2 true false W := hC.st
    have hao := atOf_box hp
    have hl := (show RestOf 0 r r2 from hF).2.2
    exact ⟨⟨m, acc ++ [q], .bad r2, v1, hm, hO, hC, hT, (fun h => by cases h), by rw [hlen]; omega⟩, by omega⟩
  | deep r2 =>
    rw [hx] at hT hC hF
    have hp : Pbox b V all r2 false true W := hC.st
    have hao := atOf_box hp
    have hl := (show RestOf 0 r r2 from hF).2.2
    exact ⟨⟨m, acc ++ [q], .deep r2, v1, hm, hO, hC, hT, (fun h => by cases h), by rw [hlen]; omega⟩, by omega⟩
  | out =>
    rw [hx] at hC
    exact absurd hC.st id
theorem par_end {m : Nat} {acc : List Pa} {y : PR Unit} (hx : isAt [44] y = false) : y.bind (fun _ r => parRest m acc r) = y.bind fun _ r => (must [41] r).bind fun _ r => .ok acc r := by
  cases y with
  | ok u r =>
    show parRest m acc r = _
    unfold parRest
    rw [if_neg (by rw [show isS [44] r = false from hx]; decide)]
    rfl
  | _ => rfl
theorem par_fin {y : PR Unit} {acc : List Pa} {P : List Pa → Prop} (h : P acc) : Got (y.bind fun _ r => (must [41] r).bind fun _ r => .ok acc r) P := by
  cases y with
  | ok u r => exact got_must h
  | bad r => exact ⟨acc, h⟩
  | deep r => exact ⟨acc, h⟩
  | out => trivial
theorem par_un (y : PR Unit) (acc : List Pa) : (y.bind fun _ r => (must [41] r).bind fun _ r => PR.ok acc r).un = y.bind fun _ r => must [41] r := by
  rw [un_bind]
  simp only [must_ok_un]
def fnK (n : Nat) (t : Int) (s : ByteArray) (ps : List Pa) (r : List Tok) : PR Fu := (pB n 1 r).bind fun b r => .ok ⟨s, t, ps, b⟩ r
def parS (n : Nat) (r : List Tok) : PR (List Pa) := if isS [41] r = true then .ok [] r.tail else pPL n [] r
theorem pFn_split (n : Nat) (t : Int) (s : ByteArray) (x : PR Unit) : (x.bind fun _ r => pFn n t s r) = ((x.bind fun _ r => must [40] r).bind fun _ r => parS n r).bind fun ps r => fnK n t s ps r := by
  unfold pFn pPs parS fnK
  simp only [bind_assoc]
theorem fn_ends {n : Nat} {t : Int} {s : ByteArray} {T : PR (List Pa)} (h : Ends (T.bind fun ps r => fnK n t s ps r)) : Ends (T.un.bind fun _ r => pB n 1 r) := by
  cases T with
  | ok ps r => exact ends_left (show Ends (fnK n t s ps r) from h)
  | bad r => trivial
  | deep r => trivial
  | out => exact h
theorem fn_un {n : Nat} {t : Int} {s : ByteArray} {T : PR (List Pa)} : (T.bind fun ps r => fnK n t s ps r).un = (T.un.bind fun _ r => pB n 1 r).un := by
  cases T with
  | ok ps r =>
    show (fnK n t s ps r).un = (pB n 1 r).un
    unfold fnK
    rw [un_bind]
    rfl
  | _ => rfl
theorem fn_got {n : Nat} {t : Int} {s : ByteArray} {T : PR (List Pa)} {P1 : List Pa → Prop} {P2 : List St → Prop} {Q : Fu → Prop} (h1 : Got T P1) (h2 : Got (T.un.bind fun _ r => pB n 1 r) P2) (he : Ends (T.un.bind fun _ r => pB n 1 r)) (hq : ∀ ps b, P1 ps → P2 b → Q ⟨s, t, ps, b⟩) : Got (T.bind fun ps r => fnK n t s ps r) Q := by
  obtain ⟨b0, hb0⟩ := h2.some he
  cases T with
  | ok ps r =>
    show Got ((pB n 1 r).bind fun b r => PR.ok (⟨s, t, ps, b⟩ : Fu) r) Q
    have h2' : Got (pB n 1 r) P2 := h2
    exact h2'.bind (fun b r _ hb => hq ps b h1 hb) fun b hb => ⟨_, hq ps b h1 hb⟩
  | bad r => obtain ⟨ps, hp⟩ := h1; exact ⟨_, hq ps b0 hp hb0⟩
  | deep r => obtain ⟨ps, hp⟩ := h1; exact ⟨_, hq ps b0 hp hb0⟩
  | out => trivial
/-- The end of a walk: the body is told, the function's cells are read. -/
theorem fn_done {b : Nat} {V : Value} {all : List Tok} {w w6 w7 : World} {n : Nat} {t : Int} {s : ByteArray} {T : PR (List Pa)} {v v3 : Value} {acc : List Pa} (hC6 : CurF b V all w T.un w6 (.string s) (.int .i64 t) v (.slice none 0 0)) (hO : OutK kP (w.heap.size + 2) w6 v acc) (hn : acc.length ≤ 2000000) (hT : Got T fun ps => ps = acc)
    (hD : Did b V all w6 (T.un.bind fun _ r => pB n 1 r).un w7) (hG : Got (T.un.bind fun _ r => pB n 1 r) fun a => FrSs w6.heap.size w7 a v3) (he : Ends (T.un.bind fun _ r => pB n 1 r)) :
    Gave b V all w (T.bind fun ps r => fnK n t s ps r) (FrF w.heap.size) (.returned (.agg #[.string s, .int .i64 t, v, v3])) (nest4 (w7.setCell ⟨w.heap.size + 1, 3, none⟩ v3) w.heap.size (.string s) (.int .i64 t) v v3) := by
  have hz := hC6.size
  have hb := hC6.lt
  have h67 := hD.off.size
  refine CurF.fin ((hC6.step hD).set3 v3) fn_un (fn_got hT hG he fun ps bd hps hbd => ?_)
  subst hps
  refine ⟨v, v3, rfl, ?_, ?_⟩
  · refine FrPs.keep (L := w.heap.size + 2) (hO.params (by omega)) ?_ (by omega)
    exact ((Keep.did hD (by omega)).trans (Keep.set (by omega) 3 v3)).trans (Keep.nest4 (by omega) _ _ _ _)
  · exact FrSs.keep hbd ((Keep.set (by omega) 3 v3).trans (Keep.nest4 (by omega) _ _ _ _)) (by omega)
set_option maxRecDepth 100000 in
theorem fn_none {b : Nat} {V : Value} {all : List Tok} {n : Nat} {x : PR Unit} {w : World} {t : Int} {s : ByteArray} {r : List Tok} (h : StP b V all x w) (hx : (x.bind fun _ r => must [40] r) = .ok () r) (h41 : isS [41] r = true) (hn : Ends (x.bind fun _ r => pFn n t s r)) :
    Calls Tryz.prog 51 #[.pointer (some ⟨b, 0, none⟩), .int .i64 t, .string s] w (Gave b V all w (x.bind fun _ r => pFn n t s r) (FrF w.heap.size)) := by
  have ex : (x.bind fun _ r => pFn n t s r) = (PR.ok [] r.tail).bind fun ps r => fnK n t s ps r := by
    rw [pFn_split, hx]
    show (parS n r).bind _ = _
    unfold parS
    rw [if_pos h41]
  rw [ex] at hn ⊢
  have HN := Lib.hid (show Ends ((PR.ok () r.tail).bind fun _ r => pB n 1 r) from fn_ends hn)
  have HC := Lib.hid (CurF.start h s t)
  have HX := Lib.hid hx
  have HY := Lib.hid (show isAt (⟨#[41]⟩ : ByteArray).data.toList (PR.ok () r) = true from h41)
  have HB := Lib.hid (pblock_any (b := b) (V := V) (all := all) (n := n) (d := 1) (by decide) (by decide))
  have hbw := h.lt
  clear h hx h41 hn ex
  go_enter Tryz.func51, Tryz.ntmps51
  go_wp2_with (first
    | (go_at_call 50; (with_reducible refine (must_any HC.out.st ⟨#[40]⟩).mono ?_); rintro e w1 ⟨rfl, hD⟩
       replace HC := Lib.hid (show CurF b V all w (.ok () r) w1 _ _ _ _ from HX.out ▸ HC.out.step hD)
       clear hD)
    | (go_at_call 48; (with_reducible refine (take_yes HC.out.st _ HY.out).mono ?_); rintro e w2 ⟨rfl, hD⟩
       replace HC := Lib.hid (show CurF b V all w (.ok () r.tail) w2 _ _ _ _ from HC.out.step hD)
       clear hD)
    | (go_at_call 72; (with_reducible refine (HB.out.call HC.out.st HN.out).mono ?_); rintro e w7 ⟨v3, rfl, hD, hG⟩
       obtain ⟨A3, m3, q3, rfl⟩ := gots_forms hG HN.out
       have HG := Lib.hid hG
       have HC6 := HC
       have HD7 := Lib.hid hD
       replace HC := Lib.hid (HC.out.step hD)
       obtain ⟨⟨c0, c1, c2, c3⟩, fz⟩ := HC.out.own
       obtain ⟨⟨s0, s1, s2, s3⟩, sz⟩ := HC.out.f
       clear hD hG))
  obtain ⟨f0, f1, f2, f3⟩ := (HC.out.set3 (.slice A3 m3 q3)).read
  refine bodyPost_ret (v := .agg #[.string s, .int .i64 t, .slice none 0 0, .slice A3 m3 q3]) (by simp [results, Tryz.results51, go_sem, f0, f1, f2, f3]) rfl ?_
  exact fn_done (T := .ok [] r.tail) HC6.out (OutK.nil kP _ _) (by simp) rfl HD7.out HG.out HN.out
set_option maxHeartbeats 3200000 in
set_option maxRecDepth 100000 in
theorem fn_some {b : Nat} {V : Value} {all : List Tok} {n : Nat} {x : PR Unit} {w : World} {t : Int} {s : ByteArray} (h : StP b V all x w) (h41 : isAt [41] (x.bind fun _ r => must [40] r) = false) (hn : Ends (x.bind fun _ r => pFn n t s r)) :
    Calls Tryz.prog 51 #[.pointer (some ⟨b, 0, none⟩), .int .i64 t, .string s] w (Gave b V all w (x.bind fun _ r => pFn n t s r) (FrF w.heap.size)) := by
  obtain ⟨X, hX⟩ : ∃ X, (x.bind fun _ r => must [40] r) = X := ⟨_, rfl⟩
  obtain ⟨T, hT⟩ : ∃ T, (X.bind fun _ r => parS n r) = T := ⟨_, rfl⟩
  have ex : (x.bind fun _ r => pFn n t s r) = T.bind fun ps r => fnK n t s ps r := by rw [pFn_split, hX, hT]
  rw [ex] at hn ⊢
  rw [hX] at h41
  have hT2 : T = X.bind fun _ r => pPL n [] r := by
    rw [← hT]
    cases X with
    | ok u r => show parS n r = pPL n [] r; unfold parS; rw [if_neg (by rw [show isS [41] r = false from h41]; decide)]
    | _ => rfl
  have HN := Lib.hid (fn_ends hn)
  have hTE : Ends T := ends_left hn
  have HTE := Lib.hid hTE
  have HC := Lib.hid (CurF.start h s t)
  have HX := Lib.hid hX
  have HT2 := Lib.hid hT2
  have HY := Lib.hid (show isAt (⟨#[41]⟩ : ByteArray).data.toList X = false from h41)
  have HB := Lib.hid (pblock_any (b := b) (V := V) (all := all) (n := n) (d := 1) (by decide) (by decide))
  have hbw := h.lt
  clear h hX h41 hn ex hT hT2 hTE
  go_enter Tryz.func51, Tryz.ntmps51
  go_wp2_with (first
    | (go_at_call 50; (with_reducible refine (must_any HC.out.st ⟨#[40]⟩).mono ?_); rintro e w1 ⟨rfl, hD⟩
       replace HC := Lib.hid (show CurF b V all w X w1 _ _ _ _ from HX.out ▸ HC.out.step hD)
       clear hD)
    | (go_at_call 48; (with_reducible refine (take_no' HC.out.st _ HY.out).mono ?_); rintro e w2 ⟨rfl, hD⟩
       replace HC := Lib.hid (HC.out.step hD)
       clear hD))
  go_loopw [8] (fun fv wr => FnRel b V all w T n (.string s) (.int .i64 t) X fv wr) (fun fv wr => 2 * (all.length - atOf b wr) + firstN fv)
  case atStart => exact .inl ⟨rfl, HC.out⟩
  case round =>
    obtain ⟨i0, hi0, hz0, hz1, hz2⟩ := info_parts pa_info
    have HI0 := Lib.hid (And.intro hi0 (And.intro hz0 (And.intro hz1 hz2)))
    clear hi0 hz0 hz1 hz2
    rcases hrel with ⟨rfl, hC⟩ | ⟨rfl, m, acc, y, v, hmn, hO, hC, hT, hacc, hac2⟩
    · replace HC := Lib.hid hC
      have HO := Lib.hid (OutK.nil kP (w.heap.size + 2) wr)
      clear hC
      cases ho : isOver X with
      | true =>
        have hTT : T = X.bind fun _ r => (must [41] r).bind fun _ r => .ok [] r := HT2.out.trans (over_bind ho _ _)
        have HTU := Lib.hid (show T.un = X.bind fun _ r => must [41] r by rw [hTT, par_un])
        have HGT := Lib.hid (show Got T fun ps => ps = [] by rw [hTT]; exact par_fin rfl)
        have hac2 : ([] : List Pa).length ≤ 2000000 := by simp
        have HOV := Lib.hid ho
        clear ho hTT
        go_wp2_with (first
          | (go_at_call 45; (with_reducible refine (over_is HC.out.st true HOV.out).mono ?_); rintro e w2 ⟨rfl, rfl⟩)
          | (go_at_call 50; (with_reducible refine (must_any HC.out.st ⟨#[41]⟩).mono ?_); rintro e w6 ⟨rfl, hD⟩
             replace HO := Lib.hid (HO.out.keep (Keep.did hD (by omega)))
             replace HC := Lib.hid (show CurF b V all w T.un w6 _ _ _ _ from HTU.out ▸ HC.out.step hD)
             clear hD)
          | (go_at_call 72; (with_reducible refine (HB.out.call HC.out.st HN.out).mono ?_); rintro e w7 ⟨v3, rfl, hD, hG⟩
             obtain ⟨A3, m3, q3, rfl⟩ := gots_forms hG HN.out
             have HG := Lib.hid hG
             have HC6 := HC
             have HD7 := Lib.hid hD
             replace HC := Lib.hid (HC.out.step hD)
             obtain ⟨⟨c0, c1, c2, c3⟩, fz⟩ := HC.out.own
             obtain ⟨⟨s0, s1, s2, s3⟩, sz⟩ := HC.out.f
             clear hD hG))
        obtain ⟨f0, f1, f2, f3⟩ := (HC.out.set3 (.slice A3 m3 q3)).read
        refine bodyPost_ret (v := .agg #[.string s, .int .i64 t, .slice none 0 0, .slice A3 m3 q3]) (by simp [results, Tryz.results51, go_sem, f0, f1, f2, f3]) rfl ?_
        exact fn_done HC6.out HO.out hac2 HGT.out HD7.out HG.out HN.out
      | false =>
        obtain ⟨r, rfl⟩ : ∃ r, X = .ok () r := by
          cases X with
          | ok u r => exact ⟨r, rfl⟩
          | bad r => cases ho
          | deep r => cases ho
          | out => exact absurd HC.out.st id
        obtain ⟨hat, hrl, hal, hen, hrp⟩ := box_facts HC.out.did
        obtain ⟨q, rfl⟩ : ∃ q, n = q + 1 := by
          cases n with
          | zero => have h1 := HTE.out; rw [HT2.out] at h1; exact absurd (show Ends (pPL 0 [] r) from h1) (by rw [pPL]; exact id)
          | succ q => exact ⟨q, rfl⟩
        obtain ⟨acc, hac⟩ : ∃ acc : List Pa, acc = [] := ⟨_, rfl⟩
        have hac6 : acc.length ≤ 1000000 := by rw [hac]; simp
        have hac7 : acc.length ≤ all.length - r.length := by rw [hac]; simp
        replace HO := Lib.hid (show OutK kP (w.heap.size + 2) wr (.slice none 0 0) acc by rw [hac]; exact HO.out)
        have HT := Lib.hid (show T = pPL (q + 1) acc r by rw [HT2.out, hac]; rfl)
        have HEN := Lib.hid hen
        have HAT := Lib.hid hat
        clear ho hat hac hen
        go_wp2_with (first
          | (go_at_call 45; (with_reducible refine (over_is HC.out.st false rfl).mono ?_); rintro e w2 ⟨rfl, rfl⟩)
          | (go_at_call 46; (with_reducible refine (typed_any HC.out.st).mono ?_); rintro e w3 ⟨tv0, rfl, hD, hG⟩
             obtain ⟨tv, rfl, hG2⟩ := ty_got (r := r) hG
             have HGT := Lib.hid hG2
             replace HO := Lib.hid (HO.out.keep (Keep.did hD (by omega)))
             replace HC := Lib.hid (show CurF b V all w (pTy r).un w3 _ _ _ _ from HC.out.step hD)
             obtain ⟨⟨s0, s1, s2, s3⟩, sz⟩ := HC.out.f
             clear hD hG hG2))
        go_region_law (first
          | (refine step_append_at rfl (.tmp 31) (.tmp 36) _ rfl (w.heap.size + 2) 59 i0 _ 2 24 Tryz.underlying43 HI0.out.1 HI0.out.2.1 HI0.out.2.2.1 HI0.out.2.2.2 rfl (by omega) (.slice none 0 0) acc.length _ rfl (by exact HPRE.out.1) ⟨w4.heap.size, 0, none⟩ 1 1 [.string s', .int .i64 tv] rfl rfl (by exact HPRE.out.2.1) (by simp [Value.oneCell']) (by simp only [maxLen]; omega) (by omega) (by exact HPRE.out.2.2) (by omega) ?_
             intro v1 w5 hown1 hg1 hr1
             obtain ⟨A1, cp1, rfl⟩ := own_form hown1
             have HX1 := Lib.hid (fn_next (q := ⟨s', tv⟩) HC4.out HO2.out hg1 hr1 hown1)
             have hk7 : w5.cell? ⟨w.heap.size + 1, 2, none⟩ = some (.slice none 0 0) := HX1.out.1.f.1.2.2.1
             have fz5 := HX1.out.1.f.2
             clear hown1 hg1 hr1)
          | (go_simp; go_at_call 47; (refine (text_any (HC.out.drew).st 1 (by decide)).mono ?_); rintro e w4 ⟨s', rfl, hD, hG⟩
             have HGS := Lib.hid hG
             have HO2 := Lib.hid (HO.out.keep ((Keep.of_below (Below.refl _ _).drew).trans (Keep.did hD (by omega))))
             have HC4 := Lib.hid (show CurF b V all w (parOne r).un w4 _ _ _ _ from (parOne_un r).symm ▸ HC.out.drew.step hD)
             have hk7 : w4.cell? ⟨w.heap.size + 1, 2, none⟩ = some (.slice none 0 0) := HC4.out.f.1.2.2.1
             have fz4 := HC4.out.f.2
             have hk8 : (w4.alloc (.cells #[.string s', .int .i64 tv] 59)).cell? ⟨w.heap.size + 1, 2, none⟩ = some (.slice none 0 0) := (HC4.out.alloc _).f.1.2.2.1
             have HPRE := Lib.hid (HO2.out.pre [.string s', .int .i64 tv] (by have := HC4.out.size; omega))
             clear hD hG))
        all_goals
          go_wp2
          have HZ := Lib.hid (fn_rel (n := q + 1) (by omega) HT.out HX1.out.2.1 HX1.out.2.2 (parOne_got HGT.out HGS.out) HEN.out hrl (by omega) (by omega))
          go_roundw
          case rel => exact .inr ⟨rfl, HZ.out.1⟩
          case measure =>
            have h1 := HZ.out.2
            have h2 := HAT.out
            simp [firstN]
            omega
    · obtain ⟨hbb, hx⟩ : ∃ v : Bool, isAt [44] y = v := ⟨_, rfl⟩
      cases hbb with
      | true =>
        obtain ⟨r1, rfl, hs1⟩ := isAt_ok hx
        obtain ⟨hat, hrl1, hal, hen1, hrp⟩ := box_facts hC.did
        have hTT : T = pPL m acc r1.tail := by
          rw [hT]
          show parRest m acc r1 = _
          unfold parRest
          rw [if_pos hs1]
        obtain ⟨q, rfl⟩ : ∃ q, m = q + 1 := by
          cases m with
          | zero => have := HTE.out; rw [hTT, pPL] at this; exact absurd this id
          | succ q => exact ⟨q, rfl⟩
        have hacc1 := hacc rfl
        rw [hat] at hacc1
        have htl := tail_len hen1
        have HAT := Lib.hid hat
        have HV4 := Lib.hid (show isAt (⟨#[44]⟩ : ByteArray).data.toList (PR.ok () r1) = true from hs1)
        have hen2 := hen1.sign hs1
        obtain ⟨r, hr2⟩ : ∃ r2, r2 = r1.tail := ⟨_, rfl⟩
        rw [← hr2] at hTT htl hen2
        have hrl : r.length ≤ all.length := by omega
        have HRT := Lib.hid hr2
        have HT := Lib.hid hTT
        have HEN := Lib.hid hen2
        have HO := Lib.hid hO
        replace HC := Lib.hid hC
        obtain ⟨A0, cp0, rfl⟩ := hO.form
        clear hC hO hT hTT hat hx hs1 hen1 hen2 hr2 hacc
        go_wp2_with (first
          | (go_at_call 48; (with_reducible refine (take_yes HC.out.st _ HV4.out).mono ?_); rintro e w2 ⟨rfl, hD⟩
             have hD3 : Did b V all wr (.ok () r) w2 := by rw [HRT.out]; exact hD
             replace HO := Lib.hid (HO.out.keep (Keep.did hD3 (by omega)))
             replace HC := Lib.hid (HC.out.step hD3)
             clear hD hD3)
          | (go_at_call 45; (with_reducible refine (over_is HC.out.st false rfl).mono ?_); rintro e w2 ⟨rfl, rfl⟩)
          | (go_at_call 46; (with_reducible refine (typed_any HC.out.st).mono ?_); rintro e w3 ⟨tv0, rfl, hD, hG⟩
             obtain ⟨tv, rfl, hG2⟩ := ty_got (r := r) hG
             have HGT := Lib.hid hG2
             replace HO := Lib.hid (HO.out.keep (Keep.did hD (by omega)))
             replace HC := Lib.hid (show CurF b V all w (pTy r).un w3 _ _ _ _ from HC.out.step hD)
             obtain ⟨⟨s0, s1, s2, s3⟩, sz⟩ := HC.out.f
             clear hD hG hG2))
        go_region_law (first
          | (refine step_append_at rfl (.tmp 31) (.tmp 36) _ rfl (w.heap.size + 2) 59 i0 _ 2 24 Tryz.underlying43 HI0.out.1 HI0.out.2.1 HI0.out.2.2.1 HI0.out.2.2.2 rfl (by omega) (.slice A0 acc.length cp0) acc.length _ rfl (by exact HPRE.out.1) ⟨w4.heap.size, 0, none⟩ 1 1 [.string s', .int .i64 tv] rfl rfl (by exact HPRE.out.2.1) (by simp [Value.oneCell']) (by simp only [maxLen]; omega) (by omega) (by exact HPRE.out.2.2) (by omega) ?_
             intro v1 w5 hown1 hg1 hr1
             obtain ⟨A1, cp1, rfl⟩ := own_form hown1
             have HX1 := Lib.hid (fn_next (q := ⟨s', tv⟩) HC4.out HO2.out hg1 hr1 hown1)
             have hk7 : w5.cell? ⟨w.heap.size + 1, 2, none⟩ = some (.slice A0 acc.length cp0) := HX1.out.1.f.1.2.2.1
             have fz5 := HX1.out.1.f.2
             clear hown1 hg1 hr1)
          | (go_simp; go_at_call 47; (refine (text_any (HC.out.drew).st 1 (by decide)).mono ?_); rintro e w4 ⟨s', rfl, hD, hG⟩
             have HGS := Lib.hid hG
             have HO2 := Lib.hid (HO.out.keep ((Keep.of_below (Below.refl _ _).drew).trans (Keep.did hD (by omega))))
             have HC4 := Lib.hid (show CurF b V all w (parOne r).un w4 _ _ _ _ from (parOne_un r).symm ▸ HC.out.drew.step hD)
             have hk7 : w4.cell? ⟨w.heap.size + 1, 2, none⟩ = some (.slice A0 acc.length cp0) := HC4.out.f.1.2.2.1
             have fz4 := HC4.out.f.2
             have hk8 : (w4.alloc (.cells #[.string s', .int .i64 tv] 59)).cell? ⟨w.heap.size + 1, 2, none⟩ = some (.slice A0 acc.length cp0) := (HC4.out.alloc _).f.1.2.2.1
             have HPRE := Lib.hid (HO2.out.pre [.string s', .int .i64 tv] (by have := HC4.out.size; omega))
             clear hD hG))
        all_goals
          go_wp2
          have HZ := Lib.hid (fn_rel (n := n) (by omega) HT.out HX1.out.2.1 HX1.out.2.2 (parOne_got HGT.out HGS.out) HEN.out hrl (by omega) (by omega))
          go_roundw
          case rel => exact .inr ⟨rfl, HZ.out.1⟩
          case measure =>
            have h1 := HZ.out.2
            have h2 := HAT.out
            simp [firstN]
            omega
      | false =>
        have HV4 := Lib.hid (show isAt (⟨#[44]⟩ : ByteArray).data.toList y = false from hx)
        have hTT := hT.trans (par_end (m := m) (acc := acc) hx)
        have HTU := Lib.hid (show T.un = y.bind fun _ r => must [41] r by rw [hTT, par_un])
        have HGT := Lib.hid (show Got T fun ps => ps = acc by rw [hTT]; exact par_fin rfl)
        have HO := Lib.hid hO
        replace HC := Lib.hid hC
        obtain ⟨A0, cp0, rfl⟩ := hO.form
        clear hC hO hT hTT hx hacc
        go_wp2_with (first
          | (go_at_call 48; (with_reducible refine (take_no' HC.out.st _ HV4.out).mono ?_); rintro e w2 ⟨rfl, hD⟩
             replace HO := Lib.hid (HO.out.keep (Keep.did hD (by omega)))
             replace HC := Lib.hid (HC.out.step hD)
             clear hD)
          | (go_at_call 50; (with_reducible refine (must_any HC.out.st ⟨#[41]⟩).mono ?_); rintro e w6 ⟨rfl, hD⟩
             replace HO := Lib.hid (HO.out.keep (Keep.did hD (by omega)))
             replace HC := Lib.hid (show CurF b V all w T.un w6 _ _ _ _ from HTU.out ▸ HC.out.step hD)
             clear hD)
          | (go_at_call 72; (with_reducible refine (HB.out.call HC.out.st HN.out).mono ?_); rintro e w7 ⟨v3, rfl, hD, hG⟩
             obtain ⟨A3, m3, q3, rfl⟩ := gots_forms hG HN.out
             have HG := Lib.hid hG
             have HC6 := HC
             have HD7 := Lib.hid hD
             replace HC := Lib.hid (HC.out.step hD)
             obtain ⟨⟨c0, c1, c2, c3⟩, fz⟩ := HC.out.own
             obtain ⟨⟨s0, s1, s2, s3⟩, sz⟩ := HC.out.f
             clear hD hG))
        obtain ⟨f0, f1, f2, f3⟩ := (HC.out.set3 (.slice A3 m3 q3)).read
        refine bodyPost_ret (v := .agg #[.string s, .int .i64 t, .slice A0 acc.length cp0, .slice A3 m3 q3]) (by simp [results, Tryz.results51, go_sem, f0, f1, f2, f3]) rfl ?_
        exact fn_done HC6.out HO.out hac2 HGT.out HD7.out HG.out HN.out
theorem pfn_any {b : Nat} {V : Value} {all : List Tok} {n : Nat} {x : PR Unit} {w : World} {t : Int} {s : ByteArray} (h : StP b V all x w) (hn : Ends (x.bind fun _ r => pFn n t s r)) :
    Calls Tryz.prog 51 #[.pointer (some ⟨b, 0, none⟩), .int .i64 t, .string s] w (Gave b V all w (x.bind fun _ r => pFn n t s r) (FrF w.heap.size)) := by
  cases h41 : isAt [41] (x.bind fun _ r => must [40] r) with
  | true =>
    obtain ⟨r, hx, hs⟩ := isAt_ok h41
    exact fn_none h hx hs hn
  | false => exact fn_some h h41 hn
end Go.Proofs.YtakijoblbmfadaaGreatDoor

/- The document's parser: a program. (By tools/gen_parpg.py.) -/
namespace Go.Proofs.YtakijoblbmfadaaGreatDoor
open Go.RowKit
theorem rvalue_nil (w : World) : Calls Tryz.prog 49 #[.string ⟨#[]⟩] w fun e w' => e = .returned (.int .i64 (-1)) ∧ w = w' := by
  go_enter Tryz.func49, Tryz.ntmps49
  go_wp2
  go_loop [3, 4, 5] (fun n i _ => i = .int .i64 0 ∧ n = .int .i64 0) (fun _ i _ => 0)
  case atStart => exact ⟨rfl, rfl⟩
  case round =>
    obtain ⟨rfl, rfl⟩ := hrel
    go_wp2
    go_ret
    exact ⟨rfl, rfl⟩
set_option maxRecDepth 100000 in
theorem text_nil {b : Nat} {V : Value} {all r : List Tok} {w : World} (h : StP b V all (.ok () r) w) (k : Int) (hk : hdK r ≠ k) :
    Calls Tryz.prog 47 #[.pointer (some ⟨b, 0, none⟩), .int .i64 k] w fun e w' => e = .returned (.string ⟨#[]⟩) ∧ Did b V all w (.bad r) w' := by
  have hp : Pbox b V all r false false w := h
  clear h
  have hS := fun o => box_spoil hp o
  have hlt := hp.lt
  have f1 := hp.1.frozen 1
  have f2 := hp.1.frozen 2
  have HOV := Lib.hid (show StP b V all (.ok () r) w from hp)
  obtain ⟨g, c, p, t, q, rfl, rfl, hpp, hpl, hl, c0, c1, c2, c3, t0, t1, t2⟩ := hp.tok
  have hlk : (p : Int) < all.length := by omega
  have hw0 : 0 < w.heap.size := by omega
  have HS := Lib.hid hS
  have e2 : (t.kind != k) = true := by simpa [hdK] using hk
  clear hp hpp hS hk
  go_enter Tryz.func47, Tryz.ntmps47
  go_wp2_with (go_at_call 45; (with_reducible refine (over_is HOV.out false rfl).mono ?_); rintro e w1 ⟨rfl, rfl⟩)
  go_region_held3 (fun w' => w'.cell? ⟨b, 0, none⟩ = some (.slice (some ⟨g, 0, none⟩) all.length c) ∧ w'.cell? ⟨b, 1, none⟩ = some (.int .i64 p) ∧ w'.cell? ⟨g, p * 3, none⟩ = some (.int .i64 t.kind) ∧ w'.cell? ⟨g, p * 3 + 1, none⟩ = some (.string ⟨t.text.toArray⟩) ∧ w'.cell? ⟨g, p * 3 + 2, none⟩ = some (.int .i64 (t.line : Int)) ∧ 0 < w'.heap.size)
    (first | go_keep | (go_split_ands; refine ⟨?_, ?_, ?_, ?_, ?_, ?_⟩ <;> assumption))
    (fail)
  go_wp2_with (fail)
  go_ret
  exact ⟨rfl, HS.out _⟩
/-! ### worlds -/
abbrev pgBox : Obj := .cells #[.slice none 0 0, .slice none 0 0] 35
abbrev nest2 (W : World) (g : Nat) (c0 c1 : Value) : World := (W.setCell ⟨g, 0, none⟩ c0).setCell ⟨g, 1, none⟩ c1
theorem nest2_row {W : World} {g : Nat} {d0 d1 : Value} {T : TypeId} {fr : Nat × Nat} (hb : W.heap[g]? = some (.cells #[d0, d1] T fr)) (c0 c1 : Value) : (nest2 W g c0 c1).heap[g]? = some (.cells #[c0, c1] T fr) := Lib.heap_setCell_same (Lib.heap_setCell_same hb c0) c1
theorem Keep.nest2 {L g : Nat} {w : World} (hg : g < L) (c0 c1 : Value) : Keep L w (nest2 w g c0 c1) := (Keep.set hg 0 c0).trans (Keep.set hg 1 c1)
theorem two_cells {W : World} {g : Nat} {c0 c1 : Value} {T : TypeId} (h : W.heap[g]? = some (.cells #[c0, c1] T (0, 0))) : (W.cell? ⟨g, 0, none⟩ = some c0 ∧ W.cell? ⟨g, 1, none⟩ = some c1) ∧ ∀ o, W.frozen? ⟨g, o, none⟩ = false := by
  refine ⟨⟨(Lib.cell_of_heap h 0).trans rfl, (Lib.cell_of_heap h 1).trans rfl⟩, fun o => ?_⟩
  simp [World.frozen?, h]
/-- A program's value. -/
def FrG (L : Nat) (w : World) (a : Pr) (v : Value) : Prop := ∃ v0 v1, v = .agg #[v0, v1] ∧ SlA w.heap.size (mask (low L) w) v0 a.arrays ∧ SlF w.heap.size (mask (low L) w) v1 a.funcs
/-- In the midst: the result's block, and the program's. -/
def CurP (b : Nat) (V : Value) (all : List Tok) (w : World) (x : PR Unit) (W : World) (c0 c1 : Value) : Prop :=
  Did b V all w x W ∧ W.heap[w.heap.size]? = some pgBox ∧ W.heap[w.heap.size + 1]? = some (.cells #[c0, c1] 35 (0, 0)) ∧ TokH b V all w ∧ b < w.heap.size
section
variable {b : Nat} {V : Value} {all : List Tok} {w W W' : World} {x y : PR Unit} {c0 c1 : Value}
theorem CurP.start (h : StP b V all x w) : CurP b V all w x ((w.alloc pgBox).alloc pgBox) (.slice none 0 0) (.slice none 0 0) := by
  have hb : Below w.heap.size w ((w.alloc pgBox).alloc pgBox) := ((Below.refl _ _).alloc (Nat.le_refl _) _).alloc (by rw [alloc_size]; omega) _
  refine ⟨⟨h.below hb, OffB.of_below hb h.lt⟩, own_more (heap_alloc_new w pgBox) _, ?_, h.tok, h.lt⟩
  have := heap_alloc_new (w.alloc pgBox) pgBox
  rw [alloc_size] at this
  exact this
theorem CurP.did (h : CurP b V all w x W c0 c1) : Did b V all w x W := h.1
theorem CurP.st (h : CurP b V all w x W c0 c1) : StP b V all x W := h.1.1
theorem CurP.lt (h : CurP b V all w x W c0 c1) : b < w.heap.size := h.2.2.2.2
theorem CurP.size (h : CurP b V all w x W c0 c1) : w.heap.size + 1 < W.heap.size := (Array.getElem?_eq_some_iff.1 h.2.2.1).1
theorem CurP.step (h : CurP b V all w x W c0 c1) (g : Did b V all W y W') : CurP b V all w y W' c0 c1 :=
  ⟨h.1.after g, own_next g.off (by have := h.size; omega) (by have := h.lt; omega) h.2.1, own_next g.off h.size (by have := h.lt; omega) h.2.2.1, h.2.2.2⟩
theorem CurP.alloc (h : CurP b V all w x W c0 c1) (o : Obj) : CurP b V all w x (W.alloc o) c0 c1 := ⟨h.1.alloc o, own_more h.2.1 o, own_more h.2.2.1 o, h.2.2.2⟩
theorem CurP.drew (h : CurP b V all w x W c0 c1) : CurP b V all w x W.drew c0 c1 := h.step ⟨h.st.below (Below.refl _ _).drew, OffB.of_below (Below.refl _ _).drew h.st.lt⟩
theorem CurP.drewN (h : CurP b V all w x W c0 c1) (n : Nat) : CurP b V all w x (W.drewN n) c0 c1 := h.step ⟨h.st.drewN n, (OffB.refl b _ W).drewN n⟩
theorem CurP.own (h : CurP b V all w x W c0 c1) : (W.cell? ⟨w.heap.size, 0, none⟩ = some (.slice none 0 0) ∧ W.cell? ⟨w.heap.size, 1, none⟩ = some (.slice none 0 0)) ∧ ∀ o, W.frozen? ⟨w.heap.size, o, none⟩ = false := two_cells h.2.1
theorem CurP.f (h : CurP b V all w x W c0 c1) : (W.cell? ⟨w.heap.size + 1, 0, none⟩ = some c0 ∧ W.cell? ⟨w.heap.size + 1, 1, none⟩ = some c1) ∧ ∀ o, W.frozen? ⟨w.heap.size + 1, o, none⟩ = false := two_cells h.2.2.1
theorem CurP.set (h : CurP b V all w x W c0 c1) (i : Nat) (u : Value) : Did b V all w x (W.setCell ⟨w.heap.size + 1, i, none⟩ u) ∧ (W.setCell ⟨w.heap.size + 1, i, none⟩ u).heap[w.heap.size]? = some pgBox :=
  ⟨h.1.set h.2.2.2.1 (by omega) (by have := h.lt; omega) i u, (Below.heap_setCell W _ u _ (by show w.heap.size ≠ w.heap.size + 1; omega)).trans h.2.1⟩
theorem CurP.set0 (h : CurP b V all w x W c0 c1) (u : Value) : CurP b V all w x (W.setCell ⟨w.heap.size + 1, 0, none⟩ u) u c1 := ⟨(h.set 0 u).1, (h.set 0 u).2, Lib.heap_setCell_same h.2.2.1 u, h.2.2.2⟩
theorem CurP.set1 (h : CurP b V all w x W c0 c1) (u : Value) : CurP b V all w x (W.setCell ⟨w.heap.size + 1, 1, none⟩ u) c0 u := ⟨(h.set 1 u).1, (h.set 1 u).2, Lib.heap_setCell_same h.2.2.1 u, h.2.2.2⟩
theorem CurP.fin (h : CurP b V all w y W c0 c1) {X : PR Pr} (hy : X.un = y) (hG : Got X fun a => FrG w.heap.size (_root_.Go.Proofs.YtakijoblbmfadaaGreatDoor.nest2 W w.heap.size c0 c1) a (.agg #[c0, c1])) :
    Gave b V all w X (FrG w.heap.size) (.returned (.agg #[c0, c1])) (_root_.Go.Proofs.YtakijoblbmfadaaGreatDoor.nest2 W w.heap.size c0 c1) :=
  ⟨_, rfl, hy ▸ (h.1.set h.2.2.2.1 (Nat.le_refl _) (by have := h.lt; omega) 0 c0).set h.2.2.2.1 (Nat.le_refl _) (by have := h.lt; omega) 1 c1, hG⟩
theorem CurP.read (h : CurP b V all w x W c0 c1) : ((W.setCell ⟨w.heap.size, 0, none⟩ c0).setCell ⟨w.heap.size, 1, none⟩ c1).cell? ⟨w.heap.size, 0, none⟩ = some c0 ∧ ((W.setCell ⟨w.heap.size, 0, none⟩ c0).setCell ⟨w.heap.size, 1, none⟩ c1).cell? ⟨w.heap.size, 1, none⟩ = some c1 := (two_cells (nest2_row h.2.1 c0 c1)).1
end
/-! ### plain -/
theorem got_eq {α β : Type} {x : PR α} {a0 : α} (h : Got x fun a => a = a0) (F : α → List Tok → PR β) : x.bind F = x.un.bind fun _ r => F a0 r := by
  cases x with
  | ok a r =>
    obtain rfl : a = a0 := h
    rfl
  | _ => rfl
/-- What a program goes on with behind a name. -/
def pgK (q : Nat) (p : Pr) (a : Pa) (r : List Tok) : PR Pr :=
  if a.type = 1 ∧ p.funcs = [] ∧ isS [91] r = true then (pArr a.name r.tail).bind fun x r => pPr q ⟨p.arrays ++ [x], p.funcs⟩ r
  else (pFn q a.type a.name r).bind fun f r => pPr q ⟨p.arrays, p.funcs ++ [f]⟩ r
theorem pPr_got {q : Nat} {p : Pr} {r : List Tok} (h : hdK r ≠ 3) : pPr (q + 1) p r = (parOne r).bind fun a r => pgK q p a r := by
  rw [pPr, if_neg h]
  unfold parOne
  simp only [bind_assoc]
  rfl
theorem pPr_end {q : Nat} {p : Pr} {r : List Tok} (h : hdK r = 3) : pPr (q + 1) p r = .ok p r := by rw [pPr, if_pos h]
/-! ### the round -/
theorem own_apart {w : World} {B : Nat} {e t : TypeId} {n m k l : Nat} {v u : Value} {xs ys : List Value} (h : w.ownsRow B e n v k xs) (g : w.ownsRow B t m u l ys) (hne : e ≠ t) : ∀ j, v.ownBlock = some j → u.ownBlock ≠ some j := by
  intro j hj
  rcases h.2 with ⟨rfl, _⟩ | ⟨g', cap, cur, rfl, h1, h2, _⟩
  · cases hj
  · injection hj with hj
    subst hj
    exact own_ne g (show Is w g' e cur from h2) (fun e => hne e.symm)
structure PgAt (b : Nat) (V : Value) (all : List Tok) (w : World) (y : PR Unit) (W : World) (va vf : Value) (ars : List Ar) (fs : List FuV) : Prop where
  cur : CurP b V all w y W va vf
  arr : OutK kA (w.heap.size + 2) W va ars
  fnc : OutK kF (w.heap.size + 2) W vf fs
  nil : fs = [] → vf = .slice none 0 0
section
variable {b : Nat} {V : Value} {all : List Tok} {w W W' : World} {x y : PR Unit} {va vf : Value} {ars : List Ar} {fs : List FuV}
theorem PgAt.step (h : PgAt b V all w x W va vf ars fs) (g : Did b V all W y W') : PgAt b V all w y W' va vf ars fs :=
  ⟨h.cur.step g, h.arr.keep (Keep.did g (by have := h.cur.lt; omega)), h.fnc.keep (Keep.did g (by have := h.cur.lt; omega)), h.nil⟩
theorem PgAt.drewN (h : PgAt b V all w x W va vf ars fs) (n : Nat) : PgAt b V all w x (W.drewN n) va vf ars fs := h.step ⟨h.cur.st.drewN n, (OffB.refl b _ W).drewN n⟩
theorem PgAt.drew (h : PgAt b V all w x W va vf ars fs) : PgAt b V all w x W.drew va vf ars fs := h.step ⟨h.cur.st.below (Below.refl _ _).drew, OffB.of_below (Below.refl _ _).drew h.cur.st.lt⟩
/-- An array more. -/
theorem PgAt.array {w5 : World} {v1 : Value} {a : Ar} (h : PgAt b V all w y W va vf ars []) (hg : (W.alloc (.cells #[.string a.name, .int .i64 a.size] 56)).grownBy w5 va.ownBlock) (hr : RowAt (W.alloc (.cells #[.string a.name, .int .i64 a.size] 56)) va v1)
    (ho : w5.ownsRow (w.heap.size + 2) 56 2 v1 (ars.length + 1) (ars.flatMap kA.cs ++ [.string a.name, .int .i64 a.size])) : CurP b V all w y w5 va vf ∧ PgAt b V all w y (w5.setCell ⟨w.heap.size + 1, 0, none⟩ v1) v1 vf (ars ++ [a]) [] := by
  have hC := h.cur
  have hal : Below W.heap.size W (W.alloc (.cells #[.string a.name, .int .i64 a.size] 56)) := (Below.refl _ _).alloc (Nat.le_refl _) _
  have hO1 : OutK kA (w.heap.size + 2) w5 v1 (ars ++ [a]) := h.arr.app (L := W.heap.size) trivial (by have := hC.size; omega) (fun k hk => (h.arr.own k hk).1) hal hg hr ho
  have hown : ∀ j, va.ownBlock = some j → w.heap.size + 2 ≤ j := fun j hj => (h.arr.own j hj).2
  have hblk : ∀ j, j < W.heap.size → j < w.heap.size + 2 → w5.heap[j]? = W.heap[j]? := fun j hj hj2 => (hg.block j (Nat.lt_of_lt_of_le hj hal.size) (fun e => by have := hown j e.symm; omega)).trans (hal.block j hj)
  have hz := hC.size
  have hbl := hC.lt
  have hoff : OffB b w.heap.size w w5 := hC.did.off.trans (OffB.mk' (hg.os.trans hal.os) (hg.tape.trans hal.tape) (hg.output.trans hal.output) (Nat.le_trans hal.size hg.size) hC.st.lt fun j hj _ => hblk j (by have := hC.did.off.size; omega) (by omega))
  have hC1 : CurP b V all w y w5 va vf := ⟨⟨hC.st.move hC.2.2.2.1 hoff (hblk b hC.st.lt (by omega)), hoff⟩, (hblk _ (by omega) (by omega)).trans hC.2.1, (hblk _ hz (by omega)).trans hC.2.2.1, hC.2.2.2⟩
  refine ⟨hC1, hC1.set0 v1, hO1.keep (Keep.set (by omega) 0 v1), ?_, h.nil⟩
  rw [h.nil rfl]
  exact OutK.nil _ _ _
/-- A function more. -/
theorem PgAt.func {w5 : World} {v1 : Value} {s : ByteArray} {t : Int} {v2 v3 : Value} (h : PgAt b V all w y W va vf ars fs) (hg : (W.alloc (.cells #[.string s, .int .i64 t, v2, v3] 46)).grownBy w5 vf.ownBlock) (hr : RowAt (W.alloc (.cells #[.string s, .int .i64 t, v2, v3] 46)) vf v1)
    (ho : w5.ownsRow (w.heap.size + 2) 46 4 v1 (fs.length + 1) (fs.flatMap kF.cs ++ [.string s, .int .i64 t, v2, v3])) {L : Nat} (hL : w.heap.size + 2 ≤ L) (hL2 : ∀ k, vf.ownBlock = some k → k < L) :
    CurP b V all w y w5 va vf ∧ ∀ f, FrF L W f (.agg #[.string s, .int .i64 t, v2, v3]) → ∃ q : FuV, q.f = f ∧ PgAt b V all w y (w5.setCell ⟨w.heap.size + 1, 1, none⟩ v1) va v1 ars (fs ++ [q]) := by
  have hC := h.cur
  have hal : Below W.heap.size W (W.alloc (.cells #[.string s, .int .i64 t, v2, v3] 46)) := (Below.refl _ _).alloc (Nat.le_refl _) _
  have hown : ∀ j, vf.ownBlock = some j → w.heap.size + 2 ≤ j := fun j hj => (h.fnc.own j hj).2
  have hblk0 : ∀ j, j < W.heap.size → vf.ownBlock ≠ some j → w5.heap[j]? = W.heap[j]? := fun j hj hj2 => (hg.block j (Nat.lt_of_lt_of_le hj hal.size) (fun e => hj2 e.symm)).trans (hal.block j hj)
  have hblk : ∀ j, j < W.heap.size → j < w.heap.size + 2 → w5.heap[j]? = W.heap[j]? := fun j hj hj2 => hblk0 j hj (fun e => by have := hown j e; omega)
  have hz := hC.size
  have hbl := hC.lt
  have hoff : OffB b w.heap.size w w5 := hC.did.off.trans (OffB.mk' (hg.os.trans hal.os) (hg.tape.trans hal.tape) (hg.output.trans hal.output) (Nat.le_trans hal.size hg.size) hC.st.lt fun j hj _ => hblk j (by have := hC.did.off.size; omega) (by omega))
  have hC1 : CurP b V all w y w5 va vf := ⟨⟨hC.st.move hC.2.2.2.1 hoff (hblk b hC.st.lt (by omega)), hoff⟩, (hblk _ (by omega) (by omega)).trans hC.2.1, (hblk _ hz (by omega)).trans hC.2.2.1, hC.2.2.2⟩
  refine ⟨hC1, fun f hf => ?_⟩
  obtain ⟨u2, u3, hv, h2, h3⟩ := hf
  simp only [Value.agg.injEq, Array.mk.injEq, List.cons.injEq, Value.int.injEq, Value.string.injEq, true_and, and_true] at hv
  obtain ⟨rfl, rfl, rfl, rfl⟩ := hv
  have hO1 : OutK kF (w.heap.size + 2) w5 v1 (fs ++ [⟨f, v2, v3⟩]) := h.fnc.app (K := kF) (L := L) (p := (⟨f, v2, v3⟩ : FuV)) (show SlP W.heap.size (mask (low L) W) v2 f.params ∧ SlS W.heap.size (mask (low L) W) v3 f.body from ⟨h2, h3⟩) hL hL2 hal hg hr ho
  have hA : OutK kA (w.heap.size + 2) w5 va ars := by
    refine ⟨own_keep h.arr.1 fun j hj => hblk0 j (h.arr.own j hj).1 ?_, fun p hp => trivial⟩
    exact own_apart h.arr.1 h.fnc.1 (by decide) j hj
  exact ⟨⟨f, v2, v3⟩, rfl, hC1.set1 v1, hA.keep (Keep.set (by omega) 1 v1), hO1.keep (Keep.set (by omega) 1 v1), fun e => absurd e (by simp)⟩
end
theorem RdA.imp {B B' : Nat} {w w' : World} (hc : ∀ g o u, CellB B w g o u → CellB B' w' g o u) (a : Ar) (g o : Nat) (h : RdA B w a g o) : RdA B' w' a g o := ⟨hc _ _ _ h.1, hc _ _ _ h.2⟩
theorem SlA.imp {B B' : Nat} {w w' : World} (hc : ∀ g o u, CellB B w g o u → CellB B' w' g o u) {v : Value} {l : List Ar} (h : SlA B w v l) : SlA B' w' v l := SlB.imp h fun g o => RdL.imp (fun a g o => RdA.imp hc a g o) l g o
theorem RdF.imp {B B' : Nat} {w w' : World} (hc : ∀ g o u, CellB B w g o u → CellB B' w' g o u) (a : Fu) (g o : Nat) (h : RdF B w a g o) : RdF B' w' a g o := by
  obtain ⟨h0, h1, ⟨v, h2, h3⟩, ⟨v', h4, h5⟩⟩ := h
  exact ⟨hc _ _ _ h0, hc _ _ _ h1, ⟨v, hc _ _ _ h2, h3.imp hc⟩, ⟨v', hc _ _ _ h4, h5.imp hc⟩⟩
theorem SlF.imp {B B' : Nat} {w w' : World} (hc : ∀ g o u, CellB B w g o u → CellB B' w' g o u) {v : Value} {l : List Fu} (h : SlF B w v l) : SlF B' w' v l := SlB.imp h fun g o => RdL.imp (fun a g o => RdF.imp hc a g o) l g o
def PgRel (b : Nat) (V : Value) (all : List Tok) (w : World) (T : PR Pr) (n : Nat) (wr : World) : Prop :=
  ∃ (m : Nat) (ars : List Ar) (fs : List FuV) (y : PR Unit) (va vf : Value), m ≤ n ∧ PgAt b V all w y wr va vf ars fs ∧ T = y.bind (fun _ r => pPr m ⟨ars, fs.map (·.f)⟩ r) ∧ (isOver y = false → ars.length + fs.length ≤ atOf b wr) ∧ ars.length + fs.length ≤ 2000000
theorem pg_end {b : Nat} {V : Value} {all : List Tok} {w W : World} {y : PR Unit} {va vf : Value} {ars : List Ar} {fs : List FuV} {T : PR Pr} (h : PgAt b V all w y W va vf ars fs) (hn : ars.length + fs.length ≤ 2000000) (hT : T = y.bind fun _ r => .ok ⟨ars, fs.map (·.f)⟩ r) : Gave b V all w T (FrG w.heap.size) (.returned (.agg #[va, vf])) (nest2 W w.heap.size va vf) := by
  subst hT
  have hk : Keep (w.heap.size + 2) W (nest2 W w.heap.size va vf) := Keep.nest2 (by omega) _ _
  have ha := (h.arr.keep hk).arrays (by omega)
  have hf := (h.fnc.keep hk).funcs (by omega)
  have hl : ∀ g o u, CellB (nest2 W w.heap.size va vf).heap.size (mask (low (w.heap.size + 2)) (nest2 W w.heap.size va vf)) g o u → CellB (nest2 W w.heap.size va vf).heap.size (mask (low w.heap.size) (nest2 W w.heap.size va vf)) g o u := (Keep.refl (w.heap.size + 2) _).cells (by omega)
  have hg : FrG w.heap.size (nest2 W w.heap.size va vf) ⟨ars, fs.map (·.f)⟩ (.agg #[va, vf]) := ⟨va, vf, rfl, SlA.imp hl ha, SlF.imp hl hf⟩
  refine h.cur.fin ?_ ?_
  · rw [un_bind]
    cases y <;> rfl
  · cases y with
    | ok u r => exact hg
    | bad r => exact ⟨_, hg⟩
    | deep r => exact ⟨_, hg⟩
    | out => trivial
theorem got_pick {α : Type} {Y : PR α} {P : α → Prop} (h : Got Y P) (he : Ends Y) : ∃ a, P a ∧ ∀ {β : Type} (F : α → List Tok → PR β), Y.bind F = Y.un.bind fun _ r => F a r := by
  cases Y with
  | ok a r => exact ⟨a, h, fun F => rfl⟩
  | bad r => obtain ⟨a, ha⟩ := h; exact ⟨a, ha, fun F => rfl⟩
  | deep r => obtain ⟨a, ha⟩ := h; exact ⟨a, ha, fun F => rfl⟩
  | out => exact absurd he id
theorem pgK_fn {q : Nat} {p : Pr} {a : Pa} {z : PR Unit} (hc : ¬ (a.type = 1 ∧ p.funcs = [] ∧ isAt [91] z = true)) : (z.bind fun _ r => pgK q p a r) = (z.bind fun _ r => pFn q a.type a.name r).bind fun f r => pPr q ⟨p.arrays, p.funcs ++ [f]⟩ r := by
  cases z with
  | ok u r =>
    show pgK q p a r = (pFn q a.type a.name r).bind _
    unfold pgK
    exact congrArg id (if_neg hc)
  | _ => rfl
theorem pgK_arr {q : Nat} {p : Pr} {a : Pa} {r : List Tok} (h1 : a.type = 1) (h2 : p.funcs = []) (h3 : isS [91] r = true) : pgK q p a r = (pArr a.name r.tail).bind fun x r => pPr q ⟨p.arrays ++ [x], p.funcs⟩ r := by
  unfold pgK
  rw [if_pos ⟨h1, h2, h3⟩]
theorem fits_at {α : Type} {b : Nat} {V : Value} {all r : List Tok} {W : World} {X : PR α} (hF : Fits 1 r X) (hs : StP b V all X.un W) (hrl : r.length ≤ all.length) (hrp : 0 < r.length) :
    2 * (all.length - atOf b W) + liveN b W < 2 * r.length + 1 ∧ (isOver X.un = false → all.length - r.length + 1 ≤ atOf b W) := by
  cases X with
  | ok a r2 =>
    have hp : Pbox b V all r2 false false W := hs
    have hao := atOf_box hp
    have hl := (show RestOf 1 r r2 from hF).2.2
    have hlv := liveN_le b W
    exact ⟨by omega, fun _ => by omega⟩
  | bad r2 =>
    have hp : Pbox b V all r2 true false W := hs
    have hao := atOf_box hp
    have hl := (show RestOf 0 r r2 from hF).2.2
    have hlv := liveN_over hs rfl
    exact ⟨by omega, fun h => by cases h⟩
  | deep r2 =>
    have hp : Pbox b V all r2 false true W := hs
    have hao := atOf_box hp
    have hl := (show RestOf 0 r r2 from hF).2.2
    have hlv := liveN_over hs rfl
    exact ⟨by omega, fun h => by cases h⟩
  | out => exact absurd hs id
theorem pg_rel {α : Type} {b : Nat} {V : Value} {all r : List Tok} {w W : World} {va vf : Value} {ars : List Ar} {fs : List FuV} {T : PR Pr} {X : PR α} {q n : Nat} (hq : q ≤ n) (hF : Fits 1 r X) (hP : PgAt b V all w X.un W va vf ars fs) (hT : T = X.un.bind fun _ r => pPr q ⟨ars, fs.map (·.f)⟩ r)
    (hrl : r.length ≤ all.length) (hrp : 0 < r.length) (hc : ars.length + fs.length ≤ all.length - r.length + 1) (hal : all.length ≤ 1000000) : PgRel b V all w T n W ∧ 2 * (all.length - atOf b W) + liveN b W < 2 * r.length + 1 := by
  obtain ⟨h1, h2⟩ := fits_at hF hP.cur.st hrl hrp
  exact ⟨⟨q, ars, fs, _, va, vf, hq, hP, hT, fun ho => by have := h2 ho; omega, by omega⟩, h1⟩
theorem parOne_live {r : List Tok} {a : Pa} {r1 : List Tok} (h : (parOne r).un = .ok () r1) (hg : Got (parOne r) fun p => p = a) (he : EndL r) : parOne r = .ok a r1 ∧ RestOf 1 r r1 := by
  obtain ⟨a', h2⟩ := un_ok h
  have hF := parOne_fits he
  rw [h2] at hg hF
  obtain rfl : a' = a := hg
  exact ⟨h2, hF⟩
theorem un_fits {α : Type} {k : Nat} {l : List Tok} {x : PR α} (h : Fits k l x) : Fits k l x.un := by
  cases x with
  | ok a r => exact h
  | bad r => exact h
  | deep r => exact h
  | out => trivial
theorem rvalue_is (s : ByteArray) (nv : Int) (w : World) (hs : s.size ≤ 281474976710656) (hn : numB s.data.toList = true) (h : nv = (decV 0 s.data.toList : Nat)) :
    Calls Tryz.prog 49 #[.string s] w fun e w' => e = .returned (.int .i64 nv) ∧ w = w' := by
  subst h
  exact rvalue_num s w hs hn
set_option maxHeartbeats 6400000 in
set_option maxRecDepth 100000 in
theorem prog_any {b : Nat} {V : Value} {all : List Tok} {n : Nat} {x : PR Unit} {w : World} (h : StP b V all x w) (hn : Ends (x.bind fun _ r => pPr n ⟨[], []⟩ r)) :
    Calls Tryz.prog 27 #[.pointer (some ⟨b, 0, none⟩)] w (Gave b V all w (x.bind fun _ r => pPr n ⟨[], []⟩ r) (FrG w.heap.size)) := by
  obtain ⟨T, hT⟩ : ∃ T, (x.bind fun _ r => pPr n ⟨[], []⟩ r) = T := ⟨_, rfl⟩
  rw [hT] at hn ⊢
  have HTE := Lib.hid hn
  have HT0 := Lib.hid hT.symm
  have HP := Lib.hid (show PgAt b V all w x ((w.alloc pgBox).alloc pgBox) (.slice none 0 0) (.slice none 0 0) [] [] from ⟨CurP.start h, OutK.nil _ _ _, OutK.nil _ _ _, fun _ => rfl⟩)
  have hbw := h.lt
  clear h hn hT
  go_enter Tryz.func27, Tryz.ntmps27
  go_wp2
  go_loopw [4] (fun _ wr => PgRel b V all w T n wr) (fun _ wr => 2 * (all.length - atOf b wr) + liveN b wr)
  case atStart => exact ⟨n, [], [], x, _, _, Nat.le_refl _, HP.out, HT0.out, fun _ => Nat.zero_le _, by simp⟩
  case round =>
    obtain ⟨i0, hi0, hz0, hz1, hz2⟩ := info_parts ar_info
    have HI0 := Lib.hid (And.intro hi0 (And.intro hz0 (And.intro hz1 hz2)))
    obtain ⟨i1, hi1, hy0, hy1, hy2⟩ := info_parts fu_info
    have HI1 := Lib.hid (And.intro hi1 (And.intro hy0 (And.intro hy1 hy2)))
    clear hi0 hz0 hz1 hz2 hi1 hy0 hy1 hy2
    obtain ⟨m, ars, fs, y, va, vf, hmn, hP, hT, hacc, hac2⟩ := hrel
    replace HP := Lib.hid hP
    cases ho : isOver y with
    | true =>
      have HTT := Lib.hid (show T = y.bind fun _ r => .ok ⟨ars, fs.map (·.f)⟩ r from hT.trans (over_bind ho _ _))
      have HOV := Lib.hid ho
      obtain ⟨r0, bd, dp, hp, _, _⟩ := hP.cur.st.box
      obtain ⟨g, c, k, t, q, rfl, rfl, hk, hklt, hl, b0, b1, b2, b3, t0, t1, t2⟩ := hp.tok
      have hklt2 : (k : Int) < all.length := by omega
      clear hk hp ho hT hacc hP
      go_wp2
      go_quiet ((go_at_call 45; exact Calls.quiet_of_same (over_is (HP.out.drewN _).cur.st true HOV.out)))
      replace HP := Lib.hid (HP.out.drewN nq)
      clear b0 b1 b2 b3 t0 t1 t2
      obtain ⟨⟨p0, p1⟩, pz⟩ := HP.out.cur.f
      obtain ⟨⟨q0, q1⟩, qz⟩ := HP.out.cur.own
      obtain ⟨A0, cp0, rfl⟩ := HP.out.arr.form
      obtain ⟨A1, cp1, rfl⟩ := HP.out.fnc.form
      go_wp2_with (fail)
      obtain ⟨f0, f1⟩ := HP.out.cur.read
      refine bodyPost_ret (v := .agg #[.slice A0 ars.length cp0, .slice A1 fs.length cp1]) (by simp [results, Tryz.results27, go_sem, f0, f1]) rfl ?_
      exact pg_end HP.out hac2 HTT.out
    | false =>
      obtain ⟨r, rfl⟩ : ∃ r, y = .ok () r := by
        cases y with
        | ok u r => exact ⟨r, rfl⟩
        | bad r => cases ho
        | deep r => cases ho
        | out => exact absurd hP.cur.st id
      obtain ⟨hat, hrl, hal, hen, hrp⟩ := box_facts hP.cur.did
      have hacc9 := hacc rfl
      rw [hat] at hacc9
      have hlv := liveN_ok (show Pbox b V all r false false wr from hP.cur.st)
      obtain ⟨q, rfl⟩ : ∃ q, m = q + 1 := by
        cases m with
        | zero => have h1 := HTE.out; rw [hT] at h1; exact absurd (show Ends (pPr 0 ⟨ars, fs.map (·.f)⟩ r) from h1) (by rw [pPr]; exact id)
        | succ q => exact ⟨q, rfl⟩
      have hT2 : T = pPr (q + 1) ⟨ars, fs.map (·.f)⟩ r := hT
      obtain ⟨g, c, k, t, tq, rfl, htq, hk, hklt, hl, b0, b1, b2, b3, t0, t1, t2⟩ := (show Pbox b V all r false false wr from hP.cur.st).tok
      have hklt2 : (k : Int) < all.length := by omega
      have hkk : hdK r = t.kind := by rw [htq]; rfl
      cases hk3 : decide (t.kind = 3) with
      | true =>
        have e3 : t.kind = 3 := of_decide_eq_true hk3
        have hk0 : (t.kind != 3) = false := by simpa using hk3
        have HTT := Lib.hid (show T = (PR.ok () r).bind fun _ r => .ok ⟨ars, fs.map (·.f)⟩ r from hT2.trans (pPr_end (hkk.trans e3)))
        clear hk ho hT hT2 hacc hP hk3 e3 hlv hat hkk htq hen
        go_wp2
        go_quiet ((go_at_call 45; exact Calls.quiet_of_same (over_is (HP.out.drewN _).cur.st false rfl)))
        replace HP := Lib.hid (HP.out.drewN nq)
        clear b0 b1 b2 b3 t0 t1 t2
        obtain ⟨⟨p0, p1⟩, pz⟩ := HP.out.cur.f
        obtain ⟨⟨q0, q1⟩, qz⟩ := HP.out.cur.own
        obtain ⟨A0, cp0, rfl⟩ := HP.out.arr.form
        obtain ⟨A1, cp1, rfl⟩ := HP.out.fnc.form
        go_wp2_with (fail)
        obtain ⟨f0, f1⟩ := HP.out.cur.read
        refine bodyPost_ret (v := .agg #[.slice A0 ars.length cp0, .slice A1 fs.length cp1]) (by simp [results, Tryz.results27, go_sem, f0, f1]) rfl ?_
        exact pg_end HP.out hac2 HTT.out
      | false =>
        have e3 : ¬ t.kind = 3 := of_decide_eq_false hk3
        have hk0 : (t.kind != 3) = true := by simpa using hk3
        have HT := Lib.hid (hT2.trans (pPr_got (hkk ▸ e3)))
        have HEN := Lib.hid hen
        have HAT := Lib.hid hat
        have HLV := Lib.hid hlv
        clear hk ho hT hT2 hacc hP hk3 e3 hlv hat hkk htq hen
        go_wp2
        go_quiet ((go_at_call 45; exact Calls.quiet_of_same (over_is (HP.out.drewN _).cur.st false rfl)))
        replace HP := Lib.hid (HP.out.drewN nq)
        clear b0 b1 b2 b3 t0 t1 t2
        go_wp2_with (first
          | (go_at_call 46; (with_reducible refine (typed_any HP.out.cur.st).mono ?_); rintro e w3 ⟨tv0, rfl, hD, hG⟩
             obtain ⟨tv, rfl, hG2⟩ := ty_got (r := r) hG
             have HGT := Lib.hid hG2
             replace HP := Lib.hid (show PgAt b _ all w (pTy r).un w3 _ _ _ _ from HP.out.step hD)
             clear hD hG hG2))
        go_at_call 47
        (with_reducible refine (text_any HP.out.cur.st 1 (by decide)).mono ?_)
        rintro e w4 ⟨s', rfl, hD, hG⟩
        have HGS := Lib.hid (parOne_got HGT.out hG)
        replace HP := Lib.hid (show PgAt b _ all w (parOne r).un w4 _ _ _ _ from (parOne_un r).symm ▸ HP.out.step hD)
        replace HT := Lib.hid (HT.out.trans (got_eq HGS.out _))
        clear hD hG HGT
        have hbw4 := HP.out.cur.st.lt
        dsimp only
        by_cases hA : tv = 1 ∧ fs = [] ∧ isAt [91] (parOne r).un = true
        · obtain ⟨rfl, rfl, h91⟩ := hA
          obtain ⟨r1, hz, hs1⟩ := isAt_ok h91
          obtain ⟨hp1, hR1⟩ := parOne_live hz HGS.out HEN.out
          have hvf : vf = .slice none 0 0 := HP.out.nil rfl
          subst hvf
          have hT3 : T = (pArr s' r1.tail).bind fun x r => pPr q ⟨ars ++ [x], []⟩ r := by
            rw [HT.out, hz]
            exact pgK_arr rfl rfl hs1
          rw [hz] at HP
          have hR2 : RestOf 1 r r1.tail := (hR1.trans (RestOf.sign hR1.2.1 hs1)).mono (by omega)
          obtain ⟨r2, hr2⟩ : ∃ r2, r2 = r1.tail := ⟨_, rfl⟩
          rw [← hr2] at hT3 hR2
          have HR2 := Lib.hid hr2
          have HRR := Lib.hid hR2
          have HY := Lib.hid (show isAt (⟨#[91]⟩ : ByteArray).data.toList (PR.ok () r1) = true from hs1)
          have HT3 := Lib.hid hT3
          have HEN2 := Lib.hid hR2.2.1
          obtain ⟨⟨p0, p1⟩, pz⟩ := HP.out.cur.f
          clear hz hp1 hR1 hT3 hr2 hR2 hs1 h91
          by_cases hnum : hdK r2 = 0
          · obtain ⟨sn, hsn⟩ : ∃ sn : ByteArray, sn = ⟨(hdT r2).toArray⟩ := ⟨_, rfl⟩
            have HSN := Lib.hid hsn
            have HNUM := Lib.hid hnum
            have HNB := Lib.hid (show sn.size ≤ 281474976710656 ∧ numB sn.data.toList = true by
              rw [hsn]
              have hp2 : Pbox b _ all r1 false false w4 := HP.out.cur.st
              have hp3 := (Pbox.next hp2 (by rw [(isS_kind (show isS [91] r1 = true from HY.out)).1]; decide))
              rw [← HR2.out] at hp3
              obtain ⟨h1, h2, _⟩ := hp3.num hnum
              exact ⟨h1, h2⟩)
            obtain ⟨nv, hnv⟩ : ∃ nv : Int, nv = (decV 0 sn.data.toList : Nat) := ⟨_, rfl⟩
            have HNV := Lib.hid hnv
            have HTY := Lib.hid (show T = ((((PR.ok () r2.tail).bind fun _ r => must [93] r).bind fun _ r => must [59] r)).un.bind fun _ r => pPr q ⟨ars ++ [⟨s', nv⟩], ([] : List FuV).map (·.f)⟩ r by
              rw [HT3.out, un_unit, hnv, hsn]
              unfold pArr want
              rw [if_pos hnum]
              show ((must [93] r2.tail).bind fun _ r => (must [59] r).bind fun _ r => PR.ok _ r).bind _ = ((must [93] r2.tail).bind fun _ r => must [59] r).bind _
              simp only [bind_assoc]
              rfl)
            clear hsn hnum hnv
            go_wp2_with (first
            | (go_at_call 48; (with_reducible refine (take_yes HP.out.cur.st _ HY.out).mono ?_); rintro e w5 ⟨rfl, hD⟩
               replace HP := Lib.hid (show PgAt b _ all w (.ok () r2) w5 _ _ _ _ by rw [HR2.out]; exact HP.out.step hD)
               clear hD)
            | (go_at_call 47; (with_reducible refine (text_yes HP.out.cur.st 0 (by decide) HNUM.out sn HSN.out).mono ?_); rintro e w6 ⟨rfl, hD⟩
               replace HP := Lib.hid (show PgAt b _ all w (.ok () r2.tail) w6 _ _ _ _ from HP.out.step hD)
               clear hD)
            | (go_at_call 49; (with_reducible refine (rvalue_is sn _ _ HNB.out.1 HNB.out.2 HNV.out).mono ?_); rintro e w6 ⟨rfl, rfl⟩)
            | (go_at_call 50; (with_reducible refine (must_any HP.out.cur.st ⟨#[93]⟩).mono ?_); rintro e w7 ⟨rfl, hD⟩
               replace HP := Lib.hid (show PgAt b _ all w ((PR.ok () r2.tail).bind fun _ r => must [93] r) w7 _ _ _ _ from HP.out.step hD)
               clear hD)
            | (go_at_call 50; (with_reducible refine (must_any HP.out.cur.st ⟨#[59]⟩).mono ?_); rintro e w8 ⟨rfl, hD⟩
               replace HP := Lib.hid (show PgAt b _ all w (((PR.ok () r2.tail).bind fun _ r => must [93] r).bind fun _ r => must [59] r) w8 _ _ _ _ from HP.out.step hD)
               obtain ⟨⟨p0, p1⟩, pz⟩ := HP.out.cur.f
               obtain ⟨A0, cp0, rfl⟩ := HP.out.arr.form
               have HPRE := Lib.hid (HP.out.arr.pre [.string s', .int .i64 (nv)] (by have := HP.out.cur.size; omega))
               clear hD)
            | (at_builtin; refine list_append_at rfl (.tmp 48) (.tmp 52) _ rfl (w.heap.size + 2) 56 i0 _ 2 24 Tryz.underlying32 HI0.out.1 HI0.out.2.1 HI0.out.2.2.1 HI0.out.2.2.2 rfl (by omega) (.slice A0 ars.length cp0) ars.length _ rfl (by exact HPRE.out.1) ⟨w8.heap.size, 0, none⟩ 1 1 [.string s', .int .i64 (nv)] rfl rfl (by exact HPRE.out.2.1) (by simp [Value.oneCell']) (by simp only [maxLen]; omega) (by omega) (by exact HPRE.out.2.2) (by omega) ?_
               intro v1 w9 hown1 hg1 hr1
               obtain ⟨A1, cp1, rfl⟩ := own_form hown1
               have HX1 := Lib.hid (HP.out.array (a := ⟨s', nv⟩) hg1 hr1 hown1)
               have fz9 := HX1.out.1.f.2
               have k9 := HX1.out.1.f.1.1
               clear hown1 hg1 hr1))
            have HZ := Lib.hid (pg_rel (q := q) (n := n) (X := ((PR.ok () r2.tail).bind fun _ r => must [93] r).bind fun _ r => must [59] r) (by omega) (Fits.from HRR.out (Fits.from (n := 0) (RestOf.tail HEN2.out (by rw [HNUM.out]; decide)) ((must_fits (HEN2.out.tail (by rw [HNUM.out]; decide)) _).bind (m := 0) (n := 0) (fun _ r _ hr => (must_fits hr _).mono (by omega)) (by omega)) (by omega)) (by omega)) (un_unit (((PR.ok () r2.tail).bind fun _ r => must [93] r).bind fun _ r => must [59] r) ▸ HX1.out.2) HTY.out hrl hrp (by simp at hacc9 ⊢; omega) hal)
            go_roundw
            case rel => exact HZ.out.1
            case measure =>
              have h1 := HZ.out.2
              have h2 := HAT.out
              have h3 := HLV.out
              simp only [h2, h3] at *
              omega
          · have HNUM := Lib.hid hnum
            have HTY := Lib.hid (show T = ((((PR.bad r2 : PR Unit).bind fun _ r => must [93] r).bind fun _ r => must [59] r)).un.bind fun _ r => pPr q ⟨ars ++ [⟨s', -1⟩], ([] : List FuV).map (·.f)⟩ r by
              rw [HT3.out]
              unfold pArr want
              rw [if_neg hnum]
              rfl)
            clear hnum
            go_wp2_with (first
            | (go_at_call 48; (with_reducible refine (take_yes HP.out.cur.st _ HY.out).mono ?_); rintro e w5 ⟨rfl, hD⟩
               replace HP := Lib.hid (show PgAt b _ all w (.ok () r2) w5 _ _ _ _ by rw [HR2.out]; exact HP.out.step hD)
               clear hD)
            | (go_at_call 47; (with_reducible refine (text_nil HP.out.cur.st 0 HNUM.out).mono ?_); rintro e w6 ⟨rfl, hD⟩
               replace HP := Lib.hid (show PgAt b _ all w (.bad r2) w6 _ _ _ _ from HP.out.step hD)
               clear hD)
            | (go_at_call 49; (with_reducible refine (rvalue_nil _).mono ?_); rintro e w6 ⟨rfl, rfl⟩)
            | (go_at_call 50; (with_reducible refine (must_any HP.out.cur.st ⟨#[93]⟩).mono ?_); rintro e w7 ⟨rfl, hD⟩
               replace HP := Lib.hid (show PgAt b _ all w ((PR.bad r2 : PR Unit).bind fun _ r => must [93] r) w7 _ _ _ _ from HP.out.step hD)
               clear hD)
            | (go_at_call 50; (with_reducible refine (must_any HP.out.cur.st ⟨#[59]⟩).mono ?_); rintro e w8 ⟨rfl, hD⟩
               replace HP := Lib.hid (show PgAt b _ all w (((PR.bad r2 : PR Unit).bind fun _ r => must [93] r).bind fun _ r => must [59] r) w8 _ _ _ _ from HP.out.step hD)
               obtain ⟨⟨p0, p1⟩, pz⟩ := HP.out.cur.f
               obtain ⟨A0, cp0, rfl⟩ := HP.out.arr.form
               have HPRE := Lib.hid (HP.out.arr.pre [.string s', .int .i64 (-1)] (by have := HP.out.cur.size; omega))
               clear hD)
            | (at_builtin; refine list_append_at rfl (.tmp 48) (.tmp 52) _ rfl (w.heap.size + 2) 56 i0 _ 2 24 Tryz.underlying32 HI0.out.1 HI0.out.2.1 HI0.out.2.2.1 HI0.out.2.2.2 rfl (by omega) (.slice A0 ars.length cp0) ars.length _ rfl (by exact HPRE.out.1) ⟨w8.heap.size, 0, none⟩ 1 1 [.string s', .int .i64 (-1)] rfl rfl (by exact HPRE.out.2.1) (by simp [Value.oneCell']) (by simp only [maxLen]; omega) (by omega) (by exact HPRE.out.2.2) (by omega) ?_
               intro v1 w9 hown1 hg1 hr1
               obtain ⟨A1, cp1, rfl⟩ := own_form hown1
               have HX1 := Lib.hid (HP.out.array (a := ⟨s', -1⟩) hg1 hr1 hown1)
               have fz9 := HX1.out.1.f.2
               have k9 := HX1.out.1.f.1.1
               clear hown1 hg1 hr1))
            have HZ := Lib.hid (pg_rel (q := q) (n := n) (X := ((PR.bad r2 : PR Unit).bind fun _ r => must [93] r).bind fun _ r => must [59] r) (by omega) (show RestOf 0 r r2 from HRR.out.mono (by omega)) (un_unit (((PR.bad r2 : PR Unit).bind fun _ r => must [93] r).bind fun _ r => must [59] r) ▸ HX1.out.2) HTY.out hrl hrp (by simp at hacc9 ⊢; omega) hal)
            go_roundw
            case rel => exact HZ.out.1
            case measure =>
              have h1 := HZ.out.2
              have h2 := HAT.out
              have h3 := HLV.out
              simp only [h2, h3] at *
              omega
        · have hT4 := HT.out.trans (pgK_fn (q := q) (p := ⟨ars, fs.map (·.f)⟩) (a := ⟨s', tv⟩) (z := (parOne r).un) (fun h => hA ⟨h.1, by simpa using h.2.1, h.2.2⟩))
          have HT4 := Lib.hid hT4
          have HNF := Lib.hid (show Ends ((parOne r).un.bind fun _ r => pFn q tv s' r) by have h1 := HTE.out; rw [hT4] at h1; exact ends_left h1)
          clear hT4
          obtain ⟨⟨p0, p1⟩, pz⟩ := HP.out.cur.f
          by_cases h1 : tv = 1
          · subst h1
            cases fs with
            | nil =>
              have hvf : vf = .slice none 0 0 := HP.out.nil rfl
              subst hvf
              obtain ⟨fs, hfs⟩ : ∃ fs : List FuV, fs = [] := ⟨_, rfl⟩
              rw [← hfs] at HP HT4 hacc9 hac2
              clear hfs
              have HY := Lib.hid (show isAt (⟨#[91]⟩ : ByteArray).data.toList (parOne r).un = false by
                cases h : isAt [91] (parOne r).un with
                | true => exact absurd ⟨rfl, rfl, h⟩ hA
                | false => rfl)
              clear hA
              go_wp2_with (first
                | (go_at_call 48; (with_reducible refine (take_no' HP.out.cur.st _ HY.out).mono ?_); rintro e w5 ⟨rfl, hD⟩
                   replace HP := Lib.hid (HP.out.step hD)
                   obtain ⟨⟨p0, p1⟩, pz⟩ := HP.out.cur.f
                   clear hD))
              have HPO := Lib.hid HP.out.fnc.own
              go_region_law (first
                | (refine step_append_at rfl (.tmp 56) (.tmp 61) _ rfl (w.heap.size + 2) 46 i1 _ 4 72 Tryz.underlying33 HI1.out.1 HI1.out.2.1 HI1.out.2.2.1 HI1.out.2.2.2 rfl (by omega) (.slice none 0 0) fs.length _ rfl (by exact HPRE.out.1) ⟨w6.heap.size, 0, none⟩ 1 1 [.string sF, .int .i64 tF, .slice A2 m2 q2, .slice A3 m3 q3] rfl rfl (by exact HPRE.out.2.1) (by simp [Value.oneCell']) (by simp only [maxLen]; omega) (by omega) (by exact HPRE.out.2.2) (by omega) ?_
                   intro v1 w7 hown1 hg1 hr1
                   obtain ⟨A4, cp4, rfl⟩ := own_form hown1
                   have HX1 := Lib.hid (HP6.out.func (L := w5.heap.size) hg1 hr1 hown1 HL6.out fun k hk => (HPO.out k hk).1)
                   have hk7 : w7.cell? ⟨w.heap.size + 1, 1, none⟩ = some (.slice none 0 0) := HX1.out.1.f.1.2
                   have fz7 := HX1.out.1.f.2
                   clear hown1 hg1 hr1)
                | (go_simp; go_at_call 51; (refine (pfn_any HP.out.drew.cur.st HNF.out).mono ?_); rintro e w6 ⟨v, rfl, hD, hG⟩
                   obtain ⟨sF, tF, A2, m2, q2, A3, m3, q3, rfl⟩ := gotf_form hG HNF.out
                   have HG := Lib.hid hG
                   have HP6 := Lib.hid (HP.out.drew.step hD)
                   have HL6 := Lib.hid (show w.heap.size + 2 ≤ w5.heap.size from HP.out.cur.size)
                   have hk7 : w6.cell? ⟨w.heap.size + 1, 1, none⟩ = some (.slice none 0 0) := HP6.out.cur.f.1.2
                   have hk8 : (w6.alloc (.cells #[.string sF, .int .i64 tF, .slice A2 m2 q2, .slice A3 m3 q3] 46)).cell? ⟨w.heap.size + 1, 1, none⟩ = some (.slice none 0 0) := (HP6.out.cur.alloc _).f.1.2
                   have fz6 := HP6.out.cur.f.2
                   have HPRE := Lib.hid (HP6.out.fnc.pre [.string sF, .int .i64 tF, .slice A2 m2 q2, .slice A3 m3 q3] (by have := HP6.out.cur.size; omega))
                   clear hD hG))
              all_goals
                go_wp2
                have HGP := Lib.hid (got_pick HG.out HNF.out)
                have HZ := Lib.hid (show PgRel b _ all w T n _ ∧ 2 * (all.length - atOf b _) + liveN b _ < 2 * r.length + 1 by
                  obtain ⟨f, hf, hF⟩ := HGP.out
                  obtain ⟨qf, hqf, hP9⟩ := HX1.out.2 f hf
                  refine pg_rel (q := q) (X := (parOne r).un.bind fun _ r => pFn q 1 s' r) (by omega) ?_ hP9 ?_ hrl hrp (by simp at hacc9 ⊢; omega) hal
                  · exact (un_fits (parOne_fits HEN.out)).bind (m := 0) (fun _ r _ hr => (pFn_fits hr).mono (by omega)) (by omega)
                  · rw [HT4.out, hF, List.map_append, ← hqf]
                    rfl)
                go_roundw
                case rel => exact HZ.out.1
                case measure =>
                  have h1 := HZ.out.2
                  have h2 := HAT.out
                  have h3 := HLV.out
                  simp only [h2, h3] at *
                  omega
            | cons f0 ft =>
              obtain ⟨fs, hfs⟩ : ∃ fs, fs = f0 :: ft := ⟨_, rfl⟩
              have hfl : 0 < fs.length := by rw [hfs]; simp
              rw [← hfs] at HP HT4 hacc9 hac2
              have hfl2 : ((fs.length : Int) == 0) = false := by rw [beq_eq_false_iff_ne]; omega
              obtain ⟨A1, cp1, rfl⟩ := HP.out.fnc.form
              clear hA hfs
              go_wp2_with (fail)
              have HPO := Lib.hid HP.out.fnc.own
              go_region_law (first
                | (refine step_append_at rfl (.tmp 56) (.tmp 61) _ rfl (w.heap.size + 2) 46 i1 _ 4 72 Tryz.underlying33 HI1.out.1 HI1.out.2.1 HI1.out.2.2.1 HI1.out.2.2.2 rfl (by omega) (.slice A1 fs.length cp1) fs.length _ rfl (by exact HPRE.out.1) ⟨w6.heap.size, 0, none⟩ 1 1 [.string sF, .int .i64 tF, .slice A2 m2 q2, .slice A3 m3 q3] rfl rfl (by exact HPRE.out.2.1) (by simp [Value.oneCell']) (by simp only [maxLen]; omega) (by omega) (by exact HPRE.out.2.2) (by omega) ?_
                   intro v1 w7 hown1 hg1 hr1
                   obtain ⟨A4, cp4, rfl⟩ := own_form hown1
                   have HX1 := Lib.hid (HP6.out.func (L := w4.heap.size) hg1 hr1 hown1 HL6.out fun k hk => (HPO.out k hk).1)
                   have hk7 : w7.cell? ⟨w.heap.size + 1, 1, none⟩ = some (.slice A1 fs.length cp1) := HX1.out.1.f.1.2
                   have fz7 := HX1.out.1.f.2
                   clear hown1 hg1 hr1)
                | (go_simp; go_at_call 51; (refine (pfn_any HP.out.drew.cur.st HNF.out).mono ?_); rintro e w6 ⟨v, rfl, hD, hG⟩
                   obtain ⟨sF, tF, A2, m2, q2, A3, m3, q3, rfl⟩ := gotf_form hG HNF.out
                   have HG := Lib.hid hG
                   have HP6 := Lib.hid (HP.out.drew.step hD)
                   have HL6 := Lib.hid (show w.heap.size + 2 ≤ w4.heap.size from HP.out.cur.size)
                   have hk7 : w6.cell? ⟨w.heap.size + 1, 1, none⟩ = some (.slice A1 fs.length cp1) := HP6.out.cur.f.1.2
                   have hk8 : (w6.alloc (.cells #[.string sF, .int .i64 tF, .slice A2 m2 q2, .slice A3 m3 q3] 46)).cell? ⟨w.heap.size + 1, 1, none⟩ = some (.slice A1 fs.length cp1) := (HP6.out.cur.alloc _).f.1.2
                   have fz6 := HP6.out.cur.f.2
                   have HPRE := Lib.hid (HP6.out.fnc.pre [.string sF, .int .i64 tF, .slice A2 m2 q2, .slice A3 m3 q3] (by have := HP6.out.cur.size; omega))
                   clear hD hG))
              all_goals
                go_wp2
                have HGP := Lib.hid (got_pick HG.out HNF.out)
                have HZ := Lib.hid (show PgRel b _ all w T n _ ∧ 2 * (all.length - atOf b _) + liveN b _ < 2 * r.length + 1 by
                  obtain ⟨f, hf, hF⟩ := HGP.out
                  obtain ⟨qf, hqf, hP9⟩ := HX1.out.2 f hf
                  refine pg_rel (q := q) (X := (parOne r).un.bind fun _ r => pFn q 1 s' r) (by omega) ?_ hP9 ?_ hrl hrp (by simp at hacc9 ⊢; omega) hal
                  · exact (un_fits (parOne_fits HEN.out)).bind (m := 0) (fun _ r _ hr => (pFn_fits hr).mono (by omega)) (by omega)
                  · rw [HT4.out, hF, List.map_append, ← hqf]
                    rfl)
                go_roundw
                case rel => exact HZ.out.1
                case measure =>
                  have h1 := HZ.out.2
                  have h2 := HAT.out
                  have h3 := HLV.out
                  simp only [h2, h3] at *
                  omega
          · have h1b : (tv == 1) = false := by simpa using h1
            obtain ⟨A1, cp1, rfl⟩ := HP.out.fnc.form
            clear hA h1
            go_wp2_with (fail)
            have HPO := Lib.hid HP.out.fnc.own
            go_region_law (first
              | (refine step_append_at rfl (.tmp 56) (.tmp 61) _ rfl (w.heap.size + 2) 46 i1 _ 4 72 Tryz.underlying33 HI1.out.1 HI1.out.2.1 HI1.out.2.2.1 HI1.out.2.2.2 rfl (by omega) (.slice A1 fs.length cp1) fs.length _ rfl (by exact HPRE.out.1) ⟨w6.heap.size, 0, none⟩ 1 1 [.string sF, .int .i64 tF, .slice A2 m2 q2, .slice A3 m3 q3] rfl rfl (by exact HPRE.out.2.1) (by simp [Value.oneCell']) (by simp only [maxLen]; omega) (by omega) (by exact HPRE.out.2.2) (by omega) ?_
                 intro v1 w7 hown1 hg1 hr1
                 obtain ⟨A4, cp4, rfl⟩ := own_form hown1
                 have HX1 := Lib.hid (HP6.out.func (L := w4.heap.size) hg1 hr1 hown1 HL6.out fun k hk => (HPO.out k hk).1)
                 have hk7 : w7.cell? ⟨w.heap.size + 1, 1, none⟩ = some (.slice A1 fs.length cp1) := HX1.out.1.f.1.2
                 have fz7 := HX1.out.1.f.2
                 clear hown1 hg1 hr1)
              | (go_simp; go_at_call 51; (refine (pfn_any HP.out.drew.cur.st HNF.out).mono ?_); rintro e w6 ⟨v, rfl, hD, hG⟩
                 obtain ⟨sF, tF, A2, m2, q2, A3, m3, q3, rfl⟩ := gotf_form hG HNF.out
                 have HG := Lib.hid hG
                 have HP6 := Lib.hid (HP.out.drew.step hD)
                 have HL6 := Lib.hid (show w.heap.size + 2 ≤ w4.heap.size from HP.out.cur.size)
                 have hk7 : w6.cell? ⟨w.heap.size + 1, 1, none⟩ = some (.slice A1 fs.length cp1) := HP6.out.cur.f.1.2
                 have hk8 : (w6.alloc (.cells #[.string sF, .int .i64 tF, .slice A2 m2 q2, .slice A3 m3 q3] 46)).cell? ⟨w.heap.size + 1, 1, none⟩ = some (.slice A1 fs.length cp1) := (HP6.out.cur.alloc _).f.1.2
                 have fz6 := HP6.out.cur.f.2
                 have HPRE := Lib.hid (HP6.out.fnc.pre [.string sF, .int .i64 tF, .slice A2 m2 q2, .slice A3 m3 q3] (by have := HP6.out.cur.size; omega))
                 clear hD hG))
            all_goals
              go_wp2
              have HGP := Lib.hid (got_pick HG.out HNF.out)
              have HZ := Lib.hid (show PgRel b _ all w T n _ ∧ 2 * (all.length - atOf b _) + liveN b _ < 2 * r.length + 1 by
                obtain ⟨f, hf, hF⟩ := HGP.out
                obtain ⟨qf, hqf, hP9⟩ := HX1.out.2 f hf
                refine pg_rel (q := q) (X := (parOne r).un.bind fun _ r => pFn q tv s' r) (by omega) ?_ hP9 ?_ hrl hrp (by simp at hacc9 ⊢; omega) hal
                · exact (un_fits (parOne_fits HEN.out)).bind (m := 0) (fun _ r _ hr => (pFn_fits hr).mono (by omega)) (by omega)
                · rw [HT4.out, hF, List.map_append, ← hqf]
                  rfl)
              go_roundw
              case rel => exact HZ.out.1
              case measure =>
                have h1 := HZ.out.2
                have h2 := HAT.out
                have h3 := HLV.out
                simp only [h2, h3] at *
                omega
end Go.Proofs.YtakijoblbmfadaaGreatDoor
