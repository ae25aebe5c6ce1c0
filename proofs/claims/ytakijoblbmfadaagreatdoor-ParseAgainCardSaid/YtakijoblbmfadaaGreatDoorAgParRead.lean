import Derived.Test.YtakijoblbmfadaaGreatDoorAgTreeVals
import Derived.Test.YtakijoblbmfadaaGreatDoorAgParMath
import Derived.Deep.RegionHeld3
set_option linter.unusedSimpArgs false
set_option linter.unusedVariables false
/- The document's parser: its box in memory, what is left alone but for it, and its small methods. -/
namespace Go.Proofs.YtakijoblbmfadaaGreatDoor
open Go.RowKit
/-- The world without what lies in block b. -/
def hole (b : Nat) (w : World) : World := { w with heap := w.heap.setIfInBounds b (.cells #[] 0 (0, 0)) }
theorem hole_size (b : Nat) (w : World) : (hole b w).heap.size = w.heap.size := by simp [hole]
theorem hole_at {b k : Nat} (w : World) (h : k ≠ b) : (hole b w).heap[k]? = w.heap[k]? := by
  simp only [hole, Array.getElem?_setIfInBounds]
  rw [if_neg (fun e => h e.symm)]
theorem hole_b {b : Nat} (w : World) : (hole b w).heap[b]? = if b < w.heap.size then some (.cells #[] 0 (0, 0)) else none := by
  simp only [hole, Array.getElem?_setIfInBounds, if_true]
/-- Below B all is as it was, but for block b. -/
def OffB (b B : Nat) (w w' : World) : Prop := Below B (hole b w) (hole b w')
theorem OffB.mk' {b B : Nat} {w w' : World} (h1 : w'.os = w.os) (h2 : w'.tape = w.tape) (h3 : w'.output = w.output) (h4 : w.heap.size ≤ w'.heap.size) (hb : b < w.heap.size) (h5 : ∀ k, k < B → k ≠ b → w'.heap[k]? = w.heap[k]?) : OffB b B w w' := by
  refine ⟨h1, h2, h3, by rw [hole_size, hole_size]; exact h4, fun k hk => ?_⟩
  by_cases e : k = b
  · subst e
    rw [hole_b, hole_b, if_pos hb, if_pos (by omega)]
  · rw [hole_at w' e, hole_at w e]
    exact h5 k hk e
theorem OffB.refl (b B : Nat) (w : World) : OffB b B w w := Below.refl _ _
theorem OffB.trans {b B : Nat} {w w' w2 : World} (h : OffB b B w w') (g : OffB b B w' w2) : OffB b B w w2 := Below.trans h g
theorem OffB.mono {b B B' : Nat} {w w' : World} (h : OffB b B w w') (hB : B' ≤ B) : OffB b B' w w' := Below.mono h hB
theorem OffB.size {b B : Nat} {w w' : World} (h : OffB b B w w') : w.heap.size ≤ w'.heap.size := by have := Below.size h; rw [hole_size, hole_size] at this; exact this
theorem OffB.block {b B k : Nat} {w w' : World} (h : OffB b B w w') (hk : k < B) (hb : k ≠ b) : w'.heap[k]? = w.heap[k]? := by have := Below.block h k hk; rw [hole_at w hb, hole_at w' hb] at this; exact this
theorem OffB.cell {b B k o : Nat} {w w' : World} (h : OffB b B w w') (hk : k < B) (hb : k ≠ b) : w'.cell? ⟨k, o, none⟩ = w.cell? ⟨k, o, none⟩ := World.cell?_of_block (w := w) (h.block hk hb)
theorem OffB.of_below {b B : Nat} {w w' : World} (h : Below B w w') (hb : b < w.heap.size) : OffB b B w w' := OffB.mk' h.os h.tape h.output h.size hb fun k hk _ => h.block k hk
theorem OffB.drewN {b B : Nat} {w w' : World} (h : OffB b B w w') (n : Nat) : OffB b B w (w'.drewN n) := Below.trans h ⟨rfl, rfl, rfl, Nat.le_refl _, fun _ _ => rfl⟩
theorem OffB.alloc {b B : Nat} {w w' : World} (h : OffB b B w w') (hb : b < w'.heap.size) (hB : B ≤ w'.heap.size) (o : Obj) : OffB b B w (w'.alloc o) :=
  h.trans (OffB.of_below ((Below.refl B w').alloc hB o) hb)
theorem OffB.setb {b B : Nat} {w w' : World} (h : OffB b B w w') (hb : b < w'.heap.size) (i : Nat) (u : Value) : OffB b B w (w'.setCell ⟨b, i, none⟩ u) :=
  h.trans (OffB.mk' rfl rfl rfl (by simp [World.setCell]) hb fun k _ hne => Below.heap_setCell w' _ u k hne)
theorem OffB.setCell {b B g : Nat} {w w' : World} (h : OffB b B w w') (hb : b < w'.heap.size) (hg : B ≤ g) (i : Nat) (u : Value) : OffB b B w (w'.setCell ⟨g, i, none⟩ u) :=
  h.trans (OffB.mk' rfl rfl rfl (by simp [World.setCell]) hb fun k hk _ => Below.heap_setCell w' _ u k (by show k ≠ g; omega))
theorem OffB.lt {b B : Nat} {w w' : World} (h : OffB b B w w') (hb : b < w.heap.size) : b < w'.heap.size := Nat.lt_of_lt_of_le hb h.size
/-! ### the parser's box -/
/-- The slice V has these tokens, in a block that is not b. -/
def TokH (b : Nat) (V : Value) (all : List Tok) (w : World) : Prop :=
  ∃ (g c : Nat), V = .slice (some ⟨g, 0, none⟩) all.length c ∧ g ≠ b ∧ g < w.heap.size ∧ (∀ (j : Nat) u, (tokCells all)[j]? = some u → w.cell? ⟨g, j, none⟩ = some u) ∧ all.length ≤ 1000000 ∧ ∀ t ∈ all, t.kind = 0 → numB t.text = true ∧ (⟨t.text.toArray⟩ : ByteArray).size ≤ 281474976710656
theorem TokH.off {b : Nat} {V : Value} {all : List Tok} {w w' : World} (h : TokH b V all w) (ho : OffB b w.heap.size w w') : TokH b V all w' := by
  obtain ⟨g, c, hv, hb, hg, hc, hl, hn⟩ := h
  exact ⟨g, c, hv, hb, Nat.lt_of_lt_of_le hg ho.size, fun j u hu => (ho.cell hg hb).trans (hc j u hu), hl, hn⟩
/-- The box: its tokens, at a rest r of them. -/
def Pbox (b : Nat) (V : Value) (all r : List Tok) (bd dp : Bool) (w : World) : Prop :=
  Is w b 64 #[V, .int .i64 ((all.length - r.length : Nat) : Int), .bool bd, .bool dp] ∧ TokH b V all w ∧ r <:+ all ∧ EndL r
theorem Pbox.lt {b : Nat} {V : Value} {all r : List Tok} {bd dp : Bool} {w : World} (h : Pbox b V all r bd dp w) : b < w.heap.size := h.1.lt
theorem Pbox.cells {b : Nat} {V : Value} {all r : List Tok} {bd dp : Bool} {w : World} (h : Pbox b V all r bd dp w) :
    w.cell? ⟨b, 0, none⟩ = some V ∧ w.cell? ⟨b, 1, none⟩ = some (.int .i64 ((all.length - r.length : Nat) : Int)) ∧ w.cell? ⟨b, 2, none⟩ = some (.bool bd) ∧ w.cell? ⟨b, 3, none⟩ = some (.bool dp) :=
  ⟨(h.1.cell 0).trans rfl, (h.1.cell 1).trans rfl, (h.1.cell 2).trans rfl, (h.1.cell 3).trans rfl⟩
theorem suffix_at {all r : List Tok} (h : r <:+ all) {t : Tok} {q : List Tok} (e : r = t :: q) : all[all.length - r.length]? = some t := by
  obtain ⟨p, rfl⟩ := h
  subst e
  rw [List.length_append, Nat.add_sub_cancel, List.getElem?_append_right (Nat.le_refl _), Nat.sub_self]
  rfl
theorem tok_cells (ts : List Tok) (k : Nat) (t : Tok) (h : ts[k]? = some t) : (tokCells ts)[k * 3]? = some (.int .i64 t.kind) ∧ (tokCells ts)[k * 3 + 1]? = some (.string ⟨t.text.toArray⟩) ∧ (tokCells ts)[k * 3 + 2]? = some (.int .i64 (t.line : Int)) := by
  induction ts generalizing k with
  | nil => simp at h
  | cons a r ih =>
    have e : tokCells (a :: r) = .int .i64 a.kind :: .string ⟨a.text.toArray⟩ :: .int .i64 (a.line : Int) :: tokCells r := by simp [tokCells]
    rw [e]
    cases k with
    | zero =>
      simp at h
      subst h
      exact ⟨rfl, rfl, rfl⟩
    | succ k =>
      obtain ⟨h1, h2, h3⟩ := ih k (by simpa using h)
      rw [show (k + 1) * 3 = k * 3 + 1 + 1 + 1 by omega]
      exact ⟨h1, h2, h3⟩
/-- What stands at the box's place. -/
theorem Pbox.tok {b : Nat} {V : Value} {all r : List Tok} {bd dp : Bool} {w : World} (h : Pbox b V all r bd dp w) : ∃ (g c k : Nat) (t : Tok) (q : List Tok), V = .slice (some ⟨g, 0, none⟩) all.length c ∧ r = t :: q ∧ k = all.length - r.length ∧ k < all.length ∧ all.length ≤ 1000000 ∧
    w.cell? ⟨b, 0, none⟩ = some (.slice (some ⟨g, 0, none⟩) all.length c) ∧ w.cell? ⟨b, 1, none⟩ = some (.int .i64 (k : Int)) ∧ w.cell? ⟨b, 2, none⟩ = some (.bool bd) ∧ w.cell? ⟨b, 3, none⟩ = some (.bool dp) ∧
    w.cell? ⟨g, k * 3, none⟩ = some (.int .i64 t.kind) ∧ w.cell? ⟨g, k * 3 + 1, none⟩ = some (.string ⟨t.text.toArray⟩) ∧ w.cell? ⟨g, k * 3 + 2, none⟩ = some (.int .i64 (t.line : Int)) := by
  obtain ⟨c0, c1, c2, c3⟩ := h.cells
  obtain ⟨_, ⟨g, c, hv, _, _, hc, hl, _⟩, hs, he⟩ := h
  obtain ⟨t, q, rfl⟩ := List.exists_cons_of_ne_nil he.ne
  have ha := suffix_at hs rfl
  obtain ⟨h1, h2, h3⟩ := tok_cells all _ t ha
  refine ⟨g, c, _, t, q, hv, rfl, rfl, ?_, hl, hv ▸ c0, c1, c2, c3, hc _ _ h1, hc _ _ h2, hc _ _ h3⟩
  exact (List.getElem?_eq_some_iff.1 ha).1
/-! ### how a try stands -/
def PR.un {α : Type} (x : PR α) : PR Unit := x.bind fun _ r => .ok () r
def isOver {α : Type} : PR α → Bool
  | .ok _ _ => false
  | _ => true
def isAt {α : Type} (s : List UInt8) : PR α → Bool
  | .ok _ r => isS s r
  | _ => false
def StP (b : Nat) (V : Value) (all : List Tok) (x : PR Unit) (w : World) : Prop :=
  match x with
  | .ok _ r => Pbox b V all r false false w
  | .bad r => Pbox b V all r true false w
  | .deep r => Pbox b V all r false true w
  | .out => False
/-- Of a good try P holds of what it gave, of another P holds of something. -/
def Got {α : Type} (x : PR α) (P : α → Prop) : Prop :=
  match x with
  | .ok a _ => P a
  | .bad _ => ∃ a, P a
  | .deep _ => ∃ a, P a
  | .out => True
theorem Pbox.off {b : Nat} {V : Value} {all r : List Tok} {bd dp : Bool} {w w' : World} (h : Pbox b V all r bd dp w) (hb : Below w.heap.size w w') : Pbox b V all r bd dp w' :=
  ⟨h.1.below hb h.1.lt, h.2.1.off (OffB.of_below hb h.lt), h.2.2⟩
theorem StP.below {b : Nat} {V : Value} {all : List Tok} {x : PR Unit} {w w' : World} (h : StP b V all x w) (hb : Below w.heap.size w w') : StP b V all x w' := by
  cases x with
  | ok a r => exact Pbox.off h hb
  | bad r => exact Pbox.off h hb
  | deep r => exact Pbox.off h hb
  | out => exact h
theorem StP.lt {b : Nat} {V : Value} {all : List Tok} {x : PR Unit} {w : World} (h : StP b V all x w) : b < w.heap.size := by
  cases x with
  | ok a r => exact Pbox.lt h
  | bad r => exact Pbox.lt h
  | deep r => exact Pbox.lt h
  | out => exact absurd h id
theorem StP.drewN {b : Nat} {V : Value} {all : List Tok} {x : PR Unit} {w : World} (h : StP b V all x w) (n : Nat) : StP b V all x (w.drewN n) := h.below (below_drewN (Below.refl _ _) n)
/-- The box, however it stands. -/
theorem StP.box {b : Nat} {V : Value} {all : List Tok} {x : PR Unit} {w : World} (h : StP b V all x w) : ∃ r bd dp, Pbox b V all r bd dp w ∧ isOver x = (bd || dp) ∧ (x = .ok () r ∧ bd = false ∧ dp = false ∨ x = .bad r ∧ bd = true ∧ dp = false ∨ x = .deep r ∧ bd = false ∧ dp = true) := by
  cases x with
  | ok a r => exact ⟨r, false, false, h, rfl, .inl ⟨rfl, rfl, rfl⟩⟩
  | bad r => exact ⟨r, true, false, h, rfl, .inr (.inl ⟨rfl, rfl, rfl⟩)⟩
  | deep r => exact ⟨r, false, true, h, rfl, .inr (.inr ⟨rfl, rfl, rfl⟩)⟩
  | out => exact absurd h id
theorem isS_head (s : List UInt8) (t : Tok) (r : List Tok) : isS s (t :: r) = (decide (t.kind = 2) && t.text == s) := rfl
theorem text_eq (t : List UInt8) (s : ByteArray) : (t == s.data.toList) = ((⟨t.toArray⟩ : ByteArray).toList == s.toList) := by rw [Lib.toList_data, Lib.toList_data]
theorem sub_tail {n k : Nat} (h : k + 1 ≤ n) : ((n - (k + 1) : Nat) : Int) + 1 = ((n - k : Nat) : Int) := by omega
theorem suffix_len {a r : List Tok} (h : r <:+ a) : r.length ≤ a.length := h.length_le
theorem Pbox.next {b : Nat} {V : Value} {all r : List Tok} {w : World} (h : Pbox b V all r false false w) (hk : hdK r ≠ 3) : Pbox b V all r.tail false false (w.setCell ⟨b, 1, none⟩ (.int .i64 (((all.length - r.length : Nat) : Int) + 1))) := by
  have hlt := h.lt
  have ht := tail_len h.2.2.2
  have hs := suffix_len h.2.2.1
  refine ⟨?_, h.2.1.off ((OffB.refl b _ w).setb hlt 1 _), (List.tail_suffix r).trans h.2.2.1, h.2.2.2.tail hk⟩
  have := h.1.set 1 (.int .i64 (((all.length - r.length : Nat) : Int) + 1))
  rw [show r.length = r.tail.length + 1 by omega, sub_tail (by omega)] at this ⊢
  exact this
/-- What the small methods leave. -/
def Did (b : Nat) (V : Value) (all : List Tok) (w : World) (x : PR Unit) (w' : World) : Prop := StP b V all x w' ∧ OffB b w.heap.size w w'
theorem Did.st {b : Nat} {V : Value} {all : List Tok} {w w' : World} {x : PR Unit} (h : Did b V all w x w') : StP b V all x w' := h.1
theorem Did.off {b : Nat} {V : Value} {all : List Tok} {w w' : World} {x : PR Unit} (h : Did b V all w x w') : OffB b w.heap.size w w' := h.2
/-- What a method that tells something leaves. -/
def Gave (b : Nat) (V : Value) (all : List Tok) (w : World) {α : Type} (x : PR α) (F : World → α → Value → Prop) (e : Ending) (w' : World) : Prop :=
  ∃ v, e = .returned v ∧ Did b V all w x.un w' ∧ Got x fun a => F w' a v
def StrV (_ : World) (a : ByteArray) (v : Value) : Prop := v = .string a
def IntV (_ : World) (a : Int) (v : Value) : Prop := v = .int .i64 a
theorem Did.drewN {b : Nat} {V : Value} {all : List Tok} {x : PR Unit} {w w1 : World} {m : Nat} (h : Did b V all (w.drewN m) x w1) : Did b V all w x w1 := ⟨h.1, ((OffB.refl b _ w).drewN m).trans h.2⟩
end Go.Proofs.YtakijoblbmfadaaGreatDoor

/- With fuel enough the plain parser looks at all: no Go, no program. -/
namespace Go.Proofs.YtakijoblbmfadaaGreatDoor
open Go

def Ends {α : Type} (x : PR α) : Prop := match x with | .out => False | _ => True
theorem Ends.bind {α β : Type} {k : Nat} {l : List Tok} {x : PR α} {f : α → List Tok → PR β} (hf : Fits k l x) (h : Ends x) (g : ∀ a r, x = .ok a r → EndL r → r.length + k ≤ l.length → Ends (f a r)) : Ends (x.bind f) := by
  cases x with
  | ok a r => exact g a r rfl (show RestOf k l r from hf).2.1 (show RestOf k l r from hf).2.2
  | bad r => trivial
  | deep r => trivial
  | out => exact h
theorem must_ends (s : List UInt8) (l : List Tok) : Ends (must s l) := by unfold must; split <;> trivial
theorem want_ends (k : Int) (l : List Tok) : Ends (want k l) := by unfold want; split <;> trivial
theorem ends_expr (n : Nat) : (∀ lev d l, EndL l → 1 ≤ lev → lev ≤ 11 → 20 * (l.length : Int) + 15 - lev ≤ n → Ends (pE n lev d l)) ∧ (∀ lev d a l, EndL l → 1 ≤ lev → lev ≤ 10 → 20 * (l.length : Int) + 15 - lev ≤ n → Ends (pL n lev d a l)) ∧
    (∀ d l, EndL l → 20 * l.length + 3 ≤ n → Ends (pU n d l)) ∧ (∀ d l, EndL l → 20 * l.length + 2 ≤ n → Ends (pP n d l)) ∧
    (∀ d s l, EndL l → 20 * l.length + 1 ≤ n → Ends (pN n d s l)) ∧ (∀ d l, EndL l → 20 * l.length + 16 ≤ n → Ends (pA n d l)) ∧ (∀ d acc l, EndL l → 20 * l.length + 15 ≤ n → Ends (pAL n d acc l)) := by
  induction n with
  | zero => exact ⟨fun _ _ _ _ _ _ _ => by omega, fun _ _ _ _ _ _ _ _ => by omega, fun _ _ _ _ => by omega, fun _ _ _ _ => by omega, fun _ _ _ _ _ => by omega, fun _ _ _ _ => by omega, fun _ _ _ _ _ => by omega⟩
  | succ n ih =>
    obtain ⟨iE, iL, iU, iP, iN, iA, iAL⟩ := ih
    refine ⟨fun lev d l h h1 h2 hn => ?_, fun lev d a l h h1 h2 hn => ?_, fun d l h hn => ?_, fun d l h hn => ?_, fun d s l h hn => ?_, fun d l h hn => ?_, fun d acc l h hn => ?_⟩
    · rw [pE]
      split
      · exact iU d l h (by omega)
      · exact Ends.bind (pE_fits h) (iE _ _ _ h (by omega) (by omega) (by omega)) fun a r _ hr hl => iL _ _ _ _ hr h1 (by omega) (by omega)
    · rw [pL]
      split
      · trivial
      · rename_i ho
        obtain ⟨s, hs⟩ := opFrom_sign ho
        have ht := tail_len h
        exact Ends.bind (pE_fits (h.sign hs)) (iE _ _ _ (h.sign hs) (by omega) (by omega) (by omega)) fun a r _ hr hl => iL _ _ _ _ hr h1 h2 (by omega)
    · rw [pU]
      split
      · trivial
      · split
        · exact iP d l h (by omega)
        · rename_i ho
          obtain ⟨s, hs⟩ := unFrom_sign ho
          have ht := tail_len h
          split
          · exact Ends.bind (must_fits (h.sign hs) _) (must_ends _ _) fun _ r _ hr hl => Ends.bind (pE_fits hr) (iE _ _ _ hr (by omega) (by omega) (by omega)) fun e r _ hr hl => Ends.bind (must_fits hr _) (must_ends _ _) fun _ r _ hr hl => trivial
          · exact Ends.bind ((fits_expr n).2.2.1 _ _ (h.sign hs)) (iU _ _ (h.sign hs) (by omega)) fun _ r _ hr hl => trivial
    · rw [pP]
      have ht := tail_len h
      split
      · rename_i hs
        exact Ends.bind (pE_fits (h.sign hs)) (iE _ _ _ (h.sign hs) (by omega) (by omega) (by omega)) fun e r _ hr hl => Ends.bind (must_fits hr _) (must_ends _ _) fun _ r _ hr hl => trivial
      · split
        · trivial
        · split
          · trivial
          · split
            · rename_i hs
              exact Ends.bind (must_fits (h.sign hs) _) (must_ends _ _) fun _ r _ hr hl => Ends.bind (must_fits hr _) (must_ends _ _) fun _ r _ hr hl => trivial
            · split
              · trivial
              · exact Ends.bind (want_fits h 1 (by decide)) (want_ends _ _) fun s r _ hr hl => iN _ _ _ hr (by omega)
    · rw [pN]
      have ht := tail_len h
      split
      · rename_i hs
        exact Ends.bind (pA_fits (h.sign hs)) (iA _ _ (h.sign hs) (by omega)) fun _ r _ hr hl => trivial
      · split
        · rename_i hs
          exact Ends.bind (pE_fits (h.sign hs)) (iE _ _ _ (h.sign hs) (by omega) (by omega) (by omega)) fun e r _ hr hl => Ends.bind (must_fits hr _) (must_ends _ _) fun _ r _ hr hl => trivial
        · trivial
    · rw [pA]
      split
      · trivial
      · exact iAL _ _ _ h (by omega)
    · rw [pAL]
      refine Ends.bind (pE_fits h) (iE _ _ _ h (by omega) (by omega) (by omega)) fun e r _ hr hl => ?_
      split
      · rename_i hs
        have ht := tail_len hr
        exact iAL _ _ _ (hr.sign hs) (by omega)
      · exact Ends.bind (must_fits hr _) (must_ends _ _) fun _ r _ hr hl => trivial
theorem pE_ends {n : Nat} {d : Int} {l : List Tok} (h : EndL l) (hn : 20 * l.length + 14 ≤ n) : Ends (pE n 1 d l) := (ends_expr n).1 1 d l h (by omega) (by omega) (by omega)
theorem pA_ends {n : Nat} {d : Int} {l : List Tok} (h : EndL l) (hn : 20 * l.length + 16 ≤ n) : Ends (pA n d l) := (ends_expr n).2.2.2.2.2.1 d l h hn
theorem pI_ends {n : Nat} {l : List Tok} (h : EndL l) (hn : 20 * l.length + 14 ≤ n) : Ends (pI n l) := by
  unfold pI
  exact Ends.bind (must_fits h _) (must_ends _ _) fun _ r _ hr hl => Ends.bind (pE_fits hr) (pE_ends hr (by omega)) fun e r _ hr hl => Ends.bind (must_fits hr _) (must_ends _ _) fun _ r _ hr hl => trivial
theorem pTy_ends {l : List Tok} (h : EndL l) : Ends (pTy l) := by
  unfold pTy
  split
  · trivial
  · exact Ends.bind (must_fits h _) (must_ends _ _) fun _ r _ hr hl => trivial
theorem pSemi_ends {α : Type} {k : Nat} {l : List Tok} {x : PR α} (hf : Fits k l x) (h : Ends x) : Ends (pSemi x) := by
  unfold pSemi
  exact Ends.bind hf h fun _ r _ hr hl => Ends.bind (must_fits hr _) (must_ends _ _) fun _ r _ hr hl => trivial
theorem pNm_ends {n : Nat} {l : List Tok} (h : EndL l) (hn : 20 * l.length + 16 ≤ n) : Ends (pNm n l) := by
  unfold pNm
  refine Ends.bind (want_fits h 1 (by decide)) (want_ends _ _) fun s r _ hr hl => ?_
  have ht := tail_len hr
  split
  · rename_i hs
    exact Ends.bind (pA_fits (hr.sign hs)) (pA_ends (hr.sign hs) (by omega)) fun _ r _ hr hl => trivial
  · split
    · rename_i hs
      exact Ends.bind (pE_fits (hr.sign hs)) (pE_ends (hr.sign hs) (by omega)) fun e r _ hr hl => Ends.bind (must_fits hr _) (must_ends _ _) fun _ r _ hr hl => Ends.bind (must_fits hr _) (must_ends _ _) fun _ r _ hr hl => Ends.bind (pE_fits hr) (pE_ends hr (by omega)) fun _ r _ hr hl => trivial
    · exact Ends.bind (must_fits hr _) (must_ends _ _) fun _ r _ hr hl => Ends.bind (pE_fits hr) (pE_ends hr (by omega)) fun _ r _ hr hl => trivial
theorem ends_stmt (n : Nat) : (∀ d l, EndL l → 20 * l.length + 30 ≤ n → Ends (pS n d l)) ∧ (∀ d e t l, EndL l → 20 * l.length + 30 ≤ n → Ends (pEl n d e t l)) ∧ (∀ d l, EndL l → 20 * l.length + 30 ≤ n → Ends (pB n d l)) ∧ (∀ d acc l, EndL l → 20 * l.length + 31 ≤ n → Ends (pBL n d acc l)) := by
  induction n with
  | zero => exact ⟨fun _ _ _ _ => by omega, fun _ _ _ _ _ _ => by omega, fun _ _ _ _ => by omega, fun _ _ _ _ _ => by omega⟩
  | succ n ih =>
    obtain ⟨iS, iEl, iB, iBL⟩ := ih
    refine ⟨fun d l h hn => ?_, fun d e t l h hn => ?_, fun d l h hn => ?_, fun d acc l h hn => ?_⟩
    · rw [pS]
      have ht := tail_len h
      split
      · trivial
      · split
        · exact pSemi_ends ((pTy_fits h).bind (m := 0) (n := 0) (fun t r _ hr => (want_fits hr 1 (by decide)).bind (n := 0) (fun s r _ hr => (must_fits hr _).bind (n := 0) (fun _ r _ hr => (pE_fits hr).bind (n := 0) (fun _ r _ hr => Fits.self hr _) (by omega)) (by omega)) (by omega)) (by omega))
            (Ends.bind (pTy_fits h) (pTy_ends h) fun t r _ hr hl => Ends.bind (want_fits hr 1 (by decide)) (want_ends _ _) fun s r _ hr hl => Ends.bind (must_fits hr _) (must_ends _ _) fun _ r _ hr hl => Ends.bind (pE_fits hr) (pE_ends hr (by omega)) fun _ r _ hr hl => trivial)
        · split
          · rename_i hs
            exact Ends.bind (pI_fits (h.sign hs)) (pI_ends (h.sign hs) (by omega)) fun e r _ hr hl => Ends.bind (pB_fits hr) (iB _ _ hr (by omega)) fun t r _ hr hl => iEl _ _ _ _ hr (by omega)
          · split
            · rename_i hs
              exact Ends.bind (pI_fits (h.sign hs)) (pI_ends (h.sign hs) (by omega)) fun e r _ hr hl => Ends.bind (pB_fits hr) (iB _ _ hr (by omega)) fun t r _ hr hl => trivial
            · split
              · rename_i hs
                exact pSemi_ends (k := 1) (l := l) (show RestOf 1 l l.tail from RestOf.sign h hs) trivial
              · split
                · rename_i hs
                  exact pSemi_ends (k := 1) (l := l) (show RestOf 1 l l.tail from RestOf.sign h hs) trivial
                · split
                  · rename_i hs
                    exact pSemi_ends ((pE_fits (h.sign hs)).bind (n := 0) (m := 0) (fun _ r _ hr => Fits.self hr _) (by omega)) (Ends.bind (pE_fits (h.sign hs)) (pE_ends (h.sign hs) (by omega)) fun _ r _ hr hl => trivial)
                  · split
                    · rename_i hs
                      exact pSemi_ends ((pI_fits (h.sign hs)).bind (n := 0) (m := 0) (fun _ r _ hr => Fits.self hr _) (by omega)) (Ends.bind (pI_fits (h.sign hs)) (pI_ends (h.sign hs) (by omega)) fun _ r _ hr hl => trivial)
                    · exact pSemi_ends (pNm_fits h) (pNm_ends h (by omega))
    · rw [pEl]
      have ht := tail_len h
      split
      · rename_i hs
        exact Ends.bind (pB_fits (h.sign hs)) (iB _ _ (h.sign hs) (by omega)) fun _ r _ hr hl => trivial
      · trivial
    · rw [pB]
      exact Ends.bind (must_fits h _) (must_ends _ _) fun _ r _ hr hl => iBL _ _ _ hr (by omega)
    · rw [pBL]
      split
      · trivial
      · exact Ends.bind (pS_fits h) (iS _ _ h (by omega)) fun _ r _ hr hl => iBL _ _ _ hr (by omega)
theorem pB_ends {n : Nat} {d : Int} {l : List Tok} (h : EndL l) (hn : 20 * l.length + 30 ≤ n) : Ends (pB n d l) := (ends_stmt n).2.2.1 d l h hn
theorem pPL_ends : ∀ (n : Nat) (acc : List Pa) (l : List Tok), EndL l → 20 * l.length + 1 ≤ n → Ends (pPL n acc l)
  | 0, _, _, _, _ => by omega
  | n + 1, acc, l, h, hn => by
    rw [pPL]
    refine Ends.bind (pTy_fits h) (pTy_ends h) fun t r _ hr hl => Ends.bind (want_fits hr 1 (by decide)) (want_ends _ _) fun s r _ hr hl => ?_
    have ht := tail_len hr
    split
    · rename_i hs
      exact pPL_ends n _ _ (hr.sign hs) (by omega)
    · exact Ends.bind (must_fits hr _) (must_ends _ _) fun _ r _ hr hl => trivial
theorem pPs_ends {n : Nat} {l : List Tok} (h : EndL l) (hn : 20 * l.length + 1 ≤ n) : Ends (pPs n l) := by
  unfold pPs
  refine Ends.bind (must_fits h _) (must_ends _ _) fun _ r _ hr hl => ?_
  split
  · trivial
  · exact pPL_ends n _ _ hr (by omega)
theorem pFn_ends {n : Nat} {t : Int} {s : ByteArray} {l : List Tok} (h : EndL l) (hn : 20 * l.length + 30 ≤ n) : Ends (pFn n t s l) := by
  unfold pFn
  exact Ends.bind (pPs_fits h) (pPs_ends h (by omega)) fun _ r _ hr hl => Ends.bind (pB_fits hr) (pB_ends hr (by omega)) fun _ r _ hr hl => trivial
theorem pArr_ends {s : ByteArray} {l : List Tok} (h : EndL l) : Ends (pArr s l) := by
  unfold pArr
  exact Ends.bind (want_fits h 0 (by decide)) (want_ends _ _) fun _ r _ hr hl => Ends.bind (must_fits hr _) (must_ends _ _) fun _ r _ hr hl => Ends.bind (must_fits hr _) (must_ends _ _) fun _ r _ hr hl => trivial
theorem pPr_ends : ∀ (n : Nat) (p : Pr) (l : List Tok), EndL l → 20 * l.length + 40 ≤ n → Ends (pPr n p l)
  | 0, _, _, _, _ => by omega
  | n + 1, p, l, h, hn => by
    rw [pPr]
    split
    · trivial
    · refine Ends.bind (pTy_fits h) (pTy_ends h) fun t r _ hr hl => Ends.bind (want_fits hr 1 (by decide)) (want_ends _ _) fun s r _ hr hl => ?_
      split
      · rename_i hs
        have ht := tail_len hr
        exact Ends.bind (pArr_fits (hr.sign hs.2.2)) (pArr_ends (hr.sign hs.2.2)) fun _ r _ hr hl => pPr_ends n _ _ hr (by omega)
      · exact Ends.bind (pFn_fits hr) (pFn_ends hr (by omega)) fun _ r _ hr hl => pPr_ends n _ _ hr (by omega)
/-- The program of tokens. -/
def parseT (l : List Tok) : PR Pr := pPr (20 * l.length + 40) ⟨[], []⟩ l
theorem parseT_ends {l : List Tok} (h : EndL l) : Ends (parseT l) := pPr_ends _ _ _ h (Nat.le_refl _)
end Go.Proofs.YtakijoblbmfadaaGreatDoor
