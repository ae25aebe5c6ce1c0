import Derived.Test.YtakijoblbmfadaaGreatDoorMgTreeVals
import Derived.Test.YtakijoblbmfadaaGreatDoorMgParMath
import Derived.Deep.RegionHeld3
set_option linter.unusedSimpArgs false
set_option linter.unusedVariables false
/- The document's parser: its box in memory, what is left alone but for it, and its small methods. -/
namespace Go.Proofs.YtakijoblbmfadaaGreatDoor
open Go.RowKit
/-- The world without what lies in block b. -/
def hole (b : Nat) (w : World) : World := { w with heap := w.heap.setIfInBounds b (.cells #[] 0 (0, 0)) }
theorem hole_size (b : Nat) (w : World) : (hole b w).heap.size = w.heap.size := by simp [hole]
theorem hole_at {b k : Nat} (w : World) (h : k ≠ b) : (hole b w).heap[k]? = w.heap[k]? := by
  simp only [hole, Array.getElem?_setIfInBounds]
  rw [if_neg (fun e => h e.symm)]
theorem hole_b {b : Nat} (w : World) : (hole b w).heap[b]? = if b < w.heap.size then some (.cells #[] 0 (0, 0)) else none := by
  simp only [hole, Array.getElem?_setIfInBounds, if_true]
/-- Below B all is as it was, but for block b. -/
def OffB (b B : Nat) (w w' : World) : Prop := Below B (hole b w) (hole b w')
theorem OffB.mk' {b B : Nat} {w w' : World} (h1 : w'.os = w.os) (h2 : w'.tape = w.tape) (h3 : w'.output = w.output) (h4 : w.heap.size ≤ w'.heap.size) (hb : b < w.heap.size) (h5 : ∀ k, k < B → k ≠ b → w'.heap[k]? = w.heap[k]?) : OffB b B w w' := by
  refine ⟨h1, h2, h3, by rw [hole_size, hole_size]; exact h4, fun k hk => ?_⟩
  by_cases e : k = b
  · subst e
    rw [hole_b, hole_b, if_pos hb, if_pos (by omega)]
  · rw [hole_at w' e, hole_at w e]
    exact h5 k hk e
theorem OffB.refl (b B : Nat) (w : World) : OffB b B w w := Below.refl _ _
theorem OffB.trans {b B : Nat} {w w' w2 : World} (h : OffB b B w w') (g : OffB b B w' w2) : OffB b B w w2 := Below.trans h g
theorem OffB.mono {b B B' : Nat} {w w' : World} (h : OffB b B w w') (hB : B' ≤ B) : OffB b B' w w' := Below.mono h hB
theorem OffB.size {b B : Nat} {w w' : World} (h : OffB b B w w') : w.heap.size ≤ w'.heap.size := by have := Below.size h; rw [hole_size, hole_size] at this; exact this
theorem OffB.block {b B k : Nat} {w w' : World} (h : OffB b B w w') (hk : k < B) (hb : k ≠ b) : w'.heap[k]? = w.heap[k]? := by have := Below.block h k hk; rw [hole_at w hb, hole_at w' hb] at this; exact this
theorem OffB.cell {b B k o : Nat} {w w' : World} (h : OffB b B w w') (hk : k < B) (hb : k ≠ b) : w'.cell? ⟨k, o, none⟩ = w.cell? ⟨k, o, none⟩ := World.cell?_of_block (w := w) (h.block hk hb)
theorem OffB.of_below {b B : Nat} {w w' : World} (h : Below B w w') (hb : b < w.heap.size) : OffB b B w w' := OffB.mk' h.os h.tape h.output h.size hb fun k hk _ => h.block k hk
theorem OffB.drewN {b B : Nat} {w w' : World} (h : OffB b B w w') (n : Nat) : OffB b B w (w'.drewN n) := Below.trans h ⟨rfl, rfl, rfl, Nat.le_refl _, fun _ _ => rfl⟩
theorem OffB.alloc {b B : Nat} {w w' : World} (h : OffB b B w w') (hb : b < w'.heap.size) (hB : B ≤ w'.heap.size) (o : Obj) : OffB b B w (w'.alloc o) :=
  h.trans (OffB.of_below ((Below.refl B w').alloc hB o) hb)
theorem OffB.setb {b B : Nat} {w w' : World} (h : OffB b B w w') (hb : b < w'.heap.size) (i : Nat) (u : Value) : OffB b B w (w'.setCell ⟨b, i, none⟩ u) :=
  h.trans (OffB.mk' rfl rfl rfl (by simp [World.setCell]) hb fun k _ hne => Below.heap_setCell w' _ u k hne)
theorem OffB.setCell {b B g : Nat} {w w' : World} (h : OffB b B w w') (hb : b < w'.heap.size) (hg : B ≤ g) (i : Nat) (u : Value) : OffB b B w (w'.setCell ⟨g, i, none⟩ u) :=
  h.trans (OffB.mk' rfl rfl rfl (by simp [World.setCell]) hb fun k hk _ => Below.heap_setCell w' _ u k (by show k ≠ g; omega))
theorem OffB.lt {b B : Nat} {w w' : World} (h : OffB b B w w') (hb : b < w.heap.size) : b < w'.heap.size := Nat.lt_of_lt_of_le hb h.size
/-- What reads without block b reads with it. -/
theorem CellB.unhole {b B : Nat} {w : World} {g o : Nat} {u : Value} (h : CellB B (hole b w) g o u) : CellB B w g o u := by
  refine ⟨h.1, ?_⟩
  by_cases e : g = b
  · subst e
    have h2 := h.2
    unfold World.cell? at h2
    rw [show (hole g w).heap[(⟨g, o, none⟩ : Addr).block]? = (hole g w).heap[g]? from rfl, hole_b] at h2
    split at h2
    · rename_i heq
      split at heq
      · injection heq with heq
        injection heq with e1 _ _
        subst e1
        simp at h2
      · cases heq
    · cases h2
  · rw [← h.2]
    exact (World.cell?_of_block (w := hole b w) (w' := w) (hole_at w e).symm)
/-! ### the parser's box -/
/-- The slice V has these tokens, in a block that is not b. -/
def TokH (b : Nat) (V : Value) (all : List Tok) (w : World) : Prop :=
  ∃ (g c : Nat), V = .slice (some ⟨g, 0, none⟩) all.length c ∧ g ≠ b ∧ g < w.heap.size ∧ (∀ (j : Nat) u, (tokCells all)[j]? = some u → w.cell? ⟨g, j, none⟩ = some u) ∧ all.length ≤ 1000000 ∧ ∀ t ∈ all, t.kind = 0 → numB t.text = true ∧ (⟨t.text.toArray⟩ : ByteArray).size ≤ 281474976710656
theorem TokH.off {b : Nat} {V : Value} {all : List Tok} {w w' : World} (h : TokH b V all w) (ho : OffB b w.heap.size w w') : TokH b V all w' := by
  obtain ⟨g, c, hv, hb, hg, hc, hl, hn⟩ := h
  exact ⟨g, c, hv, hb, Nat.lt_of_lt_of_le hg ho.size, fun j u hu => (ho.cell hg hb).trans (hc j u hu), hl, hn⟩
/-- The box: its tokens, at a rest r of them. -/
def Pbox (b : Nat) (V : Value) (all r : List Tok) (bd dp : Bool) (w : World) : Prop :=
  Is w b 64 #[V, .int .i64 ((all.length - r.length : Nat) : Int), .bool bd, .bool dp] ∧ TokH b V all w ∧ r <:+ all ∧ EndL r
theorem Pbox.lt {b : Nat} {V : Value} {all r : List Tok} {bd dp : Bool} {w : World} (h : Pbox b V all r bd dp w) : b < w.heap.size := h.1.lt
theorem Pbox.cells {b : Nat} {V : Value} {all r : List Tok} {bd dp : Bool} {w : World} (h : Pbox b V all r bd dp w) :
    w.cell? ⟨b, 0, none⟩ = some V ∧ w.cell? ⟨b, 1, none⟩ = some (.int .i64 ((all.length - r.length : Nat) : Int)) ∧ w.cell? ⟨b, 2, none⟩ = some (.bool bd) ∧ w.cell? ⟨b, 3, none⟩ = some (.bool dp) :=
  ⟨(h.1.cell 0).trans rfl, (h.1.cell 1).trans rfl, (h.1.cell 2).trans rfl, (h.1.cell 3).trans rfl⟩
theorem suffix_at {all r : List Tok} (h : r <:+ all) {t : Tok} {q : List Tok} (e : r = t :: q) : all[all.length - r.length]? = some t := by
  obtain ⟨p, rfl⟩ := h
  subst e
  rw [List.length_append, Nat.add_sub_cancel, List.getElem?_append_right (Nat.le_refl _), Nat.sub_self]
  rfl
theorem tok_cells (ts : List Tok) (k : Nat) (t : Tok) (h : ts[k]? = some t) : (tokCells ts)[k * 3]? = some (.int .i64 t.kind) ∧ (tokCells ts)[k * 3 + 1]? = some (.string ⟨t.text.toArray⟩) ∧ (tokCells ts)[k * 3 + 2]? = some (.int .i64 (t.line : Int)) := by
  induction ts generalizing k with
  | nil => simp at h
  | cons a r ih =>
    have e : tokCells (a :: r) = .int .i64 a.kind :: .string ⟨a.text.toArray⟩ :: .int .i64 (a.line : Int) :: tokCells r := by simp [tokCells]
    rw [e]
    cases k with
    | zero =>
      simp at h
      subst h
      exact ⟨rfl, rfl, rfl⟩
    | succ k =>
      obtain ⟨h1, h2, h3⟩ := ih k (by simpa using h)
      rw [show (k + 1) * 3 = k * 3 + 1 + 1 + 1 by omega]
      exact ⟨h1, h2, h3⟩
/-- What stands at the box's place. -/
theorem Pbox.tok {b : Nat} {V : Value} {all r : List Tok} {bd dp : Bool} {w : World} (h : Pbox b V all r bd dp w) : ∃ (g c k : Nat) (t : Tok) (q : List Tok), V = .slice (some ⟨g, 0, none⟩) all.length c ∧ r = t :: q ∧ k = all.length - r.length ∧ k < all.length ∧ all.length ≤ 1000000 ∧
    w.cell? ⟨b, 0, none⟩ = some (.slice (some ⟨g, 0, none⟩) all.length c) ∧ w.cell? ⟨b, 1, none⟩ = some (.int .i64 (k : Int)) ∧ w.cell? ⟨b, 2, none⟩ = some (.bool bd) ∧ w.cell? ⟨b, 3, none⟩ = some (.bool dp) ∧
    w.cell? ⟨g, k * 3, none⟩ = some (.int .i64 t.kind) ∧ w.cell? ⟨g, k * 3 + 1, none⟩ = some (.string ⟨t.text.toArray⟩) ∧ w.cell? ⟨g, k * 3 + 2, none⟩ = some (.int .i64 (t.line : Int)) := by
  obtain ⟨c0, c1, c2, c3⟩ := h.cells
  obtain ⟨_, ⟨g, c, hv, _, _, hc, hl, _⟩, hs, he⟩ := h
  obtain ⟨t, q, rfl⟩ := List.exists_cons_of_ne_nil he.ne
  have ha := suffix_at hs rfl
  obtain ⟨h1, h2, h3⟩ := tok_cells all _ t ha
  refine ⟨g, c, _, t, q, hv, rfl, rfl, ?_, hl, hv ▸ c0, c1, c2, c3, hc _ _ h1, hc _ _ h2, hc _ _ h3⟩
  exact (List.getElem?_eq_some_iff.1 ha).1
/-! ### how a try stands -/
def PR.un {α : Type} (x : PR α) : PR Unit := x.bind fun _ r => .ok () r
def isOver {α : Type} : PR α → Bool
  | .ok _ _ => false
  | _ => true
def isAt {α : Type} (s : List UInt8) : PR α → Bool
  | .ok _ r => isS s r
  | _ => false
def StP (b : Nat) (V : Value) (all : List Tok) (x : PR Unit) (w : World) : Prop :=
  match x with
  | .ok _ r => Pbox b V all r false false w
  | .bad r => Pbox b V all r true false w
  | .deep r => Pbox b V all r false true w
  | .out => False
/-- Of a good try P holds of what it gave, of another P holds of something. -/
def Got {α : Type} (x : PR α) (P : α → Prop) : Prop :=
  match x with
  | .ok a _ => P a
  | .bad _ => ∃ a, P a
  | .deep _ => ∃ a, P a
  | .out => True
theorem Pbox.off {b : Nat} {V : Value} {all r : List Tok} {bd dp : Bool} {w w' : World} (h : Pbox b V all r bd dp w) (hb : Below w.heap.size w w') : Pbox b V all r bd dp w' :=
  ⟨h.1.below hb h.1.lt, h.2.1.off (OffB.of_below hb h.lt), h.2.2⟩
theorem StP.below {b : Nat} {V : Value} {all : List Tok} {x : PR Unit} {w w' : World} (h : StP b V all x w) (hb : Below w.heap.size w w') : StP b V all x w' := by
  cases x with
  | ok a r => exact Pbox.off h hb
  | bad r => exact Pbox.off h hb
  | deep r => exact Pbox.off h hb
  | out => exact h
theorem StP.lt {b : Nat} {V : Value} {all : List Tok} {x : PR Unit} {w : World} (h : StP b V all x w) : b < w.heap.size := by
  cases x with
  | ok a r => exact Pbox.lt h
  | bad r => exact Pbox.lt h
  | deep r => exact Pbox.lt h
  | out => exact absurd h id
theorem StP.drewN {b : Nat} {V : Value} {all : List Tok} {x : PR Unit} {w : World} (h : StP b V all x w) (n : Nat) : StP b V all x (w.drewN n) := h.below (below_drewN (Below.refl _ _) n)
/-- The box, however it stands. -/
theorem StP.box {b : Nat} {V : Value} {all : List Tok} {x : PR Unit} {w : World} (h : StP b V all x w) : ∃ r bd dp, Pbox b V all r bd dp w ∧ isOver x = (bd || dp) ∧ (x = .ok () r ∧ bd = false ∧ dp = false ∨ x = .bad r ∧ bd = true ∧ dp = false ∨ x = .deep r ∧ bd = false ∧ dp = true) := by
  cases x with
  | ok a r => exact ⟨r, false, false, h, rfl, .inl ⟨rfl, rfl, rfl⟩⟩
  | bad r => exact ⟨r, true, false, h, rfl, .inr (.inl ⟨rfl, rfl, rfl⟩)⟩
  | deep r => exact ⟨r, false, true, h, rfl, .inr (.inr ⟨rfl, rfl, rfl⟩)⟩
  | out => exact absurd h id
def pbox (b : Nat) : Value := .pointer (some ⟨b, 0, none⟩)
theorem over_any {b : Nat} {V : Value} {all : List Tok} {x : PR Unit} {w : World} (h : StP b V all x w) : Calls Tryz.prog 45 #[.pointer (some ⟨b, 0, none⟩)] w fun e w' => e = .returned (.bool (isOver x)) ∧ w' = w := by
  obtain ⟨r, bd, dp, hp, ho, _⟩ := h.box
  obtain ⟨_, _, c2, c3⟩ := hp.cells
  rw [ho]
  clear h hp ho
  cases bd
  all_goals
    go_enter Tryz.func45, Tryz.ntmps45
    go_wp2
    go_ret
    exact ⟨by simp, rfl⟩
theorem over_is {b : Nat} {V : Value} {all : List Tok} {x : PR Unit} {w : World} (h : StP b V all x w) (v : Bool) (hv : isOver x = v) : Calls Tryz.prog 45 #[.pointer (some ⟨b, 0, none⟩)] w fun e w' => e = .returned (.bool v) ∧ w' = w := hv ▸ over_any h
theorem isS_head (s : List UInt8) (t : Tok) (r : List Tok) : isS s (t :: r) = (decide (t.kind = 2) && t.text == s) := rfl
theorem text_eq (t : List UInt8) (s : ByteArray) : (t == s.data.toList) = ((⟨t.toArray⟩ : ByteArray).toList == s.toList) := by rw [Lib.toList_data, Lib.toList_data]
theorem is_live {b : Nat} {V : Value} {all r : List Tok} {w : World} (h : Pbox b V all r false false w) (s : ByteArray) (v : Bool) (hv : isS s.data.toList r = v) :
    Calls Tryz.prog 71 #[.pointer (some ⟨b, 0, none⟩), .string s] w fun e w' => e = .returned (.bool v) ∧ ∃ m, w' = w.drewN m := by
  have hst : ∀ m, StP b V all (.ok () r) (w.drewN m) := fun m => StP.drewN (x := .ok () r) h m
  obtain ⟨g, c, k, t, q, rfl, rfl, hk, hlt, hl, c0, c1, c2, c3, t0, t1, t2⟩ := h.tok
  have HST := Lib.hid hst
  clear h hk hst
  have hlk : (k : Int) < all.length := by omega
  rw [isS_head, text_eq] at hv
  obtain ⟨T, hT⟩ : ∃ T : ByteArray, T = ⟨t.text.toArray⟩ := ⟨_, rfl⟩
  rw [← hT] at hv t1
  clear hT
  cases hk2 : decide (t.kind = 2) with
  | true =>
    have e2 : t.kind = 2 := of_decide_eq_true hk2
    rw [e2] at t0
    rw [hk2, Bool.true_and] at hv
    clear hk2 e2
    go_enter Tryz.func71, Tryz.ntmps71
    go_wp2
    go_quiet ((go_at_call 45; exact Calls.quiet_of_same (over_is (HST.out _) false rfl)))
    go_wp2
    go_ret
    exact ⟨rfl, _, rfl⟩
  | false =>
    have e2 : (t.kind == 2) = false := by simpa using hk2
    rw [hk2, Bool.false_and] at hv
    subst hv
    clear hk2
    go_enter Tryz.func71, Tryz.ntmps71
    go_wp2
    go_quiet ((go_at_call 45; exact Calls.quiet_of_same (over_is (HST.out _) false rfl)))
    go_wp2
    go_ret
    exact ⟨rfl, _, rfl⟩
theorem is_over {b : Nat} {V : Value} {all : List Tok} {x : PR Unit} {w : World} (h : StP b V all x w) (ho : isOver x = true) (s : ByteArray) :
    Calls Tryz.prog 71 #[.pointer (some ⟨b, 0, none⟩), .string s] w fun e w' => e = .returned (.bool false) ∧ ∃ m, w' = w.drewN m := by
  have hst : ∀ m, StP b V all x (w.drewN m) := fun m => h.drewN m
  obtain ⟨r, bd, dp, hp, _, _⟩ := h.box
  obtain ⟨g, c, k, t, q, rfl, rfl, hk, hlt, hl, c0, c1, c2, c3, t0, t1, t2⟩ := hp.tok
  have HST := Lib.hid hst
  have HO := Lib.hid ho
  clear h hk hst hp ho
  have hlk : (k : Int) < all.length := by omega
  go_enter Tryz.func71, Tryz.ntmps71
  go_wp2
  go_quiet ((go_at_call 45; exact Calls.quiet_of_same (over_is (HST.out _) true HO.out)))
  go_wp2
  go_ret
  exact ⟨rfl, _, rfl⟩
theorem is_is {b : Nat} {V : Value} {all : List Tok} {x : PR Unit} {w : World} (h : StP b V all x w) (s : ByteArray) (v : Bool) (hv : isAt s.data.toList x = v) :
    Calls Tryz.prog 71 #[.pointer (some ⟨b, 0, none⟩), .string s] w fun e w' => e = .returned (.bool v) ∧ ∃ m, w' = w.drewN m := by
  subst hv
  cases x with
  | ok a r => exact is_live h s _ rfl
  | bad r => exact is_over h rfl s
  | deep r => exact is_over h rfl s
  | out => exact absurd h id
def takeX (s : List UInt8) (x : PR Unit) : PR Unit := if isAt s x then x.bind fun _ r => .ok () r.tail else x
theorem isAt_ok {s : List UInt8} {x : PR Unit} (h : isAt s x = true) : ∃ r, x = .ok () r ∧ isS s r = true := by
  cases x with
  | ok a r => exact ⟨r, rfl, h⟩
  | bad r => cases h
  | deep r => cases h
  | out => cases h
theorem sub_tail {n k : Nat} (h : k + 1 ≤ n) : ((n - (k + 1) : Nat) : Int) + 1 = ((n - k : Nat) : Int) := by omega
theorem suffix_len {a r : List Tok} (h : r <:+ a) : r.length ≤ a.length := h.length_le
theorem Pbox.next {b : Nat} {V : Value} {all r : List Tok} {w : World} (h : Pbox b V all r false false w) (hk : hdK r ≠ 3) : Pbox b V all r.tail false false (w.setCell ⟨b, 1, none⟩ (.int .i64 (((all.length - r.length : Nat) : Int) + 1))) := by
  have hlt := h.lt
  have ht := tail_len h.2.2.2
  have hs := suffix_len h.2.2.1
  refine ⟨?_, h.2.1.off ((OffB.refl b _ w).setb hlt 1 _), (List.tail_suffix r).trans h.2.2.1, h.2.2.2.tail hk⟩
  have := h.1.set 1 (.int .i64 (((all.length - r.length : Nat) : Int) + 1))
  rw [show r.length = r.tail.length + 1 by omega, sub_tail (by omega)] at this ⊢
  exact this
/-- What the small methods leave. -/
def Did (b : Nat) (V : Value) (all : List Tok) (w : World) (x : PR Unit) (w' : World) : Prop := StP b V all x w' ∧ OffB b w.heap.size w w'
theorem Did.st {b : Nat} {V : Value} {all : List Tok} {w w' : World} {x : PR Unit} (h : Did b V all w x w') : StP b V all x w' := h.1
theorem Did.off {b : Nat} {V : Value} {all : List Tok} {w w' : World} {x : PR Unit} (h : Did b V all w x w') : OffB b w.heap.size w w' := h.2
theorem take_yes {b : Nat} {V : Value} {all : List Tok} {x : PR Unit} {w : World} (h : StP b V all x w) (s : ByteArray) (hv : isAt s.data.toList x = true) :
    Calls Tryz.prog 48 #[.pointer (some ⟨b, 0, none⟩), .string s] w fun e w' => e = .returned (.bool true) ∧ Did b V all w (x.bind fun _ r => .ok () r.tail) w' := by
  obtain ⟨r, rfl, hs⟩ := isAt_ok hv
  have hN : ∀ n, Pbox b V all r.tail false false ((w.drewN n).setCell ⟨b, 1, none⟩ (.int .i64 (((all.length - r.length : Nat) : Int) + 1))) := fun n => Pbox.next (w := w.drewN n) (StP.drewN (x := .ok () r) h n) (by rw [(isS_kind hs).1]; decide)
  have hO : ∀ n, OffB b w.heap.size w ((w.drewN n).setCell ⟨b, 1, none⟩ (.int .i64 (((all.length - r.length : Nat) : Int) + 1))) := fun n => ((OffB.refl b _ w).drewN n).setb (StP.drewN (x := .ok () r) h n).lt 1 _
  obtain ⟨g, c, k, t, q, rfl, rfl, hk, hlt, hl, c0, c1, c2, c3, t0, t1, t2⟩ := (show Pbox b V all r false false w from h).tok
  have f1 := (show Pbox b _ all _ false false w from h).1.frozen 1
  rw [← hk] at hN hO
  have HD : Hid (∀ n, Did b (.slice (some ⟨g, 0, none⟩) all.length c) all w (.ok () q) ((w.drewN n).setCell ⟨b, 1, none⟩ (.int .i64 ((k : Int) + 1)))) := fun n => ⟨hN n, hO n⟩
  have H := Lib.hid h
  have HV := Lib.hid hv
  have hlk : (k : Int) < all.length := by omega
  clear h hv hk hN hO hs
  go_enter Tryz.func48, Tryz.ntmps48
  go_wp2_with (go_at_call 71; (with_reducible refine (is_is H.out s true HV.out).mono ?_); rintro e w1 ⟨rfl, m, rfl⟩)
  go_ret
  exact ⟨rfl, HD.out m⟩
theorem take_no {b : Nat} {V : Value} {all : List Tok} {x : PR Unit} {w : World} (h : StP b V all x w) (s : ByteArray) (hv : isAt s.data.toList x = false) :
    Calls Tryz.prog 48 #[.pointer (some ⟨b, 0, none⟩), .string s] w fun e w' => e = .returned (.bool false) ∧ ∃ m, w' = w.drewN m := by
  have H := Lib.hid h
  have HV := Lib.hid hv
  clear h hv
  go_enter Tryz.func48, Tryz.ntmps48
  go_wp2_with (go_at_call 71; (with_reducible refine (is_is H.out s false HV.out).mono ?_); rintro e w1 ⟨rfl, m, rfl⟩)
  go_ret
  exact ⟨rfl, m, rfl⟩
theorem take_no' {b : Nat} {V : Value} {all : List Tok} {x : PR Unit} {w : World} (h : StP b V all x w) (s : ByteArray) (hv : isAt s.data.toList x = false) :
    Calls Tryz.prog 48 #[.pointer (some ⟨b, 0, none⟩), .string s] w fun e w' => e = .returned (.bool false) ∧ Did b V all w x w' :=
  (take_no h s hv).mono fun _ _ ⟨he, m, hm⟩ => ⟨he, hm ▸ ⟨h.drewN m, (OffB.refl b _ w).drewN m⟩⟩
theorem Pbox.spoil {b : Nat} {V : Value} {all r : List Tok} {bd : Bool} {w : World} (h : Pbox b V all r bd false w) : Pbox b V all r true false (w.setCell ⟨b, 2, none⟩ (.bool true)) :=
  ⟨h.1.set 2 (.bool true), h.2.1.off ((OffB.refl b _ w).setb h.lt 2 _), h.2.2⟩
theorem spoil_did {b : Nat} {V : Value} {all r : List Tok} {bd : Bool} {w : World} (h : Pbox b V all r bd false w) (m : Nat) : Did b V all w (.bad r) ((w.drewN m).setCell ⟨b, 2, none⟩ (.bool true)) := by
  have h2 : Pbox b V all r bd false (w.drewN m) := h.off (below_drewN (Below.refl _ _) m)
  exact ⟨h2.spoil, ((OffB.refl b _ w).drewN m).setb h2.lt 2 _⟩
theorem must_any {b : Nat} {V : Value} {all : List Tok} {x : PR Unit} {w : World} (h : StP b V all x w) (s : ByteArray) :
    Calls Tryz.prog 50 #[.pointer (some ⟨b, 0, none⟩), .string s] w fun e w' => e = .returned (.tuple #[]) ∧ Did b V all w (x.bind fun _ r => must s.data.toList r) w' := by
  cases hv : isAt s.data.toList x with
  | true =>
    obtain ⟨r, rfl, hs⟩ := isAt_ok hv
    have e1 : must s.data.toList r = .ok () r.tail := by unfold must; rw [if_pos hs]
    rw [show ((PR.ok () r).bind fun _ r => must s.data.toList r) = .ok () r.tail from e1]
    have H := Lib.hid h
    have HV := Lib.hid hv
    clear h hv hs e1
    go_enter Tryz.func50, Tryz.ntmps50
    go_wp2_with (go_at_call 48; (with_reducible refine (take_yes H.out s HV.out).mono ?_); rintro e w1 ⟨rfl, hD⟩)
    go_end0
    exact ⟨rfl, hD⟩
  | false =>
    obtain ⟨r, bd, dp, hp, ho, hx⟩ := h.box
    have e1 : (x.bind fun _ r => must s.data.toList r) = if dp then .deep r else .bad r := by
      rcases hx with ⟨rfl, rfl, rfl⟩ | ⟨rfl, rfl, rfl⟩ | ⟨rfl, rfl, rfl⟩
      · show must s.data.toList r = _
        unfold must
        rw [if_neg (by rw [show isS s.data.toList r = false from hv]; decide)]
        rfl
      · rfl
      · rfl
    rw [e1]
    obtain ⟨_, _, c2, c3⟩ := hp.cells
    have f2 := hp.1.frozen 2
    have H := Lib.hid h
    have HV := Lib.hid hv
    have HP := Lib.hid hp
    have HX := Lib.hid hx
    clear h hv hp hx ho e1
    cases dp with
    | true =>
      go_enter Tryz.func50, Tryz.ntmps50
      go_wp2_with (go_at_call 48; (with_reducible refine (take_no H.out s HV.out).mono ?_); rintro e w1 ⟨rfl, m, rfl⟩)
      go_end0
      refine ⟨rfl, ?_, (OffB.refl b _ w).drewN m⟩
      rcases HX.out with ⟨_, _, h3⟩ | ⟨_, _, h3⟩ | ⟨rfl, _, _⟩
      · cases h3
      · cases h3
      · exact H.out.drewN m
    | false =>
      go_enter Tryz.func50, Tryz.ntmps50
      go_wp2_with (go_at_call 48; (with_reducible refine (take_no H.out s HV.out).mono ?_); rintro e w1 ⟨rfl, m, rfl⟩)
      go_end0
      exact ⟨rfl, spoil_did HP.out m⟩
/-- What a method that tells something leaves. -/
def Gave (b : Nat) (V : Value) (all : List Tok) (w : World) {α : Type} (x : PR α) (F : World → α → Value → Prop) (e : Ending) (w' : World) : Prop :=
  ∃ v, e = .returned v ∧ Did b V all w x.un w' ∧ Got x fun a => F w' a v
def StrV (_ : World) (a : ByteArray) (v : Value) : Prop := v = .string a
def IntV (_ : World) (a : Int) (v : Value) : Prop := v = .int .i64 a
theorem text_over {b : Nat} {V : Value} {all : List Tok} {x : PR Unit} {w : World} (h : StP b V all x w) (ho : isOver x = true) (k : Int) :
    Calls Tryz.prog 47 #[.pointer (some ⟨b, 0, none⟩), .int .i64 k] w fun e w' => e = .returned (.string ⟨#[]⟩) ∧ Did b V all w x w' := by
  have H := Lib.hid h
  have HO := Lib.hid ho
  clear h ho
  go_enter Tryz.func47, Tryz.ntmps47
  go_wp2_with (go_at_call 45; (with_reducible refine (over_is H.out true HO.out).mono ?_); rintro e w1 ⟨rfl, rfl⟩)
  go_ret
  exact ⟨rfl, H.out, OffB.refl _ _ _⟩
def tokBox (t : Tok) : Obj := .cells #[.int .i64 t.kind, .string ⟨t.text.toArray⟩, .int .i64 (t.line : Int)] 67
theorem box_more {b : Nat} {V : Value} {all : List Tok} {x : PR Unit} {w w1 : World} (h : Did b V all w x w1) (hz : w.heap.size ≤ w1.heap.size) (o : Obj) : Did b V all w x (w1.alloc o).drew := by
  have hb : Below w1.heap.size w1 (w1.alloc o).drew := ((Below.refl _ _).alloc (Nat.le_refl _) o).drew
  exact ⟨h.1.below hb, h.2.trans ((OffB.of_below hb h.1.lt).mono hz)⟩
theorem box_next {b : Nat} {V : Value} {all r : List Tok} {w : World} (h : Pbox b V all r false false w) (hk : hdK r ≠ 3) (o : Obj) : Did b V all w (.ok () r.tail) (((w.setCell ⟨b, 1, none⟩ (.int .i64 (((all.length - r.length : Nat) : Int) + 1))).alloc o).drew) :=
  box_more (x := .ok () r.tail) ⟨h.next hk, (OffB.refl b _ w).setb h.lt 1 _⟩ (by simp) o
theorem box_spoil {b : Nat} {V : Value} {all r : List Tok} {w : World} (h : Pbox b V all r false false w) (o : Obj) : Did b V all w (.bad r) (((w.setCell ⟨b, 2, none⟩ (.bool true)).alloc o).drew) :=
  box_more (x := .bad r) ⟨h.spoil, (OffB.refl b _ w).setb h.lt 2 _⟩ (by simp) o
theorem Did.drewN {b : Nat} {V : Value} {all : List Tok} {x : PR Unit} {w w1 : World} {m : Nat} (h : Did b V all (w.drewN m) x w1) : Did b V all w x w1 := ⟨h.1, ((OffB.refl b _ w).drewN m).trans h.2⟩
set_option maxRecDepth 100000 in
theorem text_live {b : Nat} {V : Value} {all r : List Tok} {w : World} (h : Pbox b V all r false false w) (k : Int) (hk3 : k ≠ 3) :
    Calls Tryz.prog 47 #[.pointer (some ⟨b, 0, none⟩), .int .i64 k] w (Gave b V all w (want k r) StrV) := by
  have hN := fun (hk : hdK r ≠ 3) o => box_next h hk o
  have hS := fun o => box_spoil h o
  have hlt := h.lt
  have f1 := h.1.frozen 1
  have f2 := h.1.frozen 2
  have HOV := Lib.hid (show StP b V all (.ok () r) w from h)
  obtain ⟨g, c, p, t, q, rfl, rfl, hp, hpl, hl, c0, c1, c2, c3, t0, t1, t2⟩ := h.tok
  rw [← hp] at hN
  have hlk : (p : Int) < all.length := by omega
  have hw0 : 0 < w.heap.size := by omega
  have HS := Lib.hid hS
  clear h hp hS
  cases hk2 : decide (t.kind = k) with
  | true =>
    obtain rfl : t.kind = k := of_decide_eq_true hk2
    have HN := Lib.hid (hN hk3)
    have ew : want t.kind (t :: q) = .ok ⟨t.text.toArray⟩ q := by unfold want; rw [if_pos (show hdK (t :: q) = t.kind from rfl)]; rfl
    rw [ew]
    clear hk2 hN ew
    go_enter Tryz.func47, Tryz.ntmps47
    go_wp2_with (go_at_call 45; (with_reducible refine (over_is HOV.out false rfl).mono ?_); rintro e w1 ⟨rfl, rfl⟩)
    go_region_held3 (fun w' => w'.cell? ⟨b, 0, none⟩ = some (.slice (some ⟨g, 0, none⟩) all.length c) ∧ w'.cell? ⟨b, 1, none⟩ = some (.int .i64 p) ∧ w'.cell? ⟨g, p * 3, none⟩ = some (.int .i64 t.kind) ∧ w'.cell? ⟨g, p * 3 + 1, none⟩ = some (.string ⟨t.text.toArray⟩) ∧ w'.cell? ⟨g, p * 3 + 2, none⟩ = some (.int .i64 (t.line : Int)) ∧ 0 < w'.heap.size)
      (first | go_keep | (go_split_ands; refine ⟨?_, ?_, ?_, ?_, ?_, ?_⟩ <;> assumption))
      (fail)
    go_wp2_with (fail)
    go_ret
    exact ⟨_, rfl, HN.out _, rfl⟩
  | false =>
    have e2 : (t.kind != k) = true := by simpa using hk2
    have ew : want k (t :: q) = .bad (t :: q) := by unfold want; rw [if_neg (show ¬ hdK (t :: q) = k from of_decide_eq_false hk2)]
    rw [ew]
    clear hk2 hN ew
    go_enter Tryz.func47, Tryz.ntmps47
    go_wp2_with (go_at_call 45; (with_reducible refine (over_is HOV.out false rfl).mono ?_); rintro e w1 ⟨rfl, rfl⟩)
    go_region_held3 (fun w' => w'.cell? ⟨b, 0, none⟩ = some (.slice (some ⟨g, 0, none⟩) all.length c) ∧ w'.cell? ⟨b, 1, none⟩ = some (.int .i64 p) ∧ w'.cell? ⟨g, p * 3, none⟩ = some (.int .i64 t.kind) ∧ w'.cell? ⟨g, p * 3 + 1, none⟩ = some (.string ⟨t.text.toArray⟩) ∧ w'.cell? ⟨g, p * 3 + 2, none⟩ = some (.int .i64 (t.line : Int)) ∧ 0 < w'.heap.size)
      (first | go_keep | (go_split_ands; refine ⟨?_, ?_, ?_, ?_, ?_, ?_⟩ <;> assumption))
      (fail)
    go_wp2_with (fail)
    go_ret
    exact ⟨_, rfl, HS.out _, ⟨_, rfl⟩⟩
theorem text_yes {b : Nat} {V : Value} {all r : List Tok} {w : World} (h : StP b V all (.ok () r) w) (k : Int) (hk3 : k ≠ 3) (hk : hdK r = k) (s : ByteArray) (hs : s = ⟨(hdT r).toArray⟩) :
    Calls Tryz.prog 47 #[.pointer (some ⟨b, 0, none⟩), .int .i64 k] w fun e w' => e = .returned (.string s) ∧ Did b V all w (.ok () r.tail) w' := by
  subst hs
  have ew : want k r = .ok ⟨(hdT r).toArray⟩ r.tail := by unfold want; rw [if_pos hk]
  refine (text_live h k hk3).mono fun e w' hp => ?_
  rw [ew] at hp
  obtain ⟨v, he, hD, hv⟩ := hp
  exact ⟨by rw [he, show v = .string ⟨(hdT r).toArray⟩ from hv], hD⟩
theorem text_no {b : Nat} {V : Value} {all r : List Tok} {w : World} (h : StP b V all (.ok () r) w) (k : Int) (hk3 : k ≠ 3) (hk : hdK r ≠ k) :
    Calls Tryz.prog 47 #[.pointer (some ⟨b, 0, none⟩), .int .i64 k] w fun e w' => ∃ s, e = .returned (.string s) ∧ Did b V all w (.bad r) w' := by
  have ew : want k r = .bad r := by unfold want; rw [if_neg hk]
  refine (text_live h k hk3).mono fun e w' hp => ?_
  rw [ew] at hp
  obtain ⟨v, he, hD, a, hv⟩ := hp
  exact ⟨a, by rw [he, show v = .string a from hv], hD⟩
theorem typed_any {b : Nat} {V : Value} {all : List Tok} {x : PR Unit} {w : World} (h : StP b V all x w) :
    Calls Tryz.prog 46 #[.pointer (some ⟨b, 0, none⟩)] w (Gave b V all w (x.bind fun _ r => pTy r) IntV) := by
  cases hv : isAt sInt x with
  | true =>
    obtain ⟨r, rfl, hs⟩ := isAt_ok hv
    have e1 : pTy r = .ok 1 r.tail := by unfold pTy; rw [if_pos hs]
    rw [show ((PR.ok () r).bind fun _ r => pTy r) = .ok 1 r.tail from e1]
    have H := Lib.hid h
    have HV := Lib.hid hv
    clear h hv hs e1
    go_enter Tryz.func46, Tryz.ntmps46
    go_wp2_with (go_at_call 48; (with_reducible refine (take_yes H.out _ HV.out).mono ?_); rintro e w1 ⟨rfl, hD⟩)
    go_ret
    exact ⟨_, rfl, hD, rfl⟩
  | false =>
    have e1 : (x.bind fun _ r => pTy r) = x.bind fun _ r => (must sBool r).bind fun _ r => .ok 2 r := by
      cases x with
      | ok a r =>
        show pTy r = (must sBool r).bind _
        unfold pTy
        rw [if_neg (by rw [show isS sInt r = false from hv]; decide)]
      | _ => rfl
    have e2 : (x.bind fun _ r => (must sBool r).bind fun _ r => PR.ok (2 : Int) r).un = x.bind fun _ r => must sBool r := by
      cases x with
      | ok a r => show ((must sBool r).bind _).un = must sBool r; unfold must; split <;> rfl
      | _ => rfl
    have e3 : Got (x.bind fun _ r => (must sBool r).bind fun _ r => PR.ok (2 : Int) r) fun a => IntV w a (.int .i64 2) := by
      cases x with
      | ok a r => show Got ((must sBool r).bind _) _; unfold must; split; exact rfl; exact ⟨2, rfl⟩
      | bad r => exact ⟨2, rfl⟩
      | deep r => exact ⟨2, rfl⟩
      | out => trivial
    rw [e1]
    have H := Lib.hid h
    have HV := Lib.hid hv
    have HE := Lib.hid (And.intro e2 e3)
    clear h hv e1 e2 e3
    go_enter Tryz.func46, Tryz.ntmps46
    go_wp2_with (first
      | (go_at_call 48; (with_reducible refine (take_no H.out _ HV.out).mono ?_); rintro e w1 ⟨rfl, m, rfl⟩)
      | (go_at_call 50; (with_reducible refine (must_any (H.out.drewN m) _).mono ?_); rintro e w2 ⟨rfl, hD⟩))
    go_ret
    refine ⟨_, rfl, ?_, HE.out.2⟩
    rw [HE.out.1]
    exact hD.drewN
end Go.Proofs.YtakijoblbmfadaaGreatDoor

/- With fuel enough the plain parser looks at all: no Go, no program. -/
namespace Go.Proofs.YtakijoblbmfadaaGreatDoor
open Go

def Ends {α : Type} (x : PR α) : Prop := match x with | .out => False | _ => True
theorem Ends.bind {α β : Type} {k : Nat} {l : List Tok} {x : PR α} {f : α → List Tok → PR β} (hf : Fits k l x) (h : Ends x) (g : ∀ a r, x = .ok a r → EndL r → r.length + k ≤ l.length → Ends (f a r)) : Ends (x.bind f) := by
  cases x with
  | ok a r => exact g a r rfl (show RestOf k l r from hf).2.1 (show RestOf k l r from hf).2.2
  | bad r => trivial
  | deep r => trivial
  | out => exact h
theorem must_ends (s : List UInt8) (l : List Tok) : Ends (must s l) := by unfold must; split <;> trivial
theorem want_ends (k : Int) (l : List Tok) : Ends (want k l) := by unfold want; split <;> trivial
theorem ends_ok {α : Type} (a : α) (l : List Tok) : Ends (.ok a l) := trivial
theorem ends_expr (n : Nat) : (∀ lev d l, EndL l → 1 ≤ lev → lev ≤ 11 → 20 * (l.length : Int) + 15 - lev ≤ n → Ends (pE n lev d l)) ∧ (∀ lev d a l, EndL l → 1 ≤ lev → lev ≤ 10 → 20 * (l.length : Int) + 15 - lev ≤ n → Ends (pL n lev d a l)) ∧
    (∀ d l, EndL l → 20 * l.length + 3 ≤ n → Ends (pU n d l)) ∧ (∀ d l, EndL l → 20 * l.length + 2 ≤ n → Ends (pP n d l)) ∧
    (∀ d s l, EndL l → 20 * l.length + 1 ≤ n → Ends (pN n d s l)) ∧ (∀ d l, EndL l → 20 * l.length + 16 ≤ n → Ends (pA n d l)) ∧ (∀ d acc l, EndL l → 20 * l.length + 15 ≤ n → Ends (pAL n d acc l)) := by
  induction n with
  | zero => exact ⟨fun _ _ _ _ _ _ _ => by omega, fun _ _ _ _ _ _ _ _ => by omega, fun _ _ _ _ => by omega, fun _ _ _ _ => by omega, fun _ _ _ _ _ => by omega, fun _ _ _ _ => by omega, fun _ _ _ _ _ => by omega⟩
  | succ n ih =>
    obtain ⟨iE, iL, iU, iP, iN, iA, iAL⟩ := ih
    refine ⟨fun lev d l h h1 h2 hn => ?_, fun lev d a l h h1 h2 hn => ?_, fun d l h hn => ?_, fun d l h hn => ?_, fun d s l h hn => ?_, fun d l h hn => ?_, fun d acc l h hn => ?_⟩
    · rw [pE]
      split
      · exact iU d l h (by omega)
      · exact Ends.bind (pE_fits h) (iE _ _ _ h (by omega) (by omega) (by omega)) fun a r _ hr hl => iL _ _ _ _ hr h1 (by omega) (by omega)
    · rw [pL]
      split
      · trivial
      · rename_i ho
        obtain ⟨s, hs⟩ := opFrom_sign ho
        have ht := tail_len h
        exact Ends.bind (pE_fits (h.sign hs)) (iE _ _ _ (h.sign hs) (by omega) (by omega) (by omega)) fun a r _ hr hl => iL _ _ _ _ hr h1 h2 (by omega)
    · rw [pU]
      split
      · trivial
      · split
        · exact iP d l h (by omega)
        · rename_i ho
          obtain ⟨s, hs⟩ := unFrom_sign ho
          have ht := tail_len h
          split
          · exact Ends.bind (must_fits (h.sign hs) _) (must_ends _ _) fun _ r _ hr hl => Ends.bind (pE_fits hr) (iE _ _ _ hr (by omega) (by omega) (by omega)) fun e r _ hr hl => Ends.bind (must_fits hr _) (must_ends _ _) fun _ r _ hr hl => trivial
          · exact Ends.bind ((fits_expr n).2.2.1 _ _ (h.sign hs)) (iU _ _ (h.sign hs) (by omega)) fun _ r _ hr hl => trivial
    · rw [pP]
      have ht := tail_len h
      split
      · rename_i hs
        exact Ends.bind (pE_fits (h.sign hs)) (iE _ _ _ (h.sign hs) (by omega) (by omega) (by omega)) fun e r _ hr hl => Ends.bind (must_fits hr _) (must_ends _ _) fun _ r _ hr hl => trivial
      · split
        · trivial
        · split
          · trivial
          · split
            · rename_i hs
              exact Ends.bind (must_fits (h.sign hs) _) (must_ends _ _) fun _ r _ hr hl => Ends.bind (must_fits hr _) (must_ends _ _) fun _ r _ hr hl => trivial
            · split
              · trivial
              · exact Ends.bind (want_fits h 1 (by decide)) (want_ends _ _) fun s r _ hr hl => iN _ _ _ hr (by omega)
    · rw [pN]
      have ht := tail_len h
      split
      · rename_i hs
        exact Ends.bind (pA_fits (h.sign hs)) (iA _ _ (h.sign hs) (by omega)) fun _ r _ hr hl => trivial
      · split
        · rename_i hs
          exact Ends.bind (pE_fits (h.sign hs)) (iE _ _ _ (h.sign hs) (by omega) (by omega) (by omega)) fun e r _ hr hl => Ends.bind (must_fits hr _) (must_ends _ _) fun _ r _ hr hl => trivial
        · trivial
    · rw [pA]
      split
      · trivial
      · exact iAL _ _ _ h (by omega)
    · rw [pAL]
      refine Ends.bind (pE_fits h) (iE _ _ _ h (by omega) (by omega) (by omega)) fun e r _ hr hl => ?_
      split
      · rename_i hs
        have ht := tail_len hr
        exact iAL _ _ _ (hr.sign hs) (by omega)
      · exact Ends.bind (must_fits hr _) (must_ends _ _) fun _ r _ hr hl => trivial
theorem pE_ends {n : Nat} {d : Int} {l : List Tok} (h : EndL l) (hn : 20 * l.length + 14 ≤ n) : Ends (pE n 1 d l) := (ends_expr n).1 1 d l h (by omega) (by omega) (by omega)
theorem pA_ends {n : Nat} {d : Int} {l : List Tok} (h : EndL l) (hn : 20 * l.length + 16 ≤ n) : Ends (pA n d l) := (ends_expr n).2.2.2.2.2.1 d l h hn
theorem pI_ends {n : Nat} {l : List Tok} (h : EndL l) (hn : 20 * l.length + 14 ≤ n) : Ends (pI n l) := by
  unfold pI
  exact Ends.bind (must_fits h _) (must_ends _ _) fun _ r _ hr hl => Ends.bind (pE_fits hr) (pE_ends hr (by omega)) fun e r _ hr hl => Ends.bind (must_fits hr _) (must_ends _ _) fun _ r _ hr hl => trivial
theorem pTy_ends {l : List Tok} (h : EndL l) : Ends (pTy l) := by
  unfold pTy
  split
  · trivial
  · exact Ends.bind (must_fits h _) (must_ends _ _) fun _ r _ hr hl => trivial
theorem pSemi_ends {α : Type} {k : Nat} {l : List Tok} {x : PR α} (hf : Fits k l x) (h : Ends x) : Ends (pSemi x) := by
  unfold pSemi
  exact Ends.bind hf h fun _ r _ hr hl => Ends.bind (must_fits hr _) (must_ends _ _) fun _ r _ hr hl => trivial
theorem pNm_ends {n : Nat} {l : List Tok} (h : EndL l) (hn : 20 * l.length + 16 ≤ n) : Ends (pNm n l) := by
  unfold pNm
  refine Ends.bind (want_fits h 1 (by decide)) (want_ends _ _) fun s r _ hr hl => ?_
  have ht := tail_len hr
  split
  · rename_i hs
    exact Ends.bind (pA_fits (hr.sign hs)) (pA_ends (hr.sign hs) (by omega)) fun _ r _ hr hl => trivial
  · split
    · rename_i hs
      exact Ends.bind (pE_fits (hr.sign hs)) (pE_ends (hr.sign hs) (by omega)) fun e r _ hr hl => Ends.bind (must_fits hr _) (must_ends _ _) fun _ r _ hr hl => Ends.bind (must_fits hr _) (must_ends _ _) fun _ r _ hr hl => Ends.bind (pE_fits hr) (pE_ends hr (by omega)) fun _ r _ hr hl => trivial
    · exact Ends.bind (must_fits hr _) (must_ends _ _) fun _ r _ hr hl => Ends.bind (pE_fits hr) (pE_ends hr (by omega)) fun _ r _ hr hl => trivial
theorem ends_stmt (n : Nat) : (∀ d l, EndL l → 20 * l.length + 30 ≤ n → Ends (pS n d l)) ∧ (∀ d e t l, EndL l → 20 * l.length + 30 ≤ n → Ends (pEl n d e t l)) ∧ (∀ d l, EndL l → 20 * l.length + 30 ≤ n → Ends (pB n d l)) ∧ (∀ d acc l, EndL l → 20 * l.length + 31 ≤ n → Ends (pBL n d acc l)) := by
  induction n with
  | zero => exact ⟨fun _ _ _ _ => by omega, fun _ _ _ _ _ _ => by omega, fun _ _ _ _ => by omega, fun _ _ _ _ _ => by omega⟩
  | succ n ih =>
    obtain ⟨iS, iEl, iB, iBL⟩ := ih
    refine ⟨fun d l h hn => ?_, fun d e t l h hn => ?_, fun d l h hn => ?_, fun d acc l h hn => ?_⟩
    · rw [pS]
      have ht := tail_len h
      split
      · trivial
      · split
        · exact pSemi_ends ((pTy_fits h).bind (m := 0) (n := 0) (fun t r _ hr => (want_fits hr 1 (by decide)).bind (n := 0) (fun s r _ hr => (must_fits hr _).bind (n := 0) (fun _ r _ hr => (pE_fits hr).bind (n := 0) (fun _ r _ hr => Fits.self hr _) (by omega)) (by omega)) (by omega)) (by omega))
            (Ends.bind (pTy_fits h) (pTy_ends h) fun t r _ hr hl => Ends.bind (want_fits hr 1 (by decide)) (want_ends _ _) fun s r _ hr hl => Ends.bind (must_fits hr _) (must_ends _ _) fun _ r _ hr hl => Ends.bind (pE_fits hr) (pE_ends hr (by omega)) fun _ r _ hr hl => trivial)
        · split
          · rename_i hs
            exact Ends.bind (pI_fits (h.sign hs)) (pI_ends (h.sign hs) (by omega)) fun e r _ hr hl => Ends.bind (pB_fits hr) (iB _ _ hr (by omega)) fun t r _ hr hl => iEl _ _ _ _ hr (by omega)
          · split
            · rename_i hs
              exact Ends.bind (pI_fits (h.sign hs)) (pI_ends (h.sign hs) (by omega)) fun e r _ hr hl => Ends.bind (pB_fits hr) (iB _ _ hr (by omega)) fun t r _ hr hl => trivial
            · split
              · rename_i hs
                exact pSemi_ends (k := 1) (l := l) (show RestOf 1 l l.tail from RestOf.sign h hs) trivial
              · split
                · rename_i hs
                  exact pSemi_ends (k := 1) (l := l) (show RestOf 1 l l.tail from RestOf.sign h hs) trivial
                · split
                  · rename_i hs
                    exact pSemi_ends ((pE_fits (h.sign hs)).bind (n := 0) (m := 0) (fun _ r _ hr => Fits.self hr _) (by omega)) (Ends.bind (pE_fits (h.sign hs)) (pE_ends (h.sign hs) (by omega)) fun _ r _ hr hl => trivial)
                  · split
                    · rename_i hs
                      exact pSemi_ends ((pI_fits (h.sign hs)).bind (n := 0) (m := 0) (fun _ r _ hr => Fits.self hr _) (by omega)) (Ends.bind (pI_fits (h.sign hs)) (pI_ends (h.sign hs) (by omega)) fun _ r _ hr hl => trivial)
                    · exact pSemi_ends (pNm_fits h) (pNm_ends h (by omega))
    · rw [pEl]
      have ht := tail_len h
      split
      · rename_i hs
        exact Ends.bind (pB_fits (h.sign hs)) (iB _ _ (h.sign hs) (by omega)) fun _ r _ hr hl => trivial
      · trivial
    · rw [pB]
      exact Ends.bind (must_fits h _) (must_ends _ _) fun _ r _ hr hl => iBL _ _ _ hr (by omega)
    · rw [pBL]
      split
      · trivial
      · exact Ends.bind (pS_fits h) (iS _ _ h (by omega)) fun _ r _ hr hl => iBL _ _ _ hr (by omega)
theorem pB_ends {n : Nat} {d : Int} {l : List Tok} (h : EndL l) (hn : 20 * l.length + 30 ≤ n) : Ends (pB n d l) := (ends_stmt n).2.2.1 d l h hn
theorem pPL_ends : ∀ (n : Nat) (acc : List Pa) (l : List Tok), EndL l → 20 * l.length + 1 ≤ n → Ends (pPL n acc l)
  | 0, _, _, _, _ => by omega
  | n + 1, acc, l, h, hn => by
    rw [pPL]
    refine Ends.bind (pTy_fits h) (pTy_ends h) fun t r _ hr hl => Ends.bind (want_fits hr 1 (by decide)) (want_ends _ _) fun s r _ hr hl => ?_
    have ht := tail_len hr
    split
    · rename_i hs
      exact pPL_ends n _ _ (hr.sign hs) (by omega)
    · exact Ends.bind (must_fits hr _) (must_ends _ _) fun _ r _ hr hl => trivial
theorem pPs_ends {n : Nat} {l : List Tok} (h : EndL l) (hn : 20 * l.length + 1 ≤ n) : Ends (pPs n l) := by
  unfold pPs
  refine Ends.bind (must_fits h _) (must_ends _ _) fun _ r _ hr hl => ?_
  split
  · trivial
  · exact pPL_ends n _ _ hr (by omega)
theorem pFn_ends {n : Nat} {t : Int} {s : ByteArray} {l : List Tok} (h : EndL l) (hn : 20 * l.length + 30 ≤ n) : Ends (pFn n t s l) := by
  unfold pFn
  exact Ends.bind (pPs_fits h) (pPs_ends h (by omega)) fun _ r _ hr hl => Ends.bind (pB_fits hr) (pB_ends hr (by omega)) fun _ r _ hr hl => trivial
theorem pArr_ends {s : ByteArray} {l : List Tok} (h : EndL l) : Ends (pArr s l) := by
  unfold pArr
  exact Ends.bind (want_fits h 0 (by decide)) (want_ends _ _) fun _ r _ hr hl => Ends.bind (must_fits hr _) (must_ends _ _) fun _ r _ hr hl => Ends.bind (must_fits hr _) (must_ends _ _) fun _ r _ hr hl => trivial
theorem pPr_ends : ∀ (n : Nat) (p : Pr) (l : List Tok), EndL l → 20 * l.length + 40 ≤ n → Ends (pPr n p l)
  | 0, _, _, _, _ => by omega
  | n + 1, p, l, h, hn => by
    rw [pPr]
    split
    · trivial
    · refine Ends.bind (pTy_fits h) (pTy_ends h) fun t r _ hr hl => Ends.bind (want_fits hr 1 (by decide)) (want_ends _ _) fun s r _ hr hl => ?_
      split
      · rename_i hs
        have ht := tail_len hr
        exact Ends.bind (pArr_fits (hr.sign hs.2.2)) (pArr_ends (hr.sign hs.2.2)) fun _ r _ hr hl => pPr_ends n _ _ hr (by omega)
      · exact Ends.bind (pFn_fits hr) (pFn_ends hr (by omega)) fun _ r _ hr hl => pPr_ends n _ _ hr (by omega)
/-- The program of tokens. -/
def parseT (l : List Tok) : PR Pr := pPr (20 * l.length + 40) ⟨[], []⟩ l
theorem parseT_ends {l : List Tok} (h : EndL l) : Ends (parseT l) := pPr_ends _ _ _ h (Nat.le_refl _)
theorem parseT_fits {l : List Tok} (h : EndL l) : Fits 0 l (parseT l) := pPr_fits _ _ _ h
end Go.Proofs.YtakijoblbmfadaaGreatDoor
