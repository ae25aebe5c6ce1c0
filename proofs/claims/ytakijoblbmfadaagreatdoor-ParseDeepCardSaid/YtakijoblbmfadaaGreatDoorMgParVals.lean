import Derived.Test.YtakijoblbmfadaaGreatDoorMgParRead
import Derived.Test.YtakijoblbmfadaaGreatDoorMgTokKind
set_option linter.unusedSimpArgs false
set_option linter.unusedVariables false
/- Trees that lie in new blocks alone. -/
namespace Go.Proofs.YtakijoblbmfadaaGreatDoor
open Go.RowKit
/-- The world without what lies in the blocks that p tells. -/
def mask (p : Nat → Bool) (w : World) : World := { w with heap := w.heap.mapIdx fun i o => if p i then .cells #[] 0 (0, 0) else o }
theorem mask_size (p : Nat → Bool) (w : World) : (mask p w).heap.size = w.heap.size := by simp [mask]
theorem mask_at (p : Nat → Bool) (w : World) (k : Nat) : (mask p w).heap[k]? = (w.heap[k]?).map fun o => if p k then .cells #[] 0 (0, 0) else o := by simp [mask, Array.getElem?_mapIdx]
theorem mask_in {p : Nat → Bool} {w : World} {k : Nat} (h : p k = false) : (mask p w).heap[k]? = w.heap[k]? := by
  rw [mask_at, h]
  cases w.heap[k]? <;> rfl
theorem mask_below {p : Nat → Bool} {B : Nat} {w w' : World} (h1 : w'.os = w.os) (h2 : w'.tape = w.tape) (h3 : w'.output = w.output) (h4 : w.heap.size ≤ w'.heap.size) (hB : B ≤ w.heap.size) (h5 : ∀ k, k < B → p k = false → w'.heap[k]? = w.heap[k]?) : Below B (mask p w) (mask p w') := by
  refine ⟨h1, h2, h3, by rw [mask_size, mask_size]; exact h4, fun k hk => ?_⟩
  rw [mask_at, mask_at]
  cases hp : p k with
  | false => rw [h5 k hk hp]
  | true =>
    rw [Array.getElem?_eq_getElem (by omega), Array.getElem?_eq_getElem (by omega)]
    rfl
theorem mask_cell {p : Nat → Bool} {B : Nat} {w : World} {g o : Nat} {u : Value} (h : CellB B (mask p w) g o u) : p g = false ∧ CellB B w g o u := by
  cases hp : p g with
  | false => exact ⟨rfl, h.1, (World.cell?_of_block (w := mask p w) (w' := w) (mask_in hp).symm).trans h.2⟩
  | true =>
    have h2 := h.2
    unfold World.cell? at h2
    rw [show (mask p w).heap[(⟨g, o, none⟩ : Addr).block]? = (mask p w).heap[g]? from rfl, mask_at, hp] at h2
    cases hg : w.heap[g]? with
    | none => rw [hg] at h2; cases h2
    | some ob => rw [hg] at h2; simp at h2
theorem cell_mask {p : Nat → Bool} {B : Nat} {w : World} {g o : Nat} {u : Value} (hp : p g = false) (h : CellB B w g o u) : CellB B (mask p w) g o u := ⟨h.1, (World.cell?_of_block (w := w) (w' := mask p w) (mask_in hp)).trans h.2⟩
mutual
theorem RdE.imp {B B' : Nat} {w w' : World} (hc : ∀ g o u, CellB B w g o u → CellB B' w' g o u) : ∀ (e : Ex) (g o : Nat), RdE B w e g o → RdE B' w' e g o
  | .mk k op n name args, g, o, h => by
    rw [RdE] at h ⊢
    obtain ⟨h0, h1, h2, h3, hr, v, h4, hs⟩ := h
    exact ⟨hc _ _ _ h0, hc _ _ _ h1, hc _ _ _ h2, hc _ _ _ h3, hr, v, hc _ _ _ h4, SlB.imp hs fun g' o' => RdEs.imp hc args g' o'⟩
theorem RdEs.imp {B B' : Nat} {w w' : World} (hc : ∀ g o u, CellB B w g o u → CellB B' w' g o u) : ∀ (l : List Ex) (g o : Nat), RdEs B w l g o → RdEs B' w' l g o
  | [], _, _, _ => by rw [RdEs]; trivial
  | e :: r, g, o, h => by
    rw [RdEs] at h ⊢
    exact ⟨RdE.imp hc e g o h.1, RdEs.imp hc r g (o + 5) h.2⟩
end
mutual
theorem RdS.imp {B B' : Nat} {w w' : World} (hc : ∀ g o u, CellB B w g o u → CellB B' w' g o u) : ∀ (e : St) (g o : Nat), RdS B w e g o → RdS B' w' e g o
  | .mk k ty name args thn els, g, o, h => by
    rw [RdS] at h ⊢
    obtain ⟨h0, h1, h2, ⟨v, h3, hs⟩, ⟨v4, h4, hs4⟩, ⟨v5, h5, hs5⟩⟩ := h
    exact ⟨hc _ _ _ h0, hc _ _ _ h1, hc _ _ _ h2, ⟨v, hc _ _ _ h3, SlB.imp hs fun g' o' => RdEs.imp hc args g' o'⟩, ⟨v4, hc _ _ _ h4, SlB.imp hs4 fun g' o' => RdSs.imp hc thn g' o'⟩, ⟨v5, hc _ _ _ h5, SlB.imp hs5 fun g' o' => RdSs.imp hc els g' o'⟩⟩
theorem RdSs.imp {B B' : Nat} {w w' : World} (hc : ∀ g o u, CellB B w g o u → CellB B' w' g o u) : ∀ (l : List St) (g o : Nat), RdSs B w l g o → RdSs B' w' l g o
  | [], _, _, _ => by rw [RdSs]; trivial
  | e :: r, g, o, h => by
    rw [RdSs] at h ⊢
    exact ⟨RdS.imp hc e g o h.1, RdSs.imp hc r g (o + 6) h.2⟩
end
theorem SlE.imp {B B' : Nat} {w w' : World} (hc : ∀ g o u, CellB B w g o u → CellB B' w' g o u) {v : Value} {l : List Ex} (h : SlE B w v l) : SlE B' w' v l := SlB.imp h fun g o => RdEs.imp hc l g o
theorem SlS.imp {B B' : Nat} {w w' : World} (hc : ∀ g o u, CellB B w g o u → CellB B' w' g o u) {v : Value} {l : List St} (h : SlS B w v l) : SlS B' w' v l := SlB.imp h fun g o => RdSs.imp hc l g o
theorem ExV.imp {B B' : Nat} {w w' : World} (hc : ∀ g o u, CellB B w g o u → CellB B' w' g o u) {a : Ex} {v : Value} (h : ExV B w a v) : ExV B' w' a v := by
  obtain ⟨u, hv, hn, hs⟩ := h
  exact ⟨u, hv, hn, hs.imp hc⟩
/-- Blocks from L on. -/
def low (L : Nat) : Nat → Bool := fun k => decide (k < L)
theorem low_no {L k : Nat} : low L k = false ↔ L ≤ k := by simp [low]
/-- From one world to a later one: what lies in blocks from L on, below the first's size, has stayed. -/
def Keep (L : Nat) (w w' : World) : Prop := w.heap.size ≤ w'.heap.size ∧ ∀ k, k < w.heap.size → L ≤ k → w'.heap[k]? = w.heap[k]?
theorem Keep.cells {L M : Nat} {w w' : World} (h : Keep L w w') (hM : M ≤ L) : ∀ g o u, CellB w.heap.size (mask (low L) w) g o u → CellB w'.heap.size (mask (low M) w') g o u := fun g o u hc => by
  obtain ⟨hp, hc⟩ := mask_cell hc
  have hL := low_no.1 hp
  exact cell_mask (low_no.2 (by omega)) ⟨Nat.lt_of_lt_of_le hc.1 h.1, (World.cell?_of_block (w := w) (h.2 g hc.1 hL)).trans hc.2⟩
theorem Keep.refl (L : Nat) (w : World) : Keep L w w := ⟨Nat.le_refl _, fun _ _ _ => rfl⟩
theorem Keep.trans {L : Nat} {w w' w2 : World} (h : Keep L w w') (g : Keep L w' w2) : Keep L w w2 := ⟨Nat.le_trans h.1 g.1, fun k hk hl => (g.2 k (Nat.lt_of_lt_of_le hk h.1) hl).trans (h.2 k hk hl)⟩
theorem Keep.of_off {b L : Nat} {w w' : World} (h : OffB b w.heap.size w w') (hb : b < L) : Keep L w w' := ⟨h.size, fun k hk hl => h.block hk (by omega)⟩
theorem Keep.of_below {L : Nat} {w w' : World} (h : Below w.heap.size w w') : Keep L w w' := ⟨h.size, fun k hk _ => h.block k hk⟩
theorem Keep.set {L g : Nat} {w : World} (hg : g < L) (i : Nat) (u : Value) : Keep L w (w.setCell ⟨g, i, none⟩ u) := ⟨by simp [World.setCell], fun k _ hl => Below.heap_setCell w _ u k (by show k ≠ g; omega)⟩
theorem Keep.mono {L M : Nat} {w w' : World} (h : Keep L w w') (hM : L ≤ M) : Keep M w w' := ⟨h.1, fun k hk hl => h.2 k hk (by omega)⟩
/-- An expression's value whose parts lie in blocks from L on. -/
def FrE (L : Nat) (w : World) (a : Ex) (v : Value) : Prop := ExV w.heap.size (mask (low L) w) a v
def FrEs (L : Nat) (w : World) (a : List Ex) (v : Value) : Prop := SlE w.heap.size (mask (low L) w) v a
def FrSs (L : Nat) (w : World) (a : List St) (v : Value) : Prop := SlS w.heap.size (mask (low L) w) v a
theorem FrE.keep {L M : Nat} {w w' : World} {a : Ex} {v : Value} (h : FrE L w a v) (k : Keep L w w') (hM : M ≤ L) : FrE M w' a v := ExV.imp (k.cells hM) h
theorem FrEs.keep {L M : Nat} {w w' : World} {a : List Ex} {v : Value} (h : FrEs L w a v) (k : Keep L w w') (hM : M ≤ L) : FrEs M w' a v := SlE.imp (k.cells hM) h
theorem FrSs.keep {L M : Nat} {w w' : World} {a : List St} {v : Value} (h : FrSs L w a v) (k : Keep L w w') (hM : M ≤ L) : FrSs M w' a v := SlS.imp (k.cells hM) h
theorem FrE.form {L : Nat} {w : World} {a : Ex} {v : Value} (h : FrE L w a v) : ∃ k o n s A m c, v = .agg #[.int .i64 k, .int .i64 o, .int .i64 n, .string s, .slice A m c] := by
  obtain ⟨u, hv, _, hs⟩ := h
  obtain ⟨A, c, rfl, _⟩ := hs.form
  exact ⟨_, _, _, _, A, _, c, hv⟩
theorem FrEs.form {L : Nat} {w : World} {a : List Ex} {v : Value} (h : FrEs L w a v) : ∃ A c, v = .slice A a.length c ∧ a.length ≤ 281474976710656 := SlE.form h
theorem FrSs.form {L : Nat} {w : World} {a : List St} {v : Value} (h : FrSs L w a v) : ∃ A c, v = .slice A a.length c ∧ a.length ≤ 281474976710656 := SlS.form h
/-! ### tries -/
theorem Got.imp {α : Type} {x : PR α} {P Q : α → Prop} (h : Got x P) (k : ∀ a, P a → Q a) : Got x Q := by
  cases x with
  | ok a r => exact k a h
  | bad r => obtain ⟨a, ha⟩ := h; exact ⟨a, k a ha⟩
  | deep r => obtain ⟨a, ha⟩ := h; exact ⟨a, k a ha⟩
  | out => trivial
theorem Got.some {α : Type} {x : PR α} {P : α → Prop} (h : Got x P) (he : Ends x) : ∃ a, P a := by
  cases x with
  | ok a r => exact ⟨a, h⟩
  | bad r => exact h
  | deep r => exact h
  | out => exact absurd he id
/-- What a good try gave goes on to something, what another gave, too. -/
theorem Got.bind {α β : Type} {x : PR α} {f : α → List Tok → PR β} {P : α → Prop} {Q : β → Prop} (h : Got x P) (k : ∀ a r, x = .ok a r → P a → Got (f a r) Q) (j : ∀ a, P a → ∃ c, Q c) : Got (x.bind f) Q := by
  cases x with
  | ok a r => exact k a r rfl h
  | bad r => obtain ⟨a, ha⟩ := h; exact j a ha
  | deep r => obtain ⟨a, ha⟩ := h; exact j a ha
  | out => trivial
theorem got_must {s : List UInt8} {l : List Tok} {β : Type} {a : β} {Q : β → Prop} (h : Q a) : Got ((must s l).bind fun _ r => .ok a r) Q := by
  unfold must
  split
  · exact h
  · exact ⟨a, h⟩
theorem un_bind {α β : Type} (x : PR α) (f : α → List Tok → PR β) : (x.bind f).un = x.bind fun a r => (f a r).un := by cases x <;> rfl
theorem bind_un {α β : Type} (x : PR α) (f : List Tok → PR β) : x.un.bind (fun _ r => f r) = x.bind fun _ r => f r := by cases x <;> rfl
theorem bind_assoc {α β γ : Type} (x : PR α) (f : α → List Tok → PR β) (g : β → List Tok → PR γ) : (x.bind f).bind g = x.bind fun a r => (f a r).bind g := by cases x <;> rfl
theorem un_unit (x : PR Unit) : x.un = x := by cases x <;> rfl
theorem must_un (s : List UInt8) (l : List Tok) : (must s l).un = must s l := un_unit _
theorem must_ok_un {β : Type} (s : List UInt8) (l : List Tok) (a : β) : ((must s l).bind fun _ r => PR.ok a r).un = must s l := by unfold must; split <;> rfl
theorem ends_left {α β : Type} {x : PR α} {f : α → List Tok → PR β} (h : Ends (x.bind f)) : Ends x := by cases x <;> first | trivial | exact h
theorem ends_un {α : Type} {x : PR α} (h : Ends x) : Ends x.un := by cases x <;> first | trivial | exact h
theorem got_form {L : Nat} {w : World} {x : PR Ex} {v : Value} (h : Got x fun a => FrE L w a v) (he : Ends x) : ∃ k o n s A m c, v = .agg #[.int .i64 k, .int .i64 o, .int .i64 n, .string s, .slice A m c] := by
  obtain ⟨a, ha⟩ := h.some he
  exact ha.form
theorem got_forms {L : Nat} {w : World} {x : PR (List Ex)} {v : Value} (h : Got x fun a => FrEs L w a v) (he : Ends x) : ∃ A m c, v = .slice A m c := by
  obtain ⟨a, ha⟩ := h.some he
  obtain ⟨A, c, hv, _⟩ := ha.form
  exact ⟨A, _, c, hv⟩
/-- A number that stands at the place is one that may be. -/
theorem Pbox.num {b : Nat} {V : Value} {all r : List Tok} {bd dp : Bool} {w : World} (h : Pbox b V all r bd dp w) (hk : hdK r = 0) : (⟨(hdT r).toArray⟩ : ByteArray).size ≤ 281474976710656 ∧ numB (hdT r) = true ∧ decV 0 (hdT r) < 9223372036854775808 := by
  obtain ⟨_, ⟨g, c, _, _, _, _, _, hn⟩, hs, he⟩ := h
  obtain ⟨t, q, rfl⟩ := List.exists_cons_of_ne_nil he.ne
  have ht : t ∈ all := hs.subset (List.mem_cons_self ..)
  obtain ⟨h1, h2⟩ := hn t ht hk
  refine ⟨h2, h1, ?_⟩
  have := h1
  simp only [numB, Bool.and_eq_true, decide_eq_true_eq] at this
  exact this.2
/-! ### worlds -/
theorem StP.tok {b : Nat} {V : Value} {all : List Tok} {x : PR Unit} {w : World} (h : StP b V all x w) : TokH b V all w := by
  obtain ⟨r, bd, dp, hp, _⟩ := h.box
  exact hp.2.1
/-- The box stands, where its block does. -/
theorem StP.move {b : Nat} {V : Value} {all : List Tok} {x : PR Unit} {w w3 W : World} (h : StP b V all x w3) (ht : TokH b V all w) (ho : OffB b w.heap.size w W) (hb : W.heap[b]? = w3.heap[b]?) : StP b V all x W := by
  have hp : ∀ {r bd dp}, Pbox b V all r bd dp w3 → Pbox b V all r bd dp W := fun hp => ⟨hb.trans hp.1, ht.off ho, hp.2.2⟩
  cases x with
  | ok a r => exact hp h
  | bad r => exact hp h
  | deep r => exact hp h
  | out => exact h
theorem Did.after {b : Nat} {V : Value} {all : List Tok} {x y : PR Unit} {w w1 w2 : World} (h : Did b V all w x w1) (g : Did b V all w1 y w2) : Did b V all w y w2 := ⟨g.1, h.2.trans (g.2.mono h.2.size)⟩
theorem Did.start {b : Nat} {V : Value} {all : List Tok} {y : PR Unit} {w w1 w2 : World} (h : Below w.heap.size w w1) (hb : b < w.heap.size) (g : Did b V all w1 y w2) : Did b V all w y w2 := ⟨g.1, (OffB.of_below h hb).trans (g.2.mono h.size)⟩
theorem Did.below {b : Nat} {V : Value} {all : List Tok} {x : PR Unit} {w w1 w2 : World} (h : Did b V all w x w1) (g : Below w1.heap.size w1 w2) : Did b V all w x w2 := ⟨h.1.below g, h.2.trans ((OffB.of_below g h.1.lt).mono h.2.size)⟩
theorem Did.alloc {b : Nat} {V : Value} {all : List Tok} {x : PR Unit} {w w1 : World} (h : Did b V all w x w1) (o : Obj) : Did b V all w x (w1.alloc o) := h.below ((Below.refl _ _).alloc (Nat.le_refl _) o)
theorem Did.drew {b : Nat} {V : Value} {all : List Tok} {x : PR Unit} {w w1 : World} (h : Did b V all w x w1) : Did b V all w x w1.drew := h.below (Below.refl _ _).drew
/-- A store into a block of the call's own. -/
theorem Did.set {b g : Nat} {V : Value} {all : List Tok} {x : PR Unit} {w w1 : World} (h : Did b V all w x w1) (ht : TokH b V all w) (hg : w.heap.size ≤ g) (hb : g ≠ b) (i : Nat) (u : Value) : Did b V all w x (w1.setCell ⟨g, i, none⟩ u) := by
  have ho : OffB b w.heap.size w (w1.setCell ⟨g, i, none⟩ u) := h.2.setCell h.1.lt hg i u
  exact ⟨h.1.move ht ho (Below.heap_setCell w1 _ u b (by show b ≠ g; omega)), ho⟩
theorem Did.writ {b g : Nat} {V : Value} {all : List Tok} {x : PR Unit} {w w1 : World} (h : Did b V all w x w1) (ht : TokH b V all w) (hg : w.heap.size ≤ g) (hb : g ≠ b) (c0 c1 c2 c3 c4 : Value) : Did b V all w x (writ w1 g c0 c1 c2 c3 c4) :=
  ((((h.set ht hg hb 0 c0).set ht hg hb 1 c1).set ht hg hb 2 c2).set ht hg hb 3 c3).set ht hg hb 4 c4
theorem Keep.writ {L g : Nat} {w : World} (hg : g < L) (c0 c1 c2 c3 c4 : Value) : Keep L w (writ w g c0 c1 c2 c3 c4) :=
  ((((Keep.set hg 0 c0).trans (Keep.set hg 1 c1)).trans (Keep.set hg 2 c2)).trans (Keep.set hg 3 c3)).trans (Keep.set hg 4 c4)
theorem off_own {b B k : Nat} {w w' : World} (h : OffB b B w w') (hk : k < B) (hb : k ≠ b) : (∀ o, w'.cell? ⟨k, o, none⟩ = w.cell? ⟨k, o, none⟩) ∧ ∀ o, w'.frozen? ⟨k, o, none⟩ = w.frozen? ⟨k, o, none⟩ :=
  ⟨fun _ => h.cell hk hb, fun _ => World.frozen?_of_block (w := w) (h.block hk hb)⟩
abbrev exBox : Obj := .cells #[.int .i64 0, .int .i64 0, .int .i64 0, .string ⟨#[]⟩, .slice none 0 0] 84
def ex0 : Ex := .mk 0 0 0 bE []
abbrev ex0V : Value := .agg #[.int .i64 0, .int .i64 0, .int .i64 0, .string ⟨#[]⟩, .slice none 0 0]
theorem ex0_fr (L : Nat) (w : World) : FrE L w ex0 ex0V := ⟨_, rfl, by constructor <;> decide, slE_nil _ _⟩
/-- The result's block, written and read. -/
theorem five {W : World} {g : Nat} {d0 d1 d2 d3 d4 : Value} {T : TypeId} {fr : Nat × Nat} (h : W.heap[g]? = some (.cells #[d0, d1, d2, d3, d4] T fr)) (c0 c1 c2 c3 c4 : Value) :
    (((((W.setCell ⟨g, 0, none⟩ c0).setCell ⟨g, 1, none⟩ c1).setCell ⟨g, 2, none⟩ c2).setCell ⟨g, 3, none⟩ c3).setCell ⟨g, 4, none⟩ c4).cell? ⟨g, 0, none⟩ = some c0 ∧
    (((((W.setCell ⟨g, 0, none⟩ c0).setCell ⟨g, 1, none⟩ c1).setCell ⟨g, 2, none⟩ c2).setCell ⟨g, 3, none⟩ c3).setCell ⟨g, 4, none⟩ c4).cell? ⟨g, 1, none⟩ = some c1 ∧
    (((((W.setCell ⟨g, 0, none⟩ c0).setCell ⟨g, 1, none⟩ c1).setCell ⟨g, 2, none⟩ c2).setCell ⟨g, 3, none⟩ c3).setCell ⟨g, 4, none⟩ c4).cell? ⟨g, 2, none⟩ = some c2 ∧
    (((((W.setCell ⟨g, 0, none⟩ c0).setCell ⟨g, 1, none⟩ c1).setCell ⟨g, 2, none⟩ c2).setCell ⟨g, 3, none⟩ c3).setCell ⟨g, 4, none⟩ c4).cell? ⟨g, 3, none⟩ = some c3 ∧
    (((((W.setCell ⟨g, 0, none⟩ c0).setCell ⟨g, 1, none⟩ c1).setCell ⟨g, 2, none⟩ c2).setCell ⟨g, 3, none⟩ c3).setCell ⟨g, 4, none⟩ c4).cell? ⟨g, 4, none⟩ = some c4 := by
  have h2 := writ_row h c0 c1 c2 c3 c4
  exact ⟨(Lib.cell_of_heap h2 0).trans rfl, (Lib.cell_of_heap h2 1).trans rfl, (Lib.cell_of_heap h2 2).trans rfl, (Lib.cell_of_heap h2 3).trans rfl, (Lib.cell_of_heap h2 4).trans rfl⟩
theorem own_next {b B k : Nat} {w w' : World} {o : Obj} (h : OffB b B w w') (hk : k < B) (hb : k ≠ b) (hw : w.heap[k]? = some o) : w'.heap[k]? = some o := (h.block hk hb).trans hw
theorem own_more {k : Nat} {w : World} {o : Obj} (hw : w.heap[k]? = some o) (o' : Obj) : (w.alloc o').heap[k]? = some o := (Below.heap_alloc w o' k (Array.getElem?_eq_some_iff.1 hw).1).trans hw
/-- The contract of expressions: where it looks to the end. -/
def CE (b : Nat) (V : Value) (all : List Tok) (n : Nat) (lev d : Int) : Prop := ∀ (w : World) (x : PR Unit), StP b V all x w → Ends (x.bind fun _ r => pE n lev d r) →
  Calls Tryz.prog 107 #[.pointer (some ⟨b, 0, none⟩), .int .i64 lev, .int .i64 d] w (Gave b V all w (x.bind fun _ r => pE n lev d r) (FrE w.heap.size))
theorem CE.call {b : Nat} {V : Value} {all : List Tok} {n : Nat} {lev d : Int} (h : CE b V all n lev d) {w : World} {x : PR Unit} (hs : StP b V all x w) (he : Ends (x.bind fun _ r => pE n lev d r)) :
  Calls Tryz.prog 107 #[.pointer (some ⟨b, 0, none⟩), .int .i64 lev, .int .i64 d] w (Gave b V all w (x.bind fun _ r => pE n lev d r) (FrE w.heap.size)) := h w x hs he
/-- The contract of arguments. -/
def CA (b : Nat) (V : Value) (all : List Tok) (n : Nat) (d : Int) : Prop := ∀ (w : World) (x : PR Unit), StP b V all x w → Ends (x.bind fun _ r => pA n d r) →
  Calls Tryz.prog 126 #[.pointer (some ⟨b, 0, none⟩), .int .i64 d] w (Gave b V all w (x.bind fun _ r => pA n d r) (FrEs w.heap.size))
theorem CA.call {b : Nat} {V : Value} {all : List Tok} {n : Nat} {d : Int} (h : CA b V all n d) {w : World} {x : PR Unit} (hs : StP b V all x w) (he : Ends (x.bind fun _ r => pA n d r)) :
  Calls Tryz.prog 126 #[.pointer (some ⟨b, 0, none⟩), .int .i64 d] w (Gave b V all w (x.bind fun _ r => pA n d r) (FrEs w.heap.size)) := h w x hs he
/-! ### in the midst of a call whose result has a block -/
def Cur (b : Nat) (V : Value) (all : List Tok) (w : World) (x : PR Unit) (W : World) : Prop := Did b V all w x W ∧ W.heap[w.heap.size]? = some exBox ∧ TokH b V all w ∧ b < w.heap.size
section
variable {b : Nat} {V : Value} {all : List Tok} {w W W' : World} {x y : PR Unit}
theorem Cur.start (h : StP b V all x w) : Cur b V all w x (w.alloc exBox) :=
  ⟨⟨h.below ((Below.refl _ _).alloc (Nat.le_refl _) _), OffB.of_below ((Below.refl _ _).alloc (Nat.le_refl _) _) h.lt⟩, heap_alloc_new w exBox, h.tok, h.lt⟩
theorem Cur.did (h : Cur b V all w x W) : Did b V all w x W := h.1
theorem Cur.st (h : Cur b V all w x W) : StP b V all x W := h.1.1
theorem Cur.size (h : Cur b V all w x W) : w.heap.size < W.heap.size := (Array.getElem?_eq_some_iff.1 h.2.1).1
theorem Cur.ne (h : Cur b V all w x W) : w.heap.size ≠ b := by have := h.2.2.2; omega
theorem Cur.step (h : Cur b V all w x W) (g : Did b V all W y W') : Cur b V all w y W' := ⟨h.1.after g, own_next g.off h.size h.ne h.2.1, h.2.2⟩
theorem Cur.alloc (h : Cur b V all w x W) (o : Obj) : Cur b V all w x (W.alloc o) := ⟨h.1.alloc o, own_more h.2.1 o, h.2.2⟩
theorem Cur.drewN (h : Cur b V all w x W) (n : Nat) : Cur b V all w x (W.drewN n) := h.step ⟨h.st.drewN n, (OffB.refl b _ W).drewN n⟩
theorem Cur.own (h : Cur b V all w x W) : (W.cell? ⟨w.heap.size, 0, none⟩ = some (.int .i64 0) ∧ W.cell? ⟨w.heap.size, 1, none⟩ = some (.int .i64 0) ∧ W.cell? ⟨w.heap.size, 2, none⟩ = some (.int .i64 0) ∧
    W.cell? ⟨w.heap.size, 3, none⟩ = some (.string ⟨#[]⟩) ∧ W.cell? ⟨w.heap.size, 4, none⟩ = some (.slice none 0 0)) ∧ ∀ o, W.frozen? ⟨w.heap.size, o, none⟩ = false := by
  have h2 := h.2.1
  refine ⟨⟨(Lib.cell_of_heap h2 0).trans rfl, (Lib.cell_of_heap h2 1).trans rfl, (Lib.cell_of_heap h2 2).trans rfl, (Lib.cell_of_heap h2 3).trans rfl, (Lib.cell_of_heap h2 4).trans rfl⟩, fun o => ?_⟩
  simp [World.frozen?, h2]
theorem Cur.read (h : Cur b V all w x W) (c0 c1 c2 c3 c4 : Value) : (((((W.setCell ⟨w.heap.size, 0, none⟩ c0).setCell ⟨w.heap.size, 1, none⟩ c1).setCell ⟨w.heap.size, 2, none⟩ c2).setCell ⟨w.heap.size, 3, none⟩ c3).setCell ⟨w.heap.size, 4, none⟩ c4).cell? ⟨w.heap.size, 0, none⟩ = some c0 ∧ (((((W.setCell ⟨w.heap.size, 0, none⟩ c0).setCell ⟨w.heap.size, 1, none⟩ c1).setCell ⟨w.heap.size, 2, none⟩ c2).setCell ⟨w.heap.size, 3, none⟩ c3).setCell ⟨w.heap.size, 4, none⟩ c4).cell? ⟨w.heap.size, 1, none⟩ = some c1 ∧ (((((W.setCell ⟨w.heap.size, 0, none⟩ c0).setCell ⟨w.heap.size, 1, none⟩ c1).setCell ⟨w.heap.size, 2, none⟩ c2).setCell ⟨w.heap.size, 3, none⟩ c3).setCell ⟨w.heap.size, 4, none⟩ c4).cell? ⟨w.heap.size, 2, none⟩ = some c2 ∧ (((((W.setCell ⟨w.heap.size, 0, none⟩ c0).setCell ⟨w.heap.size, 1, none⟩ c1).setCell ⟨w.heap.size, 2, none⟩ c2).setCell ⟨w.heap.size, 3, none⟩ c3).setCell ⟨w.heap.size, 4, none⟩ c4).cell? ⟨w.heap.size, 3, none⟩ = some c3 ∧ (((((W.setCell ⟨w.heap.size, 0, none⟩ c0).setCell ⟨w.heap.size, 1, none⟩ c1).setCell ⟨w.heap.size, 2, none⟩ c2).setCell ⟨w.heap.size, 3, none⟩ c3).setCell ⟨w.heap.size, 4, none⟩ c4).cell? ⟨w.heap.size, 4, none⟩ = some c4 := five h.2.1 c0 c1 c2 c3 c4
theorem Cur.fin (h : Cur b V all w y W) {X : PR Ex} (hy : X.un = y) {c0 c1 c2 c3 c4 : Value} (hG : Got X fun a => FrE w.heap.size (writ W w.heap.size c0 c1 c2 c3 c4) a (.agg #[c0, c1, c2, c3, c4])) :
    Gave b V all w X (FrE w.heap.size) (.returned (.agg #[c0, c1, c2, c3, c4])) (writ W w.heap.size c0 c1 c2 c3 c4) :=
  ⟨_, rfl, hy ▸ h.1.writ h.2.2.1 (Nat.le_refl _) h.ne _ _ _ _ _, hG⟩
/-- A tree from blocks behind the result's own stands, when that is written. -/
theorem FrE.writ {L : Nat} {a : Ex} {v : Value} (h : FrE L W a v) (hL : w.heap.size < L) (c0 c1 c2 c3 c4 : Value) : FrE w.heap.size (writ W w.heap.size c0 c1 c2 c3 c4) a v := h.keep (Keep.writ hL _ _ _ _ _) (by omega)
theorem FrEs.writ {L : Nat} {a : List Ex} {v : Value} (h : FrEs L W a v) (hL : w.heap.size < L) (c0 c1 c2 c3 c4 : Value) : FrEs w.heap.size (writ W w.heap.size c0 c1 c2 c3 c4) a v := h.keep (Keep.writ hL _ _ _ _ _) (by omega)
theorem Keep.did {L : Nat} (h : Did b V all W x W') (hb : b < L) : Keep L W W' := Keep.of_off h.off hb
theorem fr_leaf (L : Nat) (W : World) (k o n : Int) (s : ByteArray) (hn : i64R n) : FrE L W (.mk k o n s []) (.agg #[.int .i64 k, .int .i64 o, .int .i64 n, .string s, .slice none 0 0]) := ⟨_, rfl, hn, slE_nil _ _⟩
theorem Cur.reada (h : Cur b V all w x W) (o : Obj) (c0 c1 c2 c3 c4 : Value) : ((((((W.setCell ⟨w.heap.size, 0, none⟩ c0).setCell ⟨w.heap.size, 1, none⟩ c1).setCell ⟨w.heap.size, 2, none⟩ c2).setCell ⟨w.heap.size, 3, none⟩ c3).setCell ⟨w.heap.size, 4, none⟩ c4).alloc o).cell? ⟨w.heap.size, 0, none⟩ = some c0 ∧ ((((((W.setCell ⟨w.heap.size, 0, none⟩ c0).setCell ⟨w.heap.size, 1, none⟩ c1).setCell ⟨w.heap.size, 2, none⟩ c2).setCell ⟨w.heap.size, 3, none⟩ c3).setCell ⟨w.heap.size, 4, none⟩ c4).alloc o).cell? ⟨w.heap.size, 1, none⟩ = some c1 ∧ ((((((W.setCell ⟨w.heap.size, 0, none⟩ c0).setCell ⟨w.heap.size, 1, none⟩ c1).setCell ⟨w.heap.size, 2, none⟩ c2).setCell ⟨w.heap.size, 3, none⟩ c3).setCell ⟨w.heap.size, 4, none⟩ c4).alloc o).cell? ⟨w.heap.size, 2, none⟩ = some c2 ∧ ((((((W.setCell ⟨w.heap.size, 0, none⟩ c0).setCell ⟨w.heap.size, 1, none⟩ c1).setCell ⟨w.heap.size, 2, none⟩ c2).setCell ⟨w.heap.size, 3, none⟩ c3).setCell ⟨w.heap.size, 4, none⟩ c4).alloc o).cell? ⟨w.heap.size, 3, none⟩ = some c3 ∧ ((((((W.setCell ⟨w.heap.size, 0, none⟩ c0).setCell ⟨w.heap.size, 1, none⟩ c1).setCell ⟨w.heap.size, 2, none⟩ c2).setCell ⟨w.heap.size, 3, none⟩ c3).setCell ⟨w.heap.size, 4, none⟩ c4).alloc o).cell? ⟨w.heap.size, 4, none⟩ = some c4 := by
  have h2 := own_more (writ_row h.2.1 c0 c1 c2 c3 c4) o
  exact ⟨(Lib.cell_of_heap h2 0).trans rfl, (Lib.cell_of_heap h2 1).trans rfl, (Lib.cell_of_heap h2 2).trans rfl, (Lib.cell_of_heap h2 3).trans rfl, (Lib.cell_of_heap h2 4).trans rfl⟩
theorem Cur.fina (h : Cur b V all w y W) {X : PR Ex} (hy : X.un = y) {o : Obj} {c0 c1 c2 c3 c4 : Value} (hG : Got X fun a => FrE w.heap.size ((_root_.Go.Proofs.YtakijoblbmfadaaGreatDoor.writ W w.heap.size c0 c1 c2 c3 c4).alloc o) a (.agg #[c0, c1, c2, c3, c4])) :
    Gave b V all w X (FrE w.heap.size) (.returned (.agg #[c0, c1, c2, c3, c4])) ((_root_.Go.Proofs.YtakijoblbmfadaaGreatDoor.writ W w.heap.size c0 c1 c2 c3 c4).alloc o) :=
  ⟨_, rfl, hy ▸ (h.1.writ h.2.2.1 (Nat.le_refl _) h.ne _ _ _ _ _).alloc o, hG⟩
theorem exV_at {B : Nat} {w : World} {e : Ex} {k op n : Int} {s : ByteArray} {u : Value} (h : ExV B w e (.agg #[.int .i64 k, .int .i64 op, .int .i64 n, .string s, u])) : ∃ args, e = .mk k op n s args ∧ i64R n ∧ SlE B w u args := by
  obtain ⟨u', hv, hn, hs⟩ := h
  obtain ⟨k', op', n', s', args⟩ := e
  simp only [Value.agg.injEq, Array.mk.injEq, List.cons.injEq, Value.int.injEq, Value.string.injEq, true_and, and_true, Ex.kind, Ex.op, Ex.n, Ex.name] at hv
  obtain ⟨rfl, rfl, rfl, rfl, rfl⟩ := hv
  exact ⟨args, rfl, hn, hs⟩
/-- A slice of one, in a new row. -/
theorem fr_one {L M g : Nat} {e : Ex} {k op n : Int} {s : ByteArray} {u : Value} {T : TypeId} (h : FrE L W e (.agg #[.int .i64 k, .int .i64 op, .int .i64 n, .string s, u])) (hM : M ≤ L) (hW : M ≤ W.heap.size) (hg : g = W.heap.size) :
    FrEs M (W.alloc (.cells #[.int .i64 k, .int .i64 op, .int .i64 n, .string s, u] T)) [e] (.slice (some ⟨g, 0, none⟩) 1 1) := by
  subst hg
  have h' := h.keep (Keep.of_below ((Below.refl _ _).alloc (Nat.le_refl _) (.cells #[.int .i64 k, .int .i64 op, .int .i64 n, .string s, u] T))) hM
  obtain ⟨args, rfl, hn, hs⟩ := exV_at h'
  exact slE_at1 (w := mask (low M) _) (b := W.heap.size) ((mask_in (low_no.2 hW)).trans (heap_alloc_new W _)) (by simp) hn hs
end
end Go.Proofs.YtakijoblbmfadaaGreatDoor

/- The document's Value of a number that may be. -/
namespace Go.Proofs.YtakijoblbmfadaaGreatDoor
open Go.RowKit
theorem numB_parts {l : List UInt8} (h : numB l = true) : l ≠ [] ∧ l.all isDig = true ∧ decV 0 l < 9223372036854775808 := by
  simp only [numB, Bool.and_eq_true, decide_eq_true_eq] at h
  refine ⟨fun e => ?_, h.1.1.2, h.2⟩
  rw [e] at h
  simp at h
theorem rvalue_num (s : ByteArray) (w : World) (hs : s.size ≤ 281474976710656) (hn : numB s.data.toList = true) :
    Calls Tryz.prog 49 #[.string s] w fun e w' => e = .returned (.int .i64 (decV 0 s.data.toList : Nat)) ∧ w = w' := by
  obtain ⟨hne, hd, hbg⟩ := numB_parts hn
  have hp : 0 < s.size := by rw [Lib.size_eq]; exact List.length_pos_iff.2 hne
  have he : s.toList.isEmpty = false := by rw [Lib.toList_data]; simpa using hne
  have HD := Lib.hid hd
  have HNB := Lib.hid hn
  have HB := Lib.hid hbg
  clear hne hd hn hbg
  go_enter Tryz.func49, Tryz.ntmps49
  go_wp2
  go_loop [3, 4, 5] (fun n i _ => ∃ (k m : Nat), k ≤ s.size ∧ i = .int .i64 k ∧ n = .int .i64 m ∧ m = decV 0 (s.data.toList.take k) ∧ m < 9223372036854775808) (fun _ i _ => s.size - (intOf i).toNat)
  case atStart => exact ⟨0, 0, Nat.zero_le _, rfl, rfl, by rw [List.take_zero, decV_nil], by omega⟩
  case round =>
    obtain ⟨k, m, hk, rfl, rfl, hm, hbig⟩ := hrel
    have HM := Lib.hid hm
    clear hm
    by_cases hlt : k < s.size
    · obtain ⟨c, hc⟩ : ∃ c : Int, (s[k].toNat : Int) = c := ⟨_, rfl⟩
      have hix := byte_index s k hlt c hc
      have HC := Lib.hid hc
      have hdk := dig_at hlt HD.out
      have h48 : 48 ≤ c := by omega
      have h57 : c ≤ 57 := by omega
      clear hc hdk
      have hov : ¬ (9223372036854775807 - (c - 48)) / 10 < (m : Int) := fun hov => by
        have := numB_over s k m hlt HM.out c HC.out h48 hov
        rw [HNB.out] at this
        cases this
      go_wp2
      have HC2 := HC.out
      have hmc : ((m * 10 + (s[k].toNat - 48) : Nat) : Int) = (m : Int) * 10 + (c - 48) := by omega
      have hle := decV_take_le s.data.toList (k + 1)
      rw [take_next hlt, decV_snoc, ← HM.out] at hle
      have hb2 := HB.out
      go_round
      case rel => exact ⟨k + 1, m * 10 + (s[k].toNat - 48), by omega, by go_num, by rw [hmc], by rw [take_next hlt, decV_snoc, ← HM.out], by omega⟩
      case measure => simp [intOf]; omega
    · have e : k = s.size := by omega
      subst e
      have HM2 : Hid (m = decV 0 s.data.toList) := by
        unfold Hid
        rw [HM.out, List.take_of_length_le (by rw [← Lib.size_eq]; exact Nat.le_refl _)]
      obtain ⟨c, hc⟩ : ∃ c : Int, (s[0].toNat : Int) = c := ⟨_, rfl⟩
      have hix := byte_index0 s hp c hc
      have hN : (decide (s.size = 1) || decide (c ≠ 48)) = true := by
        rw [← HNB.out, numB_one s hp HD.out HB.out]
        congr 1
        rw [Bool.eq_iff_iff]
        simp
        omega
      have HN := Lib.hid hN
      clear hc hN
      by_cases h1 : 1 < s.size
      · have h2 : c ≠ 48 := by
          have := HN.out
          rw [decide_eq_false (show ¬ s.size = 1 by omega), Bool.false_or] at this
          exact of_decide_eq_true this
        go_wp2
        go_ret
        exact ⟨congrArg (fun n : Nat => Ending.returned (.int .i64 (n : Int))) HM2.out, rfl⟩
      · go_wp2
        go_ret
        exact ⟨congrArg (fun n : Nat => Ending.returned (.int .i64 (n : Int))) HM2.out, rfl⟩
end Go.Proofs.YtakijoblbmfadaaGreatDoor
