/- What is handed to the writing methods of package tree: parts in interface values, in a slice; what each adds to the text. -/
import Derived.Test.YtomdcgifkkmopaaDoorTreeBuild
namespace Go.Proofs.YtomdcgifkkmopaaDoor
open Go.RowKit
inductive Pt where
  | str (s : ByteArray)
  | num (n : Int)
  | knd (t : Int)
  | par (x : Pa)
  | pars (l : List Pa)
  | ex (e : Ex)
  | exs (l : List Ex)
  | opd (e : Ex) (lev : Int)
def ptT : Pt → List UInt8
  | .str s => s.data.toList
  | .num n => Lib.itoa n
  | .knd t => tyT t
  | .par x => paT x
  | .pars l => joinC (l.map paT)
  | .ex e => exT e
  | .exs l => joinC (l.map exT)
  | .opd e lev => opT lev e
def ptsT (l : List Pt) : List UInt8 := (l.map ptT).flatten
/-- A value that is an expression. -/
def ExV (B : Nat) (w : World) (e : Ex) (x : Value) : Prop := ∃ v, x = .agg #[.int .i64 e.kind, .int .i64 e.op, .int .i64 e.n, .string e.name, v] ∧ i64R e.n ∧ SlE B w v e.args
theorem ExV.below {B B' : Nat} {w w' : World} {e : Ex} {x : Value} (h : ExV B w e x) (hb : Below B w w') (hB : B ≤ B') : ExV B' w' e x := by
  obtain ⟨v, hx, hn, hs⟩ := h
  exact ⟨v, hx, hn, hs.below hb hB⟩
/-- A value that is an operand at a level. -/
def OpV (B : Nat) (w : World) (e : Ex) (lev : Int) (x : Value) : Prop := ∃ v, x = .agg #[.int .i64 e.kind, .int .i64 e.op, .int .i64 e.n, .string e.name, v, .int .i64 lev] ∧ i64R e.n ∧ SlE B w v e.args
theorem OpV.below {B B' : Nat} {w w' : World} {e : Ex} {lev : Int} {x : Value} (h : OpV B w e lev x) (hb : Below B w w') (hB : B ≤ B') : OpV B' w' e lev x := by
  obtain ⟨v, hx, hn, hs⟩ := h
  exact ⟨v, hx, hn, hs.below hb hB⟩
def PtV (B : Nat) (w : World) : Pt → Value → Prop
  | .str s, x => x = .iface 9 (.string s)
  | .num n, x => x = .iface 3 (.int .i64 n) ∧ i64R n
  | .knd t, x => x = .iface 50 (.int .i64 t)
  | .par p, x => x = .iface 55 (.agg #[.string p.name, .int .i64 p.type])
  | .pars l, x => ∃ v, x = .iface 28 v ∧ SlP B w v l
  | .ex e, x => ∃ v, x = .iface 24 v ∧ ExV B w e v
  | .exs l, x => ∃ v, x = .iface 22 v ∧ SlE B w v l
  | .opd e lev, x => ∃ v, x = .iface 81 v ∧ OpV B w e lev v
theorem PtV.below {B B' : Nat} {w w' : World} (hb : Below B w w') (hB : B ≤ B') : ∀ {p : Pt} {x : Value}, PtV B w p x → PtV B' w' p x
  | .str _, _, h => h
  | .num _, _, h => h
  | .knd _, _, h => h
  | .par _, _, h => h
  | .pars _, _, ⟨v, hx, h⟩ => ⟨v, hx, h.below hb hB⟩
  | .ex _, _, ⟨v, hx, h⟩ => ⟨v, hx, h.below hb hB⟩
  | .exs _, _, ⟨v, hx, h⟩ => ⟨v, hx, h.below hb hB⟩
  | .opd _ _, _, ⟨v, hx, h⟩ => ⟨v, hx, h.below hb hB⟩
/-- A slice of parts, in a row of its own. -/
def PtsAt (B : Nat) (w : World) (l : List Pt) (v : Value) : Prop :=
  ∃ (g : Nat) (cs : Array Value), v = .slice (some ⟨g, 0, none⟩) l.length l.length ∧ l.length ≤ 64 ∧ w.heap[g]? = some (.cells cs 20 (0, 0)) ∧ ∀ (i : Nat) (p : Pt), l[i]? = some p → ∃ x, cs[i]? = some x ∧ PtV B w p x
section
variable {B b : Nat} {bs : List UInt8} {tabs : Nat} {w w' : World}
theorem TextAt.kept (h : TextAt B b bs tabs w) (hk : ∀ k, k < w.heap.size → w'.heap[k]? = w.heap[k]?) : TextAt B b bs tabs w' := by
  obtain ⟨hB, p, v, hp, hb, ho⟩ := h
  refine ⟨hB, p, v, hp, (hk b (Array.getElem?_eq_some_iff.1 hb).1).trans hb, ho.1, ?_⟩
  rcases ho.2 with h0 | ⟨g, cap, cur, rfl, h1, h2, h3⟩
  · exact .inl h0
  · exact .inr ⟨g, cap, cur, rfl, h1, (hk g (Array.getElem?_eq_some_iff.1 h2).1).trans h2, h3⟩
theorem TextAt.drew (h : TextAt B b bs tabs w) : TextAt B b bs tabs w.drew := h
theorem TextAt.alloc (h : TextAt B b bs tabs w) (o : Obj) : TextAt B b bs tabs (w.alloc o) := h.kept fun k hk => Lib.alloc_old w o k hk
theorem TextAt.below (h : TextAt B b bs tabs w) (hb : Below w.heap.size w w') : TextAt B b bs tabs w' := h.kept fun k hk => hb.block k hk
theorem Wr.of_below (hb : Below w.heap.size w w') (hB : B ≤ w.heap.size) : Wr B b w w' := ⟨hb.mono hB, fun k o hk _ _ => (hb.block k (Array.getElem?_eq_some_iff.1 hk).1).trans hk⟩
theorem TextAt.neq (h : TextAt B b bs tabs w) {g : Nat} {cs : Array Value} {t : TypeId} {fz : Nat × Nat} (hg : w.heap[g]? = some (.cells cs t fz)) (ht : t ≠ 46) : g ≠ b := by
  intro e
  subst e
  obtain ⟨_, p, v, _, hb, _⟩ := h
  rw [hb] at hg
  injection hg with hg
  injection hg with _ e2 _
  exact ht e2.symm
/-- A row that is no text's stands. -/
theorem Wr.row (h : Wr B b w w') (hT : TextAt B b bs tabs w) {g : Nat} {cs : Array Value} {t : TypeId} {fz : Nat × Nat} (hg : w.heap[g]? = some (.cells cs t fz)) (ht : t ≠ 46) (h5 : t ≠ 5) : w'.heap[g]? = some (.cells cs t fz) :=
  h.2 g _ hg (fun e => hT.neq hg ht (Option.some.inj e)) (fun c fz' e => by injection e with _ e2 _; exact h5 e2)
theorem PtsAt.wr {l : List Pt} {v : Value} (h : PtsAt B w l v) (hT : TextAt B b bs tabs w) (hw : Wr B b w w') : PtsAt B w' l v := by
  obtain ⟨g, cs, hv, hn, hg, hp⟩ := h
  exact ⟨g, cs, hv, hn, hw.row hT hg (by decide) (by decide), fun i p hi => by obtain ⟨x, hx, hpx⟩ := hp i p hi; exact ⟨x, hx, hpx.below hw.1 (Nat.le_refl _)⟩⟩
end
/-! ### the contracts, as statements -/
def Posted (B b : Nat) (bs : List UInt8) (tabs : Nat) (w : World) (t : List UInt8) (e : Ending) (w' : World) : Prop := e = .returned (.tuple #[]) ∧ TextAt B b (bs ++ t) tabs w' ∧ Wr B b w w'
def WrC (B b : Nat) (l : List Pt) : Prop := ∀ (bs : List UInt8) (tabs : Nat) (w : World) (v : Value), TextAt B b bs tabs w → TreeTab B w → B ≤ w.heap.size → PtsAt B w l v → bs.length + (ptsT l).length ≤ 140737488355328 →
  Calls Tryd.prog 21 #[.pointer (some ⟨b, 0, none⟩), v] w (Posted B b bs tabs w (ptsT l))
def ExC (B b : Nat) (e : Ex) : Prop := ∀ (bs : List UInt8) (tabs : Nat) (w : World) (v : Value), TextAt B b bs tabs w → TreeTab B w → B ≤ w.heap.size → ExV B w e v → bs.length + (exT e).length ≤ 140737488355328 →
  Calls Tryd.prog 37 #[.pointer (some ⟨b, 0, none⟩), v] w (Posted B b bs tabs w (exT e))
def OpC (B b : Nat) (e : Ex) (lev : Int) : Prop := ∀ (bs : List UInt8) (tabs : Nat) (w : World) (v : Value), TextAt B b bs tabs w → TreeTab B w → B ≤ w.heap.size → OpV B w e lev v → bs.length + (opT lev e).length ≤ 140737488355328 →
  Calls Tryd.prog 39 #[.pointer (some ⟨b, 0, none⟩), v] w (Posted B b bs tabs w (opT lev e))
def LsEC (B b : Nat) (l : List Ex) : Prop := ∀ (bs : List UInt8) (tabs : Nat) (w : World) (v : Value), TextAt B b bs tabs w → TreeTab B w → B ≤ w.heap.size → SlE B w v l → bs.length + (joinC (l.map exT)).length ≤ 140737488355328 →
  Calls Tryd.prog 38 #[.pointer (some ⟨b, 0, none⟩), v] w (Posted B b bs tabs w (joinC (l.map exT)))
def LsPC (B b : Nat) (l : List Pa) : Prop := ∀ (bs : List UInt8) (tabs : Nat) (w : World) (v : Value), TextAt B b bs tabs w → TreeTab B w → B ≤ w.heap.size → SlP B w v l → bs.length + (joinC (l.map paT)).length ≤ 140737488355328 →
  Calls Tryd.prog 36 #[.pointer (some ⟨b, 0, none⟩), v] w (Posted B b bs tabs w (joinC (l.map paT)))
section
variable {B b : Nat} {bs : List UInt8} {tabs : Nat} {w : World} {v : Value} (hT : TextAt B b bs tabs w) (ht : TreeTab B w) (hB : B ≤ w.heap.size)
include hT ht hB
theorem WrC.call {l : List Pt} (h : WrC B b l) (hv : PtsAt B w l v) (hl : bs.length + (ptsT l).length ≤ 140737488355328) : Calls Tryd.prog 21 #[.pointer (some ⟨b, 0, none⟩), v] w (Posted B b bs tabs w (ptsT l)) := h bs tabs w v hT ht hB hv hl
theorem ExC.call {e : Ex} (h : ExC B b e) (hv : ExV B w e v) (hl : bs.length + (exT e).length ≤ 140737488355328) : Calls Tryd.prog 37 #[.pointer (some ⟨b, 0, none⟩), v] w (Posted B b bs tabs w (exT e)) := h bs tabs w v hT ht hB hv hl
theorem OpC.call {e : Ex} {lev : Int} (h : OpC B b e lev) (hv : OpV B w e lev v) (hl : bs.length + (opT lev e).length ≤ 140737488355328) : Calls Tryd.prog 39 #[.pointer (some ⟨b, 0, none⟩), v] w (Posted B b bs tabs w (opT lev e)) := h bs tabs w v hT ht hB hv hl
theorem LsEC.call {l : List Ex} (h : LsEC B b l) (hv : SlE B w v l) (hl : bs.length + (joinC (l.map exT)).length ≤ 140737488355328) : Calls Tryd.prog 38 #[.pointer (some ⟨b, 0, none⟩), v] w (Posted B b bs tabs w (joinC (l.map exT))) := h bs tabs w v hT ht hB hv hl
theorem LsPC.call {l : List Pa} (h : LsPC B b l) (hv : SlP B w v l) (hl : bs.length + (joinC (l.map paT)).length ≤ 140737488355328) : Calls Tryd.prog 36 #[.pointer (some ⟨b, 0, none⟩), v] w (Posted B b bs tabs w (joinC (l.map paT))) := h bs tabs w v hT ht hB hv hl
end
set_option maxRecDepth 100000 in
theorem kind_any {B b : Nat} {bs : List UInt8} {tabs : Nat} {w : World} (hT : TextAt B b bs tabs w) (hB : B ≤ w.heap.size) (t : Int) (hl : bs.length + (tyT t).length ≤ 140737488355328) :
    Calls Tryd.prog 35 #[.pointer (some ⟨b, 0, none⟩), .int .i64 t] w (Posted B b bs tabs w (tyT t)) := by
  have HT := Lib.hid hT
  clear hT
  by_cases h2 : t = 2
  · subst h2
    have hl' : bs.length + (⟨#[98, 111, 111, 108]⟩ : ByteArray).size ≤ 140737488355328 := hl
    go_enter Tryd.func35, Tryd.ntmps35
    go_wp2_with (go_at_call 33; (with_reducible refine (writeString_any HT.out _ hl' hB).mono ?_); rintro e w1 ⟨rfl, hT1, hw1⟩)
    go_end0
    exact ⟨rfl, hT1, hw1⟩
  · have hn : (t == 2) = false := by simpa using h2
    have ht : tyT t = [105, 110, 116] := by unfold tyT; rw [if_neg h2]
    rw [ht] at hl ⊢
    have hl' : bs.length + (⟨#[105, 110, 116]⟩ : ByteArray).size ≤ 140737488355328 := hl
    clear h2 ht hl
    go_enter Tryd.func35, Tryd.ntmps35
    go_wp2_with (go_at_call 33; (with_reducible refine (writeString_any HT.out _ hl' hB).mono ?_); rintro e w1 ⟨rfl, hT1, hw1⟩)
    go_end0
    exact ⟨rfl, hT1, hw1⟩
end Go.Proofs.YtomdcgifkkmopaaDoor
