import Derived.Test.YtakijoblbmfadaaGreatDoorAgParFn
import Derived.Test.YtakijoblbmfadaaGreatDoorAgParBlanks
import Derived.Test.YtakijoblbmfadaaGreatDoorAgTokRefB
import Derived.Test.YtakijoblbmfadaaGreatDoorAgTreeRightP
import Derived.Test.YtakijoblbmfadaaGreatDoorAgPrsPg
import Derived.Defers
import Derived.Recover
import Derived.Laws.Pointers
import Derived.Stop.Asserts
set_option linter.unusedSimpArgs false
set_option linter.unusedVariables false
/- The document's parser: what it answers of a text. -/
namespace Go.Proofs.YtakijoblbmfadaaGreatDoor
open Go.RowKit
/-- The answer of a parse. -/
def DocPost (R : Pr × Int × Nat) (w : World) (e : Ending) (w' : World) : Prop :=
  Below w.heap.size w w' ∧ ∃ v0 v1, e = .returned (.tuple #[.agg #[v0, v1], .int .i64 R.2.1, .int .i64 (R.2.2 : Int)]) ∧ SlA w'.heap.size w' v0 R.1.arrays ∧ SlF w'.heap.size w' v1 R.1.funcs
theorem slF_nil (B : Nat) (w : World) : SlF B w (.slice none 0 0) [] := ⟨none, 0, rfl, Nat.zero_le _, fun h => absurd h (by simp)⟩
theorem mask_sub {p : Nat → Bool} {B : Nat} {w : World} : ∀ g o u, CellB B (mask p w) g o u → CellB B w g o u := fun _ _ _ h => (mask_cell h).2
theorem FrG.tree {L : Nat} {w : World} {a : Pr} {v : Value} (h : FrG L w a v) : ∃ v0 v1, v = .agg #[v0, v1] ∧ SlA w.heap.size w v0 a.arrays ∧ SlF w.heap.size w v1 a.funcs := by
  obtain ⟨v0, v1, hv, h0, h1⟩ := h
  exact ⟨v0, v1, hv, h0.imp mask_sub, h1.imp mask_sub⟩
theorem off_below {b B C : Nat} {w w' : World} (h : OffB b B w w') (hC : C ≤ B) (hb : C ≤ b) : Below C w w' := by
  have g : Below B (hole b w) (hole b w') := h
  exact ⟨g.os, g.tape, g.output, h.size, fun k hk => h.block (by omega) (by omega)⟩
/-- The result's block stands. -/
def Rb (w W : World) : Prop := Below w.heap.size w W ∧ W.heap[w.heap.size]? = some pgBox
theorem Rb.start (w : World) : Rb w (w.alloc pgBox) := ⟨(Below.refl _ _).alloc (Nat.le_refl _) _, heap_alloc_new w pgBox⟩
section
variable {w W W' : World}
theorem Rb.lt (h : Rb w W) : w.heap.size < W.heap.size := (Array.getElem?_eq_some_iff.1 h.2).1
theorem Rb.bel (h : Rb w W) : Below w.heap.size w W := h.1
theorem Rb.below (h : Rb w W) (hb : Below W.heap.size W W') : Rb w W' := ⟨h.1.trans (hb.mono h.1.size), (hb.block _ h.lt).trans h.2⟩
theorem Rb.off {b B : Nat} (h : Rb w W) (ho : OffB b B W W') (hB : w.heap.size < B) (hb : w.heap.size < b) : Rb w W' := ⟨h.1.trans (off_below ho (by omega) (by omega)), own_next ho hB (by omega) h.2⟩
theorem Rb.alloc (h : Rb w W) (o : Obj) : Rb w (W.alloc o) := h.below ((Below.refl _ _).alloc (Nat.le_refl _) o)
theorem Rb.drew (h : Rb w W) : Rb w W.drew := h.below (Below.refl _ _).drew
theorem Rb.own (h : Rb w W) : (W.cell? ⟨w.heap.size, 0, none⟩ = some (.slice none 0 0) ∧ W.cell? ⟨w.heap.size, 1, none⟩ = some (.slice none 0 0)) ∧ ∀ o, W.frozen? ⟨w.heap.size, o, none⟩ = false := two_cells h.2
theorem Rb.read (h : Rb w W) (c0 c1 : Value) : ((W.setCell ⟨w.heap.size, 0, none⟩ c0).setCell ⟨w.heap.size, 1, none⟩ c1).cell? ⟨w.heap.size, 0, none⟩ = some c0 ∧ ((W.setCell ⟨w.heap.size, 0, none⟩ c0).setCell ⟨w.heap.size, 1, none⟩ c1).cell? ⟨w.heap.size, 1, none⟩ = some c1 := (two_cells (nest2_row h.2 c0 c1)).1
theorem Rb.fail (h : Rb w W) {R : Pr × Int × Nat} (e : Int) (ln : Nat) (hR : R = (pr0, e, ln)) : DocPost R w (.returned (.tuple #[.agg #[.slice Option.none 0 0, .slice Option.none 0 0], .int .i64 e, .int .i64 (ln : Int)])) W := by
  subst hR
  exact ⟨h.1, _, _, rfl, slA_nil _ _, slF_nil _ _⟩
theorem Rb.nest (h : Rb w W) (c0 c1 : Value) : Below w.heap.size w (nest2 W w.heap.size c0 c1) := (h.1.setCell (p := ⟨w.heap.size, 0, Option.none⟩) (Nat.le_refl _) _).setCell (p := ⟨w.heap.size, 1, Option.none⟩) (Nat.le_refl _) _
theorem Rb.failn (h : Rb w W) {R : Pr × Int × Nat} (e : Int) (ln : Nat) (hR : R = (pr0, e, ln)) (c0 c1 : Value) : DocPost R w (.returned (.tuple #[.agg #[.slice Option.none 0 0, .slice Option.none 0 0], .int .i64 e, .int .i64 (ln : Int)])) (nest2 W w.heap.size c0 c1) := by
  subst hR
  exact ⟨h.nest c0 c1, _, _, rfl, slA_nil _ _, slF_nil _ _⟩
theorem FrG.keep {L M : Nat} {a : Pr} {v : Value} (h : FrG L W a v) (k : Keep L W W') (hM : M ≤ L) : FrG M W' a v := by
  obtain ⟨v0, v1, hv, h0, h1⟩ := h
  exact ⟨v0, v1, hv, h0.imp (k.cells hM), h1.imp (k.cells hM)⟩
theorem Rb.give (h : Rb w W) {R : Pr × Int × Nat} {p : Pr} {v0 v1 : Value} (hR : R = (p, 0, 0)) {L : Nat} (hG : FrG L W p (.agg #[v0, v1])) (hL : w.heap.size < L) : DocPost R w (.returned (.tuple #[.agg #[v0, v1], .int .i64 0, .int .i64 ((0 : Nat) : Int)])) (nest2 W w.heap.size v0 v1) := by
  subst hR
  obtain ⟨u0, u1, hv, h0, h1⟩ := (hG.keep (Keep.nest2 (g := w.heap.size) hL v0 v1) (Nat.le_refl _)).tree
  simp only [Value.agg.injEq, Array.mk.injEq, List.cons.injEq, and_true] at hv
  obtain ⟨rfl, rfl⟩ := hv
  exact ⟨h.nest _ _, _, _, rfl, h0, h1⟩
end
theorem toks_form {w : World} {B : Nat} {v : Value} {ts : List Tok} (h : Toks w B v ts) : ∃ A c, v = .slice A ts.length c := own_form h
end Go.Proofs.YtakijoblbmfadaaGreatDoor

/- The developers' parser: read, which recovers. -/
namespace Go.Proofs.YtakijoblbmfadaaGreatDoor
open Go.RowKit
theorem as_mis (v : Value) (xT : TypeId) (w : World) : (Instr.typeAssert (.iface 51 v) xT 51 true).run Tryz.prog w = .ok (.tuple #[v, .bool true]) w := by
  simp [Instr.typeAssert, run_underlying Tryz.underlying51]
abbrev miBox : Obj := .cells #[.int .i64 0, .int .i64 0] 51
set_option maxRecDepth 100000 in
theorem dcatch_idle (p q : Addr) (w : World) :
    CallsD Tryz.prog 31 #[.pointer (some p), .pointer (some q)] .returning w fun e u' w' => e = .returned (.tuple #[]) ∧ u' = .returning ∧ w' = w := by
  refine callsD_of_wpS Tryz.func31 rfl fun c₀ cs hu => ?_
  apply wpS_seq
  apply wpS_region
  simp [wpOpsS, go_sem, recoverD, hu, Tryz.ntmps31, Exit.thenS]
  refine wpS_of_wp ?_
  change Code.wp _ _ _ ⟨#[.pointer (some p), .pointer (some q), .nilIface, undef, undef, .nilIface, undef, undef, undef, undef, undef, undef, undef, undef, undef, undef, undef, undef], []⟩ _
  go_wp2
  cases c₀
  simp_all [bodyPostS, results, Tryz.results31]
theorem mis_fin {p q : Nat} {k l : Int} {w : World} (hp : w.heap[p]? = some pgBox) (hq : w.heap[q]? = some miBox) (hne : p ≠ q) :
    ((((nest2 (nest2 w p (.slice none 0 0) (.slice none 0 0)) q (.int .i64 k) (.int .i64 l)).alloc (.cells #[.int .i64 k, .int .i64 l] 51)).drew).heap[p]? = some pgBox) ∧
    ((((nest2 (nest2 w p (.slice none 0 0) (.slice none 0 0)) q (.int .i64 k) (.int .i64 l)).alloc (.cells #[.int .i64 k, .int .i64 l] 51)).drew).heap[q]? = some (.cells #[.int .i64 k, .int .i64 l] 51 (0, 0))) ∧
    w.heap.size ≤ (((nest2 (nest2 w p (.slice none 0 0) (.slice none 0 0)) q (.int .i64 k) (.int .i64 l)).alloc (.cells #[.int .i64 k, .int .i64 l] 51)).drew).heap.size ∧
    ∀ B, B ≤ p → B ≤ q → Below B w (((nest2 (nest2 w p (.slice none 0 0) (.slice none 0 0)) q (.int .i64 k) (.int .i64 l)).alloc (.cells #[.int .i64 k, .int .i64 l] 51)).drew) := by
  have hql := (Array.getElem?_eq_some_iff.1 hq).1
  have h1 : (nest2 w p (.slice none 0 0) (.slice none 0 0)).heap[q]? = some miBox := by
    rw [Below.heap_setCell _ _ _ _ (by show q ≠ p; exact fun h => hne h.symm), Below.heap_setCell _ _ _ _ (by show q ≠ p; exact fun h => hne h.symm)]; exact hq
  have h2 : (nest2 (nest2 w p (.slice none 0 0) (.slice none 0 0)) q (.int .i64 k) (.int .i64 l)).heap[p]? = some pgBox := by
    rw [Below.heap_setCell _ _ _ _ (by show p ≠ q; exact hne), Below.heap_setCell _ _ _ _ (by show p ≠ q; exact hne)]
    exact nest2_row hp _ _
  refine ⟨own_more h2 _, own_more (nest2_row h1 _ _) _, ?_, fun B hB1 hB2 => ((nest2_below hB2 (nest2_below hB1 (Below.refl _ _) _ _) _ _).more (by omega) _).drew⟩
  show _ ≤ (World.alloc _ _).heap.size
  rw [alloc_size]
  simp
set_option maxRecDepth 100000 in
theorem dcatch_mis (p q : Nat) (k l : Int) (older : List PanicEntry) (w : World) (hp : w.heap[p]? = some pgBox) (hq : w.heap[q]? = some miBox) (hne : p ≠ q) :
    CallsD Tryz.prog 31 #[.pointer (some ⟨p, 0, none⟩), .pointer (some ⟨q, 0, none⟩)] (.panicking ({ v := .iface 51 (.agg #[.int .i64 k, .int .i64 l]), recovered := false } :: older)) w fun e u' w' =>
      e = .returned (.tuple #[]) ∧ u' = .panicking ({ v := .iface 51 (.agg #[.int .i64 k, .int .i64 l]), recovered := true } :: older) ∧ w'.heap[p]? = some pgBox ∧ w'.heap[q]? = some (.cells #[.int .i64 k, .int .i64 l] 51 (0, 0)) ∧ w.heap.size ≤ w'.heap.size ∧ (∀ B, B ≤ p → B ≤ q → Below B w w') := by
  obtain ⟨⟨p0, p1⟩, pz⟩ := two_cells hp
  obtain ⟨⟨q0, q1⟩, qz⟩ := two_cells hq
  have hpl := (Array.getElem?_eq_some_iff.1 hp).1
  have hql := (Array.getElem?_eq_some_iff.1 hq).1
  have hnn : q ≠ p := fun h => hne h.symm
  have has := as_mis (.agg #[.int .i64 k, .int .i64 l])
  refine callsD_of_wpS Tryz.func31 rfl fun c₀ cs hu => ?_
  apply wpS_seq
  apply wpS_region
  simp [wpOpsS, go_sem, recoverD, hu, Tryz.ntmps31, Exit.thenS]
  refine wpS_of_wp ?_
  change Code.wp _ _ _ ⟨#[.pointer (some ⟨p, 0, none⟩), .pointer (some ⟨q, 0, none⟩), .iface 51 (.agg #[.int .i64 k, .int .i64 l]), undef, undef, .iface 51 (.agg #[.int .i64 k, .int .i64 l]), undef, undef, undef, undef, undef, undef, undef, undef, undef, undef, undef, undef], []⟩ _
  go_wp2
  go_region
  have hfin := mis_fin (k := k) (l := l) hp hq hne
  exact ⟨rfl, _, rfl, .tuple #[], by simp [results, Tryz.results31, go_sem], rfl, rfl, hfin⟩

end Go.Proofs.YtakijoblbmfadaaGreatDoor
