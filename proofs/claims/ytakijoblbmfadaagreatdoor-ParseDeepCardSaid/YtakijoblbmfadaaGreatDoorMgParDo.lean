import Derived.Test.YtakijoblbmfadaaGreatDoorMgParFn
import Derived.Test.YtakijoblbmfadaaGreatDoorMgParBlanks
import Derived.Test.YtakijoblbmfadaaGreatDoorMgTokRefB
import Derived.Test.YtakijoblbmfadaaGreatDoorMgTreeRightP
import Derived.Test.YtakijoblbmfadaaGreatDoorMgPrsPg
import Derived.Defers
import Derived.Recover
import Derived.Laws.Pointers
import Derived.Stop.Asserts
set_option linter.unusedSimpArgs false
set_option linter.unusedVariables false
/- The document's parser: what it answers of a text. -/
namespace Go.Proofs.YtakijoblbmfadaaGreatDoor
open Go.RowKit
/-- The answer of a parse. -/
def DocPost (R : Pr × Int × Nat) (w : World) (e : Ending) (w' : World) : Prop :=
  Below w.heap.size w w' ∧ ∃ v0 v1, e = .returned (.tuple #[.agg #[v0, v1], .int .i64 R.2.1, .int .i64 (R.2.2 : Int)]) ∧ SlA w'.heap.size w' v0 R.1.arrays ∧ SlF w'.heap.size w' v1 R.1.funcs
theorem slF_nil (B : Nat) (w : World) : SlF B w (.slice none 0 0) [] := ⟨none, 0, rfl, Nat.zero_le _, fun h => absurd h (by simp)⟩
theorem mask_sub {p : Nat → Bool} {B : Nat} {w : World} : ∀ g o u, CellB B (mask p w) g o u → CellB B w g o u := fun _ _ _ h => (mask_cell h).2
theorem FrG.tree {L : Nat} {w : World} {a : Pr} {v : Value} (h : FrG L w a v) : ∃ v0 v1, v = .agg #[v0, v1] ∧ SlA w.heap.size w v0 a.arrays ∧ SlF w.heap.size w v1 a.funcs := by
  obtain ⟨v0, v1, hv, h0, h1⟩ := h
  exact ⟨v0, v1, hv, h0.imp mask_sub, h1.imp mask_sub⟩
theorem off_below {b B C : Nat} {w w' : World} (h : OffB b B w w') (hC : C ≤ B) (hb : C ≤ b) : Below C w w' := by
  have g : Below B (hole b w) (hole b w') := h
  exact ⟨g.os, g.tape, g.output, h.size, fun k hk => h.block (by omega) (by omega)⟩
/-- The box stands at its tokens' beginning. -/
theorem box_new {w : World} {v : Value} {ts : List Tok} {B : Nat} (h : Toks w B v ts) (hE : EndL ts) (hl : ts.length ≤ 1000000) (hn : ∀ t ∈ ts, t.kind = 0 → numB t.text = true ∧ t.text.length ≤ 281474976710656) :
    StP w.heap.size v ts (.ok () ts) (w.alloc (.cells #[v, .int .i64 0, .bool false, .bool false] 64)) := by
  rcases h.2 with ⟨rfl, h0⟩ | ⟨g, cap, cur, rfl, h1, h2, h3, h4, h5, h6⟩
  · exact absurd h0 (by have := hE.pos; omega)
  · have hglt : g < w.heap.size := (Array.getElem?_eq_some_iff.1 h2).1
    refine ⟨?_, ⟨g, cap, rfl, by omega, by simp; omega, fun j u hj => ?_, hl, fun t ht h0 => ⟨(hn t ht h0).1, ?_⟩⟩, List.suffix_refl _, hE⟩
    · rw [Nat.sub_self]
      exact heap_alloc_new w _
    · rw [Lib.cell_of_heap ((Below.heap_alloc w _ g hglt).trans h2)]
      rw [← h6, List.getElem?_take] at hj
      split at hj
      · simpa using hj
      · cases hj
    · rw [Lib.size_eq]
      exact (hn t ht h0).2
/-- The result's block stands. -/
def Rb (w W : World) : Prop := Below w.heap.size w W ∧ W.heap[w.heap.size]? = some pgBox
theorem Rb.start (w : World) : Rb w (w.alloc pgBox) := ⟨(Below.refl _ _).alloc (Nat.le_refl _) _, heap_alloc_new w pgBox⟩
section
variable {w W W' : World}
theorem Rb.lt (h : Rb w W) : w.heap.size < W.heap.size := (Array.getElem?_eq_some_iff.1 h.2).1
theorem Rb.bel (h : Rb w W) : Below w.heap.size w W := h.1
theorem Rb.below (h : Rb w W) (hb : Below W.heap.size W W') : Rb w W' := ⟨h.1.trans (hb.mono h.1.size), (hb.block _ h.lt).trans h.2⟩
theorem Rb.off {b B : Nat} (h : Rb w W) (ho : OffB b B W W') (hB : w.heap.size < B) (hb : w.heap.size < b) : Rb w W' := ⟨h.1.trans (off_below ho (by omega) (by omega)), own_next ho hB (by omega) h.2⟩
theorem Rb.alloc (h : Rb w W) (o : Obj) : Rb w (W.alloc o) := h.below ((Below.refl _ _).alloc (Nat.le_refl _) o)
theorem Rb.drew (h : Rb w W) : Rb w W.drew := h.below (Below.refl _ _).drew
theorem Rb.own (h : Rb w W) : (W.cell? ⟨w.heap.size, 0, none⟩ = some (.slice none 0 0) ∧ W.cell? ⟨w.heap.size, 1, none⟩ = some (.slice none 0 0)) ∧ ∀ o, W.frozen? ⟨w.heap.size, o, none⟩ = false := two_cells h.2
theorem Rb.read (h : Rb w W) (c0 c1 : Value) : ((W.setCell ⟨w.heap.size, 0, none⟩ c0).setCell ⟨w.heap.size, 1, none⟩ c1).cell? ⟨w.heap.size, 0, none⟩ = some c0 ∧ ((W.setCell ⟨w.heap.size, 0, none⟩ c0).setCell ⟨w.heap.size, 1, none⟩ c1).cell? ⟨w.heap.size, 1, none⟩ = some c1 := (two_cells (nest2_row h.2 c0 c1)).1
theorem Rb.fail (h : Rb w W) {R : Pr × Int × Nat} (e : Int) (ln : Nat) (hR : R = (pr0, e, ln)) : DocPost R w (.returned (.tuple #[.agg #[.slice Option.none 0 0, .slice Option.none 0 0], .int .i64 e, .int .i64 (ln : Int)])) W := by
  subst hR
  exact ⟨h.1, _, _, rfl, slA_nil _ _, slF_nil _ _⟩
theorem Rb.nest (h : Rb w W) (c0 c1 : Value) : Below w.heap.size w (nest2 W w.heap.size c0 c1) := (h.1.setCell (p := ⟨w.heap.size, 0, Option.none⟩) (Nat.le_refl _) _).setCell (p := ⟨w.heap.size, 1, Option.none⟩) (Nat.le_refl _) _
theorem Rb.failn (h : Rb w W) {R : Pr × Int × Nat} (e : Int) (ln : Nat) (hR : R = (pr0, e, ln)) (c0 c1 : Value) : DocPost R w (.returned (.tuple #[.agg #[.slice Option.none 0 0, .slice Option.none 0 0], .int .i64 e, .int .i64 (ln : Int)])) (nest2 W w.heap.size c0 c1) := by
  subst hR
  exact ⟨h.nest c0 c1, _, _, rfl, slA_nil _ _, slF_nil _ _⟩
theorem FrG.keep {L M : Nat} {a : Pr} {v : Value} (h : FrG L W a v) (k : Keep L W W') (hM : M ≤ L) : FrG M W' a v := by
  obtain ⟨v0, v1, hv, h0, h1⟩ := h
  exact ⟨v0, v1, hv, h0.imp (k.cells hM), h1.imp (k.cells hM)⟩
theorem Rb.give (h : Rb w W) {R : Pr × Int × Nat} {p : Pr} {v0 v1 : Value} (hR : R = (p, 0, 0)) {L : Nat} (hG : FrG L W p (.agg #[v0, v1])) (hL : w.heap.size < L) : DocPost R w (.returned (.tuple #[.agg #[v0, v1], .int .i64 0, .int .i64 ((0 : Nat) : Int)])) (nest2 W w.heap.size v0 v1) := by
  subst hR
  obtain ⟨u0, u1, hv, h0, h1⟩ := (hG.keep (Keep.nest2 (g := w.heap.size) hL v0 v1) (Nat.le_refl _)).tree
  simp only [Value.agg.injEq, Array.mk.injEq, List.cons.injEq, and_true] at hv
  obtain ⟨rfl, rfl⟩ := hv
  exact ⟨h.nest _ _, _, _, rfl, h0, h1⟩
end
set_option maxRecDepth 100000 in
theorem rparse_long (s : ByteArray) (w : World) (h : 100000 < s.size) : Calls Tryz.prog 17 #[.string s] w (DocPost (docP s) w) := by
  rw [docP_long h]
  have HH := Lib.hid h
  have HR := Lib.hid (Rb.start w)
  clear h
  go_enter Tryz.func17, Tryz.ntmps17
  go_wp2_with (go_at_call 26; (with_reducible refine (rtokens_long s _ HH.out).mono ?_); rintro e w1 ⟨rfl, rfl⟩)
  obtain ⟨⟨c0, c1⟩, fz⟩ := HR.out.own
  refine bodyPost_ret (v := .tuple #[.agg #[.slice none 0 0, .slice none 0 0], .int .i64 2, .int .i64 ((0 : Nat) : Int)]) (by simp [results, Tryz.results17, go_sem, c0, c1]) rfl ?_
  exact HR.out.fail 2 0 rfl
theorem rtokens_no (s : ByteArray) (w : World) (h : s.size ≤ 100000) {ln : Nat} (hs : (scan s.data.toList 1).2 = some ln) : Calls Tryz.prog 26 #[.string s] w fun e w' => e = .returned (.tuple #[.slice none 0 0, .int .i64 20, .int .i64 (ln : Int)]) ∧ Below w.heap.size w w' :=
  (rtokens_any s w h).mono fun e w' hp => by
    unfold TokensPost at hp
    rw [hs] at hp
    exact ⟨hp.2, hp.1⟩
theorem rtokens_yes (s : ByteArray) (w : World) (h : s.size ≤ 100000) {ts : List Tok} (hs : scan s.data.toList 1 = (ts, none)) : Calls Tryz.prog 26 #[.string s] w fun e w' => ∃ v, e = .returned (.tuple #[v, .int .i64 0, .int .i64 0]) ∧ Toks w' w.heap.size v ts ∧ Below w.heap.size w w' :=
  (rtokens_any s w h).mono fun e w' hp => by
    unfold TokensPost at hp
    rw [hs] at hp
    obtain ⟨h1, v, h2, h3⟩ := hp
    exact ⟨v, h2, h3, h1⟩
set_option maxRecDepth 100000 in
theorem rparse_no (s : ByteArray) (w : World) (h : s.size ≤ 100000) {ln : Nat} (hs : (scan s.data.toList 1).2 = some ln) : Calls Tryz.prog 17 #[.string s] w (DocPost (docP s) w) := by
  rw [docP_no h hs]
  have HH := Lib.hid h
  have HS := Lib.hid hs
  have HR := Lib.hid (Rb.start w)
  clear h hs
  go_enter Tryz.func17, Tryz.ntmps17
  go_wp2_with (go_at_call 26; (with_reducible refine (rtokens_no s _ HH.out HS.out).mono ?_); rintro e w1 ⟨rfl, hb⟩
               replace HR := Lib.hid (HR.out.below hb)
               obtain ⟨⟨c0, c1⟩, fz⟩ := HR.out.own
               clear hb)
  refine bodyPost_ret (v := .tuple #[.agg #[.slice none 0 0, .slice none 0 0], .int .i64 20, .int .i64 (ln : Int)]) (by simp [results, Tryz.results17, go_sem, c0, c1]) rfl ?_
  exact HR.out.failn 20 ln rfl _ _
theorem box_go {s : ByteArray} {W : World} {v : Value} {ts : List Tok} {B : Nat} (h : Toks W B v ts) (hs : scan s.data.toList 1 = (ts, none)) (hl : s.size ≤ 100000) : StP W.heap.size v ts (.ok () ts) (W.alloc (.cells #[v, .int .i64 0, .bool false, .bool false] 64)) := by
  have hz : s.size = s.data.toList.length := rfl
  obtain ⟨h1, h2⟩ := scan_num _ _ _ _ (Nat.le_refl _) hs
  exact box_new h (scan_endL _ _ _ _ (Nat.le_refl _) hs) (by omega) fun t ht h0 => ⟨(h1 t ht h0).1, by have := (h1 t ht h0).2; omega⟩
theorem toks_form {w : World} {B : Nat} {v : Value} {ts : List Tok} (h : Toks w B v ts) : ∃ A c, v = .slice A ts.length c := own_form h
theorem right_go {L : Nat} {W : World} {p : Pr} {v0 v1 : Value} {c : Bool} {o : Obj} (h : FrG L W p (.agg #[v0, v1])) (hc : prOK p = c) : Calls Tryz.prog 22 #[.agg #[v0, v1]] (W.alloc o) fun e w' => e = .returned (.bool c) ∧ Below (W.alloc o).heap.size (W.alloc o) w' := by
  obtain ⟨u0, u1, hv, h0, h1⟩ := (h.keep (Keep.of_below (L := L) ((Below.refl _ _).alloc (Nat.le_refl _) o)) (Nat.le_refl _)).tree
  simp only [Value.agg.injEq, Array.mk.injEq, List.cons.injEq, and_true] at hv
  obtain ⟨rfl, rfl⟩ := hv
  exact rright_any _ p c hc _ _ _ (Nat.le_refl _) h0 h1
set_option maxHeartbeats 1600000 in
set_option maxRecDepth 100000 in
theorem rparse_ok (s : ByteArray) (w : World) (h : s.size ≤ 100000) {ts : List Tok} (hs : scan s.data.toList 1 = (ts, none)) {p : Pr} {r : List Tok} (hp : parseT ts = .ok p r) : Calls Tryz.prog 17 #[.string s] w (DocPost (docP s) w) := by
  obtain ⟨c, hc⟩ : ∃ c, prOK p = c := ⟨_, rfl⟩
  have hR : docP s = if c = true then (p, 0, 0) else (pr0, 2, 0) := by
    rw [docP_yes h hs]
    unfold docT
    rw [hp, ← hc]
  have HE := Lib.hid (show Ends ((PR.ok () ts).bind fun _ r => pPr (20 * ts.length + 40) ⟨[], []⟩ r) from parseT_ends (scan_endL _ _ _ _ (Nat.le_refl _) hs))
  have HP := Lib.hid hp
  have HC := Lib.hid hc
  have HH := Lib.hid h
  have HS := Lib.hid hs
  have HR := Lib.hid (Rb.start w)
  have HRR := Lib.hid hR
  clear h hs hp hc hR
  cases c
  case false =>
    go_enter Tryz.func17, Tryz.ntmps17
    go_wp2_with (first
      | (go_at_call 26; (with_reducible refine (rtokens_yes s _ HH.out HS.out).mono ?_); rintro e w1 ⟨v, rfl, hT, hb⟩
         obtain ⟨A0, cp0, rfl⟩ := toks_form hT
         have HT := Lib.hid hT
         replace HR := Lib.hid (HR.out.below hb)
         clear hb hT)
      | (go_at_call 27; (with_reducible refine (prog_any (box_go HT.out HS.out HH.out) HE.out).mono ?_); rintro e w3 ⟨v, rfl, hD, hG⟩
         have hp3 : Pbox w1.heap.size (.slice A0 ts.length cp0) ts r false false w3 := by
           have h1 : StP w1.heap.size (.slice A0 ts.length cp0) ts (parseT ts).un w3 := hD.st
           rw [HP.out] at h1
           exact h1
         have HG := Lib.hid (show FrG (w1.alloc (.cells #[.slice A0 ts.length cp0, .int .i64 0, .bool false, .bool false] 64)).heap.size w3 p v by
           have h1 : Got (parseT ts) _ := hG
           rw [HP.out] at h1
           exact h1)
         obtain ⟨v0, v1, rfl, g0, g1⟩ := HG.out
         obtain ⟨B0, q0, rfl, _⟩ := g0.form
         obtain ⟨B1, q1, rfl, _⟩ := g1.form
         obtain ⟨b0, b1, b2, b3⟩ := hp3.cells
         have hw1 := HR.out.lt
         have HR3 := Lib.hid ((HR.out.alloc _).off hD.off (by simp; omega) (by omega))
         have h3 : w1.heap.size < w3.heap.size := hp3.lt
         have hw3 := HR3.out.lt
         clear hD hG hp3 g0 g1)
      | (go_at_call 22; (with_reducible refine (right_go HG.out HC.out).mono ?_); rintro e w4 ⟨rfl, hb⟩
         have HG4 := Lib.hid (HG.out.keep ((Keep.of_below ((Below.refl _ _).alloc (Nat.le_refl _) _)).trans (Keep.of_below hb)) (Nat.le_refl _))
         have HR4 := Lib.hid ((HR3.out.alloc _).below hb)
         obtain ⟨⟨o0, o1⟩, oz⟩ := two_cells ((hb.block _ (by simp)).trans (heap_alloc_new w3 (.cells #[.slice B0 p.arrays.length q0, .slice B1 p.funcs.length q1] 35)))
         obtain ⟨⟨c0, c1⟩, fz⟩ := HR4.out.own
         clear hb))
    refine bodyPost_ret (v := .tuple #[.agg #[.slice none 0 0, .slice none 0 0], .int .i64 2, .int .i64 ((0 : Nat) : Int)]) (by simp [results, Tryz.results17, go_sem, c0, c1]) rfl ?_
    exact HR4.out.failn 2 0 (by rw [HRR.out]; rfl) _ _
  case true =>
    go_enter Tryz.func17, Tryz.ntmps17
    go_wp2_with (first
      | (go_at_call 26; (with_reducible refine (rtokens_yes s _ HH.out HS.out).mono ?_); rintro e w1 ⟨v, rfl, hT, hb⟩
         obtain ⟨A0, cp0, rfl⟩ := toks_form hT
         have HT := Lib.hid hT
         replace HR := Lib.hid (HR.out.below hb)
         clear hb hT)
      | (go_at_call 27; (with_reducible refine (prog_any (box_go HT.out HS.out HH.out) HE.out).mono ?_); rintro e w3 ⟨v, rfl, hD, hG⟩
         have hp3 : Pbox w1.heap.size (.slice A0 ts.length cp0) ts r false false w3 := by
           have h1 : StP w1.heap.size (.slice A0 ts.length cp0) ts (parseT ts).un w3 := hD.st
           rw [HP.out] at h1
           exact h1
         have HG := Lib.hid (show FrG (w1.alloc (.cells #[.slice A0 ts.length cp0, .int .i64 0, .bool false, .bool false] 64)).heap.size w3 p v by
           have h1 : Got (parseT ts) _ := hG
           rw [HP.out] at h1
           exact h1)
         obtain ⟨v0, v1, rfl, g0, g1⟩ := HG.out
         obtain ⟨B0, q0, rfl, _⟩ := g0.form
         obtain ⟨B1, q1, rfl, _⟩ := g1.form
         obtain ⟨b0, b1, b2, b3⟩ := hp3.cells
         have hw1 := HR.out.lt
         have HR3 := Lib.hid ((HR.out.alloc _).off hD.off (by simp; omega) (by omega))
         have h3 : w1.heap.size < w3.heap.size := hp3.lt
         have hw3 := HR3.out.lt
         clear hD hG hp3 g0 g1)
      | (go_at_call 22; (with_reducible refine (right_go HG.out HC.out).mono ?_); rintro e w4 ⟨rfl, hb⟩
         have HG4 := Lib.hid (HG.out.keep ((Keep.of_below ((Below.refl _ _).alloc (Nat.le_refl _) _)).trans (Keep.of_below hb)) (Nat.le_refl _))
         have HR4 := Lib.hid ((HR3.out.alloc _).below hb)
         obtain ⟨⟨o0, o1⟩, oz⟩ := two_cells ((hb.block _ (by simp)).trans (heap_alloc_new w3 (.cells #[.slice B0 p.arrays.length q0, .slice B1 p.funcs.length q1] 35)))
         obtain ⟨⟨c0, c1⟩, fz⟩ := HR4.out.own
         clear hb))
    obtain ⟨f0, f1⟩ := HR4.out.read (.slice B0 p.arrays.length q0) (.slice B1 p.funcs.length q1)
    refine bodyPost_ret (v := .tuple #[.agg #[.slice B0 p.arrays.length q0, .slice B1 p.funcs.length q1], .int .i64 0, .int .i64 ((0 : Nat) : Int)]) (by simp [results, Tryz.results17, go_sem, f0, f1]) rfl ?_
    exact HR4.out.give (by rw [HRR.out]; rfl) HG4.out (by simp; omega)
set_option maxHeartbeats 1600000 in
set_option maxRecDepth 100000 in
theorem rparse_bad (s : ByteArray) (w : World) (h : s.size ≤ 100000) {ts : List Tok} (hs : scan s.data.toList 1 = (ts, none)) {r : List Tok} (hp : parseT ts = .bad r) : Calls Tryz.prog 17 #[.string s] w (DocPost (docP s) w) := by
  have hR : docP s = (pr0, 20, hdL r) := by
    rw [docP_yes h hs]
    unfold docT
    rw [hp]
  have HE := Lib.hid (show Ends ((PR.ok () ts).bind fun _ r => pPr (20 * ts.length + 40) ⟨[], []⟩ r) from parseT_ends (scan_endL _ _ _ _ (Nat.le_refl _) hs))
  have HP := Lib.hid hp
  have HH := Lib.hid h
  have HS := Lib.hid hs
  have HR := Lib.hid (Rb.start w)
  have HRR := Lib.hid hR
  clear h hs hp hR
  go_enter Tryz.func17, Tryz.ntmps17
  go_wp2_with (first
    | (go_at_call 26; (with_reducible refine (rtokens_yes s _ HH.out HS.out).mono ?_); rintro e w1 ⟨v, rfl, hT, hb⟩
       obtain ⟨A0, cp0, rfl⟩ := toks_form hT
       have HT := Lib.hid hT
       replace HR := Lib.hid (HR.out.below hb)
       clear hb hT)
    | (go_at_call 27; (with_reducible refine (prog_any (box_go HT.out HS.out HH.out) HE.out).mono ?_); rintro e w3 ⟨v, rfl, hD, hG⟩
       have hp3 : Pbox w1.heap.size (.slice A0 ts.length cp0) ts r true false w3 := by
         have h1 : StP w1.heap.size (.slice A0 ts.length cp0) ts (parseT ts).un w3 := hD.st
         rw [HP.out] at h1
         exact h1
       have hG2 : ∃ a, FrG (w1.alloc (.cells #[.slice A0 ts.length cp0, .int .i64 0, .bool false, .bool false] 64)).heap.size w3 a v := by
         have h1 : Got (parseT ts) _ := hG
         rw [HP.out] at h1
         exact h1
       obtain ⟨a, v0, v1, rfl, g0, g1⟩ := hG2
       obtain ⟨B0, q0, rfl, _⟩ := g0.form
       obtain ⟨B1, q1, rfl, _⟩ := g1.form
       obtain ⟨g, cp, k, t, q, hV, hr, hk, hklt, hl, b0, b1, b2, b3, t0, t1, t2⟩ := hp3.tok
       injection hV with hV1 _ hV2
       subst hV1 hV2
       have hgb : g ≠ w1.heap.size ∧ g < w3.heap.size ∧ g ≠ w.heap.size := by
         refine ⟨?_, World.block_lt_of_cell? w3 ⟨g, k * 3 + 2, none⟩ t2, ?_⟩
         · obtain ⟨_, ⟨g', c', hv', hb', _⟩, _⟩ := hp3
           injection hv' with e1 _ _
           injection e1 with e1
           injection e1 with e1 _ _
           omega
         · obtain ⟨_, _⟩ := HT.out
           have h1 := (own_lt HT.out g rfl).2
           simp at h1
           omega
       obtain ⟨hgb1, hgb2, hgb3⟩ := hgb
       have hgb4 : w.heap.size ≠ g := fun e => hgb3 e.symm
       have HLN := Lib.hid (show (t.line : Int) = (hdL r : Int) by rw [hr]; rfl)
       have hw1 := HR.out.lt
       have HR3 := Lib.hid (((HR.out.alloc _).off hD.off (by simp; omega) (by omega)).alloc (.cells #[.slice B0 a.arrays.length q0, .slice B1 a.funcs.length q1] 35))
       obtain ⟨⟨c0, c1⟩, fz⟩ := HR3.out.own
       have h3 : w1.heap.size < w3.heap.size := hp3.lt
       have hkl2 : (k : Int) < ts.length := by omega
       have hw3 := HR3.out.lt
       have hne : w.heap.size ≠ w1.heap.size := by omega
       clear hD hG hp3 g0 g1 hr hk))
  have m1 : (w3.alloc (.cells #[.slice B0 a.arrays.length q0, .slice B1 a.funcs.length q1] 35)).cell? ⟨w1.heap.size, 1, none⟩ = some (.int .i64 (k : Int)) := by rw [World.cell?_alloc_past _ _ _ h3]; exact b1
  have m2 : (w3.alloc (.cells #[.slice B0 a.arrays.length q0, .slice B1 a.funcs.length q1] 35)).cell? ⟨g, k * 3 + 2, none⟩ = some (.int .i64 (t.line : Int)) := by rw [World.cell?_alloc_past _ _ _ hgb2]; exact t2
  go_region_held3 (fun w' => w'.cell? ⟨w1.heap.size, 1, none⟩ = some (.int .i64 (k : Int)) ∧ w'.cell? ⟨g, k * 3 + 2, none⟩ = some (.int .i64 (t.line : Int)))
    (go_keep)
    (fail)
  all_goals
    go_wp2_with (fail)
    obtain ⟨f0, f1⟩ := HR3.out.read (.slice none 0 0) (.slice none 0 0)
    refine bodyPost_ret (v := .tuple #[.agg #[.slice none 0 0, .slice none 0 0], .int .i64 20, .int .i64 ((hdL r : Nat) : Int)]) (by rw [← HLN.out]; simp [results, Tryz.results17, go_sem, f0, f1]) rfl ?_
    exact HR3.out.drew.failn 20 (hdL r) HRR.out _ _
set_option maxHeartbeats 1600000 in
set_option maxRecDepth 100000 in
theorem rparse_deep (s : ByteArray) (w : World) (h : s.size ≤ 100000) {ts : List Tok} (hs : scan s.data.toList 1 = (ts, none)) {r : List Tok} (hp : parseT ts = .deep r) : Calls Tryz.prog 17 #[.string s] w (DocPost (docP s) w) := by
  have hR : docP s = (pr0, 2, hdL r) := by
    rw [docP_yes h hs]
    unfold docT
    rw [hp]
  have HE := Lib.hid (show Ends ((PR.ok () ts).bind fun _ r => pPr (20 * ts.length + 40) ⟨[], []⟩ r) from parseT_ends (scan_endL _ _ _ _ (Nat.le_refl _) hs))
  have HP := Lib.hid hp
  have HH := Lib.hid h
  have HS := Lib.hid hs
  have HR := Lib.hid (Rb.start w)
  have HRR := Lib.hid hR
  clear h hs hp hR
  go_enter Tryz.func17, Tryz.ntmps17
  go_wp2_with (first
    | (go_at_call 26; (with_reducible refine (rtokens_yes s _ HH.out HS.out).mono ?_); rintro e w1 ⟨v, rfl, hT, hb⟩
       obtain ⟨A0, cp0, rfl⟩ := toks_form hT
       have HT := Lib.hid hT
       replace HR := Lib.hid (HR.out.below hb)
       clear hb hT)
    | (go_at_call 27; (with_reducible refine (prog_any (box_go HT.out HS.out HH.out) HE.out).mono ?_); rintro e w3 ⟨v, rfl, hD, hG⟩
       have hp3 : Pbox w1.heap.size (.slice A0 ts.length cp0) ts r false true w3 := by
         have h1 : StP w1.heap.size (.slice A0 ts.length cp0) ts (parseT ts).un w3 := hD.st
         rw [HP.out] at h1
         exact h1
       have hG2 : ∃ a, FrG (w1.alloc (.cells #[.slice A0 ts.length cp0, .int .i64 0, .bool false, .bool false] 64)).heap.size w3 a v := by
         have h1 : Got (parseT ts) _ := hG
         rw [HP.out] at h1
         exact h1
       obtain ⟨a, v0, v1, rfl, g0, g1⟩ := hG2
       obtain ⟨B0, q0, rfl, _⟩ := g0.form
       obtain ⟨B1, q1, rfl, _⟩ := g1.form
       obtain ⟨g, cp, k, t, q, hV, hr, hk, hklt, hl, b0, b1, b2, b3, t0, t1, t2⟩ := hp3.tok
       injection hV with hV1 _ hV2
       subst hV1 hV2
       have hgb : g ≠ w1.heap.size ∧ g < w3.heap.size ∧ g ≠ w.heap.size := by
         refine ⟨?_, World.block_lt_of_cell? w3 ⟨g, k * 3 + 2, none⟩ t2, ?_⟩
         · obtain ⟨_, ⟨g', c', hv', hb', _⟩, _⟩ := hp3
           injection hv' with e1 _ _
           injection e1 with e1
           injection e1 with e1 _ _
           omega
         · obtain ⟨_, _⟩ := HT.out
           have h1 := (own_lt HT.out g rfl).2
           simp at h1
           omega
       obtain ⟨hgb1, hgb2, hgb3⟩ := hgb
       have hgb4 : w.heap.size ≠ g := fun e => hgb3 e.symm
       have HLN := Lib.hid (show (t.line : Int) = (hdL r : Int) by rw [hr]; rfl)
       have hw1 := HR.out.lt
       have HR3 := Lib.hid (((HR.out.alloc _).off hD.off (by simp; omega) (by omega)).alloc (.cells #[.slice B0 a.arrays.length q0, .slice B1 a.funcs.length q1] 35))
       obtain ⟨⟨c0, c1⟩, fz⟩ := HR3.out.own
       have h3 : w1.heap.size < w3.heap.size := hp3.lt
       have hkl2 : (k : Int) < ts.length := by omega
       have hw3 := HR3.out.lt
       have hne : w.heap.size ≠ w1.heap.size := by omega
       clear hD hG hp3 g0 g1 hr hk))
  have m1 : (w3.alloc (.cells #[.slice B0 a.arrays.length q0, .slice B1 a.funcs.length q1] 35)).cell? ⟨w1.heap.size, 1, none⟩ = some (.int .i64 (k : Int)) := by rw [World.cell?_alloc_past _ _ _ h3]; exact b1
  have m2 : (w3.alloc (.cells #[.slice B0 a.arrays.length q0, .slice B1 a.funcs.length q1] 35)).cell? ⟨g, k * 3 + 2, none⟩ = some (.int .i64 (t.line : Int)) := by rw [World.cell?_alloc_past _ _ _ hgb2]; exact t2
  go_region_held3 (fun w' => w'.cell? ⟨w1.heap.size, 1, none⟩ = some (.int .i64 (k : Int)) ∧ w'.cell? ⟨g, k * 3 + 2, none⟩ = some (.int .i64 (t.line : Int)))
    (go_keep)
    (fail)
  all_goals
    go_wp2_with (fail)
    obtain ⟨f0, f1⟩ := HR3.out.read (.slice none 0 0) (.slice none 0 0)
    refine bodyPost_ret (v := .tuple #[.agg #[.slice none 0 0, .slice none 0 0], .int .i64 2, .int .i64 ((hdL r : Nat) : Int)]) (by rw [← HLN.out]; simp [results, Tryz.results17, go_sem, f0, f1]) rfl ?_
    exact HR3.out.drew.failn 2 (hdL r) HRR.out _ _
/-- D1, of the document's parser. -/
theorem rparse_any (s : ByteArray) (w : World) : Calls Tryz.prog 17 #[.string s] w (DocPost (docP s) w) := by
  by_cases h : 100000 < s.size
  · exact rparse_long s w h
  · cases hs : (scan s.data.toList 1).2 with
    | some ln => exact rparse_no s w (by omega) hs
    | none =>
      have hs2 := scan_none hs
      cases hp : parseT (scan s.data.toList 1).1 with
      | ok p r => exact rparse_ok s w (by omega) hs2 hp
      | bad r => exact rparse_bad s w (by omega) hs2 hp
      | deep r => exact rparse_deep s w (by omega) hs2 hp
      | out =>
        have h1 := parseT_ends (scan_endL _ _ _ _ (Nat.le_refl _) hs2)
        rw [hp] at h1
        exact absurd h1 id
end Go.Proofs.YtakijoblbmfadaaGreatDoor

/- The developers' parser: read, which recovers. -/
namespace Go.Proofs.YtakijoblbmfadaaGreatDoor
open Go.RowKit
theorem as_mis (v : Value) (xT : TypeId) (w : World) : (Instr.typeAssert (.iface 51 v) xT 51 true).run Tryz.prog w = .ok (.tuple #[v, .bool true]) w := by
  simp [Instr.typeAssert, run_underlying Tryz.underlying51]
abbrev miBox : Obj := .cells #[.int .i64 0, .int .i64 0] 51
set_option maxRecDepth 100000 in
theorem dcatch_idle (p q : Addr) (w : World) :
    CallsD Tryz.prog 31 #[.pointer (some p), .pointer (some q)] .returning w fun e u' w' => e = .returned (.tuple #[]) ∧ u' = .returning ∧ w' = w := by
  refine callsD_of_wpS Tryz.func31 rfl fun c₀ cs hu => ?_
  apply wpS_seq
  apply wpS_region
  simp [wpOpsS, go_sem, recoverD, hu, Tryz.ntmps31, Exit.thenS]
  refine wpS_of_wp ?_
  change Code.wp _ _ _ ⟨#[.pointer (some p), .pointer (some q), .nilIface, undef, undef, .nilIface, undef, undef, undef, undef, undef, undef, undef, undef, undef, undef, undef, undef], []⟩ _
  go_wp2
  cases c₀
  simp_all [bodyPostS, results, Tryz.results31]
theorem mis_fin {p q : Nat} {k l : Int} {w : World} (hp : w.heap[p]? = some pgBox) (hq : w.heap[q]? = some miBox) (hne : p ≠ q) :
    ((((nest2 (nest2 w p (.slice none 0 0) (.slice none 0 0)) q (.int .i64 k) (.int .i64 l)).alloc (.cells #[.int .i64 k, .int .i64 l] 51)).drew).heap[p]? = some pgBox) ∧
    ((((nest2 (nest2 w p (.slice none 0 0) (.slice none 0 0)) q (.int .i64 k) (.int .i64 l)).alloc (.cells #[.int .i64 k, .int .i64 l] 51)).drew).heap[q]? = some (.cells #[.int .i64 k, .int .i64 l] 51 (0, 0))) ∧
    w.heap.size ≤ (((nest2 (nest2 w p (.slice none 0 0) (.slice none 0 0)) q (.int .i64 k) (.int .i64 l)).alloc (.cells #[.int .i64 k, .int .i64 l] 51)).drew).heap.size ∧
    ∀ B, B ≤ p → B ≤ q → Below B w (((nest2 (nest2 w p (.slice none 0 0) (.slice none 0 0)) q (.int .i64 k) (.int .i64 l)).alloc (.cells #[.int .i64 k, .int .i64 l] 51)).drew) := by
  have hql := (Array.getElem?_eq_some_iff.1 hq).1
  have h1 : (nest2 w p (.slice none 0 0) (.slice none 0 0)).heap[q]? = some miBox := by
    rw [Below.heap_setCell _ _ _ _ (by show q ≠ p; exact fun h => hne h.symm), Below.heap_setCell _ _ _ _ (by show q ≠ p; exact fun h => hne h.symm)]; exact hq
  have h2 : (nest2 (nest2 w p (.slice none 0 0) (.slice none 0 0)) q (.int .i64 k) (.int .i64 l)).heap[p]? = some pgBox := by
    rw [Below.heap_setCell _ _ _ _ (by show p ≠ q; exact hne), Below.heap_setCell _ _ _ _ (by show p ≠ q; exact hne)]
    exact nest2_row hp _ _
  refine ⟨own_more h2 _, own_more (nest2_row h1 _ _) _, ?_, fun B hB1 hB2 => ((nest2_below hB2 (nest2_below hB1 (Below.refl _ _) _ _) _ _).more (by omega) _).drew⟩
  show _ ≤ (World.alloc _ _).heap.size
  rw [alloc_size]
  simp
set_option maxRecDepth 100000 in
theorem dcatch_mis (p q : Nat) (k l : Int) (older : List PanicEntry) (w : World) (hp : w.heap[p]? = some pgBox) (hq : w.heap[q]? = some miBox) (hne : p ≠ q) :
    CallsD Tryz.prog 31 #[.pointer (some ⟨p, 0, none⟩), .pointer (some ⟨q, 0, none⟩)] (.panicking ({ v := .iface 51 (.agg #[.int .i64 k, .int .i64 l]), recovered := false } :: older)) w fun e u' w' =>
      e = .returned (.tuple #[]) ∧ u' = .panicking ({ v := .iface 51 (.agg #[.int .i64 k, .int .i64 l]), recovered := true } :: older) ∧ w'.heap[p]? = some pgBox ∧ w'.heap[q]? = some (.cells #[.int .i64 k, .int .i64 l] 51 (0, 0)) ∧ w.heap.size ≤ w'.heap.size ∧ (∀ B, B ≤ p → B ≤ q → Below B w w') := by
  obtain ⟨⟨p0, p1⟩, pz⟩ := two_cells hp
  obtain ⟨⟨q0, q1⟩, qz⟩ := two_cells hq
  have hpl := (Array.getElem?_eq_some_iff.1 hp).1
  have hql := (Array.getElem?_eq_some_iff.1 hq).1
  have hnn : q ≠ p := fun h => hne h.symm
  have has := as_mis (.agg #[.int .i64 k, .int .i64 l])
  refine callsD_of_wpS Tryz.func31 rfl fun c₀ cs hu => ?_
  apply wpS_seq
  apply wpS_region
  simp [wpOpsS, go_sem, recoverD, hu, Tryz.ntmps31, Exit.thenS]
  refine wpS_of_wp ?_
  change Code.wp _ _ _ ⟨#[.pointer (some ⟨p, 0, none⟩), .pointer (some ⟨q, 0, none⟩), .iface 51 (.agg #[.int .i64 k, .int .i64 l]), undef, undef, .iface 51 (.agg #[.int .i64 k, .int .i64 l]), undef, undef, undef, undef, undef, undef, undef, undef, undef, undef, undef, undef], []⟩ _
  go_wp2
  go_region
  have hfin := mis_fin (k := k) (l := l) hp hq hne
  exact ⟨rfl, _, rfl, .tuple #[], by simp [results, Tryz.results31, go_sem], rfl, rfl, hfin⟩

end Go.Proofs.YtakijoblbmfadaaGreatDoor
