import Derived.Test.YtakijoblbmfadaaGreatDoorMgParDo
import Derived.Test.YtakijoblbmfadaaGreatDoorMgPrsPg
import Derived.Test.YtakijoblbmfadaaGreatDoorMgTreeRightP
set_option linter.unusedSimpArgs false
set_option linter.unusedVariables false
/- The developers' parser: read. -/
namespace Go.Proofs.YtakijoblbmfadaaGreatDoor
open Go.RowKit
theorem lv_new {w : World} {v : Value} {ts : List Tok} {B : Nat} (h : Toks w B v ts) (hE : EndL ts) (hl : ts.length ≤ 1000000) (hn : ∀ t ∈ ts, t.kind = 0 → numB t.text = true ∧ t.text.length ≤ 281474976710656) (hg : 6 < w.heap.size) (ht : Tab w) :
    ∃ g, Lv w.heap.size g ts (w.alloc (.cells #[v] 73)) := by
  rcases h.2 with ⟨rfl, h0⟩ | ⟨g, cap, cur, rfl, h1, h2, h3, h4, h5, h6⟩
  · exact absurd h0 (by have := hE.pos; omega)
  · have hglt : g < w.heap.size := (Array.getElem?_eq_some_iff.1 h2).1
    refine ⟨g, 0, cap, heap_alloc_new w _, by omega, by rw [alloc_size]; omega, fun j u hj => ?_, h3, hl, fun t ht h0 => ⟨(hn t ht h0).1, ?_⟩, hE, by rw [alloc_size]; omega, by omega, ht.same (Below.heap_alloc w _ _ hg)⟩
    · rw [Nat.zero_add, Lib.cell_of_heap ((Below.heap_alloc w _ g hglt).trans h2)]
      rw [← h6, List.getElem?_take] at hj
      split at hj
      · simpa using hj
      · cases hj
    · rw [Lib.size_eq]
      exact (hn t ht h0).2
theorem toks_more {w w' : World} {B : Nat} {v : Value} {ts : List Tok} (h : Toks w B v ts) (hb : Below w.heap.size w w') : Toks w' B v ts := own_keep h fun k hk => hb.block k (own_lt h k hk).1
theorem two_rows {W : World} {k : Nat} {x0 x1 y0 y1 a0 a1 b0 b1 : Value} {T S : TypeId} (h0 : W.heap[k]? = some (.cells #[a0, a1] T (0, 0))) (h1 : W.heap[k + 1]? = some (.cells #[b0, b1] S (0, 0))) :
    ((nest2 (nest2 W k x0 x1) (k + 1) y0 y1).cell? ⟨k, 0, none⟩ = some x0 ∧ (nest2 (nest2 W k x0 x1) (k + 1) y0 y1).cell? ⟨k, 1, none⟩ = some x1) ∧ ((nest2 (nest2 W k x0 x1) (k + 1) y0 y1).cell? ⟨k + 1, 0, none⟩ = some y0 ∧ (nest2 (nest2 W k x0 x1) (k + 1) y0 y1).cell? ⟨k + 1, 1, none⟩ = some y1) := by
  have e0 : (nest2 (nest2 W k x0 x1) (k + 1) y0 y1).heap[k]? = some (.cells #[x0, x1] T (0, 0)) := by
    rw [Below.heap_setCell _ _ _ _ (by show k ≠ k + 1; omega), Below.heap_setCell _ _ _ _ (by show k ≠ k + 1; omega)]
    exact nest2_row h0 _ _
  have e1 : (nest2 W k x0 x1).heap[k + 1]? = some (.cells #[b0, b1] S (0, 0)) := by
    rw [Below.heap_setCell _ _ _ _ (by show k + 1 ≠ k; omega), Below.heap_setCell _ _ _ _ (by show k + 1 ≠ k; omega)]
    exact h1
  exact ⟨(two_cells e0).1, (two_cells (nest2_row e1 _ _)).1⟩
theorem Fails.same {α : Type} {T : PR α} {k k' : Int} {r r' : List Tok} (h : Fails T k r) (g : Fails T k' r') : k' = k ∧ r' = r := by
  rcases h with ⟨rfl, rfl⟩ | ⟨rfl, rfl⟩
  · rcases g with ⟨h, rfl⟩ | ⟨h, _⟩
    · injection h with h; exact ⟨rfl, h.symm⟩
    · cases h
  · rcases g with ⟨h, _⟩ | ⟨h, rfl⟩
    · cases h
    · injection h with h; exact ⟨rfl, h.symm⟩
set_option maxRecDepth 100000 in
theorem dread_ok {w : World} {v : Value} {ts : List Tok} {B n : Nat} (h : Toks w B v ts) (hE : EndL ts) (hl : ts.length ≤ 1000000) (hn : ∀ t ∈ ts, t.kind = 0 → numB t.text = true ∧ t.text.length ≤ 281474976710656) (hg : 6 < w.heap.size) (ht : Tab w)
    {p : Pr} {r : List Tok} (hT : pPr n ⟨[], []⟩ ts = .ok p r) :
    Calls Tryz.prog 19 #[v] w fun e w' => ∃ v0 v1, e = .returned (.tuple #[.agg #[v0, v1], .agg #[.int .i64 0, .int .i64 0]]) ∧ FrG w.heap.size w' p (.agg #[v0, v1]) ∧ Below w.heap.size w w' := by
  have hmf : ∀ (fn : Fn) (first cap : Array Value) (w : World), (Instr.makeFunc fn first cap).run Tryz.prog w = .ok (.func fn first cap) w := fun _ _ _ _ => rfl
  obtain ⟨A0, cp0, rfl⟩ := toks_form h
  have hb2 : Below w.heap.size w ((w.alloc pgBox).alloc miBox) := ((Below.refl _ _).more (Nat.le_refl _) _).more (Nat.le_refl _) _
  have hz2 : ((w.alloc pgBox).alloc miBox).heap.size = w.heap.size + 1 + 1 := by rw [alloc_size, alloc_size]
  have hz3 : (((w.alloc pgBox).alloc miBox).alloc (.cells #[.slice A0 ts.length cp0] 73)).heap.size = w.heap.size + 1 + 1 + 1 := by rw [alloc_size, alloc_size, alloc_size]
  obtain ⟨g, hL⟩ := lv_new (toks_more h hb2) hE hl hn (by rw [hz2]; omega) (ht.same (hb2.block _ hg))
  rw [hz2] at hL
  have HL := Lib.hid hL
  have HR0 := Lib.hid (own_more (own_more (heap_alloc_new w pgBox) miBox) (.cells #[.slice A0 ts.length cp0] 73))
  have HR1 := Lib.hid (show (((w.alloc pgBox).alloc miBox).alloc (.cells #[.slice A0 ts.length cp0] 73)).heap[w.heap.size + 1]? = some miBox from own_more (by have h := heap_alloc_new (w.alloc pgBox) miBox; rw [alloc_size] at h; exact h) _)
  have HB2 := Lib.hid (hb2.more (Nat.le_refl _) (.cells #[.slice A0 ts.length cp0] 73))
  have HN := Lib.hid (show Ends (pPr n ⟨[], []⟩ ts) by rw [hT]; trivial)
  have HT := Lib.hid hT
  clear h hE hn ht hT hL
  go_enter_defers Tryz.func19, Tryz.ntmps19
  go_wp2_with (first
  | (go_at_call 32; (with_reducible refine (dprog_any HL.out HN.out).mono ?_); rintro e w1 (⟨a, r1, v, hx, rfl, hL, hO, hF⟩ | ⟨k, r1, hx, rfl, hO⟩)
     rotate_left
     exact absurd hx (by rw [HT.out]; rintro (⟨h, _⟩ | ⟨h, _⟩) <;> cases h)
     obtain rfl : a = p := by rw [HT.out] at hx; injection hx with h1 _; exact h1.symm
     obtain ⟨v0, v1, rfl, hF1, hF2⟩ := hF
     obtain ⟨B0, e0, rfl, _⟩ := hF1.form
     obtain ⟨B1, e1, rfl, _⟩ := hF2.form
     have HF := Lib.hid (show FrG (w.heap.size + 1 + 1 + 1) w1 a (.agg #[.slice B0 a.arrays.length e0, .slice B1 a.funcs.length e1]) from hz3 ▸ ⟨_, _, rfl, hF1, hF2⟩)
     have hw0 := own_next hO (k := w.heap.size) (by rw [hz3]; omega) (by omega) HR0.out
     have hw1 := own_next hO (k := w.heap.size + 1) (by rw [hz3]; omega) (by omega) HR1.out
     have HW0 := Lib.hid hw0
     have HW1 := Lib.hid hw1
     have HBE := Lib.hid (HB2.out.trans (off_below hO (C := w.heap.size) (by omega) (by omega)))
     obtain ⟨⟨c0, c1⟩, fz⟩ := two_cells hw0
     obtain ⟨⟨d0, d1⟩, gz⟩ := two_cells hw1
     clear hx hL hO hF1 hF2 hw0 hw1))
  obtain ⟨⟨f0, f1⟩, g0, g1⟩ := two_rows (x0 := .slice B0 a.arrays.length e0) (x1 := .slice B1 a.funcs.length e1) (y0 := .int .i64 0) (y1 := .int .i64 0) HW0.out HW1.out
  refine leaves_cons (f := 31) (args := #[.pointer (some ⟨w.heap.size, 0, none⟩), .pointer (some ⟨w.heap.size + 1, 0, none⟩)]) (by simp) (by simp [go_sem]) ?_
  refine (dcatch_idle ⟨w.heap.size, 0, none⟩ ⟨w.heap.size + 1, 0, none⟩ _).mono ?_
  rintro e u' w'' ⟨rfl, rfl, rfl⟩
  simp [Leaves, settle, results, Tryz.results19, go_sem, f0, f1, g0, g1]
  have hsz : w.heap.size + 1 < w1.heap.size := (Array.getElem?_eq_some_iff.1 HW1.out).1
  exact ⟨_, _, ⟨rfl, rfl⟩, (HF.out.keep (Keep.nest2 (g := w.heap.size) (by omega) _ _) (Nat.le_refl _)).keep (Keep.nest2 (g := w.heap.size + 1) (by omega) _ _) (by omega), nest2_below (by omega) (nest2_below (by omega) HBE.out _ _) _ _⟩
set_option maxRecDepth 100000 in
theorem dread_no {w : World} {v : Value} {ts : List Tok} {B n : Nat} (h : Toks w B v ts) (hE : EndL ts) (hl : ts.length ≤ 1000000) (hn : ∀ t ∈ ts, t.kind = 0 → numB t.text = true ∧ t.text.length ≤ 281474976710656) (hg : 6 < w.heap.size) (ht : Tab w)
    {k : Int} {r : List Tok} (hT : Fails (pPr n ⟨[], []⟩ ts) k r) :
    Calls Tryz.prog 19 #[v] w fun e w' => e = .returned (.tuple #[.agg #[.slice none 0 0, .slice none 0 0], .agg #[.int .i64 k, .int .i64 (hdL r : Int)]]) ∧ Below w.heap.size w w' := by
  have hmf : ∀ (fn : Fn) (first cap : Array Value) (w : World), (Instr.makeFunc fn first cap).run Tryz.prog w = .ok (.func fn first cap) w := fun _ _ _ _ => rfl
  obtain ⟨A0, cp0, rfl⟩ := toks_form h
  have hb2 : Below w.heap.size w ((w.alloc pgBox).alloc miBox) := ((Below.refl _ _).more (Nat.le_refl _) _).more (Nat.le_refl _) _
  have hz2 : ((w.alloc pgBox).alloc miBox).heap.size = w.heap.size + 1 + 1 := by rw [alloc_size, alloc_size]
  have hz3 : (((w.alloc pgBox).alloc miBox).alloc (.cells #[.slice A0 ts.length cp0] 73)).heap.size = w.heap.size + 1 + 1 + 1 := by rw [alloc_size, alloc_size, alloc_size]
  obtain ⟨g, hL⟩ := lv_new (toks_more h hb2) hE hl hn (by rw [hz2]; omega) (ht.same (hb2.block _ hg))
  rw [hz2] at hL
  have HL := Lib.hid hL
  have HR0 := Lib.hid (own_more (own_more (heap_alloc_new w pgBox) miBox) (.cells #[.slice A0 ts.length cp0] 73))
  have HR1 := Lib.hid (show (((w.alloc pgBox).alloc miBox).alloc (.cells #[.slice A0 ts.length cp0] 73)).heap[w.heap.size + 1]? = some miBox from own_more (by have h := heap_alloc_new (w.alloc pgBox) miBox; rw [alloc_size] at h; exact h) _)
  have HB2 := Lib.hid (hb2.more (Nat.le_refl _) (.cells #[.slice A0 ts.length cp0] 73))
  have HN := Lib.hid (show Ends (pPr n ⟨[], []⟩ ts) by rcases hT with ⟨h, _⟩ | ⟨h, _⟩ <;> (rw [h]; trivial))
  have HT := Lib.hid hT
  clear h hE hn ht hT hL
  go_enter_defers Tryz.func19, Tryz.ntmps19
  go_wp2_with (first
  | (go_at_call 32; (with_reducible refine (dprog_any HL.out HN.out).mono ?_); rintro e w1 (⟨a, r1, v, hx, rfl, hL, hO, hF⟩ | ⟨k1, r1, hx, rfl, hO⟩)
     exact absurd HT.out (by rw [show pPr n ⟨[], []⟩ ts = .ok a r1 from hx]; rintro (⟨h, _⟩ | ⟨h, _⟩) <;> cases h)
     obtain ⟨rfl, rfl⟩ := HT.out.same hx
     have hw0 := own_next hO (k := w.heap.size) (by rw [hz3]; omega) (by omega) HR0.out
     have hw1 := own_next hO (k := w.heap.size + 1) (by rw [hz3]; omega) (by omega) HR1.out
     have HBE := HB2.out.trans (off_below hO (C := w.heap.size) (by omega) (by omega))
     refine leaves_cons (f := 31) (args := #[.pointer (some ⟨w.heap.size, 0, none⟩), .pointer (some ⟨w.heap.size + 1, 0, none⟩)]) (by simp) (by simp [go_sem]) ?_
     refine (dcatch_mis w.heap.size (w.heap.size + 1) _ _ [] _ hw0 hw1 (by omega)).mono ?_
     rintro e u' w'' ⟨rfl, rfl, hp, hq, hs, hB⟩
     obtain ⟨⟨f0, f1⟩, _⟩ := two_cells hp
     obtain ⟨⟨g0, g1⟩, _⟩ := two_cells hq
     simp [Leaves, settle, results, Tryz.results19, go_sem, f0, f1, g0, g1]
     exact HBE.trans (hB w.heap.size (Nat.le_refl _) (by omega))))
end Go.Proofs.YtakijoblbmfadaaGreatDoor

/- The developers' parser: what it answers of a text. -/
namespace Go.Proofs.YtakijoblbmfadaaGreatDoor
open Go.RowKit
/-- What Parse reads of package-level variables. -/
structure PT (w : World) : Prop where
  tok : TokTab w.heap.size w
  tree : TreeTab w.heap.size w
theorem PT.below {w w' : World} (h : PT w) (hb : Below w.heap.size w w') : PT w' := by
  have h1 := h.tok.below hb
  have h2 := hb.size
  exact ⟨⟨⟨Nat.lt_of_lt_of_le h1.lt.1 h2, Nat.lt_of_lt_of_le h1.lt.2.1 h2, Nat.lt_of_lt_of_le h1.lt.2.2 h2⟩, h1.syms, h1.esyn, h1.erng⟩, (h.tree.below hb).mono h2⟩
theorem PT.alloc {w : World} (h : PT w) (o : Obj) : PT (w.alloc o) := h.below ((Below.refl _ _).more (Nat.le_refl _) o)
theorem dtok_no (s : ByteArray) (w : World) (h : s.size ≤ 100000) {ln : Nat} (hs : (scan s.data.toList 1).2 = some ln) (ht : TokTab w.heap.size w) : Calls Tryz.prog 18 #[.string s] w fun e w' => e = .returned (.tuple #[.slice none 0 0, .int .i64 20, .int .i64 (ln : Int)]) ∧ Below w.heap.size w w' :=
  (tokens_any s w h ht).mono fun e w' hp => by
    unfold TokensPost at hp
    rw [hs] at hp
    exact ⟨hp.2, hp.1⟩
theorem dtok_yes (s : ByteArray) (w : World) (h : s.size ≤ 100000) {ts : List Tok} (hs : scan s.data.toList 1 = (ts, none)) (ht : TokTab w.heap.size w) : Calls Tryz.prog 18 #[.string s] w fun e w' => ∃ v, e = .returned (.tuple #[v, .int .i64 0, .int .i64 0]) ∧ Toks w' w.heap.size v ts ∧ Below w.heap.size w w' :=
  (tokens_any s w h ht).mono fun e w' hp => by
    unfold TokensPost at hp
    rw [hs] at hp
    obtain ⟨h1, v, h2, h3⟩ := hp
    exact ⟨v, h2, h3, h1⟩
theorem toks_facts {s : ByteArray} {ts : List Tok} (hs : scan s.data.toList 1 = (ts, none)) (hl : s.size ≤ 100000) : EndL ts ∧ ts.length ≤ 1000000 ∧ ∀ t ∈ ts, t.kind = 0 → numB t.text = true ∧ t.text.length ≤ 281474976710656 := by
  have hz : s.size = s.data.toList.length := rfl
  obtain ⟨h1, h2⟩ := scan_num _ _ _ _ (Nat.le_refl _) hs
  exact ⟨scan_endL _ _ _ _ (Nat.le_refl _) hs, by omega, fun t ht h0 => ⟨(h1 t ht h0).1, by have := (h1 t ht h0).2; omega⟩⟩
theorem dread_go {s : ByteArray} {w : World} {v : Value} {ts : List Tok} {B : Nat} (h : Toks w B v ts) (hs : scan s.data.toList 1 = (ts, none)) (hl : s.size ≤ 100000) (ht : PT w) {p : Pr} {r : List Tok} (hT : parseT ts = .ok p r) :
    Calls Tryz.prog 19 #[v] w fun e w' => ∃ v0 v1, e = .returned (.tuple #[.agg #[v0, v1], .agg #[.int .i64 0, .int .i64 0]]) ∧ FrG w.heap.size w' p (.agg #[v0, v1]) ∧ Below w.heap.size w w' := by
  obtain ⟨h1, h2, h3⟩ := toks_facts hs hl
  exact dread_ok h h1 h2 h3 ht.tree.lt ht.tree.rows hT
theorem dread_bad {s : ByteArray} {w : World} {v : Value} {ts : List Tok} {B : Nat} (h : Toks w B v ts) (hs : scan s.data.toList 1 = (ts, none)) (hl : s.size ≤ 100000) (ht : PT w) {k : Int} {r : List Tok} (hT : Fails (parseT ts) k r) :
    Calls Tryz.prog 19 #[v] w fun e w' => e = .returned (.tuple #[.agg #[.slice none 0 0, .slice none 0 0], .agg #[.int .i64 k, .int .i64 (hdL r : Int)]]) ∧ Below w.heap.size w w' := by
  obtain ⟨h1, h2, h3⟩ := toks_facts hs hl
  exact dread_no h h1 h2 h3 ht.tree.lt ht.tree.rows hT
theorem dright_go {L : Nat} {W : World} {p : Pr} {v0 v1 : Value} {c : Bool} {o o2 : Obj} (h : FrG L W p (.agg #[v0, v1])) (hc : prOK p = c) (ht : PT W) : Calls Tryz.prog 20 #[.agg #[v0, v1]] ((W.alloc o).alloc o2) fun e w' => e = .returned (.bool c) ∧ Below ((W.alloc o).alloc o2).heap.size ((W.alloc o).alloc o2) w' := by
  obtain ⟨u0, u1, hv, h0, h1⟩ := (h.keep (Keep.of_below (L := L) (((Below.refl _ _).more (Nat.le_refl _) o).more (Nat.le_refl _) o2)) (Nat.le_refl _)).tree
  simp only [Value.agg.injEq, Array.mk.injEq, List.cons.injEq, and_true] at hv
  obtain ⟨rfl, rfl⟩ := hv
  exact right_any _ p c hc _ _ _ ((ht.alloc o).alloc o2).tree (Nat.le_refl _) h0 h1
set_option maxRecDepth 100000 in
theorem dparse_long (s : ByteArray) (w : World) (h : 100000 < s.size) : Calls Tryz.prog 14 #[.string s] w (DocPost (docP s) w) := by
  rw [docP_long h]
  have HH := Lib.hid h
  have HR := Lib.hid (Rb.start w)
  clear h
  obtain ⟨⟨c0, c1⟩, fz⟩ := HR.out.own
  go_enter Tryz.func14, Tryz.ntmps14
  go_wp2_with (go_at_call 18; (with_reducible refine (tokens_long s _ HH.out).mono ?_); rintro e w1 ⟨rfl, rfl⟩)
  refine bodyPost_ret (v := .tuple #[.agg #[.slice none 0 0, .slice none 0 0], .int .i64 2, .int .i64 ((0 : Nat) : Int)]) (by simp [results, Tryz.results14, go_sem, c0, c1]) rfl ?_
  exact HR.out.fail 2 0 rfl
set_option maxRecDepth 100000 in
theorem dparse_no (s : ByteArray) (w : World) (h : s.size ≤ 100000) {ln : Nat} (hs : (scan s.data.toList 1).2 = some ln) (ht : PT w) : Calls Tryz.prog 14 #[.string s] w (DocPost (docP s) w) := by
  rw [docP_no h hs]
  have HH := Lib.hid h
  have HS := Lib.hid hs
  have HR := Lib.hid (Rb.start w)
  have HPT := Lib.hid (ht.alloc pgBox)
  clear h hs ht
  go_enter Tryz.func14, Tryz.ntmps14
  go_wp2_with (go_at_call 18; (with_reducible refine (dtok_no s _ HH.out HS.out HPT.out.tok).mono ?_); rintro e w1 ⟨rfl, hb⟩
               replace HR := Lib.hid (HR.out.below hb)
               obtain ⟨⟨c0, c1⟩, fz⟩ := HR.out.own
               clear hb)
  obtain ⟨f0, f1⟩ := HR.out.read (.slice none 0 0) (.slice none 0 0)
  refine bodyPost_ret (v := .tuple #[.agg #[.slice none 0 0, .slice none 0 0], .int .i64 20, .int .i64 (ln : Int)]) (by simp [results, Tryz.results14, go_sem, f0, f1]) rfl ?_
  exact HR.out.failn 20 ln rfl _ _
set_option maxHeartbeats 1600000 in
set_option maxRecDepth 100000 in
theorem dparse_ok (s : ByteArray) (w : World) (h : s.size ≤ 100000) {ts : List Tok} (hs : scan s.data.toList 1 = (ts, none)) {p : Pr} {r : List Tok} (hp : parseT ts = .ok p r) (ht : PT w) : Calls Tryz.prog 14 #[.string s] w (DocPost (docP s) w) := by
  obtain ⟨c, hc⟩ : ∃ c, prOK p = c := ⟨_, rfl⟩
  have hR : docP s = if c = true then (p, 0, 0) else (pr0, 2, 0) := by
    rw [docP_yes h hs]
    unfold docT
    rw [hp, ← hc]
  have HP := Lib.hid hp
  have HC := Lib.hid hc
  have HH := Lib.hid h
  have HS := Lib.hid hs
  have HR := Lib.hid (Rb.start w)
  have HPT := Lib.hid (ht.alloc pgBox)
  have HRR := Lib.hid hR
  clear h hs hp hc hR ht
  cases c
  case false =>
    go_enter Tryz.func14, Tryz.ntmps14
    go_wp2_with (first
      | (go_at_call 18; (with_reducible refine (dtok_yes s _ HH.out HS.out HPT.out.tok).mono ?_); rintro e w1 ⟨v, rfl, hT, hb⟩
         obtain ⟨A0, cp0, rfl⟩ := toks_form hT
         have HT := Lib.hid hT
         replace HR := Lib.hid (HR.out.below hb)
         replace HPT := Lib.hid (HPT.out.below hb)
         clear hb hT)
      | (go_at_call 19; (with_reducible refine (dread_go HT.out HS.out HH.out HPT.out HP.out).mono ?_); rintro e w2 ⟨v0, v1, rfl, hG, hb⟩
         have HG := Lib.hid hG
         obtain ⟨u0, u1, hv, g0, g1⟩ := hG
         simp only [Value.agg.injEq, Array.mk.injEq, List.cons.injEq, and_true] at hv
         obtain ⟨rfl, rfl⟩ := hv
         obtain ⟨B0, q0, rfl, _⟩ := g0.form
         obtain ⟨B1, q1, rfl, _⟩ := g1.form
         have hw1 := HR.out.lt
         replace HR := Lib.hid (HR.out.below hb)
         replace HPT := Lib.hid (HPT.out.below hb)
         have hw2 := HR.out.lt
         have hz12 := hb.size
         clear hb g0 g1)
      | (go_at_call 20; (with_reducible refine (dright_go HG.out HC.out HPT.out).mono ?_); rintro e w4 ⟨rfl, hb⟩
         have HG4 := Lib.hid (HG.out.keep ((Keep.of_below (((Below.refl _ _).more (Nat.le_refl _) _).more (Nat.le_refl _) _)).trans (Keep.of_below (hb.mono (by rw [alloc_size, alloc_size]; omega)))) (Nat.le_refl _))
         have HR4 := Lib.hid (((HR.out.alloc _).alloc _).below hb)
         obtain ⟨⟨o0, o1⟩, oz⟩ := two_cells ((hb.block _ (by simp; omega)).trans (own_more (heap_alloc_new w2 (.cells #[.slice B0 p.arrays.length q0, .slice B1 p.funcs.length q1] 35)) (.cells #[.int .i64 0, .int .i64 0] 51)))
         obtain ⟨⟨c0, c1⟩, fz⟩ := HR4.out.own
         clear hb))
    obtain ⟨f0, f1⟩ := HR4.out.read (.slice none 0 0) (.slice none 0 0)
    refine bodyPost_ret (v := .tuple #[.agg #[.slice none 0 0, .slice none 0 0], .int .i64 2, .int .i64 ((0 : Nat) : Int)]) (by simp [results, Tryz.results14, go_sem, f0, f1]) rfl ?_
    exact HR4.out.failn 2 0 (by rw [HRR.out]; rfl) _ _
  case true =>
    go_enter Tryz.func14, Tryz.ntmps14
    go_wp2_with (first
      | (go_at_call 18; (with_reducible refine (dtok_yes s _ HH.out HS.out HPT.out.tok).mono ?_); rintro e w1 ⟨v, rfl, hT, hb⟩
         obtain ⟨A0, cp0, rfl⟩ := toks_form hT
         have HT := Lib.hid hT
         replace HR := Lib.hid (HR.out.below hb)
         replace HPT := Lib.hid (HPT.out.below hb)
         clear hb hT)
      | (go_at_call 19; (with_reducible refine (dread_go HT.out HS.out HH.out HPT.out HP.out).mono ?_); rintro e w2 ⟨v0, v1, rfl, hG, hb⟩
         have HG := Lib.hid hG
         obtain ⟨u0, u1, hv, g0, g1⟩ := hG
         simp only [Value.agg.injEq, Array.mk.injEq, List.cons.injEq, and_true] at hv
         obtain ⟨rfl, rfl⟩ := hv
         obtain ⟨B0, q0, rfl, _⟩ := g0.form
         obtain ⟨B1, q1, rfl, _⟩ := g1.form
         have hw1 := HR.out.lt
         replace HR := Lib.hid (HR.out.below hb)
         replace HPT := Lib.hid (HPT.out.below hb)
         have hw2 := HR.out.lt
         have hz12 := hb.size
         clear hb g0 g1)
      | (go_at_call 20; (with_reducible refine (dright_go HG.out HC.out HPT.out).mono ?_); rintro e w4 ⟨rfl, hb⟩
         have HG4 := Lib.hid (HG.out.keep ((Keep.of_below (((Below.refl _ _).more (Nat.le_refl _) _).more (Nat.le_refl _) _)).trans (Keep.of_below (hb.mono (by rw [alloc_size, alloc_size]; omega)))) (Nat.le_refl _))
         have HR4 := Lib.hid (((HR.out.alloc _).alloc _).below hb)
         obtain ⟨⟨o0, o1⟩, oz⟩ := two_cells ((hb.block _ (by simp; omega)).trans (own_more (heap_alloc_new w2 (.cells #[.slice B0 p.arrays.length q0, .slice B1 p.funcs.length q1] 35)) (.cells #[.int .i64 0, .int .i64 0] 51)))
         obtain ⟨⟨c0, c1⟩, fz⟩ := HR4.out.own
         clear hb))
    obtain ⟨f0, f1⟩ := HR4.out.read (.slice B0 p.arrays.length q0) (.slice B1 p.funcs.length q1)
    refine bodyPost_ret (v := .tuple #[.agg #[.slice B0 p.arrays.length q0, .slice B1 p.funcs.length q1], .int .i64 0, .int .i64 ((0 : Nat) : Int)]) (by simp [results, Tryz.results14, go_sem, f0, f1]) rfl ?_
    exact HR4.out.give (by rw [HRR.out]; rfl) HG4.out (by omega)
set_option maxHeartbeats 1600000 in
set_option maxRecDepth 100000 in
theorem dparse_fail (s : ByteArray) (w : World) (h : s.size ≤ 100000) {ts : List Tok} (hs : scan s.data.toList 1 = (ts, none)) {k : Int} {r : List Tok} (hp : Fails (parseT ts) k r) (ht : PT w) : Calls Tryz.prog 14 #[.string s] w (DocPost (docP s) w) := by
  have hR : docP s = (pr0, k, hdL r) := by
    rw [docP_yes h hs]
    unfold docT
    rcases hp with ⟨hp, rfl⟩ | ⟨hp, rfl⟩ <;> rw [hp]
  have hk0 : (k == 0) = false := by rcases hp with ⟨_, rfl⟩ | ⟨_, rfl⟩ <;> decide
  have hk1 : ¬ k = 0 := by simpa using hk0
  have HP := Lib.hid hp
  have HH := Lib.hid h
  have HS := Lib.hid hs
  have HR := Lib.hid (Rb.start w)
  have HPT := Lib.hid (ht.alloc pgBox)
  obtain ⟨ln, hln⟩ : ∃ ln : Nat, ln = hdL r := ⟨_, rfl⟩
  have HLN := Lib.hid hln
  have HRR := Lib.hid (show docP s = (pr0, k, ln) by rw [hR, hln])
  clear h hs hp hR ht hln
  go_enter Tryz.func14, Tryz.ntmps14
  go_wp2_with (first
    | (go_at_call 18; (with_reducible refine (dtok_yes s _ HH.out HS.out HPT.out.tok).mono ?_); rintro e w1 ⟨v, rfl, hT, hb⟩
       obtain ⟨A0, cp0, rfl⟩ := toks_form hT
       have HT := Lib.hid hT
       replace HR := Lib.hid (HR.out.below hb)
       replace HPT := Lib.hid (HPT.out.below hb)
       clear hb hT)
    | (go_at_call 19; (with_reducible refine (dread_bad HT.out HS.out HH.out HPT.out HP.out).mono ?_); rintro e w2 ⟨rfl, hb⟩
       rw [← HLN.out]
       have hw1 := HR.out.lt
       replace HR := Lib.hid (HR.out.below hb)
       have hw2 := HR.out.lt
       have hz12 := hb.size
       obtain ⟨⟨c0, c1⟩, fz⟩ := HR.out.own
       clear hb))
  go_region
  all_goals
    go_wp2_with (fail)
    obtain ⟨⟨f0, f1⟩, _⟩ := two_cells (show ((((nest2 w2 w.heap.size (.slice none 0 0) (.slice none 0 0)).alloc (.cells #[.slice none 0 0, .slice none 0 0] 35)).alloc (.cells #[.int .i64 k, .int .i64 (ln : Int)] 51)).drew).heap[w.heap.size]? = _ from own_more (own_more (nest2_row HR.out.2 (.slice none 0 0) (.slice none 0 0)) _) _)
    refine bodyPost_ret (v := .tuple #[.agg #[.slice none 0 0, .slice none 0 0], .int .i64 k, .int .i64 (ln : Int)]) (by simp [results, Tryz.results14, go_sem, f0, f1]) rfl ?_
    rw [HRR.out]
    exact ⟨(((HR.out.nest _ _).more (Nat.le_refl _) _).more (Nat.le_refl _) _).drew, _, _, rfl, slA_nil _ _, slF_nil _ _⟩
/-- Parse answers as the document says. -/
theorem dparse_any (s : ByteArray) (w : World) (ht : PT w) : Calls Tryz.prog 14 #[.string s] w (DocPost (docP s) w) := by
  by_cases h : 100000 < s.size
  · exact dparse_long s w h
  · have h1 : s.size ≤ 100000 := by omega
    cases hs : (scan s.data.toList 1).2 with
    | some ln => exact dparse_no s w h1 hs ht
    | none =>
      have hs2 := scan_none hs
      cases hp : parseT (scan s.data.toList 1).1 with
      | ok p r => exact dparse_ok s w h1 hs2 hp ht
      | bad r => exact dparse_fail s w h1 hs2 (.inl ⟨hp, rfl⟩) ht
      | deep r => exact dparse_fail s w h1 hs2 (.inr ⟨hp, rfl⟩) ht
      | out => exact absurd (parseT_ends (scan_endL _ _ _ _ (Nat.le_refl _) hs2)) (by rw [hp]; exact id)
end Go.Proofs.YtakijoblbmfadaaGreatDoor
