import Derived.Test.YtakijoblbmfadaaGreatDoorAgTreeLeaf
import Derived.Lib.BufferMore
import Derived.Test.YtakijoblbmfadaaGreatDoorAgTokKind
import Derived.StillTailTactics
import Derived.Deep.RegionHeld3
import Derived.Deep.RegionLaw
import Derived.Deep.QuietTactic
import Derived.BigQuiet
import Derived.Laws.OwnMore
set_option linter.unusedSimpArgs false
set_option linter.unusedVariables false
/- How single values that are expressions, and slices of few, come to lie in memory. -/
namespace Go.Proofs.YtakijoblbmfadaaGreatDoor
open Go.RowKit
/-- A value that is an expression. -/
def ExV (B : Nat) (w : World) (e : Ex) (x : Value) : Prop := ∃ v, x = .agg #[.int .i64 e.kind, .int .i64 e.op, .int .i64 e.n, .string e.name, v] ∧ i64R e.n ∧ SlE B w v e.args
theorem ExV.below {B B' : Nat} {w w' : World} {e : Ex} {x : Value} (h : ExV B w e x) (hb : Below B w w') (hB : B ≤ B') : ExV B' w' e x := by
  obtain ⟨v, hx, hn, hs⟩ := h
  exact ⟨v, hx, hn, hs.below hb hB⟩
/-! ### in memory -/
theorem slE_nil (B : Nat) (w : World) : SlE B w (.slice none 0 0) [] := ⟨none, 0, rfl, Nat.zero_le _, fun h => absurd h (by simp)⟩
theorem slS_nil (B : Nat) (w : World) : SlS B w (.slice none 0 0) [] := ⟨none, 0, rfl, Nat.zero_le _, fun h => absurd h (by simp)⟩
theorem slA_nil (B : Nat) (w : World) : SlA B w (.slice none 0 0) [] := ⟨none, 0, rfl, Nat.zero_le _, fun h => absurd h (by simp)⟩
theorem cellB_of {w : World} {b : Nat} {cs : Array Value} {T : TypeId} {fr : Nat × Nat} {B : Nat} (hb : w.heap[b]? = some (.cells cs T fr)) (hB : b < B) (j : Nat) (u : Value) (hu : cs[j]? = some u) : CellB B w b j u := ⟨hB, (Lib.cell_of_heap hb j).trans hu⟩
theorem rdE_at {w : World} {b B : Nat} {cs : Array Value} {T : TypeId} {fr : Nat × Nat} (hb : w.heap[b]? = some (.cells cs T fr)) (hB : b < B) (o : Nat) {k op n : Int} {name : ByteArray} {args : List Ex} {v : Value} (hn : i64R n) (hs : SlE B w v args)
    (h0 : cs[o]? = some (.int .i64 k)) (h1 : cs[o + 1]? = some (.int .i64 op)) (h2 : cs[o + 2]? = some (.int .i64 n)) (h3 : cs[o + 3]? = some (.string name)) (h4 : cs[o + 4]? = some v) : RdE B w (.mk k op n name args) b o := by
  rw [RdE]
  exact ⟨cellB_of hb hB _ _ h0, cellB_of hb hB _ _ h1, cellB_of hb hB _ _ h2, cellB_of hb hB _ _ h3, hn, v, cellB_of hb hB _ _ h4, hs⟩
/-- A slice of one expression, that lies in a row. -/
theorem slE_at1 {w : World} {b B : Nat} {k op n : Int} {name : ByteArray} {args : List Ex} {v : Value} {T : TypeId} {fr : Nat × Nat} (hb : w.heap[b]? = some (.cells #[.int .i64 k, .int .i64 op, .int .i64 n, .string name, v] T fr)) (hB : b < B) (hn : i64R n) (hs : SlE B w v args) :
    SlE B w (.slice (some ⟨b, 0, none⟩) 1 1) [.mk k op n name args] := by
  refine ⟨_, 1, rfl, by simp, fun _ => ⟨b, 0, rfl, ?_⟩⟩
  rw [RdEs, RdEs]
  exact ⟨rdE_at hb hB 0 hn hs rfl rfl rfl rfl rfl, trivial⟩
/-- A slice of two. -/
theorem slE_at2 {w : World} {b B : Nat} {k op n k' op' n' : Int} {name name' : ByteArray} {args args' : List Ex} {v v' : Value} {T : TypeId} {fr : Nat × Nat}
    (hb : w.heap[b]? = some (.cells #[.int .i64 k, .int .i64 op, .int .i64 n, .string name, v, .int .i64 k', .int .i64 op', .int .i64 n', .string name', v'] T fr)) (hB : b < B) (hn : i64R n) (hs : SlE B w v args) (hn' : i64R n') (hs' : SlE B w v' args') :
    SlE B w (.slice (some ⟨b, 0, none⟩) 2 2) [.mk k op n name args, .mk k' op' n' name' args'] := by
  refine ⟨_, 2, rfl, by simp, fun _ => ⟨b, 0, rfl, ?_⟩⟩
  rw [RdEs, RdEs, RdEs]
  exact ⟨rdE_at hb hB 0 hn hs rfl rfl rfl rfl rfl, rdE_at hb hB 5 hn' hs' rfl rfl rfl rfl rfl, trivial⟩
theorem alloc_size (w : World) (o : Obj) : (w.alloc o).heap.size = w.heap.size + 1 := by simp
/-- What is left alone but for one block. -/
def Kept (b : Nat) (w w' : World) : Prop := w.heap.size ≤ w'.heap.size ∧ ∀ g, g < w.heap.size → g ≠ b → w'.heap[g]? = w.heap[g]?
theorem Kept.refl (b : Nat) (w : World) : Kept b w w := ⟨Nat.le_refl _, fun _ _ _ => rfl⟩
theorem Kept.trans {b : Nat} {w w' w2 : World} (h : Kept b w w') (k : Kept b w' w2) : Kept b w w2 := ⟨Nat.le_trans h.1 k.1, fun g hg hn => (k.2 g (Nat.lt_of_lt_of_le hg h.1) hn).trans (h.2 g hg hn)⟩
theorem Kept.alloc (b : Nat) (w : World) (o : Obj) : Kept b w (w.alloc o) := ⟨by rw [alloc_size]; omega, fun g hg _ => Below.heap_alloc w o g hg⟩
theorem setCell_size (w : World) (a : Addr) (u : Value) : (w.setCell a u).heap.size = w.heap.size := by simp
theorem Kept.set (b j : Nat) (w : World) (u : Value) : Kept b w (w.setCell ⟨b, j, none⟩ u) := ⟨by rw [setCell_size]; omega, fun g hg hn => Below.heap_setCell w _ u g hn⟩
/-- An expression's cells are written anew. -/
def writ (w : World) (b : Nat) (c0 c1 c2 c3 c4 : Value) : World := ((((w.setCell ⟨b, 0, none⟩ c0).setCell ⟨b, 1, none⟩ c1).setCell ⟨b, 2, none⟩ c2).setCell ⟨b, 3, none⟩ c3).setCell ⟨b, 4, none⟩ c4
theorem writ_size (w : World) (b : Nat) (c0 c1 c2 c3 c4 : Value) : (writ w b c0 c1 c2 c3 c4).heap.size = w.heap.size := by simp [writ]
theorem writ_row {w : World} {b : Nat} {d0 d1 d2 d3 d4 : Value} {T : TypeId} {fr : Nat × Nat} (hb : w.heap[b]? = some (.cells #[d0, d1, d2, d3, d4] T fr)) (c0 c1 c2 c3 c4 : Value) : (writ w b c0 c1 c2 c3 c4).heap[b]? = some (.cells #[c0, c1, c2, c3, c4] T fr) :=
  Lib.heap_setCell_same (Lib.heap_setCell_same (Lib.heap_setCell_same (Lib.heap_setCell_same (Lib.heap_setCell_same hb c0) c1) c2) c3) c4
theorem writ_below {B b : Nat} (hB : B ≤ b) {a w : World} (h : Below B a w) (c0 c1 c2 c3 c4 : Value) : Below B a (writ w b c0 c1 c2 c3 c4) :=
  ((((h.setCell (p := ⟨b, 0, none⟩) hB c0).setCell (p := ⟨b, 1, none⟩) hB c1).setCell (p := ⟨b, 2, none⟩) hB c2).setCell (p := ⟨b, 3, none⟩) hB c3).setCell (p := ⟨b, 4, none⟩) hB c4
end Go.Proofs.YtakijoblbmfadaaGreatDoor

/- The contracts of the scanner of package token. -/
namespace Go.Proofs.YtakijoblbmfadaaGreatDoor
open Go.RowKit
/-- Block g is just these cells, none frozen. -/
def Is (w : World) (g : Nat) (t : TypeId) (cs : Array Value) : Prop := w.heap[g]? = some (.cells cs t (0, 0))
theorem Is.cell {w : World} {g : Nat} {t : TypeId} {cs : Array Value} (h : Is w g t cs) (i : Nat) : w.cell? ⟨g, i, none⟩ = cs[i]? := cell_of_row w g i cs t (0, 0) h
theorem Is.frozen {w : World} {g : Nat} {t : TypeId} {cs : Array Value} (h : Is w g t cs) (i : Nat) : w.frozen? ⟨g, i, none⟩ = false := by
  unfold Is at h
  simp [World.frozen?, h]
theorem Is.lt {w : World} {g : Nat} {t : TypeId} {cs : Array Value} (h : Is w g t cs) : g < w.heap.size := (Array.getElem?_eq_some_iff.1 h).1
theorem Is.below {w w' : World} {g : Nat} {t : TypeId} {cs : Array Value} {B : Nat} (h : Is w g t cs) (hb : Below B w w') (hg : g < B) : Is w' g t cs := (hb.block g hg).trans h
theorem Is.set {w : World} {g : Nat} {t : TypeId} {cs : Array Value} (h : Is w g t cs) (i : Nat) (u : Value) : Is (w.setCell ⟨g, i, none⟩ u) g t (cs.setIfInBounds i u) := by
  unfold Is at h ⊢
  simp [World.setCell, Array.getElem?_modify, h]
theorem count_still (s : ByteArray) (n : Nat) (h : nl s.data.toList = n) (w : World) : Calls Tryz.prog 53 #[.string s, .string ⟨#[10]⟩] w fun e w' => e = .returned (.int .i64 n) ∧ w' = w :=
  (count_is s n h w).mono fun _ _ ⟨h1, h2⟩ => ⟨h1, h2.symm⟩
/-- How long the text is that the scanner in block g has before it. -/
def restSize (g : Nat) (w : World) : Nat := match w.cell? ⟨g, 0, none⟩ with | some (.string s) => s.size | _ => 0
theorem restSize_is {w : World} {g : Nat} {t : TypeId} {s : ByteArray} {a b : Value} (h : Is w g t #[.string s, a, b]) : restSize g w = s.size := by
  unfold restSize
  rw [h.cell 0]
  rfl
section
variable {a w : World} {g : Nat}
theorem only_drew {row : Option Nat} (h : a.grownBy w row) : a.grownBy w.drew row := ⟨h.os, h.tape, h.output, h.size, h.block⟩
theorem only_refl (w : World) (row : Option Nat) : w.grownBy w row := ⟨rfl, rfl, rfl, Nat.le_refl _, fun _ _ _ => rfl⟩
theorem only_set (h : a.grownBy w (some g)) (i : Nat) (u : Value) : a.grownBy (w.setCell ⟨g, i, none⟩ u) (some g) :=
  ⟨h.os, h.tape, h.output, by simpa [World.setCell] using h.size, fun k hk hne => (Below.heap_setCell w ⟨g, i, none⟩ u k (fun e => hne (congrArg some e))).trans (h.block k hk hne)⟩
theorem only_below {w' : World} {row : Option Nat} (h : a.grownBy w row) (hb : Below w.heap.size w w') : a.grownBy w' row :=
  ⟨hb.os.trans h.os, hb.tape.trans h.tape, hb.output.trans h.output, Nat.le_trans h.size hb.size, fun k hk hne => (hb.block k (Nat.lt_of_lt_of_le hk h.size)).trans (h.block k hk hne)⟩
end
/-- What the scanner's loop over gaps keeps. -/
def SkipRel (g : Nat) (w : World) (s : ByteArray) (line : Nat) (v : Value) (nv : Value) (wr : World) : Prop :=
  ∃ (s' : ByteArray) (line' : Nat), Is wr g 69 #[.string s', .int .i64 line', v] ∧ nv = .int .i64 (gapN s'.data.toList) ∧ w.grownBy wr (some g) ∧
    scan s'.data.toList line' = scan s.data.toList line ∧ s'.size + line' ≤ s.size + line ∧ s'.size ≤ s.size
/-- What skip leaves: no gap stands before the scanner; what is told from there is what was told. -/
def SkipPost (g : Nat) (w : World) (s : ByteArray) (line : Nat) (v : Value) (e : Ending) (w' : World) : Prop :=
  e = .returned (.tuple #[]) ∧ ∃ (s' : ByteArray) (line' : Nat), Is w' g 69 #[.string s', .int .i64 line', v] ∧ gapN s'.data.toList = 0 ∧ w.grownBy w' (some g) ∧
    scan s'.data.toList line' = scan s.data.toList line ∧ s'.size + line' ≤ s.size + line ∧ s'.size ≤ s.size
set_option maxRecDepth 100000 in
theorem skip_any (g : Nat) (w : World) (s : ByteArray) (line : Nat) (v : Value) (h : Is w g 69 #[.string s, .int .i64 line, v]) (hs : s.size + line ≤ 281474976710656) :
    Calls Tryz.prog 28 #[.pointer (some ⟨g, 0, none⟩)] w (SkipPost g w s line v) := by
  have c0 : w.cell? ⟨g, 0, none⟩ = some (.string s) := (h.cell 0).trans rfl
  have c1 : w.cell? ⟨g, 1, none⟩ = some (.int .i64 line) := (h.cell 1).trans rfl
  obtain ⟨n, hn⟩ : ∃ n, gapN s.data.toList = n := ⟨_, rfl⟩
  have HN := Lib.hid hn
  clear hn
  have H := Lib.hid h
  clear h
  go_enter Tryz.func28, Tryz.ntmps28
  go_wp2_with (go_at_call 52; (with_reducible refine (gap_is _ _ HN.out _ (by omega)).mono ?_); rintro e w1 ⟨rfl, hb1⟩)
  have H1 := Lib.hid (H.out.below hb1 H.out.lt)
  clear c0 c1
  go_loopw [2] (fun nv wr => SkipRel g w s line v nv wr) (fun _ wr => restSize g wr)
  case atStart => exact ⟨s, line, H1.out, by rw [HN.out], only_below (only_refl _ _) hb1, rfl, Nat.le_refl _, Nat.le_refl _⟩
  case round =>
    obtain ⟨s', line', hI, rfl, hg, hsc, hsz, hss⟩ := hrel
    have c0 : wr.cell? ⟨g, 0, none⟩ = some (.string s') := (hI.cell 0).trans rfl
    have c1 : wr.cell? ⟨g, 1, none⟩ = some (.int .i64 line') := (hI.cell 1).trans rfl
    have f0 := hI.frozen 0
    have f1 := hI.frozen 1
    have HI := Lib.hid hI
    have HS := Lib.hid hsc
    clear hI hsc
    obtain ⟨n', hn'⟩ : ∃ n', gapN s'.data.toList = n' := ⟨_, rfl⟩
    have hle : n' ≤ s'.size := by rw [← hn']; exact gapN_le _
    rw [hn']
    have HN' := Lib.hid hn'
    clear hn'
    by_cases h0 : 0 < n'
    · obtain ⟨m, hm⟩ : ∃ m, nl (s'.extract 0 n').data.toList = m := ⟨_, rfl⟩
      have hmn : m ≤ n' := by
        rw [← hm, Lib.extract_data]
        have h1 := List.countP_le_length (p := fun d : UInt8 => d.toNat == 10) (l := List.take (n' - 0) (List.drop 0 s'.data.toList))
        rw [List.length_take] at h1
        unfold nl
        omega
      have hlm : line' + m ≤ 281474976710656 := by omega
      have HM := Lib.hid hm
      clear hm
      obtain ⟨n2, hn2⟩ : ∃ n2, gapN (s'.extract n' s'.size).data.toList = n2 := ⟨_, rfl⟩
      have HN2 := Lib.hid hn2
      have HZ : Hid ((s'.extract n' s'.size).size = s'.size - n') := by unfold Hid; rw [Lib.size_eq, Lib.extract_to_end, List.length_drop, ← Lib.size_eq]
      have hz2 : (s'.extract n' s'.size).size ≤ 9223372036854775807 := by rw [HZ.out]; omega
      have HZ2 := Lib.hid hz2
      clear hn2 hz2
      go_wp2
      go_still_tail 14, (by kernel_rfl)
      still_call (count_still _ _ HM.out _)
      repeat still_step
      refine wpStill_nil ?_
      change wpList _ _ _ _ _ wr.drew
      go_wp2_with (go_at_call 52; (with_reducible refine (gap_is _ _ HN2.out _ HZ2.out).mono ?_); rintro e w2 ⟨rfl, hb2⟩)
      have HI2 : Hid (Is w2 g 69 #[.string (s'.extract n' s'.size), .int .i64 ((line' + m : Nat) : Int), v]) := by
        have h1 := (HI.out.set 1 (.int .i64 ((line' : Int) + m))).set 0 (.string (s'.extract n' s'.size))
        have h2 := Is.below (w := ((wr.setCell ⟨g, 1, none⟩ (.int .i64 ((line' : Int) + m))).setCell ⟨g, 0, none⟩ (.string (s'.extract n' s'.size))).drew) h1 hb2 h1.lt
        exact h2
      have HG2 : Hid (w.grownBy w2 (some g)) := only_below (only_drew (only_set (only_set hg 1 _) 0 _)) hb2
      have HR1 := Lib.hid (restSize_is HI.out)
      have HR2 := Lib.hid (restSize_is HI2.out)
      go_roundw
      case rel =>
        refine ⟨s'.extract n' s'.size, line' + m, HI2.out, by rw [HN2.out], HG2.out, ?_, by rw [HZ.out]; omega, by rw [HZ.out]; omega⟩
        rw [← HS.out, Lib.extract_to_end, scan_gap s'.data.toList line', HN'.out, ← HM.out, Lib.extract_data]
        rfl
      case measure =>
        rw [HR1.out, HR2.out, HZ.out]
        omega
    · go_wp2
      have e0 : n' = 0 := by omega
      subst e0
      go_end0
      exact ⟨rfl, s', line', HI.out, HN'.out, hg, HS.out, hsz, hss⟩
/-! ### tokens in memory -/
def tokCells (ts : List Tok) : List Value := ts.flatMap fun t => [.int .i64 t.kind, .string ⟨t.text.toArray⟩, .int .i64 (t.line : Int)]
theorem tokCells_snoc (ts : List Tok) (t : Tok) : tokCells (ts ++ [t]) = tokCells ts ++ [.int .i64 t.kind, .string ⟨t.text.toArray⟩, .int .i64 (t.line : Int)] := by simp [tokCells]
/-- A slice of tokens that a call has made, in a row from block B on. -/
def Toks (w : World) (B : Nat) (v : Value) (ts : List Tok) : Prop := w.ownsRow B 67 3 v ts.length (tokCells ts)
theorem own_keep {w w' : World} {B : Nat} {e : TypeId} {size n : Nat} {v : Value} {xs : List Value} (h : w.ownsRow B e size v n xs) (hk : ∀ k, v.ownBlock = some k → w'.heap[k]? = w.heap[k]?) : w'.ownsRow B e size v n xs := by
  refine ⟨h.1, ?_⟩
  rcases h.2 with h0 | ⟨g, cap, cur, rfl, h1, h2, h3⟩
  · exact .inl h0
  · exact .inr ⟨g, cap, cur, rfl, h1, (hk g rfl).trans h2, h3⟩
theorem own_lt {w : World} {B : Nat} {e : TypeId} {size n : Nat} {v : Value} {xs : List Value} (h : w.ownsRow B e size v n xs) : ∀ k, v.ownBlock = some k → k < w.heap.size ∧ B ≤ k := by
  intro k hk
  rcases h.2 with ⟨rfl, _⟩ | ⟨g, cap, cur, rfl, h1, h2, _⟩
  · cases hk
  · injection hk with hk
    subst hk
    exact ⟨(Array.getElem?_eq_some_iff.1 h2).1, h1⟩
theorem own_form {w : World} {B : Nat} {e : TypeId} {size n : Nat} {v : Value} {xs : List Value} (h : w.ownsRow B e size v n xs) : ∃ A c, v = .slice A n c := by
  rcases h.2 with ⟨rfl, rfl⟩ | ⟨g, cap, cur, rfl, _⟩
  · exact ⟨none, 0, rfl⟩
  · exact ⟨_, cap, rfl⟩
theorem own_ne {w : World} {B : Nat} {e t : TypeId} {size n : Nat} {v : Value} {xs : List Value} {g : Nat} {cs : Array Value} (h : w.ownsRow B e size v n xs) (hI : Is w g t cs) (hne : e ≠ t) : v.ownBlock ≠ some g := by
  rcases h.2 with ⟨rfl, _⟩ | ⟨g', cap, cur, rfl, h1, h2, _⟩
  · simp [Value.ownBlock]
  · intro hk
    injection hk with hk
    subst hk
    rw [hI] at h2
    injection h2 with h2
    injection h2 with _ h2
    exact hne h2.symm
theorem own_only {w w' : World} {B : Nat} {e t : TypeId} {size n : Nat} {v : Value} {xs : List Value} {g : Nat} {cs : Array Value} (h : w.ownsRow B e size v n xs) (hI : Is w g t cs) (hne : e ≠ t) (hg : w.grownBy w' (some g)) : w'.ownsRow B e size v n xs :=
  own_keep h fun k hk => hg.block k (own_lt h k hk).1 (fun e => own_ne h hI hne (by rw [hk, e]))
theorem own_below {w w' : World} {B C : Nat} {e : TypeId} {size n : Nat} {v : Value} {xs : List Value} (h : w.ownsRow B e size v n xs) (hb : Below C w w') (hC : w.heap.size ≤ C) : w'.ownsRow B e size v n xs :=
  own_keep h fun k hk => hb.block k (Nat.lt_of_lt_of_le (own_lt h k hk).1 hC)
theorem below_only {B g : Nat} {w w' : World} (h : w.grownBy w' (some g)) (hB : B ≤ g) (hs : B ≤ w.heap.size) : Below B w w' :=
  ⟨h.os, h.tape, h.output, h.size, fun k hk => h.block k (by omega) (fun e => by injection e with e; omega)⟩
theorem tok_info : (Tryz.prog.info? 67).map (fun i => (i.zero, i.size, i.bytes)) = some (some (.agg #[.int .i64 0, .string ⟨#[]⟩, .int .i64 0]), 3, 32) := by kernel_rfl
/-- append onto a row of the call's own, as one step of a region that draws its order. -/
theorem step_append_own {P : Program} {ops : Array Oper} {o : Oper} {a : Act} {w : World} {K : Act → World → Prop} {Q : Exit → Act → World → Prop} {E : Prop} (hgd : o.guard = none) (s x : Operand) (t : TypeId)
    (ho : o.op = .call { callee := .builtin .append, args := #[s, x], argTypes := #[t, t] })
    (base : Nat) (e : TypeId) (i : TypeInfo) (z : Value) (size bytes : Nat) (ht : P.underlying t = some (.slice e)) (hi : P.info? e = some i) (hz : i.zero = some z)
    (hsize : i.size = size) (hby : i.bytes = bytes) (hzs : z.cells.size = size) (hsz : 0 < size)
    (v : Value) (n : Nat) (xs : List Value) (hs : a.eval s = v) (hown : w.ownsRow base e size v n xs)
    (ad : Addr) (m c : Nat) (news : List Value) (hx : a.eval x = .slice (some ad) m c) (hl : news.length = m * size) (hnews : ∀ j u, news[j]? = some u → w.cell? (ad.add j) = some u) (h1 : ∀ u ∈ news, u.oneCell' = true)
    (h63 : n + m ≤ maxLen) (hbytes : (n + m) * bytes ≤ 140737488355328) (hbase : base ≤ w.heap.size)
    (h : ∀ v' w', w'.ownsRow base e size v' (n + m) (xs ++ news) → w.grownBy w' v.ownBlock → K (a.put o.dst v') w') :
    if Region.wanted o (yielded ops a.tmps) = true then Oper.wp P o a w K Q else E := by
  have hw : Region.wanted o (yielded ops a.tmps) = true := by simp [Region.wanted, hgd]
  rw [if_pos hw]
  exact wp_append_own w s x t ho base e i z size bytes ht hi hz hsize hby hzs hsz v n xs hs hown ad m c news hx hl hnews h1 h63 hbytes hbase fun v' w' h2 h3 _ => h v' w' h2 h3
/-- What take leaves: a token more, and a text without its bytes. -/
def TakePost (B g : Nat) (w : World) (s : ByteArray) (line : Nat) (ts : List Tok) (kind : Int) (n : Nat) (e : Ending) (w' : World) : Prop :=
  e = .returned (.tuple #[]) ∧ ∃ v', Is w' g 69 #[.string (s.extract n s.size), .int .i64 line, v'] ∧ Toks w' B v' (ts ++ [⟨kind, s.data.toList.take n, line⟩]) ∧ Below B w w'
theorem extract_take (s : ByteArray) (n : Nat) : s.extract 0 n = ⟨(s.data.toList.take n).toArray⟩ := by
  rw [Lib.extract_eq]
  rfl
theorem take_done {B g : Nat} {w w1 : World} {s : ByteArray} {line : Nat} {v v1 : Value} {ts : List Tok} {kind : Int} {n : Nat} {X : Obj}
    (hI3 : Is w1 g 69 #[.string s, .int .i64 line, v]) (hG : (w.drew.alloc X).grownBy w1 v.ownBlock)
    (hO2 : (w.drew.alloc X).ownsRow B 67 3 v ts.length (tokCells ts)) (hO : w1.ownsRow B 67 3 v1 (ts.length + 1) (tokCells ts ++ [.int .i64 kind, .string (s.extract 0 n), .int .i64 line])) (hB : B ≤ g) (hz : g < w.heap.size) :
    TakePost B g w s line ts kind n (.returned (.tuple #[])) ((w1.setCell ⟨g, 2, none⟩ v1).setCell ⟨g, 0, none⟩ (.string (s.extract n s.size))) := by
  have hb1 : Below B w (w.drew.alloc X) := (Below.refl B w).drew.alloc (by show B ≤ w.heap.size; omega) _
  have hb2 : Below B w w1 := hb1.grown hG (Nat.le_trans (by omega) hb1.size) (fun k hk => (own_lt hO2 k hk).2)
  refine ⟨rfl, v1, (hI3.set 2 v1).set 0 _, ?_, (hb2.setCell (p := ⟨g, 2, none⟩) hB _).setCell (p := ⟨g, 0, none⟩) hB _⟩
  have h1 : ((w1.setCell ⟨g, 2, none⟩ v1).setCell ⟨g, 0, none⟩ (.string (s.extract n s.size))).ownsRow B 67 3 v1 (ts.length + 1) (tokCells ts ++ [.int .i64 kind, .string (s.extract 0 n), .int .i64 line]) :=
    own_only hO hI3 (by decide) (only_set (only_set (only_refl _ _) 2 _) 0 _)
  unfold Toks
  rw [tokCells_snoc, List.length_append, ← extract_take]
  exact h1
set_option maxHeartbeats 6400000 in
set_option maxRecDepth 100000 in
theorem take_any (B g : Nat) (w : World) (s : ByteArray) (line : Nat) (v : Value) (ts : List Tok) (kind : Int) (n : Nat) (h : Is w g 69 #[.string s, .int .i64 line, v]) (hB : B ≤ g) (hO : Toks w B v ts) (hn : n ≤ s.size) (hl : ts.length < 4294967296) :
    Calls Tryz.prog 30 #[.pointer (some ⟨g, 0, none⟩), .int .i64 kind, .int .i64 n] w (TakePost B g w s line ts kind n) := by
  have c0 : w.cell? ⟨g, 0, none⟩ = some (.string s) := (h.cell 0).trans rfl
  have c1 : w.cell? ⟨g, 1, none⟩ = some (.int .i64 line) := (h.cell 1).trans rfl
  have c2 : w.cell? ⟨g, 2, none⟩ = some v := (h.cell 2).trans rfl
  have H := Lib.hid h
  have HO := Lib.hid hO
  clear h hO
  go_enter Tryz.func30, Tryz.ntmps30
  go_wp2
  obtain ⟨i0, hi0, hz0, hz1, hz2⟩ := info_parts tok_info
  have HZ := Lib.hid (And.intro hi0 (And.intro hz0 (And.intro hz1 hz2)))
  clear hi0 hz0 hz1 hz2
  have hz := H.out.lt
  have HO2 : Hid ((w.drew.alloc (.cells #[.int .i64 kind, .string (s.extract 0 n), .int .i64 line] 67)).ownsRow B 67 3 v ts.length (tokCells ts)) :=
    own_below HO.out ((Below.refl w.heap.size w).drew.alloc (Nat.le_refl _) _) (Nat.le_refl _)
  have HI2 : Hid (Is (w.drew.alloc (.cells #[.int .i64 kind, .string (s.extract 0 n), .int .i64 line] 67)) g 69 #[.string s, .int .i64 line, v]) :=
    Is.below H.out ((Below.refl w.heap.size w).drew.alloc (Nat.le_refl _) _) hz
  have HN2 : Hid (∀ j u, [Value.int .i64 kind, .string (s.extract 0 n), .int .i64 line][j]? = some u → (w.drew.alloc (.cells #[.int .i64 kind, .string (s.extract 0 n), .int .i64 line] 67)).cell? ((⟨w.heap.size, 0, none⟩ : Addr).add j) = some u) := by
    intro j u hu
    rw [show (⟨w.heap.size, 0, none⟩ : Addr).add j = ⟨w.heap.size, j, none⟩ by unfold Addr.add; split <;> simp_all]
    exact (cell_of_row _ w.heap.size j _ _ (0, 0) (heap_alloc_new w.drew _)).trans (by simpa using hu)
  have HB2 : Hid (B ≤ (w.drew.alloc (.cells #[.int .i64 kind, .string (s.extract 0 n), .int .i64 line] 67)).heap.size) := by
    show B ≤ (w.heap.push _).size
    rw [Array.size_push]
    omega
  go_region_law (first
    | (refine step_append_own rfl (.tmp 10) (.tmp 23) _ rfl B 67 i0 _ 3 32 Tryz.underlying47 HZ.out.1 HZ.out.2.1 HZ.out.2.2.1 HZ.out.2.2.2 rfl (by omega) v ts.length (tokCells ts) rfl (by exact HO2.out) ⟨w.heap.size, 0, none⟩ 1 1 [.int .i64 kind, .string (s.extract 0 n), .int .i64 line] rfl rfl (by exact HN2.out) (by simp [Value.oneCell']) (by simp only [maxLen]; omega) (by omega) (by exact HB2.out) ?_
       intro v1 w1 hown1 hg1
       obtain ⟨A1, cp1, rfl⟩ := own_form hown1
       have HO3 := Lib.hid hown1
       have HG3 := Lib.hid hg1
       have HI3 : Hid (Is w1 g 69 #[.string s, .int .i64 line, v]) := (HG3.out.block g HI2.out.lt (fun e => own_ne HO2.out HI2.out (by decide) e.symm)).trans HI2.out
       have k0 : w1.cell? ⟨g, 0, none⟩ = some (.string s) := (HI3.out.cell 0).trans rfl
       have k2 : w1.cell? ⟨g, 2, none⟩ = some v := (HI3.out.cell 2).trans rfl
       have f0 := HI3.out.frozen 0
       have f2 := HI3.out.frozen 2
       clear hown1 hg1))
  all_goals
    go_wp2
    go_end0
    exact take_done HI3.out HG3.out HO2.out HO3.out hB hz
end Go.Proofs.YtakijoblbmfadaaGreatDoor
