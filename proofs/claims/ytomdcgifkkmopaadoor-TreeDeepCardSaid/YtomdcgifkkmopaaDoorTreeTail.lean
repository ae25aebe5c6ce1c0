/- What the law TreeDeep asks of the calls behind its loop; what a round of its loop makes. -/
import Derived.Test.YtomdcgifkkmopaaDoorTreeDeepMath
namespace Go.Proofs.YtomdcgifkkmopaaDoor
open Go.RowKit
/-- The calls on a program whose functions lie in V answer alike, in every later world. -/
def TailC (W : World) (V : Value) (S : ByteArray) (C : Int) (T : Bool) : Prop := ∀ w', Below W.heap.size W w' →
  (Calls Tryd.prog 4 #[.agg #[.slice none 0 0, V]] w' fun e w2 => e = .returned (.tuple #[.string S, .int .i64 C]) ∧ Below W.heap.size w' w2) ∧
  (Calls Tryd.prog 5 #[.agg #[.slice none 0 0, V]] w' fun e w2 => e = .returned (.tuple #[.string S, .int .i64 C]) ∧ Below W.heap.size w' w2) ∧
  (Calls Tryd.prog 6 #[] w' fun e w2 => e = .returned (.bool true) ∧ Below W.heap.size W w2) ∧
  (Calls Tryd.prog 7 #[.agg #[.slice none 0 0, V]] w' fun e w2 => e = .returned (.bool T) ∧ Below W.heap.size W w2) ∧
  (Calls Tryd.prog 8 #[.agg #[.slice none 0 0, V]] w' fun e w2 => e = .returned (.bool T) ∧ Below W.heap.size W w2)
theorem TailC.print {W : World} {V : Value} {S : ByteArray} {C : Int} {T : Bool} (h : TailC W V S C T) (w' : World) (hb : Below W.heap.size W w') : Calls Tryd.prog 4 #[.agg #[.slice none 0 0, V]] w' fun e w2 => e = .returned (.tuple #[.string S, .int .i64 C]) ∧ Below W.heap.size w' w2 := (h w' hb).1
theorem TailC.rprint {W : World} {V : Value} {S : ByteArray} {C : Int} {T : Bool} (h : TailC W V S C T) (w' : World) (hb : Below W.heap.size W w') : Calls Tryd.prog 5 #[.agg #[.slice none 0 0, V]] w' fun e w2 => e = .returned (.tuple #[.string S, .int .i64 C]) ∧ Below W.heap.size w' w2 := (h w' hb).2.1
theorem TailC.awake {W : World} {V : Value} {S : ByteArray} {C : Int} {T : Bool} (h : TailC W V S C T) (w' : World) (hb : Below W.heap.size W w') : Calls Tryd.prog 6 #[] w' fun e w2 => e = .returned (.bool true) ∧ Below W.heap.size W w2 := (h w' hb).2.2.1
theorem TailC.right {W : World} {V : Value} {S : ByteArray} {C : Int} {T : Bool} (h : TailC W V S C T) (w' : World) (hb : Below W.heap.size W w') : Calls Tryd.prog 7 #[.agg #[.slice none 0 0, V]] w' fun e w2 => e = .returned (.bool T) ∧ Below W.heap.size W w2 := (h w' hb).2.2.2.1
theorem TailC.rright {W : World} {V : Value} {S : ByteArray} {C : Int} {T : Bool} (h : TailC W V S C T) (w' : World) (hb : Below W.heap.size W w') : Calls Tryd.prog 8 #[.agg #[.slice none 0 0, V]] w' fun e w2 => e = .returned (.bool T) ∧ Below W.heap.size W w2 := (h w' hb).2.2.2.2
/-- So it is, whatever program of one function lies there. -/
def Tails (w : World) : Prop := ∀ (W : World) (V : Value) (l : List St), Below w.heap.size w W → SlF W.heap.size W V [⟨⟨#[102]⟩, 1, [], l⟩] → (stsT l 1).length ≤ 1000000 → ∃ S C T, TailC W V S C T
theorem rowed_kept : ∀ (l : List Obj) (w : World) (b : Nat), Kept b w (rowed w l)
  | [], w, b => Kept.refl b w
  | o :: r, w, b => (Kept.alloc b w o).trans (rowed_kept r _ b)
theorem SlE.mono {B B' : Nat} {w : World} {v : Value} {l : List Ex} (h : SlE B w v l) (hB : B ≤ B') : SlE B' w v l := h.below (Below.refl _ _) hB
theorem SlS.mono {B B' : Nat} {w : World} {v : Value} {l : List St} (h : SlS B w v l) (hB : B ≤ B') : SlS B' w v l := h.below (Below.refl _ _) hB
theorem r0 : i64R 0 := ⟨by decide, by decide⟩
theorem negs_n (i : Nat) : i64R (negs i).n := by
  cases i with
  | zero => exact r0
  | succ i => unfold negs; exact r0
theorem subs_n (i : Nat) : i64R (subs i).n := by
  cases i with
  | zero => exact r0
  | succ i => unfold subs; exact r0
/-- An expression that lies in the variable's row, told by its parts. -/
theorem slE_var {w : World} {b B : Nat} {x : Ex} {k1 k2 k3 : Int} {k4 : ByteArray} {v : Value} {T : TypeId} {fr : Nat × Nat} (hb : w.heap[b]? = some (.cells #[.int .i64 k1, .int .i64 k2, .int .i64 k3, .string k4, v] T fr)) (hB : b < B) (hn : i64R x.n) (hs : SlE B w v x.args)
    (hk : x.kind = k1 ∧ x.op = k2 ∧ x.n = k3 ∧ x.name = k4) : SlE B w (.slice (some ⟨b, 0, none⟩) 1 1) [x] := by
  cases x with
  | mk a b c d e =>
    obtain ⟨rfl, rfl, rfl, rfl⟩ := hk
    exact slE_at1 hb hB hn hs
theorem slE_var2 {w : World} {b B : Nat} {x : Ex} {k1 k2 k3 : Int} {k4 : ByteArray} {v : Value} {T : TypeId} {fr : Nat × Nat} (hb : w.heap[b]? = some (.cells #[.int .i64 1, .int .i64 0, .int .i64 0, .string ⟨#[]⟩, .slice none 0 0, .int .i64 k1, .int .i64 k2, .int .i64 k3, .string k4, v] T fr)) (hB : b < B) (hn : i64R x.n) (hs : SlE B w v x.args)
    (hk : x.kind = k1 ∧ x.op = k2 ∧ x.n = k3 ∧ x.name = k4) : SlE B w (.slice (some ⟨b, 0, none⟩) 2 2) [num0, x] := by
  cases x with
  | mk a b c d e =>
    obtain ⟨rfl, rfl, rfl, rfl⟩ := hk
    exact slE_at2 hb hB r0 (slE_nil _ _) hn hs
/-- The variable's row holds the tree f i. -/
def Held (f : Nat → Ex) (b i : Nat) (wr : World) : Prop := ∃ v, wr.heap[b]? = some (.cells #[.int .i64 (f i).kind, .int .i64 (f i).op, .int .i64 (f i).n, .string (f i).name, v] 24 (0, 0)) ∧ ∀ w', Kept b wr w' → SlE wr.heap.size w' v (f i).args
theorem negs_held (w wr : World) (i : Nat) (k1 k2 k3 : Int) (k4 : ByteArray) (v : Value) (hr : wr.heap[w.heap.size]? = some (.cells #[.int .i64 k1, .int .i64 k2, .int .i64 k3, .string k4, v] 24 (0, 0)))
    (hs : ∀ w', Kept w.heap.size wr w' → SlE wr.heap.size w' v (negs i).args) (hk : (negs i).kind = k1 ∧ (negs i).op = k2 ∧ (negs i).n = k3 ∧ (negs i).name = k4) :
    Held negs w.heap.size (i + 1) ((writ wr w.heap.size (.int .i64 4) (.int .i64 20) (.int .i64 0) (.string ⟨#[]⟩) (.slice (some ⟨wr.heap.size, 0, none⟩) 1 1)).alloc (.cells #[.int .i64 k1, .int .i64 k2, .int .i64 k3, .string k4, v] 24)) := by
  have hlt : w.heap.size < wr.heap.size := (Array.getElem?_eq_some_iff.1 hr).1
  obtain ⟨W, hW⟩ : ∃ W, writ wr w.heap.size (.int .i64 4) (.int .i64 20) (.int .i64 0) (.string ⟨#[]⟩) (.slice (some ⟨wr.heap.size, 0, none⟩) 1 1) = W := ⟨_, rfl⟩
  have hz : W.heap.size = wr.heap.size := hW ▸ writ_size wr _ _ _ _ _ _
  have hrow := hW ▸ writ_row hr (.int .i64 4) (.int .i64 20) (.int .i64 0) (.string ⟨#[]⟩) (.slice (some ⟨wr.heap.size, 0, none⟩) 1 1)
  have hkw : Kept w.heap.size wr W := hW ▸ writ_kept wr _ _ _ _ _ _
  rw [hW]
  refine ⟨.slice (some ⟨wr.heap.size, 0, none⟩) 1 1, (Below.heap_alloc W _ _ (by omega)).trans hrow, fun w' hkp => ?_⟩
  have hnew : w'.heap[wr.heap.size]? = some (.cells #[.int .i64 k1, .int .i64 k2, .int .i64 k3, .string k4, v] 24 (0, 0)) := by
    rw [hkp.2 _ (by rw [alloc_size]; omega) (by omega), ← hz]
    exact heap_alloc_new W _
  have hall := (hkw.trans (Kept.alloc _ W _)).trans hkp
  rw [alloc_size, hz]
  exact slE_var hnew (Nat.lt_succ_self _) (negs_n i) ((hs w' hall).mono (Nat.le_succ _)) hk
theorem subs_held (w wr : World) (i : Nat) (k1 k2 k3 : Int) (k4 : ByteArray) (v : Value) (hr : wr.heap[w.heap.size]? = some (.cells #[.int .i64 k1, .int .i64 k2, .int .i64 k3, .string k4, v] 24 (0, 0)))
    (hs : ∀ w', Kept w.heap.size wr w' → SlE wr.heap.size w' v (subs i).args) (hk : (subs i).kind = k1 ∧ (subs i).op = k2 ∧ (subs i).n = k3 ∧ (subs i).name = k4) :
    Held subs w.heap.size (i + 1) ((writ wr w.heap.size (.int .i64 5) (.int .i64 2) (.int .i64 0) (.string ⟨#[]⟩) (.slice (some ⟨wr.heap.size, 0, none⟩) 2 2)).alloc (.cells #[.int .i64 1, .int .i64 0, .int .i64 0, .string ⟨#[]⟩, .slice none 0 0, .int .i64 k1, .int .i64 k2, .int .i64 k3, .string k4, v] 24)) := by
  have hlt : w.heap.size < wr.heap.size := (Array.getElem?_eq_some_iff.1 hr).1
  obtain ⟨W, hW⟩ : ∃ W, writ wr w.heap.size (.int .i64 5) (.int .i64 2) (.int .i64 0) (.string ⟨#[]⟩) (.slice (some ⟨wr.heap.size, 0, none⟩) 2 2) = W := ⟨_, rfl⟩
  have hz : W.heap.size = wr.heap.size := hW ▸ writ_size wr _ _ _ _ _ _
  have hrow := hW ▸ writ_row hr (.int .i64 5) (.int .i64 2) (.int .i64 0) (.string ⟨#[]⟩) (.slice (some ⟨wr.heap.size, 0, none⟩) 2 2)
  have hkw : Kept w.heap.size wr W := hW ▸ writ_kept wr _ _ _ _ _ _
  rw [hW]
  refine ⟨.slice (some ⟨wr.heap.size, 0, none⟩) 2 2, (Below.heap_alloc W _ _ (by omega)).trans hrow, fun w' hkp => ?_⟩
  have hnew : w'.heap[wr.heap.size]? = some (.cells #[.int .i64 1, .int .i64 0, .int .i64 0, .string ⟨#[]⟩, .slice none 0 0, .int .i64 k1, .int .i64 k2, .int .i64 k3, .string k4, v] 24 (0, 0)) := by
    rw [hkp.2 _ (by rw [alloc_size]; omega) (by omega), ← hz]
    exact heap_alloc_new W _
  have hall := (hkw.trans (Kept.alloc _ W _)).trans hkp
  rw [alloc_size, hz]
  exact slE_var2 hnew (Nat.lt_succ_self _) (subs_n i) ((hs w' hall).mono (Nat.le_succ _)) hk
/-- A round of the loop that makes statements. -/
theorem whiles_made (wr : World) (i : Nat) (v : Value) (hs : SlS wr.heap.size wr v (whiles i)) :
    SlS (rowed wr [.cells #[.int .i64 1, .int .i64 0, .int .i64 0, .string ⟨#[]⟩, .slice none 0 0] 24, .cells #[.int .i64 5, .int .i64 0, .string ⟨#[]⟩, .slice (some ⟨wr.heap.size, 0, none⟩) 1 1, v, .slice none 0 0] 27]).heap.size (rowed wr [.cells #[.int .i64 1, .int .i64 0, .int .i64 0, .string ⟨#[]⟩, .slice none 0 0] 24, .cells #[.int .i64 5, .int .i64 0, .string ⟨#[]⟩, .slice (some ⟨wr.heap.size, 0, none⟩) 1 1, v, .slice none 0 0] 27]) (.slice (some ⟨wr.heap.size + 1, 0, none⟩) 1 1) (whiles (i + 1)) := by
  rw [rowed_size]
  show SlS (wr.heap.size + 2) _ _ _
  have h0 := rowed_at [.cells #[.int .i64 1, .int .i64 0, .int .i64 0, .string ⟨#[]⟩, .slice none 0 0] 24, .cells #[.int .i64 5, .int .i64 0, .string ⟨#[]⟩, .slice (some ⟨wr.heap.size, 0, none⟩) 1 1, v, .slice none 0 0] 27] wr 0 _ rfl
  have h1 := rowed_at [.cells #[.int .i64 1, .int .i64 0, .int .i64 0, .string ⟨#[]⟩, .slice none 0 0] 24, .cells #[.int .i64 5, .int .i64 0, .string ⟨#[]⟩, .slice (some ⟨wr.heap.size, 0, none⟩) 1 1, v, .slice none 0 0] 27] wr 1 _ rfl
  have hb := rowed_below [.cells #[.int .i64 1, .int .i64 0, .int .i64 0, .string ⟨#[]⟩, .slice none 0 0] 24, .cells #[.int .i64 5, .int .i64 0, .string ⟨#[]⟩, .slice (some ⟨wr.heap.size, 0, none⟩) 1 1, v, .slice none 0 0] 27] (Below.refl wr.heap.size wr) (Nat.le_refl _)
  exact slS_at h1 (by omega) (slE_at1 h0 (by omega) r0 (slE_nil _ _)) (hs.below hb (by omega)) (slS_nil _ _)
theorem elses_made (wr : World) (i : Nat) (v : Value) (hs : SlS wr.heap.size wr v (elses i)) :
    SlS (rowed wr [.cells #[.int .i64 1, .int .i64 0, .int .i64 0, .string ⟨#[]⟩, .slice none 0 0] 24, .cells #[.int .i64 4, .int .i64 0, .string ⟨#[]⟩, .slice (some ⟨wr.heap.size, 0, none⟩) 1 1, .slice none 0 0, v] 27]).heap.size (rowed wr [.cells #[.int .i64 1, .int .i64 0, .int .i64 0, .string ⟨#[]⟩, .slice none 0 0] 24, .cells #[.int .i64 4, .int .i64 0, .string ⟨#[]⟩, .slice (some ⟨wr.heap.size, 0, none⟩) 1 1, .slice none 0 0, v] 27]) (.slice (some ⟨wr.heap.size + 1, 0, none⟩) 1 1) (elses (i + 1)) := by
  rw [rowed_size]
  show SlS (wr.heap.size + 2) _ _ _
  have h0 := rowed_at [.cells #[.int .i64 1, .int .i64 0, .int .i64 0, .string ⟨#[]⟩, .slice none 0 0] 24, .cells #[.int .i64 4, .int .i64 0, .string ⟨#[]⟩, .slice (some ⟨wr.heap.size, 0, none⟩) 1 1, .slice none 0 0, v] 27] wr 0 _ rfl
  have h1 := rowed_at [.cells #[.int .i64 1, .int .i64 0, .int .i64 0, .string ⟨#[]⟩, .slice none 0 0] 24, .cells #[.int .i64 4, .int .i64 0, .string ⟨#[]⟩, .slice (some ⟨wr.heap.size, 0, none⟩) 1 1, .slice none 0 0, v] 27] wr 1 _ rfl
  have hb := rowed_below [.cells #[.int .i64 1, .int .i64 0, .int .i64 0, .string ⟨#[]⟩, .slice none 0 0] 24, .cells #[.int .i64 4, .int .i64 0, .string ⟨#[]⟩, .slice (some ⟨wr.heap.size, 0, none⟩) 1 1, .slice none 0 0, v] 27] (Below.refl wr.heap.size wr) (Nat.le_refl _)
  exact slS_at h1 (by omega) (slE_at1 h0 (by omega) r0 (slE_nil _ _)) (slS_nil _ _) (hs.below hb (by omega))
end Go.Proofs.YtomdcgifkkmopaaDoor
