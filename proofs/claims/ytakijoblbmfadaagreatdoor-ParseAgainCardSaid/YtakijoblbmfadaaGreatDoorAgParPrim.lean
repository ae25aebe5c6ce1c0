import Derived.Test.YtakijoblbmfadaaGreatDoorAgParVals
import Derived.Deep.QuietTactic
import Derived.BigQuiet
set_option linter.unusedSimpArgs false
set_option linter.unusedVariables false

/- The document's parser: which operator stands here. -/
namespace Go.Proofs.YtakijoblbmfadaaGreatDoor
open Go.RowKit
def rangeI (a : Int) : Nat → List Int
  | 0 => []
  | m + 1 => a :: rangeI (a + 1) m
/-- Does the operator stand there, at its level? -/
def opIs (lev : Int) (l : List Tok) (op : Int) : Bool := decide (lvlOf op = lev) && isS (sgT op) l
theorem opFrom_cons (lev : Int) (l : List Tok) (a : Int) (r : List Int) : opFrom lev l (a :: r) = if opIs lev l a = true then a else opFrom lev l r := by
  rw [opFrom]
  unfold opIs
  simp only [Bool.and_eq_true, decide_eq_true_eq]
theorem opFrom_hit {lev : Int} {l : List Tok} {k : Int} (hk : opIs lev l k = true) : ∀ (m : Nat) (a : Int), a ≤ k → k < a + m → (∀ j, a ≤ j → j < k → opIs lev l j = false) → opFrom lev l (rangeI a m) = k
  | 0, a, h1, h2, _ => by omega
  | m + 1, a, h1, h2, h => by
    rw [rangeI, opFrom_cons]
    by_cases e : a = k
    · subst e
      rw [if_pos hk]
    · rw [h a (Int.le_refl _) (by omega), if_neg (by decide)]
      exact opFrom_hit hk m (a + 1) (by omega) (by omega) fun j h3 => h j (by omega)
theorem opFrom_none {lev : Int} {l : List Tok} : ∀ (m : Nat) (a : Int), (∀ j, a ≤ j → j < a + m → opIs lev l j = false) → opFrom lev l (rangeI a m) = 0
  | 0, a, _ => rfl
  | m + 1, a, h => by
    rw [rangeI, opFrom_cons, h a (Int.le_refl _) (by omega), if_neg (by decide)]
    exact opFrom_none m (a + 1) fun j h3 h4 => h j (by omega) (by omega)
end Go.Proofs.YtakijoblbmfadaaGreatDoor

/- The document's parser: what may have a sign ahead. -/
namespace Go.Proofs.YtakijoblbmfadaaGreatDoor
open Go.RowKit
/-- The contracts of primary and unary. -/
def CP (b : Nat) (V : Value) (all : List Tok) (n : Nat) (d : Int) : Prop := ∀ (w : World) (x : PR Unit), StP b V all x w → Ends (x.bind fun _ r => pP n d r) →
  Calls Tryz.prog 138 #[.pointer (some ⟨b, 0, none⟩), .int .i64 d] w (Gave b V all w (x.bind fun _ r => pP n d r) (FrE w.heap.size))
theorem CP.call {b : Nat} {V : Value} {all : List Tok} {n : Nat} {d : Int} (h : CP b V all n d) {w : World} {x : PR Unit} (hs : StP b V all x w) (he : Ends (x.bind fun _ r => pP n d r)) :
  Calls Tryz.prog 138 #[.pointer (some ⟨b, 0, none⟩), .int .i64 d] w (Gave b V all w (x.bind fun _ r => pP n d r) (FrE w.heap.size)) := h w x hs he
def CU (b : Nat) (V : Value) (all : List Tok) (n : Nat) (d : Int) : Prop := ∀ (w : World) (x : PR Unit), StP b V all x w → Ends (x.bind fun _ r => pU n d r) →
  Calls Tryz.prog 124 #[.pointer (some ⟨b, 0, none⟩), .int .i64 d] w (Gave b V all w (x.bind fun _ r => pU n d r) (FrE w.heap.size))
theorem CU.call {b : Nat} {V : Value} {all : List Tok} {n : Nat} {d : Int} (h : CU b V all n d) {w : World} {x : PR Unit} (hs : StP b V all x w) (he : Ends (x.bind fun _ r => pU n d r)) :
  Calls Tryz.prog 124 #[.pointer (some ⟨b, 0, none⟩), .int .i64 d] w (Gave b V all w (x.bind fun _ r => pU n d r) (FrE w.heap.size)) := h w x hs he
end Go.Proofs.YtakijoblbmfadaaGreatDoor
