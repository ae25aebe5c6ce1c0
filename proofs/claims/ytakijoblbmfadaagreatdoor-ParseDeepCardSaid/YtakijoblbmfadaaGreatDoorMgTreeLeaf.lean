import Derived.Test.YtakijoblbmfadaaGreatDoorProg
import Derived.Test.YtakijoblbmfadaaGreatDoorMgTokKind
import Derived.Test.YtakijoblbmfadaaGreatDoorMgWrapMath
import Derived.WalkSpells
import Derived.WalkLawsBesides
import Derived.Outline
import Derived.Below
import Derived.Laws.RangeAny
import Derived.LoopTactic
import Derived.Lib.Walk
import Derived.Deep.Light
import Derived.Lib.Hide
import Derived.IntWalk
import Derived.Test.YtakijoblbmfadaaGreatDoorShelf
set_option linter.unusedSimpArgs false
set_option linter.unusedVariables false
/- The contracts of the small functions that the layer tree and the document's answer to it call: names, signs and levels of operators. Sign and Level under the condition that wrap.rows reads as the program's text lays it (Tab). -/
namespace Go.Proofs.YtakijoblbmfadaaGreatDoor
open Go.RowKit
/-! ### signs and levels -/
def Tab (w : World) : Prop := ∀ k : Nat, k ≤ 28 → w.cell? ⟨6, k * 2, none⟩ = some (.string (sgn k)) ∧ w.cell? ⟨6, k * 2 + 1, none⟩ = some (.int .i64 (lvl k))
theorem Tab.size {w : World} (h : Tab w) : 6 < w.heap.size := block_lt_of_cell (h 0 (by omega)).1
theorem rowOf_in (k : Nat) (h1 : 1 ≤ k) (h2 : k ≤ 28) (w : World) (ht : Tab w) :
    Calls Tryz.prog 137 #[.int .i64 (k : Int)] w fun e w' => e = .returned (.agg #[.string (sgn k), .int .i64 (lvl k)]) ∧ Below w.heap.size w w' := by
  have hz := ht.size
  obtain ⟨c0, c1⟩ := ht k h2
  clear ht
  go_enter Tryz.func137, Tryz.ntmps137
  go_wp2
  exact bodyPost_ret (v := .agg #[.string (sgn k), .int .i64 (lvl k)]) (by simp [results, Tryz.results137, go_sem]) rfl ⟨rfl, (Below.refl _ _).alloc (Nat.le_refl _) _⟩
theorem rowOf_out (op : Int) (h : op < 1 ∨ 28 < op) (w : World) :
    Calls Tryz.prog 137 #[.int .i64 op] w fun e w' => e = .returned (.agg #[.string ⟨#[]⟩, .int .i64 0]) ∧ Below w.heap.size w w' := by
  rcases h with h | h
  all_goals
    go_enter Tryz.func137, Tryz.ntmps137
    go_wp2
    all_goals exact bodyPost_ret (v := .agg #[.string ⟨#[]⟩, .int .i64 0]) (by simp [results, Tryz.results137, go_sem]) rfl ⟨rfl, (Below.refl _ _).alloc (Nat.le_refl _) _⟩
theorem rowOf_any (op : Int) (w : World) (ht : Tab w) :
    Calls Tryz.prog 137 #[.int .i64 op] w fun e w' => e = .returned (.agg #[.string (sgnOf op), .int .i64 (lvlOf op)]) ∧ Below w.heap.size w w' := by
  by_cases h : 1 ≤ op ∧ op ≤ 28
  · obtain ⟨k, rfl⟩ := Int.eq_ofNat_of_zero_le (show 0 ≤ op by omega)
    have e1 : sgnOf (k : Int) = sgn k := by unfold sgnOf; rw [if_pos h]; rfl
    have e2 : lvlOf (k : Int) = lvl k := by unfold lvlOf; rw [if_pos h]; rfl
    rw [e1, e2]
    exact rowOf_in k (by omega) (by omega) w ht
  · have e1 : sgnOf op = ⟨#[]⟩ := by unfold sgnOf; rw [if_neg h]
    have e2 : lvlOf op = 0 := by unfold lvlOf; rw [if_neg h]
    rw [e1, e2]
    exact rowOf_out op (by omega) w
theorem sign_any (op : Int) (w : World) (ht : Tab w) :
    Calls Tryz.prog 156 #[.int .i64 op] w fun e w' => e = .returned (.string (sgnOf op)) ∧ Below w.heap.size w w' := by
  have hf : ∀ (s : ByteArray) (l : Int) (w : World), (Instr.field 153 (.agg #[.string s, .int .i64 l]) 0).run Tryz.prog w = .ok (.string s) w := fun _ _ _ => by kernel_rfl
  go_enter Tryz.func156, Tryz.ntmps156
  go_wp2_with (go_at_call 137; refine (rowOf_any _ _ ht).mono ?_; rintro e w' ⟨rfl, hg⟩)
  go_ret
  exact ⟨rfl, hg⟩
theorem level_any (op : Int) (w : World) (ht : Tab w) :
    Calls Tryz.prog 123 #[.int .i64 op] w fun e w' => e = .returned (.int .i64 (lvlOf op)) ∧ Below w.heap.size w w' := by
  have hf : ∀ (s : ByteArray) (l : Int) (w : World), (Instr.field 153 (.agg #[.string s, .int .i64 l]) 1).run Tryz.prog w = .ok (.int .i64 l) w := fun _ _ _ => by kernel_rfl
  go_enter Tryz.func123, Tryz.ntmps123
  go_wp2_with (go_at_call 137; refine (rowOf_any _ _ ht).mono ?_; rintro e w' ⟨rfl, hg⟩)
  go_ret
  exact ⟨rfl, hg⟩
/-- The document's list of signs: 28 strings in a new block. -/
theorem signs_any (w : World) : Calls Tryz.prog 93 #[] w fun e w' => ∃ C : Array Value, (∀ j : Nat, j < 28 → C[j]? = some (.string (sgn (j + 1)))) ∧ e = .returned (.slice (some ⟨w.heap.size, 0, none⟩) 28 28) ∧ w' = w.alloc (.cells C 9) := by
  go_enter Tryz.func93, Tryz.ntmps93
  go_wp2
  go_ret
  refine ⟨_, ?_, rfl, rfl⟩
  intro j hj
  obtain rfl | rfl | rfl | rfl | rfl | rfl | rfl | rfl | rfl | rfl | rfl | rfl | rfl | rfl | rfl | rfl | rfl | rfl | rfl | rfl | rfl | rfl | rfl | rfl | rfl | rfl | rfl | rfl : j = 0 ∨ j = 1 ∨ j = 2 ∨ j = 3 ∨ j = 4 ∨ j = 5 ∨ j = 6 ∨ j = 7 ∨ j = 8 ∨ j = 9 ∨ j = 10 ∨ j = 11 ∨ j = 12 ∨ j = 13 ∨ j = 14 ∨ j = 15 ∨ j = 16 ∨ j = 17 ∨ j = 18 ∨ j = 19 ∨ j = 20 ∨ j = 21 ∨ j = 22 ∨ j = 23 ∨ j = 24 ∨ j = 25 ∨ j = 26 ∨ j = 27 := by omega
  all_goals rfl
theorem rsign_in (k : Nat) (h : k < 28) (w : World) : Calls Tryz.prog 68 #[.int .i64 ((k : Int) + 1)] w fun e w' => e = .returned (.string (sgn (k + 1))) ∧ Below w.heap.size w w' := by
  go_enter Tryz.func68, Tryz.ntmps68
  go_wp2_with (go_at_call 93; refine (signs_any _).mono ?_; rintro e w' ⟨C, hC, rfl, rfl⟩; have hc := hC k h; clear hC)
  go_ret
  exact ⟨rfl, (Below.refl _ _).alloc (Nat.le_refl _) _⟩
theorem rsign_out (op : Int) (h : op < 1 ∨ 28 < op) (w : World) : Calls Tryz.prog 68 #[.int .i64 op] w fun e w' => e = .returned (.string ⟨#[]⟩) ∧ Below w.heap.size w w' := by
  rcases h with h | h
  all_goals
    go_enter Tryz.func68, Tryz.ntmps68
    go_wp2
    all_goals go_ret
    all_goals exact ⟨rfl, Below.refl _ _⟩
theorem rsign_any (op : Int) (w : World) : Calls Tryz.prog 68 #[.int .i64 op] w fun e w' => e = .returned (.string (sgnOf op)) ∧ Below w.heap.size w w' := by
  by_cases h : 1 ≤ op ∧ op ≤ 28
  · obtain ⟨k, hk⟩ := Int.eq_ofNat_of_zero_le (show 0 ≤ op - 1 by omega)
    obtain rfl : op = (k : Int) + 1 := by omega
    have e1 : sgnOf ((k : Int) + 1) = sgn (k + 1) := by unfold sgnOf; rw [if_pos h]; rfl
    rw [e1]
    exact rsign_in k (by omega) w
  · have e1 : sgnOf op = ⟨#[]⟩ := by unfold sgnOf; rw [if_neg h]
    rw [e1]
    exact rsign_out op (by omega) w
theorem rlevel_in (op : Int) (h : 1 ≤ op ∧ op ≤ 19) (w : World) : Calls Tryz.prog 70 #[.int .i64 op] w fun e w' => e = .returned (.int .i64 (lvlOf op)) ∧ w = w' := by
  obtain rfl | rfl | rfl | rfl | rfl | rfl | rfl | rfl | rfl | rfl | rfl | rfl | rfl | rfl | rfl | rfl | rfl | rfl | rfl : op = 1 ∨ op = 2 ∨ op = 3 ∨ op = 4 ∨ op = 5 ∨ op = 6 ∨ op = 7 ∨ op = 8 ∨ op = 9 ∨ op = 10 ∨ op = 11 ∨ op = 12 ∨ op = 13 ∨ op = 14 ∨ op = 15 ∨ op = 16 ∨ op = 17 ∨ op = 18 ∨ op = 19 := by omega
  all_goals clear h
  all_goals
    go_enter Tryz.func70, Tryz.ntmps70
    go_wp2
    go_ret
    exact ⟨rfl, rfl⟩
theorem lvlOf_out (op : Int) (h : op < 1 ∨ 19 < op) : lvlOf op = 0 := by
  unfold lvlOf
  split
  · rename_i h'
    obtain rfl | rfl | rfl | rfl | rfl | rfl | rfl | rfl | rfl : op = 20 ∨ op = 21 ∨ op = 22 ∨ op = 23 ∨ op = 24 ∨ op = 25 ∨ op = 26 ∨ op = 27 ∨ op = 28 := by omega
    all_goals rfl
  · rfl
theorem rlevel_out (op : Int) (h : op < 1 ∨ 19 < op) (w : World) : Calls Tryz.prog 70 #[.int .i64 op] w fun e w' => e = .returned (.int .i64 0) ∧ w = w' := by
  have n1 : (op == 1) = false := by simp; omega
  have n2 : (op == 2) = false := by simp; omega
  have n3 : (op == 3) = false := by simp; omega
  have n4 : (op == 4) = false := by simp; omega
  have n5 : (op == 5) = false := by simp; omega
  have n6 : (op == 6) = false := by simp; omega
  have n7 : (op == 7) = false := by simp; omega
  have n8 : (op == 8) = false := by simp; omega
  have n9 : (op == 9) = false := by simp; omega
  have n10 : (op == 10) = false := by simp; omega
  have n11 : (op == 11) = false := by simp; omega
  have n12 : (op == 12) = false := by simp; omega
  have n13 : (op == 13) = false := by simp; omega
  have n14 : (op == 14) = false := by simp; omega
  have n15 : (op == 15) = false := by simp; omega
  have n16 : (op == 16) = false := by simp; omega
  have n17 : (op == 17) = false := by simp; omega
  have n18 : (op == 18) = false := by simp; omega
  have n19 : (op == 19) = false := by simp; omega
  clear h
  go_enter Tryz.func70, Tryz.ntmps70
  go_wp2
  go_ret
  exact ⟨rfl, rfl⟩
theorem rlevel_any (op : Int) (w : World) : Calls Tryz.prog 70 #[.int .i64 op] w fun e w' => e = .returned (.int .i64 (lvlOf op)) ∧ w = w' := by
  by_cases h : 1 ≤ op ∧ op ≤ 19
  · exact rlevel_in op h w
  · rw [lvlOf_out op (by omega)]
    exact rlevel_out op (by omega) w
end Go.Proofs.YtakijoblbmfadaaGreatDoor

/- How expressions and statements lie in memory: slices of structs, in one another. -/
namespace Go.Proofs.YtakijoblbmfadaaGreatDoor
open Go.RowKit
/-- The package-level variables that the calls read, as the program's text lays them, below B. -/
structure TreeTab (B : Nat) (w : World) : Prop where
  lt : 6 < B
  rows : Tab w
  pow : ∀ w', Below B w w' → Lib.TabIs Tryz.prog w' "internal/strconv.uint64pow10" .u64 Lib.pow10Tab
theorem TreeTab.below {B : Nat} {w w' : World} (h : TreeTab B w) (hb : Below B w w') : TreeTab B w' where
  lt := h.lt
  rows := fun k hk => ⟨(hb.cell (p := ⟨6, k * 2, none⟩) h.lt).trans (h.rows k hk).1, (hb.cell (p := ⟨6, k * 2 + 1, none⟩) h.lt).trans (h.rows k hk).2⟩
  pow := fun w2 h2 => h.pow w2 (hb.trans h2)
theorem TreeTab.mono {B B' : Nat} {w : World} (h : TreeTab B w) (hB : B ≤ B') : TreeTab B' w where
  lt := Nat.lt_of_lt_of_le h.lt hB
  rows := h.rows
  pow := fun w2 h2 => h.pow w2 (h2.mono hB)
theorem nm_is (s : ByteArray) (b : Bool) (h : nmB s = b) (w : World) : Calls Tryz.prog 63 #[.string s] w fun e w' => e = .returned (.bool b) ∧ Below w.heap.size w w' := name_is s b h w
theorem rnm_is (s : ByteArray) (b : Bool) (h : nmB s = b) (w : World) : Calls Tryz.prog 36 #[.string s] w fun e w' => e = .returned (.bool b) ∧ w = w' := rname_is s b h w
theorem bcell {W w1 : World} (hb : Below W.heap.size W w1) : (∀ b o, b < W.heap.size → w1.cell? ⟨b, o, none⟩ = W.cell? ⟨b, o, none⟩) ∧ (∀ b o, b < W.heap.size → w1.frozen? ⟨b, o, none⟩ = W.frozen? ⟨b, o, none⟩) :=
  ⟨fun b o h => hb.cell (p := ⟨b, o, none⟩) h, fun b o h => hb.frozen (p := ⟨b, o, none⟩) h⟩
/-- A cell of a block below B. -/
def CellB (B : Nat) (w : World) (g o : Nat) (u : Value) : Prop := g < B ∧ w.cell? ⟨g, o, none⟩ = some u
/-- A slice of n elements whose first cell, if it has one, meets F. -/
def SlB (v : Value) (n : Nat) (F : Nat → Nat → Prop) : Prop :=
  ∃ (A : Option Addr) (cap : Nat), v = .slice A n cap ∧ n ≤ 281474976710656 ∧ (0 < n → ∃ g o, A = some ⟨g, o, none⟩ ∧ F g o)
/-- A number of the kind int. -/
def i64R (n : Int) : Prop := -9223372036854775808 ≤ n ∧ n ≤ 9223372036854775807
mutual
def RdE (B : Nat) (w : World) : Ex → Nat → Nat → Prop
  | .mk k op n name args, g, o => CellB B w g o (.int .i64 k) ∧ CellB B w g (o + 1) (.int .i64 op) ∧ CellB B w g (o + 2) (.int .i64 n) ∧ CellB B w g (o + 3) (.string name) ∧
      i64R n ∧ ∃ v, CellB B w g (o + 4) v ∧ SlB v args.length (RdEs B w args)
def RdEs (B : Nat) (w : World) : List Ex → Nat → Nat → Prop
  | [], _, _ => True
  | e :: r, g, o => RdE B w e g o ∧ RdEs B w r g (o + 5)
end
mutual
def RdS (B : Nat) (w : World) : St → Nat → Nat → Prop
  | .mk k ty name args thn els, g, o => CellB B w g o (.int .i64 k) ∧ CellB B w g (o + 1) (.int .i64 ty) ∧ CellB B w g (o + 2) (.string name) ∧
      (∃ v, CellB B w g (o + 3) v ∧ SlB v args.length (RdEs B w args)) ∧ (∃ v, CellB B w g (o + 4) v ∧ SlB v thn.length (RdSs B w thn)) ∧ (∃ v, CellB B w g (o + 5) v ∧ SlB v els.length (RdSs B w els))
def RdSs (B : Nat) (w : World) : List St → Nat → Nat → Prop
  | [], _, _ => True
  | s :: r, g, o => RdS B w s g o ∧ RdSs B w r g (o + 6)
end
theorem CellB.below {B B' : Nat} {w w' : World} (hb : Below B w w') (hB : B ≤ B') {g o : Nat} {u : Value} (h : CellB B w g o u) : CellB B' w' g o u := ⟨Nat.lt_of_lt_of_le h.1 hB, (hb.cell (p := ⟨g, o, none⟩) h.1).trans h.2⟩
theorem SlB.imp {v : Value} {n : Nat} {F G : Nat → Nat → Prop} (h : SlB v n F) (k : ∀ g o, F g o → G g o) : SlB v n G := by
  obtain ⟨A, cap, hv, hn, hF⟩ := h
  exact ⟨A, cap, hv, hn, fun hp => by obtain ⟨g, o, hA, hr⟩ := hF hp; exact ⟨g, o, hA, k g o hr⟩⟩
mutual
theorem RdE.below {B B' : Nat} {w w' : World} (hb : Below B w w') (hB : B ≤ B') : ∀ (e : Ex) (g o : Nat), RdE B w e g o → RdE B' w' e g o
  | .mk k op n name args, g, o, h => by
    rw [RdE] at h ⊢
    obtain ⟨h0, h1, h2, h3, hr, v, h4, hs⟩ := h
    exact ⟨h0.below hb hB, h1.below hb hB, h2.below hb hB, h3.below hb hB, hr, v, h4.below hb hB, hs.imp fun g' o' => RdEs.below hb hB args g' o'⟩
theorem RdEs.below {B B' : Nat} {w w' : World} (hb : Below B w w') (hB : B ≤ B') : ∀ (l : List Ex) (g o : Nat), RdEs B w l g o → RdEs B' w' l g o
  | [], _, _, _ => by rw [RdEs]; trivial
  | e :: r, g, o, h => by
    rw [RdEs] at h ⊢
    exact ⟨RdE.below hb hB e g o h.1, RdEs.below hb hB r g (o + 5) h.2⟩
end
mutual
theorem RdS.below {B B' : Nat} {w w' : World} (hb : Below B w w') (hB : B ≤ B') : ∀ (e : St) (g o : Nat), RdS B w e g o → RdS B' w' e g o
  | .mk k ty name args thn els, g, o, h => by
    rw [RdS] at h ⊢
    obtain ⟨h0, h1, h2, ⟨v, h3, hs⟩, ⟨v4, h4, hs4⟩, ⟨v5, h5, hs5⟩⟩ := h
    exact ⟨h0.below hb hB, h1.below hb hB, h2.below hb hB, ⟨v, h3.below hb hB, hs.imp fun g' o' => RdEs.below hb hB args g' o'⟩, ⟨v4, h4.below hb hB, hs4.imp fun g' o' => RdSs.below hb hB thn g' o'⟩, ⟨v5, h5.below hb hB, hs5.imp fun g' o' => RdSs.below hb hB els g' o'⟩⟩
theorem RdSs.below {B B' : Nat} {w w' : World} (hb : Below B w w') (hB : B ≤ B') : ∀ (l : List St) (g o : Nat), RdSs B w l g o → RdSs B' w' l g o
  | [], _, _, _ => by rw [RdSs]; trivial
  | e :: r, g, o, h => by
    rw [RdSs] at h ⊢
    exact ⟨RdS.below hb hB e g o h.1, RdSs.below hb hB r g (o + 6) h.2⟩
end
theorem RdEs.at {B : Nat} {w : World} : ∀ (l : List Ex) (g o i : Nat) (e : Ex), RdEs B w l g o → l[i]? = some e → RdE B w e g (o + i * 5)
  | [], _, _, _, _, _, h => by simp at h
  | a :: r, g, o, 0, e, h, hi => by
    rw [RdEs] at h
    simp at hi
    subst hi
    simpa using h.1
  | a :: r, g, o, i + 1, e, h, hi => by
    rw [RdEs] at h
    have := RdEs.at r g (o + 5) i e h.2 (by simpa using hi)
    rw [show o + (i + 1) * 5 = o + 5 + i * 5 by omega]
    exact this
theorem RdSs.at {B : Nat} {w : World} : ∀ (l : List St) (g o i : Nat) (e : St), RdSs B w l g o → l[i]? = some e → RdS B w e g (o + i * 6)
  | [], _, _, _, _, _, h => by simp at h
  | a :: r, g, o, 0, e, h, hi => by
    rw [RdSs] at h
    simp at hi
    subst hi
    simpa using h.1
  | a :: r, g, o, i + 1, e, h, hi => by
    rw [RdSs] at h
    have := RdSs.at r g (o + 6) i e h.2 (by simpa using hi)
    rw [show o + (i + 1) * 6 = o + 6 + i * 6 by omega]
    exact this
/-- A slice that reads as a list of expressions; of statements. -/
def SlE (B : Nat) (w : World) (v : Value) (l : List Ex) : Prop := SlB v l.length (RdEs B w l)
def SlS (B : Nat) (w : World) (v : Value) (l : List St) : Prop := SlB v l.length (RdSs B w l)
theorem SlE.below {B B' : Nat} {w w' : World} {v : Value} {l : List Ex} (h : SlE B w v l) (hb : Below B w w') (hB : B ≤ B') : SlE B' w' v l := SlB.imp h fun g o => RdEs.below hb hB l g o
theorem SlS.below {B B' : Nat} {w w' : World} {v : Value} {l : List St} (h : SlS B w v l) (hb : Below B w w') (hB : B ≤ B') : SlS B' w' v l := SlB.imp h fun g o => RdSs.below hb hB l g o
/-- The cells of an element of such a slice. -/
theorem SlE.cells {B : Nat} {w : World} {A : Option Addr} {n cap : Nat} {l : List Ex} (h : SlE B w (.slice A n cap) l) {i : Nat} {k op m : Int} {name : ByteArray} {args : List Ex} (hi : l[i]? = some (.mk k op m name args)) :
    ∃ (g o : Nat) (v : Value), A = some ⟨g, o, none⟩ ∧ g < B ∧ w.cell? ⟨g, o + i * 5, none⟩ = some (.int .i64 k) ∧ w.cell? ⟨g, o + i * 5 + 1, none⟩ = some (.int .i64 op) ∧ w.cell? ⟨g, o + i * 5 + 2, none⟩ = some (.int .i64 m) ∧
      w.cell? ⟨g, o + i * 5 + 3, none⟩ = some (.string name) ∧ w.cell? ⟨g, o + i * 5 + 4, none⟩ = some v ∧ SlE B w v args := by
  obtain ⟨A', cap', hv, hn, hF⟩ := h
  injection hv with e1 e2 e3
  subst e1
  obtain ⟨g, o, hA, hr⟩ := hF (by have := (List.getElem?_eq_some_iff.1 hi).1; omega)
  have hr' := RdEs.at l g o i _ hr hi
  rw [RdE] at hr'
  obtain ⟨h0, h1, h2, h3, _, v, h4, hs⟩ := hr'
  exact ⟨g, o, v, hA, h0.1, h0.2, h1.2, h2.2, h3.2, h4.2, hs⟩
theorem SlE.range {B : Nat} {w : World} {v : Value} {l : List Ex} (h : SlE B w v l) {i : Nat} {k op m : Int} {name : ByteArray} {args : List Ex} (hi : l[i]? = some (.mk k op m name args)) : i64R m := by
  obtain ⟨A', cap', hv, hn, hF⟩ := h
  obtain ⟨g, o, hA, hr⟩ := hF (by have := (List.getElem?_eq_some_iff.1 hi).1; omega)
  have hr' := RdEs.at l g o i _ hr hi
  rw [RdE] at hr'
  exact hr'.2.2.2.2.1
theorem SlS.cells {B : Nat} {w : World} {A : Option Addr} {n cap : Nat} {l : List St} (h : SlS B w (.slice A n cap) l) {i : Nat} {k ty : Int} {name : ByteArray} {args : List Ex} {thn els : List St} (hi : l[i]? = some (.mk k ty name args thn els)) :
    ∃ (g o : Nat) (v v4 v5 : Value), A = some ⟨g, o, none⟩ ∧ g < B ∧ w.cell? ⟨g, o + i * 6, none⟩ = some (.int .i64 k) ∧ w.cell? ⟨g, o + i * 6 + 1, none⟩ = some (.int .i64 ty) ∧ w.cell? ⟨g, o + i * 6 + 2, none⟩ = some (.string name) ∧
      w.cell? ⟨g, o + i * 6 + 3, none⟩ = some v ∧ w.cell? ⟨g, o + i * 6 + 4, none⟩ = some v4 ∧ w.cell? ⟨g, o + i * 6 + 5, none⟩ = some v5 ∧ SlE B w v args ∧ SlS B w v4 thn ∧ SlS B w v5 els := by
  obtain ⟨A', cap', hv, hn, hF⟩ := h
  injection hv with e1 e2 e3
  subst e1
  obtain ⟨g, o, hA, hr⟩ := hF (by have := (List.getElem?_eq_some_iff.1 hi).1; omega)
  have hr' := RdSs.at l g o i _ hr hi
  rw [RdS] at hr'
  obtain ⟨h0, h1, h2, ⟨v, h3, hs⟩, ⟨v4, h4, hs4⟩, ⟨v5, h5, hs5⟩⟩ := hr'
  exact ⟨g, o, v, v4, v5, hA, h0.1, h0.2, h1.2, h2.2, h3.2, h4.2, h5.2, hs, hs4, hs5⟩
/-! ### arrays, parameters, functions -/
def RdL {α : Type} (size : Nat) (F : α → Nat → Nat → Prop) : List α → Nat → Nat → Prop
  | [], _, _ => True
  | a :: r, g, o => F a g o ∧ RdL size F r g (o + size)
theorem RdL.imp {α : Type} {size : Nat} {F G : α → Nat → Nat → Prop} (k : ∀ a g o, F a g o → G a g o) : ∀ (l : List α) (g o : Nat), RdL size F l g o → RdL size G l g o
  | [], _, _, _ => trivial
  | a :: r, g, o, h => ⟨k a g o h.1, RdL.imp k r g (o + size) h.2⟩
theorem RdL.at {α : Type} {size : Nat} {F : α → Nat → Nat → Prop} : ∀ (l : List α) (g o i : Nat) (a : α), RdL size F l g o → l[i]? = some a → F a g (o + i * size)
  | [], _, _, _, _, _, h => by simp at h
  | a :: r, g, o, 0, e, h, hi => by
    simp at hi
    subst hi
    simpa using h.1
  | a :: r, g, o, i + 1, e, h, hi => by
    have := RdL.at r g (o + size) i e h.2 (by simpa using hi)
    rw [show o + (i + 1) * size = o + size + i * size by rw [Nat.add_mul, Nat.one_mul]; omega]
    exact this
def RdA (B : Nat) (w : World) (a : Ar) (g o : Nat) : Prop := CellB B w g o (.string a.name) ∧ CellB B w g (o + 1) (.int .i64 a.size)
def RdP (B : Nat) (w : World) (a : Pa) (g o : Nat) : Prop := CellB B w g o (.string a.name) ∧ CellB B w g (o + 1) (.int .i64 a.type)
def SlA (B : Nat) (w : World) (v : Value) (l : List Ar) : Prop := SlB v l.length (RdL 2 (RdA B w) l)
def SlP (B : Nat) (w : World) (v : Value) (l : List Pa) : Prop := SlB v l.length (RdL 2 (RdP B w) l)
def RdF (B : Nat) (w : World) (f : Fu) (g o : Nat) : Prop := CellB B w g o (.string f.name) ∧ CellB B w g (o + 1) (.int .i64 f.type) ∧ (∃ v, CellB B w g (o + 2) v ∧ SlP B w v f.params) ∧ (∃ v, CellB B w g (o + 3) v ∧ SlS B w v f.body)
def SlF (B : Nat) (w : World) (v : Value) (l : List Fu) : Prop := SlB v l.length (RdL 4 (RdF B w) l)
theorem RdA.below {B B' : Nat} {w w' : World} (hb : Below B w w') (hB : B ≤ B') (a : Ar) (g o : Nat) (h : RdA B w a g o) : RdA B' w' a g o := ⟨h.1.below hb hB, h.2.below hb hB⟩
theorem RdP.below {B B' : Nat} {w w' : World} (hb : Below B w w') (hB : B ≤ B') (a : Pa) (g o : Nat) (h : RdP B w a g o) : RdP B' w' a g o := ⟨h.1.below hb hB, h.2.below hb hB⟩
theorem SlA.below {B B' : Nat} {w w' : World} {v : Value} {l : List Ar} (h : SlA B w v l) (hb : Below B w w') (hB : B ≤ B') : SlA B' w' v l := SlB.imp h fun g o => RdL.imp (fun a g o => RdA.below hb hB a g o) l g o
theorem SlP.below {B B' : Nat} {w w' : World} {v : Value} {l : List Pa} (h : SlP B w v l) (hb : Below B w w') (hB : B ≤ B') : SlP B' w' v l := SlB.imp h fun g o => RdL.imp (fun a g o => RdP.below hb hB a g o) l g o
theorem RdF.below {B B' : Nat} {w w' : World} (hb : Below B w w') (hB : B ≤ B') (a : Fu) (g o : Nat) (h : RdF B w a g o) : RdF B' w' a g o := by
  obtain ⟨h0, h1, ⟨v, h2, h3⟩, ⟨v', h4, h5⟩⟩ := h
  exact ⟨h0.below hb hB, h1.below hb hB, ⟨v, h2.below hb hB, h3.below hb hB⟩, ⟨v', h4.below hb hB, h5.below hb hB⟩⟩
theorem SlF.below {B B' : Nat} {w w' : World} {v : Value} {l : List Fu} (h : SlF B w v l) (hb : Below B w w') (hB : B ≤ B') : SlF B' w' v l := SlB.imp h fun g o => RdL.imp (fun a g o => RdF.below hb hB a g o) l g o
theorem SlB.elem {v : Value} {n : Nat} {F : Nat → Nat → Prop} {A : Option Addr} {m cap : Nat} (h : SlB v n F) (hv : v = .slice A m cap) (hp : 0 < n) : ∃ g o, A = some ⟨g, o, none⟩ ∧ F g o := by
  obtain ⟨A', cap', hv', _, hF⟩ := h
  rw [hv] at hv'
  injection hv' with e1 _ _
  subst e1
  exact hF hp
theorem SlA.cells {B : Nat} {w : World} {A : Option Addr} {n cap : Nat} {l : List Ar} (h : SlA B w (.slice A n cap) l) {i : Nat} {a : Ar} (hi : l[i]? = some a) :
    ∃ (g o : Nat), A = some ⟨g, o, none⟩ ∧ g < B ∧ w.cell? ⟨g, o + i * 2, none⟩ = some (.string a.name) ∧ w.cell? ⟨g, o + i * 2 + 1, none⟩ = some (.int .i64 a.size) := by
  obtain ⟨g, o, hA, hr⟩ := SlB.elem h rfl (by have := (List.getElem?_eq_some_iff.1 hi).1; omega)
  have := RdL.at l g o i a hr hi
  exact ⟨g, o, hA, this.1.1, this.1.2, this.2.2⟩
theorem SlP.cells {B : Nat} {w : World} {A : Option Addr} {n cap : Nat} {l : List Pa} (h : SlP B w (.slice A n cap) l) {i : Nat} {a : Pa} (hi : l[i]? = some a) :
    ∃ (g o : Nat), A = some ⟨g, o, none⟩ ∧ g < B ∧ w.cell? ⟨g, o + i * 2, none⟩ = some (.string a.name) ∧ w.cell? ⟨g, o + i * 2 + 1, none⟩ = some (.int .i64 a.type) := by
  obtain ⟨g, o, hA, hr⟩ := SlB.elem h rfl (by have := (List.getElem?_eq_some_iff.1 hi).1; omega)
  have := RdL.at l g o i a hr hi
  exact ⟨g, o, hA, this.1.1, this.1.2, this.2.2⟩
theorem SlF.cells {B : Nat} {w : World} {A : Option Addr} {n cap : Nat} {l : List Fu} (h : SlF B w (.slice A n cap) l) {i : Nat} {f : Fu} (hi : l[i]? = some f) :
    ∃ (g o : Nat) (v v' : Value), A = some ⟨g, o, none⟩ ∧ g < B ∧ w.cell? ⟨g, o + i * 4, none⟩ = some (.string f.name) ∧ w.cell? ⟨g, o + i * 4 + 1, none⟩ = some (.int .i64 f.type) ∧ w.cell? ⟨g, o + i * 4 + 2, none⟩ = some v ∧ w.cell? ⟨g, o + i * 4 + 3, none⟩ = some v' ∧ SlP B w v f.params ∧ SlS B w v' f.body := by
  obtain ⟨g, o, hA, hr⟩ := SlB.elem h rfl (by have := (List.getElem?_eq_some_iff.1 hi).1; omega)
  obtain ⟨h0, h1, ⟨v, h2, h3⟩, ⟨v', h4, h5⟩⟩ := RdL.at l g o i f hr hi
  exact ⟨g, o, v, v', hA, h0.1, h0.2, h1.2, h2.2, h4.2, h3, h5⟩
theorem SlA.form {B : Nat} {w : World} {v : Value} {l : List Ar} (h : SlA B w v l) : ∃ A cap, v = .slice A l.length cap ∧ l.length ≤ 281474976710656 := by
  obtain ⟨A, cap, hv, hn, _⟩ := h
  exact ⟨A, cap, hv, hn⟩
theorem SlP.form {B : Nat} {w : World} {v : Value} {l : List Pa} (h : SlP B w v l) : ∃ A cap, v = .slice A l.length cap ∧ l.length ≤ 281474976710656 := by
  obtain ⟨A, cap, hv, hn, _⟩ := h
  exact ⟨A, cap, hv, hn⟩
theorem SlF.form {B : Nat} {w : World} {v : Value} {l : List Fu} (h : SlF B w v l) : ∃ A cap, v = .slice A l.length cap ∧ l.length ≤ 281474976710656 := by
  obtain ⟨A, cap, hv, hn, _⟩ := h
  exact ⟨A, cap, hv, hn⟩
theorem SlE.form {B : Nat} {w : World} {v : Value} {l : List Ex} (h : SlE B w v l) : ∃ A cap, v = .slice A l.length cap ∧ l.length ≤ 281474976710656 := by
  obtain ⟨A, cap, hv, hn, _⟩ := h
  exact ⟨A, cap, hv, hn⟩
theorem SlS.form {B : Nat} {w : World} {v : Value} {l : List St} (h : SlS B w v l) : ∃ A cap, v = .slice A l.length cap ∧ l.length ≤ 281474976710656 := by
  obtain ⟨A, cap, hv, hn, _⟩ := h
  exact ⟨A, cap, hv, hn⟩
end Go.Proofs.YtakijoblbmfadaaGreatDoor
