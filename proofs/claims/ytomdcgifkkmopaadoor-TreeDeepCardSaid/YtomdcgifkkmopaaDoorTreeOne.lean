/- The contracts of the methods operand and one of package tree, over that of expr. -/
import Derived.Test.YtomdcgifkkmopaaDoorTreeList
import Derived.Deep.RegionHeld3
namespace Go.Proofs.YtomdcgifkkmopaaDoor
open Go.RowKit
theorem below_drewN {B : Nat} {a w : World} (h : Below B a w) (n : Nat) : Below B a (w.drewN n) := ⟨h.os, h.tape, h.output, h.size, h.block⟩
theorem TextAt.drewN {B b : Nat} {bs : List UInt8} {tabs : Nat} {w : World} (h : TextAt B b bs tabs w) (n : Nat) : TextAt B b bs tabs (w.drewN n) := h
theorem Wr.drewN {B b : Nat} {w w1 : World} (h : Wr B b w w1) (n : Nat) : Wr B b w (w1.drewN n) := ⟨below_drewN h.1 n, h.2⟩
theorem pts3 (a b c : Pt) : ptsT [a, b, c] = ptT a ++ (ptT b ++ ptT c) := by simp [ptsT]
theorem pts2 (a b : Pt) : ptsT [a, b] = ptT a ++ ptT b := by simp [ptsT]
theorem pts4 (a b c d : Pt) : ptsT [a, b, c, d] = ptT a ++ (ptT b ++ (ptT c ++ ptT d)) := by simp [ptsT]
theorem forall_list {P : Pt → Prop} {l : List Pt} (h : ∀ p ∈ l, P p) : ∀ (i : Nat) p, l[i]? = some p → P p := fun _ _ hi => h _ (List.mem_of_getElem? hi)
theorem sizeB (l : List UInt8) : (⟨l.toArray⟩ : ByteArray).data.toList = l := rfl
theorem opT_plain {lev : Int} {e : Ex} (h : ¬ (e.kind = 5 ∧ lvlOf e.op < lev)) : opT lev e = exT e := by unfold opT parT; rw [if_neg h]
theorem opT_paren {lev : Int} {e : Ex} (h : e.kind = 5 ∧ lvlOf e.op < lev) : opT lev e = ptsT [.str ⟨#[40]⟩, .ex e, .str ⟨#[41]⟩] := by
  unfold opT parT
  rw [if_pos h, pts3]
  rfl
theorem OpV.elim {B : Nat} {w : World} {k op n : Int} {name : ByteArray} {args : List Ex} {lev : Int} {x : Value} (h : OpV B w (.mk k op n name args) lev x) : ∃ A cap, x = .agg #[.int .i64 k, .int .i64 op, .int .i64 n, .string name, .slice A args.length cap, .int .i64 lev] ∧ i64R n ∧ SlE B w (.slice A args.length cap) args := by
  obtain ⟨v, hx, hr, hs⟩ := h
  obtain ⟨A, cap, rfl, _⟩ := hs.form
  exact ⟨A, cap, hx, hr, hs⟩
theorem ExV.elim {B : Nat} {w : World} {k op n : Int} {name : ByteArray} {args : List Ex} {x : Value} (h : ExV B w (.mk k op n name args) x) : ∃ A cap, x = .agg #[.int .i64 k, .int .i64 op, .int .i64 n, .string name, .slice A args.length cap] ∧ i64R n ∧ SlE B w (.slice A args.length cap) args := by
  obtain ⟨v, hx, hr, hs⟩ := h
  obtain ⟨A, cap, rfl, _⟩ := hs.form
  exact ⟨A, cap, hx, hr, hs⟩
section
variable (B b : Nat) (e : Ex) (hx : ExC B b e)
include hx
theorem write_paren : WrC B b [.str ⟨#[40]⟩, .ex e, .str ⟨#[41]⟩] := write_core B b _ (forall_list fun p hp => by
  simp only [List.mem_cons, List.not_mem_nil, or_false] at hp
  rcases hp with rfl | rfl | rfl
  · trivial
  · exact hx
  · trivial)
set_option maxHeartbeats 2000000 in
set_option maxRecDepth 100000 in
theorem operand_any (lev : Int) : OpC B b e lev := by
  intro bs tabs w v hT ht hB hv hl
  obtain ⟨k, op, n, name, args⟩ := e
  obtain ⟨A, cap, rfl, hr, hs⟩ := OpV.elim hv
  have HT := Lib.hid hT
  have HTT := Lib.hid ht
  have HX := Lib.hid hx
  have HE : Hid (∀ w', Below B w w' → ExV B w' (.mk k op n name args) (.agg #[.int .i64 k, .int .i64 op, .int .i64 n, .string name, .slice A args.length cap])) := fun w' hb => ⟨_, rfl, hr, hs.below hb (Nat.le_refl _)⟩
  have HP : Hid (∀ w', Below B w w' → PtVs B w' [.str ⟨#[40]⟩, .ex (.mk k op n name args), .str ⟨#[41]⟩] (#[.iface 9 (.string ⟨#[40]⟩), .iface 24 (.agg #[.int .i64 k, .int .i64 op, .int .i64 n, .string name, .slice A args.length cap]), .iface 9 (.string ⟨#[41]⟩)] : Array Value).toList) :=
    fun w' hb => ⟨rfl, ⟨_, rfl, ⟨_, rfl, hr, hs.below hb (Nat.le_refl _)⟩⟩, rfl, trivial⟩
  have HW := Lib.hid (write_paren B b _ hx)
  by_cases hp : k = 5 ∧ lvlOf op < lev
  · have ho : opT lev (.mk k op n name args) = _ := opT_paren hp
    rw [ho] at hl ⊢
    have HL := Lib.hid hl
    obtain ⟨rfl, hlv⟩ := hp
    clear hT ht hx hs hr hl ho hv
    go_enter Tryd.func39, Tryd.ntmps39
    go_wp2_with (fail)
    go_region_with (go_at_call 53; (refine (level_any op _ (HTT.out.below ((Below.refl _ _).alloc hB _).drew).rows).mono ?_); rintro e w1 ⟨rfl, hb1⟩; obtain ⟨hc1, hf1⟩ := bcell hb1)
    all_goals have hz1 : B ≤ w1.heap.size := by have := hb1.size; simp at this; omega
    all_goals have hw1 : Wr B b w w1 := (((Wr.refl B b w).alloc hB _).drew).trans (Wr.of_below hb1 (by simp; omega))
    all_goals have hq1 : w.heap.size < w1.heap.size := by have := hb1.size; simp at this; omega
    all_goals have HT1 := Lib.hid (((HT.out.alloc (.cells #[.int .i64 5, .int .i64 op, .int .i64 n, .string name, .slice A args.length cap, .int .i64 lev] 81)).drew).below hb1)
    all_goals
      go_wp2_with (go_at_call 21; (with_reducible refine (WrC.call (HT1.out.alloc _) (HTT.out.below (hw1.bel.alloc hz1 _)) (by simp; omega) HW.out (PtsAt.made hz1 (HP.out _ hw1.bel) _ 3 rfl rfl (by decide)) HL.out).mono ?_); rintro e w2 ⟨rfl, hT2, hw2⟩)
      go_end0
      exact ⟨rfl, hT2, (hw1.alloc hz1 _).trans hw2⟩
  · have ho : opT lev (.mk k op n name args) = _ := opT_plain hp
    rw [ho] at hl ⊢
    have HL := Lib.hid hl
    clear hT ht hx hs hr hl ho hv
    by_cases h5 : k = 5
    · subst h5
      have hlv : ¬ lvlOf op < lev := fun h => hp ⟨rfl, h⟩
      clear hp
      go_enter Tryd.func39, Tryd.ntmps39
      go_wp2_with (fail)
      go_region_with (go_at_call 53; (refine (level_any op _ (HTT.out.below ((Below.refl _ _).alloc hB _).drew).rows).mono ?_); rintro e w1 ⟨rfl, hb1⟩; obtain ⟨hc1, hf1⟩ := bcell hb1)
      all_goals
        have hz1 : B ≤ w1.heap.size := by have := hb1.size; simp at this; omega
        have hw1 : Wr B b w w1 := (((Wr.refl B b w).alloc hB _).drew).trans (Wr.of_below hb1 (by simp; omega))
        have hq1 : w.heap.size < w1.heap.size := by have := hb1.size; simp at this; omega
        have HT1 := Lib.hid (((HT.out.alloc (.cells #[.int .i64 5, .int .i64 op, .int .i64 n, .string name, .slice A args.length cap, .int .i64 lev] 81)).drew).below hb1)
        go_wp2_with (go_at_call 37; (with_reducible refine (ExC.call HT1.out (HTT.out.below hw1.bel) hz1 HX.out (HE.out _ hw1.bel) HL.out).mono ?_); rintro e w2 ⟨rfl, hT2, hw2⟩)
        go_end0
        exact ⟨rfl, hT2, hw1.trans hw2⟩
    · have hn : (k == 5) = false := by simpa using h5
      clear h5 hp
      go_enter Tryd.func39, Tryd.ntmps39
      go_wp2_with (fail)
      go_quiet (fail)
      go_wp2_with (go_at_call 37; (with_reducible refine (ExC.call ((HT.out.alloc _).drewN _) (HTT.out.below (below_drewN ((Below.refl _ _).alloc hB _) _)) (by simp; omega) HX.out (HE.out _ (below_drewN ((Below.refl _ _).alloc hB _) _)) HL.out).mono ?_); rintro e w1 ⟨rfl, hT1, hw1⟩)
      go_end0
      exact ⟨rfl, hT1, (((Wr.refl B b w).alloc hB _).drewN _).trans hw1⟩
end
end Go.Proofs.YtomdcgifkkmopaaDoor
