/- The contract of the method one of package tree, over that of expr. -/
import Derived.Test.YtomdcgifkkmopaaDoorTreeOne
namespace Go.Proofs.YtomdcgifkkmopaaDoor
open Go.RowKit
def oneT (op : Int) (e : Ex) : List UInt8 := if 23 ≤ op then (sgnOf op).data.toList ++ 40 :: (exT e ++ [41]) else (sgnOf op).data.toList ++ opT 11 e
theorem oneT_call {op : Int} {e : Ex} (h : 23 ≤ op) : oneT op e = ptsT [.str (sgnOf op), .str ⟨#[40]⟩, .ex e, .str ⟨#[41]⟩] := by
  unfold oneT
  rw [if_pos h, pts4]
  rfl
theorem oneT_sign {op : Int} {e : Ex} (h : ¬ 23 ≤ op) : oneT op e = ptsT [.str (sgnOf op), .opd e 11] := by
  unfold oneT
  rw [if_neg h, pts2]
  rfl
section
variable (B b : Nat) (e : Ex) (hx : ExC B b e)
include hx
theorem write_call (s : ByteArray) : WrC B b [.str s, .str ⟨#[40]⟩, .ex e, .str ⟨#[41]⟩] := write_core B b _ (forall_list fun p hp => by
  simp only [List.mem_cons, List.not_mem_nil, or_false] at hp
  rcases hp with rfl | rfl | rfl | rfl
  · trivial
  · trivial
  · exact hx
  · trivial)
theorem write_sign (s : ByteArray) : WrC B b [.str s, .opd e 11] := write_core B b _ (forall_list fun p hp => by
  simp only [List.mem_cons, List.not_mem_nil, or_false] at hp
  rcases hp with rfl | rfl
  · trivial
  · exact operand_any B b e hx 11)
def OneC (B b : Nat) (op : Int) (e : Ex) : Prop := ∀ (bs : List UInt8) (tabs : Nat) (w : World) (v : Value), TextAt B b bs tabs w → TreeTab B w → B ≤ w.heap.size → ExV B w e v → bs.length + (oneT op e).length ≤ 140737488355328 →
  Calls Tryd.prog 52 #[.pointer (some ⟨b, 0, none⟩), .int .i64 op, v] w (Posted B b bs tabs w (oneT op e))
omit hx in
theorem OneC.call {B b : Nat} {bs : List UInt8} {tabs : Nat} {w : World} {v : Value} (hT : TextAt B b bs tabs w) (ht : TreeTab B w) (hB : B ≤ w.heap.size) {op : Int} {e : Ex} (h : OneC B b op e) (hv : ExV B w e v) (hl : bs.length + (oneT op e).length ≤ 140737488355328) :
    Calls Tryd.prog 52 #[.pointer (some ⟨b, 0, none⟩), .int .i64 op, v] w (Posted B b bs tabs w (oneT op e)) := h bs tabs w v hT ht hB hv hl
set_option maxHeartbeats 2000000 in
set_option maxRecDepth 100000 in
theorem one_any (op : Int) : OneC B b op e := by
  intro bs tabs w v hT ht hB hv hl
  obtain ⟨k, op', n, name, args⟩ := e
  obtain ⟨A, cap, rfl, hr, hs⟩ := ExV.elim hv
  have HT := Lib.hid hT
  have HTT := Lib.hid ht
  have HP : Hid (∀ w', Below B w w' → PtVs B w' [.str (sgnOf op), .str ⟨#[40]⟩, .ex (.mk k op' n name args), .str ⟨#[41]⟩] (#[.iface 9 (.string (sgnOf op)), .iface 9 (.string ⟨#[40]⟩), .iface 24 (.agg #[.int .i64 k, .int .i64 op', .int .i64 n, .string name, .slice A args.length cap]), .iface 9 (.string ⟨#[41]⟩)] : Array Value).toList) :=
    fun w' hb => ⟨rfl, rfl, ⟨_, rfl, ⟨_, rfl, hr, hs.below hb (Nat.le_refl _)⟩⟩, rfl, trivial⟩
  have HP2 : Hid (∀ w', Below B w w' → PtVs B w' [.str (sgnOf op), .opd (.mk k op' n name args) 11] (#[.iface 9 (.string (sgnOf op)), .iface 81 (.agg #[.int .i64 k, .int .i64 op', .int .i64 n, .string name, .slice A args.length cap, .int .i64 11])] : Array Value).toList) :=
    fun w' hb => ⟨rfl, ⟨_, rfl, ⟨_, rfl, hr, hs.below hb (Nat.le_refl _)⟩⟩, trivial⟩
  have HW := Lib.hid (write_call B b _ hx (sgnOf op))
  have HW2 := Lib.hid (write_sign B b _ hx (sgnOf op))
  by_cases hp : 23 ≤ op
  · have ho : oneT op (.mk k op' n name args) = _ := oneT_call hp
    rw [ho] at hl ⊢
    have HL := Lib.hid hl
    clear hT ht hx hs hr hl ho hv HP2 HW2
    go_enter Tryd.func52, Tryd.ntmps52
    go_wp2_with (fail)
    go_region_with (first
      | (go_at_call 54
         (refine (sign_any op _ (HTT.out.below ((Below.refl _ _).alloc hB _).drew).rows).mono ?_)
         rintro e w1 ⟨rfl, hb1⟩
         obtain ⟨hc1, hf1⟩ := bcell hb1
         have hz1 : B ≤ w1.heap.size := (by have := hb1.size; simp at this; omega)
         have hw1 : Wr B b w w1 := (((Wr.refl B b w).alloc hB _).drew).trans (Wr.of_below hb1 (by simp; omega))
         have hq1 : w.heap.size < w1.heap.size := (by have := hb1.size; simp at this; omega)
         have HT1 := Lib.hid (((HT.out.alloc (.cells #[.int .i64 k, .int .i64 op', .int .i64 n, .string name, .slice A args.length cap] 24)).drew).below hb1))
      | (go_at_call 21
         (refine (WrC.call (HT1.out.alloc _) (HTT.out.below (hw1.bel.alloc hz1 _)) (by simp; omega) HW.out (PtsAt.made hz1 (HP.out _ hw1.bel) _ 4 rfl rfl (by decide)) HL.out).mono ?_)
         rintro e w2 ⟨rfl, hT2, hw2⟩))
    all_goals
      go_wp2_with (fail)
      go_end0
      exact ⟨rfl, hT2, (hw1.alloc hz1 _).trans hw2⟩
  · have ho : oneT op (.mk k op' n name args) = _ := oneT_sign hp
    rw [ho] at hl ⊢
    have HL := Lib.hid hl
    clear hT ht hx hs hr hl ho hv HP HW
    go_enter Tryd.func52, Tryd.ntmps52
    go_wp2_with (fail)
    go_region_with (first
      | (go_at_call 54
         (refine (sign_any op _ (HTT.out.below ((Below.refl _ _).alloc hB _).drew).rows).mono ?_)
         rintro e w1 ⟨rfl, hb1⟩
         obtain ⟨hc1, hf1⟩ := bcell hb1
         have hz1 : B ≤ w1.heap.size := (by have := hb1.size; simp at this; omega)
         have hw1 : Wr B b w w1 := (((Wr.refl B b w).alloc hB _).drew).trans (Wr.of_below hb1 (by simp; omega))
         have hq1 : w.heap.size < w1.heap.size := (by have := hb1.size; simp at this; omega)
         have HT1 := Lib.hid (((HT.out.alloc (.cells #[.int .i64 k, .int .i64 op', .int .i64 n, .string name, .slice A args.length cap] 24)).drew).below hb1))
      | (go_at_call 21
         (refine (WrC.call (HT1.out.alloc _) (HTT.out.below (hw1.bel.alloc hz1 _)) (by simp; omega) HW2.out (PtsAt.made hz1 (HP2.out _ hw1.bel) _ 2 rfl rfl (by decide)) HL.out).mono ?_)
         rintro e w2 ⟨rfl, hT2, hw2⟩))
    all_goals
      go_wp2_with (fail)
      go_end0
      exact ⟨rfl, hT2, (hw1.alloc hz1 _).trans hw2⟩
end
end Go.Proofs.YtomdcgifkkmopaaDoor
