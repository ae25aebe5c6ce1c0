/- The contracts of the methods block and stmt of package tree: lists of statements, if, while. -/
import Derived.Test.YtomdcgifkkmopaaDoorTreeStmt
namespace Go.Proofs.YtomdcgifkkmopaaDoor
open Go.RowKit
theorem TextAt.frozen2 {B b : Nat} {bs : List UInt8} {tabs : Nat} {w : World} (h : TextAt B b bs tabs w) : w.frozen? ⟨b, 2, none⟩ = false := by
  obtain ⟨_, p, v, _, hb, _⟩ := h
  exact Lib.frozen_of_heap hb 2
theorem TextAt.setTabs {B b : Nat} {bs : List UInt8} {tabs : Nat} {w : World} (h : TextAt B b bs tabs w) (t : Nat) (z : Int) (hz : z = (t : Int)) : TextAt B b bs t (w.setCell ⟨b, 2, none⟩ (.int .i64 z)) := by
  subst hz
  obtain ⟨hB, p, v, hp, hb, ho⟩ := h
  exact ⟨hB, p, v, hp, setCell_block hb _, owns_set ho hb _⟩
theorem TextAt.base {B b : Nat} {bs : List UInt8} {tabs : Nat} {w : World} (h : TextAt B b bs tabs w) : B ≤ b := h.1
def StT (B b T : Nat) (s : St) : Prop := ∀ (bs : List UInt8) (w : World) (v : Value), TextAt B b bs T w → TreeTab B w → B ≤ w.heap.size → (match s with | .mk k ty name args thn els => StV B w k ty name args thn els v) → bs.length + (stT s T).length ≤ 140737488355328 →
  Calls Tryd.prog 22 #[.pointer (some ⟨b, 0, none⟩), v] w (Posted B b bs T w (stT s T))
theorem StT.call {B b T : Nat} {k ty : Int} {name : ByteArray} {args : List Ex} {thn els : List St} {bs : List UInt8} {w : World} {v : Value} (hT : TextAt B b bs T w) (ht : TreeTab B w) (hB : B ≤ w.heap.size) (h : StT B b T (.mk k ty name args thn els)) (hv : StV B w k ty name args thn els v) (hl : bs.length + (stT (.mk k ty name args thn els) T).length ≤ 140737488355328) :
    Calls Tryd.prog 22 #[.pointer (some ⟨b, 0, none⟩), v] w (Posted B b bs T w (stT (.mk k ty name args thn els) T)) := h bs w v hT ht hB hv hl
def BlC (B b T : Nat) (l : List St) : Prop := ∀ (bs : List UInt8) (w : World) (v : Value), TextAt B b bs T w → TreeTab B w → B ≤ w.heap.size → SlS B w v l → bs.length + (stsT l (T + 1)).length ≤ 140737488355328 →
  Calls Tryd.prog 10 #[.pointer (some ⟨b, 0, none⟩), v] w (Posted B b bs T w (stsT l (T + 1)))
theorem BlC.call {B b T : Nat} {l : List St} {bs : List UInt8} {w : World} {v : Value} (hT : TextAt B b bs T w) (ht : TreeTab B w) (hB : B ≤ w.heap.size) (h : BlC B b T l) (hv : SlS B w v l) (hl : bs.length + (stsT l (T + 1)).length ≤ 140737488355328) :
    Calls Tryd.prog 10 #[.pointer (some ⟨b, 0, none⟩), v] w (Posted B b bs T w (stsT l (T + 1))) := h bs w v hT ht hB hv hl
theorem stsT_len {l : List St} {i T : Nat} {s : St} (h : l[i]? = some s) : (stsT (l.take i) T).length + (stT s T).length ≤ (stsT l T).length := by
  have e : stsT l T = stsT (l.take (i + 1)) T ++ stsT (l.drop (i + 1)) T := by rw [← stsT_app, List.take_append_drop]
  rw [e, stsT_take h, List.length_append, List.length_append]
  omega
set_option maxHeartbeats 2000000 in
set_option maxRecDepth 100000 in
theorem block_any (B b T : Nat) (hT9 : T ≤ 990) (l : List St) (hs : ∀ (i : Nat) s, l[i]? = some s → StT B b (T + 1) s) : BlC B b T l := by
  intro bs w v hT ht hB hv hl
  obtain ⟨A, cap, rfl, hn⟩ := hv.form
  have c2 := hT.tabs
  have f2 := hT.frozen2
  have HB := Lib.hid hT.base
  have HT0 := Lib.hid (hT.setTabs (T + 1) ((T : Int) + 1) (by simp))
  have HTT := Lib.hid ht
  have HV := Lib.hid hv
  have HL := Lib.hid hl
  have HS := Lib.hid hs
  have HW0 : Hid (Wr B b w (w.setCell ⟨b, 2, none⟩ (.int .i64 ((T : Int) + 1)))) := (Wr.refl B b w).setCell hT.base 2 _
  clear hT ht hv hl hs
  go_enter Tryd.func10, Tryd.ntmps10
  go_wp2_with (fail)
  go_loopw [15] (fun iv wr => ∃ i : Nat, i ≤ l.length ∧ iv = .int .i64 i ∧ TextAt B b (bs ++ stsT (l.take i) (T + 1)) (T + 1) wr ∧ Wr B b w wr) (fun iv _ => l.length - (intOf iv).toNat)
  case atStart => exact ⟨0, Nat.zero_le _, rfl, by rw [List.take_zero, stsT_nil, List.append_nil]; exact HT0.out, HW0.out⟩
  case round =>
    obtain ⟨i, hi, rfl, hTr, hwr⟩ := hrel
    have hBr : B ≤ wr.heap.size := Nat.le_trans hB hwr.bel.size
    have HTR := Lib.hid hTr
    have HTB := Lib.hid (HTT.out.below hwr.bel)
    by_cases hlt : i < l.length
    · obtain ⟨⟨k0, ty, name, args, thn, els⟩, he⟩ : ∃ e, l[i]? = some e := ⟨_, List.getElem?_eq_getElem hlt⟩
      have HE := Lib.hid he
      obtain ⟨g, o, v, v4, v5, rfl, hg, h0, h1, h2, h3, h4, h5, hs, hs4, hs5⟩ := (HV.out.below hwr.bel (Nat.le_refl _)).cells he
      obtain ⟨A', cap', rfl, _⟩ := hs.form
      obtain ⟨A4, cap4, rfl, _⟩ := hs4.form
      obtain ⟨A5, cap5, rfl, _⟩ := hs5.form
      have hgs : g < wr.heap.size := by omega
      have HVV : Hid (∀ w', Below B wr w' → StV B w' k0 ty name args thn els (.agg #[.int .i64 k0, .int .i64 ty, .string name, .slice A' args.length cap', .slice A4 thn.length cap4, .slice A5 els.length cap5])) :=
        fun w' hb => ⟨_, _, _, rfl, hs.below hb (Nat.le_refl _), hs4.below hb (Nat.le_refl _), hs5.below hb (Nat.le_refl _)⟩
      have HSS := Lib.hid (HS.out i _ he)
      have HLL : Hid ((bs ++ stsT (l.take i) (T + 1)).length + (stT (.mk k0 ty name args thn els) (T + 1)).length ≤ 140737488355328) := by
        have := stsT_len (T := T + 1) he
        have := HL.out
        unfold Hid
        rw [List.length_append]
        omega
      clear hTr he hs hs4 hs5
      go_wp2_with (go_at_call 22; (with_reducible refine (StT.call (HTR.out.alloc _) (HTB.out.below ((Below.refl _ _).alloc hBr _)) (by simp; omega) HSS.out (HVV.out _ ((Below.refl _ _).alloc hBr _)) HLL.out).mono ?_); rintro e w1 ⟨rfl, hT1, hw1⟩)
      go_roundw
      case rel => exact ⟨i + 1, by omega, by go_num, by rw [stsT_take HE.out, ← List.append_assoc]; exact hT1, (hwr.alloc hBr _).trans hw1⟩
      case measure => simp [intOf]; omega
    · have e : i = l.length := by omega
      subst e
      rw [List.take_length] at hTr
      have c2' : wr.cell? ⟨b, 2, none⟩ = some (.int .i64 ((T : Int) + 1)) := by have := hTr.tabs; simpa using this
      have f2' := hTr.frozen2
      have HX := Lib.hid (hTr.setTabs T (T : Int) rfl)
      have HBb := HB.out
      clear hTr c2 f2 HTR
      go_wp2_with (fail)
      go_end0
      exact ⟨rfl, HX.out, hwr.setCell HBb 2 _⟩
end Go.Proofs.YtomdcgifkkmopaaDoor
