/- The contract of the document's text of an expression: leaves, part, index. -/
import Derived.Test.YtomdcgifkkmopaaDoorTreeRefT
import Derived.Test.YtomdcgifkkmopaaDoorTreeOne
namespace Go.Proofs.YtomdcgifkkmopaaDoor
open Go.RowKit
theorem ba_ext {a b : ByteArray} (h : a.data.toList = b.data.toList) : a = b := by
  cases a; cases b
  simp at h
  simp [Array.ext', h]
theorem ba_self (s : ByteArray) : (⟨s.data.toList.toArray⟩ : ByteArray) = s := ba_ext (by simp)
def RtC (B : Nat) (e : Ex) : Prop := ∀ (w : World) (x : Value), B ≤ w.heap.size → ExV B w e x → (exT e).length ≤ 1099511627776 →
  Calls Tryd.prog 23 #[x] w fun e' w' => e' = .returned (.string ⟨(exT e).toArray⟩) ∧ Below w.heap.size w w'
theorem RtC.call {B : Nat} {e : Ex} (h : RtC B e) {w : World} {x : Value} (hB : B ≤ w.heap.size) (hx : ExV B w e x) (hl : (exT e).length ≤ 1099511627776) :
    Calls Tryd.prog 23 #[x] w fun e' w' => e' = .returned (.string ⟨(exT e).toArray⟩) ∧ Below w.heap.size w w' := h w x hB hx hl
def RpC (B : Nat) (e : Ex) (lev : Int) : Prop := ∀ (w : World) (x : Value), B ≤ w.heap.size → ExV B w e x → (opT lev e).length ≤ 1099511627776 →
  Calls Tryd.prog 41 #[x, .int .i64 lev] w fun e' w' => e' = .returned (.string ⟨(opT lev e).toArray⟩) ∧ Below w.heap.size w w'
theorem RpC.call {B : Nat} {e : Ex} {lev : Int} (h : RpC B e lev) {w : World} {x : Value} (hB : B ≤ w.heap.size) (hx : ExV B w e x) (hl : (opT lev e).length ≤ 1099511627776) :
    Calls Tryd.prog 41 #[x, .int .i64 lev] w fun e' w' => e' = .returned (.string ⟨(opT lev e).toArray⟩) ∧ Below w.heap.size w w' := h w x hB hx hl
theorem opT_paren' {lev : Int} {e : Ex} (h : e.kind = 5 ∧ lvlOf e.op < lev) : opT lev e = 40 :: (exT e ++ [41]) := by
  unfold opT parT
  rw [if_pos h]
set_option maxHeartbeats 2000000 in
set_option maxRecDepth 100000 in
theorem part_any (B : Nat) (e : Ex) (lev : Int) (hx : RtC B e) : RpC B e lev := by
  intro w x hB hv hl
  obtain ⟨k, op, n, name, args⟩ := e
  obtain ⟨A, cap, rfl, hr, hs⟩ := ExV.elim hv
  have HV : Hid (∀ w', Below B w w' → ExV B w' (.mk k op n name args) (.agg #[.int .i64 k, .int .i64 op, .int .i64 n, .string name, .slice A args.length cap])) := fun w' hb => ⟨_, rfl, hr, hs.below hb (Nat.le_refl _)⟩
  have HX := Lib.hid hx
  by_cases hp : k = 5 ∧ lvlOf op < lev
  · have ho : opT lev (.mk k op n name args) = _ := opT_paren' hp
    rw [ho] at hl ⊢
    obtain ⟨rfl, hlv⟩ := hp
    have hsz : 1 + (exT (.mk 5 op n name args)).length + 1 ≤ 1099511627776 := by simpa [Nat.add_comm, Nat.add_left_comm] using hl
    have HL : Hid ((exT (.mk 5 op n name args)).length ≤ 1099511627776) := by unfold Hid; omega
    clear hx hs hr hl ho hv
    go_enter Tryd.func41, Tryd.ntmps41
    go_wp2_with (first
      | (go_at_call 42; (with_reducible refine (rlevel_any _ _).mono ?_); rintro e w2 ⟨rfl, rfl⟩)
      | (go_at_call 23; (with_reducible refine (RtC.call HX.out (by simp; omega) (HV.out _ ((Below.refl _ _).alloc hB _)) HL.out).mono ?_); rintro e w2 ⟨rfl, hb2⟩))
    go_ret
    refine ⟨ret_str (ba_ext ?_), ((Below.refl _ _).alloc (Nat.le_refl _) _).trans (hb2.mono (by simp))⟩
    simp [ByteArray.data_append]
  · have ho : opT lev (.mk k op n name args) = _ := opT_plain hp
    rw [ho] at hl ⊢
    have HL := Lib.hid hl
    by_cases h5 : k = 5
    · subst h5
      have hlv : ¬ lvlOf op < lev := fun h => hp ⟨rfl, h⟩
      clear hx hs hr hl ho hv hp
      go_enter Tryd.func41, Tryd.ntmps41
      go_wp2_with (first
        | (go_at_call 42; (with_reducible refine (rlevel_any _ _).mono ?_); rintro e w2 ⟨rfl, rfl⟩)
        | (go_at_call 23; (with_reducible refine (RtC.call HX.out (by simp; omega) (HV.out _ ((Below.refl _ _).alloc hB _)) HL.out).mono ?_); rintro e w2 ⟨rfl, hb2⟩))
      go_ret
      exact ⟨rfl, ((Below.refl _ _).alloc (Nat.le_refl _) _).trans (hb2.mono (by simp))⟩
    · have hn : (k == 5) = false := by simpa using h5
      clear hx hs hr hl ho hv hp h5
      go_enter Tryd.func41, Tryd.ntmps41
      go_wp2_with (go_at_call 23; (with_reducible refine (RtC.call HX.out (by simp; omega) (HV.out _ ((Below.refl _ _).alloc hB _)) HL.out).mono ?_); rintro e w2 ⟨rfl, hb2⟩)
      go_ret
      exact ⟨rfl, ((Below.refl _ _).alloc (Nat.le_refl _) _).trans (hb2.mono (by simp))⟩
section
variable (B : Nat) (op n : Int) (name : ByteArray) (args : List Ex)
set_option maxHeartbeats 2000000 in
set_option maxRecDepth 100000 in
theorem rtext_num (hn : 0 ≤ n) : RtC B (.mk 1 op n name args) := by
  intro w x hB hv hl
  obtain ⟨A, cap, rfl, hr, hs⟩ := ExV.elim hv
  have HR := Lib.hid hr
  have e : exT (.mk 1 op n name args) = Lib.itoa n := by rw [exT_mk]; rfl
  rw [e]
  clear hs hv hl hr e
  go_enter Tryd.func23, Tryd.ntmps23
  go_wp2_with (go_at_call 12; (with_reducible refine (rdigits_any n _ hn HR.out).mono ?_); rintro e w2 ⟨rfl, hb2⟩)
  go_ret
  exact ⟨rfl, ((Below.refl _ _).alloc (Nat.le_refl _) _).trans (hb2.mono (by simp))⟩
set_option maxHeartbeats 2000000 in
set_option maxRecDepth 100000 in
theorem rtext_truth : RtC B (.mk 2 op n name args) := by
  intro w x hB hv hl
  obtain ⟨A, cap, rfl, hr, hs⟩ := ExV.elim hv
  have e : exT (.mk 2 op n name args) = boolT (decide (n = 1)) := by rw [exT_mk]; rfl
  rw [e]
  clear hs hv hl hr e
  by_cases h1 : n = 1
  · subst h1
    go_enter Tryd.func23, Tryd.ntmps23
    go_wp2_with (fail)
    go_ret
    exact ⟨rfl, (Below.refl _ _).alloc (Nat.le_refl _) _⟩
  · have hn : (n == 1) = false := by simpa using h1
    have HB : Hid (boolT (decide (n = 1)) = [102, 97, 108, 115, 101]) := by unfold Hid; rw [decide_eq_false h1]; rfl
    clear h1
    go_enter Tryd.func23, Tryd.ntmps23
    go_wp2_with (fail)
    go_ret
    exact ⟨ret_str (by rw [HB.out]), (Below.refl _ _).alloc (Nat.le_refl _) _⟩
set_option maxHeartbeats 2000000 in
set_option maxRecDepth 100000 in
theorem rtext_var : RtC B (.mk 3 op n name args) := by
  intro w x hB hv hl
  obtain ⟨A, cap, rfl, hr, hs⟩ := ExV.elim hv
  have e : exT (.mk 3 op n name args) = name.data.toList := by rw [exT_mk]; rfl
  rw [e, ba_self]
  clear hs hv hl hr e
  go_enter Tryd.func23, Tryd.ntmps23
  go_wp2_with (fail)
  go_ret
  exact ⟨rfl, (Below.refl _ _).alloc (Nat.le_refl _) _⟩
set_option maxHeartbeats 2000000 in
set_option maxRecDepth 100000 in
theorem rtext_read : RtC B (.mk 8 op n name args) := by
  intro w x hB hv hl
  obtain ⟨A, cap, rfl, hr, hs⟩ := ExV.elim hv
  have e : exT (.mk 8 op n name args) = [114, 101, 97, 100, 40, 41] := by rw [exT_mk]; rfl
  rw [e]
  clear hs hv hl hr e
  go_enter Tryd.func23, Tryd.ntmps23
  go_wp2_with (fail)
  go_ret
  exact ⟨rfl, (Below.refl _ _).alloc (Nat.le_refl _) _⟩
end
end Go.Proofs.YtomdcgifkkmopaaDoor
