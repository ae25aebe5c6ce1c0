/- The contracts of the validation of package tree: lists of expressions and of statements. -/
import Derived.Test.YtomdcgifkkmopaaDoorTreeRightE

namespace Go.Proofs.YtomdcgifkkmopaaDoor
open Go.RowKit
theorem rightExpr_is (B : Nat) (k op n : Int) (name : ByteArray) (A : Option Addr) (m cap : Nat) (b : Bool) (hb : formE k op n name m = b) (w : World) (ht : TreeTab B w) (hB : B ≤ w.heap.size) :
    Calls Tryd.prog 57 #[.agg #[.int .i64 k, .int .i64 op, .int .i64 n, .string name, .slice A m cap]] w fun e w' => e = .returned (.bool b) ∧ Below w.heap.size w w' :=
  hb ▸ rightExpr_any B op n name A m cap w k ht hB
def ExsC (k : Nat) : Prop := ∀ (B : Nat) (d : Int) (l : List Ex) (b : Bool) (v : Value) (w : World), 0 ≤ d → d + k = 101 → exsOK l k = b → TreeTab B w → B ≤ w.heap.size → SlE B w v l →
  Calls Tryd.prog 47 #[v, .int .i64 d] w fun e w' => e = .returned (.bool b) ∧ Below w.heap.size w w'
theorem ExsC.call {k : Nat} (h : ExsC k) (B : Nat) (d : Int) (l : List Ex) (b : Bool) (v : Value) (w : World) (h0 : 0 ≤ d) (hd : d + k = 101) (hb : exsOK l k = b) (ht : TreeTab B w) (hB : B ≤ w.heap.size) (hl : SlE B w v l) :
    Calls Tryd.prog 47 #[v, .int .i64 d] w fun e w' => e = .returned (.bool b) ∧ Below w.heap.size w w' := h B d l b v w h0 hd hb ht hB hl
set_option maxHeartbeats 2000000 in
set_option maxRecDepth 100000 in
theorem rightExprs_step (k : Nat) (ih : ∀ k', k' + 1 = k → ExsC k') : ExsC k := by
  intro B d l b v w hd0 hd hb ht hB hl
  have hdu : d ≤ 101 := by omega
  have HDD := Lib.hid hd
  clear hd
  obtain ⟨A, cap, rfl, hn⟩ := hl.form
  have HT := Lib.hid ht
  have HL := Lib.hid hl
  have HB := Lib.hid hb
  have HI := Lib.hid ih
  clear ht hl hb ih
  go_enter Tryd.func47, Tryd.ntmps47
  go_wp2_with (fail)
  go_loopw [9] (fun iv wr => ∃ j : Nat, j ≤ l.length ∧ iv = .int .i64 j ∧ exsOK (l.take j) k = true ∧ Below w.heap.size w wr) (fun iv _ => l.length - (intOf iv).toNat)
  case atStart => exact ⟨0, Nat.zero_le _, rfl, exsOK_nil _, Below.refl _ _⟩
  case round =>
    obtain ⟨j, hj, rfl, hall, hbw⟩ := hrel
    have HA := Lib.hid hall
    clear hall
    have hsz := hbw.size
    by_cases hlt : j < l.length
    · obtain ⟨⟨k0, op, n, name, args⟩, he⟩ : ∃ e, l[j]? = some e := ⟨_, List.getElem?_eq_getElem hlt⟩
      have HE := Lib.hid he
      obtain ⟨g, o, v, rfl, hg, h0, h1, h2, h3, h4, hs⟩ := (HL.out.below (hbw.mono hB) (Nat.le_refl _)).cells he
      obtain ⟨A', cap', rfl, hn'⟩ := hs.form
      have HS := Lib.hid hs
      have hgs : g < wr.heap.size := by omega
      have hbB := hbw.mono hB
      have hBr : B ≤ wr.heap.size := Nat.le_trans hB hsz
      clear he hs
      rcases k with _ | k'
      · have hd1 : decide ((100 : Int) < d) = true := by have := HDD.out; simp; omega
        have hbad : Hid (exsOK l 0 = false) := exsOK_bad HE.out (by rw [exOK_mk]; simp)
        go_wp2_with (fail)
        go_ret
        exact ⟨ret_bool (by rw [← HB.out, hbad.out]), hbw.alloc hsz _⟩
      · have hd1 : decide ((100 : Int) < d) = false := by have := HDD.out; simp; omega
        have hd2 : (d + 1) + (k' : Int) = 101 := by have := HDD.out; omega
        have hd3 : 0 ≤ d + 1 := by omega
        have HD := Lib.hid hd2
        clear hd2
        obtain ⟨b1, hb1⟩ : ∃ b, formE k0 op n name args.length = b := ⟨_, rfl⟩
        obtain ⟨b2, hb2⟩ : ∃ b, exsOK args k' = b := ⟨_, rfl⟩
        have HEX : Hid (exOK (.mk k0 op n name args) (k' + 1) = (b1 && b2)) := by
          unfold Hid
          rw [exOK_mk, hb1, Nat.add_sub_cancel, hb2]
          simp
        have HB1 := Lib.hid hb1
        have HB2 := Lib.hid hb2
        clear hb1 hb2
        cases b1
        · go_wp2_with (go_at_call 57; (with_reducible refine (rightExpr_is B _ _ _ _ _ _ _ _ HB1.out _ (HT.out.below (hbB.alloc hBr _)) (by simp; omega)).mono ?_); rintro e w1 ⟨rfl, hx1⟩; obtain ⟨hc1, hf1⟩ := bcell hx1)
          go_ret
          exact ⟨ret_bool (by rw [← HB.out, exsOK_bad HE.out HEX.out]), (hbw.alloc hsz _).trans (hx1.mono (by simp; omega))⟩
        · cases b2
          · go_wp2_with (first
              | (go_at_call 57; (with_reducible refine (rightExpr_is B _ _ _ _ _ _ _ _ HB1.out _ (HT.out.below (hbB.alloc hBr _)) (by simp; omega)).mono ?_); rintro e w1 ⟨rfl, hx1⟩; obtain ⟨hc1, hf1⟩ := bcell hx1; have hz1 := hx1.size; have hbx := (hbw.alloc hsz _).trans (hx1.mono (by simp; omega)))
              | (go_at_call 47; (with_reducible refine ((HI.out k' rfl).call B _ args _ _ _ hd3 HD.out HB2.out (HT.out.below (hbx.mono hB)) (Nat.le_trans hB hbx.size) (HS.out.below ((Below.refl _ _).alloc hBr _ |>.trans (hx1.mono (by simp; omega))) (Nat.le_refl _))).mono ?_); rintro e w2 ⟨rfl, hx2⟩))
            go_ret
            exact ⟨ret_bool (by rw [← HB.out, exsOK_bad HE.out HEX.out]), hbx.trans (hx2.mono hbx.size)⟩
          · go_wp2_with (first
              | (go_at_call 57; (with_reducible refine (rightExpr_is B _ _ _ _ _ _ _ _ HB1.out _ (HT.out.below (hbB.alloc hBr _)) (by simp; omega)).mono ?_); rintro e w1 ⟨rfl, hx1⟩; obtain ⟨hc1, hf1⟩ := bcell hx1; have hz1 := hx1.size; have hbx := (hbw.alloc hsz _).trans (hx1.mono (by simp; omega)))
              | (go_at_call 47; (with_reducible refine ((HI.out k' rfl).call B _ args _ _ _ hd3 HD.out HB2.out (HT.out.below (hbx.mono hB)) (Nat.le_trans hB hbx.size) (HS.out.below ((Below.refl _ _).alloc hBr _ |>.trans (hx1.mono (by simp; omega))) (Nat.le_refl _))).mono ?_); rintro e w2 ⟨rfl, hx2⟩))
            go_roundw
            case rel => exact ⟨j + 1, by omega, by go_num, by rw [exsOK_take HE.out, HA.out, HEX.out]; rfl, hbx.trans (hx2.mono hbx.size)⟩
            case measure => simp [intOf]; omega
    · go_wp2_with (fail)
      go_ret
      refine ⟨ret_bool ?_, hbw⟩
      rw [← HB.out, ← HA.out, List.take_of_length_le (by omega)]
theorem rightExprs_all : ∀ k, ExsC k
  | 0 => rightExprs_step 0 (fun _ h => by omega)
  | k + 1 => rightExprs_step (k + 1) (fun k' h => by
      obtain rfl : k' = k := by omega
      exact rightExprs_all k')
/-- Whether expressions are valid, from a depth of 1 on. -/
theorem rightExprs_any (B : Nat) (l : List Ex) (b : Bool) (hb : exsOK l 100 = b) (v : Value) (w : World) (ht : TreeTab B w) (hB : B ≤ w.heap.size) (hl : SlE B w v l) :
    Calls Tryd.prog 47 #[v, .int .i64 1] w fun e w' => e = .returned (.bool b) ∧ Below w.heap.size w w' := rightExprs_all 100 B 1 l b v w (by decide) (by decide) hb ht hB hl
end Go.Proofs.YtomdcgifkkmopaaDoor
