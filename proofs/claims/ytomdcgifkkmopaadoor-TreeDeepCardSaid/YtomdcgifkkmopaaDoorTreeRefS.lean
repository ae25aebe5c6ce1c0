/- The contracts of the document's validation of statements. -/
import Derived.Test.YtomdcgifkkmopaaDoorTreeRefE
import Derived.Test.YtomdcgifkkmopaaDoorTreeStmtA
namespace Go.Proofs.YtomdcgifkkmopaaDoor
open Go.RowKit
/-- What a kind of statements has. -/
def shT (k : Int) : Bool := decide (k = 1)
def shN (k : Int) : Bool := decide (k = 1 ∨ k = 2 ∨ k = 3)
def shA (k : Int) : Int := if k = 3 then 2 else if k = 6 ∨ k = 7 then 0 else if 1 ≤ k ∧ k ≤ 10 then 1 else -1
def shB (k : Int) : Bool := decide (k = 4 ∨ k = 5)
def shE (k : Int) : Bool := decide (k = 4)
set_option maxRecDepth 100000 in
theorem shape_any (k : Int) (w : World) : Calls Tryd.prog 30 #[.int .i64 k] w fun e w' => e = .returned (.tuple #[.bool (shT k), .bool (shN k), .int .i64 (shA k), .bool (shB k), .bool (shE k)]) ∧ w = w' := by
  by_cases h : 1 ≤ k ∧ k ≤ 10
  · obtain rfl | rfl | rfl | rfl | rfl | rfl | rfl | rfl | rfl | rfl : k = 1 ∨ k = 2 ∨ k = 3 ∨ k = 4 ∨ k = 5 ∨ k = 6 ∨ k = 7 ∨ k = 8 ∨ k = 9 ∨ k = 10 := by omega
    all_goals
      clear h
      go_enter Tryd.func30, Tryd.ntmps30
      go_wp2_with (fail)
      exact bodyPost_ret (v := .tuple #[.bool (shT _), .bool (shN _), .int .i64 (shA _), .bool (shB _), .bool (shE _)]) (by simp [results, Tryd.results30, go_sem]; decide) rfl ⟨rfl, rfl⟩
  · have n1 : (k == 1) = false := by simp; omega
    have n2 : (k == 2) = false := by simp; omega
    have n3 : (k == 3) = false := by simp; omega
    have n4 : (k == 4) = false := by simp; omega
    have n5 : (k == 5) = false := by simp; omega
    have n6 : (k == 6) = false := by simp; omega
    have n7 : (k == 7) = false := by simp; omega
    have n8 : (k == 8) = false := by simp; omega
    have n9 : (k == 9) = false := by simp; omega
    have n10 : (k == 10) = false := by simp; omega
    have hh : Hid (shT k = false ∧ shN k = false ∧ shA k = -1 ∧ shB k = false ∧ shE k = false) := by
      unfold Hid shT shN shA shB shE
      refine ⟨by simp; omega, by simp; omega, ?_, by simp; omega, by simp; omega⟩
      rw [if_neg (by omega), if_neg (by omega), if_neg h]
    clear h
    go_enter Tryd.func30, Tryd.ntmps30
    go_wp2_with (fail)
    obtain ⟨a1, a2, a3, a4, a5⟩ := hh.out
    rw [a1, a2, a3, a4, a5]
    exact bodyPost_ret (v := .tuple #[.bool false, .bool false, .int .i64 (-1), .bool false, .bool false]) (by simp [results, Tryd.results30, go_sem]) rfl ⟨rfl, rfl⟩
/-- The document's validation of a list, so deep at the most. -/
def RsC (m : Nat) : Prop := ∀ (B : Nat) (z : Int) (l : List St) (c : Bool) (v : Value) (w : World), z = (m : Int) → m ≤ 1000 → stsOK l m = c → B ≤ w.heap.size → SlS B w v l →
  Calls Tryd.prog 19 #[v, .int .i64 z] w fun e w' => e = .returned (.bool c) ∧ Below w.heap.size w w'
theorem RsC.call {m : Nat} (h : RsC m) (B : Nat) (z : Int) (l : List St) (c : Bool) (v : Value) (w : World) (hz : z = (m : Int)) (hm : m ≤ 1000) (hc : stsOK l m = c) (hB : B ≤ w.heap.size) (hv : SlS B w v l) :
    Calls Tryd.prog 19 #[v, .int .i64 z] w fun e w' => e = .returned (.bool c) ∧ Below w.heap.size w w' := h B z l c v w hz hm hc hB hv
/-- The head of a statement, and what stands in it. -/
def f1 (k ty : Int) (name : ByteArray) (na : Nat) : Bool := decide ((na : Int) = shA k) && (shT k == tyB ty) && (shT k || decide (ty = 0)) && (shN k == nmB name) && (shN k || eB name)
def f3 (k : Int) (a b : Nat) (ic : Bool) : Bool := (shB k || decide (a = 0)) && (shE k || decide (b = 0)) && (!(decide (k = 10)) || ic)
theorem nm_empty {s : ByteArray} (h : eB s = true) : nmB s = false := by
  have h0 : s.size = 0 := by simpa [eB] using h
  have : s.data.toList = [] := List.eq_nil_of_length_eq_zero h0
  unfold nmB
  rw [this]
  rfl
theorem ty_zero : tyB 0 = false := by decide
theorem formS_split (k ty : Int) (name : ByteArray) (a b c : Nat) (ic : Bool) : formS k ty name a b c ic = (f1 k ty name a && f3 k b c ic) := by
  by_cases h : 1 ≤ k ∧ k ≤ 10
  · have hne : eB name = true → nmB name = false := nm_empty
    have hty : ty = 0 → tyB ty = false := fun h => by rw [h]; rfl
    obtain rfl | rfl | rfl | rfl | rfl | rfl | rfl | rfl | rfl | rfl : k = 1 ∨ k = 2 ∨ k = 3 ∨ k = 4 ∨ k = 5 ∨ k = 6 ∨ k = 7 ∨ k = 8 ∨ k = 9 ∨ k = 10 := by omega
    all_goals
      clear h
      rw [Bool.eq_iff_iff]
      simp [formS, f1, f3, shA, shT, shN, shB, shE]
      first
        | (constructor <;> intro hh <;> simp_all)
        | (intro hx0; constructor <;> intro hh <;> simp_all)
    all_goals omega
  · have h1 : formS k ty name a b c ic = false := by
      cases hf : formS k ty name a b c ic with
      | false => rfl
      | true => exact absurd (formS_kind hf) (by omega)
    have h2 : f1 k ty name a = false := by
      unfold f1 shA
      rw [if_neg (by omega), if_neg (by omega), if_neg h]
      have : decide ((a : Int) = -1) = false := by simp
      rw [this]
      rfl
    rw [h1, h2]
    rfl
theorem shape_is (k : Int) (tb nbk bb eb : Bool) (na : Int) (h1 : shT k = tb) (h2 : shN k = nbk) (h3 : shA k = na) (h4 : shB k = bb) (h5 : shE k = eb) (w : World) :
    Calls Tryd.prog 30 #[.int .i64 k] w fun e w' => e = .returned (.tuple #[.bool tb, .bool nbk, .int .i64 na, .bool bb, .bool eb]) ∧ w = w' := by
  subst h1 h2 h3 h4 h5
  exact shape_any k w
end Go.Proofs.YtomdcgifkkmopaaDoor
