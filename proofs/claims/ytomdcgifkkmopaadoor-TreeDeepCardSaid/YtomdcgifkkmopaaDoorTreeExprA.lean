/- The contract of the method expr of package tree, at every valid expression. -/
import Derived.Test.YtomdcgifkkmopaaDoorTreeExpr
import Derived.Test.YtomdcgifkkmopaaDoorTreeExprT
namespace Go.Proofs.YtomdcgifkkmopaaDoor
open Go.RowKit
theorem formE_one {op n : Int} {name : ByteArray} {args : List Ex} (h : formE 4 op n name args.length = true) : ∃ a, args = [a] := by
  simp [formE] at h
  exact List.length_eq_one_iff.1 h.2
theorem formE_two {op n : Int} {name : ByteArray} {args : List Ex} (h : formE 5 op n name args.length = true) : ∃ a c, args = [a, c] := by
  simp [formE] at h
  match args, h.2 with
  | [a, c], _ => exact ⟨a, c, rfl⟩
theorem formE_index {op n : Int} {name : ByteArray} {args : List Ex} (h : formE 6 op n name args.length = true) : ∃ a, args = [a] := by
  simp [formE] at h
  exact List.length_eq_one_iff.1 h.2
theorem formE_kind {k op n : Int} {name : ByteArray} {m : Nat} (h : formE k op n name m = true) : k = 1 ∨ k = 2 ∨ k = 3 ∨ k = 4 ∨ k = 5 ∨ k = 6 ∨ k = 7 ∨ k = 8 := by
  by_cases h' : k = 1 ∨ k = 2 ∨ k = 3 ∨ k = 4 ∨ k = 5 ∨ k = 6 ∨ k = 7 ∨ k = 8
  · exact h'
  · exfalso
    unfold formE at h
    rw [if_neg (by omega), if_neg (by omega), if_neg (by omega), if_neg (by omega), if_neg (by omega), if_neg (by omega), if_neg (by omega), if_neg (by omega)] at h
    cases h
/-- The text of every valid expression is written. -/
theorem expr_any (B b : Nat) : ∀ (m : Nat) (e : Ex), exOK e m = true → ExC B b e
  | 0, .mk k op n name args, h => by
    rw [exOK_mk] at h
    simp at h
  | m + 1, .mk k op n name args, h => by
    rw [exOK_mk, Bool.and_eq_true, Bool.and_eq_true] at h
    obtain ⟨⟨_, hf⟩, hk⟩ := h
    rw [Nat.add_sub_cancel] at hk
    have ih : ∀ (i : Nat) e, args[i]? = some e → ExC B b e := fun i e hi => expr_any B b m e (exsOK_at hk hi)
    rcases formE_kind hf with rfl | rfl | rfl | rfl | rfl | rfl | rfl | rfl
    · exact expr_num B b op n name args
    · exact expr_truth B b op n name args _ rfl
    · exact expr_var B b op n name args
    · obtain ⟨a, rfl⟩ := formE_one hf
      exact expr_one B b op n name a (ih 0 a rfl)
    · obtain ⟨a, c, rfl⟩ := formE_two hf
      exact expr_two B b op n name a c (ih 0 a rfl) (ih 1 c rfl)
    · obtain ⟨a, rfl⟩ := formE_index hf
      exact expr_index B b op n name a (ih 0 a rfl)
    · exact expr_call B b op n name args ih
    · exact expr_read B b op n name args
end Go.Proofs.YtomdcgifkkmopaaDoor
