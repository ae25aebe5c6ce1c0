/- The contract of the document's text of an expression, at every valid one. -/
import Derived.Test.YtomdcgifkkmopaaDoorTreeRefC
import Derived.Test.YtomdcgifkkmopaaDoorTreeRefY
import Derived.Test.YtomdcgifkkmopaaDoorTreeRefZ
import Derived.Test.YtomdcgifkkmopaaDoorTreeRefW
import Derived.Test.YtomdcgifkkmopaaDoorTreeExprA
namespace Go.Proofs.YtomdcgifkkmopaaDoor
open Go.RowKit
theorem formE_num {op n : Int} {name : ByteArray} {m : Nat} (h : formE 1 op n name m = true) : 0 ≤ n := by
  simp [formE] at h
  omega
theorem rtext_any (B : Nat) : ∀ (m : Nat) (e : Ex), exOK e m = true → RtC B e
  | 0, .mk k op n name args, h => by
    rw [exOK_mk] at h
    simp at h
  | m + 1, .mk k op n name args, h => by
    rw [exOK_mk, Bool.and_eq_true, Bool.and_eq_true] at h
    obtain ⟨⟨_, hf⟩, hk⟩ := h
    rw [Nat.add_sub_cancel] at hk
    have ih : ∀ (i : Nat) e, args[i]? = some e → RtC B e := fun i e hi => rtext_any B m e (exsOK_at hk hi)
    rcases formE_kind hf with rfl | rfl | rfl | rfl | rfl | rfl | rfl | rfl
    · exact rtext_num B op n name args (formE_num hf)
    · exact rtext_truth B op n name args
    · exact rtext_var B op n name args
    · obtain ⟨a, rfl⟩ := formE_one hf
      by_cases h23 : 23 ≤ op
      · exact rtext_one_call B op n name h23 a (ih 0 a rfl)
      · exact rtext_one_sign B op n name h23 a (ih 0 a rfl)
    · obtain ⟨a, c, rfl⟩ := formE_two hf
      exact rtext_two B op n name a c (ih 0 a rfl) (ih 1 c rfl)
    · obtain ⟨a, rfl⟩ := formE_index hf
      exact rtext_index B op n name a (ih 0 a rfl)
    · exact rtext_call B op n name args ih
    · exact rtext_read B op n name args
end Go.Proofs.YtomdcgifkkmopaaDoor
