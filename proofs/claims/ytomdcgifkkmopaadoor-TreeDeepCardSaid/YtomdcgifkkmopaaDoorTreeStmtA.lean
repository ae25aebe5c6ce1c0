/- The contract of the method stmt of package tree, at every valid statement. -/
import Derived.Test.YtomdcgifkkmopaaDoorTreeStmtR
import Derived.Test.YtomdcgifkkmopaaDoorTreeStmtS
import Derived.Test.YtomdcgifkkmopaaDoorTreeStmtP
import Derived.Test.YtomdcgifkkmopaaDoorTreeIf
import Derived.Test.YtomdcgifkkmopaaDoorTreeWhile
namespace Go.Proofs.YtomdcgifkkmopaaDoor
open Go.RowKit
theorem StC.at {B b : Nat} {k ty : Int} {name : ByteArray} {args : List Ex} {thn els : List St} (h : StC B b k ty name args thn els) (T : Nat) (hT : T ≤ 999) : StT B b T (.mk k ty name args thn els) := fun bs w v h1 h2 h3 h4 h5 => h bs T w v h1 h2 h3 h4 hT h5
theorem formS_kind {k ty : Int} {name : ByteArray} {m m2 m3 : Nat} {ic : Bool} (h : formS k ty name m m2 m3 ic = true) : k = 1 ∨ k = 2 ∨ k = 3 ∨ k = 4 ∨ k = 5 ∨ k = 6 ∨ k = 7 ∨ k = 8 ∨ k = 9 ∨ k = 10 := by
  by_cases h' : k = 1 ∨ k = 2 ∨ k = 3 ∨ k = 4 ∨ k = 5 ∨ k = 6 ∨ k = 7 ∨ k = 8 ∨ k = 9 ∨ k = 10
  · exact h'
  · exfalso
    unfold formS at h
    rw [if_neg (by omega), if_neg (by omega), if_neg (by omega), if_neg (by omega), if_neg (by omega), if_neg (by omega), if_neg (by omega), if_neg (by omega)] at h
    cases h
theorem formS_len {k ty : Int} {name : ByteArray} {m m2 m3 : Nat} {ic : Bool} (h : formS k ty name m m2 m3 ic = true) : ((k = 1 ∨ k = 2 ∨ k = 4 ∨ k = 5 ∨ k = 8 ∨ k = 9 ∨ k = 10) → m = 1) ∧ (k = 3 → m = 2) := by
  refine ⟨fun hk => ?_, fun hk => ?_⟩
  · rcases hk with rfl | rfl | rfl | rfl | rfl | rfl | rfl <;> simp [formS] at h <;> omega
  · subst hk
    simp [formS] at h
    omega
theorem len_one {args : List Ex} (h : args.length = 1) : ∃ a, args = [a] := List.length_eq_one_iff.1 h
theorem len_two {args : List Ex} (h : args.length = 2) : ∃ a c, args = [a, c] := by
  match args, h with
  | [a, c], _ => exact ⟨a, c, rfl⟩
/-- The lines of every valid statement are written. -/
theorem stmt_any (B b : Nat) : ∀ (m : Nat) (s : St) (T : Nat), stOK s m = true → T + m ≤ 990 → StT B b T s
  | 0, .mk k ty name args thn els, T, h, _ => by
    rw [stOK_mk] at h
    simp at h
  | m + 1, .mk k ty name args thn els, T, h, hT => by
    rw [stOK_mk, Bool.and_eq_true, Bool.and_eq_true, Bool.and_eq_true, Bool.and_eq_true] at h
    obtain ⟨⟨⟨⟨_, hf⟩, hx⟩, h4⟩, h5⟩ := h
    rw [Nat.add_sub_cancel] at h4 h5
    have hb : ∀ l, stsOK l m = true → BlC B b T l := fun l hl => block_any B b T (by omega) l (fun i s hi => stmt_any B b m s (T + 1) (stsOK_at hl hi) (by omega))
    obtain ⟨hl1, hl2⟩ := formS_len hf
    rcases formS_kind hf with rfl | rfl | rfl | rfl | rfl | rfl | rfl | rfl | rfl | rfl
    · obtain ⟨a, rfl⟩ := len_one (hl1 (by decide))
      exact (stmt_let B b ty name thn els a (exsOK_at hx (i := 0) rfl)).at T (by omega)
    · obtain ⟨a, rfl⟩ := len_one (hl1 (by decide))
      exact (stmt_set B b ty name thn els a (exsOK_at hx (i := 0) rfl)).at T (by omega)
    · obtain ⟨a, c, rfl⟩ := len_two (hl2 (by decide))
      exact (stmt_put B b ty name thn els a c (exsOK_at hx (i := 0) rfl) (exsOK_at hx (i := 1) rfl)).at T (by omega)
    · obtain ⟨a, rfl⟩ := len_one (hl1 (by decide))
      exact stmt_if B b T ty name a thn els (exsOK_at hx (i := 0) rfl) (by omega) (hb _ h4) (hb _ h5)
    · obtain ⟨a, rfl⟩ := len_one (hl1 (by decide))
      exact stmt_while B b T ty name a thn els (exsOK_at hx (i := 0) rfl) (by omega) (hb _ h4)
    · exact (stmt_break B b ty name args thn els 6 (.inl rfl)).at T (by omega)
    · exact (stmt_break B b ty name args thn els 7 (.inr rfl)).at T (by omega)
    · obtain ⟨a, rfl⟩ := len_one (hl1 (by decide))
      exact (stmt_return B b ty name thn els a (exsOK_at hx (i := 0) rfl)).at T (by omega)
    · obtain ⟨a, rfl⟩ := len_one (hl1 (by decide))
      exact (stmt_print B b ty name thn els a (exsOK_at hx (i := 0) rfl)).at T (by omega)
    · obtain ⟨a, rfl⟩ := len_one (hl1 (by decide))
      exact (stmt_do B b ty name thn els a (exsOK_at hx (i := 0) rfl)).at T (by omega)
/-- The lines of a list of valid statements are written, a tab deeper. -/
theorem stmts_any (B b : Nat) (l : List St) (h : stsOK l 100 = true) : BlC B b 0 l := block_any B b 0 (by omega) l fun i s hi => stmt_any B b 100 s 1 (stsOK_at h hi) (by omega)
end Go.Proofs.YtomdcgifkkmopaaDoor
