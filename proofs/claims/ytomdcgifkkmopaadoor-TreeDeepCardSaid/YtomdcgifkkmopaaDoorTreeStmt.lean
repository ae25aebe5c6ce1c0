/- The contract of the method stmt of package tree: statements without statements in them. -/
import Derived.Test.YtomdcgifkkmopaaDoorTreeExprA
import Derived.Test.YtomdcgifkkmopaaDoorTreeLine
namespace Go.Proofs.YtomdcgifkkmopaaDoor
open Go.RowKit
theorem LnC.call {B b : Nat} {bs : List UInt8} {tabs : Nat} {w : World} {v : Value} (hT : TextAt B b bs tabs w) (ht : TreeTab B w) (hB : B ≤ w.heap.size) {l : List Pt} (h : LnC B b l) (hv : PtsAt B w l v) (htabs : tabs ≤ 1000) (hl : bs.length + tabs + (ptsT l).length + 1 ≤ 140737488355328) :
    Calls Tryd.prog 9 #[.pointer (some ⟨b, 0, none⟩), v] w (Posted B b bs tabs w (tabT tabs ++ (ptsT l ++ [10]))) := h bs tabs w v hT ht hB hv htabs hl
theorem pts6 (a b c d e f : Pt) : ptsT [a, b, c, d, e, f] = ptT a ++ (ptT b ++ (ptT c ++ (ptT d ++ (ptT e ++ ptT f)))) := by simp [ptsT]
/-- A value that is a statement. -/
def StV (B : Nat) (w : World) (k ty : Int) (name : ByteArray) (args : List Ex) (thn els : List St) (x : Value) : Prop :=
  ∃ v v4 v5, x = .agg #[.int .i64 k, .int .i64 ty, .string name, v, v4, v5] ∧ SlE B w v args ∧ SlS B w v4 thn ∧ SlS B w v5 els
theorem StV.elim {B : Nat} {w : World} {k ty : Int} {name : ByteArray} {args : List Ex} {thn els : List St} {x : Value} (h : StV B w k ty name args thn els x) :
    ∃ A1 c1 A2 c2 A3 c3, x = .agg #[.int .i64 k, .int .i64 ty, .string name, .slice A1 args.length c1, .slice A2 thn.length c2, .slice A3 els.length c3] ∧ SlE B w (.slice A1 args.length c1) args ∧ SlS B w (.slice A2 thn.length c2) thn ∧ SlS B w (.slice A3 els.length c3) els := by
  obtain ⟨v, v4, v5, hx, h1, h2, h3⟩ := h
  obtain ⟨A1, c1, rfl, _⟩ := h1.form
  obtain ⟨A2, c2, rfl, _⟩ := h2.form
  obtain ⟨A3, c3, rfl, _⟩ := h3.form
  exact ⟨A1, c1, A2, c2, A3, c3, hx, h1, h2, h3⟩
def StC (B b : Nat) (k ty : Int) (name : ByteArray) (args : List Ex) (thn els : List St) : Prop := ∀ (bs : List UInt8) (tabs : Nat) (w : World) (v : Value), TextAt B b bs tabs w → TreeTab B w → B ≤ w.heap.size → StV B w k ty name args thn els v → tabs ≤ 999 →
  bs.length + (stT (.mk k ty name args thn els) tabs).length ≤ 140737488355328 →
  Calls Tryd.prog 22 #[.pointer (some ⟨b, 0, none⟩), v] w (Posted B b bs tabs w (stT (.mk k ty name args thn els) tabs))
/-- The line of a statement that has no others in it. -/
theorem stT_line {k ty : Int} {name : ByteArray} {args : List Ex} {thn els : List St} (tabs : Nat) (l : List Pt) (hk : k ≠ 4 ∧ k ≠ 5) (h : headT k ty name args = ptsT l) : stT (.mk k ty name args thn els) tabs = tabT tabs ++ (ptsT l ++ [10]) := by
  rw [stT_mk, if_neg hk.1, if_neg hk.2, h]
theorem line_len {bs : List UInt8} {tabs : Nat} {l : List Pt} (h : bs.length + (tabT tabs ++ (ptsT l ++ [10])).length ≤ 140737488355328) : bs.length + tabs + (ptsT l).length + 1 ≤ 140737488355328 := by
  simp [tabT] at h
  omega
/-- Parts that expressions and plain texts are. -/
theorem parts_any {B b : Nat} (l : List Pt) (h : ∀ p ∈ l, (∃ s, p = .str s) ∨ (∃ t, p = .knd t) ∨ ∃ e, p = .ex e ∧ exOK e 100 = true) : LnC B b l :=
  line_any B b l (write_core B b l (forall_list fun p hp => by
    rcases h p hp with ⟨s, rfl⟩ | ⟨t, rfl⟩ | ⟨e, rfl, he⟩
    · trivial
    · trivial
    · exact expr_any B b 100 e he))
section
variable (B b : Nat) (ty : Int) (name : ByteArray) (args : List Ex) (thn els : List St)
set_option maxHeartbeats 2000000 in
set_option maxRecDepth 100000 in
theorem stmt_break (k : Int) (hk : k = 6 ∨ k = 7) : StC B b k ty name args thn els := by
  intro bs tabs w v hT ht hB hv htabs hl
  obtain ⟨A1, c1, A2, c2, A3, c3, rfl, _, _, _⟩ := hv.elim
  have HT := Lib.hid hT
  have HTT := Lib.hid ht
  have ht1 : tabs ≤ 1000 := by omega
  rcases hk with rfl | rfl
  · have HP : Hid (∀ w', PtVs B w' [.str ⟨#[98, 114, 101, 97, 107, 59]⟩] (#[.iface 9 (.string ⟨#[98, 114, 101, 97, 107, 59]⟩)] : Array Value).toList) := fun w' => ⟨rfl, trivial⟩
    have HW : Hid (LnC B b [.str ⟨#[98, 114, 101, 97, 107, 59]⟩]) := parts_any _ (by simp)
    rw [stT_line tabs [.str ⟨#[98, 114, 101, 97, 107, 59]⟩] (by decide) rfl] at hl ⊢
    have HL := Lib.hid (line_len hl)
    clear hT ht hl hv
    go_enter Tryd.func22, Tryd.ntmps22
    go_wp2_with (go_at_call 9; (with_reducible refine (LnC.call ((HT.out.alloc _).alloc _) ((HTT.out.below ((Below.refl _ _).alloc hB _)).below ((Below.refl _ _).alloc (by simp; omega) _)) (by simp; omega) HW.out (PtsAt.made (by simp; omega) (HP.out _) _ 1 (by simp) rfl (by decide)) ht1 HL.out).mono ?_); rintro e w2 ⟨rfl, hT2, hw2⟩)
    go_end0
    exact ⟨rfl, hT2, (((Wr.refl B b w).alloc hB _).alloc (by simp; omega) _).trans hw2⟩
  · have HP : Hid (∀ w', PtVs B w' [.str ⟨#[99, 111, 110, 116, 105, 110, 117, 101, 59]⟩] (#[.iface 9 (.string ⟨#[99, 111, 110, 116, 105, 110, 117, 101, 59]⟩)] : Array Value).toList) := fun w' => ⟨rfl, trivial⟩
    have HW : Hid (LnC B b [.str ⟨#[99, 111, 110, 116, 105, 110, 117, 101, 59]⟩]) := parts_any _ (by simp)
    rw [stT_line tabs [.str ⟨#[99, 111, 110, 116, 105, 110, 117, 101, 59]⟩] (by decide) rfl] at hl ⊢
    have HL := Lib.hid (line_len hl)
    clear hT ht hl hv
    go_enter Tryd.func22, Tryd.ntmps22
    go_wp2_with (go_at_call 9; (with_reducible refine (LnC.call ((HT.out.alloc _).alloc _) ((HTT.out.below ((Below.refl _ _).alloc hB _)).below ((Below.refl _ _).alloc (by simp; omega) _)) (by simp; omega) HW.out (PtsAt.made (by simp; omega) (HP.out _) _ 1 (by simp) rfl (by decide)) ht1 HL.out).mono ?_); rintro e w2 ⟨rfl, hT2, hw2⟩)
    go_end0
    exact ⟨rfl, hT2, (((Wr.refl B b w).alloc hB _).alloc (by simp; omega) _).trans hw2⟩
end
end Go.Proofs.YtomdcgifkkmopaaDoor
