/- The contracts of the document's answer for the layer token: signs. -/
import Derived.Test.YthlmbeikjdjlkaaDoorTokRefA
import Derived.Deep.QuietTactic
import Derived.BigQuiet
import Derived.Test.YthlmbeikjdjlkaaDoorTokScan
namespace Go.Proofs.YthlmbeikjdjlkaaDoor
open Go.RowKit
def refSigns2 : List (List UInt8) := [[60, 60], [62, 62], [60, 61], [62, 61], [61, 61], [33, 61], [38, 38], [124, 124]]
def refSigns : List (List UInt8) := [62, 62, 62] :: (refSigns2 ++ signs1)
def rCells : Array Value := (refSigns.map fun t => Value.string ⟨t.toArray⟩).toArray
theorem rCells_at (k : Nat) (h : k < 30) : ∃ t, refSigns[k]? = some t ∧ rCells[k]? = some (.string ⟨t.toArray⟩) := by
  have hk : k < refSigns.length := by simpa [refSigns, refSigns2, signs1] using h
  refine ⟨refSigns[k], List.getElem?_eq_getElem hk, ?_⟩
  unfold rCells
  rw [List.getElem?_toArray, List.getElem?_map, List.getElem?_eq_getElem hk]
  rfl
theorem find_perm {α : Type} (p : α → Bool) (xs ys : List α) (hm : ∀ u, u ∈ xs ↔ u ∈ ys) (hex : ∀ u v, u ∈ xs → v ∈ xs → p u = true → p v = true → u = v) : xs.find? p = ys.find? p := by
  cases hx : xs.find? p with
  | none =>
    rw [List.find?_eq_none] at hx
    exact (List.find?_eq_none.2 fun u hu => hx u ((hm u).2 hu)).symm
  | some u =>
    have hpu := List.find?_some hx
    have hu := List.mem_of_find?_eq_some hx
    cases hy : ys.find? p with
    | none => exact absurd hpu (List.find?_eq_none.1 hy u ((hm u).1 hu))
    | some v => rw [hex u v hu ((hm v).2 (List.mem_of_find?_eq_some hy)) hpu (List.find?_some hy)]
theorem refSigns_find (l : List UInt8) : refSigns.find? (fun t => Lib.hasPrefix l t) = allSigns.find? (fun t => Lib.hasPrefix l t) := by
  have h2 : refSigns2.find? (fun t => Lib.hasPrefix l t) = signs2.find? (fun t => Lib.hasPrefix l t) := by
    refine find_perm _ _ _ (fun u => (show refSigns2.Perm signs2 by decide).mem_iff) (fun u v hu hv h1 h2 => ?_)
    have hl : ∀ x, x ∈ refSigns2 → x.length = 2 := by decide
    have e1 := List.prefix_iff_eq_take.1 (List.isPrefixOf_iff_prefix.1 h1)
    have e2 := List.prefix_iff_eq_take.1 (List.isPrefixOf_iff_prefix.1 h2)
    rw [hl u hu] at e1
    rw [hl v hv] at e2
    rw [e1, e2]
  unfold refSigns allSigns
  rw [List.find?_cons, List.find?_cons, List.find?_append, List.find?_append, h2]
theorem refSigns_at (l : List UInt8) (k : Nat) (t : List UInt8) (h : refSigns[k]? = some t) (hp : Lib.hasPrefix l t = true) (hn : ∀ (j : Nat) u, j < k → refSigns[j]? = some u → Lib.hasPrefix l u = false) : signL l = t := by
  unfold signL
  rw [← refSigns_find, find_first (fun t => Lib.hasPrefix l t) _ k t h hp hn]
  rfl
theorem refSigns_none (l : List UInt8) (hn : ∀ (j : Nat) u, refSigns[j]? = some u → Lib.hasPrefix l u = false) : signL l = [] := by
  unfold signL
  rw [← refSigns_find, find_never (fun t => Lib.hasPrefix l t) _ hn]
  rfl
theorem prefix_test (s tb : ByteArray) (t : List UInt8) (ht : (⟨t.toArray⟩ : ByteArray) = tb) (hle : tb.size ≤ s.size) : ((s.extract 0 tb.size).toList == tb.toList) = Lib.hasPrefix s.data.toList t := by
  subst ht
  have e1 : (⟨t.toArray⟩ : ByteArray).toList = t := by rw [Lib.toList_data]
  have e2 : (⟨t.toArray⟩ : ByteArray).size = t.length := rfl
  rw [e2] at hle
  rw [← Lib.hasPrefix_of_take, Lib.extract_toList, e1, e2, decide_eq_true (by rw [← Lib.size_eq]; exact hle), Bool.true_and]
  rfl
theorem prefix_test_no (s tb : ByteArray) (t : List UInt8) (ht : (⟨t.toArray⟩ : ByteArray) = tb) (hle : ¬ tb.size ≤ s.size) : Lib.hasPrefix s.data.toList t = false := by
  subst ht
  have e2 : (⟨t.toArray⟩ : ByteArray).size = t.length := rfl
  rw [e2] at hle
  rw [← Lib.hasPrefix_of_take, decide_eq_false (by rw [← Lib.size_eq]; exact hle), Bool.false_and]
theorem rsign_any (s : ByteArray) (w : World) :
    Calls Tryd.prog 25 #[.string s] w fun e w' => e = .returned (.string ⟨(signL s.data.toList).toArray⟩) ∧ Below w.heap.size w w' := by
  go_enter Tryd.func25, Tryd.ntmps25
  go_wp2
  go_loopw [4] (fun i wr => ∃ k : Nat, k ≤ 30 ∧ i = .int .i64 k ∧ (∀ (j : Nat) u, j < k → refSigns[j]? = some u → Lib.hasPrefix s.data.toList u = false) ∧ Is wr w.heap.size 9 rCells ∧ Below w.heap.size w wr) (fun i _ => 30 - (intOf i).toNat)
  case atStart => exact ⟨0, by omega, rfl, fun j u hj => absurd hj (by omega), heap_alloc_new w _, (Below.refl _ _).alloc (Nat.le_refl _) _⟩
  case round =>
    obtain ⟨k, hk, rfl, hall, hI, hb⟩ := hrel
    have HA := Lib.hid hall
    have HI := Lib.hid hI
    clear hall hI
    by_cases hlt : k < 30
    · obtain ⟨t, htk, hck⟩ := rCells_at k hlt
      obtain ⟨tb, htb⟩ : ∃ tb : ByteArray, (⟨t.toArray⟩ : ByteArray) = tb := ⟨_, rfl⟩
      rw [htb] at hck
      have hcell : wr.cell? ⟨w.heap.size, k, none⟩ = some (.string tb) := (HI.out.cell k).trans hck
      have HK := Lib.hid htk
      have HTB := Lib.hid htb
      clear htk hck htb
      have HNEXT : Hid (Lib.hasPrefix s.data.toList t = false → ∀ (j : Nat) u, j < k + 1 → refSigns[j]? = some u → Lib.hasPrefix s.data.toList u = false) := by
        intro hp j u hj hu
        by_cases e : j = k
        · subst e
          have := HK.out.symm.trans hu
          injection this with this
          exact this ▸ hp
        · exact HA.out j u (by omega) hu
      by_cases hle : tb.size ≤ s.size
      · go_wp2
        go_quiet (fail)
        go_wp2
        · have ht : ((s.extract 0 tb.size).toList == tb.toList) = true := by assumption
          rw [prefix_test s tb t HTB.out hle] at ht
          go_ret
          rw [refSigns_at _ k t HK.out ht HA.out, HTB.out]
          exact ⟨rfl, below_drewN hb _⟩
        · have ht : ((s.extract 0 tb.size).toList == tb.toList) = false := by assumption
          rw [prefix_test s tb t HTB.out hle] at ht
          have HN := Lib.hid (HNEXT.out ht)
          clear ht
          go_roundw
          case rel => exact ⟨k + 1, by omega, by go_num, HN.out, HI.out, below_drewN hb _⟩
          case measure => simp [intOf]; omega
      · have hle' : decide (tb.size ≤ s.size) = false := by simpa using hle
        have HN := Lib.hid (HNEXT.out (prefix_test_no s tb t HTB.out hle))
        go_wp2
        go_quiet (fail)
        go_wp2
        go_roundw
        case rel => exact ⟨k + 1, by omega, by go_num, HN.out, HI.out, below_drewN hb _⟩
        case measure => simp [intOf]; omega
    · have e : k = 30 := by omega
      subst e
      go_wp2
      go_ret
      rw [refSigns_none _ (fun j u hu => HA.out j u (by have := (List.getElem?_eq_some_iff.1 hu).1; simpa [refSigns, refSigns2, signs1] using this) hu)]
      exact ⟨rfl, hb⟩
theorem rsign_is (s t : ByteArray) (h : (⟨(signL s.data.toList).toArray⟩ : ByteArray) = t) (w : World) :
    Calls Tryd.prog 25 #[.string s] w fun e w' => e = .returned (.string t) ∧ Below w.heap.size w w' := h ▸ rsign_any s w
end Go.Proofs.YthlmbeikjdjlkaaDoor
