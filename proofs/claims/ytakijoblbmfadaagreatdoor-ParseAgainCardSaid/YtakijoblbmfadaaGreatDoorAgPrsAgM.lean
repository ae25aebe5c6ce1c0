import Derived.Test.YtakijoblbmfadaaGreatDoorAgParScan
import Derived.Test.YtakijoblbmfadaaGreatDoorAgParBlanks
import Derived.Test.YtakijoblbmfadaaGreatDoorAgTreeLeaf
import Derived.Laws.IdiomStrings
import Derived.Lib.ItoaLen
import Derived.Deep.RegionHeld3
import Derived.Deep.RegionWith
set_option linter.unusedSimpArgs false
set_option linter.unusedVariables false
/- What is parsed, told, is parsed to the same; blanks and comments make no difference: of the plain answers. -/
namespace Go.Proofs.YtakijoblbmfadaaGreatDoor
open Go.RowKit
theorem docP_ok {s : ByteArray} {p : Pr} {ln : Nat} (h : docP s = (p, 0, ln)) : ln = 0 ∧ s.size ≤ 100000 ∧ ∃ ts r, scan s.data.toList 1 = (ts, none) ∧ parseT ts = .ok p r ∧ prOK p = true := by
  by_cases hs : 100000 < s.size
  · rw [docP_long hs] at h
    cases h
  · have h1 : s.size ≤ 100000 := by omega
    cases hc : (scan s.data.toList 1).2 with
    | some n =>
      rw [docP_no h1 hc] at h
      cases h
    | none =>
      have hs2 := scan_none hc
      rw [docP_yes h1 hs2] at h
      unfold docT at h
      cases hp : parseT (scan s.data.toList 1).1 with
      | ok q r =>
        rw [hp] at h
        by_cases hq : prOK q = true
        · simp only [if_pos hq] at h
          injection h with e1 e2
          injection e2 with e2 e3
          subst e1
          exact ⟨e3.symm, h1, _, r, hs2, hp, hq⟩
        · simp only [if_neg hq] at h
          cases h
      | bad r =>
        rw [hp] at h
        cases h
      | deep r =>
        rw [hp] at h
        cases h
      | out => exact absurd (parseT_ends (scan_endL _ _ _ _ (Nat.le_refl _) hs2)) (by rw [hp]; exact id)
theorem docP_bad {s : ByteArray} {p : Pr} {k : Int} {ln : Nat} (h : docP s = (p, k, ln)) (hk : k ≠ 0) : p = pr0 := by
  by_cases hs : 100000 < s.size
  · rw [docP_long hs] at h
    exact (Prod.mk.inj h).1.symm
  · have h1 : s.size ≤ 100000 := by omega
    cases hc : (scan s.data.toList 1).2 with
    | some n =>
      rw [docP_no h1 hc] at h
      exact (Prod.mk.inj h).1.symm
    | none =>
      rw [docP_yes h1 (scan_none hc)] at h
      unfold docT at h
      split at h
      · split at h
        · exact absurd (Prod.mk.inj (Prod.mk.inj h).2).1.symm hk
        · exact (Prod.mk.inj h).1.symm
      · exact (Prod.mk.inj h).1.symm
      · exact (Prod.mk.inj h).1.symm
      · exact (Prod.mk.inj h).1.symm
theorem docP_of {s : ByteArray} (h : s.size ≤ 100000) {ts r : List Tok} {p : Pr} (hs : scan s.data.toList 1 = (ts, none)) (hp : parseT ts = .ok p r) (hok : prOK p = true) : docP s = (p, 0, 0) := by
  rw [docP_yes h hs]
  unfold docT
  rw [hp]
  simp only [if_pos hok]
/-- The text that a parsed program is told by. -/
theorem docP_told {s : ByteArray} {p : Pr} {ln : Nat} (h : docP s = (p, 0, ln)) (hs : s.size ≤ 500) : prOK p = true ∧ (prT p).length ≤ 25000 ∧ docP ⟨(prT p).toArray⟩ = (p, 0, 0) := by
  obtain ⟨_, _, ts, r, h1, h2, h3⟩ := docP_ok h
  obtain ⟨h4, us, q, h5, h6⟩ := parse_again h1 h2 h3 1
  rw [bsz] at h4
  have h7 : (prT p).length ≤ 25000 := by omega
  exact ⟨h3, h7, docP_of (by show (prT p).toArray.size ≤ 100000; rw [List.size_toArray]; omega) h5 h6 h3⟩
/-- Blanks and comments. -/
theorem docP_around {s : ByteArray} {p : Pr} {ln : Nat} (h : docP s = (p, 0, ln)) (hs : s.size ≤ 500) : docP ((⟨#[9, 47, 47, 32, 120, 10]⟩ ++ s) ++ ⟨#[10, 32, 47, 47, 32, 121]⟩) = (p, 0, 0) := by
  obtain ⟨_, _, ts, r, h1, h2, h3⟩ := docP_ok h
  obtain ⟨us, h5, h6⟩ := scan_around h1
  obtain ⟨q, h7⟩ := parse_fl h6 h2
  have e : ((⟨#[9, 47, 47, 32, 120, 10]⟩ ++ s) ++ ⟨#[10, 32, 47, 47, 32, 121]⟩ : ByteArray).data.toList = preP ++ (s.data.toList ++ sufP) := by
    rw [ByteArray.data_append, ByteArray.data_append, Array.toList_append, Array.toList_append, List.append_assoc]
    rfl
  exact docP_of (by rw [ByteArray.size_append, ByteArray.size_append]; show 6 + s.size + 6 ≤ _; omega) (by rw [e]; exact h5) h7 h3
end Go.Proofs.YtakijoblbmfadaaGreatDoor

/- The contracts of the document's texts: numbers, types. -/
namespace Go.Proofs.YtakijoblbmfadaaGreatDoor
open Go.RowKit
theorem ret_str {a b : ByteArray} (h : a = b) : Ending.returned (.string a) = .returned (.string b) := by rw [h]
theorem conv_one (d : Nat) (hd : d < 10) (x : Int) (hx : x = 48 + (d : Int)) (w : World) :
    (convert 22 9 (.slice (some ⟨w.heap.size, 0, none⟩) 1 1)).run Tryz.prog (w.alloc (.cells #[.int .u8 x] 5)) = .ok (.string ⟨#[UInt8.ofNat (48 + d)]⟩) (w.alloc (.cells #[.int .u8 x] 5)) := by
  refine run_convert_bytes_back (P := Tryz.prog) _ 22 9 5 ⟨w.heap.size, 0, none⟩ 1 [UInt8.ofNat (48 + d)] Tryz.underlying22 Tryz.underlying5 Tryz.underlying9 ?_
  intro j hj
  simp at hj
  subst hj
  have e : ((UInt8.ofNat (48 + d)).toNat : Int) = 48 + (d : Int) := by
    rw [UInt8.toNat_ofNat']
    have : (48 + d) % 2 ^ 8 = 48 + d := Nat.mod_eq_of_lt (by omega)
    rw [this]
    omega
  simp [Addr.add, hx]
  omega
theorem decDigits_len (n : Nat) (h : n ≤ 9223372036854775807) : (Lib.decDigits n).length ≤ 20 := by
  rw [Lib.decDigits_length]
  exact Lib.nDigits_le20 n (by omega)
set_option maxHeartbeats 1000000 in
set_option maxRecDepth 100000 in
/-- A number from 0 on, in digits. -/
theorem digits_any : ∀ (k : Nat) (z : Int) (w : World), 0 ≤ z → z ≤ 9223372036854775807 → z.toNat ≤ k →
    Calls Tryz.prog 23 #[.int .i64 z] w fun e w' => e = .returned (.string ⟨(Lib.decDigits z.toNat).toArray⟩) ∧ Below w.heap.size w w' := by
  intro k
  induction k with
  | zero =>
    intro z w h0 h1 hk
    have hcv := conv_one (z.toNat % 10) (by omega) (48 + z % 10) (by omega) w
    obtain ⟨ch, hch⟩ : ∃ ch : UInt8, UInt8.ofNat (48 + z.toNat % 10) = ch := ⟨_, rfl⟩
    rw [hch] at hcv
    have HCH := Lib.hid hch
    clear hch
    have hd : z < 10 := by omega
    have HR : Hid (Lib.decDigits z.toNat = [ch]) := by unfold Hid; rw [← HCH.out, Lib.decDigits, dif_pos (by omega), Nat.mod_eq_of_lt (by omega)]
    go_enter Tryz.func23, Tryz.ntmps23
    go_wp2_with (fail)
    go_ret
    exact ⟨ret_str (by rw [HR.out]), (Below.refl _ _).alloc (Nat.le_refl _) _⟩
  | succ k ih =>
    intro z w h0 h1 hk
    have hcv := conv_one (z.toNat % 10) (by omega) (48 + z % 10) (by omega) w
    obtain ⟨ch, hch⟩ : ∃ ch : UInt8, UInt8.ofNat (48 + z.toNat % 10) = ch := ⟨_, rfl⟩
    rw [hch] at hcv
    have HCH := Lib.hid hch
    clear hch
    by_cases hd : z < 10
    · have HR : Hid (Lib.decDigits z.toNat = [ch]) := by unfold Hid; rw [← HCH.out, Lib.decDigits, dif_pos (by omega), Nat.mod_eq_of_lt (by omega)]
      clear ih
      go_enter Tryz.func23, Tryz.ntmps23
      go_wp2_with (fail)
      go_ret
      exact ⟨ret_str (by rw [HR.out]), (Below.refl _ _).alloc (Nat.le_refl _) _⟩
    · have HR : Hid (Lib.decDigits z.toNat = Lib.decDigits (z / 10).toNat ++ [ch]) := by
        unfold Hid
        rw [← HCH.out, Lib.decDigits, dif_neg (by omega)]
        congr 2
        omega
      have hq0 : 0 ≤ z / 10 := by omega
      have hq1 : z / 10 ≤ 9223372036854775807 := by omega
      have hq2 : (z / 10).toNat ≤ k := by omega
      have hlen : (⟨(Lib.decDigits (z / 10).toNat).toArray⟩ : ByteArray).size + (⟨#[ch]⟩ : ByteArray).size ≤ 21 := by
        have := decDigits_len (z / 10).toNat (by omega)
        show (Lib.decDigits (z / 10).toNat).length + 1 ≤ 21
        omega
      have HI := Lib.hid ih
      clear ih
      go_enter Tryz.func23, Tryz.ntmps23
      go_wp2_with (go_at_call 23; (with_reducible refine (HI.out (z / 10) _ hq0 hq1 hq2).mono ?_); rintro e w1 ⟨rfl, hb1⟩)
      go_ret
      refine ⟨ret_str ?_, ((Below.refl _ _).alloc (Nat.le_refl _) _).trans (hb1.mono (by simp))⟩
      rw [HR.out]
      apply ByteArray.ext
      simp [ByteArray.data_append]
/-- As the text of a program has it. -/
theorem rdigits_any (z : Int) (w : World) (h0 : 0 ≤ z) (hr : i64R z) : Calls Tryz.prog 23 #[.int .i64 z] w fun e w' => e = .returned (.string ⟨(Lib.itoa z).toArray⟩) ∧ Below w.heap.size w w' := by
  have e : Lib.itoa z = Lib.decDigits z.toNat := by unfold Lib.itoa; rw [if_neg (by omega)]
  rw [e]
  exact digits_any _ z w h0 hr.2 (Nat.le_refl _)
theorem rtypes_any (t : Int) (ht : tyB t = true) (w : World) : Calls Tryz.prog 24 #[.int .i64 t] w fun e w' => e = .returned (.string ⟨(tyT t).toArray⟩) ∧ w = w' := by
  have h : t = 1 ∨ t = 2 := by simpa [tyB] using ht
  rcases h with rfl | rfl
  all_goals
    go_enter Tryz.func24, Tryz.ntmps24
    go_wp2_with (fail)
    go_ret
    exact ⟨rfl, rfl⟩
end Go.Proofs.YtakijoblbmfadaaGreatDoor
