/- The contracts of the document's texts: numbers, types. -/
import Derived.Test.YtomdcgifkkmopaaDoorTreeRead
import Derived.Laws.IdiomStrings
import Derived.Lib.ItoaLen
import Derived.Deep.RegionHeld3
import Derived.Deep.RegionWith
namespace Go.Proofs.YtomdcgifkkmopaaDoor
open Go.RowKit
theorem ret_str {a b : ByteArray} (h : a = b) : Ending.returned (.string a) = .returned (.string b) := by rw [h]
theorem conv_one (d : Nat) (hd : d < 10) (x : Int) (hx : x = 48 + (d : Int)) (w : World) :
    (convert 42 9 (.slice (some ⟨w.heap.size, 0, none⟩) 1 1)).run Tryd.prog (w.alloc (.cells #[.int .u8 x] 5)) = .ok (.string ⟨#[UInt8.ofNat (48 + d)]⟩) (w.alloc (.cells #[.int .u8 x] 5)) := by
  refine run_convert_bytes_back (P := Tryd.prog) _ 42 9 5 ⟨w.heap.size, 0, none⟩ 1 [UInt8.ofNat (48 + d)] Tryd.underlying42 Tryd.underlying5 Tryd.underlying9 ?_
  intro j hj
  simp at hj
  subst hj
  have e : ((UInt8.ofNat (48 + d)).toNat : Int) = 48 + (d : Int) := by
    rw [UInt8.toNat_ofNat']
    have : (48 + d) % 2 ^ 8 = 48 + d := Nat.mod_eq_of_lt (by omega)
    rw [this]
    omega
  simp [Addr.add, hx]
  omega
theorem decDigits_len (n : Nat) (h : n ≤ 9223372036854775807) : (Lib.decDigits n).length ≤ 20 := by
  rw [Lib.decDigits_length]
  exact Lib.nDigits_le20 n (by omega)
set_option maxHeartbeats 1000000 in
set_option maxRecDepth 100000 in
/-- A number from 0 on, in digits. -/
theorem digits_any : ∀ (k : Nat) (z : Int) (w : World), 0 ≤ z → z ≤ 9223372036854775807 → z.toNat ≤ k →
    Calls Tryd.prog 12 #[.int .i64 z] w fun e w' => e = .returned (.string ⟨(Lib.decDigits z.toNat).toArray⟩) ∧ Below w.heap.size w w' := by
  intro k
  induction k with
  | zero =>
    intro z w h0 h1 hk
    have hcv := conv_one (z.toNat % 10) (by omega) (48 + z % 10) (by omega) w
    obtain ⟨ch, hch⟩ : ∃ ch : UInt8, UInt8.ofNat (48 + z.toNat % 10) = ch := ⟨_, rfl⟩
    rw [hch] at hcv
    have HCH := Lib.hid hch
    clear hch
    have hd : z < 10 := by omega
    have HR : Hid (Lib.decDigits z.toNat = [ch]) := by unfold Hid; rw [← HCH.out, Lib.decDigits, dif_pos (by omega), Nat.mod_eq_of_lt (by omega)]
    go_enter Tryd.func12, Tryd.ntmps12
    go_wp2_with (fail)
    go_ret
    exact ⟨ret_str (by rw [HR.out]), (Below.refl _ _).alloc (Nat.le_refl _) _⟩
  | succ k ih =>
    intro z w h0 h1 hk
    have hcv := conv_one (z.toNat % 10) (by omega) (48 + z % 10) (by omega) w
    obtain ⟨ch, hch⟩ : ∃ ch : UInt8, UInt8.ofNat (48 + z.toNat % 10) = ch := ⟨_, rfl⟩
    rw [hch] at hcv
    have HCH := Lib.hid hch
    clear hch
    by_cases hd : z < 10
    · have HR : Hid (Lib.decDigits z.toNat = [ch]) := by unfold Hid; rw [← HCH.out, Lib.decDigits, dif_pos (by omega), Nat.mod_eq_of_lt (by omega)]
      clear ih
      go_enter Tryd.func12, Tryd.ntmps12
      go_wp2_with (fail)
      go_ret
      exact ⟨ret_str (by rw [HR.out]), (Below.refl _ _).alloc (Nat.le_refl _) _⟩
    · have HR : Hid (Lib.decDigits z.toNat = Lib.decDigits (z / 10).toNat ++ [ch]) := by
        unfold Hid
        rw [← HCH.out, Lib.decDigits, dif_neg (by omega)]
        congr 2
        omega
      have hq0 : 0 ≤ z / 10 := by omega
      have hq1 : z / 10 ≤ 9223372036854775807 := by omega
      have hq2 : (z / 10).toNat ≤ k := by omega
      have hlen : (⟨(Lib.decDigits (z / 10).toNat).toArray⟩ : ByteArray).size + (⟨#[ch]⟩ : ByteArray).size ≤ 21 := by
        have := decDigits_len (z / 10).toNat (by omega)
        show (Lib.decDigits (z / 10).toNat).length + 1 ≤ 21
        omega
      have HI := Lib.hid ih
      clear ih
      go_enter Tryd.func12, Tryd.ntmps12
      go_wp2_with (go_at_call 12; (with_reducible refine (HI.out (z / 10) _ hq0 hq1 hq2).mono ?_); rintro e w1 ⟨rfl, hb1⟩)
      go_ret
      refine ⟨ret_str ?_, ((Below.refl _ _).alloc (Nat.le_refl _) _).trans (hb1.mono (by simp))⟩
      rw [HR.out]
      apply ByteArray.ext
      simp [ByteArray.data_append]
/-- As the text of a program has it. -/
theorem rdigits_any (z : Int) (w : World) (h0 : 0 ≤ z) (hr : i64R z) : Calls Tryd.prog 12 #[.int .i64 z] w fun e w' => e = .returned (.string ⟨(Lib.itoa z).toArray⟩) ∧ Below w.heap.size w w' := by
  have e : Lib.itoa z = Lib.decDigits z.toNat := by unfold Lib.itoa; rw [if_neg (by omega)]
  rw [e]
  exact digits_any _ z w h0 hr.2 (Nat.le_refl _)
theorem rtypes_any (t : Int) (ht : tyB t = true) (w : World) : Calls Tryd.prog 13 #[.int .i64 t] w fun e w' => e = .returned (.string ⟨(tyT t).toArray⟩) ∧ w = w' := by
  have h : t = 1 ∨ t = 2 := by simpa [tyB] using ht
  rcases h with rfl | rfl
  all_goals
    go_enter Tryd.func13, Tryd.ntmps13
    go_wp2_with (fail)
    go_ret
    exact ⟨rfl, rfl⟩
end Go.Proofs.YtomdcgifkkmopaaDoor
