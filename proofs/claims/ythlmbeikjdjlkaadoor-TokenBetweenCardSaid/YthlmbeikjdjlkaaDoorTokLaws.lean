/- The laws TokenTokens, TokenSmall and TokenNames return true, where the package-level variables read as the program's text lays them (TokTab). -/
import Derived.Test.YthlmbeikjdjlkaaDoorTokPieces
namespace Go.Proofs.YthlmbeikjdjlkaaDoor
open Go.RowKit
theorem scan_len : ∀ (n : Nat) (l : List UInt8) (line : Nat), l.length ≤ n → (scan l line).1.length ≤ l.length + 1
  | _, [], line, _ => by rw [scan_end]; simp
  | 0, c :: r, line, h => by simp at h
  | n + 1, c :: r, line, h => by
    simp only [List.length_cons] at h
    rw [scan]
    split
    · have := scan_len n r (line + 1) (by omega)
      simp only [List.length_cons]; omega
    · split
      · have := scan_len n r line (by omega)
        simp only [List.length_cons]; omega
      · split
        · have h1 := List.IsSuffix.length_le (List.dropWhile_suffix (l := r) (fun d : UInt8 => d.toNat != 10))
          have := scan_len n (r.dropWhile (fun d => d.toNat != 10)) line (by omega)
          simp only [List.length_cons]; omega
        · split
          · simp
          · rename_i k t _
            have h1 : (r.drop (t.length - 1)).length ≤ r.length := by rw [List.length_drop]; omega
            have h2 := scan_len n (r.drop (t.length - 1)) line (by omega)
            simp only [List.length_cons]
            omega
theorem reads_nil (w : World) : Reads w (.slice none 0 0) [] := ⟨none, 0, rfl, Nat.le_refl _, fun hp => absurd hp (by simp)⟩
/-- The document's tokens and the program's of a text that is not too long: the law's body. -/
theorem tokenTokens_mid (s : ByteArray) (w : World) (h : 1000 < s.size) (h2 : s.size ≤ 100000) (ht : TokTab w.heap.size w) :
    Calls Tryd.prog 3 #[.string s] w fun e w' => e = .returned (.bool true) ∧ Below w.heap.size w w' := by
  have HT := Lib.hid ht
  clear ht
  have hd1 : decide ((1000 : Int) < s.size) = true := by simp; omega
  have hd2 : decide ((s.size : Int) ≤ 100000) = true := by simp; omega
  clear h h2
  go_enter Tryd.func3, Tryd.ntmps3
  go_wp2_with (go_at_call 8; (with_reducible refine (awake_any _ HT.out).mono ?_); rintro e w1 ⟨rfl, hb1⟩)
  go_ret
  exact ⟨rfl, hb1⟩
theorem tokenTokens_long (s : ByteArray) (w : World) (h : 100000 < s.size) (ht : TokTab w.heap.size w) :
    Calls Tryd.prog 3 #[.string s] w fun e w' => e = .returned (.bool true) ∧ Below w.heap.size w w' := by
  have HT := Lib.hid ht
  clear ht
  have hd1 : decide ((1000 : Int) < s.size) = true := by simp; omega
  have hd2 : decide ((s.size : Int) ≤ 100000) = false := by simp; omega
  have HL := Lib.hid h
  clear h
  go_enter Tryd.func3, Tryd.ntmps3
  go_wp2_with (first
    | (go_at_call 9; (with_reducible refine (tokens_long s _ HL.out).mono ?_); rintro e w' ⟨rfl, rfl⟩)
    | (go_at_call 10; (with_reducible refine (rtokens_long s _ HL.out).mono ?_); rintro e w' ⟨rfl, rfl⟩)
    | (go_at_call 8; (with_reducible refine (awake_any _ HT.out).mono ?_); rintro e w1 ⟨rfl, hb1⟩)
    | (go_at_call 11; (with_reducible refine (same_any _ _ [] _ (reads_nil _) (reads_nil _) (by decide)).mono ?_); rintro e w2 ⟨rfl, hb2⟩))
  go_ret
  exact ⟨rfl, hb1.trans (hb2.mono hb1.size)⟩
theorem tokenTokens_short (s : ByteArray) (w : World) (h : s.size ≤ 1000) (ht : TokTab w.heap.size w) :
    Calls Tryd.prog 3 #[.string s] w fun e w' => e = .returned (.bool true) ∧ Below w.heap.size w w' := by
  have HT := Lib.hid ht
  clear ht
  have hd1 : decide ((1000 : Int) < s.size) = false := by simp; omega
  have HL : Hid (s.size ≤ 100000) := by unfold Hid; omega
  have hlen := scan_len _ s.data.toList 1 (Nat.le_refl _)
  rw [← Lib.size_eq] at hlen
  rcases hsc : scan s.data.toList 1 with ⟨ts, _ | ln⟩
  · rw [hsc] at hlen
    have HSC := Lib.hid hsc
    have HN : Hid (ts.length < 4294967296) := by unfold Hid; simp only at hlen; omega
    clear h hsc hlen
    go_enter Tryd.func3, Tryd.ntmps3
    go_wp2_with (first
      | (go_at_call 9; (with_reducible refine (tokens_ok s ts HSC.out _ HL.out HT.out).mono ?_); rintro e w1 ⟨v1, rfl, hr1, hb1⟩; have HR1 := Lib.hid hr1; clear hr1)
      | (go_at_call 10; (with_reducible refine (rtokens_ok s ts HSC.out _ HL.out).mono ?_); rintro e w2 ⟨v2, rfl, hr2, hb2⟩; have HR2 := Lib.hid hr2; clear hr2; have hb12 := hb1.trans (hb2.mono hb1.size))
      | (go_at_call 8; (with_reducible refine (awake_any _ (HT.out.at_ hb12)).mono ?_); rintro e w3 ⟨rfl, hb3⟩; have hb13 := hb12.trans (hb3.mono hb12.size))
      | (go_at_call 11; (with_reducible refine (same_any _ _ ts _ ((HR1.out.below hb2).below hb3) (HR2.out.below hb3) HN.out).mono ?_); rintro e w4 ⟨rfl, hb4⟩))
    go_ret
    exact ⟨rfl, hb13.trans (hb4.mono hb13.size)⟩
  · have HSC := Lib.hid hsc
    clear h hsc hlen
    go_enter Tryd.func3, Tryd.ntmps3
    go_wp2_with (first
      | (go_at_call 9; (with_reducible refine (tokens_no s ts ln HSC.out _ HL.out HT.out).mono ?_); rintro e w1 ⟨rfl, hb1⟩)
      | (go_at_call 10; (with_reducible refine (rtokens_no s ts ln HSC.out _ HL.out).mono ?_); rintro e w2 ⟨rfl, hb2⟩; have hb12 := hb1.trans (hb2.mono hb1.size))
      | (go_at_call 8; (with_reducible refine (awake_any _ (HT.out.at_ hb12)).mono ?_); rintro e w3 ⟨rfl, hb3⟩; have hb13 := hb12.trans (hb3.mono hb12.size))
      | (go_at_call 11; (with_reducible refine (same_any _ _ [] _ (reads_nil _) (reads_nil _) (by decide)).mono ?_); rintro e w4 ⟨rfl, hb4⟩))
    go_ret
    exact ⟨rfl, hb13.trans (hb4.mono hb13.size)⟩
theorem tokenTokens_law (s : ByteArray) (w : World) (ht : TokTab w.heap.size w) :
    Calls Tryd.prog 3 #[.string s] w fun e w' => e = .returned (.bool true) ∧ Below w.heap.size w w' := by
  by_cases h1 : s.size ≤ 1000
  · exact tokenTokens_short s w h1 ht
  · by_cases h2 : s.size ≤ 100000
    · exact tokenTokens_mid s w (by omega) h2 ht
    · exact tokenTokens_long s w (by omega) ht
/-! ### small texts -/
theorem tokenSmall_law (v : Value) (w : World) (hv : BytesIn w v) (ht : TokTab w.heap.size w) :
    Calls Tryd.prog 4 #[v] w fun e w' => e = .returned (.bool true) ∧ Below w.heap.size w w' := by
  have HT := Lib.hid ht
  have HV := Lib.hid hv
  clear ht hv
  go_enter Tryd.func4, Tryd.ntmps4
  go_wp2_with (first
    | (go_at_call 13; (with_reducible refine (signs_any _).mono ?_); rintro e w0 ⟨rfl, hS, hb0⟩; have HS := Lib.hid hS; clear hS)
    | (go_at_call 12; (with_reducible refine (pieces_any v _ 36 _ _ (HV.out.below hb0) (by decide) (by decide) HS.out).mono ?_); rintro e w' ⟨s, rfl, hs, rfl⟩))
  have HL : Hid (s.size ≤ 100000) := by unfold Hid; omega
  have hlen := scan_len _ s.data.toList 1 (Nat.le_refl _)
  rw [← Lib.size_eq] at hlen
  rcases hsc : scan s.data.toList 1 with ⟨ts, _ | ln⟩
  · rw [hsc] at hlen
    have HSC := Lib.hid hsc
    have HN : Hid (ts.length < 4294967296) := by unfold Hid; simp only at hlen; omega
    clear hs hsc hlen
    (with_reducible refine (tokens_ok s ts HSC.out _ HL.out (HT.out.at_ hb0)).mono ?_)
    rintro e w1 ⟨v1, rfl, hr1, hb1⟩
    have HR1 := Lib.hid hr1
    have hb01 := hb0.trans (hb1.mono hb0.size)
    clear hr1
    go_wp2_with (first
      | (go_at_call 10; (with_reducible refine (rtokens_ok s ts HSC.out _ HL.out).mono ?_); rintro e w2 ⟨v2, rfl, hr2, hb2⟩; have HR2 := Lib.hid hr2; clear hr2; have hb12 := hb01.trans (hb2.mono hb01.size))
      | (go_at_call 8; (with_reducible refine (awake_any _ (HT.out.at_ hb12)).mono ?_); rintro e w3 ⟨rfl, hb3⟩; have hb13 := hb12.trans (hb3.mono hb12.size))
      | (go_at_call 11; (with_reducible refine (same_any _ _ ts _ ((HR1.out.below hb2).below hb3) (HR2.out.below hb3) HN.out).mono ?_); rintro e w4 ⟨rfl, hb4⟩))
    go_ret
    exact ⟨rfl, hb13.trans (hb4.mono hb13.size)⟩
  · have HSC := Lib.hid hsc
    clear hs hsc hlen
    (with_reducible refine (tokens_no s ts ln HSC.out _ HL.out (HT.out.at_ hb0)).mono ?_)
    rintro e w1 ⟨rfl, hb1⟩
    have hb01 := hb0.trans (hb1.mono hb0.size)
    go_wp2_with (first
      | (go_at_call 10; (with_reducible refine (rtokens_no s ts ln HSC.out _ HL.out).mono ?_); rintro e w2 ⟨rfl, hb2⟩; have hb12 := hb01.trans (hb2.mono hb01.size))
      | (go_at_call 8; (with_reducible refine (awake_any _ (HT.out.at_ hb12)).mono ?_); rintro e w3 ⟨rfl, hb3⟩; have hb13 := hb12.trans (hb3.mono hb12.size))
      | (go_at_call 11; (with_reducible refine (same_any _ _ [] _ (reads_nil _) (reads_nil _) (by decide)).mono ?_); rintro e w4 ⟨rfl, hb4⟩))
    go_ret
    exact ⟨rfl, hb13.trans (hb4.mono hb13.size)⟩
/-! ### names -/
def nameStrs : List ByteArray := [⟨#[97]⟩, ⟨#[49]⟩, ⟨#[95]⟩, ⟨#[90]⟩, ⟨#[105, 110, 116]⟩, ⟨#[105]⟩, ⟨#[56]⟩, ⟨#[105, 102]⟩, ⟨#[45]⟩]
theorem tokenNames_law (s : ByteArray) (v : Value) (w : World) (hv : BytesIn w v) (ht : TokTab w.heap.size w) :
    Calls Tryd.prog 5 #[.string s, v] w fun e w' => e = .returned (.bool true) ∧ Below w.heap.size w w' := by
  have HT := Lib.hid ht
  have HV := Lib.hid (hv.below ((Below.refl w.heap.size w).alloc (Nat.le_refl _) (.cells (nameStrs.map Value.string).toArray 9)))
  have HS : Hid (Strs (w.alloc (.cells (nameStrs.map Value.string).toArray 9)) w.heap.size 9) := strs_of nameStrs (by decide) (heap_alloc_new w _)
  have hb0 : Below w.heap.size w (w.alloc (.cells (nameStrs.map Value.string).toArray 9)) := (Below.refl _ _).alloc (Nat.le_refl _) _
  clear ht hv
  go_enter Tryd.func5, Tryd.ntmps5
  go_wp2_with (fail)
  refine (pieces_any v w.heap.size 9 9 (w.alloc (.cells (nameStrs.map Value.string).toArray 9)) HV.out (by decide) (by decide) HS.out).mono ?_
  rintro e w' ⟨t, rfl, _, rfl⟩
  obtain ⟨b1, h1⟩ : ∃ b, nameB s.data.toList = b := ⟨_, rfl⟩
  obtain ⟨b2, h2⟩ : ∃ b, wordB s.data.toList = b := ⟨_, rfl⟩
  obtain ⟨b3, h3⟩ : ∃ b, nameB t.data.toList = b := ⟨_, rfl⟩
  obtain ⟨b4, h4⟩ : ∃ b, wordB t.data.toList = b := ⟨_, rfl⟩
  have H1 := Lib.hid h1
  have H2 := Lib.hid h2
  have H3 := Lib.hid h3
  have H4 := Lib.hid h4
  clear h1 h2 h3 h4
  go_wp2_with (first
    | (go_at_call 8; (with_reducible refine (awake_any _ (HT.out.at_ hb0)).mono ?_); rintro e w1 ⟨rfl, hb1⟩; have hb01 := hb0.trans (hb1.mono hb0.size))
    | (go_at_call 14; (with_reducible refine (name_is s b1 H1.out _).mono ?_); rintro e w2 ⟨rfl, hb2⟩; have hb02 := hb01.trans (hb2.mono hb01.size))
    | (go_at_call 14; (with_reducible refine (name_is t b3 H3.out _).mono ?_); rintro e w3 ⟨rfl, hb3⟩; have hb03 := hb02.trans (hb3.mono hb02.size))
    | (go_at_call 15; (with_reducible refine (rname_is s b1 H1.out _).mono ?_); rintro e w' ⟨rfl, rfl⟩)
    | (go_at_call 15; (with_reducible refine (rname_is t b3 H3.out _).mono ?_); rintro e w' ⟨rfl, rfl⟩)
    | (go_at_call 16; (with_reducible refine (word_is s b2 H2.out _).mono ?_); rintro e w' ⟨rfl, rfl⟩)
    | (go_at_call 16; (with_reducible refine (word_is t b4 H4.out _).mono ?_); rintro e w' ⟨rfl, rfl⟩)
    | (go_at_call 17; (with_reducible refine (rword_is s b2 H2.out _).mono ?_); rintro e w' ⟨rfl, rfl⟩)
    | (go_at_call 17; (with_reducible refine (rword_is t b4 H4.out _).mono ?_); rintro e w' ⟨rfl, rfl⟩))
  go_ret
  exact ⟨rfl, hb03⟩
end Go.Proofs.YthlmbeikjdjlkaaDoor
