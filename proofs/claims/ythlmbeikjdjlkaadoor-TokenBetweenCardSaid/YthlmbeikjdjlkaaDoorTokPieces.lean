/- The pieces of the layer token's laws: whatever bytes come in, Pieces gives a string of at most 266 bytes. -/
import Derived.Test.YthlmbeikjdjlkaaDoorTokSame
namespace Go.Proofs.YthlmbeikjdjlkaaDoor
open Go.RowKit
/-- A slice of bytes that can be read. -/
def BytesIn (w : World) (v : Value) : Prop := ∃ A n c, v = .slice A n c ∧ n ≤ 9223372036854775807 ∧ (0 < n → ∃ b off, A = some ⟨b, off, none⟩ ∧ b < w.heap.size ∧ ∀ k, k < n → ∃ z : Int, 0 ≤ z ∧ z ≤ 255 ∧ w.cell? ⟨b, off + k, none⟩ = some (.int .u8 z))
theorem BytesIn.below {w w' : World} {v : Value} (h : BytesIn w v) (hb : Below w.heap.size w w') : BytesIn w' v := by
  obtain ⟨A, n, c, rfl, hn, h1⟩ := h
  refine ⟨A, n, c, rfl, hn, fun hp => ?_⟩
  obtain ⟨b, off, rfl, hlt, hc⟩ := h1 hp
  refine ⟨b, off, rfl, Nat.lt_of_lt_of_le hlt hb.size, fun k hk => ?_⟩
  obtain ⟨z, h0, h255, hz⟩ := hc k hk
  exact ⟨z, h0, h255, (hb.cell (p := ⟨b, off + k, none⟩) hlt).trans hz⟩
/-- m short strings from the head of block h on. -/
def Strs (w : World) (h m : Nat) : Prop := ∀ k, k < m → ∃ s : ByteArray, s.size ≤ 19 ∧ w.cell? ⟨h, k, none⟩ = some (.string s)
theorem pieces_some (b off n c h m d : Nat) (w : World) (hn : n ≤ 9223372036854775807) (hc : ∀ k, k < n → ∃ z : Int, 0 ≤ z ∧ z ≤ 255 ∧ w.cell? ⟨b, off + k, none⟩ = some (.int .u8 z)) (hm : 0 < m) (hm2 : m ≤ 100) (hS : Strs w h m) :
    Calls Tryd.prog 12 #[.slice (some ⟨b, off, none⟩) n c, .slice (some ⟨h, 0, none⟩) m d] w fun e w' => ∃ r : ByteArray, e = .returned (.string r) ∧ r.size ≤ 266 ∧ w = w' := by
  have HC := Lib.hid hc
  have HS := Lib.hid hS
  clear hc hS
  go_enter Tryd.func12, Tryd.ntmps12
  go_wp2
  go_loop [5, 6] (fun rv iv => ∃ (k : Nat) (r : ByteArray), k ≤ n ∧ k ≤ 14 ∧ iv = .int .i64 k ∧ rv = .string r ∧ r.size ≤ 19 * k) (fun _ iv => 14 - (intOf iv).toNat)
  case atStart => exact ⟨0, ⟨#[]⟩, Nat.zero_le _, by omega, rfl, rfl, Nat.le_refl _⟩
  case round =>
    obtain ⟨k, r, hk, hk14, rfl, rfl, hr⟩ := hrel
    by_cases hlt : k < n
    · by_cases h14 : k < 14
      · obtain ⟨z, hz0, hz255, hz⟩ := HC.out k hlt
        have hj0 : 0 ≤ z % (m : Int) := Int.emod_nonneg _ (by omega)
        have hjm : z % (m : Int) < m := Int.emod_lt_of_pos _ (by omega)
        obtain ⟨s, hs, hsc⟩ := HS.out (z % (m : Int)).toNat (by omega)
        go_wp2
        go_round
        case rel => exact ⟨k + 1, r ++ s, by omega, by omega, by go_num, rfl, by rw [ByteArray.size_append]; omega⟩
        case measure => simp [intOf]; omega
      · have e : k = 14 := by omega
        subst e
        go_wp2
        go_ret
        exact ⟨r, rfl, hr, rfl⟩
    · have e : k = n := by omega
      subst e
      go_wp2
      go_ret
      exact ⟨r, rfl, by omega, rfl⟩
theorem pieces_nil (A : Option Addr) (c : Nat) (p : Value) (w : World) :
    Calls Tryd.prog 12 #[.slice A 0 c, p] w fun e w' => e = .returned (.string ⟨#[]⟩) ∧ w = w' := by
  go_enter Tryd.func12, Tryd.ntmps12
  go_wp2
  go_loop [5, 6] (fun rv iv => iv = .int .i64 0 ∧ rv = .string ⟨#[]⟩) (fun _ _ => 0)
  case atStart => exact ⟨rfl, rfl⟩
  case round =>
    obtain ⟨rfl, rfl⟩ := hrel
    go_wp2
    go_ret
    exact ⟨rfl, rfl⟩
theorem pieces_any (v : Value) (h m d : Nat) (w : World) (hv : BytesIn w v) (hm : 0 < m) (hm2 : m ≤ 100) (hS : Strs w h m) :
    Calls Tryd.prog 12 #[v, .slice (some ⟨h, 0, none⟩) m d] w fun e w' => ∃ r : ByteArray, e = .returned (.string r) ∧ r.size ≤ 266 ∧ w = w' := by
  obtain ⟨A, n, c, rfl, hn, h1⟩ := hv
  by_cases h0 : 0 < n
  · obtain ⟨b, off, rfl, _, hc⟩ := h1 h0
    exact pieces_some b off n c h m d w hn hc hm hm2 hS
  · rw [show n = 0 by omega]
    exact (pieces_nil A c _ w).mono fun e w' ⟨he, hk⟩ => ⟨_, he, by decide, hk⟩
theorem strs_of {w : World} {h : Nat} (L : List ByteArray) (hL : (L.all fun s => decide (s.size ≤ 19)) = true) (hI : Is w h 9 (L.map Value.string).toArray) : Strs w h L.length := by
  intro k hk
  refine ⟨L[k], of_decide_eq_true (List.all_eq_true.1 hL _ (List.getElem_mem hk)), ?_⟩
  rw [hI.cell k, List.getElem?_toArray, List.getElem?_map, List.getElem?_eq_getElem hk]
  rfl
def signStrs : List ByteArray := [⟨#[97]⟩, ⟨#[49]⟩, ⟨#[48]⟩, ⟨#[32]⟩, ⟨#[10]⟩, ⟨#[47, 47]⟩, ⟨#[47]⟩, ⟨#[61]⟩, ⟨#[60]⟩, ⟨#[62]⟩, ⟨#[33]⟩, ⟨#[38]⟩, ⟨#[124]⟩, ⟨#[105, 110, 116]⟩, ⟨#[105, 102]⟩, ⟨#[105, 56]⟩, ⟨#[95]⟩, ⟨#[40]⟩, ⟨#[41]⟩, ⟨#[123]⟩, ⟨#[125]⟩, ⟨#[91]⟩, ⟨#[93]⟩, ⟨#[44]⟩, ⟨#[59]⟩, ⟨#[43]⟩, ⟨#[45]⟩, ⟨#[42]⟩, ⟨#[37]⟩, ⟨#[94]⟩, ⟨#[126]⟩, ⟨#[9]⟩,
  ⟨#[57, 50, 50, 51, 51, 55, 50, 48, 51, 54, 56, 53, 52, 55, 55, 53, 56, 48, 55]⟩, ⟨#[13]⟩, ⟨#[35]⟩, ⟨#[195, 169]⟩]
theorem signs_any (w : World) : Calls Tryd.prog 13 #[] w fun e w' => e = .returned (.slice (some ⟨w.heap.size, 0, none⟩) 36 36) ∧ Strs w' w.heap.size 36 ∧ Below w.heap.size w w' := by
  go_enter Tryd.func13, Tryd.ntmps13
  go_wp2
  go_ret
  exact ⟨rfl, strs_of signStrs (by decide) (heap_alloc_new w _), (Below.refl _ _).alloc (Nat.le_refl _) _⟩
theorem TokTab.at_ {B : Nat} {w w' : World} (h : TokTab B w) (hb : Below B w w') (hB : B ≤ w.heap.size := by exact Nat.le_refl _) : TokTab w'.heap.size w' := by
  have h1 := h.below hb
  have h2 := Nat.le_trans hB hb.size
  exact ⟨⟨Nat.lt_of_lt_of_le h1.lt.1 h2, Nat.lt_of_lt_of_le h1.lt.2.1 h2, Nat.lt_of_lt_of_le h1.lt.2.2 h2⟩, h1.syms, h1.esyn, h1.erng⟩
/-! ### Tokens, by what scan tells -/
theorem tokens_ok (s : ByteArray) (ts : List Tok) (hsc : scan s.data.toList 1 = (ts, none)) (w : World) (h : s.size ≤ 100000) (ht : TokTab w.heap.size w) :
    Calls Tryd.prog 9 #[.string s] w fun e w' => ∃ v, e = .returned (.tuple #[v, .int .i64 0, .int .i64 0]) ∧ Reads w' v ts ∧ Below w.heap.size w w' := by
  refine (tokens_any s w h ht).mono fun e w' hp => ?_
  unfold TokensPost at hp
  rw [hsc] at hp
  obtain ⟨hb, v, he, hT⟩ := hp
  exact ⟨v, he, hT.reads, hb⟩
theorem tokens_no (s : ByteArray) (ts : List Tok) (ln : Nat) (hsc : scan s.data.toList 1 = (ts, some ln)) (w : World) (h : s.size ≤ 100000) (ht : TokTab w.heap.size w) :
    Calls Tryd.prog 9 #[.string s] w fun e w' => e = .returned (.tuple #[.slice none 0 0, .int .i64 20, .int .i64 (ln : Int)]) ∧ Below w.heap.size w w' := by
  refine (tokens_any s w h ht).mono fun e w' hp => ?_
  unfold TokensPost at hp
  rw [hsc] at hp
  exact ⟨hp.2, hp.1⟩
theorem rtokens_ok (s : ByteArray) (ts : List Tok) (hsc : scan s.data.toList 1 = (ts, none)) (w : World) (h : s.size ≤ 100000) :
    Calls Tryd.prog 10 #[.string s] w fun e w' => ∃ v, e = .returned (.tuple #[v, .int .i64 0, .int .i64 0]) ∧ Reads w' v ts ∧ Below w.heap.size w w' := by
  refine (rtokens_any s w h).mono fun e w' hp => ?_
  unfold TokensPost at hp
  rw [hsc] at hp
  obtain ⟨hb, v, he, hT⟩ := hp
  exact ⟨v, he, hT.reads, hb⟩
theorem rtokens_no (s : ByteArray) (ts : List Tok) (ln : Nat) (hsc : scan s.data.toList 1 = (ts, some ln)) (w : World) (h : s.size ≤ 100000) :
    Calls Tryd.prog 10 #[.string s] w fun e w' => e = .returned (.tuple #[.slice none 0 0, .int .i64 20, .int .i64 (ln : Int)]) ∧ Below w.heap.size w w' := by
  refine (rtokens_any s w h).mono fun e w' hp => ?_
  unfold TokensPost at hp
  rw [hsc] at hp
  exact ⟨hp.2, hp.1⟩
/-! ### awake -/
def toks1 : List Tok := [⟨1, [120], 1⟩, ⟨2, [61], 1⟩, ⟨0, [49], 1⟩, ⟨2, [59], 1⟩, ⟨3, [], 1⟩]
theorem scan_c1 : scan [120, 61, 49, 59, 47, 47, 32, 97] 1 = (toks1, none) := by
  rw [scan_one (k := 1) (t := [120]) (by decide +kernel) (by decide +kernel)]
  simp only [List.length_cons, List.length_nil, List.drop_succ_cons, List.drop_zero, Nat.zero_add]
  rw [scan_one (k := 2) (t := [61]) (by decide +kernel) (by decide +kernel)]
  simp only [List.length_cons, List.length_nil, List.drop_succ_cons, List.drop_zero, Nat.zero_add]
  rw [scan_one (k := 0) (t := [49]) (by decide +kernel) (by decide +kernel)]
  simp only [List.length_cons, List.length_nil, List.drop_succ_cons, List.drop_zero, Nat.zero_add]
  rw [scan_one (k := 2) (t := [59]) (by decide +kernel) (by decide +kernel)]
  simp only [List.length_cons, List.length_nil, List.drop_succ_cons, List.drop_zero, Nat.zero_add]
  have h : scan [47, 47, 32, 97] 1 = scan [] 1 := scan_com (l := [47, 47, 32, 97]) 1 (by decide +kernel)
  rw [h, scan_end]
  rfl
theorem scan_c2 : scan [10, 35] 1 = ([], some 2) := by
  rw [scan_nl 1 rfl, scan_bad (by decide +kernel) (by simp) (by decide +kernel)]
theorem reads_c1 (w : World) : Reads (w.alloc (.cells #[.int .i64 1, .string ⟨#[120]⟩, .int .i64 1, .int .i64 2, .string ⟨#[61]⟩, .int .i64 1, .int .i64 0, .string ⟨#[49]⟩, .int .i64 1, .int .i64 2, .string ⟨#[59]⟩, .int .i64 1, .int .i64 3, .string ⟨#[]⟩, .int .i64 1] 36)) (.slice (some ⟨w.heap.size, 0, none⟩) 5 5) toks1 := by
  refine ⟨_, 5, rfl, by decide, fun _ => ⟨w.heap.size, rfl, by simp, fun j u hu => ?_⟩⟩
  rw [cell_of_row _ w.heap.size j _ _ (0, 0) (heap_alloc_new w _)]
  have e : tokCells toks1 = [.int .i64 1, .string ⟨#[120]⟩, .int .i64 1, .int .i64 2, .string ⟨#[61]⟩, .int .i64 1, .int .i64 0, .string ⟨#[49]⟩, .int .i64 1, .int .i64 2, .string ⟨#[59]⟩, .int .i64 1, .int .i64 3, .string ⟨#[]⟩, .int .i64 1] := rfl
  rw [e] at hu
  rw [List.getElem?_toArray]
  exact hu
set_option maxRecDepth 100000 in
theorem awake_any (w : World) (ht : TokTab w.heap.size w) : Calls Tryd.prog 8 #[] w fun e w' => e = .returned (.bool true) ∧ Below w.heap.size w w' := by
  have HT := Lib.hid ht
  have HS1 : Hid (scan (⟨#[120, 61, 49, 59, 47, 47, 32, 97]⟩ : ByteArray).data.toList 1 = (toks1, none)) := scan_c1
  have HS2 : Hid (scan (⟨#[10, 35]⟩ : ByteArray).data.toList 1 = ([], some 2)) := scan_c2
  have HW : Hid (wordB (⟨#[105, 102]⟩ : ByteArray).data.toList = true) := by unfold Hid; decide +kernel
  have HN : Hid (nameB (⟨#[105, 102, 102]⟩ : ByteArray).data.toList = true) := by unfold Hid; decide +kernel
  clear ht
  go_enter Tryd.func8, Tryd.ntmps8
  go_wp2_with (first
    | (go_at_call 9
       (with_reducible refine (tokens_ok ⟨#[120, 61, 49, 59, 47, 47, 32, 97]⟩ _ HS1.out _ (by decide) HT.out).mono ?_)
       rintro e w1 ⟨v1, rfl, hr1, hb1⟩
       have HR1 := Lib.hid hr1
       clear hr1)
    | (go_at_call 9
       (with_reducible refine (tokens_no ⟨#[10, 35]⟩ _ 2 HS2.out _ (by decide) (HT.out.at_ (hb1.alloc hb1.size _))).mono ?_)
       rintro e w2 ⟨rfl, hb2⟩
       have hb02 : Below w.heap.size w w2 := (hb1.alloc hb1.size _).trans (hb2.mono (hb1.alloc hb1.size _).size)
       have HR2 := Lib.hid ((reads_c1 w1).below hb2)
       have HR3 := Lib.hid ((HR1.out.below ((Below.refl _ _).alloc (Nat.le_refl _) _)).below hb2))
    | (go_at_call 11
       (with_reducible refine (same_any _ _ toks1 _ HR3.out HR2.out (by decide)).mono ?_)
       rintro e w3 ⟨rfl, hb3⟩
       have hb03 : Below w.heap.size w w3 := hb02.trans (hb3.mono hb02.size))
    | (go_at_call 16
       (with_reducible refine (word_is ⟨#[105, 102]⟩ true HW.out _).mono ?_)
       rintro e w' ⟨rfl, rfl⟩)
    | (go_at_call 14
       (with_reducible refine (name_is ⟨#[105, 102, 102]⟩ true HN.out _).mono ?_)
       rintro e w4 ⟨rfl, hb4⟩))
  go_ret
  exact ⟨rfl, hb03.trans (hb4.mono hb03.size)⟩
end Go.Proofs.YthlmbeikjdjlkaaDoor
