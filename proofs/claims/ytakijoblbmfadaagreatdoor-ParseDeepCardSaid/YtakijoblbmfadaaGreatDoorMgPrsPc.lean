import Derived.Test.YtakijoblbmfadaaGreatDoorMgParSameP
set_option linter.unusedSimpArgs false
set_option linter.unusedVariables false
/- The laws of parse: pieces, awake. (By tools/gen_prspc.py.) -/
namespace Go.Proofs.YtakijoblbmfadaaGreatDoor
open Go.RowKit
/-- A slice of bytes that can be read. -/
def BytesIn (w : World) (v : Value) : Prop := ∃ A n c, v = .slice A n c ∧ n ≤ 9223372036854775807 ∧ (0 < n → ∃ b off, A = some ⟨b, off, none⟩ ∧ b < w.heap.size ∧ ∀ k, k < n → ∃ z : Int, 0 ≤ z ∧ z ≤ 255 ∧ w.cell? ⟨b, off + k, none⟩ = some (.int .u8 z))
theorem BytesIn.below {w w' : World} {v : Value} (h : BytesIn w v) (hb : Below w.heap.size w w') : BytesIn w' v := by
  obtain ⟨A, n, c, rfl, hn, h1⟩ := h
  refine ⟨A, n, c, rfl, hn, fun hp => ?_⟩
  obtain ⟨b, off, rfl, hlt, hc⟩ := h1 hp
  refine ⟨b, off, rfl, Nat.lt_of_lt_of_le hlt hb.size, fun k hk => ?_⟩
  obtain ⟨z, h0, h255, hz⟩ := hc k hk
  exact ⟨z, h0, h255, (hb.cell (p := ⟨b, off + k, none⟩) hlt).trans hz⟩
/-- m short strings from the head of block h on. -/
def Strs (w : World) (h m : Nat) : Prop := ∀ k, k < m → ∃ s : ByteArray, s.size ≤ 40 ∧ w.cell? ⟨h, k, none⟩ = some (.string s)
theorem pieces_some (b off n c h m d : Nat) (w : World) (hn : n ≤ 9223372036854775807) (hc : ∀ k, k < n → ∃ z : Int, 0 ≤ z ∧ z ≤ 255 ∧ w.cell? ⟨b, off + k, none⟩ = some (.int .u8 z)) (hm : 0 < m) (hm2 : m ≤ 100) (hS : Strs w h m) :
    Calls Tryz.prog 10 #[.slice (some ⟨b, off, none⟩) n c, .slice (some ⟨h, 0, none⟩) m d] w fun e w' => ∃ r : ByteArray, e = .returned (.string r) ∧ r.size ≤ 560 ∧ w = w' := by
  have HC := Lib.hid hc
  have HS := Lib.hid hS
  clear hc hS
  go_enter Tryz.func10, Tryz.ntmps10
  go_wp2
  go_loop [5, 6] (fun rv iv => ∃ (k : Nat) (r : ByteArray), k ≤ n ∧ k ≤ 14 ∧ iv = .int .i64 k ∧ rv = .string r ∧ r.size ≤ 40 * k) (fun _ iv => 14 - (intOf iv).toNat)
  case atStart => exact ⟨0, ⟨#[]⟩, Nat.zero_le _, by omega, rfl, rfl, Nat.le_refl _⟩
  case round =>
    obtain ⟨k, r, hk, hk14, rfl, rfl, hr⟩ := hrel
    by_cases hlt : k < n
    · by_cases h14 : k < 14
      · obtain ⟨z, hz0, hz255, hz⟩ := HC.out k hlt
        have hj0 : 0 ≤ z % (m : Int) := Int.emod_nonneg _ (by omega)
        have hjm : z % (m : Int) < m := Int.emod_lt_of_pos _ (by omega)
        obtain ⟨s, hs, hsc⟩ := HS.out (z % (m : Int)).toNat (by omega)
        go_wp2
        go_round
        case rel => exact ⟨k + 1, r ++ s, by omega, by omega, by go_num, rfl, by rw [ByteArray.size_append]; omega⟩
        case measure => simp [intOf]; omega
      · have e : k = 14 := by omega
        subst e
        go_wp2
        go_ret
        exact ⟨r, rfl, hr, rfl⟩
    · have e : k = n := by omega
      subst e
      go_wp2
      go_ret
      exact ⟨r, rfl, by omega, rfl⟩
theorem pieces_nil (A : Option Addr) (c : Nat) (p : Value) (w : World) :
    Calls Tryz.prog 10 #[.slice A 0 c, p] w fun e w' => e = .returned (.string ⟨#[]⟩) ∧ w = w' := by
  go_enter Tryz.func10, Tryz.ntmps10
  go_wp2
  go_loop [5, 6] (fun rv iv => iv = .int .i64 0 ∧ rv = .string ⟨#[]⟩) (fun _ _ => 0)
  case atStart => exact ⟨rfl, rfl⟩
  case round =>
    obtain ⟨rfl, rfl⟩ := hrel
    go_wp2
    go_ret
    exact ⟨rfl, rfl⟩
theorem pieces_any (v : Value) (h m d : Nat) (w : World) (hv : BytesIn w v) (hm : 0 < m) (hm2 : m ≤ 100) (hS : Strs w h m) :
    Calls Tryz.prog 10 #[v, .slice (some ⟨h, 0, none⟩) m d] w fun e w' => ∃ r : ByteArray, e = .returned (.string r) ∧ r.size ≤ 560 ∧ w = w' := by
  obtain ⟨A, n, c, rfl, hn, h1⟩ := hv
  by_cases h0 : 0 < n
  · obtain ⟨b, off, rfl, _, hc⟩ := h1 h0
    exact pieces_some b off n c h m d w hn hc hm hm2 hS
  · rw [show n = 0 by omega]
    exact (pieces_nil A c _ w).mono fun e w' ⟨he, hk⟩ => ⟨_, he, by decide, hk⟩
theorem strs_of {w : World} {h : Nat} (L : List ByteArray) (hL : (L.all fun s => decide (s.size ≤ 40)) = true) (hI : Is w h 9 (L.map Value.string).toArray) : Strs w h L.length := by
  intro k hk
  refine ⟨L[k], of_decide_eq_true (List.all_eq_true.1 hL _ (List.getElem_mem hk)), ?_⟩
  rw [hI.cell k, List.getElem?_toArray, List.getElem?_map, List.getElem?_eq_getElem hk]
  rfl
def psignStrs : List ByteArray := [⟨#[105, 110, 116, 32]⟩, ⟨#[98, 111, 111, 108, 32]⟩, ⟨#[109, 97, 105, 110, 40, 41, 32, 123, 32]⟩, ⟨#[125]⟩, ⟨#[120]⟩, ⟨#[32, 61, 32]⟩, ⟨#[49]⟩, ⟨#[59, 32]⟩, ⟨#[105, 102, 32, 40]⟩, ⟨#[41, 32, 123]⟩, ⟨#[101, 108, 115, 101, 32, 123]⟩, ⟨#[119, 104, 105, 108, 101, 32, 40]⟩, ⟨#[114, 101, 116, 117, 114, 110, 32]⟩, ⟨#[112, 114, 105, 110, 116, 40]⟩, ⟨#[41]⟩, ⟨#[97, 91]⟩, ⟨#[93]⟩, ⟨#[102, 40]⟩, ⟨#[44, 32]⟩, ⟨#[43]⟩, ⟨#[42]⟩, ⟨#[45]⟩, ⟨#[33]⟩, ⟨#[105, 56, 40]⟩, ⟨#[38, 38]⟩, ⟨#[124, 124]⟩, ⟨#[60]⟩, ⟨#[61, 61]⟩, ⟨#[116, 114, 117, 101]⟩, ⟨#[114, 101, 97, 100, 40, 41]⟩, ⟨#[98, 114, 101, 97, 107, 59, 32]⟩, ⟨#[99, 111, 110, 116, 105, 110, 117, 101, 59, 32]⟩, ⟨#[10]⟩, ⟨#[40]⟩, ⟨#[50]⟩, ⟨#[123, 32]⟩]
def lineStrs : List ByteArray := [⟨#[105, 110, 116, 32, 97, 91, 52, 93, 59, 10]⟩, ⟨#[105, 110, 116, 32, 109, 97, 105, 110, 40, 41, 32, 123, 10]⟩, ⟨#[98, 111, 111, 108, 32, 102, 40, 105, 110, 116, 32, 120, 44, 32, 98, 111, 111, 108, 32, 121, 41, 32, 123, 10]⟩, ⟨#[125, 10]⟩, ⟨#[120, 32, 61, 32, 49, 32, 43, 32, 50, 32, 42, 32, 51, 32, 45, 32, 52, 59, 10]⟩, ⟨#[105, 110, 116, 32, 120, 32, 61, 32, 114, 101, 97, 100, 40, 41, 59, 10]⟩, ⟨#[97, 91, 120, 93, 32, 61, 32, 45, 97, 91, 48, 93, 59, 10]⟩, ⟨#[105, 102, 32, 40, 120, 32, 60, 32, 50, 32, 124, 124, 32, 33, 121, 32, 38, 38, 32, 116, 114, 117, 101, 41, 32, 123, 10]⟩, ⟨#[125, 32, 101, 108, 115, 101, 32, 123, 10]⟩, ⟨#[119, 104, 105, 108, 101, 32, 40, 120, 32, 33, 61, 32, 48, 41, 32, 123, 10]⟩, ⟨#[114, 101, 116, 117, 114, 110, 32, 102, 40, 49, 44, 32, 120, 32, 61, 61, 32, 50, 41, 59, 10]⟩, ⟨#[112, 114, 105, 110, 116, 40, 40, 49, 32, 45, 32, 40, 50, 32, 45, 32, 51, 41, 41, 32, 60, 60, 32, 52, 32, 62, 62, 62, 32, 49, 41, 59, 10]⟩, ⟨#[102, 40, 117, 56, 40, 120, 41, 44, 32, 102, 97, 108, 115, 101, 41, 59, 10]⟩, ⟨#[98, 114, 101, 97, 107, 59, 10]⟩, ⟨#[99, 111, 110, 116, 105, 110, 117, 101, 59, 10]⟩, ⟨#[47, 47, 32, 97, 10]⟩, ⟨#[98, 111, 111, 108, 32, 98, 32, 61, 32, 126, 40, 120, 41, 32, 61, 61, 32, 45, 32, 45, 49, 59, 10]⟩, ⟨#[120, 32, 61, 32, 97, 91, 49, 93, 32, 38, 32, 50, 32, 124, 32, 51, 32, 94, 32, 52, 59, 10]⟩]
def exprStrs : List ByteArray := [⟨#[49]⟩, ⟨#[120]⟩, ⟨#[43]⟩, ⟨#[45]⟩, ⟨#[42]⟩, ⟨#[60, 60]⟩, ⟨#[62, 62, 62]⟩, ⟨#[60]⟩, ⟨#[61, 61]⟩, ⟨#[38, 38]⟩, ⟨#[124, 124]⟩, ⟨#[38]⟩, ⟨#[33]⟩, ⟨#[126]⟩, ⟨#[40]⟩, ⟨#[41]⟩, ⟨#[105, 56, 40]⟩, ⟨#[97, 91]⟩, ⟨#[93]⟩, ⟨#[102, 40]⟩, ⟨#[44]⟩, ⟨#[116, 114, 117, 101]⟩, ⟨#[114, 101, 97, 100, 40, 41]⟩, ⟨#[37]⟩, ⟨#[94]⟩]
theorem psigns_any (w : World) : Calls Tryz.prog 11 #[] w fun e w' => e = .returned (.slice (some ⟨w.heap.size, 0, none⟩) 36 36) ∧ Strs w' w.heap.size 36 ∧ Below w.heap.size w w' := by
  go_enter Tryz.func11, Tryz.ntmps11
  go_wp2
  go_ret
  exact ⟨rfl, strs_of psignStrs (by decide) (heap_alloc_new w _), (Below.refl _ _).alloc (Nat.le_refl _) _⟩
theorem plines_any (w : World) : Calls Tryz.prog 12 #[] w fun e w' => e = .returned (.slice (some ⟨w.heap.size, 0, none⟩) 18 18) ∧ Strs w' w.heap.size 18 ∧ Below w.heap.size w w' := by
  go_enter Tryz.func12, Tryz.ntmps12
  go_wp2
  go_ret
  exact ⟨rfl, strs_of lineStrs (by decide) (heap_alloc_new w _), (Below.refl _ _).alloc (Nat.le_refl _) _⟩
theorem aw1 : docP ⟨#[105, 110, 116, 32, 109, 97, 105, 110, 40, 41, 32, 123, 32, 114, 101, 116, 117, 114, 110, 32, 49, 32, 43, 32, 50, 32, 42, 32, 51, 59, 32, 125]⟩ = (⟨[], [⟨⟨#[109, 97, 105, 110]⟩, 1, [], [.mk 8 0 bE [.mk 5 1 0 bE [.mk 1 0 1 bE [], .mk 5 3 0 bE [.mk 1 0 2 bE [], .mk 1 0 3 bE []]]] [] []]⟩]⟩, 0, 0) := by kernel_rfl
theorem aw2 : docP ⟨#[105, 110, 116, 32, 109, 97, 105, 110, 40, 41, 32, 123, 10]⟩ = (pr0, 20, 2) := by kernel_rfl
theorem aw_func {B : Nat} {w : World} {v : Value} {f : Fu} {s : St} (hb : f.body = [s]) (h : SlF B w v [f]) : ∃ g o c A c2, v = .slice (some ⟨g, o, none⟩) 1 c ∧ g < B ∧ w.cell? ⟨g, o + 3, none⟩ = some (.slice A 1 c2) := by
  obtain ⟨A0, c, rfl, _, h1⟩ := h
  obtain ⟨g, o, rfl, h2, _⟩ := h1 (by simp)
  obtain ⟨_, _, _, v, h3, h4⟩ := h2
  rw [hb] at h4
  obtain ⟨A, c2, rfl, _⟩ := h4.form
  exact ⟨g, o, c, A, c2, rfl, h3.1, h3.2⟩
def awS1 : ByteArray := ⟨#[105, 110, 116, 32, 109, 97, 105, 110, 40, 41, 32, 123, 32, 114, 101, 116, 117, 114, 110, 32, 49, 32, 43, 32, 50, 32, 42, 32, 51, 59, 32, 125]⟩
set_option maxRecDepth 100000 in
theorem lawake_any (w : World) (ht : PT w) : Calls Tryz.prog 8 #[] w fun e w' => e = .returned (.bool true) ∧ Below w.heap.size w w' := by
  have HPT := Lib.hid ht
  clear ht
  go_enter Tryz.func8, Tryz.ntmps8
  go_wp2_with (first
    | (go_at_call 14; (with_reducible refine (dparse_any ⟨#[105, 110, 116, 32, 109, 97, 105, 110, 40, 41, 32, 123, 32, 114, 101, 116, 117, 114, 110, 32, 49, 32, 43, 32, 50, 32, 42, 32, 51, 59, 32, 125]⟩ _ HPT.out).mono ?_); rintro e w1 ⟨hb, v0, v1, rfl, ha, hf⟩
       rw [aw1] at ha hf
       rw [aw1]
       obtain ⟨A0, q0, rfl, _⟩ := ha.form
       obtain ⟨g, o, c, A, c2, rfl, hg, hcell⟩ := aw_func rfl hf
       have HB1 := Lib.hid hb
       have HPT1 := Lib.hid ((HPT.out.below hb).alloc (.cells #[.slice A0 0 q0, .slice (some ⟨g, o, none⟩) 1 c] 35))
       have HX := Lib.hid (heap_alloc_new w1 (.cells #[.slice A0 0 q0, .slice (some ⟨g, o, none⟩) 1 c] 35))
       have HCL := Lib.hid hcell
       clear ha hf hb hcell)
    | (go_at_call 14; (with_reducible refine (dparse_any ⟨#[105, 110, 116, 32, 109, 97, 105, 110, 40, 41, 32, 123, 10]⟩ _ HPT1.out).mono ?_); rintro e w2 ⟨hb, v0, v1, rfl, ha, hf⟩
       rw [aw2] at ha hf
       rw [aw2]
       obtain ⟨B0, u0, rfl, _⟩ := ha.form
       obtain ⟨B1, u1, rfl, _⟩ := hf.form
       have hz1 : w1.heap.size < w2.heap.size := by have := hb.size; rw [alloc_size] at this; omega
       have hb1 : Below w1.heap.size w1 w2 := ((Below.refl _ _).more (Nat.le_refl _) _).trans (hb.mono (by rw [alloc_size]; omega))
       have HBE := Lib.hid ((HB1.out.trans (hb1.mono HB1.out.size)).more (Nat.le_refl _) (.cells #[.slice B0 0 u0, .slice B1 0 u1] 35))
       obtain ⟨⟨p0, p1⟩, pz⟩ := two_cells ((hb.block _ (by rw [alloc_size]; omega)).trans HX.out)
       have hcell := (hb1.cell (p := ⟨g, o + 3, none⟩) hg).trans HCL.out
       have hg2 : g < w2.heap.size := by omega
       clear ha hf hb hb1))
  go_ret
  exact ⟨rfl, HBE.out⟩
end Go.Proofs.YtakijoblbmfadaaGreatDoor

/- The laws of parse: small, lines, expressions. -/
namespace Go.Proofs.YtakijoblbmfadaaGreatDoor
open Go.RowKit
theorem pieces_at {w : World} {v : Value} (h m d : Nat) (hv : BytesIn w v) (hm : 0 < m) (hm2 : m ≤ 100) (hS : Strs w h m) :
    Calls Tryz.prog 10 #[v, .slice (some ⟨h, 0, none⟩) m d] w fun e w' => ∃ r : ByteArray, e = .returned (.string r) ∧ r.size ≤ 560 ∧ w' = w :=
  (pieces_any v h m d w hv hm hm2 hS).mono fun e w' ⟨r, he, hr, hw⟩ => ⟨r, he, hr, hw.symm⟩
set_option maxRecDepth 100000 in
theorem lsmall_any (v : Value) (w : World) (ht : PT w) (hv : BytesIn w v) : Calls Tryz.prog 3 #[v] w fun e w' => e = .returned (.bool true) ∧ Below w.heap.size w w' := by
  have HPT := Lib.hid ht
  have HV := Lib.hid hv
  clear ht hv
  go_enter Tryz.func3, Tryz.ntmps3
  go_wp2_with (first
    | (go_at_call 8; (with_reducible refine (lawake_any _ HPT.out).mono ?_); rintro e w1 ⟨rfl, hb⟩
       have HB1 := Lib.hid hb
       clear hb)
    | (go_at_call 11; (with_reducible refine (psigns_any _).mono ?_); rintro e w2 ⟨rfl, hS, hb⟩
       have HS := Lib.hid hS
       have HB2 := Lib.hid (HB1.out.trans (hb.mono HB1.out.size))
       clear hS hb)
    | (go_at_call 10; (with_reducible refine (pieces_at _ 36 36 (HV.out.below HB2.out) (by decide) (by decide) HS.out).mono ?_); rintro e w3 ⟨r, rfl, hr, rfl⟩)
    | (go_at_call 9; (with_reducible refine (lsame_any r _ (HPT.out.below HB2.out)).mono ?_); rintro e w4 ⟨rfl, hb⟩
       have HB4 := Lib.hid (HB2.out.trans (hb.mono HB2.out.size))
       clear hb))
  go_ret
  exact ⟨rfl, HB4.out⟩
set_option maxRecDepth 100000 in
theorem llines_any (v u : Value) (w : World) (ht : PT w) (hv : BytesIn w v) (hu : BytesIn w u) : Calls Tryz.prog 4 #[v, u] w fun e w' => e = .returned (.bool true) ∧ Below w.heap.size w w' := by
  have HPT := Lib.hid ht
  have HV := Lib.hid hv
  have HU := Lib.hid hu
  clear ht hv hu
  go_enter Tryz.func4, Tryz.ntmps4
  go_wp2_with (first
    | (go_at_call 12; (with_reducible refine (plines_any w).mono ?_); rintro e w1 ⟨rfl, hS, hb⟩
       have HS := Lib.hid hS
       have HB1 := Lib.hid hb
       clear hS hb)
    | (go_at_call 10; (with_reducible refine (pieces_at _ 18 18 (HV.out.below HB1.out) (by decide) (by decide) HS.out).mono ?_); rintro e w2 ⟨r, rfl, hr, rfl⟩)
    | (go_at_call 8; (with_reducible refine (lawake_any _ (HPT.out.below HB1.out)).mono ?_); rintro e w3 ⟨rfl, hb⟩
       have HB3 := Lib.hid (HB1.out.trans (hb.mono HB1.out.size))
       clear hb)
    | (go_at_call 9; (with_reducible refine (lsame_any r _ (HPT.out.below HB3.out)).mono ?_); rintro e w4 ⟨rfl, hb⟩
       have HB4 := Lib.hid (HB3.out.trans (hb.mono HB3.out.size))
       clear hb)
    | (go_at_call 12; (with_reducible refine (plines_any w4).mono ?_); rintro e w5 ⟨rfl, hS, hb⟩
       have HS5 := Lib.hid hS
       have HB5 := Lib.hid (HB4.out.trans (hb.mono HB4.out.size))
       clear hS hb)
    | (go_at_call 10; (with_reducible refine (pieces_at _ 18 18 (HU.out.below HB5.out) (by decide) (by decide) HS5.out).mono ?_); rintro e w6 ⟨r6, rfl, hr6, rfl⟩)
    | (go_at_call 9; (with_reducible refine (lsame_any _ _ (HPT.out.below HB5.out)).mono ?_); rintro e w7 ⟨rfl, hb⟩
       have HB7 := Lib.hid (HB5.out.trans (hb.mono HB5.out.size))
       clear hb))
  go_ret
  exact ⟨rfl, HB7.out⟩
set_option maxRecDepth 100000 in
theorem lexprs_any (v : Value) (w : World) (ht : PT w) (hv : BytesIn w v) : Calls Tryz.prog 7 #[v] w fun e w' => e = .returned (.bool true) ∧ Below w.heap.size w w' := by
  have HPT := Lib.hid ht
  have HV := Lib.hid hv
  have HB1 := Lib.hid ((Below.refl w.heap.size w).more (Nat.le_refl _) (.cells (exprStrs.map Value.string).toArray 9))
  have HS := Lib.hid (strs_of exprStrs (by decide) (heap_alloc_new w (.cells (exprStrs.map Value.string).toArray 9)))
  clear ht hv
  go_enter Tryz.func7, Tryz.ntmps7
  go_wp2_with (first
    | (go_at_call 10; (refine (pieces_at w.heap.size 25 25 (HV.out.below HB1.out) (by decide) (by decide) HS.out).mono ?_); rintro e w2 ⟨r, rfl, hr, rfl⟩)
    | (go_at_call 8; (refine (lawake_any _ (HPT.out.below HB1.out)).mono ?_); rintro e w3 ⟨rfl, hb⟩
       have HB3 := Lib.hid (HB1.out.trans (hb.mono HB1.out.size))
       clear hb)
    | (go_at_call 9; (with_reducible refine (lsame_any _ _ (HPT.out.below HB3.out)).mono ?_); rintro e w4 ⟨rfl, hb⟩
       have HB4 := Lib.hid (HB3.out.trans (hb.mono HB3.out.size))
       clear hb))
  go_ret
  exact ⟨rfl, HB4.out⟩
end Go.Proofs.YtakijoblbmfadaaGreatDoor
