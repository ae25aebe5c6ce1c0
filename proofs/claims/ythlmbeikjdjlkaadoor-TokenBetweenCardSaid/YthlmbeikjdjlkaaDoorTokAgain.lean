/- The law TokenAgain returns true: the texts of tokens, a blank behind each, have the same tokens but for lines. -/
import Derived.Test.YthlmbeikjdjlkaaDoorTokLaws
namespace Go.Proofs.YthlmbeikjdjlkaaDoor
open Go.RowKit
/-- A token's text, with a blank behind it, is told again. -/
def Good (t : Tok) : Prop := ∀ r : List UInt8, one (t.text ++ 32 :: r) = some (t.kind, t.text) ∧ gapN (t.text ++ 32 :: r) = 0
theorem sign_again (t : List UInt8) (h : t ∈ allSigns) (r : List UInt8) : (t ++ 32 :: r).takeWhile isAln = [] ∧ signL (t ++ 32 :: r) = t ∧ t ≠ [] ∧ gapN (t ++ 32 :: r) = 0 := by
  simp only [allSigns, signs2, signs1, List.mem_cons, List.mem_append, List.not_mem_nil, or_false] at h
  rcases h with rfl | (rfl | rfl | rfl | rfl | rfl | rfl | rfl | rfl) | rfl | rfl | rfl | rfl | rfl | rfl | rfl | rfl | rfl | rfl | rfl | rfl | rfl | rfl | rfl | rfl | rfl | rfl | rfl | rfl | rfl
  all_goals exact ⟨rfl, rfl, by simp, rfl⟩
theorem good_of_one {l : List UInt8} {k : Int} {t : List UInt8} (line : Nat) (h : one l = some (k, t)) : Good ⟨k, t, line⟩ := by
  intro r
  show one (t ++ 32 :: r) = some (k, t) ∧ gapN (t ++ 32 :: r) = 0
  by_cases h0 : 0 < spanN l
  · rw [one_span h0] at h
    obtain ⟨k', hk, e⟩ := Option.map_eq_some_iff.1 h
    injection e with e1 e2
    subst e1
    have ha : t.all isAln = true := by rw [← e2]; exact take_aln l
    have hne : t ≠ [] := by
      rw [← e2, ← spanN_take]
      intro e
      have : spanN l = 0 := by unfold spanN; rw [e]; rfl
      omega
    have hs : (t ++ 32 :: r).takeWhile isAln = t := by
      have := span_at isAln (t ++ 32 :: r) t.length (by simp) (fun j b hj hb => by
        rw [List.getElem?_append_left hj] at hb
        exact List.all_eq_true.1 ha b (List.mem_of_getElem? hb)) (fun b hb => by
        rw [List.getElem?_append_right (Nat.le_refl _)] at hb
        simp at hb
        subst hb
        rfl)
      rw [this]
      simp
    refine ⟨?_, ?_⟩
    · unfold one
      rw [hs, if_pos hne]
      rw [e2] at hk
      rw [hk]
      rfl
    · cases t with
      | nil => exact absurd rfl hne
      | cons c t' =>
        have hc : isAln c = true := by simp at ha; exact ha.1
        have hb : isBlk c = false := by
          simp [isAln, isLet, isDig] at hc
          simp [isBlk]
          omega
        have hp : Lib.hasPrefix (c :: t' ++ 32 :: r) [47, 47] = false := by
          rw [Bool.eq_false_iff]
          intro e
          obtain ⟨r', e'⟩ := prefix_comment e
          injection e' with e1 _
          rw [e1] at hc
          simp [isAln, isLet, isDig] at hc
        unfold gapN
        rw [if_neg (by rw [hp]; simp), List.cons_append, List.takeWhile_cons_of_neg (by simp [hb])]
        rfl
  · rw [one_sign (by omega)] at h
    split at h
    · rename_i hne
      injection h with h
      injection h with e1 e2
      subst e1 e2
      have hm : signL l ∈ allSigns := by
        unfold signL at hne ⊢
        cases hf : allSigns.find? (fun t => Lib.hasPrefix l t) with
        | none => rw [hf] at hne; simp at hne
        | some u => exact List.mem_of_find?_eq_some hf
      obtain ⟨h1, h2, h3, h4⟩ := sign_again _ hm r
      refine ⟨?_, h4⟩
      unfold one
      rw [h1, if_neg (by simp), h2, if_pos h3]
    · cases h
/-- Tokens that a text has: good ones, and the end. -/
theorem scan_shape : ∀ (n : Nat) (l : List UInt8) (line : Nat) (ts : List Tok), l.length ≤ n → scan l line = (ts, none) → ∃ (init : List Tok) (ln : Nat), ts = init ++ [⟨3, [], ln⟩] ∧ ∀ t ∈ init, Good t
  | _, [], line, ts, _, h => by
    rw [scan_end] at h
    injection h with h _
    exact ⟨[], line, h.symm, fun t ht => by cases ht⟩
  | 0, c :: r, line, ts, h, _ => by simp at h
  | n + 1, c :: r, line, ts, hl, h => by
    simp only [List.length_cons] at hl
    rw [scan] at h
    split at h
    · exact scan_shape n r _ ts (by omega) h
    · split at h
      · exact scan_shape n r _ ts (by omega) h
      · split at h
        · have h1 := List.IsSuffix.length_le (List.dropWhile_suffix (l := r) (fun d : UInt8 => d.toNat != 10))
          exact scan_shape n _ _ ts (by omega) h
        · split at h
          · cases h
          · rename_i k t hone
            have h1 : (r.drop (t.length - 1)).length ≤ r.length := by rw [List.length_drop]; omega
            injection h with e1 e2
            obtain ⟨init, ln, e, hg⟩ := scan_shape n (r.drop (t.length - 1)) line (scan (r.drop (t.length - 1)) line).1 (by omega) (by rw [← e2])
            refine ⟨⟨k, t, line⟩ :: init, ln, by rw [← e1, e]; rfl, fun u hu => ?_⟩
            rcases List.mem_cons.1 hu with rfl | hu
            · exact good_of_one line hone
            · exact hg u hu
/-- The texts, a blank behind each. -/
def joinT (ts : List Tok) : List UInt8 := ts.flatMap fun t => t.text ++ [32]
theorem joinT_snoc (ts : List Tok) (t : Tok) : joinT (ts ++ [t]) = joinT ts ++ t.text ++ [32] := by simp [joinT]
theorem scan_32 (r : List UInt8) (line : Nat) : scan (32 :: r) line = scan r line := scan_blk line rfl (by decide)
theorem again_core (ln line : Nat) : ∀ (init : List Tok), (∀ t ∈ init, Good t) → (scan (joinT (init ++ [⟨3, [], ln⟩])) line).2 = none ∧ (scan (joinT (init ++ [⟨3, [], ln⟩])) line).1.map flatT = (init ++ [(⟨3, [], ln⟩ : Tok)]).map flatT
  | [], _ => by
    have e : joinT ([] ++ [⟨3, [], ln⟩]) = [32] := rfl
    rw [e, scan_32, scan_end]
    exact ⟨rfl, rfl⟩
  | t :: init, h => by
    obtain ⟨ih1, ih2⟩ := again_core ln line init (fun u hu => h u (List.mem_cons_of_mem _ hu))
    have e : joinT (t :: init ++ [⟨3, [], ln⟩]) = t.text ++ 32 :: joinT (init ++ [⟨3, [], ln⟩]) := by simp [joinT]
    obtain ⟨h1, h2⟩ := h t (List.mem_cons_self ..) (joinT (init ++ [⟨3, [], ln⟩]))
    rw [e, scan_one h2 h1]
    have e2 : (t.text ++ 32 :: joinT (init ++ [⟨3, [], ln⟩])).drop t.text.length = 32 :: joinT (init ++ [⟨3, [], ln⟩]) := by simp
    rw [e2, scan_32]
    refine ⟨ih1, ?_⟩
    rw [List.map_cons, ih2]
    rfl
/-- The stage's theorem, of lists. -/
theorem scan_again {l : List UInt8} {line : Nat} {ts : List Tok} (h : scan l line = (ts, none)) : ∃ ts2, scan (joinT ts) 1 = (ts2, none) ∧ ts2.map flatT = ts.map flatT := by
  obtain ⟨init, ln, rfl, hg⟩ := scan_shape _ l line ts (Nat.le_refl _) h
  obtain ⟨h1, h2⟩ := again_core ln 1 init hg
  exact ⟨(scan (joinT (init ++ [⟨3, [], ln⟩])) 1).1, by rw [← h1], h2⟩
theorem joinT_len : ∀ (n : Nat) (l : List UInt8) (line : Nat), l.length ≤ n → (joinT (scan l line).1).length ≤ 2 * l.length + 1
  | _, [], line, _ => by rw [scan_end]; simp [joinT]
  | 0, c :: r, line, h => by simp at h
  | n + 1, c :: r, line, hl => by
    simp only [List.length_cons] at hl
    rw [scan]
    split
    · have := joinT_len n r (line + 1) (by omega)
      simp only [List.length_cons]; omega
    · split
      · have := joinT_len n r line (by omega)
        simp only [List.length_cons]; omega
      · split
        · have h1 := List.IsSuffix.length_le (List.dropWhile_suffix (l := r) (fun d : UInt8 => d.toNat != 10))
          have := joinT_len n (r.dropWhile (fun d => d.toNat != 10)) line (by omega)
          simp only [List.length_cons]; omega
        · split
          · simp [joinT]
          · rename_i k t hone
            have h1 : (r.drop (t.length - 1)).length = r.length - (t.length - 1) := List.length_drop
            have h2 := joinT_len n (r.drop (t.length - 1)) line (by omega)
            have h3 := one_take hone
            simp only [List.length_cons] at h3
            have e : (joinT (⟨k, t, line⟩ :: (scan (r.drop (t.length - 1)) line).1)).length = t.length + 1 + (joinT (scan (r.drop (t.length - 1)) line).1).length := by simp [joinT]; omega
            simp only [List.length_cons]
            rw [e]
            omega
theorem join_step {ts : List Tok} {k : Nat} {t : Tok} {r : ByteArray} (hr : r.data.toList = joinT (ts.take k)) (ht : ts[k]? = some t) : (r ++ ⟨t.text.toArray⟩ ++ ⟨#[32]⟩ : ByteArray).data.toList = joinT (ts.take (k + 1)) := by
  rw [List.take_add_one, ht]
  simp only [Option.toList_some]
  rw [joinT_snoc, ← hr, ByteArray.data_append, ByteArray.data_append]
  simp
theorem joinT_take (ts : List Tok) (k : Nat) : (joinT (ts.take k)).length ≤ (joinT ts).length := by
  have e : joinT ts = joinT (ts.take k) ++ joinT (ts.drop k) := by
    unfold joinT
    rw [← List.flatMap_append, List.take_append_drop]
  rw [e, List.length_append]
  omega
theorem join_sizes {ts : List Tok} {k : Nat} {t : Tok} {r : ByteArray} (hr : r.data.toList = joinT (ts.take k)) (ht : ts[k]? = some t) (hj : (joinT ts).length ≤ 2001) : r.size ≤ 2001 ∧ (⟨t.text.toArray⟩ : ByteArray).size ≤ 2001 ∧ r.size + t.text.length + 1 ≤ 4002 := by
  have h1 := joinT_take ts k
  have h2 := joinT_take ts (k + 1)
  rw [List.take_add_one, ht] at h2
  simp only [Option.toList_some] at h2
  rw [joinT_snoc, List.length_append, List.length_append] at h2
  have e : (⟨t.text.toArray⟩ : ByteArray).size = t.text.length := rfl
  have h3 : r.size = (joinT (ts.take k)).length := by rw [Lib.size_eq, hr]
  rw [h3, e]
  omega
set_option maxRecDepth 100000 in
theorem tokenAgain_raw (s : ByteArray) (v : Value) (w : World) (hs : s.size ≤ 1000) (ht : TokTab w.heap.size w) :
    Calls Tryd.prog 6 #[.string s, v, .bool false] w fun e w' => e = .returned (.bool true) ∧ Below w.heap.size w w' := by
  have HT := Lib.hid ht
  clear ht
  have hd : decide ((1000 : Int) < s.size) = false := by simp; omega
  go_enter Tryd.func6, Tryd.ntmps6
  go_wp2_with (go_at_call 8; (with_reducible refine (awake_any _ HT.out).mono ?_); rintro e w0 ⟨rfl, hbW⟩)
  have HL : Hid (s.size ≤ 100000) := by unfold Hid; omega
  have hlen := scan_len _ s.data.toList 1 (Nat.le_refl _)
  have hjl := joinT_len _ s.data.toList 1 (Nat.le_refl _)
  rw [← Lib.size_eq] at hlen hjl
  rcases hsc : scan s.data.toList 1 with ⟨ts, _ | ln⟩
  · rw [hsc] at hlen hjl
    simp only at hlen hjl
    obtain ⟨ts2, hsc2, hfl⟩ := scan_again hsc
    have hpos : 0 < ts.length := by
      obtain ⟨init, ln, e, _⟩ := scan_shape _ _ _ _ (Nat.le_refl _) hsc
      rw [e]
      simp
    have HSC := Lib.hid hsc
    have HSC2 := Lib.hid hsc2
    have HFL := Lib.hid hfl
    have hln : ts.length ≤ 1001 := by omega
    have HJ : Hid ((joinT ts).length ≤ 2001) := by unfold Hid; omega
    have hln2 : ts2.length ≤ 3000 := by
      have h1 := scan_len _ (joinT ts) 1 (Nat.le_refl _)
      rw [hsc2] at h1
      simp only at h1
      omega
    clear hsc hsc2 hfl hlen hjl
    (with_reducible refine (tokens_ok s ts HSC.out _ HL.out (HT.out.at_ hbW)).mono ?_)
    rintro e w1 ⟨v1, rfl, hr1, hb1⟩
    have HR1 := Lib.hid hr1
    obtain ⟨A, cp, rfl, hcp, hrd⟩ := hr1
    obtain ⟨g, rfl, hg, hcell⟩ := hrd hpos
    have HCELL := Lib.hid hcell
    have hb01 := hbW.trans (hb1.mono hbW.size)
    clear hrd hcell hcp
    go_wp2
    go_loop [12, 13] (fun tv iv => ∃ (k : Nat) (r : ByteArray), k ≤ ts.length ∧ iv = .int .i64 k ∧ tv = .string r ∧ r.data.toList = joinT (ts.take k)) (fun _ iv => ts.length - (intOf iv).toNat)
    case atStart => exact ⟨0, ⟨#[]⟩, Nat.zero_le _, rfl, rfl, rfl⟩
    case round =>
      obtain ⟨k, r, hk, rfl, rfl, hr⟩ := hrel
      have HR := Lib.hid hr
      clear hr
      by_cases hlt : k < ts.length
      · obtain ⟨t, ht⟩ : ∃ t, ts[k]? = some t := ⟨_, List.getElem?_eq_getElem hlt⟩
        have a1 := HCELL.out _ _ (tokCells_at ts k t ht).2.1
        have hsz := join_sizes HR.out ht HJ.out
        obtain ⟨hrs, hts, hrt⟩ := hsz
        have HTK := Lib.hid ht
        clear ht
        go_wp2
        go_round
        case rel => exact ⟨k + 1, _, by omega, by go_num, rfl, join_step HR.out HTK.out⟩
        case measure => simp [intOf]; omega
      · have HK : Hid (r.data.toList = joinT ts) := by unfold Hid; rw [HR.out, List.take_of_length_le (by omega)]
        have HZ : Hid (r.size ≤ 100000) := by unfold Hid; rw [Lib.size_eq, HK.out]; have := HJ.out; omega
        have HSC3 : Hid (scan r.data.toList 1 = (ts2, none)) := by unfold Hid; rw [HK.out]; exact HSC2.out
        go_wp2_with (first
          | (go_at_call 9
             (with_reducible refine (tokens_ok r ts2 HSC3.out _ HZ.out (HT.out.at_ hb01)).mono ?_)
             rintro e w2 ⟨v2, rfl, hr2, hb2⟩
             have HR2 := Lib.hid hr2
             have hb02 := hb01.trans (hb2.mono hb01.size)
             clear hr2)
          | (go_at_call 18
             (with_reducible refine (flat_any _ ts _ (HR1.out.below hb2) (by omega)).mono ?_)
             rintro e w3 ⟨v3, rfl, hr3, hb3⟩
             have HR3 := Lib.hid hr3
             have hb03 := hb02.trans (hb3.mono hb02.size)
             clear hr3)
          | (go_at_call 18
             (with_reducible refine (flat_any v2 ts2 _ (HR2.out.below hb3) (by omega)).mono ?_)
             rintro e w4 ⟨v4, rfl, hr4, hb4⟩
             rw [HFL.out] at hr4
             have HR4 := Lib.hid hr4
             have hb04 := hb03.trans (hb4.mono hb03.size)
             clear hr4)
          | (go_at_call 11
             (with_reducible refine (same_any _ _ (ts.map flatT) _ (HR3.out.below hb4) HR4.out (by rw [List.length_map]; omega)).mono ?_)
             rintro e w5 ⟨rfl, hb5⟩))
        go_ret
        exact ⟨rfl, hb04.trans (hb5.mono hb04.size)⟩
  · have HSC := Lib.hid hsc
    clear hsc hlen hjl
    (with_reducible refine (tokens_no s ts ln HSC.out _ HL.out (HT.out.at_ hbW)).mono ?_)
    rintro e w1 ⟨rfl, hb1⟩
    go_wp2
    go_ret
    exact ⟨rfl, hbW.trans (hb1.mono hbW.size)⟩
set_option maxRecDepth 100000 in
theorem tokenAgain_long (s : ByteArray) (v : Value) (w : World) (hs : 1000 < s.size) (ht : TokTab w.heap.size w) :
    Calls Tryd.prog 6 #[.string s, v, .bool false] w fun e w' => e = .returned (.bool true) ∧ Below w.heap.size w w' := by
  have HT := Lib.hid ht
  clear ht
  have hd : decide ((1000 : Int) < s.size) = true := by simp; omega
  go_enter Tryd.func6, Tryd.ntmps6
  go_wp2_with (go_at_call 8; (with_reducible refine (awake_any _ HT.out).mono ?_); rintro e w0 ⟨rfl, hbW⟩)
  go_ret
  exact ⟨rfl, hbW⟩
set_option maxRecDepth 100000 in
theorem tokenAgain_small (s0 : ByteArray) (v : Value) (w : World) (hv : BytesIn w v) (ht : TokTab w.heap.size w) :
    Calls Tryd.prog 6 #[.string s0, v, .bool true] w fun e w' => e = .returned (.bool true) ∧ Below w.heap.size w w' := by
  have HT := Lib.hid ht
  have HV := Lib.hid hv
  clear ht hv
  go_enter Tryd.func6, Tryd.ntmps6
  go_wp2_with (first
    | (go_at_call 8; (with_reducible refine (awake_any _ HT.out).mono ?_); rintro e w00 ⟨rfl, hb0⟩)
    | (go_at_call 13; (with_reducible refine (signs_any _).mono ?_); rintro e w0 ⟨rfl, hS, hbs⟩; have HS := Lib.hid hS; clear hS; have hbW := hb0.trans (hbs.mono hb0.size))
    | (go_at_call 12; (with_reducible refine (pieces_any v _ 36 _ _ (HV.out.below hbW) (by decide) (by decide) HS.out).mono ?_); rintro e w' ⟨s, rfl, hs, rfl⟩; have hd : decide ((1000 : Int) < s.size) = false := (by simp; omega)))
  have HL : Hid (s.size ≤ 100000) := by unfold Hid; omega
  have hlen := scan_len _ s.data.toList 1 (Nat.le_refl _)
  have hjl := joinT_len _ s.data.toList 1 (Nat.le_refl _)
  rw [← Lib.size_eq] at hlen hjl
  rcases hsc : scan s.data.toList 1 with ⟨ts, _ | ln⟩
  · rw [hsc] at hlen hjl
    simp only at hlen hjl
    obtain ⟨ts2, hsc2, hfl⟩ := scan_again hsc
    have hpos : 0 < ts.length := by
      obtain ⟨init, ln, e, _⟩ := scan_shape _ _ _ _ (Nat.le_refl _) hsc
      rw [e]
      simp
    have HSC := Lib.hid hsc
    have HSC2 := Lib.hid hsc2
    have HFL := Lib.hid hfl
    have hln : ts.length ≤ 1001 := by omega
    have HJ : Hid ((joinT ts).length ≤ 2001) := by unfold Hid; omega
    have hln2 : ts2.length ≤ 3000 := by
      have h1 := scan_len _ (joinT ts) 1 (Nat.le_refl _)
      rw [hsc2] at h1
      simp only at h1
      omega
    clear hsc hsc2 hfl hlen hjl
    (with_reducible refine (tokens_ok s ts HSC.out _ HL.out (HT.out.at_ hbW)).mono ?_)
    rintro e w1 ⟨v1, rfl, hr1, hb1⟩
    have HR1 := Lib.hid hr1
    obtain ⟨A, cp, rfl, hcp, hrd⟩ := hr1
    obtain ⟨g, rfl, hg, hcell⟩ := hrd hpos
    have HCELL := Lib.hid hcell
    have hb01 := hbW.trans (hb1.mono hbW.size)
    clear hrd hcell hcp
    go_wp2
    go_loop [12, 13] (fun tv iv => ∃ (k : Nat) (r : ByteArray), k ≤ ts.length ∧ iv = .int .i64 k ∧ tv = .string r ∧ r.data.toList = joinT (ts.take k)) (fun _ iv => ts.length - (intOf iv).toNat)
    case atStart => exact ⟨0, ⟨#[]⟩, Nat.zero_le _, rfl, rfl, rfl⟩
    case round =>
      obtain ⟨k, r, hk, rfl, rfl, hr⟩ := hrel
      have HR := Lib.hid hr
      clear hr
      by_cases hlt : k < ts.length
      · obtain ⟨t, ht⟩ : ∃ t, ts[k]? = some t := ⟨_, List.getElem?_eq_getElem hlt⟩
        have a1 := HCELL.out _ _ (tokCells_at ts k t ht).2.1
        have hsz := join_sizes HR.out ht HJ.out
        obtain ⟨hrs, hts, hrt⟩ := hsz
        have HTK := Lib.hid ht
        clear ht
        go_wp2
        go_round
        case rel => exact ⟨k + 1, _, by omega, by go_num, rfl, join_step HR.out HTK.out⟩
        case measure => simp [intOf]; omega
      · have HK : Hid (r.data.toList = joinT ts) := by unfold Hid; rw [HR.out, List.take_of_length_le (by omega)]
        have HZ : Hid (r.size ≤ 100000) := by unfold Hid; rw [Lib.size_eq, HK.out]; have := HJ.out; omega
        have HSC3 : Hid (scan r.data.toList 1 = (ts2, none)) := by unfold Hid; rw [HK.out]; exact HSC2.out
        go_wp2_with (first
          | (go_at_call 9
             (with_reducible refine (tokens_ok r ts2 HSC3.out _ HZ.out (HT.out.at_ hb01)).mono ?_)
             rintro e w2 ⟨v2, rfl, hr2, hb2⟩
             have HR2 := Lib.hid hr2
             have hb02 := hb01.trans (hb2.mono hb01.size)
             clear hr2)
          | (go_at_call 18
             (with_reducible refine (flat_any _ ts _ (HR1.out.below hb2) (by omega)).mono ?_)
             rintro e w3 ⟨v3, rfl, hr3, hb3⟩
             have HR3 := Lib.hid hr3
             have hb03 := hb02.trans (hb3.mono hb02.size)
             clear hr3)
          | (go_at_call 18
             (with_reducible refine (flat_any v2 ts2 _ (HR2.out.below hb3) (by omega)).mono ?_)
             rintro e w4 ⟨v4, rfl, hr4, hb4⟩
             rw [HFL.out] at hr4
             have HR4 := Lib.hid hr4
             have hb04 := hb03.trans (hb4.mono hb03.size)
             clear hr4)
          | (go_at_call 11
             (with_reducible refine (same_any _ _ (ts.map flatT) _ (HR3.out.below hb4) HR4.out (by rw [List.length_map]; omega)).mono ?_)
             rintro e w5 ⟨rfl, hb5⟩))
        go_ret
        exact ⟨rfl, hb04.trans (hb5.mono hb04.size)⟩
  · have HSC := Lib.hid hsc
    clear hsc hlen hjl
    (with_reducible refine (tokens_no s ts ln HSC.out _ HL.out (HT.out.at_ hbW)).mono ?_)
    rintro e w1 ⟨rfl, hb1⟩
    go_wp2
    go_ret
    exact ⟨rfl, hbW.trans (hb1.mono hbW.size)⟩
theorem tokenAgain_law (s : ByteArray) (v : Value) (small : Bool) (w : World) (hv : BytesIn w v) (ht : TokTab w.heap.size w) :
    Calls Tryd.prog 6 #[.string s, v, .bool small] w fun e w' => e = .returned (.bool true) ∧ Below w.heap.size w w' := by
  cases small with
  | true => exact tokenAgain_small s v w hv ht
  | false =>
    by_cases h : s.size ≤ 1000
    · exact tokenAgain_raw s v w h ht
    · exact tokenAgain_long s v w (by omega) ht
end Go.Proofs.YthlmbeikjdjlkaaDoor
