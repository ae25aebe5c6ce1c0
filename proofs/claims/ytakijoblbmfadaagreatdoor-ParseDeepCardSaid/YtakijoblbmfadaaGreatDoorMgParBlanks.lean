import Derived.Test.YtakijoblbmfadaaGreatDoorMgParScan
set_option linter.unusedSimpArgs false
set_option linter.unusedVariables false
/- Blanks and comments ahead of a text and behind it change nothing but lines (as TokBetMath says it, with nothing of the program): no Go, no program. -/
namespace Go.Proofs.YtakijoblbmfadaaGreatDoor
open Go
/-- The token that a text begins with is not changed by a line end or a blank far behind. -/
theorem span_appP {l : List UInt8} (hne : l ≠ []) (b : UInt8) (hb : isAln b = false) (r : List UInt8) : (l ++ b :: r).takeWhile isAln = l.takeWhile isAln := by
  induction l with
  | nil => exact absurd rfl hne
  | cons c t ih =>
    rw [List.cons_append]
    by_cases hc : isAln c = true
    · rw [List.takeWhile_cons_of_pos hc, List.takeWhile_cons_of_pos hc]
      congr 1
      cases t with
      | nil => rw [List.nil_append, List.takeWhile_cons_of_neg (by simp [hb])]; rfl
      | cons d t' => exact ih (by simp)
    · rw [List.takeWhile_cons_of_neg hc, List.takeWhile_cons_of_neg hc]
theorem prefix_appP (t l : List UInt8) (b : UInt8) (hb : b ∉ t) (hne : l ≠ []) (r : List UInt8) : Lib.hasPrefix (l ++ b :: r) t = Lib.hasPrefix l t := by
  unfold Lib.hasPrefix
  induction t generalizing l with
  | nil => simp
  | cons x t ih =>
    cases l with
    | nil => exact absurd rfl hne
    | cons c l' =>
      rw [List.cons_append, List.isPrefixOf_cons_cons, List.isPrefixOf_cons_cons]
      have hb' : b ∉ t := fun h => hb (List.mem_cons_of_mem _ h)
      cases l' with
      | nil =>
        congr 1
        cases t with
        | nil => rfl
        | cons y t' =>
          have hy : (y == b) = false := by
            rw [Bool.eq_false_iff]
            intro e
            rw [beq_iff_eq] at e
            exact hb' (by rw [e]; exact List.mem_cons_self ..)
          rw [List.nil_append, List.isPrefixOf_cons_cons, hy]
          rfl
      | cons d l'' => rw [ih (d :: l'') hb' (by simp)]
theorem sign_freeP (b : UInt8) (h : b = 10 ∨ b = 32) : ∀ t ∈ allSigns, b ∉ t := by
  rcases h with rfl | rfl <;> decide
theorem signL_appP {l : List UInt8} (hne : l ≠ []) (b : UInt8) (hb : b = 10 ∨ b = 32) (r : List UInt8) : signL (l ++ b :: r) = signL l := by
  have h : ∀ (ss : List (List UInt8)), (∀ t ∈ ss, b ∉ t) → ss.find? (fun t => Lib.hasPrefix (l ++ b :: r) t) = ss.find? (fun t => Lib.hasPrefix l t) := by
    intro ss
    induction ss with
    | nil => intro _; rfl
    | cons t ss ih =>
      intro hf
      rw [List.find?_cons, List.find?_cons, prefix_appP t l b (hf t (List.mem_cons_self ..)) hne r, ih (fun u hu => hf u (List.mem_cons_of_mem _ hu))]
  unfold signL
  rw [h allSigns (sign_freeP b hb)]
theorem one_appP {l : List UInt8} (hne : l ≠ []) (b : UInt8) (hb : b = 10 ∨ b = 32) (r : List UInt8) : one (l ++ b :: r) = one l := by
  have hn : isAln b = false := by rcases hb with rfl | rfl <;> rfl
  unfold one
  rw [span_appP hne b hn r, signL_appP hne b hb r]
theorem dropWhile_app10P (l r : List UInt8) : (l ++ 10 :: r).dropWhile (fun d => d.toNat != 10) = l.dropWhile (fun d => d.toNat != 10) ++ 10 :: r := by
  induction l with
  | nil => rfl
  | cons c t ih =>
    rw [List.cons_append]
    by_cases hc : c.toNat = 10
    · rw [List.dropWhile_cons_of_neg (by simp [hc]), List.dropWhile_cons_of_neg (by simp [hc])]
      rfl
    · rw [List.dropWhile_cons_of_pos (by simp [hc]), List.dropWhile_cons_of_pos (by simp [hc]), ih]
/-- Behind a text without a fault, a line end and what follows. -/
theorem scan_thenP : ∀ (n : Nat) (l : List UInt8) (line : Nat) (init : List Tok) (ln : Nat) (r : List UInt8), l.length ≤ n → scan l line = (init ++ [⟨3, [], ln⟩], none) →
    scan (l ++ 10 :: r) line = (init ++ (scan (10 :: r) ln).1, (scan (10 :: r) ln).2)
  | _, [], line, init, ln, r, _, h => by
    rw [scan] at h
    injection h with h _
    cases init with
    | nil =>
      simp at h
      subst h
      rfl
    | cons a t =>
      have := congrArg List.length h
      simp at this
  | 0, c :: t, line, init, ln, r, hl, h => by simp at hl
  | n + 1, c :: t, line, init, ln, r, hl, h => by
    simp only [List.length_cons] at hl
    rw [scan] at h
    rw [List.cons_append, scan]
    split at h
    · rename_i h10
      rw [if_pos h10]
      exact scan_thenP n t _ init ln r (by omega) h
    · rename_i h10
      rw [if_neg h10]
      split at h
      · rename_i hb
        rw [if_pos hb]
        exact scan_thenP n t _ init ln r (by omega) h
      · rename_i hb
        rw [if_neg hb]
        have hcm : ((t ++ 10 :: r).head? == some 47) = (t.head? == some 47) := by cases t <;> rfl
        rw [hcm]
        split at h
        · rename_i hc
          rw [if_pos hc, dropWhile_app10P]
          have h1 := List.IsSuffix.length_le (List.dropWhile_suffix (l := t) (fun d : UInt8 => d.toNat != 10))
          exact scan_thenP n _ _ init ln r (by omega) h
        · rename_i hc
          rw [if_neg hc]
          have ho : one (c :: (t ++ 10 :: r)) = one (c :: t) := one_appP (l := c :: t) (by simp) 10 (.inl rfl) r
          rw [ho]
          split at h
          · injection h with h1 h2
            cases h2
          · rename_i k x hone
            have hx := one_tk hone
            simp only [List.length_cons] at hx
            injection h with h1 h2
            have h3 : (t.drop (x.length - 1)).length ≤ t.length := by rw [List.length_drop]; omega
            cases init with
            | nil =>
              simp at h1
              rw [h1.1.2.1] at hx
              simp at hx
            | cons a init' =>
              rw [List.cons_append] at h1
              injection h1 with e1 e2
              have ih := scan_thenP n (t.drop (x.length - 1)) line init' ln r (by omega) (Prod.ext e2 h2)
              have hd : (t ++ 10 :: r).drop (x.length - 1) = t.drop (x.length - 1) ++ 10 :: r := by
                rw [List.drop_append_of_le_length (by omega)]
              rw [hd, ih, e1]
              rfl
/-- The line at which a text begins changes lines alone. -/
theorem scan_shiftP : ∀ (n : Nat) (l : List UInt8) (a b : Nat), l.length ≤ n → ((scan l a).2 = none ↔ (scan l b).2 = none) ∧ (scan l a).1.map fl0 = (scan l b).1.map fl0
  | _, [], a, b, _ => by rw [scan, scan]; exact ⟨Iff.rfl, rfl⟩
  | 0, c :: t, a, b, hl => by simp at hl
  | n + 1, c :: t, a, b, hl => by
    simp only [List.length_cons] at hl
    rw [scan, scan]
    split
    · exact scan_shiftP n t _ _ (by omega)
    · split
      · exact scan_shiftP n t _ _ (by omega)
      · split
        · have h1 := List.IsSuffix.length_le (List.dropWhile_suffix (l := t) (fun d : UInt8 => d.toNat != 10))
          exact scan_shiftP n _ _ _ (by omega)
        · split
          · simp
          · rename_i k x hone
            have h3 : (t.drop (x.length - 1)).length ≤ t.length := by rw [List.length_drop]; omega
            obtain ⟨ih1, ih2⟩ := scan_shiftP n (t.drop (x.length - 1)) a b (by omega)
            exact ⟨ih1, by rw [List.map_cons, List.map_cons, ih2]; rfl⟩
theorem scan_lastP : ∀ (n : Nat) (l : List UInt8) (line : Nat) (i : List Tok) (e : Tok), l.length ≤ n → (scan l line).1 = i ++ [e] → (scan l line).2 = none → ∃ ln, (scan l line).1 = i ++ [⟨3, [], ln⟩]
  | _, [], line, i, e, _, h, _ => by
    rw [scan] at h ⊢
    have hl := congrArg List.length h
    simp at hl
    subst hl
    exact ⟨line, rfl⟩
  | 0, c :: r, line, i, e, hl, _, _ => by simp at hl
  | n + 1, c :: r, line, i, e, hl, h, h2 => by
    simp only [List.length_cons] at hl
    rw [scan] at h h2 ⊢
    split at h
    · rename_i h10
      rw [if_pos h10] at h2
      rw [if_pos h10]
      exact scan_lastP n r _ i e (by omega) h h2
    · rename_i h10
      rw [if_neg h10] at h2
      rw [if_neg h10]
      split at h
      · rename_i hb
        rw [if_pos hb] at h2
        rw [if_pos hb]
        exact scan_lastP n r _ i e (by omega) h h2
      · rename_i hb
        rw [if_neg hb] at h2
        rw [if_neg hb]
        split at h
        · rename_i hc
          rw [if_pos hc] at h2
          rw [if_pos hc]
          have h1 := List.IsSuffix.length_le (List.dropWhile_suffix (l := r) (fun d : UInt8 => d.toNat != 10))
          exact scan_lastP n _ _ i e (by omega) h h2
        · rename_i hc
          rw [if_neg hc] at h2
          rw [if_neg hc]
          cases ho : one (c :: r) with
          | none =>
            rw [ho] at h2
            cases h2
          | some v =>
            obtain ⟨k, t⟩ := v
            rw [ho] at h h2
            have h1 : (r.drop (t.length - 1)).length = r.length - (t.length - 1) := List.length_drop
            cases i with
            | nil =>
              exfalso
              injection h with _ h
              obtain ⟨_, e', he', _⟩ := scan_endL _ (r.drop (t.length - 1)) line [] (Nat.le_refl _) (Prod.ext h (show (scan (r.drop (t.length - 1)) line).2 = none from h2))
              simp at he'
            | cons a i' =>
              rw [List.cons_append] at h
              injection h with e1 e2
              obtain ⟨ln, hln⟩ := scan_lastP n (r.drop (t.length - 1)) line i' e (by omega) e2 h2
              exact ⟨ln, by show _ :: (scan (r.drop (t.length - 1)) line).1 = _; rw [hln, e1]; rfl⟩
/-- Tokens that are the same but for lines are parsed to the same. -/
theorem parse_fl {ts us r : List Tok} {p : Pr} (h : fl us = fl ts) (hp : parseT ts = .ok p r) : ∃ q, parseT us = .ok p q := by
  have h1 := fl_parseT us
  rw [h, fl_parseT ts, hp] at h1
  cases hu : parseT us with
  | ok a q =>
    rw [hu] at h1
    injection h1 with h1 _
    exact ⟨q, by rw [h1]⟩
  | bad r => rw [hu] at h1; cases h1
  | deep r => rw [hu] at h1; cases h1
  | out => rw [hu] at h1; cases h1
def preP : List UInt8 := [9, 47, 47, 32, 120, 10]
def sufP : List UInt8 := [10, 32, 47, 47, 32, 121]
theorem scan_preP (x : List UInt8) : scan (preP ++ x) 1 = scan x 2 := by
  show scan (9 :: 47 :: 47 :: 32 :: 120 :: 10 :: x) 1 = _
  rw [scan_t9, scan, if_neg (by decide), if_neg (by decide), if_pos (by rfl)]
  show scan (((47 : UInt8) :: 32 :: 120 :: 10 :: x).dropWhile _) 1 = _
  rw [List.dropWhile_cons_of_pos (by decide), List.dropWhile_cons_of_pos (by decide), List.dropWhile_cons_of_pos (by decide), List.dropWhile_cons_of_neg (by decide), scan_n10]
theorem scan_sufP (ln : Nat) : scan sufP ln = ([⟨3, [], ln + 1⟩], none) := by
  show scan (10 :: 32 :: 47 :: 47 :: 32 :: 121 :: []) ln = _
  rw [scan_n10, scan_blank, scan, if_neg (by decide), if_neg (by decide), if_pos (by rfl)]
  show scan (((47 : UInt8) :: 32 :: 121 :: []).dropWhile _) (ln + 1) = _
  rw [List.dropWhile_cons_of_pos (by decide), List.dropWhile_cons_of_pos (by decide), List.dropWhile_cons_of_pos (by decide), List.dropWhile_nil, scan]
/-- Blanks and comments ahead of a text and behind it. -/
theorem scan_around {l : List UInt8} {ts : List Tok} (h : scan l 1 = (ts, none)) : ∃ us, scan (preP ++ (l ++ sufP)) 1 = (us, none) ∧ fl us = fl ts := by
  obtain ⟨s1, s2⟩ := scan_shiftP l.length l 1 2 (Nat.le_refl _)
  rw [h] at s1 s2
  have hn : (scan l 2).2 = none := s1.1 rfl
  obtain ⟨i, e, he, hk, hi⟩ := scan_endL _ l 2 (scan l 2).1 (Nat.le_refl _) (by rw [← hn])
  obtain ⟨ln, hshape⟩ : ∃ ln, (scan l 2).1 = i ++ [⟨3, [], ln⟩] := scan_lastP l.length l 2 i e (Nat.le_refl _) he hn
  have h2 := scan_thenP l.length l 2 i ln [32, 47, 47, 32, 121] (Nat.le_refl _) (by rw [← hshape, ← hn])
  refine ⟨i ++ [⟨3, [], ln + 1⟩], ?_, ?_⟩
  · rw [scan_preP]
    show scan (l ++ 10 :: [32, 47, 47, 32, 121]) 2 = _
    rw [h2]
    show (i ++ (scan sufP ln).1, (scan sufP ln).2) = _
    rw [scan_sufP]
  · show _ = ts.map fl0
    rw [s2, hshape]
    unfold fl
    rw [List.map_append, List.map_append]
    rfl
end Go.Proofs.YtakijoblbmfadaaGreatDoor

/- What a text is parsed to, or why it is not, and at which line, as a plain function: no Go, no program. -/
namespace Go.Proofs.YtakijoblbmfadaaGreatDoor
open Go
theorem kindT_num {t : List UInt8} (h : kindT t = some 0) : numB t = true := by
  unfold kindT at h
  split at h
  · injection h with h
    omega
  · split at h
    · injection h with h
      omega
    · split at h
      · rename_i hn
        exact hn
      · cases h
theorem one_num {l t : List UInt8} {k : Int} (h : one l = some (k, t)) (h0 : k = 0) : numB t = true := by
  subst h0
  unfold one at h
  split at h
  · cases hk : kindT (l.takeWhile isAln) with
    | none => rw [hk] at h; cases h
    | some j =>
      rw [hk] at h
      injection h with h
      injection h with h1 h2
      subst h1 h2
      exact kindT_num hk
  · split at h
    · injection h with h
      injection h with h1 h2
      omega
    · cases h
/-- Numbers that fit, in few tokens. -/
theorem scan_num : ∀ (n : Nat) (l : List UInt8) (line : Nat) (ts : List Tok), l.length ≤ n → scan l line = (ts, none) → (∀ t ∈ ts, t.kind = 0 → numB t.text = true ∧ t.text.length ≤ l.length) ∧ ts.length ≤ l.length + 1
  | _, [], line, ts, _, h => by
    rw [scan] at h
    injection h with h _
    subst h
    refine ⟨fun t ht => ?_, by simp⟩
    obtain rfl := List.mem_singleton.1 ht
    exact fun h => (by cases h)
  | 0, c :: r, line, ts, h, _ => by simp at h
  | n + 1, c :: r, line, ts, hl, h => by
    simp only [List.length_cons] at hl ⊢
    rw [scan] at h
    have grow : ∀ {k : Nat}, k ≤ r.length → ((∀ t ∈ ts, t.kind = 0 → numB t.text = true ∧ t.text.length ≤ k) ∧ ts.length ≤ k + 1) → (∀ t ∈ ts, t.kind = 0 → numB t.text = true ∧ t.text.length ≤ r.length + 1) ∧ ts.length ≤ r.length + 1 + 1 := fun hk ⟨g1, g2⟩ =>
      ⟨fun t ht h0 => ⟨(g1 t ht h0).1, by have := (g1 t ht h0).2; omega⟩, by omega⟩
    split at h
    · exact grow (Nat.le_refl _) (scan_num n r _ ts (by omega) h)
    · split at h
      · exact grow (Nat.le_refl _) (scan_num n r _ ts (by omega) h)
      · split at h
        · have h1 := List.IsSuffix.length_le (List.dropWhile_suffix (l := r) (fun d : UInt8 => d.toNat != 10))
          exact grow h1 (scan_num n _ _ ts (by omega) h)
        · split at h
          · cases h
          · rename_i k t hone
            have h1 : (r.drop (t.length - 1)).length = r.length - (t.length - 1) := List.length_drop
            obtain ⟨o1, o2, _⟩ := one_tk hone
            rw [List.length_cons] at o2
            injection h with e1 e2
            obtain ⟨i1, i2⟩ := scan_num n (r.drop (t.length - 1)) line (scan (r.drop (t.length - 1)) line).1 (by omega) (by rw [← e2])
            subst e1
            refine ⟨fun u hu => ?_, ?_⟩
            · rcases List.mem_cons.1 hu with rfl | hu
              · exact fun h0 => ⟨one_num hone h0, o2⟩
              · exact fun h0 => ⟨(i1 u hu h0).1, by have := (i1 u hu h0).2; omega⟩
            · rw [List.length_cons]
              omega
def hdL (l : List Tok) : Nat := match l with | t :: _ => t.line | [] => 0
def pr0 : Pr := ⟨[], []⟩
/-- Of tokens: the program, the error, the line. -/
def docT (ts : List Tok) : Pr × Int × Nat :=
  match parseT ts with
  | .ok p _ => if prOK p = true then (p, 0, 0) else (pr0, 2, 0)
  | .bad r => (pr0, 20, hdL r)
  | .deep r => (pr0, 2, hdL r)
  | .out => (pr0, 0, 0)
/-- D1. -/
def docP (s : ByteArray) : Pr × Int × Nat :=
  if 100000 < s.size then (pr0, 2, 0)
  else match (scan s.data.toList 1).2 with
    | some ln => (pr0, 20, ln)
    | none => docT (scan s.data.toList 1).1
theorem docP_long {s : ByteArray} (h : 100000 < s.size) : docP s = (pr0, 2, 0) := by unfold docP; rw [if_pos h]
theorem docP_no {s : ByteArray} (h : s.size ≤ 100000) {ln : Nat} (hs : (scan s.data.toList 1).2 = some ln) : docP s = (pr0, 20, ln) := by unfold docP; rw [if_neg (by omega), hs]
theorem docP_yes {s : ByteArray} (h : s.size ≤ 100000) {ts : List Tok} (hs : scan s.data.toList 1 = (ts, none)) : docP s = docT ts := by unfold docP; rw [if_neg (by omega), hs]
theorem scan_none {l : List UInt8} (h : (scan l 1).2 = none) : scan l 1 = ((scan l 1).1, none) := by rw [← h]
end Go.Proofs.YtakijoblbmfadaaGreatDoor
