/- Plain facts for the law TokenBetween: comments and blanks ahead of a text and behind it change nothing but lines; two texts with a line end between have the tokens of both. -/
import Derived.Test.YthlmbeikjdjlkaaDoorTokAgain
namespace Go.Proofs.YthlmbeikjdjlkaaDoor
open Go.RowKit
/-- The token that a text begins with is not changed by a line end or a blank far behind. -/
theorem span_app {l : List UInt8} (hne : l ≠ []) (b : UInt8) (hb : isAln b = false) (r : List UInt8) : (l ++ b :: r).takeWhile isAln = l.takeWhile isAln := by
  induction l with
  | nil => exact absurd rfl hne
  | cons c t ih =>
    rw [List.cons_append]
    by_cases hc : isAln c = true
    · rw [List.takeWhile_cons_of_pos hc, List.takeWhile_cons_of_pos hc]
      congr 1
      cases t with
      | nil => rw [List.nil_append, List.takeWhile_cons_of_neg (by simp [hb])]; rfl
      | cons d t' => exact ih (by simp)
    · rw [List.takeWhile_cons_of_neg hc, List.takeWhile_cons_of_neg hc]
theorem prefix_app (t l : List UInt8) (b : UInt8) (hb : b ∉ t) (hne : l ≠ []) (r : List UInt8) : Lib.hasPrefix (l ++ b :: r) t = Lib.hasPrefix l t := by
  unfold Lib.hasPrefix
  induction t generalizing l with
  | nil => simp
  | cons x t ih =>
    cases l with
    | nil => exact absurd rfl hne
    | cons c l' =>
      rw [List.cons_append, List.isPrefixOf_cons_cons, List.isPrefixOf_cons_cons]
      have hb' : b ∉ t := fun h => hb (List.mem_cons_of_mem _ h)
      cases l' with
      | nil =>
        congr 1
        cases t with
        | nil => rfl
        | cons y t' =>
          have hy : (y == b) = false := by
            rw [Bool.eq_false_iff]
            intro e
            rw [beq_iff_eq] at e
            exact hb' (by rw [e]; exact List.mem_cons_self ..)
          rw [List.nil_append, List.isPrefixOf_cons_cons, hy]
          rfl
      | cons d l'' => rw [ih (d :: l'') hb' (by simp)]
theorem sign_free (b : UInt8) (h : b = 10 ∨ b = 32) : ∀ t ∈ allSigns, b ∉ t := by
  rcases h with rfl | rfl <;> decide
theorem signL_app {l : List UInt8} (hne : l ≠ []) (b : UInt8) (hb : b = 10 ∨ b = 32) (r : List UInt8) : signL (l ++ b :: r) = signL l := by
  have h : ∀ (ss : List (List UInt8)), (∀ t ∈ ss, b ∉ t) → ss.find? (fun t => Lib.hasPrefix (l ++ b :: r) t) = ss.find? (fun t => Lib.hasPrefix l t) := by
    intro ss
    induction ss with
    | nil => intro _; rfl
    | cons t ss ih =>
      intro hf
      rw [List.find?_cons, List.find?_cons, prefix_app t l b (hf t (List.mem_cons_self ..)) hne r, ih (fun u hu => hf u (List.mem_cons_of_mem _ hu))]
  unfold signL
  rw [h allSigns (sign_free b hb)]
theorem one_app {l : List UInt8} (hne : l ≠ []) (b : UInt8) (hb : b = 10 ∨ b = 32) (r : List UInt8) : one (l ++ b :: r) = one l := by
  have hn : isAln b = false := by rcases hb with rfl | rfl <;> rfl
  unfold one
  rw [span_app hne b hn r, signL_app hne b hb r]
theorem dropWhile_app10 (l r : List UInt8) : (l ++ 10 :: r).dropWhile (fun d => d.toNat != 10) = l.dropWhile (fun d => d.toNat != 10) ++ 10 :: r := by
  induction l with
  | nil => rfl
  | cons c t ih =>
    rw [List.cons_append]
    by_cases hc : c.toNat = 10
    · rw [List.dropWhile_cons_of_neg (by simp [hc]), List.dropWhile_cons_of_neg (by simp [hc])]
      rfl
    · rw [List.dropWhile_cons_of_pos (by simp [hc]), List.dropWhile_cons_of_pos (by simp [hc]), ih]
/-- Behind a text without a fault, a line end and what follows. -/
theorem scan_then : ∀ (n : Nat) (l : List UInt8) (line : Nat) (init : List Tok) (ln : Nat) (r : List UInt8), l.length ≤ n → scan l line = (init ++ [⟨3, [], ln⟩], none) →
    scan (l ++ 10 :: r) line = (init ++ (scan (10 :: r) ln).1, (scan (10 :: r) ln).2)
  | _, [], line, init, ln, r, _, h => by
    rw [scan_end] at h
    injection h with h _
    cases init with
    | nil =>
      simp at h
      subst h
      rfl
    | cons a t =>
      have := congrArg List.length h
      simp at this
  | 0, c :: t, line, init, ln, r, hl, h => by simp at hl
  | n + 1, c :: t, line, init, ln, r, hl, h => by
    simp only [List.length_cons] at hl
    rw [scan] at h
    rw [List.cons_append, scan]
    split at h
    · rename_i h10
      rw [if_pos h10]
      exact scan_then n t _ init ln r (by omega) h
    · rename_i h10
      rw [if_neg h10]
      split at h
      · rename_i hb
        rw [if_pos hb]
        exact scan_then n t _ init ln r (by omega) h
      · rename_i hb
        rw [if_neg hb]
        have hcm : ((t ++ 10 :: r).head? == some 47) = (t.head? == some 47) := by cases t <;> rfl
        rw [hcm]
        split at h
        · rename_i hc
          rw [if_pos hc, dropWhile_app10]
          have h1 := List.IsSuffix.length_le (List.dropWhile_suffix (l := t) (fun d : UInt8 => d.toNat != 10))
          exact scan_then n _ _ init ln r (by omega) h
        · rename_i hc
          rw [if_neg hc]
          have ho : one (c :: (t ++ 10 :: r)) = one (c :: t) := one_app (l := c :: t) (by simp) 10 (.inl rfl) r
          rw [ho]
          split at h
          · injection h with h1 h2
            cases h2
          · rename_i k x hone
            have hx := one_take hone
            simp only [List.length_cons] at hx
            injection h with h1 h2
            have h3 : (t.drop (x.length - 1)).length ≤ t.length := by rw [List.length_drop]; omega
            cases init with
            | nil =>
              simp at h1
              rw [h1.1.2.1] at hx
              simp at hx
            | cons a init' =>
              rw [List.cons_append] at h1
              injection h1 with e1 e2
              have ih := scan_then n (t.drop (x.length - 1)) line init' ln r (by omega) (Prod.ext e2 h2)
              have hd : (t ++ 10 :: r).drop (x.length - 1) = t.drop (x.length - 1) ++ 10 :: r := by
                rw [List.drop_append_of_le_length (by omega)]
              rw [hd, ih, e1]
              rfl
theorem dropWhile_app32 (l : List UInt8) : (l ++ [32]).dropWhile (fun d : UInt8 => d.toNat != 10) = l.dropWhile (fun d : UInt8 => d.toNat != 10) ++ [32] ∨ (l.dropWhile (fun d : UInt8 => d.toNat != 10) = [] ∧ (l ++ [32]).dropWhile (fun d : UInt8 => d.toNat != 10) = []) := by
  induction l with
  | nil => exact .inr ⟨rfl, rfl⟩
  | cons c t ih =>
    rw [List.cons_append]
    by_cases hc : c.toNat = 10
    · rw [List.dropWhile_cons_of_neg (by simp [hc]), List.dropWhile_cons_of_neg (by simp [hc])]
      exact .inl rfl
    · rw [List.dropWhile_cons_of_pos (by simp [hc]), List.dropWhile_cons_of_pos (by simp [hc])]
      exact ih
/-- Behind a text without a fault, a blank. -/
theorem scan_blank_end : ∀ (n : Nat) (l : List UInt8) (line : Nat) (ts : List Tok), l.length ≤ n → scan l line = (ts, none) → scan (l ++ [32]) line = (ts, none)
  | _, [], line, ts, _, h => by rw [List.nil_append, scan_32, h]
  | 0, c :: t, line, ts, hl, h => by simp at hl
  | n + 1, c :: t, line, ts, hl, h => by
    simp only [List.length_cons] at hl
    rw [scan] at h
    rw [List.cons_append, scan]
    split at h
    · rename_i h10
      rw [if_pos h10]
      exact scan_blank_end n t _ ts (by omega) h
    · rename_i h10
      rw [if_neg h10]
      split at h
      · rename_i hb
        rw [if_pos hb]
        exact scan_blank_end n t _ ts (by omega) h
      · rename_i hb
        rw [if_neg hb]
        have hcm : ((t ++ [32]).head? == some 47) = (t.head? == some 47) := by cases t <;> rfl
        rw [hcm]
        split at h
        · rename_i hc
          rw [if_pos hc]
          have h1 := List.IsSuffix.length_le (List.dropWhile_suffix (l := t) (fun d : UInt8 => d.toNat != 10))
          rcases dropWhile_app32 t with e | ⟨e1, e2⟩
          · rw [e]
            exact scan_blank_end n _ _ ts (by omega) h
          · rw [e2]
            rw [e1] at h
            exact h
        · rename_i hc
          rw [if_neg hc]
          have ho : one (c :: (t ++ [32])) = one (c :: t) := one_app (l := c :: t) (by simp) 32 (.inr rfl) []
          rw [ho]
          split at h
          · injection h with h1 h2
            cases h2
          · rename_i k x hone
            have hx := one_take hone
            simp only [List.length_cons] at hx
            injection h with h1 h2
            have h3 : (t.drop (x.length - 1)).length ≤ t.length := by rw [List.length_drop]; omega
            have ih := scan_blank_end n (t.drop (x.length - 1)) line _ (by omega) (Prod.ext rfl h2)
            have hd : (t ++ [32]).drop (x.length - 1) = t.drop (x.length - 1) ++ [32] := by
              rw [List.drop_append_of_le_length (by omega)]
            rw [hd, ih]
            exact Prod.ext h1 rfl
/-- The line at which a text begins changes lines alone. -/
theorem scan_shift : ∀ (n : Nat) (l : List UInt8) (a b : Nat), l.length ≤ n → ((scan l a).2 = none ↔ (scan l b).2 = none) ∧ (scan l a).1.map flatT = (scan l b).1.map flatT
  | _, [], a, b, _ => by rw [scan_end, scan_end]; exact ⟨Iff.rfl, rfl⟩
  | 0, c :: t, a, b, hl => by simp at hl
  | n + 1, c :: t, a, b, hl => by
    simp only [List.length_cons] at hl
    rw [scan, scan]
    split
    · exact scan_shift n t _ _ (by omega)
    · split
      · exact scan_shift n t _ _ (by omega)
      · split
        · have h1 := List.IsSuffix.length_le (List.dropWhile_suffix (l := t) (fun d : UInt8 => d.toNat != 10))
          exact scan_shift n _ _ _ (by omega)
        · split
          · simp
          · rename_i k x hone
            have h3 : (t.drop (x.length - 1)).length ≤ t.length := by rw [List.length_drop]; omega
            obtain ⟨ih1, ih2⟩ := scan_shift n (t.drop (x.length - 1)) a b (by omega)
            exact ⟨ih1, by rw [List.map_cons, List.map_cons, ih2]; rfl⟩
/-- What the law lays ahead of a text: a tab, a comment, a line end. -/
def preL : List UInt8 := [9, 47, 47, 32, 120, 32, 39, 32, 195, 169, 10]
theorem scan_pre (x : List UInt8) : scan (preL ++ x) 1 = scan x 2 := by
  have e1 : scan (preL ++ x) 1 = scan ([47, 47, 32, 120, 32, 39, 32, 195, 169] ++ 10 :: x) 1 := scan_blk (c := 9) 1 rfl (by decide)
  have e2 : scan ([47, 47, 32, 120, 32, 39, 32, 195, 169] ++ 10 :: x) 1 = scan (10 :: x) 1 := scan_com (l := [47, 47, 32, 120, 32, 39, 32, 195, 169] ++ 10 :: x) 1 rfl
  rw [e1, e2, scan_nl 1 rfl]
theorem scan_mid (z : List UInt8) (ln : Nat) : scan (10 :: 47 :: 47 :: 10 :: z) ln = scan z (ln + 2) := by
  have e2 : scan (47 :: 47 :: 10 :: z) (ln + 1) = scan (10 :: z) (ln + 1) := scan_com (l := 47 :: 47 :: 10 :: z) (ln + 1) rfl
  rw [scan_nl ln rfl, e2, scan_nl (ln + 1) rfl]
/-- The stage's theorem, of lists. -/
theorem scan_between {l t : List UInt8} {init tb : List Tok} {ln : Nat} (hl : scan l 1 = (init ++ [⟨3, [], ln⟩], none)) (ht : scan t 1 = (tb, none)) :
    ∃ tc, scan (preL ++ (l ++ (10 :: 47 :: 47 :: 10 :: (t ++ [32])))) 1 = (tc, none) ∧ tc.map flatT = (init ++ tb).map flatT := by
  obtain ⟨h1, h2⟩ := scan_shift _ l 1 2 (Nat.le_refl _)
  have h3 : (scan l 2).2 = none := h1.1 (by rw [hl])
  obtain ⟨init2, ln2, e2, _⟩ := scan_shape _ l 2 _ (Nat.le_refl _) (Prod.ext rfl h3)
  have e3 : (scan l 2).fst = init2 ++ [⟨3, [], ln2⟩] := e2
  rw [e3, hl] at h2
  simp only [List.map_append, List.map_cons, List.map_nil] at h2
  have h4 := (List.append_inj' h2 rfl).1
  have h5 := scan_then _ l 2 init2 ln2 (47 :: 47 :: 10 :: (t ++ [32])) (Nat.le_refl _) (Prod.ext e2 h3)
  obtain ⟨g1, g2⟩ := scan_shift _ t 1 (ln2 + 2) (Nat.le_refl _)
  have g3 : (scan t (ln2 + 2)).2 = none := g1.1 (by rw [ht])
  have g4 := scan_blank_end _ t (ln2 + 2) _ (Nat.le_refl _) (Prod.ext rfl g3)
  rw [scan_pre, h5, scan_mid, g4]
  refine ⟨_, rfl, ?_⟩
  rw [ht] at g2
  rw [List.map_append, List.map_append, ← h4, ← g2]
theorem cat_data (s t : ByteArray) : (⟨#[9, 47, 47, 32, 120, 32, 39, 32, 195, 169, 10]⟩ ++ s ++ ⟨#[10, 47, 47, 10]⟩ ++ t ++ ⟨#[32]⟩ : ByteArray).data.toList = preL ++ (s.data.toList ++ (10 :: 47 :: 47 :: 10 :: (t.data.toList ++ [32]))) := by
  simp [ByteArray.data_append, preL]
theorem tokCells_len (ts : List Tok) : (tokCells ts).length = ts.length * 3 := by
  induction ts with
  | nil => rfl
  | cons t r ih =>
    have e : tokCells (t :: r) = .int .i64 t.kind :: .string ⟨t.text.toArray⟩ :: .int .i64 (t.line : Int) :: tokCells r := by simp [tokCells]
    rw [e]
    simp only [List.length_cons, ih]
    omega
theorem tokCells_one (ts : List Tok) : ∀ u ∈ tokCells ts, u.oneCell' = true := by
  intro u hu
  unfold tokCells at hu
  obtain ⟨t, _, ht⟩ := List.mem_flatMap.1 hu
  simp at ht
  rcases ht with rfl | rfl | rfl <;> rfl
theorem tokCells_app (a b : List Tok) : tokCells (a ++ b) = tokCells a ++ tokCells b := by simp [tokCells]
theorem between_a {w w' : World} {g : Nat} {init : List Tok} {e : Tok} (h : ∀ (j : Nat) u, (tokCells (init ++ [e]))[j]? = some u → w.cell? ⟨g, j, none⟩ = some u) (hb : Below w.heap.size w w') (hg : g < w.heap.size) :
    ∀ (j : Nat) u, (tokCells init)[j]? = some u → w'.cell? ((⟨g, 0, none⟩ : Addr).add j) = some u := by
  intro j u hu
  rw [show (⟨g, 0, none⟩ : Addr).add j = ⟨g, j, none⟩ by unfold Addr.add; split <;> simp_all]
  refine (hb.cell (p := ⟨g, j, none⟩) hg).trans (h j u ?_)
  rw [tokCells_app, List.getElem?_append_left (List.getElem?_eq_some_iff.1 hu).1]
  exact hu
end Go.Proofs.YthlmbeikjdjlkaaDoor
