import Derived.Test.YtakijoblbmfadaaGreatDoorAgParSize
set_option linter.unusedSimpArgs false
set_option linter.unusedVariables false
/- The text of what a short text is parsed to is short, and is parsed to it again: no Go, no program. -/
namespace Go.Proofs.YtakijoblbmfadaaGreatDoor
open Go
theorem kindT_dig {t : List UInt8} (h : kindT t = some 0) : t.all isDig = true := by
  unfold kindT at h
  split at h
  · injection h with h
    omega
  · split at h
    · injection h with h
      omega
    · split at h
      · rename_i hn
        simp only [numB, Bool.and_eq_true, decide_eq_true_eq] at hn
        exact hn.1.1.2
      · cases h
theorem one_tk {l t : List UInt8} {k : Int} (h : one l = some (k, t)) : 1 ≤ t.length ∧ t.length ≤ l.length ∧ (k = 0 → t.all isDig = true) := by
  unfold one at h
  split at h
  · rename_i hne
    cases hk : kindT (l.takeWhile isAln) with
    | none => rw [hk] at h; cases h
    | some j =>
      rw [hk] at h
      injection h with h
      injection h with h1 h2
      subst h1 h2
      exact ⟨List.length_pos_iff.2 hne, (List.takeWhile_prefix _).length_le, fun e => kindT_dig (e ▸ hk)⟩
  · split at h
    · rename_i hne
      injection h with h
      injection h with h1 h2
      subst h1 h2
      refine ⟨List.length_pos_iff.2 hne, ?_, fun e => by omega⟩
      unfold signL
      cases hf : allSigns.find? (fun t => Lib.hasPrefix l t) with
      | none => simp
      | some u =>
        have hp := List.find?_some hf
        exact (List.isPrefixOf_iff_prefix.1 hp).length_le
    · cases h
theorem scan_tk : ∀ (n : Nat) (l : List UInt8) (line : Nat) (ts : List Tok), l.length ≤ n → scan l line = (ts, none) → Tk ts ∧ byt ts ≤ l.length
  | _, [], line, ts, _, h => by
    rw [scan] at h
    injection h with h _
    subst h
    refine ⟨fun t ht => ?_, Nat.le_refl _⟩
    obtain rfl := List.mem_singleton.1 ht
    exact ⟨fun h => (by cases h), fun h => (by cases h)⟩
  | 0, c :: r, line, ts, h, _ => by simp at h
  | n + 1, c :: r, line, ts, hl, h => by
    simp only [List.length_cons] at hl ⊢
    rw [scan] at h
    split at h
    · have := scan_tk n r _ ts (by omega) h
      exact ⟨this.1, by omega⟩
    · split at h
      · have := scan_tk n r _ ts (by omega) h
        exact ⟨this.1, by omega⟩
      · split at h
        · have h1 := List.IsSuffix.length_le (List.dropWhile_suffix (l := r) (fun d : UInt8 => d.toNat != 10))
          have := scan_tk n _ _ ts (by omega) h
          exact ⟨this.1, by omega⟩
        · split at h
          · cases h
          · rename_i k t hone
            have h1 : (r.drop (t.length - 1)).length = r.length - (t.length - 1) := List.length_drop
            obtain ⟨o1, o2, o3⟩ := one_tk hone
            rw [List.length_cons] at o2
            injection h with e1 e2
            obtain ⟨i1, i2⟩ := scan_tk n (r.drop (t.length - 1)) line (scan (r.drop (t.length - 1)) line).1 (by omega) (by rw [← e2])
            subst e1
            refine ⟨fun u hu => ?_, ?_⟩
            · rcases List.mem_cons.1 hu with rfl | hu
              · exact ⟨fun _ => o1, fun hk => ⟨o3 hk, o1⟩⟩
              · exact i1 u hu
            · show t.length + byt _ ≤ _
              omega
/-- The text of what has been parsed is at most so long. -/
theorem parsed_len {l : List UInt8} {line : Nat} {ts r : List Tok} {p : Pr} (h : scan l line = (ts, none)) (hp : parseT ts = .ok p r) : (prT p).length ≤ 50 * l.length := by
  have h1 := scan_tk _ _ _ _ (Nat.le_refl _) h
  have h2 := parseT_size h1.1 hp
  omega
end Go.Proofs.YtakijoblbmfadaaGreatDoor

/- Numbers of what has been parsed fit: no Go, no program. -/
namespace Go.Proofs.YtakijoblbmfadaaGreatDoor
open Go
def Tn (l : List Tok) : Prop := ∀ t ∈ l, t.kind = 0 → decV 0 t.text ≤ 9223372036854775807
theorem Tn.tail {l : List Tok} (h : Tn l) : Tn l.tail := fun t ht => h t (List.mem_of_mem_tail ht)
theorem must_tn {s : List UInt8} {l r : List Tok} {u : Unit} (k : Tn l) (h : must s l = .ok u r) : Tn r := by
  unfold must at h
  split at h
  · injection h with _ h
    exact h ▸ k.tail
  · cases h
theorem want_tn {j : Int} {l r : List Tok} {s : ByteArray} (k : Tn l) (h : want j l = .ok s r) : Tn r := by
  unfold want at h
  split at h
  · injection h with _ h
    exact h ▸ k.tail
  · cases h
theorem exN_of {k op : Int} {name : ByteArray} {args : List Ex} (h : exsN args = true) : exN (.mk k op 0 name args) = true := by
  rw [exN_mk, h]
  rfl
theorem exsN_app (a b : List Ex) : exsN (a ++ b) = (exsN a && exsN b) := by
  induction a with
  | nil => rw [exsN_nil]; rfl
  | cons e r ih => rw [List.cons_append, exsN_cons, exsN_cons, ih, Bool.and_assoc]
theorem exsN_1 {e : Ex} (h : exN e = true) : exsN [e] = true := by rw [exsN_cons, h, exsN_nil]; rfl
theorem exsN_2 {a b : Ex} (h : exN a = true) (k : exN b = true) : exsN [a, b] = true := by rw [exsN_cons, h, exsN_1 k]; rfl
theorem nums_expr (n : Nat) : (∀ lev d l e r, Tn l → pE n lev d l = .ok e r → exN e = true ∧ Tn r) ∧ (∀ lev d a l e r, exN a = true → Tn l → pL n lev d a l = .ok e r → exN e = true ∧ Tn r) ∧
    (∀ d l e r, Tn l → pU n d l = .ok e r → exN e = true ∧ Tn r) ∧ (∀ d l e r, Tn l → pP n d l = .ok e r → exN e = true ∧ Tn r) ∧
    (∀ d s l e r, Tn l → pN n d s l = .ok e r → exN e = true ∧ Tn r) ∧ (∀ d l es r, Tn l → pA n d l = .ok es r → exsN es = true ∧ Tn r) ∧ (∀ d acc l es r, exsN acc = true → Tn l → pAL n d acc l = .ok es r → exsN es = true ∧ Tn r) := by
  induction n with
  | zero => exact ⟨fun _ _ _ _ _ _ h => (by rw [pE] at h; cases h), fun _ _ _ _ _ _ _ _ h => (by rw [pL] at h; cases h), fun _ _ _ _ _ h => (by rw [pU] at h; cases h), fun _ _ _ _ _ h => (by rw [pP] at h; cases h), fun _ _ _ _ _ _ h => (by rw [pN] at h; cases h), fun _ _ _ _ _ h => (by rw [pA] at h; cases h), fun _ _ _ _ _ _ _ h => (by rw [pAL] at h; cases h)⟩
  | succ n ih =>
    obtain ⟨iE, iL, iU, iP, iN, iA, iAL⟩ := ih
    refine ⟨fun lev d l e r k h => ?_, fun lev d a l e r ha k h => ?_, fun d l e r k h => ?_, fun d l e r k h => ?_, fun d s l e r k h => ?_, fun d l es r k h => ?_, fun d acc l es r ha k h => ?_⟩
    · rw [pE] at h
      split at h
      · exact iU _ _ _ _ k h
      · obtain ⟨a, r1, h1, h2⟩ := bind_inv h
        have a1 := iE _ _ _ _ _ k h1
        exact iL _ _ _ _ _ _ a1.1 a1.2 h2
    · rw [pL] at h
      split at h
      · injection h with h1 h2
        subst h1 h2
        exact ⟨ha, k⟩
      · obtain ⟨b, r1, h1, h2⟩ := bind_inv h
        have a1 := iE _ _ _ _ _ k.tail h1
        exact iL _ _ _ _ _ _ (exN_of (exsN_2 ha a1.1)) a1.2 h2
    · rw [pU] at h
      split at h
      · cases h
      · split at h
        · exact iP _ _ _ _ k h
        · split at h
          · obtain ⟨u, r1, h1, h2⟩ := bind_inv h
            obtain ⟨a, r2, h3, h4⟩ := bind_inv h2
            obtain ⟨v, r3, h5, h6⟩ := bind_inv h4
            injection h6 with h6 h7
            subst h6 h7
            have a1 := iE _ _ _ _ _ (must_tn k.tail h1) h3
            exact ⟨exN_of (exsN_1 a1.1), must_tn a1.2 h5⟩
          · obtain ⟨a, r2, h3, h4⟩ := bind_inv h
            injection h4 with h6 h7
            subst h6 h7
            have a1 := iU _ _ _ _ k.tail h3
            exact ⟨exN_of (exsN_1 a1.1), a1.2⟩
    · rw [pP] at h
      split at h
      · obtain ⟨a, r2, h3, h4⟩ := bind_inv h
        obtain ⟨v, r3, h5, h6⟩ := bind_inv h4
        injection h6 with h6 h7
        subst h6 h7
        have a1 := iE _ _ _ _ _ k.tail h3
        exact ⟨a1.1, must_tn a1.2 h5⟩
      · split at h
        · injection h with h6 h7
          subst h6 h7
          exact ⟨by decide +kernel, k.tail⟩
        · split at h
          · injection h with h6 h7
            subst h6 h7
            exact ⟨by decide +kernel, k.tail⟩
          · split at h
            · obtain ⟨u, r1, h1, h2⟩ := bind_inv h
              obtain ⟨v, r3, h5, h6⟩ := bind_inv h2
              injection h6 with h6 h7
              subst h6 h7
              exact ⟨by decide +kernel, must_tn (must_tn k.tail h1) h5⟩
            · split at h
              · rename_i hk
                injection h with h6 h7
                subst h6 h7
                refine ⟨?_, k.tail⟩
                rw [exN_mk, exsN_nil, Bool.and_true, decide_eq_true_eq]
                cases l with
                | nil => cases hk
                | cons t q =>
                  have := k t (by simp) hk
                  show ((decV 0 t.text : Nat) : Int) ≤ _
                  omega
              · obtain ⟨s, r1, h1, h2⟩ := bind_inv h
                exact iN _ _ _ _ _ (want_tn k h1) h2
    · rw [pN] at h
      split at h
      · obtain ⟨es, r1, h1, h2⟩ := bind_inv h
        injection h2 with h6 h7
        subst h6 h7
        have a1 := iA _ _ _ _ k.tail h1
        exact ⟨exN_of a1.1, a1.2⟩
      · split at h
        · obtain ⟨a, r2, h3, h4⟩ := bind_inv h
          obtain ⟨v, r3, h5, h6⟩ := bind_inv h4
          injection h6 with h6 h7
          subst h6 h7
          have a1 := iE _ _ _ _ _ k.tail h3
          exact ⟨exN_of (exsN_1 a1.1), must_tn a1.2 h5⟩
        · injection h with h6 h7
          subst h6 h7
          exact ⟨exN_of exsN_nil, k⟩
    · rw [pA] at h
      split at h
      · injection h with h6 h7
        subst h6 h7
        exact ⟨exsN_nil, k.tail⟩
      · exact iAL _ _ _ _ _ exsN_nil k h
    · rw [pAL] at h
      obtain ⟨a, r2, h3, h4⟩ := bind_inv h
      have a1 := iE _ _ _ _ _ k h3
      have hA : exsN (acc ++ [a]) = true := by rw [exsN_app, ha, exsN_1 a1.1]; rfl
      split at h4
      · exact iAL _ _ _ _ _ hA a1.2.tail h4
      · obtain ⟨v, r3, h5, h6⟩ := bind_inv h4
        injection h6 with h6 h7
        subst h6 h7
        exact ⟨hA, must_tn a1.2 h5⟩
theorem pE_nums {n : Nat} {lev d : Int} {l r : List Tok} {e : Ex} (k : Tn l) (h : pE n lev d l = .ok e r) : exN e = true ∧ Tn r := (nums_expr n).1 _ _ _ _ _ k h
theorem pA_nums {n : Nat} {d : Int} {l r : List Tok} {es : List Ex} (k : Tn l) (h : pA n d l = .ok es r) : exsN es = true ∧ Tn r := (nums_expr n).2.2.2.2.2.1 _ _ _ _ k h
/-! ### statements -/
theorem semi_tn {α : Type} {x : PR α} {a : α} {r : List Tok} (h : pSemi x = .ok a r) : ∃ r1, x = .ok a r1 ∧ (Tn r1 → Tn r) := by
  unfold pSemi at h
  obtain ⟨b, r1, h1, h2⟩ := bind_inv h
  obtain ⟨u, r2, h3, h4⟩ := bind_inv h2
  injection h4 with h5 h6
  subst h5 h6
  exact ⟨r1, h1, fun k => must_tn k h3⟩
theorem pTy_tn {l r : List Tok} {t : Int} (k : Tn l) (h : pTy l = .ok t r) : Tn r := by
  unfold pTy at h
  split at h
  · injection h with h5 h6
    subst h5 h6
    exact k.tail
  · obtain ⟨u, r1, h1, h2⟩ := bind_inv h
    injection h2 with h5 h6
    subst h5 h6
    exact must_tn k h1
theorem pI_nums {n : Nat} {l r : List Tok} {e : Ex} (k : Tn l) (h : pI n l = .ok e r) : exN e = true ∧ Tn r := by
  unfold pI at h
  obtain ⟨u, r1, h1, h2⟩ := bind_inv h
  obtain ⟨a, r2, h3, h4⟩ := bind_inv h2
  obtain ⟨v, r3, h5, h6⟩ := bind_inv h4
  injection h6 with h6 h7
  subst h6 h7
  have a1 := pE_nums (must_tn k h1) h3
  exact ⟨a1.1, must_tn a1.2 h5⟩
theorem stN_of {k ty : Int} {name : ByteArray} {args : List Ex} {thn els : List St} (h1 : exsN args = true) (h2 : stsN thn = true) (h3 : stsN els = true) : stN (.mk k ty name args thn els) = true := by
  rw [stN_mk, h1, h2, h3]
  rfl
theorem stsN_app (a b : List St) : stsN (a ++ b) = (stsN a && stsN b) := by
  induction a with
  | nil => rw [stsN_nil]; rfl
  | cons e r ih => rw [List.cons_append, stsN_cons, stsN_cons, ih, Bool.and_assoc]
theorem pNm_nums {n : Nat} {l r : List Tok} {s : St} (k : Tn l) (h : pNm n l = .ok s r) : stN s = true ∧ Tn r := by
  unfold pNm at h
  obtain ⟨nm, r1, h1, h2⟩ := bind_inv h
  have w2 := want_tn k h1
  split at h2
  · obtain ⟨es, r2, h3, h4⟩ := bind_inv h2
    injection h4 with h6 h7
    subst h6 h7
    have a1 := pA_nums w2.tail h3
    exact ⟨stN_of (exsN_1 (exN_of a1.1)) stsN_nil stsN_nil, a1.2⟩
  · split at h2
    · obtain ⟨a, r2, h3, h4⟩ := bind_inv h2
      obtain ⟨u, r3, h5, h6⟩ := bind_inv h4
      obtain ⟨v, r4, h7, h8⟩ := bind_inv h6
      obtain ⟨b, r5, h9, h10⟩ := bind_inv h8
      injection h10 with h11 h12
      subst h11 h12
      have a1 := pE_nums w2.tail h3
      have a2 := pE_nums (must_tn (must_tn a1.2 h5) h7) h9
      exact ⟨stN_of (exsN_2 a1.1 a2.1) stsN_nil stsN_nil, a2.2⟩
    · obtain ⟨u, r2, h3, h4⟩ := bind_inv h2
      obtain ⟨a, r3, h5, h6⟩ := bind_inv h4
      injection h6 with h7 h8
      subst h7 h8
      have a1 := pE_nums (must_tn w2 h3) h5
      exact ⟨stN_of (exsN_1 a1.1) stsN_nil stsN_nil, a1.2⟩
theorem nums_stmt (n : Nat) : (∀ d l s r, Tn l → pS n d l = .ok s r → stN s = true ∧ Tn r) ∧ (∀ d e thn l s r, exN e = true → stsN thn = true → Tn l → pEl n d e thn l = .ok s r → stN s = true ∧ Tn r) ∧
    (∀ d l b r, Tn l → pB n d l = .ok b r → stsN b = true ∧ Tn r) ∧ (∀ d acc l b r, stsN acc = true → Tn l → pBL n d acc l = .ok b r → stsN b = true ∧ Tn r) := by
  induction n with
  | zero => exact ⟨fun _ _ _ _ _ h => (by rw [pS] at h; cases h), fun _ _ _ _ _ _ _ _ _ h => (by rw [pEl] at h; cases h), fun _ _ _ _ _ h => (by rw [pB] at h; cases h), fun _ _ _ _ _ _ _ h => (by rw [pBL] at h; cases h)⟩
  | succ n ih =>
    obtain ⟨iS, iEl, iB, iBL⟩ := ih
    refine ⟨fun d l s r k h => ?_, fun d e thn l s r he ht k h => ?_, fun d l b r k h => ?_, fun d acc l b r ha k h => ?_⟩
    · rw [pS] at h
      split at h
      · cases h
      · split at h
        · obtain ⟨q, h0, q2⟩ := semi_tn h
          obtain ⟨ty, r1, h1, h2⟩ := bind_inv h0
          obtain ⟨nm, r2, h3, h4⟩ := bind_inv h2
          obtain ⟨u, r3, h5, h6⟩ := bind_inv h4
          obtain ⟨e, r4, h7, h8⟩ := bind_inv h6
          injection h8 with h9 h10
          subst h9 h10
          have a1 := pE_nums (must_tn (want_tn (pTy_tn k h1) h3) h5) h7
          exact ⟨stN_of (exsN_1 a1.1) stsN_nil stsN_nil, q2 a1.2⟩
        · split at h
          · obtain ⟨e, r1, h1, h2⟩ := bind_inv h
            obtain ⟨b, r2, h3, h4⟩ := bind_inv h2
            have p1 := pI_nums k.tail h1
            have p2 := iB _ _ _ _ p1.2 h3
            exact iEl _ _ _ _ _ _ p1.1 p2.1 p2.2 h4
          · split at h
            · obtain ⟨e, r1, h1, h2⟩ := bind_inv h
              obtain ⟨b, r2, h3, h4⟩ := bind_inv h2
              injection h4 with h5 h6
              subst h5 h6
              have p1 := pI_nums k.tail h1
              have p2 := iB _ _ _ _ p1.2 h3
              exact ⟨stN_of (exsN_1 p1.1) p2.1 stsN_nil, p2.2⟩
            · split at h
              · obtain ⟨q, h0, q2⟩ := semi_tn h
                injection h0 with h5 h6
                subst h5 h6
                exact ⟨stN_of exsN_nil stsN_nil stsN_nil, q2 k.tail⟩
              · split at h
                · obtain ⟨q, h0, q2⟩ := semi_tn h
                  injection h0 with h5 h6
                  subst h5 h6
                  exact ⟨stN_of exsN_nil stsN_nil stsN_nil, q2 k.tail⟩
                · split at h
                  · obtain ⟨q, h0, q2⟩ := semi_tn h
                    obtain ⟨e, r1, h1, h2⟩ := bind_inv h0
                    injection h2 with h5 h6
                    subst h5 h6
                    have a1 := pE_nums k.tail h1
                    exact ⟨stN_of (exsN_1 a1.1) stsN_nil stsN_nil, q2 a1.2⟩
                  · split at h
                    · obtain ⟨q, h0, q2⟩ := semi_tn h
                      obtain ⟨e, r1, h1, h2⟩ := bind_inv h0
                      injection h2 with h5 h6
                      subst h5 h6
                      have a1 := pI_nums k.tail h1
                      exact ⟨stN_of (exsN_1 a1.1) stsN_nil stsN_nil, q2 a1.2⟩
                    · obtain ⟨q, h0, q2⟩ := semi_tn h
                      have a1 := pNm_nums k h0
                      exact ⟨a1.1, q2 a1.2⟩
    · rw [pEl] at h
      split at h
      · obtain ⟨b, r1, h1, h2⟩ := bind_inv h
        injection h2 with h5 h6
        subst h5 h6
        have p2 := iB _ _ _ _ k.tail h1
        exact ⟨stN_of (exsN_1 he) ht p2.1, p2.2⟩
      · injection h with h5 h6
        subst h5 h6
        exact ⟨stN_of (exsN_1 he) ht stsN_nil, k⟩
    · rw [pB] at h
      obtain ⟨u, r1, h1, h2⟩ := bind_inv h
      exact iBL _ _ _ _ _ stsN_nil (must_tn k h1) h2
    · rw [pBL] at h
      split at h
      · injection h with h5 h6
        subst h5 h6
        exact ⟨ha, k.tail⟩
      · obtain ⟨s, r1, h1, h2⟩ := bind_inv h
        have p1 := iS _ _ _ _ k h1
        exact iBL _ _ _ _ _ (by rw [stsN_app, ha, stsN_cons, p1.1, stsN_nil]; rfl) p1.2 h2
theorem pB_nums {n : Nat} {d : Int} {l r : List Tok} {b : List St} (k : Tn l) (h : pB n d l = .ok b r) : stsN b = true ∧ Tn r := (nums_stmt n).2.2.1 _ _ _ _ k h
/-! ### programs -/
theorem pPL_tn : ∀ (n : Nat) (acc : List Pa) (l : List Tok) (ps : List Pa) (r : List Tok), Tn l → pPL n acc l = .ok ps r → Tn r
  | 0, _, _, _, _, _, h => by rw [pPL] at h; cases h
  | n + 1, acc, l, ps, r, k, h => by
    rw [pPL] at h
    obtain ⟨ty, r1, h1, h2⟩ := bind_inv h
    obtain ⟨nm, r2, h3, h4⟩ := bind_inv h2
    have w := want_tn (pTy_tn k h1) h3
    split at h4
    · exact pPL_tn n _ _ _ _ w.tail h4
    · obtain ⟨u, r3, h5, h6⟩ := bind_inv h4
      injection h6 with h7 h8
      subst h7 h8
      exact must_tn w h5
theorem pPs_tn {n : Nat} {l r : List Tok} {ps : List Pa} (k : Tn l) (h : pPs n l = .ok ps r) : Tn r := by
  unfold pPs at h
  obtain ⟨u, r1, h1, h2⟩ := bind_inv h
  split at h2
  · injection h2 with h5 h6
    subst h5 h6
    exact (must_tn k h1).tail
  · exact pPL_tn n _ _ _ _ (must_tn k h1) h2
theorem pPr_nums : ∀ (n : Nat) (p : Pr) (l : List Tok) (q : Pr) (r : List Tok), prN p = true → Tn l → pPr n p l = .ok q r → prN q = true
  | 0, _, _, _, _, _, _, h => by rw [pPr] at h; cases h
  | n + 1, p, l, q, r, hp, k, h => by
    rw [pPr] at h
    split at h
    · injection h with h1 h2
      subst h1 h2
      exact hp
    · obtain ⟨ty, r1, h1, h2⟩ := bind_inv h
      obtain ⟨nm, r2, h3, h4⟩ := bind_inv h2
      have w := want_tn (pTy_tn k h1) h3
      split at h4
      · obtain ⟨a, r3, h5, h6⟩ := bind_inv h4
        refine pPr_nums n _ _ _ _ (show prN ⟨p.arrays ++ [a], p.funcs⟩ = true from hp) ?_ h6
        unfold pArr at h5
        obtain ⟨t, s1, g1, g2⟩ := bind_inv h5
        obtain ⟨u, s2, g3, g4⟩ := bind_inv g2
        obtain ⟨v, s3, g5, g6⟩ := bind_inv g4
        injection g6 with g7 g8
        subst g7 g8
        exact must_tn (must_tn (want_tn w.tail g1) g3) g5
      · obtain ⟨f, r3, h5, h6⟩ := bind_inv h4
        unfold pFn at h5
        obtain ⟨ps, s1, g1, g2⟩ := bind_inv h5
        obtain ⟨b, s2, g3, g4⟩ := bind_inv g2
        injection g4 with g5 g6
        subst g5 g6
        have p2 := pB_nums (pPs_tn w g1) g3
        refine pPr_nums n _ _ _ _ ?_ p2.2 h6
        unfold prN at hp ⊢
        rw [List.all_append, hp, List.all_cons, p2.1, List.all_nil]
        rfl
theorem kindT_fit {t : List UInt8} (h : kindT t = some 0) : decV 0 t ≤ 9223372036854775807 := by
  unfold kindT at h
  split at h
  · injection h with h
    omega
  · split at h
    · injection h with h
      omega
    · split at h
      · rename_i hn
        simp only [numB, Bool.and_eq_true, decide_eq_true_eq] at hn
        omega
      · cases h
theorem one_tn {l t : List UInt8} {k : Int} (h : one l = some (k, t)) (h0 : k = 0) : decV 0 t ≤ 9223372036854775807 := by
  subst h0
  unfold one at h
  split at h
  · cases hk : kindT (l.takeWhile isAln) with
    | none => rw [hk] at h; cases h
    | some j =>
      rw [hk] at h
      injection h with h
      injection h with h1 h2
      subst h1 h2
      exact kindT_fit hk
  · split at h
    · injection h with h
      injection h with h1 h2
      omega
    · cases h
theorem scan_tn : ∀ (n : Nat) (l : List UInt8) (line : Nat) (ts : List Tok), l.length ≤ n → scan l line = (ts, none) → Tn ts
  | _, [], line, ts, _, h => by
    rw [scan] at h
    injection h with h _
    subst h
    intro t ht
    obtain rfl := List.mem_singleton.1 ht
    exact fun h => (by cases h)
  | 0, c :: r, line, ts, h, _ => by simp at h
  | n + 1, c :: r, line, ts, hl, h => by
    simp only [List.length_cons] at hl
    rw [scan] at h
    split at h
    · exact scan_tn n r _ ts (by omega) h
    · split at h
      · exact scan_tn n r _ ts (by omega) h
      · split at h
        · have h1 := List.IsSuffix.length_le (List.dropWhile_suffix (l := r) (fun d : UInt8 => d.toNat != 10))
          exact scan_tn n _ _ ts (by omega) h
        · split at h
          · cases h
          · rename_i k t hone
            have h1 : (r.drop (t.length - 1)).length = r.length - (t.length - 1) := List.length_drop
            injection h with e1 e2
            have ih := scan_tn n (r.drop (t.length - 1)) line (scan (r.drop (t.length - 1)) line).1 (by omega) (by rw [← e2])
            subst e1
            intro u hu
            rcases List.mem_cons.1 hu with rfl | hu
            · exact fun h0 => one_tn hone h0
            · exact ih u hu
/-- What has been parsed has numbers that fit. -/
theorem parsed_nums {l : List UInt8} {line : Nat} {ts r : List Tok} {p : Pr} (h : scan l line = (ts, none)) (hp : parseT ts = .ok p r) : prN p = true :=
  pPr_nums _ _ _ _ _ rfl (scan_tn _ _ _ _ (Nat.le_refl _) h) hp
/-- D2's plain part: what a text is parsed to, if it may be, is told by a text, not too long, that is parsed to it. -/
theorem parse_again {l : List UInt8} {line : Nat} {ts r : List Tok} {p : Pr} (h : scan l line = (ts, none)) (hp : parseT ts = .ok p r) (hok : prOK p = true) (ln : Nat) :
    (prT p).length ≤ 50 * l.length ∧ ∃ us q, scan (prT p) ln = (us, none) ∧ parseT us = .ok p q :=
  ⟨parsed_len h hp, parse_text hok (parsed_nums h hp) ln⟩
end Go.Proofs.YtakijoblbmfadaaGreatDoor
