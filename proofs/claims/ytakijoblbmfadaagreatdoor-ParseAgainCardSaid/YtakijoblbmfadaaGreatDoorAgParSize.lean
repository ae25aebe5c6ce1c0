import Derived.Test.YtakijoblbmfadaaGreatDoorAgParLexS
set_option linter.unusedSimpArgs false
set_option linter.unusedVariables false
/- How long the text of what has been parsed may be: no Go, no program. -/
namespace Go.Proofs.YtakijoblbmfadaaGreatDoor
open Go
/-- The bytes of tokens. -/
def byt : List Tok → Nat
  | [] => 0
  | t :: r => t.text.length + byt r
/-- Tokens with texts that may be. -/
def Tk (l : List Tok) : Prop := ∀ t ∈ l, (t.kind = 1 → 1 ≤ t.text.length) ∧ (t.kind = 0 → (t.text.all isDig = true ∧ 1 ≤ t.text.length))
theorem Tk.tail {l : List Tok} (h : Tk l) : Tk l.tail := fun t ht => h t (List.mem_of_mem_tail ht)
theorem byt_tail (l : List Tok) : byt l = (hdT l).length + byt l.tail := by
  cases l <;> rfl
theorem isS_byt {s : List UInt8} {l : List Tok} (h : isS s l = true) : byt l = s.length + byt l.tail := by
  rw [byt_tail, (isS_kind h).2]
theorem bind_inv {α β : Type} {x : PR α} {f : α → List Tok → PR β} {b : β} {t : List Tok} (h : x.bind f = .ok b t) : ∃ a r, x = .ok a r ∧ f a r = .ok b t := by
  cases x with
  | ok a r => exact ⟨a, r, rfl, h⟩
  | bad r => cases h
  | deep r => cases h
  | out => cases h
theorem must_byt {s : List UInt8} {l r : List Tok} {u : Unit} (h : must s l = .ok u r) : byt l = s.length + byt r ∧ (Tk l → Tk r) := by
  unfold must at h
  split at h
  · rename_i hs
    injection h with _ h
    exact ⟨h ▸ isS_byt hs, fun k => h ▸ k.tail⟩
  · cases h
theorem want_byt {l r : List Tok} {s : ByteArray} (h : want 1 l = .ok s r) : byt l = s.size + byt r ∧ (Tk l → Tk r) ∧ (Tk l → 1 ≤ s.size) := by
  unfold want at h
  split at h
  · rename_i hk
    injection h with h1 h
    have hs : s.size = (hdT l).length := by rw [← h1]; simp [ByteArray.size]
    refine ⟨by rw [hs, ← h]; exact byt_tail l, fun k => h ▸ k.tail, fun k => ?_⟩
    rw [hs]
    cases l with
    | nil => cases hk
    | cons t q => exact (k t (by simp)).1 hk
  · cases h
theorem opFrom_mem {lev : Int} {l : List Tok} : ∀ {ops : List Int}, opFrom lev l ops ≠ 0 → opFrom lev l ops ∈ ops ∧ isS (sgT (opFrom lev l ops)) l = true
  | [], h => absurd rfl h
  | op :: r, h => by
    rw [opFrom] at h ⊢
    split at h
    · rename_i hc
      rw [if_pos hc]
      exact ⟨by simp, hc.2⟩
    · rename_i hc
      rw [if_neg hc]
      exact ⟨List.mem_cons_of_mem _ (opFrom_mem h).1, (opFrom_mem h).2⟩
theorem unFrom_mem {l : List Tok} : ∀ {ops : List Int}, unFrom l ops ≠ 0 → unFrom l ops ∈ ops ∧ isS (sgT (unFrom l ops)) l = true
  | [], h => absurd rfl h
  | op :: r, h => by
    rw [unFrom] at h ⊢
    split at h
    · rename_i hc
      rw [if_pos hc]
      exact ⟨by simp, hc⟩
    · rename_i hc
      rw [if_neg hc]
      exact ⟨List.mem_cons_of_mem _ (unFrom_mem h).1, (unFrom_mem h).2⟩
theorem two_len : ∀ op ∈ twos, 1 ≤ (sgT op).length ∧ (sgT op).length ≤ 3 := by decide +kernel
theorem un_len : ∀ op ∈ ones, 1 ≤ (sgT op).length ∧ (sgT op).length ≤ 3 := by decide +kernel
theorem digits_len : ∀ (n u : Nat), u < 10 ^ (n + 1) → (Lib.decDigits u).length ≤ n + 1
  | n, u, h => by
    rw [Lib.decDigits]
    split
    · simp
    · rename_i h10
      cases n with
      | zero => exact absurd (by simpa using h) h10
      | succ n =>
        have := digits_len n (u / 10) (by rw [Nat.pow_succ] at h; omega)
        rw [List.length_append]
        simp
        omega
theorem decV_lt : ∀ (l : List UInt8) (acc : Nat), l.all isDig = true → decV acc l < (acc + 1) * 10 ^ l.length
  | [], acc, _ => by rw [decV_nil]; simp
  | c :: r, acc, h => by
    rw [List.all_cons, Bool.and_eq_true] at h
    have hc : c.toNat - 48 < 10 := by
      have := h.1
      simp [isDig] at this
      omega
    rw [decV_cons]
    have ih := decV_lt r (acc * 10 + (c.toNat - 48)) h.2
    refine Nat.lt_of_lt_of_le ih ?_
    rw [List.length_cons, Nat.pow_succ, Nat.mul_comm (10 ^ r.length) 10, ← Nat.mul_assoc]
    exact Nat.mul_le_mul_right _ (by omega)
theorem num_len {l : List UInt8} (h : l.all isDig = true) (h1 : 1 ≤ l.length) : (Lib.itoa ((decV 0 l : Nat) : Int)).length ≤ l.length := by
  rw [Lib.itoa_nonneg]
  have := decV_lt l 0 h
  obtain ⟨n, hn⟩ : ∃ n, l.length = n + 1 := ⟨l.length - 1, by omega⟩
  rw [hn] at this ⊢
  exact digits_len n _ (by omega)
/-! ### expressions -/
theorem bsz (s : ByteArray) : s.data.toList.length = s.size := Array.length_toList
def EX (e : Ex) : Nat := (exT e).length + 2
def AX (l : List Ex) : Nat := (joinC (l.map exT)).length
theorem AX_snoc (l : List Ex) (e : Ex) : AX (l ++ [e]) ≤ AX l + EX e := by
  unfold AX EX
  rw [List.map_append, List.map_cons, List.map_nil, joinC_snoc, List.length_append, List.length_append]
  split <;> simp <;> omega
theorem par_len (lev : Int) (e : Ex) : (opT lev e).length ≤ EX e := by
  unfold opT parT EX
  split <;> simp
theorem EX_two (op : Int) (a b : Ex) (h : op ∈ twos) : EX (.mk 5 op 0 bE [a, b]) ≤ EX a + EX b + 7 := by
  have hT : exT (.mk 5 op 0 bE [a, b]) = opT (lvlOf op) a ++ 32 :: (sgT op ++ 32 :: opT (lvlOf op + 1) b) := by rw [exT_mk, exTs_map]; rfl
  have h1 := par_len (lvlOf op) a
  have h2 := par_len (lvlOf op + 1) b
  have h3 := two_len op h
  unfold EX at *
  rw [hT]
  simp only [List.length_append, List.length_cons]
  omega
theorem EX_one (op : Int) (a : Ex) (h : op ∈ ones) : EX (.mk 4 op 0 bE [a]) ≤ EX a + 5 := by
  have hT : exT (.mk 4 op 0 bE [a]) = if 23 ≤ op then sgT op ++ 40 :: (exT a ++ [41]) else sgT op ++ opT 11 a := by rw [exT_mk, exTs_map]; rfl
  have h1 := par_len 11 a
  have h3 := un_len op h
  unfold EX at *
  rw [hT]
  split <;> simp only [List.length_append, List.length_cons, List.length_nil] <;> omega
theorem EX_var (s : ByteArray) : EX (.mk 3 0 0 s []) = s.size + 2 := by
  unfold EX
  rw [exT_mk]
  exact congrArg (· + 2) (bsz s)
theorem EX_index (s : ByteArray) (e : Ex) : EX (.mk 6 0 0 s [e]) = s.size + EX e + 2 := by
  have hT : exT (.mk 6 0 0 s [e]) = s.data.toList ++ 91 :: (exT e ++ [93]) := by rw [exT_mk, exTs_map]; rfl
  unfold EX
  rw [hT]
  simp only [List.length_append, List.length_cons, List.length_nil, bsz]
theorem EX_call (s : ByteArray) (l : List Ex) : EX (.mk 7 0 0 s l) = s.size + AX l + 4 := by
  have hT : exT (.mk 7 0 0 s l) = s.data.toList ++ 40 :: (joinC (l.map exT) ++ [41]) := by
    rw [exT_mk, exTs_map]
    show s.data.toList ++ 40 :: (joinC ((l.map fun e => (e.kind, e.op, exT e)).map (·.2.2)) ++ [41]) = _
    rw [List.map_map]
    rfl
  unfold EX AX
  rw [hT]
  simp only [List.length_append, List.length_cons, List.length_nil, bsz]
  omega
theorem size_expr (n : Nat) : (∀ lev d l e r, Tk l → pE n lev d l = .ok e r → EX e + 50 * byt r ≤ 50 * byt l ∧ Tk r) ∧ (∀ lev d a l e r, Tk l → pL n lev d a l = .ok e r → EX e + 50 * byt r ≤ EX a + 50 * byt l ∧ Tk r) ∧
    (∀ d l e r, Tk l → pU n d l = .ok e r → EX e + 50 * byt r ≤ 50 * byt l ∧ Tk r) ∧ (∀ d l e r, Tk l → pP n d l = .ok e r → EX e + 50 * byt r ≤ 50 * byt l ∧ Tk r) ∧
    (∀ d s l e r, Tk l → pN n d s l = .ok e r → EX e + 50 * byt r ≤ s.size + 2 + 50 * byt l ∧ Tk r) ∧ (∀ d l es r, Tk l → pA n d l = .ok es r → AX es + 50 * byt r + 50 ≤ 50 * byt l ∧ Tk r) ∧ (∀ d acc l es r, Tk l → pAL n d acc l = .ok es r → AX es + 50 * byt r + 50 ≤ AX acc + 50 * byt l ∧ Tk r) := by
  induction n with
  | zero => exact ⟨fun _ _ _ _ _ _ h => (by rw [pE] at h; cases h), fun _ _ _ _ _ _ _ h => (by rw [pL] at h; cases h), fun _ _ _ _ _ h => (by rw [pU] at h; cases h), fun _ _ _ _ _ h => (by rw [pP] at h; cases h), fun _ _ _ _ _ _ h => (by rw [pN] at h; cases h), fun _ _ _ _ _ h => (by rw [pA] at h; cases h), fun _ _ _ _ _ _ h => (by rw [pAL] at h; cases h)⟩
  | succ n ih =>
    obtain ⟨iE, iL, iU, iP, iN, iA, iAL⟩ := ih
    refine ⟨fun lev d l e r k h => ?_, fun lev d a l e r k h => ?_, fun d l e r k h => ?_, fun d l e r k h => ?_, fun d s l e r k h => ?_, fun d l es r k h => ?_, fun d acc l es r k h => ?_⟩
    · rw [pE] at h
      split at h
      · exact iU _ _ _ _ k h
      · obtain ⟨a, r1, h1, h2⟩ := bind_inv h
        have a1 := iE _ _ _ _ _ k h1
        have a2 := iL _ _ _ _ _ _ a1.2 h2
        exact ⟨by omega, a2.2⟩
    · rw [pL] at h
      split at h
      · injection h with h1 h2
        subst h1 h2
        exact ⟨Nat.le_refl _, k⟩
      · rename_i ho
        obtain ⟨hm, hs⟩ := opFrom_mem ho
        obtain ⟨b, r1, h1, h2⟩ := bind_inv h
        have a1 := iE _ _ _ _ _ k.tail h1
        have a2 := iL _ _ _ _ _ _ a1.2 h2
        have hb := isS_byt hs
        have hl := two_len _ hm
        have he := EX_two (opAt lev l) a b hm
        unfold opAt at *
        exact ⟨by omega, a2.2⟩
    · rw [pU] at h
      split at h
      · cases h
      · split at h
        · exact iP _ _ _ _ k h
        · rename_i ho
          obtain ⟨hm, hs⟩ := unFrom_mem ho
          have hb := isS_byt hs
          have hl := un_len _ hm
          split at h
          · obtain ⟨u, r1, h1, h2⟩ := bind_inv h
            obtain ⟨a, r2, h3, h4⟩ := bind_inv h2
            obtain ⟨v, r3, h5, h6⟩ := bind_inv h4
            injection h6 with h6 h7
            subst h6 h7
            have m1 := must_byt h1
            have a1 := iE _ _ _ _ _ (m1.2 k.tail) h3
            have m2 := must_byt h5
            have he := EX_one (unAt l) a hm
            have e1 := m1.1
            have e2 := m2.1
            simp only [List.length_cons, List.length_nil] at e1 e2
            unfold unAt at *
            exact ⟨by omega, m2.2 a1.2⟩
          · obtain ⟨a, r2, h3, h4⟩ := bind_inv h
            injection h4 with h6 h7
            subst h6 h7
            have a1 := iU _ _ _ _ k.tail h3
            have he := EX_one (unAt l) a hm
            unfold unAt at *
            exact ⟨by omega, a1.2⟩
    · rw [pP] at h
      split at h
      · rename_i hs
        obtain ⟨a, r2, h3, h4⟩ := bind_inv h
        obtain ⟨v, r3, h5, h6⟩ := bind_inv h4
        injection h6 with h6 h7
        subst h6 h7
        have hb := isS_byt hs
        have a1 := iE _ _ _ _ _ k.tail h3
        have m2 := must_byt h5
        have e2 := m2.1
        exact ⟨by omega, m2.2 a1.2⟩
      · split at h
        · rename_i hs
          injection h with h6 h7
          subst h6 h7
          have hb := isS_byt hs
          have : EX (.mk 2 0 1 bE []) = 6 := by decide +kernel
          rw [this]
          simp only [sTrue, List.length_cons, List.length_nil] at hb
          exact ⟨by omega, k.tail⟩
        · split at h
          · rename_i hs
            injection h with h6 h7
            subst h6 h7
            have hb := isS_byt hs
            have : EX (.mk 2 0 0 bE []) = 7 := by decide +kernel
            rw [this]
            simp only [sFalse, List.length_cons, List.length_nil] at hb
            exact ⟨by omega, k.tail⟩
          · split at h
            · rename_i hs
              obtain ⟨u, r1, h1, h2⟩ := bind_inv h
              obtain ⟨v, r3, h5, h6⟩ := bind_inv h2
              injection h6 with h6 h7
              subst h6 h7
              have hb := isS_byt hs
              have m1 := must_byt h1
              have m2 := must_byt h5
              have e1 := m1.1
              have e2 := m2.1
              have : EX (.mk 8 0 0 bE []) = 8 := by decide +kernel
              rw [this]
              simp only [sRead, List.length_cons, List.length_nil] at hb
              exact ⟨by omega, m2.2 (m1.2 k.tail)⟩
            · split at h
              · rename_i hk
                injection h with h6 h7
                subst h6 h7
                have hb := byt_tail l
                have hn : EX (.mk 1 0 (decV 0 (hdT l)) bE []) ≤ (hdT l).length + 2 ∧ 1 ≤ (hdT l).length := by
                  cases l with
                  | nil => cases hk
                  | cons t q =>
                    have h2 := (k t (by simp)).2 hk
                    refine ⟨?_, h2.2⟩
                    unfold EX
                    rw [exT_mk]
                    exact Nat.add_le_add_right (num_len h2.1 h2.2) 2
                exact ⟨by omega, k.tail⟩
              · obtain ⟨s, r1, h1, h2⟩ := bind_inv h
                have w1 := want_byt h1
                have a1 := iN _ _ _ _ _ (w1.2.1 k) h2
                have := w1.2.2 k
                have := w1.1
                exact ⟨by omega, a1.2⟩
    · rw [pN] at h
      split at h
      · rename_i hs
        obtain ⟨es, r1, h1, h2⟩ := bind_inv h
        injection h2 with h6 h7
        subst h6 h7
        have hb := isS_byt hs
        have a1 := iA _ _ _ _ k.tail h1
        rw [EX_call]
        simp only [List.length_cons, List.length_nil] at hb
        exact ⟨by omega, a1.2⟩
      · split at h
        · rename_i hs
          obtain ⟨a, r2, h3, h4⟩ := bind_inv h
          obtain ⟨v, r3, h5, h6⟩ := bind_inv h4
          injection h6 with h6 h7
          subst h6 h7
          have hb := isS_byt hs
          have a1 := iE _ _ _ _ _ k.tail h3
          have m2 := must_byt h5
          have e2 := m2.1
          rw [EX_index]
          exact ⟨by omega, m2.2 a1.2⟩
        · injection h with h6 h7
          subst h6 h7
          rw [EX_var]
          exact ⟨by omega, k⟩
    · rw [pA] at h
      split at h
      · rename_i hs
        injection h with h6 h7
        subst h6 h7
        have hb := isS_byt hs
        simp only [List.length_cons, List.length_nil] at hb
        have : AX [] = 0 := rfl
        exact ⟨by omega, k.tail⟩
      · have a1 := iAL _ _ _ _ _ k h
        have : AX [] = 0 := rfl
        exact ⟨by omega, a1.2⟩
    · rw [pAL] at h
      obtain ⟨a, r2, h3, h4⟩ := bind_inv h
      have a1 := iE _ _ _ _ _ k h3
      have hA := AX_snoc acc a
      split at h4
      · rename_i hs
        have hb := isS_byt hs
        have a2 := iAL _ _ _ _ _ a1.2.tail h4
        exact ⟨by omega, a2.2⟩
      · obtain ⟨v, r3, h5, h6⟩ := bind_inv h4
        injection h6 with h6 h7
        subst h6 h7
        have m2 := must_byt h5
        have e2 := m2.1
        simp only [List.length_cons, List.length_nil] at e2
        exact ⟨by omega, m2.2 a1.2⟩
theorem pE_size {n : Nat} {lev d : Int} {l r : List Tok} {e : Ex} (k : Tk l) (h : pE n lev d l = .ok e r) : EX e + 50 * byt r ≤ 50 * byt l ∧ Tk r := (size_expr n).1 _ _ _ _ _ k h
theorem pA_size {n : Nat} {d : Int} {l r : List Tok} {es : List Ex} (k : Tk l) (h : pA n d l = .ok es r) : AX es + 50 * byt r + 50 ≤ 50 * byt l ∧ Tk r := (size_expr n).2.2.2.2.2.1 _ _ _ _ k h
end Go.Proofs.YtakijoblbmfadaaGreatDoor

/- How long the text of a parsed program may be: no Go, no program. -/
namespace Go.Proofs.YtakijoblbmfadaaGreatDoor
open Go
theorem semi_inv {α : Type} {x : PR α} {a : α} {r : List Tok} (h : pSemi x = .ok a r) : ∃ r1, x = .ok a r1 ∧ byt r1 = 1 + byt r ∧ (Tk r1 → Tk r) := by
  unfold pSemi at h
  obtain ⟨b, r1, h1, h2⟩ := bind_inv h
  obtain ⟨u, r2, h3, h4⟩ := bind_inv h2
  injection h4 with h5 h6
  subst h5 h6
  have m := must_byt h3
  exact ⟨r1, h1, m.1, m.2⟩
theorem pTy_size {l r : List Tok} {t : Int} (k : Tk l) (h : pTy l = .ok t r) : 3 + byt r ≤ byt l ∧ Tk r ∧ (tyT t).length ≤ 4 := by
  unfold pTy at h
  split at h
  · rename_i hs
    injection h with h5 h6
    subst h5 h6
    have hb := isS_byt hs
    simp only [sInt, List.length_cons, List.length_nil] at hb
    exact ⟨by omega, k.tail, by decide⟩
  · obtain ⟨u, r1, h1, h2⟩ := bind_inv h
    injection h2 with h5 h6
    subst h5 h6
    have m := must_byt h1
    have e1 := m.1
    simp only [sBool, List.length_cons, List.length_nil] at e1
    exact ⟨by omega, m.2 k, by decide⟩
theorem pI_size {n : Nat} {l r : List Tok} {e : Ex} (k : Tk l) (h : pI n l = .ok e r) : EX e + 50 * byt r + 100 ≤ 50 * byt l ∧ Tk r := by
  unfold pI at h
  obtain ⟨u, r1, h1, h2⟩ := bind_inv h
  obtain ⟨a, r2, h3, h4⟩ := bind_inv h2
  obtain ⟨v, r3, h5, h6⟩ := bind_inv h4
  injection h6 with h6 h7
  subst h6 h7
  have m1 := must_byt h1
  have a1 := pE_size (m1.2 k) h3
  have m2 := must_byt h5
  have e1 := m1.1
  have e2 := m2.1
  simp only [List.length_cons, List.length_nil] at e1 e2
  exact ⟨by omega, m2.2 a1.2⟩
theorem tab_len (t : Nat) : (tabT t).length = t := List.length_replicate
/-- Of a statement of one line. -/
theorem st_len {k ty : Int} {name : ByteArray} {args : List Ex} {thn els : List St} (h4 : k ≠ 4) (h5 : k ≠ 5) (t : Nat) : (stT (.mk k ty name args thn els) t).length = t + (headT k ty name args).length + 1 := by
  rw [stT_mk, if_neg h4, if_neg h5, List.length_append, List.length_append, tab_len]
  simp
  omega
theorem st_len4 (e : Ex) (thn els : List St) (t : Nat) : (stT (.mk 4 0 bE [e] thn els) t).length ≤ 2 * t + 8 + EX e + (stsT thn (t + 1)).length + (if els.length = 0 then 0 else t + 9 + (stsT els (t + 1)).length) := by
  have hk : headT 4 0 bE [e] = sIf ++ 32 :: (40 :: (exT e ++ [41, 32, 123])) := by rw [← argT_one e []]; rfl
  rw [stT_mk, hk, if_pos (by rfl)]
  unfold EX
  split <;> simp only [List.length_append, List.length_cons, List.length_nil, tab_len, sIf] <;> omega
theorem st_len5 (e : Ex) (thn : List St) (t : Nat) : (stT (.mk 5 0 bE [e] thn []) t).length = 2 * t + 11 + EX e + (stsT thn (t + 1)).length := by
  have hk : headT 5 0 bE [e] = sWhile ++ 32 :: (40 :: (exT e ++ [41, 32, 123])) := by rw [← argT_one e []]; rfl
  rw [stT_mk, hk, if_neg (by decide), if_pos (by rfl)]
  unfold EX
  simp only [List.length_append, List.length_cons, List.length_nil, tab_len, sWhile]
  omega
theorem pNm_size {n : Nat} {l r : List Tok} {s : St} (k : Tk l) (h : pNm n l = .ok s r) : (∀ t, (stT s t).length + 50 * byt r + 90 ≤ t + 50 * byt l) ∧ Tk r := by
  unfold pNm at h
  obtain ⟨nm, r1, h1, h2⟩ := bind_inv h
  have w := want_byt h1
  have w1 := w.1
  have w2 := w.2.1 k
  have w3 := w.2.2 k
  split at h2
  · rename_i hs
    obtain ⟨es, r2, h3, h4⟩ := bind_inv h2
    injection h4 with h6 h7
    subst h6 h7
    have hb := isS_byt hs
    have a1 := pA_size w2.tail h3
    simp only [List.length_cons, List.length_nil] at hb
    refine ⟨fun t => ?_, a1.2⟩
    have hk : headT 10 0 bE [.mk 7 0 0 nm es] = exT (.mk 7 0 0 nm es) ++ [59] := by rw [← argT_one (.mk 7 0 0 nm es) []]; rfl
    have he := EX_call nm es
    unfold EX at he
    rw [st_len (by decide) (by decide), hk]
    simp only [List.length_append, List.length_cons, List.length_nil]
    omega
  · split at h2
    · rename_i hs
      obtain ⟨a, r2, h3, h4⟩ := bind_inv h2
      obtain ⟨u, r3, h5, h6⟩ := bind_inv h4
      obtain ⟨v, r4, h7, h8⟩ := bind_inv h6
      obtain ⟨b, r5, h9, h10⟩ := bind_inv h8
      injection h10 with h11 h12
      subst h11 h12
      have hb := isS_byt hs
      have a1 := pE_size w2.tail h3
      have m1 := must_byt h5
      have m2 := must_byt h7
      have a2 := pE_size (m2.2 (m1.2 a1.2)) h9
      have e1 := m1.1
      have e2 := m2.1
      simp only [List.length_cons, List.length_nil] at hb e1 e2
      refine ⟨fun t => ?_, a2.2⟩
      have hk : headT 3 0 nm [a, b] = nm.data.toList ++ 91 :: (exT a ++ 93 :: 32 :: 61 :: 32 :: (exT b ++ [59])) := by rw [← argT_one a [b], ← argT_two a b []]; rfl
      unfold EX at *
      rw [st_len (by decide) (by decide), hk]
      simp only [List.length_append, List.length_cons, List.length_nil, bsz]
      omega
    · obtain ⟨u, r2, h3, h4⟩ := bind_inv h2
      obtain ⟨a, r3, h5, h6⟩ := bind_inv h4
      injection h6 with h7 h8
      subst h7 h8
      have m1 := must_byt h3
      have a1 := pE_size (m1.2 w2) h5
      have e1 := m1.1
      simp only [List.length_cons, List.length_nil] at e1
      refine ⟨fun t => ?_, a1.2⟩
      have hk : headT 2 0 nm [a] = nm.data.toList ++ 32 :: 61 :: 32 :: (exT a ++ [59]) := by rw [← argT_one a []]; rfl
      unfold EX at *
      rw [st_len (by decide) (by decide), hk]
      simp only [List.length_append, List.length_cons, List.length_nil, bsz]
      omega
theorem size_stmt (n : Nat) : (∀ d l s r, Tk l → pS n d l = .ok s r → (∀ t : Nat, (t : Int) ≤ d → (stT s t).length + 50 * byt r ≤ 50 * byt l) ∧ Tk r) ∧
    (∀ d e thn l s r, d ≤ 100 → Tk l → pEl n d e thn l = .ok s r → (∀ t : Nat, (t : Int) ≤ d → (stT s t).length + 50 * byt r ≤ 2 * t + 8 + EX e + (stsT thn (t + 1)).length + 50 * byt l) ∧ Tk r) ∧
    (∀ d l b r, Tk l → pB n d l = .ok b r → (∀ t : Nat, (t : Int) ≤ d → (stsT b t).length + 50 * byt r + 100 ≤ 50 * byt l) ∧ Tk r) ∧
    (∀ d acc l b r, Tk l → pBL n d acc l = .ok b r → (∀ t : Nat, (t : Int) ≤ d → (stsT b t).length + 50 * byt r + 50 ≤ (stsT acc t).length + 50 * byt l) ∧ Tk r) := by
  induction n with
  | zero => exact ⟨fun _ _ _ _ _ h => (by rw [pS] at h; cases h), fun _ _ _ _ _ _ _ _ h => (by rw [pEl] at h; cases h), fun _ _ _ _ _ h => (by rw [pB] at h; cases h), fun _ _ _ _ _ _ h => (by rw [pBL] at h; cases h)⟩
  | succ n ih =>
    obtain ⟨iS, iEl, iB, iBL⟩ := ih
    refine ⟨fun d l s r k h => ?_, fun d e thn l s r hd k h => ?_, fun d l b r k h => ?_, fun d acc l b r k h => ?_⟩
    · rw [pS] at h
      split at h
      · cases h
      · rename_i hd
        split at h
        · obtain ⟨q, h0, q1, q2⟩ := semi_inv h
          obtain ⟨ty, r1, h1, h2⟩ := bind_inv h0
          obtain ⟨nm, r2, h3, h4⟩ := bind_inv h2
          obtain ⟨u, r3, h5, h6⟩ := bind_inv h4
          obtain ⟨e, r4, h7, h8⟩ := bind_inv h6
          injection h8 with h9 h10
          subst h9 h10
          have p1 := pTy_size k h1
          have w := want_byt h3
          have w1 := w.1
          have w3 := w.2.2 p1.2.1
          have m1 := must_byt h5
          have e1 := m1.1
          simp only [List.length_cons, List.length_nil] at e1
          have a1 := pE_size (m1.2 (w.2.1 p1.2.1)) h7
          refine ⟨fun t ht => ?_, q2 a1.2⟩
          have hk : headT 1 ty nm [e] = tyT ty ++ 32 :: (nm.data.toList ++ 32 :: 61 :: 32 :: (exT e ++ [59])) := by rw [← argT_one e []]; rfl
          unfold EX at *
          rw [st_len (by decide) (by decide), hk]
          simp only [List.length_append, List.length_cons, List.length_nil, bsz]
          omega
        · split at h
          · rename_i hs
            have hb := isS_byt hs
            simp only [sIf, List.length_cons, List.length_nil] at hb
            obtain ⟨e, r1, h1, h2⟩ := bind_inv h
            obtain ⟨b, r2, h3, h4⟩ := bind_inv h2
            have p1 := pI_size k.tail h1
            have p2 := iB _ _ _ _ p1.2 h3
            have p3 := iEl _ _ _ _ _ _ (by omega) p2.2 h4
            refine ⟨fun t ht => ?_, p3.2⟩
            have b1 := p2.1 (t + 1) (by omega)
            have b2 := p3.1 t ht
            omega
          · split at h
            · rename_i hs
              have hb := isS_byt hs
              simp only [sWhile, List.length_cons, List.length_nil] at hb
              obtain ⟨e, r1, h1, h2⟩ := bind_inv h
              obtain ⟨b, r2, h3, h4⟩ := bind_inv h2
              injection h4 with h5 h6
              subst h5 h6
              have p1 := pI_size k.tail h1
              have p2 := iB _ _ _ _ p1.2 h3
              refine ⟨fun t ht => ?_, p2.2⟩
              have b1 := p2.1 (t + 1) (by omega)
              rw [st_len5]
              omega
            · split at h
              · rename_i hs
                have hb := isS_byt hs
                simp only [sBreak, List.length_cons, List.length_nil] at hb
                obtain ⟨q, h0, q1, q2⟩ := semi_inv h
                injection h0 with h5 h6
                subst h5 h6
                refine ⟨fun t ht => ?_, q2 k.tail⟩
                have hk : (headT 6 0 bE []).length = 6 := by rfl
                rw [st_len (by decide) (by decide), hk]
                omega
              · split at h
                · rename_i hs
                  have hb := isS_byt hs
                  simp only [sCont, List.length_cons, List.length_nil] at hb
                  obtain ⟨q, h0, q1, q2⟩ := semi_inv h
                  injection h0 with h5 h6
                  subst h5 h6
                  refine ⟨fun t ht => ?_, q2 k.tail⟩
                  have hk : (headT 7 0 bE []).length = 9 := by rfl
                  rw [st_len (by decide) (by decide), hk]
                  omega
                · split at h
                  · rename_i hs
                    have hb := isS_byt hs
                    simp only [sRet, List.length_cons, List.length_nil] at hb
                    obtain ⟨q, h0, q1, q2⟩ := semi_inv h
                    obtain ⟨e, r1, h1, h2⟩ := bind_inv h0
                    injection h2 with h5 h6
                    subst h5 h6
                    have a1 := pE_size k.tail h1
                    refine ⟨fun t ht => ?_, q2 a1.2⟩
                    have hk : headT 8 0 bE [e] = sRet ++ 32 :: (exT e ++ [59]) := by rw [← argT_one e []]; rfl
                    unfold EX at *
                    rw [st_len (by decide) (by decide), hk]
                    simp only [List.length_append, List.length_cons, List.length_nil, sRet]
                    omega
                  · split at h
                    · rename_i hs
                      have hb := isS_byt hs
                      simp only [sPrint, List.length_cons, List.length_nil] at hb
                      obtain ⟨q, h0, q1, q2⟩ := semi_inv h
                      obtain ⟨e, r1, h1, h2⟩ := bind_inv h0
                      injection h2 with h5 h6
                      subst h5 h6
                      have a1 := pI_size k.tail h1
                      refine ⟨fun t ht => ?_, q2 a1.2⟩
                      have hk : headT 9 0 bE [e] = sPrint ++ 40 :: (exT e ++ [41, 59]) := by rw [← argT_one e []]; rfl
                      unfold EX at *
                      rw [st_len (by decide) (by decide), hk]
                      simp only [List.length_append, List.length_cons, List.length_nil, sPrint]
                      omega
                    · obtain ⟨q, h0, q1, q2⟩ := semi_inv h
                      have a1 := pNm_size k h0
                      refine ⟨fun t ht => ?_, q2 a1.2⟩
                      have := a1.1 t
                      omega
    · rw [pEl] at h
      split at h
      · rename_i hs
        have hb := isS_byt hs
        simp only [sElse, List.length_cons, List.length_nil] at hb
        obtain ⟨b, r1, h1, h2⟩ := bind_inv h
        injection h2 with h5 h6
        subst h5 h6
        have p2 := iB _ _ _ _ k.tail h1
        refine ⟨fun t ht => ?_, p2.2⟩
        have b1 := p2.1 (t + 1) (by omega)
        have := st_len4 e thn b t
        split at this <;> omega
      · injection h with h5 h6
        subst h5 h6
        refine ⟨fun t ht => ?_, k⟩
        have := st_len4 e thn [] t
        rw [if_pos (by rfl)] at this
        omega
    · rw [pB] at h
      obtain ⟨u, r1, h1, h2⟩ := bind_inv h
      have m1 := must_byt h1
      have e1 := m1.1
      simp only [List.length_cons, List.length_nil] at e1
      have p1 := iBL _ _ _ _ _ (m1.2 k) h2
      refine ⟨fun t ht => ?_, p1.2⟩
      have := p1.1 t ht
      rw [stsT_nil] at this
      simp only [List.length_nil] at this
      omega
    · rw [pBL] at h
      split at h
      · rename_i hs
        have hb := isS_byt hs
        simp only [List.length_cons, List.length_nil] at hb
        injection h with h5 h6
        subst h5 h6
        exact ⟨fun t ht => by omega, k.tail⟩
      · obtain ⟨s, r1, h1, h2⟩ := bind_inv h
        have p1 := iS _ _ _ _ k h1
        have p2 := iBL _ _ _ _ _ p1.2 h2
        refine ⟨fun t ht => ?_, p2.2⟩
        have b1 := p1.1 t ht
        have b2 := p2.1 t ht
        rw [stsT_app, stsT_cons, stsT_nil, List.append_nil, List.length_append] at b2
        omega
theorem pB_size {n : Nat} {d : Int} {l r : List Tok} {b : List St} (k : Tk l) (h : pB n d l = .ok b r) : (∀ t : Nat, (t : Int) ≤ d → (stsT b t).length + 50 * byt r + 100 ≤ 50 * byt l) ∧ Tk r := (size_stmt n).2.2.1 _ _ _ _ k h
/-! ### programs -/
def PX (l : List Pa) : Nat := (joinC (l.map paT)).length
theorem PX_snoc (l : List Pa) (x : Pa) : PX (l ++ [x]) ≤ PX l + ((tyT x.type).length + x.name.size + 3) := by
  unfold PX
  rw [List.map_append, List.map_cons, List.map_nil, joinC_snoc, List.length_append, List.length_append]
  have : (paT x).length = (tyT x.type).length + x.name.size + 1 := by
    unfold paT
    rw [List.length_append, List.length_cons, bsz]
    omega
  split <;> simp <;> omega
theorem pPL_size : ∀ (n : Nat) (acc : List Pa) (l : List Tok) (ps : List Pa) (r : List Tok), Tk l → pPL n acc l = .ok ps r → PX ps + 50 * byt r ≤ PX acc + 50 * byt l ∧ Tk r
  | 0, _, _, _, _, _, h => by rw [pPL] at h; cases h
  | n + 1, acc, l, ps, r, k, h => by
    rw [pPL] at h
    obtain ⟨ty, r1, h1, h2⟩ := bind_inv h
    obtain ⟨nm, r2, h3, h4⟩ := bind_inv h2
    have p1 := pTy_size k h1
    have w := want_byt h3
    have w1 := w.1
    have w3 := w.2.2 p1.2.1
    have hx := PX_snoc acc ⟨nm, ty⟩
    simp only at hx
    split at h4
    · rename_i hs
      have hb := isS_byt hs
      have a1 := pPL_size n _ _ _ _ (w.2.1 p1.2.1).tail h4
      exact ⟨by omega, a1.2⟩
    · obtain ⟨u, r3, h5, h6⟩ := bind_inv h4
      injection h6 with h7 h8
      subst h7 h8
      have m1 := must_byt h5
      have e1 := m1.1
      exact ⟨by omega, m1.2 (w.2.1 p1.2.1)⟩
theorem pPs_size {n : Nat} {l r : List Tok} {ps : List Pa} (k : Tk l) (h : pPs n l = .ok ps r) : PX ps + 50 * byt r + 50 ≤ 50 * byt l ∧ Tk r := by
  unfold pPs at h
  obtain ⟨u, r1, h1, h2⟩ := bind_inv h
  have m1 := must_byt h1
  have e1 := m1.1
  simp only [List.length_cons, List.length_nil] at e1
  have h0 : PX [] = 0 := rfl
  split at h2
  · rename_i hs
    have hb := isS_byt hs
    injection h2 with h5 h6
    subst h5 h6
    exact ⟨by omega, (m1.2 k).tail⟩
  · have a1 := pPL_size n _ _ _ _ (m1.2 k) h2
    exact ⟨by omega, a1.2⟩
theorem fu_len (f : Fu) : (fuT f).length = (tyT f.type).length + f.name.size + PX f.params + (stsT f.body 1).length + 8 := by
  unfold fuT PX
  simp only [List.length_append, List.length_cons, List.length_nil, bsz]
  omega
theorem pFn_size {n : Nat} {t : Int} {s : ByteArray} {l r : List Tok} {f : Fu} (k : Tk l) (ht : (tyT t).length ≤ 4) (h : pFn n t s l = .ok f r) : (fuT f).length + 50 * byt r + 100 ≤ s.size + 50 * byt l ∧ Tk r := by
  unfold pFn at h
  obtain ⟨ps, r1, h1, h2⟩ := bind_inv h
  obtain ⟨b, r2, h3, h4⟩ := bind_inv h2
  injection h4 with h5 h6
  subst h5 h6
  have p1 := pPs_size k h1
  have p2 := pB_size p1.2 h3
  have b1 := p2.1 1 (by decide)
  rw [fu_len]
  simp only
  exact ⟨by omega, p2.2⟩
theorem want0_byt {l r : List Tok} {s : ByteArray} (k : Tk l) (h : want 0 l = .ok s r) : byt l = s.size + byt r ∧ Tk r ∧ (Lib.itoa ((decV 0 s.data.toList : Nat) : Int)).length ≤ s.size ∧ 1 ≤ s.size := by
  unfold want at h
  split at h
  · rename_i hk
    injection h with h1 h
    have hd : s.data.toList = hdT l := by rw [← h1]
    have hs : s.size = (hdT l).length := by rw [← hd]; exact (bsz s).symm
    have hg : (hdT l).all isDig = true ∧ 1 ≤ (hdT l).length := by
      cases l with
      | nil => cases hk
      | cons t q => exact (k t (by simp)).2 hk
    refine ⟨by rw [hs, ← h]; exact byt_tail l, h ▸ k.tail, ?_, by rw [hs]; exact hg.2⟩
    rw [hd, hs]
    exact num_len hg.1 hg.2
  · cases h
theorem ar_len (a : Ar) : (arT a).length = a.name.size + (Lib.itoa a.size).length + 8 := by
  unfold arT
  simp only [List.length_append, List.length_cons, List.length_nil, bsz]
  omega
theorem pArr_size {s : ByteArray} {l r : List Tok} {a : Ar} (k : Tk l) (h : pArr s l = .ok a r) : (arT a).length + 50 * byt r + 100 ≤ s.size + 50 * byt l ∧ Tk r := by
  unfold pArr at h
  obtain ⟨t, r1, h1, h2⟩ := bind_inv h
  obtain ⟨u, r2, h3, h4⟩ := bind_inv h2
  obtain ⟨v, r3, h5, h6⟩ := bind_inv h4
  injection h6 with h7 h8
  subst h7 h8
  have w := want0_byt k h1
  have w1 := w.1
  have w2 := w.2.2.1
  have w3 := w.2.2.2
  have m1 := must_byt h3
  have m2 := must_byt h5
  have e1 := m1.1
  have e2 := m2.1
  simp only [List.length_cons, List.length_nil] at e1 e2
  rw [ar_len]
  simp only
  exact ⟨by omega, m2.2 (m1.2 w.2.1)⟩
theorem pPr_size : ∀ (n : Nat) (p : Pr) (l : List Tok) (q : Pr) (r : List Tok), Tk l → pPr n p l = .ok q r → (prT q).length + 50 * byt r ≤ (prT p).length + 50 * byt l
  | 0, _, _, _, _, _, h => by rw [pPr] at h; cases h
  | n + 1, p, l, q, r, k, h => by
    rw [pPr] at h
    split at h
    · injection h with h1 h2
      subst h1 h2
      exact Nat.le_refl _
    · obtain ⟨ty, r1, h1, h2⟩ := bind_inv h
      obtain ⟨nm, r2, h3, h4⟩ := bind_inv h2
      have p1 := pTy_size k h1
      have w := want_byt h3
      have w1 := w.1
      have w3 := w.2.2 p1.2.1
      split at h4
      · rename_i hs
        have hb := isS_byt hs.2.2
        obtain ⟨a, r3, h5, h6⟩ := bind_inv h4
        have a1 := pArr_size (w.2.1 p1.2.1).tail h5
        have a2 := pPr_size n _ _ _ _ a1.2 h6
        have e : (prT ⟨p.arrays ++ [a], p.funcs⟩).length = (prT p).length + (arT a).length := by
          unfold prT
          simp only [List.map_append, List.flatten_append, List.length_append, List.map_cons, List.map_nil, List.flatten_cons, List.flatten_nil, List.append_nil]
          omega
        omega
      · obtain ⟨f, r3, h5, h6⟩ := bind_inv h4
        have a1 := pFn_size (w.2.1 p1.2.1) p1.2.2 h5
        have a2 := pPr_size n _ _ _ _ a1.2 h6
        have e : (prT ⟨p.arrays, p.funcs ++ [f]⟩).length = (prT p).length + (fuT f).length := by
          unfold prT
          simp only [List.map_append, List.flatten_append, List.length_append, List.map_cons, List.map_nil, List.flatten_cons, List.flatten_nil, List.append_nil]
          omega
        omega
theorem parseT_size {ts r : List Tok} {p : Pr} (k : Tk ts) (h : parseT ts = .ok p r) : (prT p).length ≤ 50 * byt ts := by
  have := pPr_size _ _ _ _ _ k h
  have e : (prT ⟨[], []⟩).length = 0 := rfl
  omega
end Go.Proofs.YtakijoblbmfadaaGreatDoor
