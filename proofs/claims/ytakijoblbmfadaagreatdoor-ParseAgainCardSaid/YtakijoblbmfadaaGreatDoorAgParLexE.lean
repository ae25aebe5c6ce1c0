import Derived.Test.YtakijoblbmfadaaGreatDoorAgParBackS
import Derived.Test.YtakijoblbmfadaaGreatDoorAgParRead
set_option linter.unusedSimpArgs false
set_option linter.unusedVariables false
/- Expressions' texts are told into their tokens: no Go, no program. -/
namespace Go.Proofs.YtakijoblbmfadaaGreatDoor
open Go
def atL (ln : Nat) (t : Tok) : Tok := ⟨t.kind, t.text, ln⟩
/-- A text on one line that is told into these tokens, whatever may stand behind it. -/
def Lx (t : List UInt8) (ks : List Tok) : Prop := ∀ r ln, AW r → XS r → scan (t ++ r) ln = (ks.map (atL ln) ++ (scan r ln).1, (scan r ln).2)
/-- A text whose head no sign ahead takes in. -/
def Hx (t : List UInt8) : Prop := ∃ c q, t = c :: q ∧ c ≠ 61 ∧ c ≠ 60 ∧ c ≠ 62 ∧ c ≠ 38 ∧ c ≠ 124 ∧ c ≠ 47
theorem Hx.xs {t : List UInt8} (h : Hx t) (r : List UInt8) : XS (t ++ r) := by
  obtain ⟨c, q, rfl, h⟩ := h
  exact xs_cons h
theorem Hx.app {t : List UInt8} (h : Hx t) (r : List UInt8) : Hx (t ++ r) := by
  obtain ⟨c, q, rfl, h⟩ := h
  exact ⟨c, q ++ r, rfl, h⟩
theorem hx_aln {t : List UInt8} (hne : t ≠ []) (ha : t.all isAln = true) : Hx t := by
  obtain ⟨c, q, rfl⟩ := List.exists_cons_of_ne_nil hne
  rw [List.all_cons, Bool.and_eq_true] at ha
  refine ⟨c, q, rfl, ?_⟩
  have h := ha.1
  refine ⟨?_, ?_, ?_, ?_, ?_, ?_⟩ <;> (rintro rfl; revert h; decide)
theorem lx_aln {t : List UInt8} {k : Int} (hne : t ≠ []) (ha : t.all isAln = true) (hk : kindT t = some k) : Lx t [⟨k, t, 0⟩] := fun _ ln h1 _ => lex_aln hne ha hk h1 ln
/-- A sign, and what is told behind it. -/
theorem lx_sign {s t : List UInt8} {ks : List Tok} (hs : s ∈ allSigns) (hx : Hx t) (h : Lx t ks) : Lx (s ++ t) (sg s :: ks) := fun r ln h1 h2 => by
  rw [List.append_assoc, lex_sign hs (hx.xs r), h r ln h1 h2]
  rfl
theorem lx_last {s t : List UInt8} {ks : List Tok} (hs : s ∈ allSigns) (h : Lx t ks) (ha : AW s) (hx : XS s) : Lx (t ++ s) (ks ++ [sg s]) := fun r ln h1 h2 => by
  have hne : s ≠ [] := by
    rintro rfl
    revert hs
    decide
  obtain ⟨c, q, rfl⟩ := List.exists_cons_of_ne_nil hne
  have h3 := h ((c :: q) ++ r) ln (aw_cons (ha c q rfl)) (xs_cons (hx c q rfl))
  rw [List.append_assoc, h3, lex_sign hs h2, List.map_append, List.append_assoc]
  rfl
theorem scan_blank (r : List UInt8) (ln : Nat) : scan (32 :: r) ln = scan r ln := by
  rw [scan, if_neg (by decide), if_pos (by decide)]
theorem aw32 (r : List UInt8) : AW (32 :: r) := aw_cons (by decide)
theorem xs32 (r : List UInt8) : XS (32 :: r) := xs_cons (by decide)
theorem nameB_parts {l : List UInt8} (h : nameB l = true) : l ≠ [] ∧ l.all isAln = true ∧ kindT l = some 1 := by
  have h' := h
  simp only [nameB, Bool.and_eq_true, Bool.not_eq_true', decide_eq_true_eq] at h'
  obtain ⟨⟨⟨⟨h1, _⟩, _⟩, h4⟩, h5⟩ := h'
  refine ⟨fun e => by rw [e] at h1; simp at h1, h4, ?_⟩
  unfold kindT
  rw [h5, h]
  rfl
theorem dig_isDig {k : Nat} (h : k < 10) : isDig (UInt8.ofNat (48 + k)) = true := by
  unfold isDig
  rw [dig_val h]
  simp
  omega
theorem digits_all (u : Nat) : (Lib.decDigits u).all isDig = true := by
  induction u using Nat.strongRecOn with
  | ind u ih =>
    rw [Lib.decDigits]
    split
    · rename_i h
      rw [List.all_cons, dig_isDig h, List.all_nil]
      rfl
    · rename_i h
      rw [List.all_append, ih (u / 10) (by omega), List.all_cons, dig_isDig (by omega), List.all_nil]
      rfl
theorem digits_head (u : Nat) (h : 0 < u) : ∃ c q, Lib.decDigits u = c :: q ∧ c ≠ 48 := by
  induction u using Nat.strongRecOn with
  | ind u ih =>
    rw [Lib.decDigits]
    split
    · rename_i h10
      refine ⟨_, _, rfl, fun e => ?_⟩
      have := dig_val h10
      rw [e] at this
      have h48 : (48 : UInt8).toNat = 48 := rfl
      omega
    · rename_i h10
      obtain ⟨c, q, e, hc⟩ := ih (u / 10) (by omega) (by omega)
      exact ⟨c, q ++ _, by rw [e]; rfl, hc⟩
theorem isDig_aln {l : List UInt8} (h : l.all isDig = true) : l.all isAln = true := by
  rw [List.all_eq_true] at h ⊢
  intro x hx
  unfold isAln
  rw [h x hx, Bool.or_true]
theorem words_let : ∀ t ∈ words, ∀ c q, t = c :: q → isDig c = false := by
  intro t ht
  simp only [words, List.mem_cons, List.not_mem_nil, or_false] at ht
  rcases ht with rfl | rfl | rfl | rfl | rfl | rfl | rfl | rfl | rfl | rfl | rfl | rfl | rfl | rfl | rfl | rfl | rfl | rfl
  all_goals (intro c q e; injection e with e _; subst e; decide)
theorem num_parts (n : Int) (h0 : 0 ≤ n) (h1 : n ≤ 9223372036854775807) : Lib.itoa n ≠ [] ∧ (Lib.itoa n).all isAln = true ∧ kindT (Lib.itoa n) = some 0 := by
  obtain ⟨u, rfl⟩ := Int.eq_ofNat_of_zero_le h0
  rw [Lib.itoa_nonneg]
  have hd := digits_all u
  have hv := decV_digits u
  have hh : Lib.decDigits u = [48] ∨ ∃ c q, Lib.decDigits u = c :: q ∧ c ≠ 48 := by
    by_cases hu : 0 < u
    · exact .inr (digits_head u hu)
    · obtain rfl : u = 0 := by omega
      exact .inl (by decide +kernel)
  have hne : Lib.decDigits u ≠ [] := by
    rcases hh with h | ⟨c, q, h, _⟩ <;> rw [h] <;> simp
  obtain ⟨c, q, hcq⟩ := List.exists_cons_of_ne_nil hne
  have hdc : isDig c = true := by rw [hcq, List.all_cons, Bool.and_eq_true] at hd; exact hd.1
  refine ⟨hne, isDig_aln hd, ?_⟩
  have hw : wordB (Lib.decDigits u) = false := by
    rw [Bool.eq_false_iff]
    intro hc
    have := words_let _ (List.contains_iff_mem.1 hc) c q hcq
    rw [hdc] at this
    cases this
  have hnm : nameB (Lib.decDigits u) = false := by
    have hl : isLet c = false := by
      cases hl : isLet c with
      | false => rfl
      | true => rw [isLet_not_dig c hl] at hdc; cases hdc
    unfold nameB
    rw [hcq]
    simp [hl]
  have hnb : numB (Lib.decDigits u) = true := by
    unfold numB
    rw [hd, hv]
    have e1 : (Lib.decDigits u).isEmpty = false := by rw [hcq]; rfl
    have e2 : (Lib.decDigits u == [48] || (Lib.decDigits u).headD 0 != 48) = true := by
      rcases hh with h | ⟨c', q', h, hc⟩
      · rw [h]; rfl
      · rw [h]; simp [hc]
    rw [e1, e2, decide_eq_true (by omega)]
    rfl
  unfold kindT
  rw [hw, hnm, hnb]
  rfl
theorem twoT_sign : ∀ op ∈ twos, sgT op ∈ allSigns := by decide +kernel
theorem oneL_sign : ∀ op ∈ ones, op < 23 → sgT op ∈ allSigns := by decide +kernel
theorem oneT_word : ∀ op ∈ ones, 23 ≤ op → kindT (sgT op) = some 2 ∧ (sgT op).all isAln = true ∧ sgT op ≠ [] := by decide +kernel
theorem oneT_hx : ∀ op ∈ ones, op < 23 → ∀ c, (sgT op).head? = some c → c ≠ 61 ∧ c ≠ 60 ∧ c ≠ 62 ∧ c ≠ 38 ∧ c ≠ 124 ∧ c ≠ 47 := by
  intro op ho h
  simp only [ones, List.mem_cons, List.not_mem_nil, or_false] at ho
  rcases ho with rfl | rfl | rfl | rfl | rfl | rfl | rfl | rfl | rfl
  all_goals first | omega | (intro c hc; injection hc with hc; subst hc; decide +kernel)
theorem cl_in : ([41] : List UInt8) ∈ allSigns := by decide
theorem op_in : ([40] : List UInt8) ∈ allSigns := by decide
theorem sq_in : ([91] : List UInt8) ∈ allSigns := by decide
theorem sc_in : ([93] : List UInt8) ∈ allSigns := by decide
theorem co_in : ([44] : List UInt8) ∈ allSigns := by decide
theorem hx_one {c : UInt8} {q : List UInt8} (h : c ≠ 61 ∧ c ≠ 60 ∧ c ≠ 62 ∧ c ≠ 38 ∧ c ≠ 124 ∧ c ≠ 47) : Hx (c :: q) := ⟨c, q, rfl, h⟩
/-- In brackets behind a sign's place. -/
theorem lx_paren {t : List UInt8} {ks : List Tok} (hx : Hx t) (h : Lx t ks) : Lx (40 :: (t ++ [41])) (sg [40] :: (ks ++ [sg [41]])) :=
  lx_sign (s := [40]) op_in (hx.app [41]) (lx_last cl_in h (aw_cons (by decide)) (xs_cons (by decide)))
/-- Behind letters and digits, what begins with a sign. -/
theorem lx_word {w t : List UInt8} {k : Int} {ks : List Tok} (hne : w ≠ []) (ha : w.all isAln = true) (hk : kindT w = some k) (haw : ∀ r, AW (t ++ r)) (h : Lx t ks) : Lx (w ++ t) (⟨k, w, 0⟩ :: ks) := fun r ln h1 h2 => by
  rw [List.append_assoc, lex_aln hne ha hk (haw r), h r ln h1 h2]
  rfl
/-- With a blank between. -/
theorem lx_blank {t u : List UInt8} {ks js : List Tok} (h : Lx t ks) (k : Lx u js) : Lx (t ++ 32 :: u) (ks ++ js) := fun r ln h1 h2 => by
  have h3 := h (32 :: (u ++ r)) ln (aw32 _) (xs32 _)
  rw [List.append_assoc, List.cons_append, h3, scan_blank, k r ln h1 h2, List.map_append, List.append_assoc]
/-- A sign between blanks. -/
theorem lx_mid {s u : List UInt8} {js : List Tok} (hs : s ∈ allSigns) (k : Lx u js) : Lx (s ++ 32 :: u) (sg s :: js) := fun r ln h1 h2 => by
  rw [List.append_assoc, List.cons_append, lex_sign hs (xs32 _), scan_blank, k r ln h1 h2]
  rfl
def PLx (e : Ex) : Prop := Lx (exT e) (exK e) ∧ Hx (exT e)
theorem par_lx {e : Ex} (h : PLx e) (lev : Int) : Lx (opT lev e) (opK lev e) ∧ Hx (opT lev e) := by
  unfold opT opK parT parK
  split
  · exact ⟨lx_paren h.2 h.1, hx_one (by decide)⟩
  · exact h
theorem nmb_parts {s : ByteArray} (h : nmB s = true) : s.data.toList ≠ [] ∧ s.data.toList.all isAln = true ∧ kindT s.data.toList = some 1 := nameB_parts h
theorem args_lx : ∀ (l : List Ex), (∀ x ∈ l, PLx x) → l ≠ [] → Lx (joinC (l.map exT)) (joinK (l.map exK)) ∧ Hx (joinC (l.map exT))
  | [], _, h => absurd rfl h
  | [e], h, _ => h e (by simp)
  | e :: f :: l, h, _ => by
    have ih := args_lx (f :: l) (fun x hx => h x (List.mem_cons_of_mem _ hx)) (by simp)
    have he := h e (by simp)
    refine ⟨fun r ln h1 h2 => ?_, he.2.app _⟩
    show scan ((exT e ++ 44 :: 32 :: joinC ((f :: l).map exT)) ++ r) ln = _
    have h0 := he.1 (44 :: 32 :: (joinC ((f :: l).map exT) ++ r)) ln (aw_cons (by decide)) (xs_cons (by decide))
    have h3 := lex_sign (t := [44]) (r := 32 :: (joinC ((f :: l).map exT) ++ r)) co_in (xs32 _) ln
    rw [List.append_assoc, show ((44 :: 32 :: joinC ((f :: l).map exT)) ++ r) = 44 :: 32 :: (joinC ((f :: l).map exT) ++ r) from rfl, h0, show (44 :: 32 :: (joinC ((f :: l).map exT) ++ r)) = [44] ++ 32 :: (joinC ((f :: l).map exT) ++ r) from rfl, h3, scan_blank, ih.1 r ln h1 h2]
    show _ = (List.map (atL ln) (exK e ++ sg [44] :: joinK ((f :: l).map exK)) ++ _, _)
    rw [List.map_append, List.append_assoc]
    rfl
theorem plx_bool (b : Bool) : Lx (boolT b) [⟨2, boolT b, 0⟩] ∧ Hx (boolT b) := by
  cases b
  · exact ⟨lx_aln (by decide) (by decide) (by decide +kernel), hx_aln (by decide) (by decide)⟩
  · exact ⟨lx_aln (by decide) (by decide) (by decide +kernel), hx_aln (by decide) (by decide)⟩
mutual
theorem ex_lx : ∀ (e : Ex) (m : Nat), exOK e m = true → exN e = true → PLx e
  | .mk k op n name args, m, hm, hN => by
    rw [exOK_mk] at hm
    rw [exN_mk] at hN
    simp only [Bool.and_eq_true, decide_eq_true_eq] at hm hN
    have hf := hm.1.2
    have hall := exs_lx args (m - 1) hm.2 hN.2
    unfold PLx
    rw [exT_mk, exK_mk]
    obtain rfl | rfl | rfl | rfl | rfl | rfl | rfl | rfl := formK_kind hf
    · obtain ⟨h0, _, _, _⟩ := formK_num hf
      obtain ⟨p1, p2, p3⟩ := num_parts n h0 hN.1
      exact ⟨lx_aln p1 p2 p3, hx_aln p1 p2⟩
    · obtain ⟨h0, _⟩ := formE_truth hf
      rcases h0 with rfl | rfl
      · exact plx_bool false
      · exact plx_bool true
    · obtain ⟨p1, p2, p3⟩ := nmb_parts (formE_var hf).1
      exact ⟨lx_aln p1 p2 p3, hx_aln p1 p2⟩
    · obtain ⟨ho, _, _, h1⟩ := formK_one hf
      obtain ⟨a, rfl⟩ := len1 h1
      have ha := hall a (by simp)
      have hc := one_cases ho
      have hT : nodeT 4 op n name (exTs [a]) = if 23 ≤ op then sgT op ++ 40 :: (exT a ++ [41]) else sgT op ++ opT 11 a := by rw [exTs_map]; rfl
      have hK : nodeK 4 op n name (exKs [a]) = if 23 ≤ op then sg (sgT op) :: sg [40] :: (exK a ++ [sg [41]]) else sg (sgT op) :: opK 11 a := by rw [exKs_map]; rfl
      rw [hT, hK]
      by_cases h23 : 23 ≤ op
      · rw [if_pos h23, if_pos h23]
        obtain ⟨q1, q2, q3⟩ := oneT_word op hc h23
        exact ⟨lx_word q3 q2 q1 (fun r => aw_cons (by decide)) (lx_paren ha.2 ha.1), (hx_aln q3 q2).app _⟩
      · rw [if_neg h23, if_neg h23]
        have hp := par_lx ha 11
        refine ⟨lx_sign (oneL_sign op hc (by omega)) hp.2 hp.1, ?_⟩
        have hne : sgT op ≠ [] := by
          intro e
          have := oneL_sign op hc (by omega)
          rw [e] at this
          revert this
          decide
        obtain ⟨c, q, hcq⟩ := List.exists_cons_of_ne_nil hne
        have := oneT_hx op hc (by omega) c (by rw [hcq]; rfl)
        rw [hcq]
        exact hx_one this
    · obtain ⟨hl, _, _, h2⟩ := formK_two hf
      obtain ⟨a, b, rfl⟩ := len2 h2
      have ha := par_lx (hall a (by simp)) (lvlOf op)
      have hb := par_lx (hall b (by simp)) (lvlOf op + 1)
      have hT : nodeT 5 op n name (exTs [a, b]) = opT (lvlOf op) a ++ 32 :: (sgT op ++ 32 :: opT (lvlOf op + 1) b) := by rw [exTs_map]; rfl
      have hK : nodeK 5 op n name (exKs [a, b]) = opK (lvlOf op) a ++ sg (sgT op) :: opK (lvlOf op + 1) b := by rw [exKs_map]; rfl
      rw [hT, hK]
      exact ⟨lx_blank ha.1 (lx_mid (twoT_sign op (two_cases hl)) hb.1), ha.2.app _⟩
    · obtain ⟨hn, _, _, h1⟩ := formK_index hf
      obtain ⟨a, rfl⟩ := len1 h1
      have ha := hall a (by simp)
      obtain ⟨p1, p2, p3⟩ := nmb_parts hn
      have hT : nodeT 6 op n name (exTs [a]) = name.data.toList ++ 91 :: (exT a ++ [93]) := by rw [exTs_map]; rfl
      have hK : nodeK 6 op n name (exKs [a]) = nmK name :: sg [91] :: (exK a ++ [sg [93]]) := by rw [exKs_map]; rfl
      rw [hT, hK]
      exact ⟨lx_word p1 p2 p3 (fun r => aw_cons (by decide)) (lx_sign (s := [91]) sq_in (ha.2.app [93]) (lx_last sc_in ha.1 (aw_cons (by decide)) (xs_cons (by decide)))), (hx_aln p1 p2).app _⟩
    · obtain ⟨hn, _, _, _⟩ := formE_call hf
      obtain ⟨p1, p2, p3⟩ := nmb_parts hn
      have hT : nodeT 7 op n name (exTs args) = name.data.toList ++ 40 :: (joinC (args.map exT) ++ [41]) := by
        rw [exTs_map]
        show name.data.toList ++ 40 :: (joinC ((args.map fun e => (e.kind, e.op, exT e)).map (·.2.2)) ++ [41]) = _
        rw [List.map_map]
        rfl
      have hK : nodeK 7 op n name (exKs args) = nmK name :: sg [40] :: (joinK (args.map exK) ++ [sg [41]]) := by
        rw [exKs_map]
        show nmK name :: sg [40] :: (joinK ((args.map fun e => (e.kind, e.op, exK e)).map (·.2.2)) ++ [sg [41]]) = _
        rw [List.map_map]
        rfl
      rw [hT, hK]
      refine ⟨lx_word p1 p2 p3 (fun r => aw_cons (by decide)) ?_, (hx_aln p1 p2).app _⟩
      cases args with
      | nil => exact lx_sign (s := [40]) op_in (hx_one (by decide)) (fun r ln h1 h2 => lex_sign (t := [41]) cl_in h2 ln)
      | cons a l =>
        have hj := args_lx (a :: l) hall (by simp)
        exact lx_paren hj.2 hj.1
    · exact ⟨lx_word (w := sRead) (t := [40, 41]) (k := 2) (by decide) (by decide) (by decide +kernel) (fun r => aw_cons (by decide)) (lx_sign (s := [40]) op_in (hx_one (by decide)) (fun r ln h1 h2 => lex_sign (t := [41]) cl_in h2 ln)), hx_one (by decide)⟩
theorem exs_lx : ∀ (l : List Ex) (m : Nat), exsOK l m = true → exsN l = true → ∀ x ∈ l, PLx x
  | [], _, _, _ => fun x h => by simp at h
  | e :: r, m, hm, hN => by
    rw [exsOK_cons, Bool.and_eq_true] at hm
    rw [exsN_cons, Bool.and_eq_true] at hN
    exact List.forall_mem_cons.2 ⟨ex_lx e m hm.1 hN.1, exs_lx r m hm.2 hN.2⟩
end
end Go.Proofs.YtakijoblbmfadaaGreatDoor

/- The plain parser does not look at lines; more fuel changes nothing once it ends: no Go, no program. -/
namespace Go.Proofs.YtakijoblbmfadaaGreatDoor
open Go
def fl0 (t : Tok) : Tok := ⟨t.kind, t.text, 0⟩
def fl (l : List Tok) : List Tok := l.map fl0
def PR.fl {α : Type} : PR α → PR α
  | .ok a r => .ok a (Proofs.YtakijoblbmfadaaGreatDoor.fl r)
  | .bad r => .bad (Proofs.YtakijoblbmfadaaGreatDoor.fl r)
  | .deep r => .deep (Proofs.YtakijoblbmfadaaGreatDoor.fl r)
  | .out => .out
theorem fl_tail (l : List Tok) : (fl l).tail = fl l.tail := by cases l <;> rfl
theorem fl_isS (s : List UInt8) (l : List Tok) : isS s (fl l) = isS s l := by cases l <;> rfl
theorem fl_hdK (l : List Tok) : hdK (fl l) = hdK l := by cases l <;> rfl
theorem fl_hdT (l : List Tok) : hdT (fl l) = hdT l := by cases l <;> rfl
theorem fl_opFrom (lev : Int) (l : List Tok) : ∀ ops, opFrom lev (fl l) ops = opFrom lev l ops
  | [] => rfl
  | op :: r => by rw [opFrom, opFrom, fl_isS, fl_opFrom lev l r]
theorem fl_unFrom (l : List Tok) : ∀ ops, unFrom (fl l) ops = unFrom l ops
  | [] => rfl
  | op :: r => by rw [unFrom, unFrom, fl_isS, fl_unFrom l r]
theorem fl_opAt (lev : Int) (l : List Tok) : opAt lev (fl l) = opAt lev l := fl_opFrom lev l twos
theorem fl_unAt (l : List Tok) : unAt (fl l) = unAt l := fl_unFrom l ones
theorem fl_bind {α β : Type} {x x' : PR α} {f g : α → List Tok → PR β} (hx : x' = x.fl) (h : ∀ a r, g a (fl r) = (f a r).fl) : x'.bind g = (x.bind f).fl := by
  subst hx
  cases x with
  | ok a r => exact h a r
  | _ => rfl
theorem fl_must (s : List UInt8) (l : List Tok) : must s (fl l) = (must s l).fl := by
  unfold must
  rw [fl_isS, fl_tail]
  split <;> rfl
theorem fl_want (k : Int) (l : List Tok) : want k (fl l) = (want k l).fl := by
  unfold want
  rw [fl_hdK, fl_hdT, fl_tail]
  split <;> rfl
theorem fl_expr (n : Nat) : (∀ lev d l, pE n lev d (fl l) = (pE n lev d l).fl) ∧ (∀ lev d a l, pL n lev d a (fl l) = (pL n lev d a l).fl) ∧ (∀ d l, pU n d (fl l) = (pU n d l).fl) ∧ (∀ d l, pP n d (fl l) = (pP n d l).fl) ∧
    (∀ d s l, pN n d s (fl l) = (pN n d s l).fl) ∧ (∀ d l, pA n d (fl l) = (pA n d l).fl) ∧ (∀ d acc l, pAL n d acc (fl l) = (pAL n d acc l).fl) := by
  induction n with
  | zero => exact ⟨fun _ _ _ => by rw [pE, pE]; rfl, fun _ _ _ _ => by rw [pL, pL]; rfl, fun _ _ => by rw [pU, pU]; rfl, fun _ _ => by rw [pP, pP]; rfl, fun _ _ _ => by rw [pN, pN]; rfl, fun _ _ => by rw [pA, pA]; rfl, fun _ _ _ => by rw [pAL, pAL]; rfl⟩
  | succ n ih =>
    obtain ⟨iE, iL, iU, iP, iN, iA, iAL⟩ := ih
    refine ⟨fun lev d l => ?_, fun lev d a l => ?_, fun d l => ?_, fun d l => ?_, fun d s l => ?_, fun d l => ?_, fun d acc l => ?_⟩
    · rw [pE, pE]
      split
      · exact iU d l
      · exact fl_bind (iE _ _ _) fun a r => iL _ _ _ _
    · rw [pL, pL, fl_opAt, fl_tail]
      split
      · rfl
      · exact fl_bind (iE _ _ _) fun a r => iL _ _ _ _
    · rw [pU, pU, fl_unAt, fl_tail]
      split
      · rfl
      · split
        · exact iP d l
        · split
          · exact fl_bind (fl_must _ _) fun _ r => fl_bind (iE _ _ _) fun e r => fl_bind (fl_must _ _) fun _ r => rfl
          · exact fl_bind (iU _ _) fun e r => rfl
    · rw [pP, pP, fl_tail, fl_hdK, fl_hdT]
      simp only [fl_isS]
      split
      · exact fl_bind (iE _ _ _) fun e r => fl_bind (fl_must _ _) fun _ r => rfl
      · split
        · rfl
        · split
          · rfl
          · split
            · exact fl_bind (fl_must _ _) fun _ r => fl_bind (fl_must _ _) fun _ r => rfl
            · split
              · rfl
              · exact fl_bind (fl_want _ _) fun s r => iN _ _ _
    · rw [pN, pN, fl_tail]
      simp only [fl_isS]
      split
      · exact fl_bind (iA _ _) fun es r => rfl
      · split
        · exact fl_bind (iE _ _ _) fun e r => fl_bind (fl_must _ _) fun _ r => rfl
        · rfl
    · rw [pA, pA, fl_tail, fl_isS]
      split
      · rfl
      · exact iAL _ _ _
    · rw [pAL, pAL]
      refine fl_bind (iE _ _ _) fun e r => ?_
      rw [fl_isS, fl_tail]
      split
      · exact iAL _ _ _
      · exact fl_bind (fl_must _ _) fun _ r => rfl
theorem fl_pE (n : Nat) (lev d : Int) (l : List Tok) : pE n lev d (fl l) = (pE n lev d l).fl := (fl_expr n).1 lev d l
theorem fl_pA (n : Nat) (d : Int) (l : List Tok) : pA n d (fl l) = (pA n d l).fl := (fl_expr n).2.2.2.2.2.1 d l
theorem fl_pI (n : Nat) (l : List Tok) : pI n (fl l) = (pI n l).fl := by
  unfold pI
  exact fl_bind (fl_must _ _) fun _ r => fl_bind (fl_pE _ _ _ _) fun e r => fl_bind (fl_must _ _) fun _ r => rfl
theorem fl_pTy (l : List Tok) : pTy (fl l) = (pTy l).fl := by
  unfold pTy
  rw [fl_isS, fl_tail]
  split
  · rfl
  · exact fl_bind (fl_must _ _) fun _ r => rfl
theorem fl_semi {α : Type} {x x' : PR α} (h : x' = x.fl) : pSemi x' = (pSemi x).fl := by
  unfold pSemi
  exact fl_bind h fun a r => fl_bind (fl_must _ _) fun _ r => rfl
theorem fl_pNm (n : Nat) (l : List Tok) : pNm n (fl l) = (pNm n l).fl := by
  unfold pNm
  refine fl_bind (fl_want _ _) fun s r => ?_
  simp only [fl_isS, fl_tail]
  split
  · exact fl_bind (fl_pA _ _ _) fun es r => rfl
  · split
    · exact fl_bind (fl_pE _ _ _ _) fun e r => fl_bind (fl_must _ _) fun _ r => fl_bind (fl_must _ _) fun _ r => fl_bind (fl_pE _ _ _ _) fun f r => rfl
    · exact fl_bind (fl_must _ _) fun _ r => fl_bind (fl_pE _ _ _ _) fun e r => rfl
theorem fl_stmt (n : Nat) : (∀ d l, pS n d (fl l) = (pS n d l).fl) ∧ (∀ d e t l, pEl n d e t (fl l) = (pEl n d e t l).fl) ∧ (∀ d l, pB n d (fl l) = (pB n d l).fl) ∧ (∀ d acc l, pBL n d acc (fl l) = (pBL n d acc l).fl) := by
  induction n with
  | zero => exact ⟨fun _ _ => by rw [pS, pS]; rfl, fun _ _ _ _ => by rw [pEl, pEl]; rfl, fun _ _ => by rw [pB, pB]; rfl, fun _ _ _ => by rw [pBL, pBL]; rfl⟩
  | succ n ih =>
    obtain ⟨iS, iEl, iB, iBL⟩ := ih
    refine ⟨fun d l => ?_, fun d e t l => ?_, fun d l => ?_, fun d acc l => ?_⟩
    · rw [pS, pS]
      simp only [fl_isS, fl_tail]
      split
      · rfl
      · split
        · exact fl_semi (fl_bind (fl_pTy _) fun t r => fl_bind (fl_want _ _) fun s r => fl_bind (fl_must _ _) fun _ r => fl_bind (fl_pE _ _ _ _) fun e r => rfl)
        · split
          · exact fl_bind (fl_pI _ _) fun e r => fl_bind (iB _ _) fun t r => iEl _ _ _ _
          · split
            · exact fl_bind (fl_pI _ _) fun e r => fl_bind (iB _ _) fun t r => rfl
            · split
              · exact fl_semi rfl
              · split
                · exact fl_semi rfl
                · split
                  · exact fl_semi (fl_bind (fl_pE _ _ _ _) fun e r => rfl)
                  · split
                    · exact fl_semi (fl_bind (fl_pI _ _) fun e r => rfl)
                    · exact fl_semi (fl_pNm _ _)
    · rw [pEl, pEl, fl_isS, fl_tail]
      split
      · exact fl_bind (iB _ _) fun u r => rfl
      · rfl
    · rw [pB, pB]
      exact fl_bind (fl_must _ _) fun _ r => iBL _ _ _
    · rw [pBL, pBL, fl_isS, fl_tail]
      split
      · rfl
      · exact fl_bind (iS _ _) fun s r => iBL _ _ _
theorem fl_pPL : ∀ (n : Nat) (acc : List Pa) (l : List Tok), pPL n acc (fl l) = (pPL n acc l).fl
  | 0, _, _ => by rw [pPL, pPL]; rfl
  | n + 1, acc, l => by
    rw [pPL, pPL]
    refine fl_bind (fl_pTy _) fun t r => fl_bind (fl_want _ _) fun s r => ?_
    rw [fl_isS, fl_tail]
    split
    · exact fl_pPL n _ _
    · exact fl_bind (fl_must _ _) fun _ r => rfl
theorem fl_pPs (n : Nat) (l : List Tok) : pPs n (fl l) = (pPs n l).fl := by
  unfold pPs
  refine fl_bind (fl_must _ _) fun _ r => ?_
  rw [fl_isS, fl_tail]
  split
  · rfl
  · exact fl_pPL n _ _
theorem fl_pFn (n : Nat) (t : Int) (s : ByteArray) (l : List Tok) : pFn n t s (fl l) = (pFn n t s l).fl := by
  unfold pFn
  exact fl_bind (fl_pPs _ _) fun ps r => fl_bind ((fl_stmt n).2.2.1 _ _) fun b r => rfl
theorem fl_pArr (s : ByteArray) (l : List Tok) : pArr s (fl l) = (pArr s l).fl := by
  unfold pArr
  exact fl_bind (fl_want _ _) fun t r => fl_bind (fl_must _ _) fun _ r => fl_bind (fl_must _ _) fun _ r => rfl
theorem fl_pPr : ∀ (n : Nat) (p : Pr) (l : List Tok), pPr n p (fl l) = (pPr n p l).fl
  | 0, _, _ => by rw [pPr, pPr]; rfl
  | n + 1, p, l => by
    rw [pPr, pPr, fl_hdK]
    split
    · rfl
    · refine fl_bind (fl_pTy _) fun t r => fl_bind (fl_want _ _) fun s r => ?_
      rw [fl_isS, fl_tail]
      split
      · exact fl_bind (fl_pArr _ _) fun a r => fl_pPr n _ _
      · exact fl_bind (fl_pFn _ _ _ _) fun f r => fl_pPr n _ _
theorem fl_len (l : List Tok) : (fl l).length = l.length := by simp [fl]
theorem fl_parseT (l : List Tok) : parseT (fl l) = (parseT l).fl := by
  unfold parseT
  rw [fl_len]
  exact fl_pPr _ _ _
/-! ### fuel -/
/-- Where the first ends the second is it. -/
def Same1 {α : Type} (x y : PR α) : Prop := Ends x → y = x
theorem same1_bind {α β : Type} {x y : PR α} {f g : α → List Tok → PR β} (h : Same1 x y) (k : ∀ a r, Same1 (f a r) (g a r)) : Same1 (x.bind f) (y.bind g) := by
  intro he
  cases x with
  | ok a r =>
    rw [h trivial]
    exact k a r he
  | bad r => rw [h trivial]; rfl
  | deep r => rw [h trivial]; rfl
  | out => exact absurd he id
theorem same1_rfl {α : Type} (x : PR α) : Same1 x x := fun _ => rfl
theorem same1_out {α : Type} (y : PR α) : Same1 .out y := fun h => absurd h id
theorem mono_expr (n : Nat) : (∀ lev d l, Same1 (pE n lev d l) (pE (n + 1) lev d l)) ∧ (∀ lev d a l, Same1 (pL n lev d a l) (pL (n + 1) lev d a l)) ∧ (∀ d l, Same1 (pU n d l) (pU (n + 1) d l)) ∧ (∀ d l, Same1 (pP n d l) (pP (n + 1) d l)) ∧
    (∀ d s l, Same1 (pN n d s l) (pN (n + 1) d s l)) ∧ (∀ d l, Same1 (pA n d l) (pA (n + 1) d l)) ∧ (∀ d acc l, Same1 (pAL n d acc l) (pAL (n + 1) d acc l)) := by
  induction n with
  | zero => exact ⟨fun _ _ _ => by rw [pE]; exact same1_out _, fun _ _ _ _ => by rw [pL]; exact same1_out _, fun _ _ => by rw [pU]; exact same1_out _, fun _ _ => by rw [pP]; exact same1_out _, fun _ _ _ => by rw [pN]; exact same1_out _, fun _ _ => by rw [pA]; exact same1_out _, fun _ _ _ => by rw [pAL]; exact same1_out _⟩
  | succ n ih =>
    obtain ⟨iE, iL, iU, iP, iN, iA, iAL⟩ := ih
    refine ⟨fun lev d l => ?_, fun lev d a l => ?_, fun d l => ?_, fun d l => ?_, fun d s l => ?_, fun d l => ?_, fun d acc l => ?_⟩
    · rw [pE, pE]
      split
      · exact iU d l
      · exact same1_bind (iE _ _ _) fun a r => iL _ _ _ _
    · rw [pL, pL]
      split
      · exact same1_rfl _
      · exact same1_bind (iE _ _ _) fun a r => iL _ _ _ _
    · rw [pU, pU]
      split
      · exact same1_rfl _
      · split
        · exact iP d l
        · split
          · exact same1_bind (same1_rfl _) fun _ r => same1_bind (iE _ _ _) fun e r => same1_rfl _
          · exact same1_bind (iU _ _) fun e r => same1_rfl _
    · rw [pP, pP]
      split
      · exact same1_bind (iE _ _ _) fun e r => same1_rfl _
      · split
        · exact same1_rfl _
        · split
          · exact same1_rfl _
          · split
            · exact same1_rfl _
            · split
              · exact same1_rfl _
              · exact same1_bind (same1_rfl _) fun s r => iN _ _ _
    · rw [pN, pN]
      split
      · exact same1_bind (iA _ _) fun es r => same1_rfl _
      · split
        · exact same1_bind (iE _ _ _) fun e r => same1_rfl _
        · exact same1_rfl _
    · rw [pA, pA]
      split
      · exact same1_rfl _
      · exact iAL _ _ _
    · rw [pAL, pAL]
      refine same1_bind (iE _ _ _) fun e r => ?_
      split
      · exact iAL _ _ _
      · exact same1_rfl _
theorem mono_pE (n : Nat) (lev d : Int) (l : List Tok) : Same1 (pE n lev d l) (pE (n + 1) lev d l) := (mono_expr n).1 lev d l
theorem mono_pA (n : Nat) (d : Int) (l : List Tok) : Same1 (pA n d l) (pA (n + 1) d l) := (mono_expr n).2.2.2.2.2.1 d l
theorem mono_pI (n : Nat) (l : List Tok) : Same1 (pI n l) (pI (n + 1) l) := by
  unfold pI
  exact same1_bind (same1_rfl _) fun _ r => same1_bind (mono_pE _ _ _ _) fun e r => same1_rfl _
theorem mono_semi {α : Type} {x y : PR α} (h : Same1 x y) : Same1 (pSemi x) (pSemi y) := by
  unfold pSemi
  exact same1_bind h fun a r => same1_rfl _
theorem mono_pNm (n : Nat) (l : List Tok) : Same1 (pNm n l) (pNm (n + 1) l) := by
  unfold pNm
  refine same1_bind (same1_rfl _) fun s r => ?_
  split
  · exact same1_bind (mono_pA _ _ _) fun es r => same1_rfl _
  · split
    · exact same1_bind (mono_pE _ _ _ _) fun e r => same1_bind (same1_rfl _) fun _ r => same1_bind (same1_rfl _) fun _ r => same1_bind (mono_pE _ _ _ _) fun f r => same1_rfl _
    · exact same1_bind (same1_rfl _) fun _ r => same1_bind (mono_pE _ _ _ _) fun e r => same1_rfl _
theorem mono_stmt (n : Nat) : (∀ d l, Same1 (pS n d l) (pS (n + 1) d l)) ∧ (∀ d e t l, Same1 (pEl n d e t l) (pEl (n + 1) d e t l)) ∧ (∀ d l, Same1 (pB n d l) (pB (n + 1) d l)) ∧ (∀ d acc l, Same1 (pBL n d acc l) (pBL (n + 1) d acc l)) := by
  induction n with
  | zero => exact ⟨fun _ _ => by rw [pS]; exact same1_out _, fun _ _ _ _ => by rw [pEl]; exact same1_out _, fun _ _ => by rw [pB]; exact same1_out _, fun _ _ _ => by rw [pBL]; exact same1_out _⟩
  | succ n ih =>
    obtain ⟨iS, iEl, iB, iBL⟩ := ih
    refine ⟨fun d l => ?_, fun d e t l => ?_, fun d l => ?_, fun d acc l => ?_⟩
    · rw [pS, pS]
      split
      · exact same1_rfl _
      · split
        · exact mono_semi (same1_bind (same1_rfl _) fun t r => same1_bind (same1_rfl _) fun s r => same1_bind (same1_rfl _) fun _ r => same1_bind (mono_pE _ _ _ _) fun e r => same1_rfl _)
        · split
          · exact same1_bind (mono_pI _ _) fun e r => same1_bind (iB _ _) fun t r => iEl _ _ _ _
          · split
            · exact same1_bind (mono_pI _ _) fun e r => same1_bind (iB _ _) fun t r => same1_rfl _
            · split
              · exact same1_rfl _
              · split
                · exact same1_rfl _
                · split
                  · exact mono_semi (same1_bind (mono_pE _ _ _ _) fun e r => same1_rfl _)
                  · split
                    · exact mono_semi (same1_bind (mono_pI _ _) fun e r => same1_rfl _)
                    · exact mono_semi (mono_pNm _ _)
    · rw [pEl, pEl]
      split
      · exact same1_bind (iB _ _) fun u r => same1_rfl _
      · exact same1_rfl _
    · rw [pB, pB]
      exact same1_bind (same1_rfl _) fun _ r => iBL _ _ _
    · rw [pBL, pBL]
      split
      · exact same1_rfl _
      · exact same1_bind (iS _ _) fun s r => iBL _ _ _
theorem mono_pPL : ∀ (n : Nat) (acc : List Pa) (l : List Tok), Same1 (pPL n acc l) (pPL (n + 1) acc l)
  | 0, _, _ => by rw [pPL]; exact same1_out _
  | n + 1, acc, l => by
    rw [pPL, pPL]
    refine same1_bind (same1_rfl _) fun t r => same1_bind (same1_rfl _) fun s r => ?_
    split
    · exact mono_pPL n _ _
    · exact same1_rfl _
theorem mono_pFn (n : Nat) (t : Int) (s : ByteArray) (l : List Tok) : Same1 (pFn n t s l) (pFn (n + 1) t s l) := by
  unfold pFn pPs
  refine same1_bind (same1_bind (same1_rfl _) fun _ r => ?_) fun ps r => same1_bind ((mono_stmt n).2.2.1 _ _) fun b r => same1_rfl _
  split
  · exact same1_rfl _
  · exact mono_pPL n _ _
theorem mono_pPr : ∀ (n : Nat) (p : Pr) (l : List Tok), Same1 (pPr n p l) (pPr (n + 1) p l)
  | 0, _, _ => by rw [pPr]; exact same1_out _
  | n + 1, p, l => by
    rw [pPr, pPr]
    split
    · exact same1_rfl _
    · refine same1_bind (same1_rfl _) fun t r => same1_bind (same1_rfl _) fun s r => ?_
      split
      · exact same1_bind (same1_rfl _) fun a r => mono_pPr n _ _
      · exact same1_bind (mono_pFn _ _ _ _) fun f r => mono_pPr n _ _
theorem pPr_more {n : Nat} {p : Pr} {l : List Tok} (h : Ends (pPr n p l)) : ∀ k, pPr (n + k) p l = pPr n p l
  | 0 => rfl
  | k + 1 => by
    have ih := pPr_more h k
    rw [show n + (k + 1) = n + k + 1 by omega, mono_pPr (n + k) p l (by rw [ih]; exact h), ih]
end Go.Proofs.YtakijoblbmfadaaGreatDoor
