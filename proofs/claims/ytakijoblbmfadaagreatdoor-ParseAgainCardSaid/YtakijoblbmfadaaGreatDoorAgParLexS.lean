import Derived.Test.YtakijoblbmfadaaGreatDoorAgParLexE
set_option linter.unusedSimpArgs false
set_option linter.unusedVariables false
/- Statements', functions' and programs' texts are told into their tokens: no Go, no program. -/
namespace Go.Proofs.YtakijoblbmfadaaGreatDoor
open Go
/-- Whole lines that are told into these tokens, whatever stands behind them. -/
def Ln (t : List UInt8) (ks : List Tok) : Prop := ∀ r ln, ∃ ln' ts, scan (t ++ r) ln = (ts ++ (scan r ln').1, (scan r ln').2) ∧ fl ts = fl ks
theorem fl_app (a b : List Tok) : fl (a ++ b) = fl a ++ fl b := List.map_append
theorem fl_at (ln : Nat) (l : List Tok) : fl (l.map (atL ln)) = fl l := by
  unfold fl
  rw [List.map_map]
  rfl
theorem ln_nil : Ln [] [] := fun _ ln => ⟨ln, [], rfl, rfl⟩
theorem ln_app {t u : List UInt8} {ks js : List Tok} (h : Ln t ks) (k : Ln u js) : Ln (t ++ u) (ks ++ js) := fun r ln => by
  obtain ⟨l1, t1, e1, f1⟩ := h (u ++ r) ln
  obtain ⟨l2, t2, e2, f2⟩ := k r l1
  exact ⟨l2, t1 ++ t2, by rw [List.append_assoc, e1, e2, List.append_assoc], by rw [fl_app, fl_app, f1, f2]⟩
theorem scan_t9 (r : List UInt8) (ln : Nat) : scan (9 :: r) ln = scan r ln := by
  rw [scan, if_neg (by decide), if_pos (by decide)]
theorem scan_n10 (r : List UInt8) (ln : Nat) : scan (10 :: r) ln = scan r (ln + 1) := by
  rw [scan, if_pos (by decide)]
theorem ln_tab : ∀ (n : Nat) {t : List UInt8} {ks : List Tok}, Ln t ks → Ln (tabT n ++ t) ks
  | 0, _, _, h => h
  | n + 1, t, ks, h => fun r ln => by
    obtain ⟨l1, t1, e1, f1⟩ := ln_tab n h r ln
    refine ⟨l1, t1, ?_, f1⟩
    show scan (9 :: ((tabT n ++ t) ++ r)) ln = _
    rw [scan_t9, e1]
theorem ln_line {t u : List UInt8} {ks js : List Tok} (h : Lx t ks) (k : Ln u js) : Ln (t ++ 10 :: u) (ks ++ js) := fun r ln => by
  obtain ⟨l1, t1, e1, f1⟩ := k r (ln + 1)
  have h3 := h (10 :: (u ++ r)) ln (aw_cons (by decide)) (xs_cons (by decide))
  exact ⟨l1, ks.map (atL ln) ++ t1, by rw [List.append_assoc, List.cons_append, h3, scan_n10, e1, List.append_assoc], by rw [fl_app, fl_app, fl_at, f1]⟩
theorem ln_last {t : List UInt8} {ks : List Tok} (h : Lx t ks) : Ln (t ++ [10]) ks := by
  have := ln_line h ln_nil
  rw [List.append_nil] at this
  exact this
theorem lx_sg {s : List UInt8} (h : s ∈ allSigns) : Lx s [sg s] := fun _ ln _ h2 => lex_sign h h2 ln
theorem lx_app {t u : List UInt8} {ks js : List Tok} (h : Lx t ks) (k : Lx u js) (ha : ∀ r, AW (u ++ r)) (hx : ∀ r, XS (u ++ r)) : Lx (t ++ u) (ks ++ js) := fun r ln h1 h2 => by
  rw [List.append_assoc, h _ ln (ha r) (hx r), k r ln h1 h2, List.map_append, List.append_assoc]
theorem se_in : ([59] : List UInt8) ∈ allSigns := by decide
theorem eq_in : ([61] : List UInt8) ∈ allSigns := by decide
theorem ob_in : ([123] : List UInt8) ∈ allSigns := by decide
theorem cb_in : ([125] : List UInt8) ∈ allSigns := by decide
theorem lx_semi {t : List UInt8} {ks : List Tok} (h : Lx t ks) : Lx (t ++ [59]) (ks ++ [sg [59]]) := lx_last se_in h (aw_cons (by decide)) (xs_cons (by decide))
theorem lx_set {w e : List UInt8} {x : Tok} {ks : List Tok} (hw : Lx w [x]) (h : Lx e ks) : Lx (w ++ 32 :: 61 :: 32 :: (e ++ [59])) (x :: sg [61] :: (ks ++ [sg [59]])) := lx_blank hw (lx_mid (s := [61]) eq_in (lx_semi h))
theorem lx_wd {w : List UInt8} (h : kindT w = some 2) (ha : w.all isAln = true) (hne : w ≠ []) : Lx w [sg w] := lx_aln hne ha h
theorem lx_nm {s : ByteArray} (h : nmB s = true) : Lx s.data.toList [nmK s] := by
  obtain ⟨p1, p2, p3⟩ := nmb_parts h
  exact lx_aln p1 p2 p3
theorem ty_lx {t : Int} (h : tyB t = true) : Lx (tyT t) [sg (tyT t)] ∧ Hx (tyT t) := by
  rcases tyT_sg h with ⟨_, e⟩ | ⟨_, e⟩ <;> rw [e]
  · exact ⟨lx_wd (by decide +kernel) (by decide) (by decide), hx_one (by decide)⟩
  · exact ⟨lx_wd (by decide +kernel) (by decide) (by decide), hx_one (by decide)⟩
/-- ') {' behind an expression. -/
theorem lx_open {t : List UInt8} {ks : List Tok} (hx : Hx t) (h : Lx t ks) : Lx (40 :: (t ++ [41, 32, 123])) (sg [40] :: (ks ++ [sg [41], sg [123]])) :=
  lx_sign (s := [40]) op_in (hx.app _) (lx_app h (lx_mid (s := [41]) (u := [123]) cl_in (lx_sg ob_in)) (fun _ => aw_cons (by decide)) (fun _ => xs_cons (by decide)))
theorem argT_one (e : Ex) (l : List Ex) : argT (e :: l) 0 = exT e := argT_at (by rfl)
theorem argT_two (a e : Ex) (l : List Ex) : argT (a :: e :: l) 1 = exT e := argT_at (by rfl)
theorem ln_cl (t : Nat) : Ln (tabT t ++ [125, 10]) [sg [125]] := ln_tab t (ln_last (t := [125]) (lx_sg cb_in))
mutual
theorem st_ln : ∀ (s : St) (m t : Nat), stOK s m = true → stN s = true → Ln (stT s t) (stK s)
  | .mk k ty name args thn els, m, t, h, hN => by
    rw [stOK_mk] at h
    rw [stN_mk] at hN
    simp only [Bool.and_eq_true, decide_eq_true_eq] at h hN
    obtain ⟨⟨⟨⟨_, hf⟩, ha⟩, ht⟩, he⟩ := h
    obtain ⟨⟨hNa, hNt⟩, hNe⟩ := hN
    have iT := sts_ln thn (m - 1) (t + 1) ht hNt
    have iE := sts_ln els (m - 1) (t + 1) he hNe
    have hx := exs_lx args 100 ha hNa
    rw [stT_mk, stK]
    refine ln_tab t ?_
    obtain rfl | rfl | rfl | rfl | rfl | rfl | rfl | rfl | rfl | rfl := formKS_kind hf
    · obtain ⟨hty, hn, h1, _, _⟩ := formS_1 hf
      obtain ⟨e, rfl⟩ := len1 h1
      have hk : headT 1 ty name [e] = tyT ty ++ 32 :: (name.data.toList ++ 32 :: 61 :: 32 :: (exT e ++ [59])) := by rw [← argT_one e []]; rfl
      rw [hk, argK_one]
      exact ln_last (lx_blank (ty_lx hty).1 (lx_set (lx_nm hn) (hx e (by simp)).1))
    · obtain ⟨_, hn, h1, _, _⟩ := formS_2 hf
      obtain ⟨e, rfl⟩ := len1 h1
      have hk : headT 2 ty name [e] = name.data.toList ++ 32 :: 61 :: 32 :: (exT e ++ [59]) := by rw [← argT_one e []]; rfl
      rw [hk, argK_one]
      exact ln_last (lx_set (lx_nm hn) (hx e (by simp)).1)
    · obtain ⟨_, hn, h1, _, _⟩ := formS_3 hf
      obtain ⟨a, b, rfl⟩ := len2 h1
      have hk : headT 3 ty name [a, b] = name.data.toList ++ 91 :: (exT a ++ 93 :: 32 :: 61 :: 32 :: (exT b ++ [59])) := by rw [← argT_one a [b], ← argT_two a b []]; rfl
      rw [hk, argK_one, argK_two]
      obtain ⟨p1, p2, p3⟩ := nmb_parts hn
      have h1 := lx_mid (s := [93]) sc_in (lx_mid (s := [61]) eq_in (lx_semi (hx b (by simp)).1))
      have h2 := lx_app (hx a (by simp)).1 h1 (fun _ => aw_cons (by decide)) (fun _ => xs_cons (by decide))
      exact ln_last (lx_word p1 p2 p3 (fun _ => aw_cons (by decide)) (lx_sign (s := [91]) sq_in ((hx a (by simp)).2.app _) h2))
    · obtain ⟨_, _, h1⟩ := formS_4 hf
      obtain ⟨e, rfl⟩ := len1 h1
      have hk : headT 4 ty name [e] = sIf ++ 32 :: (40 :: (exT e ++ [41, 32, 123])) := by rw [← argT_one e []]; rfl
      rw [hk, argK_one, if_pos (by rfl)]
      have h2 := lx_blank (lx_wd (w := sIf) (by decide +kernel) (by decide) (by decide)) (lx_open (hx e (by simp)).2 (hx e (by simp)).1)
      have h3 : Ln ((if els.length = 0 then [] else tabT t ++ ([125, 32, 101, 108, 115, 101, 32, 123] ++ 10 :: stsT els (t + 1))) ++ (tabT t ++ [125, 10])) (sg [125] :: elK (stsK els) (decide (els.length = 0))) := by
        by_cases h0 : els.length = 0
        · rw [if_pos h0, decide_eq_true h0]
          exact ln_cl t
        · rw [if_neg h0, decide_eq_false h0]
          have h4 : Lx ([125] ++ 32 :: (sElse ++ 32 :: [123])) (sg [125] :: ([sg sElse] ++ [sg [123]])) := lx_mid (s := [125]) cb_in (lx_blank (lx_wd (w := sElse) (by decide +kernel) (by decide) (by decide)) (lx_sg ob_in))
          exact ln_app (ln_tab t (ln_line h4 iE)) (ln_cl t)
      have h5 := ln_line h2 (ln_app iT h3)
      have e5 : ([sg sIf] ++ sg [40] :: (exK e ++ [sg [41], sg [123]])) ++ (stsK thn ++ sg [125] :: elK (stsK els) (decide (els.length = 0))) = sg sIf :: sg [40] :: (exK e ++ sg [41] :: sg [123] :: (stsK thn ++ sg [125] :: elK (stsK els) (decide (els.length = 0)))) := by simp
      rw [e5] at h5
      exact h5
    · obtain ⟨_, _, h1, _⟩ := formS_5 hf
      obtain ⟨e, rfl⟩ := len1 h1
      have hk : headT 5 ty name [e] = sWhile ++ 32 :: (40 :: (exT e ++ [41, 32, 123])) := by rw [← argT_one e []]; rfl
      rw [hk, argK_one, if_neg (by decide), if_pos (by rfl)]
      have h2 := lx_blank (lx_wd (w := sWhile) (by decide +kernel) (by decide) (by decide)) (lx_open (hx e (by simp)).2 (hx e (by simp)).1)
      have h5 := ln_line h2 (ln_app iT (ln_cl t))
      have e5 : ([sg sWhile] ++ sg [40] :: (exK e ++ [sg [41], sg [123]])) ++ (stsK thn ++ [sg [125]]) = sg sWhile :: sg [40] :: (exK e ++ sg [41] :: sg [123] :: (stsK thn ++ [sg [125]])) := by simp
      rw [e5] at h5
      exact h5
    · exact ln_last (t := sBreak ++ [59]) (lx_semi (lx_wd (w := sBreak) (by decide +kernel) (by decide) (by decide)))
    · exact ln_last (t := sCont ++ [59]) (lx_semi (lx_wd (w := sCont) (by decide +kernel) (by decide) (by decide)))
    · obtain ⟨_, _, h1, _, _⟩ := formS_89 (.inl rfl) hf
      obtain ⟨e, rfl⟩ := len1 h1
      have hk : headT 8 ty name [e] = sRet ++ 32 :: (exT e ++ [59]) := by rw [← argT_one e []]; rfl
      rw [hk, argK_one]
      exact ln_last (lx_blank (lx_wd (w := sRet) (by decide +kernel) (by decide) (by decide)) (lx_semi (hx e (by simp)).1))
    · obtain ⟨_, _, h1, _, _⟩ := formS_89 (.inr rfl) hf
      obtain ⟨e, rfl⟩ := len1 h1
      have hk : headT 9 ty name [e] = sPrint ++ 40 :: (exT e ++ [41, 59]) := by rw [← argT_one e []]; rfl
      rw [hk, argK_one]
      have h2 := lx_app (hx e (by simp)).1 (lx_sign (s := [41]) (t := [59]) cl_in (hx_one (by decide)) (lx_sg se_in)) (fun _ => aw_cons (by decide)) (fun _ => xs_cons (by decide))
      exact ln_last (lx_word (w := sPrint) (k := 2) (by decide) (by decide) (by decide +kernel) (fun _ => aw_cons (by decide)) (lx_sign (s := [40]) op_in ((hx e (by simp)).2.app _) h2))
    · obtain ⟨_, _, h1, _, _, _⟩ := formS_10 hf
      obtain ⟨e, rfl⟩ := len1 h1
      have hk : headT 10 ty name [e] = exT e ++ [59] := by rw [← argT_one e []]; rfl
      rw [hk, argK_one]
      exact ln_last (lx_semi (hx e (by simp)).1)
theorem sts_ln : ∀ (l : List St) (m t : Nat), stsOK l m = true → stsN l = true → Ln (stsT l t) (stsK l)
  | [], _, t, _, _ => by
    rw [stsT_nil, stsK_nil]
    exact ln_nil
  | s :: r, m, t, h, hN => by
    rw [stsOK_cons, Bool.and_eq_true] at h
    rw [stsN_cons, Bool.and_eq_true] at hN
    rw [stsT_cons, stsK_cons]
    exact ln_app (st_ln s m t h.1 hN.1) (sts_ln r m t h.2 hN.2)
end
/-! ### programs -/
theorem joins_lx {α : Type} (f : α → List UInt8) (g : α → List Tok) : ∀ (l : List α), (∀ x ∈ l, Lx (f x) (g x) ∧ Hx (f x)) → l ≠ [] → Lx (joinC (l.map f)) (joinK (l.map g)) ∧ Hx (joinC (l.map f))
  | [], _, h => absurd rfl h
  | [e], h, _ => h e (by simp)
  | e :: a :: l, h, _ => by
    have ih := joins_lx f g (a :: l) (fun x hx => h x (List.mem_cons_of_mem _ hx)) (by simp)
    have he := h e (by simp)
    exact ⟨lx_app he.1 (lx_mid (s := [44]) co_in ih.1) (fun _ => aw_cons (by decide)) (fun _ => xs_cons (by decide)), he.2.app _⟩
theorem pa_lx {x : Pa} (h : paOK x = true) : Lx (paT x) (paK x) ∧ Hx (paT x) := by
  unfold paOK at h
  rw [Bool.and_eq_true] at h
  exact ⟨lx_blank (ty_lx h.2).1 (lx_nm h.1), (ty_lx h.2).2.app _⟩
theorem ar_ln {a : Ar} (h : arOK a = true) : Ln (arT a) (arK a) := by
  unfold arOK at h
  simp only [Bool.and_eq_true, decide_eq_true_eq] at h
  obtain ⟨p1, p2, p3⟩ := nmb_parts h.1
  obtain ⟨q1, q2, q3⟩ := num_parts a.size (by omega) (by omega)
  have h1 := lx_app (lx_aln q1 q2 q3) (lx_sign (s := [93]) (t := [59]) sc_in (hx_one (by decide)) (lx_sg se_in)) (fun _ => aw_cons (by decide)) (fun _ => xs_cons (by decide))
  have h2 := lx_word p1 p2 p3 (fun _ => aw_cons (by decide)) (lx_sign (s := [91]) sq_in ((hx_aln q1 q2).app _) h1)
  have h3 := ln_last (lx_blank (lx_wd (w := sInt) (by decide +kernel) (by decide) (by decide)) h2)
  have e3 : (sInt ++ 32 :: (a.name.data.toList ++ ([91] ++ (Lib.itoa a.size ++ ([93] ++ [59]))))) ++ [10] = arT a := by
    unfold arT sInt
    simp
  rw [e3] at h3
  exact h3
theorem fu_ln {f : Fu} (h : fuOK f = true) (hN : stsN f.body = true) : Ln (fuT f) (fuK f) := by
  unfold fuOK at h
  simp only [Bool.and_eq_true, decide_eq_true_eq] at h
  obtain ⟨⟨⟨⟨hn, hty⟩, _⟩, hp⟩, hb⟩ := h
  obtain ⟨p1, p2, p3⟩ := nmb_parts hn
  have h1 : Lx (40 :: (joinC (f.params.map paT) ++ [41, 32, 123])) (sg [40] :: (joinK (f.params.map paK) ++ [sg [41], sg [123]])) := by
    cases hl : f.params with
    | nil => exact lx_sign (s := [40]) op_in (hx_one (by decide)) (lx_mid (s := [41]) (u := [123]) cl_in (lx_sg ob_in))
    | cons x l =>
      rw [hl] at hp
      have := joins_lx paT paK (x :: l) (fun y hy => pa_lx (List.all_eq_true.1 hp y hy)) (by simp)
      exact lx_open this.2 this.1
  have h2 := lx_blank (ty_lx hty).1 (lx_word p1 p2 p3 (fun _ => aw_cons (by decide)) h1)
  have h3 := ln_line h2 (ln_app (sts_ln f.body 100 1 hb hN) (ln_last (t := [125]) (lx_sg cb_in)))
  have e3 : (tyT f.type ++ 32 :: (f.name.data.toList ++ 40 :: (joinC (f.params.map paT) ++ [41, 32, 123]))) ++ 10 :: (stsT f.body 1 ++ ([125] ++ [10])) = fuT f := by
    unfold fuT
    simp
  have e4 : ([sg (tyT f.type)] ++ (⟨1, f.name.data.toList, 0⟩ :: sg [40] :: (joinK (f.params.map paK) ++ [sg [41], sg [123]]))) ++ (stsK f.body ++ [sg [125]]) = fuK f := by
    unfold fuK nmK
    simp
  rw [e3, e4] at h3
  exact h3
theorem ln_flat {α : Type} (f : α → List UInt8) (g : α → List Tok) : ∀ (l : List α), (∀ x ∈ l, Ln (f x) (g x)) → Ln (l.map f).flatten (l.map g).flatten
  | [], _ => ln_nil
  | x :: l, h => ln_app (h x (by simp)) (ln_flat f g l fun y hy => h y (List.mem_cons_of_mem _ hy))
theorem pr_ln {p : Pr} (h : prOK p = true) (hN : prN p = true) : Ln (prT p) (prK p) := by
  unfold prOK at h
  rw [Bool.and_eq_true] at h
  exact ln_app (ln_flat arT arK p.arrays fun a ha => ar_ln (List.all_eq_true.1 h.1 a ha)) (ln_flat fuT fuK p.funcs fun f hf => fu_ln (List.all_eq_true.1 h.2 f hf) (List.all_eq_true.1 hN f hf))
/-- C2's text of a valid program is told into its tokens. -/
theorem pr_scan {p : Pr} (h : prOK p = true) (hN : prN p = true) (ln : Nat) : ∃ ts e, scan (prT p) ln = (ts ++ [e], none) ∧ e.kind = 3 ∧ fl ts = fl (prK p) := by
  obtain ⟨l1, ts, e1, f1⟩ := pr_ln h hN [] ln
  rw [List.append_nil, scan] at e1
  exact ⟨ts, ⟨3, [], l1⟩, e1, rfl, f1⟩
end Go.Proofs.YtakijoblbmfadaaGreatDoor

/- The text of a valid program is parsed to it, by the plain parser: no Go, no program. -/
namespace Go.Proofs.YtakijoblbmfadaaGreatDoor
open Go
theorem kindT_no3 {t : List UInt8} {k : Int} (h : kindT t = some k) : k ≠ 3 := by
  unfold kindT at h
  split at h
  · injection h with h
    omega
  · split at h
    · injection h with h
      omega
    · split at h
      · injection h with h
        omega
      · cases h
theorem one_no3 {l t : List UInt8} {k : Int} (h : one l = some (k, t)) : k ≠ 3 := by
  unfold one at h
  split at h
  · cases hk : kindT (l.takeWhile isAln) with
    | none => rw [hk] at h; cases h
    | some j =>
      rw [hk] at h
      injection h with h
      injection h with h _
      exact h ▸ kindT_no3 hk
  · split at h
    · injection h with h
      injection h with h _
      omega
    · cases h
/-- What a text without a fault is told into: the end stands at the end, and nowhere else. -/
theorem scan_endL : ∀ (n : Nat) (l : List UInt8) (line : Nat) (ts : List Tok), l.length ≤ n → scan l line = (ts, none) → EndL ts
  | _, [], line, ts, _, h => by
    rw [scan] at h
    injection h with h _
    exact ⟨[], ⟨3, [], line⟩, h.symm, rfl, fun t ht => by cases ht⟩
  | 0, c :: r, line, ts, h, _ => by simp at h
  | n + 1, c :: r, line, ts, hl, h => by
    simp only [List.length_cons] at hl
    rw [scan] at h
    split at h
    · exact scan_endL n r _ ts (by omega) h
    · split at h
      · exact scan_endL n r _ ts (by omega) h
      · split at h
        · have h1 := List.IsSuffix.length_le (List.dropWhile_suffix (l := r) (fun d : UInt8 => d.toNat != 10))
          exact scan_endL n _ _ ts (by omega) h
        · split at h
          · cases h
          · rename_i k t hone
            have h1 : (r.drop (t.length - 1)).length ≤ r.length := by rw [List.length_drop]; omega
            injection h with e1 e2
            obtain ⟨i, e, he, hk, hi⟩ := scan_endL n (r.drop (t.length - 1)) line (scan (r.drop (t.length - 1)) line).1 (by omega) (by rw [← e2])
            refine ⟨⟨k, t, line⟩ :: i, e, by rw [← e1, he]; rfl, hk, fun u hu => ?_⟩
            rcases List.mem_cons.1 hu with rfl | hu
            · exact one_no3 hone
            · exact hi u hu
/-- Tokens that are a valid tree's but for lines are parsed to it. -/
theorem parse_toks {p : Pr} (h : prOK p = true) (hN : prN p = true) {ts : List Tok} {e : Tok} (hE : EndL (ts ++ [e])) (he : e.kind = 3) (hf : fl ts = fl (prK p)) : ∃ r, parseT (ts ++ [e]) = .ok p r := by
  obtain ⟨N, hb⟩ := prog_back p h hN e he
  have hb : pPr (20 * (ts ++ [e]).length + 40 + N) ⟨[], []⟩ (prK p ++ [e]) = .ok p [e] := hb _ (by omega)
  have hends : Ends (parseT (ts ++ [e])) := parseT_ends hE
  have hm : pPr (20 * (ts ++ [e]).length + 40 + N) ⟨[], []⟩ (ts ++ [e]) = parseT (ts ++ [e]) := pPr_more hends N
  have e1 : fl (ts ++ [e]) = fl (prK p ++ [e]) := by rw [fl_app, fl_app, hf]
  have h2 := fl_pPr (20 * (ts ++ [e]).length + 40 + N) ⟨[], []⟩ (ts ++ [e])
  rw [e1, fl_pPr, hb, hm] at h2
  cases hp : parseT (ts ++ [e]) with
  | ok a r =>
    rw [hp] at h2
    injection h2 with h2 _
    exact ⟨r, by rw [h2]⟩
  | bad r => rw [hp] at h2; cases h2
  | deep r => rw [hp] at h2; cases h2
  | out => rw [hp] at h2; cases h2
/-- D2, of texts. -/
theorem parse_text {p : Pr} (h : prOK p = true) (hN : prN p = true) (ln : Nat) : ∃ ts r, scan (prT p) ln = (ts, none) ∧ parseT ts = .ok p r := by
  obtain ⟨ts, e, hs, he, hf⟩ := pr_scan h hN ln
  obtain ⟨r, hr⟩ := parse_toks h hN (scan_endL _ _ _ _ (Nat.le_refl _) hs) he hf
  exact ⟨ts ++ [e], r, hs, hr⟩
end Go.Proofs.YtakijoblbmfadaaGreatDoor
