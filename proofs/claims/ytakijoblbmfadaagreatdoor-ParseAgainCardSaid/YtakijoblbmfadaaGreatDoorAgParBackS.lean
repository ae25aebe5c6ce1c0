import Derived.Test.YtakijoblbmfadaaGreatDoorAgParBack
set_option linter.unusedSimpArgs false
set_option linter.unusedVariables false
/- Every valid program's tokens are parsed to it: no Go, no program. -/
namespace Go.Proofs.YtakijoblbmfadaaGreatDoor
open Go

theorem bind_ok {α β : Type} (a : α) (r : List Tok) (f : α → List Tok → PR β) : (PR.ok a r).bind f = f a r := rfl
theorem semi_ok {α : Type} (a : α) (r : List Tok) : pSemi (.ok a (sg [59] :: r)) = .ok a r := by
  unfold pSemi
  rw [bind_ok, must_sg]
  rfl
def argK (args : List Ex) (i : Nat) : List Tok := (kidK (exKs args) i).2.2
def elK (e : List Tok) (b : Bool) : List Tok := if b then [] else sg sElse :: sg [123] :: (e ++ [sg [125]])
mutual
def stK : St → List Tok
  | .mk k ty name args thn els =>
    if k = 1 then sg (tyT ty) :: nmK name :: sg [61] :: (argK args 0 ++ [sg [59]])
    else if k = 2 then nmK name :: sg [61] :: (argK args 0 ++ [sg [59]])
    else if k = 3 then nmK name :: sg [91] :: (argK args 0 ++ sg [93] :: sg [61] :: (argK args 1 ++ [sg [59]]))
    else if k = 4 then sg sIf :: sg [40] :: (argK args 0 ++ sg [41] :: sg [123] :: (stsK thn ++ sg [125] :: elK (stsK els) (decide (els.length = 0))))
    else if k = 5 then sg sWhile :: sg [40] :: (argK args 0 ++ sg [41] :: sg [123] :: (stsK thn ++ [sg [125]]))
    else if k = 6 then [sg sBreak, sg [59]]
    else if k = 7 then [sg sCont, sg [59]]
    else if k = 8 then sg sRet :: (argK args 0 ++ [sg [59]])
    else if k = 9 then sg sPrint :: sg [40] :: (argK args 0 ++ [sg [41], sg [59]])
    else argK args 0 ++ [sg [59]]
def stsK : List St → List Tok
  | [] => []
  | s :: r => stK s ++ stsK r
end
mutual
def stN : St → Bool
  | .mk _ _ _ args thn els => exsN args && stsN thn && stsN els
def stsN : List St → Bool
  | [] => true
  | s :: r => stN s && stsN r
end
theorem stN_mk (k ty : Int) (name : ByteArray) (args : List Ex) (thn els : List St) : stN (.mk k ty name args thn els) = (exsN args && stsN thn && stsN els) := by rw [stN]
theorem stsN_nil : stsN [] = true := by rw [stsN]
theorem stsN_cons (s : St) (r : List St) : stsN (s :: r) = (stN s && stsN r) := by rw [stsN]
theorem stsK_nil : stsK [] = [] := by rw [stsK]
theorem stsK_cons (s : St) (r : List St) : stsK (s :: r) = stK s ++ stsK r := by rw [stsK]
theorem argK_one (e : Ex) (r : List Ex) : argK (e :: r) 0 = exK e := by
  unfold argK
  rw [exKs_cons]
  rfl
theorem argK_two (a e : Ex) (r : List Ex) : argK (a :: e :: r) 1 = exK e := by
  unfold argK
  rw [exKs_cons, exKs_cons]
  rfl
theorem formKS_kind {k ty : Int} {name : ByteArray} {a b c : Nat} {d : Bool} (h : formS k ty name a b c d = true) : k = 1 ∨ k = 2 ∨ k = 3 ∨ k = 4 ∨ k = 5 ∨ k = 6 ∨ k = 7 ∨ k = 8 ∨ k = 9 ∨ k = 10 := by
  unfold formS at h
  by_cases h1 : k = 1
  · exact .inl h1
  by_cases h2 : k = 2
  · exact .inr (.inl h2)
  by_cases h3 : k = 3
  · exact .inr (.inr (.inl h3))
  by_cases h4 : k = 4
  · exact .inr (.inr (.inr (.inl h4)))
  by_cases h5 : k = 5
  · exact .inr (.inr (.inr (.inr (.inl h5))))
  by_cases h6 : k = 6
  · exact .inr (.inr (.inr (.inr (.inr (.inl h6)))))
  by_cases h7 : k = 7
  · exact .inr (.inr (.inr (.inr (.inr (.inr (.inl h7))))))
  by_cases h8 : k = 8
  · exact .inr (.inr (.inr (.inr (.inr (.inr (.inr (.inl h8)))))))
  by_cases h9 : k = 9
  · exact .inr (.inr (.inr (.inr (.inr (.inr (.inr (.inr (.inl h9))))))))
  by_cases h10 : k = 10
  · exact .inr (.inr (.inr (.inr (.inr (.inr (.inr (.inr (.inr h10))))))))
  rw [if_neg h1, if_neg h2, if_neg h3, if_neg h4, if_neg h5, if_neg (by omega), if_neg (by omega), if_neg h10] at h
  cases h
theorem formS_1 {ty : Int} {name : ByteArray} {a b c : Nat} {d : Bool} (h : formS 1 ty name a b c d = true) : tyB ty = true ∧ nmB name = true ∧ a = 1 ∧ b = 0 ∧ c = 0 := by
  simp only [formS, if_true, Bool.and_eq_true, decide_eq_true_eq] at h
  exact ⟨h.1.1.1.1, h.1.1.1.2, h.1.1.2, h.1.2, h.2⟩
theorem formS_2 {ty : Int} {name : ByteArray} {a b c : Nat} {d : Bool} (h : formS 2 ty name a b c d = true) : ty = 0 ∧ nmB name = true ∧ a = 1 ∧ b = 0 ∧ c = 0 := by
  simp only [formS, show ¬ (2 : Int) = 1 by decide, if_false, if_true, Bool.and_eq_true, decide_eq_true_eq] at h
  exact ⟨h.1.1.1.1, h.1.1.1.2, h.1.1.2, h.1.2, h.2⟩
theorem formS_3 {ty : Int} {name : ByteArray} {a b c : Nat} {d : Bool} (h : formS 3 ty name a b c d = true) : ty = 0 ∧ nmB name = true ∧ a = 2 ∧ b = 0 ∧ c = 0 := by
  simp only [formS, show ¬ (3 : Int) = 1 by decide, show ¬ (3 : Int) = 2 by decide, if_false, if_true, Bool.and_eq_true, decide_eq_true_eq] at h
  exact ⟨h.1.1.1.1, h.1.1.1.2, h.1.1.2, h.1.2, h.2⟩
theorem formS_4 {ty : Int} {name : ByteArray} {a b c : Nat} {d : Bool} (h : formS 4 ty name a b c d = true) : ty = 0 ∧ name = bE ∧ a = 1 := by
  simp only [formS, show ¬ (4 : Int) = 1 by decide, show ¬ (4 : Int) = 2 by decide, show ¬ (4 : Int) = 3 by decide, if_false, if_true, Bool.and_eq_true, decide_eq_true_eq] at h
  exact ⟨h.1.1, eB_eq h.1.2, h.2⟩
theorem formS_5 {ty : Int} {name : ByteArray} {a b c : Nat} {d : Bool} (h : formS 5 ty name a b c d = true) : ty = 0 ∧ name = bE ∧ a = 1 ∧ c = 0 := by
  simp only [formS, show ¬ (5 : Int) = 1 by decide, show ¬ (5 : Int) = 2 by decide, show ¬ (5 : Int) = 3 by decide, show ¬ (5 : Int) = 4 by decide, if_false, if_true, Bool.and_eq_true, decide_eq_true_eq] at h
  exact ⟨h.1.1.1, eB_eq h.1.1.2, h.1.2, h.2⟩
theorem formS_67 {k ty : Int} {name : ByteArray} {a b c : Nat} {d : Bool} (hk : k = 6 ∨ k = 7) (h : formS k ty name a b c d = true) : ty = 0 ∧ name = bE ∧ a = 0 ∧ b = 0 ∧ c = 0 := by
  unfold formS at h
  rw [if_neg (by omega), if_neg (by omega), if_neg (by omega), if_neg (by omega), if_neg (by omega), if_pos hk] at h
  simp only [Bool.and_eq_true, decide_eq_true_eq] at h
  exact ⟨h.1.1.1.1, eB_eq h.1.1.1.2, h.1.1.2, h.1.2, h.2⟩
theorem formS_89 {k ty : Int} {name : ByteArray} {a b c : Nat} {d : Bool} (hk : k = 8 ∨ k = 9) (h : formS k ty name a b c d = true) : ty = 0 ∧ name = bE ∧ a = 1 ∧ b = 0 ∧ c = 0 := by
  unfold formS at h
  rw [if_neg (by omega), if_neg (by omega), if_neg (by omega), if_neg (by omega), if_neg (by omega), if_neg (by omega), if_pos hk] at h
  simp only [Bool.and_eq_true, decide_eq_true_eq] at h
  exact ⟨h.1.1.1.1, eB_eq h.1.1.1.2, h.1.1.2, h.1.2, h.2⟩
theorem formS_10 {ty : Int} {name : ByteArray} {a b c : Nat} {d : Bool} (h : formS 10 ty name a b c d = true) : ty = 0 ∧ name = bE ∧ a = 1 ∧ b = 0 ∧ c = 0 ∧ d = true := by
  unfold formS at h
  rw [if_neg (by omega), if_neg (by omega), if_neg (by omega), if_neg (by omega), if_neg (by omega), if_neg (by omega), if_neg (by omega), if_pos (by rfl)] at h
  simp only [Bool.and_eq_true, decide_eq_true_eq] at h
  exact ⟨h.1.1.1.1.1, eB_eq h.1.1.1.1.2, h.1.1.1.2, h.1.1.2, h.1.2, h.2⟩
theorem len0 {α : Type} {l : List α} (h : l.length = 0) : l = [] := List.eq_nil_of_length_eq_zero h
theorem len1 {α : Type} {l : List α} (h : l.length = 1) : ∃ a, l = [a] := by
  match l, h with
  | [a], _ => exact ⟨a, rfl⟩
theorem len2 {α : Type} {l : List α} (h : l.length = 2) : ∃ a b, l = [a, b] := by
  match l, h with
  | [a, b], _ => exact ⟨a, b, rfl⟩
theorem tyT_sg {t : Int} (h : tyB t = true) : (t = 1 ∧ tyT t = sInt) ∨ (t = 2 ∧ tyT t = sBool) := by
  have h' : t = 1 ∨ t = 2 := by simpa [tyB] using h
  rcases h' with rfl | rfl
  · exact .inl ⟨rfl, by decide⟩
  · exact .inr ⟨rfl, by decide⟩
theorem pTy_back {t : Int} (h : tyB t = true) (r : List Tok) : pTy (sg (tyT t) :: r) = .ok t r := by
  unfold pTy
  rcases tyT_sg h with ⟨rfl, e⟩ | ⟨rfl, e⟩
  · rw [e, isS_sg, if_pos (by decide)]
    rfl
  · rw [e, isS_sg, if_neg (by decide), must_sg]
    rfl
/-- What a statement's tokens do not begin with. -/
def SHd (l : List Tok) : Prop := ∃ t r, l = t :: r ∧ isS [125] [t] = false ∧ isS sElse [t] = false
theorem shd_sg {s : List UInt8} {r : List Tok} (h : (s == [125]) = false) (h2 : (s == sElse) = false) : SHd (sg s :: r) := ⟨_, _, rfl, by rw [isS_sg, h], by rw [isS_sg, h2]⟩
theorem shd_nm {s : ByteArray} {r : List Tok} : SHd (nmK s :: r) := ⟨_, _, rfl, isS_not (by show (1 : Int) ≠ 2; decide), isS_not (by show (1 : Int) ≠ 2; decide)⟩
theorem shd_ty {t : Int} (h : tyB t = true) {r : List Tok} : SHd (sg (tyT t) :: r) := by
  rcases tyT_sg h with ⟨_, e⟩ | ⟨_, e⟩ <;> rw [e] <;> exact shd_sg (by decide) (by decide)
theorem call_form {args : List Ex} {m : Nat} (h1 : args.length = 1) (hc : callB args = true) (hm : exsOK args m = true) : ∃ nm es, args = [.mk 7 0 0 nm es] ∧ exsOK es (m - 1) = true := by
  obtain ⟨e, rfl⟩ := len1 h1
  obtain ⟨k, op, n, nm, es⟩ := e
  obtain rfl : k = 7 := of_decide_eq_true hc
  rw [exsOK_cons, exOK_mk] at hm
  simp only [Bool.and_eq_true, decide_eq_true_eq] at hm
  obtain ⟨_, rfl, rfl, _⟩ := formE_call hm.1.1.2
  exact ⟨nm, es, rfl, hm.1.2⟩
theorem call_K (nm : ByteArray) (es : List Ex) : exK (.mk 7 0 0 nm es) = nmK nm :: sg [40] :: (joinK (es.map exK) ++ [sg [41]]) := by
  rw [exK_mk, exKs_map]
  show nmK nm :: sg [40] :: (joinK ((es.map fun e => (e.kind, e.op, exK e)).map (·.2.2)) ++ [sg [41]]) = _
  rw [List.map_map]
  rfl
theorem stK_hd (s : St) (m : Nat) (h : stOK s m = true) : SHd (stK s) := by
  obtain ⟨k, ty, name, args, thn, els⟩ := s
  rw [stOK_mk] at h
  simp only [Bool.and_eq_true, decide_eq_true_eq] at h
  obtain ⟨⟨⟨⟨hm, hf⟩, ha⟩, ht⟩, he⟩ := h
  rw [stK]
  obtain rfl | rfl | rfl | rfl | rfl | rfl | rfl | rfl | rfl | rfl := formKS_kind hf
  · exact shd_ty (formS_1 hf).1
  · exact shd_nm
  · exact shd_nm
  · exact shd_sg (by decide) (by decide)
  · exact shd_sg (by decide) (by decide)
  · exact shd_sg (by decide) (by decide)
  · exact shd_sg (by decide) (by decide)
  · exact shd_sg (by decide) (by decide)
  · exact shd_sg (by decide) (by decide)
  · obtain ⟨rfl, rfl, h1, _, _, hc⟩ := formS_10 hf
    obtain ⟨nm, es, rfl, _⟩ := call_form h1 hc ha
    show SHd (argK _ 0 ++ _)
    rw [argK_one, call_K]
    exact shd_nm
theorem top_back {e : Ex} (hm : exOK e 100 = true) (hN : exN e = true) {rest : List Tok} (hl : Low 1 rest) : Ev (fun n => pE n 1 1 (exK e ++ rest)) (.ok e rest) := pex_top (pex_all e) hm hN (by decide) (by decide) hl
theorem semi_back {α : Type} {f : Nat → PR α} {a : α} {r : List Tok} (h : Ev f (.ok a (sg [59] :: r))) : Ev (fun n => pSemi (f n)) (.ok a r) := by
  obtain ⟨N, h⟩ := h
  refine ⟨N, fun n hn => ?_⟩
  show pSemi (f n) = _
  rw [h n hn, semi_ok]
theorem pI_back {e : Ex} (hm : exOK e 100 = true) (hN : exN e = true) (rest : List Tok) : Ev (fun n => pI n (sg [40] :: (exK e ++ sg [41] :: rest))) (.ok e rest) := by
  refine Ev.congr (g := fun n => (pE n 1 1 (exK e ++ sg [41] :: rest)).bind fun e r => (must [41] r).bind fun _ r => .ok e r) ?_ fun n => ?_
  · refine Ev.bind (top_back hm hN (low_cl 1 rest)) (Ev.now fun n => ?_)
    rw [must_sg]
    rfl
  · unfold pI
    rw [must_sg]
    rfl
theorem ex_one {e : Ex} {m : Nat} (h : exsOK [e] m = true) : exOK e m = true := by rw [exsOK_cons, Bool.and_eq_true] at h; exact h.1
theorem exn_one {e : Ex} (h : exsN [e] = true) : exN e = true := by rw [exsN_cons, Bool.and_eq_true] at h; exact h.1
/-- The head of a statement that is none of the words ahead. -/
theorem pS_word (n : Nat) {d : Int} (hd : d ≤ 100) (t : List UInt8) (r : List Tok) (h1 : (t == sInt) = false) (h2 : (t == sBool) = false) : pS (n + 1) d (sg t :: r) =
    (if t = sIf then (pI n r).bind fun e r => (pB n (d + 1) r).bind fun t r => pEl n d e t r
    else if t = sWhile then (pI n r).bind fun e r => (pB n (d + 1) r).bind fun t r => .ok (.mk 5 0 bE [e] t []) r
    else if t = sBreak then pSemi (.ok (.mk 6 0 bE [] [] []) r)
    else if t = sCont then pSemi (.ok (.mk 7 0 bE [] [] []) r)
    else if t = sRet then pSemi ((pE n 1 1 r).bind fun e r => .ok (.mk 8 0 bE [e] [] []) r)
    else if t = sPrint then pSemi ((pI n r).bind fun e r => .ok (.mk 9 0 bE [e] [] []) r)
    else pSemi (pNm n (sg t :: r))) := by
  rw [pS, if_neg (by omega), isS_sg, isS_sg, h1, h2, if_neg (by simp)]
  simp only [isS_sg, beq_iff_eq, List.tail_cons]
theorem pS_name (n : Nat) {d : Int} (hd : d ≤ 100) (s : ByteArray) (r : List Tok) : pS (n + 1) d (nmK s :: r) = pSemi (pNm n (nmK s :: r)) := by
  have hk : (nmK s).kind ≠ 2 := by show (1 : Int) ≠ 2; decide
  rw [pS, if_neg (by omega)]
  simp only [isS_not hk, if_neg Bool.false_ne_true, or_self]
theorem pNm_set (n : Nat) (s : ByteArray) (t : List UInt8) (r : List Tok) : pNm n (nmK s :: sg t :: r) =
    (if t = [40] then (pA n 2 r).bind fun es r => .ok (.mk 10 0 bE [.mk 7 0 0 s es] [] []) r
    else if t = [91] then (pE n 1 1 r).bind fun e r => (must [93] r).bind fun _ r => (must [61] r).bind fun _ r => (pE n 1 1 r).bind fun f r => .ok (.mk 3 0 s [e, f] [] []) r
    else (must [61] (sg t :: r)).bind fun _ r => (pE n 1 1 r).bind fun e r => .ok (.mk 2 0 s [e] [] []) r) := by
  unfold pNm
  rw [want_nm]
  show (if isS [40] (sg t :: r) = true then _ else _) = _
  simp only [isS_sg, beq_iff_eq, List.tail_cons]
mutual
theorem st_back : ∀ (s : St) (m : Nat), stOK s m = true → stN s = true → ∀ (d : Int) (rest : List Tok), 1 ≤ d → d + m ≤ 101 → isS sElse rest = false → Ev (fun n => pS n d (stK s ++ rest)) (.ok s rest)
  | .mk k ty name args thn els, m, h, hN, d, rest, hd, hdm, hel => by
    rw [stOK_mk] at h
    rw [stN_mk] at hN
    simp only [Bool.and_eq_true, decide_eq_true_eq] at h hN
    obtain ⟨⟨⟨⟨hm, hf⟩, ha⟩, ht⟩, he⟩ := h
    obtain ⟨⟨hNa, hNt⟩, hNe⟩ := hN
    have iT := sts_back thn (m - 1) ht hNt
    have iE := sts_back els (m - 1) he hNe
    rw [stK]
    obtain rfl | rfl | rfl | rfl | rfl | rfl | rfl | rfl | rfl | rfl := formKS_kind hf
    · obtain ⟨hty, _, h1, h2, h3⟩ := formS_1 hf
      obtain ⟨e, rfl⟩ := len1 h1
      obtain rfl := len0 h2
      obtain rfl := len0 h3
      show Ev (fun n => pS n d ((sg (tyT ty) :: nmK name :: sg [61] :: (argK [e] 0 ++ [sg [59]])) ++ rest)) _
      rw [argK_one, List.cons_append, List.cons_append, List.cons_append, List.append_assoc]
      refine Ev.succ (Ev.congr (g := fun n => pSemi ((pE n 1 1 (exK e ++ ([sg [59]] ++ rest))).bind fun e r => .ok (.mk 1 ty name [e] [] []) r)) ?_ fun n => ?_)
      · exact semi_back (Ev.bind (top_back (ex_one ha) (exn_one hNa) (low_se 1 rest)) (Ev.now fun n => rfl))
      · show pS (n + 1) d _ = _
        rw [pS, if_neg (by omega), if_pos (by rw [isS_sg, isS_sg]; rcases tyT_sg hty with ⟨_, e⟩ | ⟨_, e⟩ <;> rw [e] <;> decide), pTy_back hty]
        rw [bind_ok, want_nm, bind_ok, must_sg, bind_ok]
    · obtain ⟨rfl, _, h1, h2, h3⟩ := formS_2 hf
      obtain ⟨e, rfl⟩ := len1 h1
      obtain rfl := len0 h2
      obtain rfl := len0 h3
      show Ev (fun n => pS n d ((nmK name :: sg [61] :: (argK [e] 0 ++ [sg [59]])) ++ rest)) _
      rw [argK_one, List.cons_append, List.cons_append, List.append_assoc]
      refine Ev.succ (Ev.congr (g := fun n => pSemi ((pE n 1 1 (exK e ++ ([sg [59]] ++ rest))).bind fun e r => .ok (.mk 2 0 name [e] [] []) r)) ?_ fun n => ?_)
      · exact semi_back (Ev.bind (top_back (ex_one ha) (exn_one hNa) (low_se 1 rest)) (Ev.now fun n => rfl))
      · show pS (n + 1) d _ = _
        rw [pS_name n (by omega), pNm_set, if_neg (by decide), if_neg (by decide), must_sg]
        rfl
    · obtain ⟨rfl, _, h1, h2, h3⟩ := formS_3 hf
      obtain ⟨a, b, rfl⟩ := len2 h1
      obtain rfl := len0 h2
      obtain rfl := len0 h3
      rw [exsOK_cons, Bool.and_eq_true] at ha
      rw [exsN_cons, Bool.and_eq_true] at hNa
      show Ev (fun n => pS n d ((nmK name :: sg [91] :: (argK [a, b] 0 ++ sg [93] :: sg [61] :: (argK [a, b] 1 ++ [sg [59]]))) ++ rest)) _
      rw [argK_one, argK_two, List.cons_append, List.cons_append, List.append_assoc, List.cons_append, List.cons_append, List.append_assoc]
      refine Ev.succ (Ev.congr (g := fun n => pSemi ((pE n 1 1 (exK a ++ sg [93] :: sg [61] :: (exK b ++ ([sg [59]] ++ rest)))).bind fun e r => (must [93] r).bind fun _ r => (must [61] r).bind fun _ r => (pE n 1 1 r).bind fun f r => .ok (.mk 3 0 name [e, f] [] []) r)) ?_ fun n => ?_)
      · refine semi_back (Ev.bind (top_back ha.1 hNa.1 (low_sq 1 _)) ?_)
        refine Ev.congr (g := fun n => (pE n 1 1 (exK b ++ ([sg [59]] ++ rest))).bind fun f r => .ok (.mk 3 0 name [a, f] [] []) r) (Ev.bind (top_back (ex_one ha.2) (exn_one hNa.2) (low_se 1 rest)) (Ev.now fun n => rfl)) fun n => ?_
        rw [must_sg]
        dsimp only [PR.bind]
        rw [must_sg]
      · show pS (n + 1) d _ = _
        rw [pS_name n (by omega), pNm_set, if_neg (by decide), if_pos (by rfl)]
    · obtain ⟨rfl, rfl, h1⟩ := formS_4 hf
      obtain ⟨e, rfl⟩ := len1 h1
      show Ev (fun n => pS n d ((sg sIf :: sg [40] :: (argK [e] 0 ++ sg [41] :: sg [123] :: (stsK thn ++ sg [125] :: elK (stsK els) (decide (els.length = 0))))) ++ rest)) _
      rw [argK_one, List.cons_append, List.cons_append, List.append_assoc, List.cons_append, List.cons_append, List.append_assoc, List.cons_append]
      refine Ev.succ (Ev.congr (g := fun n => (pI n (sg [40] :: (exK e ++ sg [41] :: sg [123] :: (stsK thn ++ sg [125] :: (elK (stsK els) (decide (els.length = 0)) ++ rest))))).bind fun e r => (pB n (d + 1) r).bind fun t r => pEl n d e t r) ?_ fun n => ?_)
      · refine Ev.bind (pI_back (ex_one ha) (exn_one hNa) _) (Ev.bind (a := thn) (r := elK (stsK els) (decide (els.length = 0)) ++ rest) ?_ ?_)
        · refine Ev.succ (Ev.congr (iT (d + 1) [] _ (by omega) (by omega)) fun n => ?_)
          show pB (n + 1) (d + 1) _ = _
          rw [pB, must_sg]
          rfl
        · cases els with
          | nil =>
            refine Ev.succ (Ev.now fun n => ?_)
            show pEl (n + 1) d e thn (elK (stsK []) (decide (([] : List St).length = 0)) ++ rest) = _
            show pEl (n + 1) d e thn rest = _
            rw [pEl, hel, if_neg (by simp)]
          | cons s r =>
            have hK : elK (stsK (s :: r)) (decide ((s :: r).length = 0)) ++ rest = sg sElse :: sg [123] :: (stsK (s :: r) ++ sg [125] :: rest) := by
              unfold elK
              rw [if_neg (by simp), List.cons_append, List.cons_append, List.append_assoc]
              rfl
            rw [hK]
            refine Ev.succ (Ev.congr (g := fun n => (pB n (d + 1) (sg [123] :: (stsK (s :: r) ++ sg [125] :: rest))).bind fun u r => .ok (.mk 4 0 bE [e] thn u) r) ?_ fun n => ?_)
            · refine Ev.bind (a := s :: r) (r := rest) ?_ (Ev.now fun n => rfl)
              refine Ev.succ (Ev.congr (iE (d + 1) [] _ (by omega) (by omega)) fun n => ?_)
              show pB (n + 1) (d + 1) _ = _
              rw [pB, must_sg]
              rfl
            · show pEl (n + 1) d e thn _ = _
              rw [pEl, isS_sg, if_pos (by decide)]
              rfl
      · show pS (n + 1) d _ = _
        rw [pS_word n (by omega) _ _ (by decide) (by decide), if_pos rfl]
    · obtain ⟨rfl, rfl, h1, h3⟩ := formS_5 hf
      obtain ⟨e, rfl⟩ := len1 h1
      obtain rfl := len0 h3
      show Ev (fun n => pS n d ((sg sWhile :: sg [40] :: (argK [e] 0 ++ sg [41] :: sg [123] :: (stsK thn ++ [sg [125]]))) ++ rest)) _
      rw [argK_one, List.cons_append, List.cons_append, List.append_assoc, List.cons_append, List.cons_append, List.append_assoc]
      refine Ev.succ (Ev.congr (g := fun n => (pI n (sg [40] :: (exK e ++ sg [41] :: sg [123] :: (stsK thn ++ ([sg [125]] ++ rest))))).bind fun e r => (pB n (d + 1) r).bind fun t r => .ok (.mk 5 0 bE [e] t []) r) ?_ fun n => ?_)
      · refine Ev.bind (pI_back (ex_one ha) (exn_one hNa) _) (Ev.bind (a := thn) (r := rest) ?_ (Ev.now fun n => rfl))
        refine Ev.succ (Ev.congr (iT (d + 1) [] _ (by omega) (by omega)) fun n => ?_)
        show pB (n + 1) (d + 1) _ = _
        rw [pB, must_sg]
        rfl
      · show pS (n + 1) d _ = _
        rw [pS_word n (by omega) _ _ (by decide) (by decide), if_neg (by decide), if_pos rfl]
    · obtain ⟨rfl, rfl, h1, h2, h3⟩ := formS_67 (.inl rfl) hf
      obtain rfl := len0 h1
      obtain rfl := len0 h2
      obtain rfl := len0 h3
      refine Ev.succ (Ev.now fun n => ?_)
      show pS (n + 1) d (sg sBreak :: sg [59] :: rest) = _
      rw [pS_word n (by omega) _ _ (by decide) (by decide), if_neg (by decide), if_neg (by decide), if_pos rfl, semi_ok]
    · obtain ⟨rfl, rfl, h1, h2, h3⟩ := formS_67 (.inr rfl) hf
      obtain rfl := len0 h1
      obtain rfl := len0 h2
      obtain rfl := len0 h3
      refine Ev.succ (Ev.now fun n => ?_)
      show pS (n + 1) d (sg sCont :: sg [59] :: rest) = _
      rw [pS_word n (by omega) _ _ (by decide) (by decide), if_neg (by decide), if_neg (by decide), if_neg (by decide), if_pos rfl, semi_ok]
    · obtain ⟨rfl, rfl, h1, h2, h3⟩ := formS_89 (.inl rfl) hf
      obtain ⟨e, rfl⟩ := len1 h1
      obtain rfl := len0 h2
      obtain rfl := len0 h3
      show Ev (fun n => pS n d ((sg sRet :: (argK [e] 0 ++ [sg [59]])) ++ rest)) _
      rw [argK_one, List.cons_append, List.append_assoc]
      refine Ev.succ (Ev.congr (g := fun n => pSemi ((pE n 1 1 (exK e ++ ([sg [59]] ++ rest))).bind fun e r => .ok (.mk 8 0 bE [e] [] []) r)) ?_ fun n => ?_)
      · exact semi_back (Ev.bind (top_back (ex_one ha) (exn_one hNa) (low_se 1 rest)) (Ev.now fun n => rfl))
      · show pS (n + 1) d _ = _
        rw [pS_word n (by omega) _ _ (by decide) (by decide), if_neg (by decide), if_neg (by decide), if_neg (by decide), if_neg (by decide), if_pos rfl]
    · obtain ⟨rfl, rfl, h1, h2, h3⟩ := formS_89 (.inr rfl) hf
      obtain ⟨e, rfl⟩ := len1 h1
      obtain rfl := len0 h2
      obtain rfl := len0 h3
      show Ev (fun n => pS n d ((sg sPrint :: sg [40] :: (argK [e] 0 ++ [sg [41], sg [59]])) ++ rest)) _
      rw [argK_one, List.cons_append, List.cons_append, List.append_assoc]
      refine Ev.succ (Ev.congr (g := fun n => pSemi ((pI n (sg [40] :: (exK e ++ sg [41] :: sg [59] :: rest))).bind fun e r => .ok (.mk 9 0 bE [e] [] []) r)) ?_ fun n => ?_)
      · exact semi_back (Ev.bind (pI_back (ex_one ha) (exn_one hNa) _) (Ev.now fun n => rfl))
      · show pS (n + 1) d _ = _
        rw [pS_word n (by omega) _ _ (by decide) (by decide), if_neg (by decide), if_neg (by decide), if_neg (by decide), if_neg (by decide), if_neg (by decide), if_pos rfl]
        rfl
    · obtain ⟨rfl, rfl, h1, h2, h3, hc⟩ := formS_10 hf
      obtain rfl := len0 h2
      obtain rfl := len0 h3
      obtain ⟨nm, es, rfl, hes⟩ := call_form h1 hc ha
      have hNs : exsN es = true := by
        have := exn_one hNa
        rw [exN_mk, Bool.and_eq_true] at this
        exact this.2
      show Ev (fun n => pS n d ((argK [.mk 7 0 0 nm es] 0 ++ [sg [59]]) ++ rest)) _
      rw [argK_one, call_K, List.cons_append, List.cons_append, List.cons_append, List.cons_append, List.append_assoc, List.append_assoc]
      refine Ev.succ (Ev.congr (g := fun n => pSemi ((pA n 2 (joinK (es.map exK) ++ ([sg [41]] ++ ([sg [59]] ++ rest)))).bind fun es r => .ok (.mk 10 0 bE [.mk 7 0 0 nm es] [] []) r)) ?_ fun n => ?_)
      · exact semi_back (Ev.bind (pA_back es (pexs_all es) (100 - 1) hes hNs 2 _ (by decide) (by decide)) (Ev.now fun n => rfl))
      · show pS (n + 1) d _ = _
        rw [pS_name n (by omega), pNm_set, if_pos rfl]
theorem sts_back : ∀ (l : List St) (m : Nat), stsOK l m = true → stsN l = true → ∀ (d : Int) (acc : List St) (rest : List Tok), 1 ≤ d → d + m ≤ 101 → Ev (fun n => pBL n d acc (stsK l ++ sg [125] :: rest)) (.ok (acc ++ l) rest)
  | [], m, h, hN, d, acc, rest, hd, hdm => by
    rw [stsK_nil]
    refine Ev.succ (Ev.now fun n => ?_)
    show pBL (n + 1) d acc (sg [125] :: rest) = _
    rw [pBL, isS_sg, if_pos (by decide), List.append_nil]
    rfl
  | s :: r, m, h, hN, d, acc, rest, hd, hdm => by
    rw [stsOK_cons, Bool.and_eq_true] at h
    rw [stsN_cons, Bool.and_eq_true] at hN
    rw [stsK_cons, List.append_assoc]
    have hhd := stK_hd s m h.1
    have hel : isS sElse (stsK r ++ sg [125] :: rest) = false := by
      cases r with
      | nil =>
        rw [stsK_nil]
        show isS sElse (sg [125] :: rest) = false
        rw [isS_sg]
        decide
      | cons s2 r2 =>
        have h2 := h.2
        rw [stsOK_cons, Bool.and_eq_true] at h2
        obtain ⟨t, q, he, _, h3⟩ := stK_hd s2 m h2.1
        rw [stsK_cons, he]
        show isS sElse (t :: _) = false
        rw [isS_hd] at h3 ⊢
        exact h3
    refine Ev.succ (Ev.congr (g := fun n => (pS n d (stK s ++ (stsK r ++ sg [125] :: rest))).bind fun s r => pBL n d (acc ++ [s]) r) ?_ fun n => ?_)
    · refine Ev.bind (st_back s m h.1 hN.1 d _ hd hdm hel) ?_
      have := sts_back r m h.2 hN.2 d (acc ++ [s]) rest hd hdm
      rw [List.append_assoc] at this
      exact this
    · show pBL (n + 1) d acc _ = _
      obtain ⟨t, q, he, h3, _⟩ := hhd
      rw [he, List.cons_append, pBL, if_neg]
      rw [isS_hd] at h3 ⊢
      rw [h3]
      decide
end
/-! ### programs -/
def paK (x : Pa) : List Tok := [sg (tyT x.type), nmK x.name]
def fuK (f : Fu) : List Tok := sg (tyT f.type) :: nmK f.name :: sg [40] :: (joinK (f.params.map paK) ++ sg [41] :: sg [123] :: (stsK f.body ++ [sg [125]]))
def arK (a : Ar) : List Tok := [sg sInt, nmK a.name, sg [91], nuK a.size, sg [93], sg [59]]
def prK (p : Pr) : List Tok := (p.arrays.map arK).flatten ++ (p.funcs.map fuK).flatten
def prN (p : Pr) : Bool := p.funcs.all fun f => stsN f.body
theorem pPL_back : ∀ (l : List Pa) (x : Pa) (acc : List Pa), (x :: l).all paOK = true → ∀ (rest : List Tok), Ev (fun n => pPL n acc (joinK ((x :: l).map paK) ++ sg [41] :: rest)) (.ok (acc ++ x :: l) rest)
  | [], x, acc, h, rest => by
    simp only [List.all_cons, List.all_nil, Bool.and_true, paOK, Bool.and_eq_true] at h
    refine Ev.succ (Ev.now fun n => ?_)
    show pPL (n + 1) acc (sg (tyT x.type) :: nmK x.name :: sg [41] :: rest) = _
    rw [pPL, pTy_back h.2]
    rw [bind_ok, want_nm, bind_ok]
    rw [isS_sg, if_neg (by decide), must_sg]
    rfl
  | y :: l, x, acc, h, rest => by
    rw [List.all_cons, Bool.and_eq_true] at h
    have hx := h.1
    simp only [paOK, Bool.and_eq_true] at hx
    refine Ev.succ (Ev.congr (g := fun n => pPL n (acc ++ [x]) (joinK ((y :: l).map paK) ++ sg [41] :: rest)) ?_ fun n => ?_)
    · have := pPL_back l y (acc ++ [x]) h.2 rest
      rw [List.append_assoc] at this
      exact this
    · show pPL (n + 1) acc (sg (tyT x.type) :: nmK x.name :: sg [44] :: (joinK ((y :: l).map paK) ++ sg [41] :: rest)) = _
      rw [pPL, pTy_back hx.2]
      rw [bind_ok, want_nm, bind_ok]
      rw [isS_sg, if_pos (by decide)]
      rfl
theorem pPs_back (l : List Pa) (h : l.all paOK = true) (rest : List Tok) : Ev (fun n => pPs n (sg [40] :: (joinK (l.map paK) ++ sg [41] :: rest))) (.ok l rest) := by
  cases l with
  | nil =>
    refine Ev.now fun n => ?_
    show pPs n (sg [40] :: sg [41] :: rest) = _
    unfold pPs
    rw [must_sg, bind_ok, isS_sg, if_pos (by decide)]
    rfl
  | cons x l =>
    refine Ev.congr (pPL_back l x [] h rest) fun n => ?_
    unfold pPs
    rw [must_sg]
    have hx : paOK x = true := by rw [List.all_cons, Bool.and_eq_true] at h; exact h.1
    simp only [paOK, Bool.and_eq_true] at hx
    have hh : isS [41] (joinK ((x :: l).map paK) ++ sg [41] :: rest) = false := by
      have : ∃ q, joinK ((x :: l).map paK) ++ sg [41] :: rest = sg (tyT x.type) :: q := by
        cases l with
        | nil => exact ⟨_, rfl⟩
        | cons y l => exact ⟨_, rfl⟩
      obtain ⟨q, e⟩ := this
      rw [e, isS_sg]
      rcases tyT_sg hx.2 with ⟨_, e⟩ | ⟨_, e⟩ <;> rw [e] <;> decide
    rw [bind_ok, hh, if_neg (by simp)]
theorem pFn_back (f : Fu) (h : fuOK f = true) (hN : stsN f.body = true) (rest : List Tok) : Ev (fun n => pFn n f.type f.name (sg [40] :: (joinK (f.params.map paK) ++ sg [41] :: sg [123] :: (stsK f.body ++ sg [125] :: rest)))) (.ok f rest) := by
  simp only [fuOK, Bool.and_eq_true, decide_eq_true_eq] at h
  refine Ev.congr (g := fun n => (pPs n (sg [40] :: (joinK (f.params.map paK) ++ sg [41] :: sg [123] :: (stsK f.body ++ sg [125] :: rest)))).bind fun ps r => (pB n 1 r).bind fun b r => .ok ⟨f.name, f.type, ps, b⟩ r) ?_ fun n => rfl
  refine Ev.bind (pPs_back f.params h.1.2 _) (Ev.bind (a := f.body) (r := rest) ?_ (Ev.now fun n => rfl))
  refine Ev.succ (Ev.congr (sts_back f.body 100 h.2 hN 1 [] rest (by decide) (by decide)) fun n => ?_)
  show pB (n + 1) 1 _ = _
  rw [pB, must_sg]
  rfl
theorem ty_not3 (t : List UInt8) (r : List Tok) : ¬ hdK (sg t :: r) = 3 := by show ¬ (2 : Int) = 3; decide
theorem pPr_funcs : ∀ (l : List Fu) (p : Pr), l.all fuOK = true → (l.all fun f => stsN f.body) = true → ∀ (e : Tok), e.kind = 3 → Ev (fun n => pPr n p ((l.map fuK).flatten ++ [e])) (.ok ⟨p.arrays, p.funcs ++ l⟩ [e])
  | [], p, h, hN, e, he => by
    refine Ev.succ (Ev.now fun n => ?_)
    show pPr (n + 1) p [e] = _
    rw [pPr, if_pos (show hdK [e] = 3 from he), List.append_nil]
  | f :: l, p, h, hN, e, he => by
    rw [List.all_cons, Bool.and_eq_true] at h hN
    have hf := h.1
    simp only [fuOK, Bool.and_eq_true, decide_eq_true_eq] at hf
    have e1 : ((f :: l).map fuK).flatten ++ [e] = sg (tyT f.type) :: nmK f.name :: sg [40] :: (joinK (f.params.map paK) ++ sg [41] :: sg [123] :: (stsK f.body ++ sg [125] :: ((l.map fuK).flatten ++ [e]))) := by
      show (fuK f ++ (l.map fuK).flatten) ++ [e] = _
      unfold fuK
      simp
    rw [e1]
    refine Ev.succ (Ev.congr (g := fun n => (pFn n f.type f.name (sg [40] :: (joinK (f.params.map paK) ++ sg [41] :: sg [123] :: (stsK f.body ++ sg [125] :: ((l.map fuK).flatten ++ [e]))))).bind fun f r => pPr n ⟨p.arrays, p.funcs ++ [f]⟩ r) ?_ fun n => ?_)
    · refine Ev.bind (pFn_back f h.1 hN.1 _) ?_
      have := pPr_funcs l ⟨p.arrays, p.funcs ++ [f]⟩ h.2 hN.2 e he
      simp only [List.append_assoc] at this
      exact this
    · show pPr (n + 1) p _ = _
      rw [pPr, if_neg (ty_not3 _ _), pTy_back hf.1.1.1.2]
      rw [bind_ok, want_nm, bind_ok]
      rw [if_neg (fun hc => by have := hc.2.2; rw [isS_sg] at this; revert this; decide)]
theorem pPr_arrays : ∀ (l : List Ar) (ar : List Ar) (fs : List Fu), l.all arOK = true → fs.all fuOK = true → (fs.all fun f => stsN f.body) = true → ∀ (e : Tok), e.kind = 3 → Ev (fun n => pPr n ⟨ar, []⟩ ((l.map arK).flatten ++ ((fs.map fuK).flatten ++ [e]))) (.ok ⟨ar ++ l, fs⟩ [e])
  | [], ar, fs, h, hf, hN, e, he => by
    have := pPr_funcs fs ⟨ar, []⟩ hf hN e he
    rw [List.append_nil]
    exact this
  | a :: l, ar, fs, h, hf, hN, e, he => by
    rw [List.all_cons, Bool.and_eq_true] at h
    have ha := h.1
    simp only [arOK, Bool.and_eq_true, decide_eq_true_eq] at ha
    refine Ev.succ (Ev.congr (g := fun n => pPr n ⟨ar ++ [a], []⟩ ((l.map arK).flatten ++ ((fs.map fuK).flatten ++ [e]))) ?_ fun n => ?_)
    · have := pPr_arrays l (ar ++ [a]) fs h.2 hf hN e he
      rw [List.append_assoc] at this
      exact this
    · show pPr (n + 1) ⟨ar, []⟩ (sg sInt :: nmK a.name :: sg [91] :: nuK a.size :: sg [93] :: sg [59] :: ((l.map arK).flatten ++ ((fs.map fuK).flatten ++ [e]))) = _
      have hty : pTy (sg sInt :: nmK a.name :: sg [91] :: nuK a.size :: sg [93] :: sg [59] :: ((l.map arK).flatten ++ ((fs.map fuK).flatten ++ [e]))) = .ok 1 (nmK a.name :: sg [91] :: nuK a.size :: sg [93] :: sg [59] :: ((l.map arK).flatten ++ ((fs.map fuK).flatten ++ [e]))) := pTy_back (t := 1) (by decide) _
      rw [pPr, if_neg (ty_not3 _ _), hty]
      rw [bind_ok, want_nm, bind_ok]
      rw [if_pos ⟨rfl, rfl, by rw [isS_sg]; decide⟩]
      have hA : ∀ r, pArr a.name (nuK a.size :: sg [93] :: sg [59] :: r) = .ok a r := fun r => by
        unfold pArr want
        rw [if_pos (show hdK (nuK a.size :: sg [93] :: sg [59] :: r) = 0 from rfl), bind_ok]
        show (must [93] (sg [93] :: sg [59] :: r)).bind _ = _
        rw [must_sg, bind_ok, must_sg, bind_ok]
        show PR.ok (Ar.mk a.name (decV 0 (Lib.itoa a.size) : Int)) r = _
        rw [digits_itoa a.size (by omega)]
      show (pArr a.name (nuK a.size :: sg [93] :: sg [59] :: _)).bind _ = _
      rw [hA]
      rfl
/-- D2, on tokens. -/
theorem prog_back (p : Pr) (h : prOK p = true) (hN : prN p = true) (e : Tok) (he : e.kind = 3) : Ev (fun n => pPr n ⟨[], []⟩ (prK p ++ [e])) (.ok p [e]) := by
  simp only [prOK, Bool.and_eq_true] at h
  have := pPr_arrays p.arrays [] p.funcs h.1 h.2 hN e he
  unfold prK
  rw [List.append_assoc]
  exact this
end Go.Proofs.YtakijoblbmfadaaGreatDoor

/- Texts of trees, told into tokens: no Go, no program. -/
namespace Go.Proofs.YtakijoblbmfadaaGreatDoor
open Go
/-- What may stand behind letters and digits; behind a sign. -/
def AW (r : List UInt8) : Prop := ∀ c q, r = c :: q → isAln c = false
def XS (r : List UInt8) : Prop := ∀ c q, r = c :: q → c ≠ 61 ∧ c ≠ 60 ∧ c ≠ 62 ∧ c ≠ 38 ∧ c ≠ 124 ∧ c ≠ 47
theorem aw_cons {c : UInt8} {q : List UInt8} (h : isAln c = false) : AW (c :: q) := fun _ _ e => by injection e with e _; exact e ▸ h
theorem xs_cons {c : UInt8} {q : List UInt8} (h : c ≠ 61 ∧ c ≠ 60 ∧ c ≠ 62 ∧ c ≠ 38 ∧ c ≠ 124 ∧ c ≠ 47) : XS (c :: q) := fun _ _ e => by injection e with e _; exact e ▸ h
theorem span_aw {t r : List UInt8} (ht : t.all isAln = true) (hr : AW r) : (t ++ r).takeWhile isAln = t := by
  rw [List.takeWhile_append_of_pos (fun a ha => List.all_eq_true.1 ht a ha)]
  cases r with
  | nil => simp
  | cons c q => rw [List.takeWhile_cons_of_neg (by rw [hr c q rfl]; decide), List.append_nil]
theorem aln_gap {c : UInt8} {r : List UInt8} (h : isAln c = true) : gapN (c :: r) = 0 := by
  have h47 : c ≠ 47 := fun e => by rw [e] at h; revert h; decide
  have hb : isBlk c = false := by
    simp [isAln, isLet, isDig] at h
    simp [isBlk]
    omega
  unfold gapN
  rw [if_neg, List.takeWhile_cons_of_neg (by rw [hb]; decide)]
  · rfl
  · intro hc
    obtain ⟨q, e⟩ := prefix_comment hc
    injection e with e _
    exact h47 e
theorem lex_aln {t r : List UInt8} {k : Int} (hne : t ≠ []) (ha : t.all isAln = true) (hk : kindT t = some k) (hr : AW r) (ln : Nat) : scan (t ++ r) ln = (⟨k, t, ln⟩ :: (scan r ln).1, (scan r ln).2) := by
  obtain ⟨c, q, rfl⟩ := List.exists_cons_of_ne_nil hne
  have hc : isAln c = true := by rw [List.all_cons, Bool.and_eq_true] at ha; exact ha.1
  have ho : one (c :: (q ++ r)) = some (k, c :: q) := by
    have hs := span_aw ha hr
    rw [List.cons_append] at hs
    unfold one
    rw [hs, if_pos hne, hk]
    rfl
  rw [List.cons_append, scan_step (aln_gap hc), ho]
  simp
theorem sign_free2 (t : List UInt8) (h : t ∈ allSigns) (r : List UInt8) (hr : XS r) : (t ++ r).takeWhile isAln = [] ∧ signL (t ++ r) = t ∧ t ≠ [] ∧ gapN (t ++ r) = 0 := by
  simp only [allSigns, signs2, signs1, List.mem_cons, List.mem_append, List.not_mem_nil, or_false] at h
  cases r with
  | nil =>
    rcases h with rfl | (rfl | rfl | rfl | rfl | rfl | rfl | rfl | rfl) | rfl | rfl | rfl | rfl | rfl | rfl | rfl | rfl | rfl | rfl | rfl | rfl | rfl | rfl | rfl | rfl | rfl | rfl | rfl | rfl | rfl
    all_goals exact ⟨rfl, rfl, by simp, rfl⟩
  | cons c q =>
    obtain ⟨h1, h2, h3, h4, h5, h6⟩ := hr c q rfl
    have b1 : (61 == c) = false := by simpa using Ne.symm h1
    have b2 : (60 == c) = false := by simpa using Ne.symm h2
    have b3 : (62 == c) = false := by simpa using Ne.symm h3
    have b4 : (38 == c) = false := by simpa using Ne.symm h4
    have b5 : (124 == c) = false := by simpa using Ne.symm h5
    have b6 : (47 == c) = false := by simpa using Ne.symm h6
    rcases h with rfl | (rfl | rfl | rfl | rfl | rfl | rfl | rfl | rfl) | rfl | rfl | rfl | rfl | rfl | rfl | rfl | rfl | rfl | rfl | rfl | rfl | rfl | rfl | rfl | rfl | rfl | rfl | rfl | rfl | rfl
    all_goals refine ⟨rfl, ?_, by simp, ?_⟩
    all_goals first
      | rfl
      | (unfold signL; simp only [allSigns, signs2, signs1, List.cons_append, List.nil_append, List.find?, Lib.hasPrefix, List.isPrefixOf, b1, b2, b3, b4, b5, b6, Bool.and_false, Bool.false_and, Bool.and_true]; rfl)
      | (unfold gapN; simp only [List.cons_append, List.nil_append, Lib.hasPrefix, List.isPrefixOf, b6, Bool.and_false, Bool.false_and, Bool.and_true]; rfl)
theorem lex_sign {t r : List UInt8} (h : t ∈ allSigns) (hr : XS r) (ln : Nat) : scan (t ++ r) ln = (⟨2, t, ln⟩ :: (scan r ln).1, (scan r ln).2) := by
  obtain ⟨h1, h2, h3, h4⟩ := sign_free2 t h r hr
  obtain ⟨c, q, rfl⟩ := List.exists_cons_of_ne_nil h3
  rw [List.cons_append] at h1 h2 h4 ⊢
  have ho : one (c :: (q ++ r)) = some (2, c :: q) := by
    unfold one
    rw [h1, if_neg (by simp), h2, if_pos h3]
  rw [scan_step h4, ho]
  simp
end Go.Proofs.YtakijoblbmfadaaGreatDoor
