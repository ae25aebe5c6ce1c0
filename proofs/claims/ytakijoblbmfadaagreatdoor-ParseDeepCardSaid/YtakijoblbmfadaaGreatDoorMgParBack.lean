import Derived.Test.YtakijoblbmfadaaGreatDoorMgParRead
set_option linter.unusedSimpArgs false
set_option linter.unusedVariables false
/- The tokens of a tree, and that they are parsed to it: no Go, no program. -/
namespace Go.Proofs.YtakijoblbmfadaaGreatDoor
open Go

/-- With fuel enough it is x. -/
def Ev {α : Type} (f : Nat → PR α) (x : PR α) : Prop := ∃ N, ∀ n, N ≤ n → f n = x
theorem Ev.now {α : Type} {f : Nat → PR α} {x : PR α} (h : ∀ n, f n = x) : Ev f x := ⟨0, fun n _ => h n⟩
theorem Ev.succ {α : Type} {f : Nat → PR α} {x : PR α} (h : Ev (fun n => f (n + 1)) x) : Ev f x := by
  obtain ⟨N, h⟩ := h
  refine ⟨N + 1, fun n hn => ?_⟩
  obtain ⟨k, rfl⟩ : ∃ k, n = k + 1 := ⟨n - 1, by omega⟩
  exact h k (by omega)
theorem Ev.bind {α β : Type} {f : Nat → PR α} {a : α} {r : List Tok} {g : Nat → α → List Tok → PR β} {x : PR β} (h : Ev f (.ok a r)) (k : Ev (fun n => g n a r) x) : Ev (fun n => (f n).bind (g n)) x := by
  obtain ⟨N, h⟩ := h
  obtain ⟨M, k⟩ := k
  refine ⟨N + M, fun n hn => ?_⟩
  show (f n).bind (g n) = x
  rw [h n (by omega)]
  exact k n (by omega)
theorem Ev.congr {α : Type} {f g : Nat → PR α} {x : PR α} (h : Ev g x) (e : ∀ n, f n = g n) : Ev f x := by
  obtain ⟨N, h⟩ := h
  exact ⟨N, fun n hn => (e n).trans (h n hn)⟩

def sg (t : List UInt8) : Tok := ⟨2, t, 0⟩
def nmK (t : ByteArray) : Tok := ⟨1, t.data.toList, 0⟩
def nuK (n : Int) : Tok := ⟨0, Lib.itoa n, 0⟩
/-! ### the tokens of trees -/
def parK (lev : Int) (c : Int × Int × List Tok) : List Tok := if c.1 = 5 ∧ lvlOf c.2.1 < lev then sg [40] :: (c.2.2 ++ [sg [41]]) else c.2.2
def joinK : List (List Tok) → List Tok
  | [] => []
  | [x] => x
  | x :: y :: r => x ++ sg [44] :: joinK (y :: r)
def kidK (cs : List (Int × Int × List Tok)) (i : Nat) : Int × Int × List Tok := cs.getD i (0, 0, [])
def nodeK (k op n : Int) (name : ByteArray) (cs : List (Int × Int × List Tok)) : List Tok :=
  if k = 1 then [nuK n]
  else if k = 2 then [sg (boolT (decide (n = 1)))]
  else if k = 3 then [nmK name]
  else if k = 4 then (if 23 ≤ op then sg (sgT op) :: sg [40] :: ((kidK cs 0).2.2 ++ [sg [41]]) else sg (sgT op) :: parK 11 (kidK cs 0))
  else if k = 5 then parK (lvlOf op) (kidK cs 0) ++ sg (sgT op) :: parK (lvlOf op + 1) (kidK cs 1)
  else if k = 6 then nmK name :: sg [91] :: ((kidK cs 0).2.2 ++ [sg [93]])
  else if k = 7 then nmK name :: sg [40] :: (joinK (cs.map (·.2.2)) ++ [sg [41]])
  else [sg sRead, sg [40], sg [41]]
mutual
def exK : Ex → List Tok
  | .mk k op n name args => nodeK k op n name (exKs args)
def exKs : List Ex → List (Int × Int × List Tok)
  | [] => []
  | e :: r => (e.kind, e.op, exK e) :: exKs r
end
def opK (lev : Int) (e : Ex) : List Tok := parK lev (e.kind, e.op, exK e)
/-! ### numbers that fit -/
mutual
def exN : Ex → Bool
  | .mk _ _ n _ args => decide (n ≤ 9223372036854775807) && exsN args
def exsN : List Ex → Bool
  | [] => true
  | e :: r => exN e && exsN r
end
theorem exN_mk (k op n : Int) (name : ByteArray) (args : List Ex) : exN (.mk k op n name args) = (decide (n ≤ 9223372036854775807) && exsN args) := by rw [exN]
theorem exsN_nil : exsN [] = true := by rw [exsN]
theorem exsN_cons (e : Ex) (r : List Ex) : exsN (e :: r) = (exN e && exsN r) := by rw [exsN]
theorem exK_mk (k op n : Int) (name : ByteArray) (args : List Ex) : exK (.mk k op n name args) = nodeK k op n name (exKs args) := by rw [exK]
theorem exKs_nil : exKs [] = [] := by rw [exKs]
theorem exKs_cons (e : Ex) (r : List Ex) : exKs (e :: r) = (e.kind, e.op, exK e) :: exKs r := by rw [exKs]
theorem exKs_map (l : List Ex) : exKs l = l.map fun e => (e.kind, e.op, exK e) := by
  induction l with
  | nil => rw [exKs]; rfl
  | cons e r ih => rw [exKs, ih]; rfl

/-! ### what operators stand at a head -/
theorem isS_hd (s : List UInt8) (t : Tok) (r : List Tok) : isS s (t :: r) = (decide (t.kind = 2) && t.text == s) := rfl
theorem opFrom_hd (lev : Int) (t : Tok) (r : List Tok) : ∀ ops, opFrom lev (t :: r) ops = opFrom lev [t] ops
  | [] => rfl
  | op :: q => by rw [opFrom, opFrom, isS_hd, isS_hd, opFrom_hd lev t r q]
theorem unFrom_hd (t : Tok) (r : List Tok) : ∀ ops, unFrom (t :: r) ops = unFrom [t] ops
  | [] => rfl
  | op :: q => by rw [unFrom, unFrom, isS_hd, isS_hd, unFrom_hd t r q]
theorem opAt_hd (lev : Int) (t : Tok) (r : List Tok) : opAt lev (t :: r) = opAt lev [t] := opFrom_hd lev t r twos
theorem unAt_hd (t : Tok) (r : List Tok) : unAt (t :: r) = unAt [t] := unFrom_hd t r ones
theorem isS_not {s : List UInt8} {t : Tok} {r : List Tok} (h : t.kind ≠ 2) : isS s (t :: r) = false := by rw [isS_hd]; simp [h]
theorem opFrom_not {lev : Int} {t : Tok} {r : List Tok} (h : t.kind ≠ 2) : ∀ ops, opFrom lev (t :: r) ops = 0
  | [] => rfl
  | op :: q => by rw [opFrom, isS_not h, if_neg (by simp), opFrom_not h q]
theorem unFrom_not {t : Tok} {r : List Tok} (h : t.kind ≠ 2) : ∀ ops, unFrom (t :: r) ops = 0
  | [] => rfl
  | op :: q => by rw [unFrom, isS_not h, if_neg (by simp), unFrom_not h q]
theorem isS_sg (s t : List UInt8) (r : List Tok) : isS s (sg t :: r) = (t == s) := by rw [isS_hd]; simp [sg]
def levels : List Int := [1, 2, 3, 4, 5, 6, 7, 8, 9, 10]
theorem two_cases {op : Int} (h : 0 < lvlOf op) : op ∈ twos := by
  unfold lvlOf at h
  split at h
  · rename_i hc
    obtain rfl | rfl | rfl | rfl | rfl | rfl | rfl | rfl | rfl | rfl | rfl | rfl | rfl | rfl | rfl | rfl | rfl | rfl | rfl | rfl | rfl | rfl | rfl | rfl | rfl | rfl | rfl | rfl : op = 1 ∨ op = 2 ∨ op = 3 ∨ op = 4 ∨ op = 5 ∨ op = 6 ∨ op = 7 ∨ op = 8 ∨ op = 9 ∨ op = 10 ∨ op = 11 ∨ op = 12 ∨ op = 13 ∨ op = 14 ∨ op = 15 ∨ op = 16 ∨ op = 17 ∨ op = 18 ∨ op = 19 ∨ op = 20 ∨ op = 21 ∨ op = 22 ∨ op = 23 ∨ op = 24 ∨ op = 25 ∨ op = 26 ∨ op = 27 ∨ op = 28 := by omega
    all_goals first | decide | exact absurd h (by decide)
  · omega
theorem one_cases {op : Int} (h : 20 ≤ op ∧ op ≤ 28) : op ∈ ones := by
  obtain rfl | rfl | rfl | rfl | rfl | rfl | rfl | rfl | rfl : op = 20 ∨ op = 21 ∨ op = 22 ∨ op = 23 ∨ op = 24 ∨ op = 25 ∨ op = 26 ∨ op = 27 ∨ op = 28 := by omega
  all_goals decide
theorem lev_cases {l : Int} (h1 : 1 ≤ l) (h2 : l ≤ 10) : l ∈ levels := by
  obtain rfl | rfl | rfl | rfl | rfl | rfl | rfl | rfl | rfl | rfl : l = 1 ∨ l = 2 ∨ l = 3 ∨ l = 4 ∨ l = 5 ∨ l = 6 ∨ l = 7 ∨ l = 8 ∨ l = 9 ∨ l = 10 := by omega
  all_goals decide
theorem two_at : ∀ op ∈ twos, ∀ lev ∈ levels, opAt lev [sg (sgT op)] = if lvlOf op = lev then op else 0 := by decide +kernel
theorem two_lvl : ∀ op ∈ twos, 1 ≤ lvlOf op ∧ lvlOf op ≤ 10 := by decide +kernel
theorem two_ne : ∀ op ∈ twos, op ≠ 0 := by decide
theorem two_nob : ∀ op ∈ twos, isS [40] [sg (sgT op)] = false ∧ isS [91] [sg (sgT op)] = false := by decide +kernel
theorem one_at : ∀ op ∈ ones, unAt [sg (sgT op)] = op := by decide +kernel
/-- Behind an operand of a level: no operator of that level or a higher one, no bracket that a name takes. -/
def Low (lev : Int) (r : List Tok) : Prop := (∀ l, lev ≤ l → 1 ≤ l → l ≤ 10 → opAt l r = 0) ∧ isS [40] r = false ∧ isS [91] r = false
theorem Low.mono {a b : Int} {r : List Tok} (h : Low a r) (hab : a ≤ b) : Low b r := ⟨fun l h1 => h.1 l (by omega), h.2⟩
theorem low_two {op : Int} (h : op ∈ twos) (r : List Tok) : Low (lvlOf op + 1) (sg (sgT op) :: r) := by
  refine ⟨fun l h1 h2 h3 => ?_, ?_⟩
  · rw [opAt_hd, two_at op h l (lev_cases h2 h3), if_neg (by omega)]
  · rw [isS_hd, isS_hd]
    exact two_nob op h
theorem low_all {t : Tok} (h : (levels.all fun l => opAt l [t] == 0) = true) (h1 : isS [40] [t] = false) (h2 : isS [91] [t] = false) (lev : Int) (r : List Tok) : Low lev (t :: r) := by
  refine ⟨fun l _ h3 h4 => ?_, by rw [isS_hd] at h1 ⊢; exact h1, by rw [isS_hd] at h2 ⊢; exact h2⟩
  rw [opAt_hd]
  have := List.all_eq_true.1 h l (lev_cases h3 h4)
  simpa using this
theorem low_cl (lev : Int) (r : List Tok) : Low lev (sg [41] :: r) := low_all (by decide +kernel) (by decide +kernel) (by decide +kernel) lev r
theorem low_sq (lev : Int) (r : List Tok) : Low lev (sg [93] :: r) := low_all (by decide +kernel) (by decide +kernel) (by decide +kernel) lev r
theorem low_co (lev : Int) (r : List Tok) : Low lev (sg [44] :: r) := low_all (by decide +kernel) (by decide +kernel) (by decide +kernel) lev r
theorem low_se (lev : Int) (r : List Tok) : Low lev (sg [59] :: r) := low_all (by decide +kernel) (by decide +kernel) (by decide +kernel) lev r
theorem must_sg {s : List UInt8} (r : List Tok) : must s (sg s :: r) = .ok () r := by unfold must; rw [isS_sg]; simp

/-! ### expressions -/
/-- An operand at a level is parsed to it. -/
def PA (e : Ex) (m : Nat) (lev : Int) : Prop := ∀ (d : Int) (rest : List Tok), 1 ≤ d → (d + m ≤ 101 ∨ (e.kind = 5 ∧ lev ≤ lvlOf e.op ∧ d + m ≤ 102)) → Low lev rest → Ev (fun n => pE n lev d (opK lev e ++ rest)) (.ok e rest)
/-- And what comes behind goes on. -/
def PB (e : Ex) (m : Nat) (lev : Int) : Prop := ∀ (d : Int) (rest : List Tok) (x : PR Ex), 1 ≤ d → (d + m ≤ 101 ∨ (e.kind = 5 ∧ lev ≤ lvlOf e.op ∧ d + m ≤ 102)) → Low (lev + 1) rest → Ev (fun n => pL n lev d e rest) x → Ev (fun n => pE n lev d (opK lev e ++ rest)) x
def Pex (e : Ex) : Prop := ∀ m, exOK e m = true → exN e = true → (∀ lev, 1 ≤ lev → lev ≤ 11 → PA e m lev) ∧ (∀ lev, 1 ≤ lev → lev ≤ 10 → PB e m lev)
theorem pa_of_pb {e : Ex} {m : Nat} {lev : Int} (h1 : 1 ≤ lev) (h2 : lev ≤ 10) (h : PB e m lev) : PA e m lev := by
  intro d rest hd hm hl
  refine h d rest _ hd hm (hl.mono (by omega)) (Ev.succ (Ev.now fun n => ?_))
  show pL (n + 1) lev d e rest = _
  rw [pL, if_pos (hl.1 lev (Int.le_refl _) h1 h2)]
/-- A level down: where the text is the same at the next level. -/
theorem pb_down {e : Ex} {m : Nat} {lev : Int} (h1 : 1 ≤ lev) (h2 : lev ≤ 10) (he : opK lev e = opK (lev + 1) e) (hq : ∀ d : Int, (d + m ≤ 101 ∨ (e.kind = 5 ∧ lev ≤ lvlOf e.op ∧ d + m ≤ 102)) → (d + m ≤ 101 ∨ (e.kind = 5 ∧ lev + 1 ≤ lvlOf e.op ∧ d + m ≤ 102))) (h : PA e m (lev + 1)) : PB e m lev := by
  intro d rest x hd hm hl hx
  refine Ev.succ ?_
  refine Ev.congr (g := fun n => (pE n (lev + 1) d (opK (lev + 1) e ++ rest)).bind fun a r => pL n lev d a r) ?_ (fun n => ?_)
  · exact Ev.bind (h d rest hd (hq d hm) hl) hx
  · show pE (n + 1) lev d (opK lev e ++ rest) = _
    rw [pE, if_neg (by omega), he]
/-- From the eleventh level to all. -/
theorem pex_of11 {e : Ex} {m : Nat} (top : Int) (ht1 : 1 ≤ top) (ht : top ≤ 11) (hA : PA e m top) (he : ∀ lev, 1 ≤ lev → lev < top → opK lev e = opK (lev + 1) e) (hq : ∀ (lev d : Int), lev < top → (d + m ≤ 101 ∨ (e.kind = 5 ∧ lev ≤ lvlOf e.op ∧ d + m ≤ 102)) → (d + m ≤ 101 ∨ (e.kind = 5 ∧ lev + 1 ≤ lvlOf e.op ∧ d + m ≤ 102))) :
    ∀ (k : Nat), (∀ lev, top - k ≤ lev → 1 ≤ lev → lev ≤ top → PA e m lev) ∧ (∀ lev, top - k ≤ lev → 1 ≤ lev → lev < top → PB e m lev)
  | 0 => ⟨fun lev a b c => by obtain rfl : lev = top := by omega
                              exact hA, fun lev a b c => by omega⟩
  | k + 1 => by
    obtain ⟨i1, i2⟩ := pex_of11 top ht1 ht hA he hq k
    have hb : ∀ lev, top - (k + 1 : Nat) ≤ lev → 1 ≤ lev → lev < top → PB e m lev := fun lev a b c =>
      pb_down b (by omega) (he lev b c) (fun d => hq lev d c) (i1 (lev + 1) (by omega) (by omega) (by omega))
    refine ⟨fun lev a b c => ?_, hb⟩
    by_cases h : lev = top
    · subst h
      exact hA
    · exact pa_of_pb b (by omega) (hb lev a b (by omega))
/-- What is no operator of two. -/
theorem pex_prim {e : Ex} (hk : e.kind ≠ 5) (h : ∀ m, exOK e m = true → exN e = true → ∀ (d : Int) (rest : List Tok), 1 ≤ d → d + m ≤ 101 → Low 11 rest → Ev (fun n => pU n d (exK e ++ rest)) (.ok e rest)) : Pex e := by
  intro m hm hN
  have ho : ∀ lev, opK lev e = exK e := fun lev => by unfold opK parK; rw [if_neg (fun hc => hk hc.1)]
  have h11 : PA e m 11 := by
    intro d rest hd hmm hl
    refine Ev.succ (Ev.congr (h m hm hN d rest hd (by rcases hmm with h1 | ⟨h1, _⟩; exact h1; exact absurd h1 hk) hl) fun n => ?_)
    show pE (n + 1) 11 d (opK 11 e ++ rest) = _
    rw [pE, if_pos (by decide), ho]
  have hh := pex_of11 11 (by decide) (by decide) h11 (fun lev _ _ => by rw [ho, ho]) (fun lev d _ hc => by
    rcases hc with h1 | ⟨h1, _⟩
    · exact .inl h1
    · exact absurd h1 hk) 11
  exact ⟨fun lev a b => hh.1 lev (by omega) a b, fun lev a b => hh.2 lev (by omega) a (by omega)⟩
theorem level_le (op : Int) : lvlOf op ≤ 10 := by
  by_cases h : 0 < lvlOf op
  · exact (two_lvl op (two_cases h)).2
  · omega
theorem pL_op {lev : Int} {op : Int} (h : op ∈ twos) (hl : lvlOf op = lev) (n : Nat) (d : Int) (a : Ex) (r : List Tok) : pL (n + 1) lev d a (sg (sgT op) :: r) = (pE n (lev + 1) d r).bind fun b r => pL n lev d (.mk 5 op 0 bE [a, b]) r := by
  have hv := two_lvl op h
  have e : opAt lev (sg (sgT op) :: r) = op := by rw [opAt_hd, two_at op h lev (by rw [← hl]; exact lev_cases hv.1 hv.2), if_pos hl]
  rw [pL, e, if_neg (two_ne op h)]
  rfl
theorem pU_prim {t : Tok} (r : List Tok) (h : unAt [t] = 0) (n : Nat) {d : Int} (hd : d ≤ 100) : pU (n + 1) d (t :: r) = pP n d (t :: r) := by rw [pU, if_neg (by omega), unAt_hd, if_pos h]
theorem pex_two (op n : Int) (name : ByteArray) (a b : Ex) (ha : Pex a) (hb : Pex b) : Pex (.mk 5 op n name [a, b]) := by
  intro m hm hN
  rw [exOK_mk] at hm
  rw [exN_mk, exsN_cons, exsN_cons, exsN_nil] at hN
  simp only [Bool.and_eq_true, decide_eq_true_eq] at hm hN
  obtain ⟨⟨hm1, hf⟩, hs⟩ := hm
  obtain ⟨_, hNa, hNb, _⟩ := hN
  rw [exsOK_cons, exsOK_cons, exsOK_nil] at hs
  simp only [Bool.and_eq_true, and_true] at hs
  have hf' : 0 < lvlOf op ∧ n = 0 ∧ name = bE := by
    unfold formE at hf
    simp only [show ¬ (5 : Int) = 1 by decide, show ¬ (5 : Int) = 2 by decide, show ¬ (5 : Int) = 3 by decide, show ¬ (5 : Int) = 4 by decide, if_false, if_true, Bool.and_eq_true, decide_eq_true_eq, eB] at hf
    refine ⟨hf.1.1.1, hf.1.1.2, ?_⟩
    have h0 := hf.1.2
    obtain ⟨⟨l⟩⟩ := name
    have : l = [] := List.eq_nil_of_length_eq_zero h0
    rw [this]
    rfl
  obtain ⟨hl0, rfl, rfl⟩ := hf'
  have ht := two_cases hl0
  have hv := two_lvl op ht
  obtain ⟨aA, aB⟩ := ha (m - 1) hs.1 hNa
  obtain ⟨bA, bB⟩ := hb (m - 1) hs.2 hNb
  have hK : exK (.mk 5 op 0 bE [a, b]) = opK (lvlOf op) a ++ sg (sgT op) :: opK (lvlOf op + 1) b := by
    rw [exK_mk, exKs_cons, exKs_cons, exKs_nil]
    rfl
  have hin : ∀ lev, lev ≤ lvlOf op → opK lev (.mk 5 op 0 bE [a, b]) = exK (.mk 5 op 0 bE [a, b]) := fun lev h => by
    show parK lev (5, op, _) = _
    unfold parK
    rw [if_neg (fun hc => by have : lvlOf op < lev := hc.2; omega)]
  have hout : ∀ lev, lvlOf op < lev → opK lev (.mk 5 op 0 bE [a, b]) = sg [40] :: (exK (.mk 5 op 0 bE [a, b]) ++ [sg [41]]) := fun lev h => by
    show parK lev (5, op, _) = _
    unfold parK
    rw [if_pos ⟨rfl, h⟩]
  have hB : PB (.mk 5 op 0 bE [a, b]) m (lvlOf op) := by
    intro d rest x hd hmm hl hx
    have hdm : d + m ≤ 102 := by rcases hmm with h | h <;> omega
    rw [hin _ (Int.le_refl _), hK, List.append_assoc, List.cons_append]
    refine aB _ hv.1 hv.2 d _ _ hd (.inl (by omega)) (low_two ht _) ?_
    refine Ev.succ (Ev.congr (g := fun n => (pE n (lvlOf op + 1) d (opK (lvlOf op + 1) b ++ rest)).bind fun b r => pL n (lvlOf op) d (.mk 5 op 0 bE [a, b]) r) ?_ fun n => pL_op ht rfl n d a _)
    exact Ev.bind (bA _ (by omega) (by omega) d rest hd (.inl (by omega)) hl) hx
  have hlow := pex_of11 (e := .mk 5 op 0 bE [a, b]) (m := m) (lvlOf op) hv.1 (by omega) (pa_of_pb hv.1 hv.2 hB) (fun lev _ h => by rw [hin lev (by omega), hin (lev + 1) (by omega)]) (fun lev d h hc => by
    rcases hc with h1 | ⟨_, _, h1⟩
    · exact .inl h1
    · exact .inr ⟨rfl, by show lev + 1 ≤ lvlOf op; omega, h1⟩) 11
  have h11 : PA (.mk 5 op 0 bE [a, b]) m 11 := by
    intro d rest hd hmm hl
    have hdm : d + m ≤ 101 := by
      rcases hmm with h | ⟨_, h, _⟩
      · exact h
      · have : (11 : Int) ≤ lvlOf op := h
        omega
    rw [hout 11 (by omega), List.cons_append, List.append_assoc]
    refine Ev.succ (Ev.congr (g := fun n => pU n d (sg [40] :: (exK (.mk 5 op 0 bE [a, b]) ++ ([sg [41]] ++ rest)))) ?_ fun n => ?_)
    · refine Ev.succ (Ev.succ ?_)
      refine Ev.congr (g := fun n => (pE n 1 (d + 1) (exK (.mk 5 op 0 bE [a, b]) ++ ([sg [41]] ++ rest))).bind fun e r => (must [41] r).bind fun _ r => .ok e r) ?_ fun n => ?_
      · refine Ev.bind (a := .mk 5 op 0 bE [a, b]) (r := sg [41] :: rest) ?_ (Ev.now fun n => ?_)
        · have := hlow.1 1 (by omega) (by omega) (by omega) (d + 1) (sg [41] :: rest) (by omega) (.inr ⟨rfl, hv.1, by omega⟩) (low_cl 1 rest)
          rw [hin 1 hv.1] at this
          exact this
        · rw [must_sg]
          rfl
      · show pU (n + 1 + 1) d _ = _
        rw [pU_prim _ (by decide +kernel) _ (by omega), pP, if_pos (by rw [isS_sg]; rfl)]
        rfl
    · show pE (n + 1) 11 d _ = _
      rw [pE, if_pos (by decide)]
  have hhigh : ∀ (k : Nat), (∀ lev, 11 - (k : Int) ≤ lev → lvlOf op < lev → lev ≤ 11 → PA (.mk 5 op 0 bE [a, b]) m lev) ∧ (∀ lev, 11 - (k : Int) ≤ lev → lvlOf op < lev → lev ≤ 10 → PB (.mk 5 op 0 bE [a, b]) m lev) := by
    intro k
    induction k with
    | zero => exact ⟨fun lev p q r => by obtain rfl : lev = 11 := by omega
                                         exact h11, fun lev p q r => by omega⟩
    | succ k ih =>
      have hb : ∀ lev, 11 - ((k + 1 : Nat) : Int) ≤ lev → lvlOf op < lev → lev ≤ 10 → PB (.mk 5 op 0 bE [a, b]) m lev := fun lev p q r =>
        pb_down (by omega) r (by rw [hout lev q, hout (lev + 1) (by omega)]) (fun d hc => by
          rcases hc with h1 | ⟨_, h2, _⟩
          · exact .inl h1
          · have : lev ≤ lvlOf op := h2
            omega) (ih.1 (lev + 1) (by omega) (by omega) (by omega))
      refine ⟨fun lev p q r => ?_, hb⟩
      by_cases h : lev = 11
      · subst h
        exact h11
      · exact pa_of_pb (by omega) (by omega) (hb lev p q (by omega))
  refine ⟨fun lev p q => ?_, fun lev p q => ?_⟩
  · by_cases h : lev ≤ lvlOf op
    · exact hlow.1 lev (by omega) p h
    · exact (hhigh 11).1 lev (by omega) (by omega) q
  · by_cases h : lev < lvlOf op
    · exact hlow.2 lev (by omega) p h
    · by_cases h2 : lev = lvlOf op
      · subst h2
        exact hB
      · exact (hhigh 11).2 lev (by omega) (by omega) q
end Go.Proofs.YtakijoblbmfadaaGreatDoor

/- Every valid expression's tokens are parsed to it: no Go, no program. -/
namespace Go.Proofs.YtakijoblbmfadaaGreatDoor
open Go

theorem eB_eq {s : ByteArray} (h : eB s = true) : s = bE := by
  obtain ⟨⟨l⟩⟩ := s
  have h0 : (⟨⟨l⟩⟩ : ByteArray).size = 0 := by simpa [eB] using h
  have : l = [] := List.eq_nil_of_length_eq_zero h0
  rw [this]
  rfl
theorem ba_eq (s : ByteArray) : (⟨s.data.toList.toArray⟩ : ByteArray) = s := by
  obtain ⟨⟨l⟩⟩ := s
  rfl
theorem want_nm (s : ByteArray) (r : List Tok) : want 1 (nmK s :: r) = .ok s r := by
  unfold want
  rw [if_pos (show hdK (nmK s :: r) = 1 from rfl)]
  show PR.ok (⟨s.data.toList.toArray⟩ : ByteArray) r = _
  rw [ba_eq]
theorem dig_val {k : Nat} (h : k < 10) : (UInt8.ofNat (48 + k)).toNat = 48 + k := by
  rw [UInt8.toNat_ofNat']
  omega
theorem decV_digits (u : Nat) : decV 0 (Lib.decDigits u) = u := by
  induction u using Nat.strongRecOn with
  | ind u ih =>
    rw [Lib.decDigits]
    split
    · rename_i h
      rw [decV_cons, decV_nil, dig_val h]
      omega
    · rename_i h
      rw [decV_snoc, ih (u / 10) (by omega), dig_val (by omega)]
      omega
theorem digits_itoa (n : Int) (h : 0 ≤ n) : (decV 0 (Lib.itoa n) : Int) = n := by
  obtain ⟨u, rfl⟩ := Int.eq_ofNat_of_zero_le h
  rw [Lib.itoa_nonneg, decV_digits]
theorem formK_num {op n : Int} {name : ByteArray} {len : Nat} (h : formE 1 op n name len = true) : 0 ≤ n ∧ op = 0 ∧ name = bE ∧ len = 0 := by
  simp only [formE, if_true, Bool.and_eq_true, decide_eq_true_eq] at h
  exact ⟨h.1.1.1, h.1.1.2, eB_eq h.1.2, h.2⟩
theorem formE_truth {op n : Int} {name : ByteArray} {len : Nat} (h : formE 2 op n name len = true) : (n = 0 ∨ n = 1) ∧ op = 0 ∧ name = bE ∧ len = 0 := by
  simp only [formE, show ¬ (2 : Int) = 1 by decide, if_false, if_true, Bool.and_eq_true, decide_eq_true_eq] at h
  exact ⟨h.1.1.1, h.1.1.2, eB_eq h.1.2, h.2⟩
theorem formE_var {op n : Int} {name : ByteArray} {len : Nat} (h : formE 3 op n name len = true) : nmB name = true ∧ op = 0 ∧ n = 0 ∧ len = 0 := by
  simp only [formE, show ¬ (3 : Int) = 1 by decide, show ¬ (3 : Int) = 2 by decide, if_false, if_true, Bool.and_eq_true, decide_eq_true_eq] at h
  exact ⟨h.1.1.1, h.1.1.2, h.1.2, h.2⟩
theorem formK_one {op n : Int} {name : ByteArray} {len : Nat} (h : formE 4 op n name len = true) : (20 ≤ op ∧ op ≤ 28) ∧ n = 0 ∧ name = bE ∧ len = 1 := by
  simp only [formE, show ¬ (4 : Int) = 1 by decide, show ¬ (4 : Int) = 2 by decide, show ¬ (4 : Int) = 3 by decide, if_false, if_true, Bool.and_eq_true, decide_eq_true_eq] at h
  exact ⟨h.1.1.1, h.1.1.2, eB_eq h.1.2, h.2⟩
theorem formK_two {op n : Int} {name : ByteArray} {len : Nat} (h : formE 5 op n name len = true) : 0 < lvlOf op ∧ n = 0 ∧ name = bE ∧ len = 2 := by
  simp only [formE, show ¬ (5 : Int) = 1 by decide, show ¬ (5 : Int) = 2 by decide, show ¬ (5 : Int) = 3 by decide, show ¬ (5 : Int) = 4 by decide, if_false, if_true, Bool.and_eq_true, decide_eq_true_eq] at h
  exact ⟨h.1.1.1, h.1.1.2, eB_eq h.1.2, h.2⟩
theorem formK_index {op n : Int} {name : ByteArray} {len : Nat} (h : formE 6 op n name len = true) : nmB name = true ∧ op = 0 ∧ n = 0 ∧ len = 1 := by
  simp only [formE, show ¬ (6 : Int) = 1 by decide, show ¬ (6 : Int) = 2 by decide, show ¬ (6 : Int) = 3 by decide, show ¬ (6 : Int) = 4 by decide, show ¬ (6 : Int) = 5 by decide, if_false, if_true, Bool.and_eq_true, decide_eq_true_eq] at h
  exact ⟨h.1.1.1, h.1.1.2, h.1.2, h.2⟩
theorem formE_call {op n : Int} {name : ByteArray} {len : Nat} (h : formE 7 op n name len = true) : nmB name = true ∧ op = 0 ∧ n = 0 ∧ len ≤ 8 := by
  simp only [formE, show ¬ (7 : Int) = 1 by decide, show ¬ (7 : Int) = 2 by decide, show ¬ (7 : Int) = 3 by decide, show ¬ (7 : Int) = 4 by decide, show ¬ (7 : Int) = 5 by decide, show ¬ (7 : Int) = 6 by decide, if_false, if_true, Bool.and_eq_true, decide_eq_true_eq] at h
  exact ⟨h.1.1.1, h.1.1.2, h.1.2, h.2⟩
theorem formE_read {op n : Int} {name : ByteArray} {len : Nat} (h : formE 8 op n name len = true) : op = 0 ∧ n = 0 ∧ name = bE ∧ len = 0 := by
  simp only [formE, show ¬ (8 : Int) = 1 by decide, show ¬ (8 : Int) = 2 by decide, show ¬ (8 : Int) = 3 by decide, show ¬ (8 : Int) = 4 by decide, show ¬ (8 : Int) = 5 by decide, show ¬ (8 : Int) = 6 by decide, show ¬ (8 : Int) = 7 by decide, if_false, if_true, Bool.and_eq_true, decide_eq_true_eq] at h
  exact ⟨h.1.1.1, h.1.1.2, eB_eq h.1.2, h.2⟩
theorem formK_kind {k op n : Int} {name : ByteArray} {len : Nat} (h : formE k op n name len = true) : k = 1 ∨ k = 2 ∨ k = 3 ∨ k = 4 ∨ k = 5 ∨ k = 6 ∨ k = 7 ∨ k = 8 := by
  unfold formE at h
  by_cases h1 : k = 1
  · exact .inl h1
  by_cases h2 : k = 2
  · exact .inr (.inl h2)
  by_cases h3 : k = 3
  · exact .inr (.inr (.inl h3))
  by_cases h4 : k = 4
  · exact .inr (.inr (.inr (.inl h4)))
  by_cases h5 : k = 5
  · exact .inr (.inr (.inr (.inr (.inl h5))))
  by_cases h6 : k = 6
  · exact .inr (.inr (.inr (.inr (.inr (.inl h6)))))
  by_cases h7 : k = 7
  · exact .inr (.inr (.inr (.inr (.inr (.inr (.inl h7))))))
  by_cases h8 : k = 8
  · exact .inr (.inr (.inr (.inr (.inr (.inr (.inr h8))))))
  rw [if_neg h1, if_neg h2, if_neg h3, if_neg h4, if_neg h5, if_neg h6, if_neg h7, if_neg h8] at h
  cases h
/-- A token that begins an operand without an operator. -/
theorem ev_prim {e : Ex} {t : Tok} {r rest : List Tok} {d : Int} (hd : d ≤ 100) (h0 : unAt [t] = 0) (h : Ev (fun n => pP (n + 1) d (t :: r)) (.ok e rest)) : Ev (fun n => pU n d (t :: r)) (.ok e rest) :=
  Ev.succ (Ev.congr (Ev.succ h) fun n => pU_prim r h0 n hd)
theorem unAt_not {t : Tok} (h : t.kind ≠ 2) : unAt [t] = 0 := unFrom_not h ones
theorem pP_name (n : Nat) (d : Int) (s : ByteArray) (r : List Tok) : pP (n + 1) d (nmK s :: r) = pN n d s r := by
  have hk : (nmK s).kind ≠ 2 := by show (1 : Int) ≠ 2; decide
  rw [pP, isS_not hk, isS_not hk, isS_not hk, isS_not hk, if_neg (by simp), if_neg (by simp), if_neg (by simp), if_neg (by simp), if_neg (by show ¬ (1 : Int) = 0; decide), want_nm]
  rfl
theorem pex_num (op n : Int) (name : ByteArray) (args : List Ex) : Pex (.mk 1 op n name args) := by
  refine pex_prim (by show (1 : Int) ≠ 5; decide) fun m hm hN d rest hd hdm hl => ?_
  rw [exOK_mk] at hm
  rw [exN_mk] at hN
  simp only [Bool.and_eq_true, decide_eq_true_eq] at hm hN
  obtain ⟨h0, rfl, rfl, hlen⟩ := formK_num hm.1.2
  obtain rfl : args = [] := List.eq_nil_of_length_eq_zero hlen
  have hK : exK (.mk 1 0 n bE []) = [nuK n] := by rw [exK_mk]; rfl
  rw [hK, List.cons_append]
  have hk : (nuK n).kind ≠ 2 := by show (0 : Int) ≠ 2; decide
  refine ev_prim (by omega) (unAt_not hk) (Ev.now fun q => ?_)
  rw [pP, isS_not hk, isS_not hk, isS_not hk, isS_not hk, if_neg (by simp), if_neg (by simp), if_neg (by simp), if_neg (by simp), if_pos (by rfl)]
  show PR.ok (Ex.mk 1 0 (decV 0 (Lib.itoa n)) bE []) rest = _
  rw [digits_itoa n h0]
theorem pex_truth (op n : Int) (name : ByteArray) (args : List Ex) : Pex (.mk 2 op n name args) := by
  refine pex_prim (by show (2 : Int) ≠ 5; decide) fun m hm hN d rest hd hdm hl => ?_
  rw [exOK_mk] at hm
  simp only [Bool.and_eq_true, decide_eq_true_eq] at hm
  obtain ⟨h0, rfl, rfl, hlen⟩ := formE_truth hm.1.2
  obtain rfl : args = [] := List.eq_nil_of_length_eq_zero hlen
  have hK : exK (.mk 2 0 n bE []) = [sg (boolT (decide (n = 1)))] := by rw [exK_mk]; rfl
  rw [hK, List.cons_append]
  rcases h0 with rfl | rfl
  · refine ev_prim (by omega) (by decide +kernel) (Ev.now fun q => ?_)
    rw [pP, isS_sg, isS_sg, isS_sg, if_neg (by decide), if_neg (by decide), if_pos (by decide)]
    rfl
  · refine ev_prim (by omega) (by decide +kernel) (Ev.now fun q => ?_)
    rw [pP, isS_sg, isS_sg, if_neg (by decide), if_pos (by decide)]
    rfl
theorem pex_read (op n : Int) (name : ByteArray) (args : List Ex) : Pex (.mk 8 op n name args) := by
  refine pex_prim (by show (8 : Int) ≠ 5; decide) fun m hm hN d rest hd hdm hl => ?_
  rw [exOK_mk] at hm
  simp only [Bool.and_eq_true, decide_eq_true_eq] at hm
  obtain ⟨rfl, rfl, rfl, hlen⟩ := formE_read hm.1.2
  obtain rfl : args = [] := List.eq_nil_of_length_eq_zero hlen
  have hK : exK (.mk 8 0 0 bE []) = [sg sRead, sg [40], sg [41]] := by rw [exK_mk]; rfl
  rw [hK, List.cons_append]
  refine ev_prim (by omega) (by decide +kernel) (Ev.now fun q => ?_)
  rw [pP, isS_sg, isS_sg, isS_sg, isS_sg, if_neg (by decide), if_neg (by decide), if_neg (by decide), if_pos (by decide)]
  show (must [40] (sg [40] :: sg [41] :: rest)).bind _ = _
  rw [must_sg]
  dsimp only [PR.bind]
  rw [must_sg]
theorem pex_var (op n : Int) (name : ByteArray) (args : List Ex) : Pex (.mk 3 op n name args) := by
  refine pex_prim (by show (3 : Int) ≠ 5; decide) fun m hm hN d rest hd hdm hl => ?_
  rw [exOK_mk] at hm
  simp only [Bool.and_eq_true, decide_eq_true_eq] at hm
  obtain ⟨_, rfl, rfl, hlen⟩ := formE_var hm.1.2
  obtain rfl : args = [] := List.eq_nil_of_length_eq_zero hlen
  have hK : exK (.mk 3 0 0 name []) = [nmK name] := by rw [exK_mk]; rfl
  rw [hK, List.cons_append]
  refine ev_prim (by omega) (unAt_not (by show (1 : Int) ≠ 2; decide)) (Ev.succ (Ev.now fun q => ?_))
  show pP (q + 1 + 1) d (nmK name :: rest) = _
  rw [pP_name, pN, hl.2.1, hl.2.2, if_neg (by simp), if_neg (by simp)]
/-- An expression alone, at the first level. -/
theorem pex_top {e : Ex} (h : Pex e) {m : Nat} (hm : exOK e m = true) (hN : exN e = true) {d : Int} (hd : 1 ≤ d) (hdm : d + m ≤ 101) {rest : List Tok} (hl : Low 1 rest) : Ev (fun n => pE n 1 d (exK e ++ rest)) (.ok e rest) := by
  have := (h m hm hN).1 1 (by decide) (by decide) d rest hd (.inl hdm) hl
  have ho : opK 1 e = exK e := by
    unfold opK parK
    obtain ⟨k, op, n, name, args⟩ := e
    rw [if_neg]
    rintro ⟨hk, hlv⟩
    obtain rfl : k = 5 := hk
    rw [exOK_mk] at hm
    simp only [Bool.and_eq_true, decide_eq_true_eq] at hm
    have := (formK_two hm.1.2).1
    have h2 : lvlOf op < 1 := hlv
    omega
  rw [ho] at this
  exact this
theorem kind_ne {e : Ex} (h : e.kind ≠ 5) (lev : Int) : opK lev e = exK e := by unfold opK parK; rw [if_neg (fun hc => h hc.1)]
theorem pex_one (op n : Int) (name : ByteArray) (a : Ex) (ha : Pex a) : Pex (.mk 4 op n name [a]) := by
  refine pex_prim (by show (4 : Int) ≠ 5; decide) fun m hm hN d rest hd hdm hl => ?_
  rw [exOK_mk, exsOK_cons, exsOK_nil] at hm
  rw [exN_mk, exsN_cons, exsN_nil] at hN
  simp only [Bool.and_eq_true, decide_eq_true_eq, and_true] at hm hN
  obtain ⟨ho, rfl, rfl, hlen⟩ := formK_one hm.1.2
  have hc := one_cases ho
  have hu : ∀ r, unAt (sg (sgT op) :: r) = op := fun r => by rw [unAt_hd, one_at op hc]
  by_cases h23 : 23 ≤ op
  · have hK : exK (.mk 4 op 0 bE [a]) = sg (sgT op) :: sg [40] :: (exK a ++ [sg [41]]) := by
      rw [exK_mk, exKs_cons, exKs_nil]
      show (if 23 ≤ op then _ else _) = _
      rw [if_pos h23]
      rfl
    rw [hK, List.cons_append, List.cons_append, List.append_assoc]
    refine Ev.succ (Ev.congr (g := fun q => (pE q 1 (d + 1) (exK a ++ ([sg [41]] ++ rest))).bind fun e r => (must [41] r).bind fun _ r => .ok (.mk 4 op 0 bE [e]) r) ?_ fun q => ?_)
    · refine Ev.bind (a := a) (r := sg [41] :: rest) (pex_top ha hm.2 hN.2 (by omega) (by omega) (low_cl 1 rest)) (Ev.now fun q => ?_)
      rw [must_sg]
      rfl
    · show pU (q + 1) d _ = _
      rw [pU, if_neg (by omega), hu, if_neg (by omega), if_pos h23]
      show (must [40] (sg [40] :: _)).bind _ = _
      rw [must_sg]
      rfl
  · have hK : exK (.mk 4 op 0 bE [a]) = sg (sgT op) :: opK 11 a := by
      rw [exK_mk, exKs_cons, exKs_nil]
      show (if 23 ≤ op then _ else _) = _
      rw [if_neg h23]
      rfl
    rw [hK, List.cons_append]
    refine Ev.succ (Ev.congr (g := fun q => (pU q (d + 1) (opK 11 a ++ rest)).bind fun e r => .ok (.mk 4 op 0 bE [e]) r) ?_ fun q => ?_)
    · refine Ev.bind (a := a) (r := rest) ?_ (Ev.now fun q => rfl)
      obtain ⟨N, hA⟩ := (ha (m - 1) hm.2 hN.2).1 11 (by decide) (by decide) (d + 1) rest (by omega) (.inl (by omega)) hl
      refine ⟨N, fun q hq => ?_⟩
      have := hA (q + 1) (by omega)
      dsimp only at this
      rw [pE, if_pos (by decide)] at this
      exact this
    · show pU (q + 1) d _ = _
      rw [pU, if_neg (by omega), hu, if_neg (by omega), if_neg h23]
      rfl
theorem pex_index (op n : Int) (name : ByteArray) (a : Ex) (ha : Pex a) : Pex (.mk 6 op n name [a]) := by
  refine pex_prim (by show (6 : Int) ≠ 5; decide) fun m hm hN d rest hd hdm hl => ?_
  rw [exOK_mk, exsOK_cons, exsOK_nil] at hm
  rw [exN_mk, exsN_cons, exsN_nil] at hN
  simp only [Bool.and_eq_true, decide_eq_true_eq, and_true] at hm hN
  obtain ⟨_, rfl, rfl, hlen⟩ := formK_index hm.1.2
  have hK : exK (.mk 6 0 0 name [a]) = nmK name :: sg [91] :: (exK a ++ [sg [93]]) := by
    rw [exK_mk, exKs_cons, exKs_nil]
    rfl
  rw [hK, List.cons_append, List.cons_append, List.append_assoc]
  refine ev_prim (by omega) (unAt_not (by show (1 : Int) ≠ 2; decide)) (Ev.succ (Ev.congr (g := fun q => (pE q 1 (d + 1) (exK a ++ ([sg [93]] ++ rest))).bind fun e r => (must [93] r).bind fun _ r => .ok (.mk 6 0 0 name [e]) r) ?_ fun q => ?_))
  · refine Ev.bind (a := a) (r := sg [93] :: rest) (pex_top ha hm.2 hN.2 (by omega) (by omega) (low_sq 1 rest)) (Ev.now fun q => ?_)
    rw [must_sg]
    rfl
  · rw [pP_name, pN, isS_sg, if_neg (by decide), isS_sg, if_pos (by decide)]
    rfl
/-- Lists of expressions in brackets. -/
theorem pAL_back : ∀ (l : List Ex) (e : Ex) (acc : List Ex), (∀ x ∈ e :: l, Pex x) → ∀ (m : Nat), exsOK (e :: l) m = true → exsN (e :: l) = true → ∀ (d : Int) (rest : List Tok), 1 ≤ d → d + m ≤ 101 →
    Ev (fun n => pAL n d acc (joinK ((e :: l).map exK) ++ sg [41] :: rest)) (.ok (acc ++ e :: l) rest)
  | [], e, acc, hP, m, hm, hN, d, rest, hd, hdm => by
    rw [exsOK_cons, exsOK_nil, Bool.and_true] at hm
    rw [exsN_cons, exsN_nil, Bool.and_true] at hN
    show Ev (fun n => pAL n d acc (exK e ++ sg [41] :: rest)) _
    refine Ev.succ (Ev.congr (g := fun n => (pE n 1 d (exK e ++ sg [41] :: rest)).bind fun e r => if isS [44] r = true then pAL n d (acc ++ [e]) r.tail else (must [41] r).bind fun _ r => .ok (acc ++ [e]) r) ?_ fun n => ?_)
    · refine Ev.bind (pex_top (hP e (List.mem_cons_self ..)) hm hN hd hdm (low_cl 1 rest)) (Ev.now fun n => ?_)
      rw [isS_sg, if_neg (by decide), must_sg]
      rfl
    · show pAL (n + 1) d acc _ = _
      rw [pAL]
  | f :: l, e, acc, hP, m, hm, hN, d, rest, hd, hdm => by
    rw [exsOK_cons, Bool.and_eq_true] at hm
    rw [exsN_cons, Bool.and_eq_true] at hN
    have e1 : joinK ((e :: f :: l).map exK) ++ sg [41] :: rest = exK e ++ sg [44] :: (joinK ((f :: l).map exK) ++ sg [41] :: rest) := by
      show (exK e ++ sg [44] :: joinK ((f :: l).map exK)) ++ _ = _
      rw [List.append_assoc, List.cons_append]
    rw [e1]
    refine Ev.succ (Ev.congr (g := fun n => (pE n 1 d (exK e ++ sg [44] :: (joinK ((f :: l).map exK) ++ sg [41] :: rest))).bind fun e r => if isS [44] r = true then pAL n d (acc ++ [e]) r.tail else (must [41] r).bind fun _ r => .ok (acc ++ [e]) r) ?_ fun n => ?_)
    · refine Ev.bind (pex_top (hP e (List.mem_cons_self ..)) hm.1 hN.1 hd hdm (low_co 1 _)) ?_
      refine Ev.congr (g := fun n => pAL n d (acc ++ [e]) (joinK ((f :: l).map exK) ++ sg [41] :: rest)) ?_ fun n => ?_
      · have := pAL_back l f (acc ++ [e]) (fun x hx => hP x (List.mem_cons_of_mem _ hx)) m hm.2 hN.2 d rest hd hdm
        rw [List.append_assoc] at this
        exact this
      · rw [isS_sg, if_pos (by decide)]
        rfl
    · show pAL (n + 1) d acc _ = _
      rw [pAL]
/-- What an expression's tokens do not begin with. -/
def HdP (l : List Tok) : Prop := ∃ t r, l = t :: r ∧ isS [41] [t] = false
theorem parK_hd (lev : Int) (c : Int × Int × List Tok) (h : HdP c.2.2) : HdP (parK lev c) := by
  unfold parK
  split
  · exact ⟨_, _, rfl, by decide +kernel⟩
  · exact h
theorem one_hd : ∀ op ∈ ones, isS [41] [sg (sgT op)] = false := by decide +kernel
mutual
theorem exK_hd : ∀ (e : Ex) (m : Nat), exOK e m = true → HdP (exK e)
  | .mk k op n name args, m, hm => by
    rw [exOK_mk] at hm
    simp only [Bool.and_eq_true, decide_eq_true_eq] at hm
    have hf := hm.1.2
    have hs := hm.2
    rw [exK_mk]
    obtain rfl | rfl | rfl | rfl | rfl | rfl | rfl | rfl := formK_kind hf
    · exact ⟨_, _, rfl, isS_not (by show (0 : Int) ≠ 2; decide)⟩
    · obtain ⟨h0, _⟩ := formE_truth hf
      rcases h0 with rfl | rfl
      · exact ⟨_, _, rfl, by decide +kernel⟩
      · exact ⟨_, _, rfl, by decide +kernel⟩
    · exact ⟨_, _, rfl, isS_not (by show (1 : Int) ≠ 2; decide)⟩
    · obtain ⟨ho, _⟩ := formK_one hf
      show HdP (if 23 ≤ op then _ else _)
      split
      · exact ⟨_, _, rfl, one_hd op (one_cases ho)⟩
      · exact ⟨_, _, rfl, one_hd op (one_cases ho)⟩
    · have h2 := (formK_two hf).2.2.2
      match args, h2, hs with
      | [a, b], _, hs =>
        rw [exsOK_cons, Bool.and_eq_true] at hs
        have ha := exK_hd a (m - 1) hs.1
        show HdP (parK (lvlOf op) (kidK (exKs [a, b]) 0) ++ _)
        have hp : HdP (parK (lvlOf op) (kidK (exKs [a, b]) 0)) := parK_hd _ _ (by rw [exKs_cons]; exact ha)
        obtain ⟨t, r, e, h⟩ := hp
        rw [e]
        exact ⟨t, _, rfl, h⟩
    · exact ⟨_, _, rfl, isS_not (by show (1 : Int) ≠ 2; decide)⟩
    · exact ⟨_, _, rfl, isS_not (by show (1 : Int) ≠ 2; decide)⟩
    · exact ⟨_, _, rfl, by decide +kernel⟩
end
theorem pA_back (l : List Ex) (hP : ∀ x ∈ l, Pex x) (m : Nat) (hm : exsOK l m = true) (hN : exsN l = true) (d : Int) (rest : List Tok) (hd : 1 ≤ d) (hdm : d + m ≤ 101) :
    Ev (fun n => pA n d (joinK (l.map exK) ++ sg [41] :: rest)) (.ok l rest) := by
  cases l with
  | nil =>
    refine Ev.succ (Ev.now fun n => ?_)
    show pA (n + 1) d (sg [41] :: rest) = _
    rw [pA, isS_sg, if_pos (by decide)]
    rfl
  | cons e l =>
    have h0 : exOK e m = true := by rw [exsOK_cons, Bool.and_eq_true] at hm; exact hm.1
    obtain ⟨t, r, he, hh⟩ := exK_hd e m h0
    refine Ev.succ (Ev.congr (pAL_back l e [] hP m hm hN d rest hd hdm) fun n => ?_)
    show pA (n + 1) d _ = _
    have hj : ∃ q, joinK ((e :: l).map exK) ++ sg [41] :: rest = t :: q := by
      cases l with
      | nil => exact ⟨r ++ sg [41] :: rest, by show exK e ++ _ = _; rw [he]; rfl⟩
      | cons f l => exact ⟨_, by show (exK e ++ _) ++ _ = _; rw [he]; rfl⟩
    obtain ⟨q, hq⟩ := hj
    rw [hq, pA, isS_hd, if_neg]
    intro hc
    rw [isS_hd] at hh
    rw [hh] at hc
    cases hc
theorem pex_call (op n : Int) (name : ByteArray) (args : List Ex) (hP : ∀ x ∈ args, Pex x) : Pex (.mk 7 op n name args) := by
  refine pex_prim (by show (7 : Int) ≠ 5; decide) fun m hm hN d rest hd hdm hl => ?_
  rw [exOK_mk] at hm
  rw [exN_mk] at hN
  simp only [Bool.and_eq_true, decide_eq_true_eq] at hm hN
  obtain ⟨_, rfl, rfl, hlen⟩ := formE_call hm.1.2
  have hK : exK (.mk 7 0 0 name args) = nmK name :: sg [40] :: (joinK (args.map exK) ++ [sg [41]]) := by
    rw [exK_mk, exKs_map]
    show nmK name :: sg [40] :: (joinK ((args.map fun e => (e.kind, e.op, exK e)).map (·.2.2)) ++ [sg [41]]) = _
    rw [List.map_map]
    rfl
  rw [hK, List.cons_append, List.cons_append, List.append_assoc]
  refine ev_prim (by omega) (unAt_not (by show (1 : Int) ≠ 2; decide)) (Ev.succ (Ev.congr (g := fun q => (pA q (d + 1) (joinK (args.map exK) ++ ([sg [41]] ++ rest))).bind fun es r => .ok (.mk 7 0 0 name es) r) ?_ fun q => ?_))
  · exact Ev.bind (pA_back args hP (m - 1) hm.2 hN.2 (d + 1) rest (by omega) (by omega)) (Ev.now fun q => rfl)
  · rw [pP_name, pN, isS_sg, if_pos (by decide)]
    rfl
mutual
theorem pex_all : ∀ (e : Ex), Pex e
  | .mk k op n name args => by
    have hall := pexs_all args
    intro m hm hN
    have hm' := hm
    rw [exOK_mk] at hm'
    simp only [Bool.and_eq_true, decide_eq_true_eq] at hm'
    have hf := hm'.1.2
    obtain rfl | rfl | rfl | rfl | rfl | rfl | rfl | rfl := formK_kind hf
    · exact pex_num op n name args m hm hN
    · exact pex_truth op n name args m hm hN
    · exact pex_var op n name args m hm hN
    · have h2 := (formK_one hf).2.2.2
      match args, h2, hall, hm, hN with
      | [a], _, hall, hm, hN => exact pex_one op n name a (hall a (by simp)) m hm hN
    · have h2 := (formK_two hf).2.2.2
      match args, h2, hall, hm, hN with
      | [a, b], _, hall, hm, hN => exact pex_two op n name a b (hall a (by simp)) (hall b (by simp)) m hm hN
    · have h2 := (formK_index hf).2.2.2
      match args, h2, hall, hm, hN with
      | [a], _, hall, hm, hN => exact pex_index op n name a (hall a (by simp)) m hm hN
    · exact pex_call op n name args hall m hm hN
    · exact pex_read op n name args m hm hN
theorem pexs_all : ∀ (l : List Ex), ∀ x ∈ l, Pex x
  | [] => fun x h => by simp at h
  | e :: r => List.forall_mem_cons.2 ⟨pex_all e, pexs_all r⟩
end
end Go.Proofs.YtakijoblbmfadaaGreatDoor
