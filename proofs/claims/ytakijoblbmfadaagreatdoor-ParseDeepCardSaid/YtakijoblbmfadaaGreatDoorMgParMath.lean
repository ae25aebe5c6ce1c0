import Derived.Test.YtakijoblbmfadaaGreatDoorMgWrapMath
set_option linter.unusedSimpArgs false
set_option linter.unusedVariables false
/- Programs out of tokens, as a plain function: the grammar, with what does not fit, and what stands too deep, at its place: no Go, no program. -/
namespace Go.Proofs.YtakijoblbmfadaaGreatDoor
open Go

/-- What became of a try: something and the tokens behind it; or the tokens from that on that does not fit, or that stands too deep; or (out) it was not looked at to the end. -/
inductive PR (α : Type) where
  | ok (a : α) (r : List Tok)
  | bad (r : List Tok)
  | deep (r : List Tok)
  | out
def PR.bind {α β : Type} (x : PR α) (f : α → List Tok → PR β) : PR β :=
  match x with
  | .ok a r => f a r
  | .bad r => .bad r
  | .deep r => .deep r
  | .out => .out
def isS (s : List UInt8) (l : List Tok) : Bool := match l with | t :: _ => decide (t.kind = 2) && t.text == s | [] => false
def hdK (l : List Tok) : Int := match l with | t :: _ => t.kind | [] => 3
def hdT (l : List Tok) : List UInt8 := match l with | t :: _ => t.text | [] => []
def must (s : List UInt8) (l : List Tok) : PR Unit := if isS s l then .ok () l.tail else .bad l
def want (k : Int) (l : List Tok) : PR ByteArray := if hdK l = k then .ok ⟨(hdT l).toArray⟩ l.tail else .bad l
def sgT (op : Int) : List UInt8 := (sgnOf op).data.toList
/-- The operator of two of a level that stands here; of one; 0: none. -/
def opFrom (lev : Int) (l : List Tok) : List Int → Int
  | [] => 0
  | op :: r => if lvlOf op = lev ∧ isS (sgT op) l = true then op else opFrom lev l r
def twos : List Int := [1, 2, 3, 4, 5, 6, 7, 8, 9, 10, 11, 12, 13, 14, 15, 16, 17, 18, 19]
def ones : List Int := [20, 21, 22, 23, 24, 25, 26, 27, 28]
def opAt (lev : Int) (l : List Tok) : Int := opFrom lev l twos
def unFrom (l : List Tok) : List Int → Int
  | [] => 0
  | op :: r => if isS (sgT op) l = true then op else unFrom l r
def unAt (l : List Tok) : Int := unFrom l ones
def bE : ByteArray := ⟨#[]⟩
def sTrue : List UInt8 := [116, 114, 117, 101]
def sFalse : List UInt8 := [102, 97, 108, 115, 101]
def sRead : List UInt8 := [114, 101, 97, 100]
def sInt : List UInt8 := [105, 110, 116]
def sBool : List UInt8 := [98, 111, 111, 108]
def sIf : List UInt8 := [105, 102]
def sElse : List UInt8 := [101, 108, 115, 101]
def sWhile : List UInt8 := [119, 104, 105, 108, 101]
def sBreak : List UInt8 := [98, 114, 101, 97, 107]
def sCont : List UInt8 := [99, 111, 110, 116, 105, 110, 117, 101]
def sRet : List UInt8 := [114, 101, 116, 117, 114, 110]
def sPrint : List UInt8 := [112, 114, 105, 110, 116]

mutual
/-- An expression of a level, at a depth. -/
def pE : Nat → Int → Int → List Tok → PR Ex
  | 0, _, _, _ => .out
  | n + 1, lev, d, l => if 10 < lev then pU n d l else (pE n (lev + 1) d l).bind fun a r => pL n lev d a r
/-- What comes behind an operand of a level. -/
def pL : Nat → Int → Int → Ex → List Tok → PR Ex
  | 0, _, _, _, _ => .out
  | n + 1, lev, d, a, l => if opAt lev l = 0 then .ok a l else (pE n (lev + 1) d l.tail).bind fun b r => pL n lev d (.mk 5 (opAt lev l) 0 bE [a, b]) r
def pU : Nat → Int → List Tok → PR Ex
  | 0, _, _ => .out
  | n + 1, d, l =>
    if 100 < d then .deep l
    else if unAt l = 0 then pP n d l
    else if 23 ≤ unAt l then (must [40] l.tail).bind fun _ r => (pE n 1 (d + 1) r).bind fun e r => (must [41] r).bind fun _ r => .ok (.mk 4 (unAt l) 0 bE [e]) r
    else (pU n (d + 1) l.tail).bind fun e r => .ok (.mk 4 (unAt l) 0 bE [e]) r
def pP : Nat → Int → List Tok → PR Ex
  | 0, _, _ => .out
  | n + 1, d, l =>
    if isS [40] l = true then (pE n 1 (d + 1) l.tail).bind fun e r => (must [41] r).bind fun _ r => .ok e r
    else if isS sTrue l = true then .ok (.mk 2 0 1 bE []) l.tail
    else if isS sFalse l = true then .ok (.mk 2 0 0 bE []) l.tail
    else if isS sRead l = true then (must [40] l.tail).bind fun _ r => (must [41] r).bind fun _ r => .ok (.mk 8 0 0 bE []) r
    else if hdK l = 0 then .ok (.mk 1 0 (decV 0 (hdT l)) bE []) l.tail
    else (want 1 l).bind fun s r => pN n d s r
/-- Behind a name. -/
def pN : Nat → Int → ByteArray → List Tok → PR Ex
  | 0, _, _, _ => .out
  | n + 1, d, s, l =>
    if isS [40] l = true then (pA n (d + 1) l.tail).bind fun es r => .ok (.mk 7 0 0 s es) r
    else if isS [91] l = true then (pE n 1 (d + 1) l.tail).bind fun e r => (must [93] r).bind fun _ r => .ok (.mk 6 0 0 s [e]) r
    else .ok (.mk 3 0 0 s []) l
def pA : Nat → Int → List Tok → PR (List Ex)
  | 0, _, _ => .out
  | n + 1, d, l => if isS [41] l = true then .ok [] l.tail else pAL n d [] l
/-- One more has to stand here. -/
def pAL : Nat → Int → List Ex → List Tok → PR (List Ex)
  | 0, _, _, _ => .out
  | n + 1, d, acc, l => (pE n 1 d l).bind fun e r => if isS [44] r = true then pAL n d (acc ++ [e]) r.tail else (must [41] r).bind fun _ r => .ok (acc ++ [e]) r
end
/-- An expression in brackets. -/
def pI (n : Nat) (l : List Tok) : PR Ex := (must [40] l).bind fun _ r => (pE n 1 1 r).bind fun e r => (must [41] r).bind fun _ r => .ok e r
def pTy (l : List Tok) : PR Int := if isS sInt l = true then .ok 1 l.tail else (must sBool l).bind fun _ r => .ok 2 r
def pSemi {α : Type} (x : PR α) : PR α := x.bind fun a r => (must [59] r).bind fun _ r => .ok a r
/-- A statement that begins with a name. -/
def pNm (n : Nat) (l : List Tok) : PR St := (want 1 l).bind fun s r =>
  if isS [40] r = true then (pA n 2 r.tail).bind fun es r => .ok (.mk 10 0 bE [.mk 7 0 0 s es] [] []) r
  else if isS [91] r = true then (pE n 1 1 r.tail).bind fun e r => (must [93] r).bind fun _ r => (must [61] r).bind fun _ r => (pE n 1 1 r).bind fun f r => .ok (.mk 3 0 s [e, f] [] []) r
  else (must [61] r).bind fun _ r => (pE n 1 1 r).bind fun e r => .ok (.mk 2 0 s [e] [] []) r
mutual
def pS : Nat → Int → List Tok → PR St
  | 0, _, _ => .out
  | n + 1, d, l =>
    if 100 < d then .deep l
    else if isS sInt l = true ∨ isS sBool l = true then pSemi ((pTy l).bind fun t r => (want 1 r).bind fun s r => (must [61] r).bind fun _ r => (pE n 1 1 r).bind fun e r => .ok (.mk 1 t s [e] [] []) r)
    else if isS sIf l = true then (pI n l.tail).bind fun e r => (pB n (d + 1) r).bind fun t r => pEl n d e t r
    else if isS sWhile l = true then (pI n l.tail).bind fun e r => (pB n (d + 1) r).bind fun t r => .ok (.mk 5 0 bE [e] t []) r
    else if isS sBreak l = true then pSemi (.ok (.mk 6 0 bE [] [] []) l.tail)
    else if isS sCont l = true then pSemi (.ok (.mk 7 0 bE [] [] []) l.tail)
    else if isS sRet l = true then pSemi ((pE n 1 1 l.tail).bind fun e r => .ok (.mk 8 0 bE [e] [] []) r)
    else if isS sPrint l = true then pSemi ((pI n l.tail).bind fun e r => .ok (.mk 9 0 bE [e] [] []) r)
    else pSemi (pNm n l)
def pEl : Nat → Int → Ex → List St → List Tok → PR St
  | 0, _, _, _, _ => .out
  | n + 1, d, e, t, l => if isS sElse l = true then (pB n (d + 1) l.tail).bind fun u r => .ok (.mk 4 0 bE [e] t u) r else .ok (.mk 4 0 bE [e] t []) l
def pB : Nat → Int → List Tok → PR (List St)
  | 0, _, _ => .out
  | n + 1, d, l => (must [123] l).bind fun _ r => pBL n d [] r
def pBL : Nat → Int → List St → List Tok → PR (List St)
  | 0, _, _, _ => .out
  | n + 1, d, acc, l => if isS [125] l = true then .ok acc l.tail else (pS n d l).bind fun s r => pBL n d (acc ++ [s]) r
end
/-- Parameters: one more has to stand here. -/
def pPL : Nat → List Pa → List Tok → PR (List Pa)
  | 0, _, _ => .out
  | n + 1, acc, l => (pTy l).bind fun t r => (want 1 r).bind fun s r => if isS [44] r = true then pPL n (acc ++ [⟨s, t⟩]) r.tail else (must [41] r).bind fun _ r => .ok (acc ++ [⟨s, t⟩]) r
def pPs (n : Nat) (l : List Tok) : PR (List Pa) := (must [40] l).bind fun _ r => if isS [41] r = true then .ok [] r.tail else pPL n [] r
def pFn (n : Nat) (t : Int) (s : ByteArray) (l : List Tok) : PR Fu := (pPs n l).bind fun ps r => (pB n 1 r).bind fun b r => .ok ⟨s, t, ps, b⟩ r
def pArr (s : ByteArray) (l : List Tok) : PR Ar := (want 0 l).bind fun t r => (must [93] r).bind fun _ r => (must [59] r).bind fun _ r => .ok ⟨s, decV 0 t.data.toList⟩ r
def pPr : Nat → Pr → List Tok → PR Pr
  | 0, _, _ => .out
  | n + 1, p, l => if hdK l = 3 then .ok p l else (pTy l).bind fun t r => (want 1 r).bind fun s r =>
      if t = 1 ∧ p.funcs = [] ∧ isS [91] r = true then (pArr s r.tail).bind fun a r => pPr n ⟨p.arrays ++ [a], p.funcs⟩ r
      else (pFn n t s r).bind fun f r => pPr n ⟨p.arrays, p.funcs ++ [f]⟩ r
end Go.Proofs.YtakijoblbmfadaaGreatDoor

/- What the plain parser leaves is a rest of what it was given, and with fuel enough it looks at all: no Go, no program. -/
namespace Go.Proofs.YtakijoblbmfadaaGreatDoor
open Go

/-- Tokens that end with the one end, and have no other. -/
def EndL (l : List Tok) : Prop := ∃ i e, l = i ++ [e] ∧ e.kind = 3 ∧ ∀ t ∈ i, t.kind ≠ 3
theorem EndL.ne {l : List Tok} (h : EndL l) : l ≠ [] := by obtain ⟨i, e, rfl, _⟩ := h; simp
theorem EndL.pos {l : List Tok} (h : EndL l) : 0 < l.length := List.length_pos_iff.2 h.ne
theorem EndL.tail {l : List Tok} (h : EndL l) (hk : hdK l ≠ 3) : EndL l.tail := by
  obtain ⟨i, e, rfl, he, hi⟩ := h
  cases i with
  | nil => exact absurd he hk
  | cons a i => exact ⟨i, e, rfl, he, fun t ht => hi t (List.mem_cons_of_mem _ ht)⟩
theorem isS_kind {s : List UInt8} {l : List Tok} (h : isS s l = true) : hdK l = 2 ∧ hdT l = s := by
  cases l with
  | nil => cases h
  | cons t r =>
    simp only [isS, Bool.and_eq_true, decide_eq_true_eq] at h
    exact ⟨h.1, by simpa [hdT] using h.2⟩
theorem EndL.sign {l : List Tok} (h : EndL l) {s : List UInt8} (hs : isS s l = true) : EndL l.tail := h.tail (by rw [(isS_kind hs).1]; decide)
theorem tail_len {l : List Tok} (h : EndL l) : l.tail.length + 1 = l.length := by
  have := h.pos
  rw [List.length_tail]
  omega
theorem opFrom_sign {lev : Int} {l : List Tok} : ∀ {ops : List Int}, opFrom lev l ops ≠ 0 → ∃ s, isS s l = true
  | [], h => absurd rfl h
  | op :: r, h => by
    rw [opFrom] at h
    split at h
    · rename_i hc
      exact ⟨_, hc.2⟩
    · exact opFrom_sign h
theorem unFrom_sign {l : List Tok} : ∀ {ops : List Int}, unFrom l ops ≠ 0 → ∃ s, isS s l = true
  | [], h => absurd rfl h
  | op :: r, h => by
    rw [unFrom] at h
    split at h
    · rename_i hc
      exact ⟨_, hc⟩
    · exact unFrom_sign h

/-- The rest is a rest, shorter by so much. -/
def RestOf (k : Nat) (l r : List Tok) : Prop := r <:+ l ∧ EndL r ∧ r.length + k ≤ l.length
def Fits {α : Type} (k : Nat) (l : List Tok) : PR α → Prop
  | .ok _ r => RestOf k l r
  | .bad r => RestOf 0 l r
  | .deep r => RestOf 0 l r
  | .out => True
theorem RestOf.self {l : List Tok} (h : EndL l) : RestOf 0 l l := ⟨List.suffix_refl _, h, Nat.le_refl _⟩
theorem RestOf.tail {l : List Tok} (h : EndL l) (hk : hdK l ≠ 3) : RestOf 1 l l.tail := ⟨List.tail_suffix l, h.tail hk, by rw [tail_len h]; exact Nat.le_refl _⟩
theorem RestOf.sign {l : List Tok} (h : EndL l) {s : List UInt8} (hs : isS s l = true) : RestOf 1 l l.tail := RestOf.tail h (by rw [(isS_kind hs).1]; decide)
theorem RestOf.trans {k m : Nat} {a b c : List Tok} (h : RestOf k a b) (g : RestOf m b c) : RestOf (k + m) a c := ⟨g.1.trans h.1, g.2.1, by have := h.2.2; have := g.2.2; omega⟩
theorem RestOf.mono {k m : Nat} {a b : List Tok} (h : RestOf k a b) (hm : m ≤ k) : RestOf m a b := ⟨h.1, h.2.1, by have := h.2.2; omega⟩
theorem Fits.mono {α : Type} {k m : Nat} {l : List Tok} {x : PR α} (h : Fits k l x) (hm : m ≤ k) : Fits m l x := by
  cases x with
  | ok a r => exact RestOf.mono (show RestOf k l r from h) hm
  | bad r => exact h
  | deep r => exact h
  | out => trivial
theorem Fits.from {α : Type} {k m n : Nat} {l r : List Tok} {x : PR α} (h : RestOf m l r) (g : Fits k r x) (hn : n ≤ m + k) : Fits n l x := by
  cases x with
  | ok a t => exact (h.trans (show RestOf k r t from g)).mono hn
  | bad t => exact (h.trans (show RestOf 0 r t from g)).mono (Nat.zero_le _)
  | deep t => exact (h.trans (show RestOf 0 r t from g)).mono (Nat.zero_le _)
  | out => trivial
theorem Fits.bind {α β : Type} {k m n : Nat} {l : List Tok} {x : PR α} {f : α → List Tok → PR β} (h : Fits k l x) (g : ∀ a r, x = .ok a r → EndL r → Fits m r (f a r)) (hn : n ≤ k + m) : Fits n l (x.bind f) := by
  cases x with
  | ok a r => exact Fits.from (show RestOf k l r from h) (g a r rfl (show RestOf k l r from h).2.1) hn
  | bad r => exact h
  | deep r => exact h
  | out => trivial
theorem Fits.self {α : Type} {l : List Tok} (h : EndL l) (a : α) : Fits 0 l (.ok a l) := RestOf.self h
theorem must_fits {l : List Tok} (h : EndL l) (s : List UInt8) : Fits 1 l (must s l) := by
  unfold must
  split
  · rename_i hs
    exact RestOf.sign h hs
  · exact RestOf.self h
theorem want_fits {l : List Tok} (h : EndL l) (k : Int) (hk : k ≠ 3) : Fits 1 l (want k l) := by
  unfold want
  split
  · rename_i hs
    exact RestOf.tail h (by rw [hs]; exact hk)
  · exact RestOf.self h
theorem fits_expr (n : Nat) : (∀ lev d l, EndL l → Fits 1 l (pE n lev d l)) ∧ (∀ lev d a l, EndL l → Fits 0 l (pL n lev d a l)) ∧ (∀ d l, EndL l → Fits 1 l (pU n d l)) ∧ (∀ d l, EndL l → Fits 1 l (pP n d l)) ∧
    (∀ d s l, EndL l → Fits 0 l (pN n d s l)) ∧ (∀ d l, EndL l → Fits 1 l (pA n d l)) ∧ (∀ d acc l, EndL l → Fits 1 l (pAL n d acc l)) := by
  induction n with
  | zero => exact ⟨fun _ _ _ _ => by rw [pE]; trivial, fun _ _ _ _ _ => by rw [pL]; trivial, fun _ _ _ => by rw [pU]; trivial, fun _ _ _ => by rw [pP]; trivial, fun _ _ _ _ => by rw [pN]; trivial, fun _ _ _ => by rw [pA]; trivial, fun _ _ _ _ => by rw [pAL]; trivial⟩
  | succ n ih =>
    obtain ⟨iE, iL, iU, iP, iN, iA, iAL⟩ := ih
    refine ⟨fun lev d l h => ?_, fun lev d a l h => ?_, fun d l h => ?_, fun d l h => ?_, fun d s l h => ?_, fun d l h => ?_, fun d acc l h => ?_⟩
    · rw [pE]
      split
      · exact iU d l h
      · exact (iE _ _ _ h).bind (fun a r _ hr => iL _ _ _ _ hr) (by omega)
    · rw [pL]
      split
      · exact Fits.self h _
      · rename_i ho
        obtain ⟨s, hs⟩ := opFrom_sign ho
        exact Fits.from (RestOf.sign h hs) ((iE _ _ _ (h.sign hs)).bind (n := 1) (fun a r _ hr => iL _ _ _ _ hr) (by omega)) (by omega)
    · rw [pU]
      split
      · exact RestOf.self h
      · split
        · exact iP d l h
        · rename_i ho
          obtain ⟨s, hs⟩ := unFrom_sign ho
          split
          · exact Fits.from (RestOf.sign h hs) ((must_fits (h.sign hs) _).bind (n := 0) (fun _ r _ hr => (iE _ _ _ hr).bind (n := 0) (fun e r _ hr => (must_fits hr _).bind (n := 0) (fun _ r _ hr => Fits.self hr _) (by omega)) (by omega)) (by omega)) (by omega)
          · exact Fits.from (RestOf.sign h hs) ((iU _ _ (h.sign hs)).bind (n := 0) (fun _ r _ hr => Fits.self hr _) (by omega)) (by omega)
    · rw [pP]
      split
      · rename_i hs
        exact Fits.from (RestOf.sign h hs) ((iE _ _ _ (h.sign hs)).bind (n := 0) (fun e r _ hr => (must_fits hr _).bind (n := 0) (fun _ r _ hr => Fits.self hr _) (by omega)) (by omega)) (by omega)
      · split
        · rename_i hs
          exact RestOf.sign h hs
        · split
          · rename_i hs
            exact RestOf.sign h hs
          · split
            · rename_i hs
              exact Fits.from (RestOf.sign h hs) ((must_fits (h.sign hs) _).bind (n := 0) (fun _ r _ hr => (must_fits hr _).bind (n := 0) (fun _ r _ hr => Fits.self hr _) (by omega)) (by omega)) (by omega)
            · split
              · rename_i hk
                exact RestOf.tail h (by rw [hk]; decide)
              · exact (want_fits h 1 (by decide)).bind (fun s r _ hr => iN _ _ _ hr) (by omega)
    · rw [pN]
      split
      · rename_i hs
        exact Fits.from (RestOf.sign h hs) ((iA _ _ (h.sign hs)).bind (n := 0) (fun _ r _ hr => Fits.self hr _) (by omega)) (by omega)
      · split
        · rename_i hs
          exact Fits.from (RestOf.sign h hs) ((iE _ _ _ (h.sign hs)).bind (n := 0) (fun e r _ hr => (must_fits hr _).bind (n := 0) (fun _ r _ hr => Fits.self hr _) (by omega)) (by omega)) (by omega)
        · exact Fits.self h _
    · rw [pA]
      split
      · rename_i hs
        exact RestOf.sign h hs
      · exact iAL _ _ _ h
    · rw [pAL]
      refine (iE _ _ _ h).bind (m := 0) (fun e r _ hr => ?_) (by omega)
      split
      · rename_i hs
        exact Fits.from (RestOf.sign hr hs) (iAL _ _ _ (hr.sign hs)) (by omega)
      · exact (must_fits hr _).bind (n := 0) (fun _ r _ hr => Fits.self hr _) (by omega)
theorem pE_fits {n : Nat} {lev d : Int} {l : List Tok} (h : EndL l) : Fits 1 l (pE n lev d l) := (fits_expr n).1 lev d l h
theorem pA_fits {n : Nat} {d : Int} {l : List Tok} (h : EndL l) : Fits 1 l (pA n d l) := (fits_expr n).2.2.2.2.2.1 d l h
theorem pI_fits {n : Nat} {l : List Tok} (h : EndL l) : Fits 1 l (pI n l) := by
  unfold pI
  exact (must_fits h _).bind (m := 0) (fun _ r _ hr => (pE_fits hr).bind (n := 0) (fun e r _ hr => (must_fits hr _).bind (n := 0) (fun _ r _ hr => Fits.self hr _) (by omega)) (by omega)) (by omega)
theorem pTy_fits {l : List Tok} (h : EndL l) : Fits 1 l (pTy l) := by
  unfold pTy
  split
  · rename_i hs
    exact RestOf.sign h hs
  · exact (must_fits h _).bind (m := 0) (fun _ r _ hr => Fits.self hr _) (by omega)
theorem pSemi_fits {α : Type} {k : Nat} {l : List Tok} {x : PR α} (h : Fits k l x) : Fits k l (pSemi x) := by
  unfold pSemi
  exact h.bind (m := 0) (fun _ r _ hr => (must_fits hr _).bind (n := 0) (fun _ r _ hr => Fits.self hr _) (by omega)) (by omega)
theorem pNm_fits {n : Nat} {l : List Tok} (h : EndL l) : Fits 1 l (pNm n l) := by
  unfold pNm
  refine (want_fits h 1 (by decide)).bind (m := 0) (fun s r _ hr => ?_) (by omega)
  split
  · rename_i hs
    exact Fits.from (RestOf.sign hr hs) ((pA_fits (hr.sign hs)).bind (n := 0) (fun _ r _ hr => Fits.self hr _) (by omega)) (by omega)
  · split
    · rename_i hs
      exact Fits.from (RestOf.sign hr hs) ((pE_fits (hr.sign hs)).bind (n := 0) (fun e r _ hr => (must_fits hr _).bind (n := 0) (fun _ r _ hr => (must_fits hr _).bind (n := 0) (fun _ r _ hr => (pE_fits hr).bind (n := 0) (fun _ r _ hr => Fits.self hr _) (by omega)) (by omega)) (by omega)) (by omega)) (by omega)
    · exact (must_fits hr _).bind (n := 0) (fun _ r _ hr => (pE_fits hr).bind (n := 0) (fun _ r _ hr => Fits.self hr _) (by omega)) (by omega)
theorem fits_stmt (n : Nat) : (∀ d l, EndL l → Fits 1 l (pS n d l)) ∧ (∀ d e t l, EndL l → Fits 0 l (pEl n d e t l)) ∧ (∀ d l, EndL l → Fits 1 l (pB n d l)) ∧ (∀ d acc l, EndL l → Fits 1 l (pBL n d acc l)) := by
  induction n with
  | zero => exact ⟨fun _ _ _ => by rw [pS]; trivial, fun _ _ _ _ _ => by rw [pEl]; trivial, fun _ _ _ => by rw [pB]; trivial, fun _ _ _ _ => by rw [pBL]; trivial⟩
  | succ n ih =>
    obtain ⟨iS, iEl, iB, iBL⟩ := ih
    refine ⟨fun d l h => ?_, fun d e t l h => ?_, fun d l h => ?_, fun d acc l h => ?_⟩
    · rw [pS]
      split
      · exact RestOf.self h
      · split
        · refine pSemi_fits ((pTy_fits h).bind (m := 0) (fun t r _ hr => (want_fits hr 1 (by decide)).bind (n := 0) (fun s r _ hr => (must_fits hr _).bind (n := 0) (fun _ r _ hr => (pE_fits hr).bind (n := 0) (fun _ r _ hr => Fits.self hr _) (by omega)) (by omega)) (by omega)) (by omega))
        · split
          · rename_i hs
            exact Fits.from (RestOf.sign h hs) ((pI_fits (h.sign hs)).bind (n := 0) (fun e r _ hr => (iB _ _ hr).bind (n := 0) (fun t r _ hr => iEl _ _ _ _ hr) (by omega)) (by omega)) (by omega)
          · split
            · rename_i hs
              exact Fits.from (RestOf.sign h hs) ((pI_fits (h.sign hs)).bind (n := 0) (fun e r _ hr => (iB _ _ hr).bind (n := 0) (fun t r _ hr => Fits.self hr _) (by omega)) (by omega)) (by omega)
            · split
              · rename_i hs
                exact pSemi_fits (show RestOf 1 l l.tail from RestOf.sign h hs)
              · split
                · rename_i hs
                  exact pSemi_fits (show RestOf 1 l l.tail from RestOf.sign h hs)
                · split
                  · rename_i hs
                    exact pSemi_fits (Fits.from (RestOf.sign h hs) ((pE_fits (h.sign hs)).bind (n := 0) (fun _ r _ hr => Fits.self hr _) (by omega)) (by omega))
                  · split
                    · rename_i hs
                      exact pSemi_fits (Fits.from (RestOf.sign h hs) ((pI_fits (h.sign hs)).bind (n := 0) (fun _ r _ hr => Fits.self hr _) (by omega)) (by omega))
                    · exact pSemi_fits (pNm_fits h)
    · rw [pEl]
      split
      · rename_i hs
        exact Fits.from (RestOf.sign h hs) ((iB _ _ (h.sign hs)).bind (n := 0) (fun _ r _ hr => Fits.self hr _) (by omega)) (by omega)
      · exact Fits.self h _
    · rw [pB]
      exact (must_fits h _).bind (m := 0) (fun _ r _ hr => (iBL _ _ _ hr).mono (by omega)) (by omega)
    · rw [pBL]
      split
      · rename_i hs
        exact RestOf.sign h hs
      · exact (iS _ _ h).bind (m := 0) (fun _ r _ hr => (iBL _ _ _ hr).mono (by omega)) (by omega)
theorem pS_fits {n : Nat} {d : Int} {l : List Tok} (h : EndL l) : Fits 1 l (pS n d l) := (fits_stmt n).1 d l h
theorem pB_fits {n : Nat} {d : Int} {l : List Tok} (h : EndL l) : Fits 1 l (pB n d l) := (fits_stmt n).2.2.1 d l h
theorem pPL_fits : ∀ (n : Nat) (acc : List Pa) (l : List Tok), EndL l → Fits 1 l (pPL n acc l)
  | 0, _, _, _ => by rw [pPL]; trivial
  | n + 1, acc, l, h => by
    rw [pPL]
    refine (pTy_fits h).bind (m := 0) (fun t r _ hr => (want_fits hr 1 (by decide)).bind (m := 0) (fun s r _ hr => ?_) (by omega)) (by omega)
    split
    · rename_i hs
      exact Fits.from (RestOf.sign hr hs) (pPL_fits n _ _ (hr.sign hs)) (by omega)
    · exact (must_fits hr _).bind (n := 0) (fun _ r _ hr => Fits.self hr _) (by omega)
theorem pPs_fits {n : Nat} {l : List Tok} (h : EndL l) : Fits 1 l (pPs n l) := by
  unfold pPs
  refine (must_fits h _).bind (m := 0) (fun _ r _ hr => ?_) (by omega)
  split
  · rename_i hs
    exact (show RestOf 1 r r.tail from RestOf.sign hr hs).mono (by omega)
  · exact (pPL_fits n _ _ hr).mono (by omega)
theorem pFn_fits {n : Nat} {t : Int} {s : ByteArray} {l : List Tok} (h : EndL l) : Fits 1 l (pFn n t s l) := by
  unfold pFn
  exact (pPs_fits h).bind (m := 0) (fun _ r _ hr => (pB_fits hr).bind (n := 0) (fun _ r _ hr => Fits.self hr _) (by omega)) (by omega)
theorem pArr_fits {s : ByteArray} {l : List Tok} (h : EndL l) : Fits 1 l (pArr s l) := by
  unfold pArr
  exact (want_fits h 0 (by decide)).bind (m := 0) (fun _ r _ hr => (must_fits hr _).bind (n := 0) (fun _ r _ hr => (must_fits hr _).bind (n := 0) (fun _ r _ hr => Fits.self hr _) (by omega)) (by omega)) (by omega)
theorem pPr_fits : ∀ (n : Nat) (p : Pr) (l : List Tok), EndL l → Fits 0 l (pPr n p l)
  | 0, _, _, _ => by rw [pPr]; trivial
  | n + 1, p, l, h => by
    rw [pPr]
    split
    · exact Fits.self h _
    · refine (pTy_fits h).bind (m := 0) (fun t r _ hr => (want_fits hr 1 (by decide)).bind (m := 0) (fun s r _ hr => ?_) (by omega)) (by omega)
      split
      · rename_i hs
        exact Fits.from (RestOf.sign hr hs.2.2) ((pArr_fits (hr.sign hs.2.2)).bind (n := 0) (fun _ r _ hr => pPr_fits n _ _ hr) (by omega)) (by omega)
      · exact (pFn_fits hr).bind (n := 0) (fun _ r _ hr => pPr_fits n _ _ hr) (by omega)
end Go.Proofs.YtakijoblbmfadaaGreatDoor
