import Derived.Lib.AtoiAllCases
import Derived.Lib.SlTrimSet
import Derived.Lib.IndexLaws
import Derived.Lib.Strings
set_option linter.unusedSimpArgs false
set_option linter.unusedVariables false
/- The tokens of a text as a plain function of its bytes (scan), and what of it the walks and the laws of the layer token ask: no Go, no program. -/
namespace Go.Proofs.YtakijoblbmfadaaGreatDoor
open Go

/-- A token: its kind, its text, its line. -/
structure Tok where
  kind : Int
  text : List UInt8
  line : Nat

def isLet (c : UInt8) : Bool := (65 ≤ c.toNat && c.toNat ≤ 90) || (97 ≤ c.toNat && c.toNat ≤ 122) || c.toNat == 95
def isDig (c : UInt8) : Bool := 48 ≤ c.toNat && c.toNat ≤ 57
def isAln (c : UInt8) : Bool := isLet c || isDig c
def isBlk (c : UInt8) : Bool := c.toNat == 32 || c.toNat == 9 || c.toNat == 13 || c.toNat == 10

def words : List (List UInt8) :=
  [[105, 110, 116], [98, 111, 111, 108], [105, 102], [101, 108, 115, 101], [119, 104, 105, 108, 101], [98, 114, 101, 97, 107],
   [99, 111, 110, 116, 105, 110, 117, 101], [114, 101, 116, 117, 114, 110], [112, 114, 105, 110, 116], [114, 101, 97, 100],
   [116, 114, 117, 101], [102, 97, 108, 115, 101], [105, 56], [105, 49, 54], [105, 51, 50], [117, 56], [117, 49, 54], [117, 51, 50]]
def wordB (t : List UInt8) : Bool := words.contains t
def nameB (t : List UInt8) : Bool := (!t.isEmpty) && decide (t.length ≤ 20) && isLet (t.headD 0) && t.all isAln && !wordB t

/-- The number that digits spell, behind those that spell acc. -/
def decV (acc : Nat) (l : List UInt8) : Nat := l.foldl (fun a c => a * 10 + (c.toNat - 48)) acc
theorem decV_nil (acc : Nat) : decV acc [] = acc := by unfold decV; rw [List.foldl_nil]
theorem decV_cons (acc : Nat) (c : UInt8) (r : List UInt8) : decV acc (c :: r) = decV (acc * 10 + (c.toNat - 48)) r := by unfold decV; rw [List.foldl_cons]
theorem decV_app (a b : List UInt8) (acc : Nat) : decV acc (a ++ b) = decV (decV acc a) b := by unfold decV; rw [List.foldl_append]
theorem decV_snoc (l : List UInt8) (acc : Nat) (c : UInt8) : decV acc (l ++ [c]) = decV acc l * 10 + (c.toNat - 48) := by rw [decV_app, decV_cons, decV_nil]
def numB (t : List UInt8) : Bool := (!t.isEmpty) && t.all isDig && (t == [48] || t.headD 0 != 48) && decide (decV 0 t < 9223372036854775808)

/-- The kind of a row of letters and digits: 2 a word, 1 a name, 0 a number. -/
def kindT (t : List UInt8) : Option Int := if wordB t then some 2 else if nameB t then some 1 else if numB t then some 0 else none

def signs2 : List (List UInt8) := [[61, 61], [33, 61], [60, 61], [62, 61], [60, 60], [62, 62], [38, 38], [124, 124]]
def signs1 : List (List UInt8) := [[40], [41], [123], [125], [91], [93], [44], [59], [61], [60], [62], [43], [45], [42], [47], [37], [38], [124], [94], [126], [33]]
def allSigns : List (List UInt8) := [62, 62, 62] :: (signs2 ++ signs1)
def signL (l : List UInt8) : List UInt8 := (allSigns.find? (fun t => Lib.hasPrefix l t)).getD []

/-- The token that a text begins with, if it begins with one. -/
def one (l : List UInt8) : Option (Int × List UInt8) :=
  if l.takeWhile isAln ≠ [] then (kindT (l.takeWhile isAln)).map fun k => (k, l.takeWhile isAln)
  else if signL l ≠ [] then some (2, signL l) else none

/-- The tokens of a text from a line on, and the line of its fault, if it has one. -/
def scan : List UInt8 → Nat → List Tok × Option Nat
  | [], line => ([⟨3, [], line⟩], none)
  | c :: r, line =>
    if c.toNat == 10 then scan r (line + 1)
    else if isBlk c then scan r line
    else if c.toNat == 47 && r.head? == some 47 then scan (r.dropWhile (fun d => d.toNat != 10)) line
    else match one (c :: r) with
      | none => ([], some line)
      | some (k, t) => (⟨k, t, line⟩ :: (scan (r.drop (t.length - 1)) line).1, (scan (r.drop (t.length - 1)) line).2)
termination_by l => l.length
decreasing_by
  all_goals simp only [List.length_cons, List.length_drop]
  all_goals first
    | omega
    | exact Nat.lt_succ_of_le (List.IsSuffix.length_le (List.dropWhile_suffix _))

/-! ### letters and digits -/
def letZ (c : Int) : Bool := decide ((65 ≤ c ∧ c ≤ 90) ∨ (97 ≤ c ∧ c ≤ 122) ∨ c = 95)
def digZ (c : Int) : Bool := decide (48 ≤ c ∧ c ≤ 57)
theorem letZ_eq (c : UInt8) : letZ (c.toNat : Int) = isLet c := by
  unfold letZ isLet
  rw [Bool.eq_iff_iff]
  simp
  omega
theorem digZ_eq (c : UInt8) : digZ (c.toNat : Int) = isDig c := by
  unfold digZ isDig
  rw [Bool.eq_iff_iff]
  simp
  omega
theorem letZ_high (c : Int) (h : 128 ≤ c) : letZ c = false := by unfold letZ; simp; omega
theorem digZ_high (c : Int) (h : 128 ≤ c) : digZ c = false := by unfold digZ; simp; omega
theorem isAln_low (c : UInt8) (h : isAln c = true) : c.toNat < 128 := by
  simp [isAln, isLet, isDig] at h
  omega
theorem isLet_not_dig (c : UInt8) (h : isLet c = true) : isDig c = false := by
  simp [isLet, isDig] at h ⊢
  omega
theorem span_at (p : UInt8 → Bool) (l : List UInt8) (k : Nat) (hk : k ≤ l.length) (h1 : ∀ (j : Nat) b, j < k → l[j]? = some b → p b = true) (h2 : ∀ b, l[k]? = some b → p b = false) : (l.takeWhile p) = l.take k := by
  induction l generalizing k with
  | nil => simp
  | cons a t ih =>
    cases k with
    | zero =>
      have := h2 a rfl
      simp [List.takeWhile, this]
    | succ k =>
      have := h1 0 a (by omega) rfl
      rw [List.takeWhile_cons_of_pos this, List.take_succ_cons, ih k (by simpa using hk) (fun j b hj hb => h1 (j + 1) b (by omega) (by simpa using hb)) (fun b hb => h2 b (by simpa using hb))]
theorem span_len (p : UInt8 → Bool) (l : List UInt8) (k : Nat) (hk : k ≤ l.length) (h1 : ∀ (j : Nat) b, j < k → l[j]? = some b → p b = true) (h2 : ∀ b, l[k]? = some b → p b = false) : (l.takeWhile p).length = k := by
  rw [span_at p l k hk h1 h2, List.length_take]
  omega
def spanN (l : List UInt8) : Nat := (l.takeWhile isAln).length
theorem spanN_le (l : List UInt8) : spanN l ≤ l.length := List.IsPrefix.length_le (List.takeWhile_prefix _)
theorem spanN_all (l : List UInt8) : spanN l = l.length ↔ l.all isAln = true := by
  unfold spanN
  constructor
  · intro h
    have := List.IsPrefix.eq_of_length (List.takeWhile_prefix (l := l) isAln) h
    rw [← this]
    exact List.all_takeWhile
  · intro h
    exact span_len isAln l l.length (Nat.le_refl _) (fun j b _ hb => List.all_eq_true.1 h b (List.mem_of_getElem? hb)) (fun b hb => by simp at hb)
/-- token.Name as its text reckons it. -/
theorem nameB_eq (l : List UInt8) (h0 : l ≠ []) (h20 : l.length ≤ 20) : nameB l = ((!isDig (l.headD 0)) && decide (spanN l = l.length) && !wordB l) := by
  cases l with
  | nil => exact absurd rfl h0
  | cons c r =>
    rw [Bool.eq_iff_iff]
    simp only [nameB, spanN_all, List.headD_cons, Bool.and_eq_true, decide_eq_true_eq]
    simp only [List.isEmpty_cons, Bool.not_false, h20, true_and, List.all_cons, Bool.and_eq_true]
    constructor
    · rintro ⟨⟨hl, ha, hr⟩, hw⟩
      exact ⟨⟨by simp [isLet_not_dig c hl], ha, hr⟩, hw⟩
    · rintro ⟨⟨hd, ha, hr⟩, hw⟩
      refine ⟨⟨?_, ha, hr⟩, hw⟩
      simp [isAln] at ha
      rcases ha with ha | ha
      · exact ha
      · simp [ha] at hd
theorem nameB_nil : nameB [] = false := rfl
theorem nameB_long (l : List UInt8) (h : 20 < l.length) : nameB l = false := by
  simp [nameB]
  omega

/-! ### gaps -/
def nl (l : List UInt8) : Nat := l.countP (fun d => d.toNat == 10)
def gapN (l : List UInt8) : Nat := if Lib.hasPrefix l [47, 47] then (l.takeWhile (fun d => d.toNat != 10)).length else (l.takeWhile isBlk).length
theorem gapN_le (l : List UInt8) : gapN l ≤ l.length := by
  unfold gapN
  split <;> exact List.IsPrefix.length_le (List.takeWhile_prefix _)
theorem trim_blk (l : List UInt8) : Lib.trimLeftS l [32, 9, 13, 10] = l.dropWhile isBlk := by
  unfold Lib.trimLeftS
  congr 1
  funext b
  rw [Bool.eq_iff_iff]
  simp [isBlk, ← UInt8.toNat_inj, or_assoc]
theorem drop_take_len (p : UInt8 → Bool) (l : List UInt8) : (l.dropWhile p).length + (l.takeWhile p).length = l.length := by
  have := congrArg List.length (List.takeWhile_append_dropWhile (p := p) (l := l))
  rw [List.length_append] at this
  omega
theorem dropWhile_eq (p : UInt8 → Bool) (l : List UInt8) : l.dropWhile p = l.drop (l.takeWhile p).length := by
  have h := List.takeWhile_append_dropWhile (p := p) (l := l)
  conv => rhs; rw [← h]
  rw [List.drop_append]
  simp
theorem idx_none {l : List UInt8} (h : Lib.indexByte l 10 = -1) : (l.takeWhile (fun d => d.toNat != 10)).length = l.length :=
  span_len _ l l.length (Nat.le_refl _) (fun j b _ hb => by
    have := Lib.indexByte_none h j
    rw [hb] at this
    have h2 : b ≠ 10 := fun e => this (by rw [e])
    simpa [← UInt8.toNat_inj] using h2) (fun b hb => by simp at hb)
theorem idx_some {l : List UInt8} {o : Nat} (h : Lib.indexByte l 10 = o) : (l.takeWhile (fun d => d.toNat != 10)).length = o := by
  obtain ⟨h1, h2⟩ := Lib.indexByte_some h
  have hlt : o < l.length := (List.getElem?_eq_some_iff.1 h1).1
  refine span_len _ l o (by omega) (fun j b hj hb => ?_) (fun b hb => ?_)
  · have := h2 j hj
    rw [hb] at this
    have h3 : b ≠ 10 := fun e => this (by rw [e])
    simpa [← UInt8.toNat_inj] using h3
  · rw [h1] at hb
    injection hb with hb
    subst hb
    rfl
theorem nl_of_blk (c : UInt8) (h : c.toNat = 10) : isBlk c = true := by simp [isBlk, h]
theorem scan_blanks : ∀ (l : List UInt8) (line : Nat), scan l line = scan (l.drop (l.takeWhile isBlk).length) (line + nl (l.take (l.takeWhile isBlk).length))
  | [], line => by simp [nl]
  | c :: r, line => by
    by_cases hb : isBlk c = true
    · rw [List.takeWhile_cons_of_pos hb]
      simp only [List.length_cons, List.drop_succ_cons, List.take_succ_cons]
      rw [scan]
      by_cases h10 : c.toNat = 10
      · simp only [h10, beq_self_eq_true, if_true]
        rw [scan_blanks r (line + 1)]
        congr 1
        simp [nl, h10]
        omega
      · have : (c.toNat == 10) = false := by simpa using h10
        simp only [this, hb, if_true]
        rw [if_neg (by simp), scan_blanks r line]
        congr 1
        simp [nl, h10]
    · rw [List.takeWhile_cons_of_neg hb]
      simp [nl]
theorem prefix_comment {l : List UInt8} (h : Lib.hasPrefix l [47, 47] = true) : ∃ r, l = 47 :: 47 :: r := by
  match l, h with
  | [], h => simp [Lib.hasPrefix] at h
  | [a], h => simp [Lib.hasPrefix] at h
  | a :: b :: r, h =>
    simp [Lib.hasPrefix] at h
    exact ⟨r, by rw [← h.1, ← h.2]⟩
theorem nl_take (l : List UInt8) : nl (l.take (l.takeWhile (fun d => d.toNat != 10)).length) = 0 := by
  have e : l.take (l.takeWhile (fun d => d.toNat != 10)).length = l.takeWhile (fun d => d.toNat != 10) := (List.prefix_iff_eq_take.1 (List.takeWhile_prefix _)).symm
  rw [e]
  unfold nl
  rw [List.countP_eq_zero]
  intro a ha
  have := List.all_takeWhile (p := fun d : UInt8 => d.toNat != 10) (l := l)
  have := List.all_eq_true.1 this a ha
  simpa using this
/-- A gap passed changes nothing of what is told, but the line. -/
theorem scan_gap (l : List UInt8) (line : Nat) : scan l line = scan (l.drop (gapN l)) (line + nl (l.take (gapN l))) := by
  unfold gapN
  split
  · rename_i h
    obtain ⟨r, rfl⟩ := prefix_comment h
    rw [nl_take, ← dropWhile_eq]
    conv => lhs; rw [scan]
    rfl
  · exact scan_blanks l line
theorem gap_zero {c : UInt8} {r : List UInt8} (h : gapN (c :: r) = 0) : isBlk c = false ∧ (c.toNat == 47 && r.head? == some 47) = false := by
  unfold gapN at h
  split at h
  · rename_i hp
    obtain ⟨r', e⟩ := prefix_comment hp
    rw [e] at h
    simp at h
  · rename_i hp
    refine ⟨?_, ?_⟩
    · cases hb : isBlk c with
      | false => rfl
      | true => rw [List.takeWhile_cons_of_pos hb] at h; simp at h
    · rw [Bool.eq_false_iff]
      intro hc
      apply hp
      simp at hc
      obtain ⟨h1, h2⟩ := hc
      have h1' : c = 47 := UInt8.toNat_inj.1 h1
      cases r with
      | nil => simp at h2
      | cons b t =>
        simp at h2
        subst h1' h2
        rfl
/-- At a place where no gap stands a token is told, or a fault. -/
theorem scan_step {c : UInt8} {r : List UInt8} (h : gapN (c :: r) = 0) (line : Nat) : scan (c :: r) line = match one (c :: r) with
      | none => ([], some line)
      | some (k, t) => (⟨k, t, line⟩ :: (scan (r.drop (t.length - 1)) line).1, (scan (r.drop (t.length - 1)) line).2) := by
  obtain ⟨hb, hc⟩ := gap_zero h
  have h10 : (c.toNat == 10) = false := by
    rw [Bool.eq_false_iff]
    intro e
    rw [nl_of_blk c (by simpa using e)] at hb
    cases hb
  rw [scan, if_neg (by simp [h10]), if_neg (by simp [hb]), if_neg (by rw [hc]; simp)]

/-! ### numbers -/
theorem decV_ge (l : List UInt8) : ∀ (acc : Nat), acc ≤ decV acc l := by
  induction l with
  | nil => intro acc; rw [decV_nil]; exact Nat.le_refl _
  | cons c r ih =>
    intro acc
    have h := ih (acc * 10 + (c.toNat - 48))
    rw [decV_cons]
    omega
theorem parse_ok : ∀ (l : List UInt8) (acc u : Nat), Lib.parseUint10 acc l = .ok u → l.all isDig = true ∧ u = decV acc l
  | [], acc, u, h => by
    simp only [Lib.parseUint10] at h
    injection h with h
    exact ⟨rfl, by rw [decV_nil]; exact h.symm⟩
  | c :: r, acc, u, h => by
    simp only [Lib.parseUint10] at h
    split at h
    · rename_i hd
      split at h
      · cases h
      · split at h
        · cases h
        · obtain ⟨h1, h2⟩ := parse_ok r _ u h
          refine ⟨?_, by rw [decV_cons]; exact h2⟩
          rw [List.all_cons, h1]
          simp [isDig]
          omega
    · cases h
theorem parse_fits (l : List UInt8) : ∀ (acc : Nat), l.all isDig = true → decV acc l < 9223372036854775808 → Lib.parseUint10 acc l = .ok (decV acc l) := by
  induction l with
  | nil => intro acc _ _; rw [decV_nil]; unfold Lib.parseUint10; rfl
  | cons c r ih =>
    intro acc h hv
    rw [List.all_cons, Bool.and_eq_true] at h
    have hd := h.1
    simp [isDig] at hd
    have h2 := decV_ge r (acc * 10 + (c.toNat - 48))
    rw [decV_cons] at hv
    have h3 := ih _ h.2 hv
    rw [decV_cons]
    unfold Lib.parseUint10
    rw [if_pos hd, if_neg (by omega), if_neg (by omega)]
    exact h3
/-- strconv.Atoi finds an int. -/
def atoiB (l : List UInt8) : Bool := match Lib.atoiAll l with | .ok _ => true | _ => false
theorem atoiB_eq (l : List UInt8) (h0 : l ≠ []) (ha : l.all isAln = true) : atoiB l = (l.all isDig && decide (decV 0 l < 9223372036854775808)) := by
  cases l with
  | nil => exact absurd rfl h0
  | cons c r =>
    have hc : isAln c = true := by simp at ha; exact ha.1
    have h43 : c.toNat ≠ 43 := fun e => by simp [isAln, isLet, isDig, e] at hc
    have h45 : c.toNat ≠ 45 := fun e => by simp [isAln, isLet, isDig, e] at hc
    unfold atoiB
    rw [Lib.atoiAll_plain c r h43 h45]
    have hm : Lib.parseMag (c :: r) = Lib.parseUint10 0 (c :: r) := by unfold Lib.parseMag; rw [if_neg (by simp)]
    rw [hm, Bool.eq_iff_iff, Bool.and_eq_true, decide_eq_true_eq]
    constructor
    · intro h
      cases hp : Lib.parseUint10 0 (c :: r) with
      | ok u =>
        obtain ⟨h1, h2⟩ := parse_ok _ _ _ hp
        refine ⟨h1, ?_⟩
        rw [hp] at h
        simp only [Lib.signless] at h
        split at h
        · rename_i heq
          split at heq
          · cases heq
          · omega
        · cases h
      | _ => rw [hp] at h; simp [Lib.signless] at h
    · rintro ⟨h1, h2⟩
      rw [parse_fits _ _ h1 h2]
      simp only [Lib.signless]
      rw [if_neg (by omega)]
theorem numB_eq (l : List UInt8) (h0 : l ≠ []) (ha : l.all isAln = true) : numB l = (atoiB l && (l == [48] || (l.headD 0).toNat != 48)) := by
  rw [atoiB_eq l h0 ha]
  unfold numB
  have e1 : l.isEmpty = false := by simpa using h0
  have e2 : (l.headD 0 != 48) = ((l.headD 0).toNat != 48) := by
    rw [Bool.eq_iff_iff]
    simp [← UInt8.toNat_inj]
  rw [e1, e2]
  cases l.all isDig <;> cases decide (decV 0 l < 9223372036854775808) <;> cases (l == [48]) <;> simp

/-! ### symbols -/
theorem find_first {α : Type} (p : α → Bool) : ∀ (xs : List α) (k : Nat) (t : α), xs[k]? = some t → p t = true → (∀ (j : Nat) u, j < k → xs[j]? = some u → p u = false) → xs.find? p = some t
  | [], k, t, h, _, _ => by simp at h
  | x :: xs, 0, t, h, hp, _ => by
    simp at h
    subst h
    simp [List.find?, hp]
  | x :: xs, k + 1, t, h, hp, hn => by
    have h0 := hn 0 x (by omega) rfl
    rw [List.find?_cons_of_neg (by simp [h0])]
    exact find_first p xs k t (by simpa using h) hp (fun j u hj hu => hn (j + 1) u (by omega) (by simpa using hu))
theorem find_never {α : Type} (p : α → Bool) (xs : List α) (hn : ∀ (j : Nat) u, xs[j]? = some u → p u = false) : xs.find? p = none := by
  rw [List.find?_eq_none]
  intro x hx
  obtain ⟨j, hj⟩ := List.mem_iff_getElem?.1 hx
  simp [hn j x hj]
theorem signL_at (l : List UInt8) (k : Nat) (t : List UInt8) (h : allSigns[k]? = some t) (hp : Lib.hasPrefix l t = true) (hn : ∀ (j : Nat) u, j < k → allSigns[j]? = some u → Lib.hasPrefix l u = false) : signL l = t := by
  unfold signL
  rw [find_first (fun t => Lib.hasPrefix l t) _ k t h hp hn]
  rfl
theorem signL_none (l : List UInt8) (hn : ∀ (j : Nat) u, allSigns[j]? = some u → Lib.hasPrefix l u = false) : signL l = [] := by
  unfold signL
  rw [find_never (fun t => Lib.hasPrefix l t) _ hn]
  rfl
theorem sign_at (k : Nat) (h : k < 30) : ∃ t, allSigns[k]? = some t := ⟨_, List.getElem?_eq_getElem (by simpa [allSigns, signs2, signs1] using h)⟩

end Go.Proofs.YtakijoblbmfadaaGreatDoor
