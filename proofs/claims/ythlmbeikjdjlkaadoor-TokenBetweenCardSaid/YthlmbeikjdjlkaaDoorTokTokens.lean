/- The contracts of the scanner's next and of token.Tokens: the tokens of any text are those that scan tells. -/
import Derived.Test.YthlmbeikjdjlkaaDoorTokScan
namespace Go.Proofs.YthlmbeikjdjlkaaDoor
open Go.RowKit
theorem spanN_take (l : List UInt8) : l.takeWhile isAln = l.take (spanN l) := List.prefix_iff_eq_take.1 (List.takeWhile_prefix _)
theorem take_aln (l : List UInt8) : (l.take (spanN l)).all isAln = true := by rw [← spanN_take]; exact List.all_takeWhile
theorem one_span {l : List UInt8} (h : 0 < spanN l) : one l = (kindT (l.take (spanN l))).map fun k => (k, l.take (spanN l)) := by
  unfold one
  rw [if_pos (by intro e; have : spanN l = 0 := by unfold spanN; rw [e]; rfl
                 omega), spanN_take]
theorem one_sign {l : List UInt8} (h : spanN l = 0) : one l = if signL l ≠ [] then some (2, signL l) else none := by
  unfold one
  rw [if_neg (by rw [spanN_take, h]; simp)]
theorem signL_prefix (l : List UInt8) : l.take (signL l).length = signL l := by
  have h : (signL l).isPrefixOf l = true := by
    unfold signL
    cases hf : allSigns.find? (fun t => Lib.hasPrefix l t) with
    | none => simp
    | some t => exact List.find?_some (p := fun t => Lib.hasPrefix l t) hf
  exact (List.prefix_iff_eq_take.1 (List.isPrefixOf_iff_prefix.1 h)).symm
theorem signL_le (l : List UInt8) : (signL l).length ≤ l.length := by
  have := congrArg List.length (signL_prefix l)
  rw [List.length_take] at this
  omega
theorem Toks.below {w w' : World} {B : Nat} {v : Value} {ts : List Tok} (h : Toks w B v ts) (hb : Below w.heap.size w w') : Toks w' B v ts := own_below h hb (Nat.le_refl _)
/-- What next leaves where a token stands. -/
def NextPost (B g : Nat) (w : World) (s : ByteArray) (line : Nat) (ts : List Tok) (k : Int) (n : Nat) (e : Ending) (w' : World) : Prop :=
  e = .returned (.bool true) ∧ ∃ v', Is w' g 41 #[.string (s.extract n s.size), .int .i64 line, v'] ∧ Toks w' B v' (ts ++ [⟨k, s.data.toList.take n, line⟩]) ∧ Below B w w'
/-- What next leaves where none stands. -/
def NextNone (B g : Nat) (w : World) (s : ByteArray) (line : Nat) (v : Value) (e : Ending) (w' : World) : Prop :=
  e = .returned (.bool false) ∧ Is w' g 41 #[.string s, .int .i64 line, v] ∧ Below B w w'
theorem symbol_is (B : Nat) (s t : ByteArray) (h : (⟨(signL s.data.toList).toArray⟩ : ByteArray) = t) (w : World) (ht : TokTab B w) :
    Calls Tryd.prog 31 #[.string s] w fun e w' => e = .returned (.string t) ∧ w = w' := h ▸ symbol_any B s w ht
section
variable (B g : Nat) (w : World) (s : ByteArray) (line : Nat) (v : Value) (ts : List Tok) (hI : Is w g 41 #[.string s, .int .i64 line, v]) (hB : B ≤ g) (hO : Toks w B v ts) (ht : TokTab B w)
  (hs : s.size ≤ 281474976710656) (hl : ts.length < 4294967296)
include hI hB hO ht hs hl
theorem next_word (n : Nat) (hn : spanN s.data.toList = n) (h0 : 0 < n) (k : Int) (hk : kindT (s.extract 0 n).data.toList = some k) :
    Calls Tryd.prog 20 #[.pointer (some ⟨g, 0, none⟩)] w (NextPost B g w s line ts k n) := by
  have c0 : w.cell? ⟨g, 0, none⟩ = some (.string s) := (hI.cell 0).trans rfl
  have hz := hI.lt
  have hle : n ≤ s.size := by rw [← hn]; exact spanN_le _
  have HE : Hid ((s.extract 0 n).size = n) := by unfold Hid; rw [Lib.size_eq, Lib.extract_data, List.length_take, List.drop_zero, ← Lib.size_eq]; omega
  have HA : Hid ((s.extract 0 n).data.toList.all isAln = true) := by unfold Hid; rw [Lib.extract_data, ← hn]; exact take_aln _
  have HN := Lib.hid hn
  have HK := Lib.hid hk
  have HI := Lib.hid hI
  have HO := Lib.hid hO
  have HT := Lib.hid ht
  have hbw : B ≤ w.heap.size := by omega
  clear hn hk hI hO ht
  go_enter Tryd.func20, Tryd.ntmps20
  go_wp2_with (first
    | (go_at_call 27
       (with_reducible refine (span_is _ _ HN.out _).mono ?_)
       rintro e w1 ⟨rfl, hb1⟩
       have k0 : w1.cell? ⟨g, 0, none⟩ = some (.string s) := ((HI.out.below hb1 HI.out.lt).cell 0).trans rfl)
    | (go_at_call 30
       (with_reducible refine (kindOf_any B _ _ HK.out HA.out _ (by rw [HE.out]; exact h0) (by rw [HE.out]; omega) (HT.out.below (hb1.mono hbw)) (Nat.le_trans hbw hb1.size)).mono ?_)
       rintro e w2 ⟨rfl, hb2⟩)
    | (go_at_call 21
       (with_reducible refine (take_any B g _ s line v ts _ n ((HI.out.below hb1 HI.out.lt).below hb2 (Nat.lt_of_lt_of_le HI.out.lt hb1.size)) hB ((HO.out.below hb1).below hb2) hle hl).mono ?_)
       rintro e w3 ⟨rfl, v3, hI3, hO3, hb3⟩
       have HI3 := Lib.hid hI3
       have HO3 := Lib.hid hO3
       clear hI3 hO3))
  go_ret
  exact ⟨rfl, v3, HI3.out, HO3.out, (hb1.mono hbw).trans ((hb2.mono (Nat.le_trans hbw hb1.size)).trans hb3)⟩
omit hO hl in
theorem next_bad (n : Nat) (hn : spanN s.data.toList = n) (h0 : 0 < n) (hk : kindT (s.extract 0 n).data.toList = none) :
    Calls Tryd.prog 20 #[.pointer (some ⟨g, 0, none⟩)] w (NextNone B g w s line v) := by
  have c0 : w.cell? ⟨g, 0, none⟩ = some (.string s) := (hI.cell 0).trans rfl
  have hz := hI.lt
  have hle : n ≤ s.size := by rw [← hn]; exact spanN_le _
  have HE : Hid ((s.extract 0 n).size = n) := by unfold Hid; rw [Lib.size_eq, Lib.extract_data, List.length_take, List.drop_zero, ← Lib.size_eq]; omega
  have HA : Hid ((s.extract 0 n).data.toList.all isAln = true) := by unfold Hid; rw [Lib.extract_data, ← hn]; exact take_aln _
  have HN := Lib.hid hn
  have HK := Lib.hid hk
  have HI := Lib.hid hI
  have HT := Lib.hid ht
  have hbw : B ≤ w.heap.size := by omega
  clear hn hk hI ht
  go_enter Tryd.func20, Tryd.ntmps20
  go_wp2_with (first
    | (go_at_call 27
       (with_reducible refine (span_is _ _ HN.out _).mono ?_)
       rintro e w1 ⟨rfl, hb1⟩
       have k0 : w1.cell? ⟨g, 0, none⟩ = some (.string s) := ((HI.out.below hb1 HI.out.lt).cell 0).trans rfl)
    | (go_at_call 30
       (with_reducible refine (kindOf_any B _ _ HK.out HA.out _ (by rw [HE.out]; exact h0) (by rw [HE.out]; omega) (HT.out.below (hb1.mono hbw)) (Nat.le_trans hbw hb1.size)).mono ?_)
       rintro e w2 ⟨rfl, hb2⟩))
  go_ret
  exact ⟨rfl, (HI.out.below hb1 HI.out.lt).below hb2 (Nat.lt_of_lt_of_le HI.out.lt hb1.size), (hb1.mono hbw).trans (hb2.mono (Nat.le_trans hbw hb1.size))⟩
omit hs in
theorem next_sign (hn : spanN s.data.toList = 0) (t : ByteArray) (h1 : (⟨(signL s.data.toList).toArray⟩ : ByteArray) = t) (n : Nat) (h2 : t.size = n) (h0 : 0 < n) (hle : n ≤ s.size) :
    Calls Tryd.prog 20 #[.pointer (some ⟨g, 0, none⟩)] w (NextPost B g w s line ts 2 n) := by
  have c0 : w.cell? ⟨g, 0, none⟩ = some (.string s) := (hI.cell 0).trans rfl
  have hz := hI.lt
  have HN := Lib.hid hn
  have H1 := Lib.hid h1
  subst h2
  have HI := Lib.hid hI
  have HO := Lib.hid hO
  have HT := Lib.hid ht
  have hbw : B ≤ w.heap.size := by omega
  clear hn h1 hI hO ht
  go_enter Tryd.func20, Tryd.ntmps20
  go_wp2_with (first
    | (go_at_call 27
       (with_reducible refine (span_is _ _ HN.out _).mono ?_)
       rintro e w1 ⟨rfl, hb1⟩
       have k0 : w1.cell? ⟨g, 0, none⟩ = some (.string s) := ((HI.out.below hb1 HI.out.lt).cell 0).trans rfl)
    | (go_at_call 31
       (with_reducible refine (symbol_is B _ _ H1.out _ (HT.out.below (hb1.mono hbw))).mono ?_)
       rintro e w' ⟨rfl, rfl⟩)
    | (go_at_call 21
       (with_reducible refine (take_any B g _ s line v ts _ t.size (HI.out.below hb1 HI.out.lt) hB (HO.out.below hb1) hle hl).mono ?_)
       rintro e w3 ⟨rfl, v3, hI3, hO3, hb3⟩
       have HI3 := Lib.hid hI3
       have HO3 := Lib.hid hO3
       clear hI3 hO3))
  go_ret
  exact ⟨rfl, v3, HI3.out, HO3.out, (hb1.mono hbw).trans hb3⟩
omit hO hs hl in
theorem next_none (hn : spanN s.data.toList = 0) (t : ByteArray) (h1 : (⟨(signL s.data.toList).toArray⟩ : ByteArray) = t) (h0 : t.size = 0) :
    Calls Tryd.prog 20 #[.pointer (some ⟨g, 0, none⟩)] w (NextNone B g w s line v) := by
  have c0 : w.cell? ⟨g, 0, none⟩ = some (.string s) := (hI.cell 0).trans rfl
  have hz := hI.lt
  have HN := Lib.hid hn
  have H1 := Lib.hid h1
  have HI := Lib.hid hI
  have HT := Lib.hid ht
  have hbw : B ≤ w.heap.size := by omega
  clear hn h1 hI ht
  go_enter Tryd.func20, Tryd.ntmps20
  go_wp2_with (first
    | (go_at_call 27
       (with_reducible refine (span_is _ _ HN.out _).mono ?_)
       rintro e w1 ⟨rfl, hb1⟩
       have k0 : w1.cell? ⟨g, 0, none⟩ = some (.string s) := ((HI.out.below hb1 HI.out.lt).cell 0).trans rfl)
    | (go_at_call 31
       (with_reducible refine (symbol_is B _ _ H1.out _ (HT.out.below (hb1.mono hbw))).mono ?_)
       rintro e w' ⟨rfl, rfl⟩))
  go_ret
  exact ⟨rfl, HI.out.below hb1 HI.out.lt, hb1.mono hbw⟩
/-- A token stands: next takes it. -/
theorem next_some (k : Int) (t : List UInt8) (h : one s.data.toList = some (k, t)) :
    Calls Tryd.prog 20 #[.pointer (some ⟨g, 0, none⟩)] w (NextPost B g w s line ts k t.length) := by
  by_cases h0 : 0 < spanN s.data.toList
  · rw [one_span h0] at h
    obtain ⟨k', hk, e⟩ := Option.map_eq_some_iff.1 h
    injection e with e1 e2
    subst e1 e2
    have hl2 : (s.data.toList.take (spanN s.data.toList)).length = spanN s.data.toList := by rw [List.length_take]; have := spanN_le s.data.toList; omega
    rw [hl2]
    exact next_word B g w s line v ts hI hB hO ht hs hl _ rfl h0 k' (by rw [Lib.extract_data, List.drop_zero, Nat.sub_zero]; exact hk)
  · have hn : spanN s.data.toList = 0 := by omega
    rw [one_sign hn] at h
    split at h
    · rename_i hne
      injection h with h
      injection h with e1 e2
      subst e1 e2
      exact next_sign B g w s line v ts hI hB hO ht hl hn _ rfl _ rfl (List.length_pos_iff.2 hne) (signL_le _)
    · cases h
omit hO hl in
/-- None stands. -/
theorem next_fail (h : one s.data.toList = none) :
    Calls Tryd.prog 20 #[.pointer (some ⟨g, 0, none⟩)] w (NextNone B g w s line v) := by
  by_cases h0 : 0 < spanN s.data.toList
  · rw [one_span h0] at h
    have hk := Option.map_eq_none_iff.1 h
    exact next_bad B g w s line v hI hB ht hs _ rfl h0 (by rw [Lib.extract_data, List.drop_zero, Nat.sub_zero]; exact hk)
  · have hn : spanN s.data.toList = 0 := by omega
    rw [one_sign hn] at h
    split at h
    · cases h
    · rename_i hne
      exact next_none B g w s line v hI hB ht hn _ rfl (by simp at hne; show (signL s.data.toList).length = 0; rw [hne]; rfl)
end
theorem one_take {l : List UInt8} {k : Int} {t : List UInt8} (h : one l = some (k, t)) : l.take t.length = t ∧ 0 < t.length ∧ t.length ≤ l.length := by
  by_cases h0 : 0 < spanN l
  · rw [one_span h0] at h
    obtain ⟨k', _, e⟩ := Option.map_eq_some_iff.1 h
    injection e with e1 e2
    subst e2
    have := spanN_le l
    rw [List.length_take]
    exact ⟨by rw [Nat.min_eq_left this], by omega, by omega⟩
  · rw [one_sign (by omega)] at h
    split at h
    · rename_i hne
      injection h with h
      injection h with e1 e2
      subst e2
      exact ⟨signL_prefix l, List.length_pos_iff.2 hne, signL_le l⟩
    · cases h
/-- What Tokens tells. -/
def TokensPost (w : World) (l : List UInt8) (e : Ending) (w' : World) : Prop :=
  Below w.heap.size w w' ∧ match (scan l 1).2 with
    | none => ∃ v, e = .returned (.tuple #[v, .int .i64 0, .int .i64 0]) ∧ Toks w' w.heap.size v (scan l 1).1
    | some ln => e = .returned (.tuple #[.slice none 0 0, .int .i64 20, .int .i64 (ln : Int)])
/-- What its loop keeps. -/
def TokensRel (w : World) (l : List UInt8) (wr : World) : Prop :=
  ∃ (s' : ByteArray) (line' : Nat) (v : Value) (ts : List Tok), Is wr w.heap.size 41 #[.string s', .int .i64 line', v] ∧ gapN s'.data.toList = 0 ∧ Toks wr w.heap.size v ts ∧ Below w.heap.size w wr ∧
    scan l 1 = (ts ++ (scan s'.data.toList line').1, (scan s'.data.toList line').2) ∧ s'.size + line' ≤ l.length + 1 ∧ ts.length + s'.size ≤ l.length
theorem tokens_long (s : ByteArray) (w : World) (h : 100000 < s.size) : Calls Tryd.prog 9 #[.string s] w fun e w' => e = .returned (.tuple #[.slice none 0 0, .int .i64 2, .int .i64 0]) ∧ w = w' := by
  have hd : decide ((100000 : Int) < s.size) = true := by simp; omega
  clear h
  go_enter Tryd.func9, Tryd.ntmps9
  go_wp2
  go_ret3
  exact ⟨rfl, rfl⟩
theorem Toks.only {w w' : World} {B g : Nat} {v : Value} {ts : List Tok} {cs : Array Value} (h : Toks w B v ts) (hI : Is w g 41 cs) (hg : w.grownBy w' (some g)) : Toks w' B v ts := own_only h hI (by decide) hg
theorem Toks.nil (w : World) (B : Nat) : Toks w B (.slice none 0 0) [] := ⟨rfl, .inl ⟨rfl, rfl⟩⟩
theorem tokens_start (s : ByteArray) (w : World) (e : Ending) (w1 : World)
    (h : SkipPost w.heap.size (w.alloc (.cells #[.string s, .int .i64 1, .slice none 0 0] 41)) s 1 (.slice none 0 0) e w1) : e = .returned (.tuple #[]) ∧ TokensRel w s.data.toList w1 := by
  obtain ⟨rfl, s', line', hI, hg, hgr, hsc, hsz, hss⟩ := h
  have hb0 : Below w.heap.size w (w.alloc (.cells #[.string s, .int .i64 1, .slice none 0 0] 41)) := (Below.refl _ _).alloc (Nat.le_refl _) _
  refine ⟨rfl, s', line', _, [], hI, hg, Toks.nil _ _, hb0.trans (below_only hgr (Nat.le_refl _) hb0.size), ?_, ?_, ?_⟩
  · rw [hsc]
    rfl
  · rw [← Lib.size_eq]
    exact hsz
  · rw [← Lib.size_eq]
    simpa using hss
/-- One token and the gap behind it. -/
theorem scan_one {l : List UInt8} {line : Nat} {k : Int} {t : List UInt8} (hg : gapN l = 0) (h : one l = some (k, t)) :
    scan l line = (⟨k, t, line⟩ :: (scan (l.drop t.length) line).1, (scan (l.drop t.length) line).2) := by
  obtain ⟨_, h1, h2⟩ := one_take h
  cases l with
  | nil => rw [List.length_nil] at h2; omega
  | cons c r =>
    rw [scan_step hg, h]
    have e : (c :: r).drop t.length = r.drop (t.length - 1) := by
      obtain ⟨m, hm⟩ : ∃ m, t.length = m + 1 := ⟨t.length - 1, by omega⟩
      rw [hm, List.drop_succ_cons]
      rfl
    rw [e]
theorem scan_bad {l : List UInt8} {line : Nat} (hg : gapN l = 0) (hn : l ≠ []) (h : one l = none) : scan l line = ([], some line) := by
  cases l with
  | nil => exact absurd rfl hn
  | cons c r => rw [scan_step hg, h]
theorem scan_end (line : Nat) : scan [] line = ([⟨3, [], line⟩], none) := by rw [scan]
theorem tokens_step {w wr w2 w3 : World} {l : List UInt8} {s' : ByteArray} {line' : Nat} {v2 : Value} {ts : List Tok} {k : Int} {t : List UInt8} {e : Ending}
    (hb : Below w.heap.size w wr) (hgap : gapN s'.data.toList = 0) (hsc : scan l 1 = (ts ++ (scan s'.data.toList line').1, (scan s'.data.toList line').2)) (hsz : s'.size + line' ≤ l.length + 1) (htl : ts.length + s'.size ≤ l.length)
    (hone : one s'.data.toList = some (k, t)) (hO2 : Toks w2 w.heap.size v2 (ts ++ [⟨k, s'.data.toList.take t.length, line'⟩])) (hI2 : Is w2 w.heap.size 41 #[.string (s'.extract t.length s'.size), .int .i64 line', v2]) (hb2 : Below w.heap.size wr w2)
    (h : SkipPost w.heap.size w2 (s'.extract t.length s'.size) line' v2 e w3) : e = .returned (.tuple #[]) ∧ TokensRel w l w3 ∧ restSize w.heap.size w3 < s'.size := by
  obtain ⟨rfl, s3, line3, hI3, hg3, hgr, hsc3, hsz3, hss3⟩ := h
  obtain ⟨ht, hp, hle⟩ := one_take hone
  rw [← Lib.size_eq] at hle
  have he : (s'.extract t.length s'.size).size = s'.size - t.length := by rw [Lib.size_eq, Lib.extract_to_end, List.length_drop, ← Lib.size_eq]
  rw [he] at hsz3 hss3
  refine ⟨rfl, ⟨s3, line3, v2, ts ++ [⟨k, t, line'⟩], hI3, hg3, ?_, (hb.trans hb2).trans (below_only hgr (Nat.le_refl _) (hb.trans hb2).size), ?_, by omega, by rw [List.length_append]; simp; omega⟩, ?_⟩
  · rw [ht] at hO2
    exact hO2.only hI2 hgr
  · rw [hsc, scan_one hgap hone, hsc3, Lib.extract_to_end]
    simp
  · rw [restSize_is hI3]
    omega
theorem take_end (B g : Nat) (w : World) (s : ByteArray) (line : Nat) (v : Value) (ts : List Tok) (h : Is w g 41 #[.string s, .int .i64 line, v]) (hB : B ≤ g) (hO : Toks w B v ts) (hl : ts.length < 4294967296) :
    Calls Tryd.prog 21 #[.pointer (some ⟨g, 0, none⟩), .int .i64 3, .int .i64 0] w (TakePost B g w s line ts 3 0) := take_any B g w s line v ts 3 0 h hB hO (Nat.zero_le _) hl
set_option maxRecDepth 100000 in
theorem tokens_any (s : ByteArray) (w : World) (h : s.size ≤ 100000) (ht : TokTab w.heap.size w) : Calls Tryd.prog 9 #[.string s] w (TokensPost w s.data.toList) := by
  have hd : decide ((100000 : Int) < s.size) = false := by simp; omega
  have hlen : s.data.toList.length = s.size := rfl
  have HT := Lib.hid ht
  have HL := Lib.hid hlen
  clear ht hlen
  have HW0 : Hid (Is (w.alloc (.cells #[.string s, .int .i64 1, .slice none 0 0] 41)) w.heap.size 41 #[.string s, .int .i64 ((1 : Nat) : Int), .slice none 0 0]) := heap_alloc_new w _
  go_enter Tryd.func9, Tryd.ntmps9
  go_wp2_with (go_at_call 19; (with_reducible refine (skip_any w.heap.size _ s 1 _ HW0.out (by omega)).mono ?_); intro e w1 hp; obtain ⟨rfl, hrel0⟩ := tokens_start s w e w1 hp; clear hp)
  go_loopw [] (fun wr => TokensRel w s.data.toList wr) (fun wr => restSize w.heap.size wr)
  case atStart => exact hrel0
  case round =>
    obtain ⟨s', line', v, ts, hI, hgap, hO, hb, hsc, hsz, htl⟩ := hrel
    rw [HL.out] at hsz htl
    clear hrel0
    have c0 : wr.cell? ⟨w.heap.size, 0, none⟩ = some (.string s') := (hI.cell 0).trans rfl
    have c1 : wr.cell? ⟨w.heap.size, 1, none⟩ = some (.int .i64 line') := (hI.cell 1).trans rfl
    have HI := Lib.hid hI
    have HG := Lib.hid hgap
    have HO := Lib.hid hO
    have HS := Lib.hid hsc
    have HR := Lib.hid (restSize_is hI)
    clear hI hgap hO hsc
    by_cases h0 : s'.size = 0
    · have hnil := nil_of_size s' h0
      have he : s'.toList = [] := by rw [Lib.toList_data, hnil]
      have HE := Lib.hid hnil
      clear hnil h0
      go_wp2_with (go_at_call 21; (with_reducible refine (take_end w.heap.size w.heap.size _ s' line' v ts HI.out (Nat.le_refl _) HO.out (by omega)).mono ?_); rintro e w3 ⟨rfl, v3, hI3, hO3, hb3⟩; have k2 : w3.cell? ⟨w.heap.size, 2, none⟩ = some v3 := (hI3.cell 2).trans rfl; have HI3 := Lib.hid hI3; have HO3 := Lib.hid hO3; clear hI3 hO3)
      go_ret3
      have hfin : scan s.data.toList 1 = (ts ++ [⟨3, [], line'⟩], none) := by rw [HS.out, HE.out, scan_end]
      unfold TokensPost
      rw [hfin]
      exact ⟨hb.trans hb3, v3, rfl, HO3.out⟩
    · have hne := ne_of_size s' (by omega)
      have he : s'.toList.isEmpty = false := by rw [Lib.toList_data]; simpa using hne
      have HNE := Lib.hid hne
      clear hne
      rcases hone : one s'.data.toList with _ | ⟨k, t⟩
      · have H1 := Lib.hid hone
        clear hone
        go_wp2_with (go_at_call 20; (with_reducible refine (next_fail w.heap.size w.heap.size _ s' line' v HI.out (Nat.le_refl _) (HT.out.below hb) (by omega) H1.out).mono ?_); rintro e w2 ⟨rfl, hI2, hb2⟩; have k1 : w2.cell? ⟨w.heap.size, 1, none⟩ = some (.int .i64 line') := (hI2.cell 1).trans rfl; clear hI2)
        go_quiet (fail)
        go_wp2
        go_ret3
        have hfin : scan s.data.toList 1 = (ts, some line') := by rw [HS.out, scan_bad HG.out HNE.out H1.out]; simp
        unfold TokensPost
        rw [hfin]
        exact ⟨below_drewN (hb.trans hb2) _, rfl⟩
      · have H1 := Lib.hid hone
        clear hone
        go_wp2_with (first
          | (go_at_call 20
             (with_reducible refine (next_some w.heap.size w.heap.size _ s' line' v ts HI.out (Nat.le_refl _) HO.out (HT.out.below hb) (by omega) (by omega) k t H1.out).mono ?_)
             rintro e w2 ⟨rfl, v2, hI2, hO2, hb2⟩
             have HI2 := Lib.hid hI2
             have HO2 := Lib.hid hO2
             clear hI2 hO2)
          | (go_at_call 19
             (with_reducible refine (skip_any w.heap.size _ _ line' _ HI2.out (by have := one_take H1.out; rw [Lib.size_eq, Lib.extract_to_end, List.length_drop, ← Lib.size_eq]; omega)).mono ?_)
             intro e w3 hp
             obtain ⟨rfl, hrel3, hms⟩ := tokens_step hb HG.out HS.out (by rw [HL.out]; exact hsz) (by rw [HL.out]; exact htl) H1.out HO2.out HI2.out hb2 hp
             have HR3 := Lib.hid hrel3
             have HM := Lib.hid hms
             clear hp hrel3 hms))
        go_roundw
        case rel => exact HR3.out
        case measure =>
          rw [HR.out]
          exact HM.out
end Go.Proofs.YthlmbeikjdjlkaaDoor
