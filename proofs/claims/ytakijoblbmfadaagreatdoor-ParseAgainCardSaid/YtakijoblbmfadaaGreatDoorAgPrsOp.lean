import Derived.Test.YtakijoblbmfadaaGreatDoorAgPrsLv
set_option linter.unusedSimpArgs false
set_option linter.unusedVariables false
/- The developers' parser: numbers, and which operator stands here. -/
namespace Go.Proofs.YtakijoblbmfadaaGreatDoor
open Go.RowKit
theorem atoi_num {l : List UInt8} (h : numB l = true) : Lib.atoiAll l = .ok ((decV 0 l : Nat) : Int) := by
  obtain ⟨hne, hd, hb⟩ := numB_parts h
  cases l with
  | nil => exact absurd rfl hne
  | cons c r =>
    have hc : isDig c = true := by simp at hd; exact hd.1
    have h43 : c.toNat ≠ 43 := fun e => by simp [isDig, e] at hc
    have h45 : c.toNat ≠ 45 := fun e => by simp [isDig, e] at hc
    rw [Lib.atoiAll_plain c r h43 h45]
    have hm : Lib.parseMag (c :: r) = Lib.parseUint10 0 (c :: r) := by unfold Lib.parseMag; rw [if_neg (by simp)]
    rw [hm, parse_fits _ _ hd hb]
    simp only [Lib.signless]
    rw [if_neg (by omega)]
theorem atoi_is (s : ByteArray) (v : Int) (w : World) (hs : s.size ≤ 281474976710656) (hn : numB s.data.toList = true) (hv : v = (decV 0 s.data.toList : Nat)) :
    Calls Tryz.prog 102 #[.string s] w fun e w' => e = .returned (.tuple #[.int .i64 v, .nilIface]) ∧ Below w.heap.size w w' := by
  refine (Any.strconv_Atoi_ok Tryz.laysC172 s (by omega) v (by rw [hv]; exact atoi_num hn) w).mono fun e w' ⟨h1, h2⟩ => ⟨h1, ?_⟩
  rcases h2 with rfl | ⟨t, rfl⟩
  · exact Below.refl _ _
  · exact Joins.below_bytesWorld _ _ _ _ (Nat.le_refl _)
def pNu (r : List Tok) : PR Int := (want 0 r).bind fun s r => .ok ((decV 0 s.data.toList : Nat) : Int) r
theorem dnumber_any {b g : Nat} {r : List Tok} {w : World} (h : Lv b g r w) :
    Calls Tryz.prog 86 #[.pointer (some ⟨b, 0, none⟩)] w (Gets b g w (pNu r) IntV) := by
  by_cases hk : hdK r = 0
  · obtain ⟨s, hs⟩ : ∃ s : ByteArray, s = ⟨(hdT r).toArray⟩ := ⟨_, rfl⟩
    obtain ⟨v, hv⟩ : ∃ v : Int, v = (decV 0 s.data.toList : Nat) := ⟨_, rfl⟩
    have H := Lib.hid h
    have HN := Lib.hid (show s.size ≤ 281474976710656 ∧ numB s.data.toList = true by rw [hs]; exact h.num hk)
    have HK := Lib.hid hk
    have HS := Lib.hid hs
    have HV := Lib.hid hv
    have HT := Lib.hid (show pNu r = .ok v r.tail by unfold pNu want; rw [if_pos hk, ← hs, hv]; rfl)
    clear h hk hs hv
    go_enter Tryz.func86, Tryz.ntmps86
    go_wp2_with (first
      | (go_at_call 59; (with_reducible refine (dtext_yes H.out 0 (by decide) HK.out s HS.out).mono ?_); rintro e w1 ⟨rfl, hL, hO⟩; have HL := Lib.hid hL; have HO := Lib.hid hO; clear hL hO)
      | (go_at_call 102; (with_reducible refine (atoi_is s v _ HN.out.1 HN.out.2 HV.out).mono ?_); rintro e w2 ⟨rfl, hb⟩; have HB := Lib.hid hb; clear hb))
    go_ret
    exact Gets.ok HT.out (HL.out.below HB.out) (HO.out.trans ((OffB.of_below HB.out HL.out.lt).mono HO.out.size)) rfl
  · have H := Lib.hid h
    have HK := Lib.hid hk
    have HT := Lib.hid (show Fails (pNu r) 20 r by unfold pNu want; rw [if_neg hk]; exact .inl ⟨rfl, rfl⟩)
    clear h hk
    go_enter Tryz.func86, Tryz.ntmps86
    go_wp2_with (first
      | (go_at_call 59; (with_reducible refine (dtext_no H.out 0 HK.out).mono ?_); rintro e w1 ⟨rfl, hO⟩; exact ⟨rfl, Gets.no HT.out hO⟩))
/-! ### operators -/
def allOps : List Int := rangeI 1 28
def opAll (lev : Int) (l : List Tok) : Int := opFrom lev l allOps
theorem opAll_hit {lev k : Int} {r : List Tok} (h1 : 1 ≤ k) (h2 : k ≤ 28) (hk : opIs lev r k = true) (h : ∀ j, 1 ≤ j → j < k → opIs lev r j = false) : opAll lev r = k := opFrom_hit hk 28 1 h1 (by omega) h
theorem opAll_none {lev : Int} {r : List Tok} (h : ∀ j, 1 ≤ j → j < 29 → opIs lev r j = false) : opAll lev r = 0 := opFrom_none 28 1 h
theorem opFrom_app (lev : Int) (l : List Tok) : ∀ (x y : List Int), (∀ a ∈ x, a ≠ 0) → opFrom lev l (x ++ y) = if opFrom lev l x = 0 then opFrom lev l y else opFrom lev l x
  | [], y, _ => by simp [opFrom]
  | a :: x, y, h => by
    rw [List.cons_append, opFrom_cons, opFrom_cons]
    by_cases e : opIs lev l a = true
    · rw [if_pos e, if_pos e, if_neg (h a (List.mem_cons_self ..))]
    · rw [if_neg e, if_neg e]
      exact opFrom_app lev l x y fun c hc => h c (List.mem_cons_of_mem _ hc)
theorem opFrom_zero {lev : Int} {l : List Tok} : ∀ {x : List Int}, (∀ a ∈ x, lvlOf a ≠ lev) → opFrom lev l x = 0
  | [], _ => rfl
  | a :: x, h => by
    rw [opFrom_cons, if_neg, opFrom_zero fun c hc => h c (List.mem_cons_of_mem _ hc)]
    unfold opIs
    rw [decide_eq_false (h a (List.mem_cons_self ..)), Bool.false_and]
    decide
theorem allOps_eq : allOps = twos ++ ones := by decide
theorem twos_lvl : ∀ a ∈ twos, lvlOf a ≠ 0 := by decide
theorem ones_lvl : ∀ a ∈ ones, lvlOf a = 0 := by decide
theorem twos_ne : ∀ a ∈ twos, a ≠ 0 := by decide
/-- At a level of operators of two it is the grammar's. -/
theorem opAll_two {lev : Int} {r : List Tok} (h : 1 ≤ lev) : opAll lev r = opAt lev r := by
  unfold opAll
  rw [allOps_eq, opFrom_app lev r _ _ twos_ne]
  have h0 : opFrom lev r ones = 0 := opFrom_zero fun a ha e => by rw [ones_lvl a ha] at e; omega
  rw [h0]
  split
  · rename_i h1; exact h1.symm
  · rfl
theorem unFrom_opFrom {r : List Tok} : ∀ {x : List Int}, (∀ a ∈ x, lvlOf a = 0) → opFrom 0 r x = unFrom r x
  | [], _ => rfl
  | a :: x, h => by
    rw [opFrom, unFrom, unFrom_opFrom fun c hc => h c (List.mem_cons_of_mem _ hc)]
    simp only [h a (List.mem_cons_self ..), true_and]
theorem opAll_one {r : List Tok} : opAll 0 r = unAt r := by
  unfold opAll
  rw [allOps_eq, opFrom_app 0 r _ _ twos_ne, opFrom_zero twos_lvl, if_pos rfl]
  exact unFrom_opFrom ones_lvl
theorem dlevel_is (op l : Int) (h : lvlOf op = l) {w : World} (ht : Tab w) : Calls Tryz.prog 123 #[.int .i64 op] w fun e w' => e = .returned (.int .i64 l) ∧ Below w.heap.size w w' := h ▸ level_any op w ht
theorem dsign_is (op : Int) (s : ByteArray) (h : sgnOf op = s) {w : World} (ht : Tab w) : Calls Tryz.prog 156 #[.int .i64 op] w fun e w' => e = .returned (.string s) ∧ Below w.heap.size w w' := h ▸ sign_any op w ht
/-- The box as it was, or one token on. -/
def Here (b g : Nat) (w : World) (r : List Tok) (W : World) : Prop := Lv b g r W ∧ OffB b w.heap.size w W
theorem Here.lv {b g : Nat} {w W : World} {r : List Tok} (h : Here b g w r W) : Lv b g r W := h.1
theorem Here.below {b g : Nat} {w W W' : World} {r : List Tok} (h : Here b g w r W) (o : Below W.heap.size W W') : Here b g w r W' := ⟨h.1.below o, h.2.trans ((OffB.of_below o h.1.lt).mono h.2.size)⟩
theorem Here.step {b g : Nat} {w W W' : World} {r r' : List Tok} (h : Here b g w r W) (l : Lv b g r' W') (o : OffB b W.heap.size W W') : Here b g w r' W' := ⟨l, h.2.trans (o.mono h.2.size)⟩
def behind (o : Int) (r : List Tok) : List Tok := if o = 0 then r else r.tail
set_option maxHeartbeats 800000 in
theorem dop_any {b g : Nat} {r : List Tok} {w : World} (h : Lv b g r w) (lev o : Int) (ho : opAll lev r = o) :
    Calls Tryz.prog 150 #[.pointer (some ⟨b, 0, none⟩), .int .i64 lev] w fun e w' => e = .returned (.int .i64 o) ∧ Lv b g (behind o r) w' ∧ OffB b w.heap.size w w' := by
  have HD := Lib.hid (show Here b g w r w from ⟨h, OffB.refl _ _ _⟩)
  have HO := Lib.hid ho
  clear h ho
  go_enter Tryz.func150, Tryz.ntmps150
  go_wp2
  go_loopw [5] (fun i wr => ∃ k : Int, i = .int .i64 k ∧ 1 ≤ k ∧ k ≤ 29 ∧ (∀ j, 1 ≤ j → j < k → opIs lev r j = false) ∧ Here b g w r wr) (fun i _ => (29 - intOf i).toNat)
  case atStart => exact ⟨1, rfl, by omega, by omega, fun j h1 h2 => by omega, HD.out⟩
  case round =>
    obtain ⟨k, rfl, hk1, hk2, hno, hD⟩ := hrel
    have HN := Lib.hid hno
    replace HD := Lib.hid hD
    clear hno hD
    by_cases hlt : k ≤ 28
    · obtain ⟨l, hl⟩ : ∃ l, lvlOf k = l := ⟨_, rfl⟩
      obtain ⟨s, hs⟩ : ∃ s, sgnOf k = s := ⟨_, rfl⟩
      have HL := Lib.hid hl
      have HS := Lib.hid hs
      by_cases hll : l = lev
      · subst hll
        cases hv : isS s.data.toList r with
        | true =>
          have hok : opAll l r = k := opAll_hit hk1 hlt (by unfold opIs sgT; rw [hs, hv, decide_eq_true hl]; rfl) HN.out
          have HV := Lib.hid hv
          have HK := Lib.hid (hok.symm.trans HO.out)
          clear hl hs hv hok
          go_wp2_with (first
            | (go_at_call 123; (with_reducible refine (dlevel_is k l HL.out HD.out.lv.tab).mono ?_); rintro e w1 ⟨rfl, hb⟩; replace HD := Lib.hid (HD.out.below hb); clear hb)
            | (go_at_call 156; (with_reducible refine (dsign_is k s HS.out HD.out.lv.tab).mono ?_); rintro e w2 ⟨rfl, hb⟩; replace HD := Lib.hid (HD.out.below hb); clear hb)
            | (go_at_call 60; (with_reducible refine (dtake_yes HD.out.lv s HV.out).mono ?_); rintro e w3 ⟨rfl, hL, hO⟩; have HE := Lib.hid (HD.out.step hL hO); clear hL hO))
          go_ret
          have hkk := HK.out
          refine ⟨ret_int hkk, ?_⟩
          unfold behind
          rw [if_neg (by omega)]
          exact HE.out
        | false =>
          have hno2 : ∀ j, 1 ≤ j → j < k + 1 → opIs l r j = false := fun j h1 h2 => by
            by_cases e : j = k
            · subst e
              unfold opIs sgT
              rw [hs, hv, Bool.and_false]
            · exact HN.out j h1 (by omega)
          replace HN := Lib.hid hno2
          have HV := Lib.hid hv
          clear hl hs hv hno2
          go_wp2_with (first
            | (go_at_call 123; (with_reducible refine (dlevel_is k l HL.out HD.out.lv.tab).mono ?_); rintro e w1 ⟨rfl, hb⟩; replace HD := Lib.hid (HD.out.below hb); clear hb)
            | (go_at_call 156; (with_reducible refine (dsign_is k s HS.out HD.out.lv.tab).mono ?_); rintro e w2 ⟨rfl, hb⟩; replace HD := Lib.hid (HD.out.below hb); clear hb)
            | (go_at_call 60; (with_reducible refine (dtake_no HD.out.lv s HV.out).mono ?_); rintro e w3 ⟨rfl, rfl⟩))
          go_roundw
          case rel => exact ⟨k + 1, rfl, by omega, by omega, HN.out, HD.out⟩
          case measure => simp [intOf]; omega
      · have hll2 : (l == lev) = false := by simpa using hll
        have hno2 : ∀ j, 1 ≤ j → j < k + 1 → opIs lev r j = false := fun j h1 h2 => by
          by_cases e : j = k
          · subst e
            unfold opIs
            rw [hl, decide_eq_false hll, Bool.false_and]
          · exact HN.out j h1 (by omega)
        replace HN := Lib.hid hno2
        clear hl hs hno2 hll
        go_wp2_with (first
          | (go_at_call 123; (with_reducible refine (dlevel_is k l HL.out HD.out.lv.tab).mono ?_); rintro e w1 ⟨rfl, hb⟩; replace HD := Lib.hid (HD.out.below hb); clear hb))
        go_roundw
        case rel => exact ⟨k + 1, rfl, by omega, by omega, HN.out, HD.out⟩
        case measure => simp [intOf]; omega
    · obtain rfl : k = 29 := by omega
      go_wp2
      go_ret
      have h0 : o = 0 := by rw [← HO.out, opAll_none HN.out]
      refine ⟨ret_int h0.symm, ?_⟩
      unfold behind
      rw [if_pos h0]
      exact HD.out
end Go.Proofs.YtakijoblbmfadaaGreatDoor

/- The developers' parser: lists that grow beside its box. (By tools/gen_prsli.py.) -/
namespace Go.Proofs.YtakijoblbmfadaaGreatDoor
open Go.RowKit
/-- What it reads in blocks below N stands. -/
theorem Lv.low {b g N : Nat} {r : List Tok} {W W' : World} (h : Lv b g r W) (hN : b < N ∧ g < N ∧ 6 < N) (hs : W.heap.size ≤ W'.heap.size) (hk : ∀ k, k < N → W'.heap[k]? = W.heap[k]?) : Lv b g r W' := by
  obtain ⟨o, c, h1, h2, h3, h4, h5, h6, h7, h8, h9, h10, h11⟩ := h
  exact ⟨o, c, (hk b hN.1).trans h1, h2, by omega, fun j u hu => (World.cell?_of_block (w := W) (hk g hN.2.1)).trans (h4 j u hu), h5, h6, h7, h8, by omega, h10, h11.same (hk _ hN.2.2)⟩
theorem Lv.lows {b g : Nat} {r : List Tok} {w : World} (h : Lv b g r w) : b < w.heap.size ∧ g < w.heap.size ∧ 6 < w.heap.size := ⟨h.lt, h.gne.2.1, h.gne.2.2.1⟩
/-- A list of the call's own has grown. -/
theorem Here.grown {b g : Nat} {r : List Tok} {w W w5 : World} {o : Obj} {row : Option Nat} (h : Here b g w r W) (hN : b < w.heap.size ∧ g < w.heap.size ∧ 6 < w.heap.size) (hg : (W.alloc o).grownBy w5 row) (hrow : ∀ k, row = some k → w.heap.size ≤ k) : Here b g w r w5 := by
  have hal : Below W.heap.size W (W.alloc o) := (Below.refl _ _).alloc (Nat.le_refl _) _
  have hs := h.2.size
  have hk : ∀ k, k < w.heap.size → w5.heap[k]? = W.heap[k]? := fun k hk => (hg.block k (Nat.lt_of_lt_of_le (by omega) hal.size) (fun e => by have := hrow k e.symm; omega)).trans (hal.block k (by omega))
  have hsz := Nat.le_trans hal.size hg.size
  exact ⟨h.1.low hN hsz hk, h.2.trans (OffB.mk' (hg.os.trans hal.os) (hg.tape.trans hal.tape) (hg.output.trans hal.output) hsz h.1.lt fun k hk1 _ => hk k hk1)⟩
def restL (b : Nat) (w : World) : Nat := match w.cell? ⟨b, 0, none⟩ with | some (.slice _ n _) => n | _ => 0
theorem restL_lv {b g : Nat} {r : List Tok} {w : World} (h : Lv b g r w) : restL b w = r.length := by
  obtain ⟨o, c, h1, _⟩ := h
  have h2 : w.cell? ⟨b, 0, none⟩ = some (.slice (some ⟨g, o, none⟩) r.length c) := (h1.cell 0).trans rfl
  unfold restL
  rw [h2]
theorem Here.refl {b g : Nat} {r : List Tok} {w : World} (h : Lv b g r w) : Here b g w r w := ⟨h, OffB.refl _ _ _⟩
theorem Here.off {b g : Nat} {r : List Tok} {w W W' : World} (h : Here b g w r W) (o : OffB b W.heap.size W W') : OffB b w.heap.size w W' := h.2.trans (o.mono h.2.size)
theorem off_cell {b k : Nat} {w W : World} {u : Value} (h : OffB b w.heap.size w W) (hk : k ≠ b) (hc : w.cell? ⟨k, 0, none⟩ = some u) : W.cell? ⟨k, 0, none⟩ = some u := (h.cell (World.block_lt_of_cell? w ⟨k, 0, none⟩ hc) hk).trans hc
/-- Kinds of elements. -/
def kE : Knd (Ex × Value) where
  T := 84
  n := 5
  cs p := [.int .i64 p.1.kind, .int .i64 p.1.op, .int .i64 p.1.n, .string p.1.name, p.2]
  inn N w p := i64R p.1.n ∧ SlE N w p.2 p.1.args
  len _ := rfl
  mono _ hc h := ⟨h.1, h.2.imp hc⟩
def kS : Knd StP4 where
  T := 78
  n := 6
  cs := stC
  inn := stIn
  len := stC_len
  mono _ hc h := stIn_imp hc h
theorem OutK.exprs {B : Nat} {w : World} {v : Value} {ps : List (Ex × Value)} (h : OutK kE B w v ps) (hn : ps.length ≤ 281474976710656) : FrEs B w (ps.map (·.1)) v :=
  Outs.read (show Outs B w v (ps.map (·.1)) from ⟨ps, rfl, h.1, h.2⟩) (by rw [List.length_map]; exact hn)
theorem OutK.stmts {B : Nat} {w : World} {v : Value} {ps : List StP4} (h : OutK kS B w v ps) (hn : ps.length ≤ 281474976710656) : FrSs B w (ps.map (·.s)) v :=
  OutS.read (show OutS B w v (ps.map (·.s)) from ⟨ps, rfl, h.1, h.2⟩) (by rw [List.length_map]; exact hn)
theorem kE_of {L : Nat} {W : World} {a : Ex} {k o n : Int} {s : ByteArray} {u : Value} (h : FrE L W a (.agg #[.int .i64 k, .int .i64 o, .int .i64 n, .string s, u])) : kE.cs (a, u) = [.int .i64 k, .int .i64 o, .int .i64 n, .string s, u] ∧ FrK kE L W (a, u) := by
  obtain ⟨args, rfl, hn, hs⟩ := exV_at h
  exact ⟨rfl, hn, hs⟩
theorem kS_of {L : Nat} {W : World} {a : St} {k t : Int} {s : ByteArray} {v3 v4 v5 : Value} (h : FrS L W a (.agg #[.int .i64 k, .int .i64 t, .string s, v3, v4, v5])) : kS.cs ⟨a, v3, v4, v5⟩ = [.int .i64 k, .int .i64 t, .string s, v3, v4, v5] ∧ FrK kS L W ⟨a, v3, v4, v5⟩ := by
  obtain ⟨k', t', s', args, thn, els⟩ := a
  obtain ⟨u3, u4, u5, hv, h3, h4, h5⟩ := h
  simp only [Value.agg.injEq, Array.mk.injEq, List.cons.injEq, Value.int.injEq, Value.string.injEq, true_and, and_true] at hv
  obtain ⟨rfl, rfl, rfl, rfl, rfl, rfl⟩ := hv
  exact ⟨rfl, h3, h4, h5⟩
/-! ### lists as plain functions, at the head of a round -/
def qE (m : Nat) (d : Int) (acc : List Ex) (r : List Tok) : PR (List Ex) := if acc = [] then (if isS [41] r = true then .ok [] r.tail else pAL m d [] r) else argRest m d acc r
theorem sign_two {s t : List UInt8} {r : List Tok} (h : isS s r = true) (hne : s ≠ t) : isS t r = false := by
  cases h2 : isS t r with
  | false => rfl
  | true => exact absurd ((isS_kind h).2.symm.trans (isS_kind h2).2) hne
theorem qE_end {m : Nat} {d : Int} {acc : List Ex} {r : List Tok} (h : isS [41] r = true) : qE m d acc r = .ok acc r.tail := by
  unfold qE
  by_cases e : acc = []
  · rw [if_pos e, if_pos h, e]
  · rw [if_neg e]
    unfold argRest must
    rw [if_neg (by rw [sign_two h (by decide)]; decide), if_pos h]
    rfl
theorem qE_one {m : Nat} {d : Int} {acc : List Ex} {r : List Tok} (h : isS [41] r = false) (ha : acc = []) (he : Ends (qE m d acc r)) : ∃ q, q + 1 = m ∧ qE m d acc r = (pE q 1 d r).bind fun e r => qE q d (acc ++ [e]) r := by
  subst ha
  unfold qE at he ⊢
  rw [if_pos rfl, if_neg (by rw [h]; decide)] at he ⊢
  cases m with
  | zero => rw [pAL] at he; exact absurd he id
  | succ q => exact ⟨q, rfl, by rw [pAL_got]; rfl⟩
theorem qE_more {m : Nat} {d : Int} {acc : List Ex} {r : List Tok} (h : isS [41] r = false) (ha : acc ≠ []) (he : Ends (qE m d acc r)) : ∃ q, q ≤ m ∧ qE m d acc r = (must [44] r).bind fun _ r => (pE q 1 d r).bind fun e r => qE q d (acc ++ [e]) r := by
  have e1 : ∀ q e r, qE q d (acc ++ [e]) r = argRest q d (acc ++ [e]) r := fun q e r => by unfold qE; rw [if_neg (by simp)]
  simp only [e1]
  unfold qE at he ⊢
  rw [if_neg ha] at he ⊢
  unfold argRest must at he ⊢
  cases h4 : isS [44] r with
  | true =>
    rw [h4, if_pos rfl] at he
    cases m with
    | zero => rw [pAL] at he; exact absurd he id
    | succ q =>
      refine ⟨q, by omega, ?_⟩
      show pAL (q + 1) d acc r.tail = _
      rw [pAL_got]
      rfl
  | false =>
    refine ⟨0, Nat.zero_le _, ?_⟩
    rw [h]
    rfl
theorem must_rest {s : List UInt8} {l r : List Tok} {u : Unit} (h : EndL l) (hx : must s l = .ok u r) : RestOf 1 l r := by
  have h1 := must_fits h s
  rw [hx] at h1
  exact h1
theorem pA_qE {n : Nat} {d : Int} {r : List Tok} : pA (n + 1) d r = qE n d [] r := by
  rw [pA]
  unfold qE
  rw [if_pos rfl]
end Go.Proofs.YtakijoblbmfadaaGreatDoor
