import Derived.Test.YtakijoblbmfadaaGreatDoorMgPrsBk
import Derived.Test.YtakijoblbmfadaaGreatDoorMgTreeVals
set_option linter.unusedSimpArgs false
set_option linter.unusedVariables false
/- The developers' parser: the program. (By tools/gen_prspg.py.) -/
namespace Go.Proofs.YtakijoblbmfadaaGreatDoor
open Go.RowKit
theorem At.grown {b g : Nat} {w W w5 : World} {X o : Obj} {r : List Tok} {row : Option Nat} (h : At b g w X r W) (hg : (W.alloc o).grownBy w5 row) (hrow : ∀ k, row = some k → w.heap.size + 2 ≤ k) : At b g w X r w5 ∧ ∀ k, k < W.heap.size → k < w.heap.size + 2 → w5.heap[k]? = W.heap[k]? := by
  have hal : Below W.heap.size W (W.alloc o) := (Below.refl _ _).alloc (Nat.le_refl _) _
  have hblk : ∀ k, k < W.heap.size → k < w.heap.size + 2 → w5.heap[k]? = W.heap[k]? := fun k hk hk2 => (hg.block k (Nat.lt_of_lt_of_le hk hal.size) (fun e => by have := hrow k e.symm; omega)).trans (hal.block k hk)
  have hh : Here b g w r w5 := Here.grown ⟨h.1, h.2.1⟩ ⟨h.2.2.2.1, h.2.2.2.2.1, h.2.2.2.2.2⟩ hg fun k hk => by have := hrow k hk; omega
  exact ⟨⟨hh.1, hh.2, (hblk _ h.size (by omega)).trans h.row, h.2.2.2⟩, hblk⟩
structure PgD (b g : Nat) (w : World) (r : List Tok) (W : World) (va vf : Value) (ars : List Ar) (fs : List FuV) : Prop where
  cur : At b g w pgBox r W
  row : W.heap[w.heap.size + 1]? = some (.cells #[va, vf] 35 (0, 0))
  arr : OutK kA (w.heap.size + 2) W va ars
  fnc : OutK kF (w.heap.size + 2) W vf fs
  nil : fs = [] → vf = .slice none 0 0
section
variable {b g : Nat} {w W W' : World} {r r' : List Tok} {va vf : Value} {ars : List Ar} {fs : List FuV}
theorem PgD.start (h : Lv b g r w) : PgD b g w r ((w.alloc pgBox).alloc pgBox) (.slice none 0 0) (.slice none 0 0) [] [] :=
  ⟨(At.start h pgBox).alloc pgBox, by have h1 := heap_alloc_new (w.alloc pgBox) pgBox; rw [alloc_size] at h1; exact h1, OutK.nil _ _ _, OutK.nil _ _ _, fun _ => rfl⟩
theorem PgD.size (h : PgD b g w r W va vf ars fs) : w.heap.size + 1 < W.heap.size := (Array.getElem?_eq_some_iff.1 h.row).1
theorem PgD.step (h : PgD b g w r W va vf ars fs) (l : Lv b g r' W') (o : OffB b W.heap.size W W') : PgD b g w r' W' va vf ars fs := by
  have hb := h.cur.lt
  exact ⟨h.cur.step l o, own_next o h.size (by omega) h.row, h.arr.keep (Keep.of_off o (by omega)), h.fnc.keep (Keep.of_off o (by omega)), h.nil⟩
theorem PgD.drew (h : PgD b g w r W va vf ars fs) : PgD b g w r W.drew va vf ars fs := h.step (h.cur.lv.below (Below.refl _ _).drew) (OffB.of_below (Below.refl _ _).drew h.cur.lv.lt)
theorem PgD.f (h : PgD b g w r W va vf ars fs) : (W.cell? ⟨w.heap.size + 1, 0, none⟩ = some va ∧ W.cell? ⟨w.heap.size + 1, 1, none⟩ = some vf) ∧ ∀ o, W.frozen? ⟨w.heap.size + 1, o, none⟩ = false := two_cells h.row
theorem PgD.own (h : PgD b g w r W va vf ars fs) : (W.cell? ⟨w.heap.size, 0, none⟩ = some (.slice none 0 0) ∧ W.cell? ⟨w.heap.size, 1, none⟩ = some (.slice none 0 0)) ∧ ∀ o, W.frozen? ⟨w.heap.size, o, none⟩ = false := two_cells h.cur.row
/-- An array more. -/
theorem PgD.array {w5 : World} {v1 : Value} {a : Ar} (h : PgD b g w r W va vf ars []) (hg : (W.alloc (.cells #[.string a.name, .int .i64 a.size] 56)).grownBy w5 va.ownBlock) (hr : RowAt (W.alloc (.cells #[.string a.name, .int .i64 a.size] 56)) va v1)
    (ho : w5.ownsRow (w.heap.size + 2) 56 2 v1 (ars.length + 1) (ars.flatMap kA.cs ++ [.string a.name, .int .i64 a.size])) :
    w5.heap[w.heap.size + 1]? = some (.cells #[va, vf] 35 (0, 0)) ∧ PgD b g w r (w5.setCell ⟨w.heap.size + 1, 0, none⟩ v1) v1 vf (ars ++ [a]) [] := by
  have hal : Below W.heap.size W (W.alloc (.cells #[.string a.name, .int .i64 a.size] 56)) := (Below.refl _ _).alloc (Nat.le_refl _) _
  have hO1 : OutK kA (w.heap.size + 2) w5 v1 (ars ++ [a]) := h.arr.app (L := W.heap.size) trivial (by have := h.size; omega) (fun k hk => (h.arr.own k hk).1) hal hg hr ho
  obtain ⟨hA, hblk⟩ := h.cur.grown hg fun k hk => (h.arr.own k hk).2
  have hrow5 := (hblk _ h.size (by omega)).trans h.row
  refine ⟨hrow5, hA.set (by omega) 0 v1, Lib.heap_setCell_same hrow5 v1, hO1.keep (Keep.set (by omega) 0 v1), ?_, h.nil⟩
  rw [h.nil rfl]
  exact OutK.nil _ _ _
/-- A function more. -/
theorem PgD.func {w5 : World} {v1 : Value} {s : ByteArray} {t : Int} {v2 v3 : Value} (h : PgD b g w r W va vf ars fs) (hg : (W.alloc (.cells #[.string s, .int .i64 t, v2, v3] 46)).grownBy w5 vf.ownBlock) (hr : RowAt (W.alloc (.cells #[.string s, .int .i64 t, v2, v3] 46)) vf v1)
    (ho : w5.ownsRow (w.heap.size + 2) 46 4 v1 (fs.length + 1) (fs.flatMap kF.cs ++ [.string s, .int .i64 t, v2, v3])) {L : Nat} (hL : w.heap.size + 2 ≤ L) (hL2 : ∀ k, vf.ownBlock = some k → k < L) {f : Fu} (hf : FrF L W f (.agg #[.string s, .int .i64 t, v2, v3])) :
    w5.heap[w.heap.size + 1]? = some (.cells #[va, vf] 35 (0, 0)) ∧ ∃ q : FuV, q.f = f ∧ PgD b g w r (w5.setCell ⟨w.heap.size + 1, 1, none⟩ v1) va v1 ars (fs ++ [q]) := by
  have hal : Below W.heap.size W (W.alloc (.cells #[.string s, .int .i64 t, v2, v3] 46)) := (Below.refl _ _).alloc (Nat.le_refl _) _
  have hblk0 : ∀ j, j < W.heap.size → vf.ownBlock ≠ some j → w5.heap[j]? = W.heap[j]? := fun j hj hj2 => (hg.block j (Nat.lt_of_lt_of_le hj hal.size) (fun e => hj2 e.symm)).trans (hal.block j hj)
  obtain ⟨hA, hblk⟩ := h.cur.grown hg fun k hk => (h.fnc.own k hk).2
  have hrow5 := (hblk _ h.size (by omega)).trans h.row
  obtain ⟨u2, u3, hv, h2, h3⟩ := hf
  simp only [Value.agg.injEq, Array.mk.injEq, List.cons.injEq, Value.int.injEq, Value.string.injEq, true_and, and_true] at hv
  obtain ⟨rfl, rfl, rfl, rfl⟩ := hv
  have hO1 : OutK kF (w.heap.size + 2) w5 v1 (fs ++ [⟨f, v2, v3⟩]) := h.fnc.app (K := kF) (L := L) (p := (⟨f, v2, v3⟩ : FuV)) (show SlP W.heap.size (mask (low L) W) v2 f.params ∧ SlS W.heap.size (mask (low L) W) v3 f.body from ⟨h2, h3⟩) hL hL2 hal hg hr ho
  have hR : OutK kA (w.heap.size + 2) w5 va ars := by
    refine ⟨own_keep h.arr.1 fun j hj => hblk0 j (h.arr.own j hj).1 ?_, fun p hp => trivial⟩
    exact own_apart h.arr.1 h.fnc.1 (by decide) j hj
  exact ⟨hrow5, ⟨f, v2, v3⟩, rfl, hA.set (by omega) 1 v1, Lib.heap_setCell_same hrow5 v1, hR.keep (Keep.set (by omega) 1 v1), hO1.keep (Keep.set (by omega) 1 v1), fun e => absurd e (by simp)⟩
theorem PgD.done (h : PgD b g w r W va vf ars fs) (hn : ars.length + fs.length ≤ 2000000) : FrG w.heap.size (nest2 W w.heap.size va vf) ⟨ars, fs.map (·.f)⟩ (.agg #[va, vf]) := by
  have hk : Keep (w.heap.size + 2) W (nest2 W w.heap.size va vf) := Keep.nest2 (by omega) _ _
  have ha := (h.arr.keep hk).arrays (by omega)
  have hf := (h.fnc.keep hk).funcs (by omega)
  have hl : ∀ g o u, CellB (nest2 W w.heap.size va vf).heap.size (mask (low (w.heap.size + 2)) (nest2 W w.heap.size va vf)) g o u → CellB (nest2 W w.heap.size va vf).heap.size (mask (low w.heap.size) (nest2 W w.heap.size va vf)) g o u := (Keep.refl (w.heap.size + 2) _).cells (by omega)
  exact ⟨va, vf, rfl, SlA.imp hl ha, SlF.imp hl hf⟩
end
theorem pPr_ty {q : Nat} {p : Pr} {r : List Tok} (h : hdK r ≠ 3) : pPr (q + 1) p r = (pTy r).bind fun t r => (want 1 r).bind fun s r => pgK q p ⟨s, t⟩ r := by
  rw [pPr_got h]
  unfold parOne
  simp only [bind_assoc]
  rfl
theorem parOne_of {r r1 r2 : List Tok} {t : Int} {s : ByteArray} (h1 : pTy r = .ok t r1) (h2 : want 1 r1 = .ok s r2) : parOne r = .ok ⟨s, t⟩ r2 := by
  unfold parOne
  rw [h1]
  show (want 1 r1).bind _ = _
  rw [h2]
  rfl
set_option maxHeartbeats 3200000 in
set_option maxRecDepth 100000 in
theorem dprog_any {b g n : Nat} {w : World} {r : List Tok} (h : Lv b g r w) (hn : Ends (pPr n ⟨[], []⟩ r)) :
    Calls Tryz.prog 32 #[.pointer (some ⟨b, 0, none⟩)] w (Gets b g w (pPr n ⟨[], []⟩ r) (FrG w.heap.size)) := by
  obtain ⟨T, hT⟩ : ∃ T, T = pPr n ⟨[], []⟩ r := ⟨_, rfl⟩
  rw [← hT] at hn ⊢
  have HTE := Lib.hid hn
  have HT0 := Lib.hid hT
  have HP := Lib.hid (PgD.start h)
  have hr1 := h.len
  have hbw := h.lt
  clear h hn hT
  go_enter Tryz.func32, Tryz.ntmps32
  go_wp2
  go_loopw [4, 5] (fun _ _ wr => ∃ (m : Nat) (ars : List Ar) (fs : List FuV) (r' : List Tok) (va vf : Value), m ≤ n ∧ PgD b g w r' wr va vf ars fs ∧ T = pPr m ⟨ars, fs.map (·.f)⟩ r' ∧ ars.length + fs.length + r'.length ≤ r.length) (fun _ _ wr => restL b wr)
  case atStart => exact ⟨n, [], [], r, _, _, Nat.le_refl _, HP.out, HT0.out, by simp⟩
  case round =>
    obtain ⟨i0, hi0, hz0, hz1, hz2⟩ := info_parts ar_info
    have HI0 := Lib.hid (And.intro hi0 (And.intro hz0 (And.intro hz1 hz2)))
    obtain ⟨i1, hi1, hy0, hy1, hy2⟩ := info_parts fu_info
    have HI1 := Lib.hid (And.intro hi1 (And.intro hy0 (And.intro hy1 hy2)))
    clear hi0 hz0 hz1 hz2 hi1 hy0 hy1 hy2
    obtain ⟨m, ars, fs, r', va, vf, hmn, hP, hT, hlen⟩ := hrel
    replace HP := Lib.hid hP
    obtain ⟨q, rfl⟩ : ∃ q, m = q + 1 := by
      cases m with
      | zero => have h1 := HTE.out; rw [hT, pPr] at h1; exact absurd h1 id
      | succ q => exact ⟨q, rfl⟩
    have HRL := Lib.hid (restL_lv hP.cur.lv)
    have hen := hP.cur.lv.ends
    by_cases hk3 : hdK r' = 3
    · have HA3 := Lib.hid (show decide (hdK r' = 3) = true by simp [hk3])
      have HT := Lib.hid (hT.trans (pPr_end hk3))
      clear hP hT hk3 hen
      obtain ⟨⟨p0, p1⟩, pz⟩ := HP.out.f
      obtain ⟨⟨q0, q1⟩, qz⟩ := HP.out.own
      obtain ⟨A0, cp0, rfl⟩ := HP.out.arr.form
      obtain ⟨A1, cp1, rfl⟩ := HP.out.fnc.form
      go_wp2_with (first
        | (go_at_call 57; (with_reducible refine (dahead_any HP.out.cur.lv _ true HA3.out).mono ?_); rintro e w93 ⟨rfl, rfl⟩))
      obtain ⟨⟨f0, f1⟩, _⟩ := two_cells (nest2_row HP.out.cur.row (.slice A0 ars.length cp0) (.slice A1 fs.length cp1))
      refine bodyPost_ret (v := .agg #[.slice A0 ars.length cp0, .slice A1 fs.length cp1]) (by simp [results, Tryz.results32, go_sem, f0, f1]) rfl ?_
      exact HP.out.cur.fing HT.out (nest2_below (Nat.le_refl _) (Below.refl _ _) _ _) (HP.out.done (by omega))
    · have HA3 := Lib.hid (show decide (hdK r' = 3) = false by simp [hk3])
      have HT := Lib.hid (hT.trans (pPr_ty hk3))
      have HEN := Lib.hid hen
      clear hP hT hk3 hen
      go_wp2_with (first
        | (go_at_call 57; (with_reducible refine (dahead_any HP.out.cur.lv _ false HA3.out).mono ?_); rintro e w93 ⟨rfl, rfl⟩)
        | (go_at_call 58; (with_reducible refine (dkind_any HP.out.cur.lv).mono ?_); rintro e w1 (⟨tv, r1, v, hx, rfl, hL, hO, rfl⟩ | ⟨k, r1, hx, rfl, hO⟩)
           rotate_left
           exact ⟨rfl, Gets.no (hx.go HT.out) (HP.out.cur.off hO)⟩
           have HX1 := Lib.hid (show pTy r' = .ok tv r1 from hx)
           replace HT := Lib.hid (show T = (want 1 r1).bind fun s r => pgK q ⟨ars, fs.map (·.f)⟩ ⟨s, tv⟩ r from HT.out.trans (by rw [show pTy r' = .ok tv r1 from hx]; rfl))
           replace HP := Lib.hid (HP.out.step hL hO)
           clear hx hL hO))
      go_at_call 59
      (with_reducible refine (dtext_any HP.out.cur.lv 1 (by decide)).mono ?_)
      rintro e w4 (⟨s', r2, v, hx, rfl, hL, hO, rfl⟩ | ⟨k, r2, hx, rfl, hO⟩)
      rotate_left
      exact ⟨rfl, Gets.no (hx.go HT.out) (HP.out.cur.off hO)⟩
      have HPO1 := Lib.hid (parOne_of HX1.out (show want 1 r1 = .ok s' r2 from hx))
      have HR1 := Lib.hid (show RestOf 1 r' r2 by have h1 := parOne_fits (r := r') HEN.out; rw [HPO1.out] at h1; exact h1)
      replace HT := Lib.hid (show T = pgK q ⟨ars, fs.map (·.f)⟩ ⟨s', tv⟩ r2 from HT.out.trans (by rw [show want 1 r1 = .ok s' r2 from hx]; rfl))
      replace HP := Lib.hid (HP.out.step hL hO)
      clear hx hL hO HX1 HPO1
      dsimp only
      by_cases hA : tv = 1 ∧ fs = [] ∧ isS [91] r2 = true
      · obtain ⟨rfl, rfl, h91⟩ := hA
        have hvf : vf = .slice none 0 0 := HP.out.nil rfl
        subst hvf
        replace HT := Lib.hid (HT.out.trans (pgK_arr rfl rfl h91))
        have HB := Lib.hid (show isS (⟨#[91]⟩ : ByteArray).data.toList r2 = true from h91)
        have HR2 := Lib.hid ((HR1.out.trans (RestOf.sign HR1.out.2.1 h91)).mono (m := 1) (by omega))
        obtain ⟨⟨p0, p1⟩, pz⟩ := HP.out.f
        clear h91
        go_wp2_with (first
          | (go_at_call 60; (with_reducible refine (dtake_yes HP.out.cur.lv _ HB.out).mono ?_); rintro e w5 ⟨rfl, hL, hO⟩
             replace HP := Lib.hid (HP.out.step hL hO)
             obtain ⟨⟨p0, p1⟩, pz⟩ := HP.out.f
             clear hL hO))
        obtain ⟨A0, cp0, rfl⟩ := HP.out.arr.form
        have hzs := HP.out.size
        go_region_law (first
          | (refine step_append_at rfl (.tmp 26) (.tmp 30) _ rfl (w.heap.size + 2) 56 i0 _ 2 24 Tryz.underlying32 HI0.out.1 HI0.out.2.1 HI0.out.2.2.1 HI0.out.2.2.2 rfl (by omega) (.slice A0 ars.length cp0) ars.length _ rfl (by exact HPRE.out.1) ⟨w6.heap.size, 0, none⟩ 1 1 [.string k1, .int .i64 k2] rfl rfl (by exact HPRE.out.2.1) (by simp [Value.oneCell']) (by simp only [maxLen]; omega) (by omega) (by exact HPRE.out.2.2) (by omega) ?_
             intro v1 w7 hown1 hg1 hr9
             obtain ⟨A4, cp4, rfl⟩ := own_form hown1
             have HX1 := Lib.hid (HP.out.array (a := ⟨k1, k2⟩) hg1 hr9 hown1)
             obtain ⟨⟨hk7, _⟩, fz7⟩ := two_cells HX1.out.1
             clear hown1 hg1 hr9)
          | (go_simp; go_at_call 61; (with_reducible refine (darr_any HP.out.drew.cur.lv).mono ?_); rintro e w6 (⟨a, r6, v, hx, rfl, hL, hO, hF⟩ | ⟨k, r6, hx, rfl, hO⟩)
             rotate_left
             exact ⟨rfl, Gets.no (hx.go HT.out) (HP.out.drew.cur.off hO)⟩
             obtain ⟨k1, k2⟩ := a
             obtain rfl := hF
             have HFX := Lib.hid (show RestOf 1 r2.tail r6 by have h1 := pArr_fits (s := s') HR2.out.2.1; rw [show pArr s' r2.tail = .ok ⟨k1, k2⟩ r6 from hx] at h1; exact h1)
             replace HT := Lib.hid (show T = pPr q ⟨ars ++ [⟨k1, k2⟩], []⟩ r6 from HT.out.trans (by rw [show pArr s' r2.tail = .ok ⟨k1, k2⟩ r6 from hx]; rfl))
             replace HP := Lib.hid (HP.out.drew.step hL hO)
             obtain ⟨⟨p0, p1⟩, pz⟩ := HP.out.f
             have hz6 := HP.out.size
             obtain ⟨⟨g0, g1⟩, gz⟩ := two_cells (own_more HP.out.row (.cells #[.string k1, .int .i64 k2] 56))
             have HPRE := Lib.hid (HP.out.arr.pre [.string k1, .int .i64 k2] (by omega))
             clear hx hL hO))
        all_goals
          go_wp2
          have hrl := restL_lv HX1.out.2.cur.lv
          go_roundw
          case rel => exact ⟨q, _, _, r6, _, _, by omega, HX1.out.2, HT.out, by have h1 := HFX.out.2.2; have h2 := HR2.out.2.2; simp only [List.length_append, List.length_nil, List.length_singleton] at hlen ⊢; omega⟩
          case measure =>
            rw [hrl, HRL.out]
            have h1 := HFX.out.2.2
            have h2 := HR2.out.2.2
            omega
      · replace HT := Lib.hid (show T = (pFn q tv s' r2).bind fun f r => pPr q ⟨ars, fs.map (·.f) ++ [f]⟩ r from HT.out.trans (by
          have h9 := pgK_fn (q := q) (p := ⟨ars, fs.map (·.f)⟩) (a := ⟨s', tv⟩) (z := .ok () r2) (fun h => hA ⟨h.1, by simpa using h.2.1, h.2.2⟩)
          exact h9))
        have HNF := Lib.hid (show Ends (pFn q tv s' r2) from ends_left (HT.out ▸ HTE.out))
        obtain ⟨⟨p0, p1⟩, pz⟩ := HP.out.f
        by_cases h1 : tv = 1
        · subst h1
          cases fs with
          | nil =>
            have hvf : vf = .slice none 0 0 := HP.out.nil rfl
            subst hvf
            have HB := Lib.hid (show isS (⟨#[91]⟩ : ByteArray).data.toList r2 = false by
              by_cases h : isS [91] r2 = true
              · exact absurd ⟨rfl, rfl, h⟩ hA
              · exact Bool.eq_false_iff.2 h)
            obtain ⟨fs, hfs⟩ : ∃ fs : List FuV, fs = [] := ⟨_, rfl⟩
            rw [← hfs] at HP HT hlen
            clear hA hfs
            go_wp2_with (first
              | (go_at_call 60; (with_reducible refine (dtake_no HP.out.cur.lv _ HB.out).mono ?_); rintro e w9 ⟨rfl, rfl⟩))
            have HPO := Lib.hid HP.out.fnc.own
            have HZS := Lib.hid HP.out.size
            go_region_law (first
              | (refine step_append_at rfl (.tmp 34) (.tmp 39) _ rfl (w.heap.size + 2) 46 i1 _ 4 72 Tryz.underlying33 HI1.out.1 HI1.out.2.1 HI1.out.2.2.1 HI1.out.2.2.2 rfl (by omega) (.slice none 0 0) fs.length _ rfl (by exact HPRE.out.1) ⟨w6.heap.size, 0, none⟩ 1 1 [.string sF, .int .i64 tF, .slice A2 m2 q2, .slice A3 m3 q3] rfl rfl (by exact HPRE.out.2.1) (by simp [Value.oneCell']) (by simp only [maxLen]; omega) (by omega) (by exact HPRE.out.2.2) (by omega) ?_
                 intro v1 w7 hown1 hg1 hr9
                 obtain ⟨A4, cp4, rfl⟩ := own_form hown1
                 have HX1 := Lib.hid (HP.out.func hg1 hr9 hown1 HL6.out (fun k hk => (HPO.out k hk).1) HF.out)
                 obtain ⟨⟨_, hk7⟩, fz7⟩ := two_cells HX1.out.1
                 clear hown1 hg1 hr9)
              | (go_simp; go_at_call 62; (with_reducible refine (dfn_any HP.out.drew.cur.lv HNF.out).mono ?_); rintro e w6 (⟨f, r6, v, hx, rfl, hL, hO, hF⟩ | ⟨k, r6, hx, rfl, hO⟩)
                 rotate_left
                 exact ⟨rfl, Gets.no (hx.go HT.out) (HP.out.drew.cur.off hO)⟩
                 obtain ⟨sF, tF, A2, m2, q2, A3, m3, q3, rfl⟩ := hF.form
                 have HF := Lib.hid hF
                 have HL6 := Lib.hid (show w.heap.size + 2 ≤ _ from HZS.out)
                 have HFX := Lib.hid (show RestOf 1 r2 r6 by have h1 := pFn_fits (n := q) (t := 1) (s := s') HR1.out.2.1; rw [show pFn q 1 s' r2 = .ok f r6 from hx] at h1; exact h1)
                 replace HT := Lib.hid (show T = pPr q ⟨ars, fs.map (·.f) ++ [f]⟩ r6 from HT.out.trans (by rw [show pFn q 1 s' r2 = .ok f r6 from hx]; rfl))
                 replace HP := Lib.hid (HP.out.drew.step hL hO)
                 obtain ⟨⟨p0, p1⟩, pz⟩ := HP.out.f
                 have hz6 := HP.out.size
                 obtain ⟨⟨g0, g1⟩, gz⟩ := two_cells (own_more HP.out.row (.cells #[.string sF, .int .i64 tF, .slice A2 m2 q2, .slice A3 m3 q3] 46))
                 have HPRE := Lib.hid (HP.out.fnc.pre [.string sF, .int .i64 tF, .slice A2 m2 q2, .slice A3 m3 q3] (by omega))
                 clear hx hL hO hF))
            all_goals
              go_wp2
              obtain ⟨qf, hqf, hP9⟩ := HX1.out.2
              have HP9 := Lib.hid hP9
              have hrl := restL_lv hP9.cur.lv
              clear hP9
              go_roundw
              case rel => exact ⟨q, _, _, r6, _, _, by omega, HP9.out, by rw [HT.out, List.map_append, ← hqf]; rfl, by have h1 := HFX.out.2.2; have h2 := HR1.out.2.2; simp only [List.length_append, List.length_nil, List.length_singleton] at hlen ⊢; omega⟩
              case measure =>
                rw [hrl, HRL.out]
                have h1 := HFX.out.2.2
                have h2 := HR1.out.2.2
                omega
          | cons f0 ft =>
            obtain ⟨fs, hfs⟩ : ∃ fs, fs = f0 :: ft := ⟨_, rfl⟩
            have hfl : 0 < fs.length := by rw [hfs]; simp
            rw [← hfs] at HP HT hlen
            have hfl2 : ((fs.length : Int) == 0) = false := by rw [beq_eq_false_iff_ne]; omega
            obtain ⟨A1, cp1, rfl⟩ := HP.out.fnc.form
            clear hA hfs
            go_wp2_with (fail)
            have HPO := Lib.hid HP.out.fnc.own
            have HZS := Lib.hid HP.out.size
            go_region_law (first
              | (refine step_append_at rfl (.tmp 34) (.tmp 39) _ rfl (w.heap.size + 2) 46 i1 _ 4 72 Tryz.underlying33 HI1.out.1 HI1.out.2.1 HI1.out.2.2.1 HI1.out.2.2.2 rfl (by omega) (.slice A1 fs.length cp1) fs.length _ rfl (by exact HPRE.out.1) ⟨w6.heap.size, 0, none⟩ 1 1 [.string sF, .int .i64 tF, .slice A2 m2 q2, .slice A3 m3 q3] rfl rfl (by exact HPRE.out.2.1) (by simp [Value.oneCell']) (by simp only [maxLen]; omega) (by omega) (by exact HPRE.out.2.2) (by omega) ?_
                 intro v1 w7 hown1 hg1 hr9
                 obtain ⟨A4, cp4, rfl⟩ := own_form hown1
                 have HX1 := Lib.hid (HP.out.func hg1 hr9 hown1 HL6.out (fun k hk => (HPO.out k hk).1) HF.out)
                 obtain ⟨⟨_, hk7⟩, fz7⟩ := two_cells HX1.out.1
                 clear hown1 hg1 hr9)
              | (go_simp; go_at_call 62; (with_reducible refine (dfn_any HP.out.drew.cur.lv HNF.out).mono ?_); rintro e w6 (⟨f, r6, v, hx, rfl, hL, hO, hF⟩ | ⟨k, r6, hx, rfl, hO⟩)
                 rotate_left
                 exact ⟨rfl, Gets.no (hx.go HT.out) (HP.out.drew.cur.off hO)⟩
                 obtain ⟨sF, tF, A2, m2, q2, A3, m3, q3, rfl⟩ := hF.form
                 have HF := Lib.hid hF
                 have HL6 := Lib.hid (show w.heap.size + 2 ≤ _ from HZS.out)
                 have HFX := Lib.hid (show RestOf 1 r2 r6 by have h1 := pFn_fits (n := q) (t := 1) (s := s') HR1.out.2.1; rw [show pFn q 1 s' r2 = .ok f r6 from hx] at h1; exact h1)
                 replace HT := Lib.hid (show T = pPr q ⟨ars, fs.map (·.f) ++ [f]⟩ r6 from HT.out.trans (by rw [show pFn q 1 s' r2 = .ok f r6 from hx]; rfl))
                 replace HP := Lib.hid (HP.out.drew.step hL hO)
                 obtain ⟨⟨p0, p1⟩, pz⟩ := HP.out.f
                 have hz6 := HP.out.size
                 obtain ⟨⟨g0, g1⟩, gz⟩ := two_cells (own_more HP.out.row (.cells #[.string sF, .int .i64 tF, .slice A2 m2 q2, .slice A3 m3 q3] 46))
                 have HPRE := Lib.hid (HP.out.fnc.pre [.string sF, .int .i64 tF, .slice A2 m2 q2, .slice A3 m3 q3] (by omega))
                 clear hx hL hO hF))
            all_goals
              go_wp2
              obtain ⟨qf, hqf, hP9⟩ := HX1.out.2
              have HP9 := Lib.hid hP9
              have hrl := restL_lv hP9.cur.lv
              clear hP9
              go_roundw
              case rel => exact ⟨q, _, _, r6, _, _, by omega, HP9.out, by rw [HT.out, List.map_append, ← hqf]; rfl, by have h1 := HFX.out.2.2; have h2 := HR1.out.2.2; simp only [List.length_append, List.length_nil, List.length_singleton] at hlen ⊢; omega⟩
              case measure =>
                rw [hrl, HRL.out]
                have h1 := HFX.out.2.2
                have h2 := HR1.out.2.2
                omega
        · have h1b : (tv == 1) = false := by simpa using h1
          obtain ⟨A1, cp1, rfl⟩ := HP.out.fnc.form
          clear hA h1
          go_wp2_with (fail)
          have HPO := Lib.hid HP.out.fnc.own
          have HZS := Lib.hid HP.out.size
          go_region_law (first
            | (refine step_append_at rfl (.tmp 34) (.tmp 39) _ rfl (w.heap.size + 2) 46 i1 _ 4 72 Tryz.underlying33 HI1.out.1 HI1.out.2.1 HI1.out.2.2.1 HI1.out.2.2.2 rfl (by omega) (.slice A1 fs.length cp1) fs.length _ rfl (by exact HPRE.out.1) ⟨w6.heap.size, 0, none⟩ 1 1 [.string sF, .int .i64 tF, .slice A2 m2 q2, .slice A3 m3 q3] rfl rfl (by exact HPRE.out.2.1) (by simp [Value.oneCell']) (by simp only [maxLen]; omega) (by omega) (by exact HPRE.out.2.2) (by omega) ?_
               intro v1 w7 hown1 hg1 hr9
               obtain ⟨A4, cp4, rfl⟩ := own_form hown1
               have HX1 := Lib.hid (HP.out.func hg1 hr9 hown1 HL6.out (fun k hk => (HPO.out k hk).1) HF.out)
               obtain ⟨⟨_, hk7⟩, fz7⟩ := two_cells HX1.out.1
               clear hown1 hg1 hr9)
            | (go_simp; go_at_call 62; (with_reducible refine (dfn_any HP.out.drew.cur.lv HNF.out).mono ?_); rintro e w6 (⟨f, r6, v, hx, rfl, hL, hO, hF⟩ | ⟨k, r6, hx, rfl, hO⟩)
               rotate_left
               exact ⟨rfl, Gets.no (hx.go HT.out) (HP.out.drew.cur.off hO)⟩
               obtain ⟨sF, tF, A2, m2, q2, A3, m3, q3, rfl⟩ := hF.form
               have HF := Lib.hid hF
               have HL6 := Lib.hid (show w.heap.size + 2 ≤ _ from HZS.out)
               have HFX := Lib.hid (show RestOf 1 r2 r6 by have h1 := pFn_fits (n := q) (t := tv) (s := s') HR1.out.2.1; rw [show pFn q tv s' r2 = .ok f r6 from hx] at h1; exact h1)
               replace HT := Lib.hid (show T = pPr q ⟨ars, fs.map (·.f) ++ [f]⟩ r6 from HT.out.trans (by rw [show pFn q tv s' r2 = .ok f r6 from hx]; rfl))
               replace HP := Lib.hid (HP.out.drew.step hL hO)
               obtain ⟨⟨p0, p1⟩, pz⟩ := HP.out.f
               have hz6 := HP.out.size
               obtain ⟨⟨g0, g1⟩, gz⟩ := two_cells (own_more HP.out.row (.cells #[.string sF, .int .i64 tF, .slice A2 m2 q2, .slice A3 m3 q3] 46))
               have HPRE := Lib.hid (HP.out.fnc.pre [.string sF, .int .i64 tF, .slice A2 m2 q2, .slice A3 m3 q3] (by omega))
               clear hx hL hO hF))
          all_goals
            go_wp2
            obtain ⟨qf, hqf, hP9⟩ := HX1.out.2
            have HP9 := Lib.hid hP9
            have hrl := restL_lv hP9.cur.lv
            clear hP9
            go_roundw
            case rel => exact ⟨q, _, _, r6, _, _, by omega, HP9.out, by rw [HT.out, List.map_append, ← hqf]; rfl, by have h1 := HFX.out.2.2; have h2 := HR1.out.2.2; simp only [List.length_append, List.length_nil, List.length_singleton] at hlen ⊢; omega⟩
            case measure =>
              rw [hrl, HRL.out]
              have h1 := HFX.out.2.2
              have h2 := HR1.out.2.2
              omega
end Go.Proofs.YtakijoblbmfadaaGreatDoor

/- The contracts of the scanner's next and of token.Tokens: the tokens of any text are those that scan tells. -/
namespace Go.Proofs.YtakijoblbmfadaaGreatDoor
open Go.RowKit
theorem spanN_take (l : List UInt8) : l.takeWhile isAln = l.take (spanN l) := List.prefix_iff_eq_take.1 (List.takeWhile_prefix _)
theorem take_aln (l : List UInt8) : (l.take (spanN l)).all isAln = true := by rw [← spanN_take]; exact List.all_takeWhile
theorem one_span {l : List UInt8} (h : 0 < spanN l) : one l = (kindT (l.take (spanN l))).map fun k => (k, l.take (spanN l)) := by
  unfold one
  rw [if_pos (by intro e; have : spanN l = 0 := by unfold spanN; rw [e]; rfl
                 omega), spanN_take]
theorem one_sign {l : List UInt8} (h : spanN l = 0) : one l = if signL l ≠ [] then some (2, signL l) else none := by
  unfold one
  rw [if_neg (by rw [spanN_take, h]; simp)]
theorem signL_prefix (l : List UInt8) : l.take (signL l).length = signL l := by
  have h : (signL l).isPrefixOf l = true := by
    unfold signL
    cases hf : allSigns.find? (fun t => Lib.hasPrefix l t) with
    | none => simp
    | some t => exact List.find?_some (p := fun t => Lib.hasPrefix l t) hf
  exact (List.prefix_iff_eq_take.1 (List.isPrefixOf_iff_prefix.1 h)).symm
theorem signL_le (l : List UInt8) : (signL l).length ≤ l.length := by
  have := congrArg List.length (signL_prefix l)
  rw [List.length_take] at this
  omega
theorem Toks.below {w w' : World} {B : Nat} {v : Value} {ts : List Tok} (h : Toks w B v ts) (hb : Below w.heap.size w w') : Toks w' B v ts := own_below h hb (Nat.le_refl _)
/-- What next leaves where a token stands. -/
def NextPost (B g : Nat) (w : World) (s : ByteArray) (line : Nat) (ts : List Tok) (k : Int) (n : Nat) (e : Ending) (w' : World) : Prop :=
  e = .returned (.bool true) ∧ ∃ v', Is w' g 69 #[.string (s.extract n s.size), .int .i64 line, v'] ∧ Toks w' B v' (ts ++ [⟨k, s.data.toList.take n, line⟩]) ∧ Below B w w'
/-- What next leaves where none stands. -/
def NextNone (B g : Nat) (w : World) (s : ByteArray) (line : Nat) (v : Value) (e : Ending) (w' : World) : Prop :=
  e = .returned (.bool false) ∧ Is w' g 69 #[.string s, .int .i64 line, v] ∧ Below B w w'
theorem symbol_is (B : Nat) (s t : ByteArray) (h : (⟨(signL s.data.toList).toArray⟩ : ByteArray) = t) (w : World) (ht : TokTab B w) :
    Calls Tryz.prog 56 #[.string s] w fun e w' => e = .returned (.string t) ∧ w = w' := h ▸ symbol_any B s w ht
section
variable (B g : Nat) (w : World) (s : ByteArray) (line : Nat) (v : Value) (ts : List Tok) (hI : Is w g 69 #[.string s, .int .i64 line, v]) (hB : B ≤ g) (hO : Toks w B v ts) (ht : TokTab B w)
  (hs : s.size ≤ 281474976710656) (hl : ts.length < 4294967296)
include hI hB hO ht hs hl
theorem next_word (n : Nat) (hn : spanN s.data.toList = n) (h0 : 0 < n) (k : Int) (hk : kindT (s.extract 0 n).data.toList = some k) :
    Calls Tryz.prog 29 #[.pointer (some ⟨g, 0, none⟩)] w (NextPost B g w s line ts k n) := by
  have c0 : w.cell? ⟨g, 0, none⟩ = some (.string s) := (hI.cell 0).trans rfl
  have hz := hI.lt
  have hle : n ≤ s.size := by rw [← hn]; exact spanN_le _
  have HE : Hid ((s.extract 0 n).size = n) := by unfold Hid; rw [Lib.size_eq, Lib.extract_data, List.length_take, List.drop_zero, ← Lib.size_eq]; omega
  have HA : Hid ((s.extract 0 n).data.toList.all isAln = true) := by unfold Hid; rw [Lib.extract_data, ← hn]; exact take_aln _
  have HN := Lib.hid hn
  have HK := Lib.hid hk
  have HI := Lib.hid hI
  have HO := Lib.hid hO
  have HT := Lib.hid ht
  have hbw : B ≤ w.heap.size := by omega
  clear hn hk hI hO ht
  go_enter Tryz.func29, Tryz.ntmps29
  go_wp2_with (first
    | (go_at_call 54
       (with_reducible refine (span_is _ _ HN.out _).mono ?_)
       rintro e w1 ⟨rfl, hb1⟩
       have k0 : w1.cell? ⟨g, 0, none⟩ = some (.string s) := ((HI.out.below hb1 HI.out.lt).cell 0).trans rfl)
    | (go_at_call 55
       (with_reducible refine (kindOf_any B _ _ HK.out HA.out _ (by rw [HE.out]; exact h0) (by rw [HE.out]; omega) (HT.out.below (hb1.mono hbw)) (Nat.le_trans hbw hb1.size)).mono ?_)
       rintro e w2 ⟨rfl, hb2⟩)
    | (go_at_call 30
       (with_reducible refine (take_any B g _ s line v ts _ n ((HI.out.below hb1 HI.out.lt).below hb2 (Nat.lt_of_lt_of_le HI.out.lt hb1.size)) hB ((HO.out.below hb1).below hb2) hle hl).mono ?_)
       rintro e w3 ⟨rfl, v3, hI3, hO3, hb3⟩
       have HI3 := Lib.hid hI3
       have HO3 := Lib.hid hO3
       clear hI3 hO3))
  go_ret
  exact ⟨rfl, v3, HI3.out, HO3.out, (hb1.mono hbw).trans ((hb2.mono (Nat.le_trans hbw hb1.size)).trans hb3)⟩
omit hO hl in
theorem next_bad (n : Nat) (hn : spanN s.data.toList = n) (h0 : 0 < n) (hk : kindT (s.extract 0 n).data.toList = none) :
    Calls Tryz.prog 29 #[.pointer (some ⟨g, 0, none⟩)] w (NextNone B g w s line v) := by
  have c0 : w.cell? ⟨g, 0, none⟩ = some (.string s) := (hI.cell 0).trans rfl
  have hz := hI.lt
  have hle : n ≤ s.size := by rw [← hn]; exact spanN_le _
  have HE : Hid ((s.extract 0 n).size = n) := by unfold Hid; rw [Lib.size_eq, Lib.extract_data, List.length_take, List.drop_zero, ← Lib.size_eq]; omega
  have HA : Hid ((s.extract 0 n).data.toList.all isAln = true) := by unfold Hid; rw [Lib.extract_data, ← hn]; exact take_aln _
  have HN := Lib.hid hn
  have HK := Lib.hid hk
  have HI := Lib.hid hI
  have HT := Lib.hid ht
  have hbw : B ≤ w.heap.size := by omega
  clear hn hk hI ht
  go_enter Tryz.func29, Tryz.ntmps29
  go_wp2_with (first
    | (go_at_call 54
       (with_reducible refine (span_is _ _ HN.out _).mono ?_)
       rintro e w1 ⟨rfl, hb1⟩
       have k0 : w1.cell? ⟨g, 0, none⟩ = some (.string s) := ((HI.out.below hb1 HI.out.lt).cell 0).trans rfl)
    | (go_at_call 55
       (with_reducible refine (kindOf_any B _ _ HK.out HA.out _ (by rw [HE.out]; exact h0) (by rw [HE.out]; omega) (HT.out.below (hb1.mono hbw)) (Nat.le_trans hbw hb1.size)).mono ?_)
       rintro e w2 ⟨rfl, hb2⟩))
  go_ret
  exact ⟨rfl, (HI.out.below hb1 HI.out.lt).below hb2 (Nat.lt_of_lt_of_le HI.out.lt hb1.size), (hb1.mono hbw).trans (hb2.mono (Nat.le_trans hbw hb1.size))⟩
omit hs in
theorem next_sign (hn : spanN s.data.toList = 0) (t : ByteArray) (h1 : (⟨(signL s.data.toList).toArray⟩ : ByteArray) = t) (n : Nat) (h2 : t.size = n) (h0 : 0 < n) (hle : n ≤ s.size) :
    Calls Tryz.prog 29 #[.pointer (some ⟨g, 0, none⟩)] w (NextPost B g w s line ts 2 n) := by
  have c0 : w.cell? ⟨g, 0, none⟩ = some (.string s) := (hI.cell 0).trans rfl
  have hz := hI.lt
  have HN := Lib.hid hn
  have H1 := Lib.hid h1
  subst h2
  have HI := Lib.hid hI
  have HO := Lib.hid hO
  have HT := Lib.hid ht
  have hbw : B ≤ w.heap.size := by omega
  clear hn h1 hI hO ht
  go_enter Tryz.func29, Tryz.ntmps29
  go_wp2_with (first
    | (go_at_call 54
       (with_reducible refine (span_is _ _ HN.out _).mono ?_)
       rintro e w1 ⟨rfl, hb1⟩
       have k0 : w1.cell? ⟨g, 0, none⟩ = some (.string s) := ((HI.out.below hb1 HI.out.lt).cell 0).trans rfl)
    | (go_at_call 56
       (with_reducible refine (symbol_is B _ _ H1.out _ (HT.out.below (hb1.mono hbw))).mono ?_)
       rintro e w' ⟨rfl, rfl⟩)
    | (go_at_call 30
       (with_reducible refine (take_any B g _ s line v ts _ t.size (HI.out.below hb1 HI.out.lt) hB (HO.out.below hb1) hle hl).mono ?_)
       rintro e w3 ⟨rfl, v3, hI3, hO3, hb3⟩
       have HI3 := Lib.hid hI3
       have HO3 := Lib.hid hO3
       clear hI3 hO3))
  go_ret
  exact ⟨rfl, v3, HI3.out, HO3.out, (hb1.mono hbw).trans hb3⟩
omit hO hs hl in
theorem next_none (hn : spanN s.data.toList = 0) (t : ByteArray) (h1 : (⟨(signL s.data.toList).toArray⟩ : ByteArray) = t) (h0 : t.size = 0) :
    Calls Tryz.prog 29 #[.pointer (some ⟨g, 0, none⟩)] w (NextNone B g w s line v) := by
  have c0 : w.cell? ⟨g, 0, none⟩ = some (.string s) := (hI.cell 0).trans rfl
  have hz := hI.lt
  have HN := Lib.hid hn
  have H1 := Lib.hid h1
  have HI := Lib.hid hI
  have HT := Lib.hid ht
  have hbw : B ≤ w.heap.size := by omega
  clear hn h1 hI ht
  go_enter Tryz.func29, Tryz.ntmps29
  go_wp2_with (first
    | (go_at_call 54
       (with_reducible refine (span_is _ _ HN.out _).mono ?_)
       rintro e w1 ⟨rfl, hb1⟩
       have k0 : w1.cell? ⟨g, 0, none⟩ = some (.string s) := ((HI.out.below hb1 HI.out.lt).cell 0).trans rfl)
    | (go_at_call 56
       (with_reducible refine (symbol_is B _ _ H1.out _ (HT.out.below (hb1.mono hbw))).mono ?_)
       rintro e w' ⟨rfl, rfl⟩))
  go_ret
  exact ⟨rfl, HI.out.below hb1 HI.out.lt, hb1.mono hbw⟩
/-- A token stands: next takes it. -/
theorem next_some (k : Int) (t : List UInt8) (h : one s.data.toList = some (k, t)) :
    Calls Tryz.prog 29 #[.pointer (some ⟨g, 0, none⟩)] w (NextPost B g w s line ts k t.length) := by
  by_cases h0 : 0 < spanN s.data.toList
  · rw [one_span h0] at h
    obtain ⟨k', hk, e⟩ := Option.map_eq_some_iff.1 h
    injection e with e1 e2
    subst e1 e2
    have hl2 : (s.data.toList.take (spanN s.data.toList)).length = spanN s.data.toList := by rw [List.length_take]; have := spanN_le s.data.toList; omega
    rw [hl2]
    exact next_word B g w s line v ts hI hB hO ht hs hl _ rfl h0 k' (by rw [Lib.extract_data, List.drop_zero, Nat.sub_zero]; exact hk)
  · have hn : spanN s.data.toList = 0 := by omega
    rw [one_sign hn] at h
    split at h
    · rename_i hne
      injection h with h
      injection h with e1 e2
      subst e1 e2
      exact next_sign B g w s line v ts hI hB hO ht hl hn _ rfl _ rfl (List.length_pos_iff.2 hne) (signL_le _)
    · cases h
omit hO hl in
/-- None stands. -/
theorem next_fail (h : one s.data.toList = none) :
    Calls Tryz.prog 29 #[.pointer (some ⟨g, 0, none⟩)] w (NextNone B g w s line v) := by
  by_cases h0 : 0 < spanN s.data.toList
  · rw [one_span h0] at h
    have hk := Option.map_eq_none_iff.1 h
    exact next_bad B g w s line v hI hB ht hs _ rfl h0 (by rw [Lib.extract_data, List.drop_zero, Nat.sub_zero]; exact hk)
  · have hn : spanN s.data.toList = 0 := by omega
    rw [one_sign hn] at h
    split at h
    · cases h
    · rename_i hne
      exact next_none B g w s line v hI hB ht hn _ rfl (by simp at hne; show (signL s.data.toList).length = 0; rw [hne]; rfl)
end
theorem one_take {l : List UInt8} {k : Int} {t : List UInt8} (h : one l = some (k, t)) : l.take t.length = t ∧ 0 < t.length ∧ t.length ≤ l.length := by
  by_cases h0 : 0 < spanN l
  · rw [one_span h0] at h
    obtain ⟨k', _, e⟩ := Option.map_eq_some_iff.1 h
    injection e with e1 e2
    subst e2
    have := spanN_le l
    rw [List.length_take]
    exact ⟨by rw [Nat.min_eq_left this], by omega, by omega⟩
  · rw [one_sign (by omega)] at h
    split at h
    · rename_i hne
      injection h with h
      injection h with e1 e2
      subst e2
      exact ⟨signL_prefix l, List.length_pos_iff.2 hne, signL_le l⟩
    · cases h
/-- What Tokens tells. -/
def TokensPost (w : World) (l : List UInt8) (e : Ending) (w' : World) : Prop :=
  Below w.heap.size w w' ∧ match (scan l 1).2 with
    | none => ∃ v, e = .returned (.tuple #[v, .int .i64 0, .int .i64 0]) ∧ Toks w' w.heap.size v (scan l 1).1
    | some ln => e = .returned (.tuple #[.slice none 0 0, .int .i64 20, .int .i64 (ln : Int)])
/-- What its loop keeps. -/
def TokensRel (w : World) (l : List UInt8) (wr : World) : Prop :=
  ∃ (s' : ByteArray) (line' : Nat) (v : Value) (ts : List Tok), Is wr w.heap.size 69 #[.string s', .int .i64 line', v] ∧ gapN s'.data.toList = 0 ∧ Toks wr w.heap.size v ts ∧ Below w.heap.size w wr ∧
    scan l 1 = (ts ++ (scan s'.data.toList line').1, (scan s'.data.toList line').2) ∧ s'.size + line' ≤ l.length + 1 ∧ ts.length + s'.size ≤ l.length
theorem tokens_long (s : ByteArray) (w : World) (h : 100000 < s.size) : Calls Tryz.prog 18 #[.string s] w fun e w' => e = .returned (.tuple #[.slice none 0 0, .int .i64 2, .int .i64 0]) ∧ w = w' := by
  have hd : decide ((100000 : Int) < s.size) = true := by simp; omega
  clear h
  go_enter Tryz.func18, Tryz.ntmps18
  go_wp2
  go_ret3
  exact ⟨rfl, rfl⟩
theorem Toks.only {w w' : World} {B g : Nat} {v : Value} {ts : List Tok} {cs : Array Value} (h : Toks w B v ts) (hI : Is w g 69 cs) (hg : w.grownBy w' (some g)) : Toks w' B v ts := own_only h hI (by decide) hg
theorem Toks.nil (w : World) (B : Nat) : Toks w B (.slice none 0 0) [] := ⟨rfl, .inl ⟨rfl, rfl⟩⟩
theorem tokens_start (s : ByteArray) (w : World) (e : Ending) (w1 : World)
    (h : SkipPost w.heap.size (w.alloc (.cells #[.string s, .int .i64 1, .slice none 0 0] 69)) s 1 (.slice none 0 0) e w1) : e = .returned (.tuple #[]) ∧ TokensRel w s.data.toList w1 := by
  obtain ⟨rfl, s', line', hI, hg, hgr, hsc, hsz, hss⟩ := h
  have hb0 : Below w.heap.size w (w.alloc (.cells #[.string s, .int .i64 1, .slice none 0 0] 69)) := (Below.refl _ _).alloc (Nat.le_refl _) _
  refine ⟨rfl, s', line', _, [], hI, hg, Toks.nil _ _, hb0.trans (below_only hgr (Nat.le_refl _) hb0.size), ?_, ?_, ?_⟩
  · rw [hsc]
    rfl
  · rw [← Lib.size_eq]
    exact hsz
  · rw [← Lib.size_eq]
    simpa using hss
/-- One token and the gap behind it. -/
theorem scan_one {l : List UInt8} {line : Nat} {k : Int} {t : List UInt8} (hg : gapN l = 0) (h : one l = some (k, t)) :
    scan l line = (⟨k, t, line⟩ :: (scan (l.drop t.length) line).1, (scan (l.drop t.length) line).2) := by
  obtain ⟨_, h1, h2⟩ := one_take h
  cases l with
  | nil => rw [List.length_nil] at h2; omega
  | cons c r =>
    rw [scan_step hg, h]
    have e : (c :: r).drop t.length = r.drop (t.length - 1) := by
      obtain ⟨m, hm⟩ : ∃ m, t.length = m + 1 := ⟨t.length - 1, by omega⟩
      rw [hm, List.drop_succ_cons]
      rfl
    rw [e]
theorem scan_bad {l : List UInt8} {line : Nat} (hg : gapN l = 0) (hn : l ≠ []) (h : one l = none) : scan l line = ([], some line) := by
  cases l with
  | nil => exact absurd rfl hn
  | cons c r => rw [scan_step hg, h]
theorem scan_end (line : Nat) : scan [] line = ([⟨3, [], line⟩], none) := by rw [scan]
theorem tokens_step {w wr w2 w3 : World} {l : List UInt8} {s' : ByteArray} {line' : Nat} {v2 : Value} {ts : List Tok} {k : Int} {t : List UInt8} {e : Ending}
    (hb : Below w.heap.size w wr) (hgap : gapN s'.data.toList = 0) (hsc : scan l 1 = (ts ++ (scan s'.data.toList line').1, (scan s'.data.toList line').2)) (hsz : s'.size + line' ≤ l.length + 1) (htl : ts.length + s'.size ≤ l.length)
    (hone : one s'.data.toList = some (k, t)) (hO2 : Toks w2 w.heap.size v2 (ts ++ [⟨k, s'.data.toList.take t.length, line'⟩])) (hI2 : Is w2 w.heap.size 69 #[.string (s'.extract t.length s'.size), .int .i64 line', v2]) (hb2 : Below w.heap.size wr w2)
    (h : SkipPost w.heap.size w2 (s'.extract t.length s'.size) line' v2 e w3) : e = .returned (.tuple #[]) ∧ TokensRel w l w3 ∧ restSize w.heap.size w3 < s'.size := by
  obtain ⟨rfl, s3, line3, hI3, hg3, hgr, hsc3, hsz3, hss3⟩ := h
  obtain ⟨ht, hp, hle⟩ := one_take hone
  rw [← Lib.size_eq] at hle
  have he : (s'.extract t.length s'.size).size = s'.size - t.length := by rw [Lib.size_eq, Lib.extract_to_end, List.length_drop, ← Lib.size_eq]
  rw [he] at hsz3 hss3
  refine ⟨rfl, ⟨s3, line3, v2, ts ++ [⟨k, t, line'⟩], hI3, hg3, ?_, (hb.trans hb2).trans (below_only hgr (Nat.le_refl _) (hb.trans hb2).size), ?_, by omega, by rw [List.length_append]; simp; omega⟩, ?_⟩
  · rw [ht] at hO2
    exact hO2.only hI2 hgr
  · rw [hsc, scan_one hgap hone, hsc3, Lib.extract_to_end]
    simp
  · rw [restSize_is hI3]
    omega
theorem take_end (B g : Nat) (w : World) (s : ByteArray) (line : Nat) (v : Value) (ts : List Tok) (h : Is w g 69 #[.string s, .int .i64 line, v]) (hB : B ≤ g) (hO : Toks w B v ts) (hl : ts.length < 4294967296) :
    Calls Tryz.prog 30 #[.pointer (some ⟨g, 0, none⟩), .int .i64 3, .int .i64 0] w (TakePost B g w s line ts 3 0) := take_any B g w s line v ts 3 0 h hB hO (Nat.zero_le _) hl
set_option maxRecDepth 100000 in
theorem tokens_any (s : ByteArray) (w : World) (h : s.size ≤ 100000) (ht : TokTab w.heap.size w) : Calls Tryz.prog 18 #[.string s] w (TokensPost w s.data.toList) := by
  have hd : decide ((100000 : Int) < s.size) = false := by simp; omega
  have hlen : s.data.toList.length = s.size := rfl
  have HT := Lib.hid ht
  have HL := Lib.hid hlen
  clear ht hlen
  have HW0 : Hid (Is (w.alloc (.cells #[.string s, .int .i64 1, .slice none 0 0] 69)) w.heap.size 69 #[.string s, .int .i64 ((1 : Nat) : Int), .slice none 0 0]) := heap_alloc_new w _
  go_enter Tryz.func18, Tryz.ntmps18
  go_wp2_with (go_at_call 28; (with_reducible refine (skip_any w.heap.size _ s 1 _ HW0.out (by omega)).mono ?_); intro e w1 hp; obtain ⟨rfl, hrel0⟩ := tokens_start s w e w1 hp; clear hp)
  go_loopw [] (fun wr => TokensRel w s.data.toList wr) (fun wr => restSize w.heap.size wr)
  case atStart => exact hrel0
  case round =>
    obtain ⟨s', line', v, ts, hI, hgap, hO, hb, hsc, hsz, htl⟩ := hrel
    rw [HL.out] at hsz htl
    clear hrel0
    have c0 : wr.cell? ⟨w.heap.size, 0, none⟩ = some (.string s') := (hI.cell 0).trans rfl
    have c1 : wr.cell? ⟨w.heap.size, 1, none⟩ = some (.int .i64 line') := (hI.cell 1).trans rfl
    have HI := Lib.hid hI
    have HG := Lib.hid hgap
    have HO := Lib.hid hO
    have HS := Lib.hid hsc
    have HR := Lib.hid (restSize_is hI)
    clear hI hgap hO hsc
    by_cases h0 : s'.size = 0
    · have hnil := nil_of_size s' h0
      have he : s'.toList = [] := by rw [Lib.toList_data, hnil]
      have HE := Lib.hid hnil
      clear hnil h0
      go_wp2_with (go_at_call 30; (with_reducible refine (take_end w.heap.size w.heap.size _ s' line' v ts HI.out (Nat.le_refl _) HO.out (by omega)).mono ?_); rintro e w3 ⟨rfl, v3, hI3, hO3, hb3⟩; have k2 : w3.cell? ⟨w.heap.size, 2, none⟩ = some v3 := (hI3.cell 2).trans rfl; have HI3 := Lib.hid hI3; have HO3 := Lib.hid hO3; clear hI3 hO3)
      go_ret3
      have hfin : scan s.data.toList 1 = (ts ++ [⟨3, [], line'⟩], none) := by rw [HS.out, HE.out, scan_end]
      unfold TokensPost
      rw [hfin]
      exact ⟨hb.trans hb3, v3, rfl, HO3.out⟩
    · have hne := ne_of_size s' (by omega)
      have he : s'.toList.isEmpty = false := by rw [Lib.toList_data]; simpa using hne
      have HNE := Lib.hid hne
      clear hne
      rcases hone : one s'.data.toList with _ | ⟨k, t⟩
      · have H1 := Lib.hid hone
        clear hone
        go_wp2_with (go_at_call 29; (with_reducible refine (next_fail w.heap.size w.heap.size _ s' line' v HI.out (Nat.le_refl _) (HT.out.below hb) (by omega) H1.out).mono ?_); rintro e w2 ⟨rfl, hI2, hb2⟩; have k1 : w2.cell? ⟨w.heap.size, 1, none⟩ = some (.int .i64 line') := (hI2.cell 1).trans rfl; clear hI2)
        go_quiet (fail)
        go_wp2
        go_ret3
        have hfin : scan s.data.toList 1 = (ts, some line') := by rw [HS.out, scan_bad HG.out HNE.out H1.out]; simp
        unfold TokensPost
        rw [hfin]
        exact ⟨below_drewN (hb.trans hb2) _, rfl⟩
      · have H1 := Lib.hid hone
        clear hone
        go_wp2_with (first
          | (go_at_call 29
             (with_reducible refine (next_some w.heap.size w.heap.size _ s' line' v ts HI.out (Nat.le_refl _) HO.out (HT.out.below hb) (by omega) (by omega) k t H1.out).mono ?_)
             rintro e w2 ⟨rfl, v2, hI2, hO2, hb2⟩
             have HI2 := Lib.hid hI2
             have HO2 := Lib.hid hO2
             clear hI2 hO2)
          | (go_at_call 28
             (with_reducible refine (skip_any w.heap.size _ _ line' _ HI2.out (by have := one_take H1.out; rw [Lib.size_eq, Lib.extract_to_end, List.length_drop, ← Lib.size_eq]; omega)).mono ?_)
             intro e w3 hp
             obtain ⟨rfl, hrel3, hms⟩ := tokens_step hb HG.out HS.out (by rw [HL.out]; exact hsz) (by rw [HL.out]; exact htl) H1.out HO2.out HI2.out hb2 hp
             have HR3 := Lib.hid hrel3
             have HM := Lib.hid hms
             clear hp hrel3 hms))
        go_roundw
        case rel => exact HR3.out
        case measure =>
          rw [HR.out]
          exact HM.out
end Go.Proofs.YtakijoblbmfadaaGreatDoor
