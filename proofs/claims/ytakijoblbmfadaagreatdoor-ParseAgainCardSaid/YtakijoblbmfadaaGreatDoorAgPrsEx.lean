import Derived.Test.YtakijoblbmfadaaGreatDoorAgPrsOp
set_option linter.unusedSimpArgs false
set_option linter.unusedVariables false
/- The developers' parser: expressions. (By tools/gen_prsex.py.) -/
namespace Go.Proofs.YtakijoblbmfadaaGreatDoor
open Go.RowKit
/-- An expression in brackets. -/
def pBr (n : Nat) (d : Int) (l : List Tok) : PR Ex := (must [40] l).bind fun _ r => (pE n 1 d r).bind fun e r => (must [41] r).bind fun _ r => .ok e r
def DL (b g : Nat) (n : Nat) (lev d : Int) : Prop := ∀ (w : World) (r : List Tok), Lv b g r w → Ends (pE n lev d r) → Calls Tryz.prog 144 #[.pointer (some ⟨b, 0, none⟩), .int .i64 lev, .int .i64 d] w (Gets b g w (pE n lev d r) (FrE w.heap.size))
theorem DL.call {b g : Nat} {n : Nat} {lev d : Int} (h : DL b g n lev d) {w : World} {r : List Tok} (hs : Lv b g r w) (he : Ends (pE n lev d r)) : Calls Tryz.prog 144 #[.pointer (some ⟨b, 0, none⟩), .int .i64 lev, .int .i64 d] w (Gets b g w (pE n lev d r) (FrE w.heap.size)) := h w r hs he
def DX (b g : Nat) (n : Nat) (d : Int) : Prop := ∀ (w : World) (r : List Tok), Lv b g r w → Ends (pE n 1 d r) → Calls Tryz.prog 135 #[.pointer (some ⟨b, 0, none⟩), .int .i64 d] w (Gets b g w (pE n 1 d r) (FrE w.heap.size))
theorem DX.call {b g : Nat} {n : Nat} {d : Int} (h : DX b g n d) {w : World} {r : List Tok} (hs : Lv b g r w) (he : Ends (pE n 1 d r)) : Calls Tryz.prog 135 #[.pointer (some ⟨b, 0, none⟩), .int .i64 d] w (Gets b g w (pE n 1 d r) (FrE w.heap.size)) := h w r hs he
def DT (b g : Nat) (n : Nat) (d : Int) : Prop := ∀ (w : World) (r : List Tok), Lv b g r w → Ends (pU n d r) → Calls Tryz.prog 149 #[.pointer (some ⟨b, 0, none⟩), .int .i64 d] w (Gets b g w (pU n d r) (FrE w.heap.size))
theorem DT.call {b g : Nat} {n : Nat} {d : Int} (h : DT b g n d) {w : World} {r : List Tok} (hs : Lv b g r w) (he : Ends (pU n d r)) : Calls Tryz.prog 149 #[.pointer (some ⟨b, 0, none⟩), .int .i64 d] w (Gets b g w (pU n d r) (FrE w.heap.size)) := h w r hs he
def DB (b g : Nat) (n : Nat) (d : Int) : Prop := ∀ (w : World) (r : List Tok), Lv b g r w → Ends (pBr n d r) → Calls Tryz.prog 121 #[.pointer (some ⟨b, 0, none⟩), .int .i64 d] w (Gets b g w (pBr n d r) (FrE w.heap.size))
theorem DB.call {b g : Nat} {n : Nat} {d : Int} (h : DB b g n d) {w : World} {r : List Tok} (hs : Lv b g r w) (he : Ends (pBr n d r)) : Calls Tryz.prog 121 #[.pointer (some ⟨b, 0, none⟩), .int .i64 d] w (Gets b g w (pBr n d r) (FrE w.heap.size)) := h w r hs he
def DA (b g : Nat) (n : Nat) (d : Int) : Prop := ∀ (w : World) (r : List Tok), Lv b g r w → Ends (pA n d r) → Calls Tryz.prog 145 #[.pointer (some ⟨b, 0, none⟩), .int .i64 d] w (Gets b g w (pA n d r) (FrEs w.heap.size))
theorem DA.call {b g : Nat} {n : Nat} {d : Int} (h : DA b g n d) {w : World} {r : List Tok} (hs : Lv b g r w) (he : Ends (pA n d r)) : Calls Tryz.prog 145 #[.pointer (some ⟨b, 0, none⟩), .int .i64 d] w (Gets b g w (pA n d r) (FrEs w.heap.size)) := h w r hs he
set_option maxRecDepth 100000 in
theorem dexpr_any {b g n : Nat} {d : Int} (hE : DL b g n 1 d) : DX b g n d := by
  intro w r h hn
  obtain ⟨T, hT⟩ : ∃ T, T = pE n 1 d r := ⟨_, rfl⟩
  rw [← hT] at hn ⊢
  have HC := Lib.hid (At.start h exBox)
  have HT := Lib.hid hT
  have HTE := Lib.hid hn
  have HE := Lib.hid hE
  have HN := Lib.hid (show Ends (pE n 1 d r) from hT ▸ hn)
  replace HT := Lib.hid (show T = (pE n 1 d r).bind fun e r => .ok e r from hT.trans (by cases pE n 1 d r <;> rfl))
  clear h hn hT hE
  go_enter Tryz.func135, Tryz.ntmps135
  have hz1 := HC.out.size
  go_wp2_with (first
    | (go_at_call 144; (with_reducible refine (HE.out.call HC.out.lv HN.out).mono ?_); rintro e w1 (⟨a, r1, v, hx, rfl, hL, hO, hF⟩ | ⟨k, r1, hx, rfl, hO⟩)
       rotate_left
       exact ⟨rfl, Gets.no (hx.go HT.out) (HC.out.off hO)⟩
       obtain ⟨k1, k2, k3, k4, k5, k6, k7, rfl⟩ := hF.form
       have HF := Lib.hid hF
       replace HT := Lib.hid (show T = .ok a r1 from HT.out.trans (by rw [show pE n 1 d r = .ok a r1 from hx]; rfl))
       replace HC := Lib.hid (HC.out.step hL hO)
       obtain ⟨⟨c0, c1, c2, c3, c4⟩, fz⟩ := HC.out.five
       clear hx hL hO hF))
  obtain ⟨f0, f1, f2, f3, f4⟩ := HC.out.read (.int .i64 k1) (.int .i64 k2) (.int .i64 k3) (.string k4) (.slice k5 k6 k7)
  refine bodyPost_ret (v := .agg #[.int .i64 k1, .int .i64 k2, .int .i64 k3, .string k4, .slice k5 k6 k7]) (by simp [results, Tryz.results135, go_sem, f0, f1, f2, f3, f4]) rfl ?_
  exact HC.out.fin HT.out (FrE.writ HF.out hz1 _ _ _ _ _)
set_option maxRecDepth 100000 in
theorem dbracketed_any {b g n : Nat} {d : Int} (hE : DX b g n d) : DB b g n d := by
  intro w r h hn
  obtain ⟨T, hT⟩ : ∃ T, T = pBr n d r := ⟨_, rfl⟩
  rw [← hT] at hn ⊢
  have HC := Lib.hid (At.start h exBox)
  have HT := Lib.hid hT
  have HTE := Lib.hid hn
  have HE := Lib.hid hE
  replace HT := Lib.hid (show T = (must [40] r).bind fun _ r => (pE n 1 d r).bind fun e r => (must [41] r).bind fun _ r => .ok e r from hT)
  clear h hn hT hE
  go_enter Tryz.func121, Tryz.ntmps121
  go_wp2_with (first
    | (go_at_call 83; (with_reducible refine (dwant_any HC.out.lv ⟨#[40]⟩).mono ?_); rintro e w1 (⟨u, r1, v, hx, rfl, hL, hO, rfl⟩ | ⟨k, r1, hx, rfl, hO⟩)
       rotate_left
       exact ⟨rfl, Gets.no (hx.go HT.out) (HC.out.off hO)⟩
       replace HT := Lib.hid (show T = (pE n 1 d r1).bind fun e r => (must [41] r).bind fun _ r => .ok e r from HT.out.trans (by rw [show must [40] r = .ok u r1 from hx]; rfl))
       replace HC := Lib.hid (HC.out.step hL hO)
       have HN := Lib.hid (show Ends (pE n 1 d r1) from ends_left (HT.out ▸ HTE.out))
       have hz1 := HC.out.size
       have hbl := HC.out.lt
       obtain ⟨⟨c0, c1, c2, c3, c4⟩, fz⟩ := HC.out.five
       clear hx hL hO)
    | (go_at_call 135; (with_reducible refine (HE.out.call HC.out.lv HN.out).mono ?_); rintro e w2 (⟨a, r2, v, hx, rfl, hL, hO, hF⟩ | ⟨k, r2, hx, rfl, hO⟩)
       rotate_left
       exact ⟨rfl, Gets.no (hx.go HT.out) (HC.out.off hO)⟩
       obtain ⟨k1, k2, k3, k4, k5, k6, k7, rfl⟩ := hF.form
       have HF := Lib.hid hF
       replace HT := Lib.hid (show T = (must [41] r2).bind fun _ r => .ok a r from HT.out.trans (by rw [show pE n 1 d r1 = .ok a r2 from hx]; rfl))
       replace HC := Lib.hid (HC.out.step hL hO)
       have hz2 := hO.size
       have hb2 : w2.heap.size ≠ b := by have := hL.lt; omega
       obtain ⟨⟨c0, c1, c2, c3, c4⟩, fz⟩ := HC.out.five
       clear hx hL hO hF)
    | (go_at_call 83; (with_reducible refine (dwant_any (HC.out.alloc (.cells #[.int .i64 k1, .int .i64 k2, .int .i64 k3, .string k4, .slice k5 k6 k7] 84)).lv ⟨#[41]⟩).mono ?_); rintro e w3 (⟨u, r3, v, hx, rfl, hL, hO, rfl⟩ | ⟨k, r3, hx, rfl, hO⟩)
       rotate_left
       exact ⟨rfl, Gets.no (hx.go HT.out) ((HC.out.alloc (.cells #[.int .i64 k1, .int .i64 k2, .int .i64 k3, .string k4, .slice k5 k6 k7] 84)).off hO)⟩
       replace HT := Lib.hid (show T = .ok a r3 from HT.out.trans (by rw [show must [41] r2 = .ok u r3 from hx]; rfl))
       replace HC := Lib.hid ((HC.out.alloc (.cells #[.int .i64 k1, .int .i64 k2, .int .i64 k3, .string k4, .slice k5 k6 k7] 84)).step hL hO)
       have HK := Lib.hid ((Keep.of_below (L := w1.heap.size) ((Below.refl _ _).alloc (Nat.le_refl _) (.cells #[.int .i64 k1, .int .i64 k2, .int .i64 k3, .string k4, .slice k5 k6 k7] 84))).trans (Keep.of_off hO (by omega)))
       obtain ⟨⟨p0, p1, p2, p3, p4⟩, pz⟩ := row_cells5 (own_next hO (k := w2.heap.size) (by simp) hb2 (heap_alloc_new w2 (.cells #[.int .i64 k1, .int .i64 k2, .int .i64 k3, .string k4, .slice k5 k6 k7] 84)))
       obtain ⟨⟨c0, c1, c2, c3, c4⟩, fz⟩ := HC.out.five
       clear hx hL hO))
  obtain ⟨f0, f1, f2, f3, f4⟩ := HC.out.read (.int .i64 k1) (.int .i64 k2) (.int .i64 k3) (.string k4) (.slice k5 k6 k7)
  refine bodyPost_ret (v := .agg #[.int .i64 k1, .int .i64 k2, .int .i64 k3, .string k4, .slice k5 k6 k7]) (by simp [results, Tryz.results121, go_sem, f0, f1, f2, f3, f4]) rfl ?_
  exact HC.out.fin HT.out (FrE.writ (HF.out.keep HK.out (Nat.le_refl _)) hz1 _ _ _ _ _)
set_option maxRecDepth 100000 in
theorem ditemE {b g n : Nat} {d : Int} (hE : DX b g n d) {c1 c2 : Nat} {w : World} {r : List Tok} (h : Lv b g r w) (h1 : w.cell? ⟨c1, 0, none⟩ = some (.pointer (some ⟨b, 0, none⟩))) (h2 : w.cell? ⟨c2, 0, none⟩ = some (.int .i64 d)) (hn : Ends (pE n 1 d r)) :
    Calls Tryz.prog 152 #[.pointer (some ⟨c1, 0, none⟩), .pointer (some ⟨c2, 0, none⟩)] w (Gets b g w (pE n 1 d r) (FrE w.heap.size)) := by
  obtain ⟨T, hT⟩ : ∃ T, T = pE n 1 d r := ⟨_, rfl⟩
  rw [← hT] at hn ⊢
  have HC := Lib.hid (At.start h exBox)
  have HE := Lib.hid hE
  have HN := Lib.hid (show Ends (pE n 1 d r) from hT ▸ hn)
  have HT := Lib.hid (show T = (pE n 1 d r).bind fun e r => .ok e r from hT.trans (by cases pE n 1 d r <;> rfl))
  have k1 := World.block_lt_of_cell? w ⟨c1, 0, none⟩ h1
  have k2 := World.block_lt_of_cell? w ⟨c2, 0, none⟩ h2
  have l1 : (w.alloc exBox).cell? ⟨c1, 0, none⟩ = some (.pointer (some ⟨b, 0, none⟩)) := by rw [World.cell?_alloc_past _ _ _ k1]; exact h1
  have l2 : (w.alloc exBox).cell? ⟨c2, 0, none⟩ = some (.int .i64 d) := by rw [World.cell?_alloc_past _ _ _ k2]; exact h2
  have hz1 := HC.out.size
  clear h hn hT hE
  go_enter Tryz.func152, Tryz.ntmps152
  go_wp2_with (first
    | (go_at_call 135; (with_reducible refine (HE.out.call HC.out.lv HN.out).mono ?_); rintro e w1 (⟨a, r1, v, hx, rfl, hL, hO, hF⟩ | ⟨k, r1, hx, rfl, hO⟩)
       rotate_left
       exact ⟨rfl, Gets.no (hx.go HT.out) (HC.out.off hO)⟩
       obtain ⟨k1, k2, k3, k4, k5, k6, k7, rfl⟩ := hF.form
       have HF := Lib.hid hF
       replace HT := Lib.hid (show T = .ok a r1 from HT.out.trans (by rw [show pE n 1 d r = .ok a r1 from hx]; rfl))
       replace HC := Lib.hid (HC.out.step hL hO)
       obtain ⟨⟨c0, c1, c2, c3, c4⟩, fz⟩ := HC.out.five
       clear hx hL hO hF))
  obtain ⟨f0, f1, f2, f3, f4⟩ := HC.out.read (.int .i64 k1) (.int .i64 k2) (.int .i64 k3) (.string k4) (.slice k5 k6 k7)
  refine bodyPost_ret (v := .agg #[.int .i64 k1, .int .i64 k2, .int .i64 k3, .string k4, .slice k5 k6 k7]) (by simp [results, Tryz.results152, go_sem, f0, f1, f2, f3, f4]) rfl ?_
  exact HC.out.fin HT.out (FrE.writ HF.out hz1 _ _ _ _ _)
set_option maxHeartbeats 1600000 in
set_option maxRecDepth 100000 in
theorem dlistE {b g n : Nat} {d : Int} {c1 c2 : Nat} (hItem : ∀ m, m ≤ n → DX b g m d) {w : World} {r : List Tok} (h : Lv b g r w) (h1 : w.cell? ⟨c1, 0, none⟩ = some (.pointer (some ⟨b, 0, none⟩))) (h2 : w.cell? ⟨c2, 0, none⟩ = some (.int .i64 d)) (hc1 : c1 ≠ b) (hc2 : c2 ≠ b) (hn : Ends (pA (n + 1) d r)) :
    Calls Tryz.prog 151 #[.pointer (some ⟨b, 0, none⟩), .string ⟨#[44]⟩, .string ⟨#[41]⟩, .func (Fn.func 152) #[] #[.pointer (some ⟨c1, 0, none⟩), .pointer (some ⟨c2, 0, none⟩)]] w (Gets b g w (pA (n + 1) d r) (FrEs w.heap.size)) := by
  obtain ⟨T, hT⟩ : ∃ T, T = pA (n + 1) d r := ⟨_, rfl⟩
  rw [← hT] at hn ⊢
  have HTE := Lib.hid hn
  have HI := Lib.hid hItem
  have HN0 := Lib.hid h.lows
  have hr1 := h.len
  have HH := Lib.hid (Here.refl h)
  have HT0 := Lib.hid hT
  replace HT0 := Lib.hid (hT.trans pA_qE)
  have H1 := Lib.hid h1
  have H2 := Lib.hid h2
  clear h1 h2
  clear h hn hT hItem
  go_enter Tryz.func151, Tryz.ntmps151
  go_wp2
  go_loopw [9] (fun v wr => ∃ (m : Nat) (ps : List (Ex × Value)) (r' : List Tok), m ≤ n ∧ OutK kE w.heap.size wr v ps ∧ Here b g w r' wr ∧ T = qE m d (ps.map (·.1)) r' ∧ ps.length + r'.length ≤ r.length) (fun _ wr => restL b wr)
  case atStart => exact ⟨n, [], r, by omega, OutK.nil _ _ _, HH.out, HT0.out, by simp⟩
  case round =>
    obtain ⟨i0, hi0, hz0, hz1, hz2⟩ := info_parts ex_info
    have HI0 := Lib.hid (And.intro hi0 (And.intro hz0 (And.intro hz1 hz2)))
    clear hi0 hz0 hz1 hz2
    obtain ⟨m, ps, r', hmn, hO, hH, hTT, hlen⟩ := hrel
    obtain ⟨A0, cp0, rfl⟩ := hO.form
    have HO := Lib.hid hO
    replace HH := Lib.hid hH
    have HRL := Lib.hid (restL_lv hH.lv)
    have hsw := hH.2.size
    have H1r := Lib.hid (off_cell hH.2 hc1 H1.out)
    have H2r := Lib.hid (off_cell hH.2 hc2 H2.out)
    cases hs : isS [41] r' with
    | true =>
      have HV := Lib.hid (show isS (⟨#[41]⟩ : ByteArray).data.toList r' = true from hs)
      have HR := Lib.hid (show T = .ok (ps.map (·.1)) r'.tail from hTT.trans (qE_end hs))
      clear hO hH hTT hs
      go_wp2_with (first
        | (go_at_call 60; (with_reducible refine (dtake_yes HH.out.lv _ HV.out).mono ?_); rintro e w1 ⟨rfl, hL, hOF⟩
           replace HO := Lib.hid (HO.out.keep (Keep.of_off hOF HN0.out.1))
           replace HH := Lib.hid (HH.out.step hL hOF)
           clear hL hOF))
      go_ret
      exact Gets.ok HR.out HH.out.lv HH.out.2 (HO.out.exprs (by omega))
    | false =>
      have HV := Lib.hid (show isS (⟨#[41]⟩ : ByteArray).data.toList r' = false from hs)
      have HT1 := Lib.hid (show Ends (qE m d (ps.map (·.1)) r') from hTT ▸ HTE.out)
      by_cases hps : ps = []
      · have hlz : ps.length = 0 := by rw [hps]; rfl
        have hl0 : ¬ 0 < ps.length := by omega
        have hm0 : ps.map (·.1) = [] := by rw [hps]; rfl
        obtain ⟨q, hq, hT2⟩ := qE_one hs hm0 HT1.out
        have HT := Lib.hid (hTT.trans hT2)
        have HNI := Lib.hid (show Ends (pE q 1 d r') from ends_left (hT2 ▸ HT1.out))
        have HLZ := Lib.hid hlz
        clear hO hH hTT hs hT2 hps hlz hm0
        go_wp2_with (first
          | (go_at_call 60; (with_reducible refine (dtake_no HH.out.lv _ HV.out).mono ?_); rintro e w1 ⟨rfl, rfl⟩)
          | (go_at_call 152; (with_reducible refine (ditemE (HI.out q (by omega)) HH.out.lv H1r.out H2r.out HNI.out).mono ?_); rintro e w3 (⟨a, r3, v, hx, rfl, hL, hOF, hF⟩ | ⟨k, r3, hx, rfl, hOF⟩)
             rotate_left
             exact ⟨rfl, Gets.no (hx.go HT.out) (HH.out.off hOF)⟩
             obtain ⟨k1, k2, k3, k4, k5, k6, k7, rfl⟩ := hF.form
             have HF := Lib.hid hF
             have HFIT := Lib.hid (show RestOf 1 r' r3 by have h1 := pE_fits (n := q) (lev := 1) (d := d) HH.out.lv.ends; rw [show pE q 1 d r' = .ok a r3 from hx] at h1; exact h1)
             replace HT := Lib.hid (show T = qE q d (ps.map (·.1) ++ [a]) r3 from HT.out.trans (by rw [show pE q 1 d r' = .ok a r3 from hx]; rfl))
             have HO2 := Lib.hid (HO.out.keep (Keep.of_off hOF HN0.out.1))
             have HLT := Lib.hid HO.out.own
             have HSZ := Lib.hid HH.out.2.size
             replace HH := Lib.hid (HH.out.step hL hOF)
             have HPRE := Lib.hid (HO2.out.pre [.int .i64 k1, .int .i64 k2, .int .i64 k3, .string k4, .slice k5 k6 k7] (by have := HH.out.2.size; omega))
             clear hx hL hOF hF)
          | (at_builtin; refine list_append_at rfl (.tmp 24) (.tmp 27) _ rfl w.heap.size 84 i0 _ 5 64 Tryz.underlying76 HI0.out.1 HI0.out.2.1 HI0.out.2.2.1 HI0.out.2.2.2 rfl (by omega) (.slice A0 ps.length cp0) ps.length _ rfl (by exact HPRE.out.1) ⟨w3.heap.size, 0, none⟩ 1 1 [.int .i64 k1, .int .i64 k2, .int .i64 k3, .string k4, .slice k5 k6 k7] rfl rfl (by exact HPRE.out.2.1) (by simp [Value.oneCell']) (by simp only [maxLen]; omega) (by omega) (by exact HPRE.out.2.2) (by omega) ?_
             intro v1 w5 hown1 hg1 hr1
             have HO5 := Lib.hid (HO2.out.app (kE_of HF.out).2 HSZ.out (fun k hk => (HLT.out k hk).1) ((Below.refl _ _).alloc (Nat.le_refl _) _) hg1 hr1 (by rw [(kE_of HF.out).1]; exact hown1))
             have HH5 := Lib.hid (HH.out.grown HN0.out hg1 fun k hk => (HO2.out.own k hk).2)
             clear hown1 hg1 hr1))
        have HRL2 := Lib.hid (restL_lv HH5.out.lv)
        go_roundw
        case rel => exact ⟨q, ps ++ [(a, .slice k5 k6 k7)], r3, by omega, HO5.out, HH5.out, by rw [HT.out, List.map_append]; rfl, by have h1 := HFIT.out.2.2; rw [List.length_append]; simp; omega⟩
        case measure =>
          rw [HRL2.out, HRL.out]
          have h1 := HFIT.out.2.2
          omega
      · have hl0 : 0 < ps.length := List.length_pos_iff.2 hps
        have hm0 : ps.map (·.1) ≠ [] := by simpa using hps
        obtain ⟨q, hq, hT2⟩ := qE_more hs hm0 HT1.out
        have HT := Lib.hid (hTT.trans hT2)
        clear hO hH hTT hs hT2 hps hm0
        go_wp2_with (first
          | (go_at_call 60; (with_reducible refine (dtake_no HH.out.lv _ HV.out).mono ?_); rintro e w1 ⟨rfl, rfl⟩)
          | (go_at_call 83; (with_reducible refine (dwant_any HH.out.lv ⟨#[44]⟩).mono ?_); rintro e w2 (⟨u, r2, v, hx, rfl, hL, hOF, rfl⟩ | ⟨k, r2, hx, rfl, hOF⟩)
             rotate_left
             exact ⟨rfl, Gets.no (hx.go HT.out) (HH.out.off hOF)⟩
             have HR2 := Lib.hid (must_rest HH.out.lv.ends (show must [44] r' = .ok u r2 from hx))
             replace HT := Lib.hid (show T = (pE q 1 d r2).bind fun e r => qE q d (ps.map (·.1) ++ [e]) r from HT.out.trans (by rw [show must [44] r' = .ok u r2 from hx]; rfl))
             have HNI := Lib.hid (show Ends (pE q 1 d r2) from ends_left (HT.out ▸ HTE.out))
             replace HO := Lib.hid (HO.out.keep (Keep.of_off hOF HN0.out.1))
             have hsw2 := hOF.size
             replace H1r := Lib.hid (off_cell hOF hc1 H1r.out)
             replace H2r := Lib.hid (off_cell hOF hc2 H2r.out)
             replace HH := Lib.hid (HH.out.step hL hOF)
             clear hx hL hOF)
          | (go_at_call 152; (with_reducible refine (ditemE (HI.out q (by omega)) HH.out.lv H1r.out H2r.out HNI.out).mono ?_); rintro e w3 (⟨a, r3, v, hx, rfl, hL, hOF, hF⟩ | ⟨k, r3, hx, rfl, hOF⟩)
             rotate_left
             exact ⟨rfl, Gets.no (hx.go HT.out) (HH.out.off hOF)⟩
             obtain ⟨k1, k2, k3, k4, k5, k6, k7, rfl⟩ := hF.form
             have HF := Lib.hid hF
             have HFIT := Lib.hid (show RestOf 1 r2 r3 by have h1 := pE_fits (n := q) (lev := 1) (d := d) HR2.out.2.1; rw [show pE q 1 d r2 = .ok a r3 from hx] at h1; exact h1)
             replace HT := Lib.hid (show T = qE q d (ps.map (·.1) ++ [a]) r3 from HT.out.trans (by rw [show pE q 1 d r2 = .ok a r3 from hx]; rfl))
             have HO2 := Lib.hid (HO.out.keep (Keep.of_off hOF HN0.out.1))
             have HLT := Lib.hid HO.out.own
             have HSZ := Lib.hid HH.out.2.size
             replace HH := Lib.hid (HH.out.step hL hOF)
             have HPRE := Lib.hid (HO2.out.pre [.int .i64 k1, .int .i64 k2, .int .i64 k3, .string k4, .slice k5 k6 k7] (by have := HH.out.2.size; omega))
             clear hx hL hOF hF)
          | (at_builtin; refine list_append_at rfl (.tmp 24) (.tmp 27) _ rfl w.heap.size 84 i0 _ 5 64 Tryz.underlying76 HI0.out.1 HI0.out.2.1 HI0.out.2.2.1 HI0.out.2.2.2 rfl (by omega) (.slice A0 ps.length cp0) ps.length _ rfl (by exact HPRE.out.1) ⟨w3.heap.size, 0, none⟩ 1 1 [.int .i64 k1, .int .i64 k2, .int .i64 k3, .string k4, .slice k5 k6 k7] rfl rfl (by exact HPRE.out.2.1) (by simp [Value.oneCell']) (by simp only [maxLen]; omega) (by omega) (by exact HPRE.out.2.2) (by omega) ?_
             intro v1 w5 hown1 hg1 hr1
             have HO5 := Lib.hid (HO2.out.app (kE_of HF.out).2 HSZ.out (fun k hk => (HLT.out k hk).1) ((Below.refl _ _).alloc (Nat.le_refl _) _) hg1 hr1 (by rw [(kE_of HF.out).1]; exact hown1))
             have HH5 := Lib.hid (HH.out.grown HN0.out hg1 fun k hk => (HO2.out.own k hk).2)
             clear hown1 hg1 hr1))
        have HRL2 := Lib.hid (restL_lv HH5.out.lv)
        go_roundw
        case rel => exact ⟨q, ps ++ [(a, .slice k5 k6 k7)], r3, by omega, HO5.out, HH5.out, by rw [HT.out, List.map_append]; rfl, by have h1 := HFIT.out.2.2; have h2 := HR2.out.2.2; rw [List.length_append]; simp; omega⟩
        case measure =>
          rw [HRL2.out, HRL.out]
          have h1 := HFIT.out.2.2
          have h2 := HR2.out.2.2
          omega
theorem dargs_any {b g n : Nat} {d : Int} (hE : ∀ m, m ≤ n → DX b g m d) : DA b g (n + 1) d := by
  intro w r h hn
  have hmf : ∀ (fn : Fn) (first cap : Array Value) (w : World), (Instr.makeFunc fn first cap).run Tryz.prog w = .ok (.func fn first cap) w := fun _ _ _ _ => rfl
  have hb1 : Below w.heap.size w ((w.alloc (.cells #[.pointer (some ⟨b, 0, none⟩)] 95)).alloc (.cells #[.int .i64 d] 3)) := ((Below.refl _ _).alloc (Nat.le_refl _) _).alloc (by rw [alloc_size]; omega) _
  have HB := Lib.hid hb1
  have HL := Lib.hid (h.below hb1)
  have h1 : ((w.alloc (.cells #[.pointer (some ⟨b, 0, none⟩)] 95)).alloc (.cells #[.int .i64 d] 3)).cell? ⟨w.heap.size, 0, none⟩ = some (.pointer (some ⟨b, 0, none⟩)) := by
    rw [Lib.cell_of_heap (own_more (heap_alloc_new w _) _)]; rfl
  have h2 : ((w.alloc (.cells #[.pointer (some ⟨b, 0, none⟩)] 95)).alloc (.cells #[.int .i64 d] 3)).cell? ⟨w.heap.size + 1, 0, none⟩ = some (.int .i64 d) := by
    have := heap_alloc_new (w.alloc (.cells #[.pointer (some ⟨b, 0, none⟩)] 95)) (.cells #[.int .i64 d] 3)
    rw [alloc_size] at this
    rw [Lib.cell_of_heap this]; rfl
  have H1 := Lib.hid h1
  have H2 := Lib.hid h2
  have HE := Lib.hid hE
  have HN := Lib.hid hn
  have hbw := h.lt
  clear h hn hb1 hE h1 h2
  go_enter Tryz.func145, Tryz.ntmps145
  go_wp2_with (first
  | (go_at_call 151; (with_reducible refine (dlistE HE.out HL.out H1.out H2.out (by omega) (by omega) HN.out).mono ?_); rintro e w1 (⟨a, r1, v, hx, rfl, hL, hO, hF⟩ | ⟨k, r1, hx, rfl, hO⟩)
     rotate_left
     exact ⟨rfl, Gets.no hx ((OffB.of_below HB.out hbw).trans (hO.mono HB.out.size))⟩)
    )
  go_ret
  exact Gets.ok hx hL ((OffB.of_below HB.out hbw).trans (hO.mono HB.out.size)) (FrEs.keep hF (Keep.refl _ _) HB.out.size)
def pUs (n : Nat) (d : Int) (l : List Tok) : PR Ex := (want 1 l).bind fun s r => pN n d s r
theorem pUs_name {n : Nat} {d : Int} {r : List Tok} {s : ByteArray} (hk : hdK r = 1) (hs : s = ⟨(hdT r).toArray⟩) : pUs n d r = pN n d s r.tail := by unfold pUs want; rw [if_pos hk, ← hs]; rfl
def DU (b g : Nat) (n : Nat) (d : Int) : Prop := ∀ (w : World) (r : List Tok), Lv b g r w → Ends (pUs n d r) → Calls Tryz.prog 154 #[.pointer (some ⟨b, 0, none⟩), .int .i64 d] w (Gets b g w (pUs n d r) (FrE w.heap.size))
theorem DU.call {b g : Nat} {n : Nat} {d : Int} (h : DU b g n d) {w : World} {r : List Tok} (hs : Lv b g r w) (he : Ends (pUs n d r)) : Calls Tryz.prog 154 #[.pointer (some ⟨b, 0, none⟩), .int .i64 d] w (Gets b g w (pUs n d r) (FrE w.heap.size)) := h w r hs he
set_option maxRecDepth 100000 in
theorem duse_var {b g n : Nat} {d : Int} (hd : 0 ≤ d ∧ d ≤ 1000)  {w : World} {r : List Tok} (h : Lv b g r w) (hk : hdK r = 1) (h7 : isS [40] r.tail = false) (h8 : isS [91] r.tail = false) (hn : Ends (pUs (n + 1) d r)) :
    Calls Tryz.prog 154 #[.pointer (some ⟨b, 0, none⟩), .int .i64 d] w (Gets b g w (pUs (n + 1) d r) (FrE w.heap.size)) := by
  obtain ⟨s, hs⟩ : ∃ s : ByteArray, s = ⟨(hdT r).toArray⟩ := ⟨_, rfl⟩
  obtain ⟨T, hT⟩ : ∃ T, T = pUs (n + 1) d r := ⟨_, rfl⟩
  rw [← hT] at hn ⊢
  have HC := Lib.hid (At.start h exBox)
  have HTE := Lib.hid hn
  have HK := Lib.hid hk
  have HS := Lib.hid hs
  obtain ⟨hd0, hd1⟩ := hd
  have hbl := h.lt
  have B1 := Lib.hid (show isS (⟨#[40]⟩ : ByteArray).data.toList r.tail = false from h7)
  have B2 := Lib.hid (show isS (⟨#[91]⟩ : ByteArray).data.toList r.tail = false from h8)
  have HT := Lib.hid (show T = .ok (.mk 3 0 0 s []) r.tail from hT.trans ((pUs_name hk hs).trans (by rw [pN, h7, h8, if_neg (by decide), if_neg (by decide)])))
  clear h hk hn hs hT h7 h8
  go_enter Tryz.func154, Tryz.ntmps154
  go_wp2_with (first
    | (go_at_call 59; (with_reducible refine (dtext_yes HC.out.lv 1 (by decide) HK.out s HS.out).mono ?_); rintro e w1 ⟨rfl, hL, hO⟩
       replace HC := Lib.hid (HC.out.step hL hO)
       obtain ⟨⟨c0, c1, c2, c3, c4⟩, fz⟩ := HC.out.five
       clear hL hO)
    | (go_at_call 60; (with_reducible refine (dtake_no HC.out.lv _ B1.out).mono ?_); rintro e w9 ⟨rfl, rfl⟩)
    | (go_at_call 60; (with_reducible refine (dtake_no HC.out.lv _ B2.out).mono ?_); rintro e w9 ⟨rfl, rfl⟩))
  obtain ⟨f0, f1, f2, f3, f4⟩ := HC.out.read (.int .i64 3) (.int .i64 0) (.int .i64 0) (.string s) (.slice none 0 0)
  refine bodyPost_ret (v := .agg #[.int .i64 3, .int .i64 0, .int .i64 0, .string s, .slice none 0 0]) (by simp [results, Tryz.results154, go_sem, f0, f1, f2, f3, f4]) rfl ?_
  exact HC.out.fin HT.out (fr_leaf _ _ 3 0 0 s r64)
set_option maxRecDepth 100000 in
theorem duse_call {b g n : Nat} {d : Int} (hd : 0 ≤ d ∧ d ≤ 1000) (hA : DA b g n (d + 1)) {w : World} {r : List Tok} (h : Lv b g r w) (hk : hdK r = 1) (h7 : isS [40] r.tail = true) (hn : Ends (pUs (n + 1) d r)) :
    Calls Tryz.prog 154 #[.pointer (some ⟨b, 0, none⟩), .int .i64 d] w (Gets b g w (pUs (n + 1) d r) (FrE w.heap.size)) := by
  obtain ⟨s, hs⟩ : ∃ s : ByteArray, s = ⟨(hdT r).toArray⟩ := ⟨_, rfl⟩
  obtain ⟨T, hT⟩ : ∃ T, T = pUs (n + 1) d r := ⟨_, rfl⟩
  rw [← hT] at hn ⊢
  have HC := Lib.hid (At.start h exBox)
  have HTE := Lib.hid hn
  have HK := Lib.hid hk
  have HS := Lib.hid hs
  obtain ⟨hd0, hd1⟩ := hd
  have hbl := h.lt
  have B1 := Lib.hid (show isS (⟨#[40]⟩ : ByteArray).data.toList r.tail = true from h7)
  have HA := Lib.hid hA
  have HN := Lib.hid (show Ends (pA n (d + 1) r.tail.tail) from by have h1 := hn; rw [hT, pUs_name hk hs, pN, if_pos h7] at h1; exact ends_left h1)
  have HT := Lib.hid (show T = (pA n (d + 1) r.tail.tail).bind fun es r => .ok (.mk 7 0 0 s es) r from hT.trans ((pUs_name hk hs).trans (by rw [pN, if_pos h7])))
  clear h hk hn hs hT h7 hA
  go_enter Tryz.func154, Tryz.ntmps154
  go_wp2_with (first
    | (go_at_call 59; (with_reducible refine (dtext_yes HC.out.lv 1 (by decide) HK.out s HS.out).mono ?_); rintro e w1 ⟨rfl, hL, hO⟩
       replace HC := Lib.hid (HC.out.step hL hO)
       obtain ⟨⟨c0, c1, c2, c3, c4⟩, fz⟩ := HC.out.five
       clear hL hO)
    | (go_at_call 60; (with_reducible refine (dtake_yes HC.out.lv _ B1.out).mono ?_); rintro e w2 ⟨rfl, hL, hO⟩
       replace HC := Lib.hid (HC.out.step hL hO)
       have hz2 := HC.out.size
       obtain ⟨⟨c0, c1, c2, c3, c4⟩, fz⟩ := HC.out.five
       clear hL hO)
    | (go_at_call 145; (with_reducible refine (HA.out.call HC.out.lv HN.out).mono ?_); rintro e w3 (⟨a, r3, v, hx, rfl, hL, hO, hF⟩ | ⟨k, r3, hx, rfl, hO⟩)
       rotate_left
       exact ⟨rfl, Gets.no (hx.go HT.out) (HC.out.off hO)⟩
       obtain ⟨k5, k7, rfl, _⟩ := hF.form
       have HF := Lib.hid hF
       replace HT := Lib.hid (show T = .ok (.mk 7 0 0 s a) r3 from HT.out.trans (by rw [show pA n (d + 1) r.tail.tail = .ok a r3 from hx]; rfl))
       replace HC := Lib.hid (HC.out.step hL hO)
       obtain ⟨⟨c0, c1, c2, c3, c4⟩, fz⟩ := HC.out.five
       clear hx hL hO hF))
  obtain ⟨f0, f1, f2, f3, f4⟩ := HC.out.read (.int .i64 7) (.int .i64 0) (.int .i64 0) (.string s) (.slice k5 a.length k7)
  refine bodyPost_ret (v := .agg #[.int .i64 7, .int .i64 0, .int .i64 0, .string s, .slice k5 a.length k7]) (by simp [results, Tryz.results154, go_sem, f0, f1, f2, f3, f4]) rfl ?_
  exact HC.out.fin HT.out ⟨_, rfl, r64, HF.out.writ hz2 _ _ _ _ _⟩
set_option maxRecDepth 100000 in
theorem duse_index {b g n : Nat} {d : Int} (hd : 0 ≤ d ∧ d ≤ 1000) (hE : DX b g n (d + 1)) {w : World} {r : List Tok} (h : Lv b g r w) (hk : hdK r = 1) (h7 : isS [40] r.tail = false) (h8 : isS [91] r.tail = true) (hn : Ends (pUs (n + 1) d r)) :
    Calls Tryz.prog 154 #[.pointer (some ⟨b, 0, none⟩), .int .i64 d] w (Gets b g w (pUs (n + 1) d r) (FrE w.heap.size)) := by
  obtain ⟨s, hs⟩ : ∃ s : ByteArray, s = ⟨(hdT r).toArray⟩ := ⟨_, rfl⟩
  obtain ⟨T, hT⟩ : ∃ T, T = pUs (n + 1) d r := ⟨_, rfl⟩
  rw [← hT] at hn ⊢
  have HC := Lib.hid (At.start h exBox)
  have HTE := Lib.hid hn
  have HK := Lib.hid hk
  have HS := Lib.hid hs
  obtain ⟨hd0, hd1⟩ := hd
  have hbl := h.lt
  have B1 := Lib.hid (show isS (⟨#[40]⟩ : ByteArray).data.toList r.tail = false from h7)
  have B2 := Lib.hid (show isS (⟨#[91]⟩ : ByteArray).data.toList r.tail = true from h8)
  have HE := Lib.hid hE
  have HN := Lib.hid (show Ends (pE n 1 (d + 1) r.tail.tail) from by have h1 := hn; rw [hT, pUs_name hk hs, pN, h7, if_neg (by decide), if_pos h8] at h1; exact ends_left h1)
  have HT := Lib.hid (show T = (pE n 1 (d + 1) r.tail.tail).bind fun e r => (must [93] r).bind fun _ r => .ok (.mk 6 0 0 s [e]) r from hT.trans ((pUs_name hk hs).trans (by rw [pN, h7, if_neg (by decide), if_pos h8])))
  clear h hk hn hs hT h7 h8 hE
  go_enter Tryz.func154, Tryz.ntmps154
  go_wp2_with (first
    | (go_at_call 59; (with_reducible refine (dtext_yes HC.out.lv 1 (by decide) HK.out s HS.out).mono ?_); rintro e w1 ⟨rfl, hL, hO⟩
       replace HC := Lib.hid (HC.out.step hL hO)
       obtain ⟨⟨c0, c1, c2, c3, c4⟩, fz⟩ := HC.out.five
       clear hL hO)
    | (go_at_call 60; (with_reducible refine (dtake_no HC.out.lv _ B1.out).mono ?_); rintro e w9 ⟨rfl, rfl⟩)
    | (go_at_call 60; (with_reducible refine (dtake_yes HC.out.lv _ B2.out).mono ?_); rintro e w2 ⟨rfl, hL, hO⟩
       replace HC := Lib.hid (HC.out.step hL hO)
       have hz2 := HC.out.size
       obtain ⟨⟨c0, c1, c2, c3, c4⟩, fz⟩ := HC.out.five
       clear hL hO)
    | (go_at_call 135; (with_reducible refine (HE.out.call HC.out.lv HN.out).mono ?_); rintro e w3 (⟨a, r3, v, hx, rfl, hL, hO, hF⟩ | ⟨k, r3, hx, rfl, hO⟩)
       rotate_left
       exact ⟨rfl, Gets.no (hx.go HT.out) (HC.out.off hO)⟩
       obtain ⟨k1, k2, k3, k4, k5, k6, k7, rfl⟩ := hF.form
       have HF := Lib.hid hF
       replace HT := Lib.hid (show T = (must [93] r3).bind fun _ r => .ok (.mk 6 0 0 s [a]) r from HT.out.trans (by rw [show pE n 1 (d + 1) r.tail.tail = .ok a r3 from hx]; rfl))
       replace HC := Lib.hid (HC.out.step hL hO)
       have hz3 := hO.size
       have hb2 : w3.heap.size ≠ b := by have := hL.lt; omega
       obtain ⟨⟨c0, c1, c2, c3, c4⟩, fz⟩ := HC.out.five
       clear hx hL hO hF)
    | (go_at_call 83; (with_reducible refine (dwant_any (HC.out.alloc (.cells #[.int .i64 k1, .int .i64 k2, .int .i64 k3, .string k4, .slice k5 k6 k7] 84)).lv ⟨#[93]⟩).mono ?_); rintro e w4 (⟨u, r4, v, hx, rfl, hL, hO, rfl⟩ | ⟨k, r4, hx, rfl, hO⟩)
       rotate_left
       exact ⟨rfl, Gets.no (hx.go HT.out) ((HC.out.alloc (.cells #[.int .i64 k1, .int .i64 k2, .int .i64 k3, .string k4, .slice k5 k6 k7] 84)).off hO)⟩
       replace HT := Lib.hid (show T = .ok (.mk 6 0 0 s [a]) r4 from HT.out.trans (by rw [show must [93] r3 = .ok u r4 from hx]; rfl))
       replace HC := Lib.hid ((HC.out.alloc (.cells #[.int .i64 k1, .int .i64 k2, .int .i64 k3, .string k4, .slice k5 k6 k7] 84)).step hL hO)
       have HKP := Lib.hid ((Keep.of_below (L := w2.heap.size) ((Below.refl _ _).alloc (Nat.le_refl _) (.cells #[.int .i64 k1, .int .i64 k2, .int .i64 k3, .string k4, .slice k5 k6 k7] 84))).trans (Keep.of_off hO (by omega)))
       obtain ⟨⟨p0, p1, p2, p3, p4⟩, pz⟩ := row_cells5 (own_next hO (k := w3.heap.size) (by simp) hb2 (heap_alloc_new w3 (.cells #[.int .i64 k1, .int .i64 k2, .int .i64 k3, .string k4, .slice k5 k6 k7] 84)))
       have hz4 := HC.out.size
       obtain ⟨⟨c0, c1, c2, c3, c4⟩, fz⟩ := HC.out.five
       clear hx hL hO))
  trace_state
  obtain ⟨f0, f1, f2, f3, f4⟩ := HC.out.reada (.cells #[.int .i64 k1, .int .i64 k2, .int .i64 k3, .string k4, .slice k5 k6 k7] 84) (.int .i64 6) (.int .i64 0) (.int .i64 0) (.string s) (.slice (some ⟨w4.heap.size, 0, none⟩) 1 1)
  refine bodyPost_ret (v := .agg #[.int .i64 6, .int .i64 0, .int .i64 0, .string s, .slice (some ⟨w4.heap.size, 0, none⟩) 1 1]) (by simp [results, Tryz.results154, go_sem, f0, f1, f2, f3, f4]) rfl ?_
  exact HC.out.fina HT.out ⟨_, rfl, r64, fr_one (FrE.writ (HF.out.keep HKP.out (Nat.le_refl _)) hz2 _ _ _ _ _) (Nat.le_refl _) (by rw [writ_size]; omega) (writ_size _ _ _ _ _ _ _).symm⟩
end Go.Proofs.YtakijoblbmfadaaGreatDoor

/- The developers' parser: what has no operator of two; operators of two. (By tools/gen_prsey.py.) -/
namespace Go.Proofs.YtakijoblbmfadaaGreatDoor
open Go.RowKit
theorem duse_any {b g n : Nat} {d : Int} (hd : 0 ≤ d ∧ d ≤ 1000) (hA : DA b g n (d + 1)) (hE : DX b g n (d + 1)) {w : World} {r : List Tok} (h : Lv b g r w) (hk : hdK r = 1) (hn : Ends (pUs (n + 1) d r)) :
    Calls Tryz.prog 154 #[.pointer (some ⟨b, 0, none⟩), .int .i64 d] w (Gets b g w (pUs (n + 1) d r) (FrE w.heap.size)) := by
  cases h7 : isS [40] r.tail with
  | true => exact duse_call hd hA h hk h7 hn
  | false =>
    cases h8 : isS [91] r.tail with
    | true => exact duse_index hd hE h hk h7 h8 hn
    | false => exact duse_var hd h hk h7 h8 hn
/-! ### one operand -/
def pOn (n : Nat) (d : Int) (l : List Tok) : PR Ex :=
  if unAt l = 0 then .bad l
  else if 23 ≤ unAt l then (pBr n (d + 1) l.tail).bind fun e r => .ok (.mk 4 (unAt l) 0 bE [e]) r
  else (pU n (d + 1) l.tail).bind fun e r => .ok (.mk 4 (unAt l) 0 bE [e]) r
theorem done_bad {b g n : Nat} {d : Int} {w : World} {r : List Tok} (h : Lv b g r w) (h0 : unAt r = 0) : Calls Tryz.prog 155 #[.pointer (some ⟨b, 0, none⟩), .int .i64 d] w (Gets b g w (pOn n d r) (FrE w.heap.size)) := by
  have HT := Lib.hid (show Fails (pOn n d r) 20 r by unfold pOn; rw [if_pos h0]; exact .inl ⟨rfl, rfl⟩)
  have HC := Lib.hid (At.start h exBox)
  have H0 := Lib.hid (show opAll 0 r = 0 from opAll_one.trans h0)
  clear h h0
  go_enter Tryz.func155, Tryz.ntmps155
  go_wp2_with (first
  | (go_at_call 150; (with_reducible refine (dop_any HC.out.lv 0 0 H0.out).mono ?_); rintro e w1 ⟨rfl, hL, hO⟩
     replace HC := Lib.hid (show At b g w exBox r w1 from HC.out.step hL hO)
     clear hL hO)
  | (go_at_call 84; (with_reducible refine (dfail_any HC.out.lv 20).mono ?_); rintro e w2 ⟨rfl, hO⟩; exact ⟨rfl, Gets.no HT.out (HC.out.off hO)⟩))
set_option maxRecDepth 100000 in
theorem done_conv {b g n : Nat} {d : Int} (hd : 0 ≤ d ∧ d ≤ 1000) (hE : DB b g n (d + 1)) {w : World} {r : List Tok} (h : Lv b g r w) (o : Int) (ho : unAt r = o) (h0 : o ≠ 0) (h23 : 23 ≤ o) (hn : Ends (pOn n d r)) :
    Calls Tryz.prog 155 #[.pointer (some ⟨b, 0, none⟩), .int .i64 d] w (Gets b g w (pOn n d r) (FrE w.heap.size)) := by
  obtain ⟨T, hT⟩ : ∃ T, T = pOn n d r := ⟨_, rfl⟩
  rw [← hT] at hn ⊢
  have HT := Lib.hid (show T = (pBr n (d + 1) r.tail).bind fun e r => .ok (.mk 4 o 0 bE [e]) r by
    rw [hT]
    unfold pOn
    rw [ho, if_neg h0, if_pos h23])
  have HTE := Lib.hid hn
  have HN := Lib.hid (show Ends (pBr n (d + 1) r.tail) from ends_left (HT.out ▸ hn))
  have HC := Lib.hid (At.start h exBox)
  have H0 := Lib.hid (show opAll 0 r = o from opAll_one.trans ho)
  have HB := Lib.hid (show behind o r = r.tail by unfold behind; rw [if_neg h0])
  have HE := Lib.hid hE
  have ho1 : (o == 0) = false := by simpa using h0
  obtain ⟨hd0, hd1⟩ := hd
  clear h ho h0 hn hT hE
  go_enter Tryz.func155, Tryz.ntmps155
  go_wp2_with (first
  | (go_at_call 150; (with_reducible refine (dop_any HC.out.lv 0 o H0.out).mono ?_); rintro e w1 ⟨rfl, hL, hO⟩
     rw [HB.out] at hL
     replace HC := Lib.hid (HC.out.step hL hO)
     have hz1 := HC.out.size
     have hn1 : w.heap.size ≠ w1.heap.size := by omega
     have hn2 : w1.heap.size ≠ w.heap.size := by omega
     have HC2 := Lib.hid (HC.out.alloc (.cells #[.int .i64 4, .int .i64 o, .int .i64 0, .string ⟨#[]⟩, .slice none 0 0] 84))
     have HR2 := Lib.hid (heap_alloc_new w1 (.cells #[.int .i64 4, .int .i64 o, .int .i64 0, .string ⟨#[]⟩, .slice none 0 0] 84))
     clear hL hO)
  | (go_at_call 121; (with_reducible refine (HE.out.call HC2.out.lv HN.out).mono ?_); rintro e w3 (⟨a, r3, v, hx, rfl, hL, hO, hF⟩ | ⟨k, r3, hx, rfl, hO⟩)
     rotate_left
     exact ⟨rfl, Gets.no (hx.go HT.out) (HC2.out.off hO)⟩
     obtain ⟨k1, k2, k3, k4, k5, k6, k7, rfl⟩ := hF.form
     have HF := Lib.hid hF
     replace HT := Lib.hid (show T = .ok (.mk 4 o 0 bE [a]) r3 from HT.out.trans (by rw [show pBr n (d + 1) r.tail = .ok a r3 from hx]; rfl))
     replace HC := Lib.hid (HC2.out.step hL hO)
     have hbl := HC.out.lt
     have hz3b := HC.out.size
     have hr3 := own_next hO (k := w1.heap.size) (by simp) (by omega) HR2.out
     have HR3 := Lib.hid hr3
     have hz3 : w1.heap.size < w3.heap.size := (Array.getElem?_eq_some_iff.1 hr3).1
     obtain ⟨⟨p0, p1, p2, p3, p4⟩, pz⟩ := row_cells5 hr3
     obtain ⟨⟨c0, c1, c2, c3, c4⟩, fz⟩ := HC.out.five
     clear hx hL hO hF hr3))
  obtain ⟨f0, f1, f2, f3, f4⟩ := (HC.out.set (k := w1.heap.size) (by omega) 4 (.slice (some ⟨w3.heap.size, 0, none⟩) 1 1)).reada (.cells #[.int .i64 k1, .int .i64 k2, .int .i64 k3, .string k4, .slice k5 k6 k7] 84) (.int .i64 4) (.int .i64 o) (.int .i64 0) (.string ⟨#[]⟩) (.slice (some ⟨w3.heap.size, 0, none⟩) 1 1)
  refine bodyPost_ret (v := .agg #[.int .i64 4, .int .i64 o, .int .i64 0, .string ⟨#[]⟩, .slice (some ⟨w3.heap.size, 0, none⟩) 1 1]) (by simp [results, Tryz.results155, go_sem, f0, f1, f2, f3, f4]) rfl ?_
  refine (HC.out.set (k := w1.heap.size) (by omega) 4 (.slice (some ⟨w3.heap.size, 0, none⟩) 1 1)).fina HT.out ⟨_, rfl, r64, ?_⟩
  refine fr_one (FrE.writ (HF.out.keep (Keep.set (by simp) _ _) (Nat.le_refl _)) (by simp; omega) _ _ _ _ _) (Nat.le_refl _) (by rw [writ_size]; simp; omega) (by rw [writ_size]; simp)
set_option maxRecDepth 100000 in
theorem done_sign {b g n : Nat} {d : Int} (hd : 0 ≤ d ∧ d ≤ 1000) (hE : DT b g n (d + 1)) {w : World} {r : List Tok} (h : Lv b g r w) (o : Int) (ho : unAt r = o) (h0 : o ≠ 0) (h23 : ¬ 23 ≤ o) (hn : Ends (pOn n d r)) :
    Calls Tryz.prog 155 #[.pointer (some ⟨b, 0, none⟩), .int .i64 d] w (Gets b g w (pOn n d r) (FrE w.heap.size)) := by
  obtain ⟨T, hT⟩ : ∃ T, T = pOn n d r := ⟨_, rfl⟩
  rw [← hT] at hn ⊢
  have HT := Lib.hid (show T = (pU n (d + 1) r.tail).bind fun e r => .ok (.mk 4 o 0 bE [e]) r by
    rw [hT]
    unfold pOn
    rw [ho, if_neg h0, if_neg h23])
  have HTE := Lib.hid hn
  have HN := Lib.hid (show Ends (pU n (d + 1) r.tail) from ends_left (HT.out ▸ hn))
  have HC := Lib.hid (At.start h exBox)
  have H0 := Lib.hid (show opAll 0 r = o from opAll_one.trans ho)
  have HB := Lib.hid (show behind o r = r.tail by unfold behind; rw [if_neg h0])
  have HE := Lib.hid hE
  have ho1 : (o == 0) = false := by simpa using h0
  obtain ⟨hd0, hd1⟩ := hd
  clear h ho h0 hn hT hE
  go_enter Tryz.func155, Tryz.ntmps155
  go_wp2_with (first
  | (go_at_call 150; (with_reducible refine (dop_any HC.out.lv 0 o H0.out).mono ?_); rintro e w1 ⟨rfl, hL, hO⟩
     rw [HB.out] at hL
     replace HC := Lib.hid (HC.out.step hL hO)
     have hz1 := HC.out.size
     have hn1 : w.heap.size ≠ w1.heap.size := by omega
     have hn2 : w1.heap.size ≠ w.heap.size := by omega
     have HC2 := Lib.hid (HC.out.alloc (.cells #[.int .i64 4, .int .i64 o, .int .i64 0, .string ⟨#[]⟩, .slice none 0 0] 84))
     have HR2 := Lib.hid (heap_alloc_new w1 (.cells #[.int .i64 4, .int .i64 o, .int .i64 0, .string ⟨#[]⟩, .slice none 0 0] 84))
     clear hL hO)
  | (go_at_call 149; (with_reducible refine (HE.out.call HC2.out.lv HN.out).mono ?_); rintro e w3 (⟨a, r3, v, hx, rfl, hL, hO, hF⟩ | ⟨k, r3, hx, rfl, hO⟩)
     rotate_left
     exact ⟨rfl, Gets.no (hx.go HT.out) (HC2.out.off hO)⟩
     obtain ⟨k1, k2, k3, k4, k5, k6, k7, rfl⟩ := hF.form
     have HF := Lib.hid hF
     replace HT := Lib.hid (show T = .ok (.mk 4 o 0 bE [a]) r3 from HT.out.trans (by rw [show pU n (d + 1) r.tail = .ok a r3 from hx]; rfl))
     replace HC := Lib.hid (HC2.out.step hL hO)
     have hbl := HC.out.lt
     have hz3b := HC.out.size
     have hr3 := own_next hO (k := w1.heap.size) (by simp) (by omega) HR2.out
     have HR3 := Lib.hid hr3
     have hz3 : w1.heap.size < w3.heap.size := (Array.getElem?_eq_some_iff.1 hr3).1
     obtain ⟨⟨p0, p1, p2, p3, p4⟩, pz⟩ := row_cells5 hr3
     obtain ⟨⟨c0, c1, c2, c3, c4⟩, fz⟩ := HC.out.five
     clear hx hL hO hF hr3))
  obtain ⟨f0, f1, f2, f3, f4⟩ := (HC.out.set (k := w1.heap.size) (by omega) 4 (.slice (some ⟨w3.heap.size, 0, none⟩) 1 1)).reada (.cells #[.int .i64 k1, .int .i64 k2, .int .i64 k3, .string k4, .slice k5 k6 k7] 84) (.int .i64 4) (.int .i64 o) (.int .i64 0) (.string ⟨#[]⟩) (.slice (some ⟨w3.heap.size, 0, none⟩) 1 1)
  refine bodyPost_ret (v := .agg #[.int .i64 4, .int .i64 o, .int .i64 0, .string ⟨#[]⟩, .slice (some ⟨w3.heap.size, 0, none⟩) 1 1]) (by simp [results, Tryz.results155, go_sem, f0, f1, f2, f3, f4]) rfl ?_
  refine (HC.out.set (k := w1.heap.size) (by omega) 4 (.slice (some ⟨w3.heap.size, 0, none⟩) 1 1)).fina HT.out ⟨_, rfl, r64, ?_⟩
  refine fr_one (FrE.writ (HF.out.keep (Keep.set (by simp) _ _) (Nat.le_refl _)) (by simp; omega) _ _ _ _ _) (Nat.le_refl _) (by rw [writ_size]; simp; omega) (by rw [writ_size]; simp)
end Go.Proofs.YtakijoblbmfadaaGreatDoor
