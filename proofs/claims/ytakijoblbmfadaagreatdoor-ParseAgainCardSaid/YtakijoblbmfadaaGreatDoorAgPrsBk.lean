import Derived.Test.YtakijoblbmfadaaGreatDoorAgPrsSt
set_option linter.unusedSimpArgs false
set_option linter.unusedVariables false
/- The developers' parser: blocks. (By tools/gen_prsbk.py.) -/
namespace Go.Proofs.YtakijoblbmfadaaGreatDoor
open Go.RowKit
set_option maxRecDepth 100000 in
theorem ditemS {b g n : Nat} {d : Int} (hE : DS b g n d) {c1 c2 : Nat} {w : World} {r : List Tok} (h : Lv b g r w) (h1 : w.cell? ⟨c1, 0, none⟩ = some (.pointer (some ⟨b, 0, none⟩))) (h2 : w.cell? ⟨c2, 0, none⟩ = some (.int .i64 d)) (hn : Ends (pS n d r)) :
    Calls Tryz.prog 104 #[.pointer (some ⟨c1, 0, none⟩), .pointer (some ⟨c2, 0, none⟩)] w (Gets b g w (pS n d r) (FrS w.heap.size)) := by
  obtain ⟨T, hT⟩ : ∃ T, T = pS n d r := ⟨_, rfl⟩
  rw [← hT] at hn ⊢
  have HC := Lib.hid (At.start h stBox)
  have HE := Lib.hid hE
  have HN := Lib.hid (show Ends (pS n d r) from hT ▸ hn)
  have HT := Lib.hid (show T = (pS n d r).bind fun e r => .ok e r from hT.trans (bind_self _))
  have k1 := World.block_lt_of_cell? w ⟨c1, 0, none⟩ h1
  have k2 := World.block_lt_of_cell? w ⟨c2, 0, none⟩ h2
  have l1 : (w.alloc stBox).cell? ⟨c1, 0, none⟩ = some (.pointer (some ⟨b, 0, none⟩)) := by rw [World.cell?_alloc_past _ _ _ k1]; exact h1
  have l2 : (w.alloc stBox).cell? ⟨c2, 0, none⟩ = some (.int .i64 d) := by rw [World.cell?_alloc_past _ _ _ k2]; exact h2
  have hz1 := HC.out.size
  clear h hn hT hE
  go_enter Tryz.func104, Tryz.ntmps104
  go_wp2_with (first
  | (go_at_call 105; (with_reducible refine (HE.out.call HC.out.lv HN.out).mono ?_); rintro e w1 (⟨a, r1, v, hx, rfl, hL, hO, hF⟩ | ⟨k, r1, hx, rfl, hO⟩)
     rotate_left
     exact ⟨rfl, Gets.no (hx.go HT.out) (HC.out.off hO)⟩
     obtain ⟨k1, k2, k3, A3, m3, q3, A4, m4, q4, A5, m5, q5, rfl⟩ := hF.form
     have hzc := HC.out.size
     have HF := Lib.hid (hF.keep (Keep.refl _ _) (show w.heap.size + 1 ≤ _ by omega))
     replace HT := Lib.hid (show T = .ok a r1 from HT.out.trans (by rw [show pS n d r = .ok a r1 from hx]; rfl))
     replace HC := Lib.hid (HC.out.step hL hO)
     obtain ⟨⟨c0, c1, c2, c3, c4, c5⟩, fz⟩ := HC.out.six
     clear hx hL hO hF))
  obtain ⟨⟨f0, f1, f2, f3, f4, f5⟩, _⟩ := six_cells (nest6_row HC.out.row (.int .i64 k1) (.int .i64 k2) (.string k3) (.slice A3 m3 q3) (.slice A4 m4 q4) (.slice A5 m5 q5))
  refine bodyPost_ret (v := .agg #[.int .i64 k1, .int .i64 k2, .string k3, .slice A3 m3 q3, .slice A4 m4 q4, .slice A5 m5 q5]) (by simp [results, Tryz.results104, go_sem, f0, f1, f2, f3, f4, f5]) rfl ?_
  exact HC.out.fing HT.out (nest6_below (Nat.le_refl _) (Below.refl _ _) _ _ _ _ _ _) (HF.out.keep (Keep.nest6 (Nat.lt_succ_self _) _ _ _ _ _ _) (Nat.le_succ _))
def qS (m : Nat) (d : Int) (acc : List St) (r : List Tok) : PR (List St) := if isS [125] r = true then .ok acc r.tail else pBL m d acc r
theorem qS_end {m : Nat} {d : Int} {acc : List St} {r : List Tok} (h : isS [125] r = true) : qS m d acc r = .ok acc r.tail := by unfold qS; rw [if_pos h]
theorem pBL_qS {m : Nat} {d : Int} {acc : List St} {r : List Tok} (he : Ends (pBL m d acc r)) : pBL m d acc r = qS m d acc r := by
  unfold qS
  cases m with
  | zero => rw [pBL] at he; exact absurd he id
  | succ m =>
    by_cases h : isS [125] r = true
    · rw [pBL, if_pos h, if_pos h]
    · rw [if_neg h]
theorem qS_one {m : Nat} {d : Int} {acc : List St} {r : List Tok} (h : isS [125] r = false) (he : Ends (qS m d acc r)) : ∃ q, q + 1 = m ∧ qS m d acc r = (pS q d r).bind fun s r => qS q d (acc ++ [s]) r := by
  have e0 : qS m d acc r = pBL m d acc r := by unfold qS; rw [if_neg (by rw [h]; decide)]
  rw [e0] at he ⊢
  cases m with
  | zero => rw [pBL] at he; exact absurd he id
  | succ q =>
    refine ⟨q, rfl, ?_⟩
    rw [pBL_got h] at he ⊢
    cases hx : pS q d r with
    | ok s r2 => rw [hx] at he; exact pBL_qS he
    | bad r2 => rfl
    | deep r2 => rfl
    | out => rfl
set_option maxHeartbeats 1600000 in
set_option maxRecDepth 100000 in
theorem dlistS {b g n : Nat} {d : Int} {c1 c2 : Nat} (hItem : ∀ m, m ≤ n → DS b g m d) {w : World} {r : List Tok} (h : Lv b g r w) (h1 : w.cell? ⟨c1, 0, none⟩ = some (.pointer (some ⟨b, 0, none⟩))) (h2 : w.cell? ⟨c2, 0, none⟩ = some (.int .i64 d)) (hc1 : c1 ≠ b) (hc2 : c2 ≠ b) (hn : Ends (pBL n d [] r)) :
    Calls Tryz.prog 103 #[.pointer (some ⟨b, 0, none⟩), .string ⟨#[]⟩, .string ⟨#[125]⟩, .func (Fn.func 104) #[] #[.pointer (some ⟨c1, 0, none⟩), .pointer (some ⟨c2, 0, none⟩)]] w (Gets b g w (pBL n d [] r) (FrSs w.heap.size)) := by
  obtain ⟨T, hT⟩ : ∃ T, T = pBL n d [] r := ⟨_, rfl⟩
  rw [← hT] at hn ⊢
  have HTE := Lib.hid hn
  have HI := Lib.hid hItem
  have HN0 := Lib.hid h.lows
  have hr1 := h.len
  have HH := Lib.hid (Here.refl h)
  have HT0 := Lib.hid hT
  replace HT0 := Lib.hid (hT.trans (pBL_qS (hT ▸ hn)))
  have H1 := Lib.hid h1
  have H2 := Lib.hid h2
  clear h1 h2
  clear h hn hT hItem
  go_enter Tryz.func103, Tryz.ntmps103
  go_wp2
  go_loopw [9] (fun v wr => ∃ (m : Nat) (ps : List (StP4)) (r' : List Tok), m ≤ n ∧ OutK kS w.heap.size wr v ps ∧ Here b g w r' wr ∧ T = qS m d (ps.map (·.s)) r' ∧ ps.length + r'.length ≤ r.length) (fun _ wr => restL b wr)
  case atStart => exact ⟨n, [], r, by omega, OutK.nil _ _ _, HH.out, HT0.out, by simp⟩
  case round =>
    obtain ⟨i0, hi0, hz0, hz1, hz2⟩ := info_parts st_info
    have HI0 := Lib.hid (And.intro hi0 (And.intro hz0 (And.intro hz1 hz2)))
    clear hi0 hz0 hz1 hz2
    obtain ⟨m, ps, r', hmn, hO, hH, hTT, hlen⟩ := hrel
    obtain ⟨A0, cp0, rfl⟩ := hO.form
    have HO := Lib.hid hO
    replace HH := Lib.hid hH
    have HRL := Lib.hid (restL_lv hH.lv)
    have hsw := hH.2.size
    have H1r := Lib.hid (off_cell hH.2 hc1 H1.out)
    have H2r := Lib.hid (off_cell hH.2 hc2 H2.out)
    cases hs : isS [125] r' with
    | true =>
      have HV := Lib.hid (show isS (⟨#[125]⟩ : ByteArray).data.toList r' = true from hs)
      have HR := Lib.hid (show T = .ok (ps.map (·.s)) r'.tail from hTT.trans (qS_end hs))
      clear hO hH hTT hs
      go_wp2_with (first
        | (go_at_call 60; (with_reducible refine (dtake_yes HH.out.lv _ HV.out).mono ?_); rintro e w1 ⟨rfl, hL, hOF⟩
           replace HO := Lib.hid (HO.out.keep (Keep.of_off hOF HN0.out.1))
           replace HH := Lib.hid (HH.out.step hL hOF)
           clear hL hOF))
      go_ret
      exact Gets.ok HR.out HH.out.lv HH.out.2 (HO.out.stmts (by omega))
    | false =>
      have HV := Lib.hid (show isS (⟨#[125]⟩ : ByteArray).data.toList r' = false from hs)
      have HT1 := Lib.hid (show Ends (qS m d (ps.map (·.s)) r') from hTT ▸ HTE.out)
      obtain ⟨q, hq, hT2⟩ := qS_one hs HT1.out
      have HT := Lib.hid (hTT.trans hT2)
      have HNI := Lib.hid (show Ends (pS q d r') from ends_left (hT2 ▸ HT1.out))
      have HENDR := Lib.hid HH.out.lv.ends
      clear hO hH hTT hs hT2
      by_cases hl0 : 0 < ps.length
      · go_wp2_with (first
          | (go_at_call 60; (with_reducible refine (dtake_no HH.out.lv _ HV.out).mono ?_); rintro e w1 ⟨rfl, rfl⟩)
          | (go_at_call 104; (with_reducible refine (ditemS (HI.out q (by omega)) HH.out.lv H1r.out H2r.out HNI.out).mono ?_); rintro e w3 (⟨a, r3, v, hx, rfl, hL, hOF, hF⟩ | ⟨k, r3, hx, rfl, hOF⟩)
             rotate_left
             exact ⟨rfl, Gets.no (hx.go HT.out) (HH.out.off hOF)⟩
             obtain ⟨k1, k2, k3, A3, m3, q3, A4, m4, q4, A5, m5, q5, rfl⟩ := hF.form
             have HF := Lib.hid hF
             have HFIT := Lib.hid (show RestOf 1 r' r3 by have h1 := pS_fits (n := q) (d := d) HENDR.out; rw [show pS q d r' = .ok a r3 from hx] at h1; exact h1)
             replace HT := Lib.hid (show T = qS q d (ps.map (·.s) ++ [a]) r3 from HT.out.trans (by rw [show pS q d r' = .ok a r3 from hx]; rfl))
             have HO2 := Lib.hid (HO.out.keep (Keep.of_off hOF HN0.out.1))
             have HLT := Lib.hid HO.out.own
             have HSZ := Lib.hid HH.out.2.size
             replace HH := Lib.hid (HH.out.step hL hOF)
             have HPRE := Lib.hid (HO2.out.pre [.int .i64 k1, .int .i64 k2, .string k3, .slice A3 m3 q3, .slice A4 m4 q4, .slice A5 m5 q5] (by have := HH.out.2.size; omega))
             clear hx hL hOF hF)
          | (at_builtin; refine list_append_at rfl (.tmp 24) (.tmp 27) _ rfl w.heap.size 78 i0 _ 6 104 Tryz.underlying44 HI0.out.1 HI0.out.2.1 HI0.out.2.2.1 HI0.out.2.2.2 rfl (by omega) (.slice A0 ps.length cp0) ps.length _ rfl (by exact HPRE.out.1) ⟨w3.heap.size, 0, none⟩ 1 1 [.int .i64 k1, .int .i64 k2, .string k3, .slice A3 m3 q3, .slice A4 m4 q4, .slice A5 m5 q5] rfl rfl (by exact HPRE.out.2.1) (by simp [Value.oneCell']) (by simp only [maxLen]; omega) (by omega) (by exact HPRE.out.2.2) (by omega) ?_
             intro v1 w5 hown1 hg1 hr1
             have HO5 := Lib.hid (HO2.out.app (kS_of HF.out).2 HSZ.out (fun k hk => (HLT.out k hk).1) ((Below.refl _ _).alloc (Nat.le_refl _) _) hg1 hr1 (by rw [(kS_of HF.out).1]; exact hown1))
             have HH5 := Lib.hid (HH.out.grown HN0.out hg1 fun k hk => (HO2.out.own k hk).2)
             clear hown1 hg1 hr1))
        have HRL2 := Lib.hid (restL_lv HH5.out.lv)
        go_roundw
        case rel => exact ⟨q, ps ++ [⟨a, .slice A3 m3 q3, .slice A4 m4 q4, .slice A5 m5 q5⟩], r3, by omega, HO5.out, HH5.out, by rw [HT.out, List.map_append]; rfl, by have h1 := HFIT.out.2.2; rw [List.length_append]; simp; omega⟩
        case measure =>
          rw [HRL2.out, HRL.out]
          have h1 := HFIT.out.2.2
          omega
      · go_wp2_with (first
          | (go_at_call 60; (with_reducible refine (dtake_no HH.out.lv _ HV.out).mono ?_); rintro e w1 ⟨rfl, rfl⟩)
          | (go_at_call 104; (with_reducible refine (ditemS (HI.out q (by omega)) HH.out.lv H1r.out H2r.out HNI.out).mono ?_); rintro e w3 (⟨a, r3, v, hx, rfl, hL, hOF, hF⟩ | ⟨k, r3, hx, rfl, hOF⟩)
             rotate_left
             exact ⟨rfl, Gets.no (hx.go HT.out) (HH.out.off hOF)⟩
             obtain ⟨k1, k2, k3, A3, m3, q3, A4, m4, q4, A5, m5, q5, rfl⟩ := hF.form
             have HF := Lib.hid hF
             have HFIT := Lib.hid (show RestOf 1 r' r3 by have h1 := pS_fits (n := q) (d := d) HENDR.out; rw [show pS q d r' = .ok a r3 from hx] at h1; exact h1)
             replace HT := Lib.hid (show T = qS q d (ps.map (·.s) ++ [a]) r3 from HT.out.trans (by rw [show pS q d r' = .ok a r3 from hx]; rfl))
             have HO2 := Lib.hid (HO.out.keep (Keep.of_off hOF HN0.out.1))
             have HLT := Lib.hid HO.out.own
             have HSZ := Lib.hid HH.out.2.size
             replace HH := Lib.hid (HH.out.step hL hOF)
             have HPRE := Lib.hid (HO2.out.pre [.int .i64 k1, .int .i64 k2, .string k3, .slice A3 m3 q3, .slice A4 m4 q4, .slice A5 m5 q5] (by have := HH.out.2.size; omega))
             clear hx hL hOF hF)
          | (at_builtin; refine list_append_at rfl (.tmp 24) (.tmp 27) _ rfl w.heap.size 78 i0 _ 6 104 Tryz.underlying44 HI0.out.1 HI0.out.2.1 HI0.out.2.2.1 HI0.out.2.2.2 rfl (by omega) (.slice A0 ps.length cp0) ps.length _ rfl (by exact HPRE.out.1) ⟨w3.heap.size, 0, none⟩ 1 1 [.int .i64 k1, .int .i64 k2, .string k3, .slice A3 m3 q3, .slice A4 m4 q4, .slice A5 m5 q5] rfl rfl (by exact HPRE.out.2.1) (by simp [Value.oneCell']) (by simp only [maxLen]; omega) (by omega) (by exact HPRE.out.2.2) (by omega) ?_
             intro v1 w5 hown1 hg1 hr1
             have HO5 := Lib.hid (HO2.out.app (kS_of HF.out).2 HSZ.out (fun k hk => (HLT.out k hk).1) ((Below.refl _ _).alloc (Nat.le_refl _) _) hg1 hr1 (by rw [(kS_of HF.out).1]; exact hown1))
             have HH5 := Lib.hid (HH.out.grown HN0.out hg1 fun k hk => (HO2.out.own k hk).2)
             clear hown1 hg1 hr1))
        have HRL2 := Lib.hid (restL_lv HH5.out.lv)
        go_roundw
        case rel => exact ⟨q, ps ++ [⟨a, .slice A3 m3 q3, .slice A4 m4 q4, .slice A5 m5 q5⟩], r3, by omega, HO5.out, HH5.out, by rw [HT.out, List.map_append]; rfl, by have h1 := HFIT.out.2.2; rw [List.length_append]; simp; omega⟩
        case measure =>
          rw [HRL2.out, HRL.out]
          have h1 := HFIT.out.2.2
          omega
set_option maxRecDepth 100000 in
theorem dblock_any {b g n : Nat} {d : Int} (hE : ∀ m, m ≤ n → DS b g m d) : DK b g (n + 1) d := by
  intro w r h hn
  obtain ⟨T, hT⟩ : ∃ T, T = pB (n + 1) d r := ⟨_, rfl⟩
  rw [← hT] at hn ⊢
  have hmf : ∀ (fn : Fn) (first cap : Array Value) (w : World), (Instr.makeFunc fn first cap).run Tryz.prog w = .ok (.func fn first cap) w := fun _ _ _ _ => rfl
  have hb1 : Below w.heap.size w ((w.alloc (.cells #[.pointer (some ⟨b, 0, none⟩)] 95)).alloc (.cells #[.int .i64 d] 3)) := ((Below.refl _ _).alloc (Nat.le_refl _) _).alloc (by rw [alloc_size]; omega) _
  have HB := Lib.hid hb1
  have HL := Lib.hid (h.below hb1)
  have h1 : ((w.alloc (.cells #[.pointer (some ⟨b, 0, none⟩)] 95)).alloc (.cells #[.int .i64 d] 3)).cell? ⟨w.heap.size, 0, none⟩ = some (.pointer (some ⟨b, 0, none⟩)) := by
    rw [Lib.cell_of_heap (own_more (heap_alloc_new w _) _)]; rfl
  have h2 : ((w.alloc (.cells #[.pointer (some ⟨b, 0, none⟩)] 95)).alloc (.cells #[.int .i64 d] 3)).cell? ⟨w.heap.size + 1, 0, none⟩ = some (.int .i64 d) := by
    have := heap_alloc_new (w.alloc (.cells #[.pointer (some ⟨b, 0, none⟩)] 95)) (.cells #[.int .i64 d] 3)
    rw [alloc_size] at this
    rw [Lib.cell_of_heap this]; rfl
  have H1 := Lib.hid h1
  have H2 := Lib.hid h2
  have HE := Lib.hid hE
  have HTE := Lib.hid hn
  have HT := Lib.hid (show T = (must [123] r).bind fun _ r => pBL n d [] r from hT)
  have hbw := h.lt
  clear h hn hb1 hE h1 h2 hT
  go_enter Tryz.func89, Tryz.ntmps89
  go_wp2_with (first
  | (go_at_call 83; (with_reducible refine (dwant_any HL.out ⟨#[123]⟩).mono ?_); rintro e w1 (⟨u, r1, v, hx, rfl, hL, hO, rfl⟩ | ⟨k, r1, hx, rfl, hO⟩)
     rotate_left
     exact ⟨rfl, Gets.no (hx.go HT.out) ((OffB.of_below HB.out hbw).trans (hO.mono HB.out.size))⟩
     replace HT := Lib.hid (show T = pBL n d [] r1 from HT.out.trans (by rw [show must [123] r = .ok u r1 from hx]; rfl))
     have HN := Lib.hid (show Ends (pBL n d [] r1) from HT.out ▸ HTE.out)
     replace HL := Lib.hid hL
     have HO := Lib.hid ((OffB.of_below HB.out hbw).trans (hO.mono HB.out.size))
     have h1 := off_cell hO (show w.heap.size ≠ b by omega) H1.out
     have h2 := off_cell hO (show w.heap.size + 1 ≠ b by omega) H2.out
     replace H1 := Lib.hid h1
     replace H2 := Lib.hid h2
     clear hx hL hO)
  | (go_at_call 103; (with_reducible refine (dlistS HE.out HL.out H1.out H2.out (by omega) (by omega) HN.out).mono ?_); rintro e w2 (⟨a, r2, v, hx, rfl, hL, hO, hF⟩ | ⟨k, r2, hx, rfl, hO⟩)
     rotate_left
     exact ⟨rfl, Gets.no (HT.out ▸ hx) (HO.out.trans (hO.mono HO.out.size))⟩)
    )
  go_ret
  exact Gets.ok (HT.out.trans hx) hL (HO.out.trans (hO.mono HO.out.size)) (FrSs.keep hF (Keep.refl _ _) HO.out.size)
theorem dblock_all (b g : Nat) : ∀ (n : Nat), ∀ m, m ≤ n → ∀ d : Int, 0 ≤ d → d ≤ 101 → DK b g m d
  | 0, m, hm, d, _, _ => by
    obtain rfl : m = 0 := by omega
    intro w r h hn
    rw [pB] at hn
    exact absurd hn id
  | n + 1, m, hm, d, h0, h1 => by
    have ih := dblock_all b g n
    by_cases hmn : m ≤ n
    · exact ih m hmn d h0 h1
    · obtain rfl : m = n + 1 := by omega
      refine dblock_any fun q hq => ?_
      cases q with
      | zero => intro w r h hn; rw [pS] at hn; exact absurd hn id
      | succ k => exact dstmt_any ⟨h0, by omega⟩ fun hd q hq2 => ih q (by omega) (d + 1) (by omega) (by omega)
theorem dk_all {b g n : Nat} {d : Int} (h1 : 0 ≤ d) (h2 : d ≤ 101) : DK b g n d := dblock_all b g n n (Nat.le_refl _) d h1 h2
end Go.Proofs.YtakijoblbmfadaaGreatDoor

/- The developers' parser: parameters, functions, arrays. (By tools/gen_prsfn.py.) -/
namespace Go.Proofs.YtakijoblbmfadaaGreatDoor
open Go.RowKit
abbrev paBox : Obj := .cells #[.string ⟨#[]⟩, .int .i64 0] 59
abbrev arBox : Obj := .cells #[.string ⟨#[]⟩, .int .i64 0] 56
theorem nest2_below {B g : Nat} (hB : B ≤ g) {a w : World} (h : Below B a w) (c0 c1 : Value) : Below B a (nest2 w g c0 c1) := (h.setCell (p := ⟨g, 0, none⟩) hB c0).setCell (p := ⟨g, 1, none⟩) hB c1
theorem nest4_below {B g : Nat} (hB : B ≤ g) {a w : World} (h : Below B a w) (c0 c1 c2 c3 : Value) : Below B a (nest4 w g c0 c1 c2 c3) := (((h.setCell (p := ⟨g, 0, none⟩) hB c0).setCell (p := ⟨g, 1, none⟩) hB c1).setCell (p := ⟨g, 2, none⟩) hB c2).setCell (p := ⟨g, 3, none⟩) hB c3
def FrPa (_ : Nat) (_ : World) (a : Pa) (v : Value) : Prop := v = .agg #[.string a.name, .int .i64 a.type]
theorem FrPa.form {L : Nat} {w : World} {a : Pa} {v : Value} (h : FrPa L w a v) : ∃ s t, v = .agg #[.string s, .int .i64 t] := ⟨_, _, h⟩
def FrAr (_ : Nat) (_ : World) (a : Ar) (v : Value) : Prop := v = .agg #[.string a.name, .int .i64 a.size]
theorem FrAr.form {L : Nat} {w : World} {a : Ar} {v : Value} (h : FrAr L w a v) : ∃ s t, v = .agg #[.string s, .int .i64 t] := ⟨_, _, h⟩
theorem kP_of {L : Nat} {W : World} {a : Pa} {s : ByteArray} {t : Int} (h : FrPa L W a (.agg #[.string s, .int .i64 t])) : kP.cs a = [.string s, .int .i64 t] ∧ FrK kP L W a := by
  unfold FrPa at h
  simp only [Value.agg.injEq, Array.mk.injEq, List.cons.injEq, Value.int.injEq, Value.string.injEq, true_and, and_true] at h
  obtain ⟨rfl, rfl⟩ := h
  exact ⟨rfl, trivial⟩
theorem OutK.params2 {B : Nat} {w : World} {v : Value} {ps : List Pa} (h : OutK kP B w v ps) (hn : ps.length ≤ 281474976710656) : FrPs B w (ps.map fun p => p) v := by rw [List.map_id']; exact h.params hn
set_option maxRecDepth 100000 in
theorem dparam_any {b g : Nat} {w : World} {r : List Tok} (h : Lv b g r w) : Calls Tryz.prog 88 #[.pointer (some ⟨b, 0, none⟩)] w (Gets b g w (parOne r) (FrPa w.heap.size)) := by
  obtain ⟨T, hT⟩ : ∃ T, T = parOne r := ⟨_, rfl⟩
  rw [← hT]
  have HC := Lib.hid (At.start h paBox)
  have HT := Lib.hid (show T = (pTy r).bind fun t r => (want 1 r).bind fun s r => .ok ⟨s, t⟩ r from hT)
  clear h hT
  go_enter Tryz.func88, Tryz.ntmps88
  go_wp2_with (first
  | (go_at_call 58; (with_reducible refine (dkind_any HC.out.lv).mono ?_); rintro e w1 (⟨t, r1, v, hx, rfl, hL, hO, rfl⟩ | ⟨k, r1, hx, rfl, hO⟩)
     rotate_left
     exact ⟨rfl, Gets.no (hx.go HT.out) (HC.out.off hO)⟩
     replace HT := Lib.hid (show T = (want 1 r1).bind fun s r => .ok ⟨s, t⟩ r from HT.out.trans (by rw [show pTy r = .ok t r1 from hx]; rfl))
     replace HC := Lib.hid (HC.out.step hL hO)
     obtain ⟨⟨c0, c1⟩, fz⟩ := two_cells HC.out.row
     clear hx hL hO)
  | (go_at_call 59; (with_reducible refine (dtext_any HC.out.lv 1 (by decide)).mono ?_); rintro e w2 (⟨s, r2, v, hx, rfl, hL, hO, rfl⟩ | ⟨k, r2, hx, rfl, hO⟩)
     rotate_left
     exact ⟨rfl, Gets.no (hx.go HT.out) (HC.out.off hO)⟩
     replace HT := Lib.hid (show T = .ok ⟨s, t⟩ r2 from HT.out.trans (by rw [show want 1 r1 = .ok s r2 from hx]; rfl))
     replace HC := Lib.hid (HC.out.step hL hO)
     obtain ⟨⟨c0, c1⟩, fz⟩ := two_cells HC.out.row
     clear hx hL hO))
  obtain ⟨⟨f0, f1⟩, _⟩ := two_cells (nest2_row HC.out.row (.string s) (.int .i64 t))
  refine bodyPost_ret (v := .agg #[.string s, .int .i64 t]) (by simp [results, Tryz.results88, go_sem, f0, f1]) rfl ?_
  exact HC.out.fing HT.out (nest2_below (Nat.le_refl _) (Below.refl _ _) _ _) rfl
def qP (m : Nat) (_ : Unit) (acc : List Pa) (r : List Tok) : PR (List Pa) := if acc = [] then (if isS [41] r = true then .ok [] r.tail else pPL m [] r) else parRest m acc r
theorem qP_end {m : Nat} {u : Unit} {acc : List Pa} {r : List Tok} (h : isS [41] r = true) : qP m u acc r = .ok acc r.tail := by
  unfold qP
  by_cases e : acc = []
  · rw [if_pos e, if_pos h, e]
  · rw [if_neg e]
    unfold parRest must
    rw [if_neg (by rw [sign_two h (by decide)]; decide), if_pos h]
    rfl
theorem qP_one {m : Nat} {u : Unit} {acc : List Pa} {r : List Tok} (h : isS [41] r = false) (ha : acc = []) (he : Ends (qP m u acc r)) : ∃ q, q + 1 = m ∧ qP m u acc r = (parOne r).bind fun e r => qP q u (acc ++ [e]) r := by
  subst ha
  unfold qP at he ⊢
  rw [if_pos rfl, if_neg (by rw [h]; decide)] at he ⊢
  cases m with
  | zero => rw [pPL] at he; exact absurd he id
  | succ q => exact ⟨q, rfl, by rw [pPL_got]; rfl⟩
theorem qP_more {m : Nat} {u : Unit} {acc : List Pa} {r : List Tok} (h : isS [41] r = false) (ha : acc ≠ []) (he : Ends (qP m u acc r)) : ∃ q, q ≤ m ∧ qP m u acc r = (must [44] r).bind fun _ r => (parOne r).bind fun e r => qP q u (acc ++ [e]) r := by
  have e1 : ∀ q e r, qP q u (acc ++ [e]) r = parRest q (acc ++ [e]) r := fun q e r => by unfold qP; rw [if_neg (by simp)]
  simp only [e1]
  unfold qP at he ⊢
  rw [if_neg ha] at he ⊢
  unfold parRest must at he ⊢
  cases h4 : isS [44] r with
  | true =>
    rw [h4, if_pos rfl] at he
    cases m with
    | zero => rw [pPL] at he; exact absurd he id
    | succ q =>
      refine ⟨q, by omega, ?_⟩
      show pPL (q + 1) acc r.tail = _
      rw [pPL_got]
      rfl
  | false =>
    refine ⟨0, Nat.zero_le _, ?_⟩
    rw [h]
    rfl
theorem parS_qP {n : Nat} {r : List Tok} : parS n r = qP n () [] r := by
  unfold parS qP
  rw [if_pos rfl]
set_option maxHeartbeats 1600000 in
set_option maxRecDepth 100000 in
theorem dlistP {b g n : Nat}  (hItem : True) {w : World} {r : List Tok} (h : Lv b g r w)  (hn : Ends (parS n r)) :
    Calls Tryz.prog 87 #[.pointer (some ⟨b, 0, none⟩), .string ⟨#[44]⟩, .string ⟨#[41]⟩, .func (Fn.func 88) #[.pointer (some ⟨b, 0, none⟩)] #[]] w (Gets b g w (parS n r) (FrPs w.heap.size)) := by
  obtain ⟨T, hT⟩ : ∃ T, T = parS n r := ⟨_, rfl⟩
  rw [← hT] at hn ⊢
  have HTE := Lib.hid hn
  have HI := Lib.hid hItem
  have HN0 := Lib.hid h.lows
  have hr1 := h.len
  have HH := Lib.hid (Here.refl h)
  have HT0 := Lib.hid hT
  replace HT0 := Lib.hid (hT.trans parS_qP)
  clear h hn hT hItem
  go_enter Tryz.func87, Tryz.ntmps87
  go_wp2
  go_loopw [9] (fun v wr => ∃ (m : Nat) (ps : List (Pa)) (r' : List Tok), m ≤ n ∧ OutK kP w.heap.size wr v ps ∧ Here b g w r' wr ∧ T = qP m () (ps.map (fun p => p)) r' ∧ ps.length + r'.length ≤ r.length) (fun _ wr => restL b wr)
  case atStart => exact ⟨n, [], r, by omega, OutK.nil _ _ _, HH.out, HT0.out, by simp⟩
  case round =>
    obtain ⟨i0, hi0, hz0, hz1, hz2⟩ := info_parts pa_info
    have HI0 := Lib.hid (And.intro hi0 (And.intro hz0 (And.intro hz1 hz2)))
    clear hi0 hz0 hz1 hz2
    obtain ⟨m, ps, r', hmn, hO, hH, hTT, hlen⟩ := hrel
    obtain ⟨A0, cp0, rfl⟩ := hO.form
    have HO := Lib.hid hO
    replace HH := Lib.hid hH
    have HRL := Lib.hid (restL_lv hH.lv)
    have hsw := hH.2.size
    cases hs : isS [41] r' with
    | true =>
      have HV := Lib.hid (show isS (⟨#[41]⟩ : ByteArray).data.toList r' = true from hs)
      have HR := Lib.hid (show T = .ok (ps.map (fun p => p)) r'.tail from hTT.trans (qP_end hs))
      clear hO hH hTT hs
      go_wp2_with (first
        | (go_at_call 60; (with_reducible refine (dtake_yes HH.out.lv _ HV.out).mono ?_); rintro e w1 ⟨rfl, hL, hOF⟩
           replace HO := Lib.hid (HO.out.keep (Keep.of_off hOF HN0.out.1))
           replace HH := Lib.hid (HH.out.step hL hOF)
           clear hL hOF))
      go_ret
      exact Gets.ok HR.out HH.out.lv HH.out.2 (HO.out.params2 (by omega))
    | false =>
      have HV := Lib.hid (show isS (⟨#[41]⟩ : ByteArray).data.toList r' = false from hs)
      have HT1 := Lib.hid (show Ends (qP m () (ps.map (fun p => p)) r') from hTT ▸ HTE.out)
      by_cases hps : ps = []
      · have hlz : ps.length = 0 := by rw [hps]; rfl
        have hl0 : ¬ 0 < ps.length := by omega
        have hm0 : ps.map (fun p => p) = [] := by rw [hps]; rfl
        obtain ⟨q, hq, hT2⟩ := qP_one hs hm0 HT1.out
        have HT := Lib.hid (hTT.trans hT2)
        have HNI := Lib.hid (show Ends (parOne r') from ends_left (hT2 ▸ HT1.out))
        have HLZ := Lib.hid hlz
        clear hO hH hTT hs hT2 hps hlz hm0
        go_wp2_with (first
          | (go_at_call 60; (with_reducible refine (dtake_no HH.out.lv _ HV.out).mono ?_); rintro e w1 ⟨rfl, rfl⟩)
          | (go_at_call 88; (with_reducible refine (dparam_any HH.out.lv).mono ?_); rintro e w3 (⟨a, r3, v, hx, rfl, hL, hOF, hF⟩ | ⟨k, r3, hx, rfl, hOF⟩)
             rotate_left
             exact ⟨rfl, Gets.no (hx.go HT.out) (HH.out.off hOF)⟩
             obtain ⟨k1, k2, rfl⟩ := hF.form
             have HF := Lib.hid hF
             have HFIT := Lib.hid (show RestOf 1 r' r3 by have h1 := parOne_fits HH.out.lv.ends; rw [show parOne r' = .ok a r3 from hx] at h1; exact h1)
             replace HT := Lib.hid (show T = qP q () (ps.map (fun p => p) ++ [a]) r3 from HT.out.trans (by rw [show parOne r' = .ok a r3 from hx]; rfl))
             have HO2 := Lib.hid (HO.out.keep (Keep.of_off hOF HN0.out.1))
             have HLT := Lib.hid HO.out.own
             have HSZ := Lib.hid HH.out.2.size
             replace HH := Lib.hid (HH.out.step hL hOF)
             have HPRE := Lib.hid (HO2.out.pre [.string k1, .int .i64 k2] (by have := HH.out.2.size; omega))
             clear hx hL hOF hF)
          | (at_builtin; refine list_append_at rfl (.tmp 24) (.tmp 27) _ rfl w.heap.size 59 i0 _ 2 24 Tryz.underlying43 HI0.out.1 HI0.out.2.1 HI0.out.2.2.1 HI0.out.2.2.2 rfl (by omega) (.slice A0 ps.length cp0) ps.length _ rfl (by exact HPRE.out.1) ⟨w3.heap.size, 0, none⟩ 1 1 [.string k1, .int .i64 k2] rfl rfl (by exact HPRE.out.2.1) (by simp [Value.oneCell']) (by simp only [maxLen]; omega) (by omega) (by exact HPRE.out.2.2) (by omega) ?_
             intro v1 w5 hown1 hg1 hr1
             have HO5 := Lib.hid (HO2.out.app (kP_of HF.out).2 HSZ.out (fun k hk => (HLT.out k hk).1) ((Below.refl _ _).alloc (Nat.le_refl _) _) hg1 hr1 (by rw [(kP_of HF.out).1]; exact hown1))
             have HH5 := Lib.hid (HH.out.grown HN0.out hg1 fun k hk => (HO2.out.own k hk).2)
             clear hown1 hg1 hr1))
        have HRL2 := Lib.hid (restL_lv HH5.out.lv)
        go_roundw
        case rel => exact ⟨q, ps ++ [a], r3, by omega, HO5.out, HH5.out, by rw [HT.out, List.map_append]; rfl, by have h1 := HFIT.out.2.2; rw [List.length_append]; simp; omega⟩
        case measure =>
          rw [HRL2.out, HRL.out]
          have h1 := HFIT.out.2.2
          omega
      · have hl0 : 0 < ps.length := List.length_pos_iff.2 hps
        have hm0 : ps.map (fun p => p) ≠ [] := by simpa using hps
        obtain ⟨q, hq, hT2⟩ := qP_more hs hm0 HT1.out
        have HT := Lib.hid (hTT.trans hT2)
        clear hO hH hTT hs hT2 hps hm0
        go_wp2_with (first
          | (go_at_call 60; (with_reducible refine (dtake_no HH.out.lv _ HV.out).mono ?_); rintro e w1 ⟨rfl, rfl⟩)
          | (go_at_call 83; (with_reducible refine (dwant_any HH.out.lv ⟨#[44]⟩).mono ?_); rintro e w2 (⟨u, r2, v, hx, rfl, hL, hOF, rfl⟩ | ⟨k, r2, hx, rfl, hOF⟩)
             rotate_left
             exact ⟨rfl, Gets.no (hx.go HT.out) (HH.out.off hOF)⟩
             have HR2 := Lib.hid (must_rest HH.out.lv.ends (show must [44] r' = .ok u r2 from hx))
             replace HT := Lib.hid (show T = (parOne r2).bind fun e r => qP q () (ps.map (fun p => p) ++ [e]) r from HT.out.trans (by rw [show must [44] r' = .ok u r2 from hx]; rfl))
             have HNI := Lib.hid (show Ends (parOne r2) from ends_left (HT.out ▸ HTE.out))
             replace HO := Lib.hid (HO.out.keep (Keep.of_off hOF HN0.out.1))
             have hsw2 := hOF.size
             replace HH := Lib.hid (HH.out.step hL hOF)
             clear hx hL hOF)
          | (go_at_call 88; (with_reducible refine (dparam_any HH.out.lv).mono ?_); rintro e w3 (⟨a, r3, v, hx, rfl, hL, hOF, hF⟩ | ⟨k, r3, hx, rfl, hOF⟩)
             rotate_left
             exact ⟨rfl, Gets.no (hx.go HT.out) (HH.out.off hOF)⟩
             obtain ⟨k1, k2, rfl⟩ := hF.form
             have HF := Lib.hid hF
             have HFIT := Lib.hid (show RestOf 1 r2 r3 by have h1 := parOne_fits HR2.out.2.1; rw [show parOne r2 = .ok a r3 from hx] at h1; exact h1)
             replace HT := Lib.hid (show T = qP q () (ps.map (fun p => p) ++ [a]) r3 from HT.out.trans (by rw [show parOne r2 = .ok a r3 from hx]; rfl))
             have HO2 := Lib.hid (HO.out.keep (Keep.of_off hOF HN0.out.1))
             have HLT := Lib.hid HO.out.own
             have HSZ := Lib.hid HH.out.2.size
             replace HH := Lib.hid (HH.out.step hL hOF)
             have HPRE := Lib.hid (HO2.out.pre [.string k1, .int .i64 k2] (by have := HH.out.2.size; omega))
             clear hx hL hOF hF)
          | (at_builtin; refine list_append_at rfl (.tmp 24) (.tmp 27) _ rfl w.heap.size 59 i0 _ 2 24 Tryz.underlying43 HI0.out.1 HI0.out.2.1 HI0.out.2.2.1 HI0.out.2.2.2 rfl (by omega) (.slice A0 ps.length cp0) ps.length _ rfl (by exact HPRE.out.1) ⟨w3.heap.size, 0, none⟩ 1 1 [.string k1, .int .i64 k2] rfl rfl (by exact HPRE.out.2.1) (by simp [Value.oneCell']) (by simp only [maxLen]; omega) (by omega) (by exact HPRE.out.2.2) (by omega) ?_
             intro v1 w5 hown1 hg1 hr1
             have HO5 := Lib.hid (HO2.out.app (kP_of HF.out).2 HSZ.out (fun k hk => (HLT.out k hk).1) ((Below.refl _ _).alloc (Nat.le_refl _) _) hg1 hr1 (by rw [(kP_of HF.out).1]; exact hown1))
             have HH5 := Lib.hid (HH.out.grown HN0.out hg1 fun k hk => (HO2.out.own k hk).2)
             clear hown1 hg1 hr1))
        have HRL2 := Lib.hid (restL_lv HH5.out.lv)
        go_roundw
        case rel => exact ⟨q, ps ++ [a], r3, by omega, HO5.out, HH5.out, by rw [HT.out, List.map_append]; rfl, by have h1 := HFIT.out.2.2; have h2 := HR2.out.2.2; rw [List.length_append]; simp; omega⟩
        case measure =>
          rw [HRL2.out, HRL.out]
          have h1 := HFIT.out.2.2
          have h2 := HR2.out.2.2
          omega
theorem pFn_is {n : Nat} {t : Int} {s : ByteArray} {r : List Tok} : pFn n t s r = (must [40] r).bind fun _ r => (parS n r).bind fun ps r => (pB n 1 r).bind fun bd r => .ok ⟨s, t, ps, bd⟩ r := by
  unfold pFn pPs
  rw [bind_assoc]
  rfl
set_option maxRecDepth 100000 in
theorem dfn_any {b g n : Nat} {t : Int} {s : ByteArray} {w : World} {r : List Tok} (h : Lv b g r w) (hn : Ends (pFn n t s r)) :
    Calls Tryz.prog 62 #[.pointer (some ⟨b, 0, none⟩), .int .i64 t, .string s] w (Gets b g w (pFn n t s r) (FrF w.heap.size)) := by
  obtain ⟨T, hT⟩ : ∃ T, T = pFn n t s r := ⟨_, rfl⟩
  rw [← hT] at hn ⊢
  have hmf : ∀ (fn : Fn) (first cap : Array Value) (w : World), (Instr.makeFunc fn first cap).run Tryz.prog w = .ok (.func fn first cap) w := fun _ _ _ _ => rfl
  have HC := Lib.hid (At.start h fnBox)
  have HTE := Lib.hid hn
  have hbL : b < (w.alloc fnBox).heap.size := by rw [alloc_size]; have := h.lt; omega
  have hzL : (w.alloc fnBox).heap.size = w.heap.size + 1 := alloc_size _ _
  have HT := Lib.hid (show T = (must [40] r).bind fun _ r => (parS n r).bind fun ps r => (pB n 1 r).bind fun bd r => .ok ⟨s, t, ps, bd⟩ r from hT.trans pFn_is)
  have HBK := Lib.hid (dk_all (b := b) (g := g) (n := n) (d := 1) (by decide) (by decide))
  clear h hn hT
  go_enter Tryz.func62, Tryz.ntmps62
  go_wp2_with (first
    | (go_at_call 83; (with_reducible refine (dwant_any HC.out.lv ⟨#[40]⟩).mono ?_); rintro e w1 (⟨u, r1, v, hx, rfl, hL, hO, rfl⟩ | ⟨k, r1, hx, rfl, hO⟩)
       rotate_left
       exact ⟨rfl, Gets.no (hx.go HT.out) (HC.out.off hO)⟩
       replace HT := Lib.hid (show T = (parS n r1).bind fun ps r => (pB n 1 r).bind fun bd r => .ok ⟨s, t, ps, bd⟩ r from HT.out.trans (by rw [show must [40] r = .ok u r1 from hx]; rfl))
       replace HC := Lib.hid (HC.out.step hL hO)
       have HN := Lib.hid (show Ends (parS n r1) from ends_left (HT.out ▸ HTE.out))
       have hz1 := HC.out.size
       obtain ⟨⟨c0, c1, c2, c3⟩, fz⟩ := four_cells HC.out.row
       clear hx hL hO)
    | (go_at_call 87; (with_reducible refine (dlistP trivial HC.out.lv HN.out).mono ?_); rintro e w2 (⟨ps, r2, v, hx, rfl, hL, hO, hF⟩ | ⟨k, r2, hx, rfl, hO⟩)
       rotate_left
       exact ⟨rfl, Gets.no (hx.go HT.out) (HC.out.off hO)⟩
       obtain ⟨A2, q2, rfl⟩ := hF.form
       have HF := Lib.hid (hF.keep (Keep.refl _ _) (show w.heap.size + 1 ≤ _ by omega))
       replace HT := Lib.hid (show T = (pB n 1 r2).bind fun bd r => .ok ⟨s, t, ps, bd⟩ r from HT.out.trans (by rw [show parS n r1 = .ok ps r2 from hx]; rfl))
       replace HN := Lib.hid (show Ends (pB n 1 r2) from ends_left (HT.out ▸ HTE.out))
       replace HC := Lib.hid (HC.out.step hL hO)
       have hz2 := HC.out.size
       obtain ⟨⟨c0, c1, c2, c3⟩, fz⟩ := four_cells HC.out.row
       clear hx hL hO hF)
    | (go_at_call 89; (with_reducible refine (HBK.out.call HC.out.lv HN.out).mono ?_); rintro e w3 (⟨bd, r3, v, hx, rfl, hL, hO, hF⟩ | ⟨k, r3, hx, rfl, hO⟩)
       rotate_left
       exact ⟨rfl, Gets.no (hx.go HT.out) (HC.out.off hO)⟩
       obtain ⟨A3, q3, rfl, _⟩ := hF.form
       replace HF := Lib.hid (HF.out.keep (Keep.of_off hO (hzL ▸ hbL)) (Nat.le_refl _))
       have HG := Lib.hid (hF.keep (Keep.refl _ _) (show w.heap.size + 1 ≤ _ by omega))
       replace HT := Lib.hid (show T = .ok ⟨s, t, ps, bd⟩ r3 from HT.out.trans (by rw [show pB n 1 r2 = .ok bd r3 from hx]; rfl))
       replace HC := Lib.hid (HC.out.step hL hO)
       obtain ⟨⟨c0, c1, c2, c3⟩, fz⟩ := four_cells HC.out.row
       clear hx hL hO hF))
  obtain ⟨⟨f0, f1, f2, f3⟩, _⟩ := four_cells (nest4_row HC.out.row (.string s) (.int .i64 t) (.slice A2 ps.length q2) (.slice A3 bd.length q3))
  refine bodyPost_ret (v := .agg #[.string s, .int .i64 t, .slice A2 ps.length q2, .slice A3 bd.length q3]) (by simp [results, Tryz.results62, go_sem, f0, f1, f2, f3]) rfl ?_
  exact HC.out.fing HT.out (nest4_below (Nat.le_refl _) (Below.refl _ _) _ _ _ _) ⟨_, _, rfl, HF.out.keep (Keep.nest4 (Nat.lt_succ_self _) _ _ _ _) (Nat.le_succ _), HG.out.keep (Keep.nest4 (Nat.lt_succ_self _) _ _ _ _) (Nat.le_succ _)⟩
theorem pArr_is {s : ByteArray} {r : List Tok} : pArr s r = (pNu r).bind fun v r => (must [93] r).bind fun _ r => (must [59] r).bind fun _ r => .ok ⟨s, v⟩ r := by
  unfold pArr pNu
  rw [bind_assoc]
  rfl
set_option maxRecDepth 100000 in
theorem darr_any {b g : Nat} {s : ByteArray} {w : World} {r : List Tok} (h : Lv b g r w) :
    Calls Tryz.prog 61 #[.pointer (some ⟨b, 0, none⟩), .string s] w (Gets b g w (pArr s r) (FrAr w.heap.size)) := by
  obtain ⟨T, hT⟩ : ∃ T, T = pArr s r := ⟨_, rfl⟩
  rw [← hT]
  have HC := Lib.hid (At.start h arBox)
  have HT := Lib.hid (show T = (pNu r).bind fun v r => (must [93] r).bind fun _ r => (must [59] r).bind fun _ r => .ok ⟨s, v⟩ r from hT.trans pArr_is)
  clear h hT
  go_enter Tryz.func61, Tryz.ntmps61
  go_wp2_with (first
    | (go_at_call 86; (with_reducible refine (dnumber_any HC.out.lv).mono ?_); rintro e w1 (⟨a, r1, v, hx, rfl, hL, hO, rfl⟩ | ⟨k, r1, hx, rfl, hO⟩)
       rotate_left
       exact ⟨rfl, Gets.no (hx.go HT.out) (HC.out.off hO)⟩
       replace HT := Lib.hid (show T = (must [93] r1).bind fun _ r => (must [59] r).bind fun _ r => .ok ⟨s, a⟩ r from HT.out.trans (by rw [show pNu r = .ok a r1 from hx]; rfl))
       replace HC := Lib.hid (HC.out.step hL hO)
       obtain ⟨⟨c0, c1⟩, fz⟩ := two_cells HC.out.row
       clear hx hL hO)
    | (go_at_call 83; (with_reducible refine (dwant_any HC.out.lv ⟨#[93]⟩).mono ?_); rintro e w2 (⟨u, r2, v, hx, rfl, hL, hO, rfl⟩ | ⟨k, r2, hx, rfl, hO⟩)
       rotate_left
       exact ⟨rfl, Gets.no (hx.go HT.out) (HC.out.off hO)⟩
       replace HT := Lib.hid (show T = (must [59] r2).bind fun _ r => .ok ⟨s, a⟩ r from HT.out.trans (by rw [show must [93] r1 = .ok u r2 from hx]; rfl))
       replace HC := Lib.hid (HC.out.step hL hO)
       obtain ⟨⟨c0, c1⟩, fz⟩ := two_cells HC.out.row
       clear hx hL hO)
    | (go_at_call 83; (with_reducible refine (dwant_any HC.out.lv ⟨#[59]⟩).mono ?_); rintro e w3 (⟨u, r3, v, hx, rfl, hL, hO, rfl⟩ | ⟨k, r3, hx, rfl, hO⟩)
       rotate_left
       exact ⟨rfl, Gets.no (hx.go HT.out) (HC.out.off hO)⟩
       replace HT := Lib.hid (show T = .ok ⟨s, a⟩ r3 from HT.out.trans (by rw [show must [59] r2 = .ok u r3 from hx]; rfl))
       replace HC := Lib.hid (HC.out.step hL hO)
       obtain ⟨⟨c0, c1⟩, fz⟩ := two_cells HC.out.row
       clear hx hL hO))
  obtain ⟨⟨f0, f1⟩, _⟩ := two_cells (nest2_row HC.out.row (.string s) (.int .i64 a))
  refine bodyPost_ret (v := .agg #[.string s, .int .i64 a]) (by simp [results, Tryz.results61, go_sem, f0, f1]) rfl ?_
  exact HC.out.fing HT.out (nest2_below (Nat.le_refl _) (Below.refl _ _) _ _) rfl
end Go.Proofs.YtakijoblbmfadaaGreatDoor
