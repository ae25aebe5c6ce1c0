import Derived.Test.YtakijoblbmfadaaGreatDoorAgPrsEz
set_option linter.unusedSimpArgs false
set_option linter.unusedVariables false
/- The developers' parser: statements without blocks. (By tools/gen_prsnm.py.) -/
namespace Go.Proofs.YtakijoblbmfadaaGreatDoor
open Go.RowKit
theorem nest6_below {B g : Nat} (hB : B ≤ g) {a w : World} (h : Below B a w) (c0 c1 c2 c3 c4 c5 : Value) : Below B a (nest6 w g c0 c1 c2 c3 c4 c5) :=
  (((((h.setCell (p := ⟨g, 0, none⟩) hB c0).setCell (p := ⟨g, 1, none⟩) hB c1).setCell (p := ⟨g, 2, none⟩) hB c2).setCell (p := ⟨g, 3, none⟩) hB c3).setCell (p := ⟨g, 4, none⟩) hB c4).setCell (p := ⟨g, 5, none⟩) hB c5
theorem _root_.Go.RowKit.Below.more {B : Nat} {a w : World} (h : Below B a w) (hB : B ≤ a.heap.size) (o : Obj) : Below B a (w.alloc o) := h.alloc (Nat.le_trans hB h.size) o
section
variable {b g : Nat} {w W : World} {r : List Tok}
theorem At.six (h : At b g w stBox r W) : (W.cell? ⟨w.heap.size, 0, none⟩ = some (.int .i64 0) ∧ W.cell? ⟨w.heap.size, 1, none⟩ = some (.int .i64 0) ∧ W.cell? ⟨w.heap.size, 2, none⟩ = some (.string ⟨#[]⟩) ∧
    W.cell? ⟨w.heap.size, 3, none⟩ = some (.slice none 0 0) ∧ W.cell? ⟨w.heap.size, 4, none⟩ = some (.slice none 0 0) ∧ W.cell? ⟨w.heap.size, 5, none⟩ = some (.slice none 0 0)) ∧ ∀ o, W.frozen? ⟨w.heap.size, o, none⟩ = false := six_cells h.row
/-- It ends: the call's own blocks alone have turned. -/
theorem At.fing {Y : Obj} (h : At b g w Y r W) {α : Type} {T : PR α} {F : World → α → Value → Prop} {a : α} {v : Value} {X : World} (hT : T = .ok a r) (hX : Below w.heap.size W X) (hF : F X a v) : Gets b g w T F (.returned v) X := by
  obtain ⟨h1, h2⟩ := h.own (OffB.of_below hX h.lv.lt) (hX.block b h.lt)
  exact .ok hT h1 h2 hF
end
theorem FrE.nest6 {L g : Nat} {w : World} {a : Ex} {v : Value} (h : FrE (g + 1) w a v) (hL : L ≤ g) (c0 c1 c2 c3 c4 c5 : Value) : FrE L (nest6 w g c0 c1 c2 c3 c4 c5) a v := h.keep (Keep.nest6 (Nat.lt_succ_self g) _ _ _ _ _ _) (by omega)
theorem frS_args {L : Nat} {w : World} {k t : Int} {s : ByteArray} {es : List Ex} {v : Value} (h : FrEs L w es v) : FrS L w (.mk k t s es [] []) (.agg #[.int .i64 k, .int .i64 t, .string s, v, .slice none 0 0, .slice none 0 0]) := ⟨_, _, _, rfl, h, frSs_nil _ _, frSs_nil _ _⟩
def DN (b g : Nat) (n : Nat) : Prop := ∀ (w : World) (r : List Tok), Lv b g r w → Ends (pNm n r) → Calls Tryz.prog 136 #[.pointer (some ⟨b, 0, none⟩)] w (Gets b g w (pNm n r) (FrS w.heap.size))
theorem DN.call {b g : Nat} {n : Nat} (h : DN b g n) {w : World} {r : List Tok} (hs : Lv b g r w) (he : Ends (pNm n r)) : Calls Tryz.prog 136 #[.pointer (some ⟨b, 0, none⟩)] w (Gets b g w (pNm n r) (FrS w.heap.size)) := h w r hs he
theorem pNm_name {n : Nat} {r : List Tok} {s : ByteArray} (hk : hdK r = 1) (hs : s = ⟨(hdT r).toArray⟩) : pNm n r = if isS [40] r.tail = true then (pA n 2 r.tail.tail).bind fun es r => .ok (.mk 10 0 bE [.mk 7 0 0 s es] [] []) r
    else if isS [91] r.tail = true then (pE n 1 1 r.tail.tail).bind fun e r => (must [93] r).bind fun _ r => (must [61] r).bind fun _ r => (pE n 1 1 r).bind fun f r => .ok (.mk 3 0 s [e, f] [] []) r
    else (must [61] r.tail).bind fun _ r => (pE n 1 1 r).bind fun e r => .ok (.mk 2 0 s [e] [] []) r := by unfold pNm want; rw [if_pos hk, ← hs]; rfl
set_option maxRecDepth 100000 in
theorem dnamed_call {b g n : Nat} {w : World} {r : List Tok} (h : Lv b g r w) (hk : hdK r = 1) (h7 : isS [40] r.tail = true) (hn : Ends (pNm n r)) :
    Calls Tryz.prog 136 #[.pointer (some ⟨b, 0, none⟩)] w (Gets b g w (pNm n r) (FrS w.heap.size)) := by
  obtain ⟨s, hs⟩ : ∃ s : ByteArray, s = ⟨(hdT r).toArray⟩ := ⟨_, rfl⟩
  obtain ⟨T, hT⟩ : ∃ T, T = pNm n r := ⟨_, rfl⟩
  rw [← hT] at hn ⊢
  have HC := Lib.hid (At.start h stBox)
  have HTE := Lib.hid hn
  have HK := Lib.hid hk
  have HS := Lib.hid hs
  have hbL : b < (w.alloc stBox).heap.size := by rw [alloc_size]; have := h.lt; omega
  have hzL : (w.alloc stBox).heap.size = w.heap.size + 1 := alloc_size _ _
  have hT0 := hT.trans ((pNm_name hk hs).trans (by rw [if_pos h7]))
  have B1 := Lib.hid (show isS (⟨#[40]⟩ : ByteArray).data.toList r.tail = true from h7)
  have HN := Lib.hid (show Ends (pA n 2 r.tail.tail) from ends_left (hT0 ▸ hn))
  have HA := Lib.hid (da_all (b := b) (g := g) (n := n) (d := 2) (by decide) (by decide))
  have HT := Lib.hid (show T = (pA n 2 r.tail.tail).bind fun es r => .ok (.mk 10 0 bE [.mk 7 0 0 s es] [] []) r from hT0)
  clear h hk hn hs hT hT0 h7
  go_enter Tryz.func136, Tryz.ntmps136
  go_wp2_with (first
    | (go_at_call 59; (with_reducible refine (dtext_yes HC.out.lv 1 (by decide) HK.out s HS.out).mono ?_); rintro e w1 ⟨rfl, hL, hO⟩
       replace HC := Lib.hid (HC.out.step hL hO)
       obtain ⟨⟨c0, c1, c2, c3, c4, c5⟩, fz⟩ := HC.out.six
       clear hL hO)
    | (go_at_call 60; (with_reducible refine (dtake_yes HC.out.lv _ B1.out).mono ?_); rintro e w2 ⟨rfl, hL, hO⟩
       replace HC := Lib.hid (HC.out.step hL hO)
       obtain ⟨⟨c0, c1, c2, c3, c4, c5⟩, fz⟩ := HC.out.six
       clear hL hO)
    | (go_at_call 145; (with_reducible refine (HA.out.call HC.out.lv HN.out).mono ?_); rintro e w3 (⟨a, r3, v, hx, rfl, hL, hO, hF⟩ | ⟨k, r3, hx, rfl, hO⟩)
       rotate_left
       exact ⟨rfl, Gets.no (hx.go HT.out) (HC.out.off hO)⟩
       obtain ⟨k5, k7, rfl, _⟩ := hF.form
       have hz2 := HC.out.size
       have HF := Lib.hid hF
       replace HT := Lib.hid (show T = .ok (.mk 10 0 bE [.mk 7 0 0 s a] [] []) r3 from HT.out.trans (by rw [show pA n 2 r.tail.tail = .ok a r3 from hx]; rfl))
       replace HC := Lib.hid (HC.out.step hL hO)
       have hz3 := HC.out.size
       obtain ⟨⟨c0, c1, c2, c3, c4, c5⟩, fz⟩ := HC.out.six
       clear hx hL hO hF))
  obtain ⟨⟨f0, f1, f2, f3, f4, f5⟩, _⟩ := six_cells (own_more (own_more (nest6_row HC.out.row (.int .i64 10) (.int .i64 0) (.string ⟨#[]⟩) (.slice (some ⟨w3.heap.size + 1, 0, none⟩) 1 1) (.slice none 0 0) (.slice none 0 0)) (.cells #[.int .i64 7, .int .i64 0, .int .i64 0, .string s, .slice k5 a.length k7] 84)) (.cells #[.int .i64 7, .int .i64 0, .int .i64 0, .string s, .slice k5 a.length k7] 84))
  refine bodyPost_ret (v := .agg #[.int .i64 10, .int .i64 0, .string ⟨#[]⟩, .slice (some ⟨w3.heap.size + 1, 0, none⟩) 1 1, .slice none 0 0, .slice none 0 0]) (by simp [results, Tryz.results136, go_sem, f0, f1, f2, f3, f4, f5]) rfl ?_
  exact HC.out.fing HT.out (((nest6_below (Nat.le_refl _) (Below.refl _ _) _ _ _ _ _ _).more (Nat.le_of_lt HC.out.size) (.cells #[.int .i64 7, .int .i64 0, .int .i64 0, .string s, .slice k5 a.length k7] 84)).more (Nat.le_of_lt HC.out.size) (.cells #[.int .i64 7, .int .i64 0, .int .i64 0, .string s, .slice k5 a.length k7] 84)) (frS_args (frEs_one_leaf ((HF.out.keep (Keep.nest6 hz2 _ _ _ _ _ _) (Nat.le_of_lt hz2)).keep (Keep.of_below ((Below.refl _ _).more (by rw [nest6_size]; omega) _)) (Nat.le_refl _)) r64 (by rw [alloc_size, nest6_size]; omega) (by rw [alloc_size, nest6_size])))
set_option maxRecDepth 100000 in
theorem dnamed_set {b g n : Nat} {w : World} {r : List Tok} (h : Lv b g r w) (hk : hdK r = 1) (h7 : isS [40] r.tail = false) (h8 : isS [91] r.tail = false) (hn : Ends (pNm n r)) :
    Calls Tryz.prog 136 #[.pointer (some ⟨b, 0, none⟩)] w (Gets b g w (pNm n r) (FrS w.heap.size)) := by
  obtain ⟨s, hs⟩ : ∃ s : ByteArray, s = ⟨(hdT r).toArray⟩ := ⟨_, rfl⟩
  obtain ⟨T, hT⟩ : ∃ T, T = pNm n r := ⟨_, rfl⟩
  rw [← hT] at hn ⊢
  have HC := Lib.hid (At.start h stBox)
  have HTE := Lib.hid hn
  have HK := Lib.hid hk
  have HS := Lib.hid hs
  have hbL : b < (w.alloc stBox).heap.size := by rw [alloc_size]; have := h.lt; omega
  have hzL : (w.alloc stBox).heap.size = w.heap.size + 1 := alloc_size _ _
  have hT0 := hT.trans ((pNm_name hk hs).trans (by rw [if_neg (by rw [h7]; decide), if_neg (by rw [h8]; decide)]))
  have B1 := Lib.hid (show isS (⟨#[40]⟩ : ByteArray).data.toList r.tail = false from h7)
  have B2 := Lib.hid (show isS (⟨#[91]⟩ : ByteArray).data.toList r.tail = false from h8)
  have HX := Lib.hid (dx_all (b := b) (g := g) (n := n) (d := 1) (by decide) (by decide))
  have HT := Lib.hid (show T = (must [61] r.tail).bind fun _ r => (pE n 1 1 r).bind fun e r => .ok (.mk 2 0 s [e] [] []) r from hT0)
  clear h hk hn hs hT hT0 h7 h8
  go_enter Tryz.func136, Tryz.ntmps136
  go_wp2_with (first
    | (go_at_call 59; (with_reducible refine (dtext_yes HC.out.lv 1 (by decide) HK.out s HS.out).mono ?_); rintro e w1 ⟨rfl, hL, hO⟩
       replace HC := Lib.hid (HC.out.step hL hO)
       obtain ⟨⟨c0, c1, c2, c3, c4, c5⟩, fz⟩ := HC.out.six
       clear hL hO)
    | (go_at_call 60; (with_reducible refine (dtake_no HC.out.lv _ B1.out).mono ?_); rintro e w91 ⟨rfl, rfl⟩)
    | (go_at_call 60; (with_reducible refine (dtake_no HC.out.lv _ B2.out).mono ?_); rintro e w92 ⟨rfl, rfl⟩)
    | (go_at_call 83; (with_reducible refine (dwant_any HC.out.lv ⟨#[61]⟩).mono ?_); rintro e w2 (⟨u, r2, v, hx, rfl, hL, hO, rfl⟩ | ⟨k, r2, hx, rfl, hO⟩)
       rotate_left
       exact ⟨rfl, Gets.no (hx.go HT.out) (HC.out.off hO)⟩
       replace HT := Lib.hid (show T = (pE n 1 1 r2).bind fun e r => .ok (.mk 2 0 s [e] [] []) r from HT.out.trans (by rw [show must [61] r.tail = .ok u r2 from hx]; rfl))
       replace HC := Lib.hid (HC.out.step hL hO)
       have HN := Lib.hid (show Ends (pE n 1 1 r2) from ends_left (HT.out ▸ HTE.out))
       obtain ⟨⟨c0, c1, c2, c3, c4, c5⟩, fz⟩ := HC.out.six
       clear hx hL hO)
    | (go_at_call 135; (with_reducible refine (HX.out.call HC.out.lv HN.out).mono ?_); rintro e w3 (⟨a, r3, v, hx, rfl, hL, hO, hF⟩ | ⟨k, r3, hx, rfl, hO⟩)
       rotate_left
       exact ⟨rfl, Gets.no (hx.go HT.out) (HC.out.off hO)⟩
       obtain ⟨k1, k2, k3, k4, k5, k6, k7, rfl⟩ := hF.form
       have hzc := HC.out.size
       have HF := Lib.hid (hF.keep (Keep.refl _ _) (show w.heap.size + 1 ≤ _ by omega))
       replace HT := Lib.hid (show T = .ok (.mk 2 0 s [a] [] []) r3 from HT.out.trans (by rw [show pE n 1 1 r2 = .ok a r3 from hx]; rfl))
       replace HC := Lib.hid (HC.out.step hL hO)
       have hzd := HC.out.size
       obtain ⟨⟨c0, c1, c2, c3, c4, c5⟩, fz⟩ := HC.out.six
       clear hx hL hO hF))
  obtain ⟨⟨f0, f1, f2, f3, f4, f5⟩, _⟩ := six_cells (own_more (nest6_row HC.out.row (.int .i64 2) (.int .i64 0) (.string s) (.slice (some ⟨w3.heap.size, 0, none⟩) 1 1) (.slice none 0 0) (.slice none 0 0)) (.cells #[.int .i64 k1, .int .i64 k2, .int .i64 k3, .string k4, .slice k5 k6 k7] 84))
  refine bodyPost_ret (v := .agg #[.int .i64 2, .int .i64 0, .string s, .slice (some ⟨w3.heap.size, 0, none⟩) 1 1, .slice none 0 0, .slice none 0 0]) (by simp [results, Tryz.results136, go_sem, f0, f1, f2, f3, f4, f5]) rfl ?_
  exact HC.out.fing HT.out ((nest6_below (Nat.le_refl _) (Below.refl _ _) _ _ _ _ _ _).more (Nat.le_of_lt HC.out.size) (.cells #[.int .i64 k1, .int .i64 k2, .int .i64 k3, .string k4, .slice k5 k6 k7] 84)) (frS_args (fr_one (HF.out.nest6 (Nat.le_refl _) _ _ _ _ _ _) (Nat.le_refl _) (by rw [nest6_size]; omega) (by rw [nest6_size])))
set_option maxRecDepth 100000 in
theorem dnamed_put {b g n : Nat} {w : World} {r : List Tok} (h : Lv b g r w) (hk : hdK r = 1) (h7 : isS [40] r.tail = false) (h8 : isS [91] r.tail = true) (hn : Ends (pNm n r)) :
    Calls Tryz.prog 136 #[.pointer (some ⟨b, 0, none⟩)] w (Gets b g w (pNm n r) (FrS w.heap.size)) := by
  obtain ⟨s, hs⟩ : ∃ s : ByteArray, s = ⟨(hdT r).toArray⟩ := ⟨_, rfl⟩
  obtain ⟨T, hT⟩ : ∃ T, T = pNm n r := ⟨_, rfl⟩
  rw [← hT] at hn ⊢
  have HC := Lib.hid (At.start h stBox)
  have HTE := Lib.hid hn
  have HK := Lib.hid hk
  have HS := Lib.hid hs
  have hbL : b < (w.alloc stBox).heap.size := by rw [alloc_size]; have := h.lt; omega
  have hzL : (w.alloc stBox).heap.size = w.heap.size + 1 := alloc_size _ _
  have hT0 := hT.trans ((pNm_name hk hs).trans (by rw [if_neg (by rw [h7]; decide), if_pos h8]))
  have B1 := Lib.hid (show isS (⟨#[40]⟩ : ByteArray).data.toList r.tail = false from h7)
  have B2 := Lib.hid (show isS (⟨#[91]⟩ : ByteArray).data.toList r.tail = true from h8)
  have HX := Lib.hid (dx_all (b := b) (g := g) (n := n) (d := 1) (by decide) (by decide))
  have HN := Lib.hid (show Ends (pE n 1 1 r.tail.tail) from ends_left (hT0 ▸ hn))
  have HT := Lib.hid (show T = (pE n 1 1 r.tail.tail).bind fun e r => (must [93] r).bind fun _ r => (must [61] r).bind fun _ r => (pE n 1 1 r).bind fun f r => .ok (.mk 3 0 s [e, f] [] []) r from hT0)
  clear h hk hn hs hT hT0 h7 h8
  go_enter Tryz.func136, Tryz.ntmps136
  go_wp2_with (first
    | (go_at_call 59; (with_reducible refine (dtext_yes HC.out.lv 1 (by decide) HK.out s HS.out).mono ?_); rintro e w1 ⟨rfl, hL, hO⟩
       replace HC := Lib.hid (HC.out.step hL hO)
       obtain ⟨⟨c0, c1, c2, c3, c4, c5⟩, fz⟩ := HC.out.six
       clear hL hO)
    | (go_at_call 60; (with_reducible refine (dtake_no HC.out.lv _ B1.out).mono ?_); rintro e w91 ⟨rfl, rfl⟩)
    | (go_at_call 60; (with_reducible refine (dtake_yes HC.out.lv _ B2.out).mono ?_); rintro e w2 ⟨rfl, hL, hO⟩
       replace HC := Lib.hid (HC.out.step hL hO)
       obtain ⟨⟨c0, c1, c2, c3, c4, c5⟩, fz⟩ := HC.out.six
       clear hL hO)
    | (go_at_call 135; (with_reducible refine (HX.out.call HC.out.lv HN.out).mono ?_); rintro e w3 (⟨a, r3, v, hx, rfl, hL, hO, hF⟩ | ⟨k, r3, hx, rfl, hO⟩)
       rotate_left
       exact ⟨rfl, Gets.no (hx.go HT.out) (HC.out.off hO)⟩
       obtain ⟨k1, k2, k3, k4, k5, k6, k7, rfl⟩ := hF.form
       have hzc := HC.out.size
       have HF := Lib.hid (hF.keep (Keep.refl _ _) (show w.heap.size + 1 ≤ _ by omega))
       replace HT := Lib.hid (show T = (must [93] r3).bind fun _ r => (must [61] r).bind fun _ r => (pE n 1 1 r).bind fun f r => .ok (.mk 3 0 s [a, f] [] []) r from HT.out.trans (by rw [show pE n 1 1 r.tail.tail = .ok a r3 from hx]; rfl))
       replace HC := Lib.hid (HC.out.step hL hO)
       have hzd := HC.out.size
       have hne3 : w3.heap.size ≠ b := by have := hL.lt; omega
       obtain ⟨⟨c0, c1, c2, c3, c4, c5⟩, fz⟩ := HC.out.six
       clear hx hL hO hF)
    | (go_at_call 83; (with_reducible refine (dwant_any (HC.out.alloc (.cells #[.int .i64 k1, .int .i64 k2, .int .i64 k3, .string k4, .slice k5 k6 k7] 84)).lv ⟨#[93]⟩).mono ?_); rintro e w4 (⟨u, r4, v, hx, rfl, hL, hO, rfl⟩ | ⟨k, r4, hx, rfl, hO⟩)
       rotate_left
       exact ⟨rfl, Gets.no (hx.go HT.out) ((HC.out.alloc (.cells #[.int .i64 k1, .int .i64 k2, .int .i64 k3, .string k4, .slice k5 k6 k7] 84)).off hO)⟩
       replace HT := Lib.hid (show T = (must [61] r4).bind fun _ r => (pE n 1 1 r).bind fun f r => .ok (.mk 3 0 s [a, f] [] []) r from HT.out.trans (by rw [show must [93] r3 = .ok u r4 from hx]; rfl))
       replace HC := Lib.hid ((HC.out.alloc (.cells #[.int .i64 k1, .int .i64 k2, .int .i64 k3, .string k4, .slice k5 k6 k7] 84)).step hL hO)
       replace HF := Lib.hid ((HF.out.keep (Keep.of_below ((Below.refl _ _).more (by have := HC.out.size; omega) (.cells #[.int .i64 k1, .int .i64 k2, .int .i64 k3, .string k4, .slice k5 k6 k7] 84))) (Nat.le_refl _)).keep (Keep.of_off hO (hzL ▸ hbL)) (Nat.le_refl _))
       have hr4 := own_next hO (k := w3.heap.size) (by simp) hne3 (heap_alloc_new w3 (.cells #[.int .i64 k1, .int .i64 k2, .int .i64 k3, .string k4, .slice k5 k6 k7] 84))
       have HR4 := Lib.hid hr4
       obtain ⟨⟨p0, p1, p2, p3, p4⟩, pz⟩ := row_cells5 hr4
       have hz34 : w3.heap.size < w4.heap.size := (Array.getElem?_eq_some_iff.1 hr4).1
       clear hr4
       obtain ⟨⟨c0, c1, c2, c3, c4, c5⟩, fz⟩ := HC.out.six
       clear hx hL hO)
    | (go_at_call 83; (with_reducible refine (dwant_any HC.out.lv ⟨#[61]⟩).mono ?_); rintro e w5 (⟨u, r5, v, hx, rfl, hL, hO, rfl⟩ | ⟨k, r5, hx, rfl, hO⟩)
       rotate_left
       exact ⟨rfl, Gets.no (hx.go HT.out) (HC.out.off hO)⟩
       replace HT := Lib.hid (show T = (pE n 1 1 r5).bind fun f r => .ok (.mk 3 0 s [a, f] [] []) r from HT.out.trans (by rw [show must [61] r4 = .ok u r5 from hx]; rfl))
       replace HC := Lib.hid (HC.out.step hL hO)
       have HN := Lib.hid (show Ends (pE n 1 1 r5) from ends_left (HT.out ▸ HTE.out))
       replace HF := Lib.hid (HF.out.keep (Keep.of_off hO (hzL ▸ hbL)) (Nat.le_refl _))
       have hr5 := own_next hO (k := w3.heap.size) hz34 hne3 HR4.out
       have HR5 := Lib.hid hr5
       obtain ⟨⟨p0, p1, p2, p3, p4⟩, pz⟩ := row_cells5 hr5
       have hz5 : w.heap.size < w5.heap.size := HC.out.size
       have hz35 : w3.heap.size < w5.heap.size := (Array.getElem?_eq_some_iff.1 hr5).1
       clear hr5
       obtain ⟨⟨c0, c1, c2, c3, c4, c5⟩, fz⟩ := HC.out.six
       clear hx hL hO))
  go_region_law (first
    | (go_simp; go_at_call 135; (with_reducible refine (HX.out.call HC.out.drew.lv HN.out).mono ?_); rintro e w6 (⟨a6, r6, v, hx, rfl, hL, hO, hF⟩ | ⟨k, r6, hx, rfl, hO⟩)
       rotate_left
       exact ⟨rfl, Gets.no (hx.go HT.out) (HC.out.drew.off hO)⟩
       obtain ⟨j1, j2, j3, j4, j5, j6, j7, rfl⟩ := hF.form
       have HG := Lib.hid (hF.keep (Keep.refl _ _) (show w.heap.size + 1 ≤ _ by exact hz5))
       replace HF := Lib.hid ((HF.out.keep (Keep.of_below (Below.refl _ _).drew) (Nat.le_refl _)).keep (Keep.of_off hO (hzL ▸ hbL)) (Nat.le_refl _))
       replace HT := Lib.hid (show T = .ok (.mk 3 0 s [a, a6] [] []) r6 from HT.out.trans (by rw [show pE n 1 1 r5 = .ok a6 r6 from hx]; rfl))
       have hr6 := own_next hO (k := w3.heap.size) hz35 hne3 HR5.out
       obtain ⟨⟨p0, p1, p2, p3, p4⟩, pz⟩ := row_cells5 hr6
       replace HC := Lib.hid (HC.out.drew.step hL hO)
       have hz6 : w.heap.size < w6.heap.size := HC.out.size
       have hz36 : w3.heap.size < w6.heap.size := (Array.getElem?_eq_some_iff.1 hr6).1
       obtain ⟨⟨c0, c1, c2, c3, c4, c5⟩, fz⟩ := HC.out.six
       clear hx hL hO hF hr6))
  all_goals
    go_wp2_with (fail)
    obtain ⟨⟨f0, f1, f2, f3, f4, f5⟩, _⟩ := six_cells (own_more (nest6_row HC.out.row (.int .i64 3) (.int .i64 0) (.string s) (.slice (some ⟨w6.heap.size, 0, none⟩) 2 2) (.slice none 0 0) (.slice none 0 0)) (.cells #[.int .i64 k1, .int .i64 k2, .int .i64 k3, .string k4, .slice k5 k6 k7, .int .i64 j1, .int .i64 j2, .int .i64 j3, .string j4, .slice j5 j6 j7] 84))
    refine bodyPost_ret (v := .agg #[.int .i64 3, .int .i64 0, .string s, .slice (some ⟨w6.heap.size, 0, none⟩) 2 2, .slice none 0 0, .slice none 0 0]) (by simp [results, Tryz.results136, go_sem, f0, f1, f2, f3, f4, f5]) rfl ?_
    exact HC.out.fing HT.out ((nest6_below (Nat.le_refl _) (Below.refl _ _) _ _ _ _ _ _).more (Nat.le_of_lt HC.out.size) (.cells #[.int .i64 k1, .int .i64 k2, .int .i64 k3, .string k4, .slice k5 k6 k7, .int .i64 j1, .int .i64 j2, .int .i64 j3, .string j4, .slice j5 j6 j7] 84)) (frS_args (fr_two (HF.out.nest6 (Nat.le_refl _) _ _ _ _ _ _) (HG.out.nest6 (Nat.le_refl _) _ _ _ _ _ _) (Nat.le_refl _) (by rw [nest6_size]; omega) (by rw [nest6_size])))
set_option maxRecDepth 100000 in
theorem dnamed_bad {b g n : Nat} {w : World} {r : List Tok} (h : Lv b g r w) (hk : hdK r ≠ 1) :
    Calls Tryz.prog 136 #[.pointer (some ⟨b, 0, none⟩)] w (Gets b g w (pNm n r) (FrS w.heap.size)) := by
  have HT := Lib.hid (show Fails (pNm n r) 20 r by unfold pNm want; rw [if_neg hk]; exact .inl ⟨rfl, rfl⟩)
  have HC := Lib.hid (At.start h stBox)
  have HK := Lib.hid hk
  clear h hk
  go_enter Tryz.func136, Tryz.ntmps136
  go_wp2_with (go_at_call 59; (with_reducible refine (dtext_no HC.out.lv 1 HK.out).mono ?_); rintro e w1 ⟨rfl, hO⟩; exact ⟨rfl, Gets.no HT.out (HC.out.off hO)⟩)
theorem dnamed_any {b g n : Nat} : DN b g n := by
  intro w r h hn
  by_cases hk : hdK r = 1
  · cases h7 : isS [40] r.tail with
    | true => exact dnamed_call h hk h7 hn
    | false =>
      cases h8 : isS [91] r.tail with
      | true => exact dnamed_put h hk h7 h8 hn
      | false => exact dnamed_set h hk h7 h8 hn
  · exact dnamed_bad h hk
end Go.Proofs.YtakijoblbmfadaaGreatDoor

/- The developers' parser: what ends with a semicolon. (By tools/gen_prspl.py.) -/
namespace Go.Proofs.YtakijoblbmfadaaGreatDoor
open Go.RowKit
def pLet (n : Nat) (l : List Tok) : PR St := (pTy l).bind fun t r => (want 1 r).bind fun s r => (must [61] r).bind fun _ r => (pE n 1 1 r).bind fun e r => .ok (.mk 1 t s [e] [] []) r
def pPn (n : Nat) (l : List Tok) : PR St :=
  if isS sBreak l = true then .ok (.mk 6 0 bE [] [] []) l.tail
  else if isS sCont l = true then .ok (.mk 7 0 bE [] [] []) l.tail
  else if isS sRet l = true then (pE n 1 1 l.tail).bind fun e r => .ok (.mk 8 0 bE [e] [] []) r
  else if isS sPrint l = true then (pBr n 1 l.tail).bind fun e r => .ok (.mk 9 0 bE [e] [] []) r
  else if hdK l = 1 then pNm n l
  else pLet n l
def DP (b g : Nat) (n : Nat) : Prop := ∀ (w : World) (r : List Tok), Lv b g r w → Ends (pPn n r) → Calls Tryz.prog 122 #[.pointer (some ⟨b, 0, none⟩)] w (Gets b g w (pPn n r) (FrS w.heap.size))
theorem DP.call {b g : Nat} {n : Nat} (h : DP b g n) {w : World} {r : List Tok} (hs : Lv b g r w) (he : Ends (pPn n r)) : Calls Tryz.prog 122 #[.pointer (some ⟨b, 0, none⟩)] w (Gets b g w (pPn n r) (FrS w.heap.size)) := h w r hs he
set_option maxRecDepth 100000 in
theorem dplain_break {b g n : Nat} {w : World} {r : List Tok} (h : Lv b g r w) (h1 : isS sBreak r = true) (hn : Ends (pPn n r)) :
    Calls Tryz.prog 122 #[.pointer (some ⟨b, 0, none⟩)] w (Gets b g w (pPn n r) (FrS w.heap.size)) := by
  obtain ⟨T, hT⟩ : ∃ T, T = pPn n r := ⟨_, rfl⟩
  rw [← hT] at hn ⊢
  have HC := Lib.hid (At.start h stBox)
  have HTE := Lib.hid hn
  have hbL : b < (w.alloc stBox).heap.size := by rw [alloc_size]; have := h.lt; omega
  have hzL : (w.alloc stBox).heap.size = w.heap.size + 1 := alloc_size _ _
  have hT0 := hT.trans (show pPn n r = .ok (.mk 6 0 bE [] [] []) r.tail by unfold pPn; rw [if_pos h1])
  have B1 := Lib.hid (show isS (⟨#[98, 114, 101, 97, 107]⟩ : ByteArray).data.toList r = true from h1)
  have HT := Lib.hid (show T = .ok (.mk 6 0 bE [] [] []) r.tail from hT0)
  clear h hn hT hT0 h1
  go_enter Tryz.func122, Tryz.ntmps122
  go_wp2_with (first
    | (go_at_call 60; (with_reducible refine (dtake_yes HC.out.lv _ B1.out).mono ?_); rintro e w1 ⟨rfl, hL, hO⟩
       replace HC := Lib.hid (HC.out.step hL hO)
       obtain ⟨⟨c0, c1, c2, c3, c4, c5⟩, fz⟩ := HC.out.six
       clear hL hO))
  obtain ⟨⟨f0, f1, f2, f3, f4, f5⟩, _⟩ := six_cells (nest6_row HC.out.row (.int .i64 6) (.int .i64 0) (.string ⟨#[]⟩) (.slice none 0 0) (.slice none 0 0) (.slice none 0 0))
  refine bodyPost_ret (v := .agg #[.int .i64 6, .int .i64 0, .string ⟨#[]⟩, .slice none 0 0, .slice none 0 0, .slice none 0 0]) (by simp [results, Tryz.results122, go_sem, f0, f1, f2, f3, f4, f5]) rfl ?_
  exact HC.out.fing HT.out (nest6_below (Nat.le_refl _) (Below.refl _ _) _ _ _ _ _ _) (frS_args (frEs_nil _ _))
set_option maxRecDepth 100000 in
theorem dplain_continue {b g n : Nat} {w : World} {r : List Tok} (h : Lv b g r w) (h1 : isS sBreak r = false) (h2 : isS sCont r = true) (hn : Ends (pPn n r)) :
    Calls Tryz.prog 122 #[.pointer (some ⟨b, 0, none⟩)] w (Gets b g w (pPn n r) (FrS w.heap.size)) := by
  obtain ⟨T, hT⟩ : ∃ T, T = pPn n r := ⟨_, rfl⟩
  rw [← hT] at hn ⊢
  have HC := Lib.hid (At.start h stBox)
  have HTE := Lib.hid hn
  have hbL : b < (w.alloc stBox).heap.size := by rw [alloc_size]; have := h.lt; omega
  have hzL : (w.alloc stBox).heap.size = w.heap.size + 1 := alloc_size _ _
  have hT0 := hT.trans (show pPn n r = .ok (.mk 7 0 bE [] [] []) r.tail by unfold pPn; rw [if_neg (by rw [h1]; decide), if_pos h2])
  have B1 := Lib.hid (show isS (⟨#[98, 114, 101, 97, 107]⟩ : ByteArray).data.toList r = false from h1)
  have B2 := Lib.hid (show isS (⟨#[99, 111, 110, 116, 105, 110, 117, 101]⟩ : ByteArray).data.toList r = true from h2)
  have HT := Lib.hid (show T = .ok (.mk 7 0 bE [] [] []) r.tail from hT0)
  clear h hn hT hT0 h1 h2
  go_enter Tryz.func122, Tryz.ntmps122
  go_wp2_with (first
    | (go_at_call 60; (with_reducible refine (dtake_no HC.out.lv _ B1.out).mono ?_); rintro e w91 ⟨rfl, rfl⟩)
    | (go_at_call 60; (with_reducible refine (dtake_yes HC.out.lv _ B2.out).mono ?_); rintro e w1 ⟨rfl, hL, hO⟩
       replace HC := Lib.hid (HC.out.step hL hO)
       obtain ⟨⟨c0, c1, c2, c3, c4, c5⟩, fz⟩ := HC.out.six
       clear hL hO))
  obtain ⟨⟨f0, f1, f2, f3, f4, f5⟩, _⟩ := six_cells (nest6_row HC.out.row (.int .i64 7) (.int .i64 0) (.string ⟨#[]⟩) (.slice none 0 0) (.slice none 0 0) (.slice none 0 0))
  refine bodyPost_ret (v := .agg #[.int .i64 7, .int .i64 0, .string ⟨#[]⟩, .slice none 0 0, .slice none 0 0, .slice none 0 0]) (by simp [results, Tryz.results122, go_sem, f0, f1, f2, f3, f4, f5]) rfl ?_
  exact HC.out.fing HT.out (nest6_below (Nat.le_refl _) (Below.refl _ _) _ _ _ _ _ _) (frS_args (frEs_nil _ _))
set_option maxRecDepth 100000 in
theorem dplain_return {b g n : Nat} {w : World} {r : List Tok} (h : Lv b g r w) (h1 : isS sBreak r = false) (h2 : isS sCont r = false) (h3 : isS sRet r = true) (hn : Ends (pPn n r)) :
    Calls Tryz.prog 122 #[.pointer (some ⟨b, 0, none⟩)] w (Gets b g w (pPn n r) (FrS w.heap.size)) := by
  obtain ⟨T, hT⟩ : ∃ T, T = pPn n r := ⟨_, rfl⟩
  rw [← hT] at hn ⊢
  have HC := Lib.hid (At.start h stBox)
  have HTE := Lib.hid hn
  have hbL : b < (w.alloc stBox).heap.size := by rw [alloc_size]; have := h.lt; omega
  have hzL : (w.alloc stBox).heap.size = w.heap.size + 1 := alloc_size _ _
  have hT0 := hT.trans (show pPn n r = (pE n 1 1 r.tail).bind fun e r => .ok (.mk 8 0 bE [e] [] []) r by unfold pPn; rw [if_neg (by rw [h1]; decide), if_neg (by rw [h2]; decide), if_pos h3])
  have B1 := Lib.hid (show isS (⟨#[98, 114, 101, 97, 107]⟩ : ByteArray).data.toList r = false from h1)
  have B2 := Lib.hid (show isS (⟨#[99, 111, 110, 116, 105, 110, 117, 101]⟩ : ByteArray).data.toList r = false from h2)
  have B3 := Lib.hid (show isS (⟨#[114, 101, 116, 117, 114, 110]⟩ : ByteArray).data.toList r = true from h3)
  have HX := Lib.hid (dx_all (b := b) (g := g) (n := n) (d := 1) (by decide) (by decide))
  have HN := Lib.hid (show Ends (pE n 1 1 r.tail) from ends_left (hT0 ▸ hn))
  have HT := Lib.hid (show T = (pE n 1 1 r.tail).bind fun e r => .ok (.mk 8 0 bE [e] [] []) r from hT0)
  clear h hn hT hT0 h1 h2 h3
  go_enter Tryz.func122, Tryz.ntmps122
  go_wp2_with (first
    | (go_at_call 60; (with_reducible refine (dtake_no HC.out.lv _ B1.out).mono ?_); rintro e w91 ⟨rfl, rfl⟩)
    | (go_at_call 60; (with_reducible refine (dtake_no HC.out.lv _ B2.out).mono ?_); rintro e w92 ⟨rfl, rfl⟩)
    | (go_at_call 60; (with_reducible refine (dtake_yes HC.out.lv _ B3.out).mono ?_); rintro e w1 ⟨rfl, hL, hO⟩
       replace HC := Lib.hid (HC.out.step hL hO)
       obtain ⟨⟨c0, c1, c2, c3, c4, c5⟩, fz⟩ := HC.out.six
       clear hL hO)
    | (go_at_call 135; (with_reducible refine (HX.out.call HC.out.lv HN.out).mono ?_); rintro e w3 (⟨a, r3, v, hx, rfl, hL, hO, hF⟩ | ⟨k, r3, hx, rfl, hO⟩)
       rotate_left
       exact ⟨rfl, Gets.no (hx.go HT.out) (HC.out.off hO)⟩
       obtain ⟨k1, k2, k3, k4, k5, k6, k7, rfl⟩ := hF.form
       have hzc := HC.out.size
       have HF := Lib.hid (hF.keep (Keep.refl _ _) (show w.heap.size + 1 ≤ _ by omega))
       replace HT := Lib.hid (show T = .ok (.mk 8 0 bE [a] [] []) r3 from HT.out.trans (by rw [show pE n 1 1 r.tail = .ok a r3 from hx]; rfl))
       replace HC := Lib.hid (HC.out.step hL hO)
       have hzd := HC.out.size
       obtain ⟨⟨c0, c1, c2, c3, c4, c5⟩, fz⟩ := HC.out.six
       clear hx hL hO hF))
  obtain ⟨⟨f0, f1, f2, f3, f4, f5⟩, _⟩ := six_cells (own_more (nest6_row HC.out.row (.int .i64 8) (.int .i64 0) (.string ⟨#[]⟩) (.slice (some ⟨w3.heap.size, 0, none⟩) 1 1) (.slice none 0 0) (.slice none 0 0)) (.cells #[.int .i64 k1, .int .i64 k2, .int .i64 k3, .string k4, .slice k5 k6 k7] 84))
  refine bodyPost_ret (v := .agg #[.int .i64 8, .int .i64 0, .string ⟨#[]⟩, .slice (some ⟨w3.heap.size, 0, none⟩) 1 1, .slice none 0 0, .slice none 0 0]) (by simp [results, Tryz.results122, go_sem, f0, f1, f2, f3, f4, f5]) rfl ?_
  exact HC.out.fing HT.out ((nest6_below (Nat.le_refl _) (Below.refl _ _) _ _ _ _ _ _).more (Nat.le_of_lt HC.out.size) (.cells #[.int .i64 k1, .int .i64 k2, .int .i64 k3, .string k4, .slice k5 k6 k7] 84)) (frS_args (fr_one (HF.out.nest6 (Nat.le_refl _) _ _ _ _ _ _) (Nat.le_refl _) (by rw [nest6_size]; omega) (by rw [nest6_size])))
set_option maxRecDepth 100000 in
theorem dplain_print {b g n : Nat} {w : World} {r : List Tok} (h : Lv b g r w) (h1 : isS sBreak r = false) (h2 : isS sCont r = false) (h3 : isS sRet r = false) (h4 : isS sPrint r = true) (hn : Ends (pPn n r)) :
    Calls Tryz.prog 122 #[.pointer (some ⟨b, 0, none⟩)] w (Gets b g w (pPn n r) (FrS w.heap.size)) := by
  obtain ⟨T, hT⟩ : ∃ T, T = pPn n r := ⟨_, rfl⟩
  rw [← hT] at hn ⊢
  have HC := Lib.hid (At.start h stBox)
  have HTE := Lib.hid hn
  have hbL : b < (w.alloc stBox).heap.size := by rw [alloc_size]; have := h.lt; omega
  have hzL : (w.alloc stBox).heap.size = w.heap.size + 1 := alloc_size _ _
  have hT0 := hT.trans (show pPn n r = (pBr n 1 r.tail).bind fun e r => .ok (.mk 9 0 bE [e] [] []) r by unfold pPn; rw [if_neg (by rw [h1]; decide), if_neg (by rw [h2]; decide), if_neg (by rw [h3]; decide), if_pos h4])
  have B1 := Lib.hid (show isS (⟨#[98, 114, 101, 97, 107]⟩ : ByteArray).data.toList r = false from h1)
  have B2 := Lib.hid (show isS (⟨#[99, 111, 110, 116, 105, 110, 117, 101]⟩ : ByteArray).data.toList r = false from h2)
  have B3 := Lib.hid (show isS (⟨#[114, 101, 116, 117, 114, 110]⟩ : ByteArray).data.toList r = false from h3)
  have B4 := Lib.hid (show isS (⟨#[112, 114, 105, 110, 116]⟩ : ByteArray).data.toList r = true from h4)
  have HB := Lib.hid (db_all (b := b) (g := g) (n := n) (d := 1) (by decide) (by decide))
  have HN := Lib.hid (show Ends (pBr n 1 r.tail) from ends_left (hT0 ▸ hn))
  have HT := Lib.hid (show T = (pBr n 1 r.tail).bind fun e r => .ok (.mk 9 0 bE [e] [] []) r from hT0)
  clear h hn hT hT0 h1 h2 h3 h4
  go_enter Tryz.func122, Tryz.ntmps122
  go_wp2_with (first
    | (go_at_call 60; (with_reducible refine (dtake_no HC.out.lv _ B1.out).mono ?_); rintro e w91 ⟨rfl, rfl⟩)
    | (go_at_call 60; (with_reducible refine (dtake_no HC.out.lv _ B2.out).mono ?_); rintro e w92 ⟨rfl, rfl⟩)
    | (go_at_call 60; (with_reducible refine (dtake_no HC.out.lv _ B3.out).mono ?_); rintro e w93 ⟨rfl, rfl⟩)
    | (go_at_call 60; (with_reducible refine (dtake_yes HC.out.lv _ B4.out).mono ?_); rintro e w1 ⟨rfl, hL, hO⟩
       replace HC := Lib.hid (HC.out.step hL hO)
       obtain ⟨⟨c0, c1, c2, c3, c4, c5⟩, fz⟩ := HC.out.six
       clear hL hO)
    | (go_at_call 121; (with_reducible refine (HB.out.call HC.out.lv HN.out).mono ?_); rintro e w3 (⟨a, r3, v, hx, rfl, hL, hO, hF⟩ | ⟨k, r3, hx, rfl, hO⟩)
       rotate_left
       exact ⟨rfl, Gets.no (hx.go HT.out) (HC.out.off hO)⟩
       obtain ⟨k1, k2, k3, k4, k5, k6, k7, rfl⟩ := hF.form
       have hzc := HC.out.size
       have HF := Lib.hid (hF.keep (Keep.refl _ _) (show w.heap.size + 1 ≤ _ by omega))
       replace HT := Lib.hid (show T = .ok (.mk 9 0 bE [a] [] []) r3 from HT.out.trans (by rw [show pBr n 1 r.tail = .ok a r3 from hx]; rfl))
       replace HC := Lib.hid (HC.out.step hL hO)
       have hzd := HC.out.size
       obtain ⟨⟨c0, c1, c2, c3, c4, c5⟩, fz⟩ := HC.out.six
       clear hx hL hO hF))
  obtain ⟨⟨f0, f1, f2, f3, f4, f5⟩, _⟩ := six_cells (own_more (nest6_row HC.out.row (.int .i64 9) (.int .i64 0) (.string ⟨#[]⟩) (.slice (some ⟨w3.heap.size, 0, none⟩) 1 1) (.slice none 0 0) (.slice none 0 0)) (.cells #[.int .i64 k1, .int .i64 k2, .int .i64 k3, .string k4, .slice k5 k6 k7] 84))
  refine bodyPost_ret (v := .agg #[.int .i64 9, .int .i64 0, .string ⟨#[]⟩, .slice (some ⟨w3.heap.size, 0, none⟩) 1 1, .slice none 0 0, .slice none 0 0]) (by simp [results, Tryz.results122, go_sem, f0, f1, f2, f3, f4, f5]) rfl ?_
  exact HC.out.fing HT.out ((nest6_below (Nat.le_refl _) (Below.refl _ _) _ _ _ _ _ _).more (Nat.le_of_lt HC.out.size) (.cells #[.int .i64 k1, .int .i64 k2, .int .i64 k3, .string k4, .slice k5 k6 k7] 84)) (frS_args (fr_one (HF.out.nest6 (Nat.le_refl _) _ _ _ _ _ _) (Nat.le_refl _) (by rw [nest6_size]; omega) (by rw [nest6_size])))
set_option maxRecDepth 100000 in
theorem dplain_named {b g n : Nat} {w : World} {r : List Tok} (h : Lv b g r w) (h1 : isS sBreak r = false) (h2 : isS sCont r = false) (h3 : isS sRet r = false) (h4 : isS sPrint r = false) (h5 : hdK r = 1) (hn : Ends (pPn n r)) :
    Calls Tryz.prog 122 #[.pointer (some ⟨b, 0, none⟩)] w (Gets b g w (pPn n r) (FrS w.heap.size)) := by
  obtain ⟨T, hT⟩ : ∃ T, T = pPn n r := ⟨_, rfl⟩
  rw [← hT] at hn ⊢
  have HC := Lib.hid (At.start h stBox)
  have HTE := Lib.hid hn
  have hbL : b < (w.alloc stBox).heap.size := by rw [alloc_size]; have := h.lt; omega
  have hzL : (w.alloc stBox).heap.size = w.heap.size + 1 := alloc_size _ _
  have hT0 := hT.trans (show pPn n r = (pNm n r).bind fun e r => .ok e r by unfold pPn; rw [if_neg (by rw [h1]; decide), if_neg (by rw [h2]; decide), if_neg (by rw [h3]; decide), if_neg (by rw [h4]; decide), if_pos h5]; exact bind_self _)
  have B1 := Lib.hid (show isS (⟨#[98, 114, 101, 97, 107]⟩ : ByteArray).data.toList r = false from h1)
  have B2 := Lib.hid (show isS (⟨#[99, 111, 110, 116, 105, 110, 117, 101]⟩ : ByteArray).data.toList r = false from h2)
  have B3 := Lib.hid (show isS (⟨#[114, 101, 116, 117, 114, 110]⟩ : ByteArray).data.toList r = false from h3)
  have B4 := Lib.hid (show isS (⟨#[112, 114, 105, 110, 116]⟩ : ByteArray).data.toList r = false from h4)
  have A6 := Lib.hid (show decide (hdK r = 1) = true by simp [h5])
  have HNM := Lib.hid (dnamed_any (b := b) (g := g) (n := n))
  have HN := Lib.hid (show Ends (pNm n r) from ends_left (hT0 ▸ hn))
  have HT := Lib.hid (show T = (pNm n r).bind fun e r => .ok e r from hT0)
  clear h hn hT hT0 h1 h2 h3 h4 h5
  go_enter Tryz.func122, Tryz.ntmps122
  go_wp2_with (first
    | (go_at_call 60; (with_reducible refine (dtake_no HC.out.lv _ B1.out).mono ?_); rintro e w91 ⟨rfl, rfl⟩)
    | (go_at_call 60; (with_reducible refine (dtake_no HC.out.lv _ B2.out).mono ?_); rintro e w92 ⟨rfl, rfl⟩)
    | (go_at_call 60; (with_reducible refine (dtake_no HC.out.lv _ B3.out).mono ?_); rintro e w93 ⟨rfl, rfl⟩)
    | (go_at_call 60; (with_reducible refine (dtake_no HC.out.lv _ B4.out).mono ?_); rintro e w94 ⟨rfl, rfl⟩)
    | (go_at_call 57; (with_reducible refine (dahead_any HC.out.lv _ true A6.out).mono ?_); rintro e w93 ⟨rfl, rfl⟩)
    | (go_at_call 136; (with_reducible refine (HNM.out.call HC.out.lv HN.out).mono ?_); rintro e w2 (⟨a, r2, v, hx, rfl, hL, hO, hF⟩ | ⟨k, r2, hx, rfl, hO⟩)
       rotate_left
       exact ⟨rfl, Gets.no (hx.go HT.out) (HC.out.off hO)⟩
       obtain ⟨k1, k2, k3, A3, m3, q3, A4, m4, q4, A5, m5, q5, rfl⟩ := hF.form
       have hzc := HC.out.size
       have HF := Lib.hid (hF.keep (Keep.refl _ _) (show w.heap.size + 1 ≤ _ by omega))
       replace HT := Lib.hid (show T = .ok a r2 from HT.out.trans (by rw [show pNm n r = .ok a r2 from hx]; rfl))
       replace HC := Lib.hid (HC.out.step hL hO)
       obtain ⟨⟨c0, c1, c2, c3, c4, c5⟩, fz⟩ := HC.out.six
       clear hx hL hO hF))
  obtain ⟨⟨f0, f1, f2, f3, f4, f5⟩, _⟩ := six_cells (nest6_row HC.out.row (.int .i64 k1) (.int .i64 k2) (.string k3) (.slice A3 m3 q3) (.slice A4 m4 q4) (.slice A5 m5 q5))
  refine bodyPost_ret (v := .agg #[.int .i64 k1, .int .i64 k2, .string k3, .slice A3 m3 q3, .slice A4 m4 q4, .slice A5 m5 q5]) (by simp [results, Tryz.results122, go_sem, f0, f1, f2, f3, f4, f5]) rfl ?_
  exact HC.out.fing HT.out (nest6_below (Nat.le_refl _) (Below.refl _ _) _ _ _ _ _ _) (HF.out.keep (Keep.nest6 (Nat.lt_succ_self _) _ _ _ _ _ _) (Nat.le_succ _))
set_option maxRecDepth 100000 in
theorem dplain_let {b g n : Nat} {w : World} {r : List Tok} (h : Lv b g r w) (h1 : isS sBreak r = false) (h2 : isS sCont r = false) (h3 : isS sRet r = false) (h4 : isS sPrint r = false) (h5 : hdK r ≠ 1) (hn : Ends (pPn n r)) :
    Calls Tryz.prog 122 #[.pointer (some ⟨b, 0, none⟩)] w (Gets b g w (pPn n r) (FrS w.heap.size)) := by
  obtain ⟨T, hT⟩ : ∃ T, T = pPn n r := ⟨_, rfl⟩
  rw [← hT] at hn ⊢
  have HC := Lib.hid (At.start h stBox)
  have HTE := Lib.hid hn
  have hbL : b < (w.alloc stBox).heap.size := by rw [alloc_size]; have := h.lt; omega
  have hzL : (w.alloc stBox).heap.size = w.heap.size + 1 := alloc_size _ _
  have hT0 := hT.trans (show pPn n r = pLet n r by unfold pPn; rw [if_neg (by rw [h1]; decide), if_neg (by rw [h2]; decide), if_neg (by rw [h3]; decide), if_neg (by rw [h4]; decide), if_neg h5])
  have B1 := Lib.hid (show isS (⟨#[98, 114, 101, 97, 107]⟩ : ByteArray).data.toList r = false from h1)
  have B2 := Lib.hid (show isS (⟨#[99, 111, 110, 116, 105, 110, 117, 101]⟩ : ByteArray).data.toList r = false from h2)
  have B3 := Lib.hid (show isS (⟨#[114, 101, 116, 117, 114, 110]⟩ : ByteArray).data.toList r = false from h3)
  have B4 := Lib.hid (show isS (⟨#[112, 114, 105, 110, 116]⟩ : ByteArray).data.toList r = false from h4)
  have A6 := Lib.hid (show decide (hdK r = 1) = false by simp [h5])
  have HX := Lib.hid (dx_all (b := b) (g := g) (n := n) (d := 1) (by decide) (by decide))
  have HT := Lib.hid (show T = (pTy r).bind fun t r => (want 1 r).bind fun s r => (must [61] r).bind fun _ r => (pE n 1 1 r).bind fun e r => .ok (.mk 1 t s [e] [] []) r from hT0)
  clear h hn hT hT0 h1 h2 h3 h4 h5
  go_enter Tryz.func122, Tryz.ntmps122
  go_wp2_with (first
    | (go_at_call 60; (with_reducible refine (dtake_no HC.out.lv _ B1.out).mono ?_); rintro e w91 ⟨rfl, rfl⟩)
    | (go_at_call 60; (with_reducible refine (dtake_no HC.out.lv _ B2.out).mono ?_); rintro e w92 ⟨rfl, rfl⟩)
    | (go_at_call 60; (with_reducible refine (dtake_no HC.out.lv _ B3.out).mono ?_); rintro e w93 ⟨rfl, rfl⟩)
    | (go_at_call 60; (with_reducible refine (dtake_no HC.out.lv _ B4.out).mono ?_); rintro e w94 ⟨rfl, rfl⟩)
    | (go_at_call 57; (with_reducible refine (dahead_any HC.out.lv _ false A6.out).mono ?_); rintro e w93 ⟨rfl, rfl⟩)
    | (go_at_call 58; (with_reducible refine (dkind_any HC.out.lv).mono ?_); rintro e w1 (⟨t, r1, v, hx, rfl, hL, hO, rfl⟩ | ⟨k, r1, hx, rfl, hO⟩)
       rotate_left
       exact ⟨rfl, Gets.no (hx.go HT.out) (HC.out.off hO)⟩
       replace HT := Lib.hid (show T = (want 1 r1).bind fun s r => (must [61] r).bind fun _ r => (pE n 1 1 r).bind fun e r => .ok (.mk 1 t s [e] [] []) r from HT.out.trans (by rw [show pTy r = .ok t r1 from hx]; rfl))
       replace HC := Lib.hid (HC.out.step hL hO)
       obtain ⟨⟨c0, c1, c2, c3, c4, c5⟩, fz⟩ := HC.out.six
       clear hx hL hO)
    | (go_at_call 59; (with_reducible refine (dtext_any HC.out.lv 1 (by decide)).mono ?_); rintro e w2 (⟨s, r2, v, hx, rfl, hL, hO, rfl⟩ | ⟨k, r2, hx, rfl, hO⟩)
       rotate_left
       exact ⟨rfl, Gets.no (hx.go HT.out) (HC.out.off hO)⟩
       replace HT := Lib.hid (show T = (must [61] r2).bind fun _ r => (pE n 1 1 r).bind fun e r => .ok (.mk 1 t s [e] [] []) r from HT.out.trans (by rw [show want 1 r1 = .ok s r2 from hx]; rfl))
       replace HC := Lib.hid (HC.out.step hL hO)
       obtain ⟨⟨c0, c1, c2, c3, c4, c5⟩, fz⟩ := HC.out.six
       clear hx hL hO)
    | (go_at_call 83; (with_reducible refine (dwant_any HC.out.lv ⟨#[61]⟩).mono ?_); rintro e w4 (⟨u, r4, v, hx, rfl, hL, hO, rfl⟩ | ⟨k, r4, hx, rfl, hO⟩)
       rotate_left
       exact ⟨rfl, Gets.no (hx.go HT.out) (HC.out.off hO)⟩
       replace HT := Lib.hid (show T = (pE n 1 1 r4).bind fun e r => .ok (.mk 1 t s [e] [] []) r from HT.out.trans (by rw [show must [61] r2 = .ok u r4 from hx]; rfl))
       replace HC := Lib.hid (HC.out.step hL hO)
       have HN := Lib.hid (show Ends (pE n 1 1 r4) from ends_left (HT.out ▸ HTE.out))
       obtain ⟨⟨c0, c1, c2, c3, c4, c5⟩, fz⟩ := HC.out.six
       clear hx hL hO)
    | (go_at_call 135; (with_reducible refine (HX.out.call HC.out.lv HN.out).mono ?_); rintro e w3 (⟨a, r3, v, hx, rfl, hL, hO, hF⟩ | ⟨k, r3, hx, rfl, hO⟩)
       rotate_left
       exact ⟨rfl, Gets.no (hx.go HT.out) (HC.out.off hO)⟩
       obtain ⟨k1, k2, k3, k4, k5, k6, k7, rfl⟩ := hF.form
       have hzc := HC.out.size
       have HF := Lib.hid (hF.keep (Keep.refl _ _) (show w.heap.size + 1 ≤ _ by omega))
       replace HT := Lib.hid (show T = .ok (.mk 1 t s [a] [] []) r3 from HT.out.trans (by rw [show pE n 1 1 r4 = .ok a r3 from hx]; rfl))
       replace HC := Lib.hid (HC.out.step hL hO)
       have hzd := HC.out.size
       obtain ⟨⟨c0, c1, c2, c3, c4, c5⟩, fz⟩ := HC.out.six
       clear hx hL hO hF))
  obtain ⟨⟨f0, f1, f2, f3, f4, f5⟩, _⟩ := six_cells (own_more (nest6_row HC.out.row (.int .i64 1) (.int .i64 t) (.string s) (.slice (some ⟨w3.heap.size, 0, none⟩) 1 1) (.slice none 0 0) (.slice none 0 0)) (.cells #[.int .i64 k1, .int .i64 k2, .int .i64 k3, .string k4, .slice k5 k6 k7] 84))
  refine bodyPost_ret (v := .agg #[.int .i64 1, .int .i64 t, .string s, .slice (some ⟨w3.heap.size, 0, none⟩) 1 1, .slice none 0 0, .slice none 0 0]) (by simp [results, Tryz.results122, go_sem, f0, f1, f2, f3, f4, f5]) rfl ?_
  exact HC.out.fing HT.out ((nest6_below (Nat.le_refl _) (Below.refl _ _) _ _ _ _ _ _).more (Nat.le_of_lt HC.out.size) (.cells #[.int .i64 k1, .int .i64 k2, .int .i64 k3, .string k4, .slice k5 k6 k7] 84)) (frS_args (fr_one (HF.out.nest6 (Nat.le_refl _) _ _ _ _ _ _) (Nat.le_refl _) (by rw [nest6_size]; omega) (by rw [nest6_size])))
theorem dplain_any {b g n : Nat} : DP b g n := by
  intro w r h hn
  cases h1 : isS sBreak r with
  | true => exact dplain_break h h1 hn
  | false =>
    cases h2 : isS sCont r with
    | true => exact dplain_continue h h1 h2 hn
    | false =>
      cases h3 : isS sRet r with
      | true => exact dplain_return h h1 h2 h3 hn
      | false =>
        cases h4 : isS sPrint r with
        | true => exact dplain_print h h1 h2 h3 h4 hn
        | false =>
          by_cases h5 : hdK r = 1
          · exact dplain_named h h1 h2 h3 h4 h5 hn
          · exact dplain_let h h1 h2 h3 h4 h5 hn
end Go.Proofs.YtakijoblbmfadaaGreatDoor
