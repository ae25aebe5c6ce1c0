import Derived.Test.YtakijoblbmfadaaGreatDoorMgTreeRightD
import Derived.Test.YtakijoblbmfadaaGreatDoorMgTreeRefG
set_option linter.unusedSimpArgs false
set_option linter.unusedVariables false
/- The contracts of the validation of package tree: arrays, functions, programs. -/
namespace Go.Proofs.YtakijoblbmfadaaGreatDoor
open Go.RowKit
set_option maxRecDepth 100000 in
theorem rightArray_is (a : Ar) (c : Bool) (hc : arOK a = c) (w : World) : Calls Tryz.prog 33 #[.agg #[.string a.name, .int .i64 a.size]] w fun e w' => e = .returned (.bool c) ∧ Below w.heap.size w w' := by
  subst hc
  obtain ⟨b, hb⟩ : ∃ b, nmB a.name = b := ⟨_, rfl⟩
  have HB := Lib.hid hb
  clear hb
  cases b
  all_goals
    go_enter Tryz.func33, Tryz.ntmps33
    go_wp2_with (go_at_call 63; (with_reducible refine (nm_is a.name _ HB.out _).mono ?_); rintro e w1 ⟨rfl, hb1⟩; obtain ⟨hc1, hf1⟩ := bcell hb1)
    all_goals go_ret
    all_goals refine ⟨ret_bool ?_, ((Below.refl _ _).alloc (Nat.le_refl _) _).trans (hb1.mono (by simp))⟩
    all_goals have HB' := HB.out
    all_goals go_light
    all_goals simp_all [arOK]
  all_goals omega
def paB (x : Pa) : Bool := nmB x.name && tyB x.type
theorem alls_take {α : Type} (f : α → Bool) {l : List α} {i : Nat} {x : α} (h : l[i]? = some x) : (l.take (i + 1)).all f = ((l.take i).all f && f x) := by
  rw [List.take_add_one, h]
  simp
theorem alls_bad {α : Type} (f : α → Bool) {l : List α} {i : Nat} {x : α} (h : l[i]? = some x) (hx : f x = false) : l.all f = false := by
  rw [Bool.eq_false_iff]
  intro hc
  rw [List.all_eq_true.1 hc x (List.mem_of_getElem? h)] at hx
  cases hx
section
variable (B : Nat) (f : Fu) (A A2 : Option Addr) (cap cap2 : Nat) (w : World)
set_option maxHeartbeats 2000000 in
set_option maxRecDepth 100000 in
/-- A head that may not be. -/
theorem rightFunc_head (h : (nmB f.name && tyB f.type && decide (f.params.length ≤ 8)) = false) (m m2 : Nat) (hm : f.params.length = m) :
    Calls Tryz.prog 34 #[.agg #[.string f.name, .int .i64 f.type, .slice A m cap, .slice A2 m2 cap2]] w fun e w' => e = .returned (.bool false) ∧ Below w.heap.size w w' := by
  obtain ⟨b1, hb1⟩ : ∃ b, nmB f.name = b := ⟨_, rfl⟩
  obtain ⟨b2, hb2⟩ : ∃ b, tyB f.type = b := ⟨_, rfl⟩
  rw [hb1, hb2, hm] at h
  have HB1 := Lib.hid hb1
  have HB2 := Lib.hid hb2
  clear hb1 hb2 hm
  cases b1
  · clear h
    go_enter Tryz.func34, Tryz.ntmps34
    go_wp2_with (go_at_call 63; (with_reducible refine (nm_is f.name _ HB1.out _).mono ?_); rintro e w1 ⟨rfl, hb1⟩; obtain ⟨hc1, hf1⟩ := bcell hb1)
    go_ret
    exact ⟨rfl, ((Below.refl _ _).alloc (Nat.le_refl _) _).trans (hb1.mono (by simp))⟩
  · cases b2
    · clear h
      go_enter Tryz.func34, Tryz.ntmps34
      go_wp2_with (first
        | (go_at_call 63; (with_reducible refine (nm_is f.name _ HB1.out _).mono ?_); rintro e w1 ⟨rfl, hb1⟩; obtain ⟨hc1, hf1⟩ := bcell hb1)
        | (go_at_call 64; (with_reducible refine (rightType_is f.type _ HB2.out _).mono ?_); rintro e w2 ⟨rfl, rfl⟩))
      go_ret
      exact ⟨rfl, ((Below.refl _ _).alloc (Nat.le_refl _) _).trans (hb1.mono (by simp))⟩
    · have hd : decide ((8 : Int) < (m : Int)) = true := by simp at h ⊢; omega
      clear h
      go_enter Tryz.func34, Tryz.ntmps34
      go_wp2_with (first
        | (go_at_call 63; (with_reducible refine (nm_is f.name _ HB1.out _).mono ?_); rintro e w1 ⟨rfl, hb1⟩; obtain ⟨hc1, hf1⟩ := bcell hb1)
        | (go_at_call 64; (with_reducible refine (rightType_is f.type _ HB2.out _).mono ?_); rintro e w2 ⟨rfl, rfl⟩))
      all_goals first
        | (exfalso; omega)
        | (go_ret; exact ⟨rfl, ((Below.refl _ _).alloc (Nat.le_refl _) _).trans (hb1.mono (by simp))⟩)
set_option maxHeartbeats 2000000 in
set_option maxRecDepth 100000 in
theorem rightFunc_body (ht : TreeTab B w) (hB : B ≤ w.heap.size) (hp : SlP B w (.slice A f.params.length cap) f.params) (hs : SlS B w (.slice A2 f.body.length cap2) f.body)
    (h : (nmB f.name && tyB f.type && decide (f.params.length ≤ 8)) = true) (c : Bool) (hc : (f.params.all paOK && stsOK f.body 100) = c) :
    Calls Tryz.prog 34 #[.agg #[.string f.name, .int .i64 f.type, .slice A f.params.length cap, .slice A2 f.body.length cap2]] w fun e w' => e = .returned (.bool c) ∧ Below w.heap.size w w' := by
  simp only [Bool.and_eq_true, decide_eq_true_eq] at h
  obtain ⟨⟨h1, h2⟩, h3⟩ := h
  have HB1 := Lib.hid h1
  have HB2 := Lib.hid h2
  have HT := Lib.hid ht
  have HP := Lib.hid hp
  have HS := Lib.hid hs
  have HC := Lib.hid hc
  clear h1 h2 ht hp hs hc
  go_enter Tryz.func34, Tryz.ntmps34
  go_wp2_with (first
    | (go_at_call 63; (with_reducible refine (nm_is f.name _ HB1.out _).mono ?_); rintro e w1 ⟨rfl, hb1⟩; obtain ⟨hc1, hf1⟩ := bcell hb1)
    | (go_at_call 64; (with_reducible refine (rightType_is f.type _ HB2.out _).mono ?_); rintro e w2 ⟨rfl, rfl⟩))
  have hq1 : w.heap.size < w1.heap.size := by have := hb1.size; simp at this; omega
  have hw1 : Below w.heap.size w w1 := ((Below.refl _ _).alloc (Nat.le_refl _) _).trans (hb1.mono (by simp))
  have hk : ∀ i, w1.cell? ⟨w.heap.size, i, none⟩ = (#[.string f.name, .int .i64 f.type, .slice A f.params.length cap, .slice A2 f.body.length cap2] : Array Value)[i]? := fun i => by
    rw [hc1 _ _ (by simp)]
    exact Lib.cell_of_heap (heap_alloc_new w _) i
  have HK := Lib.hid hk
  have k3 : w1.cell? ⟨w.heap.size, 3, none⟩ = some (.slice A2 f.body.length cap2) := by rw [HK.out]; rfl
  clear hc1 hf1 hk
  go_loopw [24] (fun iv wr => ∃ j : Nat, j ≤ f.params.length ∧ iv = .int .i64 j ∧ (f.params.take j).all paOK = true ∧ Below w1.heap.size w1 wr) (fun iv _ => f.params.length - (intOf iv).toNat)
  case atStart => exact ⟨0, Nat.zero_le _, rfl, rfl, Below.refl _ _⟩
  case round =>
    obtain ⟨j, hj, rfl, hall, hbw⟩ := hrel
    have HA := Lib.hid hall
    clear hall
    have hsz := hbw.size
    have hwr : Below w.heap.size w wr := hw1.trans (hbw.mono (by omega))
    have k3' : wr.cell? ⟨w.heap.size, 3, none⟩ = some (.slice A2 f.body.length cap2) := (hbw.cell (p := ⟨w.heap.size, 3, none⟩) hq1).trans k3
    have hqr : w.heap.size < wr.heap.size := by omega
    have hBr : B ≤ wr.heap.size := by omega
    by_cases hlt : j < f.params.length
    · obtain ⟨x, hx⟩ : ∃ e, f.params[j]? = some e := ⟨_, List.getElem?_eq_getElem hlt⟩
      obtain ⟨g, o, rfl, hg, q0, q1⟩ := (HP.out.below (hwr.mono hB) (Nat.le_refl _)).cells hx
      have HX := Lib.hid hx
      have hgs : g < wr.heap.size := by omega
      obtain ⟨b1, hb1'⟩ : ∃ b, nmB x.name = b := ⟨_, rfl⟩
      obtain ⟨b2, hb2'⟩ : ∃ b, tyB x.type = b := ⟨_, rfl⟩
      have HPO : Hid (paOK x = (b1 && b2)) := by unfold Hid paOK; rw [hb1', hb2']
      have HN := Lib.hid hb1'
      have HY := Lib.hid hb2'
      clear hx hb1' hb2'
      cases b1
      case' true => cases b2
      all_goals
        go_wp2_with (first
          | (go_at_call 63; (with_reducible refine (nm_is x.name _ HN.out _).mono ?_); rintro e w2 ⟨rfl, hx2⟩; obtain ⟨hc2, hf2⟩ := bcell hx2)
          | (go_at_call 64; (with_reducible refine (rightType_is x.type _ HY.out _).mono ?_); rintro e w3 ⟨rfl, rfl⟩))
      all_goals first
        | (go_ret; exact ⟨ret_bool (by rw [← HC.out, alls_bad paOK HX.out HPO.out]; rfl), (hwr.alloc (by omega) _).trans (hx2.mono (by simp; omega))⟩)
        | (go_roundw
           case rel => exact ⟨j + 1, by omega, by go_num, by rw [alls_take paOK HX.out, HA.out, HPO.out]; rfl, (hbw.alloc hsz _).trans (hx2.mono (by simp; omega))⟩
           case measure => simp [intOf]; omega)
    · have hall' : Hid (f.params.all paOK = true) := by unfold Hid; rw [← HA.out, List.take_of_length_le (by omega)]
      obtain ⟨b3, hb3⟩ : ∃ b, stsOK f.body 100 = b := ⟨_, rfl⟩
      have H3 := Lib.hid hb3
      clear hb3
      go_wp2_with (go_at_call 65; (with_reducible refine (rightStmts_any B f.body _ H3.out _ _ (HT.out.below (hwr.mono hB)) hBr (HS.out.below (hwr.mono hB) (Nat.le_refl _))).mono ?_); rintro e w2 ⟨rfl, hx2⟩)
      go_ret
      exact ⟨ret_bool (by rw [← HC.out, hall'.out, H3.out]; simp), hwr.trans (hx2.mono (by omega))⟩
theorem rightFunc_is (ht : TreeTab B w) (hB : B ≤ w.heap.size) (hp : SlP B w (.slice A f.params.length cap) f.params) (hs : SlS B w (.slice A2 f.body.length cap2) f.body) (c : Bool) (hc : fuOK f = c) :
    Calls Tryz.prog 34 #[.agg #[.string f.name, .int .i64 f.type, .slice A f.params.length cap, .slice A2 f.body.length cap2]] w fun e w' => e = .returned (.bool c) ∧ Below w.heap.size w w' := by
  cases h : (nmB f.name && tyB f.type && decide (f.params.length ≤ 8)) with
  | false =>
    have : c = false := by rw [← hc]; unfold fuOK; rw [h]; simp
    subst this
    exact rightFunc_head f A A2 cap cap2 w h _ _ rfl
  | true =>
    refine rightFunc_body B f A A2 cap cap2 w ht hB hp hs h c ?_
    rw [← hc]
    unfold fuOK
    rw [h]
    simp
end
set_option maxHeartbeats 2000000 in
set_option maxRecDepth 100000 in
/-- tree.Right: C1. -/
theorem right_any (B : Nat) (p : Pr) (c : Bool) (hc : prOK p = c) (v v' : Value) (w : World) (ht : TreeTab B w) (hB : B ≤ w.heap.size) (ha : SlA B w v p.arrays) (hf : SlF B w v' p.funcs) :
    Calls Tryz.prog 20 #[.agg #[v, v']] w fun e w' => e = .returned (.bool c) ∧ Below w.heap.size w w' := by
  obtain ⟨A, cap, rfl, hn⟩ := ha.form
  obtain ⟨A2, cap2, rfl, hn2⟩ := hf.form
  have HT := Lib.hid ht
  have HA := Lib.hid ha
  have HF := Lib.hid hf
  have HC := Lib.hid hc
  clear ht ha hf hc
  go_enter Tryz.func20, Tryz.ntmps20
  go_wp2_with (fail)
  go_loopw [10] (fun iv wr => ∃ j : Nat, j ≤ p.arrays.length ∧ iv = .int .i64 j ∧ (p.arrays.take j).all arOK = true ∧ Below (w.heap.size + 1) (w.alloc (.cells #[.slice A p.arrays.length cap, .slice A2 p.funcs.length cap2] 35)) wr) (fun iv _ => p.arrays.length - (intOf iv).toNat)
  case atStart => exact ⟨0, Nat.zero_le _, rfl, rfl, Below.refl _ _⟩
  case round =>
    obtain ⟨j, hj, rfl, hall, hbw⟩ := hrel
    have HAL := Lib.hid hall
    clear hall
    have hsz : w.heap.size + 1 ≤ wr.heap.size := by have := hbw.size; simpa using this
    have hwr : Below w.heap.size w wr := ((Below.refl _ _).alloc (Nat.le_refl _) _).trans (hbw.mono (by omega))
    have hBr : B ≤ wr.heap.size := by omega
    by_cases hlt : j < p.arrays.length
    · obtain ⟨x, hx⟩ : ∃ e, p.arrays[j]? = some e := ⟨_, List.getElem?_eq_getElem hlt⟩
      obtain ⟨g, o, rfl, hg, q0, q1⟩ := (HA.out.below (hwr.mono hB) (Nat.le_refl _)).cells hx
      have HX := Lib.hid hx
      have hgs : g < wr.heap.size := by omega
      obtain ⟨b1, hb1⟩ : ∃ b, arOK x = b := ⟨_, rfl⟩
      have HN := Lib.hid hb1
      clear hx hb1
      cases b1
      all_goals
        go_wp2_with (go_at_call 33; (with_reducible refine (rightArray_is x _ HN.out _).mono ?_); rintro e w2 ⟨rfl, hx2⟩)
      · go_ret
        exact ⟨ret_bool (by rw [← HC.out]; unfold prOK; rw [alls_bad arOK HX.out HN.out]; rfl), (hwr.alloc (by omega) _).trans (hx2.mono (by simp; omega))⟩
      · go_roundw
        case rel => exact ⟨j + 1, by omega, by go_num, by rw [alls_take arOK HX.out, HAL.out, HN.out]; rfl, (hbw.alloc hsz _).trans (hx2.mono (by simp; omega))⟩
        case measure => simp [intOf]; omega
    · have HAA : Hid (p.arrays.all arOK = true) := by unfold Hid; rw [← HAL.out, List.take_of_length_le (by omega)]
      have k1 : wr.cell? ⟨w.heap.size, 1, none⟩ = some (.slice A2 p.funcs.length cap2) := (hbw.cell (p := ⟨w.heap.size, 1, none⟩) (by simp)).trans (by simp)
      have hq : w.heap.size < wr.heap.size := by omega
      go_wp2_with (fail)
      go_loopw [21] (fun iv wr' => ∃ j : Nat, j ≤ p.funcs.length ∧ iv = .int .i64 j ∧ (p.funcs.take j).all fuOK = true ∧ Below (w.heap.size + 1) (w.alloc (.cells #[.slice A p.arrays.length cap, .slice A2 p.funcs.length cap2] 35)) wr') (fun iv _ => p.funcs.length - (intOf iv).toNat)
      case atStart => exact ⟨0, Nat.zero_le _, rfl, rfl, hbw⟩
      case round =>
        obtain ⟨j2, hj2, rfl, hall2, hbw2⟩ := hrel
        have HAL2 := Lib.hid hall2
        clear hall2
        have hsz2 : w.heap.size + 1 ≤ wr.heap.size := by have := hbw2.size; simpa using this
        have hw2 : Below w.heap.size w wr := ((Below.refl _ _).alloc (Nat.le_refl _) _).trans (hbw2.mono (by omega))
        have hB2 : B ≤ wr.heap.size := by omega
        by_cases hlt2 : j2 < p.funcs.length
        · obtain ⟨x, hx⟩ : ∃ e, p.funcs[j2]? = some e := ⟨_, List.getElem?_eq_getElem hlt2⟩
          obtain ⟨g, o, v1, v2, rfl, hg, q0, q1, q2, q3, hp, hb⟩ := (HF.out.below (hw2.mono hB) (Nat.le_refl _)).cells hx
          obtain ⟨A3, cap3, rfl, _⟩ := hp.form
          obtain ⟨A4, cap4, rfl, _⟩ := hb.form
          have HX := Lib.hid hx
          have HP := Lib.hid hp
          have HS := Lib.hid hb
          have hgs : g < wr.heap.size := by omega
          obtain ⟨b1, hb1⟩ : ∃ b, fuOK x = b := ⟨_, rfl⟩
          have HN := Lib.hid hb1
          clear hx hb1 hp hb
          cases b1
          all_goals
            go_wp2_with (go_at_call 34; (with_reducible refine (rightFunc_is B x _ _ _ _ _ (HT.out.below ((hw2.alloc (by omega) _).mono hB)) (by simp; omega) (HP.out.below ((Below.refl _ _).alloc hB2 _) (Nat.le_refl _)) (HS.out.below ((Below.refl _ _).alloc hB2 _) (Nat.le_refl _)) _ HN.out).mono ?_); rintro e w2 ⟨rfl, hx2⟩)
          · go_ret
            exact ⟨ret_bool (by rw [← HC.out]; unfold prOK; rw [alls_bad fuOK HX.out HN.out]; simp), (hw2.alloc (by omega) _).trans (hx2.mono (by simp; omega))⟩
          · go_roundw
            case rel => exact ⟨j2 + 1, by omega, by go_num, by rw [alls_take fuOK HX.out, HAL2.out, HN.out]; rfl, (hbw2.alloc hsz2 _).trans (hx2.mono (by simp; omega))⟩
            case measure => simp [intOf]; omega
        · have HFF : Hid (p.funcs.all fuOK = true) := by unfold Hid; rw [← HAL2.out, List.take_of_length_le (by omega)]
          go_wp2_with (fail)
          go_ret
          exact ⟨ret_bool (by rw [← HC.out]; unfold prOK; rw [HAA.out, HFF.out]; rfl), hw2⟩
end Go.Proofs.YtakijoblbmfadaaGreatDoor

/- The contract of the document's validation of a program. -/
namespace Go.Proofs.YtakijoblbmfadaaGreatDoor
open Go.RowKit
theorem isType_is (t : Int) (b : Bool) (h : tyB t = b) (w : World) : Calls Tryz.prog 37 #[.int .i64 t] w fun e w' => e = .returned (.bool b) ∧ w = w' := by
  subst h
  go_enter Tryz.func37, Tryz.ntmps37
  go_wp2_with (fail)
  all_goals go_ret
  all_goals refine ⟨ret_bool ?_, rfl⟩
  all_goals go_light
  all_goals (unfold tyB; rw [Bool.eq_iff_iff]; simp_all)
set_option maxHeartbeats 8000000 in
set_option maxRecDepth 100000 in
theorem rright_any (B : Nat) (p : Pr) (c : Bool) (hc : prOK p = c) (v v' : Value) (w : World) (hB : B ≤ w.heap.size) (ha : SlA B w v p.arrays) (hf : SlF B w v' p.funcs) :
    Calls Tryz.prog 22 #[.agg #[v, v']] w fun e w' => e = .returned (.bool c) ∧ Below w.heap.size w w' := by
  obtain ⟨A, cap, rfl, hn⟩ := ha.form
  obtain ⟨A2, cap2, rfl, hn2⟩ := hf.form
  have HA := Lib.hid ha
  have HF := Lib.hid hf
  have HC := Lib.hid hc
  have HROW : ∀ wr, Below (w.heap.size + 1) (w.alloc (.cells #[.slice A p.arrays.length cap, .slice A2 p.funcs.length cap2] 35)) wr → wr.cell? ⟨w.heap.size, 0, none⟩ = some (.slice A p.arrays.length cap) ∧ wr.cell? ⟨w.heap.size, 1, none⟩ = some (.slice A2 p.funcs.length cap2) := fun wr hb => by
    have hrow : wr.heap[w.heap.size]? = some (.cells #[.slice A p.arrays.length cap, .slice A2 p.funcs.length cap2] 35 (0, 0)) := (hb.block _ (by omega)).trans (heap_alloc_new w _)
    exact ⟨by rw [Lib.cell_of_heap hrow]; rfl, by rw [Lib.cell_of_heap hrow]; rfl⟩
  have HR := Lib.hid HROW
  clear ha hf hc HROW
  go_enter Tryz.func22, Tryz.ntmps22
  go_wp2_with (fail)
  go_loopw [3] (fun iv wr => ∃ j : Nat, j ≤ p.arrays.length ∧ iv = .int .i64 j ∧ (p.arrays.take j).all arOK = true ∧ Below (w.heap.size + 1) (w.alloc (.cells #[.slice A p.arrays.length cap, .slice A2 p.funcs.length cap2] 35)) wr) (fun iv _ => p.arrays.length - (intOf iv).toNat)
  case atStart => exact ⟨0, Nat.zero_le _, rfl, rfl, Below.refl _ _⟩
  case round =>
    obtain ⟨j, hj, rfl, hall, hbw⟩ := hrel
    have HAL := Lib.hid hall
    clear hall
    have hsz : w.heap.size + 1 ≤ wr.heap.size := by have := hbw.size; simpa using this
    have hwr : Below w.heap.size w wr := ((Below.refl _ _).alloc (Nat.le_refl _) _).trans (hbw.mono (by omega))
    have hBr : B ≤ wr.heap.size := by omega
    have hq : w.heap.size < wr.heap.size := by omega
    obtain ⟨k0, k1⟩ := HR.out wr hbw
    by_cases hlt : j < p.arrays.length
    · obtain ⟨x, hx⟩ : ∃ e, p.arrays[j]? = some e := ⟨_, List.getElem?_eq_getElem hlt⟩
      obtain ⟨g, o, rfl, hg, q0, q1⟩ := (HA.out.below (hwr.mono hB) (Nat.le_refl _)).cells hx
      have HX := Lib.hid hx
      have hgs : g < wr.heap.size := by omega
      obtain ⟨b1, hb1⟩ : ∃ b, nmB x.name = b := ⟨_, rfl⟩
      have HN := Lib.hid hb1
      clear hx hb1
      cases b1
      · go_wp2_with (go_at_call 36; (with_reducible refine (rnm_is x.name _ HN.out _).mono ?_); rintro e w2 ⟨rfl, rfl⟩)
        go_ret
        exact ⟨ret_bool (by rw [← HC.out]; unfold prOK; rw [alls_bad arOK HX.out (by unfold arOK; rw [HN.out]; rfl)]; rfl), hwr⟩
      · by_cases h1 : x.size < 1
        · go_wp2_with (go_at_call 36; (with_reducible refine (rnm_is x.name _ HN.out _).mono ?_); rintro e w2 ⟨rfl, rfl⟩)
          go_ret
          exact ⟨ret_bool (by rw [← HC.out]; unfold prOK; rw [alls_bad arOK HX.out (by unfold arOK; simp; omega)]; rfl), hwr⟩
        · by_cases h2 : 1000 < x.size
          · go_wp2_with (go_at_call 36; (with_reducible refine (rnm_is x.name _ HN.out _).mono ?_); rintro e w2 ⟨rfl, rfl⟩)
            go_ret
            exact ⟨ret_bool (by rw [← HC.out]; unfold prOK; rw [alls_bad arOK HX.out (by unfold arOK; simp; omega)]; rfl), hwr⟩
          · have HOK : Hid (arOK x = true) := by unfold Hid arOK; rw [HN.out]; simp; omega
            go_wp2_with (go_at_call 36; (with_reducible refine (rnm_is x.name _ HN.out _).mono ?_); rintro e w2 ⟨rfl, rfl⟩)
            go_roundw
            case rel => exact ⟨j + 1, by omega, by go_num, by rw [alls_take arOK HX.out, HAL.out, HOK.out]; rfl, hbw⟩
            case measure => simp [intOf]; omega
    · have HAA : Hid (p.arrays.all arOK = true) := by unfold Hid; rw [← HAL.out, List.take_of_length_le (by omega)]
      clear HAL
      go_wp2_with (fail)
      go_loopw [4] (fun iv wr' => ∃ j : Nat, j ≤ p.funcs.length ∧ iv = .int .i64 j ∧ (p.funcs.take j).all fuOK = true ∧ Below (w.heap.size + 1) (w.alloc (.cells #[.slice A p.arrays.length cap, .slice A2 p.funcs.length cap2] 35)) wr') (fun iv _ => p.funcs.length - (intOf iv).toNat)
      case atStart => exact ⟨0, Nat.zero_le _, rfl, rfl, hbw⟩
      case round =>
        obtain ⟨j2, hj2, rfl, hall2, hbw2⟩ := hrel
        have HAL2 := Lib.hid hall2
        clear hall2
        have hsz2 : w.heap.size + 1 ≤ wr.heap.size := by have := hbw2.size; simpa using this
        have hw2 : Below w.heap.size w wr := ((Below.refl _ _).alloc (Nat.le_refl _) _).trans (hbw2.mono (by omega))
        have hB2 : B ≤ wr.heap.size := by omega
        have hq2 : w.heap.size < wr.heap.size := by omega
        obtain ⟨k20, k21⟩ := HR.out wr hbw2
        by_cases hlt2 : j2 < p.funcs.length
        · obtain ⟨x, hx⟩ : ∃ e, p.funcs[j2]? = some e := ⟨_, List.getElem?_eq_getElem hlt2⟩
          obtain ⟨g, o, v1, v2, rfl, hg, q0, q1, q2, q3, hp, hb⟩ := (HF.out.below (hw2.mono hB) (Nat.le_refl _)).cells hx
          obtain ⟨A3, cap3, rfl, hn3⟩ := hp.form
          obtain ⟨A4, cap4, rfl, _⟩ := hb.form
          have HX := Lib.hid hx
          have HP := Lib.hid hp
          have HS := Lib.hid hb
          have hgs : g < wr.heap.size := by omega
          obtain ⟨b1, hb1⟩ : ∃ b, nmB x.name = b := ⟨_, rfl⟩
          obtain ⟨b2, hb2⟩ : ∃ b, tyB x.type = b := ⟨_, rfl⟩
          obtain ⟨b3, hb3⟩ : ∃ b, stsOK x.body 100 = b := ⟨_, rfl⟩
          have HFU : Hid (fuOK x = (b1 && b2 && decide (x.params.length ≤ 8) && x.params.all paOK && b3)) := by unfold Hid fuOK; rw [hb1, hb2, hb3]
          have HN := Lib.hid hb1
          have HTY := Lib.hid hb2
          have HST := Lib.hid hb3
          clear hx hb1 hb2 hb3 hp hb
          have HBAD : Hid (fuOK x = false → c = false) := fun h => by rw [← HC.out]; unfold prOK; rw [alls_bad fuOK HX.out h]; simp
          cases b1
          · have HF0 : Hid (c = false) := HBAD.out (by rw [HFU.out]; rfl)
            go_wp2_with (go_at_call 36; (with_reducible refine (rnm_is x.name _ HN.out _).mono ?_); rintro e w2 ⟨rfl, rfl⟩)
            go_ret
            exact ⟨ret_bool HF0.out.symm, hw2.alloc (by omega) _⟩
          · cases b2
            · have HF0 : Hid (c = false) := HBAD.out (by rw [HFU.out]; rfl)
              go_wp2_with (first
                | (go_at_call 36; (with_reducible refine (rnm_is x.name _ HN.out _).mono ?_); rintro e w2 ⟨rfl, rfl⟩)
                | (go_at_call 37; (with_reducible refine (isType_is x.type _ HTY.out _).mono ?_); rintro e w2 ⟨rfl, rfl⟩))
              go_ret
              exact ⟨ret_bool HF0.out.symm, hw2.alloc (by omega) _⟩
            · by_cases h8 : x.params.length ≤ 8
              · have h8' : ¬ 8 < x.params.length := by omega
                cases b3
                · have HF0 : Hid (c = false) := HBAD.out (by rw [HFU.out]; simp)
                  go_wp2_with (first
                    | (go_at_call 36; (with_reducible refine (rnm_is x.name _ HN.out _).mono ?_); rintro e w2 ⟨rfl, rfl⟩)
                    | (go_at_call 37; (with_reducible refine (isType_is x.type _ HTY.out _).mono ?_); rintro e w2 ⟨rfl, rfl⟩)
                    | (go_at_call 38; (with_reducible refine (rstmts_any B x.body _ HST.out _ _ (by simp; omega) (HS.out.below ((Below.refl _ _).alloc hB2 _) (Nat.le_refl _))).mono ?_); rintro e w2 ⟨rfl, hx2⟩))
                  go_ret
                  exact ⟨ret_bool HF0.out.symm, (hw2.alloc (by omega) _).trans (hx2.mono (by simp; omega))⟩
                · go_wp2_with (first
                    | (go_at_call 36; (with_reducible refine (rnm_is x.name _ HN.out _).mono ?_); rintro e w2 ⟨rfl, rfl⟩)
                    | (go_at_call 37; (with_reducible refine (isType_is x.type _ HTY.out _).mono ?_); rintro e w2 ⟨rfl, rfl⟩)
                    | (go_at_call 38; (with_reducible refine (rstmts_any B x.body _ HST.out _ _ (by simp; omega) (HS.out.below ((Below.refl _ _).alloc hB2 _) (Nat.le_refl _))).mono ?_); rintro e w2 ⟨rfl, hx2⟩))
                  obtain ⟨W1, rfl⟩ : ∃ W1, W1 = wr := ⟨_, rfl⟩
                  go_loopw [6] (fun iv wi => ∃ q : Nat, q ≤ x.params.length ∧ iv = .int .i64 q ∧ (x.params.take q).all paOK = true ∧ Below (W1.heap.size + 1) (W1.alloc (.cells #[.string x.name, .int .i64 x.type, .slice A3 x.params.length cap3, .slice A4 x.body.length cap4] 46)) wi) (fun iv _ => x.params.length - (intOf iv).toNat)
                  case atStart => exact ⟨0, Nat.zero_le _, rfl, rfl, hx2.mono (by simp)⟩
                  case round =>
                    obtain ⟨q, hq3, rfl, hall3, hbi⟩ := hrel
                    have HAL3 := Lib.hid hall3
                    clear hall3
                    have hqi : W1.heap.size < wr.heap.size := by have h9 : W1.heap.size + 1 ≤ wr.heap.size := (by have := hbi.size; simpa using this); omega
                    have hbw3 : Below W1.heap.size W1 wr := ((Below.refl _ _).alloc (Nat.le_refl _) _).trans (hbi.mono (by omega))
                    have hrow : wr.heap[W1.heap.size]? = some (.cells #[.string x.name, .int .i64 x.type, .slice A3 x.params.length cap3, .slice A4 x.body.length cap4] 46 (0, 0)) := (hbi.block _ (by omega)).trans (heap_alloc_new W1 _)
                    have y2 : wr.cell? ⟨W1.heap.size, 2, none⟩ = some (.slice A3 x.params.length cap3) := by rw [Lib.cell_of_heap hrow]; rfl
                    clear hrow
                    by_cases hlq : q < x.params.length
                    · obtain ⟨y, hy⟩ : ∃ e, x.params[q]? = some e := ⟨_, List.getElem?_eq_getElem hlq⟩
                      obtain ⟨g', o', rfl, hg', r0, r1⟩ := (HP.out.below (hbw3.mono hB2) (Nat.le_refl _)).cells hy
                      have HY := Lib.hid hy
                      have hgs' : g' < wr.heap.size := by omega
                      obtain ⟨c1, hc1⟩ : ∃ b, nmB y.name = b := ⟨_, rfl⟩
                      obtain ⟨c2, hc2⟩ : ∃ b, tyB y.type = b := ⟨_, rfl⟩
                      have HN2 := Lib.hid hc1
                      have HT2 := Lib.hid hc2
                      clear hy hc1 hc2
                      have HPA : Hid (paOK y = (c1 && c2)) := by unfold Hid paOK; rw [HN2.out, HT2.out]
                      cases c1
                      · have HF0 : Hid (c = false) := HBAD.out (by rw [HFU.out, alls_bad paOK HY.out (by rw [HPA.out]; rfl)]; simp)
                        go_wp2_with (go_at_call 36; (with_reducible refine (rnm_is y.name _ HN2.out _).mono ?_); rintro e w2 ⟨rfl, rfl⟩)
                        go_ret
                        exact ⟨ret_bool HF0.out.symm, hw2.trans (hbw3.mono (by omega))⟩
                      · cases c2
                        · have HF0 : Hid (c = false) := HBAD.out (by rw [HFU.out, alls_bad paOK HY.out (by rw [HPA.out]; rfl)]; simp)
                          go_wp2_with (first
                            | (go_at_call 36; (with_reducible refine (rnm_is y.name _ HN2.out _).mono ?_); rintro e w2 ⟨rfl, rfl⟩)
                            | (go_at_call 37; (with_reducible refine (isType_is y.type _ HT2.out _).mono ?_); rintro e w2 ⟨rfl, rfl⟩))
                          go_ret
                          exact ⟨ret_bool HF0.out.symm, hw2.trans (hbw3.mono (by omega))⟩
                        · go_wp2_with (first
                            | (go_at_call 36; (with_reducible refine (rnm_is y.name _ HN2.out _).mono ?_); rintro e w2 ⟨rfl, rfl⟩)
                            | (go_at_call 37; (with_reducible refine (isType_is y.type _ HT2.out _).mono ?_); rintro e w2 ⟨rfl, rfl⟩))
                          go_roundw
                          case rel => exact ⟨q + 1, by omega, by go_num, by rw [alls_take paOK HY.out, HAL3.out, HPA.out]; rfl, hbi⟩
                          case measure => simp [intOf]; omega
                    · have HPP : Hid (x.params.all paOK = true) := by unfold Hid; rw [← HAL3.out, List.take_of_length_le (by omega)]
                      have HFT : Hid (fuOK x = true) := by unfold Hid; rw [HFU.out, HPP.out]; simp [h8]
                      go_wp2_with (fail)
                      go_roundw
                      case rel => exact ⟨j2 + 1, by omega, by go_num, by rw [alls_take fuOK HX.out, HAL2.out, HFT.out]; rfl, hbw2.trans (hbw3.mono hsz2)⟩
                      case measure => simp [intOf]; omega
              · have h8' : 8 < x.params.length := by omega
                have HF0 : Hid (c = false) := HBAD.out (by rw [HFU.out]; simp [h8])
                go_wp2_with (first
                  | (go_at_call 36; (with_reducible refine (rnm_is x.name _ HN.out _).mono ?_); rintro e w2 ⟨rfl, rfl⟩)
                  | (go_at_call 37; (with_reducible refine (isType_is x.type _ HTY.out _).mono ?_); rintro e w2 ⟨rfl, rfl⟩))
                go_ret
                exact ⟨ret_bool HF0.out.symm, hw2.alloc (by omega) _⟩
        · have HFF : Hid (p.funcs.all fuOK = true) := by unfold Hid; rw [← HAL2.out, List.take_of_length_le (by omega)]
          go_wp2_with (fail)
          go_ret
          exact ⟨ret_bool (by rw [← HC.out]; unfold prOK; rw [HAA.out, HFF.out]; rfl), hw2⟩
end Go.Proofs.YtakijoblbmfadaaGreatDoor
