import Derived.Test.YtakijoblbmfadaaGreatDoorMgTreeRefE
import Derived.Deep.DeepCutAuto
import Derived.Deep.CutBlock
import Derived.Deep.LoopGhost
import Derived.Test.YtakijoblbmfadaaGreatDoorMgTreeLeaf
set_option linter.unusedSimpArgs false
set_option linter.unusedVariables false
/- The contract of the document's validation of statements. -/
namespace Go.Proofs.YtakijoblbmfadaaGreatDoor
open Go.RowKit
theorem rexpr_100 (B : Nat) (k op n : Int) (name : ByteArray) (args : List Ex) (A : Option Addr) (cap : Nat) (c : Bool) (w : World) (hc : exOK (.mk k op n name args) 100 = c) (hB : B ≤ w.heap.size) (hs : SlE B w (.slice A args.length cap) args) :
    Calls Tryz.prog 67 #[.agg #[.int .i64 k, .int .i64 op, .int .i64 n, .string name, .slice A args.length cap], .int .i64 100] w fun e w' => e = .returned (.bool c) ∧ Below w.heap.size w w' := (rexpr_all 100).call B 100 k op n name args A cap c w rfl (by omega) (by omega) hc hB hs
set_option maxHeartbeats 16000000 in
set_option maxRecDepth 100000 in
theorem rstmts_step (m : Nat) (ih : ∀ m', m' + 1 = m → RsC m') : RsC m := by
  intro B z l c v w hz hm hc hB hl
  obtain ⟨A, cap, rfl, hn⟩ := hl.form
  have HL := Lib.hid hl
  have HC := Lib.hid hc
  have HI := Lib.hid ih
  have HZ := Lib.hid hz
  have hz0 : 0 ≤ z := by omega
  have hz1 : z ≤ 1000 := by omega
  clear hl hc ih hz
  go_enter Tryz.func38, Tryz.ntmps38
  go_wp2_with (fail)
  go_loopw [5] (fun iv wr => ∃ j : Nat, j ≤ l.length ∧ iv = .int .i64 j ∧ stsOK (l.take j) m = true ∧ Below w.heap.size w wr) (fun iv _ => l.length - (intOf iv).toNat)
  case atStart => exact ⟨0, Nat.zero_le _, rfl, stsOK_nil _, Below.refl _ _⟩
  case round =>
    obtain ⟨j, hj, rfl, hall, hwr⟩ := hrel
    have HA := Lib.hid hall
    clear hall
    have hsz := hwr.size
    have hBr : B ≤ wr.heap.size := Nat.le_trans hB hsz
    by_cases hlt : j < l.length
    · obtain ⟨⟨k0, ty, name, args, thn, els⟩, he⟩ : ∃ e, l[j]? = some e := ⟨_, List.getElem?_eq_getElem hlt⟩
      have HE := Lib.hid he
      obtain ⟨g, o, v, v4, v5, rfl, hg, h0, h1, h2, h3, h4, h5, hs, hs4, hs5⟩ := (HL.out.below (hwr.mono hB) (Nat.le_refl _)).cells he
      obtain ⟨A', cap', rfl, hn'⟩ := hs.form
      obtain ⟨A4, cap4, rfl, hn4⟩ := hs4.form
      obtain ⟨A5, cap5, rfl, hn5⟩ := hs5.form
      have HS := Lib.hid hs
      have HS4 := Lib.hid hs4
      have HS5 := Lib.hid hs5
      have hgs : g < wr.heap.size := by omega
      clear he hs hs4 hs5
      obtain ⟨nb, hnb⟩ : ∃ nb, nmB name = nb := ⟨_, rfl⟩
      obtain ⟨tb, htb⟩ : ∃ tb, shT k0 = tb := ⟨_, rfl⟩
      obtain ⟨nbk, hnbk⟩ : ∃ nbk, shN k0 = nbk := ⟨_, rfl⟩
      obtain ⟨na, hna⟩ : ∃ na, shA k0 = na := ⟨_, rfl⟩
      obtain ⟨bb, hbb⟩ : ∃ bb, shB k0 = bb := ⟨_, rfl⟩
      obtain ⟨eb, heb⟩ : ∃ eb, shE k0 = eb := ⟨_, rfl⟩
      have HF1 : Hid (f1 k0 ty name args.length = (decide ((args.length : Int) = na) && (tb == tyB ty) && (tb || decide (ty = 0)) && (nbk == nb) && (nbk || eB name))) := by unfold Hid f1; rw [hna, htb, hnbk, hnb]
      have HF3 : Hid (f3 k0 thn.length els.length (callB args) = ((bb || decide (thn.length = 0)) && (eb || decide (els.length = 0)) && (!(decide (k0 = 10)) || callB args))) := by unfold Hid f3; rw [hbb, heb]
      have HNA := Lib.hid hna
      have HTN : Hid (tb = true → nbk = true) := by unfold Hid; rw [← htb, ← hnbk]; unfold shT shN; simp; intro h; exact .inl h
      have HNB := Lib.hid hnb
      have HSH : Hid (∀ w', Calls Tryz.prog 66 #[.int .i64 k0] w' fun e w2 => e = .returned (.tuple #[.bool tb, .bool nbk, .int .i64 na, .bool bb, .bool eb]) ∧ w' = w2) := fun w' => shape_is k0 tb nbk bb eb na htb hnbk hna hbb heb w'
      clear hnb htb hnbk hna hbb heb
      rcases m with _ | m'
      · have hd : z < 1 := by have := HZ.out; omega
        have HF : Hid (c = false) := by
          unfold Hid
          rw [← HC.out]
          exact stsOK_bad HE.out (by rw [stOK_mk]; simp)
        go_wp2_with (go_at_call 66; (with_reducible refine (HSH.out _).mono ?_); rintro e w2 ⟨rfl, rfl⟩)
        go_ret
        exact ⟨ret_bool HF.out.symm, hwr.alloc hsz _⟩
      · have hd : ¬ z < 1 := by have := HZ.out; omega
        have HZ1 : Hid (z - 1 = (m' : Int)) := by have := HZ.out; unfold Hid; omega
        have hm' : m' ≤ 1000 := by omega
        have HSO : Hid (stOK (.mk k0 ty name args thn els) (m' + 1) = (f1 k0 ty name args.length && f3 k0 thn.length els.length (callB args) && exsOK args 100 && stsOK thn m' && stsOK els m')) := by
          unfold Hid
          rw [stOK_mk, formS_split, Nat.add_sub_cancel]
          simp
        obtain ⟨hb, hhb⟩ : ∃ b, f1 k0 ty name args.length = b := ⟨_, rfl⟩
        have HHB := Lib.hid hhb
        clear hhb
        have hdb : decide (z < 1) = false := by simpa using hd
        go_upto_region 6 with ((go_at_call 66; (with_reducible refine (HSH.out _).mono ?_); rintro e w2 ⟨rfl, rfl⟩))
        go_cut [77] (fun tv wx => wr.alloc (.cells #[.int .i64 k0, .int .i64 ty, .string name, .slice A' args.length cap', .slice A4 thn.length cap4, .slice A5 els.length cap5] 78) = wx ∧ tv = .bool (!hb))
        case first =>
          as_aux_lemma =>
            by_cases hlen : ¬ (args.length : Int) = na
            · have hl2 : ((args.length : Int) == na) = false := by simpa using hlen
              have HV : Hid (hb = false) := by unfold Hid; rw [← HHB.out, HF1.out]; simp [tyB, hlen]
              go_wp2_with ((go_at_call 36; (with_reducible refine (rnm_is name _ HNB.out _).mono ?_); rintro e w2 ⟨rfl, rfl⟩))
              all_goals go_meet
              all_goals exact ⟨rfl, by rw [HV.out]; rfl⟩
            replace hlen : (args.length : Int) = na := by omega
            have hl2 : ((args.length : Int) == na) = true := by simpa using hlen
            by_cases hy0 : ty = 0
            · subst hy0
              cases tb
              · cases nbk
                · cases nb
                  · by_cases hnm : eB name = true
                    · have hnl : name.toList = [] := (tl_nil2 name).2 (by simpa [eB] using hnm)
                      have HV : Hid (hb = true) := by unfold Hid; rw [← HHB.out, HF1.out]; simp [tyB, hlen, hnm]
                      go_wp2_with ((go_at_call 36; (with_reducible refine (rnm_is name _ HNB.out _).mono ?_); rintro e w2 ⟨rfl, rfl⟩))
                      all_goals go_meet
                      all_goals exact ⟨rfl, by rw [HV.out]; rfl⟩
                    · have hnl0 : ¬ name.toList = [] := fun h => hnm (by simpa [eB] using (tl_nil2 name).1 h)
                      have hnl : name.toList.isEmpty = false := by simpa using hnl0
                      clear hnl0
                      have HV : Hid (hb = false) := by unfold Hid; rw [← HHB.out, HF1.out]; simp [tyB, hnm]
                      go_wp2_with ((go_at_call 36; (with_reducible refine (rnm_is name _ HNB.out _).mono ?_); rintro e w2 ⟨rfl, rfl⟩))
                      all_goals go_meet
                      all_goals exact ⟨rfl, by rw [HV.out]; rfl⟩
                  · have HV : Hid (hb = false) := by unfold Hid; rw [← HHB.out, HF1.out]; simp [tyB]
                    go_wp2_with ((go_at_call 36; (with_reducible refine (rnm_is name _ HNB.out _).mono ?_); rintro e w2 ⟨rfl, rfl⟩))
                    all_goals go_meet
                    all_goals exact ⟨rfl, by rw [HV.out]; rfl⟩
                · cases nb
                  · have HV : Hid (hb = false) := by unfold Hid; rw [← HHB.out, HF1.out]; simp [tyB]
                    go_wp2_with ((go_at_call 36; (with_reducible refine (rnm_is name _ HNB.out _).mono ?_); rintro e w2 ⟨rfl, rfl⟩))
                    all_goals go_meet
                    all_goals exact ⟨rfl, by rw [HV.out]; rfl⟩
                  · have HV : Hid (hb = true) := by unfold Hid; rw [← HHB.out, HF1.out]; simp [tyB, hlen]
                    go_wp2_with ((go_at_call 36; (with_reducible refine (rnm_is name _ HNB.out _).mono ?_); rintro e w2 ⟨rfl, rfl⟩))
                    all_goals go_meet
                    all_goals exact ⟨rfl, by rw [HV.out]; rfl⟩
              · have HV : Hid (hb = false) := by unfold Hid; rw [← HHB.out, HF1.out]; simp [tyB]
                go_wp2_with ((go_at_call 36; (with_reducible refine (rnm_is name _ HNB.out _).mono ?_); rintro e w2 ⟨rfl, rfl⟩))
                all_goals go_meet
                all_goals exact ⟨rfl, by rw [HV.out]; rfl⟩
            · by_cases hy1 : ty = 1
              · subst hy1
                cases tb
                · have HV : Hid (hb = false) := by unfold Hid; rw [← HHB.out, HF1.out]; simp [tyB]
                  go_wp2_with ((go_at_call 36; (with_reducible refine (rnm_is name _ HNB.out _).mono ?_); rintro e w2 ⟨rfl, rfl⟩))
                  all_goals go_meet
                  all_goals exact ⟨rfl, by rw [HV.out]; rfl⟩
                · obtain rfl : nbk = true := HTN.out rfl
                  cases nb
                  · have HV : Hid (hb = false) := by unfold Hid; rw [← HHB.out, HF1.out]; simp [tyB]
                    go_wp2_with ((go_at_call 36; (with_reducible refine (rnm_is name _ HNB.out _).mono ?_); rintro e w2 ⟨rfl, rfl⟩))
                    all_goals go_meet
                    all_goals exact ⟨rfl, by rw [HV.out]; rfl⟩
                  · have HV : Hid (hb = true) := by unfold Hid; rw [← HHB.out, HF1.out]; simp [tyB, hlen]
                    go_wp2_with ((go_at_call 36; (with_reducible refine (rnm_is name _ HNB.out _).mono ?_); rintro e w2 ⟨rfl, rfl⟩))
                    all_goals go_meet
                    all_goals exact ⟨rfl, by rw [HV.out]; rfl⟩
              · by_cases hy2 : ty = 2
                · subst hy2
                  cases tb
                  · have HV : Hid (hb = false) := by unfold Hid; rw [← HHB.out, HF1.out]; simp [tyB]
                    go_wp2_with ((go_at_call 36; (with_reducible refine (rnm_is name _ HNB.out _).mono ?_); rintro e w2 ⟨rfl, rfl⟩))
                    all_goals go_meet
                    all_goals exact ⟨rfl, by rw [HV.out]; rfl⟩
                  · obtain rfl : nbk = true := HTN.out rfl
                    cases nb
                    · have HV : Hid (hb = false) := by unfold Hid; rw [← HHB.out, HF1.out]; simp [tyB]
                      go_wp2_with ((go_at_call 36; (with_reducible refine (rnm_is name _ HNB.out _).mono ?_); rintro e w2 ⟨rfl, rfl⟩))
                      all_goals go_meet
                      all_goals exact ⟨rfl, by rw [HV.out]; rfl⟩
                    · have HV : Hid (hb = true) := by unfold Hid; rw [← HHB.out, HF1.out]; simp [tyB, hlen]
                      go_wp2_with ((go_at_call 36; (with_reducible refine (rnm_is name _ HNB.out _).mono ?_); rintro e w2 ⟨rfl, rfl⟩))
                      all_goals go_meet
                      all_goals exact ⟨rfl, by rw [HV.out]; rfl⟩
                · have hn0 : (ty == 0) = false := by simpa using hy0
                  have hn1 : (ty == 1) = false := by simpa using hy1
                  have hn2 : (ty == 2) = false := by simpa using hy2
                  cases tb
                  · have HV : Hid (hb = false) := by unfold Hid; rw [← HHB.out, HF1.out]; simp [tyB, hy0, hy1, hy2]
                    go_wp2_with ((go_at_call 36; (with_reducible refine (rnm_is name _ HNB.out _).mono ?_); rintro e w2 ⟨rfl, rfl⟩))
                    all_goals go_meet
                    all_goals exact ⟨rfl, by rw [HV.out]; rfl⟩
                  · have HV : Hid (hb = false) := by unfold Hid; rw [← HHB.out, HF1.out]; simp [tyB, hy0, hy1, hy2]
                    go_wp2_with ((go_at_call 36; (with_reducible refine (rnm_is name _ HNB.out _).mono ?_); rintro e w2 ⟨rfl, rfl⟩))
                    all_goals go_meet
                    all_goals exact ⟨rfl, by rw [HV.out]; rfl⟩
        case rest =>
          obtain ⟨rfl, htv⟩ := hcut
          cases hb
          · change _ = Value.bool true at htv
            subst htv
            have HF : Hid (c = false) := by
              unfold Hid
              rw [← HC.out]
              exact stsOK_bad HE.out (by rw [HSO.out, HHB.out]; simp)
            go_wp2_with (fail)
            go_ret
            exact ⟨ret_bool HF.out.symm, hwr.alloc hsz _⟩
          · change _ = Value.bool false at htv
            subst htv
            have hlen : (args.length : Int) = na := by
              have h := HF1.out
              rw [HHB.out] at h
              have h := h.symm
              simp only [Bool.and_eq_true, decide_eq_true_eq] at h
              exact h.1.1.1.1
            subst hlen
            have HP1 : Hid (f1 k0 ty name args.length = true) := HHB
            clear HHB
            obtain ⟨W0, rfl⟩ : ∃ W0, W0 = wr := ⟨_, rfl⟩
            clear HF1 HSH HTN HNB HL
            go_wp2_with (fail)
            go_loopw [12] (fun iv wi => ∃ q : Nat, q ≤ args.length ∧ iv = .int .i64 q ∧ exsOK (args.take q) 100 = true ∧ Below (W0.heap.size + 1) (W0.alloc (.cells #[.int .i64 k0, .int .i64 ty, .string name, .slice A' args.length cap', .slice A4 thn.length cap4, .slice A5 els.length cap5] 78)) wi) (fun iv _ => args.length - (intOf iv).toNat)
            case atStart => exact ⟨0, Nat.zero_le _, rfl, exsOK_nil _, Below.refl _ _⟩
            case round =>
              as_aux_lemma =>
                obtain ⟨q, hq, rfl, hallq, hbi⟩ := hrel
                have HAQ := Lib.hid hallq
                clear hallq
                have hqi : W0.heap.size < wr.heap.size := by have h9 : W0.heap.size + 1 ≤ wr.heap.size := (by have := hbi.size; simpa using this); omega
                have hbw : Below W0.heap.size W0 wr := ((Below.refl _ _).alloc (Nat.le_refl _) _).trans (hbi.mono (by omega))
                have hBi : B ≤ wr.heap.size := by omega
                have hrow : wr.heap[W0.heap.size]? = some (.cells #[.int .i64 k0, .int .i64 ty, .string name, .slice A' args.length cap', .slice A4 thn.length cap4, .slice A5 els.length cap5] 78 (0, 0)) := (hbi.block _ (by omega)).trans (heap_alloc_new W0 _)
                have y0 : wr.cell? ⟨W0.heap.size, 0, none⟩ = some (.int .i64 k0) := by rw [Lib.cell_of_heap hrow]; rfl
                have y3 : wr.cell? ⟨W0.heap.size, 3, none⟩ = some (.slice A' args.length cap') := by rw [Lib.cell_of_heap hrow]; rfl
                have y4 : wr.cell? ⟨W0.heap.size, 4, none⟩ = some (.slice A4 thn.length cap4) := by rw [Lib.cell_of_heap hrow]; rfl
                have y5 : wr.cell? ⟨W0.heap.size, 5, none⟩ = some (.slice A5 els.length cap5) := by rw [Lib.cell_of_heap hrow]; rfl
                clear hrow h0 h1 h2 h3 h4 h5
                by_cases hlq : q < args.length
                · obtain ⟨⟨kk, op', n', name', args'⟩, hx⟩ : ∃ e, args[q]? = some e := ⟨_, List.getElem?_eq_getElem hlq⟩
                  obtain ⟨g', o', v', rfl, hg', q0, q1, q2, q3, q4, hs'⟩ := (HS.out.below (hbw.mono hBr) (Nat.le_refl _)).cells hx
                  obtain ⟨A6, cap6, rfl, hn6⟩ := hs'.form
                  obtain ⟨bx, hbx⟩ : ∃ b, exOK (.mk kk op' n' name' args') 100 = b := ⟨_, rfl⟩
                  have HX := Lib.hid hx
                  have HSX := Lib.hid hs'
                  have HBX := Lib.hid hbx
                  have hgs' : g' < wr.heap.size := by omega
                  clear hx hs' hbx
                  cases bx
                  · have HF : Hid (c = false) := by
                      unfold Hid
                      rw [← HC.out]
                      exact stsOK_bad HE.out (by rw [HSO.out, exsOK_bad HX.out HBX.out]; simp)
                    go_wp2_with (go_at_call 67; (with_reducible refine (rexpr_100 B _ _ _ _ _ _ _ _ _ HBX.out hBi HSX.out).mono ?_); rintro e w2 ⟨rfl, hx2⟩)
                    go_ret
                    exact ⟨ret_bool HF.out.symm, hwr.trans ((hbw.trans (hx2.mono (Nat.le_of_lt hqi))).mono hsz)⟩
                  · go_wp2_with (go_at_call 67; (with_reducible refine (rexpr_100 B _ _ _ _ _ _ _ _ _ HBX.out hBi HSX.out).mono ?_); rintro e w2 ⟨rfl, hx2⟩)
                    go_roundw
                    case rel => exact ⟨q + 1, by omega, by go_num, by rw [exsOK_take HX.out, HAQ.out, HBX.out]; rfl, hbi.trans (hx2.mono (Nat.succ_le_of_lt hqi))⟩
                    case measure => simp [intOf]; omega
                · have H2 : Hid (exsOK args 100 = true) := by unfold Hid; rw [← HAQ.out, List.take_of_length_le (by omega)]
                  clear HAQ
                  obtain ⟨b4, hb4⟩ : ∃ b, stsOK thn m' = b := ⟨_, rfl⟩
                  obtain ⟨b5, hb5⟩ : ∃ b, stsOK els m' = b := ⟨_, rfl⟩
                  have HB4 := Lib.hid hb4
                  have HB5 := Lib.hid hb5
                  clear hb4 hb5
                  by_cases h10 : k0 = 10
                  · subst h10
                    have hl1 : args.length = 1 := by have := HNA.out; simp [shA] at this; omega
                    obtain ⟨⟨kk, op', n', name', args'⟩, hx⟩ : ∃ e, args[0]? = some e := ⟨_, List.getElem?_eq_getElem (by omega)⟩
                    obtain ⟨g', o', v', rfl, hg', q0, q1, q2, q3, q4, hs'⟩ := (HS.out.below (hbw.mono hBr) (Nat.le_refl _)).cells hx
                    have HCB : Hid (callB args = decide (kk = 7)) := by
                      unfold Hid
                      cases args with
                      | nil => simp at hx
                      | cons a r => simp at hx; subst hx; rfl
                    have z0 : wr.cell? ⟨g', o', none⟩ = some (.int .i64 kk) := by simpa using q0
                    have hgs' : g' < wr.heap.size := by omega
                    have hl0 : 0 < args.length := by omega
                    clear hx hs' q0 q1 q2 q3 q4
                    by_cases hk7 : kk = 7
                    · subst hk7
                      as_aux_lemma =>
                        cases bb
                        · by_cases hth : thn.length = 0
                          · have hth0 : ¬ 0 < thn.length := by omega
                            replace HS4 : Hid (SlS B W0 (.slice A4 0 cap4) thn) := by have h := HS4.out; rw [hth] at h; exact h
                            cases eb
                            · by_cases hel : els.length = 0
                              · have hel0 : ¬ 0 < els.length := by omega
                                replace HS5 : Hid (SlS B W0 (.slice A5 0 cap5) els) := by have h := HS5.out; rw [hel] at h; exact h
                                cases b4
                                · have HF : Hid (c = false) := by
                                    unfold Hid
                                    rw [← HC.out]
                                    exact stsOK_bad HE.out (by rw [HSO.out, HB4.out]; simp)
                                  go_wp2_with (first
                                    | (go_at_call 38; (with_reducible refine ((HI.out m' rfl).call B _ thn _ _ _ HZ1.out hm' HB4.out hBi (HS4.out.below (hbw.mono hBr) (Nat.le_refl _))).mono ?_); rintro e w3 ⟨rfl, hx3⟩; obtain ⟨hc3, hf3⟩ := bcell hx3; have hb3 : Below W0.heap.size W0 w3 := hbw.trans (hx3.mono (Nat.le_of_lt hqi)); have hB3 : B ≤ w3.heap.size := (Nat.le_trans hBr hb3.size))
                                    | (go_at_call 38; (with_reducible refine ((HI.out m' rfl).call B _ els _ _ _ HZ1.out hm' HB5.out hB3 (HS5.out.below (hb3.mono hBr) (Nat.le_refl _))).mono ?_); rintro e w4 ⟨rfl, hx4⟩; have hb4 : Below W0.heap.size W0 w4 := hb3.trans (hx4.mono (Nat.le_trans (Nat.le_of_lt hqi) hx3.size))))
                                  go_ret
                                  exact ⟨ret_bool HF.out.symm, hwr.trans (hb3.mono hsz)⟩
                                · cases b5
                                  · have HF : Hid (c = false) := by
                                      unfold Hid
                                      rw [← HC.out]
                                      exact stsOK_bad HE.out (by rw [HSO.out, HB5.out]; simp)
                                    go_wp2_with (first
                                      | (go_at_call 38; (with_reducible refine ((HI.out m' rfl).call B _ thn _ _ _ HZ1.out hm' HB4.out hBi (HS4.out.below (hbw.mono hBr) (Nat.le_refl _))).mono ?_); rintro e w3 ⟨rfl, hx3⟩; obtain ⟨hc3, hf3⟩ := bcell hx3; have hb3 : Below W0.heap.size W0 w3 := hbw.trans (hx3.mono (Nat.le_of_lt hqi)); have hB3 : B ≤ w3.heap.size := (Nat.le_trans hBr hb3.size))
                                      | (go_at_call 38; (with_reducible refine ((HI.out m' rfl).call B _ els _ _ _ HZ1.out hm' HB5.out hB3 (HS5.out.below (hb3.mono hBr) (Nat.le_refl _))).mono ?_); rintro e w4 ⟨rfl, hx4⟩; have hb4 : Below W0.heap.size W0 w4 := hb3.trans (hx4.mono (Nat.le_trans (Nat.le_of_lt hqi) hx3.size))))
                                    go_ret
                                    exact ⟨ret_bool HF.out.symm, hwr.trans (hb4.mono hsz)⟩
                                  · go_wp2_with (first
                                      | (go_at_call 38; (with_reducible refine ((HI.out m' rfl).call B _ thn _ _ _ HZ1.out hm' HB4.out hBi (HS4.out.below (hbw.mono hBr) (Nat.le_refl _))).mono ?_); rintro e w3 ⟨rfl, hx3⟩; obtain ⟨hc3, hf3⟩ := bcell hx3; have hb3 : Below W0.heap.size W0 w3 := hbw.trans (hx3.mono (Nat.le_of_lt hqi)); have hB3 : B ≤ w3.heap.size := (Nat.le_trans hBr hb3.size))
                                      | (go_at_call 38; (with_reducible refine ((HI.out m' rfl).call B _ els _ _ _ HZ1.out hm' HB5.out hB3 (HS5.out.below (hb3.mono hBr) (Nat.le_refl _))).mono ?_); rintro e w4 ⟨rfl, hx4⟩; have hb4 : Below W0.heap.size W0 w4 := hb3.trans (hx4.mono (Nat.le_trans (Nat.le_of_lt hqi) hx3.size))))
                                    go_roundw
                                    case rel => exact ⟨j + 1, by omega, by go_num, by rw [stsOK_take HE.out, HA.out, HSO.out, HP1.out, HF3.out, H2.out, HB4.out, HB5.out, HCB.out]; simp [hth, hel], hwr.trans (hb4.mono hsz)⟩
                                    case measure => simp [intOf]; omega
                              · have hel0 : 0 < els.length := by omega
                                have HF : Hid (c = false) := by
                                  unfold Hid
                                  rw [← HC.out]
                                  exact stsOK_bad HE.out (by rw [HSO.out, HF3.out]; simp [hel])
                                go_wp2_with (fail)
                                go_ret
                                exact ⟨ret_bool HF.out.symm, hwr.trans (hbw.mono hsz)⟩
                            · cases b4
                              · have HF : Hid (c = false) := by
                                  unfold Hid
                                  rw [← HC.out]
                                  exact stsOK_bad HE.out (by rw [HSO.out, HB4.out]; simp)
                                go_wp2_with (first
                                  | (go_at_call 38; (with_reducible refine ((HI.out m' rfl).call B _ thn _ _ _ HZ1.out hm' HB4.out hBi (HS4.out.below (hbw.mono hBr) (Nat.le_refl _))).mono ?_); rintro e w3 ⟨rfl, hx3⟩; obtain ⟨hc3, hf3⟩ := bcell hx3; have hb3 : Below W0.heap.size W0 w3 := hbw.trans (hx3.mono (Nat.le_of_lt hqi)); have hB3 : B ≤ w3.heap.size := (Nat.le_trans hBr hb3.size))
                                  | (go_at_call 38; (with_reducible refine ((HI.out m' rfl).call B _ els _ _ _ HZ1.out hm' HB5.out hB3 (HS5.out.below (hb3.mono hBr) (Nat.le_refl _))).mono ?_); rintro e w4 ⟨rfl, hx4⟩; have hb4 : Below W0.heap.size W0 w4 := hb3.trans (hx4.mono (Nat.le_trans (Nat.le_of_lt hqi) hx3.size))))
                                go_ret
                                exact ⟨ret_bool HF.out.symm, hwr.trans (hb3.mono hsz)⟩
                              · cases b5
                                · have HF : Hid (c = false) := by
                                    unfold Hid
                                    rw [← HC.out]
                                    exact stsOK_bad HE.out (by rw [HSO.out, HB5.out]; simp)
                                  go_wp2_with (first
                                    | (go_at_call 38; (with_reducible refine ((HI.out m' rfl).call B _ thn _ _ _ HZ1.out hm' HB4.out hBi (HS4.out.below (hbw.mono hBr) (Nat.le_refl _))).mono ?_); rintro e w3 ⟨rfl, hx3⟩; obtain ⟨hc3, hf3⟩ := bcell hx3; have hb3 : Below W0.heap.size W0 w3 := hbw.trans (hx3.mono (Nat.le_of_lt hqi)); have hB3 : B ≤ w3.heap.size := (Nat.le_trans hBr hb3.size))
                                    | (go_at_call 38; (with_reducible refine ((HI.out m' rfl).call B _ els _ _ _ HZ1.out hm' HB5.out hB3 (HS5.out.below (hb3.mono hBr) (Nat.le_refl _))).mono ?_); rintro e w4 ⟨rfl, hx4⟩; have hb4 : Below W0.heap.size W0 w4 := hb3.trans (hx4.mono (Nat.le_trans (Nat.le_of_lt hqi) hx3.size))))
                                  go_ret
                                  exact ⟨ret_bool HF.out.symm, hwr.trans (hb4.mono hsz)⟩
                                · go_wp2_with (first
                                    | (go_at_call 38; (with_reducible refine ((HI.out m' rfl).call B _ thn _ _ _ HZ1.out hm' HB4.out hBi (HS4.out.below (hbw.mono hBr) (Nat.le_refl _))).mono ?_); rintro e w3 ⟨rfl, hx3⟩; obtain ⟨hc3, hf3⟩ := bcell hx3; have hb3 : Below W0.heap.size W0 w3 := hbw.trans (hx3.mono (Nat.le_of_lt hqi)); have hB3 : B ≤ w3.heap.size := (Nat.le_trans hBr hb3.size))
                                    | (go_at_call 38; (with_reducible refine ((HI.out m' rfl).call B _ els _ _ _ HZ1.out hm' HB5.out hB3 (HS5.out.below (hb3.mono hBr) (Nat.le_refl _))).mono ?_); rintro e w4 ⟨rfl, hx4⟩; have hb4 : Below W0.heap.size W0 w4 := hb3.trans (hx4.mono (Nat.le_trans (Nat.le_of_lt hqi) hx3.size))))
                                  go_roundw
                                  case rel => exact ⟨j + 1, by omega, by go_num, by rw [stsOK_take HE.out, HA.out, HSO.out, HP1.out, HF3.out, H2.out, HB4.out, HB5.out, HCB.out]; simp [hth], hwr.trans (hb4.mono hsz)⟩
                                  case measure => simp [intOf]; omega
                          · have hth0 : 0 < thn.length := by omega
                            have HF : Hid (c = false) := by
                              unfold Hid
                              rw [← HC.out]
                              exact stsOK_bad HE.out (by rw [HSO.out, HF3.out]; simp [hth])
                            go_wp2_with (fail)
                            go_ret
                            exact ⟨ret_bool HF.out.symm, hwr.trans (hbw.mono hsz)⟩
                        · cases eb
                          · by_cases hel : els.length = 0
                            · have hel0 : ¬ 0 < els.length := by omega
                              replace HS5 : Hid (SlS B W0 (.slice A5 0 cap5) els) := by have h := HS5.out; rw [hel] at h; exact h
                              cases b4
                              · have HF : Hid (c = false) := by
                                  unfold Hid
                                  rw [← HC.out]
                                  exact stsOK_bad HE.out (by rw [HSO.out, HB4.out]; simp)
                                go_wp2_with (first
                                  | (go_at_call 38; (with_reducible refine ((HI.out m' rfl).call B _ thn _ _ _ HZ1.out hm' HB4.out hBi (HS4.out.below (hbw.mono hBr) (Nat.le_refl _))).mono ?_); rintro e w3 ⟨rfl, hx3⟩; obtain ⟨hc3, hf3⟩ := bcell hx3; have hb3 : Below W0.heap.size W0 w3 := hbw.trans (hx3.mono (Nat.le_of_lt hqi)); have hB3 : B ≤ w3.heap.size := (Nat.le_trans hBr hb3.size))
                                  | (go_at_call 38; (with_reducible refine ((HI.out m' rfl).call B _ els _ _ _ HZ1.out hm' HB5.out hB3 (HS5.out.below (hb3.mono hBr) (Nat.le_refl _))).mono ?_); rintro e w4 ⟨rfl, hx4⟩; have hb4 : Below W0.heap.size W0 w4 := hb3.trans (hx4.mono (Nat.le_trans (Nat.le_of_lt hqi) hx3.size))))
                                go_ret
                                exact ⟨ret_bool HF.out.symm, hwr.trans (hb3.mono hsz)⟩
                              · cases b5
                                · have HF : Hid (c = false) := by
                                    unfold Hid
                                    rw [← HC.out]
                                    exact stsOK_bad HE.out (by rw [HSO.out, HB5.out]; simp)
                                  go_wp2_with (first
                                    | (go_at_call 38; (with_reducible refine ((HI.out m' rfl).call B _ thn _ _ _ HZ1.out hm' HB4.out hBi (HS4.out.below (hbw.mono hBr) (Nat.le_refl _))).mono ?_); rintro e w3 ⟨rfl, hx3⟩; obtain ⟨hc3, hf3⟩ := bcell hx3; have hb3 : Below W0.heap.size W0 w3 := hbw.trans (hx3.mono (Nat.le_of_lt hqi)); have hB3 : B ≤ w3.heap.size := (Nat.le_trans hBr hb3.size))
                                    | (go_at_call 38; (with_reducible refine ((HI.out m' rfl).call B _ els _ _ _ HZ1.out hm' HB5.out hB3 (HS5.out.below (hb3.mono hBr) (Nat.le_refl _))).mono ?_); rintro e w4 ⟨rfl, hx4⟩; have hb4 : Below W0.heap.size W0 w4 := hb3.trans (hx4.mono (Nat.le_trans (Nat.le_of_lt hqi) hx3.size))))
                                  go_ret
                                  exact ⟨ret_bool HF.out.symm, hwr.trans (hb4.mono hsz)⟩
                                · go_wp2_with (first
                                    | (go_at_call 38; (with_reducible refine ((HI.out m' rfl).call B _ thn _ _ _ HZ1.out hm' HB4.out hBi (HS4.out.below (hbw.mono hBr) (Nat.le_refl _))).mono ?_); rintro e w3 ⟨rfl, hx3⟩; obtain ⟨hc3, hf3⟩ := bcell hx3; have hb3 : Below W0.heap.size W0 w3 := hbw.trans (hx3.mono (Nat.le_of_lt hqi)); have hB3 : B ≤ w3.heap.size := (Nat.le_trans hBr hb3.size))
                                    | (go_at_call 38; (with_reducible refine ((HI.out m' rfl).call B _ els _ _ _ HZ1.out hm' HB5.out hB3 (HS5.out.below (hb3.mono hBr) (Nat.le_refl _))).mono ?_); rintro e w4 ⟨rfl, hx4⟩; have hb4 : Below W0.heap.size W0 w4 := hb3.trans (hx4.mono (Nat.le_trans (Nat.le_of_lt hqi) hx3.size))))
                                  go_roundw
                                  case rel => exact ⟨j + 1, by omega, by go_num, by rw [stsOK_take HE.out, HA.out, HSO.out, HP1.out, HF3.out, H2.out, HB4.out, HB5.out, HCB.out]; simp [hel], hwr.trans (hb4.mono hsz)⟩
                                  case measure => simp [intOf]; omega
                            · have hel0 : 0 < els.length := by omega
                              have HF : Hid (c = false) := by
                                unfold Hid
                                rw [← HC.out]
                                exact stsOK_bad HE.out (by rw [HSO.out, HF3.out]; simp [hel])
                              go_wp2_with (fail)
                              go_ret
                              exact ⟨ret_bool HF.out.symm, hwr.trans (hbw.mono hsz)⟩
                          · cases b4
                            · have HF : Hid (c = false) := by
                                unfold Hid
                                rw [← HC.out]
                                exact stsOK_bad HE.out (by rw [HSO.out, HB4.out]; simp)
                              go_wp2_with (first
                                | (go_at_call 38; (with_reducible refine ((HI.out m' rfl).call B _ thn _ _ _ HZ1.out hm' HB4.out hBi (HS4.out.below (hbw.mono hBr) (Nat.le_refl _))).mono ?_); rintro e w3 ⟨rfl, hx3⟩; obtain ⟨hc3, hf3⟩ := bcell hx3; have hb3 : Below W0.heap.size W0 w3 := hbw.trans (hx3.mono (Nat.le_of_lt hqi)); have hB3 : B ≤ w3.heap.size := (Nat.le_trans hBr hb3.size))
                                | (go_at_call 38; (with_reducible refine ((HI.out m' rfl).call B _ els _ _ _ HZ1.out hm' HB5.out hB3 (HS5.out.below (hb3.mono hBr) (Nat.le_refl _))).mono ?_); rintro e w4 ⟨rfl, hx4⟩; have hb4 : Below W0.heap.size W0 w4 := hb3.trans (hx4.mono (Nat.le_trans (Nat.le_of_lt hqi) hx3.size))))
                              go_ret
                              exact ⟨ret_bool HF.out.symm, hwr.trans (hb3.mono hsz)⟩
                            · cases b5
                              · have HF : Hid (c = false) := by
                                  unfold Hid
                                  rw [← HC.out]
                                  exact stsOK_bad HE.out (by rw [HSO.out, HB5.out]; simp)
                                go_wp2_with (first
                                  | (go_at_call 38; (with_reducible refine ((HI.out m' rfl).call B _ thn _ _ _ HZ1.out hm' HB4.out hBi (HS4.out.below (hbw.mono hBr) (Nat.le_refl _))).mono ?_); rintro e w3 ⟨rfl, hx3⟩; obtain ⟨hc3, hf3⟩ := bcell hx3; have hb3 : Below W0.heap.size W0 w3 := hbw.trans (hx3.mono (Nat.le_of_lt hqi)); have hB3 : B ≤ w3.heap.size := (Nat.le_trans hBr hb3.size))
                                  | (go_at_call 38; (with_reducible refine ((HI.out m' rfl).call B _ els _ _ _ HZ1.out hm' HB5.out hB3 (HS5.out.below (hb3.mono hBr) (Nat.le_refl _))).mono ?_); rintro e w4 ⟨rfl, hx4⟩; have hb4 : Below W0.heap.size W0 w4 := hb3.trans (hx4.mono (Nat.le_trans (Nat.le_of_lt hqi) hx3.size))))
                                go_ret
                                exact ⟨ret_bool HF.out.symm, hwr.trans (hb4.mono hsz)⟩
                              · go_wp2_with (first
                                  | (go_at_call 38; (with_reducible refine ((HI.out m' rfl).call B _ thn _ _ _ HZ1.out hm' HB4.out hBi (HS4.out.below (hbw.mono hBr) (Nat.le_refl _))).mono ?_); rintro e w3 ⟨rfl, hx3⟩; obtain ⟨hc3, hf3⟩ := bcell hx3; have hb3 : Below W0.heap.size W0 w3 := hbw.trans (hx3.mono (Nat.le_of_lt hqi)); have hB3 : B ≤ w3.heap.size := (Nat.le_trans hBr hb3.size))
                                  | (go_at_call 38; (with_reducible refine ((HI.out m' rfl).call B _ els _ _ _ HZ1.out hm' HB5.out hB3 (HS5.out.below (hb3.mono hBr) (Nat.le_refl _))).mono ?_); rintro e w4 ⟨rfl, hx4⟩; have hb4 : Below W0.heap.size W0 w4 := hb3.trans (hx4.mono (Nat.le_trans (Nat.le_of_lt hqi) hx3.size))))
                                go_roundw
                                case rel => exact ⟨j + 1, by omega, by go_num, by rw [stsOK_take HE.out, HA.out, HSO.out, HP1.out, HF3.out, H2.out, HB4.out, HB5.out, HCB.out]; simp, hwr.trans (hb4.mono hsz)⟩
                                case measure => simp [intOf]; omega
                    · have n7 : (kk == 7) = false := by simpa using hk7
                      have HF : Hid (c = false) := by
                        unfold Hid
                        rw [← HC.out]
                        exact stsOK_bad HE.out (by rw [HSO.out, HF3.out, HCB.out]; simp [hk7])
                      go_wp2_with (fail)
                      go_ret
                      exact ⟨ret_bool HF.out.symm, hwr.trans (hbw.mono hsz)⟩
                  · have n10 : (k0 == 10) = false := by simpa using h10
                    as_aux_lemma =>
                      cases bb
                      · by_cases hth : thn.length = 0
                        · have hth0 : ¬ 0 < thn.length := by omega
                          replace HS4 : Hid (SlS B W0 (.slice A4 0 cap4) thn) := by have h := HS4.out; rw [hth] at h; exact h
                          cases eb
                          · by_cases hel : els.length = 0
                            · have hel0 : ¬ 0 < els.length := by omega
                              replace HS5 : Hid (SlS B W0 (.slice A5 0 cap5) els) := by have h := HS5.out; rw [hel] at h; exact h
                              cases b4
                              · have HF : Hid (c = false) := by
                                  unfold Hid
                                  rw [← HC.out]
                                  exact stsOK_bad HE.out (by rw [HSO.out, HB4.out]; simp)
                                go_wp2_with (first
                                  | (go_at_call 38; (with_reducible refine ((HI.out m' rfl).call B _ thn _ _ _ HZ1.out hm' HB4.out hBi (HS4.out.below (hbw.mono hBr) (Nat.le_refl _))).mono ?_); rintro e w3 ⟨rfl, hx3⟩; obtain ⟨hc3, hf3⟩ := bcell hx3; have hb3 : Below W0.heap.size W0 w3 := hbw.trans (hx3.mono (Nat.le_of_lt hqi)); have hB3 : B ≤ w3.heap.size := (Nat.le_trans hBr hb3.size))
                                  | (go_at_call 38; (with_reducible refine ((HI.out m' rfl).call B _ els _ _ _ HZ1.out hm' HB5.out hB3 (HS5.out.below (hb3.mono hBr) (Nat.le_refl _))).mono ?_); rintro e w4 ⟨rfl, hx4⟩; have hb4 : Below W0.heap.size W0 w4 := hb3.trans (hx4.mono (Nat.le_trans (Nat.le_of_lt hqi) hx3.size))))
                                go_ret
                                exact ⟨ret_bool HF.out.symm, hwr.trans (hb3.mono hsz)⟩
                              · cases b5
                                · have HF : Hid (c = false) := by
                                    unfold Hid
                                    rw [← HC.out]
                                    exact stsOK_bad HE.out (by rw [HSO.out, HB5.out]; simp)
                                  go_wp2_with (first
                                    | (go_at_call 38; (with_reducible refine ((HI.out m' rfl).call B _ thn _ _ _ HZ1.out hm' HB4.out hBi (HS4.out.below (hbw.mono hBr) (Nat.le_refl _))).mono ?_); rintro e w3 ⟨rfl, hx3⟩; obtain ⟨hc3, hf3⟩ := bcell hx3; have hb3 : Below W0.heap.size W0 w3 := hbw.trans (hx3.mono (Nat.le_of_lt hqi)); have hB3 : B ≤ w3.heap.size := (Nat.le_trans hBr hb3.size))
                                    | (go_at_call 38; (with_reducible refine ((HI.out m' rfl).call B _ els _ _ _ HZ1.out hm' HB5.out hB3 (HS5.out.below (hb3.mono hBr) (Nat.le_refl _))).mono ?_); rintro e w4 ⟨rfl, hx4⟩; have hb4 : Below W0.heap.size W0 w4 := hb3.trans (hx4.mono (Nat.le_trans (Nat.le_of_lt hqi) hx3.size))))
                                  go_ret
                                  exact ⟨ret_bool HF.out.symm, hwr.trans (hb4.mono hsz)⟩
                                · go_wp2_with (first
                                    | (go_at_call 38; (with_reducible refine ((HI.out m' rfl).call B _ thn _ _ _ HZ1.out hm' HB4.out hBi (HS4.out.below (hbw.mono hBr) (Nat.le_refl _))).mono ?_); rintro e w3 ⟨rfl, hx3⟩; obtain ⟨hc3, hf3⟩ := bcell hx3; have hb3 : Below W0.heap.size W0 w3 := hbw.trans (hx3.mono (Nat.le_of_lt hqi)); have hB3 : B ≤ w3.heap.size := (Nat.le_trans hBr hb3.size))
                                    | (go_at_call 38; (with_reducible refine ((HI.out m' rfl).call B _ els _ _ _ HZ1.out hm' HB5.out hB3 (HS5.out.below (hb3.mono hBr) (Nat.le_refl _))).mono ?_); rintro e w4 ⟨rfl, hx4⟩; have hb4 : Below W0.heap.size W0 w4 := hb3.trans (hx4.mono (Nat.le_trans (Nat.le_of_lt hqi) hx3.size))))
                                  go_roundw
                                  case rel => exact ⟨j + 1, by omega, by go_num, by rw [stsOK_take HE.out, HA.out, HSO.out, HP1.out, HF3.out, H2.out, HB4.out, HB5.out]; simp [h10, hth, hel], hwr.trans (hb4.mono hsz)⟩
                                  case measure => simp [intOf]; omega
                            · have hel0 : 0 < els.length := by omega
                              have HF : Hid (c = false) := by
                                unfold Hid
                                rw [← HC.out]
                                exact stsOK_bad HE.out (by rw [HSO.out, HF3.out]; simp [hel])
                              go_wp2_with (fail)
                              go_ret
                              exact ⟨ret_bool HF.out.symm, hwr.trans (hbw.mono hsz)⟩
                          · cases b4
                            · have HF : Hid (c = false) := by
                                unfold Hid
                                rw [← HC.out]
                                exact stsOK_bad HE.out (by rw [HSO.out, HB4.out]; simp)
                              go_wp2_with (first
                                | (go_at_call 38; (with_reducible refine ((HI.out m' rfl).call B _ thn _ _ _ HZ1.out hm' HB4.out hBi (HS4.out.below (hbw.mono hBr) (Nat.le_refl _))).mono ?_); rintro e w3 ⟨rfl, hx3⟩; obtain ⟨hc3, hf3⟩ := bcell hx3; have hb3 : Below W0.heap.size W0 w3 := hbw.trans (hx3.mono (Nat.le_of_lt hqi)); have hB3 : B ≤ w3.heap.size := (Nat.le_trans hBr hb3.size))
                                | (go_at_call 38; (with_reducible refine ((HI.out m' rfl).call B _ els _ _ _ HZ1.out hm' HB5.out hB3 (HS5.out.below (hb3.mono hBr) (Nat.le_refl _))).mono ?_); rintro e w4 ⟨rfl, hx4⟩; have hb4 : Below W0.heap.size W0 w4 := hb3.trans (hx4.mono (Nat.le_trans (Nat.le_of_lt hqi) hx3.size))))
                              go_ret
                              exact ⟨ret_bool HF.out.symm, hwr.trans (hb3.mono hsz)⟩
                            · cases b5
                              · have HF : Hid (c = false) := by
                                  unfold Hid
                                  rw [← HC.out]
                                  exact stsOK_bad HE.out (by rw [HSO.out, HB5.out]; simp)
                                go_wp2_with (first
                                  | (go_at_call 38; (with_reducible refine ((HI.out m' rfl).call B _ thn _ _ _ HZ1.out hm' HB4.out hBi (HS4.out.below (hbw.mono hBr) (Nat.le_refl _))).mono ?_); rintro e w3 ⟨rfl, hx3⟩; obtain ⟨hc3, hf3⟩ := bcell hx3; have hb3 : Below W0.heap.size W0 w3 := hbw.trans (hx3.mono (Nat.le_of_lt hqi)); have hB3 : B ≤ w3.heap.size := (Nat.le_trans hBr hb3.size))
                                  | (go_at_call 38; (with_reducible refine ((HI.out m' rfl).call B _ els _ _ _ HZ1.out hm' HB5.out hB3 (HS5.out.below (hb3.mono hBr) (Nat.le_refl _))).mono ?_); rintro e w4 ⟨rfl, hx4⟩; have hb4 : Below W0.heap.size W0 w4 := hb3.trans (hx4.mono (Nat.le_trans (Nat.le_of_lt hqi) hx3.size))))
                                go_ret
                                exact ⟨ret_bool HF.out.symm, hwr.trans (hb4.mono hsz)⟩
                              · go_wp2_with (first
                                  | (go_at_call 38; (with_reducible refine ((HI.out m' rfl).call B _ thn _ _ _ HZ1.out hm' HB4.out hBi (HS4.out.below (hbw.mono hBr) (Nat.le_refl _))).mono ?_); rintro e w3 ⟨rfl, hx3⟩; obtain ⟨hc3, hf3⟩ := bcell hx3; have hb3 : Below W0.heap.size W0 w3 := hbw.trans (hx3.mono (Nat.le_of_lt hqi)); have hB3 : B ≤ w3.heap.size := (Nat.le_trans hBr hb3.size))
                                  | (go_at_call 38; (with_reducible refine ((HI.out m' rfl).call B _ els _ _ _ HZ1.out hm' HB5.out hB3 (HS5.out.below (hb3.mono hBr) (Nat.le_refl _))).mono ?_); rintro e w4 ⟨rfl, hx4⟩; have hb4 : Below W0.heap.size W0 w4 := hb3.trans (hx4.mono (Nat.le_trans (Nat.le_of_lt hqi) hx3.size))))
                                go_roundw
                                case rel => exact ⟨j + 1, by omega, by go_num, by rw [stsOK_take HE.out, HA.out, HSO.out, HP1.out, HF3.out, H2.out, HB4.out, HB5.out]; simp [h10, hth], hwr.trans (hb4.mono hsz)⟩
                                case measure => simp [intOf]; omega
                        · have hth0 : 0 < thn.length := by omega
                          have HF : Hid (c = false) := by
                            unfold Hid
                            rw [← HC.out]
                            exact stsOK_bad HE.out (by rw [HSO.out, HF3.out]; simp [hth])
                          go_wp2_with (fail)
                          go_ret
                          exact ⟨ret_bool HF.out.symm, hwr.trans (hbw.mono hsz)⟩
                      · cases eb
                        · by_cases hel : els.length = 0
                          · have hel0 : ¬ 0 < els.length := by omega
                            replace HS5 : Hid (SlS B W0 (.slice A5 0 cap5) els) := by have h := HS5.out; rw [hel] at h; exact h
                            cases b4
                            · have HF : Hid (c = false) := by
                                unfold Hid
                                rw [← HC.out]
                                exact stsOK_bad HE.out (by rw [HSO.out, HB4.out]; simp)
                              go_wp2_with (first
                                | (go_at_call 38; (with_reducible refine ((HI.out m' rfl).call B _ thn _ _ _ HZ1.out hm' HB4.out hBi (HS4.out.below (hbw.mono hBr) (Nat.le_refl _))).mono ?_); rintro e w3 ⟨rfl, hx3⟩; obtain ⟨hc3, hf3⟩ := bcell hx3; have hb3 : Below W0.heap.size W0 w3 := hbw.trans (hx3.mono (Nat.le_of_lt hqi)); have hB3 : B ≤ w3.heap.size := (Nat.le_trans hBr hb3.size))
                                | (go_at_call 38; (with_reducible refine ((HI.out m' rfl).call B _ els _ _ _ HZ1.out hm' HB5.out hB3 (HS5.out.below (hb3.mono hBr) (Nat.le_refl _))).mono ?_); rintro e w4 ⟨rfl, hx4⟩; have hb4 : Below W0.heap.size W0 w4 := hb3.trans (hx4.mono (Nat.le_trans (Nat.le_of_lt hqi) hx3.size))))
                              go_ret
                              exact ⟨ret_bool HF.out.symm, hwr.trans (hb3.mono hsz)⟩
                            · cases b5
                              · have HF : Hid (c = false) := by
                                  unfold Hid
                                  rw [← HC.out]
                                  exact stsOK_bad HE.out (by rw [HSO.out, HB5.out]; simp)
                                go_wp2_with (first
                                  | (go_at_call 38; (with_reducible refine ((HI.out m' rfl).call B _ thn _ _ _ HZ1.out hm' HB4.out hBi (HS4.out.below (hbw.mono hBr) (Nat.le_refl _))).mono ?_); rintro e w3 ⟨rfl, hx3⟩; obtain ⟨hc3, hf3⟩ := bcell hx3; have hb3 : Below W0.heap.size W0 w3 := hbw.trans (hx3.mono (Nat.le_of_lt hqi)); have hB3 : B ≤ w3.heap.size := (Nat.le_trans hBr hb3.size))
                                  | (go_at_call 38; (with_reducible refine ((HI.out m' rfl).call B _ els _ _ _ HZ1.out hm' HB5.out hB3 (HS5.out.below (hb3.mono hBr) (Nat.le_refl _))).mono ?_); rintro e w4 ⟨rfl, hx4⟩; have hb4 : Below W0.heap.size W0 w4 := hb3.trans (hx4.mono (Nat.le_trans (Nat.le_of_lt hqi) hx3.size))))
                                go_ret
                                exact ⟨ret_bool HF.out.symm, hwr.trans (hb4.mono hsz)⟩
                              · go_wp2_with (first
                                  | (go_at_call 38; (with_reducible refine ((HI.out m' rfl).call B _ thn _ _ _ HZ1.out hm' HB4.out hBi (HS4.out.below (hbw.mono hBr) (Nat.le_refl _))).mono ?_); rintro e w3 ⟨rfl, hx3⟩; obtain ⟨hc3, hf3⟩ := bcell hx3; have hb3 : Below W0.heap.size W0 w3 := hbw.trans (hx3.mono (Nat.le_of_lt hqi)); have hB3 : B ≤ w3.heap.size := (Nat.le_trans hBr hb3.size))
                                  | (go_at_call 38; (with_reducible refine ((HI.out m' rfl).call B _ els _ _ _ HZ1.out hm' HB5.out hB3 (HS5.out.below (hb3.mono hBr) (Nat.le_refl _))).mono ?_); rintro e w4 ⟨rfl, hx4⟩; have hb4 : Below W0.heap.size W0 w4 := hb3.trans (hx4.mono (Nat.le_trans (Nat.le_of_lt hqi) hx3.size))))
                                go_roundw
                                case rel => exact ⟨j + 1, by omega, by go_num, by rw [stsOK_take HE.out, HA.out, HSO.out, HP1.out, HF3.out, H2.out, HB4.out, HB5.out]; simp [h10, hel], hwr.trans (hb4.mono hsz)⟩
                                case measure => simp [intOf]; omega
                          · have hel0 : 0 < els.length := by omega
                            have HF : Hid (c = false) := by
                              unfold Hid
                              rw [← HC.out]
                              exact stsOK_bad HE.out (by rw [HSO.out, HF3.out]; simp [hel])
                            go_wp2_with (fail)
                            go_ret
                            exact ⟨ret_bool HF.out.symm, hwr.trans (hbw.mono hsz)⟩
                        · cases b4
                          · have HF : Hid (c = false) := by
                              unfold Hid
                              rw [← HC.out]
                              exact stsOK_bad HE.out (by rw [HSO.out, HB4.out]; simp)
                            go_wp2_with (first
                              | (go_at_call 38; (with_reducible refine ((HI.out m' rfl).call B _ thn _ _ _ HZ1.out hm' HB4.out hBi (HS4.out.below (hbw.mono hBr) (Nat.le_refl _))).mono ?_); rintro e w3 ⟨rfl, hx3⟩; obtain ⟨hc3, hf3⟩ := bcell hx3; have hb3 : Below W0.heap.size W0 w3 := hbw.trans (hx3.mono (Nat.le_of_lt hqi)); have hB3 : B ≤ w3.heap.size := (Nat.le_trans hBr hb3.size))
                              | (go_at_call 38; (with_reducible refine ((HI.out m' rfl).call B _ els _ _ _ HZ1.out hm' HB5.out hB3 (HS5.out.below (hb3.mono hBr) (Nat.le_refl _))).mono ?_); rintro e w4 ⟨rfl, hx4⟩; have hb4 : Below W0.heap.size W0 w4 := hb3.trans (hx4.mono (Nat.le_trans (Nat.le_of_lt hqi) hx3.size))))
                            go_ret
                            exact ⟨ret_bool HF.out.symm, hwr.trans (hb3.mono hsz)⟩
                          · cases b5
                            · have HF : Hid (c = false) := by
                                unfold Hid
                                rw [← HC.out]
                                exact stsOK_bad HE.out (by rw [HSO.out, HB5.out]; simp)
                              go_wp2_with (first
                                | (go_at_call 38; (with_reducible refine ((HI.out m' rfl).call B _ thn _ _ _ HZ1.out hm' HB4.out hBi (HS4.out.below (hbw.mono hBr) (Nat.le_refl _))).mono ?_); rintro e w3 ⟨rfl, hx3⟩; obtain ⟨hc3, hf3⟩ := bcell hx3; have hb3 : Below W0.heap.size W0 w3 := hbw.trans (hx3.mono (Nat.le_of_lt hqi)); have hB3 : B ≤ w3.heap.size := (Nat.le_trans hBr hb3.size))
                                | (go_at_call 38; (with_reducible refine ((HI.out m' rfl).call B _ els _ _ _ HZ1.out hm' HB5.out hB3 (HS5.out.below (hb3.mono hBr) (Nat.le_refl _))).mono ?_); rintro e w4 ⟨rfl, hx4⟩; have hb4 : Below W0.heap.size W0 w4 := hb3.trans (hx4.mono (Nat.le_trans (Nat.le_of_lt hqi) hx3.size))))
                              go_ret
                              exact ⟨ret_bool HF.out.symm, hwr.trans (hb4.mono hsz)⟩
                            · go_wp2_with (first
                                | (go_at_call 38; (with_reducible refine ((HI.out m' rfl).call B _ thn _ _ _ HZ1.out hm' HB4.out hBi (HS4.out.below (hbw.mono hBr) (Nat.le_refl _))).mono ?_); rintro e w3 ⟨rfl, hx3⟩; obtain ⟨hc3, hf3⟩ := bcell hx3; have hb3 : Below W0.heap.size W0 w3 := hbw.trans (hx3.mono (Nat.le_of_lt hqi)); have hB3 : B ≤ w3.heap.size := (Nat.le_trans hBr hb3.size))
                                | (go_at_call 38; (with_reducible refine ((HI.out m' rfl).call B _ els _ _ _ HZ1.out hm' HB5.out hB3 (HS5.out.below (hb3.mono hBr) (Nat.le_refl _))).mono ?_); rintro e w4 ⟨rfl, hx4⟩; have hb4 : Below W0.heap.size W0 w4 := hb3.trans (hx4.mono (Nat.le_trans (Nat.le_of_lt hqi) hx3.size))))
                              go_roundw
                              case rel => exact ⟨j + 1, by omega, by go_num, by rw [stsOK_take HE.out, HA.out, HSO.out, HP1.out, HF3.out, H2.out, HB4.out, HB5.out]; simp [h10], hwr.trans (hb4.mono hsz)⟩
                              case measure => simp [intOf]; omega
    · go_wp2_with (fail)
      go_ret
      refine ⟨ret_bool ?_, hwr⟩
      rw [← HC.out, ← HA.out, List.take_of_length_le (by omega)]
theorem rstmts_all : ∀ m, RsC m
  | 0 => rstmts_step 0 (fun _ h => by omega)
  | m + 1 => rstmts_step (m + 1) (fun m' h => by
      obtain rfl : m' = m := by omega
      exact rstmts_all m')
theorem rstmts_any (B : Nat) (l : List St) (b : Bool) (hb : stsOK l 100 = b) (v : Value) (w : World) (hB : B ≤ w.heap.size) (hl : SlS B w v l) :
    Calls Tryz.prog 38 #[v, .int .i64 100] w fun e w' => e = .returned (.bool b) ∧ Below w.heap.size w w' := (rstmts_all 100).call B _ l b v w rfl (by omega) hb hB hl
end Go.Proofs.YtakijoblbmfadaaGreatDoor

/- The contract of the validation of one expression of package tree. -/
namespace Go.Proofs.YtakijoblbmfadaaGreatDoor
open Go.RowKit
theorem tl_nil (s : ByteArray) : s.toList = [] ↔ s.size = 0 := by
  rw [Lib.toList_data, Lib.size_eq]
  exact List.length_eq_zero_iff.symm
section
variable (B : Nat) (op n : Int) (name : ByteArray) (A : Option Addr) (m cap : Nat) (w : World)
set_option maxHeartbeats 2000000 in
set_option maxRecDepth 100000 in
theorem rightExpr_plain (k : Int) (hk : k = 1 ∨ k = 2 ∨ k = 4 ∨ k = 8) :
    Calls Tryz.prog 106 #[.agg #[.int .i64 k, .int .i64 op, .int .i64 n, .string name, .slice A m cap]] w fun e w' => e = .returned (.bool (formE k op n name m)) ∧ Below w.heap.size w w' := by
  rcases hk with rfl | rfl | rfl | rfl
  all_goals
    go_enter Tryz.func106, Tryz.ntmps106
    go_wp2_with (fail)
    all_goals go_ret
    all_goals refine ⟨ret_bool ?_, ((Below.refl _ _).alloc (Nat.le_refl _) _).alloc (by simp) _⟩
    all_goals go_light
    all_goals simp_all [formE, eB, tl_nil]
  all_goals omega
set_option maxHeartbeats 2000000 in
set_option maxRecDepth 100000 in
theorem rightExpr_named (k : Int) (hk : k = 3 ∨ k = 6 ∨ k = 7) (b : Bool) (hb : nmB name = b) :
    Calls Tryz.prog 106 #[.agg #[.int .i64 k, .int .i64 op, .int .i64 n, .string name, .slice A m cap]] w fun e w' => e = .returned (.bool (formE k op n name m)) ∧ Below w.heap.size w w' := by
  have HB := Lib.hid hb
  clear hb
  cases b
  all_goals rcases hk with rfl | rfl | rfl
  all_goals
    go_enter Tryz.func106, Tryz.ntmps106
    go_wp2_with (go_at_call 63; (with_reducible refine (nm_is name _ HB.out _).mono ?_); rintro e w1 ⟨rfl, hb1⟩; obtain ⟨hc1, hf1⟩ := bcell hb1)
    all_goals go_ret
    all_goals refine ⟨ret_bool ?_, (((Below.refl _ _).alloc (Nat.le_refl _) _).alloc (by simp) _).trans (hb1.mono (by simp; omega))⟩
    all_goals have HB' := HB.out
    all_goals go_light
    all_goals simp_all [formE]
  all_goals omega
set_option maxHeartbeats 2000000 in
set_option maxRecDepth 100000 in
theorem rightExpr_two (ht : TreeTab B w) (hB : B ≤ w.heap.size) :
    Calls Tryz.prog 106 #[.agg #[.int .i64 5, .int .i64 op, .int .i64 n, .string name, .slice A m cap]] w fun e w' => e = .returned (.bool (formE 5 op n name m)) ∧ Below w.heap.size w w' := by
  have HT := Lib.hid ht
  clear ht
  go_enter Tryz.func106, Tryz.ntmps106
  go_wp2_with (go_at_call 123; (with_reducible refine (level_any op _ (HT.out.below (((Below.refl _ _).alloc hB _).alloc (by simp; omega) _)).rows).mono ?_); rintro e w1 ⟨rfl, hb1⟩; obtain ⟨hc1, hf1⟩ := bcell hb1)
  all_goals go_ret
  all_goals refine ⟨ret_bool ?_, (((Below.refl _ _).alloc (Nat.le_refl _) _).alloc (by simp) _).trans (hb1.mono (by simp; omega))⟩
  all_goals go_light
  all_goals simp_all [formE, eB, tl_nil]
  all_goals omega
set_option maxHeartbeats 2000000 in
set_option maxRecDepth 100000 in
theorem rightExpr_other (k : Int) (hk : k < 1 ∨ 8 < k) :
    Calls Tryz.prog 106 #[.agg #[.int .i64 k, .int .i64 op, .int .i64 n, .string name, .slice A m cap]] w fun e w' => e = .returned (.bool (formE k op n name m)) ∧ Below w.heap.size w w' := by
  have n1 : (k == 1) = false := by simp; omega
  have n2 : (k == 2) = false := by simp; omega
  have n3 : (k == 3) = false := by simp; omega
  have n4 : (k == 4) = false := by simp; omega
  have n5 : (k == 5) = false := by simp; omega
  have n6 : (k == 6) = false := by simp; omega
  have n7 : (k == 7) = false := by simp; omega
  have n8 : (k == 8) = false := by simp; omega
  have hf : Hid (formE k op n name m = false) := by
    unfold Hid formE
    rw [if_neg (by omega), if_neg (by omega), if_neg (by omega), if_neg (by omega), if_neg (by omega), if_neg (by omega), if_neg (by omega), if_neg (by omega)]
  clear hk
  go_enter Tryz.func106, Tryz.ntmps106
  go_wp2_with (fail)
  go_ret
  exact ⟨ret_bool hf.out.symm, ((Below.refl _ _).alloc (Nat.le_refl _) _).alloc (by simp) _⟩
theorem rightExpr_any (k : Int) (ht : TreeTab B w) (hB : B ≤ w.heap.size) :
    Calls Tryz.prog 106 #[.agg #[.int .i64 k, .int .i64 op, .int .i64 n, .string name, .slice A m cap]] w fun e w' => e = .returned (.bool (formE k op n name m)) ∧ Below w.heap.size w w' := by
  by_cases h1 : k = 1 ∨ k = 2 ∨ k = 4 ∨ k = 8
  · exact rightExpr_plain op n name A m cap w k h1
  by_cases h2 : k = 3 ∨ k = 6 ∨ k = 7
  · exact rightExpr_named op n name A m cap w k h2 _ rfl
  by_cases h3 : k = 5
  · subst h3
    exact rightExpr_two B op n name A m cap w ht hB
  · exact rightExpr_other op n name A m cap w k (by omega)
end
end Go.Proofs.YtakijoblbmfadaaGreatDoor
