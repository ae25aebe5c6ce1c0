/- The contract of the document's text of a program. -/
import Derived.Test.YtomdcgifkkmopaaDoorTreeRefB
import Derived.Test.YtomdcgifkkmopaaDoorTreeRefP
import Derived.Test.YtomdcgifkkmopaaDoorTreePrint
namespace Go.Proofs.YtomdcgifkkmopaaDoor
open Go.RowKit
/-- What every valid statement asks. -/
theorem sub_any (B : Nat) : ∀ (m : Nat) (s : St) (t : Nat), stOK s m = true → t + m ≤ 990 → SubOK B t s
  | 0, .mk k ty name args thn els, t, h, _ => by
    rw [stOK_mk] at h
    simp at h
  | m + 1, .mk k ty name args thn els, t, h, ht => by
    rw [stOK_mk, Bool.and_eq_true, Bool.and_eq_true, Bool.and_eq_true, Bool.and_eq_true] at h
    obtain ⟨⟨⟨⟨_, hf⟩, hx⟩, h4⟩, h5⟩ := h
    rw [Nat.add_sub_cancel] at h4 h5
    have hb : ∀ l, stsOK l m = true → RbC B (t + 1) l := fun l hl => rblock_step B (t + 1) (by omega) l (fun i s hi => sub_any B m s (t + 1) (stsOK_at hl hi) (by omega))
    exact ⟨⟨_, hf⟩, fun i e hi => rtext_any B 100 e (exsOK_at hx hi), hb _ h4, hb _ h5⟩
/-- The document's lines of a list of valid statements, a tab deeper. -/
theorem rblock_any (B : Nat) (l : List St) (h : stsOK l 100 = true) : RbC B 1 l := rblock_step B 1 (by omega) l fun i s hi => sub_any B 100 s 1 (stsOK_at h hi) (by omega)
set_option maxHeartbeats 2000000 in
set_option maxRecDepth 100000 in
theorem rprint_no (B : Nat) (p : Pr) (hc : prOK p = false) (v v' : Value) (w : World) (hB : B ≤ w.heap.size) (ha : SlA B w v p.arrays) (hf : SlF B w v' p.funcs) :
    Calls Tryd.prog 5 #[.agg #[v, v']] w (PrintPost B p w) := by
  obtain ⟨A, cap, rfl, hn⟩ := ha.form
  obtain ⟨A2, cap2, rfl, hn2⟩ := hf.form
  have HA := Lib.hid ha
  have HF := Lib.hid hf
  have HC := Lib.hid hc
  clear ha hf hc
  go_enter Tryd.func5, Tryd.ntmps5
  go_wp2_with (go_at_call 8; (with_reducible refine (rright_any B p _ HC.out _ _ _ (by simp; omega) (HA.out.below ((Below.refl _ _).alloc hB _) (Nat.le_refl _)) (HF.out.below ((Below.refl _ _).alloc hB _) (Nat.le_refl _))).mono ?_); rintro e w1 ⟨rfl, hb1⟩)
  go_ret2
  exact ⟨((Below.refl B w).alloc hB _).trans (hb1.mono (by simp; omega)), by rw [HC.out]; rfl⟩
theorem rblock_one (B : Nat) (l : List St) (h : stsOK l 100 = true) (w : World) (v : Value) (hB : B ≤ w.heap.size) (hv : SlS B w v l) (hl : (stsT l 1).length ≤ 1099511627776) :
    Calls Tryd.prog 14 #[v, .string ⟨#[9]⟩] w fun e' w' => e' = .returned (.string ⟨(stsT l 1).toArray⟩) ∧ Below w.heap.size w w' := by
  have e : tabS 1 = ⟨#[9]⟩ := by simp [tabS, tabT]
  rw [← e]
  exact (rblock_any B l h).call hB hv hl
set_option maxHeartbeats 8000000 in
set_option maxRecDepth 100000 in
theorem rprint_yes (B : Nat) (p : Pr) (hc : prOK p = true) (hlen : (prT p).length ≤ 1099511627776) (v v' : Value) (w : World) (hB : B ≤ w.heap.size) (ha : SlA B w v p.arrays) (hf : SlF B w v' p.funcs) :
    Calls Tryd.prog 5 #[.agg #[v, v']] w (PrintPost B p w) := by
  obtain ⟨A, cap, rfl, hn⟩ := ha.form
  obtain ⟨A2, cap2, rfl, hn2⟩ := hf.form
  have HA := Lib.hid ha
  have HF := Lib.hid hf
  have HC := Lib.hid hc
  have hall : p.arrays.all arOK = true ∧ p.funcs.all fuOK = true := by unfold prOK at hc; simpa using hc
  have HLL := Lib.hid hlen
  have HAO := Lib.hid hall.1
  have HFO := Lib.hid hall.2
  have HROW : ∀ wr, Below (w.heap.size + 1) (w.alloc (.cells #[.slice A p.arrays.length cap, .slice A2 p.funcs.length cap2] 34)) wr → wr.cell? ⟨w.heap.size, 0, none⟩ = some (.slice A p.arrays.length cap) ∧ wr.cell? ⟨w.heap.size, 1, none⟩ = some (.slice A2 p.funcs.length cap2) := fun wr hb => by
    have hrow : wr.heap[w.heap.size]? = some (.cells #[.slice A p.arrays.length cap, .slice A2 p.funcs.length cap2] 34 (0, 0)) := (hb.block _ (by omega)).trans (heap_alloc_new w _)
    exact ⟨by rw [Lib.cell_of_heap hrow]; rfl, by rw [Lib.cell_of_heap hrow]; rfl⟩
  have HR := Lib.hid HROW
  clear ha hf hc hall hlen HROW
  go_enter Tryd.func5, Tryd.ntmps5
  go_wp2_with (go_at_call 8; (with_reducible refine (rright_any B p _ HC.out _ _ _ (by simp; omega) (HA.out.below ((Below.refl _ _).alloc hB _) (Nat.le_refl _)) (HF.out.below ((Below.refl _ _).alloc hB _) (Nat.le_refl _))).mono ?_); rintro e w1 ⟨rfl, hb1⟩)
  have hb1' : Below (w.heap.size + 1) (w.alloc (.cells #[.slice A p.arrays.length cap, .slice A2 p.funcs.length cap2] 34)) w1 := hb1.mono (by simp)
  clear hb1
  go_loopw [4, 5] (fun sv iv wr => ∃ i : Nat, i ≤ p.arrays.length ∧ iv = .int .i64 i ∧ sv = .string ⟨(((p.arrays.take i).map arT).flatten).toArray⟩ ∧ Below (w.heap.size + 1) (w.alloc (.cells #[.slice A p.arrays.length cap, .slice A2 p.funcs.length cap2] 34)) wr) (fun _ iv _ => p.arrays.length - (intOf iv).toNat)
  case atStart => exact ⟨0, Nat.zero_le _, rfl, rfl, hb1'⟩
  case round =>
    obtain ⟨i, hi, rfl, hsv, hbw⟩ := hrel
    obtain ⟨J, hJ⟩ : ∃ J, ((p.arrays.take i).map arT).flatten = J := ⟨_, rfl⟩
    rw [hJ] at hsv
    subst hsv
    have HJJ := Lib.hid hJ
    clear hJ
    have hsz1 : w.heap.size + 1 ≤ wr.heap.size := by have := hbw.size; simpa using this
    have hwr : Below w.heap.size w wr := ((Below.refl _ _).alloc (Nat.le_refl _) _).trans (hbw.mono (by omega))
    have hBr : B ≤ wr.heap.size := by omega
    have hq : w.heap.size < wr.heap.size := by omega
    obtain ⟨k0, k1⟩ := HR.out wr hbw
    by_cases hlt : i < p.arrays.length
    · obtain ⟨x, hx⟩ : ∃ x, p.arrays[i]? = some x := ⟨_, List.getElem?_eq_getElem hlt⟩
      have HX := Lib.hid hx
      obtain ⟨g, o, rfl, hg, q0, q1⟩ := (HA.out.below (hwr.mono hB) (Nat.le_refl _)).cells hx
      have hgs : g < wr.heap.size := by omega
      have hok : arOK x = true := List.all_eq_true.1 HAO.out x (List.mem_of_getElem? hx)
      have hs0 : 0 ≤ x.size := by simp [arOK] at hok; omega
      have HI : Hid (i64R x.size) := by simp [arOK] at hok; exact ⟨by omega, by omega⟩
      have hjl := flat_len arT hx
      rw [HJJ.out] at hjl
      have hLL : J.length + (arT x).length ≤ 1099511627776 := by have := HLL.out; unfold prT at this; rw [List.length_append] at this; omega
      have hns : x.name.size = x.name.data.toList.length := rfl
      have z1 : J.length + 4 + x.name.size + 1 + (Lib.itoa x.size).length + 3 ≤ 1099511627776 := by rw [hns]; simp [arT] at hLL; omega
      have y1 : ¬ 9223372036854775807 < J.length + 4 := by omega
      have y2 : ¬ 9223372036854775807 < J.length + 4 + x.name.size := by omega
      have y3 : ¬ 9223372036854775807 < J.length + 4 + x.name.size + 1 := by omega
      have y4 : ¬ 9223372036854775807 < J.length + 4 + x.name.size + 1 + (Lib.itoa x.size).length := by omega
      have y5 : ¬ 9223372036854775807 < J.length + 4 + x.name.size + 1 + (Lib.itoa x.size).length + 3 := by omega
      have HT : Hid (((p.arrays.take (i + 1)).map arT).flatten = J ++ arT x) := by unfold Hid; rw [flatten_take arT HX.out, HJJ.out]
      clear hok hjl hLL hns hx
      go_wp2_with (fail)
      go_region_held3 (fun w' => w'.cell? ⟨w.heap.size, 0, none⟩ = some (.slice (some ⟨g, o, none⟩) p.arrays.length cap) ∧ w'.cell? ⟨g, o + i * 2, none⟩ = some (.string x.name) ∧ w'.cell? ⟨g, o + i * 2 + 1, none⟩ = some (.int .i64 x.size))
        (first
          | (go_split_ands; refine ⟨?_, ?_, ?_⟩ <;> (first | (rw [hk1]; assumption) | (rw [hg1]; assumption)))
          | go_keep)
        (first
          | (go_at_call 12
             (refine (rdigits_any x.size wr.drew hs0 HI.out).mono ?_)
             rintro e w2 ⟨rfl, hb2⟩
             obtain ⟨hc2, hf2⟩ := bcell hb2
             have hk1 : ∀ o, w2.cell? ⟨w.heap.size, o, none⟩ = wr.cell? ⟨w.heap.size, o, none⟩ := fun o => hc2 _ _ hq
             have hg1 : ∀ o, w2.cell? ⟨g, o, none⟩ = wr.cell? ⟨g, o, none⟩ := fun o => hc2 _ _ hgs
             clear hc2 hf2))
      go_wp2_with (fail)
      go_roundw
      case rel => exact ⟨i + 1, by omega, by go_num, congrArg Value.string (ba_ext (by rw [HT.out]; simp [arT, ByteArray.data_append])), hbw.drew.trans (hb2.mono (by show w.heap.size + 1 ≤ wr.heap.size; omega))⟩
      case measure => simp [intOf]; omega
    · have HAE : Hid (J = (p.arrays.map arT).flatten) := by unfold Hid; rw [← HJJ.out, List.take_of_length_le (by omega)]
      clear HJJ
      go_wp2_with (fail)
      go_loopw [4, 6] (fun sv iv wr' => ∃ j : Nat, j ≤ p.funcs.length ∧ iv = .int .i64 j ∧ sv = .string ⟨(J ++ ((p.funcs.take j).map fuT).flatten).toArray⟩ ∧ Below (w.heap.size + 1) (w.alloc (.cells #[.slice A p.arrays.length cap, .slice A2 p.funcs.length cap2] 34)) wr') (fun _ iv _ => p.funcs.length - (intOf iv).toNat)
      case atStart => exact ⟨0, Nat.zero_le _, rfl, by simp, hbw⟩
      case round =>
        obtain ⟨j, hj, rfl, hsv, hbw2⟩ := hrel
        obtain ⟨T, hT⟩ : ∃ T, J ++ ((p.funcs.take j).map fuT).flatten = T := ⟨_, rfl⟩
        rw [hT] at hsv
        subst hsv
        have HTT := Lib.hid hT
        clear hT
        obtain ⟨W0, rfl⟩ : ∃ W0, W0 = wr := ⟨_, rfl⟩
        have hsz2 : w.heap.size + 1 ≤ W0.heap.size := by have := hbw2.size; simpa using this
        have hw2 : Below w.heap.size w W0 := ((Below.refl _ _).alloc (Nat.le_refl _) _).trans (hbw2.mono (by omega))
        have hB2 : B ≤ W0.heap.size := by omega
        have hq2 : w.heap.size < W0.heap.size := by omega
        obtain ⟨m0, m1⟩ := HR.out W0 hbw2
        by_cases hlt2 : j < p.funcs.length
        · obtain ⟨f, hx⟩ : ∃ x, p.funcs[j]? = some x := ⟨_, List.getElem?_eq_getElem hlt2⟩
          have HX := Lib.hid hx
          obtain ⟨g, o, v1, v2, rfl, hg, q0, q1, q2, q3, hp, hb⟩ := (HF.out.below (hw2.mono hB) (Nat.le_refl _)).cells hx
          obtain ⟨A3, cap3, rfl, hn3⟩ := hp.form
          obtain ⟨A4, cap4, rfl, hn4⟩ := hb.form
          have hgs : g < W0.heap.size := by omega
          have hok : fuOK f = true := List.all_eq_true.1 HFO.out f (List.mem_of_getElem? hx)
          have hok2 := hok
          unfold fuOK at hok2
          simp only [Bool.and_eq_true] at hok2
          have HST := Lib.hid hok2.2
          have HPA := Lib.hid hok2.1.2
          have HTY := Lib.hid hok2.1.1.1.2
          have HP := Lib.hid hp
          have HS := Lib.hid hb
          have hjl := flat_len fuT hx
          have hLL : T.length + (fuT f).length ≤ 1099511627776 := by
            have h1 := HLL.out
            unfold prT at h1
            rw [← HAE.out] at h1
            rw [← HTT.out]
            simp only [List.length_append] at h1 hjl ⊢
            omega
          have HLF := Lib.hid hLL
          have HTF : Hid (J ++ ((p.funcs.take (j + 1)).map fuT).flatten = T ++ fuT f) := by unfold Hid; rw [flatten_take fuT HX.out, ← List.append_assoc, HTT.out]
          clear hx hp hb hok hok2 hjl hLL
          go_wp2_with (fail)
          go_loopw [8, 9] (fun sv iv wi => ∃ k : Nat, k ≤ f.params.length ∧ iv = .int .i64 k ∧ sv = .string ⟨(joinC ((f.params.take k).map paT)).toArray⟩ ∧ Below (W0.heap.size + 1) (W0.alloc (.cells #[.string f.name, .int .i64 f.type, .slice A3 f.params.length cap3, .slice A4 f.body.length cap4] 30)) wi) (fun _ iv _ => f.params.length - (intOf iv).toNat)
          case atStart => exact ⟨0, Nat.zero_le _, rfl, rfl, Below.refl _ _⟩
          case round =>
            obtain ⟨k, hk, rfl, hsv3, hbi⟩ := hrel
            obtain ⟨P, hP⟩ : ∃ P, joinC ((f.params.take k).map paT) = P := ⟨_, rfl⟩
            rw [hP] at hsv3
            subst hsv3
            have HPP := Lib.hid hP
            clear hP
            have hqi : W0.heap.size < wr.heap.size := by have h9 : W0.heap.size + 1 ≤ wr.heap.size := (by have := hbi.size; simpa using this); omega
            have hbw3 : Below W0.heap.size W0 wr := ((Below.refl _ _).alloc (Nat.le_refl _) _).trans (hbi.mono (by omega))
            have hrow : wr.heap[W0.heap.size]? = some (.cells #[.string f.name, .int .i64 f.type, .slice A3 f.params.length cap3, .slice A4 f.body.length cap4] 30 (0, 0)) := (hbi.block _ (by omega)).trans (heap_alloc_new W0 _)
            have e0 : wr.cell? ⟨W0.heap.size, 0, none⟩ = some (.string f.name) := by rw [Lib.cell_of_heap hrow]; rfl
            have e1 : wr.cell? ⟨W0.heap.size, 1, none⟩ = some (.int .i64 f.type) := by rw [Lib.cell_of_heap hrow]; rfl
            have e2 : wr.cell? ⟨W0.heap.size, 2, none⟩ = some (.slice A3 f.params.length cap3) := by rw [Lib.cell_of_heap hrow]; rfl
            have e3 : wr.cell? ⟨W0.heap.size, 3, none⟩ = some (.slice A4 f.body.length cap4) := by rw [Lib.cell_of_heap hrow]; rfl
            clear hrow q0 q1 q2 q3
            by_cases hlk : k < f.params.length
            · obtain ⟨x, hx⟩ : ∃ x, f.params[k]? = some x := ⟨_, List.getElem?_eq_getElem hlk⟩
              obtain ⟨g', o', rfl, hg', r0, r1⟩ := (HP.out.below (hbw3.mono hB2) (Nat.le_refl _)).cells hx
              have hgs' : g' < wr.heap.size := by omega
              have HXX := Lib.hid hx
              have HXT : Hid (tyB x.type = true) := by
                have h := List.all_eq_true.1 HPA.out x (List.mem_of_getElem? hx)
                unfold paOK at h
                simp only [Bool.and_eq_true] at h
                exact h.2
              have hjl := joinC_len paT hx
              rw [HPP.out] at hjl
              have hll : (joinC (f.params.map paT)).length ≤ 1099511627776 := by have := HLF.out; simp [fuT] at this; omega
              have hpl : (paT x).length = (tyT x.type).length + 1 + x.name.size := by
                have : x.name.size = x.name.data.toList.length := rfl
                rw [this]; simp [paT]; omega
              clear hx
              by_cases hk0 : k = 0
              · subst hk0
                have s0 : wr.cell? ⟨g', o', none⟩ = some (.string x.name) := by simpa using r0
                have s1 : wr.cell? ⟨g', o' + 1, none⟩ = some (.int .i64 x.type) := by simpa using r1
                have HJ : Hid (joinC ((f.params.take (0 + 1)).map paT) = P ++ paT x) := by unfold Hid; rw [joinC_take paT HXX.out, HPP.out]; simp
                rw [if_pos rfl] at hjl
                have u0 : ¬ 9223372036854775807 < P.length + (tyT x.type).length := by omega
                have u1 : ¬ 9223372036854775807 < P.length + (tyT x.type).length + 1 := by omega
                have u2 : ¬ 9223372036854775807 < P.length + (tyT x.type).length + 1 + x.name.size := by omega
                go_wp2_with (fail)
                go_region_held3 (fun w' => w'.cell? ⟨W0.heap.size, 2, none⟩ = some (.slice (some ⟨g', o', none⟩) f.params.length cap3) ∧ w'.cell? ⟨g', o', none⟩ = some (.string x.name) ∧ w'.cell? ⟨g', o' + 1, none⟩ = some (.int .i64 x.type))
                  (first
                    | go_keep
                    | (go_split_ands; refine ⟨?_, ?_, ?_⟩ <;> assumption))
                  (first
                    | (go_at_call 13; (refine (rtypes_any x.type HXT.out _).mono ?_); rintro e w3 ⟨rfl, rfl⟩))
                go_wp2_with (fail)
                go_roundw
                case rel => exact ⟨1, by omega, by go_num, congrArg Value.string (ba_ext (by rw [HJ.out]; simp [paT, ByteArray.data_append])), hbi.drew⟩
                case measure => simp [intOf]; omega
              · have hkp : 0 < k := by omega
                have HJ : Hid (joinC ((f.params.take (k + 1)).map paT) = P ++ ([44, 32] ++ paT x)) := by unfold Hid; rw [joinC_take paT HXX.out, if_neg hk0, HPP.out]
                rw [if_neg hk0] at hjl
                clear hk0
                have u0 : ¬ 9223372036854775807 < P.length + 2 := by omega
                have u1 : ¬ 9223372036854775807 < P.length + 2 + (tyT x.type).length := by omega
                have u2 : ¬ 9223372036854775807 < P.length + 2 + (tyT x.type).length + 1 := by omega
                have u3 : ¬ 9223372036854775807 < P.length + 2 + (tyT x.type).length + 1 + x.name.size := by omega
                go_wp2_with (fail)
                go_region_held3 (fun w' => w'.cell? ⟨W0.heap.size, 2, none⟩ = some (.slice (some ⟨g', o', none⟩) f.params.length cap3) ∧ w'.cell? ⟨g', o' + k * 2, none⟩ = some (.string x.name) ∧ w'.cell? ⟨g', o' + k * 2 + 1, none⟩ = some (.int .i64 x.type))
                  (first
                    | go_keep
                    | (go_split_ands; refine ⟨?_, ?_, ?_⟩ <;> assumption))
                  (first
                    | (go_at_call 13; (refine (rtypes_any x.type HXT.out _).mono ?_); rintro e w3 ⟨rfl, rfl⟩))
                go_wp2_with (fail)
                go_roundw
                case rel => exact ⟨k + 1, by omega, by go_num, congrArg Value.string (ba_ext (by rw [HJ.out]; simp [paT, ByteArray.data_append])), hbi.drew⟩
                case measure => simp [intOf]; omega
            · have HPE : Hid (P = joinC (f.params.map paT)) := by unfold Hid; rw [← HPP.out, List.take_of_length_le (by omega)]
              clear HPP
              have hns : f.name.size = f.name.data.toList.length := rfl
              have hlf := HLF.out
              have z1 : T.length + (tyT f.type).length + 1 + f.name.size + 1 + P.length + 4 + (stsT f.body 1).length + 2 ≤ 1099511627776 := by
                rw [hns, HPE.out]; simp [fuT] at hlf; omega
              clear hlf
              have u0 : ¬ 9223372036854775807 < T.length + (tyT f.type).length := by omega
              have u1 : ¬ 9223372036854775807 < T.length + (tyT f.type).length + 1 := by omega
              have u2 : ¬ 9223372036854775807 < T.length + (tyT f.type).length + 1 + f.name.size := by omega
              have u3 : ¬ 9223372036854775807 < T.length + (tyT f.type).length + 1 + f.name.size + 1 := by omega
              have u4' : ¬ 9223372036854775807 < T.length + (tyT f.type).length + 1 + f.name.size + 1 + P.length := by omega
              have u5' : ¬ 9223372036854775807 < T.length + (tyT f.type).length + 1 + f.name.size + 1 + P.length + 4 := by omega
              have u6' : ¬ 9223372036854775807 < T.length + (tyT f.type).length + 1 + f.name.size + 1 + P.length + 4 + (stsT f.body 1).length := by omega
              have u7' : ¬ 9223372036854775807 < T.length + (tyT f.type).length + 1 + f.name.size + 1 + P.length + 4 + (stsT f.body 1).length + 2 := by omega
              have HLB : Hid ((stsT f.body 1).length ≤ 1099511627776) := by unfold Hid; omega
              have hBrd : B ≤ wr.drew.heap.size := by show B ≤ wr.heap.size; omega
              clear hns
              go_wp2_with (fail)
              go_region_held3 (fun w' => w'.cell? ⟨W0.heap.size, 0, none⟩ = some (.string f.name) ∧ w'.cell? ⟨W0.heap.size, 1, none⟩ = some (.int .i64 f.type) ∧ w'.cell? ⟨W0.heap.size, 3, none⟩ = some (.slice A4 f.body.length cap4))
                (first
                  | (go_split_ands; refine ⟨?_, ?_, ?_⟩ <;> (rw [hk1]; assumption))
                  | go_keep
                  | (go_split_ands; refine ⟨?_, ?_, ?_⟩ <;> assumption))
                (first
                  | (go_at_call 13; (refine (rtypes_any f.type HTY.out _).mono ?_); rintro e w3 ⟨rfl, rfl⟩)
                  | (go_at_call 14
                     (refine (rblock_one B f.body HST.out wr.drew _ hBrd (HS.out.below ((hbw3.drew).mono hB2) (Nat.le_refl _)) HLB.out).mono ?_)
                     rintro e w2 ⟨rfl, hb2⟩
                     have hk1 : ∀ k, w2.cell? ⟨W0.heap.size, k, none⟩ = wr.cell? ⟨W0.heap.size, k, none⟩ := fun k => hb2.cell (p := ⟨W0.heap.size, k, none⟩) hqi))
              go_wp2_with (fail)
              go_roundw
              case rel => exact ⟨j + 1, by omega, by go_num, congrArg Value.string (ba_ext (by rw [HTF.out]; simp [fuT, HPE.out, ByteArray.data_append])), (hbw2.trans (hbw3.mono hsz2)).drew.trans (hb2.mono (by show w.heap.size + 1 ≤ wr.heap.size; omega))⟩
              case measure => simp [intOf]; omega
        · have HTX : Hid (T = prT p) := by
            unfold Hid prT
            rw [← HTT.out, HAE.out, List.take_of_length_le (by omega)]
          go_wp2_with (fail)
          go_ret2
          exact ⟨hw2.mono hB, by rw [HC.out, HTX.out]; rfl⟩
end Go.Proofs.YtomdcgifkkmopaaDoor
