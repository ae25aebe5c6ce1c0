/- The contracts of the function list of package tree, at parameters and at expressions; of line, operand and one. -/
import Derived.Test.YtomdcgifkkmopaaDoorTreeWrite
namespace Go.Proofs.YtomdcgifkkmopaaDoor
open Go.RowKit
theorem Wr.bel {B b : Nat} {w w' : World} (h : Wr B b w w') : Below B w w' := h.1
theorem joinC_len {α : Type} (f : α → List UInt8) {l : List α} {i : Nat} {x : α} (h : l[i]? = some x) : (joinC ((l.take i).map f)).length + ((if i = 0 then 0 else 2) + (f x).length) ≤ (joinC (l.map f)).length := by
  have key : ∀ m, i + 1 ≤ m → (joinC ((l.take (i + 1)).map f)).length ≤ (joinC ((l.take m).map f)).length := by
    intro m hm
    induction m with
    | zero => omega
    | succ m ih =>
      by_cases e : i + 1 = m + 1
      · rw [e]; exact Nat.le_refl _
      · have h1 := ih (by omega)
        rcases hq : l[m]? with _ | q
        · rw [List.take_of_length_le (i := m + 1) (by have := List.getElem?_eq_none_iff.1 hq; omega)]
          rw [List.take_of_length_le (i := m) (by have := List.getElem?_eq_none_iff.1 hq; omega)] at h1
          exact h1
        · rw [joinC_take f hq, List.length_append]
          omega
  have hlt : i < l.length := (List.getElem?_eq_some_iff.1 h).1
  have := key l.length (by omega)
  rw [List.take_length, joinC_take f h, List.length_append, List.length_append] at this
  have e2 : (if i = 0 then [] else [44, 32] : List UInt8).length = (if i = 0 then 0 else 2) := by split <;> rfl
  rw [e2] at this
  exact this
theorem write_simple {B b : Nat} (l : List Pt) (h : ∀ p ∈ l, (∃ s, p = .str s) ∨ (∃ n, p = .num n) ∨ ∃ t, p = .knd t) : WrC B b l :=
  write_core B b l fun i p hi => by
    rcases h p (List.mem_of_getElem? hi) with ⟨s, rfl⟩ | ⟨n, rfl⟩ | ⟨t, rfl⟩
    all_goals trivial
theorem write_par {B b : Nat} (x : Pa) : WrC B b [.par x] :=
  write_core B b _ fun i p hi => by
    cases i with
    | zero =>
      simp at hi
      subst hi
      exact write_simple _ (by simp)
    | succ i => simp at hi
theorem write_ex {B b : Nat} {e : Ex} (h : ExC B b e) : WrC B b [.ex e] :=
  write_core B b _ fun i p hi => by
    cases i with
    | zero =>
      simp at hi
      subst hi
      exact h
    | succ i => simp at hi
theorem one_par (x : Pa) : ptsT [.par x] = paT x := by simp [ptsT, ptT]
theorem one_ex (e : Ex) : ptsT [.ex e] = exT e := by simp [ptsT, ptT]
set_option maxHeartbeats 1000000 in
set_option maxRecDepth 100000 in
theorem list_par (B b : Nat) (l : List Pa) : LsPC B b l := by
  intro bs tabs w v hT ht hB hv hl
  obtain ⟨A, cap, rfl, hn⟩ := hv.form
  have HT := Lib.hid hT
  have HTT := Lib.hid ht
  have HV := Lib.hid hv
  have HL := Lib.hid hl
  clear hT ht hv hl
  go_enter Tryd.func36, Tryd.ntmps36
  go_wp2_with (fail)
  go_loopw [8] (fun iv wr => ∃ i : Nat, i ≤ l.length ∧ iv = .int .i64 i ∧ TextAt B b (bs ++ joinC ((l.take i).map paT)) tabs wr ∧ Wr B b w wr) (fun iv _ => l.length - (intOf iv).toNat)
  case atStart => exact ⟨0, Nat.zero_le _, rfl, by rw [List.take_zero]; show TextAt B b (bs ++ []) tabs w; rw [List.append_nil]; exact HT.out, Wr.refl _ _ _⟩
  case round =>
    obtain ⟨i, hi, rfl, hTr, hwr⟩ := hrel
    have hBr : B ≤ wr.heap.size := Nat.le_trans hB hwr.1.size
    have HTR := Lib.hid hTr
    have HTB := Lib.hid (HTT.out.below hwr.1)
    clear hTr
    by_cases hlt : i < l.length
    · obtain ⟨x, hx⟩ : ∃ x, l[i]? = some x := ⟨_, List.getElem?_eq_getElem hlt⟩
      have HX := Lib.hid hx
      obtain ⟨g, o, rfl, hg, h0, h1⟩ := (HV.out.below hwr.1 (Nat.le_refl _)).cells hx
      have hgs : g < wr.heap.size := by omega
      have hsz := joinC_len paT hx
      have hsz2 := HL.out
      have HP : Hid (∀ w', PtVs B w' [.par x] (#[.iface 55 (.agg #[.string x.name, .int .i64 x.type])] : Array Value).toList) := fun _ => ⟨rfl, trivial⟩
      have HW : Hid (WrC B b [.par x]) := write_par x
      clear hx
      by_cases h00 : i = 0
      · subst h00
        have k0 : wr.cell? ⟨g, o, none⟩ = some (.string x.name) := by simpa using h0
        have k1 : wr.cell? ⟨g, o + 1, none⟩ = some (.int .i64 x.type) := by simpa using h1
        have HS : Hid ((bs ++ joinC ((l.take 0).map paT)).length + (ptsT [.par x]).length ≤ 140737488355328) := by
          unfold Hid; rw [one_par, List.length_append]; rw [if_pos rfl] at hsz; omega
        have HE : Hid (joinC ((l.take (0 + 1)).map paT) = joinC ((l.take 0).map paT) ++ ptsT [.par x]) := by unfold Hid; rw [joinC_take paT HX.out, one_par]; simp
        clear hsz hsz2
        go_wp2_with (go_at_call 21; (with_reducible refine (WrC.call ((HTR.out.alloc _).alloc _) ((HTB.out.below ((Below.refl _ _).alloc hBr _)).below ((Below.refl _ _).alloc (by simp; omega) _)) (by simp; omega) HW.out (PtsAt.made (by simp; omega) (HP.out _) _ 1 (by simp) rfl (by decide)) HS.out).mono ?_); rintro e w1 ⟨rfl, hT1, hw1⟩)
        go_roundw
        case rel => exact ⟨1, by omega, by go_num, by rw [HE.out, ← List.append_assoc]; exact hT1, ((hwr.alloc hBr _).alloc (by simp; omega) _).trans hw1⟩
        case measure => simp [intOf]; omega
      · have hip : 0 < i := by omega
        have hc2 : (⟨#[44, 32]⟩ : ByteArray).data.toList = [44, 32] := rfl
        have HS0 : Hid ((bs ++ joinC ((l.take i).map paT)).length + (⟨#[44, 32]⟩ : ByteArray).size ≤ 140737488355328) := by
          unfold Hid; rw [List.length_append]; rw [if_neg h00] at hsz; show _ + 2 ≤ _; omega
        have HS : Hid (((bs ++ joinC ((l.take i).map paT)) ++ (⟨#[44, 32]⟩ : ByteArray).data.toList).length + (ptsT [.par x]).length ≤ 140737488355328) := by
          unfold Hid; rw [one_par, hc2, List.length_append, List.length_append]; rw [if_neg h00] at hsz; show _ + 2 + _ ≤ _; omega
        have HE : Hid (joinC ((l.take (i + 1)).map paT) = joinC ((l.take i).map paT) ++ ((⟨#[44, 32]⟩ : ByteArray).data.toList ++ ptsT [.par x])) := by unfold Hid; rw [joinC_take paT HX.out, one_par, if_neg h00]
        clear hsz hsz2 h00 hc2
        go_wp2_with (first
          | (go_at_call 33; (with_reducible refine (writeString_any (HTR.out.alloc _) _ HS0.out (by simp; omega)).mono ?_); rintro e w1 ⟨rfl, hT1, hw1⟩
             have hA : Wr B b wr _ := ((Wr.refl B b wr).alloc hBr _).trans hw1
             have hrow := hw1.row (HTR.out.alloc _) (heap_alloc_new wr _) (by decide) (by decide)
             have hk0 : w1.cell? ⟨wr.heap.size, 0, none⟩ = some (.string x.name) := by rw [Lib.cell_of_heap hrow]; rfl
             have hk1 : w1.cell? ⟨wr.heap.size, 1, none⟩ = some (.int .i64 x.type) := by rw [Lib.cell_of_heap hrow]; rfl
             have HT1 := Lib.hid hT1
             have HA := Lib.hid hA
             have hB1 : B ≤ w1.heap.size := Nat.le_trans hBr hA.1.size
             clear hT1 hA hw1 hrow)
          | (go_at_call 21; (with_reducible refine (WrC.call (HT1.out.alloc _) ((HTB.out.below HA.out.bel).below ((Below.refl _ _).alloc hB1 _)) (by simp; omega) HW.out (PtsAt.made hB1 (HP.out _) _ 1 rfl rfl (by decide)) HS.out).mono ?_); rintro e w2 ⟨rfl, hT2, hw2⟩))
        go_roundw
        case rel => exact ⟨i + 1, by omega, by go_num, by rw [HE.out, ← List.append_assoc, ← List.append_assoc]; exact hT2, (hwr.trans (HA.out.alloc hB1 _)).trans hw2⟩
        case measure => simp [intOf]; omega
    · go_wp2_with (fail)
      go_end0
      have e : i = l.length := by omega
      subst e
      have HX := HTR.out
      rw [List.take_length] at HX
      exact ⟨rfl, HX, hwr⟩
set_option maxHeartbeats 1000000 in
set_option maxRecDepth 100000 in
theorem list_ex (B b : Nat) (l : List Ex) (hx : ∀ (i : Nat) e, l[i]? = some e → ExC B b e) : LsEC B b l := by
  intro bs tabs w v hT ht hB hv hl
  obtain ⟨A, cap, rfl, hn⟩ := hv.form
  have HT := Lib.hid hT
  have HTT := Lib.hid ht
  have HV := Lib.hid hv
  have HL := Lib.hid hl
  have HXX := Lib.hid hx
  clear hT ht hv hl hx
  go_enter Tryd.func38, Tryd.ntmps38
  go_wp2_with (fail)
  go_loopw [8] (fun iv wr => ∃ i : Nat, i ≤ l.length ∧ iv = .int .i64 i ∧ TextAt B b (bs ++ joinC ((l.take i).map exT)) tabs wr ∧ Wr B b w wr) (fun iv _ => l.length - (intOf iv).toNat)
  case atStart => exact ⟨0, Nat.zero_le _, rfl, by rw [List.take_zero]; show TextAt B b (bs ++ []) tabs w; rw [List.append_nil]; exact HT.out, Wr.refl _ _ _⟩
  case round =>
    obtain ⟨i, hi, rfl, hTr, hwr⟩ := hrel
    have hBr : B ≤ wr.heap.size := Nat.le_trans hB hwr.1.size
    have HTR := Lib.hid hTr
    have HTB := Lib.hid (HTT.out.below hwr.1)
    clear hTr
    by_cases hlt : i < l.length
    · obtain ⟨x, hx⟩ : ∃ x, l[i]? = some x := ⟨_, List.getElem?_eq_getElem hlt⟩
      obtain ⟨k0, op, n, name, args⟩ := x
      have HX := Lib.hid hx
      obtain ⟨g, o, v, rfl, hg, h0, h1, h2, h3, h4, hs⟩ := (HV.out.below hwr.1 (Nat.le_refl _)).cells hx
      obtain ⟨A', cap', rfl, _⟩ := hs.form
      have hr := HV.out.range hx
      have hgs : g < wr.heap.size := by omega
      have hsz := joinC_len exT hx
      have hsz2 := HL.out
      have HP : Hid (∀ w', Below B wr w' → PtVs B w' [.ex (.mk k0 op n name args)] (#[.iface 24 (.agg #[.int .i64 k0, .int .i64 op, .int .i64 n, .string name, .slice A' args.length cap'])] : Array Value).toList) := fun _ hb => ⟨⟨_, rfl, ⟨_, rfl, hr, hs.below hb (Nat.le_refl _)⟩⟩, trivial⟩
      have HW : Hid (WrC B b [.ex (.mk k0 op n name args)]) := write_ex (HXX.out i _ hx)
      clear hx hs hr
      by_cases h00 : i = 0
      · subst h00
        have q0 : wr.cell? ⟨g, o, none⟩ = some (.int .i64 k0) := by simpa using h0
        have q1 : wr.cell? ⟨g, o + 1, none⟩ = some (.int .i64 op) := by simpa using h1
        have q2 : wr.cell? ⟨g, o + 2, none⟩ = some (.int .i64 n) := by simpa using h2
        have q3 : wr.cell? ⟨g, o + 3, none⟩ = some (.string name) := by simpa using h3
        have q4 : wr.cell? ⟨g, o + 4, none⟩ = some (.slice A' args.length cap') := by simpa using h4
        have HS : Hid ((bs ++ joinC ((l.take 0).map exT)).length + (ptsT [.ex (.mk k0 op n name args)]).length ≤ 140737488355328) := by
          unfold Hid; rw [one_ex, List.length_append]; rw [if_pos rfl] at hsz; omega
        have HE : Hid (joinC ((l.take (0 + 1)).map exT) = joinC ((l.take 0).map exT) ++ ptsT [.ex (.mk k0 op n name args)]) := by unfold Hid; rw [joinC_take exT HX.out, one_ex]; simp
        clear hsz hsz2
        go_wp2_with (go_at_call 21; (with_reducible refine (WrC.call ((HTR.out.alloc _).alloc _) ((HTB.out.below ((Below.refl _ _).alloc hBr _)).below ((Below.refl _ _).alloc (by simp; omega) _)) (by simp; omega) HW.out (PtsAt.made (by simp; omega) (HP.out _ ((Below.refl _ _).alloc hBr _)) _ 1 (by simp) rfl (by decide)) HS.out).mono ?_); rintro e w1 ⟨rfl, hT1, hw1⟩)
        go_roundw
        case rel => exact ⟨1, by omega, by go_num, by rw [HE.out, ← List.append_assoc]; exact hT1, ((hwr.alloc hBr _).alloc (by simp; omega) _).trans hw1⟩
        case measure => simp [intOf]; omega
      · have hip : 0 < i := by omega
        have hc2 : (⟨#[44, 32]⟩ : ByteArray).data.toList = [44, 32] := rfl
        have HS0 : Hid ((bs ++ joinC ((l.take i).map exT)).length + (⟨#[44, 32]⟩ : ByteArray).size ≤ 140737488355328) := by
          unfold Hid; rw [List.length_append]; rw [if_neg h00] at hsz; show _ + 2 ≤ _; omega
        have HS : Hid (((bs ++ joinC ((l.take i).map exT)) ++ (⟨#[44, 32]⟩ : ByteArray).data.toList).length + (ptsT [.ex (.mk k0 op n name args)]).length ≤ 140737488355328) := by
          unfold Hid; rw [one_ex, hc2, List.length_append, List.length_append]; rw [if_neg h00] at hsz; show _ + 2 + _ ≤ _; omega
        have HE : Hid (joinC ((l.take (i + 1)).map exT) = joinC ((l.take i).map exT) ++ ((⟨#[44, 32]⟩ : ByteArray).data.toList ++ ptsT [.ex (.mk k0 op n name args)])) := by unfold Hid; rw [joinC_take exT HX.out, one_ex, if_neg h00]
        clear hsz hsz2 h00 hc2
        go_wp2_with (first
          | (go_at_call 33; (with_reducible refine (writeString_any (HTR.out.alloc _) _ HS0.out (by simp; omega)).mono ?_); rintro e w1 ⟨rfl, hT1, hw1⟩
             have hA : Wr B b wr _ := ((Wr.refl B b wr).alloc hBr _).trans hw1
             have hrow := hw1.row (HTR.out.alloc _) (heap_alloc_new wr _) (by decide) (by decide)
             have hk0 : w1.cell? ⟨wr.heap.size, 0, none⟩ = some (.int .i64 k0) := by rw [Lib.cell_of_heap hrow]; rfl
             have hk1 : w1.cell? ⟨wr.heap.size, 1, none⟩ = some (.int .i64 op) := by rw [Lib.cell_of_heap hrow]; rfl
             have hk2 : w1.cell? ⟨wr.heap.size, 2, none⟩ = some (.int .i64 n) := by rw [Lib.cell_of_heap hrow]; rfl
             have hk3 : w1.cell? ⟨wr.heap.size, 3, none⟩ = some (.string name) := by rw [Lib.cell_of_heap hrow]; rfl
             have hk4 : w1.cell? ⟨wr.heap.size, 4, none⟩ = some (.slice A' args.length cap') := by rw [Lib.cell_of_heap hrow]; rfl
             have HT1 := Lib.hid hT1
             have HA := Lib.hid hA
             have hB1 : B ≤ w1.heap.size := Nat.le_trans hBr hA.1.size
             clear hT1 hA hw1 hrow)
          | (go_at_call 21; (with_reducible refine (WrC.call (HT1.out.alloc _) ((HTB.out.below HA.out.bel).below ((Below.refl _ _).alloc hB1 _)) (by simp; omega) HW.out (PtsAt.made hB1 (HP.out _ HA.out.bel) _ 1 rfl rfl (by decide)) HS.out).mono ?_); rintro e w2 ⟨rfl, hT2, hw2⟩))
        go_roundw
        case rel => exact ⟨i + 1, by omega, by go_num, by rw [HE.out, ← List.append_assoc, ← List.append_assoc]; exact hT2, (hwr.trans (HA.out.alloc hB1 _)).trans hw2⟩
        case measure => simp [intOf]; omega
    · go_wp2_with (fail)
      go_end0
      have e : i = l.length := by omega
      subst e
      have HX := HTR.out
      rw [List.take_length] at HX
      exact ⟨rfl, HX, hwr⟩
end Go.Proofs.YtomdcgifkkmopaaDoor
