/- The contract of tree.Print: C2. -/
import Derived.Test.YtomdcgifkkmopaaDoorTreeStmtA
import Derived.Test.YtomdcgifkkmopaaDoorTreeRightP
namespace Go.Proofs.YtomdcgifkkmopaaDoor
open Go.RowKit
theorem arT_parts (a : Ar) : arT a = tabT 0 ++ (ptsT [.knd 1, .str ⟨#[32]⟩, .str a.name, .str ⟨#[91]⟩, .num a.size, .str ⟨#[93, 59]⟩] ++ [10]) := by
  simp [arT, ptsT, ptT, tabT, tyT]
theorem fuT_parts (f : Fu) : fuT f = (tabT 0 ++ (ptsT [.knd f.type, .str ⟨#[32]⟩, .str f.name, .str ⟨#[40]⟩, .pars f.params, .str ⟨#[41, 32, 123]⟩] ++ [10])) ++ (stsT f.body 1 ++ (tabT 0 ++ (ptsT [.str ⟨#[125]⟩] ++ [10]))) := by
  simp [fuT, ptsT, ptT, tabT]
theorem arT_line {B b : Nat} (a : Ar) : LnC B b [.knd 1, .str ⟨#[32]⟩, .str a.name, .str ⟨#[91]⟩, .num a.size, .str ⟨#[93, 59]⟩] := line_any B b _ (write_simple _ (by simp))
theorem fuT_line {B b : Nat} (f : Fu) : LnC B b [.knd f.type, .str ⟨#[32]⟩, .str f.name, .str ⟨#[40]⟩, .pars f.params, .str ⟨#[41, 32, 123]⟩] := line_any B b _ (write_core B b _ (forall_list fun p hp => by
  simp only [List.mem_cons, List.not_mem_nil, or_false] at hp
  rcases hp with rfl | rfl | rfl | rfl | rfl | rfl
  · trivial
  · trivial
  · trivial
  · trivial
  · exact list_par B b f.params
  · trivial))
theorem flat_len {α : Type} (f : α → List UInt8) {l : List α} {i : Nat} {x : α} (h : l[i]? = some x) : ((l.take i).map f).flatten.length + (f x).length ≤ (l.map f).flatten.length := by
  have e : (l.map f).flatten = ((l.take (i + 1)).map f).flatten ++ ((l.drop (i + 1)).map f).flatten := by
    rw [← List.flatten_append, ← List.map_append, List.take_append_drop]
  rw [e, flatten_take f h, List.length_append, List.length_append]
  omega
theorem prT_nil {p : Pr} (h : prT p = []) : p.arrays.length = 0 ∧ p.funcs.length = 0 := by
  unfold prT at h
  rw [List.append_eq_nil_iff] at h
  obtain ⟨h1, h2⟩ := h
  constructor
  · cases ha : p.arrays with
    | nil => rfl
    | cons a r => rw [ha] at h1; simp [arT] at h1
  · cases ha : p.funcs with
    | nil => rfl
    | cons a r =>
      rw [ha] at h2
      simp [fuT] at h2
/-- What Print answers. -/
def PrintPost (B : Nat) (p : Pr) (w : World) (e : Ending) (w' : World) : Prop :=
  Below B w w' ∧ e = .returned (.tuple #[.string ⟨(if prOK p then prT p else []).toArray⟩, .int .i64 (if prOK p then 0 else 1)])
set_option maxHeartbeats 2000000 in
set_option maxRecDepth 100000 in
theorem print_no (B : Nat) (p : Pr) (hc : prOK p = false) (v v' : Value) (w : World) (ht : TreeTab B w) (hB : B ≤ w.heap.size) (ha : SlA B w v p.arrays) (hf : SlF B w v' p.funcs) :
    Calls Tryd.prog 4 #[.agg #[v, v']] w (PrintPost B p w) := by
  obtain ⟨A, cap, rfl, hn⟩ := ha.form
  obtain ⟨A2, cap2, rfl, hn2⟩ := hf.form
  have HT := Lib.hid ht
  have HA := Lib.hid ha
  have HF := Lib.hid hf
  have HC := Lib.hid hc
  clear ht ha hf hc
  go_enter Tryd.func4, Tryd.ntmps4
  go_wp2_with (go_at_call 7; (with_reducible refine (right_any B p _ HC.out _ _ _ (HT.out.below ((Below.refl _ _).alloc hB _)) (by simp; omega) (HA.out.below ((Below.refl _ _).alloc hB _) (Nat.le_refl _)) (HF.out.below ((Below.refl _ _).alloc hB _) (Nat.le_refl _))).mono ?_); rintro e w1 ⟨rfl, hb1⟩)
  go_ret2
  exact ⟨((Below.refl B w).alloc hB _).trans (hb1.mono (by simp; omega)), by rw [HC.out]; rfl⟩
set_option maxHeartbeats 8000000 in
set_option maxRecDepth 100000 in
theorem print_yes (B : Nat) (p : Pr) (hc : prOK p = true) (hlen : (prT p).length ≤ 1099511627776) (v v' : Value) (w : World) (ht : TreeTab B w) (hB : B ≤ w.heap.size) (ha : SlA B w v p.arrays) (hf : SlF B w v' p.funcs) :
    Calls Tryd.prog 4 #[.agg #[v, v']] w (PrintPost B p w) := by
  obtain ⟨A, cap, rfl, hn⟩ := ha.form
  obtain ⟨A2, cap2, rfl, hn2⟩ := hf.form
  have HT := Lib.hid ht
  have HA := Lib.hid ha
  have HF := Lib.hid hf
  have HC := Lib.hid hc
  have hall : p.arrays.all arOK = true ∧ p.funcs.all fuOK = true := by unfold prOK at hc; simpa using hc
  have HLL := Lib.hid hlen
  have HAO := Lib.hid hall.1
  have HFO := Lib.hid hall.2
  clear ht ha hf hc hall hlen
  go_enter Tryd.func4, Tryd.ntmps4
  go_wp2_with (first
    | (go_at_call 7
       (with_reducible refine (right_any B p _ HC.out _ _ _ (HT.out.below ((Below.refl _ _).alloc hB _)) (by simp; omega) (HA.out.below ((Below.refl _ _).alloc hB _) (Nat.le_refl _)) (HF.out.below ((Below.refl _ _).alloc hB _) (Nat.le_refl _))).mono ?_)
       rintro e w1 ⟨rfl, hb1⟩
       have hrow : w1.heap[w.heap.size]? = some (.cells #[.slice A p.arrays.length cap, .slice A2 p.funcs.length cap2] 34 (0, 0)) := (hb1.block _ (by simp)).trans (heap_alloc_new w _)
       have k0 : w1.cell? ⟨w.heap.size, 0, none⟩ = some (.slice A p.arrays.length cap) := (by rw [Lib.cell_of_heap hrow]; rfl)
       have hq1 : w.heap.size < w1.heap.size := (by have := hb1.size; simp at this; omega)
       have HR1 := Lib.hid hrow
       clear hrow))
  have hw1 : Below B w w1 := ((Below.refl B w).alloc hB _).trans (hb1.mono (by simp; omega))
  obtain ⟨W, hW⟩ : ∃ W, w1.alloc (.cells #[.pointer none, .slice none 0 0, .int .i64 0] 46) = W := ⟨_, rfl⟩
  obtain ⟨b, hb⟩ : ∃ b, w1.heap.size = b := ⟨_, rfl⟩
  have hBb : B ≤ b := by omega
  have hnew : W.heap[b]? = some (.cells #[.pointer none, .slice none 0 0, .int .i64 ((0 : Nat) : Int)] 46 (0, 0)) := by rw [← hW, ← hb]; exact heap_alloc_new w1 _
  have HN := Lib.hid hnew
  have HT0 : Hid (TextAt B b [] 0 W) := ⟨hBb, _, _, .inl rfl, hnew, World.ownsRow_nil _ _ _ _⟩
  have hwW : Below B w W := hW ▸ hw1.alloc (by omega) _
  have HRW : Hid (W.heap[w.heap.size]? = some (.cells #[.slice A p.arrays.length cap, .slice A2 p.funcs.length cap2] 34 (0, 0))) := by
    unfold Hid; rw [← hW]; exact (Lib.alloc_old w1 _ _ hq1).trans HR1.out
  have hWs : w1.heap.size + 1 = W.heap.size := by rw [← hW]; simp
  have hbW : b < W.heap.size := by omega
  rw [hW, hb]
  clear hnew hW hb hb1 hw1 k0 hq1 HR1 hWs
  go_loopw [15] (fun iv wr => ∃ i : Nat, i ≤ p.arrays.length ∧ iv = .int .i64 i ∧ TextAt B b (((p.arrays.take i).map arT).flatten) 0 wr ∧ Wr B b W wr ∧ (i = 0 → wr.heap[b]? = some (.cells #[.pointer none, .slice none 0 0, .int .i64 ((0 : Nat) : Int)] 46 (0, 0)))) (fun iv _ => p.arrays.length - (intOf iv).toNat)
  case atStart => exact ⟨0, Nat.zero_le _, rfl, HT0.out, Wr.refl _ _ _, fun _ => HN.out⟩
  case round =>
    obtain ⟨i, hi, rfl, hTr, hwr, h0⟩ := hrel
    have H0 := Lib.hid h0
    have hwB := hwW.trans hwr.bel
    have hBr : B ≤ wr.heap.size := Nat.le_trans hB hwB.size
    have HTR := Lib.hid hTr
    have HTB := Lib.hid (HT.out.below hwB)
    have hrw := hwr.row HT0.out HRW.out (by decide) (by decide)
    have k1 : wr.cell? ⟨w.heap.size, 1, none⟩ = some (.slice A2 p.funcs.length cap2) := by rw [Lib.cell_of_heap hrw]; rfl
    have HRR := Lib.hid hrw
    clear hTr h0 hrw
    by_cases hlt : i < p.arrays.length
    · obtain ⟨x, hx⟩ : ∃ x, p.arrays[i]? = some x := ⟨_, List.getElem?_eq_getElem hlt⟩
      have HX := Lib.hid hx
      obtain ⟨g, o, rfl, hg, q0, q1⟩ := (HA.out.below hwB (Nat.le_refl _)).cells hx
      have hgs : g < wr.heap.size := by omega
      have hok : arOK x = true := List.all_eq_true.1 HAO.out x (List.mem_of_getElem? hx)
      have hsz : i64R x.size := by
        simp [arOK] at hok
        exact ⟨by omega, by omega⟩
      have HP : Hid (∀ w', PtVs B w' [.knd 1, .str ⟨#[32]⟩, .str x.name, .str ⟨#[91]⟩, .num x.size, .str ⟨#[93, 59]⟩] (#[.iface 50 (.int .i64 1), .iface 9 (.string ⟨#[32]⟩), .iface 9 (.string x.name), .iface 9 (.string ⟨#[91]⟩), .iface 3 (.int .i64 x.size), .iface 9 (.string ⟨#[93, 59]⟩)] : Array Value).toList) := fun w' => ⟨rfl, rfl, rfl, rfl, ⟨rfl, hsz⟩, rfl, trivial⟩
      have HW := Lib.hid (arT_line (B := B) (b := b) x)
      have hlen := flat_len arT hx
      have HE : Hid (((p.arrays.take (i + 1)).map arT).flatten = ((p.arrays.take i).map arT).flatten ++ (tabT 0 ++ (ptsT [.knd 1, .str ⟨#[32]⟩, .str x.name, .str ⟨#[91]⟩, .num x.size, .str ⟨#[93, 59]⟩] ++ [10]))) := by
        unfold Hid; rw [flatten_take arT hx, arT_parts]
      have HL : Hid ((((p.arrays.take i).map arT).flatten).length + 0 + (ptsT [.knd 1, .str ⟨#[32]⟩, .str x.name, .str ⟨#[91]⟩, .num x.size, .str ⟨#[93, 59]⟩]).length + 1 ≤ 140737488355328) := by
        have h1 := HLL.out
        unfold prT at h1
        rw [arT_parts] at hlen
        simp only [List.length_append, List.length_singleton] at hlen h1
        have : (tabT 0).length = 0 := rfl
        unfold Hid
        omega
      clear hx hok hsz hlen
      go_wp2_with (go_at_call 9; (with_reducible refine (LnC.call ((HTR.out.alloc _).alloc _) ((HTB.out.below ((Below.refl _ _).alloc hBr _)).below ((Below.refl _ _).alloc (by simp; omega) _)) (by simp; omega) HW.out (PtsAt.made (by simp; omega) (HP.out _) _ 6 (by simp) rfl (by decide)) (by decide) HL.out).mono ?_); rintro e w2 ⟨rfl, hT2, hw2⟩)
      go_roundw
      case rel => exact ⟨i + 1, by omega, by go_num, by rw [HE.out]; exact hT2, ((hwr.alloc hBr _).alloc (by simp; omega) _).trans hw2, fun h => absurd h (by omega)⟩
      case measure => simp [intOf]; omega
    · have e : i = p.arrays.length := by omega
      have hH : Hid (p.arrays.length = 0 → wr.heap[b]? = some (.cells #[.pointer none, .slice none 0 0, .int .i64 ((0 : Nat) : Int)] 46 (0, 0))) := fun h => H0.out (by omega)
      have HTR2 : Hid (TextAt B b ((p.arrays.map arT).flatten) 0 wr) := by have := HTR.out; rw [e, List.take_length] at this; exact this
      have hqr : w.heap.size < wr.heap.size := (Array.getElem?_eq_some_iff.1 HRR.out).1
      clear HTR e H0
      go_wp2_with (fail)
      go_loopw [35] (fun iv wr' => ∃ j : Nat, j ≤ p.funcs.length ∧ iv = .int .i64 j ∧ TextAt B b ((p.arrays.map arT).flatten ++ ((p.funcs.take j).map fuT).flatten) 0 wr' ∧ Wr B b W wr' ∧ (p.arrays.length = 0 → j = 0 → wr'.heap[b]? = some (.cells #[.pointer none, .slice none 0 0, .int .i64 ((0 : Nat) : Int)] 46 (0, 0)))) (fun iv _ => p.funcs.length - (intOf iv).toNat)
      case atStart => exact ⟨0, Nat.zero_le _, rfl, by rw [List.take_zero, List.map_nil, List.flatten_nil, List.append_nil]; exact HTR2.out, hwr, fun h _ => hH.out h⟩
      case round =>
        obtain ⟨j, hj, rfl, hTr2, hwr2, h02⟩ := hrel
        have H02 := Lib.hid h02
        have hwB2 := hwW.trans hwr2.bel
        have hBr2 : B ≤ wr.heap.size := Nat.le_trans hB hwB2.size
        have HTR := Lib.hid hTr2
        have HTB2 := Lib.hid (HT.out.below hwB2)
        clear hTr2 h02
        by_cases hlt2 : j < p.funcs.length
        · obtain ⟨f, hx⟩ : ∃ x, p.funcs[j]? = some x := ⟨_, List.getElem?_eq_getElem hlt2⟩
          have HX := Lib.hid hx
          obtain ⟨g, o, v1, v2, rfl, hg, q0, q1, q2, q3, hp, hb⟩ := (HF.out.below hwB2 (Nat.le_refl _)).cells hx
          obtain ⟨A3, cap3, rfl, _⟩ := hp.form
          obtain ⟨A4, cap4, rfl, _⟩ := hb.form
          have hgs : g < wr.heap.size := by omega
          have hok : fuOK f = true := List.all_eq_true.1 HFO.out f (List.mem_of_getElem? hx)
          have hst : stsOK f.body 100 = true := by
            unfold fuOK at hok
            simp only [Bool.and_eq_true] at hok
            exact hok.2
          have HP : Hid (∀ w', Below B wr w' → PtVs B w' [.knd f.type, .str ⟨#[32]⟩, .str f.name, .str ⟨#[40]⟩, .pars f.params, .str ⟨#[41, 32, 123]⟩] (#[.iface 50 (.int .i64 f.type), .iface 9 (.string ⟨#[32]⟩), .iface 9 (.string f.name), .iface 9 (.string ⟨#[40]⟩), .iface 28 (.slice A3 f.params.length cap3), .iface 9 (.string ⟨#[41, 32, 123]⟩)] : Array Value).toList) :=
            fun w' hb => ⟨rfl, rfl, rfl, rfl, ⟨_, rfl, hp.below hb (Nat.le_refl _)⟩, rfl, trivial⟩
          have HP2 : Hid (∀ w', PtVs B w' [.str ⟨#[125]⟩] (#[.iface 9 (.string ⟨#[125]⟩)] : Array Value).toList) := fun w' => ⟨rfl, trivial⟩
          have HW := Lib.hid (fuT_line (B := B) (b := b) f)
          have HW2 : Hid (LnC B b [.str ⟨#[125]⟩]) := parts_any _ (by simp)
          have HS := Lib.hid hb
          have HBL := Lib.hid (stmts_any B b f.body hst)
          have hlen := flat_len fuT hx
          have ht0 : (tabT 0).length = 0 := rfl
          obtain ⟨T0, hT0⟩ : ∃ T0, (p.arrays.map arT).flatten ++ ((p.funcs.take j).map fuT).flatten = T0 := ⟨_, rfl⟩
          have HE : Hid ((p.arrays.map arT).flatten ++ ((p.funcs.take (j + 1)).map fuT).flatten = T0 ++ (tabT 0 ++ (ptsT [.knd f.type, .str ⟨#[32]⟩, .str f.name, .str ⟨#[40]⟩, .pars f.params, .str ⟨#[41, 32, 123]⟩] ++ [10])) ++ stsT f.body (0 + 1) ++ (tabT 0 ++ (ptsT [.str ⟨#[125]⟩] ++ [10]))) := by
            unfold Hid
            rw [flatten_take fuT hx, fuT_parts, ← List.append_assoc, hT0]
            simp only [List.append_assoc]
          have hTL : T0.length + (fuT f).length ≤ 1099511627776 := by
            have h1 := HLL.out
            unfold prT at h1
            rw [← hT0]
            simp only [List.length_append] at h1 hlen ⊢
            omega
          rw [fuT_parts] at hTL
          have HL1 : Hid (T0.length + 0 + (ptsT [.knd f.type, .str ⟨#[32]⟩, .str f.name, .str ⟨#[40]⟩, .pars f.params, .str ⟨#[41, 32, 123]⟩]).length + 1 ≤ 140737488355328) := by
            unfold Hid; simp only [List.length_append, List.length_singleton, ht0] at hTL ⊢; omega
          have HL2 : Hid ((T0 ++ (tabT 0 ++ (ptsT [.knd f.type, .str ⟨#[32]⟩, .str f.name, .str ⟨#[40]⟩, .pars f.params, .str ⟨#[41, 32, 123]⟩] ++ [10]))).length + (stsT f.body (0 + 1)).length ≤ 140737488355328) := by
            unfold Hid; simp only [List.length_append, List.length_singleton, ht0, Nat.zero_add] at hTL ⊢; omega
          have HL3 : Hid ((T0 ++ (tabT 0 ++ (ptsT [.knd f.type, .str ⟨#[32]⟩, .str f.name, .str ⟨#[40]⟩, .pars f.params, .str ⟨#[41, 32, 123]⟩] ++ [10])) ++ stsT f.body (0 + 1)).length + 0 + (ptsT [.str ⟨#[125]⟩]).length + 1 ≤ 140737488355328) := by
            unfold Hid; simp only [List.length_append, List.length_singleton, ht0, Nat.zero_add] at hTL ⊢; omega
          rw [hT0] at HTR
          clear hx hok hst hlen hp hb hTL hT0 ht0
          go_wp2_with (first
            | (go_at_call 9
               (with_reducible refine (LnC.call ((HTR.out.alloc _).alloc _) ((HTB2.out.below ((Below.refl _ _).alloc hBr2 _)).below ((Below.refl _ _).alloc (by simp; omega) _)) (by simp; omega) HW.out (PtsAt.made (by simp; omega) (HP.out _ ((Below.refl _ _).alloc hBr2 _)) _ 6 (by simp) rfl (by decide)) (by decide) HL1.out).mono ?_)
               rintro e w1 ⟨rfl, hT1, hw1⟩
               have hA1 : Wr B b wr w1 := (((Wr.refl B b wr).alloc hBr2 _).alloc (by simp; omega) _).trans hw1
               have hr1 : w1.heap[wr.heap.size]? = some (.cells #[.string f.name, .int .i64 f.type, .slice A3 f.params.length cap3, .slice A4 f.body.length cap4] 30 (0, 0)) := hw1.row ((HTR.out.alloc _).alloc _) ((Lib.alloc_old _ _ _ (by simp)).trans (heap_alloc_new wr _)) (by decide) (by decide)
               have y3 : w1.cell? ⟨wr.heap.size, 3, none⟩ = some (.slice A4 f.body.length cap4) := (by rw [Lib.cell_of_heap hr1]; rfl)
               have hz1 : B ≤ w1.heap.size := Nat.le_trans hBr2 hA1.bel.size
               have HT1 := Lib.hid hT1
               have HA1 := Lib.hid hA1
               clear hT1 hw1 hr1 hA1)
            | (go_at_call 10
               (with_reducible refine (BlC.call HT1.out (HTB2.out.below HA1.out.bel) hz1 HBL.out (HS.out.below HA1.out.bel (Nat.le_refl _)) HL2.out).mono ?_)
               rintro e w2 ⟨rfl, hT2, hw2⟩
               have hz2 : B ≤ w2.heap.size := Nat.le_trans hz1 hw2.bel.size
               have HT2 := Lib.hid hT2
               have HA2 := Lib.hid (HA1.out.trans hw2)
               clear hT2 hw2)
            | (go_at_call 9
               (with_reducible refine (LnC.call (HT2.out.alloc _) (HTB2.out.below (HA2.out.bel.alloc hz2 _)) (by simp; omega) HW2.out (PtsAt.made hz2 (HP2.out _) _ 1 rfl rfl (by decide)) (by decide) HL3.out).mono ?_)
               rintro e w3 ⟨rfl, hT3, hw3⟩))
          go_roundw
          case rel => exact ⟨j + 1, by omega, by go_num, by rw [HE.out]; exact hT3, hwr2.trans ((HA2.out.alloc hz2 _).trans hw3), fun _ h => absurd h (by omega)⟩
          case measure => simp [intOf]; omega
        · have e : j = p.funcs.length := by omega
          have HTX : Hid (TextAt B b (prT p) 0 wr) := by have := HTR.out; rw [e, List.take_length] at this; exact this
          by_cases hnil : prT p = []
          · obtain ⟨ha0, hf0⟩ := prT_nil hnil
            have hbk := H02.out ha0 (by omega)
            have HNIL := Lib.hid hnil
            clear HTR e H02 hnil ha0 hf0
            go_wp2_with (go_at_call 11; (refine (string_none (B := B) hbk).mono ?_); rintro e w2 ⟨rfl, hx2⟩)
            go_ret2
            exact ⟨hwB2.trans hx2, by rw [HC.out]; rw [if_pos rfl, HNIL.out]; rfl⟩
          · have HNIL := Lib.hid hnil
            clear HTR e H02 hnil
            go_wp2_with (go_at_call 11; (refine (string_some HTX.out HNIL.out).mono ?_); rintro e w2 ⟨rfl, hx2⟩)
            go_ret2
            exact ⟨hwB2.trans hx2, by rw [HC.out]; rfl⟩
/-- tree.Print: C2. -/
theorem print_any (B : Nat) (p : Pr) (hlen : prOK p = true → (prT p).length ≤ 1099511627776) (v v' : Value) (w : World) (ht : TreeTab B w) (hB : B ≤ w.heap.size) (ha : SlA B w v p.arrays) (hf : SlF B w v' p.funcs) :
    Calls Tryd.prog 4 #[.agg #[v, v']] w (PrintPost B p w) := by
  cases hc : prOK p with
  | false => exact print_no B p hc v v' w ht hB ha hf
  | true => exact print_yes B p hc (hlen hc) v v' w ht hB ha hf
end Go.Proofs.YtomdcgifkkmopaaDoor
