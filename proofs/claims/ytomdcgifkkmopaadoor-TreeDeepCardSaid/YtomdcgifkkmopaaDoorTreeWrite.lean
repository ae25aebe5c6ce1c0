/- The contract of the method write of package tree, over the contracts of what it hands its parts to. -/
import Derived.Test.YtomdcgifkkmopaaDoorTreeParts
import Derived.Deep.RegionWith
namespace Go.Proofs.YtomdcgifkkmopaaDoor
open Go.RowKit
/-- What a part asks of the method that it is handed to. -/
def Hd (B b : Nat) : Pt → Prop
  | .par x => WrC B b [.knd x.type, .str ⟨#[32]⟩, .str x.name]
  | .pars l => LsPC B b l
  | .ex e => ExC B b e
  | .exs l => LsEC B b l
  | .opd e lev => OpC B b e lev
  | _ => True
def PtVs (B : Nat) (w : World) : List Pt → List Value → Prop
  | [], [] => True
  | p :: l, x :: xs => PtV B w p x ∧ PtVs B w l xs
  | _, _ => False
theorem PtVs.at {B : Nat} {w : World} : ∀ (l : List Pt) (xs : List Value), PtVs B w l xs → ∀ (i : Nat) (p : Pt), l[i]? = some p → ∃ x, xs[i]? = some x ∧ PtV B w p x
  | [], _, _, _, _, hi => by simp at hi
  | _ :: _, [], h, _, _, _ => h.elim
  | q :: l, x :: xs, h, 0, p, hi => by
    simp at hi
    subst hi
    exact ⟨x, rfl, h.1⟩
  | q :: l, x :: xs, h, i + 1, p, hi => by
    obtain ⟨y, hy, hp⟩ := PtVs.at l xs h.2 i p (by simpa using hi)
    exact ⟨y, by simpa using hy, hp⟩
/-- A slice of parts that has just been made. -/
theorem PtsAt.made {B : Nat} {w : World} {l : List Pt} {xs : Array Value} (hB : B ≤ w.heap.size) (h : PtVs B w l xs.toList) (k n : Nat) (hk : w.heap.size = k) (hn : l.length = n) (h64 : n ≤ 64) : PtsAt B (w.alloc (.cells xs 20)) l (.slice (some ⟨k, 0, none⟩) n n) := by
  subst hn hk
  refine ⟨w.heap.size, xs, rfl, h64, heap_alloc_new w _, fun i p hi => ?_⟩
  obtain ⟨x, hx, hp⟩ := PtVs.at l _ h i p hi
  exact ⟨x, by simpa using hx, hp.below ((Below.refl B w).alloc hB _) (Nat.le_refl _)⟩
theorem ptsT_take {l : List Pt} {i : Nat} {p : Pt} (h : l[i]? = some p) : ptsT (l.take (i + 1)) = ptsT (l.take i) ++ ptT p := flatten_take ptT h
theorem ptsT_len {l : List Pt} {i : Nat} {p : Pt} (h : l[i]? = some p) : (ptsT (l.take i)).length + (ptT p).length ≤ (ptsT l).length := by
  have e : ptsT l = ptsT (l.take (i + 1)) ++ ptsT (l.drop (i + 1)) := by
    unfold ptsT
    rw [← List.flatten_append, ← List.map_append, List.take_append_drop]
  rw [e, ptsT_take h, List.length_append, List.length_append]
  omega
theorem paT_parts (x : Pa) : ptsT [.knd x.type, .str ⟨#[32]⟩, .str x.name] = paT x := by simp [ptsT, ptT, paT]
/-! ### type assertions -/
theorem ta_str (v : Value) (w : World) : (Instr.typeAssert (.iface 9 v) 20 9 true).run Tryd.prog w = .ok (.tuple #[v, .bool true]) w := by kernel_rfl
theorem ta_num (v : Value) (w : World) : (Instr.typeAssert (.iface 3 v) 20 3 true).run Tryd.prog w = .ok (.tuple #[v, .bool true]) w := by kernel_rfl
theorem ta_num_str (v : Value) (w : World) : (Instr.typeAssert (.iface 3 v) 20 9 true).run Tryd.prog w = .ok (.tuple #[.string ⟨#[]⟩, .bool false]) w := by kernel_rfl
theorem ta_knd (v : Value) (w : World) : (Instr.typeAssert (.iface 50 v) 20 50 true).run Tryd.prog w = .ok (.tuple #[v, .bool true]) w := by kernel_rfl
theorem ta_knd_str (v : Value) (w : World) : (Instr.typeAssert (.iface 50 v) 20 9 true).run Tryd.prog w = .ok (.tuple #[.string ⟨#[]⟩, .bool false]) w := by kernel_rfl
theorem ta_knd_num (v : Value) (w : World) : (Instr.typeAssert (.iface 50 v) 20 3 true).run Tryd.prog w = .ok (.tuple #[.int .i64 0, .bool false]) w := by kernel_rfl
theorem ta_par (v : Value) (w : World) : (Instr.typeAssert (.iface 55 v) 20 55 true).run Tryd.prog w = .ok (.tuple #[v, .bool true]) w := by kernel_rfl
theorem ta_par_str (v : Value) (w : World) : (Instr.typeAssert (.iface 55 v) 20 9 true).run Tryd.prog w = .ok (.tuple #[.string ⟨#[]⟩, .bool false]) w := by kernel_rfl
theorem ta_par_num (v : Value) (w : World) : (Instr.typeAssert (.iface 55 v) 20 3 true).run Tryd.prog w = .ok (.tuple #[.int .i64 0, .bool false]) w := by kernel_rfl
theorem ta_par_knd (v : Value) (w : World) : (Instr.typeAssert (.iface 55 v) 20 50 true).run Tryd.prog w = .ok (.tuple #[.int .i64 0, .bool false]) w := by kernel_rfl
theorem ta_pars (v : Value) (w : World) : (Instr.typeAssert (.iface 28 v) 20 28 true).run Tryd.prog w = .ok (.tuple #[v, .bool true]) w := by kernel_rfl
theorem ta_pars_str (v : Value) (w : World) : (Instr.typeAssert (.iface 28 v) 20 9 true).run Tryd.prog w = .ok (.tuple #[.string ⟨#[]⟩, .bool false]) w := by kernel_rfl
theorem ta_pars_num (v : Value) (w : World) : (Instr.typeAssert (.iface 28 v) 20 3 true).run Tryd.prog w = .ok (.tuple #[.int .i64 0, .bool false]) w := by kernel_rfl
theorem ta_pars_knd (v : Value) (w : World) : (Instr.typeAssert (.iface 28 v) 20 50 true).run Tryd.prog w = .ok (.tuple #[.int .i64 0, .bool false]) w := by kernel_rfl
theorem ta_pars_par (v : Value) (w : World) : (Instr.typeAssert (.iface 28 v) 20 55 true).run Tryd.prog w = .ok (.tuple #[.agg #[.string ⟨#[]⟩, .int .i64 0], .bool false]) w := by kernel_rfl
theorem ta_ex (v : Value) (w : World) : (Instr.typeAssert (.iface 24 v) 20 24 true).run Tryd.prog w = .ok (.tuple #[v, .bool true]) w := by kernel_rfl
theorem ta_ex_str (v : Value) (w : World) : (Instr.typeAssert (.iface 24 v) 20 9 true).run Tryd.prog w = .ok (.tuple #[.string ⟨#[]⟩, .bool false]) w := by kernel_rfl
theorem ta_ex_num (v : Value) (w : World) : (Instr.typeAssert (.iface 24 v) 20 3 true).run Tryd.prog w = .ok (.tuple #[.int .i64 0, .bool false]) w := by kernel_rfl
theorem ta_ex_knd (v : Value) (w : World) : (Instr.typeAssert (.iface 24 v) 20 50 true).run Tryd.prog w = .ok (.tuple #[.int .i64 0, .bool false]) w := by kernel_rfl
theorem ta_ex_par (v : Value) (w : World) : (Instr.typeAssert (.iface 24 v) 20 55 true).run Tryd.prog w = .ok (.tuple #[.agg #[.string ⟨#[]⟩, .int .i64 0], .bool false]) w := by kernel_rfl
theorem ta_ex_pars (v : Value) (w : World) : (Instr.typeAssert (.iface 24 v) 20 28 true).run Tryd.prog w = .ok (.tuple #[.slice none 0 0, .bool false]) w := by kernel_rfl
theorem ta_exs (v : Value) (w : World) : (Instr.typeAssert (.iface 22 v) 20 22 true).run Tryd.prog w = .ok (.tuple #[v, .bool true]) w := by kernel_rfl
theorem ta_exs_str (v : Value) (w : World) : (Instr.typeAssert (.iface 22 v) 20 9 true).run Tryd.prog w = .ok (.tuple #[.string ⟨#[]⟩, .bool false]) w := by kernel_rfl
theorem ta_exs_num (v : Value) (w : World) : (Instr.typeAssert (.iface 22 v) 20 3 true).run Tryd.prog w = .ok (.tuple #[.int .i64 0, .bool false]) w := by kernel_rfl
theorem ta_exs_knd (v : Value) (w : World) : (Instr.typeAssert (.iface 22 v) 20 50 true).run Tryd.prog w = .ok (.tuple #[.int .i64 0, .bool false]) w := by kernel_rfl
theorem ta_exs_par (v : Value) (w : World) : (Instr.typeAssert (.iface 22 v) 20 55 true).run Tryd.prog w = .ok (.tuple #[.agg #[.string ⟨#[]⟩, .int .i64 0], .bool false]) w := by kernel_rfl
theorem ta_exs_pars (v : Value) (w : World) : (Instr.typeAssert (.iface 22 v) 20 28 true).run Tryd.prog w = .ok (.tuple #[.slice none 0 0, .bool false]) w := by kernel_rfl
theorem ta_exs_ex (v : Value) (w : World) : (Instr.typeAssert (.iface 22 v) 20 24 true).run Tryd.prog w = .ok (.tuple #[.agg #[.int .i64 0, .int .i64 0, .int .i64 0, .string ⟨#[]⟩, .slice none 0 0], .bool false]) w := by kernel_rfl
theorem ta_opd (v : Value) (w : World) : (Instr.typeAssert (.iface 81 v) 20 81 true).run Tryd.prog w = .ok (.tuple #[v, .bool true]) w := by kernel_rfl
theorem ta_opd_str (v : Value) (w : World) : (Instr.typeAssert (.iface 81 v) 20 9 true).run Tryd.prog w = .ok (.tuple #[.string ⟨#[]⟩, .bool false]) w := by kernel_rfl
theorem ta_opd_num (v : Value) (w : World) : (Instr.typeAssert (.iface 81 v) 20 3 true).run Tryd.prog w = .ok (.tuple #[.int .i64 0, .bool false]) w := by kernel_rfl
theorem ta_opd_knd (v : Value) (w : World) : (Instr.typeAssert (.iface 81 v) 20 50 true).run Tryd.prog w = .ok (.tuple #[.int .i64 0, .bool false]) w := by kernel_rfl
theorem ta_opd_par (v : Value) (w : World) : (Instr.typeAssert (.iface 81 v) 20 55 true).run Tryd.prog w = .ok (.tuple #[.agg #[.string ⟨#[]⟩, .int .i64 0], .bool false]) w := by kernel_rfl
theorem ta_opd_pars (v : Value) (w : World) : (Instr.typeAssert (.iface 81 v) 20 28 true).run Tryd.prog w = .ok (.tuple #[.slice none 0 0, .bool false]) w := by kernel_rfl
theorem ta_opd_ex (v : Value) (w : World) : (Instr.typeAssert (.iface 81 v) 20 24 true).run Tryd.prog w = .ok (.tuple #[.agg #[.int .i64 0, .int .i64 0, .int .i64 0, .string ⟨#[]⟩, .slice none 0 0], .bool false]) w := by kernel_rfl
theorem ta_opd_exs (v : Value) (w : World) : (Instr.typeAssert (.iface 81 v) 20 22 true).run Tryd.prog w = .ok (.tuple #[.slice none 0 0, .bool false]) w := by kernel_rfl
theorem itoa_any {B b : Nat} {bs : List UInt8} {tabs : Nat} {w : World} (hT : TextAt B b bs tabs w) (ht : TreeTab B w) (hB : B ≤ w.heap.size) (n : Int) (hn : i64R n) :
    Calls Tryd.prog 34 #[.int .i64 n] w fun e w' => e = .returned (.string ⟨(Lib.itoa n).toArray⟩) ∧ TextAt B b bs tabs w' ∧ Wr B b w w' := by
  refine (Any.strconv_Itoa Tryd.laysM171 n hn.1 hn.2 w (ht.pow w (Below.refl _ _))).mono ?_
  rintro e w' ⟨rfl, k, os, hw⟩
  have hh : w'.heap = w.heap ++ os := by rw [hw]; rfl
  have hk : ∀ i, i < w.heap.size → w'.heap[i]? = w.heap[i]? := fun i hi => by rw [hh, Array.getElem?_append_left hi]
  have hb : Below w.heap.size w w' := ⟨by rw [hw]; rfl, by rw [hw]; rfl, by rw [hw]; rfl, by rw [hh]; simp, hk⟩
  exact ⟨rfl, hT.kept hk, Wr.of_below hb hB⟩
set_option maxHeartbeats 4000000 in
set_option maxRecDepth 100000 in
theorem write_core (B b : Nat) (l : List Pt) (hh : ∀ (i : Nat) p, l[i]? = some p → Hd B b p) : WrC B b l := by
  intro bs tabs w v hT ht hB hv hl
  obtain ⟨g, cs, rfl, hn64, hg, hp⟩ := id hv
  have HT := Lib.hid hT
  have HTT := Lib.hid ht
  have HV := Lib.hid hv
  have HH := Lib.hid hh
  have hgs : g < w.heap.size := (Array.getElem?_eq_some_iff.1 hg).1
  have HL := Lib.hid hl
  clear hT ht hv hh hg hp hl
  go_enter Tryd.func21, Tryd.ntmps21
  go_wp2_with (fail)
  go_loopw [16] (fun iv wr => ∃ i : Nat, i ≤ l.length ∧ iv = .int .i64 i ∧ TextAt B b (bs ++ ptsT (l.take i)) tabs wr ∧ Wr B b w wr) (fun iv _ => l.length - (intOf iv).toNat)
  case atStart => exact ⟨0, Nat.zero_le _, rfl, by rw [List.take_zero]; show TextAt B b (bs ++ []) tabs w; rw [List.append_nil]; exact HT.out, Wr.refl _ _ _⟩
  case round =>
    obtain ⟨i, hi, rfl, hTr, hwr⟩ := hrel
    obtain ⟨g', cs', hg1, _, hg2, hp⟩ := HV.out.wr HT.out hwr
    injection hg1 with hg1 _ _
    injection hg1 with hg1
    injection hg1 with hg1 _ _
    subst hg1
    have hBr : B ≤ wr.heap.size := Nat.le_trans hB hwr.1.size
    have hgr : g < wr.heap.size := (Array.getElem?_eq_some_iff.1 hg2).1
    have HTR := Lib.hid hTr
    have HTB := Lib.hid (HTT.out.below hwr.1)
    clear hTr
    by_cases hlt : i < l.length
    · obtain ⟨p, hpi⟩ : ∃ p, l[i]? = some p := ⟨_, List.getElem?_eq_getElem hlt⟩
      obtain ⟨x, hx, hpx⟩ := hp i p hpi
      have hc : wr.cell? ⟨g, i, none⟩ = some x := by rw [Lib.cell_of_heap hg2]; exact hx
      have HK := Lib.hid (HH.out i p hpi)
      have HPI := Lib.hid hpi
      have hsz : (bs ++ ptsT (l.take i)).length + (ptT p).length ≤ 140737488355328 := by
        have := ptsT_len hpi
        have := HL.out
        rw [List.length_append]
        omega
      clear hp hx hpi hg2
      cases p with
      | str s =>
        have ta0 := ta_str
        obtain rfl : x = _ := hpx
        have HS : Hid ((bs ++ ptsT (l.take i)).length + s.size ≤ 140737488355328) := hsz
        clear hsz
        go_wp2_with (go_at_call 33; (with_reducible refine (writeString_any HTR.out s HS.out hBr).mono ?_); rintro e w1 ⟨rfl, hT1, hw1⟩)
        go_roundw
        case rel => exact ⟨i + 1, by omega, by go_num, by rw [ptsT_take HPI.out, ← List.append_assoc]; exact hT1, hwr.trans hw1⟩
        case measure => simp [intOf]; omega
      | num n =>
        have ta0 := ta_num
        have ta1 := ta_num_str
        obtain ⟨rfl, hn⟩ := hpx
        have HN := Lib.hid hn
        have HS : Hid ((bs ++ ptsT (l.take i)).length + (⟨(Lib.itoa n).toArray⟩ : ByteArray).size ≤ 140737488355328) := hsz
        clear hsz hn
        go_wp2_with (fail)
        go_region_with (first
          | (go_at_call 34; (refine (itoa_any HTR.out.drew (HTB.out.below (Below.refl _ _).drew) hBr n HN.out).mono ?_); rintro e w1 ⟨rfl, hT1, hw1⟩)
          | (go_at_call 33; (refine (writeString_any hT1 _ HS.out (Nat.le_trans (show B ≤ wr.drew.heap.size from hBr) hw1.1.size)).mono ?_); rintro e w2 ⟨rfl, hT2, hw2⟩))
        all_goals
          go_wp2_with (fail)
          go_roundw
          case rel => exact ⟨i + 1, by omega, by go_num, by rw [ptsT_take HPI.out, ← List.append_assoc]; exact hT2, hwr.drew.trans (hw1.trans hw2)⟩
          case measure => simp [intOf]; omega
      | knd t =>
        have ta0 := ta_knd
        have ta1 := ta_knd_str
        have ta2 := ta_knd_num
        obtain rfl : x = _ := hpx
        have HS : Hid ((bs ++ ptsT (l.take i)).length + (tyT t).length ≤ 140737488355328) := hsz
        clear hsz
        go_wp2_with (go_at_call 35; (with_reducible refine (kind_any HTR.out hBr t HS.out).mono ?_); rintro e w1 ⟨rfl, hT1, hw1⟩)
        go_roundw
        case rel => exact ⟨i + 1, by omega, by go_num, by rw [ptsT_take HPI.out, ← List.append_assoc]; exact hT1, hwr.trans hw1⟩
        case measure => simp [intOf]; omega
      | par q =>
        have ta0 := ta_par
        have ta1 := ta_par_str
        have ta2 := ta_par_num
        have ta3 := ta_par_knd
        obtain rfl : x = _ := hpx
        have HP : Hid (∀ w', PtVs B w' [.knd q.type, .str ⟨#[32]⟩, .str q.name] (#[.iface 50 (.int .i64 q.type), .iface 9 (.string ⟨#[32]⟩), .iface 9 (.string q.name)] : Array Value).toList) := fun _ => ⟨rfl, rfl, rfl, trivial⟩
        have HK2 : Hid (WrC B b [.knd q.type, .str ⟨#[32]⟩, .str q.name]) := HK.out
        have HS : Hid ((bs ++ ptsT (l.take i)).length + (ptsT [.knd q.type, .str ⟨#[32]⟩, .str q.name]).length ≤ 140737488355328) := by unfold Hid; rw [paT_parts]; exact hsz
        have HE : Hid (ptT (.par q) = ptsT [.knd q.type, .str ⟨#[32]⟩, .str q.name]) := by unfold Hid; rw [paT_parts]; rfl
        clear hsz
        go_wp2_with (go_at_call 21; (with_reducible refine (WrC.call ((HTR.out.alloc _).alloc _) ((HTB.out.below ((Below.refl _ _).alloc hBr _)).below ((Below.refl _ _).alloc (by simp; omega) _)) (by simp; omega) HK2.out (PtsAt.made (by simp; omega) (HP.out _) _ 3 (by simp) rfl (by decide)) HS.out).mono ?_); rintro e w1 ⟨rfl, hT1, hw1⟩)
        go_roundw
        case rel => exact ⟨i + 1, by omega, by go_num, by rw [ptsT_take HPI.out, HE.out, ← List.append_assoc]; exact hT1, ((hwr.alloc hBr _).alloc (by simp; omega) _).trans hw1⟩
        case measure => simp [intOf]; omega
      | pars q =>
        have ta0 := ta_pars
        have ta1 := ta_pars_str
        have ta2 := ta_pars_num
        have ta3 := ta_pars_knd
        have ta4 := ta_pars_par
        obtain ⟨v, rfl, hv⟩ := hpx
        have HVV := Lib.hid hv
        have HS : Hid ((bs ++ ptsT (l.take i)).length + (joinC (q.map paT)).length ≤ 140737488355328) := hsz
        have HK2 : Hid (LsPC B b q) := HK.out
        clear hsz hv
        go_wp2_with (go_at_call 36; (with_reducible refine (LsPC.call HTR.out HTB.out hBr HK2.out HVV.out HS.out).mono ?_); rintro e w1 ⟨rfl, hT1, hw1⟩)
        go_roundw
        case rel => exact ⟨i + 1, by omega, by go_num, by rw [ptsT_take HPI.out, ← List.append_assoc]; exact hT1, hwr.trans hw1⟩
        case measure => simp [intOf]; omega
      | ex q =>
        have ta0 := ta_ex
        have ta1 := ta_ex_str
        have ta2 := ta_ex_num
        have ta3 := ta_ex_knd
        have ta4 := ta_ex_par
        have ta5 := ta_ex_pars
        obtain ⟨v, rfl, hv⟩ := hpx
        obtain ⟨v', rfl, hn, hs⟩ := id hv
        obtain ⟨A', cap', rfl, _⟩ := hs.form
        have HVV := Lib.hid hv
        have HS : Hid ((bs ++ ptsT (l.take i)).length + (exT q).length ≤ 140737488355328) := hsz
        have HK2 : Hid (ExC B b q) := HK.out
        clear hsz hv hn hs
        go_wp2_with (go_at_call 37; (with_reducible refine (ExC.call (HTR.out.alloc _) (HTB.out.below ((Below.refl _ _).alloc hBr _)) (by simp; omega) HK2.out (HVV.out.below ((Below.refl _ _).alloc hBr _) (Nat.le_refl _)) HS.out).mono ?_); rintro e w1 ⟨rfl, hT1, hw1⟩)
        go_roundw
        case rel => exact ⟨i + 1, by omega, by go_num, by rw [ptsT_take HPI.out, ← List.append_assoc]; exact hT1, (hwr.alloc hBr _).trans hw1⟩
        case measure => simp [intOf]; omega
      | exs q =>
        have ta0 := ta_exs
        have ta1 := ta_exs_str
        have ta2 := ta_exs_num
        have ta3 := ta_exs_knd
        have ta4 := ta_exs_par
        have ta5 := ta_exs_pars
        have ta6 := ta_exs_ex
        obtain ⟨v, rfl, hv⟩ := hpx
        have HVV := Lib.hid hv
        have HS : Hid ((bs ++ ptsT (l.take i)).length + (joinC (q.map exT)).length ≤ 140737488355328) := hsz
        have HK2 : Hid (LsEC B b q) := HK.out
        clear hsz hv
        go_wp2_with (go_at_call 38; (with_reducible refine (LsEC.call HTR.out HTB.out hBr HK2.out HVV.out HS.out).mono ?_); rintro e w1 ⟨rfl, hT1, hw1⟩)
        go_roundw
        case rel => exact ⟨i + 1, by omega, by go_num, by rw [ptsT_take HPI.out, ← List.append_assoc]; exact hT1, hwr.trans hw1⟩
        case measure => simp [intOf]; omega
      | opd q lev =>
        have ta0 := ta_opd
        have ta1 := ta_opd_str
        have ta2 := ta_opd_num
        have ta3 := ta_opd_knd
        have ta4 := ta_opd_par
        have ta5 := ta_opd_pars
        have ta6 := ta_opd_ex
        have ta7 := ta_opd_exs
        obtain ⟨v, rfl, hv⟩ := hpx
        obtain ⟨v', rfl, hn, hs⟩ := id hv
        obtain ⟨A', cap', rfl, _⟩ := hs.form
        have HVV := Lib.hid hv
        have HS : Hid ((bs ++ ptsT (l.take i)).length + (opT lev q).length ≤ 140737488355328) := hsz
        have HK2 : Hid (OpC B b q lev) := HK.out
        clear hsz hv hn hs
        go_wp2_with (go_at_call 39; (with_reducible refine (OpC.call (HTR.out.alloc _) (HTB.out.below ((Below.refl _ _).alloc hBr _)) (by simp; omega) HK2.out (HVV.out.below ((Below.refl _ _).alloc hBr _) (Nat.le_refl _)) HS.out).mono ?_); rintro e w1 ⟨rfl, hT1, hw1⟩)
        go_roundw
        case rel => exact ⟨i + 1, by omega, by go_num, by rw [ptsT_take HPI.out, ← List.append_assoc]; exact hT1, (hwr.alloc hBr _).trans hw1⟩
        case measure => simp [intOf]; omega
    · go_wp2_with (fail)
      go_end0
      have e : i = l.length := by omega
      subst e
      have HX := HTR.out
      rw [List.take_length] at HX
      exact ⟨rfl, HX, hwr⟩
end Go.Proofs.YtomdcgifkkmopaaDoor
