import Derived.Test.YtakijoblbmfadaaGreatDoorAgTokKind
import Derived.Deep.QuietTactic
import Derived.BigQuiet
import Derived.Test.YtakijoblbmfadaaGreatDoorAgTreeVals
import Derived.Test.YtakijoblbmfadaaGreatDoorAgPrsPg
import Derived.Deep.DeepCutAuto
import Derived.Deep.CutBlock
import Derived.Deep.LoopGhost
import Derived.Test.YtakijoblbmfadaaGreatDoorAgTreeLeaf
set_option linter.unusedSimpArgs false
set_option linter.unusedVariables false


/- The contracts of the document's validation of expressions. -/
namespace Go.Proofs.YtakijoblbmfadaaGreatDoor
open Go.RowKit
theorem tl_nil2 (s : ByteArray) : s.toList = [] ↔ s.size = 0 := by
  rw [Lib.toList_data, Lib.size_eq]
  exact List.length_eq_zero_iff.symm
theorem isOne_any (op : Int) (w : World) : Calls Tryz.prog 92 #[.int .i64 op] w fun e w' => e = .returned (.bool (decide (20 ≤ op ∧ op ≤ 28))) ∧ w = w' := by
  go_enter Tryz.func92, Tryz.ntmps92
  go_wp2_with (fail)
  all_goals go_ret
  all_goals refine ⟨ret_bool ?_, rfl⟩
  all_goals go_light
  all_goals (rw [Bool.eq_iff_iff]; simp; try omega)
/-- What the form's check answers behind the loop: the world stands where the loop left it. -/
def RxC (m : Nat) : Prop := ∀ (B : Nat) (z : Int) (k op n : Int) (name : ByteArray) (args : List Ex) (A : Option Addr) (cap : Nat) (c : Bool) (w : World), z = (m : Int) → 1 ≤ m → m ≤ 1000 → exOK (.mk k op n name args) m = c → B ≤ w.heap.size → SlE B w (.slice A args.length cap) args →
  Calls Tryz.prog 67 #[.agg #[.int .i64 k, .int .i64 op, .int .i64 n, .string name, .slice A args.length cap], .int .i64 z] w fun e w' => e = .returned (.bool c) ∧ Below w.heap.size w w'
theorem RxC.call {m : Nat} (h : RxC m) (B : Nat) (z : Int) (k op n : Int) (name : ByteArray) (args : List Ex) (A : Option Addr) (cap : Nat) (c : Bool) (w : World) (hz : z = (m : Int)) (h1 : 1 ≤ m) (h2 : m ≤ 1000) (hc : exOK (.mk k op n name args) m = c) (hB : B ≤ w.heap.size) (hs : SlE B w (.slice A args.length cap) args) :
    Calls Tryz.prog 67 #[.agg #[.int .i64 k, .int .i64 op, .int .i64 n, .string name, .slice A args.length cap], .int .i64 z] w fun e w' => e = .returned (.bool c) ∧ Below w.heap.size w w' := h B z k op n name args A cap c w hz h1 h2 hc hB hs
set_option maxHeartbeats 8000000 in
set_option maxRecDepth 100000 in
theorem rexpr_step (m : Nat) (ih : ∀ m', m' + 1 = m → RxC m') : RxC m := by
  intro B z k op n name args A cap c w hz hm1 hm2 hc hB hs
  have HS := Lib.hid hs
  have HI := Lib.hid ih
  have HC := Lib.hid hc
  have HZ := Lib.hid hz
  have hn : args.length ≤ 281474976710656 := by obtain ⟨_, _, h, h2⟩ := hs.form; exact h2
  have hz0 : 1 ≤ z := by omega
  have hz1 : z ≤ 1000 := by omega
  clear hs ih hc hz
  go_enter Tryz.func67, Tryz.ntmps67
  go_wp2_with (fail)
  go_loopw [5] (fun iv wr => ∃ i : Nat, i ≤ args.length ∧ iv = .int .i64 i ∧ exsOK (args.take i) (m - 1) = true ∧ Below (w.heap.size + 1) (w.alloc (.cells #[.int .i64 k, .int .i64 op, .int .i64 n, .string name, .slice A args.length cap] 84)) wr) (fun iv _ => args.length - (intOf iv).toNat)
  case atStart => exact ⟨0, Nat.zero_le _, rfl, exsOK_nil _, Below.refl _ _⟩
  case round =>
    obtain ⟨i, hi, rfl, hall, hbw⟩ := hrel
    have HA := Lib.hid hall
    clear hall
    have hsz : w.heap.size + 1 ≤ wr.heap.size := by have := hbw.size; simpa using this
    have hwr : Below w.heap.size w wr := ((Below.refl _ _).alloc (Nat.le_refl _) _).trans (hbw.mono (by omega))
    have hBr : B ≤ wr.heap.size := by omega
    have hq : w.heap.size < wr.heap.size := by omega
    have hrow : wr.heap[w.heap.size]? = some (.cells #[.int .i64 k, .int .i64 op, .int .i64 n, .string name, .slice A args.length cap] 84 (0, 0)) := (hbw.block _ (by omega)).trans (heap_alloc_new w _)
    have k0 : wr.cell? ⟨w.heap.size, 0, none⟩ = some (.int .i64 k) := by rw [Lib.cell_of_heap hrow]; rfl
    have k1 : wr.cell? ⟨w.heap.size, 1, none⟩ = some (.int .i64 op) := by rw [Lib.cell_of_heap hrow]; rfl
    have k2 : wr.cell? ⟨w.heap.size, 2, none⟩ = some (.int .i64 n) := by rw [Lib.cell_of_heap hrow]; rfl
    have k3 : wr.cell? ⟨w.heap.size, 3, none⟩ = some (.string name) := by rw [Lib.cell_of_heap hrow]; rfl
    have k4 : wr.cell? ⟨w.heap.size, 4, none⟩ = some (.slice A args.length cap) := by rw [Lib.cell_of_heap hrow]; rfl
    clear hrow
    by_cases hlt : i < args.length
    · obtain ⟨⟨kk, op', n', name', args'⟩, he⟩ : ∃ e, args[i]? = some e := ⟨_, List.getElem?_eq_getElem hlt⟩
      obtain ⟨g, o, v, rfl, hg, q0, q1, q2, q3, q4, hs'⟩ := (HS.out.below (hwr.mono hB) (Nat.le_refl _)).cells he
      obtain ⟨A', cap', rfl, _⟩ := hs'.form
      have HE := Lib.hid he
      have HS' := Lib.hid hs'
      have hgs : g < wr.heap.size := by omega
      clear he hs'
      by_cases hm : m = 1
      · have hd : z < 2 := by have := HZ.out; omega
        have HF : Hid (c = false) := by
          unfold Hid
          rw [← HC.out, exOK_mk, exsOK_bad HE.out (by rw [hm, exOK_mk]; simp)]
          simp
        clear hm
        go_wp2_with (fail)
        go_ret
        exact ⟨ret_bool HF.out.symm, hwr⟩
      · have hd : ¬ z < 2 := by have := HZ.out; omega
        obtain ⟨m', rfl⟩ : ∃ m', m = m' + 1 := ⟨m - 1, by omega⟩
        have HZ1 : Hid (z - 1 = (m' : Int)) := by have := HZ.out; unfold Hid; omega
        have hm1' : 1 ≤ m' := by omega
        have hm2' : m' ≤ 1000 := by omega
        obtain ⟨b, hb⟩ : ∃ b, exOK (.mk kk op' n' name' args') m' = b := ⟨_, rfl⟩
        have HBb := Lib.hid hb
        clear hb hm
        cases b
        · have HF : Hid (c = false) := by
            unfold Hid
            rw [← HC.out, exOK_mk, Nat.add_sub_cancel, exsOK_bad HE.out HBb.out]
            simp
          go_wp2_with (go_at_call 67; (with_reducible refine ((HI.out m' rfl).call B _ _ _ _ _ _ _ _ _ _ HZ1.out hm1' hm2' HBb.out hBr HS'.out).mono ?_); rintro e w2 ⟨rfl, hx2⟩)
          go_ret
          exact ⟨ret_bool HF.out.symm, hwr.trans (hx2.mono (by omega))⟩
        · go_wp2_with (go_at_call 67; (with_reducible refine ((HI.out m' rfl).call B _ _ _ _ _ _ _ _ _ _ HZ1.out hm1' hm2' HBb.out hBr HS'.out).mono ?_); rintro e w2 ⟨rfl, hx2⟩)
          go_roundw
          case rel => exact ⟨i + 1, by omega, by go_num, by rw [exsOK_take HE.out, HA.out, Nat.add_sub_cancel, HBb.out]; rfl, hbw.trans (hx2.mono hsz)⟩
          case measure => simp [intOf]; omega
    · have HCF : Hid (c = formE k op n name args.length) := by
        have h1 : exsOK args (m - 1) = true := by rw [← HA.out, List.take_of_length_le (by omega)]
        unfold Hid
        rw [← HC.out, exOK_mk, h1]
        have : decide (1 ≤ m) = true := by simpa using hm1
        rw [this]
        simp
      obtain ⟨nb, hnb⟩ : ∃ nb, nmB name = nb := ⟨_, rfl⟩
      obtain ⟨ob, hob⟩ : ∃ ob, decide (20 ≤ op ∧ op ≤ 28) = ob := ⟨_, rfl⟩
      obtain ⟨ln, hln⟩ : ∃ ln, args.length = ln := ⟨_, rfl⟩
      have HNB := Lib.hid hnb
      have HOB := Lib.hid hob
      rw [hln] at hn k4 HCF hlt
      have hli : i = ln := by omega
      subst hli
      have HLN := Lib.hid hln
      rw [hln]
      clear hnb hob hln hlt hm1 hm2 HS HI HC HA HZ hz0 hz1
      by_cases h1 : k = 1 ∨ k = 2 ∨ k = 8
      · rcases h1 with rfl | rfl | rfl
        all_goals
          go_wp2_with (go_at_call 36; (with_reducible refine (rnm_is name _ HNB.out _).mono ?_); rintro e w2 ⟨rfl, rfl⟩)
          all_goals go_ret
          all_goals refine ⟨ret_bool ?_, hwr⟩
          all_goals rw [HCF.out]
          all_goals clear hbw hwr k0 k1 k2 k3 k4 HCF HOB HNB HLN
          all_goals go_light
          all_goals simp_all [formE, eB, tl_nil2]
          all_goals first | omega | (rw [Bool.eq_iff_iff]; simp; omega) | (rw [Bool.eq_iff_iff]; simp; done)
      by_cases h2 : k = 3 ∨ k = 6 ∨ k = 7
      · rcases h2 with rfl | rfl | rfl
        all_goals cases nb
        all_goals
          go_wp2_with (go_at_call 36; (with_reducible refine (rnm_is name _ HNB.out _).mono ?_); rintro e w2 ⟨rfl, rfl⟩)
          all_goals go_ret
          all_goals refine ⟨ret_bool ?_, hwr⟩
          all_goals rw [HCF.out]
          all_goals have HNB' := HNB.out
          all_goals clear hbw hwr k0 k1 k2 k3 k4 HCF HOB HNB HLN
          all_goals go_light
          all_goals simp_all [formE]
          all_goals first | omega | (rw [Bool.eq_iff_iff]; simp; omega) | (rw [Bool.eq_iff_iff]; simp; done)
      by_cases h4 : k = 4
      · subst h4
        all_goals
          go_wp2_with (first
            | (go_at_call 36; (with_reducible refine (rnm_is name _ HNB.out _).mono ?_); rintro e w2 ⟨rfl, rfl⟩)
            | (go_at_call 92; (with_reducible refine (isOne_any _ _).mono ?_); rintro e w2 ⟨rfl, rfl⟩))
          all_goals go_ret
          all_goals refine ⟨ret_bool ?_, hwr⟩
          all_goals rw [HCF.out]
          all_goals clear hbw hwr k0 k1 k2 k3 k4 HCF HOB HNB HLN
          all_goals go_light
          all_goals simp_all [formE, eB, tl_nil2]
          all_goals first | omega | (rw [Bool.eq_iff_iff]; simp; omega) | (rw [Bool.eq_iff_iff]; simp; done)
      by_cases h5 : k = 5
      · subst h5
        go_wp2_with (first
          | (go_at_call 36; (with_reducible refine (rnm_is name _ HNB.out _).mono ?_); rintro e w2 ⟨rfl, rfl⟩)
          | (go_at_call 70; (with_reducible refine (rlevel_any _ _).mono ?_); rintro e w2 ⟨rfl, rfl⟩))
        all_goals go_ret
        all_goals refine ⟨ret_bool ?_, hwr⟩
        all_goals rw [HCF.out]
        all_goals clear hbw hwr k0 k1 k2 k3 k4 HCF HOB HNB HLN
        all_goals go_light
        all_goals simp_all [formE, eB, tl_nil2]
        all_goals first | omega | (rw [Bool.eq_iff_iff]; simp; omega) | (rw [Bool.eq_iff_iff]; simp; done)
      · have n1 : (k == 1) = false := by simp; omega
        have n2 : (k == 2) = false := by simp; omega
        have n3 : (k == 3) = false := by simp; omega
        have n4 : (k == 4) = false := by simp; omega
        have n5 : (k == 5) = false := by simp; omega
        have n6 : (k == 6) = false := by simp; omega
        have n7 : (k == 7) = false := by simp; omega
        have n8 : (k == 8) = false := by simp; omega
        have hf : Hid (c = false) := by
          unfold Hid
          rw [HCF.out]
          unfold formE
          rw [if_neg (by omega), if_neg (by omega), if_neg (by omega), if_neg (by omega), if_neg (by omega), if_neg (by omega), if_neg (by omega), if_neg (by omega)]
        clear h1 h2 h4 h5
        go_wp2_with (go_at_call 36; (with_reducible refine (rnm_is name _ HNB.out _).mono ?_); rintro e w2 ⟨rfl, rfl⟩)
        all_goals go_ret
        all_goals exact ⟨ret_bool hf.out.symm, hwr⟩
theorem rexpr_all : ∀ m, RxC m
  | 0 => rexpr_step 0 (fun _ h => by omega)
  | m + 1 => rexpr_step (m + 1) (fun m' h => by
      obtain rfl : m' = m := by omega
      exact rexpr_all m')
end Go.Proofs.YtakijoblbmfadaaGreatDoor

/- The contracts of the document's validation of statements. -/
namespace Go.Proofs.YtakijoblbmfadaaGreatDoor
open Go.RowKit
theorem formS_kind {k ty : Int} {name : ByteArray} {m m2 m3 : Nat} {ic : Bool} (h : formS k ty name m m2 m3 ic = true) : k = 1 ∨ k = 2 ∨ k = 3 ∨ k = 4 ∨ k = 5 ∨ k = 6 ∨ k = 7 ∨ k = 8 ∨ k = 9 ∨ k = 10 := by
  by_cases h' : k = 1 ∨ k = 2 ∨ k = 3 ∨ k = 4 ∨ k = 5 ∨ k = 6 ∨ k = 7 ∨ k = 8 ∨ k = 9 ∨ k = 10
  · exact h'
  · exfalso
    unfold formS at h
    rw [if_neg (by omega), if_neg (by omega), if_neg (by omega), if_neg (by omega), if_neg (by omega), if_neg (by omega), if_neg (by omega), if_neg (by omega)] at h
    cases h
/-- What a kind of statements has. -/
def shT (k : Int) : Bool := decide (k = 1)
def shN (k : Int) : Bool := decide (k = 1 ∨ k = 2 ∨ k = 3)
def shA (k : Int) : Int := if k = 3 then 2 else if k = 6 ∨ k = 7 then 0 else if 1 ≤ k ∧ k ≤ 10 then 1 else -1
def shB (k : Int) : Bool := decide (k = 4 ∨ k = 5)
def shE (k : Int) : Bool := decide (k = 4)
set_option maxRecDepth 100000 in
theorem shape_any (k : Int) (w : World) : Calls Tryz.prog 66 #[.int .i64 k] w fun e w' => e = .returned (.tuple #[.bool (shT k), .bool (shN k), .int .i64 (shA k), .bool (shB k), .bool (shE k)]) ∧ w = w' := by
  by_cases h : 1 ≤ k ∧ k ≤ 10
  · obtain rfl | rfl | rfl | rfl | rfl | rfl | rfl | rfl | rfl | rfl : k = 1 ∨ k = 2 ∨ k = 3 ∨ k = 4 ∨ k = 5 ∨ k = 6 ∨ k = 7 ∨ k = 8 ∨ k = 9 ∨ k = 10 := by omega
    all_goals
      clear h
      go_enter Tryz.func66, Tryz.ntmps66
      go_wp2_with (fail)
      exact bodyPost_ret (v := .tuple #[.bool (shT _), .bool (shN _), .int .i64 (shA _), .bool (shB _), .bool (shE _)]) (by simp [results, Tryz.results66, go_sem]; decide) rfl ⟨rfl, rfl⟩
  · have n1 : (k == 1) = false := by simp; omega
    have n2 : (k == 2) = false := by simp; omega
    have n3 : (k == 3) = false := by simp; omega
    have n4 : (k == 4) = false := by simp; omega
    have n5 : (k == 5) = false := by simp; omega
    have n6 : (k == 6) = false := by simp; omega
    have n7 : (k == 7) = false := by simp; omega
    have n8 : (k == 8) = false := by simp; omega
    have n9 : (k == 9) = false := by simp; omega
    have n10 : (k == 10) = false := by simp; omega
    have hh : Hid (shT k = false ∧ shN k = false ∧ shA k = -1 ∧ shB k = false ∧ shE k = false) := by
      unfold Hid shT shN shA shB shE
      refine ⟨by simp; omega, by simp; omega, ?_, by simp; omega, by simp; omega⟩
      rw [if_neg (by omega), if_neg (by omega), if_neg h]
    clear h
    go_enter Tryz.func66, Tryz.ntmps66
    go_wp2_with (fail)
    obtain ⟨a1, a2, a3, a4, a5⟩ := hh.out
    rw [a1, a2, a3, a4, a5]
    exact bodyPost_ret (v := .tuple #[.bool false, .bool false, .int .i64 (-1), .bool false, .bool false]) (by simp [results, Tryz.results66, go_sem]) rfl ⟨rfl, rfl⟩
/-- The document's validation of a list, so deep at the most. -/
def RsC (m : Nat) : Prop := ∀ (B : Nat) (z : Int) (l : List St) (c : Bool) (v : Value) (w : World), z = (m : Int) → m ≤ 1000 → stsOK l m = c → B ≤ w.heap.size → SlS B w v l →
  Calls Tryz.prog 38 #[v, .int .i64 z] w fun e w' => e = .returned (.bool c) ∧ Below w.heap.size w w'
theorem RsC.call {m : Nat} (h : RsC m) (B : Nat) (z : Int) (l : List St) (c : Bool) (v : Value) (w : World) (hz : z = (m : Int)) (hm : m ≤ 1000) (hc : stsOK l m = c) (hB : B ≤ w.heap.size) (hv : SlS B w v l) :
    Calls Tryz.prog 38 #[v, .int .i64 z] w fun e w' => e = .returned (.bool c) ∧ Below w.heap.size w w' := h B z l c v w hz hm hc hB hv
/-- The head of a statement, and what stands in it. -/
def f1 (k ty : Int) (name : ByteArray) (na : Nat) : Bool := decide ((na : Int) = shA k) && (shT k == tyB ty) && (shT k || decide (ty = 0)) && (shN k == nmB name) && (shN k || eB name)
def f3 (k : Int) (a b : Nat) (ic : Bool) : Bool := (shB k || decide (a = 0)) && (shE k || decide (b = 0)) && (!(decide (k = 10)) || ic)
theorem nm_empty {s : ByteArray} (h : eB s = true) : nmB s = false := by
  have h0 : s.size = 0 := by simpa [eB] using h
  have : s.data.toList = [] := List.eq_nil_of_length_eq_zero h0
  unfold nmB
  rw [this]
  rfl
theorem formS_split (k ty : Int) (name : ByteArray) (a b c : Nat) (ic : Bool) : formS k ty name a b c ic = (f1 k ty name a && f3 k b c ic) := by
  by_cases h : 1 ≤ k ∧ k ≤ 10
  · have hne : eB name = true → nmB name = false := nm_empty
    have hty : ty = 0 → tyB ty = false := fun h => by rw [h]; rfl
    obtain rfl | rfl | rfl | rfl | rfl | rfl | rfl | rfl | rfl | rfl : k = 1 ∨ k = 2 ∨ k = 3 ∨ k = 4 ∨ k = 5 ∨ k = 6 ∨ k = 7 ∨ k = 8 ∨ k = 9 ∨ k = 10 := by omega
    all_goals
      clear h
      rw [Bool.eq_iff_iff]
      simp [formS, f1, f3, shA, shT, shN, shB, shE]
      first
        | (constructor <;> intro hh <;> simp_all)
        | (intro hx0; constructor <;> intro hh <;> simp_all)
    all_goals omega
  · have h1 : formS k ty name a b c ic = false := by
      cases hf : formS k ty name a b c ic with
      | false => rfl
      | true => exact absurd (formS_kind hf) (by omega)
    have h2 : f1 k ty name a = false := by
      unfold f1 shA
      rw [if_neg (by omega), if_neg (by omega), if_neg h]
      have : decide ((a : Int) = -1) = false := by simp
      rw [this]
      rfl
    rw [h1, h2]
    rfl
theorem shape_is (k : Int) (tb nbk bb eb : Bool) (na : Int) (h1 : shT k = tb) (h2 : shN k = nbk) (h3 : shA k = na) (h4 : shB k = bb) (h5 : shE k = eb) (w : World) :
    Calls Tryz.prog 66 #[.int .i64 k] w fun e w' => e = .returned (.tuple #[.bool tb, .bool nbk, .int .i64 na, .bool bb, .bool eb]) ∧ w = w' := by
  subst h1 h2 h3 h4 h5
  exact shape_any k w
end Go.Proofs.YtakijoblbmfadaaGreatDoor
