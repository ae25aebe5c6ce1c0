import Derived.Test.YtakijoblbmfadaaGreatDoorMgTreeRightL
set_option linter.unusedSimpArgs false
set_option linter.unusedVariables false
/- The contract of the validation of one statement of package tree: a call that stands alone; all kinds. -/
namespace Go.Proofs.YtakijoblbmfadaaGreatDoor
open Go.RowKit
section
variable (ty : Int) (name : ByteArray) (A1 A2 A3 : Option Addr) (m1 m2 m3 c1 c2 c3 : Nat) (w : World)
set_option maxHeartbeats 4000000 in
set_option maxRecDepth 100000 in
theorem rightStmt_do (B : Nat) (args : List Ex) (hA : SlE B w (.slice A1 m1 c1) args) (hm : args.length = m1) :
    Calls Tryz.prog 90 #[.agg #[.int .i64 10, .int .i64 ty, .string name, .slice A1 m1 c1, .slice A2 m2 c2, .slice A3 m3 c3]] w fun e w' => e = .returned (.bool (formS 10 ty name m1 m2 m3 (callB args))) ∧ Below w.heap.size w w' := by
  rcases args with _ | ⟨⟨k', op, n, nm, aa⟩, r⟩
  · subst hm
    go_enter Tryz.func90, Tryz.ntmps90
    go_wp2_with (fail)
    all_goals go_ret
    all_goals refine ⟨ret_bool ?_, ((Below.refl _ _).alloc (Nat.le_refl _) _).alloc (by simp) _⟩
    all_goals go_light
    all_goals simp_all [formS]
  · obtain ⟨g, o, v, rfl, hg, h0, _⟩ := hA.cells (i := 0) rfl
    have h0' : w.cell? ⟨g, o, none⟩ = some (.int .i64 k') := by simpa using h0
    have hz := block_lt_of_cell h0'
    have hmp : 0 < m1 := by rw [← hm]; simp
    clear h0 hm hA
    go_enter Tryz.func90, Tryz.ntmps90
    go_wp2_with (fail)
    all_goals go_ret
    all_goals refine ⟨ret_bool ?_, ((Below.refl _ _).alloc (Nat.le_refl _) _).alloc (by simp) _⟩
    all_goals go_light
    all_goals simp_all [formS, eB, tl_nil', callB, Ex.kind]
    all_goals first
      | (intros; omega)
      | (have e1 : m1 = 1 := by omega
         rw [Bool.eq_iff_iff]
         simp [e1]
         exact ⟨fun h => decide_eq_true h, fun h => of_decide_eq_true h⟩)
theorem rightStmt_any (k : Int) (B : Nat) (args : List Ex) (hA : SlE B w (.slice A1 m1 c1) args) (hm : args.length = m1) :
    Calls Tryz.prog 90 #[.agg #[.int .i64 k, .int .i64 ty, .string name, .slice A1 m1 c1, .slice A2 m2 c2, .slice A3 m3 c3]] w fun e w' => e = .returned (.bool (formS k ty name m1 m2 m3 (callB args))) ∧ Below w.heap.size w w' := by
  by_cases h1 : k = 4 ∨ k = 5 ∨ k = 6 ∨ k = 7 ∨ k = 8 ∨ k = 9
  · exact rightStmt_plain ty name A1 A2 A3 m1 m2 m3 c1 c2 c3 w k _ h1
  by_cases h2 : k = 2 ∨ k = 3
  · exact rightStmt_named ty name A1 A2 A3 m1 m2 m3 c1 c2 c3 w k _ h2 _ rfl
  by_cases h3 : k = 1
  · subst h3
    exact rightStmt_let ty name A1 A2 A3 m1 m2 m3 c1 c2 c3 w _ _ _ rfl rfl
  by_cases h4 : k = 10
  · subst h4
    exact rightStmt_do ty name A1 A2 A3 m1 m2 m3 c1 c2 c3 w B args hA hm
  · exact rightStmt_other ty name A1 A2 A3 m1 m2 m3 c1 c2 c3 w k _ (by omega)
end
end Go.Proofs.YtakijoblbmfadaaGreatDoor

/- The contracts of the validation of package tree: lists of statements, functions, programs. -/
namespace Go.Proofs.YtakijoblbmfadaaGreatDoor
open Go.RowKit
theorem rightStmt_is (ty : Int) (name : ByteArray) (A1 A2 A3 : Option Addr) (m1 m2 m3 c1 c2 c3 : Nat) (k : Int) (B : Nat) (args : List Ex) (b : Bool) (hm : args.length = m1) (hb : formS k ty name m1 m2 m3 (callB args) = b) (w : World) (hA : SlE B w (.slice A1 m1 c1) args) :
    Calls Tryz.prog 90 #[.agg #[.int .i64 k, .int .i64 ty, .string name, .slice A1 m1 c1, .slice A2 m2 c2, .slice A3 m3 c3]] w fun e w' => e = .returned (.bool b) ∧ Below w.heap.size w w' :=
  hb ▸ rightStmt_any ty name A1 A2 A3 m1 m2 m3 c1 c2 c3 w k B args hA hm
def StsC (k : Nat) : Prop := ∀ (B : Nat) (d : Int) (l : List St) (b : Bool) (v : Value) (w : World), 0 ≤ d → d + k = 101 → stsOK l k = b → TreeTab B w → B ≤ w.heap.size → SlS B w v l →
  Calls Tryz.prog 65 #[v, .int .i64 d] w fun e w' => e = .returned (.bool b) ∧ Below w.heap.size w w'
theorem StsC.call {k : Nat} (h : StsC k) (B : Nat) (d : Int) (l : List St) (b : Bool) (v : Value) (w : World) (h0 : 0 ≤ d) (hd : d + k = 101) (hb : stsOK l k = b) (ht : TreeTab B w) (hB : B ≤ w.heap.size) (hl : SlS B w v l) :
    Calls Tryz.prog 65 #[v, .int .i64 d] w fun e w' => e = .returned (.bool b) ∧ Below w.heap.size w w' := h B d l b v w h0 hd hb ht hB hl
set_option maxHeartbeats 4000000 in
set_option maxRecDepth 100000 in
theorem rightStmts_step (k : Nat) (ih : ∀ k', k' + 1 = k → StsC k') : StsC k := by
  intro B d l b v w hd0 hd hb ht hB hl
  have hdu : d ≤ 101 := by omega
  have HDD := Lib.hid hd
  clear hd
  obtain ⟨A, cap, rfl, hn⟩ := hl.form
  have HT := Lib.hid ht
  have HL := Lib.hid hl
  have HB := Lib.hid hb
  have HI := Lib.hid ih
  clear ht hl hb ih
  go_enter Tryz.func65, Tryz.ntmps65
  go_wp2_with (fail)
  go_loopw [9] (fun iv wr => ∃ j : Nat, j ≤ l.length ∧ iv = .int .i64 j ∧ stsOK (l.take j) k = true ∧ Below w.heap.size w wr) (fun iv _ => l.length - (intOf iv).toNat)
  case atStart => exact ⟨0, Nat.zero_le _, rfl, stsOK_nil _, Below.refl _ _⟩
  case round =>
    obtain ⟨j, hj, rfl, hall, hbw⟩ := hrel
    have HA := Lib.hid hall
    clear hall
    have hsz := hbw.size
    by_cases hlt : j < l.length
    · obtain ⟨⟨k0, ty, name, args, thn, els⟩, he⟩ : ∃ e, l[j]? = some e := ⟨_, List.getElem?_eq_getElem hlt⟩
      have HE := Lib.hid he
      obtain ⟨g, o, v, v4, v5, rfl, hg, h0, h1, h2, h3, h4, h5, hs, hs4, hs5⟩ := (HL.out.below (hbw.mono hB) (Nat.le_refl _)).cells he
      obtain ⟨A', cap', rfl, hn'⟩ := hs.form
      obtain ⟨A4, cap4, rfl, hn4⟩ := hs4.form
      obtain ⟨A5, cap5, rfl, hn5⟩ := hs5.form
      have HS := Lib.hid hs
      have HS4 := Lib.hid hs4
      have HS5 := Lib.hid hs5
      have hgs : g < wr.heap.size := by omega
      have hbB := hbw.mono hB
      have hBr : B ≤ wr.heap.size := Nat.le_trans hB hsz
      clear he hs hs4 hs5
      rcases k with _ | k'
      · have hd1 : decide ((100 : Int) < d) = true := by have := HDD.out; simp; omega
        have hbad : Hid (stsOK l 0 = false) := stsOK_bad HE.out (by rw [stOK_mk]; simp)
        go_wp2_with (fail)
        go_ret
        exact ⟨ret_bool (by rw [← HB.out, hbad.out]), hbw.alloc hsz _⟩
      · have hd1 : decide ((100 : Int) < d) = false := by have := HDD.out; simp; omega
        have hd2 : (d + 1) + (k' : Int) = 101 := by have := HDD.out; omega
        have hd3 : 0 ≤ d + 1 := by omega
        have HD := Lib.hid hd2
        clear hd2
        obtain ⟨b1, hb1⟩ : ∃ b, formS k0 ty name args.length thn.length els.length (callB args) = b := ⟨_, rfl⟩
        obtain ⟨b2, hb2⟩ : ∃ b, exsOK args 100 = b := ⟨_, rfl⟩
        obtain ⟨b3, hb3⟩ : ∃ b, stsOK thn k' = b := ⟨_, rfl⟩
        obtain ⟨b4, hb4⟩ : ∃ b, stsOK els k' = b := ⟨_, rfl⟩
        have HEX : Hid (stOK (.mk k0 ty name args thn els) (k' + 1) = (b1 && b2 && b3 && b4)) := by
          unfold Hid
          rw [stOK_mk, hb1, hb2, Nat.add_sub_cancel, hb3, hb4]
          simp
        have HB1 := Lib.hid hb1
        have HB2 := Lib.hid hb2
        have HB3 := Lib.hid hb3
        have HB4 := Lib.hid hb4
        clear hb1 hb2 hb3 hb4
        cases b1
        · go_wp2_with (go_at_call 90; (with_reducible refine (rightStmt_is _ _ _ _ _ _ _ _ _ _ _ _ B args _ rfl HB1.out _ (HS.out.below ((Below.refl _ _).alloc hBr _) (Nat.le_refl _))).mono ?_); rintro e w1 ⟨rfl, hx1⟩; obtain ⟨hc1, hf1⟩ := bcell hx1)
          go_ret
          exact ⟨ret_bool (by rw [← HB.out, stsOK_bad HE.out HEX.out]), (hbw.alloc hsz _).trans (hx1.mono (by simp; omega))⟩
        · cases b2
          case' true => cases b3
          case' true.true => cases b4
          all_goals
            go_wp2_with (first
              | (go_at_call 90; (with_reducible refine (rightStmt_is _ _ _ _ _ _ _ _ _ _ _ _ B args _ rfl HB1.out _ (HS.out.below ((Below.refl _ _).alloc hBr _) (Nat.le_refl _))).mono ?_); rintro e w1 ⟨rfl, hx1⟩; obtain ⟨hc1, hf1⟩ := bcell hx1; have hq1 : wr.heap.size < w1.heap.size := (by have := hx1.size; simp at this; omega); have hbx := (hbw.alloc hsz _).trans (hx1.mono (by simp; omega)); have hbr := ((Below.refl B _).alloc hBr _).trans (hx1.mono (by simp; omega)))
              | (go_at_call 91; (with_reducible refine (rightExprs_any B args _ HB2.out _ _ (HT.out.below (hbx.mono hB)) (Nat.le_trans hB hbx.size) (HS.out.below hbr (Nat.le_refl _))).mono ?_); rintro e w2 ⟨rfl, hx2⟩; obtain ⟨hc2, hf2⟩ := bcell hx2; have hq2 : wr.heap.size < w2.heap.size := (by have := hx2.size; omega); have hbx2 := hbx.trans (hx2.mono hbx.size); have hbr2 := hbr.trans (hx2.mono (Nat.le_trans hB hbx.size)))
              | (go_at_call 65; (with_reducible refine ((HI.out k' rfl).call B _ thn _ _ _ hd3 HD.out HB3.out (HT.out.below (hbx2.mono hB)) (Nat.le_trans hB hbx2.size) (HS4.out.below hbr2 (Nat.le_refl _))).mono ?_); rintro e w3 ⟨rfl, hx3⟩; obtain ⟨hc3, hf3⟩ := bcell hx3; have hq3 : wr.heap.size < w3.heap.size := (by have := hx3.size; omega); have hbx3 := hbx2.trans (hx3.mono hbx2.size); have hbr3 := hbr2.trans (hx3.mono (Nat.le_trans hB hbx2.size)))
              | (go_at_call 65; (with_reducible refine ((HI.out k' rfl).call B _ els _ _ _ hd3 HD.out HB4.out (HT.out.below (hbx3.mono hB)) (Nat.le_trans hB hbx3.size) (HS5.out.below hbr3 (Nat.le_refl _))).mono ?_); rintro e w4 ⟨rfl, hx4⟩; have hbx4 := hbx3.trans (hx4.mono hbx3.size)))
          all_goals first
            | (go_ret; exact ⟨ret_bool (by rw [← HB.out, stsOK_bad HE.out HEX.out]), by first | exact hbx4 | exact hbx3 | exact hbx2⟩)
            | (go_roundw
               case rel => exact ⟨j + 1, by omega, by go_num, by rw [stsOK_take HE.out, HA.out, HEX.out]; rfl, hbx4⟩
               case measure => simp [intOf]; omega)
    · go_wp2_with (fail)
      go_ret
      refine ⟨ret_bool ?_, hbw⟩
      rw [← HB.out, ← HA.out, List.take_of_length_le (by omega)]
theorem rightStmts_all : ∀ k, StsC k
  | 0 => rightStmts_step 0 (fun _ h => by omega)
  | k + 1 => rightStmts_step (k + 1) (fun k' h => by
      obtain rfl : k' = k := by omega
      exact rightStmts_all k')
theorem rightStmts_any (B : Nat) (l : List St) (b : Bool) (hb : stsOK l 100 = b) (v : Value) (w : World) (ht : TreeTab B w) (hB : B ≤ w.heap.size) (hl : SlS B w v l) :
    Calls Tryz.prog 65 #[v, .int .i64 1] w fun e w' => e = .returned (.bool b) ∧ Below w.heap.size w w' := rightStmts_all 100 B 1 l b v w (by decide) (by decide) hb ht hB hl
end Go.Proofs.YtakijoblbmfadaaGreatDoor
