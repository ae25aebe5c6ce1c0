import Derived.Test.YtakijoblbmfadaaGreatDoorAgPrsAgM
import Derived.Test.YtakijoblbmfadaaGreatDoorAgTreeVals
import Derived.Deep.RegionHeld3
set_option linter.unusedSimpArgs false
set_option linter.unusedVariables false
/- The contract of the document's text of an expression: leaves, part, index. -/
namespace Go.Proofs.YtakijoblbmfadaaGreatDoor
open Go.RowKit
theorem flat_len {α : Type} (f : α → List UInt8) {l : List α} {i : Nat} {x : α} (h : l[i]? = some x) : ((l.take i).map f).flatten.length + (f x).length ≤ (l.map f).flatten.length := by
  have e : (l.map f).flatten = ((l.take (i + 1)).map f).flatten ++ ((l.drop (i + 1)).map f).flatten := by
    rw [← List.flatten_append, ← List.map_append, List.take_append_drop]
  rw [e, flatten_take f h, List.length_append, List.length_append]
  omega
/-- What Print answers. -/
def PrintPost (B : Nat) (p : Pr) (w : World) (e : Ending) (w' : World) : Prop :=
  Below B w w' ∧ e = .returned (.tuple #[.string ⟨(if prOK p then prT p else []).toArray⟩, .int .i64 (if prOK p then 0 else 1)])
theorem len_two {args : List Ex} (h : args.length = 2) : ∃ a c, args = [a, c] := by
  match args, h with
  | [a, c], _ => exact ⟨a, c, rfl⟩
theorem len_one {args : List Ex} (h : args.length = 1) : ∃ a, args = [a] := List.length_eq_one_iff.1 h
theorem formS_kind {k ty : Int} {name : ByteArray} {m m2 m3 : Nat} {ic : Bool} (h : formS k ty name m m2 m3 ic = true) : k = 1 ∨ k = 2 ∨ k = 3 ∨ k = 4 ∨ k = 5 ∨ k = 6 ∨ k = 7 ∨ k = 8 ∨ k = 9 ∨ k = 10 := by
  by_cases h' : k = 1 ∨ k = 2 ∨ k = 3 ∨ k = 4 ∨ k = 5 ∨ k = 6 ∨ k = 7 ∨ k = 8 ∨ k = 9 ∨ k = 10
  · exact h'
  · exfalso
    unfold formS at h
    rw [if_neg (by omega), if_neg (by omega), if_neg (by omega), if_neg (by omega), if_neg (by omega), if_neg (by omega), if_neg (by omega), if_neg (by omega)] at h
    cases h
theorem formS_len {k ty : Int} {name : ByteArray} {m m2 m3 : Nat} {ic : Bool} (h : formS k ty name m m2 m3 ic = true) : ((k = 1 ∨ k = 2 ∨ k = 4 ∨ k = 5 ∨ k = 8 ∨ k = 9 ∨ k = 10) → m = 1) ∧ (k = 3 → m = 2) := by
  refine ⟨fun hk => ?_, fun hk => ?_⟩
  · rcases hk with rfl | rfl | rfl | rfl | rfl | rfl | rfl <;> simp [formS] at h <;> omega
  · subst hk
    simp [formS] at h
    omega
theorem stsT_len {l : List St} {i T : Nat} {s : St} (h : l[i]? = some s) : (stsT (l.take i) T).length + (stT s T).length ≤ (stsT l T).length := by
  have e : stsT l T = stsT (l.take (i + 1)) T ++ stsT (l.drop (i + 1)) T := by rw [← stsT_app, List.take_append_drop]
  rw [e, stsT_take h, List.length_append, List.length_append]
  omega
theorem formE_index {op n : Int} {name : ByteArray} {args : List Ex} (h : formE 6 op n name args.length = true) : ∃ a, args = [a] := by
  simp [formE] at h
  exact List.length_eq_one_iff.1 h.2
theorem formE_two {op n : Int} {name : ByteArray} {args : List Ex} (h : formE 5 op n name args.length = true) : ∃ a c, args = [a, c] := by
  simp [formE] at h
  match args, h.2 with
  | [a, c], _ => exact ⟨a, c, rfl⟩
theorem formE_one {op n : Int} {name : ByteArray} {args : List Ex} (h : formE 4 op n name args.length = true) : ∃ a, args = [a] := by
  simp [formE] at h
  exact List.length_eq_one_iff.1 h.2
theorem formE_kind {k op n : Int} {name : ByteArray} {m : Nat} (h : formE k op n name m = true) : k = 1 ∨ k = 2 ∨ k = 3 ∨ k = 4 ∨ k = 5 ∨ k = 6 ∨ k = 7 ∨ k = 8 := by
  by_cases h' : k = 1 ∨ k = 2 ∨ k = 3 ∨ k = 4 ∨ k = 5 ∨ k = 6 ∨ k = 7 ∨ k = 8
  · exact h'
  · exfalso
    unfold formE at h
    rw [if_neg (by omega), if_neg (by omega), if_neg (by omega), if_neg (by omega), if_neg (by omega), if_neg (by omega), if_neg (by omega), if_neg (by omega)] at h
    cases h
theorem lvlOf_bd (op : Int) : 0 ≤ lvlOf op ∧ lvlOf op ≤ 10 := by
  unfold lvlOf
  split
  · rename_i h
    have h1 : op.toNat ≤ 28 := by omega
    have key : ∀ k : Nat, k ≤ 28 → 0 ≤ lvl k ∧ lvl k ≤ 10 := by decide
    exact key _ h1
  · omega
def oneT (op : Int) (e : Ex) : List UInt8 := if 23 ≤ op then (sgnOf op).data.toList ++ 40 :: (exT e ++ [41]) else (sgnOf op).data.toList ++ opT 11 e
theorem exT_one (op n : Int) (name : ByteArray) (a : Ex) : exT (.mk 4 op n name [a]) = oneT op a := by rw [exT_mk, exTs_map]; rfl
/-- A value that is an operand at a level. -/
def OpV (B : Nat) (w : World) (e : Ex) (lev : Int) (x : Value) : Prop := ∃ v, x = .agg #[.int .i64 e.kind, .int .i64 e.op, .int .i64 e.n, .string e.name, v, .int .i64 lev] ∧ i64R e.n ∧ SlE B w v e.args
/-- The first (the second) of a slice of expressions, as cells and as a value. -/
theorem kid_cells {B : Nat} {w : World} {A : Option Addr} {m cap : Nat} {l : List Ex} (hs : SlE B w (.slice A m cap) l) (i : Nat) (k op n : Int) (name : ByteArray) (args : List Ex) (hi : l[i]? = some (.mk k op n name args)) :
    ∃ (g o : Nat) (A' : Option Addr) (cap' : Nat), A = some ⟨g, o, none⟩ ∧ g < B ∧ w.cell? ⟨g, o + i * 5, none⟩ = some (.int .i64 k) ∧ w.cell? ⟨g, o + i * 5 + 1, none⟩ = some (.int .i64 op) ∧ w.cell? ⟨g, o + i * 5 + 2, none⟩ = some (.int .i64 n) ∧
      w.cell? ⟨g, o + i * 5 + 3, none⟩ = some (.string name) ∧ w.cell? ⟨g, o + i * 5 + 4, none⟩ = some (.slice A' args.length cap') ∧
      (∀ w', Below B w w' → ExV B w' (.mk k op n name args) (.agg #[.int .i64 k, .int .i64 op, .int .i64 n, .string name, .slice A' args.length cap'])) ∧
      (∀ w' lev, Below B w w' → OpV B w' (.mk k op n name args) lev (.agg #[.int .i64 k, .int .i64 op, .int .i64 n, .string name, .slice A' args.length cap', .int .i64 lev])) := by
  obtain ⟨g, o, v, hA, hg, h0, h1, h2, h3, h4, hk⟩ := hs.cells hi
  obtain ⟨A', cap', rfl, _⟩ := hk.form
  have hr := hs.range hi
  exact ⟨g, o, A', cap', hA, hg, h0, h1, h2, h3, h4, fun w' hb => ⟨_, rfl, hr, hk.below hb (Nat.le_refl _)⟩, fun w' lev hb => ⟨_, rfl, hr, hk.below hb (Nat.le_refl _)⟩⟩
theorem joinC_len {α : Type} (f : α → List UInt8) {l : List α} {i : Nat} {x : α} (h : l[i]? = some x) : (joinC ((l.take i).map f)).length + ((if i = 0 then 0 else 2) + (f x).length) ≤ (joinC (l.map f)).length := by
  have key : ∀ m, i + 1 ≤ m → (joinC ((l.take (i + 1)).map f)).length ≤ (joinC ((l.take m).map f)).length := by
    intro m hm
    induction m with
    | zero => omega
    | succ m ih =>
      by_cases e : i + 1 = m + 1
      · rw [e]; exact Nat.le_refl _
      · have h1 := ih (by omega)
        rcases hq : l[m]? with _ | q
        · rw [List.take_of_length_le (i := m + 1) (by have := List.getElem?_eq_none_iff.1 hq; omega)]
          rw [List.take_of_length_le (i := m) (by have := List.getElem?_eq_none_iff.1 hq; omega)] at h1
          exact h1
        · rw [joinC_take f hq, List.length_append]
          omega
  have hlt : i < l.length := (List.getElem?_eq_some_iff.1 h).1
  have := key l.length (by omega)
  rw [List.take_length, joinC_take f h, List.length_append, List.length_append] at this
  have e2 : (if i = 0 then [] else [44, 32] : List UInt8).length = (if i = 0 then 0 else 2) := by split <;> rfl
  rw [e2] at this
  exact this
theorem opT_plain {lev : Int} {e : Ex} (h : ¬ (e.kind = 5 ∧ lvlOf e.op < lev)) : opT lev e = exT e := by unfold opT parT; rw [if_neg h]
theorem ExV.elim {B : Nat} {w : World} {k op n : Int} {name : ByteArray} {args : List Ex} {x : Value} (h : ExV B w (.mk k op n name args) x) : ∃ A cap, x = .agg #[.int .i64 k, .int .i64 op, .int .i64 n, .string name, .slice A args.length cap] ∧ i64R n ∧ SlE B w (.slice A args.length cap) args := by
  obtain ⟨v, hx, hr, hs⟩ := h
  obtain ⟨A, cap, rfl, _⟩ := hs.form
  exact ⟨A, cap, hx, hr, hs⟩
theorem ba_ext {a b : ByteArray} (h : a.data.toList = b.data.toList) : a = b := by
  cases a; cases b
  simp at h
  simp [Array.ext', h]
theorem ba_self (s : ByteArray) : (⟨s.data.toList.toArray⟩ : ByteArray) = s := ba_ext (by simp)
def RtC (B : Nat) (e : Ex) : Prop := ∀ (w : World) (x : Value), B ≤ w.heap.size → ExV B w e x → (exT e).length ≤ 1099511627776 →
  Calls Tryz.prog 39 #[x] w fun e' w' => e' = .returned (.string ⟨(exT e).toArray⟩) ∧ Below w.heap.size w w'
theorem RtC.call {B : Nat} {e : Ex} (h : RtC B e) {w : World} {x : Value} (hB : B ≤ w.heap.size) (hx : ExV B w e x) (hl : (exT e).length ≤ 1099511627776) :
    Calls Tryz.prog 39 #[x] w fun e' w' => e' = .returned (.string ⟨(exT e).toArray⟩) ∧ Below w.heap.size w w' := h w x hB hx hl
def RpC (B : Nat) (e : Ex) (lev : Int) : Prop := ∀ (w : World) (x : Value), B ≤ w.heap.size → ExV B w e x → (opT lev e).length ≤ 1099511627776 →
  Calls Tryz.prog 69 #[x, .int .i64 lev] w fun e' w' => e' = .returned (.string ⟨(opT lev e).toArray⟩) ∧ Below w.heap.size w w'
theorem RpC.call {B : Nat} {e : Ex} {lev : Int} (h : RpC B e lev) {w : World} {x : Value} (hB : B ≤ w.heap.size) (hx : ExV B w e x) (hl : (opT lev e).length ≤ 1099511627776) :
    Calls Tryz.prog 69 #[x, .int .i64 lev] w fun e' w' => e' = .returned (.string ⟨(opT lev e).toArray⟩) ∧ Below w.heap.size w w' := h w x hB hx hl
theorem opT_paren' {lev : Int} {e : Ex} (h : e.kind = 5 ∧ lvlOf e.op < lev) : opT lev e = 40 :: (exT e ++ [41]) := by
  unfold opT parT
  rw [if_pos h]
set_option maxHeartbeats 2000000 in
set_option maxRecDepth 100000 in
theorem part_any (B : Nat) (e : Ex) (lev : Int) (hx : RtC B e) : RpC B e lev := by
  intro w x hB hv hl
  obtain ⟨k, op, n, name, args⟩ := e
  obtain ⟨A, cap, rfl, hr, hs⟩ := ExV.elim hv
  have HV : Hid (∀ w', Below B w w' → ExV B w' (.mk k op n name args) (.agg #[.int .i64 k, .int .i64 op, .int .i64 n, .string name, .slice A args.length cap])) := fun w' hb => ⟨_, rfl, hr, hs.below hb (Nat.le_refl _)⟩
  have HX := Lib.hid hx
  by_cases hp : k = 5 ∧ lvlOf op < lev
  · have ho : opT lev (.mk k op n name args) = _ := opT_paren' hp
    rw [ho] at hl ⊢
    obtain ⟨rfl, hlv⟩ := hp
    have hsz : 1 + (exT (.mk 5 op n name args)).length + 1 ≤ 1099511627776 := by simpa [Nat.add_comm, Nat.add_left_comm] using hl
    have HL : Hid ((exT (.mk 5 op n name args)).length ≤ 1099511627776) := by unfold Hid; omega
    clear hx hs hr hl ho hv
    go_enter Tryz.func69, Tryz.ntmps69
    go_wp2_with (first
      | (go_at_call 70; (with_reducible refine (rlevel_any _ _).mono ?_); rintro e w2 ⟨rfl, rfl⟩)
      | (go_at_call 39; (with_reducible refine (RtC.call HX.out (by simp; omega) (HV.out _ ((Below.refl _ _).alloc hB _)) HL.out).mono ?_); rintro e w2 ⟨rfl, hb2⟩))
    go_ret
    refine ⟨ret_str (ba_ext ?_), ((Below.refl _ _).alloc (Nat.le_refl _) _).trans (hb2.mono (by simp))⟩
    simp [ByteArray.data_append]
  · have ho : opT lev (.mk k op n name args) = _ := opT_plain hp
    rw [ho] at hl ⊢
    have HL := Lib.hid hl
    by_cases h5 : k = 5
    · subst h5
      have hlv : ¬ lvlOf op < lev := fun h => hp ⟨rfl, h⟩
      clear hx hs hr hl ho hv hp
      go_enter Tryz.func69, Tryz.ntmps69
      go_wp2_with (first
        | (go_at_call 70; (with_reducible refine (rlevel_any _ _).mono ?_); rintro e w2 ⟨rfl, rfl⟩)
        | (go_at_call 39; (with_reducible refine (RtC.call HX.out (by simp; omega) (HV.out _ ((Below.refl _ _).alloc hB _)) HL.out).mono ?_); rintro e w2 ⟨rfl, hb2⟩))
      go_ret
      exact ⟨rfl, ((Below.refl _ _).alloc (Nat.le_refl _) _).trans (hb2.mono (by simp))⟩
    · have hn : (k == 5) = false := by simpa using h5
      clear hx hs hr hl ho hv hp h5
      go_enter Tryz.func69, Tryz.ntmps69
      go_wp2_with (go_at_call 39; (with_reducible refine (RtC.call HX.out (by simp; omega) (HV.out _ ((Below.refl _ _).alloc hB _)) HL.out).mono ?_); rintro e w2 ⟨rfl, hb2⟩)
      go_ret
      exact ⟨rfl, ((Below.refl _ _).alloc (Nat.le_refl _) _).trans (hb2.mono (by simp))⟩
section
variable (B : Nat) (op n : Int) (name : ByteArray) (args : List Ex)
set_option maxHeartbeats 2000000 in
set_option maxRecDepth 100000 in
theorem rtext_num (hn : 0 ≤ n) : RtC B (.mk 1 op n name args) := by
  intro w x hB hv hl
  obtain ⟨A, cap, rfl, hr, hs⟩ := ExV.elim hv
  have HR := Lib.hid hr
  have e : exT (.mk 1 op n name args) = Lib.itoa n := by rw [exT_mk]; rfl
  rw [e]
  clear hs hv hl hr e
  go_enter Tryz.func39, Tryz.ntmps39
  go_wp2_with (go_at_call 23; (with_reducible refine (rdigits_any n _ hn HR.out).mono ?_); rintro e w2 ⟨rfl, hb2⟩)
  go_ret
  exact ⟨rfl, ((Below.refl _ _).alloc (Nat.le_refl _) _).trans (hb2.mono (by simp))⟩
set_option maxHeartbeats 2000000 in
set_option maxRecDepth 100000 in
theorem rtext_truth : RtC B (.mk 2 op n name args) := by
  intro w x hB hv hl
  obtain ⟨A, cap, rfl, hr, hs⟩ := ExV.elim hv
  have e : exT (.mk 2 op n name args) = boolT (decide (n = 1)) := by rw [exT_mk]; rfl
  rw [e]
  clear hs hv hl hr e
  by_cases h1 : n = 1
  · subst h1
    go_enter Tryz.func39, Tryz.ntmps39
    go_wp2_with (fail)
    go_ret
    exact ⟨rfl, (Below.refl _ _).alloc (Nat.le_refl _) _⟩
  · have hn : (n == 1) = false := by simpa using h1
    have HB : Hid (boolT (decide (n = 1)) = [102, 97, 108, 115, 101]) := by unfold Hid; rw [decide_eq_false h1]; rfl
    clear h1
    go_enter Tryz.func39, Tryz.ntmps39
    go_wp2_with (fail)
    go_ret
    exact ⟨ret_str (by rw [HB.out]), (Below.refl _ _).alloc (Nat.le_refl _) _⟩
set_option maxHeartbeats 2000000 in
set_option maxRecDepth 100000 in
theorem rtext_var : RtC B (.mk 3 op n name args) := by
  intro w x hB hv hl
  obtain ⟨A, cap, rfl, hr, hs⟩ := ExV.elim hv
  have e : exT (.mk 3 op n name args) = name.data.toList := by rw [exT_mk]; rfl
  rw [e, ba_self]
  clear hs hv hl hr e
  go_enter Tryz.func39, Tryz.ntmps39
  go_wp2_with (fail)
  go_ret
  exact ⟨rfl, (Below.refl _ _).alloc (Nat.le_refl _) _⟩
set_option maxHeartbeats 2000000 in
set_option maxRecDepth 100000 in
theorem rtext_read : RtC B (.mk 8 op n name args) := by
  intro w x hB hv hl
  obtain ⟨A, cap, rfl, hr, hs⟩ := ExV.elim hv
  have e : exT (.mk 8 op n name args) = [114, 101, 97, 100, 40, 41] := by rw [exT_mk]; rfl
  rw [e]
  clear hs hv hl hr e
  go_enter Tryz.func39, Tryz.ntmps39
  go_wp2_with (fail)
  go_ret
  exact ⟨rfl, (Below.refl _ _).alloc (Nat.le_refl _) _⟩
end
end Go.Proofs.YtakijoblbmfadaaGreatDoor

/- The contract of the document's text of an expression: a call. -/
namespace Go.Proofs.YtakijoblbmfadaaGreatDoor
open Go.RowKit
set_option maxHeartbeats 4000000 in
set_option maxRecDepth 100000 in
theorem rtext_call (B : Nat) (op n : Int) (name : ByteArray) (args : List Ex) (hx : ∀ (i : Nat) e, args[i]? = some e → RtC B e) : RtC B (.mk 7 op n name args) := by
  intro w x hB hv hl
  obtain ⟨A, cap, rfl, hr, hs⟩ := ExV.elim hv
  have hn : args.length ≤ 281474976710656 := by obtain ⟨_, _, _, h⟩ := hs.form; exact h
  have e : exT (.mk 7 op n name args) = name.data.toList ++ 40 :: (joinC (args.map exT) ++ [41]) := by
    have e2 : (args.map fun e => (e.kind, e.op, exT e)).map (·.2.2) = args.map exT := by rw [List.map_map]; rfl
    rw [exT_mk, exTs_map]
    show name.data.toList ++ 40 :: (joinC ((args.map fun e => (e.kind, e.op, exT e)).map (·.2.2)) ++ [41]) = _
    rw [e2]
  rw [e] at hl ⊢
  have hsz : name.size + 1 + (joinC (args.map exT)).length + 1 ≤ 1099511627776 := by
    have h : name.size = name.data.toList.length := rfl
    rw [h]
    simp only [List.length_append, List.length_cons, List.length_nil] at hl
    omega
  have HX := Lib.hid hx
  have HS := Lib.hid hs
  clear hs hv hl hr e hx
  go_enter Tryz.func39, Tryz.ntmps39
  go_wp2_with (fail)
  go_loopw [4, 5] (fun sv iv wr => ∃ i : Nat, i ≤ args.length ∧ iv = .int .i64 i ∧ sv = .string ⟨(joinC ((args.take i).map exT)).toArray⟩ ∧ Below (w.heap.size + 1) (w.alloc (.cells #[.int .i64 7, .int .i64 op, .int .i64 n, .string name, .slice A args.length cap] 84)) wr) (fun _ iv _ => args.length - (intOf iv).toNat)
  case atStart => exact ⟨0, Nat.zero_le _, rfl, rfl, Below.refl _ _⟩
  case round =>
    obtain ⟨i, hi, rfl, hsv, hbw⟩ := hrel
    obtain ⟨J, hJ⟩ : ∃ J, joinC ((args.take i).map exT) = J := ⟨_, rfl⟩
    rw [hJ] at hsv
    subst hsv
    have HJJ := Lib.hid hJ
    have hsz1 : w.heap.size + 1 ≤ wr.heap.size := by have := hbw.size; simpa using this
    have hwr : Below w.heap.size w wr := ((Below.refl _ _).alloc (Nat.le_refl _) _).trans (hbw.mono (by omega))
    have hBr : B ≤ wr.heap.size := by omega
    have hq : w.heap.size < wr.heap.size := by omega
    have hrow : wr.heap[w.heap.size]? = some (.cells #[.int .i64 7, .int .i64 op, .int .i64 n, .string name, .slice A args.length cap] 84 (0, 0)) := (hbw.block _ (by omega)).trans (heap_alloc_new w _)
    have k3 : wr.cell? ⟨w.heap.size, 3, none⟩ = some (.string name) := by rw [Lib.cell_of_heap hrow]; rfl
    have k4 : wr.cell? ⟨w.heap.size, 4, none⟩ = some (.slice A args.length cap) := by rw [Lib.cell_of_heap hrow]; rfl
    clear hrow
    by_cases hlt : i < args.length
    · obtain ⟨⟨kk, op', n', name', args'⟩, he⟩ : ∃ e, args[i]? = some e := ⟨_, List.getElem?_eq_getElem hlt⟩
      obtain ⟨g, o, v, rfl, hg, q0, q1, q2, q3, q4, hs'⟩ := (HS.out.below (hwr.mono hB) (Nat.le_refl _)).cells he
      obtain ⟨A', cap', rfl, _⟩ := hs'.form
      have hrr := HS.out.range he
      have HV : Hid (ExV B wr (.mk kk op' n' name' args') (.agg #[.int .i64 kk, .int .i64 op', .int .i64 n', .string name', .slice A' args'.length cap'])) := ⟨_, rfl, hrr, hs'⟩
      have HE := Lib.hid he
      have HXX := Lib.hid (HX.out i _ he)
      have hgs : g < wr.heap.size := by omega
      have hjl := joinC_len exT he
      rw [hJ] at hjl
      have HL : Hid ((exT (.mk kk op' n' name' args')).length ≤ 1099511627776) := by unfold Hid; omega
      clear he hs' hrr hJ
      by_cases h0 : i = 0
      · subst h0
        have r0 : wr.cell? ⟨g, o, none⟩ = some (.int .i64 kk) := by simpa using q0
        have r1 : wr.cell? ⟨g, o + 1, none⟩ = some (.int .i64 op') := by simpa using q1
        have r2 : wr.cell? ⟨g, o + 2, none⟩ = some (.int .i64 n') := by simpa using q2
        have r3 : wr.cell? ⟨g, o + 3, none⟩ = some (.string name') := by simpa using q3
        have r4 : wr.cell? ⟨g, o + 4, none⟩ = some (.slice A' args'.length cap') := by simpa using q4
        have HJ : Hid (joinC ((args.take (0 + 1)).map exT) = J ++ exT (.mk kk op' n' name' args')) := by unfold Hid; rw [joinC_take exT HE.out, HJJ.out]; simp
        rw [if_pos rfl] at hjl
        have y0 : ¬ 9223372036854775807 < J.length + (exT (.mk kk op' n' name' args')).length := by omega
        have y1 : ¬ 9223372036854775807 < (exT (.mk kk op' n' name' args')).length := by omega
        go_wp2_with (go_at_call 39; (with_reducible refine (RtC.call HXX.out hBr HV.out HL.out).mono ?_); rintro e w2 ⟨rfl, hb2⟩)
        go_roundw
        case rel => exact ⟨1, by omega, by go_num, congrArg Value.string (ba_ext (by rw [HJ.out]; simp [ByteArray.data_append])), hbw.trans (hb2.mono hsz1)⟩
        case measure => simp [intOf]; omega
      · have hip : 0 < i := by omega
        have HJ : Hid (joinC ((args.take (i + 1)).map exT) = J ++ ([44, 32] ++ exT (.mk kk op' n' name' args'))) := by unfold Hid; rw [joinC_take exT HE.out, if_neg h0, HJJ.out]
        rw [if_neg h0] at hjl
        have y0 : ¬ 9223372036854775807 < J.length + 2 := by omega
        have y1 : ¬ 9223372036854775807 < J.length + 2 + (exT (.mk kk op' n' name' args')).length := by omega
        clear h0
        go_wp2_with (go_at_call 39; (with_reducible refine (RtC.call HXX.out hBr HV.out HL.out).mono ?_); rintro e w2 ⟨rfl, hb2⟩)
        go_roundw
        case rel => exact ⟨i + 1, by omega, by go_num, congrArg Value.string (ba_ext (by rw [HJ.out]; simp [ByteArray.data_append])), hbw.trans (hb2.mono hsz1)⟩
        case measure => simp [intOf]; omega
    · have e : i = args.length := by omega
      have HJ : Hid (J = joinC (args.map exT)) := by unfold Hid; rw [← hJ, e, List.take_length]
      rw [HJ.out]
      clear hJ
      have y0 : ¬ 9223372036854775807 < name.size + 1 := by omega
      have y1 : ¬ 9223372036854775807 < name.size + 1 + (joinC (args.map exT)).length := by omega
      have y2 : ¬ 9223372036854775807 < name.size + 1 + (joinC (args.map exT)).length + 1 := by omega
      go_wp2_with (fail)
      go_ret
      refine ⟨ret_str (ba_ext ?_), hwr⟩
      simp [ByteArray.data_append]
end Go.Proofs.YtakijoblbmfadaaGreatDoor
