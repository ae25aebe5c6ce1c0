import Derived.Test.YtakijoblbmfadaaGreatDoorAgTreeRefW
import Derived.Deep.RegionHeld3
import Derived.Test.YtakijoblbmfadaaGreatDoorAgTreeRightP
set_option linter.unusedSimpArgs false
set_option linter.unusedVariables false
/- The contract of the document's lines of statements. -/
namespace Go.Proofs.YtakijoblbmfadaaGreatDoor
open Go.RowKit
/-- The document's lines, with the tabs as a text. -/
def tabS (t : Nat) : ByteArray := ⟨(tabT t).toArray⟩
def RbC (B t : Nat) (l : List St) : Prop := ∀ (w : World) (v : Value), B ≤ w.heap.size → SlS B w v l → (stsT l t).length ≤ 1099511627776 →
  Calls Tryz.prog 25 #[v, .string (tabS t)] w fun e' w' => e' = .returned (.string ⟨(stsT l t).toArray⟩) ∧ Below w.heap.size w w'
theorem RbC.call {B t : Nat} {l : List St} (h : RbC B t l) {w : World} {v : Value} (hB : B ≤ w.heap.size) (hv : SlS B w v l) (hl : (stsT l t).length ≤ 1099511627776) :
    Calls Tryz.prog 25 #[v, .string (tabS t)] w fun e' w' => e' = .returned (.string ⟨(stsT l t).toArray⟩) ∧ Below w.heap.size w w' := h w v hB hv hl
/-- What one statement asks: its expressions are valid, its lists are told. -/
def SubOK (B t : Nat) : St → Prop
  | .mk k ty name args thn els => (∃ c, formS k ty name args.length thn.length els.length c = true) ∧ (∀ (i : Nat) e, args[i]? = some e → RtC B e) ∧ RbC B (t + 1) thn ∧ RbC B (t + 1) els
theorem formS_zero {k ty : Int} {name : ByteArray} {m m2 m3 : Nat} {ic : Bool} (h : formS k ty name m m2 m3 ic = true) (hk : k = 6 ∨ k = 7) : m = 0 := by
  rcases hk with rfl | rfl <;> simp [formS] at h <;> omega
theorem formS_type {ty : Int} {name : ByteArray} {m m2 m3 : Nat} {ic : Bool} (h : formS 1 ty name m m2 m3 ic = true) : tyB ty = true := by
  simp [formS] at h
  exact h.1.1.1.1
theorem tabS_succ (t : Nat) : tabS t ++ ⟨#[9]⟩ = tabS (t + 1) := ba_ext (by rw [ByteArray.data_append]; simp [tabS, tabT_succ])
set_option maxHeartbeats 8000000 in
set_option maxRecDepth 100000 in
theorem rblock_step (B t : Nat) (ht : t ≤ 1000) (l : List St) (hs : ∀ (i : Nat) s, l[i]? = some s → SubOK B t s) : RbC B t l := by
  intro w v hB hv hl
  obtain ⟨A, cap, rfl, hn⟩ := hv.form
  have HV := Lib.hid hv
  have HS := Lib.hid hs
  clear hv hs
  go_enter Tryz.func25, Tryz.ntmps25
  go_wp2_with (fail)
  go_loopw [5, 6] (fun sv iv wr => ∃ i : Nat, i ≤ l.length ∧ iv = .int .i64 i ∧ sv = .string ⟨(stsT (l.take i) t).toArray⟩ ∧ Below w.heap.size w wr) (fun _ iv _ => l.length - (intOf iv).toNat)
  case atStart => exact ⟨0, Nat.zero_le _, rfl, by rw [List.take_zero, stsT_nil], Below.refl _ _⟩
  case round =>
    obtain ⟨i, hi, rfl, hsv, hwr⟩ := hrel
    obtain ⟨J, hJ⟩ : ∃ J, stsT (l.take i) t = J := ⟨_, rfl⟩
    rw [hJ] at hsv
    subst hsv
    have HJ := Lib.hid hJ
    have hws : w.heap.size ≤ wr.heap.size := hwr.size
    have hBr : B ≤ wr.heap.size := Nat.le_trans hB hwr.size
    by_cases hlt : i < l.length
    · obtain ⟨⟨k, ty, name, args, thn, els⟩, he⟩ : ∃ e, l[i]? = some e := ⟨_, List.getElem?_eq_getElem hlt⟩
      have HE := Lib.hid he
      obtain ⟨g, o, v, v4, v5, rfl, hg, h0, h1, h2, h3, h4, h5, hsl, hs4, hs5⟩ := (HV.out.below (hwr.mono hB) (Nat.le_refl _)).cells he
      obtain ⟨A', cap', rfl, _⟩ := hsl.form
      obtain ⟨A4, cap4, rfl, _⟩ := hs4.form
      obtain ⟨A5, cap5, rfl, _⟩ := hs5.form
      have hgs : g < wr.heap.size := by omega
      obtain ⟨⟨c, hf⟩, hx, hb4, hb5⟩ := HS.out i _ he
      have hst := stsT_len (T := t) he
      rw [hJ] at hst
      have HT : Hid (stsT (l.take (i + 1)) t = J ++ stT (.mk k ty name args thn els) t) := by unfold Hid; rw [stsT_take he, hJ]
      clear he hJ
      obtain ⟨hl1, hl2⟩ := formS_len hf
      rcases formS_kind hf with rfl | rfl | rfl | rfl | rfl | rfl | rfl | rfl | rfl | rfl
      · obtain ⟨a, rfl⟩ := len_one (hl1 (by decide))
        obtain ⟨k0, op0, n0, nm0, as0⟩ := a
        obtain ⟨g0, o0, A'0, cap0, rfl, hg0, p0, p1, p2, p3, p4, hE0, _⟩ := kid_cells hsl 0 k0 op0 n0 nm0 as0 rfl
        have q0 : wr.cell? ⟨g0, o0, none⟩ = some (.int .i64 k0) := by simpa using p0
        have q1 : wr.cell? ⟨g0, o0 + 1, none⟩ = some (.int .i64 op0) := by simpa using p1
        have q2 : wr.cell? ⟨g0, o0 + 2, none⟩ = some (.int .i64 n0) := by simpa using p2
        have q3 : wr.cell? ⟨g0, o0 + 3, none⟩ = some (.string nm0) := by simpa using p3
        have q4 : wr.cell? ⟨g0, o0 + 4, none⟩ = some (.slice A'0 as0.length cap0) := by simpa using p4
        have hg0s : g0 < wr.heap.size := by omega
        have HX0 := Lib.hid (hx 0 _ rfl)
        have HE0 := Lib.hid hE0
        have hT2 : stT (.mk 1 ty name [.mk k0 op0 n0 nm0 as0] thn els) t = tabT t ++ ((tyT ty ++ ([32] ++ (name.data.toList ++ [32, 61, 32]))) ++ (exT (.mk k0 op0 n0 nm0 as0) ++ [59]) ++ [10]) := by rw [stT_mk]; simp [headT, argT, exTs, kid]
        rw [hT2] at hst
        rw [hT2] at HT
        simp only [List.length_append, List.length_cons, List.length_nil] at hst
        have hts : (tabS t).size = (tabT t).length := rfl
        have hns : name.size = name.data.toList.length := rfl
        have z1 : J.length + (tabS t).size + (tyT ty).length + 1 + name.size + 3 + (exT (.mk k0 op0 n0 nm0 as0)).length + 2 ≤ 1099511627776 := by rw [hts, hns]; omega
        have y1 : ¬ 9223372036854775807 < J.length + (tabS t).size := by omega
        have y2 : ¬ 9223372036854775807 < J.length + (tabS t).size + (tyT ty).length := by omega
        have y3 : ¬ 9223372036854775807 < J.length + (tabS t).size + (tyT ty).length + 1 := by omega
        have y4 : ¬ 9223372036854775807 < J.length + (tabS t).size + (tyT ty).length + 1 + name.size := by omega
        have y5 : ¬ 9223372036854775807 < J.length + (tabS t).size + (tyT ty).length + 1 + name.size + 3 := by omega
        have y6 : ¬ 9223372036854775807 < J.length + (tabS t).size + (tyT ty).length + 1 + name.size + 3 + (exT (.mk k0 op0 n0 nm0 as0)).length := by omega
        have y7 : ¬ 9223372036854775807 < J.length + (tabS t).size + (tyT ty).length + 1 + name.size + 3 + (exT (.mk k0 op0 n0 nm0 as0)).length + 2 := by omega
        have HL0 : Hid ((exT (.mk k0 op0 n0 nm0 as0)).length ≤ 1099511627776) := by unfold Hid; omega
        have HTY := Lib.hid (formS_type hf)
        clear hx hb4 hb5 hst hl1 hl2 hf hT2 hts hns hsl hs4 hs5 p0 p1 p2 p3 p4 hE0
        go_wp2_with (go_at_call 39; (with_reducible refine (RtC.call HX0.out (by simp; omega) (HE0.out _ ((Below.refl _ _).alloc hBr _)) HL0.out).mono ?_); rintro e w2 ⟨rfl, hb2⟩; obtain ⟨hc2, hf2⟩ := bcell hb2)
        have x1 : w2.cell? ⟨wr.heap.size, 1, none⟩ = some (.int .i64 ty) := by rw [hc2 _ _ (by simp)]; simp
        have x2 : w2.cell? ⟨wr.heap.size, 2, none⟩ = some (.string name) := by rw [hc2 _ _ (by simp)]; simp
        have hw2s : wr.heap.size < w2.heap.size := by have := hb2.size; simp at this; omega
        have HB2 := Lib.hid hb2
        clear hc2 hf2 hb2
        go_region_held3 (fun w' => w'.cell? ⟨wr.heap.size, 1, none⟩ = some (.int .i64 ty) ∧ w'.cell? ⟨wr.heap.size, 2, none⟩ = some (.string name))
          (first
            | go_keep
            | (go_split_ands; refine ⟨?_, ?_⟩ <;> assumption))
          (first
            | (go_at_call 24; (refine (rtypes_any ty HTY.out _).mono ?_); rintro e w3 ⟨rfl, rfl⟩))
        go_wp2_with (fail)
        go_roundw
        case rel => exact ⟨i + 1, by omega, by go_num, congrArg Value.string (ba_ext (by rw [HT.out]; simp [ByteArray.data_append, tabS])), ((hwr.alloc hwr.size _).trans (HB2.out.mono (by simp; omega))).drew⟩
        case measure => simp [intOf]; omega
      · obtain ⟨a, rfl⟩ := len_one (hl1 (by decide))
        obtain ⟨k0, op0, n0, nm0, as0⟩ := a
        obtain ⟨g0, o0, A'0, cap0, rfl, hg0, p0, p1, p2, p3, p4, hE0, _⟩ := kid_cells hsl 0 k0 op0 n0 nm0 as0 rfl
        have q0 : wr.cell? ⟨g0, o0, none⟩ = some (.int .i64 k0) := by simpa using p0
        have q1 : wr.cell? ⟨g0, o0 + 1, none⟩ = some (.int .i64 op0) := by simpa using p1
        have q2 : wr.cell? ⟨g0, o0 + 2, none⟩ = some (.int .i64 n0) := by simpa using p2
        have q3 : wr.cell? ⟨g0, o0 + 3, none⟩ = some (.string nm0) := by simpa using p3
        have q4 : wr.cell? ⟨g0, o0 + 4, none⟩ = some (.slice A'0 as0.length cap0) := by simpa using p4
        have hg0s : g0 < wr.heap.size := by omega
        have HX0 := Lib.hid (hx 0 _ rfl)
        have HE0 := Lib.hid hE0
        have hT2 : stT (.mk 2 ty name [.mk k0 op0 n0 nm0 as0] thn els) t = tabT t ++ ((name.data.toList ++ [32, 61, 32]) ++ (exT (.mk k0 op0 n0 nm0 as0) ++ [59]) ++ [10]) := by rw [stT_mk]; simp [headT, argT, exTs, kid]
        rw [hT2] at hst
        rw [hT2] at HT
        simp only [List.length_append, List.length_cons, List.length_nil] at hst
        have hts : (tabS t).size = (tabT t).length := rfl
        have hns : name.size = name.data.toList.length := rfl
        have z1 : J.length + (tabS t).size + name.size + 3 + (exT (.mk k0 op0 n0 nm0 as0)).length + 2 ≤ 1099511627776 := by rw [hts, hns]; omega
        have HL0 : Hid ((exT (.mk k0 op0 n0 nm0 as0)).length ≤ 1099511627776) := by unfold Hid; omega
        clear hx hb4 hb5 hst hl1 hl2 hf hT2 hts hns hsl hs4 hs5 p0 p1 p2 p3 p4 hE0
        go_wp2_with (go_at_call 39; (with_reducible refine (RtC.call HX0.out (by simp; omega) (HE0.out _ ((Below.refl _ _).alloc hBr _)) HL0.out).mono ?_); rintro e w2 ⟨rfl, hb2⟩; obtain ⟨hc2, hf2⟩ := bcell hb2)
        go_roundw
        case rel => exact ⟨i + 1, by omega, by go_num, congrArg Value.string (ba_ext (by rw [HT.out]; simp [ByteArray.data_append, tabS])), (hwr.alloc hwr.size _).trans (hb2.mono (by simp; omega))⟩
        case measure => simp [intOf]; omega
      · obtain ⟨a, c2, rfl⟩ := len_two (hl2 (by decide))
        obtain ⟨k0, op0, n0, nm0, as0⟩ := a
        obtain ⟨k1, op1, n1, nm1, as1⟩ := c2
        obtain ⟨g0, o0, A'0, cap0, rfl, hg0, p0, p1, p2, p3, p4, hE0, _⟩ := kid_cells hsl 0 k0 op0 n0 nm0 as0 rfl
        have q0 : wr.cell? ⟨g0, o0, none⟩ = some (.int .i64 k0) := by simpa using p0
        have q1 : wr.cell? ⟨g0, o0 + 1, none⟩ = some (.int .i64 op0) := by simpa using p1
        have q2 : wr.cell? ⟨g0, o0 + 2, none⟩ = some (.int .i64 n0) := by simpa using p2
        have q3 : wr.cell? ⟨g0, o0 + 3, none⟩ = some (.string nm0) := by simpa using p3
        have q4 : wr.cell? ⟨g0, o0 + 4, none⟩ = some (.slice A'0 as0.length cap0) := by simpa using p4
        obtain ⟨g2, o2, A'1, cap1, hA2, _, r0, r1, r2, r3, r4, hE1, _⟩ := kid_cells hsl 1 k1 op1 n1 nm1 as1 rfl
        injection hA2 with hA2
        injection hA2 with e1 e2 _
        subst e1 e2
        have s0 : wr.cell? ⟨g0, o0 + 5, none⟩ = some (.int .i64 k1) := by simpa using r0
        have s1 : wr.cell? ⟨g0, o0 + 5 + 1, none⟩ = some (.int .i64 op1) := by simpa using r1
        have s2 : wr.cell? ⟨g0, o0 + 5 + 2, none⟩ = some (.int .i64 n1) := by simpa using r2
        have s3 : wr.cell? ⟨g0, o0 + 5 + 3, none⟩ = some (.string nm1) := by simpa using r3
        have s4 : wr.cell? ⟨g0, o0 + 5 + 4, none⟩ = some (.slice A'1 as1.length cap1) := by simpa using r4
        have hg0s : g0 < wr.heap.size := by omega
        have HX0 := Lib.hid (hx 0 _ rfl)
        have HE0 := Lib.hid hE0
        have HX1 := Lib.hid (hx 1 _ rfl)
        have HE1 := Lib.hid hE1
        have hT2 : stT (.mk 3 ty name [.mk k0 op0 n0 nm0 as0, .mk k1 op1 n1 nm1 as1] thn els) t = tabT t ++ ((name.data.toList ++ ([91] ++ (exT (.mk k0 op0 n0 nm0 as0) ++ [93, 32, 61, 32]))) ++ (exT (.mk k1 op1 n1 nm1 as1) ++ [59]) ++ [10]) := by rw [stT_mk]; simp [headT, argT, exTs, kid]
        rw [hT2] at hst
        rw [hT2] at HT
        simp only [List.length_append, List.length_cons, List.length_nil] at hst
        have hts : (tabS t).size = (tabT t).length := rfl
        have hns : name.size = name.data.toList.length := rfl
        have z1 : J.length + (tabS t).size + name.size + 1 + (exT (.mk k0 op0 n0 nm0 as0)).length + 4 + (exT (.mk k1 op1 n1 nm1 as1)).length + 2 ≤ 1099511627776 := by rw [hts, hns]; omega
        have y1 : ¬ 9223372036854775807 < J.length + (tabS t).size := by omega
        have y2 : ¬ 9223372036854775807 < J.length + (tabS t).size + name.size := by omega
        have y3 : ¬ 9223372036854775807 < J.length + (tabS t).size + name.size + 1 := by omega
        have y4 : ¬ 9223372036854775807 < J.length + (tabS t).size + name.size + 1 + (exT (.mk k0 op0 n0 nm0 as0)).length := by omega
        have y5 : ¬ 9223372036854775807 < J.length + (tabS t).size + name.size + 1 + (exT (.mk k0 op0 n0 nm0 as0)).length + 4 := by omega
        have y6 : ¬ 9223372036854775807 < J.length + (tabS t).size + name.size + 1 + (exT (.mk k0 op0 n0 nm0 as0)).length + 4 + (exT (.mk k1 op1 n1 nm1 as1)).length := by omega
        have y7 : ¬ 9223372036854775807 < J.length + (tabS t).size + name.size + 1 + (exT (.mk k0 op0 n0 nm0 as0)).length + 4 + (exT (.mk k1 op1 n1 nm1 as1)).length + 2 := by omega
        have HL0 : Hid ((exT (.mk k0 op0 n0 nm0 as0)).length ≤ 1099511627776) := by unfold Hid; omega
        have HL1 : Hid ((exT (.mk k1 op1 n1 nm1 as1)).length ≤ 1099511627776) := by unfold Hid; omega
        clear hx hb4 hb5 hst hl1 hl2 hf hT2 hts hns hsl hs4 hs5 p0 p1 p2 p3 p4 hE0 r0 r1 r2 r3 r4 hE1
        go_wp2_with (go_at_call 39; (with_reducible refine (RtC.call HX0.out (by simp; omega) (HE0.out _ ((Below.refl _ _).alloc hBr _)) HL0.out).mono ?_); rintro e w2 ⟨rfl, hb2⟩; obtain ⟨hc2, hf2⟩ := bcell hb2)
        have hw2s : wr.heap.size < w2.heap.size := by have := hb2.size; simp at this; omega
        have hbr2 : Below wr.heap.size wr w2 := ((Below.refl _ _).alloc (Nat.le_refl _) _).trans (hb2.mono (by simp))
        have x2 : w2.cell? ⟨wr.heap.size, 2, none⟩ = some (.string name) := by rw [hc2 _ _ (by simp)]; simp
        have x3 : w2.cell? ⟨wr.heap.size, 3, none⟩ = some (.slice (some ⟨g0, o0, none⟩) 2 cap') := by rw [hc2 _ _ (by simp)]; simp
        have cc : ∀ k x, wr.cell? ⟨g0, k, none⟩ = some x → w2.cell? ⟨g0, k, none⟩ = some x := fun k x h => (hbr2.cell (p := ⟨g0, k, none⟩) hg0s).trans h
        have u0 := cc _ _ s0
        have u1 := cc _ _ s1
        have u2 := cc _ _ s2
        have u3 := cc _ _ s3
        have u4 := cc _ _ s4
        have hB2 : B ≤ w2.heap.size := by omega
        have hB2d : B ≤ w2.drew.heap.size := hB2
        have hg2 : g0 < w2.heap.size := by omega
        have HB2 := Lib.hid hbr2
        clear hc2 hf2 hb2 cc s0 s1 s2 s3 s4 q0 q1 q2 q3 q4 hbr2
        go_region_held3 (fun w' => w'.cell? ⟨wr.heap.size, 2, none⟩ = some (.string name) ∧ w'.cell? ⟨wr.heap.size, 3, none⟩ = some (.slice (some ⟨g0, o0, none⟩) 2 cap') ∧ w'.cell? ⟨g0, o0 + 5, none⟩ = some (.int .i64 k1) ∧ w'.cell? ⟨g0, o0 + 5 + 1, none⟩ = some (.int .i64 op1) ∧ w'.cell? ⟨g0, o0 + 5 + 2, none⟩ = some (.int .i64 n1) ∧ w'.cell? ⟨g0, o0 + 5 + 3, none⟩ = some (.string nm1) ∧ w'.cell? ⟨g0, o0 + 5 + 4, none⟩ = some (.slice A'1 as1.length cap1))
          (first
            | (go_split_ands; refine ⟨?_, ?_, ?_, ?_, ?_, ?_, ?_⟩ <;> (first | (rw [hk3]; assumption) | (rw [hg3]; assumption)))
            | go_keep)
          (first
            | (go_at_call 39
               (refine (RtC.call HX1.out (w := w2.drew) hB2d (HE1.out _ (HB2.out.drew.mono hBr)) HL1.out).mono ?_)
               rintro e w3 ⟨rfl, hb3⟩
               have hk3 : ∀ k, w3.cell? ⟨wr.heap.size, k, none⟩ = w2.cell? ⟨wr.heap.size, k, none⟩ := fun k => hb3.cell (p := ⟨wr.heap.size, k, none⟩) hw2s
               have hg3 : ∀ k, w3.cell? ⟨g0, k, none⟩ = w2.cell? ⟨g0, k, none⟩ := fun k => hb3.cell (p := ⟨g0, k, none⟩) hg2))
        go_wp2_with (fail)
        go_roundw
        case rel => exact ⟨i + 1, by omega, by go_num, congrArg Value.string (ba_ext (by rw [HT.out]; simp [ByteArray.data_append, tabS])), hwr.trans ((HB2.out.drew.trans (hb3.mono (Nat.le_of_lt hw2s))).mono hwr.size)⟩
        case measure => simp [intOf]; omega
      · by_cases hel : els.length = 0
        · obtain ⟨a, rfl⟩ := len_one (hl1 (by decide))
          obtain ⟨k0, op0, n0, nm0, as0⟩ := a
          obtain ⟨g0, o0, A'0, cap0, rfl, hg0, p0, p1, p2, p3, p4, hE0, _⟩ := kid_cells hsl 0 k0 op0 n0 nm0 as0 rfl
          have q0 : wr.cell? ⟨g0, o0, none⟩ = some (.int .i64 k0) := by simpa using p0
          have q1 : wr.cell? ⟨g0, o0 + 1, none⟩ = some (.int .i64 op0) := by simpa using p1
          have q2 : wr.cell? ⟨g0, o0 + 2, none⟩ = some (.int .i64 n0) := by simpa using p2
          have q3 : wr.cell? ⟨g0, o0 + 3, none⟩ = some (.string nm0) := by simpa using p3
          have q4 : wr.cell? ⟨g0, o0 + 4, none⟩ = some (.slice A'0 as0.length cap0) := by simpa using p4
          have hg0s : g0 < wr.heap.size := by omega
          have HX0 := Lib.hid (hx 0 _ rfl)
          have HE0 := Lib.hid hE0
          have hT2 : stT (.mk 4 ty name [.mk k0 op0 n0 nm0 as0] thn els) t = tabT t ++ ([105, 102, 32, 40] ++ (exT (.mk k0 op0 n0 nm0 as0) ++ [41, 32, 123, 10])) ++ (stsT thn (t + 1) ++ (tabT t ++ [125, 10])) := by rw [stT_mk]; simp [headT, argT, exTs, kid, hel]
          rw [hT2] at hst
          rw [hT2] at HT
          simp only [List.length_append, List.length_cons, List.length_nil] at hst
          have hts : (tabS t).size = (tabT t).length := rfl
          have hns : name.size = name.data.toList.length := rfl
          have z1 : J.length + (tabS t).size + 4 + (exT (.mk k0 op0 n0 nm0 as0)).length + 4 + (stsT thn (t + 1)).length + (tabS t).size + 1 + 1 ≤ 1099511627776 := by rw [hts]; omega
          have z2 : (tabS t).size + 1 ≤ 1002 := by rw [hts]; simp [tabT]; omega
          have HL0 : Hid ((exT (.mk k0 op0 n0 nm0 as0)).length ≤ 1099511627776) := by unfold Hid; omega
          have HL4 : Hid ((stsT thn (t + 1)).length ≤ 1099511627776) := by unfold Hid; omega
          have hel0 : ¬ 0 < els.length := by omega
          have HB4 := Lib.hid hb4
          have HS4 := Lib.hid hs4
          have HTAB := Lib.hid (tabS_succ t)
          clear hx hb4 hb5 hst hl1 hl2 hf hT2 hts hns hsl hs4 hs5 p0 p1 p2 p3 p4 hE0 hel
          go_wp2_with (first
            | (go_at_call 39; (with_reducible refine (RtC.call HX0.out (by simp; omega) (HE0.out _ ((Below.refl _ _).alloc hBr _)) HL0.out).mono ?_); rintro e w2 ⟨rfl, hb2⟩; obtain ⟨hc2, hf2⟩ := bcell hb2; have hw2s : wr.heap.size < w2.heap.size := (by have := hb2.size; simp at this; omega); have hbr2 : Below wr.heap.size wr w2 := ((Below.refl _ _).alloc (Nat.le_refl _) _).trans (hb2.mono (by simp)); have hB2 : B ≤ w2.heap.size := (by omega))
            | (go_at_call 25; rw [HTAB.out]; (with_reducible refine (RbC.call HB4.out hB2 (HS4.out.below (hbr2.mono hBr) (Nat.le_refl _)) HL4.out).mono ?_); rintro e w3 ⟨rfl, hb3⟩; obtain ⟨hc3, hf3⟩ := bcell hb3; have hw3s : wr.heap.size < w3.heap.size := (by have := hb3.size; omega); have hbr3 : Below wr.heap.size wr w3 := hbr2.trans (hb3.mono (Nat.le_of_lt hw2s)); have hB3 : B ≤ w3.heap.size := (by omega)))
          go_roundw
          case rel => exact ⟨i + 1, by omega, by go_num, congrArg Value.string (ba_ext (by rw [HT.out]; simp [ByteArray.data_append, tabS])), hwr.trans (hbr3.mono hwr.size)⟩
          case measure => simp [intOf]; omega
        · obtain ⟨a, rfl⟩ := len_one (hl1 (by decide))
          obtain ⟨k0, op0, n0, nm0, as0⟩ := a
          obtain ⟨g0, o0, A'0, cap0, rfl, hg0, p0, p1, p2, p3, p4, hE0, _⟩ := kid_cells hsl 0 k0 op0 n0 nm0 as0 rfl
          have q0 : wr.cell? ⟨g0, o0, none⟩ = some (.int .i64 k0) := by simpa using p0
          have q1 : wr.cell? ⟨g0, o0 + 1, none⟩ = some (.int .i64 op0) := by simpa using p1
          have q2 : wr.cell? ⟨g0, o0 + 2, none⟩ = some (.int .i64 n0) := by simpa using p2
          have q3 : wr.cell? ⟨g0, o0 + 3, none⟩ = some (.string nm0) := by simpa using p3
          have q4 : wr.cell? ⟨g0, o0 + 4, none⟩ = some (.slice A'0 as0.length cap0) := by simpa using p4
          have hg0s : g0 < wr.heap.size := by omega
          have HX0 := Lib.hid (hx 0 _ rfl)
          have HE0 := Lib.hid hE0
          have hT2 : stT (.mk 4 ty name [.mk k0 op0 n0 nm0 as0] thn els) t = tabT t ++ ([105, 102, 32, 40] ++ (exT (.mk k0 op0 n0 nm0 as0) ++ [41, 32, 123, 10])) ++ (stsT thn (t + 1) ++ (tabT t ++ ([125, 32, 101, 108, 115, 101, 32, 123, 10] ++ (stsT els (t + 1) ++ (tabT t ++ [125, 10]))))) := by rw [stT_mk]; simp [headT, argT, exTs, kid, hel]
          rw [hT2] at hst
          rw [hT2] at HT
          simp only [List.length_append, List.length_cons, List.length_nil] at hst
          have hts : (tabS t).size = (tabT t).length := rfl
          have hns : name.size = name.data.toList.length := rfl
          have z1 : J.length + (tabS t).size + 4 + (exT (.mk k0 op0 n0 nm0 as0)).length + 4 + (stsT thn (t + 1)).length + (tabS t).size + 1 + 8 + (stsT els (t + 1)).length + (tabS t).size + 1 + 1 ≤ 1099511627776 := by rw [hts]; omega
          have z2 : (tabS t).size + 1 ≤ 1002 := by rw [hts]; simp [tabT]; omega
          have HL0 : Hid ((exT (.mk k0 op0 n0 nm0 as0)).length ≤ 1099511627776) := by unfold Hid; omega
          have HL4 : Hid ((stsT thn (t + 1)).length ≤ 1099511627776) := by unfold Hid; omega
          have HL5 : Hid ((stsT els (t + 1)).length ≤ 1099511627776) := by unfold Hid; omega
          have HB5 := Lib.hid hb5
          have HS5 := Lib.hid hs5
          have hel0 : 0 < els.length := by omega
          have HB4 := Lib.hid hb4
          have HS4 := Lib.hid hs4
          have HTAB := Lib.hid (tabS_succ t)
          clear hx hb4 hb5 hst hl1 hl2 hf hT2 hts hns hsl hs4 hs5 p0 p1 p2 p3 p4 hE0 hel
          go_wp2_with (first
            | (go_at_call 39; (with_reducible refine (RtC.call HX0.out (by simp; omega) (HE0.out _ ((Below.refl _ _).alloc hBr _)) HL0.out).mono ?_); rintro e w2 ⟨rfl, hb2⟩; obtain ⟨hc2, hf2⟩ := bcell hb2; have hw2s : wr.heap.size < w2.heap.size := (by have := hb2.size; simp at this; omega); have hbr2 : Below wr.heap.size wr w2 := ((Below.refl _ _).alloc (Nat.le_refl _) _).trans (hb2.mono (by simp)); have hB2 : B ≤ w2.heap.size := (by omega))
            | (go_at_call 25; rw [HTAB.out]; (with_reducible refine (RbC.call HB4.out hB2 (HS4.out.below (hbr2.mono hBr) (Nat.le_refl _)) HL4.out).mono ?_); rintro e w3 ⟨rfl, hb3⟩; obtain ⟨hc3, hf3⟩ := bcell hb3; have hw3s : wr.heap.size < w3.heap.size := (by have := hb3.size; omega); have hbr3 : Below wr.heap.size wr w3 := hbr2.trans (hb3.mono (Nat.le_of_lt hw2s)); have hB3 : B ≤ w3.heap.size := (by omega))
            | (go_at_call 25; rw [HTAB.out]; (with_reducible refine (RbC.call HB5.out hB3 (HS5.out.below (hbr3.mono hBr) (Nat.le_refl _)) HL5.out).mono ?_); rintro e w4 ⟨rfl, hb4⟩; have hbr4 : Below wr.heap.size wr w4 := hbr3.trans (hb4.mono (Nat.le_of_lt hw3s))))
          go_roundw
          case rel => exact ⟨i + 1, by omega, by go_num, congrArg Value.string (ba_ext (by rw [HT.out]; simp [ByteArray.data_append, tabS])), hwr.trans (hbr4.mono hwr.size)⟩
          case measure => simp [intOf]; omega
      · obtain ⟨a, rfl⟩ := len_one (hl1 (by decide))
        obtain ⟨k0, op0, n0, nm0, as0⟩ := a
        obtain ⟨g0, o0, A'0, cap0, rfl, hg0, p0, p1, p2, p3, p4, hE0, _⟩ := kid_cells hsl 0 k0 op0 n0 nm0 as0 rfl
        have q0 : wr.cell? ⟨g0, o0, none⟩ = some (.int .i64 k0) := by simpa using p0
        have q1 : wr.cell? ⟨g0, o0 + 1, none⟩ = some (.int .i64 op0) := by simpa using p1
        have q2 : wr.cell? ⟨g0, o0 + 2, none⟩ = some (.int .i64 n0) := by simpa using p2
        have q3 : wr.cell? ⟨g0, o0 + 3, none⟩ = some (.string nm0) := by simpa using p3
        have q4 : wr.cell? ⟨g0, o0 + 4, none⟩ = some (.slice A'0 as0.length cap0) := by simpa using p4
        have hg0s : g0 < wr.heap.size := by omega
        have HX0 := Lib.hid (hx 0 _ rfl)
        have HE0 := Lib.hid hE0
        have hT2 : stT (.mk 5 ty name [.mk k0 op0 n0 nm0 as0] thn els) t = tabT t ++ ([119, 104, 105, 108, 101, 32, 40] ++ (exT (.mk k0 op0 n0 nm0 as0) ++ [41, 32, 123, 10])) ++ (stsT thn (t + 1) ++ (tabT t ++ [125, 10])) := by rw [stT_mk]; simp [headT, argT, exTs, kid]
        rw [hT2] at hst
        rw [hT2] at HT
        simp only [List.length_append, List.length_cons, List.length_nil] at hst
        have hts : (tabS t).size = (tabT t).length := rfl
        have hns : name.size = name.data.toList.length := rfl
        have z1 : J.length + (tabS t).size + 7 + (exT (.mk k0 op0 n0 nm0 as0)).length + 4 + (stsT thn (t + 1)).length + (tabS t).size + 2 ≤ 1099511627776 := by rw [hts]; omega
        have z2 : (tabS t).size + 1 ≤ 1002 := by rw [hts]; simp [tabT]; omega
        have HL0 : Hid ((exT (.mk k0 op0 n0 nm0 as0)).length ≤ 1099511627776) := by unfold Hid; omega
        have HL4 : Hid ((stsT thn (t + 1)).length ≤ 1099511627776) := by unfold Hid; omega
        have HB4 := Lib.hid hb4
        have HS4 := Lib.hid hs4
        have HTAB := Lib.hid (tabS_succ t)
        clear hx hb4 hb5 hst hl1 hl2 hf hT2 hts hns hsl hs4 hs5 p0 p1 p2 p3 p4 hE0
        go_wp2_with (first
          | (go_at_call 39; (with_reducible refine (RtC.call HX0.out (by simp; omega) (HE0.out _ ((Below.refl _ _).alloc hBr _)) HL0.out).mono ?_); rintro e w2 ⟨rfl, hb2⟩; obtain ⟨hc2, hf2⟩ := bcell hb2; have hw2s : wr.heap.size < w2.heap.size := (by have := hb2.size; simp at this; omega); have hbr2 : Below wr.heap.size wr w2 := ((Below.refl _ _).alloc (Nat.le_refl _) _).trans (hb2.mono (by simp)); have hB2 : B ≤ w2.heap.size := (by omega))
          | (go_at_call 25; rw [HTAB.out]; (with_reducible refine (RbC.call HB4.out hB2 (HS4.out.below (hbr2.mono hBr) (Nat.le_refl _)) HL4.out).mono ?_); rintro e w3 ⟨rfl, hb3⟩; obtain ⟨hc3, hf3⟩ := bcell hb3; have hw3s : wr.heap.size < w3.heap.size := (by have := hb3.size; omega); have hbr3 : Below wr.heap.size wr w3 := hbr2.trans (hb3.mono (Nat.le_of_lt hw2s)); have hB3 : B ≤ w3.heap.size := (by omega)))
        go_roundw
        case rel => exact ⟨i + 1, by omega, by go_num, congrArg Value.string (ba_ext (by rw [HT.out]; simp [ByteArray.data_append, tabS])), hwr.trans (hbr3.mono hwr.size)⟩
        case measure => simp [intOf]; omega
      · obtain rfl : args = [] := List.length_eq_zero_iff.1 (formS_zero hf (by decide))
        have hT2 : stT (.mk 6 ty name [] thn els) t = tabT t ++ ([98, 114, 101, 97, 107, 59] ++ [10]) := by rw [stT_mk]; rfl
        rw [hT2] at hst
        rw [hT2] at HT
        simp only [List.length_append, List.length_cons, List.length_nil] at hst
        have hts : (tabS t).size = (tabT t).length := rfl
        have hns : name.size = name.data.toList.length := rfl
        have z1 : J.length + (tabS t).size + 7 ≤ 1099511627776 := by rw [hts]; omega
        clear hx hb4 hb5 hst hl1 hl2 hf hT2 hts hns hsl hs4 hs5
        go_wp2_with (fail)
        go_roundw
        case rel => exact ⟨i + 1, by omega, by go_num, congrArg Value.string (ba_ext (by rw [HT.out]; simp [ByteArray.data_append, tabS])), hwr.alloc hwr.size _⟩
        case measure => simp [intOf]; omega
      · obtain rfl : args = [] := List.length_eq_zero_iff.1 (formS_zero hf (by decide))
        have hT2 : stT (.mk 7 ty name [] thn els) t = tabT t ++ ([99, 111, 110, 116, 105, 110, 117, 101, 59] ++ [10]) := by rw [stT_mk]; rfl
        rw [hT2] at hst
        rw [hT2] at HT
        simp only [List.length_append, List.length_cons, List.length_nil] at hst
        have hts : (tabS t).size = (tabT t).length := rfl
        have hns : name.size = name.data.toList.length := rfl
        have z1 : J.length + (tabS t).size + 10 ≤ 1099511627776 := by rw [hts]; omega
        clear hx hb4 hb5 hst hl1 hl2 hf hT2 hts hns hsl hs4 hs5
        go_wp2_with (fail)
        go_roundw
        case rel => exact ⟨i + 1, by omega, by go_num, congrArg Value.string (ba_ext (by rw [HT.out]; simp [ByteArray.data_append, tabS])), hwr.alloc hwr.size _⟩
        case measure => simp [intOf]; omega
      · obtain ⟨a, rfl⟩ := len_one (hl1 (by decide))
        obtain ⟨k0, op0, n0, nm0, as0⟩ := a
        obtain ⟨g0, o0, A'0, cap0, rfl, hg0, p0, p1, p2, p3, p4, hE0, _⟩ := kid_cells hsl 0 k0 op0 n0 nm0 as0 rfl
        have q0 : wr.cell? ⟨g0, o0, none⟩ = some (.int .i64 k0) := by simpa using p0
        have q1 : wr.cell? ⟨g0, o0 + 1, none⟩ = some (.int .i64 op0) := by simpa using p1
        have q2 : wr.cell? ⟨g0, o0 + 2, none⟩ = some (.int .i64 n0) := by simpa using p2
        have q3 : wr.cell? ⟨g0, o0 + 3, none⟩ = some (.string nm0) := by simpa using p3
        have q4 : wr.cell? ⟨g0, o0 + 4, none⟩ = some (.slice A'0 as0.length cap0) := by simpa using p4
        have hg0s : g0 < wr.heap.size := by omega
        have HX0 := Lib.hid (hx 0 _ rfl)
        have HE0 := Lib.hid hE0
        have hT2 : stT (.mk 8 ty name [.mk k0 op0 n0 nm0 as0] thn els) t = tabT t ++ ([114, 101, 116, 117, 114, 110, 32] ++ (exT (.mk k0 op0 n0 nm0 as0) ++ [59]) ++ [10]) := by rw [stT_mk]; simp [headT, argT, exTs, kid]
        rw [hT2] at hst
        rw [hT2] at HT
        simp only [List.length_append, List.length_cons, List.length_nil] at hst
        have hts : (tabS t).size = (tabT t).length := rfl
        have hns : name.size = name.data.toList.length := rfl
        have z1 : J.length + (tabS t).size + 7 + (exT (.mk k0 op0 n0 nm0 as0)).length + 2 ≤ 1099511627776 := by rw [hts]; omega
        have HL0 : Hid ((exT (.mk k0 op0 n0 nm0 as0)).length ≤ 1099511627776) := by unfold Hid; omega
        clear hx hb4 hb5 hst hl1 hl2 hf hT2 hts hns hsl hs4 hs5 p0 p1 p2 p3 p4 hE0
        go_wp2_with (go_at_call 39; (with_reducible refine (RtC.call HX0.out (by simp; omega) (HE0.out _ ((Below.refl _ _).alloc hBr _)) HL0.out).mono ?_); rintro e w2 ⟨rfl, hb2⟩; obtain ⟨hc2, hf2⟩ := bcell hb2)
        go_roundw
        case rel => exact ⟨i + 1, by omega, by go_num, congrArg Value.string (ba_ext (by rw [HT.out]; simp [ByteArray.data_append, tabS])), (hwr.alloc hwr.size _).trans (hb2.mono (by simp; omega))⟩
        case measure => simp [intOf]; omega
      · obtain ⟨a, rfl⟩ := len_one (hl1 (by decide))
        obtain ⟨k0, op0, n0, nm0, as0⟩ := a
        obtain ⟨g0, o0, A'0, cap0, rfl, hg0, p0, p1, p2, p3, p4, hE0, _⟩ := kid_cells hsl 0 k0 op0 n0 nm0 as0 rfl
        have q0 : wr.cell? ⟨g0, o0, none⟩ = some (.int .i64 k0) := by simpa using p0
        have q1 : wr.cell? ⟨g0, o0 + 1, none⟩ = some (.int .i64 op0) := by simpa using p1
        have q2 : wr.cell? ⟨g0, o0 + 2, none⟩ = some (.int .i64 n0) := by simpa using p2
        have q3 : wr.cell? ⟨g0, o0 + 3, none⟩ = some (.string nm0) := by simpa using p3
        have q4 : wr.cell? ⟨g0, o0 + 4, none⟩ = some (.slice A'0 as0.length cap0) := by simpa using p4
        have hg0s : g0 < wr.heap.size := by omega
        have HX0 := Lib.hid (hx 0 _ rfl)
        have HE0 := Lib.hid hE0
        have hT2 : stT (.mk 9 ty name [.mk k0 op0 n0 nm0 as0] thn els) t = tabT t ++ ([112, 114, 105, 110, 116, 40] ++ (exT (.mk k0 op0 n0 nm0 as0) ++ [41, 59]) ++ [10]) := by rw [stT_mk]; simp [headT, argT, exTs, kid]
        rw [hT2] at hst
        rw [hT2] at HT
        simp only [List.length_append, List.length_cons, List.length_nil] at hst
        have hts : (tabS t).size = (tabT t).length := rfl
        have hns : name.size = name.data.toList.length := rfl
        have z1 : J.length + (tabS t).size + 6 + (exT (.mk k0 op0 n0 nm0 as0)).length + 3 ≤ 1099511627776 := by rw [hts]; omega
        have HL0 : Hid ((exT (.mk k0 op0 n0 nm0 as0)).length ≤ 1099511627776) := by unfold Hid; omega
        clear hx hb4 hb5 hst hl1 hl2 hf hT2 hts hns hsl hs4 hs5 p0 p1 p2 p3 p4 hE0
        go_wp2_with (go_at_call 39; (with_reducible refine (RtC.call HX0.out (by simp; omega) (HE0.out _ ((Below.refl _ _).alloc hBr _)) HL0.out).mono ?_); rintro e w2 ⟨rfl, hb2⟩; obtain ⟨hc2, hf2⟩ := bcell hb2)
        go_roundw
        case rel => exact ⟨i + 1, by omega, by go_num, congrArg Value.string (ba_ext (by rw [HT.out]; simp [ByteArray.data_append, tabS])), (hwr.alloc hwr.size _).trans (hb2.mono (by simp; omega))⟩
        case measure => simp [intOf]; omega
      · obtain ⟨a, rfl⟩ := len_one (hl1 (by decide))
        obtain ⟨k0, op0, n0, nm0, as0⟩ := a
        obtain ⟨g0, o0, A'0, cap0, rfl, hg0, p0, p1, p2, p3, p4, hE0, _⟩ := kid_cells hsl 0 k0 op0 n0 nm0 as0 rfl
        have q0 : wr.cell? ⟨g0, o0, none⟩ = some (.int .i64 k0) := by simpa using p0
        have q1 : wr.cell? ⟨g0, o0 + 1, none⟩ = some (.int .i64 op0) := by simpa using p1
        have q2 : wr.cell? ⟨g0, o0 + 2, none⟩ = some (.int .i64 n0) := by simpa using p2
        have q3 : wr.cell? ⟨g0, o0 + 3, none⟩ = some (.string nm0) := by simpa using p3
        have q4 : wr.cell? ⟨g0, o0 + 4, none⟩ = some (.slice A'0 as0.length cap0) := by simpa using p4
        have hg0s : g0 < wr.heap.size := by omega
        have HX0 := Lib.hid (hx 0 _ rfl)
        have HE0 := Lib.hid hE0
        have hT2 : stT (.mk 10 ty name [.mk k0 op0 n0 nm0 as0] thn els) t = tabT t ++ ([] ++ (exT (.mk k0 op0 n0 nm0 as0) ++ [59]) ++ [10]) := by rw [stT_mk]; simp [headT, argT, exTs, kid]
        rw [hT2] at hst
        rw [hT2] at HT
        simp only [List.length_append, List.length_cons, List.length_nil] at hst
        have hts : (tabS t).size = (tabT t).length := rfl
        have hns : name.size = name.data.toList.length := rfl
        have z1 : J.length + (tabS t).size + 0 + (exT (.mk k0 op0 n0 nm0 as0)).length + 2 ≤ 1099511627776 := by rw [hts]; omega
        have HL0 : Hid ((exT (.mk k0 op0 n0 nm0 as0)).length ≤ 1099511627776) := by unfold Hid; omega
        clear hx hb4 hb5 hst hl1 hl2 hf hT2 hts hns hsl hs4 hs5 p0 p1 p2 p3 p4 hE0
        go_wp2_with (go_at_call 39; (with_reducible refine (RtC.call HX0.out (by simp; omega) (HE0.out _ ((Below.refl _ _).alloc hBr _)) HL0.out).mono ?_); rintro e w2 ⟨rfl, hb2⟩; obtain ⟨hc2, hf2⟩ := bcell hb2)
        go_roundw
        case rel => exact ⟨i + 1, by omega, by go_num, congrArg Value.string (ba_ext (by rw [HT.out]; simp [ByteArray.data_append, tabS])), (hwr.alloc hwr.size _).trans (hb2.mono (by simp; omega))⟩
        case measure => simp [intOf]; omega
    · have e : i = l.length := by omega
      have HJ2 : Hid (J = stsT l t) := by unfold Hid; rw [← hJ, e, List.take_length]
      rw [HJ2.out]
      clear hJ
      go_wp2_with (fail)
      go_ret
      exact ⟨rfl, hwr⟩
end Go.Proofs.YtakijoblbmfadaaGreatDoor

/- The contract of the document's text of a program. -/
namespace Go.Proofs.YtakijoblbmfadaaGreatDoor
open Go.RowKit
/-- What every valid statement asks. -/
theorem sub_any (B : Nat) : ∀ (m : Nat) (s : St) (t : Nat), stOK s m = true → t + m ≤ 990 → SubOK B t s
  | 0, .mk k ty name args thn els, t, h, _ => by
    rw [stOK_mk] at h
    simp at h
  | m + 1, .mk k ty name args thn els, t, h, ht => by
    rw [stOK_mk, Bool.and_eq_true, Bool.and_eq_true, Bool.and_eq_true, Bool.and_eq_true] at h
    obtain ⟨⟨⟨⟨_, hf⟩, hx⟩, h4⟩, h5⟩ := h
    rw [Nat.add_sub_cancel] at h4 h5
    have hb : ∀ l, stsOK l m = true → RbC B (t + 1) l := fun l hl => rblock_step B (t + 1) (by omega) l (fun i s hi => sub_any B m s (t + 1) (stsOK_at hl hi) (by omega))
    exact ⟨⟨_, hf⟩, fun i e hi => rtext_any B 100 e (exsOK_at hx hi), hb _ h4, hb _ h5⟩
/-- The document's lines of a list of valid statements, a tab deeper. -/
theorem rblock_any (B : Nat) (l : List St) (h : stsOK l 100 = true) : RbC B 1 l := rblock_step B 1 (by omega) l fun i s hi => sub_any B 100 s 1 (stsOK_at h hi) (by omega)
theorem rblock_one (B : Nat) (l : List St) (h : stsOK l 100 = true) (w : World) (v : Value) (hB : B ≤ w.heap.size) (hv : SlS B w v l) (hl : (stsT l 1).length ≤ 1099511627776) :
    Calls Tryz.prog 25 #[v, .string ⟨#[9]⟩] w fun e' w' => e' = .returned (.string ⟨(stsT l 1).toArray⟩) ∧ Below w.heap.size w w' := by
  have e : tabS 1 = ⟨#[9]⟩ := by simp [tabS, tabT]
  rw [← e]
  exact (rblock_any B l h).call hB hv hl
set_option maxHeartbeats 8000000 in
set_option maxRecDepth 100000 in
theorem rprint_yes (B : Nat) (p : Pr) (hc : prOK p = true) (hlen : (prT p).length ≤ 1099511627776) (v v' : Value) (w : World) (hB : B ≤ w.heap.size) (ha : SlA B w v p.arrays) (hf : SlF B w v' p.funcs) :
    Calls Tryz.prog 16 #[.agg #[v, v']] w (PrintPost B p w) := by
  obtain ⟨A, cap, rfl, hn⟩ := ha.form
  obtain ⟨A2, cap2, rfl, hn2⟩ := hf.form
  have HA := Lib.hid ha
  have HF := Lib.hid hf
  have HC := Lib.hid hc
  have hall : p.arrays.all arOK = true ∧ p.funcs.all fuOK = true := by unfold prOK at hc; simpa using hc
  have HLL := Lib.hid hlen
  have HAO := Lib.hid hall.1
  have HFO := Lib.hid hall.2
  have HROW : ∀ wr, Below (w.heap.size + 1) (w.alloc (.cells #[.slice A p.arrays.length cap, .slice A2 p.funcs.length cap2] 35)) wr → wr.cell? ⟨w.heap.size, 0, none⟩ = some (.slice A p.arrays.length cap) ∧ wr.cell? ⟨w.heap.size, 1, none⟩ = some (.slice A2 p.funcs.length cap2) := fun wr hb => by
    have hrow : wr.heap[w.heap.size]? = some (.cells #[.slice A p.arrays.length cap, .slice A2 p.funcs.length cap2] 35 (0, 0)) := (hb.block _ (by omega)).trans (heap_alloc_new w _)
    exact ⟨by rw [Lib.cell_of_heap hrow]; rfl, by rw [Lib.cell_of_heap hrow]; rfl⟩
  have HR := Lib.hid HROW
  clear ha hf hc hall hlen HROW
  go_enter Tryz.func16, Tryz.ntmps16
  go_wp2_with (go_at_call 22; (with_reducible refine (rright_any B p _ HC.out _ _ _ (by simp; omega) (HA.out.below ((Below.refl _ _).alloc hB _) (Nat.le_refl _)) (HF.out.below ((Below.refl _ _).alloc hB _) (Nat.le_refl _))).mono ?_); rintro e w1 ⟨rfl, hb1⟩)
  have hb1' : Below (w.heap.size + 1) (w.alloc (.cells #[.slice A p.arrays.length cap, .slice A2 p.funcs.length cap2] 35)) w1 := hb1.mono (by simp)
  clear hb1
  go_loopw [4, 5] (fun sv iv wr => ∃ i : Nat, i ≤ p.arrays.length ∧ iv = .int .i64 i ∧ sv = .string ⟨(((p.arrays.take i).map arT).flatten).toArray⟩ ∧ Below (w.heap.size + 1) (w.alloc (.cells #[.slice A p.arrays.length cap, .slice A2 p.funcs.length cap2] 35)) wr) (fun _ iv _ => p.arrays.length - (intOf iv).toNat)
  case atStart => exact ⟨0, Nat.zero_le _, rfl, rfl, hb1'⟩
  case round =>
    obtain ⟨i, hi, rfl, hsv, hbw⟩ := hrel
    obtain ⟨J, hJ⟩ : ∃ J, ((p.arrays.take i).map arT).flatten = J := ⟨_, rfl⟩
    rw [hJ] at hsv
    subst hsv
    have HJJ := Lib.hid hJ
    clear hJ
    have hsz1 : w.heap.size + 1 ≤ wr.heap.size := by have := hbw.size; simpa using this
    have hwr : Below w.heap.size w wr := ((Below.refl _ _).alloc (Nat.le_refl _) _).trans (hbw.mono (by omega))
    have hBr : B ≤ wr.heap.size := by omega
    have hq : w.heap.size < wr.heap.size := by omega
    obtain ⟨k0, k1⟩ := HR.out wr hbw
    by_cases hlt : i < p.arrays.length
    · obtain ⟨x, hx⟩ : ∃ x, p.arrays[i]? = some x := ⟨_, List.getElem?_eq_getElem hlt⟩
      have HX := Lib.hid hx
      obtain ⟨g, o, rfl, hg, q0, q1⟩ := (HA.out.below (hwr.mono hB) (Nat.le_refl _)).cells hx
      have hgs : g < wr.heap.size := by omega
      have hok : arOK x = true := List.all_eq_true.1 HAO.out x (List.mem_of_getElem? hx)
      have hs0 : 0 ≤ x.size := by simp [arOK] at hok; omega
      have HI : Hid (i64R x.size) := by simp [arOK] at hok; exact ⟨by omega, by omega⟩
      have hjl := flat_len arT hx
      rw [HJJ.out] at hjl
      have hLL : J.length + (arT x).length ≤ 1099511627776 := by have := HLL.out; unfold prT at this; rw [List.length_append] at this; omega
      have hns : x.name.size = x.name.data.toList.length := rfl
      have z1 : J.length + 4 + x.name.size + 1 + (Lib.itoa x.size).length + 3 ≤ 1099511627776 := by rw [hns]; simp [arT] at hLL; omega
      have y1 : ¬ 9223372036854775807 < J.length + 4 := by omega
      have y2 : ¬ 9223372036854775807 < J.length + 4 + x.name.size := by omega
      have y3 : ¬ 9223372036854775807 < J.length + 4 + x.name.size + 1 := by omega
      have y4 : ¬ 9223372036854775807 < J.length + 4 + x.name.size + 1 + (Lib.itoa x.size).length := by omega
      have y5 : ¬ 9223372036854775807 < J.length + 4 + x.name.size + 1 + (Lib.itoa x.size).length + 3 := by omega
      have HT : Hid (((p.arrays.take (i + 1)).map arT).flatten = J ++ arT x) := by unfold Hid; rw [flatten_take arT HX.out, HJJ.out]
      clear hok hjl hLL hns hx
      go_wp2_with (fail)
      go_region_held3 (fun w' => w'.cell? ⟨w.heap.size, 0, none⟩ = some (.slice (some ⟨g, o, none⟩) p.arrays.length cap) ∧ w'.cell? ⟨g, o + i * 2, none⟩ = some (.string x.name) ∧ w'.cell? ⟨g, o + i * 2 + 1, none⟩ = some (.int .i64 x.size))
        (first
          | (go_split_ands; refine ⟨?_, ?_, ?_⟩ <;> (first | (rw [hk1]; assumption) | (rw [hg1]; assumption)))
          | go_keep)
        (first
          | (go_at_call 23
             (refine (rdigits_any x.size wr.drew hs0 HI.out).mono ?_)
             rintro e w2 ⟨rfl, hb2⟩
             obtain ⟨hc2, hf2⟩ := bcell hb2
             have hk1 : ∀ o, w2.cell? ⟨w.heap.size, o, none⟩ = wr.cell? ⟨w.heap.size, o, none⟩ := fun o => hc2 _ _ hq
             have hg1 : ∀ o, w2.cell? ⟨g, o, none⟩ = wr.cell? ⟨g, o, none⟩ := fun o => hc2 _ _ hgs
             clear hc2 hf2))
      go_wp2_with (fail)
      go_roundw
      case rel => exact ⟨i + 1, by omega, by go_num, congrArg Value.string (ba_ext (by rw [HT.out]; simp [arT, ByteArray.data_append])), hbw.drew.trans (hb2.mono (by show w.heap.size + 1 ≤ wr.heap.size; omega))⟩
      case measure => simp [intOf]; omega
    · have HAE : Hid (J = (p.arrays.map arT).flatten) := by unfold Hid; rw [← HJJ.out, List.take_of_length_le (by omega)]
      clear HJJ
      go_wp2_with (fail)
      go_loopw [4, 6] (fun sv iv wr' => ∃ j : Nat, j ≤ p.funcs.length ∧ iv = .int .i64 j ∧ sv = .string ⟨(J ++ ((p.funcs.take j).map fuT).flatten).toArray⟩ ∧ Below (w.heap.size + 1) (w.alloc (.cells #[.slice A p.arrays.length cap, .slice A2 p.funcs.length cap2] 35)) wr') (fun _ iv _ => p.funcs.length - (intOf iv).toNat)
      case atStart => exact ⟨0, Nat.zero_le _, rfl, by simp, hbw⟩
      case round =>
        obtain ⟨j, hj, rfl, hsv, hbw2⟩ := hrel
        obtain ⟨T, hT⟩ : ∃ T, J ++ ((p.funcs.take j).map fuT).flatten = T := ⟨_, rfl⟩
        rw [hT] at hsv
        subst hsv
        have HTT := Lib.hid hT
        clear hT
        obtain ⟨W0, rfl⟩ : ∃ W0, W0 = wr := ⟨_, rfl⟩
        have hsz2 : w.heap.size + 1 ≤ W0.heap.size := by have := hbw2.size; simpa using this
        have hw2 : Below w.heap.size w W0 := ((Below.refl _ _).alloc (Nat.le_refl _) _).trans (hbw2.mono (by omega))
        have hB2 : B ≤ W0.heap.size := by omega
        have hq2 : w.heap.size < W0.heap.size := by omega
        obtain ⟨m0, m1⟩ := HR.out W0 hbw2
        by_cases hlt2 : j < p.funcs.length
        · obtain ⟨f, hx⟩ : ∃ x, p.funcs[j]? = some x := ⟨_, List.getElem?_eq_getElem hlt2⟩
          have HX := Lib.hid hx
          obtain ⟨g, o, v1, v2, rfl, hg, q0, q1, q2, q3, hp, hb⟩ := (HF.out.below (hw2.mono hB) (Nat.le_refl _)).cells hx
          obtain ⟨A3, cap3, rfl, hn3⟩ := hp.form
          obtain ⟨A4, cap4, rfl, hn4⟩ := hb.form
          have hgs : g < W0.heap.size := by omega
          have hok : fuOK f = true := List.all_eq_true.1 HFO.out f (List.mem_of_getElem? hx)
          have hok2 := hok
          unfold fuOK at hok2
          simp only [Bool.and_eq_true] at hok2
          have HST := Lib.hid hok2.2
          have HPA := Lib.hid hok2.1.2
          have HTY := Lib.hid hok2.1.1.1.2
          have HP := Lib.hid hp
          have HS := Lib.hid hb
          have hjl := flat_len fuT hx
          have hLL : T.length + (fuT f).length ≤ 1099511627776 := by
            have h1 := HLL.out
            unfold prT at h1
            rw [← HAE.out] at h1
            rw [← HTT.out]
            simp only [List.length_append] at h1 hjl ⊢
            omega
          have HLF := Lib.hid hLL
          have HTF : Hid (J ++ ((p.funcs.take (j + 1)).map fuT).flatten = T ++ fuT f) := by unfold Hid; rw [flatten_take fuT HX.out, ← List.append_assoc, HTT.out]
          clear hx hp hb hok hok2 hjl hLL
          go_wp2_with (fail)
          go_loopw [8, 9] (fun sv iv wi => ∃ k : Nat, k ≤ f.params.length ∧ iv = .int .i64 k ∧ sv = .string ⟨(joinC ((f.params.take k).map paT)).toArray⟩ ∧ Below (W0.heap.size + 1) (W0.alloc (.cells #[.string f.name, .int .i64 f.type, .slice A3 f.params.length cap3, .slice A4 f.body.length cap4] 46)) wi) (fun _ iv _ => f.params.length - (intOf iv).toNat)
          case atStart => exact ⟨0, Nat.zero_le _, rfl, rfl, Below.refl _ _⟩
          case round =>
            obtain ⟨k, hk, rfl, hsv3, hbi⟩ := hrel
            obtain ⟨P, hP⟩ : ∃ P, joinC ((f.params.take k).map paT) = P := ⟨_, rfl⟩
            rw [hP] at hsv3
            subst hsv3
            have HPP := Lib.hid hP
            clear hP
            have hqi : W0.heap.size < wr.heap.size := by have h9 : W0.heap.size + 1 ≤ wr.heap.size := (by have := hbi.size; simpa using this); omega
            have hbw3 : Below W0.heap.size W0 wr := ((Below.refl _ _).alloc (Nat.le_refl _) _).trans (hbi.mono (by omega))
            have hrow : wr.heap[W0.heap.size]? = some (.cells #[.string f.name, .int .i64 f.type, .slice A3 f.params.length cap3, .slice A4 f.body.length cap4] 46 (0, 0)) := (hbi.block _ (by omega)).trans (heap_alloc_new W0 _)
            have e0 : wr.cell? ⟨W0.heap.size, 0, none⟩ = some (.string f.name) := by rw [Lib.cell_of_heap hrow]; rfl
            have e1 : wr.cell? ⟨W0.heap.size, 1, none⟩ = some (.int .i64 f.type) := by rw [Lib.cell_of_heap hrow]; rfl
            have e2 : wr.cell? ⟨W0.heap.size, 2, none⟩ = some (.slice A3 f.params.length cap3) := by rw [Lib.cell_of_heap hrow]; rfl
            have e3 : wr.cell? ⟨W0.heap.size, 3, none⟩ = some (.slice A4 f.body.length cap4) := by rw [Lib.cell_of_heap hrow]; rfl
            clear hrow q0 q1 q2 q3
            by_cases hlk : k < f.params.length
            · obtain ⟨x, hx⟩ : ∃ x, f.params[k]? = some x := ⟨_, List.getElem?_eq_getElem hlk⟩
              obtain ⟨g', o', rfl, hg', r0, r1⟩ := (HP.out.below (hbw3.mono hB2) (Nat.le_refl _)).cells hx
              have hgs' : g' < wr.heap.size := by omega
              have HXX := Lib.hid hx
              have HXT : Hid (tyB x.type = true) := by
                have h := List.all_eq_true.1 HPA.out x (List.mem_of_getElem? hx)
                unfold paOK at h
                simp only [Bool.and_eq_true] at h
                exact h.2
              have hjl := joinC_len paT hx
              rw [HPP.out] at hjl
              have hll : (joinC (f.params.map paT)).length ≤ 1099511627776 := by have := HLF.out; simp [fuT] at this; omega
              have hpl : (paT x).length = (tyT x.type).length + 1 + x.name.size := by
                have : x.name.size = x.name.data.toList.length := rfl
                rw [this]; simp [paT]; omega
              clear hx
              by_cases hk0 : k = 0
              · subst hk0
                have s0 : wr.cell? ⟨g', o', none⟩ = some (.string x.name) := by simpa using r0
                have s1 : wr.cell? ⟨g', o' + 1, none⟩ = some (.int .i64 x.type) := by simpa using r1
                have HJ : Hid (joinC ((f.params.take (0 + 1)).map paT) = P ++ paT x) := by unfold Hid; rw [joinC_take paT HXX.out, HPP.out]; simp
                rw [if_pos rfl] at hjl
                have u0 : ¬ 9223372036854775807 < P.length + (tyT x.type).length := by omega
                have u1 : ¬ 9223372036854775807 < P.length + (tyT x.type).length + 1 := by omega
                have u2 : ¬ 9223372036854775807 < P.length + (tyT x.type).length + 1 + x.name.size := by omega
                go_wp2_with (fail)
                go_region_held3 (fun w' => w'.cell? ⟨W0.heap.size, 2, none⟩ = some (.slice (some ⟨g', o', none⟩) f.params.length cap3) ∧ w'.cell? ⟨g', o', none⟩ = some (.string x.name) ∧ w'.cell? ⟨g', o' + 1, none⟩ = some (.int .i64 x.type))
                  (first
                    | go_keep
                    | (go_split_ands; refine ⟨?_, ?_, ?_⟩ <;> assumption))
                  (first
                    | (go_at_call 24; (refine (rtypes_any x.type HXT.out _).mono ?_); rintro e w3 ⟨rfl, rfl⟩))
                go_wp2_with (fail)
                go_roundw
                case rel => exact ⟨1, by omega, by go_num, congrArg Value.string (ba_ext (by rw [HJ.out]; simp [paT, ByteArray.data_append])), hbi.drew⟩
                case measure => simp [intOf]; omega
              · have hkp : 0 < k := by omega
                have HJ : Hid (joinC ((f.params.take (k + 1)).map paT) = P ++ ([44, 32] ++ paT x)) := by unfold Hid; rw [joinC_take paT HXX.out, if_neg hk0, HPP.out]
                rw [if_neg hk0] at hjl
                clear hk0
                have u0 : ¬ 9223372036854775807 < P.length + 2 := by omega
                have u1 : ¬ 9223372036854775807 < P.length + 2 + (tyT x.type).length := by omega
                have u2 : ¬ 9223372036854775807 < P.length + 2 + (tyT x.type).length + 1 := by omega
                have u3 : ¬ 9223372036854775807 < P.length + 2 + (tyT x.type).length + 1 + x.name.size := by omega
                go_wp2_with (fail)
                go_region_held3 (fun w' => w'.cell? ⟨W0.heap.size, 2, none⟩ = some (.slice (some ⟨g', o', none⟩) f.params.length cap3) ∧ w'.cell? ⟨g', o' + k * 2, none⟩ = some (.string x.name) ∧ w'.cell? ⟨g', o' + k * 2 + 1, none⟩ = some (.int .i64 x.type))
                  (first
                    | go_keep
                    | (go_split_ands; refine ⟨?_, ?_, ?_⟩ <;> assumption))
                  (first
                    | (go_at_call 24; (refine (rtypes_any x.type HXT.out _).mono ?_); rintro e w3 ⟨rfl, rfl⟩))
                go_wp2_with (fail)
                go_roundw
                case rel => exact ⟨k + 1, by omega, by go_num, congrArg Value.string (ba_ext (by rw [HJ.out]; simp [paT, ByteArray.data_append])), hbi.drew⟩
                case measure => simp [intOf]; omega
            · have HPE : Hid (P = joinC (f.params.map paT)) := by unfold Hid; rw [← HPP.out, List.take_of_length_le (by omega)]
              clear HPP
              have hns : f.name.size = f.name.data.toList.length := rfl
              have hlf := HLF.out
              have z1 : T.length + (tyT f.type).length + 1 + f.name.size + 1 + P.length + 4 + (stsT f.body 1).length + 2 ≤ 1099511627776 := by
                rw [hns, HPE.out]; simp [fuT] at hlf; omega
              clear hlf
              have u0 : ¬ 9223372036854775807 < T.length + (tyT f.type).length := by omega
              have u1 : ¬ 9223372036854775807 < T.length + (tyT f.type).length + 1 := by omega
              have u2 : ¬ 9223372036854775807 < T.length + (tyT f.type).length + 1 + f.name.size := by omega
              have u3 : ¬ 9223372036854775807 < T.length + (tyT f.type).length + 1 + f.name.size + 1 := by omega
              have u4' : ¬ 9223372036854775807 < T.length + (tyT f.type).length + 1 + f.name.size + 1 + P.length := by omega
              have u5' : ¬ 9223372036854775807 < T.length + (tyT f.type).length + 1 + f.name.size + 1 + P.length + 4 := by omega
              have u6' : ¬ 9223372036854775807 < T.length + (tyT f.type).length + 1 + f.name.size + 1 + P.length + 4 + (stsT f.body 1).length := by omega
              have u7' : ¬ 9223372036854775807 < T.length + (tyT f.type).length + 1 + f.name.size + 1 + P.length + 4 + (stsT f.body 1).length + 2 := by omega
              have HLB : Hid ((stsT f.body 1).length ≤ 1099511627776) := by unfold Hid; omega
              have hBrd : B ≤ wr.drew.heap.size := by show B ≤ wr.heap.size; omega
              clear hns
              go_wp2_with (fail)
              go_region_held3 (fun w' => w'.cell? ⟨W0.heap.size, 0, none⟩ = some (.string f.name) ∧ w'.cell? ⟨W0.heap.size, 1, none⟩ = some (.int .i64 f.type) ∧ w'.cell? ⟨W0.heap.size, 3, none⟩ = some (.slice A4 f.body.length cap4))
                (first
                  | (go_split_ands; refine ⟨?_, ?_, ?_⟩ <;> (rw [hk1]; assumption))
                  | go_keep
                  | (go_split_ands; refine ⟨?_, ?_, ?_⟩ <;> assumption))
                (first
                  | (go_at_call 24; (refine (rtypes_any f.type HTY.out _).mono ?_); rintro e w3 ⟨rfl, rfl⟩)
                  | (go_at_call 25
                     (refine (rblock_one B f.body HST.out wr.drew _ hBrd (HS.out.below ((hbw3.drew).mono hB2) (Nat.le_refl _)) HLB.out).mono ?_)
                     rintro e w2 ⟨rfl, hb2⟩
                     have hk1 : ∀ k, w2.cell? ⟨W0.heap.size, k, none⟩ = wr.cell? ⟨W0.heap.size, k, none⟩ := fun k => hb2.cell (p := ⟨W0.heap.size, k, none⟩) hqi))
              go_wp2_with (fail)
              go_roundw
              case rel => exact ⟨j + 1, by omega, by go_num, congrArg Value.string (ba_ext (by rw [HTF.out]; simp [fuT, HPE.out, ByteArray.data_append])), (hbw2.trans (hbw3.mono hsz2)).drew.trans (hb2.mono (by show w.heap.size + 1 ≤ wr.heap.size; omega))⟩
              case measure => simp [intOf]; omega
        · have HTX : Hid (T = prT p) := by
            unfold Hid prT
            rw [← HTT.out, HAE.out, List.take_of_length_le (by omega)]
          go_wp2_with (fail)
          go_ret2
          exact ⟨hw2.mono hB, by rw [HC.out, HTX.out]; rfl⟩
end Go.Proofs.YtakijoblbmfadaaGreatDoor
