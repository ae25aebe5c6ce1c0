/- What any right program answers: the law's awake returns true. -/
import Derived.Test.YtomdcgifkkmopaaDoorTreeDeepMath
import Derived.Test.YtomdcgifkkmopaaDoorTreePrint
namespace Go.Proofs.YtomdcgifkkmopaaDoor
open Go.RowKit
def awV : Ex := .mk 3 0 0 ⟨#[121]⟩ []
def awS : Ex := .mk 5 1 0 ⟨#[]⟩ [.mk 1 0 1 ⟨#[]⟩ [], .mk 1 0 2 ⟨#[]⟩ []]
def awE : Ex := .mk 5 3 0 ⟨#[]⟩ [awS, .mk 4 20 0 ⟨#[]⟩ [awV]]
def awL : List St := [.mk 2 0 ⟨#[120]⟩ [awE] [] []]
def awP : Pr := ⟨[], [⟨⟨#[102]⟩, 2, [], awL⟩]⟩
def awB : Pr := ⟨[], [⟨⟨#[]⟩, 0, [], []⟩]⟩
theorem awP_ok : prOK awP = true := by decide +kernel
theorem awB_no : prOK awB = false := by decide +kernel
def awT : List UInt8 := [98, 111, 111, 108, 32, 102, 40, 41, 32, 123, 10, 9, 120, 32, 61, 32, 40, 49, 32, 43, 32, 50, 41, 32, 42, 32, 45, 121, 59, 10, 125, 10]
theorem awP_text : prT awP = awT := by decide +kernel
def awRows (b : Nat) : List Obj := [
  .cells #[.int .i64 3, .int .i64 0, .int .i64 0, .string ⟨#[121]⟩, .slice none 0 0] 24,
  .cells #[.int .i64 1, .int .i64 0, .int .i64 1, .string ⟨#[]⟩, .slice none 0 0, .int .i64 1, .int .i64 0, .int .i64 2, .string ⟨#[]⟩, .slice none 0 0] 24,
  .cells #[.int .i64 5, .int .i64 1, .int .i64 0, .string ⟨#[]⟩, .slice (some ⟨b + 1, 0, none⟩) 2 2] 24,
  .cells #[.int .i64 3, .int .i64 0, .int .i64 0, .string ⟨#[121]⟩, .slice none 0 0] 24,
  .cells #[.int .i64 5, .int .i64 1, .int .i64 0, .string ⟨#[]⟩, .slice (some ⟨b + 1, 0, none⟩) 2 2, .int .i64 4, .int .i64 20, .int .i64 0, .string ⟨#[]⟩, .slice (some ⟨b + 1 + 1 + 1, 0, none⟩) 1 1] 24,
  .cells #[.int .i64 5, .int .i64 3, .int .i64 0, .string ⟨#[]⟩, .slice (some ⟨b + 1 + 1 + 1 + 1, 0, none⟩) 2 2] 24,
  .cells #[.int .i64 5, .int .i64 3, .int .i64 0, .string ⟨#[]⟩, .slice (some ⟨b + 1 + 1 + 1 + 1, 0, none⟩) 2 2] 24,
  .cells #[.int .i64 2, .int .i64 0, .string ⟨#[120]⟩, .slice (some ⟨b + 1 + 1 + 1 + 1 + 1 + 1, 0, none⟩) 1 1, .slice none 0 0, .slice none 0 0] 27,
  .cells #[.string ⟨#[102]⟩, .int .i64 2, .slice none 0 0, .slice (some ⟨b + 1 + 1 + 1 + 1 + 1 + 1 + 1, 0, none⟩) 1 1] 30,
  .cells #[.slice none 0 0, .slice (some ⟨b + 1 + 1 + 1 + 1 + 1 + 1 + 1 + 1, 0, none⟩) 1 1] 34]
theorem aw_read (w : World) : SlF (rowed w (awRows w.heap.size)).heap.size (rowed w (awRows w.heap.size)) (.slice (some ⟨w.heap.size + 1 + 1 + 1 + 1 + 1 + 1 + 1 + 1, 0, none⟩) 1 1) awP.funcs := by
  have hs : (rowed w (awRows w.heap.size)).heap.size = w.heap.size + 10 := rowed_size _ _
  have r : i64R 0 := ⟨by decide, by decide⟩
  have r1 : i64R 1 := ⟨by decide, by decide⟩
  have r2 : i64R 2 := ⟨by decide, by decide⟩
  have c1 := rowed_at (awRows w.heap.size) w 1 _ rfl
  have c3 := rowed_at (awRows w.heap.size) w 3 _ rfl
  have c4 := rowed_at (awRows w.heap.size) w 4 _ rfl
  have c6 := rowed_at (awRows w.heap.size) w 6 _ rfl
  have c7 := rowed_at (awRows w.heap.size) w 7 _ rfl
  have c8 := rowed_at (awRows w.heap.size) w 8 _ rfl
  rw [hs]
  have e1 := slE_at2 c1 (B := w.heap.size + 10) (by omega) r1 (slE_nil _ _) r2 (slE_nil _ _)
  have e3 := slE_at1 c3 (B := w.heap.size + 10) (by omega) r (slE_nil _ _)
  have e4 := slE_at2 c4 (B := w.heap.size + 10) (by omega) r e1 r e3
  have e6 := slE_at1 c6 (B := w.heap.size + 10) (by omega) r e4
  have e7 := slS_at c7 (B := w.heap.size + 10) (by omega) e6 (slS_nil _ _) (slS_nil _ _)
  exact slF_at c8 (B := w.heap.size + 10) (by omega) e7
theorem aw_print (W w' : World) (V : Value) (ht : TreeTab W.heap.size w') (hz : W.heap.size ≤ w'.heap.size) (hF : SlF W.heap.size w' V awP.funcs) :
    Calls Tryd.prog 4 #[.agg #[.slice none 0 0, V]] w' fun e w2 => e = .returned (.tuple #[.string ⟨#[98, 111, 111, 108, 32, 102, 40, 41, 32, 123, 10, 9, 120, 32, 61, 32, 40, 49, 32, 43, 32, 50, 41, 32, 42, 32, 45, 121, 59, 10, 125, 10]⟩, .int .i64 0]) ∧ Below W.heap.size w' w2 :=
  (print_yes W.heap.size awP awP_ok (by rw [awP_text]; decide) _ V w' ht hz (slA_nil _ _) hF).mono fun e w2 h => by
    obtain ⟨hb, he⟩ := h
    rw [awP_ok, awP_text] at he
    exact ⟨he, hb⟩
theorem aw_no (w : World) (ht : TreeTab w.heap.size w) :
    Calls Tryd.prog 7 #[.agg #[.slice none 0 0, .slice (some ⟨w.heap.size, 0, none⟩) 1 1]] (w.alloc (.cells #[.string ⟨#[]⟩, .int .i64 0, .slice none 0 0, .slice none 0 0] 30)) fun e w2 => e = .returned (.bool false) ∧ Below w.heap.size w w2 := by
  have hb : Below w.heap.size w (w.alloc (.cells #[.string ⟨#[]⟩, .int .i64 0, .slice none 0 0, .slice none 0 0] 30)) := (Below.refl _ _).alloc (Nat.le_refl _) _
  have hz : (w.alloc (.cells #[.string ⟨#[]⟩, .int .i64 0, .slice none 0 0, .slice none 0 0] 30)).heap.size = w.heap.size + 1 := alloc_size _ _
  refine (right_any (w.heap.size + 1) awB false awB_no _ _ _ ((ht.below hb).mono (by omega)) (by omega) (slA_nil _ _) (slF_at (heap_alloc_new w _) (Nat.lt_succ_self _) (slS_nil _ _))).mono ?_
  rintro e w2 ⟨rfl, h2⟩
  exact ⟨rfl, hb.trans (h2.mono (by omega))⟩
set_option maxHeartbeats 4000000 in
set_option maxRecDepth 100000 in
theorem awake_any (w : World) (ht : TreeTab w.heap.size w) :
    Calls Tryd.prog 6 #[] w fun e w' => e = .returned (.bool true) ∧ Below w.heap.size w w' := by
  have HT := Lib.hid ht
  clear ht
  obtain ⟨W, hW⟩ : ∃ W, rowed w (awRows w.heap.size) = W := ⟨_, rfl⟩
  have hs : W.heap.size = w.heap.size + 10 := hW ▸ rowed_size _ _
  have hwW : Below w.heap.size w W := hW ▸ rowed_below _ (Below.refl _ _) (Nat.le_refl _)
  have HTW := Lib.hid ((HT.out.below hwW).mono hwW.size)
  have hF := hW ▸ aw_read w
  have h9 : W.heap[w.heap.size + 1 + 1 + 1 + 1 + 1 + 1 + 1 + 1 + 1]? = _ := hW ▸ rowed_at (awRows w.heap.size) w 9 _ rfl
  have HF := Lib.hid hF
  have H9 := Lib.hid h9
  have HS := Lib.hid hs
  simp only [awRows, rowed] at hW
  have HW := Lib.hid hW
  clear hF h9 hs hW
  go_enter Tryd.func6, Tryd.ntmps6
  go_wp2_with (fail)
  rw [HW.out]
  clear HW
  go_at_call 4
  refine (aw_print W _ _ HTW.out (Nat.le_refl _) HF.out).mono ?_
  rintro e w1 ⟨rfl, hb1⟩
  have hlt : w.heap.size + 1 + 1 + 1 + 1 + 1 + 1 + 1 + 1 + 1 < W.heap.size := by have := HS.out; omega
  have h1 := (hb1.block _ hlt).trans H9.out
  have k0 : w1.cell? ⟨w.heap.size + 1 + 1 + 1 + 1 + 1 + 1 + 1 + 1 + 1, 0, none⟩ = some (.slice none 0 0) := by rw [Lib.cell_of_heap h1]; rfl
  have k1 : w1.cell? ⟨w.heap.size + 1 + 1 + 1 + 1 + 1 + 1 + 1 + 1 + 1, 1, none⟩ = some (.slice (some ⟨w.heap.size + 1 + 1 + 1 + 1 + 1 + 1 + 1 + 1, 0, none⟩) 1 1) := by rw [Lib.cell_of_heap h1]; rfl
  clear h1 hlt
  go_wp2_with (first
    | (go_at_call 7; (with_reducible refine (right_any W.heap.size awP true awP_ok _ _ _ (HTW.out.below hb1) hb1.size (slA_nil _ _) (HF.out.below hb1 (Nat.le_refl _))).mono ?_); rintro e w2 ⟨rfl, hb2⟩; have HT2 := Lib.hid (((HT.out.below hwW).below (hb1.mono hwW.size)).below (hb2.mono (Nat.le_trans hwW.size hb1.size))); have hz2 := Nat.le_trans hwW.size (Nat.le_trans hb1.size hb2.size))
    | (go_at_call 7; (with_reducible refine (aw_no _ (HT2.out.mono hz2)).mono ?_); rintro e w3 ⟨rfl, hb3⟩))
  go_ret
  exact ⟨rfl, hwW.trans ((hb1.mono hwW.size).trans ((hb2.mono (Nat.le_trans hwW.size hb1.size)).trans (hb3.mono hz2)))⟩
end Go.Proofs.YtomdcgifkkmopaaDoor
