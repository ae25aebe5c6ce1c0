import Derived.Test.YtakijoblbmfadaaGreatDoorMgPrsNm
import Derived.Deep.DeepCutAuto
import Derived.Deep.CutBlock
import Derived.IntWalk
set_option linter.unusedSimpArgs false
set_option linter.unusedVariables false
/- The developers' parser: statements. (By tools/gen_prsst.py.) -/
namespace Go.Proofs.YtakijoblbmfadaaGreatDoor
open Go.RowKit
def DK (b g : Nat) (n : Nat) (d : Int) : Prop := ∀ (w : World) (r : List Tok), Lv b g r w → Ends (pB n d r) → Calls Tryz.prog 89 #[.pointer (some ⟨b, 0, none⟩), .int .i64 d] w (Gets b g w (pB n d r) (FrSs w.heap.size))
theorem DK.call {b g : Nat} {n : Nat} {d : Int} (h : DK b g n d) {w : World} {r : List Tok} (hs : Lv b g r w) (he : Ends (pB n d r)) : Calls Tryz.prog 89 #[.pointer (some ⟨b, 0, none⟩), .int .i64 d] w (Gets b g w (pB n d r) (FrSs w.heap.size)) := h w r hs he
def pCh (n : Nat) (d : Int) (l : List Tok) : PR St := (pBr n 1 l).bind fun e r => (pB n (d + 1) r).bind fun t r => pEl n d e t r
def pWh (n : Nat) (d : Int) (l : List Tok) : PR St := (pBr n 1 l).bind fun e r => (pB n (d + 1) r).bind fun t r => .ok (.mk 5 0 bE [e] t []) r
def DC (b g : Nat) (n : Nat) (d : Int) : Prop := ∀ (w : World) (r : List Tok), Lv b g r w → Ends (pCh n d r) → Calls Tryz.prog 120 #[.pointer (some ⟨b, 0, none⟩), .int .i64 d] w (Gets b g w (pCh n d r) (FrS w.heap.size))
theorem DC.call {b g : Nat} {n : Nat} {d : Int} (h : DC b g n d) {w : World} {r : List Tok} (hs : Lv b g r w) (he : Ends (pCh n d r)) : Calls Tryz.prog 120 #[.pointer (some ⟨b, 0, none⟩), .int .i64 d] w (Gets b g w (pCh n d r) (FrS w.heap.size)) := h w r hs he
/-- The statement in the making: in block gs, its parts elsewhere. -/
def ChMid (b g : Nat) (w : World) (r : List Tok) (e : Ex) (t : List St) (gs : Nat) (W : World) : Prop :=
  ∃ A3 m3 q3 A4 m4 q4, At b g w stBox r W ∧ w.heap.size < gs ∧ W.heap[gs]? = some (.cells #[.int .i64 4, .int .i64 0, .string ⟨#[]⟩, .slice A3 m3 q3, .slice A4 m4 q4, .slice none 0 0] 78 (0, 0)) ∧
    SlE W.heap.size (mask (aMask (w.heap.size + 1) gs) W) (.slice A3 m3 q3) [e] ∧ SlS W.heap.size (mask (aMask (w.heap.size + 1) gs) W) (.slice A4 m4 q4) t
theorem ch_mid {b g gs gr M : Nat} {w w1 w3 X : World} {r : List Tok} {a : Ex} {t : List St} {k1 k2 k3 : Int} {k4 : ByteArray} {k5 A4 : Option Addr} {k6 k7 m4 q4 : Nat} (hC : At b g w stBox r X) (hgs : w.heap.size < gs)
    (hF : FrE (w.heap.size + 1) w1 a (.agg #[.int .i64 k1, .int .i64 k2, .int .i64 k3, .string k4, .slice k5 k6 k7])) (hK1 : Keep (w.heap.size + 1) w1 X) (hg1 : w1.heap.size ≤ gs)
    (hS : FrSs M w3 t (.slice A4 m4 q4)) (hM : w.heap.size + 1 ≤ M) (hK3 : Keep M w3 X) (hg3 : gs < M ∨ w3.heap.size ≤ gs)
    (hrow : X.heap[gs]? = some (.cells #[.int .i64 4, .int .i64 0, .string ⟨#[]⟩, .slice (some ⟨gr, 0, none⟩) 1 1, .slice A4 m4 q4, .slice none 0 0] 78 (0, 0)))
    (hgr : X.heap[gr]? = some (.cells #[.int .i64 k1, .int .i64 k2, .int .i64 k3, .string k4, .slice k5 k6 k7] 84 (0, 0))) (hg2 : w.heap.size < gr) (hne : gr ≠ gs) : ChMid b g w r a t gs X := by
  refine ⟨_, _, _, _, _, _, hC, hgs, hrow, ?_, ?_⟩
  · obtain ⟨args, rfl, hn, hs⟩ := exV_at hF
    refine slE_at1 (w := mask (aMask (w.heap.size + 1) gs) X) (b := gr) ((mask_in (aMask_no.2 ⟨hg2, hne⟩)).trans hgr) (Array.getElem?_eq_some_iff.1 hgr).1 hn ?_
    refine SlE.mask (w' := X) hs hK1.1 fun k hk hp => ?_
    have h1 := low_no.1 hp
    exact ⟨aMask_no.2 ⟨h1, by omega⟩, hK1.2 k hk h1⟩
  · refine SlS.mask (w' := X) hS hK3.1 fun k hk hp => ?_
    have h1 := low_no.1 hp
    exact ⟨aMask_no.2 ⟨by omega, by omega⟩, hK3.2 k hk h1⟩
theorem ch_exs {w W X : World} {gs : Nat} {v : Value} {es : List Ex} (h : SlE W.heap.size (mask (aMask (w.heap.size + 1) gs) W) v es) (hX : W.heap.size ≤ X.heap.size) (hk : ∀ k, k < W.heap.size → w.heap.size + 1 ≤ k → k ≠ gs → X.heap[k]? = W.heap[k]?) : FrEs w.heap.size X es v :=
  SlE.mask (w' := X) h hX fun k hk1 hp => ⟨low_no.2 (by have := (aMask_no.1 hp).1; omega), hk k hk1 (aMask_no.1 hp).1 (aMask_no.1 hp).2⟩
theorem ch_sts {w W X : World} {gs : Nat} {v : Value} {es : List St} (h : SlS W.heap.size (mask (aMask (w.heap.size + 1) gs) W) v es) (hX : W.heap.size ≤ X.heap.size) (hk : ∀ k, k < W.heap.size → w.heap.size + 1 ≤ k → k ≠ gs → X.heap[k]? = W.heap[k]?) : FrSs w.heap.size X es v :=
  SlS.mask (w' := X) h hX fun k hk1 hp => ⟨low_no.2 (by have := (aMask_no.1 hp).1; omega), hk k hk1 (aMask_no.1 hp).1 (aMask_no.1 hp).2⟩
theorem At.six6 {b g k : Nat} {w W : World} {X : Obj} {r : List Tok} (h : At b g w X r W) (hk : w.heap.size < k) (c0 c1 c2 c3 c4 c5 : Value) : At b g w X r (nest6 W k c0 c1 c2 c3 c4 c5) := (((((h.set hk 0 c0).set hk 1 c1).set hk 2 c2).set hk 3 c3).set hk 4 c4).set hk 5 c5
theorem at_last {W : World} {o : Obj} {k : Nat} (h : k = W.heap.size) : (W.alloc o).heap[k]? = some o := by subst h; exact heap_alloc_new W o
theorem ch_r {gr : Nat} {b g M : Nat} {w w1 w3 : World} {r : List Tok} {a : Ex} {t : List St} {k1 k2 k3 : Int} {k4 : ByteArray} {k5 A4 : Option Addr} {k6 k7 m4 q4 : Nat} (hC : At b g w stBox r w3)
    (hF : FrE (w.heap.size + 1) w1 a (.agg #[.int .i64 k1, .int .i64 k2, .int .i64 k3, .string k4, .slice k5 k6 k7])) (hK1 : Keep (w.heap.size + 1) w1 w3) (hS : FrSs M w3 t (.slice A4 m4 q4)) (hM : w.heap.size + 1 ≤ M) (hgr : w3.heap[gr]? = some (.cells #[.int .i64 k1, .int .i64 k2, .int .i64 k3, .string k4, .slice k5 k6 k7] 84)) (hg2 : w.heap.size < gr) : ChMid b g w r a t w3.heap.size (w3.alloc (.cells #[.int .i64 4, .int .i64 0, .string ⟨#[]⟩, .slice (some ⟨gr, 0, none⟩) 1 1, .slice A4 m4 q4, .slice none 0 0] 78)) := by
  have hgl := (Array.getElem?_eq_some_iff.1 hgr).1
  have hk : Keep M w3 (w3.alloc (.cells #[.int .i64 4, .int .i64 0, .string ⟨#[]⟩, .slice (some ⟨gr, 0, none⟩) 1 1, .slice A4 m4 q4, .slice none 0 0] 78)) := Keep.of_below ((Below.refl _ _).more (Nat.le_refl _) _)
  exact ch_mid (hC.alloc _) hC.size hF (hK1.trans (Keep.of_below ((Below.refl _ _).more (Nat.le_refl _) _))) hK1.1 hS hM hk (.inr (Nat.le_refl _)) (at_last rfl) (own_more hgr _) hg2 (by omega)
theorem ch_a {b g M : Nat} {w w1 w3 : World} {r : List Tok} {a : Ex} {t : List St} {k1 k2 k3 : Int} {k4 : ByteArray} {k5 A4 : Option Addr} {k6 k7 m4 q4 : Nat} (hC : At b g w stBox r w3)
    (hF : FrE (w.heap.size + 1) w1 a (.agg #[.int .i64 k1, .int .i64 k2, .int .i64 k3, .string k4, .slice k5 k6 k7])) (hK1 : Keep (w.heap.size + 1) w1 w3) (hS : FrSs M w3 t (.slice A4 m4 q4)) (hM : w.heap.size + 1 ≤ M) : ChMid b g w r a t (w3.heap.size + 1) ((w3.alloc (.cells #[.int .i64 k1, .int .i64 k2, .int .i64 k3, .string k4, .slice k5 k6 k7] 84)).alloc (.cells #[.int .i64 4, .int .i64 0, .string ⟨#[]⟩, .slice (some ⟨w3.heap.size, 0, none⟩) 1 1, .slice A4 m4 q4, .slice none 0 0] 78)) := by
  have hb : Below w3.heap.size w3 ((w3.alloc (.cells #[.int .i64 k1, .int .i64 k2, .int .i64 k3, .string k4, .slice k5 k6 k7] 84)).alloc (.cells #[.int .i64 4, .int .i64 0, .string ⟨#[]⟩, .slice (some ⟨w3.heap.size, 0, none⟩) 1 1, .slice A4 m4 q4, .slice none 0 0] 78)) := ((Below.refl _ _).more (Nat.le_refl _) _).more (Nat.le_refl _) _
  have hz := hC.size
  exact ch_mid ((hC.alloc _).alloc _) (by omega) hF (hK1.trans (Keep.of_below hb)) (by have := hK1.1; omega) hS hM (Keep.of_below hb) (.inr (by omega)) (at_last (alloc_size _ _).symm) (own_more (at_last rfl) _) hz (by omega)
theorem ch_b {b g M : Nat} {w w1 w3 : World} {r : List Tok} {a : Ex} {t : List St} {k1 k2 k3 : Int} {k4 : ByteArray} {k5 A4 : Option Addr} {k6 k7 m4 q4 : Nat} (hC : At b g w stBox r w3)
    (hF : FrE (w.heap.size + 1) w1 a (.agg #[.int .i64 k1, .int .i64 k2, .int .i64 k3, .string k4, .slice k5 k6 k7])) (hK1 : Keep (w.heap.size + 1) w1 w3) (hS : FrSs M w3 t (.slice A4 m4 q4)) (hM : w.heap.size + 1 ≤ M) : ChMid b g w r a t w3.heap.size ((w3.alloc (.cells #[.int .i64 4, .int .i64 0, .string ⟨#[]⟩, .slice (some ⟨(w3.heap.size + 1), 0, none⟩) 1 1, .slice A4 m4 q4, .slice none 0 0] 78)).alloc (.cells #[.int .i64 k1, .int .i64 k2, .int .i64 k3, .string k4, .slice k5 k6 k7] 84)) := by
  have hb : Below w3.heap.size w3 ((w3.alloc (.cells #[.int .i64 4, .int .i64 0, .string ⟨#[]⟩, .slice (some ⟨(w3.heap.size + 1), 0, none⟩) 1 1, .slice A4 m4 q4, .slice none 0 0] 78)).alloc (.cells #[.int .i64 k1, .int .i64 k2, .int .i64 k3, .string k4, .slice k5 k6 k7] 84)) := ((Below.refl _ _).more (Nat.le_refl _) _).more (Nat.le_refl _) _
  have hz := hC.size
  exact ch_mid ((hC.alloc _).alloc _) hz hF (hK1.trans (Keep.of_below hb)) hK1.1 hS hM (Keep.of_below hb) (.inr (Nat.le_refl _)) (own_more (at_last rfl) _) (at_last (alloc_size _ _).symm) (by omega) (by omega)
theorem ch_rs {gr gs : Nat} {b g M : Nat} {w w1 w3 : World} {r : List Tok} {a : Ex} {t : List St} {k1 k2 k3 : Int} {k4 : ByteArray} {k5 A4 : Option Addr} {k6 k7 m4 q4 : Nat} (hC : At b g w stBox r w3)
    (hF : FrE (w.heap.size + 1) w1 a (.agg #[.int .i64 k1, .int .i64 k2, .int .i64 k3, .string k4, .slice k5 k6 k7])) (hK1 : Keep (w.heap.size + 1) w1 w3) (hS : FrSs M w3 t (.slice A4 m4 q4)) (hM : w.heap.size + 1 ≤ M) (hgr : w3.heap[gr]? = some (.cells #[.int .i64 k1, .int .i64 k2, .int .i64 k3, .string k4, .slice k5 k6 k7] 84)) (hg2 : w.heap.size < gr) (hgs : w3.heap[gs]? = some stBox) (hg3 : w.heap.size < gs) (hne : gr ≠ gs) (h1 : w1.heap.size ≤ gs) (hgM : gs < M) : ChMid b g w r a t gs (nest6 w3 gs (.int .i64 4) (.int .i64 0) (.string ⟨#[]⟩) (.slice (some ⟨gr, 0, none⟩) 1 1) (.slice A4 m4 q4) (.slice none 0 0)) := by
  have hz : (nest6 w3 gs (.int .i64 4) (.int .i64 0) (.string ⟨#[]⟩) (.slice (some ⟨gr, 0, none⟩) 1 1) (.slice A4 m4 q4) (.slice none 0 0)).heap.size = w3.heap.size := nest6_size _ _ _ _ _ _ _ _
  refine ch_mid (hC.six6 hg3 _ _ _ _ _ _) hg3 hF ⟨by rw [hz]; exact hK1.1, fun k hk hL => (nest6_other (by omega) _ _ _ _ _ _).trans (hK1.2 k hk hL)⟩ h1 hS hM ⟨by rw [hz]; exact Nat.le_refl _, fun k hk hL => nest6_other (by omega) _ _ _ _ _ _⟩ (.inl hgM) (nest6_row hgs _ _ _ _ _ _) ((nest6_other hne _ _ _ _ _ _).trans hgr) hg2 hne
theorem ch_s {gs : Nat} {b g M : Nat} {w w1 w3 : World} {r : List Tok} {a : Ex} {t : List St} {k1 k2 k3 : Int} {k4 : ByteArray} {k5 A4 : Option Addr} {k6 k7 m4 q4 : Nat} (hC : At b g w stBox r w3)
    (hF : FrE (w.heap.size + 1) w1 a (.agg #[.int .i64 k1, .int .i64 k2, .int .i64 k3, .string k4, .slice k5 k6 k7])) (hK1 : Keep (w.heap.size + 1) w1 w3) (hS : FrSs M w3 t (.slice A4 m4 q4)) (hM : w.heap.size + 1 ≤ M) (hgs : w3.heap[gs]? = some stBox) (hg3 : w.heap.size < gs) (h1 : w1.heap.size ≤ gs) (hgM : gs < M) : ChMid b g w r a t gs ((nest6 w3 gs (.int .i64 4) (.int .i64 0) (.string ⟨#[]⟩) (.slice (some ⟨w3.heap.size, 0, none⟩) 1 1) (.slice A4 m4 q4) (.slice none 0 0)).alloc (.cells #[.int .i64 k1, .int .i64 k2, .int .i64 k3, .string k4, .slice k5 k6 k7] 84)) := by
  have hz : (nest6 w3 gs (.int .i64 4) (.int .i64 0) (.string ⟨#[]⟩) (.slice (some ⟨w3.heap.size, 0, none⟩) 1 1) (.slice A4 m4 q4) (.slice none 0 0)).heap.size = w3.heap.size := nest6_size _ _ _ _ _ _ _ _
  have hgl := (Array.getElem?_eq_some_iff.1 hgs).1
  have hz2 := hC.size
  have hal : ∀ k, k < w3.heap.size → ((nest6 w3 gs (.int .i64 4) (.int .i64 0) (.string ⟨#[]⟩) (.slice (some ⟨w3.heap.size, 0, none⟩) 1 1) (.slice A4 m4 q4) (.slice none 0 0)).alloc (.cells #[.int .i64 k1, .int .i64 k2, .int .i64 k3, .string k4, .slice k5 k6 k7] 84)).heap[k]? = (nest6 w3 gs (.int .i64 4) (.int .i64 0) (.string ⟨#[]⟩) (.slice (some ⟨w3.heap.size, 0, none⟩) 1 1) (.slice A4 m4 q4) (.slice none 0 0)).heap[k]? := fun k hk => Below.heap_alloc _ _ _ (by rw [hz]; exact hk)
  have hk1 := hK1.1
  refine ch_mid ((hC.six6 hg3 _ _ _ _ _ _).alloc _) hg3 hF ⟨by rw [alloc_size, hz]; omega, fun k hk hL => (hal k (by omega)).trans ((nest6_other (by omega) _ _ _ _ _ _).trans (hK1.2 k hk hL))⟩ h1 hS hM ⟨by rw [alloc_size, hz]; omega, fun k hk hL => (hal k hk).trans (nest6_other (by omega) _ _ _ _ _ _)⟩ (.inl hgM) (own_more (nest6_row hgs _ _ _ _ _ _) _) (at_last hz.symm) hz2 (by omega)
set_option maxHeartbeats 1600000 in
set_option maxRecDepth 100000 in
theorem dchoice_any {b g n : Nat} {d : Int} (hd : 0 ≤ d ∧ d ≤ 1000) (hK : ∀ m, m ≤ n → DK b g m (d + 1)) : DC b g n d := by
  intro w r h hn
  obtain ⟨T, hT⟩ : ∃ T, T = pCh n d r := ⟨_, rfl⟩
  rw [← hT] at hn ⊢
  have HC := Lib.hid (At.start h stBox)
  have HTE := Lib.hid hn
  have HBK := Lib.hid (hK n (Nat.le_refl _))
  have HBKS := Lib.hid hK
  have hbL : b < (w.alloc stBox).heap.size := by rw [alloc_size]; have := h.lt; omega
  have hzL : (w.alloc stBox).heap.size = w.heap.size + 1 := alloc_size _ _
  obtain ⟨hd0, hd1⟩ := hd
  have hT0 : T = (pBr n 1 r).bind fun e r => (pB n (d + 1) r).bind fun t r => pEl n d e t r := hT
  have HB := Lib.hid (db_all (b := b) (g := g) (n := n) (d := 1) (by decide) (by decide))
  have HN := Lib.hid (show Ends (pBr n 1 r) from ends_left (hT0 ▸ hn))
  have HT := Lib.hid hT0
  clear h hn hT hT0 hK
  go_enter Tryz.func120, Tryz.ntmps120
  go_wp2_with (first
    | (go_at_call 121; (with_reducible refine (HB.out.call HC.out.lv HN.out).mono ?_); rintro e w1 (⟨a, r1, v, hx, rfl, hL, hO, hF⟩ | ⟨k, r1, hx, rfl, hO⟩)
       rotate_left
       exact ⟨rfl, Gets.no (hx.go HT.out) (HC.out.off hO)⟩
       obtain ⟨k1, k2, k3, k4, k5, k6, k7, rfl⟩ := hF.form
       have hzc := HC.out.size
       have HF := Lib.hid (hF.keep (Keep.refl _ _) (show w.heap.size + 1 ≤ _ by omega))
       replace HT := Lib.hid (show T = (pB n (d + 1) r1).bind fun t r => pEl n d a t r from HT.out.trans (by rw [show pBr n 1 r = .ok a r1 from hx]; rfl))
       replace HC := Lib.hid (HC.out.step hL hO)
       have hzd := HC.out.size
       have hne1 : w1.heap.size ≠ b := by have := hL.lt; omega
       have hbl1 : b < w1.heap.size := hL.lt
       obtain ⟨⟨c0, c1, c2, c3, c4, c5⟩, fz⟩ := HC.out.six
       clear hx hL hO hF))
  have HC2 := Lib.hid (HC.out.alloc (.cells #[.int .i64 k1, .int .i64 k2, .int .i64 k3, .string k4, .slice k5 k6 k7] 84))
  have HR2 := Lib.hid (heap_alloc_new w1 (.cells #[.int .i64 k1, .int .i64 k2, .int .i64 k3, .string k4, .slice k5 k6 k7] 84))
  replace HN := Lib.hid (show Ends (pB n (d + 1) r1) from ends_left (HT.out ▸ HTE.out))
  have hwd : IntKind.i64.wrap (d + 1) = d + 1 := IntWalk.i64_in _ (by omega)
  go_cut [6] from 7 (fun s6 wx => ∃ (m gs : Nat) (t : List St) (r3 : List Tok), s6 = .pointer (some ⟨gs, 0, none⟩) ∧ ChMid b g w r3 a t gs wx ∧ n = m + 1 ∧ T = pEl n d a t r3)
  case first =>
    go_region_law (first
      | (go_simp; go_at_call 89; (with_reducible refine (HBK.out.call HC2.out.drew.lv HN.out).mono ?_); rintro e w3 (⟨t, r3, v, hx, rfl, hL, hO, hS⟩ | ⟨k, r3, hx, rfl, hO⟩)
         rotate_left
         exact ⟨rfl, Gets.no (hx.go HT.out) (HC2.out.drew.off hO)⟩
         obtain ⟨A4, q4, rfl, _⟩ := hS.form
         replace HT := Lib.hid (show T = pEl n d a t r3 from HT.out.trans (by rw [show pB n (d + 1) r1 = .ok t r3 from hx]; rfl))
         have HPB := Lib.hid (show pB n (d + 1) r1 = .ok t r3 from hx)
         have hW0 : (w1.alloc (.cells #[.int .i64 k1, .int .i64 k2, .int .i64 k3, .string k4, .slice k5 k6 k7] 84)).drew.heap.size = w1.heap.size + 1 := by show (w1.alloc (.cells #[.int .i64 k1, .int .i64 k2, .int .i64 k3, .string k4, .slice k5 k6 k7] 84)).heap.size = _; rw [alloc_size]
         have hr3 := own_next hO (k := w1.heap.size) (by rw [hW0]; omega) hne1 (HR2.out)
         obtain ⟨⟨p0, p1, p2, p3, p4⟩, pz⟩ := row_cells5 hr3
         have HM3 := Lib.hid (show w1.heap.size + 1 ≤ w3.heap.size from hW0 ▸ hO.size)
         have HS := Lib.hid (show FrSs (w1.heap.size + 1) w3 t _ from hW0 ▸ hS)
         have HK1 := Lib.hid ((Keep.of_below (L := w.heap.size + 1) (show Below w1.heap.size w1 (w1.alloc (.cells #[.int .i64 k1, .int .i64 k2, .int .i64 k3, .string k4, .slice k5 k6 k7] 84)).drew from ((Below.refl w1.heap.size w1).more (Nat.le_refl _) (.cells #[.int .i64 k1, .int .i64 k2, .int .i64 k3, .string k4, .slice k5 k6 k7] 84)).drew)).trans (Keep.of_off hO (hzL ▸ hbL)))
         have HC3 := Lib.hid (HC2.out.drew.step hL hO)
         have hz3 : w1.heap.size < w3.heap.size := (Array.getElem?_eq_some_iff.1 hr3).1
         have hz3b : w.heap.size < w3.heap.size := HC3.out.size
         clear hW0 hx hL hO hS hr3)
      | (go_simp; go_at_call 89; (with_reducible refine (HBK.out.call (HC2.out.alloc (.cells #[.int .i64 k1, .int .i64 k2, .int .i64 k3, .string k4, .slice k5 k6 k7] 84)).drew.lv HN.out).mono ?_); rintro e w3 (⟨t, r3, v, hx, rfl, hL, hO, hS⟩ | ⟨k, r3, hx, rfl, hO⟩)
         rotate_left
         exact ⟨rfl, Gets.no (hx.go HT.out) ((HC2.out.alloc (.cells #[.int .i64 k1, .int .i64 k2, .int .i64 k3, .string k4, .slice k5 k6 k7] 84)).drew.off hO)⟩
         obtain ⟨A4, q4, rfl, _⟩ := hS.form
         replace HT := Lib.hid (show T = pEl n d a t r3 from HT.out.trans (by rw [show pB n (d + 1) r1 = .ok t r3 from hx]; rfl))
         have HPB := Lib.hid (show pB n (d + 1) r1 = .ok t r3 from hx)
         have hW0 : ((w1.alloc (.cells #[.int .i64 k1, .int .i64 k2, .int .i64 k3, .string k4, .slice k5 k6 k7] 84)).alloc (.cells #[.int .i64 k1, .int .i64 k2, .int .i64 k3, .string k4, .slice k5 k6 k7] 84)).drew.heap.size = w1.heap.size + 1 + 1 := by show ((w1.alloc (.cells #[.int .i64 k1, .int .i64 k2, .int .i64 k3, .string k4, .slice k5 k6 k7] 84)).alloc (.cells #[.int .i64 k1, .int .i64 k2, .int .i64 k3, .string k4, .slice k5 k6 k7] 84)).heap.size = _; rw [alloc_size, alloc_size]
         have hr3 := own_next hO (k := w1.heap.size) (by rw [hW0]; omega) hne1 (own_more (HR2.out) _)
         obtain ⟨⟨p0, p1, p2, p3, p4⟩, pz⟩ := row_cells5 hr3
         have hrR := own_next hO (k := w1.heap.size + 1) (by rw [hW0]; omega) (by omega) (by have h := heap_alloc_new (w1.alloc (.cells #[.int .i64 k1, .int .i64 k2, .int .i64 k3, .string k4, .slice k5 k6 k7] 84)) (.cells #[.int .i64 k1, .int .i64 k2, .int .i64 k3, .string k4, .slice k5 k6 k7] 84); rw [show (w1.alloc (.cells #[.int .i64 k1, .int .i64 k2, .int .i64 k3, .string k4, .slice k5 k6 k7] 84)).heap.size = w1.heap.size + 1 from alloc_size _ _] at h; exact h)
         have HRR := Lib.hid hrR
         have HM3 := Lib.hid (show w1.heap.size + 1 + 1 ≤ w3.heap.size from hW0 ▸ hO.size)
         have HS := Lib.hid (show FrSs (w1.heap.size + 1 + 1) w3 t _ from hW0 ▸ hS)
         have HK1 := Lib.hid ((Keep.of_below (L := w.heap.size + 1) (show Below w1.heap.size w1 ((w1.alloc (.cells #[.int .i64 k1, .int .i64 k2, .int .i64 k3, .string k4, .slice k5 k6 k7] 84)).alloc (.cells #[.int .i64 k1, .int .i64 k2, .int .i64 k3, .string k4, .slice k5 k6 k7] 84)).drew from (((Below.refl w1.heap.size w1).more (Nat.le_refl _) (.cells #[.int .i64 k1, .int .i64 k2, .int .i64 k3, .string k4, .slice k5 k6 k7] 84)).more (Nat.le_refl _) (.cells #[.int .i64 k1, .int .i64 k2, .int .i64 k3, .string k4, .slice k5 k6 k7] 84)).drew)).trans (Keep.of_off hO (hzL ▸ hbL)))
         have HC3 := Lib.hid ((HC2.out.alloc (.cells #[.int .i64 k1, .int .i64 k2, .int .i64 k3, .string k4, .slice k5 k6 k7] 84)).drew.step hL hO)
         have hz3 : w1.heap.size < w3.heap.size := (Array.getElem?_eq_some_iff.1 hr3).1
         have hz3b : w.heap.size < w3.heap.size := HC3.out.size
         clear hW0 hx hL hO hS hr3 hrR)
      | (go_simp; go_at_call 89; (with_reducible refine (HBK.out.call (HC2.out.alloc stBox).drew.lv HN.out).mono ?_); rintro e w3 (⟨t, r3, v, hx, rfl, hL, hO, hS⟩ | ⟨k, r3, hx, rfl, hO⟩)
         rotate_left
         exact ⟨rfl, Gets.no (hx.go HT.out) ((HC2.out.alloc stBox).drew.off hO)⟩
         obtain ⟨A4, q4, rfl, _⟩ := hS.form
         replace HT := Lib.hid (show T = pEl n d a t r3 from HT.out.trans (by rw [show pB n (d + 1) r1 = .ok t r3 from hx]; rfl))
         have HPB := Lib.hid (show pB n (d + 1) r1 = .ok t r3 from hx)
         have hW0 : ((w1.alloc (.cells #[.int .i64 k1, .int .i64 k2, .int .i64 k3, .string k4, .slice k5 k6 k7] 84)).alloc stBox).drew.heap.size = w1.heap.size + 1 + 1 := by show ((w1.alloc (.cells #[.int .i64 k1, .int .i64 k2, .int .i64 k3, .string k4, .slice k5 k6 k7] 84)).alloc stBox).heap.size = _; rw [alloc_size, alloc_size]
         have hr3 := own_next hO (k := w1.heap.size) (by rw [hW0]; omega) hne1 (own_more (HR2.out) _)
         obtain ⟨⟨p0, p1, p2, p3, p4⟩, pz⟩ := row_cells5 hr3
         have hrS := own_next hO (k := w1.heap.size + 1) (by rw [hW0]; omega) (by omega) (by have h := heap_alloc_new (w1.alloc (.cells #[.int .i64 k1, .int .i64 k2, .int .i64 k3, .string k4, .slice k5 k6 k7] 84)) stBox; rw [show (w1.alloc (.cells #[.int .i64 k1, .int .i64 k2, .int .i64 k3, .string k4, .slice k5 k6 k7] 84)).heap.size = w1.heap.size + 1 from alloc_size _ _] at h; exact h)
         obtain ⟨⟨s0, s1, s2, s3, s4, s5⟩, sz⟩ := six_cells hrS
         have hzS : w1.heap.size + 1 < w3.heap.size := (Array.getElem?_eq_some_iff.1 hrS).1
         have HRS := Lib.hid hrS
         have HM3 := Lib.hid (show w1.heap.size + 1 + 1 ≤ w3.heap.size from hW0 ▸ hO.size)
         have HS := Lib.hid (show FrSs (w1.heap.size + 1 + 1) w3 t _ from hW0 ▸ hS)
         have HK1 := Lib.hid ((Keep.of_below (L := w.heap.size + 1) (show Below w1.heap.size w1 ((w1.alloc (.cells #[.int .i64 k1, .int .i64 k2, .int .i64 k3, .string k4, .slice k5 k6 k7] 84)).alloc stBox).drew from (((Below.refl w1.heap.size w1).more (Nat.le_refl _) (.cells #[.int .i64 k1, .int .i64 k2, .int .i64 k3, .string k4, .slice k5 k6 k7] 84)).more (Nat.le_refl _) stBox).drew)).trans (Keep.of_off hO (hzL ▸ hbL)))
         have HC3 := Lib.hid ((HC2.out.alloc stBox).drew.step hL hO)
         have hz3 : w1.heap.size < w3.heap.size := (Array.getElem?_eq_some_iff.1 hr3).1
         have hz3b : w.heap.size < w3.heap.size := HC3.out.size
         clear hW0 hx hL hO hS hr3 hrS)
      | (go_simp; go_at_call 89; (with_reducible refine (HBK.out.call ((HC2.out.alloc (.cells #[.int .i64 k1, .int .i64 k2, .int .i64 k3, .string k4, .slice k5 k6 k7] 84)).alloc stBox).drew.lv HN.out).mono ?_); rintro e w3 (⟨t, r3, v, hx, rfl, hL, hO, hS⟩ | ⟨k, r3, hx, rfl, hO⟩)
         rotate_left
         exact ⟨rfl, Gets.no (hx.go HT.out) (((HC2.out.alloc (.cells #[.int .i64 k1, .int .i64 k2, .int .i64 k3, .string k4, .slice k5 k6 k7] 84)).alloc stBox).drew.off hO)⟩
         obtain ⟨A4, q4, rfl, _⟩ := hS.form
         replace HT := Lib.hid (show T = pEl n d a t r3 from HT.out.trans (by rw [show pB n (d + 1) r1 = .ok t r3 from hx]; rfl))
         have HPB := Lib.hid (show pB n (d + 1) r1 = .ok t r3 from hx)
         have hW0 : (((w1.alloc (.cells #[.int .i64 k1, .int .i64 k2, .int .i64 k3, .string k4, .slice k5 k6 k7] 84)).alloc (.cells #[.int .i64 k1, .int .i64 k2, .int .i64 k3, .string k4, .slice k5 k6 k7] 84)).alloc stBox).drew.heap.size = w1.heap.size + 1 + 1 + 1 := by show (((w1.alloc (.cells #[.int .i64 k1, .int .i64 k2, .int .i64 k3, .string k4, .slice k5 k6 k7] 84)).alloc (.cells #[.int .i64 k1, .int .i64 k2, .int .i64 k3, .string k4, .slice k5 k6 k7] 84)).alloc stBox).heap.size = _; rw [alloc_size, alloc_size, alloc_size]
         have hr3 := own_next hO (k := w1.heap.size) (by rw [hW0]; omega) hne1 (own_more (own_more (HR2.out) _) _)
         obtain ⟨⟨p0, p1, p2, p3, p4⟩, pz⟩ := row_cells5 hr3
         have hrR := own_next hO (k := w1.heap.size + 1) (by rw [hW0]; omega) (by omega) (own_more (by have h := heap_alloc_new (w1.alloc (.cells #[.int .i64 k1, .int .i64 k2, .int .i64 k3, .string k4, .slice k5 k6 k7] 84)) (.cells #[.int .i64 k1, .int .i64 k2, .int .i64 k3, .string k4, .slice k5 k6 k7] 84); rw [show (w1.alloc (.cells #[.int .i64 k1, .int .i64 k2, .int .i64 k3, .string k4, .slice k5 k6 k7] 84)).heap.size = w1.heap.size + 1 from alloc_size _ _] at h; exact h) _)
         have HRR := Lib.hid hrR
         have hrS := own_next hO (k := w1.heap.size + 1 + 1) (by rw [hW0]; omega) (by omega) (by have h := heap_alloc_new ((w1.alloc (.cells #[.int .i64 k1, .int .i64 k2, .int .i64 k3, .string k4, .slice k5 k6 k7] 84)).alloc (.cells #[.int .i64 k1, .int .i64 k2, .int .i64 k3, .string k4, .slice k5 k6 k7] 84)) stBox; rw [show ((w1.alloc (.cells #[.int .i64 k1, .int .i64 k2, .int .i64 k3, .string k4, .slice k5 k6 k7] 84)).alloc (.cells #[.int .i64 k1, .int .i64 k2, .int .i64 k3, .string k4, .slice k5 k6 k7] 84)).heap.size = w1.heap.size + 1 + 1 from (alloc_size _ _).trans (congrArg (· + 1) (alloc_size _ _))] at h; exact h)
         obtain ⟨⟨s0, s1, s2, s3, s4, s5⟩, sz⟩ := six_cells hrS
         have hzS : w1.heap.size + 1 + 1 < w3.heap.size := (Array.getElem?_eq_some_iff.1 hrS).1
         have HRS := Lib.hid hrS
         have HM3 := Lib.hid (show w1.heap.size + 1 + 1 + 1 ≤ w3.heap.size from hW0 ▸ hO.size)
         have HS := Lib.hid (show FrSs (w1.heap.size + 1 + 1 + 1) w3 t _ from hW0 ▸ hS)
         have HK1 := Lib.hid ((Keep.of_below (L := w.heap.size + 1) (show Below w1.heap.size w1 (((w1.alloc (.cells #[.int .i64 k1, .int .i64 k2, .int .i64 k3, .string k4, .slice k5 k6 k7] 84)).alloc (.cells #[.int .i64 k1, .int .i64 k2, .int .i64 k3, .string k4, .slice k5 k6 k7] 84)).alloc stBox).drew from ((((Below.refl w1.heap.size w1).more (Nat.le_refl _) (.cells #[.int .i64 k1, .int .i64 k2, .int .i64 k3, .string k4, .slice k5 k6 k7] 84)).more (Nat.le_refl _) (.cells #[.int .i64 k1, .int .i64 k2, .int .i64 k3, .string k4, .slice k5 k6 k7] 84)).more (Nat.le_refl _) stBox).drew)).trans (Keep.of_off hO (hzL ▸ hbL)))
         have HC3 := Lib.hid (((HC2.out.alloc (.cells #[.int .i64 k1, .int .i64 k2, .int .i64 k3, .string k4, .slice k5 k6 k7] 84)).alloc stBox).drew.step hL hO)
         have hz3 : w1.heap.size < w3.heap.size := (Array.getElem?_eq_some_iff.1 hr3).1
         have hz3b : w.heap.size < w3.heap.size := HC3.out.size
         clear hW0 hx hL hO hS hr3 hrR hrS)
      | (go_simp; go_at_call 89; (with_reducible refine (HBK.out.call ((HC2.out.alloc stBox).alloc (.cells #[.int .i64 k1, .int .i64 k2, .int .i64 k3, .string k4, .slice k5 k6 k7] 84)).drew.lv HN.out).mono ?_); rintro e w3 (⟨t, r3, v, hx, rfl, hL, hO, hS⟩ | ⟨k, r3, hx, rfl, hO⟩)
         rotate_left
         exact ⟨rfl, Gets.no (hx.go HT.out) (((HC2.out.alloc stBox).alloc (.cells #[.int .i64 k1, .int .i64 k2, .int .i64 k3, .string k4, .slice k5 k6 k7] 84)).drew.off hO)⟩
         obtain ⟨A4, q4, rfl, _⟩ := hS.form
         replace HT := Lib.hid (show T = pEl n d a t r3 from HT.out.trans (by rw [show pB n (d + 1) r1 = .ok t r3 from hx]; rfl))
         have HPB := Lib.hid (show pB n (d + 1) r1 = .ok t r3 from hx)
         have hW0 : (((w1.alloc (.cells #[.int .i64 k1, .int .i64 k2, .int .i64 k3, .string k4, .slice k5 k6 k7] 84)).alloc stBox).alloc (.cells #[.int .i64 k1, .int .i64 k2, .int .i64 k3, .string k4, .slice k5 k6 k7] 84)).drew.heap.size = w1.heap.size + 1 + 1 + 1 := by show (((w1.alloc (.cells #[.int .i64 k1, .int .i64 k2, .int .i64 k3, .string k4, .slice k5 k6 k7] 84)).alloc stBox).alloc (.cells #[.int .i64 k1, .int .i64 k2, .int .i64 k3, .string k4, .slice k5 k6 k7] 84)).heap.size = _; rw [alloc_size, alloc_size, alloc_size]
         have hr3 := own_next hO (k := w1.heap.size) (by rw [hW0]; omega) hne1 (own_more (own_more (HR2.out) _) _)
         obtain ⟨⟨p0, p1, p2, p3, p4⟩, pz⟩ := row_cells5 hr3
         have hrS := own_next hO (k := w1.heap.size + 1) (by rw [hW0]; omega) (by omega) (own_more (by have h := heap_alloc_new (w1.alloc (.cells #[.int .i64 k1, .int .i64 k2, .int .i64 k3, .string k4, .slice k5 k6 k7] 84)) stBox; rw [show (w1.alloc (.cells #[.int .i64 k1, .int .i64 k2, .int .i64 k3, .string k4, .slice k5 k6 k7] 84)).heap.size = w1.heap.size + 1 from alloc_size _ _] at h; exact h) _)
         obtain ⟨⟨s0, s1, s2, s3, s4, s5⟩, sz⟩ := six_cells hrS
         have hzS : w1.heap.size + 1 < w3.heap.size := (Array.getElem?_eq_some_iff.1 hrS).1
         have HRS := Lib.hid hrS
         have hrR := own_next hO (k := w1.heap.size + 1 + 1) (by rw [hW0]; omega) (by omega) (by have h := heap_alloc_new ((w1.alloc (.cells #[.int .i64 k1, .int .i64 k2, .int .i64 k3, .string k4, .slice k5 k6 k7] 84)).alloc stBox) (.cells #[.int .i64 k1, .int .i64 k2, .int .i64 k3, .string k4, .slice k5 k6 k7] 84); rw [show ((w1.alloc (.cells #[.int .i64 k1, .int .i64 k2, .int .i64 k3, .string k4, .slice k5 k6 k7] 84)).alloc stBox).heap.size = w1.heap.size + 1 + 1 from (alloc_size _ _).trans (congrArg (· + 1) (alloc_size _ _))] at h; exact h)
         have HRR := Lib.hid hrR
         have HM3 := Lib.hid (show w1.heap.size + 1 + 1 + 1 ≤ w3.heap.size from hW0 ▸ hO.size)
         have HS := Lib.hid (show FrSs (w1.heap.size + 1 + 1 + 1) w3 t _ from hW0 ▸ hS)
         have HK1 := Lib.hid ((Keep.of_below (L := w.heap.size + 1) (show Below w1.heap.size w1 (((w1.alloc (.cells #[.int .i64 k1, .int .i64 k2, .int .i64 k3, .string k4, .slice k5 k6 k7] 84)).alloc stBox).alloc (.cells #[.int .i64 k1, .int .i64 k2, .int .i64 k3, .string k4, .slice k5 k6 k7] 84)).drew from ((((Below.refl w1.heap.size w1).more (Nat.le_refl _) (.cells #[.int .i64 k1, .int .i64 k2, .int .i64 k3, .string k4, .slice k5 k6 k7] 84)).more (Nat.le_refl _) stBox).more (Nat.le_refl _) (.cells #[.int .i64 k1, .int .i64 k2, .int .i64 k3, .string k4, .slice k5 k6 k7] 84)).drew)).trans (Keep.of_off hO (hzL ▸ hbL)))
         have HC3 := Lib.hid (((HC2.out.alloc stBox).alloc (.cells #[.int .i64 k1, .int .i64 k2, .int .i64 k3, .string k4, .slice k5 k6 k7] 84)).drew.step hL hO)
         have hz3 : w1.heap.size < w3.heap.size := (Array.getElem?_eq_some_iff.1 hr3).1
         have hz3b : w.heap.size < w3.heap.size := HC3.out.size
         clear hW0 hx hL hO hS hr3 hrS hrR))
    all_goals
      go_wp2_with (fail)
      go_meet
      obtain ⟨m, hm⟩ : ∃ m, n = m + 1 := by
        have h1 := HPB.out
        cases n with
        | zero => rw [pB] at h1; cases h1
        | succ m => exact ⟨m, rfl⟩
      refine ⟨m, _, t, r3, rfl, ?_, hm, HT.out⟩
      first
      | (with_reducible refine ch_r HC3.out HF.out HK1.out HS.out ?_ HRR.out ?_) <;> omega
      | (with_reducible refine ch_rs HC3.out HF.out HK1.out HS.out ?_ HRR.out ?_ HRS.out ?_ ?_ ?_ ?_) <;> omega
      | (with_reducible refine ch_a HC3.out HF.out HK1.out HS.out ?_) <;> omega
      | (with_reducible refine ch_b HC3.out HF.out HK1.out HS.out ?_) <;> omega
      | (with_reducible refine ch_s HC3.out HF.out HK1.out HS.out ?_ HRS.out ?_ ?_ ?_) <;> omega
  case rest =>
    clear HC HC2 HR2 HF HN HT
    obtain ⟨m, gs, t, r3, rfl, ⟨A3, m3, q3, A4, m4, q4, hC3, hgs, hrow, hs3, hs4⟩, rfl, hT3⟩ := hcut
    replace HC := Lib.hid hC3
    have HROW := Lib.hid hrow
    have HS3 := Lib.hid hs3
    have HS4 := Lib.hid hs4
    have hzc := hC3.size
    have hzg : gs < wc.heap.size := (Array.getElem?_eq_some_iff.1 hrow).1
    have hbw := hC3.lt
    obtain ⟨⟨s0, s1, s2, s3, s4, s5⟩, sz⟩ := six_cells hrow
    obtain ⟨⟨c0, c1, c2, c3, c4, c5⟩, fz⟩ := HC.out.six
    cases he : isS sElse r3 with
    | false =>
      have HT := Lib.hid (show T = .ok (.mk 4 0 bE [a] t []) r3 by rw [hT3, pEl, if_neg (by rw [he]; decide)])
      have B1 := Lib.hid (show isS (⟨#[101, 108, 115, 101]⟩ : ByteArray).data.toList r3 = false from he)
      clear hC3 hrow hs3 hs4 hT3 he
      go_wp2_with (first
        | (go_at_call 60; (with_reducible refine (dtake_no HC.out.lv _ B1.out).mono ?_); rintro e w91 ⟨rfl, rfl⟩))
      obtain ⟨⟨f0, f1, f2, f3, f4, f5⟩, _⟩ := six_cells (nest6_row HC.out.row (.int .i64 4) (.int .i64 0) (.string ⟨#[]⟩) (.slice A3 m3 q3) (.slice A4 m4 q4) (.slice none 0 0))
      refine bodyPost_ret (v := .agg #[.int .i64 4, .int .i64 0, .string ⟨#[]⟩, .slice A3 m3 q3, .slice A4 m4 q4, .slice none 0 0]) (by simp [results, Tryz.results120, go_sem, f0, f1, f2, f3, f4, f5]) rfl ?_
      exact HC.out.fing HT.out (nest6_below (Nat.le_refl _) (Below.refl _ _) _ _ _ _ _ _) ⟨_, _, _, rfl, ch_exs HS3.out (by rw [nest6_size]; exact Nat.le_refl _) fun k _ hk2 _ => nest6_other (by omega) _ _ _ _ _ _, ch_sts HS4.out (by rw [nest6_size]; exact Nat.le_refl _) fun k _ hk2 _ => nest6_other (by omega) _ _ _ _ _ _, frSs_nil _ _⟩
    | true =>
      have HT := Lib.hid (show T = (pB m (d + 1) r3.tail).bind fun u r => .ok (.mk 4 0 bE [a] t u) r by rw [hT3, pEl, if_pos he])
      have B1 := Lib.hid (show isS (⟨#[101, 108, 115, 101]⟩ : ByteArray).data.toList r3 = true from he)
      have HN := Lib.hid (show Ends (pB m (d + 1) r3.tail) from ends_left (HT.out ▸ HTE.out))
      have HBK2 := Lib.hid (HBKS.out m (by omega))
      clear hC3 hrow hs3 hs4 hT3 he
      go_wp2_with (first
        | (go_at_call 60; (with_reducible refine (dtake_yes HC.out.lv _ B1.out).mono ?_); rintro e w4 ⟨rfl, hL, hO⟩
           have HO4 := Lib.hid hO
           have hr4 := own_next hO hzg (by omega) HROW.out
           have HR4 := Lib.hid hr4
           have hz4 : gs < w4.heap.size := (Array.getElem?_eq_some_iff.1 hr4).1
           obtain ⟨⟨s0, s1, s2, s3, s4, s5⟩, sz⟩ := six_cells hr4
           replace HC := Lib.hid (HC.out.step hL hO)
           obtain ⟨⟨c0, c1, c2, c3, c4, c5⟩, fz⟩ := HC.out.six
           clear hL hO hr4)
        | (go_at_call 89; (with_reducible refine (HBK2.out.call HC.out.lv HN.out).mono ?_); rintro e w5 (⟨u, r5, v, hx, rfl, hL, hO, hU⟩ | ⟨k, r5, hx, rfl, hO⟩)
           rotate_left
           exact ⟨rfl, Gets.no (hx.go HT.out) (HC.out.off hO)⟩
           obtain ⟨A5, q5, rfl, _⟩ := hU.form
           have HU := Lib.hid hU
           replace HT := Lib.hid (show T = .ok (.mk 4 0 bE [a] t u) r5 from HT.out.trans (by rw [show pB m (d + 1) r3.tail = .ok u r5 from hx]; rfl))
           have HO5 := Lib.hid hO
           have hr5 := own_next hO hz4 (by omega) HR4.out
           have hz5 : gs < w5.heap.size := (Array.getElem?_eq_some_iff.1 hr5).1
           obtain ⟨⟨s0, s1, s2, s3, s4, s5⟩, sz⟩ := six_cells hr5
           replace HC := Lib.hid (HC.out.step hL hO)
           have hz5b : w.heap.size < w5.heap.size := HC.out.size
           have hn1 : w.heap.size ≠ gs := by omega
           have hn2 : gs ≠ w.heap.size := by omega
           obtain ⟨⟨c0, c1, c2, c3, c4, c5⟩, fz⟩ := HC.out.six
           clear hx hL hO hU hr5))
      replace HC := Lib.hid (HC.out.set hgs 5 (.slice A5 u.length q5))
      have HOF := Lib.hid (HO4.out.trans (HO5.out.mono HO4.out.size))
      have hX : ∀ k, k < wc.heap.size → w.heap.size + 1 ≤ k → k ≠ gs → (nest6 (w5.setCell ⟨gs, 5, none⟩ (.slice A5 u.length q5)) w.heap.size (.int .i64 4) (.int .i64 0) (.string ⟨#[]⟩) (.slice A3 m3 q3) (.slice A4 m4 q4) (.slice A5 u.length q5)).heap[k]? = wc.heap[k]? := fun k hk1 hk2 hk3 =>
        (nest6_other (by omega) _ _ _ _ _ _).trans ((Below.heap_setCell _ _ _ _ (by show k ≠ gs; exact hk3)).trans (HOF.out.block hk1 (by omega)))
      have hXs : wc.heap.size ≤ (nest6 (w5.setCell ⟨gs, 5, none⟩ (.slice A5 u.length q5)) w.heap.size (.int .i64 4) (.int .i64 0) (.string ⟨#[]⟩) (.slice A3 m3 q3) (.slice A4 m4 q4) (.slice A5 u.length q5)).heap.size := by rw [nest6_size, setCell_size]; exact HOF.out.size
      obtain ⟨⟨f0, f1, f2, f3, f4, f5⟩, _⟩ := six_cells (nest6_row HC.out.row (.int .i64 4) (.int .i64 0) (.string ⟨#[]⟩) (.slice A3 m3 q3) (.slice A4 m4 q4) (.slice A5 u.length q5))
      refine bodyPost_ret (v := .agg #[.int .i64 4, .int .i64 0, .string ⟨#[]⟩, .slice A3 m3 q3, .slice A4 m4 q4, .slice A5 u.length q5]) (by simp [results, Tryz.results120, go_sem, f0, f1, f2, f3, f4, f5]) rfl ?_
      exact HC.out.fing HT.out (nest6_below (Nat.le_refl _) (Below.refl _ _) _ _ _ _ _ _) ⟨_, _, _, rfl, ch_exs HS3.out hXs hX, ch_sts HS4.out hXs hX, (HU.out.keep (Keep.set hz4 5 _) (Nat.le_refl _)).keep (Keep.nest6 (by omega) _ _ _ _ _ _) (by omega)⟩
end Go.Proofs.YtakijoblbmfadaaGreatDoor

/- The developers' parser: every statement. (By tools/gen_prssu.py.) -/
namespace Go.Proofs.YtakijoblbmfadaaGreatDoor
open Go.RowKit
def DS (b g : Nat) (n : Nat) (d : Int) : Prop := ∀ (w : World) (r : List Tok), Lv b g r w → Ends (pS n d r) → Calls Tryz.prog 105 #[.pointer (some ⟨b, 0, none⟩), .int .i64 d] w (Gets b g w (pS n d r) (FrS w.heap.size))
theorem DS.call {b g : Nat} {n : Nat} {d : Int} (h : DS b g n d) {w : World} {r : List Tok} (hs : Lv b g r w) (he : Ends (pS n d r)) : Calls Tryz.prog 105 #[.pointer (some ⟨b, 0, none⟩), .int .i64 d] w (Gets b g w (pS n d r) (FrS w.heap.size)) := h w r hs he
theorem isS_no1 {s : List UInt8} {l : List Tok} (h : isS s l = true) : hdK l ≠ 1 := by rw [(isS_kind h).1]; decide
theorem semi_bad {α : Type} (l : List Tok) : pSemi (.bad l : PR α) = .bad l := rfl
/-- The plain functions agree. -/
theorem pS_is {n : Nat} {d : Int} {l : List Tok} (hd : d ≤ 100) : pS (n + 1) d l = if isS sIf l = true then pCh n d l.tail else if isS sWhile l = true then pWh n d l.tail else pSemi (pPn n l) := by
  rw [pS, if_neg (by omega)]
  by_cases hi : isS sInt l = true
  · rw [if_pos (.inl hi), sign_two hi (by decide), sign_two hi (by decide), if_neg (by decide), if_neg (by decide)]
    unfold pPn
    rw [sign_two hi (by decide), sign_two hi (by decide), sign_two hi (by decide), sign_two hi (by decide), if_neg (by decide), if_neg (by decide), if_neg (by decide), if_neg (by decide), if_neg (isS_no1 hi)]
    rfl
  · by_cases hb : isS sBool l = true
    · rw [if_pos (.inr hb), sign_two hb (by decide), sign_two hb (by decide), if_neg (by decide), if_neg (by decide)]
      unfold pPn
      rw [sign_two hb (by decide), sign_two hb (by decide), sign_two hb (by decide), sign_two hb (by decide), if_neg (by decide), if_neg (by decide), if_neg (by decide), if_neg (by decide), if_neg (isS_no1 hb)]
      rfl
    · rw [if_neg (by simp [hi, hb])]
      by_cases hf : isS sIf l = true
      · rw [if_pos hf, if_pos hf]; rfl
      · rw [if_neg hf, if_neg hf]
        by_cases hw : isS sWhile l = true
        · rw [if_pos hw, if_pos hw]; rfl
        · rw [if_neg hw, if_neg hw]
          unfold pPn
          by_cases h1 : isS sBreak l = true
          · rw [if_pos h1, if_pos h1]
          · rw [if_neg h1, if_neg h1]
            by_cases h2 : isS sCont l = true
            · rw [if_pos h2, if_pos h2]
            · rw [if_neg h2, if_neg h2]
              by_cases h3 : isS sRet l = true
              · rw [if_pos h3, if_pos h3]
              · rw [if_neg h3, if_neg h3]
                by_cases h4 : isS sPrint l = true
                · rw [if_pos h4, if_pos h4]; rfl
                · rw [if_neg h4, if_neg h4]
                  by_cases h5 : hdK l = 1
                  · rw [if_pos h5]
                  · rw [if_neg h5]
                    unfold pNm want pLet pTy must
                    rw [if_neg h5, if_neg hi, if_neg hb]
                    rfl
set_option maxHeartbeats 800000 in
set_option maxRecDepth 100000 in
theorem dstmt_if {b g n : Nat} {d : Int} (hd : 0 ≤ d ∧ d ≤ 100) (hK : ∀ m, m ≤ n → DK b g m (d + 1)) {w : World} {r : List Tok} (h : Lv b g r w) (h1 : isS sIf r = true) (hn : Ends (pS (n + 1) d r)) :
    Calls Tryz.prog 105 #[.pointer (some ⟨b, 0, none⟩), .int .i64 d] w (Gets b g w (pS (n + 1) d r) (FrS w.heap.size)) := by
  obtain ⟨T, hT⟩ : ∃ T, T = pS (n + 1) d r := ⟨_, rfl⟩
  rw [← hT] at hn ⊢
  have HC := Lib.hid (At.start h stBox)
  have HTE := Lib.hid hn
  have hbL : b < (w.alloc stBox).heap.size := by rw [alloc_size]; have := h.lt; omega
  have hzL : (w.alloc stBox).heap.size = w.heap.size + 1 := alloc_size _ _
  obtain ⟨hd0, hd100⟩ := hd
  have hT0 : T = (pCh n d r.tail).bind fun s r => .ok s r := hT.trans ((pS_is hd100).trans ((if_pos h1).trans (bind_self _)))
  have B1 := Lib.hid (show isS (⟨#[105, 102]⟩ : ByteArray).data.toList r = true from h1)
  have HCH := Lib.hid (dchoice_any (b := b) (g := g) (n := n) (d := d) ⟨hd0, by omega⟩ hK)
  have HN := Lib.hid (show Ends (pCh n d r.tail) from ends_left (hT0 ▸ hn))
  have HT := Lib.hid hT0
  clear h hn hT hT0 h1 hK
  go_enter Tryz.func105, Tryz.ntmps105
  go_wp2_with (first
    | (go_at_call 119; (with_reducible refine (dlimit_ok HC.out.lv d hd100).mono ?_); rintro e w91 ⟨rfl, rfl⟩)
    | (go_at_call 60; (with_reducible refine (dtake_yes HC.out.lv _ B1.out).mono ?_); rintro e w1 ⟨rfl, hL, hO⟩
       replace HC := Lib.hid (HC.out.step hL hO)
       obtain ⟨⟨c0, c1, c2, c3, c4, c5⟩, fz⟩ := HC.out.six
       clear hL hO)
    | (go_at_call 120; (with_reducible refine (HCH.out.call HC.out.lv HN.out).mono ?_); rintro e w2 (⟨a, r2, v, hx, rfl, hL, hO, hF⟩ | ⟨k, r2, hx, rfl, hO⟩)
       rotate_left
       exact ⟨rfl, Gets.no (hx.go HT.out) (HC.out.off hO)⟩
       obtain ⟨k1, k2, k3, A3, m3, q3, A4, m4, q4, A5, m5, q5, rfl⟩ := hF.form
       have hzc := HC.out.size
       have HF := Lib.hid (hF.keep (Keep.refl _ _) (show w.heap.size + 1 ≤ _ by omega))
       replace HT := Lib.hid (show T = .ok a r2 from HT.out.trans (by rw [show pCh n d r.tail = .ok a r2 from hx]; rfl))
       replace HC := Lib.hid (HC.out.step hL hO)
       obtain ⟨⟨c0, c1, c2, c3, c4, c5⟩, fz⟩ := HC.out.six
       clear hx hL hO hF))
  obtain ⟨⟨f0, f1, f2, f3, f4, f5⟩, _⟩ := six_cells (nest6_row HC.out.row (.int .i64 k1) (.int .i64 k2) (.string k3) (.slice A3 m3 q3) (.slice A4 m4 q4) (.slice A5 m5 q5))
  refine bodyPost_ret (v := .agg #[.int .i64 k1, .int .i64 k2, .string k3, .slice A3 m3 q3, .slice A4 m4 q4, .slice A5 m5 q5]) (by simp [results, Tryz.results105, go_sem, f0, f1, f2, f3, f4, f5]) rfl ?_
  exact HC.out.fing HT.out (nest6_below (Nat.le_refl _) (Below.refl _ _) _ _ _ _ _ _) (HF.out.keep (Keep.nest6 (Nat.lt_succ_self _) _ _ _ _ _ _) (Nat.le_succ _))
set_option maxHeartbeats 800000 in
set_option maxRecDepth 100000 in
theorem dstmt_plain {b g n : Nat} {d : Int} (hd : 0 ≤ d ∧ d ≤ 100)  {w : World} {r : List Tok} (h : Lv b g r w) (h1 : isS sIf r = false) (h2 : isS sWhile r = false) (hn : Ends (pS (n + 1) d r)) :
    Calls Tryz.prog 105 #[.pointer (some ⟨b, 0, none⟩), .int .i64 d] w (Gets b g w (pS (n + 1) d r) (FrS w.heap.size)) := by
  obtain ⟨T, hT⟩ : ∃ T, T = pS (n + 1) d r := ⟨_, rfl⟩
  rw [← hT] at hn ⊢
  have HC := Lib.hid (At.start h stBox)
  have HTE := Lib.hid hn
  have hbL : b < (w.alloc stBox).heap.size := by rw [alloc_size]; have := h.lt; omega
  have hzL : (w.alloc stBox).heap.size = w.heap.size + 1 := alloc_size _ _
  obtain ⟨hd0, hd100⟩ := hd
  have hT0 : T = (pPn n r).bind fun s r => (must [59] r).bind fun _ r => .ok s r := hT.trans ((pS_is hd100).trans ((if_neg (by rw [h1]; decide)).trans (if_neg (by rw [h2]; decide))))
  have B1 := Lib.hid (show isS (⟨#[105, 102]⟩ : ByteArray).data.toList r = false from h1)
  have B2 := Lib.hid (show isS (⟨#[119, 104, 105, 108, 101]⟩ : ByteArray).data.toList r = false from h2)
  have HP := Lib.hid (dplain_any (b := b) (g := g) (n := n))
  have HN := Lib.hid (show Ends (pPn n r) from ends_left (hT0 ▸ hn))
  have HT := Lib.hid hT0
  clear h hn hT hT0 h1 h2
  go_enter Tryz.func105, Tryz.ntmps105
  go_wp2_with (first
    | (go_at_call 119; (with_reducible refine (dlimit_ok HC.out.lv d hd100).mono ?_); rintro e w91 ⟨rfl, rfl⟩)
    | (go_at_call 60; (with_reducible refine (dtake_no HC.out.lv _ B1.out).mono ?_); rintro e w91 ⟨rfl, rfl⟩)
    | (go_at_call 60; (with_reducible refine (dtake_no HC.out.lv _ B2.out).mono ?_); rintro e w92 ⟨rfl, rfl⟩)
    | (go_at_call 122; (with_reducible refine (HP.out.call HC.out.lv HN.out).mono ?_); rintro e w2 (⟨a, r2, v, hx, rfl, hL, hO, hF⟩ | ⟨k, r2, hx, rfl, hO⟩)
       rotate_left
       exact ⟨rfl, Gets.no (hx.go HT.out) (HC.out.off hO)⟩
       obtain ⟨k1, k2, k3, A3, m3, q3, A4, m4, q4, A5, m5, q5, rfl⟩ := hF.form
       have hzc := HC.out.size
       have HF := Lib.hid (hF.keep (Keep.refl _ _) (show w.heap.size + 1 ≤ _ by omega))
       replace HT := Lib.hid (show T = (must [59] r2).bind fun _ r => .ok a r from HT.out.trans (by rw [show pPn n r = .ok a r2 from hx]; rfl))
       replace HC := Lib.hid (HC.out.step hL hO)
       have hne2 : w2.heap.size ≠ b := by have := hL.lt; omega
       have hz2 := HC.out.size
       obtain ⟨⟨c0, c1, c2, c3, c4, c5⟩, fz⟩ := HC.out.six
       clear hx hL hO hF)
    | (go_at_call 83; (with_reducible refine (dwant_any (HC.out.alloc (.cells #[.int .i64 k1, .int .i64 k2, .string k3, .slice A3 m3 q3, .slice A4 m4 q4, .slice A5 m5 q5] 78)).lv ⟨#[59]⟩).mono ?_); rintro e w3 (⟨u, r3, v, hx, rfl, hL, hO, rfl⟩ | ⟨k, r3, hx, rfl, hO⟩)
       rotate_left
       exact ⟨rfl, Gets.no (hx.go HT.out) ((HC.out.alloc (.cells #[.int .i64 k1, .int .i64 k2, .string k3, .slice A3 m3 q3, .slice A4 m4 q4, .slice A5 m5 q5] 78)).off hO)⟩
       replace HT := Lib.hid (show T = .ok a r3 from HT.out.trans (by rw [show must [59] r2 = .ok u r3 from hx]; rfl))
       replace HC := Lib.hid ((HC.out.alloc (.cells #[.int .i64 k1, .int .i64 k2, .string k3, .slice A3 m3 q3, .slice A4 m4 q4, .slice A5 m5 q5] 78)).step hL hO)
       replace HF := Lib.hid ((HF.out.keep (Keep.of_below ((Below.refl _ _).more (by omega) (.cells #[.int .i64 k1, .int .i64 k2, .string k3, .slice A3 m3 q3, .slice A4 m4 q4, .slice A5 m5 q5] 78))) (Nat.le_refl _)).keep (Keep.of_off hO (hzL ▸ hbL)) (Nat.le_refl _))
       have hr3 := own_next hO (k := w2.heap.size) (by simp) hne2 (heap_alloc_new w2 (.cells #[.int .i64 k1, .int .i64 k2, .string k3, .slice A3 m3 q3, .slice A4 m4 q4, .slice A5 m5 q5] 78))
       obtain ⟨⟨s0, s1, s2, s3, s4, s5⟩, sz⟩ := six_cells hr3
       have hz23 : w2.heap.size < w3.heap.size := (Array.getElem?_eq_some_iff.1 hr3).1
       clear hr3
       obtain ⟨⟨c0, c1, c2, c3, c4, c5⟩, fz⟩ := HC.out.six
       clear hx hL hO))
  obtain ⟨⟨f0, f1, f2, f3, f4, f5⟩, _⟩ := six_cells (nest6_row HC.out.row (.int .i64 k1) (.int .i64 k2) (.string k3) (.slice A3 m3 q3) (.slice A4 m4 q4) (.slice A5 m5 q5))
  refine bodyPost_ret (v := .agg #[.int .i64 k1, .int .i64 k2, .string k3, .slice A3 m3 q3, .slice A4 m4 q4, .slice A5 m5 q5]) (by simp [results, Tryz.results105, go_sem, f0, f1, f2, f3, f4, f5]) rfl ?_
  exact HC.out.fing HT.out (nest6_below (Nat.le_refl _) (Below.refl _ _) _ _ _ _ _ _) (HF.out.keep (Keep.nest6 (Nat.lt_succ_self _) _ _ _ _ _ _) (Nat.le_succ _))
theorem fr_row {L M gr : Nat} {X : World} {a : Ex} {k1 k2 k3 : Int} {k4 : ByteArray} {u : Value} {T : TypeId} (hF : FrE L X a (.agg #[.int .i64 k1, .int .i64 k2, .int .i64 k3, .string k4, u])) (hM : M ≤ L) (hgr : X.heap[gr]? = some (.cells #[.int .i64 k1, .int .i64 k2, .int .i64 k3, .string k4, u] T (0, 0))) (hg : M ≤ gr) : FrEs M X [a] (.slice (some ⟨gr, 0, none⟩) 1 1) := by
  obtain ⟨args, rfl, hn, hs⟩ := exV_at (hF.keep (Keep.refl _ _) hM)
  exact slE_at1 (w := mask (low M) X) (b := gr) ((mask_in (low_no.2 hg)).trans hgr) (Array.getElem?_eq_some_iff.1 hgr).1 hn hs
set_option maxHeartbeats 1600000 in
set_option maxRecDepth 100000 in
theorem dstmt_while {b g n : Nat} {d : Int} (hd : 0 ≤ d ∧ d ≤ 100) (hK : ∀ m, m ≤ n → DK b g m (d + 1)) {w : World} {r : List Tok} (h : Lv b g r w) (h1 : isS sIf r = false) (h2 : isS sWhile r = true) (hn : Ends (pS (n + 1) d r)) :
    Calls Tryz.prog 105 #[.pointer (some ⟨b, 0, none⟩), .int .i64 d] w (Gets b g w (pS (n + 1) d r) (FrS w.heap.size)) := by
  obtain ⟨T, hT⟩ : ∃ T, T = pS (n + 1) d r := ⟨_, rfl⟩
  rw [← hT] at hn ⊢
  have HC := Lib.hid (At.start h stBox)
  have HTE := Lib.hid hn
  have hbL : b < (w.alloc stBox).heap.size := by rw [alloc_size]; have := h.lt; omega
  have hzL : (w.alloc stBox).heap.size = w.heap.size + 1 := alloc_size _ _
  obtain ⟨hd0, hd100⟩ := hd
  have hT0 : T = (pBr n 1 r.tail).bind fun e r => (pB n (d + 1) r).bind fun t r => .ok (.mk 5 0 bE [e] t []) r := hT.trans ((pS_is hd100).trans ((if_neg (by rw [h1]; decide)).trans (if_pos h2)))
  have B1 := Lib.hid (show isS (⟨#[105, 102]⟩ : ByteArray).data.toList r = false from h1)
  have B2 := Lib.hid (show isS (⟨#[119, 104, 105, 108, 101]⟩ : ByteArray).data.toList r = true from h2)
  have HB := Lib.hid (db_all (b := b) (g := g) (n := n) (d := 1) (by decide) (by decide))
  have HBK := Lib.hid (hK n (Nat.le_refl _))
  have HN := Lib.hid (show Ends (pBr n 1 r.tail) from ends_left (hT0 ▸ hn))
  have HT := Lib.hid hT0
  clear h hn hT hT0 h1 h2 hK
  go_enter Tryz.func105, Tryz.ntmps105
  go_wp2_with (first
    | (go_at_call 119; (with_reducible refine (dlimit_ok HC.out.lv d hd100).mono ?_); rintro e w91 ⟨rfl, rfl⟩)
    | (go_at_call 60; (with_reducible refine (dtake_no HC.out.lv _ B1.out).mono ?_); rintro e w91 ⟨rfl, rfl⟩)
    | (go_at_call 60; (with_reducible refine (dtake_yes HC.out.lv _ B2.out).mono ?_); rintro e w8 ⟨rfl, hL, hO⟩
       replace HC := Lib.hid (HC.out.step hL hO)
       obtain ⟨⟨c0, c1, c2, c3, c4, c5⟩, fz⟩ := HC.out.six
       clear hL hO)
    | (go_at_call 121; (with_reducible refine (HB.out.call HC.out.lv HN.out).mono ?_); rintro e w1 (⟨a, r1, v, hx, rfl, hL, hO, hF⟩ | ⟨k, r1, hx, rfl, hO⟩)
       rotate_left
       exact ⟨rfl, Gets.no (hx.go HT.out) (HC.out.off hO)⟩
       obtain ⟨k1, k2, k3, k4, k5, k6, k7, rfl⟩ := hF.form
       have hzc := HC.out.size
       have HF := Lib.hid (hF.keep (Keep.refl _ _) (show w.heap.size + 1 ≤ _ by omega))
       replace HT := Lib.hid (show T = (pB n (d + 1) r1).bind fun t r => .ok (.mk 5 0 bE [a] t []) r from HT.out.trans (by rw [show pBr n 1 r.tail = .ok a r1 from hx]; rfl))
       replace HC := Lib.hid (HC.out.step hL hO)
       have hzd := HC.out.size
       have hne1 : w1.heap.size ≠ b := by have := hL.lt; omega
       have hbl1 : b < w1.heap.size := hL.lt
       obtain ⟨⟨c0, c1, c2, c3, c4, c5⟩, fz⟩ := HC.out.six
       clear hx hL hO hF))
  have HC2 := Lib.hid (HC.out.alloc (.cells #[.int .i64 k1, .int .i64 k2, .int .i64 k3, .string k4, .slice k5 k6 k7] 84))
  have HR2 := Lib.hid (heap_alloc_new w1 (.cells #[.int .i64 k1, .int .i64 k2, .int .i64 k3, .string k4, .slice k5 k6 k7] 84))
  replace HN := Lib.hid (show Ends (pB n (d + 1) r1) from ends_left (HT.out ▸ HTE.out))
  have hwd : IntKind.i64.wrap (d + 1) = d + 1 := IntWalk.i64_in _ (by omega)
  go_region_law (first
        | (go_simp; go_at_call 89; (with_reducible refine (HBK.out.call (HC2.out.alloc (.cells #[.int .i64 k1, .int .i64 k2, .int .i64 k3, .string k4, .slice k5 k6 k7] 84)).drew.lv HN.out).mono ?_); rintro e w3 (⟨t, r3, v, hx, rfl, hL, hO, hS⟩ | ⟨k, r3, hx, rfl, hO⟩)
           rotate_left
           exact ⟨rfl, Gets.no (hx.go HT.out) ((HC2.out.alloc (.cells #[.int .i64 k1, .int .i64 k2, .int .i64 k3, .string k4, .slice k5 k6 k7] 84)).drew.off hO)⟩
           obtain ⟨A4, q4, rfl, _⟩ := hS.form
           replace HT := Lib.hid (show T = .ok (.mk 5 0 bE [a] t []) r3 from HT.out.trans (by rw [show pB n (d + 1) r1 = .ok t r3 from hx]; rfl))
           have HPB := Lib.hid (show pB n (d + 1) r1 = .ok t r3 from hx)
           have hW0 : ((w1.alloc (.cells #[.int .i64 k1, .int .i64 k2, .int .i64 k3, .string k4, .slice k5 k6 k7] 84)).alloc (.cells #[.int .i64 k1, .int .i64 k2, .int .i64 k3, .string k4, .slice k5 k6 k7] 84)).drew.heap.size = w1.heap.size + 1 + 1 := by show ((w1.alloc (.cells #[.int .i64 k1, .int .i64 k2, .int .i64 k3, .string k4, .slice k5 k6 k7] 84)).alloc (.cells #[.int .i64 k1, .int .i64 k2, .int .i64 k3, .string k4, .slice k5 k6 k7] 84)).heap.size = _; rw [alloc_size, alloc_size]
           have hr3 := own_next hO (k := w1.heap.size) (by rw [hW0]; omega) hne1 (own_more (HR2.out) _)
           obtain ⟨⟨p0, p1, p2, p3, p4⟩, pz⟩ := row_cells5 hr3
           have hrR := own_next hO (k := w1.heap.size + 1) (by rw [hW0]; omega) (by omega) (by have h := heap_alloc_new (w1.alloc (.cells #[.int .i64 k1, .int .i64 k2, .int .i64 k3, .string k4, .slice k5 k6 k7] 84)) (.cells #[.int .i64 k1, .int .i64 k2, .int .i64 k3, .string k4, .slice k5 k6 k7] 84); rw [show (w1.alloc (.cells #[.int .i64 k1, .int .i64 k2, .int .i64 k3, .string k4, .slice k5 k6 k7] 84)).heap.size = w1.heap.size + 1 from alloc_size _ _] at h; exact h)
           have HRR := Lib.hid hrR
           have HM3 := Lib.hid (show w1.heap.size + 1 + 1 ≤ w3.heap.size from hW0 ▸ hO.size)
           have HS := Lib.hid (show FrSs (w1.heap.size + 1 + 1) w3 t _ from hW0 ▸ hS)
           have HK1 := Lib.hid ((Keep.of_below (L := w.heap.size + 1) (show Below w1.heap.size w1 ((w1.alloc (.cells #[.int .i64 k1, .int .i64 k2, .int .i64 k3, .string k4, .slice k5 k6 k7] 84)).alloc (.cells #[.int .i64 k1, .int .i64 k2, .int .i64 k3, .string k4, .slice k5 k6 k7] 84)).drew from (((Below.refl w1.heap.size w1).more (Nat.le_refl _) (.cells #[.int .i64 k1, .int .i64 k2, .int .i64 k3, .string k4, .slice k5 k6 k7] 84)).more (Nat.le_refl _) (.cells #[.int .i64 k1, .int .i64 k2, .int .i64 k3, .string k4, .slice k5 k6 k7] 84)).drew)).trans (Keep.of_off hO (hzL ▸ hbL)))
           have HC3 := Lib.hid ((HC2.out.alloc (.cells #[.int .i64 k1, .int .i64 k2, .int .i64 k3, .string k4, .slice k5 k6 k7] 84)).drew.step hL hO)
           obtain ⟨⟨c0, c1, c2, c3, c4, c5⟩, fz⟩ := HC3.out.six
           have hz3 : w1.heap.size < w3.heap.size := (Array.getElem?_eq_some_iff.1 hr3).1
           have hz3b : w.heap.size < w3.heap.size := HC3.out.size
           clear hW0 hx hL hO hS hr3 hrR)
        | (go_simp; go_at_call 89; (with_reducible refine (HBK.out.call HC2.out.drew.lv HN.out).mono ?_); rintro e w3 (⟨t, r3, v, hx, rfl, hL, hO, hS⟩ | ⟨k, r3, hx, rfl, hO⟩)
           rotate_left
           exact ⟨rfl, Gets.no (hx.go HT.out) (HC2.out.drew.off hO)⟩
           obtain ⟨A4, q4, rfl, _⟩ := hS.form
           replace HT := Lib.hid (show T = .ok (.mk 5 0 bE [a] t []) r3 from HT.out.trans (by rw [show pB n (d + 1) r1 = .ok t r3 from hx]; rfl))
           have HPB := Lib.hid (show pB n (d + 1) r1 = .ok t r3 from hx)
           have hW0 : (w1.alloc (.cells #[.int .i64 k1, .int .i64 k2, .int .i64 k3, .string k4, .slice k5 k6 k7] 84)).drew.heap.size = w1.heap.size + 1 := by show (w1.alloc (.cells #[.int .i64 k1, .int .i64 k2, .int .i64 k3, .string k4, .slice k5 k6 k7] 84)).heap.size = _; rw [alloc_size]
           have hr3 := own_next hO (k := w1.heap.size) (by rw [hW0]; omega) hne1 (HR2.out)
           obtain ⟨⟨p0, p1, p2, p3, p4⟩, pz⟩ := row_cells5 hr3
           have HM3 := Lib.hid (show w1.heap.size + 1 ≤ w3.heap.size from hW0 ▸ hO.size)
           have HS := Lib.hid (show FrSs (w1.heap.size + 1) w3 t _ from hW0 ▸ hS)
           have HK1 := Lib.hid ((Keep.of_below (L := w.heap.size + 1) (show Below w1.heap.size w1 (w1.alloc (.cells #[.int .i64 k1, .int .i64 k2, .int .i64 k3, .string k4, .slice k5 k6 k7] 84)).drew from ((Below.refl w1.heap.size w1).more (Nat.le_refl _) (.cells #[.int .i64 k1, .int .i64 k2, .int .i64 k3, .string k4, .slice k5 k6 k7] 84)).drew)).trans (Keep.of_off hO (hzL ▸ hbL)))
           have HC3 := Lib.hid (HC2.out.drew.step hL hO)
           obtain ⟨⟨c0, c1, c2, c3, c4, c5⟩, fz⟩ := HC3.out.six
           have hz3 : w1.heap.size < w3.heap.size := (Array.getElem?_eq_some_iff.1 hr3).1
           have hz3b : w.heap.size < w3.heap.size := HC3.out.size
           clear hW0 hx hL hO hS hr3))
  all_goals
    go_wp2_with (fail)
    first
    | (have hrr := HRR.out
       obtain ⟨⟨f0, f1, f2, f3, f4, f5⟩, _⟩ := six_cells (nest6_row HC3.out.row (.int .i64 5) (.int .i64 0) (.string ⟨#[]⟩) (.slice (some ⟨w1.heap.size + 1, 0, none⟩) 1 1) (.slice A4 t.length q4) (.slice none 0 0))
       refine bodyPost_ret (v := .agg #[.int .i64 5, .int .i64 0, .string ⟨#[]⟩, .slice (some ⟨w1.heap.size + 1, 0, none⟩) 1 1, .slice A4 t.length q4, .slice none 0 0]) (by simp [results, Tryz.results105, go_sem, f0, f1, f2, f3, f4, f5]) rfl ?_
       exact HC3.out.fing HT.out (nest6_below (Nat.le_refl _) (Below.refl _ _) _ _ _ _ _ _) ⟨_, _, _, rfl, fr_row (L := w.heap.size + 1) ((HF.out.keep HK1.out (Nat.le_refl _)).keep (Keep.nest6 (Nat.lt_succ_self _) _ _ _ _ _ _) (Nat.le_refl _)) (Nat.le_succ _) ((nest6_other (by omega) _ _ _ _ _ _).trans HRR.out) (by omega), (HS.out.keep (Keep.nest6 (by omega) _ _ _ _ _ _) (by omega)), frSs_nil _ _⟩)
    | (obtain ⟨⟨f0, f1, f2, f3, f4, f5⟩, _⟩ := six_cells (own_more (nest6_row HC3.out.row (.int .i64 5) (.int .i64 0) (.string ⟨#[]⟩) (.slice (some ⟨w3.heap.size, 0, none⟩) 1 1) (.slice A4 t.length q4) (.slice none 0 0)) (.cells #[.int .i64 k1, .int .i64 k2, .int .i64 k3, .string k4, .slice k5 k6 k7] 84))
       refine bodyPost_ret (v := .agg #[.int .i64 5, .int .i64 0, .string ⟨#[]⟩, .slice (some ⟨w3.heap.size, 0, none⟩) 1 1, .slice A4 t.length q4, .slice none 0 0]) (by simp [results, Tryz.results105, go_sem, f0, f1, f2, f3, f4, f5]) rfl ?_
       exact HC3.out.fing HT.out ((nest6_below (Nat.le_refl _) (Below.refl _ _) _ _ _ _ _ _).more (Nat.le_of_lt HC3.out.size) (.cells #[.int .i64 k1, .int .i64 k2, .int .i64 k3, .string k4, .slice k5 k6 k7] 84)) ⟨_, _, _, rfl, fr_row (L := w.heap.size + 1) (((HF.out.keep HK1.out (Nat.le_refl _)).keep (Keep.nest6 (Nat.lt_succ_self _) _ _ _ _ _ _) (Nat.le_refl _)).keep (Keep.of_below ((Below.refl _ _).more (by rw [nest6_size]; omega) _)) (Nat.le_refl _)) (Nat.le_succ _) (at_last (nest6_size _ _ _ _ _ _ _ _).symm) (by omega), ((HS.out.keep (Keep.nest6 (by omega) _ _ _ _ _ _) (Nat.le_refl _)).keep (Keep.of_below ((Below.refl _ _).more (by rw [nest6_size]; omega) _)) (by omega)), frSs_nil _ _⟩)
set_option maxRecDepth 100000 in
theorem dstmt_deep {b g n : Nat} {d : Int} (hd : 100 < d) {w : World} {r : List Tok} (h : Lv b g r w) :
    Calls Tryz.prog 105 #[.pointer (some ⟨b, 0, none⟩), .int .i64 d] w (Gets b g w (pS (n + 1) d r) (FrS w.heap.size)) := by
  have HC := Lib.hid (At.start h stBox)
  have HT := Lib.hid (show Fails (pS (n + 1) d r) 2 r by rw [pS, if_pos hd]; exact .inr ⟨rfl, rfl⟩)
  clear h
  go_enter Tryz.func105, Tryz.ntmps105
  go_wp2_with (first
  | (go_at_call 119; (with_reducible refine (dlimit_no HC.out.lv d hd).mono ?_); rintro e w2 ⟨rfl, hO⟩; exact ⟨rfl, Gets.no HT.out (HC.out.off hO)⟩))
theorem dstmt_any {b g n : Nat} {d : Int} (hd : 0 ≤ d ∧ d ≤ 1000) (hK : d ≤ 100 → ∀ m, m ≤ n → DK b g m (d + 1)) : DS b g (n + 1) d := by
  intro w r h hn
  by_cases hd2 : d ≤ 100
  · have hdd : 0 ≤ d ∧ d ≤ 100 := ⟨hd.1, hd2⟩
    cases h1 : isS sIf r with
    | true => exact dstmt_if hdd (hK hd2) h h1 hn
    | false =>
      cases h2 : isS sWhile r with
      | true => exact dstmt_while hdd (hK hd2) h h1 h2 hn
      | false => exact dstmt_plain hdd h h1 h2 hn
  · exact dstmt_deep (by omega) h
end Go.Proofs.YtakijoblbmfadaaGreatDoor
