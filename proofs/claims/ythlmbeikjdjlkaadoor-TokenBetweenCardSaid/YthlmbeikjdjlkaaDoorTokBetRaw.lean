/- The law TokenBetween returns true: the texts given. -/
import Derived.Test.YthlmbeikjdjlkaaDoorTokBetMath
namespace Go.Proofs.YthlmbeikjdjlkaaDoor
open Go.RowKit
theorem between_b {w w' : World} {g : Nat} {tb : List Tok} (h : ∀ (j : Nat) u, (tokCells tb)[j]? = some u → w.cell? ⟨g, j, none⟩ = some u) (hb : Below w.heap.size w w') (hg : g < w.heap.size) :
    ∀ (j : Nat) u, (tokCells tb)[j]? = some u → w'.cell? ((⟨g, 0, none⟩ : Addr).add j) = some u := by
  intro j u hu
  rw [show (⟨g, 0, none⟩ : Addr).add j = ⟨g, j, none⟩ by unfold Addr.add; split <;> simp_all]
  exact (hb.cell (p := ⟨g, j, none⟩) hg).trans (h j u hu)
theorem between_toks {w : World} {B : Nat} {v : Value} {a b : List Tok} (h : w.ownsRow B 36 3 v (0 + a.length + b.length) ([] ++ tokCells a ++ tokCells b)) : Toks w B v (a ++ b) := by
  unfold Toks
  rw [tokCells_app, List.length_append]
  rw [Nat.zero_add, List.nil_append] at h
  exact h
set_option maxHeartbeats 2000000 in
set_option maxRecDepth 100000 in
theorem between_raw (s t : ByteArray) (v : Value) (w : World) (hs : s.size ≤ 500) (htt : t.size ≤ 500) (ht : TokTab w.heap.size w) :
    Calls Tryd.prog 7 #[.string s, .string t, v, .bool false] w fun e w' => e = .returned (.bool true) ∧ Below w.heap.size w w' := by
  have HT := Lib.hid ht
  clear ht
  have hd : decide ((500 : Int) < s.size) = false := by simp; omega
  have hd2 : decide ((500 : Int) < t.size) = false := by simp; omega
  go_enter Tryd.func7, Tryd.ntmps7
  go_wp2_with (go_at_call 8; (with_reducible refine (awake_any _ HT.out).mono ?_); rintro e w0 ⟨rfl, hbW⟩)
  rcases hsa : scan s.data.toList 1 with ⟨ta, _ | la⟩
  · rcases hsb : scan t.data.toList 1 with ⟨tb, _ | lb⟩
    · obtain ⟨init, ln, e, hgood⟩ := scan_shape _ _ _ _ (Nat.le_refl _) hsa
      subst e
      obtain ⟨tc, hsc, hfl⟩ := scan_between hsa hsb
      have hla := scan_len _ s.data.toList 1 (Nat.le_refl _)
      have hlb := scan_len _ t.data.toList 1 (Nat.le_refl _)
      rw [hsa, ← Lib.size_eq] at hla
      rw [hsb, ← Lib.size_eq] at hlb
      simp only [List.length_append, List.length_cons, List.length_nil] at hla hlb
      have hia : init.length ≤ 500 := by omega
      have hib : tb.length ≤ 501 := by omega
      have HC : Hid (scan (⟨#[9, 47, 47, 32, 120, 32, 39, 32, 195, 169, 10]⟩ ++ s ++ ⟨#[10, 47, 47, 10]⟩ ++ t ++ ⟨#[32]⟩ : ByteArray).data.toList 1 = (tc, none)) := by unfold Hid; rw [cat_data]; exact hsc
      have HCZ : Hid ((⟨#[9, 47, 47, 32, 120, 32, 39, 32, 195, 169, 10]⟩ ++ s ++ ⟨#[10, 47, 47, 10]⟩ ++ t ++ ⟨#[32]⟩ : ByteArray).size ≤ 100000) := by
        unfold Hid
        simp only [ByteArray.size_append]
        have e1 : (⟨#[9, 47, 47, 32, 120, 32, 39, 32, 195, 169, 10]⟩ : ByteArray).size = 11 := rfl
        have e2 : (⟨#[10, 47, 47, 10]⟩ : ByteArray).size = 4 := rfl
        have e3 : (⟨#[32]⟩ : ByteArray).size = 1 := rfl
        omega
      have hlc : tc.length ≤ 1020 := by
        have h1 := congrArg List.length hfl
        simp only [List.length_map, List.length_append] at h1
        omega
      have HSA := Lib.hid hsa
      have HSB := Lib.hid hsb
      have HFL := Lib.hid hfl
      have HLA : Hid (s.size ≤ 100000) := by unfold Hid; omega
      have HLB : Hid (t.size ≤ 100000) := by unfold Hid; omega
      clear hsa hsb hsc hfl hla hlb hgood
      (with_reducible refine (tokens_ok s _ HSA.out _ HLA.out (HT.out.at_ hbW)).mono ?_)
      rintro e w1 ⟨v1, rfl, hr1, hb1⟩
      have hb01 := hbW.trans (hb1.mono hbW.size)
      go_wp2_with (fail)
      (with_reducible refine (tokens_ok t _ HSB.out _ HLB.out (HT.out.at_ hb01)).mono ?_)
      rintro e w2 ⟨v2, rfl, hr2, hb2⟩
      have hb02 := hb01.trans (hb2.mono hb01.size)
      have hr1' := hr1.below hb2
      have hbp : 0 < tb.length := by
        obtain ⟨ib, lnb, eb, _⟩ := scan_shape _ _ _ _ (Nat.le_refl _) HSB.out
        rw [eb]
        simp
      obtain ⟨A2, c2, rfl, hc2, hrd2⟩ := hr2
      obtain ⟨gb, rfl, hgb, hcellb⟩ := hrd2 hbp
      have HCB := Lib.hid hcellb
      clear hrd2 hcellb
      obtain ⟨A, ca, rfl, hca, hrd⟩ := hr1'
      obtain ⟨ga, rfl, hga, hcella⟩ := hrd (by simp)
      have hln : (init ++ [(⟨3, [], ln⟩ : Tok)]).length = init.length + 1 := by simp
      rw [hln] at hca ⊢
      have HCA := Lib.hid hcella
      clear hr1 hrd hcella hln
      obtain ⟨i0, hi0, hz0, hz1, hz2⟩ := info_parts tok_info
      have HI0 := Lib.hid (And.intro hi0 (And.intro hz0 (And.intro hz1 hz2)))
      clear hi0 hz0 hz1 hz2
      go_wp2_with (first
        | (go_at_call 9
           (with_reducible refine (tokens_ok _ tc HC.out _ HCZ.out (HT.out.at_ hb02)).mono ?_)
           rintro e w3 ⟨v3, rfl, hr3, hb3⟩
           have HR3 := Lib.hid hr3
           have hb03 := hb02.trans (hb3.mono hb02.size)
           have HNA := Lib.hid (between_a HCA.out hb3 hga)
           clear hr3)
        | (at_builtin
           refine wpList_append_own _ rfl (.tmp 82) (.tmp 87) _ rfl w3.heap.size 36 i0 _ 3 32 Tryd.underlying23 HI0.out.1 HI0.out.2.1 HI0.out.2.2.1 HI0.out.2.2.2 rfl (by omega) (.slice none 0 0) 0 [] rfl ⟨rfl, .inl ⟨rfl, rfl⟩⟩ ⟨ga, 0, none⟩ init.length ca (tokCells init) rfl (by rw [tokCells_len]) (by exact HNA.out) (tokCells_one init) (by simp only [maxLen]; omega) (by omega) (Nat.le_refl _) ?_
           intro v4 w4 hown4 hg4 _
           have hb34 : Below w3.heap.size w3 w4 := (Below.refl _ _).grown hg4 (Nat.le_refl _) (fun k hk => by cases hk)
           have HO4 := Lib.hid hown4
           have HNB := Lib.hid (between_b HCB.out (hb3.trans (hb34.mono hb3.size)) hgb)
           clear hown4 hg4)
        | (at_builtin
           refine wpList_append_own _ rfl (.tmp 89) (.tmp 90) _ rfl w3.heap.size 36 i0 _ 3 32 Tryd.underlying23 HI0.out.1 HI0.out.2.1 HI0.out.2.2.1 HI0.out.2.2.2 rfl (by omega) v4 (0 + init.length) ([] ++ tokCells init) rfl (by exact HO4.out) ⟨gb, 0, none⟩ tb.length c2 (tokCells tb) rfl (by rw [tokCells_len]) (by exact HNB.out) (tokCells_one tb) (by simp only [maxLen]; omega) (by omega) hb34.size ?_
           intro v5 w5 hown5 hg5 _
           have hb35 : Below w3.heap.size w3 w5 := hb34.grown hg5 hb34.size (fun k hk => (own_lt HO4.out k hk).2)
           have HT5 := Lib.hid (between_toks hown5)
           have hb05 := hb03.trans (hb35.mono hb03.size)
           clear hown5 hg5)
        | (go_at_call 18
           (with_reducible refine (flat_any v3 tc _ (HR3.out.below hb35) (by omega)).mono ?_)
           rintro e w6 ⟨v6, rfl, hr6, hb6⟩
           have HR6 := Lib.hid hr6
           have hb06 := hb05.trans (hb6.mono hb05.size)
           clear hr6)
        | (go_at_call 18
           (with_reducible refine (flat_any v5 (init ++ tb) _ (HT5.out.reads.below hb6) (by rw [List.length_append]; omega)).mono ?_)
           rintro e w7 ⟨v7, rfl, hr7, hb7⟩
           have HR7 := Lib.hid hr7
           have HR6b := Lib.hid (HR6.out.below hb7)
           have hb07 := hb06.trans (hb7.mono hb06.size)
           clear hr7)
        | (go_at_call 11
           (with_reducible refine (same_any v6 v7 ((init ++ tb).map flatT) _ (HFL.out ▸ HR6b.out) HR7.out (by rw [List.length_map, List.length_append]; omega)).mono ?_)
           rintro e w8 ⟨rfl, hb8⟩
           have hb08 := hb07.trans (hb8.mono hb07.size)))
      go_ret
      exact ⟨rfl, hb08⟩
    · have HSA := Lib.hid hsa
      have HSB := Lib.hid hsb
      have HLA : Hid (s.size ≤ 100000) := by unfold Hid; omega
      have HLB : Hid (t.size ≤ 100000) := by unfold Hid; omega
      clear hsa hsb
      (with_reducible refine (tokens_ok s _ HSA.out _ HLA.out (HT.out.at_ hbW)).mono ?_)
      rintro e w1 ⟨v1, rfl, _, hb1⟩
      have hb01 := hbW.trans (hb1.mono hbW.size)
      go_wp2_with (fail)
      (with_reducible refine (tokens_no t _ _ HSB.out _ HLB.out (HT.out.at_ hb01)).mono ?_)
      rintro e w2 ⟨rfl, hb2⟩
      go_wp2
      go_ret
      exact ⟨rfl, hb01.trans (hb2.mono hb01.size)⟩
  · have HSA := Lib.hid hsa
    have HLA : Hid (s.size ≤ 100000) := by unfold Hid; omega
    have HLB : Hid (t.size ≤ 100000) := by unfold Hid; omega
    clear hsa
    (with_reducible refine (tokens_no s _ _ HSA.out _ HLA.out (HT.out.at_ hbW)).mono ?_)
    rintro e w1 ⟨rfl, hb1⟩
    have hb01 := hbW.trans (hb1.mono hbW.size)
    go_wp2_with (fail)
    rcases hsb : scan t.data.toList 1 with ⟨tb, _ | lb⟩
    · have HSB := Lib.hid hsb
      clear hsb
      (with_reducible refine (tokens_ok t _ HSB.out _ HLB.out (HT.out.at_ hb01)).mono ?_)
      rintro e w2 ⟨v2, rfl, _, hb2⟩
      go_wp2
      go_ret
      exact ⟨rfl, hb01.trans (hb2.mono hb01.size)⟩
    · have HSB := Lib.hid hsb
      clear hsb
      (with_reducible refine (tokens_no t _ _ HSB.out _ HLB.out (HT.out.at_ hb01)).mono ?_)
      rintro e w2 ⟨rfl, hb2⟩
      go_wp2
      go_ret
      exact ⟨rfl, hb01.trans (hb2.mono hb01.size)⟩
end Go.Proofs.YthlmbeikjdjlkaaDoor
