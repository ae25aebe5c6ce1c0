import Derived.Test.YtakijoblbmfadaaGreatDoorMgParPrim
set_option linter.unusedSimpArgs false
set_option linter.unusedVariables false
/- The document's parser: what may have a sign ahead. -/
namespace Go.Proofs.YtakijoblbmfadaaGreatDoor
open Go.RowKit
/-- The contracts of primary and unary. -/
def CP (b : Nat) (V : Value) (all : List Tok) (n : Nat) (d : Int) : Prop := ∀ (w : World) (x : PR Unit), StP b V all x w → Ends (x.bind fun _ r => pP n d r) →
  Calls Tryz.prog 138 #[.pointer (some ⟨b, 0, none⟩), .int .i64 d] w (Gave b V all w (x.bind fun _ r => pP n d r) (FrE w.heap.size))
theorem CP.call {b : Nat} {V : Value} {all : List Tok} {n : Nat} {d : Int} (h : CP b V all n d) {w : World} {x : PR Unit} (hs : StP b V all x w) (he : Ends (x.bind fun _ r => pP n d r)) :
  Calls Tryz.prog 138 #[.pointer (some ⟨b, 0, none⟩), .int .i64 d] w (Gave b V all w (x.bind fun _ r => pP n d r) (FrE w.heap.size)) := h w x hs he
def CU (b : Nat) (V : Value) (all : List Tok) (n : Nat) (d : Int) : Prop := ∀ (w : World) (x : PR Unit), StP b V all x w → Ends (x.bind fun _ r => pU n d r) →
  Calls Tryz.prog 124 #[.pointer (some ⟨b, 0, none⟩), .int .i64 d] w (Gave b V all w (x.bind fun _ r => pU n d r) (FrE w.heap.size))
theorem CU.call {b : Nat} {V : Value} {all : List Tok} {n : Nat} {d : Int} (h : CU b V all n d) {w : World} {x : PR Unit} (hs : StP b V all x w) (he : Ends (x.bind fun _ r => pU n d r)) :
  Calls Tryz.prog 124 #[.pointer (some ⟨b, 0, none⟩), .int .i64 d] w (Gave b V all w (x.bind fun _ r => pU n d r) (FrE w.heap.size)) := h w x hs he
theorem isAt_over {x : PR Unit} (ho : isOver x = true) (s : List UInt8) : isAt s x = false := by
  cases x with
  | ok u r => cases ho
  | _ => rfl
theorem un_over {α : Type} {b : Nat} {V : Value} {all : List Tok} {w W : World} {x : PR Unit} (ho : isOver x = true) {f : List Tok → PR α} {F : World → α → Value → Prop} {v : Value} (hD : Did b V all w x W) (a : α) (ha : F W a v) : Gave b V all w (x.bind fun _ r => f r) F (.returned v) W := by
  cases x with
  | ok u r => cases ho
  | bad r => exact ⟨v, rfl, hD, a, ha⟩
  | deep r => exact ⟨v, rfl, hD, a, ha⟩
  | out => exact absurd hD.st id
theorem prim_any {b : Nat} {V : Value} {all : List Tok} {n : Nat} {d : Int} (hE : ∀ m, m ≤ n → CE b V all m 1 (d + 1)) (hA : ∀ m, m ≤ n → CA b V all m (d + 1)) (hd : 0 ≤ d ∧ d ≤ 1000) : CP b V all (n + 1) d := by
  intro w x h hn
  cases ho : isOver x with
  | true => exact (prim_over h ho d).mono fun e w' ⟨he, hD⟩ => he ▸ un_over ho hD ex0 (ex0_fr _ _)
  | false =>
    cases x with
    | ok u r =>
      have hp : Pbox b V all r false false w := h
      have hn' : Ends (pP (n + 1) d r) := hn
      show Calls _ _ _ _ (Gave b V all w (pP (n + 1) d r) _)
      cases h1 : isS [40] r with
      | true => exact prim_paren (hE n (Nat.le_refl _)) hp hd h1 hn'
      | false =>
        cases h2 : isS sTrue r with
        | true => exact prim_true hp hd h1 h2
        | false =>
          cases h3 : isS sFalse r with
          | true => exact prim_false hp hd h1 h2 h3
          | false =>
            cases h4 : isS sRead r with
            | true => exact prim_read hp hd h1 h2 h3 h4
            | false =>
              by_cases h5 : hdK r = 0
              · exact prim_num hp hd h1 h2 h3 h4 h5
              · by_cases h6 : hdK r = 1
                · cases h7 : isS [40] r.tail with
                  | true =>
                    cases n with
                    | zero =>
                      rw [pP, h1, h2, h3, h4, if_neg (by decide), if_neg (by decide), if_neg (by decide), if_neg (by decide), if_neg h5] at hn'
                      unfold want at hn'
                      rw [if_pos h6] at hn'
                      simp only [PR.bind] at hn'
                      rw [pN] at hn'
                      exact absurd hn' id
                    | succ n => exact prim_call (hA n (by omega)) hp hd h1 h2 h3 h4 h6 h7 hn'
                  | false =>
                    cases h8 : isS [91] r.tail with
                    | true =>
                      cases n with
                      | zero =>
                        rw [pP, h1, h2, h3, h4, if_neg (by decide), if_neg (by decide), if_neg (by decide), if_neg (by decide), if_neg h5] at hn'
                        unfold want at hn'
                        rw [if_pos h6] at hn'
                        simp only [PR.bind] at hn'
                        rw [pN] at hn'
                        exact absurd hn' id
                      | succ n => exact prim_index (hE n (by omega)) hp hd h1 h2 h3 h4 h6 h7 h8 hn'
                    | false => exact prim_name hp hd h1 h2 h3 h4 h6 h7 h8 hn'
                · exact prim_bad hp hd h1 h2 h3 h4 h5 h6
    | bad r => cases ho
    | deep r => cases ho
    | out => exact absurd h id
theorem Pbox.deepen {b : Nat} {V : Value} {all r : List Tok} {dp : Bool} {w : World} (h : Pbox b V all r false dp w) : Pbox b V all r false true (w.setCell ⟨b, 3, none⟩ (.bool true)) :=
  ⟨h.1.set 3 (.bool true), h.2.1.off ((OffB.refl b _ w).setb h.lt 3 _), h.2.2⟩
set_option maxRecDepth 100000 in
theorem unary_none {b : Nat} {V : Value} {all : List Tok} {x : PR Unit} {w : World} {d : Int} (h : StP b V all x w) (hd : 0 ≤ d ∧ d ≤ 1000) (ho : isOver x = true) (hd2 : d ≤ 100) :
    Calls Tryz.prog 124 #[.pointer (some ⟨b, 0, none⟩), .int .i64 d] w fun e w' => e = .returned ex0V ∧ Did b V all w x w' := by
  have HC := Lib.hid (Cur.start h)
  have HO := Lib.hid ho
  have hdd : ¬ 100 < d := by omega
  clear h ho
  go_enter Tryz.func124, Tryz.ntmps124
  go_wp2
  go_loopw [5] (fun i wr => ∃ k : Int, i = .int .i64 k ∧ 20 ≤ k ∧ k ≤ 29 ∧ Cur b V all w x wr) (fun i _ => (29 - intOf i).toNat)
  case atStart => exact ⟨20, rfl, by omega, by omega, HC.out⟩
  case round =>
    obtain ⟨k, rfl, hk1, hk2, hC⟩ := hrel
    replace HC := Lib.hid hC
    clear hC
    by_cases hlt : k ≤ 28
    · obtain ⟨s, hs⟩ : ∃ s, sgnOf k = s := ⟨_, rfl⟩
      have HS := Lib.hid hs
      have HV := Lib.hid (isAt_over HO.out s.data.toList)
      clear hs
      go_wp2_with (first
        | (go_at_call 68; (with_reducible refine (rsign_did k s HS.out HC.out.st).mono ?_); rintro e w2 ⟨rfl, hD⟩; replace HC := Lib.hid (HC.out.step hD); clear hD)
        | (go_at_call 48; (with_reducible refine (take_no' HC.out.st s HV.out).mono ?_); rintro e w3 ⟨rfl, hD⟩; replace HC := Lib.hid (HC.out.step hD); clear hD))
      go_roundw
      case rel => exact ⟨k + 1, rfl, by omega, by omega, HC.out⟩
      case measure => simp [intOf]; omega
    · obtain rfl : k = 29 := by omega
      go_wp2_with (go_at_call 138; (with_reducible refine (prim_over HC.out.st HO.out d).mono ?_); rintro e w2 ⟨rfl, hD⟩; replace HC := Lib.hid (HC.out.step hD); clear hD; obtain ⟨⟨c0, c1, c2, c3, c4⟩, fz⟩ := HC.out.own)
      obtain ⟨f0, f1, f2, f3, f4⟩ := HC.out.read (.int .i64 0) (.int .i64 0) (.int .i64 0) (.string ⟨#[]⟩) (.slice none 0 0)
      refine bodyPost_ret (v := ex0V) (by simp [results, Tryz.results124, go_sem, f0, f1, f2, f3, f4]) rfl ?_
      exact ⟨rfl, HC.out.did.writ HC.out.2.2.1 (Nat.le_refl _) HC.out.ne _ _ _ _ _⟩
set_option maxRecDepth 100000 in
theorem unary_bad {b : Nat} {V : Value} {all r : List Tok} {x : PR Unit} {w : World} {d : Int} (hx : x = .bad r) (h : StP b V all x w) (hd : 0 ≤ d ∧ d ≤ 1000) (ho : isOver x = true) (hd2 : 100 < d) :
    Calls Tryz.prog 124 #[.pointer (some ⟨b, 0, none⟩), .int .i64 d] w fun e w' => e = .returned ex0V ∧ Did b V all w x w' := by
  have HC := Lib.hid (Cur.start h)
  have HO := Lib.hid ho
  have b2 : w.cell? ⟨b, 2, none⟩ = some (.bool true) := by
    rw [hx] at h
    exact (Pbox.cells (show Pbox b V all r true false w from h)).2.2.1
  have hlt := h.lt
  clear h ho hx
  go_enter Tryz.func124, Tryz.ntmps124
  go_wp2
  go_loopw [5] (fun i wr => ∃ k : Int, i = .int .i64 k ∧ 20 ≤ k ∧ k ≤ 29 ∧ Cur b V all w x wr) (fun i _ => (29 - intOf i).toNat)
  case atStart => exact ⟨20, rfl, by omega, by omega, HC.out⟩
  case round =>
    obtain ⟨k, rfl, hk1, hk2, hC⟩ := hrel
    replace HC := Lib.hid hC
    clear hC
    by_cases hlt : k ≤ 28
    · obtain ⟨s, hs⟩ : ∃ s, sgnOf k = s := ⟨_, rfl⟩
      have HS := Lib.hid hs
      have HV := Lib.hid (isAt_over HO.out s.data.toList)
      clear hs
      go_wp2_with (first
        | (go_at_call 68; (with_reducible refine (rsign_did k s HS.out HC.out.st).mono ?_); rintro e w2 ⟨rfl, hD⟩; replace HC := Lib.hid (HC.out.step hD); clear hD)
        | (go_at_call 48; (with_reducible refine (take_no' HC.out.st s HV.out).mono ?_); rintro e w3 ⟨rfl, hD⟩; replace HC := Lib.hid (HC.out.step hD); clear hD))
      go_roundw
      case rel => exact ⟨k + 1, rfl, by omega, by omega, HC.out⟩
      case measure => simp [intOf]; omega
    · obtain rfl : k = 29 := by omega
      go_wp2_with (go_at_call 138; (with_reducible refine (prim_over HC.out.st HO.out d).mono ?_); rintro e w2 ⟨rfl, hD⟩; replace HC := Lib.hid (HC.out.step hD); clear hD; obtain ⟨⟨c0, c1, c2, c3, c4⟩, fz⟩ := HC.out.own)
      obtain ⟨f0, f1, f2, f3, f4⟩ := HC.out.read (.int .i64 0) (.int .i64 0) (.int .i64 0) (.string ⟨#[]⟩) (.slice none 0 0)
      refine bodyPost_ret (v := ex0V) (by simp [results, Tryz.results124, go_sem, f0, f1, f2, f3, f4]) rfl ?_
      exact ⟨rfl, HC.out.did.writ HC.out.2.2.1 (Nat.le_refl _) HC.out.ne _ _ _ _ _⟩
theorem Cur.deepen {b : Nat} {V : Value} {all r : List Tok} {dp : Bool} {w : World} (h : Pbox b V all r false dp w) : Cur b V all w (.deep r) ((w.alloc exBox).setCell ⟨b, 3, none⟩ (.bool true)) ∧ Cur b V all w (.deep r) ((w.setCell ⟨b, 3, none⟩ (.bool true)).alloc exBox) := by
  have hst : ∃ x, StP b V all x w ∧ Pbox b V all r false dp w := by
    cases dp with
    | false => exact ⟨.ok () r, h, h⟩
    | true => exact ⟨.deep r, h, h⟩
  obtain ⟨x, hx, _⟩ := hst
  have h1 := Cur.start hx
  have hp : Pbox b V all r false dp (w.alloc exBox) := h.off ((Below.refl _ _).alloc (Nat.le_refl _) _)
  refine ⟨h1.step ⟨hp.deepen, (OffB.refl b _ _).setb hp.lt 3 _⟩, ?_⟩
  have hd : Did b V all w (.deep r) (w.setCell ⟨b, 3, none⟩ (.bool true)) := ⟨h.deepen, (OffB.refl b _ _).setb h.lt 3 _⟩
  refine ⟨hd.alloc _, ?_, h.2.1, h.lt⟩
  have := heap_alloc_new (w.setCell ⟨b, 3, none⟩ (.bool true)) exBox
  rw [setCell_size] at this
  exact this
set_option maxRecDepth 100000 in
theorem unary_deep {b : Nat} {V : Value} {all r : List Tok} {dp : Bool} {w : World} {d : Int} (h : Pbox b V all r false dp w) (hd : 0 ≤ d ∧ d ≤ 1000) (hd2 : 100 < d) :
    Calls Tryz.prog 124 #[.pointer (some ⟨b, 0, none⟩), .int .i64 d] w fun e w' => e = .returned ex0V ∧ Did b V all w (.deep r) w' := by
  have HC0 := Lib.hid (Cur.deepen h)
  obtain ⟨_, _, b2, b3⟩ := h.cells
  have f3 := h.1.frozen 3
  have hlt := h.lt
  obtain ⟨x, hx⟩ : ∃ x : PR Unit, x = .deep r := ⟨_, rfl⟩
  have HX := Lib.hid hx
  have HO := Lib.hid (show isOver x = true by rw [hx]; rfl)
  rw [← hx]
  rw [← hx] at HC0
  clear h hx
  go_enter Tryz.func124, Tryz.ntmps124
  go_wp2
  clear b2 b3 f3
  go_loopw [5] (fun i wr => ∃ k : Int, i = .int .i64 k ∧ 20 ≤ k ∧ k ≤ 29 ∧ Cur b V all w x wr) (fun i _ => (29 - intOf i).toNat)
  case atStart => exact ⟨20, rfl, by omega, by omega, by first | exact HC0.out.1 | exact HC0.out.2⟩
  case round =>
    obtain ⟨k, rfl, hk1, hk2, hC⟩ := hrel
    have HC := Lib.hid hC
    clear hC
    by_cases hlt : k ≤ 28
    · obtain ⟨s, hs⟩ : ∃ s, sgnOf k = s := ⟨_, rfl⟩
      have HS := Lib.hid hs
      have HV := Lib.hid (isAt_over HO.out s.data.toList)
      clear hs
      go_wp2_with (first
        | (go_at_call 68; (with_reducible refine (rsign_did k s HS.out HC.out.st).mono ?_); rintro e w2 ⟨rfl, hD⟩; replace HC := Lib.hid (HC.out.step hD); clear hD)
        | (go_at_call 48; (with_reducible refine (take_no' HC.out.st s HV.out).mono ?_); rintro e w3 ⟨rfl, hD⟩; replace HC := Lib.hid (HC.out.step hD); clear hD))
      go_roundw
      case rel => exact ⟨k + 1, rfl, by omega, by omega, HC.out⟩
      case measure => simp [intOf]; omega
    · obtain rfl : k = 29 := by omega
      go_wp2_with (go_at_call 138; (with_reducible refine (prim_over HC.out.st HO.out d).mono ?_); rintro e w2 ⟨rfl, hD⟩; replace HC := Lib.hid (HC.out.step hD); clear hD; obtain ⟨⟨c0, c1, c2, c3, c4⟩, fz⟩ := HC.out.own)
      obtain ⟨f0, f1, f2, f3, f4⟩ := HC.out.read (.int .i64 0) (.int .i64 0) (.int .i64 0) (.string ⟨#[]⟩) (.slice none 0 0)
      refine bodyPost_ret (v := ex0V) (by simp [results, Tryz.results124, go_sem, f0, f1, f2, f3, f4]) rfl ?_
      exact ⟨rfl, HC.out.did.writ HC.out.2.2.1 (Nat.le_refl _) HC.out.ne _ _ _ _ _⟩
end Go.Proofs.YtakijoblbmfadaaGreatDoor

/- The document's parser: what may have a sign ahead, where all is well so far. -/
namespace Go.Proofs.YtakijoblbmfadaaGreatDoor
open Go.RowKit
theorem unAt_hit {k : Int} {r : List Tok} (h1 : 20 ≤ k) (h2 : k ≤ 28) (hk : isS (sgT k) r = true) (h : ∀ j, 20 ≤ j → j < k → isS (sgT j) r = false) : unAt r = k := by
  show unFrom r ones = k
  rw [ones_range]
  exact unFrom_hit hk 9 20 h1 (by omega) h
theorem unAt_none {r : List Tok} (h : ∀ j, 20 ≤ j → j < 29 → isS (sgT j) r = false) : unAt r = 0 := by
  show unFrom r ones = 0
  rw [ones_range]
  exact unFrom_none 9 20 h
theorem row_cells5 {W : World} {g : Nat} {c0 c1 c2 c3 c4 : Value} {T : TypeId} (h : W.heap[g]? = some (.cells #[c0, c1, c2, c3, c4] T (0, 0))) :
    (W.cell? ⟨g, 0, none⟩ = some c0 ∧ W.cell? ⟨g, 1, none⟩ = some c1 ∧ W.cell? ⟨g, 2, none⟩ = some c2 ∧ W.cell? ⟨g, 3, none⟩ = some c3 ∧ W.cell? ⟨g, 4, none⟩ = some c4) ∧ ∀ o, W.frozen? ⟨g, o, none⟩ = false := by
  refine ⟨⟨(Lib.cell_of_heap h 0).trans rfl, (Lib.cell_of_heap h 1).trans rfl, (Lib.cell_of_heap h 2).trans rfl, (Lib.cell_of_heap h 3).trans rfl, (Lib.cell_of_heap h 4).trans rfl⟩, fun o => ?_⟩
  simp [World.frozen?, h]
theorem writ_other {w : World} {g k : Nat} (hk : k ≠ g) (c0 c1 c2 c3 c4 : Value) : (writ w g c0 c1 c2 c3 c4).heap[k]? = w.heap[k]? := by
  unfold writ
  rw [Below.heap_setCell _ _ _ _ (by show k ≠ g; exact hk), Below.heap_setCell _ _ _ _ (by show k ≠ g; exact hk), Below.heap_setCell _ _ _ _ (by show k ≠ g; exact hk), Below.heap_setCell _ _ _ _ (by show k ≠ g; exact hk), Below.heap_setCell _ _ _ _ (by show k ≠ g; exact hk)]
/-- Another block of the call's own is written. -/
theorem Cur.writ2 {b g : Nat} {V : Value} {all : List Tok} {w W : World} {x : PR Unit} (h : Cur b V all w x W) (hg : w.heap.size < g) (c0 c1 c2 c3 c4 : Value) : Cur b V all w x (writ W g c0 c1 c2 c3 c4) :=
  ⟨h.1.writ h.2.2.1 (by omega) (by have := h.2.2.2; omega) _ _ _ _ _, (writ_other (by omega) _ _ _ _ _).trans h.2.1, h.2.2⟩
abbrev nest (W : World) (g : Nat) (c0 c1 c2 c3 c4 : Value) : World := ((((W.setCell ⟨g, 0, none⟩ c0).setCell ⟨g, 1, none⟩ c1).setCell ⟨g, 2, none⟩ c2).setCell ⟨g, 3, none⟩ c3).setCell ⟨g, 4, none⟩ c4
theorem Cur.nest {b g : Nat} {V : Value} {all : List Tok} {w W : World} {x : PR Unit} (h : Cur b V all w x W) (hg : w.heap.size < g) (c0 c1 c2 c3 c4 : Value) : Cur b V all w x (nest W g c0 c1 c2 c3 c4) := h.writ2 hg c0 c1 c2 c3 c4
set_option maxRecDepth 100000 in
theorem unary_live {b : Nat} {V : Value} {all r : List Tok} {w : World} {n : Nat} {d : Int} (hE : CE b V all n 1 (d + 1)) (hU : CU b V all n (d + 1)) (hP : CP b V all n d) (h : Pbox b V all r false false w) (hd : 0 ≤ d ∧ d ≤ 100) (hn : Ends (pU (n + 1) d r)) :
    Calls Tryz.prog 124 #[.pointer (some ⟨b, 0, none⟩), .int .i64 d] w (Gave b V all w (pU (n + 1) d r) (FrE w.heap.size)) := by
  obtain ⟨hd0, hd1⟩ := hd
  have HC := Lib.hid (Cur.start (x := .ok () r) h)
  have hdd : ¬ 100 < d := by omega
  have HE := Lib.hid hE
  have HU := Lib.hid hU
  have HP := Lib.hid hP
  have HN := Lib.hid hn
  clear h hE hU hP hn
  go_enter Tryz.func124, Tryz.ntmps124
  go_wp2
  go_loopw [5] (fun i wr => ∃ k : Int, i = .int .i64 k ∧ 20 ≤ k ∧ k ≤ 29 ∧ (∀ j, 20 ≤ j → j < k → isS (sgT j) r = false) ∧ Cur b V all w (.ok () r) wr) (fun i _ => (29 - intOf i).toNat)
  case atStart => exact ⟨20, rfl, by omega, by omega, fun j h1 h2 => by omega, HC.out⟩
  case round =>
    obtain ⟨k, rfl, hk1, hk2, hno, hC⟩ := hrel
    replace HC := Lib.hid hC
    have HNO := Lib.hid hno
    clear hC hno
    by_cases hlt : k ≤ 28
    · obtain ⟨s, hs⟩ : ∃ s, sgnOf k = s := ⟨_, rfl⟩
      have HS := Lib.hid hs
      cases hv : isAt s.data.toList (PR.ok () r) with
      | false =>
        have hno2 : ∀ j, 20 ≤ j → j < k + 1 → isS (sgT j) r = false := fun j h1 h2 => by
          by_cases e : j = k
          · subst e
            unfold sgT
            rw [hs]
            exact hv
          · exact HNO.out j h1 (by omega)
        replace HNO := Lib.hid hno2
        have HV := Lib.hid hv
        clear hs hv hno2
        go_wp2_with (first
          | (go_at_call 68; (with_reducible refine (rsign_did k s HS.out HC.out.st).mono ?_); rintro e w2 ⟨rfl, hD⟩; replace HC := Lib.hid (HC.out.step hD); clear hD)
          | (go_at_call 48; (with_reducible refine (take_no' HC.out.st s HV.out).mono ?_); rintro e w3 ⟨rfl, hD⟩; replace HC := Lib.hid (HC.out.step hD); clear hD))
        go_roundw
        case rel => exact ⟨k + 1, rfl, by omega, by omega, HNO.out, HC.out⟩
        case measure => simp [intOf]; omega
      | true =>
        have hun : unAt r = k := unAt_hit hk1 hlt (by unfold sgT; rw [hs]; exact hv) HNO.out
        have hk0 : ¬ k = 0 := by omega
        have HV := Lib.hid hv
        by_cases h23 : 23 ≤ k
        · have ex : pU (n + 1) d r = (must [40] r.tail).bind fun _ r => (pE n 1 (d + 1) r).bind fun e r => (must [41] r).bind fun _ r => .ok (.mk 4 k 0 bE [e]) r := by rw [pU, if_neg (by omega), hun, if_neg hk0, if_pos h23]
          have hN2 := HN.out
          rw [← bind_assoc] at ex
          rw [ex] at hN2
          have EX := Lib.hid ex
          replace HN := Lib.hid (show Ends ((must [40] r.tail).bind fun _ r => pE n 1 (d + 1) r) from ends_left hN2)
          clear hs hv hun ex hN2 HNO
          go_wp2_with (first
            | (go_at_call 68; (with_reducible refine (rsign_did k s HS.out HC.out.st).mono ?_); rintro e w2 ⟨rfl, hD⟩; replace HC := Lib.hid (HC.out.step hD); clear hD)
            | (go_at_call 48; (with_reducible refine (take_yes HC.out.st s HV.out).mono ?_); rintro e w3 ⟨rfl, hD⟩
               replace HC := Lib.hid (show Cur b V all w (.ok () r.tail) w3 from HC.out.step hD)
               clear hD)
            | (go_at_call 50; (with_reducible refine (must_any HC.out.st ⟨#[40]⟩).mono ?_); rintro e w4 ⟨rfl, hD⟩
               replace HC := Lib.hid (show Cur b V all w (must [40] r.tail) w4 from HC.out.step hD)
               have hz4 := HC.out.size
               have hb4 := HC.out.st.lt
               have hne4 : w4.heap.size ≠ b := by omega
               clear hD)
            | (go_at_call 107; (with_reducible refine (HE.out.call (HC.out.alloc exBox).st HN.out).mono ?_); rintro e w5 ⟨v, rfl, hD, hG⟩
               obtain ⟨k1, k2, k3, k4, k5, k6, k7, rfl⟩ := got_form hG HN.out
               have HG := Lib.hid hG
               have hr5 := own_next hD.off (k := w4.heap.size) (by simp) hne4 (heap_alloc_new w4 exBox)
               have HR := Lib.hid hr5
               obtain ⟨⟨p0, p1, p2, p3, p4⟩, pz⟩ := row_cells5 hr5
               replace HC := Lib.hid ((HC.out.alloc exBox).step hD)
               clear hD hG hr5)
            | (go_at_call 50; (with_reducible refine (must_any (HC.out.nest hz4 (.int .i64 k1) (.int .i64 k2) (.int .i64 k3) (.string k4) (.slice k5 k6 k7)).st ⟨#[41]⟩).mono ?_); rintro e w6 ⟨rfl, hD⟩
               have hz5 : w4.heap.size < w5.heap.size := (Array.getElem?_eq_some_iff.1 HR.out).1
               have hr6 := own_next hD.off (k := w4.heap.size) (by simp; exact hz5) hne4 (writ_row HR.out _ _ _ _ _)
               have HK := Lib.hid ((Keep.writ (L := (w4.alloc exBox).heap.size) (w := w5) (g := w4.heap.size) (by simp) (.int .i64 k1) (.int .i64 k2) (.int .i64 k3) (.string k4) (.slice k5 k6 k7)).trans (Keep.did hD (by simp; omega)))
               obtain ⟨⟨s0, s1, s2, s3, s4⟩, sz⟩ := row_cells5 hr6
               replace HC := Lib.hid ((HC.out.writ2 hz4 (.int .i64 k1) (.int .i64 k2) (.int .i64 k3) (.string k4) (.slice k5 k6 k7)).step hD)
               obtain ⟨⟨c0, c1, c2, c3, c4⟩, fz⟩ := HC.out.own
               have hz6 := HC.out.size
               clear hD hr6))
          obtain ⟨f0, f1, f2, f3, f4⟩ := HC.out.reada (.cells #[.int .i64 k1, .int .i64 k2, .int .i64 k3, .string k4, .slice k5 k6 k7] 84) (.int .i64 4) (.int .i64 k) (.int .i64 0) (.string ⟨#[]⟩) (.slice (some ⟨w6.heap.size, 0, none⟩) 1 1)
          refine bodyPost_ret (v := .agg #[.int .i64 4, .int .i64 k, .int .i64 0, .string ⟨#[]⟩, .slice (some ⟨w6.heap.size, 0, none⟩) 1 1]) (by simp [results, Tryz.results124, go_sem, f0, f1, f2, f3, f4]) rfl ?_
          rw [EX.out]
          refine HC.out.fina ?_ ((HG.out.imp fun a ha => (show FrE w.heap.size ((writ w6 w.heap.size _ _ _ _ _).alloc _) (.mk 4 k 0 bE [a]) _ from ⟨_, rfl, ⟨by show (_ : Int) ≤ 0; decide, by show (0 : Int) ≤ _; decide⟩, fr_one ((FrE.keep ha HK.out (Nat.le_refl _)).writ (by simp; omega) _ _ _ _ _) (Nat.le_refl _) (by rw [writ_size]; omega) (writ_size _ _ _ _ _ _ _).symm⟩)).bind (fun a r _ ha => got_must ha) fun a ha => ⟨_, ha⟩)
          rw [un_bind]
          simp only [must_ok_un]
          rw [← bind_un]
        · have ex : pU (n + 1) d r = (pU n (d + 1) r.tail).bind fun e r => .ok (.mk 4 k 0 bE [e]) r := by rw [pU, if_neg (by omega), hun, if_neg hk0, if_neg h23]
          have hN2 := HN.out
          rw [ex] at hN2
          have EX := Lib.hid ex
          replace HN := Lib.hid (show Ends ((PR.ok () r.tail).bind fun _ r => pU n (d + 1) r) from ends_left hN2)
          clear hs hv hun ex hN2 HNO
          go_wp2_with (first
            | (go_at_call 68; (with_reducible refine (rsign_did k s HS.out HC.out.st).mono ?_); rintro e w2 ⟨rfl, hD⟩; replace HC := Lib.hid (HC.out.step hD); clear hD)
            | (go_at_call 48; (with_reducible refine (take_yes HC.out.st s HV.out).mono ?_); rintro e w4 ⟨rfl, hD⟩
               replace HC := Lib.hid (show Cur b V all w (.ok () r.tail) w4 from HC.out.step hD)
               have hz4 := HC.out.size
               have hb4 := HC.out.st.lt
               have hne4 : w4.heap.size ≠ b := by omega
               clear hD)
            | (go_at_call 124; (with_reducible refine (HU.out.call (HC.out.alloc exBox).st HN.out).mono ?_); rintro e w5 ⟨v, rfl, hD, hG⟩
               obtain ⟨k1, k2, k3, k4, k5, k6, k7, rfl⟩ := got_form hG HN.out
               have HG := Lib.hid hG
               have hr5 := own_next hD.off (k := w4.heap.size) (by simp) hne4 (heap_alloc_new w4 exBox)
               have HR := Lib.hid hr5
               obtain ⟨⟨p0, p1, p2, p3, p4⟩, pz⟩ := row_cells5 hr5
               replace HC := Lib.hid ((HC.out.alloc exBox).step hD)
               obtain ⟨⟨c0, c1, c2, c3, c4⟩, fz⟩ := HC.out.own
               have hz5 := HC.out.size
               clear hD hG hr5))
          have HC2 := Lib.hid (HC.out.writ2 hz4 (.int .i64 k1) (.int .i64 k2) (.int .i64 k3) (.string k4) (.slice k5 k6 k7))
          obtain ⟨f0, f1, f2, f3, f4⟩ := HC2.out.reada (.cells #[.int .i64 k1, .int .i64 k2, .int .i64 k3, .string k4, .slice k5 k6 k7] 84) (.int .i64 4) (.int .i64 k) (.int .i64 0) (.string ⟨#[]⟩) (.slice (some ⟨w5.heap.size, 0, none⟩) 1 1)
          unfold writ at f0 f1 f2 f3 f4
          refine bodyPost_ret (v := .agg #[.int .i64 4, .int .i64 k, .int .i64 0, .string ⟨#[]⟩, .slice (some ⟨w5.heap.size, 0, none⟩) 1 1]) (by simp [results, Tryz.results124, go_sem, f0, f1, f2, f3, f4]) rfl ?_
          rw [EX.out]
          have hz : (writ (writ w5 w4.heap.size (.int .i64 k1) (.int .i64 k2) (.int .i64 k3) (.string k4) (.slice k5 k6 k7)) w.heap.size (.int .i64 4) (.int .i64 k) (.int .i64 0) (.string ⟨#[]⟩) (.slice (some ⟨w5.heap.size, 0, none⟩) 1 1)).heap.size = w5.heap.size := by rw [writ_size, writ_size]
          refine HC2.out.fina (by rw [un_bind]; rfl) (Got.bind HG.out (fun a r _ ha => ?_) fun a ha => ⟨.mk 4 k 0 bE [a], ?_⟩)
          all_goals exact ⟨_, rfl, ⟨by show (_ : Int) ≤ 0; decide, by show (0 : Int) ≤ _; decide⟩, fr_one ((FrE.keep ha (Keep.writ (by simp) _ _ _ _ _) (Nat.le_refl _)).writ (by simp; omega) _ _ _ _ _) (Nat.le_refl _) (by rw [hz]; omega) hz.symm⟩
    · obtain rfl : k = 29 := by omega
      have hun : unAt r = 0 := unAt_none HNO.out
      have ex : pU (n + 1) d r = pP n d r := by rw [pU, if_neg (by omega), hun, if_pos rfl]
      have EX := Lib.hid ex
      have hN2 := HN.out
      rw [ex] at hN2
      replace HN := Lib.hid (show Ends ((PR.ok () r).bind fun _ r => pP n d r) from hN2)
      clear hun ex hN2 HNO
      go_wp2_with (first
        | (go_at_call 138; (with_reducible refine (HP.out.call HC.out.st HN.out).mono ?_); rintro e w2 ⟨v, rfl, hD, hG⟩
           obtain ⟨k1, k2, k3, k4, k5, k6, k7, rfl⟩ := got_form hG HN.out
           have hz1 := HC.out.size
           have HG := Lib.hid hG
           replace HC := Lib.hid (HC.out.step hD)
           clear hD hG
           obtain ⟨⟨c0, c1, c2, c3, c4⟩, fz⟩ := HC.out.own))
      obtain ⟨f0, f1, f2, f3, f4⟩ := HC.out.read (.int .i64 k1) (.int .i64 k2) (.int .i64 k3) (.string k4) (.slice k5 k6 k7)
      refine bodyPost_ret (v := .agg #[.int .i64 k1, .int .i64 k2, .int .i64 k3, .string k4, .slice k5 k6 k7]) (by simp [results, Tryz.results124, go_sem, f0, f1, f2, f3, f4]) rfl ?_
      rw [EX.out]
      exact HC.out.fin (X := pP n d r) rfl (HG.out.imp fun a ha => FrE.writ ha hz1 _ _ _ _ _)
theorem unary_any {b : Nat} {V : Value} {all : List Tok} {n : Nat} {d : Int} (hE : d ≤ 100 → CE b V all n 1 (d + 1)) (hU : d ≤ 100 → CU b V all n (d + 1)) (hP : d ≤ 100 → CP b V all n d) (hd : 0 ≤ d ∧ d ≤ 1000) : CU b V all (n + 1) d := by
  intro w x h hn
  by_cases hd2 : d ≤ 100
  · cases ho : isOver x with
    | true => exact (unary_none h hd ho hd2).mono fun e w' ⟨he, hD⟩ => he ▸ un_over ho hD ex0 (ex0_fr _ _)
    | false =>
      cases x with
      | ok u r => exact unary_live (hE hd2) (hU hd2) (hP hd2) h ⟨hd.1, hd2⟩ hn
      | bad r => cases ho
      | deep r => cases ho
      | out => exact absurd h id
  · have hd3 : 100 < d := by omega
    cases x with
    | ok u r =>
      have ex : pU (n + 1) d r = .deep r := by rw [pU, if_pos hd3]
      show Calls _ _ _ _ (Gave b V all w (pU (n + 1) d r) _)
      rw [ex]
      exact (unary_deep (dp := false) h hd hd3).mono fun e w' ⟨he, hD⟩ => ⟨_, he, hD, ex0, ex0_fr _ _⟩
    | bad r => exact (unary_bad (r := r) rfl h hd rfl hd3).mono fun e w' ⟨he, hD⟩ => ⟨_, he, hD, ex0, ex0_fr _ _⟩
    | deep r => exact (unary_deep (dp := true) h hd hd3).mono fun e w' ⟨he, hD⟩ => ⟨_, he, hD, ex0, ex0_fr _ _⟩
    | out => exact absurd h id
end Go.Proofs.YtakijoblbmfadaaGreatDoor
