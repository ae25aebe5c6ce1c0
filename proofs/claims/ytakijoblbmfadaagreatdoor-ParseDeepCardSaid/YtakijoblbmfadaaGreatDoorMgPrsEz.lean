import Derived.Test.YtakijoblbmfadaaGreatDoorMgPrsEx
import Derived.IntWalk
set_option linter.unusedSimpArgs false
set_option linter.unusedVariables false
/- The developers' parser: the tightest parts; levels; every expression. (By tools/gen_prsez.py.) -/
namespace Go.Proofs.YtakijoblbmfadaaGreatDoor
open Go.RowKit
theorem unFrom_of {s : List UInt8} {l : List Tok} (h : isS s l = true) : ∀ {x : List Int}, (∀ a ∈ x, sgT a ≠ s) → unFrom l x = 0
  | [], _ => rfl
  | a :: x, ha => by
    rw [unFrom, if_neg (by rw [sign_two h (ha a (List.mem_cons_self ..)).symm]; decide)]
    exact unFrom_of h fun c hc => ha c (List.mem_cons_of_mem _ hc)
theorem unAt_sign {s : List UInt8} {l : List Tok} (h : isS s l = true) (hs : ∀ a ∈ ones, sgT a ≠ s) : unAt l = 0 := unFrom_of h hs
theorem isS_kind2 {s : List UInt8} {l : List Tok} (h : hdK l ≠ 2) : isS s l = false := by
  cases e : isS s l with
  | false => rfl
  | true => exact absurd (isS_kind e).1 h
theorem unFrom_kind {l : List Tok} (h : hdK l ≠ 2) : ∀ {x : List Int}, unFrom l x = 0
  | [] => rfl
  | a :: x => by rw [unFrom, if_neg (by rw [isS_kind2 h]; decide)]; exact unFrom_kind h
theorem ones_paren : ∀ a ∈ ones, sgT a ≠ [40] := by decide
theorem ones_true : ∀ a ∈ ones, sgT a ≠ sTrue := by decide
theorem ones_false : ∀ a ∈ ones, sgT a ≠ sFalse := by decide
theorem ones_read : ∀ a ∈ ones, sgT a ≠ sRead := by decide
/-! ### what the plain function says where such a token stands -/
theorem pU_two {n : Nat} {d : Int} {r : List Tok} (hd : d ≤ 100) (hu : unAt r = 0) : pU (n + 2) d r = pP (n + 1) d r := by rw [pU, if_neg (by omega), if_pos hu]
theorem pU_one0 {d : Int} {r : List Tok} (hd : d ≤ 100) (hu : unAt r = 0) : pU 1 d r = .out := by rw [pU, if_neg (by omega), if_pos hu, pP]
theorem pU_paren {n : Nat} {d : Int} {r : List Tok} (hd : d ≤ 100) (h : isS [40] r = true) : pU (n + 2) d r = pBr n (d + 1) r := by
  rw [pU_two hd (unAt_sign h ones_paren), pP, if_pos h]
  unfold pBr must
  rw [if_pos h]
  rfl
theorem pU_true {n : Nat} {d : Int} {r : List Tok} (hd : d ≤ 100) (h : isS sTrue r = true) : pU (n + 2) d r = .ok (.mk 2 0 1 bE []) r.tail := by
  rw [pU_two hd (unAt_sign h ones_true), pP, sign_two h (by decide), if_neg (by decide), if_pos h]
theorem pU_false {n : Nat} {d : Int} {r : List Tok} (hd : d ≤ 100) (h : isS sFalse r = true) : pU (n + 2) d r = .ok (.mk 2 0 0 bE []) r.tail := by
  rw [pU_two hd (unAt_sign h ones_false), pP, sign_two h (by decide), sign_two h (by decide), if_neg (by decide), if_neg (by decide), if_pos h]
theorem pU_read {n : Nat} {d : Int} {r : List Tok} (hd : d ≤ 100) (h : isS sRead r = true) : pU (n + 2) d r = (must [40] r.tail).bind fun _ r => (must [41] r).bind fun _ r => .ok (.mk 8 0 0 bE []) r := by
  rw [pU_two hd (unAt_sign h ones_read), pP, sign_two h (by decide), sign_two h (by decide), sign_two h (by decide), if_neg (by decide), if_neg (by decide), if_neg (by decide), if_pos h]
theorem pU_num {n : Nat} {d : Int} {r : List Tok} (hd : d ≤ 100) (h : hdK r = 0) : pU (n + 2) d r = (pNu r).bind fun v r => .ok (.mk 1 0 v bE []) r := by
  have hk : hdK r ≠ 2 := by rw [h]; decide
  rw [pU_two hd (unFrom_kind hk), pP, isS_kind2 hk, isS_kind2 hk, isS_kind2 hk, isS_kind2 hk, if_neg (by decide), if_neg (by decide), if_neg (by decide), if_neg (by decide), if_pos h]
  unfold pNu want
  rw [if_pos h]
  rfl
theorem pU_name {n : Nat} {d : Int} {r : List Tok} (hd : d ≤ 100) (h : hdK r = 1) : pU (n + 2) d r = pUs n d r := by
  have hk : hdK r ≠ 2 := by rw [h]; decide
  rw [pU_two hd (unFrom_kind hk), pP, isS_kind2 hk, isS_kind2 hk, isS_kind2 hk, isS_kind2 hk, if_neg (by decide), if_neg (by decide), if_neg (by decide), if_neg (by decide), if_neg (by omega)]
  rfl
theorem pU_else {n : Nat} {d : Int} {r : List Tok} (hd : d ≤ 100) (h1 : isS [40] r = false) (h2 : isS sTrue r = false) (h3 : isS sFalse r = false) (h4 : isS sRead r = false) (h5 : hdK r ≠ 0) (h6 : hdK r ≠ 1) (hn : Ends (pU (n + 1) d r)) : pU (n + 1) d r = pOn n d r := by
  by_cases hu : unAt r = 0
  · cases n with
    | zero => rw [pU_one0 hd hu] at hn; exact absurd hn id
    | succ n =>
      rw [pU_two hd hu, pP, h1, h2, h3, h4, if_neg (by decide), if_neg (by decide), if_neg (by decide), if_neg (by decide), if_neg h5]
      unfold pOn want
      rw [if_neg h6, if_pos hu]
      rfl
  · unfold pOn
    rw [pU, if_neg (by omega), if_neg hu, if_neg hu]
    by_cases h23 : 23 ≤ unAt r
    · rw [if_pos h23, if_pos h23]
      unfold pBr
      cases must [40] r.tail with
      | ok u r1 =>
        show ((pE n 1 (d + 1) r1).bind _) = (((pE n 1 (d + 1) r1).bind _).bind _)
        cases pE n 1 (d + 1) r1 with
        | ok e r2 =>
          show ((must [41] r2).bind _) = (((must [41] r2).bind _).bind _)
          cases must [41] r2 <;> rfl
        | _ => rfl
      | _ => rfl
    · rw [if_neg h23, if_neg h23]
theorem done_any {b g n : Nat} {d : Int} (hd : 0 ≤ d ∧ d ≤ 1000) (hB : DB b g n (d + 1)) (hT : DT b g n (d + 1)) {w : World} {r : List Tok} (h : Lv b g r w) (hn : Ends (pOn n d r)) :
    Calls Tryz.prog 155 #[.pointer (some ⟨b, 0, none⟩), .int .i64 d] w (Gets b g w (pOn n d r) (FrE w.heap.size)) := by
  by_cases h0 : unAt r = 0
  · exact done_bad h h0
  · by_cases h23 : 23 ≤ unAt r
    · exact done_conv hd hB h _ rfl h0 h23 hn
    · exact done_sign hd hT h _ rfl h0 h23 hn
/-! ### the tightest parts -/
theorem bind_self {α : Type} (x : PR α) : x = x.bind fun a r => .ok a r := by cases x <;> rfl
set_option maxRecDepth 100000 in
theorem dtight_paren {b g n : Nat} {d : Int} (hd : 0 ≤ d ∧ d ≤ 100) (hB : DB b g n (d + 1)) {w : World} {r : List Tok} (h : Lv b g r w) (h1 : isS [40] r = true) (hn : Ends (pU (n + 2) d r)) :
    Calls Tryz.prog 149 #[.pointer (some ⟨b, 0, none⟩), .int .i64 d] w (Gets b g w (pU (n + 2) d r) (FrE w.heap.size)) := by
  obtain ⟨T, hT⟩ : ∃ T, T = pU (n + 2) d r := ⟨_, rfl⟩
  rw [← hT] at hn ⊢
  have HC := Lib.hid (At.start h exBox)
  have HTE := Lib.hid hn
  obtain ⟨hd0, hd100⟩ := hd
  have hz0 : w.heap.size < (w.alloc exBox).heap.size := by rw [alloc_size]; omega
  have B1 := Lib.hid (show isS (⟨#[40]⟩ : ByteArray).data.toList r = true from h1)
  have HB := Lib.hid hB
  have HN := Lib.hid (show Ends (pBr n (d + 1) r) from by rw [hT, pU_paren hd100 h1] at hn; exact hn)
  clear hB
  have HT := Lib.hid (show T = (pBr n (d + 1) r).bind fun e r => .ok e r from hT.trans ((pU_paren hd100 h1).trans (bind_self _)))
  clear h h1 hn hT
  go_enter Tryz.func149, Tryz.ntmps149
  go_wp2_with (first
    | (go_at_call 119; (with_reducible refine (dlimit_ok HC.out.lv d hd100).mono ?_); rintro e w91 ⟨rfl, rfl⟩)
    | (go_at_call 85; (with_reducible refine (dsees_any HC.out.lv _ true B1.out).mono ?_); rintro e w92 ⟨rfl, rfl⟩)
    | (go_at_call 121; (with_reducible refine (HB.out.call HC.out.lv HN.out).mono ?_); rintro e w2 (⟨a, r2, v, hx, rfl, hL, hO, hF⟩ | ⟨k, r2, hx, rfl, hO⟩)
       rotate_left
       exact ⟨rfl, Gets.no (hx.go HT.out) (HC.out.off hO)⟩
       obtain ⟨k1, k2, k3, k4, k5, k6, k7, rfl⟩ := hF.form
       have HF := Lib.hid hF
       replace HT := Lib.hid (show T = .ok a r2 from HT.out.trans (by rw [show pBr n (d + 1) r = .ok a r2 from hx]; rfl))
       replace HC := Lib.hid (HC.out.step hL hO)
       have hz1 := hz0
       obtain ⟨⟨c0, c1, c2, c3, c4⟩, fz⟩ := HC.out.five
       clear hx hL hO hF))
  obtain ⟨f0, f1, f2, f3, f4⟩ := HC.out.read (.int .i64 k1) (.int .i64 k2) (.int .i64 k3) (.string k4) (.slice k5 k6 k7)
  refine bodyPost_ret (v := .agg #[.int .i64 k1, .int .i64 k2, .int .i64 k3, .string k4, .slice k5 k6 k7]) (by simp [results, Tryz.results149, go_sem, f0, f1, f2, f3, f4]) rfl ?_
  exact HC.out.fin HT.out (FrE.writ HF.out hz1 _ _ _ _ _)
set_option maxRecDepth 100000 in
theorem dtight_true {b g n : Nat} {d : Int} (hd : 0 ≤ d ∧ d ≤ 100)  {w : World} {r : List Tok} (h : Lv b g r w) (h1 : isS [40] r = false) (h2 : isS sTrue r = true) (hn : Ends (pU (n + 2) d r)) :
    Calls Tryz.prog 149 #[.pointer (some ⟨b, 0, none⟩), .int .i64 d] w (Gets b g w (pU (n + 2) d r) (FrE w.heap.size)) := by
  obtain ⟨T, hT⟩ : ∃ T, T = pU (n + 2) d r := ⟨_, rfl⟩
  rw [← hT] at hn ⊢
  have HC := Lib.hid (At.start h exBox)
  have HTE := Lib.hid hn
  obtain ⟨hd0, hd100⟩ := hd
  have hz0 : w.heap.size < (w.alloc exBox).heap.size := by rw [alloc_size]; omega
  have B1 := Lib.hid (show isS (⟨#[40]⟩ : ByteArray).data.toList r = false from h1)
  have B2 := Lib.hid (show isS (⟨#[116, 114, 117, 101]⟩ : ByteArray).data.toList r = true from h2)
  have HT := Lib.hid (show T = .ok (.mk 2 0 1 bE []) r.tail from hT.trans (pU_true hd100 h2))
  clear h h1 h2 hn hT
  go_enter Tryz.func149, Tryz.ntmps149
  go_wp2_with (first
    | (go_at_call 119; (with_reducible refine (dlimit_ok HC.out.lv d hd100).mono ?_); rintro e w91 ⟨rfl, rfl⟩)
    | (go_at_call 85; (with_reducible refine (dsees_any HC.out.lv _ false B1.out).mono ?_); rintro e w92 ⟨rfl, rfl⟩)
    | (go_at_call 60; (with_reducible refine (dtake_yes HC.out.lv _ B2.out).mono ?_); rintro e w1 ⟨rfl, hL, hO⟩
       replace HC := Lib.hid (HC.out.step hL hO)
       obtain ⟨⟨c0, c1, c2, c3, c4⟩, fz⟩ := HC.out.five
       clear hL hO))
  obtain ⟨f0, f1, f2, f3, f4⟩ := HC.out.read (.int .i64 2) (.int .i64 0) (.int .i64 1) (.string ⟨#[]⟩) (.slice none 0 0)
  refine bodyPost_ret (v := .agg #[.int .i64 2, .int .i64 0, .int .i64 1, .string ⟨#[]⟩, .slice none 0 0]) (by simp [results, Tryz.results149, go_sem, f0, f1, f2, f3, f4]) rfl ?_
  exact HC.out.fin HT.out (fr_leaf _ _ 2 0 1 ⟨#[]⟩ ⟨by decide, by decide⟩)
set_option maxRecDepth 100000 in
theorem dtight_false {b g n : Nat} {d : Int} (hd : 0 ≤ d ∧ d ≤ 100)  {w : World} {r : List Tok} (h : Lv b g r w) (h1 : isS [40] r = false) (h2 : isS sTrue r = false) (h3 : isS sFalse r = true) (hn : Ends (pU (n + 2) d r)) :
    Calls Tryz.prog 149 #[.pointer (some ⟨b, 0, none⟩), .int .i64 d] w (Gets b g w (pU (n + 2) d r) (FrE w.heap.size)) := by
  obtain ⟨T, hT⟩ : ∃ T, T = pU (n + 2) d r := ⟨_, rfl⟩
  rw [← hT] at hn ⊢
  have HC := Lib.hid (At.start h exBox)
  have HTE := Lib.hid hn
  obtain ⟨hd0, hd100⟩ := hd
  have hz0 : w.heap.size < (w.alloc exBox).heap.size := by rw [alloc_size]; omega
  have B1 := Lib.hid (show isS (⟨#[40]⟩ : ByteArray).data.toList r = false from h1)
  have B2 := Lib.hid (show isS (⟨#[116, 114, 117, 101]⟩ : ByteArray).data.toList r = false from h2)
  have B3 := Lib.hid (show isS (⟨#[102, 97, 108, 115, 101]⟩ : ByteArray).data.toList r = true from h3)
  have HT := Lib.hid (show T = .ok (.mk 2 0 0 bE []) r.tail from hT.trans (pU_false hd100 h3))
  clear h h1 h2 h3 hn hT
  go_enter Tryz.func149, Tryz.ntmps149
  go_wp2_with (first
    | (go_at_call 119; (with_reducible refine (dlimit_ok HC.out.lv d hd100).mono ?_); rintro e w91 ⟨rfl, rfl⟩)
    | (go_at_call 85; (with_reducible refine (dsees_any HC.out.lv _ false B1.out).mono ?_); rintro e w92 ⟨rfl, rfl⟩)
    | (go_at_call 60; (with_reducible refine (dtake_no HC.out.lv _ B2.out).mono ?_); rintro e w90 ⟨rfl, rfl⟩)
    | (go_at_call 60; (with_reducible refine (dtake_yes HC.out.lv _ B3.out).mono ?_); rintro e w1 ⟨rfl, hL, hO⟩
       replace HC := Lib.hid (HC.out.step hL hO)
       obtain ⟨⟨c0, c1, c2, c3, c4⟩, fz⟩ := HC.out.five
       clear hL hO))
  obtain ⟨f0, f1, f2, f3, f4⟩ := HC.out.read (.int .i64 2) (.int .i64 0) (.int .i64 0) (.string ⟨#[]⟩) (.slice none 0 0)
  refine bodyPost_ret (v := .agg #[.int .i64 2, .int .i64 0, .int .i64 0, .string ⟨#[]⟩, .slice none 0 0]) (by simp [results, Tryz.results149, go_sem, f0, f1, f2, f3, f4]) rfl ?_
  exact HC.out.fin HT.out (fr_leaf _ _ 2 0 0 ⟨#[]⟩ ⟨by decide, by decide⟩)
set_option maxRecDepth 100000 in
theorem dtight_read {b g n : Nat} {d : Int} (hd : 0 ≤ d ∧ d ≤ 100)  {w : World} {r : List Tok} (h : Lv b g r w) (h1 : isS [40] r = false) (h2 : isS sTrue r = false) (h3 : isS sFalse r = false) (h4 : isS sRead r = true) (hn : Ends (pU (n + 2) d r)) :
    Calls Tryz.prog 149 #[.pointer (some ⟨b, 0, none⟩), .int .i64 d] w (Gets b g w (pU (n + 2) d r) (FrE w.heap.size)) := by
  obtain ⟨T, hT⟩ : ∃ T, T = pU (n + 2) d r := ⟨_, rfl⟩
  rw [← hT] at hn ⊢
  have HC := Lib.hid (At.start h exBox)
  have HTE := Lib.hid hn
  obtain ⟨hd0, hd100⟩ := hd
  have hz0 : w.heap.size < (w.alloc exBox).heap.size := by rw [alloc_size]; omega
  have B1 := Lib.hid (show isS (⟨#[40]⟩ : ByteArray).data.toList r = false from h1)
  have B2 := Lib.hid (show isS (⟨#[116, 114, 117, 101]⟩ : ByteArray).data.toList r = false from h2)
  have B3 := Lib.hid (show isS (⟨#[102, 97, 108, 115, 101]⟩ : ByteArray).data.toList r = false from h3)
  have B4 := Lib.hid (show isS (⟨#[114, 101, 97, 100]⟩ : ByteArray).data.toList r = true from h4)
  have HT := Lib.hid (show T = (must [40] r.tail).bind fun _ r => (must [41] r).bind fun _ r => .ok (.mk 8 0 0 bE []) r from hT.trans (pU_read hd100 h4))
  clear h h1 h2 h3 h4 hn hT
  go_enter Tryz.func149, Tryz.ntmps149
  go_wp2_with (first
    | (go_at_call 119; (with_reducible refine (dlimit_ok HC.out.lv d hd100).mono ?_); rintro e w91 ⟨rfl, rfl⟩)
    | (go_at_call 85; (with_reducible refine (dsees_any HC.out.lv _ false B1.out).mono ?_); rintro e w92 ⟨rfl, rfl⟩)
    | (go_at_call 60; (with_reducible refine (dtake_no HC.out.lv _ B2.out).mono ?_); rintro e w90 ⟨rfl, rfl⟩)
    | (go_at_call 60; (with_reducible refine (dtake_no HC.out.lv _ B3.out).mono ?_); rintro e w91 ⟨rfl, rfl⟩)
    | (go_at_call 60; (with_reducible refine (dtake_yes HC.out.lv _ B4.out).mono ?_); rintro e w1 ⟨rfl, hL, hO⟩
       replace HC := Lib.hid (HC.out.step hL hO)
       obtain ⟨⟨c0, c1, c2, c3, c4⟩, fz⟩ := HC.out.five
       clear hL hO)
    | (go_at_call 83; (with_reducible refine (dwant_any HC.out.lv ⟨#[40]⟩).mono ?_); rintro e w2 (⟨u, r2, v, hx, rfl, hL, hO, rfl⟩ | ⟨k, r2, hx, rfl, hO⟩)
       rotate_left
       exact ⟨rfl, Gets.no (hx.go HT.out) (HC.out.off hO)⟩
       replace HT := Lib.hid (show T = (must [41] r2).bind fun _ r => .ok (.mk 8 0 0 bE []) r from HT.out.trans (by rw [show must [40] r.tail = .ok u r2 from hx]; rfl))
       replace HC := Lib.hid (HC.out.step hL hO)
       obtain ⟨⟨c0, c1, c2, c3, c4⟩, fz⟩ := HC.out.five
       clear hx hL hO)
    | (go_at_call 83; (with_reducible refine (dwant_any HC.out.lv ⟨#[41]⟩).mono ?_); rintro e w3 (⟨u, r3, v, hx, rfl, hL, hO, rfl⟩ | ⟨k, r3, hx, rfl, hO⟩)
       rotate_left
       exact ⟨rfl, Gets.no (hx.go HT.out) (HC.out.off hO)⟩
       replace HT := Lib.hid (show T = .ok (.mk 8 0 0 bE []) r3 from HT.out.trans (by rw [show must [41] r2 = .ok u r3 from hx]; rfl))
       replace HC := Lib.hid (HC.out.step hL hO)
       obtain ⟨⟨c0, c1, c2, c3, c4⟩, fz⟩ := HC.out.five
       clear hx hL hO))
  obtain ⟨f0, f1, f2, f3, f4⟩ := HC.out.read (.int .i64 8) (.int .i64 0) (.int .i64 0) (.string ⟨#[]⟩) (.slice none 0 0)
  refine bodyPost_ret (v := .agg #[.int .i64 8, .int .i64 0, .int .i64 0, .string ⟨#[]⟩, .slice none 0 0]) (by simp [results, Tryz.results149, go_sem, f0, f1, f2, f3, f4]) rfl ?_
  exact HC.out.fin HT.out (fr_leaf _ _ 8 0 0 ⟨#[]⟩ ⟨by decide, by decide⟩)
theorem num_range {b g : Nat} {w : World} {r r2 : List Tok} {a : Int} (h : Lv b g r w) (hx : pNu r = .ok a r2) : i64R a := by
  unfold pNu want at hx
  by_cases hk : hdK r = 0
  · rw [if_pos hk] at hx
    injection hx with h1 _
    have h2 := (numB_parts (h.num hk).2).2.2
    have h3 : (decV 0 (⟨(hdT r).toArray⟩ : ByteArray).data.toList) = decV 0 (hdT r) := by simp
    have h4 : a = ((decV 0 (hdT r) : Nat) : Int) := by rw [← h1, h3]
    unfold i64R
    omega
  · rw [if_neg hk] at hx; cases hx
set_option maxRecDepth 100000 in
theorem dtight_num {b g n : Nat} {d : Int} (hd : 0 ≤ d ∧ d ≤ 100)  {w : World} {r : List Tok} (h : Lv b g r w) (h1 : isS [40] r = false) (h2 : isS sTrue r = false) (h3 : isS sFalse r = false) (h4 : isS sRead r = false) (h5 : hdK r = 0) (hn : Ends (pU (n + 2) d r)) :
    Calls Tryz.prog 149 #[.pointer (some ⟨b, 0, none⟩), .int .i64 d] w (Gets b g w (pU (n + 2) d r) (FrE w.heap.size)) := by
  obtain ⟨T, hT⟩ : ∃ T, T = pU (n + 2) d r := ⟨_, rfl⟩
  rw [← hT] at hn ⊢
  have HC := Lib.hid (At.start h exBox)
  have HTE := Lib.hid hn
  obtain ⟨hd0, hd100⟩ := hd
  have hz0 : w.heap.size < (w.alloc exBox).heap.size := by rw [alloc_size]; omega
  have B1 := Lib.hid (show isS (⟨#[40]⟩ : ByteArray).data.toList r = false from h1)
  have B2 := Lib.hid (show isS (⟨#[116, 114, 117, 101]⟩ : ByteArray).data.toList r = false from h2)
  have B3 := Lib.hid (show isS (⟨#[102, 97, 108, 115, 101]⟩ : ByteArray).data.toList r = false from h3)
  have B4 := Lib.hid (show isS (⟨#[114, 101, 97, 100]⟩ : ByteArray).data.toList r = false from h4)
  have A5 := Lib.hid (show decide (hdK r = 0) = true by simp [h5])
  have HT := Lib.hid (show T = (pNu r).bind fun v r => .ok (.mk 1 0 v bE []) r from hT.trans (pU_num hd100 h5))
  clear h h1 h2 h3 h4 h5 hn hT
  go_enter Tryz.func149, Tryz.ntmps149
  go_wp2_with (first
    | (go_at_call 119; (with_reducible refine (dlimit_ok HC.out.lv d hd100).mono ?_); rintro e w91 ⟨rfl, rfl⟩)
    | (go_at_call 85; (with_reducible refine (dsees_any HC.out.lv _ false B1.out).mono ?_); rintro e w92 ⟨rfl, rfl⟩)
    | (go_at_call 60; (with_reducible refine (dtake_no HC.out.lv _ B2.out).mono ?_); rintro e w90 ⟨rfl, rfl⟩)
    | (go_at_call 60; (with_reducible refine (dtake_no HC.out.lv _ B3.out).mono ?_); rintro e w91 ⟨rfl, rfl⟩)
    | (go_at_call 60; (with_reducible refine (dtake_no HC.out.lv _ B4.out).mono ?_); rintro e w92 ⟨rfl, rfl⟩)
    | (go_at_call 57; (with_reducible refine (dahead_any HC.out.lv _ true A5.out).mono ?_); rintro e w93 ⟨rfl, rfl⟩)
    | (go_at_call 86; (with_reducible refine (dnumber_any HC.out.lv).mono ?_); rintro e w2 (⟨a, r2, v, hx, rfl, hL, hO, rfl⟩ | ⟨k, r2, hx, rfl, hO⟩)
       rotate_left
       exact ⟨rfl, Gets.no (hx.go HT.out) (HC.out.off hO)⟩
       replace HT := Lib.hid (show T = .ok (.mk 1 0 a bE []) r2 from HT.out.trans (by rw [show pNu r = .ok a r2 from hx]; rfl))
       have HR := Lib.hid (num_range HC.out.lv hx)
       replace HC := Lib.hid (HC.out.step hL hO)
       obtain ⟨⟨c0, c1, c2, c3, c4⟩, fz⟩ := HC.out.five
       clear hx hL hO))
  obtain ⟨f0, f1, f2, f3, f4⟩ := HC.out.read (.int .i64 1) (.int .i64 0) (.int .i64 a) (.string ⟨#[]⟩) (.slice none 0 0)
  refine bodyPost_ret (v := .agg #[.int .i64 1, .int .i64 0, .int .i64 a, .string ⟨#[]⟩, .slice none 0 0]) (by simp [results, Tryz.results149, go_sem, f0, f1, f2, f3, f4]) rfl ?_
  exact HC.out.fin HT.out (fr_leaf _ _ 1 0 a ⟨#[]⟩ HR.out)
set_option maxRecDepth 100000 in
theorem dtight_name {b g n : Nat} {d : Int} (hd : 0 ≤ d ∧ d ≤ 100) (hA : DA b g n (d + 1)) (hE : DX b g n (d + 1)) {w : World} {r : List Tok} (h : Lv b g r w) (h1 : isS [40] r = false) (h2 : isS sTrue r = false) (h3 : isS sFalse r = false) (h4 : isS sRead r = false) (h5 : hdK r ≠ 0) (h6 : hdK r = 1) (hn : Ends (pU (n + 3) d r)) :
    Calls Tryz.prog 149 #[.pointer (some ⟨b, 0, none⟩), .int .i64 d] w (Gets b g w (pU (n + 3) d r) (FrE w.heap.size)) := by
  obtain ⟨T, hT⟩ : ∃ T, T = pU (n + 3) d r := ⟨_, rfl⟩
  rw [← hT] at hn ⊢
  have HC := Lib.hid (At.start h exBox)
  have HTE := Lib.hid hn
  obtain ⟨hd0, hd100⟩ := hd
  have hz0 : w.heap.size < (w.alloc exBox).heap.size := by rw [alloc_size]; omega
  have B1 := Lib.hid (show isS (⟨#[40]⟩ : ByteArray).data.toList r = false from h1)
  have B2 := Lib.hid (show isS (⟨#[116, 114, 117, 101]⟩ : ByteArray).data.toList r = false from h2)
  have B3 := Lib.hid (show isS (⟨#[102, 97, 108, 115, 101]⟩ : ByteArray).data.toList r = false from h3)
  have B4 := Lib.hid (show isS (⟨#[114, 101, 97, 100]⟩ : ByteArray).data.toList r = false from h4)
  have A5 := Lib.hid (show decide (hdK r = 0) = false by simp [h5])
  have A6 := Lib.hid (show decide (hdK r = 1) = true by simp [h6])
  have HA := Lib.hid hA
  have HE := Lib.hid hE
  have HK := Lib.hid h6
  have HN := Lib.hid (show Ends (pUs (n + 1) d r) from by rw [hT, pU_name hd100 h6] at hn; exact hn)
  clear hA hE
  have HT := Lib.hid (show T = (pUs (n + 1) d r).bind fun e r => .ok e r from hT.trans ((pU_name hd100 h6).trans (bind_self _)))
  clear h h1 h2 h3 h4 h5 h6 hn hT
  go_enter Tryz.func149, Tryz.ntmps149
  go_wp2_with (first
    | (go_at_call 119; (with_reducible refine (dlimit_ok HC.out.lv d hd100).mono ?_); rintro e w91 ⟨rfl, rfl⟩)
    | (go_at_call 85; (with_reducible refine (dsees_any HC.out.lv _ false B1.out).mono ?_); rintro e w92 ⟨rfl, rfl⟩)
    | (go_at_call 60; (with_reducible refine (dtake_no HC.out.lv _ B2.out).mono ?_); rintro e w90 ⟨rfl, rfl⟩)
    | (go_at_call 60; (with_reducible refine (dtake_no HC.out.lv _ B3.out).mono ?_); rintro e w91 ⟨rfl, rfl⟩)
    | (go_at_call 60; (with_reducible refine (dtake_no HC.out.lv _ B4.out).mono ?_); rintro e w92 ⟨rfl, rfl⟩)
    | (go_at_call 57; (with_reducible refine (dahead_any HC.out.lv _ false A5.out).mono ?_); rintro e w93 ⟨rfl, rfl⟩)
    | (go_at_call 57; (with_reducible refine (dahead_any HC.out.lv _ true A6.out).mono ?_); rintro e w93 ⟨rfl, rfl⟩)
    | (go_at_call 154; (with_reducible refine (duse_any ⟨hd0, by omega⟩ HA.out HE.out HC.out.lv HK.out HN.out).mono ?_); rintro e w2 (⟨a, r2, v, hx, rfl, hL, hO, hF⟩ | ⟨k, r2, hx, rfl, hO⟩)
       rotate_left
       exact ⟨rfl, Gets.no (hx.go HT.out) (HC.out.off hO)⟩
       obtain ⟨k1, k2, k3, k4, k5, k6, k7, rfl⟩ := hF.form
       have HF := Lib.hid hF
       replace HT := Lib.hid (show T = .ok a r2 from HT.out.trans (by rw [show pUs (n + 1) d r = .ok a r2 from hx]; rfl))
       replace HC := Lib.hid (HC.out.step hL hO)
       have hz1 := hz0
       obtain ⟨⟨c0, c1, c2, c3, c4⟩, fz⟩ := HC.out.five
       clear hx hL hO hF))
  obtain ⟨f0, f1, f2, f3, f4⟩ := HC.out.read (.int .i64 k1) (.int .i64 k2) (.int .i64 k3) (.string k4) (.slice k5 k6 k7)
  refine bodyPost_ret (v := .agg #[.int .i64 k1, .int .i64 k2, .int .i64 k3, .string k4, .slice k5 k6 k7]) (by simp [results, Tryz.results149, go_sem, f0, f1, f2, f3, f4]) rfl ?_
  exact HC.out.fin HT.out (FrE.writ HF.out hz1 _ _ _ _ _)
set_option maxRecDepth 100000 in
theorem dtight_else {b g n : Nat} {d : Int} (hd : 0 ≤ d ∧ d ≤ 100) (hB : DB b g n (d + 1)) (hU : DT b g n (d + 1)) {w : World} {r : List Tok} (h : Lv b g r w) (h1 : isS [40] r = false) (h2 : isS sTrue r = false) (h3 : isS sFalse r = false) (h4 : isS sRead r = false) (h5 : hdK r ≠ 0) (h6 : hdK r ≠ 1) (hn : Ends (pU (n + 1) d r)) :
    Calls Tryz.prog 149 #[.pointer (some ⟨b, 0, none⟩), .int .i64 d] w (Gets b g w (pU (n + 1) d r) (FrE w.heap.size)) := by
  obtain ⟨T, hT⟩ : ∃ T, T = pU (n + 1) d r := ⟨_, rfl⟩
  rw [← hT] at hn ⊢
  have HC := Lib.hid (At.start h exBox)
  have HTE := Lib.hid hn
  obtain ⟨hd0, hd100⟩ := hd
  have hz0 : w.heap.size < (w.alloc exBox).heap.size := by rw [alloc_size]; omega
  have B1 := Lib.hid (show isS (⟨#[40]⟩ : ByteArray).data.toList r = false from h1)
  have B2 := Lib.hid (show isS (⟨#[116, 114, 117, 101]⟩ : ByteArray).data.toList r = false from h2)
  have B3 := Lib.hid (show isS (⟨#[102, 97, 108, 115, 101]⟩ : ByteArray).data.toList r = false from h3)
  have B4 := Lib.hid (show isS (⟨#[114, 101, 97, 100]⟩ : ByteArray).data.toList r = false from h4)
  have A5 := Lib.hid (show decide (hdK r = 0) = false by simp [h5])
  have A6 := Lib.hid (show decide (hdK r = 1) = false by simp [h6])
  have HB := Lib.hid hB
  have HU := Lib.hid hU
  have HN := Lib.hid (show Ends (pOn n d r) from by have h9 := hn; rw [hT] at h9; rw [← pU_else hd100 h1 h2 h3 h4 h5 h6 h9]; exact h9)
  clear hB hU
  have HT := Lib.hid (show T = (pOn n d r).bind fun e r => .ok e r from hT.trans ((pU_else hd100 h1 h2 h3 h4 h5 h6 (hT ▸ hn)).trans (bind_self _)))
  clear h h1 h2 h3 h4 h5 h6 hn hT
  go_enter Tryz.func149, Tryz.ntmps149
  go_wp2_with (first
    | (go_at_call 119; (with_reducible refine (dlimit_ok HC.out.lv d hd100).mono ?_); rintro e w91 ⟨rfl, rfl⟩)
    | (go_at_call 85; (with_reducible refine (dsees_any HC.out.lv _ false B1.out).mono ?_); rintro e w92 ⟨rfl, rfl⟩)
    | (go_at_call 60; (with_reducible refine (dtake_no HC.out.lv _ B2.out).mono ?_); rintro e w90 ⟨rfl, rfl⟩)
    | (go_at_call 60; (with_reducible refine (dtake_no HC.out.lv _ B3.out).mono ?_); rintro e w91 ⟨rfl, rfl⟩)
    | (go_at_call 60; (with_reducible refine (dtake_no HC.out.lv _ B4.out).mono ?_); rintro e w92 ⟨rfl, rfl⟩)
    | (go_at_call 57; (with_reducible refine (dahead_any HC.out.lv _ false A5.out).mono ?_); rintro e w93 ⟨rfl, rfl⟩)
    | (go_at_call 57; (with_reducible refine (dahead_any HC.out.lv _ false A6.out).mono ?_); rintro e w93 ⟨rfl, rfl⟩)
    | (go_at_call 155; (with_reducible refine (done_any ⟨hd0, by omega⟩ HB.out HU.out HC.out.lv HN.out).mono ?_); rintro e w2 (⟨a, r2, v, hx, rfl, hL, hO, hF⟩ | ⟨k, r2, hx, rfl, hO⟩)
       rotate_left
       exact ⟨rfl, Gets.no (hx.go HT.out) (HC.out.off hO)⟩
       obtain ⟨k1, k2, k3, k4, k5, k6, k7, rfl⟩ := hF.form
       have HF := Lib.hid hF
       replace HT := Lib.hid (show T = .ok a r2 from HT.out.trans (by rw [show pOn n d r = .ok a r2 from hx]; rfl))
       replace HC := Lib.hid (HC.out.step hL hO)
       have hz1 := hz0
       obtain ⟨⟨c0, c1, c2, c3, c4⟩, fz⟩ := HC.out.five
       clear hx hL hO hF))
  obtain ⟨f0, f1, f2, f3, f4⟩ := HC.out.read (.int .i64 k1) (.int .i64 k2) (.int .i64 k3) (.string k4) (.slice k5 k6 k7)
  refine bodyPost_ret (v := .agg #[.int .i64 k1, .int .i64 k2, .int .i64 k3, .string k4, .slice k5 k6 k7]) (by simp [results, Tryz.results149, go_sem, f0, f1, f2, f3, f4]) rfl ?_
  exact HC.out.fin HT.out (FrE.writ HF.out hz1 _ _ _ _ _)
set_option maxRecDepth 100000 in
theorem dtight_deep {b g n : Nat} {d : Int} (hd : 100 < d) {w : World} {r : List Tok} (h : Lv b g r w) :
    Calls Tryz.prog 149 #[.pointer (some ⟨b, 0, none⟩), .int .i64 d] w (Gets b g w (pU (n + 1) d r) (FrE w.heap.size)) := by
  have HC := Lib.hid (At.start h exBox)
  have HT := Lib.hid (show Fails (pU (n + 1) d r) 2 r by rw [pU, if_pos hd]; exact .inr ⟨rfl, rfl⟩)
  clear h
  go_enter Tryz.func149, Tryz.ntmps149
  go_wp2_with (first
  | (go_at_call 119; (with_reducible refine (dlimit_no HC.out.lv d hd).mono ?_); rintro e w2 ⟨rfl, hO⟩; exact ⟨rfl, Gets.no HT.out (HC.out.off hO)⟩))
theorem dtight_any {b g n : Nat} {d : Int} (hd : 0 ≤ d ∧ d ≤ 1000) (hB : d ≤ 100 → ∀ m, m ≤ n → DB b g m (d + 1)) (hU : d ≤ 100 → DT b g n (d + 1)) (hA : d ≤ 100 → ∀ m, m ≤ n → DA b g m (d + 1)) (hE : d ≤ 100 → ∀ m, m ≤ n → DX b g m (d + 1)) : DT b g (n + 1) d := by
  intro w r h hn
  by_cases hd2 : d ≤ 100
  · have hdd : 0 ≤ d ∧ d ≤ 100 := ⟨hd.1, hd2⟩
    have none0 : unAt r = 0 → ∃ m, n = m + 1 := fun hu => by
      cases n with
      | zero => rw [pU_one0 hd2 hu] at hn; exact absurd hn id
      | succ m => exact ⟨m, rfl⟩
    cases h1 : isS [40] r with
    | true => obtain ⟨m, rfl⟩ := none0 (unAt_sign h1 ones_paren); exact dtight_paren hdd (hB hd2 m (by omega)) h h1 hn
    | false =>
      cases h2 : isS sTrue r with
      | true => obtain ⟨m, rfl⟩ := none0 (unAt_sign h2 ones_true); exact dtight_true hdd h h1 h2 hn
      | false =>
        cases h3 : isS sFalse r with
        | true => obtain ⟨m, rfl⟩ := none0 (unAt_sign h3 ones_false); exact dtight_false hdd h h1 h2 h3 hn
        | false =>
          cases h4 : isS sRead r with
          | true => obtain ⟨m, rfl⟩ := none0 (unAt_sign h4 ones_read); exact dtight_read hdd h h1 h2 h3 h4 hn
          | false =>
            by_cases h5 : hdK r = 0
            · obtain ⟨m, rfl⟩ := none0 (unFrom_kind (by rw [h5]; decide)); exact dtight_num hdd h h1 h2 h3 h4 h5 hn
            · by_cases h6 : hdK r = 1
              · obtain ⟨m, rfl⟩ := none0 (unFrom_kind (by rw [h6]; decide))
                cases m with
                | zero =>
                  rw [pU_name hd2 h6] at hn
                  unfold pUs want at hn
                  rw [if_pos h6] at hn
                  simp only [PR.bind] at hn
                  rw [pN] at hn
                  exact absurd hn id
                | succ m => exact dtight_name hdd (hA hd2 m (by omega)) (hE hd2 m (by omega)) h h1 h2 h3 h4 h5 h6 hn
              · exact dtight_else hdd (hB hd2 n (Nat.le_refl _)) (hU hd2) h h1 h2 h3 h4 h5 h6 hn
  · exact dtight_deep (by omega) h
end Go.Proofs.YtakijoblbmfadaaGreatDoor

/- The developers' parser: levels; every expression. (By tools/gen_prsll.py.) -/
namespace Go.Proofs.YtakijoblbmfadaaGreatDoor
open Go.RowKit
theorem At.nest {b g k : Nat} {w W : World} {X : Obj} {r : List Tok} (h : At b g w X r W) (hk : w.heap.size < k) (c0 c1 c2 c3 c4 : Value) : At b g w X r (nest W k c0 c1 c2 c3 c4) := ((((h.set hk 0 c0).set hk 1 c1).set hk 2 c2).set hk 3 c3).set hk 4 c4
theorem Holds.off {L b g : Nat} {w w' : World} {a : Ex} (h : Holds L g w a) (ho : OffB b w.heap.size w w') (hb : b < L) (hg : g ≠ b) : Holds L g w' a := by
  obtain ⟨k, o, n, s, A, m, c, hrow, hV⟩ := h
  have hgl := (Array.getElem?_eq_some_iff.1 hrow).1
  refine ⟨k, o, n, s, A, m, c, (ho.block hgl hg).trans hrow, ?_⟩
  refine hV.imp fun k o u hc => ?_
  obtain ⟨hp, hc⟩ := mask_cell hc
  have h1 : L ≤ k ∧ k ≠ g := aMask_no.1 hp
  obtain ⟨h1, h2⟩ := h1
  have hkb : k ≠ b := by omega
  refine cell_mask (aMask_no.2 ⟨h1, h2⟩) ⟨Nat.lt_of_lt_of_le hc.1 ho.size, ?_⟩
  refine (World.cell?_of_block (w := w) ?_).trans hc.2
  exact ho.block hc.1 hkb
theorem dholds_end {gb : Nat} {w wr : World} {a : Ex} {v : Value} {c0 c1 c2 c3 c4 : Value} (h : ExV wr.heap.size (mask (aMask (w.heap.size + 1) gb) wr) a v) :
    FrE w.heap.size (writ wr w.heap.size c0 c1 c2 c3 c4) a v := by
  refine h.imp fun k o u hc => ?_
  obtain ⟨hp, hc⟩ := mask_cell hc
  obtain ⟨h1, h2⟩ := aMask_no.1 hp
  refine cell_mask (low_no.2 (by omega)) ⟨?_, ?_⟩
  · rw [writ_size]
    exact hc.1
  · refine (World.cell?_of_block (w := wr) ?_).trans hc.2
    exact writ_other (show k ≠ w.heap.size by omega) _ _ _ _ _
def LRel (b g : Nat) (w : World) (T : PR Ex) (n : Nat) (lev d : Int) (gb : Nat) (i : Value) (wr : World) : Prop :=
  ∃ (m : Nat) (a : Ex) (r : List Tok) (o : Int), i = .int .i64 o ∧ opAll lev r = o ∧ m ≤ n ∧ At b g w exBox (behind o r) wr ∧ Holds (w.heap.size + 1) gb wr a ∧ T = pL m lev d a r
theorem dround {b gb : Nat} {w wr w5 X : World} {a a5 : Ex} {o : Int} {k1 k2 k3 j1 j2 j3 : Int} {k4 j4 : ByteArray} {A0 A1 : Option Addr} {m0 q0 m1 q1 : Nat}
    (hV : ExV wr.heap.size (mask (aMask (w.heap.size + 1) gb) wr) a (.agg #[.int .i64 k1, .int .i64 k2, .int .i64 k3, .string k4, .slice A0 m0 q0])) (hO : OffB b wr.heap.size wr w5)
    (hF : FrE wr.heap.size w5 a5 (.agg #[.int .i64 j1, .int .i64 j2, .int .i64 j3, .string j4, .slice A1 m1 q1])) (hgr : gb < wr.heap.size) (hwr : w.heap.size < wr.heap.size) (hbw : b < w.heap.size) (hgw : w.heap.size < gb)
    (hWs : X.heap.size = w5.heap.size + 1) (hold5 : ∀ k, k < w5.heap.size → k ≠ gb → X.heap[k]? = w5.heap[k]?)
    (hWg : X.heap[gb]? = some (.cells #[.int .i64 5, .int .i64 o, .int .i64 0, .string ⟨#[]⟩, .slice (some ⟨w5.heap.size, 0, none⟩) 2 2] 84 (0, 0)))
    (hWrow : X.heap[w5.heap.size]? = some (.cells #[.int .i64 k1, .int .i64 k2, .int .i64 k3, .string k4, .slice A0 m0 q0, .int .i64 j1, .int .i64 j2, .int .i64 j3, .string j4, .slice A1 m1 q1] 84 (0, 0))) :
    Holds (w.heap.size + 1) gb X (.mk 5 o 0 bE [a, a5]) := by
  have hr3 : wr.heap.size ≤ w5.heap.size := hO.size
  have holdr : ∀ k, k < wr.heap.size → k ≠ gb → k ≠ b → X.heap[k]? = wr.heap[k]? := fun k hk hne hnb => by
    rw [hold5 k (by omega) hne, hO.block hk hnb]
  obtain ⟨args, rfl, hn, hs⟩ := exV_at hV
  obtain ⟨args2, rfl, hn2, hs2⟩ := exV_at hF
  refine ⟨5, o, 0, ⟨#[]⟩, some ⟨w5.heap.size, 0, none⟩, 2, 2, hWg, _, rfl, ⟨by show (_ : Int) ≤ 0; decide, by show (0 : Int) ≤ _; decide⟩, ?_⟩
  refine slE_at2 (w := mask (aMask (w.heap.size + 1) gb) X) ((mask_in (aMask_no.2 ⟨by omega, by omega⟩)).trans hWrow) (by rw [hWs]; omega) hn ?_ hn2 ?_
  · refine SlE.mask (w' := X) hs (by omega) fun k hk hp => ⟨hp, ?_⟩
    obtain ⟨h1, h2⟩ := aMask_no.1 hp
    exact holdr k hk h2 (by omega)
  · refine SlE.mask (w' := X) hs2 (by omega) fun k hk hp => ?_
    have h1 := low_no.1 hp
    exact ⟨aMask_no.2 ⟨by omega, by omega⟩, hold5 k hk (by omega)⟩
set_option maxRecDepth 100000 in
theorem dlevel_top {b g n : Nat} {d : Int} (hU : DT b g n d) : DL b g (n + 1) 11 d := by
  intro w r h hn
  have e1 : pE (n + 1) 11 d r = pU n d r := by rw [pE, if_pos (by decide)]
  rw [e1] at hn ⊢
  obtain ⟨T, hT⟩ : ∃ T, T = pU n d r := ⟨_, rfl⟩
  rw [← hT] at ⊢
  have HC := Lib.hid (At.start h exBox)
  have HE := Lib.hid hU
  have HN := Lib.hid hn
  have HT := Lib.hid (show T = (pU n d r).bind fun e r => .ok e r from hT.trans (bind_self _))
  clear h hn hT hU
  go_enter Tryz.func144, Tryz.ntmps144
  have hz1 := HC.out.size
  go_wp2_with (first
    | (go_at_call 149; (with_reducible refine (HE.out.call HC.out.lv HN.out).mono ?_); rintro e w1 (⟨a, r1, v, hx, rfl, hL, hO, hF⟩ | ⟨k, r1, hx, rfl, hO⟩)
       rotate_left
       exact ⟨rfl, Gets.no (hx.go HT.out) (HC.out.off hO)⟩
       obtain ⟨k1, k2, k3, k4, k5, k6, k7, rfl⟩ := hF.form
       have HF := Lib.hid hF
       replace HT := Lib.hid (show T = .ok a r1 from HT.out.trans (by rw [show pU n d r = .ok a r1 from hx]; rfl))
       replace HC := Lib.hid (HC.out.step hL hO)
       obtain ⟨⟨c0, c1, c2, c3, c4⟩, fz⟩ := HC.out.five
       clear hx hL hO hF))
  obtain ⟨f0, f1, f2, f3, f4⟩ := HC.out.read (.int .i64 k1) (.int .i64 k2) (.int .i64 k3) (.string k4) (.slice k5 k6 k7)
  refine bodyPost_ret (v := .agg #[.int .i64 k1, .int .i64 k2, .int .i64 k3, .string k4, .slice k5 k6 k7]) (by simp [results, Tryz.results144, go_sem, f0, f1, f2, f3, f4]) rfl ?_
  exact HC.out.fin HT.out (FrE.writ HF.out hz1 _ _ _ _ _)
set_option maxRecDepth 100000 in
theorem dlevel_lev {b g n : Nat} {lev d : Int} (hl1 : 1 ≤ lev) (hl2 : lev ≤ 10) (hE : ∀ m, m ≤ n → DL b g m (lev + 1) d) : DL b g (n + 1) lev d := by
  intro w r h hn
  have e1 : pE (n + 1) lev d r = (pE n (lev + 1) d r).bind fun a r => pL n lev d a r := by rw [pE, if_neg (by omega)]
  rw [e1] at hn ⊢
  obtain ⟨T, hT⟩ : ∃ T, T = (pE n (lev + 1) d r).bind fun a r => pL n lev d a r := ⟨_, rfl⟩
  have HN := Lib.hid (ends_left hn)
  rw [← hT] at hn ⊢
  have HC := Lib.hid (At.start h exBox)
  have HE := Lib.hid hE
  have HTE := Lib.hid hn
  have HT := Lib.hid hT
  have hl11 : (lev == 11) = false := by rw [beq_eq_false_iff_ne]; omega
  have hz0 : (w.alloc exBox).heap.size = w.heap.size + 1 := alloc_size _ _
  clear h hn hT hE e1
  go_enter Tryz.func144, Tryz.ntmps144
  go_wp2_with (first
  | (go_at_call 144; (with_reducible refine ((HE.out n (Nat.le_refl _)).call HC.out.lv HN.out).mono ?_); rintro e w1 (⟨a, r1, v, hx, rfl, hL, hO, hF⟩ | ⟨k, r1, hx, rfl, hO⟩)
     rotate_left
     exact ⟨rfl, Gets.no (hx.go HT.out) (HC.out.off hO)⟩
     obtain ⟨k1, k2, k3, k4, k5, k6, k7, rfl⟩ := hF.form
     have HF := Lib.hid hF
     replace HT := Lib.hid (show T = pL n lev d a r1 from HT.out.trans (by rw [show pE n (lev + 1) d r = .ok a r1 from hx]; rfl))
     replace HC := Lib.hid ((HC.out.step hL hO).alloc (.cells #[.int .i64 k1, .int .i64 k2, .int .i64 k3, .string k4, .slice k5 k6 k7] 84))
     obtain ⟨o, ho⟩ : ∃ o, opAll lev r1 = o := ⟨_, rfl⟩
     have HO := Lib.hid ho
     have hz1 : w.heap.size < w1.heap.size := by have := hO.size; omega
     clear hx hL hO hF ho)
  | (go_at_call 150; (with_reducible refine (dop_any HC.out.lv lev o HO.out).mono ?_); rintro e w2 ⟨rfl, hL, hO⟩
     have HS := Lib.hid (show LRel b g w T n lev d w1.heap.size (.int .i64 o) w2 from
       ⟨n, a, r1, o, rfl, HO.out, Nat.le_refl _, HC.out.step hL hO, Holds.off (holds_start (hz0 ▸ HF.out)) hO (by have := HC.out.lt; omega) (by have := HC.out.lt; omega), HT.out⟩)
     clear hL hO))
  clear HO HC HF HT HN
  go_loopw [8] (fun i wr => LRel b g w T n lev d w1.heap.size i wr) (fun _ wr => restL b wr)
  case atStart => exact HS.out
  case round =>
    obtain ⟨m, a1, r2, o1, rfl, ho1, hmn, hC, ⟨i1, i2, i3, i4, A0, m0, q0, hrow, hV⟩, hTy⟩ := hrel
    have HC := Lib.hid hC
    have HV := Lib.hid hV
    have HROW := Lib.hid hrow
    have HTY := Lib.hid hTy
    have hbw := hC.lt
    have hgr : w1.heap.size < wr.heap.size := (Array.getElem?_eq_some_iff.1 hrow).1
    have hzr := hC.size
    have hao : opAt lev r2 = o1 := by rw [← opAll_two hl1]; exact ho1
    obtain ⟨⟨p0, p1, p2, p3, p4⟩, pz⟩ := row_cells5 hrow
    obtain ⟨⟨c0, c1, c2, c3, c4⟩, fz⟩ := hC.five
    clear hC hV hTy hrow
    by_cases ho0 : o1 = 0
    · subst ho0
      have HB := Lib.hid (show behind 0 r2 = r2 from if_pos rfl)
      have HT := Lib.hid (show T = .ok a1 r2 by
        rw [HTY.out]
        cases m with
        | zero => have h1 := HTY.out; have h2 := HTE.out; rw [h1, pL] at h2; exact absurd h2 id
        | succ m => rw [pL, if_pos hao])
      clear ho1 hao
      go_wp2_with (fail)
      obtain ⟨f0, f1, f2, f3, f4⟩ := HC.out.read (.int .i64 i1) (.int .i64 i2) (.int .i64 i3) (.string i4) (.slice A0 m0 q0)
      refine bodyPost_ret (v := .agg #[.int .i64 i1, .int .i64 i2, .int .i64 i3, .string i4, .slice A0 m0 q0]) (by simp [results, Tryz.results144, go_sem, f0, f1, f2, f3, f4]) rfl ?_
      exact HC.out.fin (HT.out.trans (by rw [HB.out])) (dholds_end HV.out)
    · obtain ⟨q, rfl⟩ : ∃ q, m = q + 1 := by
        cases m with
        | zero => have h1 := HTY.out; have h2 := HTE.out; rw [h1, pL] at h2; exact absurd h2 id
        | succ q => exact ⟨q, rfl⟩
      have HB := Lib.hid (show behind o1 r2 = r2.tail from if_neg ho0)
      obtain ⟨r3, hr3⟩ : ∃ r3, r3 = behind o1 r2 := ⟨_, rfl⟩
      rw [← hr3] at HC
      have hT2 : T = (pE q (lev + 1) d r3).bind fun e r => pL q lev d (.mk 5 o1 0 bE [a1, e]) r := by
        rw [HTY.out, pL, hao, if_neg ho0, hr3, HB.out]
      have HN2 := Lib.hid (show Ends (pE q (lev + 1) d r3) by have h2 := HTE.out; rw [hT2] at h2; exact ends_left h2)
      replace HTY := Lib.hid hT2
      have HRL := Lib.hid (show restL b wr = r3.length from restL_lv HC.out.lv)
      have HEN := Lib.hid HC.out.lv.ends
      have ho2 : (o1 == 0) = false := by simpa using ho0
      clear ho1 hao hT2 hr3 HB ho0
      have hwl : IntKind.i64.wrap (lev + 1) = lev + 1 := IntWalk.i64_in _ (by omega)
      go_wp2_with (fail)
      go_region_law (first
        | (go_simp; go_at_call 144; (with_reducible refine ((HE.out q (by omega)).call HC.out.drew.lv HN2.out).mono ?_); rintro e w5 (⟨a5, r5, v5, hx, rfl, hL, hO, hF⟩ | ⟨k, r5, hx, rfl, hO⟩)
           rotate_left
           exact ⟨rfl, Gets.no (hx.go HTY.out) (HC.out.drew.off hO)⟩
           obtain ⟨j1, j2, j3, j4, j5, j6, j7, rfl⟩ := hF.form
           have HF := Lib.hid (show FrE wr.heap.size w5 a5 _ from hF)
           have HO5 := Lib.hid (show OffB b wr.heap.size wr w5 from (OffB.of_below (Below.refl _ _).drew HC.out.lv.lt).trans hO)
           have hr5 := own_next hO (k := w1.heap.size) (by show w1.heap.size < wr.heap.size; exact hgr) (by have := HC.out.lt; omega) HROW.out
           have HROW5 := Lib.hid hr5
           have hg5 : w1.heap.size < w5.heap.size := (Array.getElem?_eq_some_iff.1 hr5).1
           obtain ⟨⟨p0, p1, p2, p3, p4⟩, pz⟩ := row_cells5 hr5
           have HT5 := Lib.hid (show T = pL q lev d (.mk 5 o1 0 bE [a1, a5]) r5 from HTY.out.trans (by rw [show pE q (lev + 1) d r3 = .ok a5 r5 from hx]; rfl))
           have HRS := Lib.hid (show RestOf 1 r3 r5 from by have h9 := pE_fits (n := q) (lev := lev + 1) (d := d) HEN.out; rw [show pE q (lev + 1) d r3 = .ok a5 r5 from hx] at h9; exact h9)
           have HC5 := Lib.hid (HC.out.drew.step hL hO)
           clear hx hL hO hF hr5))
      all_goals
        obtain ⟨o7, ho7⟩ : ∃ o7, opAll lev r5 = o7 := ⟨_, rfl⟩
        have HO7 := Lib.hid ho7
        have HX := Lib.hid ((HC5.out.nest (k := w1.heap.size) (by omega) (.int .i64 5) (.int .i64 o1) (.int .i64 0) (.string ⟨#[]⟩) (.slice (some ⟨w5.heap.size, 0, none⟩) 2 2)).alloc (.cells #[.int .i64 i1, .int .i64 i2, .int .i64 i3, .string i4, .slice A0 m0 q0, .int .i64 j1, .int .i64 j2, .int .i64 j3, .string j4, .slice j5 j6 j7] 84))
        clear ho7
        go_wp2_with (first
        | (go_at_call 150; (with_reducible refine (dop_any HX.out.lv lev o7 HO7.out).mono ?_); rintro e w8 ⟨rfl, hL, hO⟩
           have HL8 := Lib.hid hL
           have HO8 := Lib.hid hO
           clear hL hO))
        have HZ := Lib.hid (dround (X := (nest w5 w1.heap.size (.int .i64 5) (.int .i64 o1) (.int .i64 0) (.string ⟨#[]⟩) (.slice (some ⟨w5.heap.size, 0, none⟩) 2 2)).alloc (.cells #[.int .i64 i1, .int .i64 i2, .int .i64 i3, .string i4, .slice A0 m0 q0, .int .i64 j1, .int .i64 j2, .int .i64 j3, .string j4, .slice j5 j6 j7] 84))
          HV.out HO5.out HF.out hgr hzr hbw (by omega) (by rw [alloc_size]; exact congrArg (· + 1) (writ_size _ _ _ _ _ _ _))
          (fun k hk hne => (Below.heap_alloc _ _ _ (by rw [show (nest w5 w1.heap.size _ _ _ _ _).heap.size = _ from writ_size _ _ _ _ _ _ _]; exact hk)).trans (writ_other hne _ _ _ _ _))
          (own_more (writ_row HROW5.out _ _ _ _ _) _) (by have h := heap_alloc_new (nest w5 w1.heap.size (.int .i64 5) (.int .i64 o1) (.int .i64 0) (.string ⟨#[]⟩) (.slice (some ⟨w5.heap.size, 0, none⟩) 2 2)) (.cells #[.int .i64 i1, .int .i64 i2, .int .i64 i3, .string i4, .slice A0 m0 q0, .int .i64 j1, .int .i64 j2, .int .i64 j3, .string j4, .slice j5 j6 j7] 84); rw [show (nest w5 w1.heap.size _ _ _ _ _).heap.size = _ from writ_size _ _ _ _ _ _ _] at h; exact h))
        go_roundw
        case rel => exact ⟨q, _, r5, o7, rfl, HO7.out, by omega, HX.out.step HL8.out HO8.out, HZ.out.off HO8.out (by omega) (by omega), HT5.out⟩
        case measure =>
          have h1 := HRS.out.2.2
          have h2 := restL_lv HL8.out
          have h3 := HRL.out
          have h4 : (behind o7 r5).length ≤ r5.length := by unfold behind; split <;> simp
          simp only [h2, h3]
          omega
theorem dexpr_all (b g : Nat) : ∀ (n : Nat), ∀ m, m ≤ n → (∀ lev d : Int, 1 ≤ lev → lev ≤ 11 → 0 ≤ d → d ≤ 101 → DL b g m lev d) ∧ (∀ d : Int, 0 ≤ d → d ≤ 101 → DT b g m d) ∧ (∀ d : Int, 0 ≤ d → d ≤ 101 → DA b g m d)
  | 0, m, hm => by
    obtain rfl : m = 0 := by omega
    refine ⟨fun lev d h1 h2 h3 h4 w r h hn => ?_, fun d h3 h4 w r h hn => ?_, fun d h3 h4 w r h hn => ?_⟩
    · rw [pE] at hn; exact absurd hn id
    · rw [pU] at hn; exact absurd hn id
    · rw [pA] at hn; exact absurd hn id
  | n + 1, m, hm => by
    have ih := dexpr_all b g n
    by_cases hmn : m ≤ n
    · exact ih m hmn
    · obtain rfl : m = n + 1 := by omega
      have hL : ∀ q, q ≤ n → ∀ lev d : Int, 1 ≤ lev → lev ≤ 11 → 0 ≤ d → d ≤ 101 → DL b g q lev d := fun q hq => (ih q hq).1
      have hU : ∀ q, q ≤ n → ∀ d : Int, 0 ≤ d → d ≤ 101 → DT b g q d := fun q hq => (ih q hq).2.1
      have hA : ∀ q, q ≤ n → ∀ d : Int, 0 ≤ d → d ≤ 101 → DA b g q d := fun q hq => (ih q hq).2.2
      have hX : ∀ q, q ≤ n → ∀ d : Int, 0 ≤ d → d ≤ 101 → DX b g q d := fun q hq d h3 h4 => dexpr_any (hL q hq 1 d (by decide) (by decide) h3 h4)
      have hB : ∀ q, q ≤ n → ∀ d : Int, 0 ≤ d → d ≤ 101 → DB b g q d := fun q hq d h3 h4 => dbracketed_any (hX q hq d h3 h4)
      refine ⟨fun lev d h1 h2 h3 h4 => ?_, fun d h3 h4 => ?_, fun d h3 h4 => ?_⟩
      · by_cases h11 : lev = 11
        · subst h11
          exact dlevel_top (hU n (Nat.le_refl _) d h3 h4)
        · exact dlevel_lev h1 (by omega) fun q hq => hL q hq (lev + 1) d (by omega) (by omega) h3 h4
      · exact dtight_any ⟨h3, by omega⟩ (fun h q hq => hB q hq (d + 1) (by omega) (by omega)) (fun h => hU n (Nat.le_refl _) (d + 1) (by omega) (by omega)) (fun h q hq => hA q hq (d + 1) (by omega) (by omega)) fun h q hq => hX q hq (d + 1) (by omega) (by omega)
      · exact dargs_any fun q hq => hX q hq d h3 h4
/-- Every expression of the developers' parser. -/
theorem dx_all {b g n : Nat} {d : Int} (h1 : 0 ≤ d) (h2 : d ≤ 101) : DX b g n d := dexpr_any ((dexpr_all b g n n (Nat.le_refl _)).1 1 d (by decide) (by decide) h1 h2)
theorem db_all {b g n : Nat} {d : Int} (h1 : 0 ≤ d) (h2 : d ≤ 101) : DB b g n d := dbracketed_any (dx_all h1 h2)
theorem da_all {b g n : Nat} {d : Int} (h1 : 0 ≤ d) (h2 : d ≤ 101) : DA b g n d := (dexpr_all b g n n (Nat.le_refl _)).2.2 d h1 h2
end Go.Proofs.YtakijoblbmfadaaGreatDoor
