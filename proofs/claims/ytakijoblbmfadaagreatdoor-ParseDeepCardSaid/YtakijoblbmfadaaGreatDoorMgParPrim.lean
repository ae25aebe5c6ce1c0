import Derived.Test.YtakijoblbmfadaaGreatDoorMgParVals
import Derived.Deep.QuietTactic
import Derived.BigQuiet
set_option linter.unusedSimpArgs false
set_option linter.unusedVariables false
/- The document's parser: what has no operator, way by way. (By tools/gen_parprim.py.) -/
namespace Go.Proofs.YtakijoblbmfadaaGreatDoor
open Go.RowKit
set_option maxRecDepth 100000 in
theorem prim_over {b : Nat} {V : Value} {all : List Tok} {x : PR Unit} {w : World} (h : StP b V all x w) (ho : isOver x = true) (d : Int) :
    Calls Tryz.prog 138 #[.pointer (some ⟨b, 0, none⟩), .int .i64 d] w fun e w' => e = .returned ex0V ∧ Did b V all w x w' := by
  have HC := Lib.hid (Cur.start h)
  have HO := Lib.hid ho
  clear h ho
  go_enter Tryz.func138, Tryz.ntmps138
  go_wp2_with (go_at_call 45; (with_reducible refine (over_is HC.out.st true HO.out).mono ?_); rintro e w1 ⟨rfl, rfl⟩)
  exact bodyPost_ret (v := ex0V) (by simp [results, Tryz.results138, go_sem, ex0V]) rfl ⟨rfl, HC.out.did⟩
set_option maxRecDepth 100000 in
theorem prim_true {b : Nat} {V : Value} {all r : List Tok} {w : World} {n : Nat} {d : Int} (h : Pbox b V all r false false w) (hd : 0 ≤ d ∧ d ≤ 1000) (h1 : isS [40] r = false) (h2 : isS sTrue r = true) :
    Calls Tryz.prog 138 #[.pointer (some ⟨b, 0, none⟩), .int .i64 d] w (Gave b V all w (pP (n + 1) d r) (FrE w.heap.size)) := by
  obtain ⟨hd0, hd1⟩ := hd
  have hlt := h.lt
  have HC := Lib.hid (Cur.start (x := .ok () r) h)
  have ex : pP (n + 1) d r = .ok (.mk 2 0 1 bE []) r.tail := by rw [pP, h1, h2, if_neg (by decide), if_pos rfl]
  rw [ex]
  have N1 := Lib.hid (show isAt (⟨#[40]⟩ : ByteArray).data.toList (PR.ok () r) = false from h1)
  have Y1 := Lib.hid (show isAt (⟨#[116, 114, 117, 101]⟩ : ByteArray).data.toList (PR.ok () r) = true from h2)
  clear h h1 h2 ex
  go_enter Tryz.func138, Tryz.ntmps138
  go_wp2_with (first
    | (go_at_call 45; (with_reducible refine (over_is HC.out.st false rfl).mono ?_); rintro e w1 ⟨rfl, rfl⟩)
    | (go_at_call 48; (with_reducible refine (take_no' HC.out.st _ N1.out).mono ?_); rintro e w1 ⟨rfl, hD⟩
       replace HC := Lib.hid (HC.out.step hD)
       clear hD
       obtain ⟨⟨c0, c1, c2, c3, c4⟩, fz⟩ := HC.out.own)
    | (go_at_call 48; (with_reducible refine (take_yes HC.out.st _ Y1.out).mono ?_); rintro e w1 ⟨rfl, hD⟩
       replace HC := Lib.hid (show Cur b _ all w (.ok () r.tail) w1 from HC.out.step hD)
       clear hD
       obtain ⟨⟨c0, c1, c2, c3, c4⟩, fz⟩ := HC.out.own))
  obtain ⟨f0, f1, f2, f3, f4⟩ := HC.out.read (.int .i64 2) (.int .i64 0) (.int .i64 1) (.string ⟨#[]⟩) (.slice none 0 0)
  refine bodyPost_ret (v := .agg #[.int .i64 2, .int .i64 0, .int .i64 1, .string ⟨#[]⟩, .slice none 0 0]) (by simp [results, Tryz.results138, go_sem, f0, f1, f2, f3, f4]) rfl ?_
  exact HC.out.fin (rfl) (fr_leaf _ _ 2 0 1 bE (by constructor <;> decide))
set_option maxRecDepth 100000 in
theorem prim_false {b : Nat} {V : Value} {all r : List Tok} {w : World} {n : Nat} {d : Int} (h : Pbox b V all r false false w) (hd : 0 ≤ d ∧ d ≤ 1000) (h1 : isS [40] r = false) (h2 : isS sTrue r = false) (h3 : isS sFalse r = true) :
    Calls Tryz.prog 138 #[.pointer (some ⟨b, 0, none⟩), .int .i64 d] w (Gave b V all w (pP (n + 1) d r) (FrE w.heap.size)) := by
  obtain ⟨hd0, hd1⟩ := hd
  have hlt := h.lt
  have HC := Lib.hid (Cur.start (x := .ok () r) h)
  have ex : pP (n + 1) d r = .ok (.mk 2 0 0 bE []) r.tail := by rw [pP, h1, h2, h3, if_neg (by decide), if_neg (by decide), if_pos rfl]
  rw [ex]
  have N1 := Lib.hid (show isAt (⟨#[40]⟩ : ByteArray).data.toList (PR.ok () r) = false from h1)
  have N2 := Lib.hid (show isAt (⟨#[116, 114, 117, 101]⟩ : ByteArray).data.toList (PR.ok () r) = false from h2)
  have Y1 := Lib.hid (show isAt (⟨#[102, 97, 108, 115, 101]⟩ : ByteArray).data.toList (PR.ok () r) = true from h3)
  clear h h1 h2 h3 ex
  go_enter Tryz.func138, Tryz.ntmps138
  go_wp2_with (first
    | (go_at_call 45; (with_reducible refine (over_is HC.out.st false rfl).mono ?_); rintro e w1 ⟨rfl, rfl⟩)
    | (go_at_call 48; (with_reducible refine (take_no' HC.out.st _ N1.out).mono ?_); rintro e w1 ⟨rfl, hD⟩
       replace HC := Lib.hid (HC.out.step hD)
       clear hD
       obtain ⟨⟨c0, c1, c2, c3, c4⟩, fz⟩ := HC.out.own)
    | (go_at_call 48; (with_reducible refine (take_no' HC.out.st _ N2.out).mono ?_); rintro e w1 ⟨rfl, hD⟩
       replace HC := Lib.hid (HC.out.step hD)
       clear hD
       obtain ⟨⟨c0, c1, c2, c3, c4⟩, fz⟩ := HC.out.own)
    | (go_at_call 48; (with_reducible refine (take_yes HC.out.st _ Y1.out).mono ?_); rintro e w1 ⟨rfl, hD⟩
       replace HC := Lib.hid (show Cur b _ all w (.ok () r.tail) w1 from HC.out.step hD)
       clear hD
       obtain ⟨⟨c0, c1, c2, c3, c4⟩, fz⟩ := HC.out.own))
  obtain ⟨f0, f1, f2, f3, f4⟩ := HC.out.read (.int .i64 2) (.int .i64 0) (.int .i64 0) (.string ⟨#[]⟩) (.slice none 0 0)
  refine bodyPost_ret (v := .agg #[.int .i64 2, .int .i64 0, .int .i64 0, .string ⟨#[]⟩, .slice none 0 0]) (by simp [results, Tryz.results138, go_sem, f0, f1, f2, f3, f4]) rfl ?_
  exact HC.out.fin (rfl) (fr_leaf _ _ 2 0 0 bE (by constructor <;> decide))
set_option maxRecDepth 100000 in
theorem prim_read {b : Nat} {V : Value} {all r : List Tok} {w : World} {n : Nat} {d : Int} (h : Pbox b V all r false false w) (hd : 0 ≤ d ∧ d ≤ 1000) (h1 : isS [40] r = false) (h2 : isS sTrue r = false) (h3 : isS sFalse r = false) (h4 : isS sRead r = true) :
    Calls Tryz.prog 138 #[.pointer (some ⟨b, 0, none⟩), .int .i64 d] w (Gave b V all w (pP (n + 1) d r) (FrE w.heap.size)) := by
  obtain ⟨hd0, hd1⟩ := hd
  have hlt := h.lt
  have HC := Lib.hid (Cur.start (x := .ok () r) h)
  have ex : pP (n + 1) d r = (must [40] r.tail).bind fun _ r => (must [41] r).bind fun _ r => .ok (.mk 8 0 0 bE []) r := by rw [pP, h1, h2, h3, h4, if_neg (by decide), if_neg (by decide), if_neg (by decide), if_pos rfl]
  rw [ex]
  have N1 := Lib.hid (show isAt (⟨#[40]⟩ : ByteArray).data.toList (PR.ok () r) = false from h1)
  have N2 := Lib.hid (show isAt (⟨#[116, 114, 117, 101]⟩ : ByteArray).data.toList (PR.ok () r) = false from h2)
  have N3 := Lib.hid (show isAt (⟨#[102, 97, 108, 115, 101]⟩ : ByteArray).data.toList (PR.ok () r) = false from h3)
  have Y1 := Lib.hid (show isAt (⟨#[114, 101, 97, 100]⟩ : ByteArray).data.toList (PR.ok () r) = true from h4)
  clear h h1 h2 h3 h4 ex
  go_enter Tryz.func138, Tryz.ntmps138
  go_wp2_with (first
    | (go_at_call 45; (with_reducible refine (over_is HC.out.st false rfl).mono ?_); rintro e w1 ⟨rfl, rfl⟩)
    | (go_at_call 48; (with_reducible refine (take_no' HC.out.st _ N1.out).mono ?_); rintro e w1 ⟨rfl, hD⟩
       replace HC := Lib.hid (HC.out.step hD)
       clear hD
       obtain ⟨⟨c0, c1, c2, c3, c4⟩, fz⟩ := HC.out.own)
    | (go_at_call 48; (with_reducible refine (take_no' HC.out.st _ N2.out).mono ?_); rintro e w1 ⟨rfl, hD⟩
       replace HC := Lib.hid (HC.out.step hD)
       clear hD
       obtain ⟨⟨c0, c1, c2, c3, c4⟩, fz⟩ := HC.out.own)
    | (go_at_call 48; (with_reducible refine (take_no' HC.out.st _ N3.out).mono ?_); rintro e w1 ⟨rfl, hD⟩
       replace HC := Lib.hid (HC.out.step hD)
       clear hD
       obtain ⟨⟨c0, c1, c2, c3, c4⟩, fz⟩ := HC.out.own)
    | (go_at_call 48; (with_reducible refine (take_yes HC.out.st _ Y1.out).mono ?_); rintro e w1 ⟨rfl, hD⟩
       replace HC := Lib.hid (show Cur b _ all w (.ok () r.tail) w1 from HC.out.step hD)
       clear hD
       obtain ⟨⟨c0, c1, c2, c3, c4⟩, fz⟩ := HC.out.own)
    | (go_at_call 50; (with_reducible refine (must_any HC.out.st ⟨#[40]⟩).mono ?_); rintro e w1 ⟨rfl, hD⟩
       replace HC := Lib.hid (show Cur b _ all w (must [40] r.tail) w1 from HC.out.step hD)
       clear hD)
    | (go_at_call 50; (with_reducible refine (must_any HC.out.st ⟨#[41]⟩).mono ?_); rintro e w1 ⟨rfl, hD⟩
       replace HC := Lib.hid (show Cur b _ all w ((must [40] r.tail).bind fun _ r => must [41] r) w1 from HC.out.step hD)
       clear hD
       obtain ⟨⟨c0, c1, c2, c3, c4⟩, fz⟩ := HC.out.own))
  obtain ⟨f0, f1, f2, f3, f4⟩ := HC.out.read (.int .i64 8) (.int .i64 0) (.int .i64 0) (.string ⟨#[]⟩) (.slice none 0 0)
  refine bodyPost_ret (v := .agg #[.int .i64 8, .int .i64 0, .int .i64 0, .string ⟨#[]⟩, .slice none 0 0]) (by simp [results, Tryz.results138, go_sem, f0, f1, f2, f3, f4]) rfl ?_
  exact HC.out.fin (by rw [un_bind]; simp only [must_ok_un]) (Got.bind (P := fun _ => True) (by unfold must; split; trivial; exact ⟨(), trivial⟩) (fun _ r _ _ => got_must (fr_leaf _ _ 8 0 0 bE (by constructor <;> decide))) (fun _ _ => ⟨_, fr_leaf _ _ 8 0 0 bE (by constructor <;> decide)⟩))
set_option maxRecDepth 100000 in
theorem prim_paren {b : Nat} {V : Value} {all r : List Tok} {w : World} {n : Nat} {d : Int} (hE : CE b V all n 1 (d + 1)) (h : Pbox b V all r false false w) (hd : 0 ≤ d ∧ d ≤ 1000) (h1 : isS [40] r = true) (hn : Ends (pP (n + 1) d r)) :
    Calls Tryz.prog 138 #[.pointer (some ⟨b, 0, none⟩), .int .i64 d] w (Gave b V all w (pP (n + 1) d r) (FrE w.heap.size)) := by
  obtain ⟨hd0, hd1⟩ := hd
  have hlt := h.lt
  have HC := Lib.hid (Cur.start (x := .ok () r) h)
  rw [pP, if_pos h1] at hn ⊢
  have Y1 := Lib.hid (show isAt (⟨#[40]⟩ : ByteArray).data.toList (PR.ok () r) = true from h1)
  have HN := Lib.hid (show Ends ((PR.ok () r.tail).bind fun _ r => pE n 1 (d + 1) r) from ends_left hn)
  have HE := Lib.hid hE
  clear h h1 hn hE
  go_enter Tryz.func138, Tryz.ntmps138
  go_wp2_with (first
    | (go_at_call 45; (with_reducible refine (over_is HC.out.st false rfl).mono ?_); rintro e w1 ⟨rfl, rfl⟩)
    | (go_at_call 48; (with_reducible refine (take_yes HC.out.st _ Y1.out).mono ?_); rintro e w1 ⟨rfl, hD⟩
       replace HC := Lib.hid (show Cur b _ all w (.ok () r.tail) w1 from HC.out.step hD)
       clear hD
       have hz1 := HC.out.size)
    | (go_at_call 107; (with_reducible refine (HE.out.call HC.out.st HN.out).mono ?_); rintro e w2 ⟨v, rfl, hD, hG2⟩
       obtain ⟨k1, k2, k3, k4, k5, k6, k7, rfl⟩ := got_form hG2 HN.out
       have HG2 := Lib.hid hG2
       have hb1 := HC.out.st.lt
       replace HC := Lib.hid (HC.out.step hD)
       have hb2 : w2.heap.size ≠ b := by have := HC.out.st.lt; omega
       clear hD hG2)
    | (go_at_call 50; (with_reducible refine (must_any (HC.out.alloc _).st _).mono ?_); rintro e w3 ⟨rfl, hD⟩
       have hk := (Keep.of_below (L := w1.heap.size) ((Below.refl _ _).alloc (Nat.le_refl _) _)).trans (Keep.did hD hb1)
       have HK := Lib.hid hk
       obtain ⟨p3, r3⟩ := off_own hD.off (k := w2.heap.size) (by simp) hb2
       replace HC := Lib.hid ((HC.out.alloc _).step hD)
       clear hD hk
       obtain ⟨⟨c0, c1, c2, c3, c4⟩, fz⟩ := HC.out.own))
  obtain ⟨f0, f1, f2, f3, f4⟩ := HC.out.read (.int .i64 k1) (.int .i64 k2) (.int .i64 k3) (.string k4) (.slice k5 k6 k7)
  refine bodyPost_ret (v := .agg #[.int .i64 k1, .int .i64 k2, .int .i64 k3, .string k4, .slice k5 k6 k7]) (by simp [results, Tryz.results138, go_sem, f0, f1, f2, f3, f4]) rfl ?_
  refine HC.out.fin ?_ ((HG2.out.imp fun a ha => (FrE.keep ha HK.out (Nat.le_refl _)).writ hz1 _ _ _ _ _).bind (fun a r _ ha => got_must ha) fun a ha => ⟨a, ha⟩)
  rw [un_bind]
  simp only [must_ok_un]
  rw [← bind_un]
  rfl
set_option maxRecDepth 100000 in
theorem prim_num {b : Nat} {V : Value} {all r : List Tok} {w : World} {n : Nat} {d : Int} (h : Pbox b V all r false false w) (hd : 0 ≤ d ∧ d ≤ 1000) (h1 : isS [40] r = false) (h2 : isS sTrue r = false) (h3 : isS sFalse r = false) (h4 : isS sRead r = false) (h5 : hdK r = 0) :
    Calls Tryz.prog 138 #[.pointer (some ⟨b, 0, none⟩), .int .i64 d] w (Gave b V all w (pP (n + 1) d r) (FrE w.heap.size)) := by
  obtain ⟨hd0, hd1⟩ := hd
  have hlt := h.lt
  have HC := Lib.hid (Cur.start (x := .ok () r) h)
  have hnum := h.num h5
  have ex : pP (n + 1) d r = .ok (.mk 1 0 (decV 0 (hdT r)) bE []) r.tail := by rw [pP, h1, h2, h3, h4, if_neg (by decide), if_neg (by decide), if_neg (by decide), if_neg (by decide), if_pos h5]
  rw [ex]
  have N1 := Lib.hid (show isAt (⟨#[40]⟩ : ByteArray).data.toList (PR.ok () r) = false from h1)
  have N2 := Lib.hid (show isAt (⟨#[116, 114, 117, 101]⟩ : ByteArray).data.toList (PR.ok () r) = false from h2)
  have N3 := Lib.hid (show isAt (⟨#[102, 97, 108, 115, 101]⟩ : ByteArray).data.toList (PR.ok () r) = false from h3)
  have N4 := Lib.hid (show isAt (⟨#[114, 101, 97, 100]⟩ : ByteArray).data.toList (PR.ok () r) = false from h4)
  have H5 := Lib.hid h5
  have HNU := Lib.hid hnum
  clear h h1 h2 h3 h4 h5 ex hnum
  go_enter Tryz.func138, Tryz.ntmps138
  go_wp2_with (first
    | (go_at_call 45; (with_reducible refine (over_is HC.out.st false rfl).mono ?_); rintro e w1 ⟨rfl, rfl⟩)
    | (go_at_call 48; (with_reducible refine (take_no' HC.out.st _ N1.out).mono ?_); rintro e w1 ⟨rfl, hD⟩
       replace HC := Lib.hid (HC.out.step hD)
       clear hD
       obtain ⟨⟨c0, c1, c2, c3, c4⟩, fz⟩ := HC.out.own)
    | (go_at_call 48; (with_reducible refine (take_no' HC.out.st _ N2.out).mono ?_); rintro e w1 ⟨rfl, hD⟩
       replace HC := Lib.hid (HC.out.step hD)
       clear hD
       obtain ⟨⟨c0, c1, c2, c3, c4⟩, fz⟩ := HC.out.own)
    | (go_at_call 48; (with_reducible refine (take_no' HC.out.st _ N3.out).mono ?_); rintro e w1 ⟨rfl, hD⟩
       replace HC := Lib.hid (HC.out.step hD)
       clear hD
       obtain ⟨⟨c0, c1, c2, c3, c4⟩, fz⟩ := HC.out.own)
    | (go_at_call 48; (with_reducible refine (take_no' HC.out.st _ N4.out).mono ?_); rintro e w1 ⟨rfl, hD⟩
       replace HC := Lib.hid (HC.out.step hD)
       clear hD
       obtain ⟨⟨c0, c1, c2, c3, c4⟩, fz⟩ := HC.out.own))
  obtain ⟨g, c, k, t, q, rfl, rfl, hk, hklt, hl, b0, b1, b2, b3, t0, t1, t2⟩ := (show Pbox b V all r false false w1 from HC.out.st).tok
  have hklt2 : (k : Int) < all.length := by omega
  clear hk
  rw [show t.kind = 0 from H5.out] at t0
  go_quiet (fail)
  replace HC := Lib.hid (HC.out.drewN nq)
  clear b0 b1 b2 b3 t0 t1 t2
  obtain ⟨m, hm⟩ : ∃ m : Nat, decV 0 (⟨t.text.toArray⟩ : ByteArray).data.toList = m := ⟨_, rfl⟩
  have hm2 : m < 9223372036854775808 := by rw [← hm]; exact HNU.out.2.2
  have HM := Lib.hid hm
  clear hm
  go_wp2_with (first
    | (go_at_call 47; (with_reducible refine (text_yes HC.out.st 0 (by decide) H5.out ⟨t.text.toArray⟩ rfl).mono ?_); rintro e w2 ⟨rfl, hD⟩
       replace HC := Lib.hid (HC.out.step hD)
       clear hD
       obtain ⟨⟨c0, c1, c2, c3, c4⟩, fz⟩ := HC.out.own)
    | (go_at_call 49; (refine (rvalue_num ⟨t.text.toArray⟩ _ HNU.out.1 HNU.out.2.1).mono ?_); rintro e w3 ⟨rfl, rfl⟩; rw [HM.out]))
  have eN : Ex.mk 1 0 (decV 0 (hdT (t :: q)) : Nat) bE [] = .mk 1 0 m bE [] := congrArg (fun x : Nat => Ex.mk 1 0 x bE []) HM.out
  rw [eN]
  obtain ⟨f0, f1, f2, f3, f4⟩ := HC.out.read (.int .i64 1) (.int .i64 0) (.int .i64 m) (.string ⟨#[]⟩) (.slice none 0 0)
  refine bodyPost_ret (v := .agg #[.int .i64 1, .int .i64 0, .int .i64 m, .string ⟨#[]⟩, .slice none 0 0]) (by simp [results, Tryz.results138, go_sem, f0, f1, f2, f3, f4]) rfl ?_
  exact HC.out.fin (rfl) (fr_leaf _ _ 1 0 m bE (by unfold i64R; omega))
set_option maxRecDepth 100000 in
theorem prim_bad {b : Nat} {V : Value} {all r : List Tok} {w : World} {n : Nat} {d : Int} (h : Pbox b V all r false false w) (hd : 0 ≤ d ∧ d ≤ 1000) (h1 : isS [40] r = false) (h2 : isS sTrue r = false) (h3 : isS sFalse r = false) (h4 : isS sRead r = false) (h5 : hdK r ≠ 0) (h6 : hdK r ≠ 1) :
    Calls Tryz.prog 138 #[.pointer (some ⟨b, 0, none⟩), .int .i64 d] w (Gave b V all w (pP (n + 1) d r) (FrE w.heap.size)) := by
  obtain ⟨hd0, hd1⟩ := hd
  have hlt := h.lt
  have HC := Lib.hid (Cur.start (x := .ok () r) h)
  have ex : pP (n + 1) d r = .bad r := by rw [pP, h1, h2, h3, h4, if_neg (by decide), if_neg (by decide), if_neg (by decide), if_neg (by decide), if_neg h5]; unfold want; rw [if_neg h6]; rfl
  rw [ex]
  have N1 := Lib.hid (show isAt (⟨#[40]⟩ : ByteArray).data.toList (PR.ok () r) = false from h1)
  have N2 := Lib.hid (show isAt (⟨#[116, 114, 117, 101]⟩ : ByteArray).data.toList (PR.ok () r) = false from h2)
  have N3 := Lib.hid (show isAt (⟨#[102, 97, 108, 115, 101]⟩ : ByteArray).data.toList (PR.ok () r) = false from h3)
  have N4 := Lib.hid (show isAt (⟨#[114, 101, 97, 100]⟩ : ByteArray).data.toList (PR.ok () r) = false from h4)
  have H5 := Lib.hid h5
  have H6 := Lib.hid h6
  have B1 := Lib.hid (show isAt (⟨#[40]⟩ : ByteArray).data.toList ((PR.bad r : PR Unit)) = false from rfl)
  have B2 := Lib.hid (show isAt (⟨#[91]⟩ : ByteArray).data.toList ((PR.bad r : PR Unit)) = false from rfl)
  clear h h1 h2 h3 h4 h5 h6 ex
  go_enter Tryz.func138, Tryz.ntmps138
  go_wp2_with (first
    | (go_at_call 45; (with_reducible refine (over_is HC.out.st false rfl).mono ?_); rintro e w1 ⟨rfl, rfl⟩)
    | (go_at_call 48; (with_reducible refine (take_no' HC.out.st _ N1.out).mono ?_); rintro e w1 ⟨rfl, hD⟩
       replace HC := Lib.hid (HC.out.step hD)
       clear hD
       obtain ⟨⟨c0, c1, c2, c3, c4⟩, fz⟩ := HC.out.own)
    | (go_at_call 48; (with_reducible refine (take_no' HC.out.st _ N2.out).mono ?_); rintro e w1 ⟨rfl, hD⟩
       replace HC := Lib.hid (HC.out.step hD)
       clear hD
       obtain ⟨⟨c0, c1, c2, c3, c4⟩, fz⟩ := HC.out.own)
    | (go_at_call 48; (with_reducible refine (take_no' HC.out.st _ N3.out).mono ?_); rintro e w1 ⟨rfl, hD⟩
       replace HC := Lib.hid (HC.out.step hD)
       clear hD
       obtain ⟨⟨c0, c1, c2, c3, c4⟩, fz⟩ := HC.out.own)
    | (go_at_call 48; (with_reducible refine (take_no' HC.out.st _ N4.out).mono ?_); rintro e w1 ⟨rfl, hD⟩
       replace HC := Lib.hid (HC.out.step hD)
       clear hD
       obtain ⟨⟨c0, c1, c2, c3, c4⟩, fz⟩ := HC.out.own))
  obtain ⟨g, c, k, t, q, rfl, rfl, hk, hklt, hl, b0, b1, b2, b3, t0, t1, t2⟩ := (show Pbox b V all r false false w1 from HC.out.st).tok
  have hklt2 : (k : Int) < all.length := by omega
  clear hk
  have hk0 : (t.kind == 0) = false := by have := H5.out; simpa [hdK] using this
  go_quiet (fail)
  replace HC := Lib.hid (HC.out.drewN nq)
  clear b0 b1 b2 b3 t0 t1 t2
  go_wp2_with (first
    | (go_at_call 47; (with_reducible refine (text_no HC.out.st 1 (by decide) H6.out).mono ?_); rintro e w2 ⟨s, rfl, hD⟩
       replace HC := Lib.hid (HC.out.step hD)
       clear hD)
    | (go_at_call 48; (with_reducible refine (take_no' HC.out.st _ B1.out).mono ?_); rintro e w1 ⟨rfl, hD⟩
       replace HC := Lib.hid (HC.out.step hD)
       clear hD
       obtain ⟨⟨c0, c1, c2, c3, c4⟩, fz⟩ := HC.out.own)
    | (go_at_call 48; (with_reducible refine (take_no' HC.out.st _ B2.out).mono ?_); rintro e w1 ⟨rfl, hD⟩
       replace HC := Lib.hid (HC.out.step hD)
       clear hD
       obtain ⟨⟨c0, c1, c2, c3, c4⟩, fz⟩ := HC.out.own))
  obtain ⟨f0, f1, f2, f3, f4⟩ := HC.out.read (.int .i64 3) (.int .i64 0) (.int .i64 0) (.string s) (.slice none 0 0)
  refine bodyPost_ret (v := .agg #[.int .i64 3, .int .i64 0, .int .i64 0, .string s, .slice none 0 0]) (by simp [results, Tryz.results138, go_sem, f0, f1, f2, f3, f4]) rfl ?_
  exact HC.out.fin (rfl) (⟨_, fr_leaf _ _ 3 0 0 s (by constructor <;> decide)⟩)
set_option maxRecDepth 100000 in
theorem prim_name {b : Nat} {V : Value} {all r : List Tok} {w : World} {n : Nat} {d : Int} (h : Pbox b V all r false false w) (hd : 0 ≤ d ∧ d ≤ 1000) (h1 : isS [40] r = false) (h2 : isS sTrue r = false) (h3 : isS sFalse r = false) (h4 : isS sRead r = false) (h6 : hdK r = 1) (h7 : isS [40] r.tail = false) (h8 : isS [91] r.tail = false) (hn : Ends (pP (n + 1) d r)) :
    Calls Tryz.prog 138 #[.pointer (some ⟨b, 0, none⟩), .int .i64 d] w (Gave b V all w (pP (n + 1) d r) (FrE w.heap.size)) := by
  obtain ⟨hd0, hd1⟩ := hd
  have hlt := h.lt
  have HC := Lib.hid (Cur.start (x := .ok () r) h)
  obtain ⟨s, hs⟩ : ∃ s : ByteArray, s = ⟨(hdT r).toArray⟩ := ⟨_, rfl⟩
  have h5 : hdK r ≠ 0 := by rw [h6]; decide
  have ex : pP (n + 1) d r = pN n d s r.tail := by rw [pP, h1, h2, h3, h4, if_neg (by decide), if_neg (by decide), if_neg (by decide), if_neg (by decide), if_neg h5, hs]; unfold want; rw [if_pos h6]; rfl
  cases n with
  | zero => rw [ex, pN] at hn; exact absurd hn id
  | succ n =>
  have ey : pN (n + 1) d s r.tail = .ok (.mk 3 0 0 s []) r.tail := by rw [pN, h7, h8, if_neg (by decide), if_neg (by decide)]
  rw [ex, ey]
  have N1 := Lib.hid (show isAt (⟨#[40]⟩ : ByteArray).data.toList (PR.ok () r) = false from h1)
  have N2 := Lib.hid (show isAt (⟨#[116, 114, 117, 101]⟩ : ByteArray).data.toList (PR.ok () r) = false from h2)
  have N3 := Lib.hid (show isAt (⟨#[102, 97, 108, 115, 101]⟩ : ByteArray).data.toList (PR.ok () r) = false from h3)
  have N4 := Lib.hid (show isAt (⟨#[114, 101, 97, 100]⟩ : ByteArray).data.toList (PR.ok () r) = false from h4)
  have H5 := Lib.hid h5
  have H6 := Lib.hid h6
  have HS := Lib.hid hs
  have B1 := Lib.hid (show isAt (⟨#[40]⟩ : ByteArray).data.toList (PR.ok () r.tail) = false from h7)
  have B2 := Lib.hid (show isAt (⟨#[91]⟩ : ByteArray).data.toList (PR.ok () r.tail) = false from h8)
  clear h h1 h2 h3 h4 h5 h6 h7 h8 ex ey hs hn
  go_enter Tryz.func138, Tryz.ntmps138
  go_wp2_with (first
    | (go_at_call 45; (with_reducible refine (over_is HC.out.st false rfl).mono ?_); rintro e w1 ⟨rfl, rfl⟩)
    | (go_at_call 48; (with_reducible refine (take_no' HC.out.st _ N1.out).mono ?_); rintro e w1 ⟨rfl, hD⟩
       replace HC := Lib.hid (HC.out.step hD)
       clear hD
       obtain ⟨⟨c0, c1, c2, c3, c4⟩, fz⟩ := HC.out.own)
    | (go_at_call 48; (with_reducible refine (take_no' HC.out.st _ N2.out).mono ?_); rintro e w1 ⟨rfl, hD⟩
       replace HC := Lib.hid (HC.out.step hD)
       clear hD
       obtain ⟨⟨c0, c1, c2, c3, c4⟩, fz⟩ := HC.out.own)
    | (go_at_call 48; (with_reducible refine (take_no' HC.out.st _ N3.out).mono ?_); rintro e w1 ⟨rfl, hD⟩
       replace HC := Lib.hid (HC.out.step hD)
       clear hD
       obtain ⟨⟨c0, c1, c2, c3, c4⟩, fz⟩ := HC.out.own)
    | (go_at_call 48; (with_reducible refine (take_no' HC.out.st _ N4.out).mono ?_); rintro e w1 ⟨rfl, hD⟩
       replace HC := Lib.hid (HC.out.step hD)
       clear hD
       obtain ⟨⟨c0, c1, c2, c3, c4⟩, fz⟩ := HC.out.own))
  obtain ⟨g, c, k, t, q, rfl, rfl, hk, hklt, hl, b0, b1, b2, b3, t0, t1, t2⟩ := (show Pbox b V all r false false w1 from HC.out.st).tok
  have hklt2 : (k : Int) < all.length := by omega
  clear hk
  have hk0 : (t.kind == 0) = false := by have := H5.out; simpa [hdK] using this
  go_quiet (fail)
  replace HC := Lib.hid (HC.out.drewN nq)
  clear b0 b1 b2 b3 t0 t1 t2
  go_wp2_with (first
    | (go_at_call 47; (with_reducible refine (text_yes HC.out.st 1 (by decide) H6.out s HS.out).mono ?_); rintro e w2 ⟨rfl, hD⟩
       replace HC := Lib.hid (HC.out.step hD)
       clear hD)
    | (go_at_call 48; (with_reducible refine (take_no' HC.out.st _ B1.out).mono ?_); rintro e w1 ⟨rfl, hD⟩
       replace HC := Lib.hid (HC.out.step hD)
       clear hD
       obtain ⟨⟨c0, c1, c2, c3, c4⟩, fz⟩ := HC.out.own)
    | (go_at_call 48; (with_reducible refine (take_no' HC.out.st _ B2.out).mono ?_); rintro e w1 ⟨rfl, hD⟩
       replace HC := Lib.hid (HC.out.step hD)
       clear hD
       obtain ⟨⟨c0, c1, c2, c3, c4⟩, fz⟩ := HC.out.own))
  obtain ⟨f0, f1, f2, f3, f4⟩ := HC.out.read (.int .i64 3) (.int .i64 0) (.int .i64 0) (.string s) (.slice none 0 0)
  refine bodyPost_ret (v := .agg #[.int .i64 3, .int .i64 0, .int .i64 0, .string s, .slice none 0 0]) (by simp [results, Tryz.results138, go_sem, f0, f1, f2, f3, f4]) rfl ?_
  exact HC.out.fin (rfl) (fr_leaf _ _ 3 0 0 s (by constructor <;> decide))
set_option maxRecDepth 100000 in
theorem prim_call {b : Nat} {V : Value} {all r : List Tok} {w : World} {n : Nat} {d : Int} (hA : CA b V all n (d + 1)) (h : Pbox b V all r false false w) (hd : 0 ≤ d ∧ d ≤ 1000) (h1 : isS [40] r = false) (h2 : isS sTrue r = false) (h3 : isS sFalse r = false) (h4 : isS sRead r = false) (h6 : hdK r = 1) (h7 : isS [40] r.tail = true) (hn : Ends (pP (n + 2) d r)) :
    Calls Tryz.prog 138 #[.pointer (some ⟨b, 0, none⟩), .int .i64 d] w (Gave b V all w (pP (n + 2) d r) (FrE w.heap.size)) := by
  obtain ⟨hd0, hd1⟩ := hd
  have hlt := h.lt
  have HC := Lib.hid (Cur.start (x := .ok () r) h)
  obtain ⟨s, hs⟩ : ∃ s : ByteArray, s = ⟨(hdT r).toArray⟩ := ⟨_, rfl⟩
  have h5 : hdK r ≠ 0 := by rw [h6]; decide
  have ex : pP (n + 2) d r = pN (n + 1) d s r.tail := by rw [pP, h1, h2, h3, h4, if_neg (by decide), if_neg (by decide), if_neg (by decide), if_neg (by decide), if_neg h5, hs]; unfold want; rw [if_pos h6]; rfl
  have ey : pN (n + 1) d s r.tail = (pA n (d + 1) r.tail.tail).bind fun es r => .ok (.mk 7 0 0 s es) r := by rw [pN, h7, if_pos rfl]
  rw [ex, ey] at hn ⊢
  have HN := Lib.hid (show Ends ((PR.ok () r.tail.tail).bind fun _ r => pA n (d + 1) r) from ends_left hn)
  have HA := Lib.hid hA
  have N1 := Lib.hid (show isAt (⟨#[40]⟩ : ByteArray).data.toList (PR.ok () r) = false from h1)
  have N2 := Lib.hid (show isAt (⟨#[116, 114, 117, 101]⟩ : ByteArray).data.toList (PR.ok () r) = false from h2)
  have N3 := Lib.hid (show isAt (⟨#[102, 97, 108, 115, 101]⟩ : ByteArray).data.toList (PR.ok () r) = false from h3)
  have N4 := Lib.hid (show isAt (⟨#[114, 101, 97, 100]⟩ : ByteArray).data.toList (PR.ok () r) = false from h4)
  have H5 := Lib.hid h5
  have H6 := Lib.hid h6
  have HS := Lib.hid hs
  have Y1 := Lib.hid (show isAt (⟨#[40]⟩ : ByteArray).data.toList (PR.ok () r.tail) = true from h7)
  clear h h1 h2 h3 h4 h5 h6 h7 ex ey hs hn hA
  go_enter Tryz.func138, Tryz.ntmps138
  go_wp2_with (first
    | (go_at_call 45; (with_reducible refine (over_is HC.out.st false rfl).mono ?_); rintro e w1 ⟨rfl, rfl⟩)
    | (go_at_call 48; (with_reducible refine (take_no' HC.out.st _ N1.out).mono ?_); rintro e w1 ⟨rfl, hD⟩
       replace HC := Lib.hid (HC.out.step hD)
       clear hD
       obtain ⟨⟨c0, c1, c2, c3, c4⟩, fz⟩ := HC.out.own)
    | (go_at_call 48; (with_reducible refine (take_no' HC.out.st _ N2.out).mono ?_); rintro e w1 ⟨rfl, hD⟩
       replace HC := Lib.hid (HC.out.step hD)
       clear hD
       obtain ⟨⟨c0, c1, c2, c3, c4⟩, fz⟩ := HC.out.own)
    | (go_at_call 48; (with_reducible refine (take_no' HC.out.st _ N3.out).mono ?_); rintro e w1 ⟨rfl, hD⟩
       replace HC := Lib.hid (HC.out.step hD)
       clear hD
       obtain ⟨⟨c0, c1, c2, c3, c4⟩, fz⟩ := HC.out.own)
    | (go_at_call 48; (with_reducible refine (take_no' HC.out.st _ N4.out).mono ?_); rintro e w1 ⟨rfl, hD⟩
       replace HC := Lib.hid (HC.out.step hD)
       clear hD
       obtain ⟨⟨c0, c1, c2, c3, c4⟩, fz⟩ := HC.out.own))
  obtain ⟨g, c, k, t, q, rfl, rfl, hk, hklt, hl, b0, b1, b2, b3, t0, t1, t2⟩ := (show Pbox b V all r false false w1 from HC.out.st).tok
  have hklt2 : (k : Int) < all.length := by omega
  clear hk
  have hk0 : (t.kind == 0) = false := by have := H5.out; simpa [hdK] using this
  go_quiet (fail)
  replace HC := Lib.hid (HC.out.drewN nq)
  clear b0 b1 b2 b3 t0 t1 t2
  go_wp2_with (first
    | (go_at_call 47; (with_reducible refine (text_yes HC.out.st 1 (by decide) H6.out s HS.out).mono ?_); rintro e w2 ⟨rfl, hD⟩
       replace HC := Lib.hid (HC.out.step hD)
       clear hD)
    | (go_at_call 48; (with_reducible refine (take_yes HC.out.st _ Y1.out).mono ?_); rintro e w3 ⟨rfl, hD⟩
       replace HC := Lib.hid (show Cur b _ all w (.ok () (t :: q).tail.tail) w3 from HC.out.step hD)
       clear hD
       have hz3 := HC.out.size)
    | (go_at_call 126; (with_reducible refine (HA.out.call HC.out.st HN.out).mono ?_); rintro e w4 ⟨v, rfl, hD, hG⟩
       obtain ⟨k5, k6, k7, rfl⟩ := got_forms hG HN.out
       have HG := Lib.hid hG
       replace HC := Lib.hid (HC.out.step hD)
       clear hD hG
       obtain ⟨⟨c0, c1, c2, c3, c4⟩, fz⟩ := HC.out.own))
  obtain ⟨f0, f1, f2, f3, f4⟩ := HC.out.read (.int .i64 7) (.int .i64 0) (.int .i64 0) (.string s) (.slice k5 k6 k7)
  refine bodyPost_ret (v := .agg #[.int .i64 7, .int .i64 0, .int .i64 0, .string s, .slice k5 k6 k7]) (by simp [results, Tryz.results138, go_sem, f0, f1, f2, f3, f4]) rfl ?_
  refine HC.out.fin (by rw [un_bind]; rfl) (Got.bind HG.out (fun a r _ ha => ?_) fun a ha => ⟨.mk 7 0 0 s a, ?_⟩)
  all_goals exact ⟨_, rfl, ⟨by show (_ : Int) ≤ 0; decide, by show (0 : Int) ≤ _; decide⟩, ha.writ hz3 _ _ _ _ _⟩
set_option maxRecDepth 100000 in
theorem prim_index {b : Nat} {V : Value} {all r : List Tok} {w : World} {n : Nat} {d : Int} (hE : CE b V all n 1 (d + 1)) (h : Pbox b V all r false false w) (hd : 0 ≤ d ∧ d ≤ 1000) (h1 : isS [40] r = false) (h2 : isS sTrue r = false) (h3 : isS sFalse r = false) (h4 : isS sRead r = false) (h6 : hdK r = 1) (h7 : isS [40] r.tail = false) (h8 : isS [91] r.tail = true) (hn : Ends (pP (n + 2) d r)) :
    Calls Tryz.prog 138 #[.pointer (some ⟨b, 0, none⟩), .int .i64 d] w (Gave b V all w (pP (n + 2) d r) (FrE w.heap.size)) := by
  obtain ⟨hd0, hd1⟩ := hd
  have hlt := h.lt
  have HC := Lib.hid (Cur.start (x := .ok () r) h)
  obtain ⟨s, hs⟩ : ∃ s : ByteArray, s = ⟨(hdT r).toArray⟩ := ⟨_, rfl⟩
  have h5 : hdK r ≠ 0 := by rw [h6]; decide
  have ex : pP (n + 2) d r = pN (n + 1) d s r.tail := by rw [pP, h1, h2, h3, h4, if_neg (by decide), if_neg (by decide), if_neg (by decide), if_neg (by decide), if_neg h5, hs]; unfold want; rw [if_pos h6]; rfl
  have ey : pN (n + 1) d s r.tail = (pE n 1 (d + 1) r.tail.tail).bind fun e r => (must [93] r).bind fun _ r => .ok (.mk 6 0 0 s [e]) r := by rw [pN, h7, h8, if_neg (by decide), if_pos rfl]
  rw [ex, ey] at hn ⊢
  have HN := Lib.hid (show Ends ((PR.ok () r.tail.tail).bind fun _ r => pE n 1 (d + 1) r) from ends_left hn)
  have HE := Lib.hid hE
  have N1 := Lib.hid (show isAt (⟨#[40]⟩ : ByteArray).data.toList (PR.ok () r) = false from h1)
  have N2 := Lib.hid (show isAt (⟨#[116, 114, 117, 101]⟩ : ByteArray).data.toList (PR.ok () r) = false from h2)
  have N3 := Lib.hid (show isAt (⟨#[102, 97, 108, 115, 101]⟩ : ByteArray).data.toList (PR.ok () r) = false from h3)
  have N4 := Lib.hid (show isAt (⟨#[114, 101, 97, 100]⟩ : ByteArray).data.toList (PR.ok () r) = false from h4)
  have H5 := Lib.hid h5
  have H6 := Lib.hid h6
  have HS := Lib.hid hs
  have B1 := Lib.hid (show isAt (⟨#[40]⟩ : ByteArray).data.toList (PR.ok () r.tail) = false from h7)
  have Y1 := Lib.hid (show isAt (⟨#[91]⟩ : ByteArray).data.toList (PR.ok () r.tail) = true from h8)
  clear h h1 h2 h3 h4 h5 h6 h7 h8 ex ey hs hn hE
  go_enter Tryz.func138, Tryz.ntmps138
  go_wp2_with (first
    | (go_at_call 45; (with_reducible refine (over_is HC.out.st false rfl).mono ?_); rintro e w1 ⟨rfl, rfl⟩)
    | (go_at_call 48; (with_reducible refine (take_no' HC.out.st _ N1.out).mono ?_); rintro e w1 ⟨rfl, hD⟩
       replace HC := Lib.hid (HC.out.step hD)
       clear hD
       obtain ⟨⟨c0, c1, c2, c3, c4⟩, fz⟩ := HC.out.own)
    | (go_at_call 48; (with_reducible refine (take_no' HC.out.st _ N2.out).mono ?_); rintro e w1 ⟨rfl, hD⟩
       replace HC := Lib.hid (HC.out.step hD)
       clear hD
       obtain ⟨⟨c0, c1, c2, c3, c4⟩, fz⟩ := HC.out.own)
    | (go_at_call 48; (with_reducible refine (take_no' HC.out.st _ N3.out).mono ?_); rintro e w1 ⟨rfl, hD⟩
       replace HC := Lib.hid (HC.out.step hD)
       clear hD
       obtain ⟨⟨c0, c1, c2, c3, c4⟩, fz⟩ := HC.out.own)
    | (go_at_call 48; (with_reducible refine (take_no' HC.out.st _ N4.out).mono ?_); rintro e w1 ⟨rfl, hD⟩
       replace HC := Lib.hid (HC.out.step hD)
       clear hD
       obtain ⟨⟨c0, c1, c2, c3, c4⟩, fz⟩ := HC.out.own))
  obtain ⟨g, c, k, t, q, rfl, rfl, hk, hklt, hl, b0, b1, b2, b3, t0, t1, t2⟩ := (show Pbox b V all r false false w1 from HC.out.st).tok
  have hklt2 : (k : Int) < all.length := by omega
  clear hk
  have hk0 : (t.kind == 0) = false := by have := H5.out; simpa [hdK] using this
  go_quiet (fail)
  replace HC := Lib.hid (HC.out.drewN nq)
  clear b0 b1 b2 b3 t0 t1 t2
  go_wp2_with (first
    | (go_at_call 47; (with_reducible refine (text_yes HC.out.st 1 (by decide) H6.out s HS.out).mono ?_); rintro e w2 ⟨rfl, hD⟩
       replace HC := Lib.hid (HC.out.step hD)
       clear hD)
    | (go_at_call 48; (with_reducible refine (take_no' HC.out.st _ B1.out).mono ?_); rintro e w3 ⟨rfl, hD⟩
       replace HC := Lib.hid (HC.out.step hD)
       clear hD
       obtain ⟨⟨c0, c1, c2, c3, c4⟩, fz⟩ := HC.out.own)
    | (go_at_call 48; (with_reducible refine (take_yes HC.out.st _ Y1.out).mono ?_); rintro e w4 ⟨rfl, hD⟩
       replace HC := Lib.hid (show Cur b _ all w (.ok () (t :: q).tail.tail) w4 from HC.out.step hD)
       clear hD
       have hz1 := HC.out.size)
    | (go_at_call 107; (with_reducible refine (HE.out.call HC.out.st HN.out).mono ?_); rintro e w5 ⟨v, rfl, hD, hG2⟩
       obtain ⟨k1, k2, k3, k4, k5, k6, k7, rfl⟩ := got_form hG2 HN.out
       have HG2 := Lib.hid hG2
       have hb1 := HC.out.st.lt
       replace HC := Lib.hid (HC.out.step hD)
       have hb2 : w5.heap.size ≠ b := by have := HC.out.st.lt; omega
       clear hD hG2)
    | (go_at_call 50; (with_reducible refine (must_any (HC.out.alloc _).st _).mono ?_); rintro e w6 ⟨rfl, hD⟩
       have hk := (Keep.of_below (L := w4.heap.size) ((Below.refl _ _).alloc (Nat.le_refl _) _)).trans (Keep.did hD hb1)
       have HK := Lib.hid hk
       obtain ⟨p3, r3⟩ := off_own hD.off (k := w5.heap.size) (by simp) hb2
       replace HC := Lib.hid ((HC.out.alloc _).step hD)
       have hz6 := HC.out.size
       clear hD hk
       obtain ⟨⟨c0, c1, c2, c3, c4⟩, fz⟩ := HC.out.own))
  obtain ⟨f0, f1, f2, f3, f4⟩ := HC.out.reada (.cells #[.int .i64 k1, .int .i64 k2, .int .i64 k3, .string k4, .slice k5 k6 k7] 84) (.int .i64 6) (.int .i64 0) (.int .i64 0) (.string s) (.slice (some ⟨w6.heap.size, 0, none⟩) 1 1)
  refine bodyPost_ret (v := .agg #[.int .i64 6, .int .i64 0, .int .i64 0, .string s, .slice (some ⟨w6.heap.size, 0, none⟩) 1 1]) (by simp [results, Tryz.results138, go_sem, f0, f1, f2, f3, f4]) rfl ?_
  refine HC.out.fina ?_ ((HG2.out.imp fun a ha => (show FrE w.heap.size ((writ w6 w.heap.size _ _ _ _ _).alloc _) (.mk 6 0 0 s [a]) _ from ⟨_, rfl, ⟨by show (_ : Int) ≤ 0; decide, by show (0 : Int) ≤ _; decide⟩, fr_one ((FrE.keep ha HK.out (Nat.le_refl _)).writ hz1 _ _ _ _ _) (Nat.le_refl _) (by rw [writ_size]; omega) (writ_size _ _ _ _ _ _ _).symm⟩)).bind (fun a r _ ha => got_must ha) fun a ha => ⟨_, ha⟩)
  rw [un_bind]
  simp only [must_ok_un]
  rw [← bind_un]
  rfl
end Go.Proofs.YtakijoblbmfadaaGreatDoor

/- The document's parser: which operator stands here. -/
namespace Go.Proofs.YtakijoblbmfadaaGreatDoor
open Go.RowKit
def rangeI (a : Int) : Nat → List Int
  | 0 => []
  | m + 1 => a :: rangeI (a + 1) m
theorem twos_range : twos = rangeI 1 19 := by decide
theorem ones_range : ones = rangeI 20 9 := by decide
/-- Does the operator stand there, at its level? -/
def opIs (lev : Int) (l : List Tok) (op : Int) : Bool := decide (lvlOf op = lev) && isS (sgT op) l
theorem opFrom_cons (lev : Int) (l : List Tok) (a : Int) (r : List Int) : opFrom lev l (a :: r) = if opIs lev l a = true then a else opFrom lev l r := by
  rw [opFrom]
  unfold opIs
  simp only [Bool.and_eq_true, decide_eq_true_eq]
theorem opFrom_hit {lev : Int} {l : List Tok} {k : Int} (hk : opIs lev l k = true) : ∀ (m : Nat) (a : Int), a ≤ k → k < a + m → (∀ j, a ≤ j → j < k → opIs lev l j = false) → opFrom lev l (rangeI a m) = k
  | 0, a, h1, h2, _ => by omega
  | m + 1, a, h1, h2, h => by
    rw [rangeI, opFrom_cons]
    by_cases e : a = k
    · subst e
      rw [if_pos hk]
    · rw [h a (Int.le_refl _) (by omega), if_neg (by decide)]
      exact opFrom_hit hk m (a + 1) (by omega) (by omega) fun j h3 => h j (by omega)
theorem opFrom_none {lev : Int} {l : List Tok} : ∀ (m : Nat) (a : Int), (∀ j, a ≤ j → j < a + m → opIs lev l j = false) → opFrom lev l (rangeI a m) = 0
  | 0, a, _ => rfl
  | m + 1, a, h => by
    rw [rangeI, opFrom_cons, h a (Int.le_refl _) (by omega), if_neg (by decide)]
    exact opFrom_none m (a + 1) fun j h3 h4 => h j (by omega) (by omega)
theorem unFrom_hit {l : List Tok} {k : Int} (hk : isS (sgT k) l = true) : ∀ (m : Nat) (a : Int), a ≤ k → k < a + m → (∀ j, a ≤ j → j < k → isS (sgT j) l = false) → unFrom l (rangeI a m) = k
  | 0, a, h1, h2, _ => by omega
  | m + 1, a, h1, h2, h => by
    rw [rangeI, unFrom]
    by_cases e : a = k
    · subst e
      rw [if_pos hk]
    · rw [h a (Int.le_refl _) (by omega), if_neg (by decide)]
      exact unFrom_hit hk m (a + 1) (by omega) (by omega) fun j h3 => h j (by omega)
theorem unFrom_none {l : List Tok} : ∀ (m : Nat) (a : Int), (∀ j, a ≤ j → j < a + m → isS (sgT j) l = false) → unFrom l (rangeI a m) = 0
  | 0, a, _ => rfl
  | m + 1, a, h => by
    rw [rangeI, unFrom, h a (Int.le_refl _) (by omega), if_neg (by decide)]
    exact unFrom_none m (a + 1) fun j h3 h4 => h j (by omega) (by omega)
def opX (lev : Int) (x : PR Unit) : Int := match x with | .ok _ r => opAt lev r | _ => 0
def opIsX (lev : Int) (x : PR Unit) (op : Int) : Bool := decide (lvlOf op = lev) && isAt (sgT op) x
theorem opX_hit {lev k : Int} {x : PR Unit} (h1 : 1 ≤ k) (h2 : k ≤ 19) (hk : opIsX lev x k = true) (h : ∀ j, 1 ≤ j → j < k → opIsX lev x j = false) : opX lev x = k := by
  cases x with
  | ok a r =>
    show opFrom lev r twos = k
    rw [twos_range]
    exact opFrom_hit hk 19 1 h1 (by omega) h
  | _ => simp [opIsX, isAt] at hk
theorem opX_none {lev : Int} {x : PR Unit} (h : ∀ j, 1 ≤ j → j < 20 → opIsX lev x j = false) : opX lev x = 0 := by
  cases x with
  | ok a r =>
    show opFrom lev r twos = 0
    rw [twos_range]
    exact opFrom_none 19 1 h
  | _ => rfl
theorem rlevel_is (op l : Int) (h : lvlOf op = l) (w : World) : Calls Tryz.prog 70 #[.int .i64 op] w fun e w' => e = .returned (.int .i64 l) ∧ w = w' := h ▸ rlevel_any op w
theorem rsign_did {b : Nat} {V : Value} {all : List Tok} {x : PR Unit} {w : World} (op : Int) (s : ByteArray) (h : sgnOf op = s) (hs : StP b V all x w) : Calls Tryz.prog 68 #[.int .i64 op] w fun e w' => e = .returned (.string s) ∧ Did b V all w x w' := by
  subst h
  exact (rsign_any op w).mono fun _ _ ⟨he, hb⟩ => ⟨he, hs.below hb, OffB.of_below hb hs.lt⟩
theorem is_did {b : Nat} {V : Value} {all : List Tok} {x : PR Unit} {w : World} (h : StP b V all x w) (s : ByteArray) (v : Bool) (hv : isAt s.data.toList x = v) :
    Calls Tryz.prog 71 #[.pointer (some ⟨b, 0, none⟩), .string s] w fun e w' => e = .returned (.bool v) ∧ Did b V all w x w' :=
  (is_is h s v hv).mono fun _ _ ⟨he, m, hm⟩ => ⟨he, hm ▸ ⟨h.drewN m, (OffB.refl b _ w).drewN m⟩⟩
theorem op_any {b : Nat} {V : Value} {all : List Tok} {x : PR Unit} {w : World} (h : StP b V all x w) (lev : Int) (o : Int) (ho : opX lev x = o) :
    Calls Tryz.prog 125 #[.pointer (some ⟨b, 0, none⟩), .int .i64 lev] w fun e w' => e = .returned (.int .i64 o) ∧ Did b V all w x w' := by
  have HD := Lib.hid (show Did b V all w x w from ⟨h, OffB.refl _ _ _⟩)
  have HO := Lib.hid ho
  clear h ho
  go_enter Tryz.func125, Tryz.ntmps125
  go_wp2
  go_loopw [5] (fun i wr => ∃ k : Int, i = .int .i64 k ∧ 1 ≤ k ∧ k ≤ 20 ∧ (∀ j, 1 ≤ j → j < k → opIsX lev x j = false) ∧ Did b V all w x wr) (fun i _ => (20 - intOf i).toNat)
  case atStart => exact ⟨1, rfl, by omega, by omega, fun j h1 h2 => by omega, HD.out⟩
  case round =>
    obtain ⟨k, rfl, hk1, hk2, hno, hD⟩ := hrel
    have HN := Lib.hid hno
    replace HD := Lib.hid hD
    clear hno hD
    by_cases hlt : k ≤ 19
    · obtain ⟨l, hl⟩ : ∃ l, lvlOf k = l := ⟨_, rfl⟩
      obtain ⟨s, hs⟩ : ∃ s, sgnOf k = s := ⟨_, rfl⟩
      have HL := Lib.hid hl
      have HS := Lib.hid hs
      by_cases hll : l = lev
      · subst hll
        cases hv : isAt s.data.toList x with
        | true =>
          have hok : opX l x = k := opX_hit hk1 hlt (by unfold opIsX sgT; rw [hs, hv, decide_eq_true hl]; rfl) HN.out
          have HV := Lib.hid hv
          have HK := Lib.hid (hok.symm.trans HO.out)
          clear hl hs hv hok
          go_wp2_with (first
            | (go_at_call 70; (with_reducible refine (rlevel_is k l HL.out _).mono ?_); rintro e w1 ⟨rfl, rfl⟩)
            | (go_at_call 68; (with_reducible refine (rsign_did k s HS.out HD.out.st).mono ?_); rintro e w2 ⟨rfl, hD⟩; replace HD := Lib.hid (HD.out.after hD); clear hD)
            | (go_at_call 71; (with_reducible refine (is_did HD.out.st s true HV.out).mono ?_); rintro e w3 ⟨rfl, hD⟩; replace HD := Lib.hid (HD.out.after hD); clear hD))
          go_ret
          exact ⟨ret_int HK.out, HD.out⟩
        | false =>
          have hno2 : ∀ j, 1 ≤ j → j < k + 1 → opIsX l x j = false := fun j h1 h2 => by
            by_cases e : j = k
            · subst e
              unfold opIsX sgT
              rw [hs, hv, Bool.and_false]
            · exact HN.out j h1 (by omega)
          replace HN := Lib.hid hno2
          have HV := Lib.hid hv
          clear hl hs hv hno2
          go_wp2_with (first
            | (go_at_call 70; (with_reducible refine (rlevel_is k l HL.out _).mono ?_); rintro e w1 ⟨rfl, rfl⟩)
            | (go_at_call 68; (with_reducible refine (rsign_did k s HS.out HD.out.st).mono ?_); rintro e w2 ⟨rfl, hD⟩; replace HD := Lib.hid (HD.out.after hD); clear hD)
            | (go_at_call 71; (with_reducible refine (is_did HD.out.st s false HV.out).mono ?_); rintro e w3 ⟨rfl, hD⟩; replace HD := Lib.hid (HD.out.after hD); clear hD))
          go_roundw
          case rel => exact ⟨k + 1, rfl, by omega, by omega, HN.out, HD.out⟩
          case measure => simp [intOf]; omega
      · have hll2 : (l == lev) = false := by simpa using hll
        have hno2 : ∀ j, 1 ≤ j → j < k + 1 → opIsX lev x j = false := fun j h1 h2 => by
          by_cases e : j = k
          · subst e
            unfold opIsX
            rw [hl, decide_eq_false hll, Bool.false_and]
          · exact HN.out j h1 (by omega)
        replace HN := Lib.hid hno2
        clear hl hs hno2 hll
        go_wp2_with (first
          | (go_at_call 70; (with_reducible refine (rlevel_is k l HL.out _).mono ?_); rintro e w1 ⟨rfl, rfl⟩))
        go_roundw
        case rel => exact ⟨k + 1, rfl, by omega, by omega, HN.out, HD.out⟩
        case measure => simp [intOf]; omega
    · obtain rfl : k = 20 := by omega
      go_wp2
      go_ret
      exact ⟨ret_int (by rw [← HO.out, opX_none HN.out]), HD.out⟩
end Go.Proofs.YtakijoblbmfadaaGreatDoor
