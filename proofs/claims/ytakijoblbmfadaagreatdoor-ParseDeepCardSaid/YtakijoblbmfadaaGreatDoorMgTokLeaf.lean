import Derived.Test.YtakijoblbmfadaaGreatDoorProg
import Derived.Test.YtakijoblbmfadaaGreatDoorMgTokMath
import Derived.Test.YtakijoblbmfadaaGreatDoorShelf
import Derived.WalkSpells
import Derived.WalkLawsBesides
import Derived.Outline
import Derived.Below
import Derived.Laws.RangeAny
import Derived.LoopTactic
import Derived.Lib.Walk
import Derived.Deep.Light
import Derived.Lib.Hide
import Derived.IntWalk
set_option linter.unusedSimpArgs false
set_option linter.unusedVariables false
/- The contracts of the small functions of the layer token and of the document's answer: letters, digits, words, names, spans. -/
namespace Go.Proofs.YtakijoblbmfadaaGreatDoor
open Go.RowKit
theorem ret_int {k : IntKind} {a b : Int} (h : a = b) : Ending.returned (.int k a) = .returned (.int k b) := by rw [h]
theorem ret_bool {a b : Bool} (h : a = b) : Ending.returned (.bool a) = .returned (.bool b) := by rw [h]
theorem letter_any (c : Int) (w : World) : Calls Tryz.prog 79 #[.int .i32 c] w fun e w' => e = .returned (.bool (letZ c)) ∧ w = w' := by
  go_enter Tryz.func79, Tryz.ntmps79
  go_wp2
  all_goals go_ret
  all_goals refine ⟨ret_bool ?_, rfl⟩
  all_goals go_light
  all_goals (unfold letZ; rw [Bool.eq_iff_iff]; simp; omega)
theorem rletter_any (c : Int) (w : World) : Calls Tryz.prog 40 #[.int .u8 c] w fun e w' => e = .returned (.bool (letZ c)) ∧ w = w' := by
  go_enter Tryz.func40, Tryz.ntmps40
  go_wp2
  all_goals go_ret
  all_goals refine ⟨ret_bool ?_, rfl⟩
  all_goals go_light
  all_goals (unfold letZ; rw [Bool.eq_iff_iff]; simp; omega)
theorem digit_any (c : Int) (w : World) : Calls Tryz.prog 80 #[.int .i32 c] w fun e w' => e = .returned (.bool (digZ c)) ∧ w = w' := by
  go_enter Tryz.func80, Tryz.ntmps80
  go_wp2
  all_goals go_ret
  all_goals refine ⟨ret_bool ?_, rfl⟩
  all_goals go_light
  all_goals (unfold digZ; rw [Bool.eq_iff_iff]; simp; omega)
theorem rdigit_any (c : Int) (w : World) : Calls Tryz.prog 41 #[.int .u8 c] w fun e w' => e = .returned (.bool (digZ c)) ∧ w = w' := by
  go_enter Tryz.func41, Tryz.ntmps41
  go_wp2
  all_goals go_ret
  all_goals refine ⟨ret_bool ?_, rfl⟩
  all_goals go_light
  all_goals (unfold digZ; rw [Bool.eq_iff_iff]; simp; omega)
theorem word_any (s : ByteArray) (w : World) : Calls Tryz.prog 81 #[.string s] w fun e w' => e = .returned (.bool (wordB s.data.toList)) ∧ w = w' := by
  rw [← Lib.toList_data]
  go_enter Tryz.func81, Tryz.ntmps81
  go_wp2
  all_goals go_ret
  all_goals refine ⟨ret_bool ?_, rfl⟩
  all_goals go_light
  all_goals simp_all [wordB, words]
theorem rword_any (s : ByteArray) (w : World) : Calls Tryz.prog 42 #[.string s] w fun e w' => e = .returned (.bool (wordB s.data.toList)) ∧ w = w' := by
  rw [← Lib.toList_data]
  go_enter Tryz.func42, Tryz.ntmps42
  go_wp2
  all_goals go_ret
  all_goals refine ⟨ret_bool ?_, rfl⟩
  all_goals go_light
  all_goals simp_all [wordB, words]
theorem below_iter {B : Nat} {a w : World} (h : Below B a w) (hB : B ≤ w.heap.size) (s : ByteArray) (pos : Nat) : Below B a (w.iter s pos) := h.alloc hB _
theorem at_list (s : ByteArray) (pos : Nat) (h : pos < s.size) : s.data.toList[pos]? = some s[pos] := by
  rw [Array.getElem?_toList]
  exact Array.getElem?_eq_getElem h
theorem all_step {s : ByteArray} {pos : Nat} (hp : pos < s.size) (h : ∀ (j : Nat) b, j < pos → s.data.toList[j]? = some b → isAln b = true) (ha : isAln s[pos] = true) :
    ∀ (j : Nat) b, j < pos + 1 → s.data.toList[j]? = some b → isAln b = true := by
  intro j b hj hb
  by_cases e : j = pos
  · subst e
    rw [at_list s j hp] at hb
    injection hb with hb
    exact hb ▸ ha
  · exact h j b (by omega) hb
theorem span_done {s : ByteArray} {pos : Nat} (hp : pos ≤ s.size) (h : ∀ (j : Nat) b, j < pos → s.data.toList[j]? = some b → isAln b = true) (h2 : ∀ hp : pos < s.size, isAln s[pos] = false) :
    spanN s.data.toList = pos :=
  span_len isAln _ pos hp h (fun b hb => by
    have hlt : pos < s.size := (List.getElem?_eq_some_iff.1 hb).1
    rw [at_list s pos hlt] at hb
    injection hb with hb
    exact hb ▸ h2 hlt)
/-- How many letters and digits a text begins with. -/
theorem span_any (s : ByteArray) (w : World) : Calls Tryz.prog 54 #[.string s] w fun e w' => e = .returned (.int .i64 (spanN s.data.toList)) ∧ Below w.heap.size w w' := by
  have hsz : s.data.toList.length = s.size := rfl
  go_enter Tryz.func54, Tryz.ntmps54
  go_wp2
  go_loopw [3] (fun _ w' => ∃ pos : Nat, w' = w.iter s pos ∧ pos ≤ s.size ∧ ∀ (j : Nat) b, j < pos → s.data.toList[j]? = some b → isAln b = true) (fun _ w' => s.size - w'.iterPos w.heap.size)
  case atStart => exact ⟨0, rfl, Nat.zero_le _, fun j b hj => absurd hj (by omega)⟩
  case round =>
    obtain ⟨pos, rfl, hp1, hall⟩ := hrel
    have HA := Lib.hid hall
    clear hall
    by_cases hp : pos < s.size
    · have hnx : ∀ ty, (Instr.next (.pointer (some ⟨w.heap.size, 0, none⟩)) true ty).run Tryz.prog (w.iter s pos) = _ := fun ty => run_next_any w s pos ty hp
      by_cases ha : isAln s[pos] = true
      · have hlow := isAln_low _ ha
        rw [decode_ascii s pos hp hlow] at hnx
        have hor : letZ (s[pos].toNat : Int) = true ∨ digZ (s[pos].toNat : Int) = true := by
          rw [letZ_eq, digZ_eq]
          simpa [isAln] using ha
        have HO := Lib.hid hor
        have HL := Lib.hid ha
        clear hor ha
        go_wp2_with (first | (go_at_call 79; (with_reducible refine (letter_any _ _).mono ?_); rintro e w' ⟨rfl, rfl⟩) | (go_at_call 80; (with_reducible refine (digit_any _ _).mono ?_); rintro e w' ⟨rfl, rfl⟩))
        all_goals first
          | (go_roundw
             case rel => exact ⟨pos + 1, rfl, hp, all_step hp HA.out HL.out⟩
             case measure => simp; omega)
          | (exfalso; have := HO.out; simp_all; done)
      · have HL := Lib.hid ha
        have hno : letZ ((Utf8.decode s pos).1 : Int) = false ∧ digZ ((Utf8.decode s pos).1 : Int) = false := by
          by_cases hlow : s[pos].toNat < 128
          · rw [decode_ascii s pos hp hlow]
            show letZ (s[pos].toNat : Int) = false ∧ digZ (s[pos].toNat : Int) = false
            rw [letZ_eq, digZ_eq]
            simpa [isAln] using ha
          · have := (decode_high s pos hp (by omega)).1
            exact ⟨letZ_high _ (by omega), digZ_high _ (by omega)⟩
        obtain ⟨hn1, hn2⟩ := hno
        clear ha
        go_wp2_with (first | (go_at_call 79; (with_reducible refine (letter_any _ _).mono ?_); rintro e w' ⟨rfl, rfl⟩) | (go_at_call 80; (with_reducible refine (digit_any _ _).mono ?_); rintro e w' ⟨rfl, rfl⟩))
        go_ret
        refine ⟨ret_int ?_, below_iter (Below.refl _ _) (Nat.le_refl _) _ _⟩
        rw [span_done hp1 HA.out (fun _ => by simpa using HL.out)]
    · have hnx : ∀ ty, (Instr.next (.pointer (some ⟨w.heap.size, 0, none⟩)) true ty).run Tryz.prog (w.iter s pos) = _ := fun ty => run_next_end w s pos ty hp
      go_wp2
      go_ret
      refine ⟨ret_int ?_, below_iter (Below.refl _ _) (Nat.le_refl _) _ _⟩
      have e : pos = s.size := by omega
      subst e
      rw [span_done hp1 HA.out (fun h => absurd h hp)]
theorem head_eq (s : ByteArray) (h : 0 < s.size) : s.data.toList.headD 0 = s[0] := by
  have := at_list s 0 h
  cases hl : s.data.toList with
  | nil => rw [hl] at this; cases this
  | cons a t => rw [hl] at this; simpa using this
theorem nil_of_size (s : ByteArray) (h : s.size = 0) : s.data.toList = [] := List.eq_nil_of_length_eq_zero h
theorem ne_of_size (s : ByteArray) (h : 0 < s.size) : s.data.toList ≠ [] := fun e => by have : s.data.toList.length = s.size := rfl; rw [e] at this; simp at this; omega
theorem name_nil (s : ByteArray) (w : World) (h0 : s.size = 0) : Calls Tryz.prog 63 #[.string s] w fun e w' => e = .returned (.bool false) ∧ w = w' := by
  have hl := nil_of_size s h0
  have he : s.toList.isEmpty = true := by rw [Lib.toList_data, hl]; rfl
  have he2 : s.toList = [] := by rw [Lib.toList_data, hl]
  clear hl h0
  go_enter Tryz.func63, Tryz.ntmps63
  go_wp2
  go_ret
  exact ⟨rfl, rfl⟩
theorem name_long (s : ByteArray) (w : World) (h20 : 20 < s.size) : Calls Tryz.prog 63 #[.string s] w fun e w' => e = .returned (.bool false) ∧ w = w' := by
  have hne := ne_of_size s (by omega)
  have he : s.toList.isEmpty = false := by rw [Lib.toList_data]; simpa using hne
  have hd : decide ((20 : Int) < s.size) = true := by simp; omega
  clear hne h20
  go_enter Tryz.func63, Tryz.ntmps63
  go_wp2
  go_ret
  exact ⟨rfl, rfl⟩
theorem digit_is (c : Int) (b : Bool) (h : digZ c = b) (w : World) : Calls Tryz.prog 80 #[.int .i32 c] w fun e w' => e = .returned (.bool b) ∧ w = w' := h ▸ digit_any c w
theorem span_is (s : ByteArray) (n : Nat) (h : spanN s.data.toList = n) (w : World) : Calls Tryz.prog 54 #[.string s] w fun e w' => e = .returned (.int .i64 n) ∧ Below w.heap.size w w' := h ▸ span_any s w
theorem word_is (s : ByteArray) (b : Bool) (h : wordB s.data.toList = b) (w : World) : Calls Tryz.prog 81 #[.string s] w fun e w' => e = .returned (.bool b) ∧ w = w' := h ▸ word_any s w
theorem name_short (s : ByteArray) (w : World) (hp : 0 < s.size) (h20 : s.size ≤ 20) (b1 : Bool) (n : Nat) (b3 : Bool) (h1 : digZ (wrap32 (s[0].toNat : Int)) = b1) (h2 : spanN s.data.toList = n) (h3 : wordB s.data.toList = b3) :
    Calls Tryz.prog 63 #[.string s] w fun e w' => e = .returned (.bool ((!b1) && decide (n = s.size) && !b3)) ∧ Below w.heap.size w w' := by
  have hne := ne_of_size s hp
  have he : s.toList.isEmpty = false := by rw [Lib.toList_data]; simpa using hne
  have hd : decide ((20 : Int) < s.size) = false := by simp; omega
  have H1 := Lib.hid h1
  have H2 := Lib.hid h2
  have H3 := Lib.hid h3
  clear hne h1 h2 h3
  cases b1
  all_goals
    go_enter Tryz.func63, Tryz.ntmps63
    go_wp2_with (first | (go_at_call 80; (with_reducible refine (digit_is _ _ H1.out _).mono ?_); rintro e w' ⟨rfl, rfl⟩) | (go_at_call 54; (with_reducible refine (span_is _ _ H2.out _).mono ?_); rintro e w1 ⟨rfl, hb⟩) | (go_at_call 81; (with_reducible refine (word_is _ _ H3.out _).mono ?_); rintro e w' ⟨rfl, rfl⟩))
  all_goals go_ret
  all_goals first
    | (refine ⟨ret_bool ?_, hb⟩; simp; intros; omega)
    | (refine ⟨ret_bool ?_, Below.refl _ _⟩; simp; done)
theorem name_any (s : ByteArray) (w : World) : Calls Tryz.prog 63 #[.string s] w fun e w' => e = .returned (.bool (nameB s.data.toList)) ∧ Below w.heap.size w w' := by
  have hsz : s.data.toList.length = s.size := rfl
  by_cases h0 : s.size = 0
  · rw [nil_of_size s h0, nameB_nil]
    exact (name_nil s w h0).mono fun e w' ⟨h, k⟩ => ⟨h, k ▸ Below.refl _ _⟩
  by_cases h20 : 20 < s.size
  · rw [nameB_long _ (by omega)]
    exact (name_long s w h20).mono fun e w' ⟨h, k⟩ => ⟨h, k ▸ Below.refl _ _⟩
  · have hp : 0 < s.size := by omega
    rw [nameB_eq _ (ne_of_size s hp) (by omega), head_eq s hp, ← digZ_eq]
    refine name_short s w hp (by omega) _ _ _ ?_ rfl rfl
    rw [IntWalk.wrap32_in _ (by have := s[0].toNat_lt; omega)]
end Go.Proofs.YtakijoblbmfadaaGreatDoor

/- The contracts of token.gap, and of the library functions that it and the scanner call. -/
namespace Go.Proofs.YtakijoblbmfadaaGreatDoor
open Go.RowKit
theorem below_drewN {B : Nat} {a w : World} (h : Below B a w) (n : Nat) : Below B a (w.drewN n) := ⟨h.os, h.tape, h.output, h.size, h.block⟩
theorem hasPrefix_is (s p : ByteArray) (b : Bool) (h : Lib.hasPrefix s.data.toList p.data.toList = b) (w : World) : Calls Tryz.prog 73 #[.string s, .string p] w fun e w' => e = .returned (.bool b) ∧ w = w' := by
  subst h
  exact (Any.strings_HasPrefix Tryz.lays99 s p w).mono fun e w' ⟨h1, h2⟩ => ⟨h1, h2.symm⟩
theorem trim_is (s t : ByteArray) (h : (⟨(s.data.toList.dropWhile isBlk).toArray⟩ : ByteArray) = t) (w : World) : Calls Tryz.prog 74 #[.string s, .string ⟨#[32, 9, 13, 10]⟩] w fun e w' => e = .returned (.string t) ∧ Below w.heap.size w w' := by
  subst h
  rw [← trim_blk]
  exact Any.strings_TrimLeft_laid Tryz.lays161 (by kernel_rfl) s ⟨#[32, 9, 13, 10]⟩ w (by decide) (ascii_of_all (by decide))
theorem index_is (s : ByteArray) (n : Int) (h : Lib.indexByte s.data.toList 10 = n) (w : World) : Calls Tryz.prog 75 #[.string s, .int .u8 10] w fun e w' => e = .returned (.int .i64 n) ∧ w = w' := by
  subst h
  exact (Any.strings_IndexByte Tryz.lays137 s 10 w).mono fun e w' ⟨h1, h2⟩ => ⟨h1, h2.symm⟩
theorem count_is (s : ByteArray) (n : Nat) (h : nl s.data.toList = n) (w : World) : Calls Tryz.prog 53 #[.string s, .string ⟨#[10]⟩] w fun e w' => e = .returned (.int .i64 n) ∧ w = w' := by
  subst h
  refine (Any.strings_Count_one Tryz.lays138 s 10 w).mono fun e w' ⟨h1, h2⟩ => ⟨h1.trans ?_, h2.symm⟩
  have : Lib.countByte s.data.toList 10 = nl s.data.toList := by
    unfold Lib.countByte nl List.count
    congr 1
    funext b
    rw [Bool.eq_iff_iff]
    simp [← UInt8.toNat_inj]
  rw [this]
theorem gap_com (s : ByteArray) (w : World) (hp : Lib.hasPrefix s.data.toList [47, 47] = true) : Calls Tryz.prog 52 #[.string s] w fun e w' => e = .returned (.int .i64 (gapN s.data.toList)) ∧ Below w.heap.size w w' := by
  have hg : gapN s.data.toList = (s.data.toList.takeWhile (fun d => d.toNat != 10)).length := by unfold gapN; rw [if_pos hp]
  have HP := Lib.hid hp
  obtain ⟨n, hn⟩ : ∃ n, Lib.indexByte s.data.toList 10 = n := ⟨_, rfl⟩
  have HN := Lib.hid hn
  have HG : Hid (gapN s.data.toList = if 0 ≤ n then n else s.size) := by
    have h0 := Lib.indexByte_ge s.data.toList 10
    unfold Hid
    rw [hg]
    by_cases h1 : n = -1
    · rw [if_neg (by omega), idx_none (hn.trans h1)]
      rfl
    · obtain ⟨o, rfl⟩ := Int.eq_ofNat_of_zero_le (show 0 ≤ n by omega)
      rw [if_pos (by omega), idx_some hn]
  clear hp hn hg
  by_cases h0 : 0 ≤ n
  all_goals
    go_enter Tryz.func52, Tryz.ntmps52
    go_wp2_with (first | (go_at_call 73; (with_reducible refine (hasPrefix_is _ _ _ HP.out _).mono ?_); rintro e w' ⟨rfl, rfl⟩) | (go_at_call 75; (with_reducible refine (index_is _ _ HN.out _).mono ?_); rintro e w' ⟨rfl, rfl⟩))
    go_ret
    refine ⟨ret_int ?_, Below.refl _ _⟩
    rw [HG.out]
    first
      | (rw [if_pos (by omega)]; done)
      | (rw [if_neg (by omega)]; done)
theorem gap_blk (s : ByteArray) (w : World) (hs : s.size ≤ 9223372036854775807) (hp : Lib.hasPrefix s.data.toList [47, 47] = false) : Calls Tryz.prog 52 #[.string s] w fun e w' => e = .returned (.int .i64 (gapN s.data.toList)) ∧ Below w.heap.size w w' := by
  have hg : gapN s.data.toList = (s.data.toList.takeWhile isBlk).length := by unfold gapN; rw [if_neg (by simp [hp])]
  have hl := drop_take_len isBlk s.data.toList
  have HP := Lib.hid hp
  obtain ⟨t, ht⟩ : ∃ t : ByteArray, (⟨(s.data.toList.dropWhile isBlk).toArray⟩ : ByteArray) = t := ⟨_, rfl⟩
  have hts : t.size = (s.data.toList.dropWhile isBlk).length := by rw [← ht]; rfl
  have hsz : s.data.toList.length = s.size := rfl
  have HT := Lib.hid ht
  have HG : Hid ((gapN s.data.toList : Int) = (s.size : Int) - t.size) := by unfold Hid; rw [hg]; omega
  have hle : t.size ≤ s.size := by omega
  clear hp ht hg hl hts hsz
  go_enter Tryz.func52, Tryz.ntmps52
  go_wp2_with (first | (go_at_call 73; (with_reducible refine (hasPrefix_is _ _ _ HP.out _).mono ?_); rintro e w' ⟨rfl, rfl⟩) | (go_at_call 74; (with_reducible refine (trim_is _ _ HT.out _).mono ?_); rintro e w1 ⟨rfl, hb⟩))
  go_ret
  exact ⟨ret_int (by rw [HG.out]), hb⟩
/-- How many bytes of blanks, or of one comment, a text begins with. -/
theorem gap_is (s : ByteArray) (n : Nat) (h : gapN s.data.toList = n) (w : World) (hs : s.size ≤ 9223372036854775807) : Calls Tryz.prog 52 #[.string s] w fun e w' => e = .returned (.int .i64 n) ∧ Below w.heap.size w w' := by
  subst h
  cases hp : Lib.hasPrefix s.data.toList [47, 47] with
  | true => exact gap_com s w hp
  | false => exact gap_blk s w hs hp
end Go.Proofs.YtakijoblbmfadaaGreatDoor
