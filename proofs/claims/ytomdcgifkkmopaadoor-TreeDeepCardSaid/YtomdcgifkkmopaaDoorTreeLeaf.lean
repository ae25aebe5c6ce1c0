/- The contracts of the small functions that the layer tree and the document's answer to it call: names, signs and levels of operators. Sign and Level under the condition that wrap.rows reads as the program's text lays it (Tab). -/
import Derived.Test.YtomdcgifkkmopaaDoorProg
import Derived.Test.YtomdcgifkkmopaaDoorTreeMath
import Derived.WalkSpells
import Derived.WalkLawsBesides
import Derived.Outline
import Derived.Below
import Derived.Laws.RangeAny
import Derived.LoopTactic
import Derived.Lib.Walk
import Derived.Deep.Light
import Derived.Lib.Hide
import Derived.IntWalk
namespace Go.Proofs.YtomdcgifkkmopaaDoor
open Go.RowKit
theorem ret_int {k : IntKind} {a b : Int} (h : a = b) : Ending.returned (.int k a) = .returned (.int k b) := by rw [h]
theorem ret_bool {a b : Bool} (h : a = b) : Ending.returned (.bool a) = .returned (.bool b) := by rw [h]
theorem letter_any (c : Int) (w : World) : Calls Tryd.prog 56 #[.int .i32 c] w fun e w' => e = .returned (.bool (letZ c)) ∧ w = w' := by
  go_enter Tryd.func56, Tryd.ntmps56
  go_wp2
  all_goals go_ret
  all_goals refine ⟨ret_bool ?_, rfl⟩
  all_goals go_light
  all_goals (unfold letZ; rw [Bool.eq_iff_iff]; simp; omega)
theorem rletter_any (c : Int) (w : World) : Calls Tryd.prog 27 #[.int .u8 c] w fun e w' => e = .returned (.bool (letZ c)) ∧ w = w' := by
  go_enter Tryd.func27, Tryd.ntmps27
  go_wp2
  all_goals go_ret
  all_goals refine ⟨ret_bool ?_, rfl⟩
  all_goals go_light
  all_goals (unfold letZ; rw [Bool.eq_iff_iff]; simp; omega)
theorem digit_any (c : Int) (w : World) : Calls Tryd.prog 43 #[.int .i32 c] w fun e w' => e = .returned (.bool (digZ c)) ∧ w = w' := by
  go_enter Tryd.func43, Tryd.ntmps43
  go_wp2
  all_goals go_ret
  all_goals refine ⟨ret_bool ?_, rfl⟩
  all_goals go_light
  all_goals (unfold digZ; rw [Bool.eq_iff_iff]; simp; omega)
theorem rdigit_any (c : Int) (w : World) : Calls Tryd.prog 29 #[.int .u8 c] w fun e w' => e = .returned (.bool (digZ c)) ∧ w = w' := by
  go_enter Tryd.func29, Tryd.ntmps29
  go_wp2
  all_goals go_ret
  all_goals refine ⟨ret_bool ?_, rfl⟩
  all_goals go_light
  all_goals (unfold digZ; rw [Bool.eq_iff_iff]; simp; omega)
theorem word_any (s : ByteArray) (w : World) : Calls Tryd.prog 45 #[.string s] w fun e w' => e = .returned (.bool (wordB s.data.toList)) ∧ w = w' := by
  rw [← Lib.toList_data]
  go_enter Tryd.func45, Tryd.ntmps45
  go_wp2
  all_goals go_ret
  all_goals refine ⟨ret_bool ?_, rfl⟩
  all_goals go_light
  all_goals simp_all [wordB, words]
theorem rword_any (s : ByteArray) (w : World) : Calls Tryd.prog 28 #[.string s] w fun e w' => e = .returned (.bool (wordB s.data.toList)) ∧ w = w' := by
  rw [← Lib.toList_data]
  go_enter Tryd.func28, Tryd.ntmps28
  go_wp2
  all_goals go_ret
  all_goals refine ⟨ret_bool ?_, rfl⟩
  all_goals go_light
  all_goals simp_all [wordB, words]
theorem below_iter {B : Nat} {a w : World} (h : Below B a w) (hB : B ≤ w.heap.size) (s : ByteArray) (pos : Nat) : Below B a (w.iter s pos) := h.alloc hB _
theorem at_list (s : ByteArray) (pos : Nat) (h : pos < s.size) : s.data.toList[pos]? = some s[pos] := by
  rw [Array.getElem?_toList]
  exact Array.getElem?_eq_getElem h
theorem all_step {s : ByteArray} {pos : Nat} (hp : pos < s.size) (h : ∀ (j : Nat) b, j < pos → s.data.toList[j]? = some b → isAln b = true) (ha : isAln s[pos] = true) :
    ∀ (j : Nat) b, j < pos + 1 → s.data.toList[j]? = some b → isAln b = true := by
  intro j b hj hb
  by_cases e : j = pos
  · subst e
    rw [at_list s j hp] at hb
    injection hb with hb
    exact hb ▸ ha
  · exact h j b (by omega) hb
theorem span_done {s : ByteArray} {pos : Nat} (hp : pos ≤ s.size) (h : ∀ (j : Nat) b, j < pos → s.data.toList[j]? = some b → isAln b = true) (h2 : ∀ hp : pos < s.size, isAln s[pos] = false) :
    spanN s.data.toList = pos :=
  span_len isAln _ pos hp h (fun b hb => by
    have hlt : pos < s.size := (List.getElem?_eq_some_iff.1 hb).1
    rw [at_list s pos hlt] at hb
    injection hb with hb
    exact hb ▸ h2 hlt)
/-- How many letters and digits a text begins with. -/
theorem span_any (s : ByteArray) (w : World) : Calls Tryd.prog 44 #[.string s] w fun e w' => e = .returned (.int .i64 (spanN s.data.toList)) ∧ Below w.heap.size w w' := by
  have hsz : s.data.toList.length = s.size := rfl
  go_enter Tryd.func44, Tryd.ntmps44
  go_wp2
  go_loopw [3] (fun _ w' => ∃ pos : Nat, w' = w.iter s pos ∧ pos ≤ s.size ∧ ∀ (j : Nat) b, j < pos → s.data.toList[j]? = some b → isAln b = true) (fun _ w' => s.size - w'.iterPos w.heap.size)
  case atStart => exact ⟨0, rfl, Nat.zero_le _, fun j b hj => absurd hj (by omega)⟩
  case round =>
    obtain ⟨pos, rfl, hp1, hall⟩ := hrel
    have HA := Lib.hid hall
    clear hall
    by_cases hp : pos < s.size
    · have hnx : ∀ ty, (Instr.next (.pointer (some ⟨w.heap.size, 0, none⟩)) true ty).run Tryd.prog (w.iter s pos) = _ := fun ty => run_next_any w s pos ty hp
      by_cases ha : isAln s[pos] = true
      · have hlow := isAln_low _ ha
        rw [decode_ascii s pos hp hlow] at hnx
        have hor : letZ (s[pos].toNat : Int) = true ∨ digZ (s[pos].toNat : Int) = true := by
          rw [letZ_eq, digZ_eq]
          simpa [isAln] using ha
        have HO := Lib.hid hor
        have HL := Lib.hid ha
        clear hor ha
        go_wp2_with (first | (go_at_call 56; (with_reducible refine (letter_any _ _).mono ?_); rintro e w' ⟨rfl, rfl⟩) | (go_at_call 43; (with_reducible refine (digit_any _ _).mono ?_); rintro e w' ⟨rfl, rfl⟩))
        all_goals first
          | (go_roundw
             case rel => exact ⟨pos + 1, rfl, hp, all_step hp HA.out HL.out⟩
             case measure => simp; omega)
          | (exfalso; have := HO.out; simp_all; done)
      · have HL := Lib.hid ha
        have hno : letZ ((Utf8.decode s pos).1 : Int) = false ∧ digZ ((Utf8.decode s pos).1 : Int) = false := by
          by_cases hlow : s[pos].toNat < 128
          · rw [decode_ascii s pos hp hlow]
            show letZ (s[pos].toNat : Int) = false ∧ digZ (s[pos].toNat : Int) = false
            rw [letZ_eq, digZ_eq]
            simpa [isAln] using ha
          · have := (decode_high s pos hp (by omega)).1
            exact ⟨letZ_high _ (by omega), digZ_high _ (by omega)⟩
        obtain ⟨hn1, hn2⟩ := hno
        clear ha
        go_wp2_with (first | (go_at_call 56; (with_reducible refine (letter_any _ _).mono ?_); rintro e w' ⟨rfl, rfl⟩) | (go_at_call 43; (with_reducible refine (digit_any _ _).mono ?_); rintro e w' ⟨rfl, rfl⟩))
        go_ret
        refine ⟨ret_int ?_, below_iter (Below.refl _ _) (Nat.le_refl _) _ _⟩
        rw [span_done hp1 HA.out (fun _ => by simpa using HL.out)]
    · have hnx : ∀ ty, (Instr.next (.pointer (some ⟨w.heap.size, 0, none⟩)) true ty).run Tryd.prog (w.iter s pos) = _ := fun ty => run_next_end w s pos ty hp
      go_wp2
      go_ret
      refine ⟨ret_int ?_, below_iter (Below.refl _ _) (Nat.le_refl _) _ _⟩
      have e : pos = s.size := by omega
      subst e
      rw [span_done hp1 HA.out (fun h => absurd h hp)]
theorem head_eq (s : ByteArray) (h : 0 < s.size) : s.data.toList.headD 0 = s[0] := by
  have := at_list s 0 h
  cases hl : s.data.toList with
  | nil => rw [hl] at this; cases this
  | cons a t => rw [hl] at this; simpa using this
theorem nil_of_size (s : ByteArray) (h : s.size = 0) : s.data.toList = [] := List.eq_nil_of_length_eq_zero h
theorem ne_of_size (s : ByteArray) (h : 0 < s.size) : s.data.toList ≠ [] := fun e => by have : s.data.toList.length = s.size := rfl; rw [e] at this; simp at this; omega
theorem name_nil (s : ByteArray) (w : World) (h0 : s.size = 0) : Calls Tryd.prog 24 #[.string s] w fun e w' => e = .returned (.bool false) ∧ w = w' := by
  have hl := nil_of_size s h0
  have he : s.toList.isEmpty = true := by rw [Lib.toList_data, hl]; rfl
  have he2 : s.toList = [] := by rw [Lib.toList_data, hl]
  clear hl h0
  go_enter Tryd.func24, Tryd.ntmps24
  go_wp2
  go_ret
  exact ⟨rfl, rfl⟩
theorem name_long (s : ByteArray) (w : World) (h20 : 20 < s.size) : Calls Tryd.prog 24 #[.string s] w fun e w' => e = .returned (.bool false) ∧ w = w' := by
  have hne := ne_of_size s (by omega)
  have he : s.toList.isEmpty = false := by rw [Lib.toList_data]; simpa using hne
  have hd : decide ((20 : Int) < s.size) = true := by simp; omega
  clear hne h20
  go_enter Tryd.func24, Tryd.ntmps24
  go_wp2
  go_ret
  exact ⟨rfl, rfl⟩
theorem digit_is (c : Int) (b : Bool) (h : digZ c = b) (w : World) : Calls Tryd.prog 43 #[.int .i32 c] w fun e w' => e = .returned (.bool b) ∧ w = w' := h ▸ digit_any c w
theorem span_is (s : ByteArray) (n : Nat) (h : spanN s.data.toList = n) (w : World) : Calls Tryd.prog 44 #[.string s] w fun e w' => e = .returned (.int .i64 n) ∧ Below w.heap.size w w' := h ▸ span_any s w
theorem word_is (s : ByteArray) (b : Bool) (h : wordB s.data.toList = b) (w : World) : Calls Tryd.prog 45 #[.string s] w fun e w' => e = .returned (.bool b) ∧ w = w' := h ▸ word_any s w
theorem name_short (s : ByteArray) (w : World) (hp : 0 < s.size) (h20 : s.size ≤ 20) (b1 : Bool) (n : Nat) (b3 : Bool) (h1 : digZ (wrap32 (s[0].toNat : Int)) = b1) (h2 : spanN s.data.toList = n) (h3 : wordB s.data.toList = b3) :
    Calls Tryd.prog 24 #[.string s] w fun e w' => e = .returned (.bool ((!b1) && decide (n = s.size) && !b3)) ∧ Below w.heap.size w w' := by
  have hne := ne_of_size s hp
  have he : s.toList.isEmpty = false := by rw [Lib.toList_data]; simpa using hne
  have hd : decide ((20 : Int) < s.size) = false := by simp; omega
  have H1 := Lib.hid h1
  have H2 := Lib.hid h2
  have H3 := Lib.hid h3
  clear hne h1 h2 h3
  cases b1
  all_goals
    go_enter Tryd.func24, Tryd.ntmps24
    go_wp2_with (first | (go_at_call 43; (with_reducible refine (digit_is _ _ H1.out _).mono ?_); rintro e w' ⟨rfl, rfl⟩) | (go_at_call 44; (with_reducible refine (span_is _ _ H2.out _).mono ?_); rintro e w1 ⟨rfl, hb⟩) | (go_at_call 45; (with_reducible refine (word_is _ _ H3.out _).mono ?_); rintro e w' ⟨rfl, rfl⟩))
  all_goals go_ret
  all_goals first
    | (refine ⟨ret_bool ?_, hb⟩; simp; intros; omega)
    | (refine ⟨ret_bool ?_, Below.refl _ _⟩; simp; done)
theorem name_any (s : ByteArray) (w : World) : Calls Tryd.prog 24 #[.string s] w fun e w' => e = .returned (.bool (nameB s.data.toList)) ∧ Below w.heap.size w w' := by
  have hsz : s.data.toList.length = s.size := rfl
  by_cases h0 : s.size = 0
  · rw [nil_of_size s h0, nameB_nil]
    exact (name_nil s w h0).mono fun e w' ⟨h, k⟩ => ⟨h, k ▸ Below.refl _ _⟩
  by_cases h20 : 20 < s.size
  · rw [nameB_long _ (by omega)]
    exact (name_long s w h20).mono fun e w' ⟨h, k⟩ => ⟨h, k ▸ Below.refl _ _⟩
  · have hp : 0 < s.size := by omega
    rw [nameB_eq _ (ne_of_size s hp) (by omega), head_eq s hp, ← digZ_eq]
    refine name_short s w hp (by omega) _ _ _ ?_ rfl rfl
    rw [IntWalk.wrap32_in _ (by have := s[0].toNat_lt; omega)]
theorem rletter_is (c : Int) (b : Bool) (h : letZ c = b) (w : World) : Calls Tryd.prog 27 #[.int .u8 c] w fun e w' => e = .returned (.bool b) ∧ w = w' := h ▸ rletter_any c w
theorem rdigit_is (c : Int) (b : Bool) (h : digZ c = b) (w : World) : Calls Tryd.prog 29 #[.int .u8 c] w fun e w' => e = .returned (.bool b) ∧ w = w' := h ▸ rdigit_any c w
theorem rword_is (s : ByteArray) (b : Bool) (h : wordB s.data.toList = b) (w : World) : Calls Tryd.prog 28 #[.string s] w fun e w' => e = .returned (.bool b) ∧ w = w' := h ▸ rword_any s w
theorem all_alls {p : UInt8 → Bool} {s : ByteArray} (h : ∀ (j : Nat) b, j < s.size → s.data.toList[j]? = some b → p b = true) : s.data.toList.all p = true :=
  List.all_eq_true.2 fun b hb => by
    obtain ⟨j, hj⟩ := List.mem_iff_getElem?.1 hb
    exact h j b (by have := (List.getElem?_eq_some_iff.1 hj).1; rwa [← Lib.size_eq] at this) hj
theorem all_none {p : UInt8 → Bool} {s : ByteArray} {k : Nat} (hk : k < s.size) (h : p s[k] = false) : s.data.toList.all p = false := by
  rw [Bool.eq_false_iff]
  intro ha
  rw [List.all_eq_true.1 ha s[k] (List.mem_iff_getElem?.2 ⟨k, at_list s k hk⟩)] at h
  cases h
theorem all_step' {p : UInt8 → Bool} {s : ByteArray} {pos : Nat} (hp : pos < s.size) (h : ∀ (j : Nat) b, j < pos → s.data.toList[j]? = some b → p b = true) (ha : p s[pos] = true) :
    ∀ (j : Nat) b, j < pos + 1 → s.data.toList[j]? = some b → p b = true := by
  intro j b hj hb
  by_cases e : j = pos
  · subst e
    rw [at_list s j hp] at hb
    injection hb with hb
    exact hb ▸ ha
  · exact h j b (by omega) hb
theorem rname_nil (s : ByteArray) (w : World) (h0 : s.size = 0) : Calls Tryd.prog 17 #[.string s] w fun e w' => e = .returned (.bool false) ∧ w = w' := by
  have hl := nil_of_size s h0
  have he : s.toList.isEmpty = true := by rw [Lib.toList_data, hl]; rfl
  have he2 : s.toList = [] := by rw [Lib.toList_data, hl]
  clear hl h0
  go_enter Tryd.func17, Tryd.ntmps17
  go_wp2
  go_ret
  exact ⟨rfl, rfl⟩
theorem rname_long (s : ByteArray) (w : World) (h20 : 20 < s.size) : Calls Tryd.prog 17 #[.string s] w fun e w' => e = .returned (.bool false) ∧ w = w' := by
  have hne := ne_of_size s (by omega)
  have he : s.toList.isEmpty = false := by rw [Lib.toList_data]; simpa using hne
  have hd : decide ((20 : Int) < s.size) = true := by simp; omega
  clear hne h20
  go_enter Tryd.func17, Tryd.ntmps17
  go_wp2
  go_ret
  exact ⟨rfl, rfl⟩
theorem rname_head (s : ByteArray) (w : World) (hp : 0 < s.size) (h20 : s.size ≤ 20) (b1 b2 : Bool) (h1 : letZ (s[0].toNat : Int) = b1) (h2 : wordB s.data.toList = b2) (hb : b1 = false ∨ b2 = true) :
    Calls Tryd.prog 17 #[.string s] w fun e w' => e = .returned (.bool false) ∧ w = w' := by
  have hne := ne_of_size s hp
  have he : s.toList.isEmpty = false := by rw [Lib.toList_data]; simpa using hne
  have hd : decide ((20 : Int) < s.size) = false := by simp; omega
  have H1 := Lib.hid h1
  have H2 := Lib.hid h2
  clear hne h1 h2
  cases b1 <;> cases b2 <;> simp at hb
  all_goals
    go_enter Tryd.func17, Tryd.ntmps17
    go_wp2_with (first | (go_at_call 27; (with_reducible refine (rletter_is _ _ H1.out _).mono ?_); rintro e w' ⟨rfl, rfl⟩) | (go_at_call 28; (with_reducible refine (rword_is _ _ H2.out _).mono ?_); rintro e w' ⟨rfl, rfl⟩))
    go_ret
    exact ⟨rfl, rfl⟩
theorem rname_loop (s : ByteArray) (w : World) (hp : 0 < s.size) (h20 : s.size ≤ 20) (h1 : letZ (s[0].toNat : Int) = true) (h2 : wordB s.data.toList = false) (b : Bool) (hb : s.data.toList.all isAln = b) :
    Calls Tryd.prog 17 #[.string s] w fun e w' => e = .returned (.bool b) ∧ w = w' := by
  have hne := ne_of_size s hp
  have he : s.toList.isEmpty = false := by rw [Lib.toList_data]; simpa using hne
  have hd : decide ((20 : Int) < s.size) = false := by simp; omega
  have H1 := Lib.hid h1
  have H2 := Lib.hid h2
  have HB := Lib.hid hb
  clear hne h1 h2 hb
  go_enter Tryd.func17, Tryd.ntmps17
  go_wp2_with (first | (go_at_call 27; (with_reducible refine (rletter_is _ _ H1.out _).mono ?_); rintro e w' ⟨rfl, rfl⟩) | (go_at_call 28; (with_reducible refine (rword_is _ _ H2.out _).mono ?_); rintro e w' ⟨rfl, rfl⟩))
  go_loop [3] (fun i => ∃ k : Nat, k ≤ s.size ∧ i = .int .i64 k ∧ ∀ (j : Nat) b, j < k → s.data.toList[j]? = some b → isAln b = true) (fun i => s.size - (intOf i).toNat)
  case atStart => exact ⟨0, Nat.zero_le _, rfl, fun j b hj => absurd hj (by omega)⟩
  case round =>
    obtain ⟨k, hk, rfl, hall⟩ := hrel
    have HA := Lib.hid hall
    clear hall
    by_cases hlt : k < s.size
    · obtain ⟨b1, hb1⟩ : ∃ b, letZ (s[k].toNat : Int) = b := ⟨_, rfl⟩
      obtain ⟨b2, hb2⟩ : ∃ b, digZ (s[k].toNat : Int) = b := ⟨_, rfl⟩
      have HE : Hid (isAln s[k] = (b1 || b2)) := by unfold Hid isAln; rw [← hb1, ← hb2, letZ_eq, digZ_eq]
      have HB1 := Lib.hid hb1
      have HB2 := Lib.hid hb2
      clear hb1 hb2
      cases b1 <;> cases b2
      all_goals
        go_wp2_with (first | (go_at_call 27; (with_reducible refine (rletter_is _ _ HB1.out _).mono ?_); rintro e w' ⟨rfl, rfl⟩) | (go_at_call 29; (with_reducible refine (rdigit_is _ _ HB2.out _).mono ?_); rintro e w' ⟨rfl, rfl⟩))
      · go_ret
        exact ⟨ret_bool ((all_none hlt HE.out).symm.trans HB.out), rfl⟩
      all_goals
        go_round
        case rel => exact ⟨k + 1, by omega, by go_num, all_step' hlt HA.out HE.out⟩
        case measure => simp [intOf]; omega
    · have e : k = s.size := by omega
      subst e
      go_wp2
      go_ret
      exact ⟨ret_bool ((all_alls HA.out).symm.trans HB.out), rfl⟩
theorem rname_any (s : ByteArray) (w : World) : Calls Tryd.prog 17 #[.string s] w fun e w' => e = .returned (.bool (nameB s.data.toList)) ∧ w = w' := by
  by_cases h0 : s.size = 0
  · rw [nil_of_size s h0, nameB_nil]
    exact rname_nil s w h0
  by_cases h20 : 20 < s.size
  · rw [nameB_long _ (by rw [← Lib.size_eq]; exact h20)]
    exact rname_long s w h20
  · have hp : 0 < s.size := by omega
    have hb : nameB s.data.toList = (letZ (s[0].toNat : Int) && s.data.toList.all isAln && !wordB s.data.toList) := by
      unfold nameB
      rw [head_eq s hp, ← letZ_eq]
      have e1 : s.data.toList.isEmpty = false := by simpa using ne_of_size s hp
      have e2 : s.data.toList.length ≤ 20 := by rw [← Lib.size_eq]; omega
      rw [e1, decide_eq_true e2]
      rfl
    rw [hb]
    cases h1 : letZ (s[0].toNat : Int) with
    | false => exact rname_head s w hp (by omega) _ _ h1 rfl (.inl rfl)
    | true =>
      cases h2 : wordB s.data.toList with
      | true => exact (rname_head s w hp (by omega) _ _ h1 h2 (.inr rfl)).mono fun e w' ⟨h, k⟩ => ⟨by simp [h], k⟩
      | false => exact (rname_loop s w hp (by omega) h1 h2 _ rfl).mono fun e w' ⟨h, k⟩ => ⟨by simp [h], k⟩
theorem rname_is (s : ByteArray) (b : Bool) (h : nameB s.data.toList = b) (w : World) : Calls Tryd.prog 17 #[.string s] w fun e w' => e = .returned (.bool b) ∧ w = w' := h ▸ rname_any s w
theorem name_is (s : ByteArray) (b : Bool) (h : nameB s.data.toList = b) (w : World) : Calls Tryd.prog 24 #[.string s] w fun e w' => e = .returned (.bool b) ∧ Below w.heap.size w w' := h ▸ name_any s w
/-! ### signs and levels -/
def Tab (w : World) : Prop := ∀ k : Nat, k ≤ 28 → w.cell? ⟨0, k * 2, none⟩ = some (.string (sgn k)) ∧ w.cell? ⟨0, k * 2 + 1, none⟩ = some (.int .i64 (lvl k))
theorem Tab.size {w : World} (h : Tab w) : 0 < w.heap.size := block_lt_of_cell (h 0 (by omega)).1
theorem rowOf_in (k : Nat) (h1 : 1 ≤ k) (h2 : k ≤ 28) (w : World) (ht : Tab w) :
    Calls Tryd.prog 60 #[.int .i64 (k : Int)] w fun e w' => e = .returned (.agg #[.string (sgn k), .int .i64 (lvl k)]) ∧ Below w.heap.size w w' := by
  have hz := ht.size
  obtain ⟨c0, c1⟩ := ht k h2
  clear ht
  go_enter Tryd.func60, Tryd.ntmps60
  go_wp2
  exact bodyPost_ret (v := .agg #[.string (sgn k), .int .i64 (lvl k)]) (by simp [results, Tryd.results60, go_sem]) rfl ⟨rfl, (Below.refl _ _).alloc (Nat.le_refl _) _⟩
theorem rowOf_out (op : Int) (h : op < 1 ∨ 28 < op) (w : World) :
    Calls Tryd.prog 60 #[.int .i64 op] w fun e w' => e = .returned (.agg #[.string ⟨#[]⟩, .int .i64 0]) ∧ Below w.heap.size w w' := by
  rcases h with h | h
  all_goals
    go_enter Tryd.func60, Tryd.ntmps60
    go_wp2
    all_goals exact bodyPost_ret (v := .agg #[.string ⟨#[]⟩, .int .i64 0]) (by simp [results, Tryd.results60, go_sem]) rfl ⟨rfl, (Below.refl _ _).alloc (Nat.le_refl _) _⟩
theorem rowOf_any (op : Int) (w : World) (ht : Tab w) :
    Calls Tryd.prog 60 #[.int .i64 op] w fun e w' => e = .returned (.agg #[.string (sgnOf op), .int .i64 (lvlOf op)]) ∧ Below w.heap.size w w' := by
  by_cases h : 1 ≤ op ∧ op ≤ 28
  · obtain ⟨k, rfl⟩ := Int.eq_ofNat_of_zero_le (show 0 ≤ op by omega)
    have e1 : sgnOf (k : Int) = sgn k := by unfold sgnOf; rw [if_pos h]; rfl
    have e2 : lvlOf (k : Int) = lvl k := by unfold lvlOf; rw [if_pos h]; rfl
    rw [e1, e2]
    exact rowOf_in k (by omega) (by omega) w ht
  · have e1 : sgnOf op = ⟨#[]⟩ := by unfold sgnOf; rw [if_neg h]
    have e2 : lvlOf op = 0 := by unfold lvlOf; rw [if_neg h]
    rw [e1, e2]
    exact rowOf_out op (by omega) w
theorem sign_any (op : Int) (w : World) (ht : Tab w) :
    Calls Tryd.prog 54 #[.int .i64 op] w fun e w' => e = .returned (.string (sgnOf op)) ∧ Below w.heap.size w w' := by
  have hf : ∀ (s : ByteArray) (l : Int) (w : World), (Instr.field 100 (.agg #[.string s, .int .i64 l]) 0).run Tryd.prog w = .ok (.string s) w := fun _ _ _ => by kernel_rfl
  go_enter Tryd.func54, Tryd.ntmps54
  go_wp2_with (go_at_call 60; refine (rowOf_any _ _ ht).mono ?_; rintro e w' ⟨rfl, hg⟩)
  go_ret
  exact ⟨rfl, hg⟩
theorem level_any (op : Int) (w : World) (ht : Tab w) :
    Calls Tryd.prog 53 #[.int .i64 op] w fun e w' => e = .returned (.int .i64 (lvlOf op)) ∧ Below w.heap.size w w' := by
  have hf : ∀ (s : ByteArray) (l : Int) (w : World), (Instr.field 100 (.agg #[.string s, .int .i64 l]) 1).run Tryd.prog w = .ok (.int .i64 l) w := fun _ _ _ => by kernel_rfl
  go_enter Tryd.func53, Tryd.ntmps53
  go_wp2_with (go_at_call 60; refine (rowOf_any _ _ ht).mono ?_; rintro e w' ⟨rfl, hg⟩)
  go_ret
  exact ⟨rfl, hg⟩
/-- The document's list of signs: 28 strings in a new block. -/
theorem signs_any (w : World) : Calls Tryd.prog 55 #[] w fun e w' => ∃ C : Array Value, (∀ j : Nat, j < 28 → C[j]? = some (.string (sgn (j + 1)))) ∧ e = .returned (.slice (some ⟨w.heap.size, 0, none⟩) 28 28) ∧ w' = w.alloc (.cells C 9) := by
  go_enter Tryd.func55, Tryd.ntmps55
  go_wp2
  go_ret
  refine ⟨_, ?_, rfl, rfl⟩
  intro j hj
  obtain rfl | rfl | rfl | rfl | rfl | rfl | rfl | rfl | rfl | rfl | rfl | rfl | rfl | rfl | rfl | rfl | rfl | rfl | rfl | rfl | rfl | rfl | rfl | rfl | rfl | rfl | rfl | rfl : j = 0 ∨ j = 1 ∨ j = 2 ∨ j = 3 ∨ j = 4 ∨ j = 5 ∨ j = 6 ∨ j = 7 ∨ j = 8 ∨ j = 9 ∨ j = 10 ∨ j = 11 ∨ j = 12 ∨ j = 13 ∨ j = 14 ∨ j = 15 ∨ j = 16 ∨ j = 17 ∨ j = 18 ∨ j = 19 ∨ j = 20 ∨ j = 21 ∨ j = 22 ∨ j = 23 ∨ j = 24 ∨ j = 25 ∨ j = 26 ∨ j = 27 := by omega
  all_goals rfl
theorem rsign_in (k : Nat) (h : k < 28) (w : World) : Calls Tryd.prog 40 #[.int .i64 ((k : Int) + 1)] w fun e w' => e = .returned (.string (sgn (k + 1))) ∧ Below w.heap.size w w' := by
  go_enter Tryd.func40, Tryd.ntmps40
  go_wp2_with (go_at_call 55; refine (signs_any _).mono ?_; rintro e w' ⟨C, hC, rfl, rfl⟩; have hc := hC k h; clear hC)
  go_ret
  exact ⟨rfl, (Below.refl _ _).alloc (Nat.le_refl _) _⟩
theorem rsign_out (op : Int) (h : op < 1 ∨ 28 < op) (w : World) : Calls Tryd.prog 40 #[.int .i64 op] w fun e w' => e = .returned (.string ⟨#[]⟩) ∧ Below w.heap.size w w' := by
  rcases h with h | h
  all_goals
    go_enter Tryd.func40, Tryd.ntmps40
    go_wp2
    all_goals go_ret
    all_goals exact ⟨rfl, Below.refl _ _⟩
theorem rsign_any (op : Int) (w : World) : Calls Tryd.prog 40 #[.int .i64 op] w fun e w' => e = .returned (.string (sgnOf op)) ∧ Below w.heap.size w w' := by
  by_cases h : 1 ≤ op ∧ op ≤ 28
  · obtain ⟨k, hk⟩ := Int.eq_ofNat_of_zero_le (show 0 ≤ op - 1 by omega)
    obtain rfl : op = (k : Int) + 1 := by omega
    have e1 : sgnOf ((k : Int) + 1) = sgn (k + 1) := by unfold sgnOf; rw [if_pos h]; rfl
    rw [e1]
    exact rsign_in k (by omega) w
  · have e1 : sgnOf op = ⟨#[]⟩ := by unfold sgnOf; rw [if_neg h]
    rw [e1]
    exact rsign_out op (by omega) w
theorem rlevel_in (op : Int) (h : 1 ≤ op ∧ op ≤ 19) (w : World) : Calls Tryd.prog 42 #[.int .i64 op] w fun e w' => e = .returned (.int .i64 (lvlOf op)) ∧ w = w' := by
  obtain rfl | rfl | rfl | rfl | rfl | rfl | rfl | rfl | rfl | rfl | rfl | rfl | rfl | rfl | rfl | rfl | rfl | rfl | rfl : op = 1 ∨ op = 2 ∨ op = 3 ∨ op = 4 ∨ op = 5 ∨ op = 6 ∨ op = 7 ∨ op = 8 ∨ op = 9 ∨ op = 10 ∨ op = 11 ∨ op = 12 ∨ op = 13 ∨ op = 14 ∨ op = 15 ∨ op = 16 ∨ op = 17 ∨ op = 18 ∨ op = 19 := by omega
  all_goals clear h
  all_goals
    go_enter Tryd.func42, Tryd.ntmps42
    go_wp2
    go_ret
    exact ⟨rfl, rfl⟩
theorem lvlOf_out (op : Int) (h : op < 1 ∨ 19 < op) : lvlOf op = 0 := by
  unfold lvlOf
  split
  · rename_i h'
    obtain rfl | rfl | rfl | rfl | rfl | rfl | rfl | rfl | rfl : op = 20 ∨ op = 21 ∨ op = 22 ∨ op = 23 ∨ op = 24 ∨ op = 25 ∨ op = 26 ∨ op = 27 ∨ op = 28 := by omega
    all_goals rfl
  · rfl
theorem rlevel_out (op : Int) (h : op < 1 ∨ 19 < op) (w : World) : Calls Tryd.prog 42 #[.int .i64 op] w fun e w' => e = .returned (.int .i64 0) ∧ w = w' := by
  have n1 : (op == 1) = false := by simp; omega
  have n2 : (op == 2) = false := by simp; omega
  have n3 : (op == 3) = false := by simp; omega
  have n4 : (op == 4) = false := by simp; omega
  have n5 : (op == 5) = false := by simp; omega
  have n6 : (op == 6) = false := by simp; omega
  have n7 : (op == 7) = false := by simp; omega
  have n8 : (op == 8) = false := by simp; omega
  have n9 : (op == 9) = false := by simp; omega
  have n10 : (op == 10) = false := by simp; omega
  have n11 : (op == 11) = false := by simp; omega
  have n12 : (op == 12) = false := by simp; omega
  have n13 : (op == 13) = false := by simp; omega
  have n14 : (op == 14) = false := by simp; omega
  have n15 : (op == 15) = false := by simp; omega
  have n16 : (op == 16) = false := by simp; omega
  have n17 : (op == 17) = false := by simp; omega
  have n18 : (op == 18) = false := by simp; omega
  have n19 : (op == 19) = false := by simp; omega
  clear h
  go_enter Tryd.func42, Tryd.ntmps42
  go_wp2
  go_ret
  exact ⟨rfl, rfl⟩
theorem rlevel_any (op : Int) (w : World) : Calls Tryd.prog 42 #[.int .i64 op] w fun e w' => e = .returned (.int .i64 (lvlOf op)) ∧ w = w' := by
  by_cases h : 1 ≤ op ∧ op ≤ 19
  · exact rlevel_in op h w
  · rw [lvlOf_out op (by omega)]
    exact rlevel_out op (by omega) w
end Go.Proofs.YtomdcgifkkmopaaDoor
