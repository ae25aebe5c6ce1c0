/- The contracts of the document's answer for the layer token: names and numbers. -/
import Derived.Test.YthlmbeikjdjlkaaDoorTokKind
namespace Go.Proofs.YthlmbeikjdjlkaaDoor
open Go.RowKit
theorem rletter_is (c : Int) (b : Bool) (h : letZ c = b) (w : World) : Calls Tryd.prog 22 #[.int .u8 c] w fun e w' => e = .returned (.bool b) ∧ w = w' := h ▸ rletter_any c w
theorem rdigit_is (c : Int) (b : Bool) (h : digZ c = b) (w : World) : Calls Tryd.prog 23 #[.int .u8 c] w fun e w' => e = .returned (.bool b) ∧ w = w' := h ▸ rdigit_any c w
theorem rword_is (s : ByteArray) (b : Bool) (h : wordB s.data.toList = b) (w : World) : Calls Tryd.prog 17 #[.string s] w fun e w' => e = .returned (.bool b) ∧ w = w' := h ▸ rword_any s w
theorem all_alls {p : UInt8 → Bool} {s : ByteArray} (h : ∀ (j : Nat) b, j < s.size → s.data.toList[j]? = some b → p b = true) : s.data.toList.all p = true :=
  List.all_eq_true.2 fun b hb => by
    obtain ⟨j, hj⟩ := List.mem_iff_getElem?.1 hb
    exact h j b (by have := (List.getElem?_eq_some_iff.1 hj).1; rwa [← Lib.size_eq] at this) hj
theorem all_none {p : UInt8 → Bool} {s : ByteArray} {k : Nat} (hk : k < s.size) (h : p s[k] = false) : s.data.toList.all p = false := by
  rw [Bool.eq_false_iff]
  intro ha
  rw [List.all_eq_true.1 ha s[k] (List.mem_iff_getElem?.2 ⟨k, at_list s k hk⟩)] at h
  cases h
theorem all_step' {p : UInt8 → Bool} {s : ByteArray} {pos : Nat} (hp : pos < s.size) (h : ∀ (j : Nat) b, j < pos → s.data.toList[j]? = some b → p b = true) (ha : p s[pos] = true) :
    ∀ (j : Nat) b, j < pos + 1 → s.data.toList[j]? = some b → p b = true := by
  intro j b hj hb
  by_cases e : j = pos
  · subst e
    rw [at_list s j hp] at hb
    injection hb with hb
    exact hb ▸ ha
  · exact h j b (by omega) hb
theorem rname_nil (s : ByteArray) (w : World) (h0 : s.size = 0) : Calls Tryd.prog 15 #[.string s] w fun e w' => e = .returned (.bool false) ∧ w = w' := by
  have hl := nil_of_size s h0
  have he : s.toList.isEmpty = true := by rw [Lib.toList_data, hl]; rfl
  have he2 : s.toList = [] := by rw [Lib.toList_data, hl]
  clear hl h0
  go_enter Tryd.func15, Tryd.ntmps15
  go_wp2
  go_ret
  exact ⟨rfl, rfl⟩
theorem rname_long (s : ByteArray) (w : World) (h20 : 20 < s.size) : Calls Tryd.prog 15 #[.string s] w fun e w' => e = .returned (.bool false) ∧ w = w' := by
  have hne := ne_of_size s (by omega)
  have he : s.toList.isEmpty = false := by rw [Lib.toList_data]; simpa using hne
  have hd : decide ((20 : Int) < s.size) = true := by simp; omega
  clear hne h20
  go_enter Tryd.func15, Tryd.ntmps15
  go_wp2
  go_ret
  exact ⟨rfl, rfl⟩
theorem rname_head (s : ByteArray) (w : World) (hp : 0 < s.size) (h20 : s.size ≤ 20) (b1 b2 : Bool) (h1 : letZ (s[0].toNat : Int) = b1) (h2 : wordB s.data.toList = b2) (hb : b1 = false ∨ b2 = true) :
    Calls Tryd.prog 15 #[.string s] w fun e w' => e = .returned (.bool false) ∧ w = w' := by
  have hne := ne_of_size s hp
  have he : s.toList.isEmpty = false := by rw [Lib.toList_data]; simpa using hne
  have hd : decide ((20 : Int) < s.size) = false := by simp; omega
  have H1 := Lib.hid h1
  have H2 := Lib.hid h2
  clear hne h1 h2
  cases b1 <;> cases b2 <;> simp at hb
  all_goals
    go_enter Tryd.func15, Tryd.ntmps15
    go_wp2_with (first | (go_at_call 22; (with_reducible refine (rletter_is _ _ H1.out _).mono ?_); rintro e w' ⟨rfl, rfl⟩) | (go_at_call 17; (with_reducible refine (rword_is _ _ H2.out _).mono ?_); rintro e w' ⟨rfl, rfl⟩))
    go_ret
    exact ⟨rfl, rfl⟩
theorem rname_loop (s : ByteArray) (w : World) (hp : 0 < s.size) (h20 : s.size ≤ 20) (h1 : letZ (s[0].toNat : Int) = true) (h2 : wordB s.data.toList = false) (b : Bool) (hb : s.data.toList.all isAln = b) :
    Calls Tryd.prog 15 #[.string s] w fun e w' => e = .returned (.bool b) ∧ w = w' := by
  have hne := ne_of_size s hp
  have he : s.toList.isEmpty = false := by rw [Lib.toList_data]; simpa using hne
  have hd : decide ((20 : Int) < s.size) = false := by simp; omega
  have H1 := Lib.hid h1
  have H2 := Lib.hid h2
  have HB := Lib.hid hb
  clear hne h1 h2 hb
  go_enter Tryd.func15, Tryd.ntmps15
  go_wp2_with (first | (go_at_call 22; (with_reducible refine (rletter_is _ _ H1.out _).mono ?_); rintro e w' ⟨rfl, rfl⟩) | (go_at_call 17; (with_reducible refine (rword_is _ _ H2.out _).mono ?_); rintro e w' ⟨rfl, rfl⟩))
  go_loop [3] (fun i => ∃ k : Nat, k ≤ s.size ∧ i = .int .i64 k ∧ ∀ (j : Nat) b, j < k → s.data.toList[j]? = some b → isAln b = true) (fun i => s.size - (intOf i).toNat)
  case atStart => exact ⟨0, Nat.zero_le _, rfl, fun j b hj => absurd hj (by omega)⟩
  case round =>
    obtain ⟨k, hk, rfl, hall⟩ := hrel
    have HA := Lib.hid hall
    clear hall
    by_cases hlt : k < s.size
    · obtain ⟨b1, hb1⟩ : ∃ b, letZ (s[k].toNat : Int) = b := ⟨_, rfl⟩
      obtain ⟨b2, hb2⟩ : ∃ b, digZ (s[k].toNat : Int) = b := ⟨_, rfl⟩
      have HE : Hid (isAln s[k] = (b1 || b2)) := by unfold Hid isAln; rw [← hb1, ← hb2, letZ_eq, digZ_eq]
      have HB1 := Lib.hid hb1
      have HB2 := Lib.hid hb2
      clear hb1 hb2
      cases b1 <;> cases b2
      all_goals
        go_wp2_with (first | (go_at_call 22; (with_reducible refine (rletter_is _ _ HB1.out _).mono ?_); rintro e w' ⟨rfl, rfl⟩) | (go_at_call 23; (with_reducible refine (rdigit_is _ _ HB2.out _).mono ?_); rintro e w' ⟨rfl, rfl⟩))
      · go_ret
        exact ⟨ret_bool ((all_none hlt HE.out).symm.trans HB.out), rfl⟩
      all_goals
        go_round
        case rel => exact ⟨k + 1, by omega, by go_num, all_step' hlt HA.out HE.out⟩
        case measure => simp [intOf]; omega
    · have e : k = s.size := by omega
      subst e
      go_wp2
      go_ret
      exact ⟨ret_bool ((all_alls HA.out).symm.trans HB.out), rfl⟩
theorem rname_any (s : ByteArray) (w : World) : Calls Tryd.prog 15 #[.string s] w fun e w' => e = .returned (.bool (nameB s.data.toList)) ∧ w = w' := by
  by_cases h0 : s.size = 0
  · rw [nil_of_size s h0, nameB_nil]
    exact rname_nil s w h0
  by_cases h20 : 20 < s.size
  · rw [nameB_long _ (by rw [← Lib.size_eq]; exact h20)]
    exact rname_long s w h20
  · have hp : 0 < s.size := by omega
    have hb : nameB s.data.toList = (letZ (s[0].toNat : Int) && s.data.toList.all isAln && !wordB s.data.toList) := by
      unfold nameB
      rw [head_eq s hp, ← letZ_eq]
      have e1 : s.data.toList.isEmpty = false := by simpa using ne_of_size s hp
      have e2 : s.data.toList.length ≤ 20 := by rw [← Lib.size_eq]; omega
      rw [e1, decide_eq_true e2]
      rfl
    rw [hb]
    cases h1 : letZ (s[0].toNat : Int) with
    | false => exact rname_head s w hp (by omega) _ _ h1 rfl (.inl rfl)
    | true =>
      cases h2 : wordB s.data.toList with
      | true => exact (rname_head s w hp (by omega) _ _ h1 h2 (.inr rfl)).mono fun e w' ⟨h, k⟩ => ⟨by simp [h], k⟩
      | false => exact (rname_loop s w hp (by omega) h1 h2 _ rfl).mono fun e w' ⟨h, k⟩ => ⟨by simp [h], k⟩
theorem rname_is (s : ByteArray) (b : Bool) (h : nameB s.data.toList = b) (w : World) : Calls Tryd.prog 15 #[.string s] w fun e w' => e = .returned (.bool b) ∧ w = w' := h ▸ rname_any s w
/-! ### numbers -/
theorem take_next {s : ByteArray} {k : Nat} (h : k < s.size) : s.data.toList.take (k + 1) = s.data.toList.take k ++ [s[k]] := by
  rw [List.take_add_one, at_list s k h]
  rfl
theorem decV_take_le (l : List UInt8) (k : Nat) : decV 0 (l.take k) ≤ decV 0 l := by
  have e : decV 0 l = decV (decV 0 (l.take k)) (l.drop k) := by rw [← decV_app, List.take_append_drop]
  rw [e]
  exact decV_ge _ _
theorem byte_index (s : ByteArray) (k : Nat) (h : k < s.size) (c : Int) (hc : (s[k].toNat : Int) = c) (w : World) : (Instr.index 9 (.string s) (.int .i64 k)).run Tryd.prog w = .ok (.int .u8 c) w := by
  subst hc
  have hn : (0 : Int) ≤ (k : Int) := by omega
  simp [Instr.index, run_underlying Tryd.underlying9, asIntOf, go_sem, h]
theorem byte_index0 (s : ByteArray) (h : 0 < s.size) (c : Int) (hc : (s[0].toNat : Int) = c) (w : World) : (Instr.index 9 (.string s) (.int .i64 0)).run Tryd.prog w = .ok (.int .u8 c) w := byte_index s 0 h c hc w
/-- What Value tells of digits: a number that is not below 0 where they are a number that may be. -/
def ValPost (l : List UInt8) (w : World) (e : Ending) (w' : World) : Prop := ∃ r, e = .returned (.int .i64 r) ∧ decide (0 ≤ r) = numB l ∧ w = w'
theorem dig_at {s : ByteArray} {k : Nat} (h : k < s.size) (hd : s.data.toList.all isDig = true) : 48 ≤ s[k].toNat ∧ s[k].toNat ≤ 57 := by
  have := List.all_eq_true.1 hd s[k] (List.mem_iff_getElem?.2 ⟨k, at_list s k h⟩)
  simpa [isDig] using this
theorem numB_over (s : ByteArray) (k m : Nat) (h : k < s.size) (hm : m = decV 0 (s.data.toList.take k)) (c : Int) (hc : (s[k].toNat : Int) = c) (h48 : 48 ≤ c) (hov : (9223372036854775807 - (c - 48)) / 10 < (m : Int)) : numB s.data.toList = false := by
  have h1 := decV_take_le s.data.toList (k + 1)
  rw [take_next h, decV_snoc, ← hm] at h1
  have h2 : ¬ decV 0 s.data.toList < 9223372036854775808 := by omega
  unfold numB
  rw [decide_eq_false h2, Bool.and_false]
theorem numB_one (s : ByteArray) (h0 : 0 < s.size) (hd : s.data.toList.all isDig = true) (hm : decV 0 s.data.toList < 9223372036854775808) : numB s.data.toList = (decide (s.size = 1) || decide (s[0].toNat ≠ 48)) := by
  unfold numB
  have e1 : s.data.toList.isEmpty = false := by simpa using ne_of_size s h0
  rw [hd, decide_eq_true hm, e1]
  have hh := head_eq s h0
  have hz : s.size = s.data.toList.length := rfl
  rw [← hh, hz]
  generalize s.data.toList = l at *
  cases l with
  | nil => simp at e1
  | cons a t =>
    simp only [List.headD_cons, List.length_cons]
    rw [Bool.eq_iff_iff]
    cases t with
    | nil =>
      simp
      by_cases ha : a = 48
      · exact .inl ha
      · exact .inr ha
    | cons b r =>
      simp [← UInt8.toNat_inj]
      exact decide_eq_true_iff.symm
theorem rvalue_any (s : ByteArray) (w : World) (hp : 0 < s.size) (hs : s.size ≤ 281474976710656) (hd : s.data.toList.all isDig = true) :
    Calls Tryd.prog 32 #[.string s] w (ValPost s.data.toList w) := by
  have hne := ne_of_size s hp
  have he : s.toList.isEmpty = false := by rw [Lib.toList_data]; simpa using hne
  have HD := Lib.hid hd
  clear hne hd
  go_enter Tryd.func32, Tryd.ntmps32
  go_wp2
  go_loop [3, 4, 5] (fun n i _ => ∃ (k m : Nat), k ≤ s.size ∧ i = .int .i64 k ∧ n = .int .i64 m ∧ m = decV 0 (s.data.toList.take k) ∧ m < 9223372036854775808) (fun _ i _ => s.size - (intOf i).toNat)
  case atStart => exact ⟨0, 0, Nat.zero_le _, rfl, rfl, by rw [List.take_zero, decV_nil], by omega⟩
  case round =>
    obtain ⟨k, m, hk, rfl, rfl, hm, hbig⟩ := hrel
    have HM := Lib.hid hm
    clear hm
    by_cases hlt : k < s.size
    · obtain ⟨c, hc⟩ : ∃ c : Int, (s[k].toNat : Int) = c := ⟨_, rfl⟩
      have hix := byte_index s k hlt c hc
      have HC := Lib.hid hc
      have hdk := dig_at hlt HD.out
      have h48 : 48 ≤ c := by omega
      have h57 : c ≤ 57 := by omega
      clear hc hdk
      by_cases hov : (9223372036854775807 - (c - 48)) / 10 < (m : Int)
      · go_wp2
        go_ret
        exact ⟨-1, rfl, by rw [numB_over s k m hlt HM.out c HC.out h48 hov]; rfl, rfl⟩
      · go_wp2
        have HC2 := HC.out
        have hmc : ((m * 10 + (s[k].toNat - 48) : Nat) : Int) = (m : Int) * 10 + (c - 48) := by omega
        go_round
        case rel => exact ⟨k + 1, m * 10 + (s[k].toNat - 48), by omega, by go_num, by rw [hmc], by rw [take_next hlt, decV_snoc, ← HM.out], by omega⟩
        case measure => simp [intOf]; omega
    · have e : k = s.size := by omega
      subst e
      have HM2 : Hid (m = decV 0 s.data.toList) := by
        unfold Hid
        rw [HM.out, List.take_of_length_le (by rw [← Lib.size_eq]; exact Nat.le_refl _)]
      obtain ⟨c, hc⟩ : ∃ c : Int, (s[0].toNat : Int) = c := ⟨_, rfl⟩
      have hix := byte_index0 s hp c hc
      have HN : Hid (numB s.data.toList = (decide (s.size = 1) || decide (c ≠ 48))) := by
        unfold Hid
        rw [numB_one s hp HD.out (by rw [← HM2.out]; exact hbig)]
        congr 1
        rw [Bool.eq_iff_iff]
        simp
        omega
      clear hc
      by_cases h1 : 1 < s.size
      · by_cases h2 : c = 48
        · subst h2
          go_wp2
          go_ret
          refine ⟨-1, rfl, ?_, rfl⟩
          rw [HN.out, decide_eq_false (show ¬ s.size = 1 by omega)]
          rfl
        · go_wp2
          go_ret
          refine ⟨m, rfl, ?_, rfl⟩
          rw [HN.out, decide_eq_true h2, Bool.or_true]
          simp
      · go_wp2
        go_ret
        refine ⟨m, rfl, ?_, rfl⟩
        rw [HN.out, decide_eq_true (show s.size = 1 by omega), Bool.true_or]
        simp
theorem numB_digits {s : ByteArray} (h : s.data.toList.all isDig = false) : numB s.data.toList = false := by
  unfold numB
  rw [h]
  simp
theorem rnumber_all (s : ByteArray) (w : World) (hp : 0 < s.size) (hs : s.size ≤ 281474976710656) (b : Bool) (hb : numB s.data.toList = b) :
    Calls Tryd.prog 24 #[.string s] w fun e w' => e = .returned (.bool b) ∧ w = w' := by
  have HB := Lib.hid hb
  clear hb
  go_enter Tryd.func24, Tryd.ntmps24
  go_wp2
  go_loop [3] (fun i => ∃ k : Nat, k ≤ s.size ∧ i = .int .i64 k ∧ ∀ (j : Nat) b, j < k → s.data.toList[j]? = some b → isDig b = true) (fun i => s.size - (intOf i).toNat)
  case atStart => exact ⟨0, Nat.zero_le _, rfl, fun j b hj => absurd hj (by omega)⟩
  case round =>
    obtain ⟨k, hk, rfl, hall⟩ := hrel
    have HA := Lib.hid hall
    clear hall
    by_cases hlt : k < s.size
    · obtain ⟨b1, hb1⟩ : ∃ b, digZ (s[k].toNat : Int) = b := ⟨_, rfl⟩
      have HE : Hid (isDig s[k] = b1) := by unfold Hid; rw [← hb1, digZ_eq]
      have HB1 := Lib.hid hb1
      clear hb1
      cases b1
      all_goals
        go_wp2_with (go_at_call 23; (with_reducible refine (rdigit_is _ _ HB1.out _).mono ?_); rintro e w' ⟨rfl, rfl⟩)
      · go_ret
        exact ⟨ret_bool ((numB_digits (all_none hlt HE.out)).symm.trans HB.out), rfl⟩
      · go_round
        case rel => exact ⟨k + 1, by omega, by go_num, all_step' hlt HA.out HE.out⟩
        case measure => simp [intOf]; omega
    · have e : k = s.size := by omega
      subst e
      have HD := Lib.hid (all_alls HA.out)
      go_wp2_with (go_at_call 32; (with_reducible refine (rvalue_any _ _ hp hs HD.out).mono ?_); rintro e w' ⟨r, rfl, hr, rfl⟩; have HR := Lib.hid hr; clear hr)
      go_ret
      exact ⟨ret_bool (HR.out.trans HB.out), rfl⟩
end Go.Proofs.YthlmbeikjdjlkaaDoor
