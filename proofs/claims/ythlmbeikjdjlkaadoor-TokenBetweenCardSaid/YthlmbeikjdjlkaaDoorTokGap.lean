/- The contracts of token.gap, and of the library functions that it and the scanner call. -/
import Derived.Test.YthlmbeikjdjlkaaDoorTokLeaf
namespace Go.Proofs.YthlmbeikjdjlkaaDoor
open Go.RowKit
theorem below_drewN {B : Nat} {a w : World} (h : Below B a w) (n : Nat) : Below B a (w.drewN n) := ⟨h.os, h.tape, h.output, h.size, h.block⟩
theorem hasPrefix_is (s p : ByteArray) (b : Bool) (h : Lib.hasPrefix s.data.toList p.data.toList = b) (w : World) : Calls Tryd.prog 34 #[.string s, .string p] w fun e w' => e = .returned (.bool b) ∧ w = w' := by
  subst h
  exact (Any.strings_HasPrefix Tryd.lays99 s p w).mono fun e w' ⟨h1, h2⟩ => ⟨h1, h2.symm⟩
theorem trim_is (s t : ByteArray) (h : (⟨(s.data.toList.dropWhile isBlk).toArray⟩ : ByteArray) = t) (w : World) : Calls Tryd.prog 35 #[.string s, .string ⟨#[32, 9, 13, 10]⟩] w fun e w' => e = .returned (.string t) ∧ Below w.heap.size w w' := by
  subst h
  rw [← trim_blk]
  exact Any.strings_TrimLeft_laid Tryd.lays161 (by kernel_rfl) s ⟨#[32, 9, 13, 10]⟩ w (by decide) (ascii_of_all (by decide))
theorem index_is (s : ByteArray) (n : Int) (h : Lib.indexByte s.data.toList 10 = n) (w : World) : Calls Tryd.prog 36 #[.string s, .int .u8 10] w fun e w' => e = .returned (.int .i64 n) ∧ w = w' := by
  subst h
  exact (Any.strings_IndexByte Tryd.lays137 s 10 w).mono fun e w' ⟨h1, h2⟩ => ⟨h1, h2.symm⟩
theorem count_is (s : ByteArray) (n : Nat) (h : nl s.data.toList = n) (w : World) : Calls Tryd.prog 29 #[.string s, .string ⟨#[10]⟩] w fun e w' => e = .returned (.int .i64 n) ∧ w = w' := by
  subst h
  refine (Any.strings_Count_one Tryd.lays138 s 10 w).mono fun e w' ⟨h1, h2⟩ => ⟨h1.trans ?_, h2.symm⟩
  have : Lib.countByte s.data.toList 10 = nl s.data.toList := by
    unfold Lib.countByte nl List.count
    congr 1
    funext b
    rw [Bool.eq_iff_iff]
    simp [← UInt8.toNat_inj]
  rw [this]
theorem gap_com (s : ByteArray) (w : World) (hp : Lib.hasPrefix s.data.toList [47, 47] = true) : Calls Tryd.prog 28 #[.string s] w fun e w' => e = .returned (.int .i64 (gapN s.data.toList)) ∧ Below w.heap.size w w' := by
  have hg : gapN s.data.toList = (s.data.toList.takeWhile (fun d => d.toNat != 10)).length := by unfold gapN; rw [if_pos hp]
  have HP := Lib.hid hp
  obtain ⟨n, hn⟩ : ∃ n, Lib.indexByte s.data.toList 10 = n := ⟨_, rfl⟩
  have HN := Lib.hid hn
  have HG : Hid (gapN s.data.toList = if 0 ≤ n then n else s.size) := by
    have h0 := Lib.indexByte_ge s.data.toList 10
    unfold Hid
    rw [hg]
    by_cases h1 : n = -1
    · rw [if_neg (by omega), idx_none (hn.trans h1)]
      rfl
    · obtain ⟨o, rfl⟩ := Int.eq_ofNat_of_zero_le (show 0 ≤ n by omega)
      rw [if_pos (by omega), idx_some hn]
  clear hp hn hg
  by_cases h0 : 0 ≤ n
  all_goals
    go_enter Tryd.func28, Tryd.ntmps28
    go_wp2_with (first | (go_at_call 34; (with_reducible refine (hasPrefix_is _ _ _ HP.out _).mono ?_); rintro e w' ⟨rfl, rfl⟩) | (go_at_call 36; (with_reducible refine (index_is _ _ HN.out _).mono ?_); rintro e w' ⟨rfl, rfl⟩))
    go_ret
    refine ⟨ret_int ?_, Below.refl _ _⟩
    rw [HG.out]
    first
      | (rw [if_pos (by omega)]; done)
      | (rw [if_neg (by omega)]; done)
theorem gap_blk (s : ByteArray) (w : World) (hs : s.size ≤ 9223372036854775807) (hp : Lib.hasPrefix s.data.toList [47, 47] = false) : Calls Tryd.prog 28 #[.string s] w fun e w' => e = .returned (.int .i64 (gapN s.data.toList)) ∧ Below w.heap.size w w' := by
  have hg : gapN s.data.toList = (s.data.toList.takeWhile isBlk).length := by unfold gapN; rw [if_neg (by simp [hp])]
  have hl := drop_take_len isBlk s.data.toList
  have HP := Lib.hid hp
  obtain ⟨t, ht⟩ : ∃ t : ByteArray, (⟨(s.data.toList.dropWhile isBlk).toArray⟩ : ByteArray) = t := ⟨_, rfl⟩
  have hts : t.size = (s.data.toList.dropWhile isBlk).length := by rw [← ht]; rfl
  have hsz : s.data.toList.length = s.size := rfl
  have HT := Lib.hid ht
  have HG : Hid ((gapN s.data.toList : Int) = (s.size : Int) - t.size) := by unfold Hid; rw [hg]; omega
  have hle : t.size ≤ s.size := by omega
  clear hp ht hg hl hts hsz
  go_enter Tryd.func28, Tryd.ntmps28
  go_wp2_with (first | (go_at_call 34; (with_reducible refine (hasPrefix_is _ _ _ HP.out _).mono ?_); rintro e w' ⟨rfl, rfl⟩) | (go_at_call 35; (with_reducible refine (trim_is _ _ HT.out _).mono ?_); rintro e w1 ⟨rfl, hb⟩))
  go_ret
  exact ⟨ret_int (by rw [HG.out]), hb⟩
/-- How many bytes of blanks, or of one comment, a text begins with. -/
theorem gap_is (s : ByteArray) (n : Nat) (h : gapN s.data.toList = n) (w : World) (hs : s.size ≤ 9223372036854775807) : Calls Tryd.prog 28 #[.string s] w fun e w' => e = .returned (.int .i64 n) ∧ Below w.heap.size w w' := by
  subst h
  cases hp : Lib.hasPrefix s.data.toList [47, 47] with
  | true => exact gap_com s w hp
  | false => exact gap_blk s w hs hp
end Go.Proofs.YthlmbeikjdjlkaaDoor
