/- The contract of the method expr of package tree: leaves, indexes, calls. -/
import Derived.Test.YtomdcgifkkmopaaDoorTreeOne2
namespace Go.Proofs.YtomdcgifkkmopaaDoor
open Go.RowKit
theorem ptsT_one (p : Pt) : ptsT [p] = ptT p := by simp [ptsT]
theorem exT_num (op n : Int) (name : ByteArray) (args : List Ex) : exT (.mk 1 op n name args) = ptsT [.num n] := by rw [exT_mk, ptsT_one]; rfl
theorem exT_truth (op n : Int) (name : ByteArray) (args : List Ex) : exT (.mk 2 op n name args) = boolT (decide (n = 1)) := by rw [exT_mk]; rfl
theorem exT_var (op n : Int) (name : ByteArray) (args : List Ex) : exT (.mk 3 op n name args) = name.data.toList := by rw [exT_mk]; rfl
theorem exT_call (op n : Int) (name : ByteArray) (args : List Ex) : exT (.mk 7 op n name args) = ptsT [.str name, .str ⟨#[40]⟩, .exs args, .str ⟨#[41]⟩] := by
  have e : (args.map fun e => (e.kind, e.op, exT e)).map (·.2.2) = args.map exT := by rw [List.map_map]; rfl
  rw [exT_mk, exTs_map, pts4]
  show name.data.toList ++ 40 :: (joinC ((args.map fun e => (e.kind, e.op, exT e)).map (·.2.2)) ++ [41]) = _
  rw [e]
  rfl
theorem exT_read (op n : Int) (name : ByteArray) (args : List Ex) : exT (.mk 8 op n name args) = [114, 101, 97, 100, 40, 41] := by rw [exT_mk]; rfl
section
variable (B b : Nat) (op n : Int) (name : ByteArray) (args : List Ex)
set_option maxHeartbeats 2000000 in
set_option maxRecDepth 100000 in
theorem expr_num : ExC B b (.mk 1 op n name args) := by
  intro bs tabs w v hT ht hB hv hl
  obtain ⟨A, cap, rfl, hr, hs⟩ := ExV.elim hv
  have HT := Lib.hid hT
  have HTT := Lib.hid ht
  have HP : Hid (∀ w', PtVs B w' [.num n] (#[.iface 3 (.int .i64 n)] : Array Value).toList) := fun w' => ⟨⟨rfl, hr⟩, trivial⟩
  have HW : Hid (WrC B b [.num n]) := write_simple _ (by simp)
  rw [exT_num] at hl ⊢
  have HL := Lib.hid hl
  clear hT ht hs hr hl hv
  go_enter Tryd.func37, Tryd.ntmps37
  go_wp2_with (go_at_call 21; (with_reducible refine (WrC.call ((HT.out.alloc _).alloc _) ((HTT.out.below ((Below.refl _ _).alloc hB _)).below ((Below.refl _ _).alloc (by simp; omega) _)) (by simp; omega) HW.out (PtsAt.made (by simp; omega) (HP.out _) _ 1 (by simp) rfl (by decide)) HL.out).mono ?_); rintro e w2 ⟨rfl, hT2, hw2⟩)
  go_end0
  exact ⟨rfl, hT2, (((Wr.refl B b w).alloc hB _).alloc (by simp; omega) _).trans hw2⟩
set_option maxHeartbeats 2000000 in
set_option maxRecDepth 100000 in
theorem expr_read : ExC B b (.mk 8 op n name args) := by
  intro bs tabs w v hT ht hB hv hl
  obtain ⟨A, cap, rfl, hr, hs⟩ := ExV.elim hv
  have HT := Lib.hid hT
  rw [exT_read] at hl ⊢
  have HL : Hid (bs.length + (⟨#[114, 101, 97, 100, 40, 41]⟩ : ByteArray).size ≤ 140737488355328) := hl
  clear hT ht hs hr hl hv
  go_enter Tryd.func37, Tryd.ntmps37
  go_wp2_with (go_at_call 33; (with_reducible refine (writeString_any (HT.out.alloc _) _ HL.out (by simp; omega)).mono ?_); rintro e w2 ⟨rfl, hT2, hw2⟩)
  go_end0
  exact ⟨rfl, hT2, ((Wr.refl B b w).alloc hB _).trans hw2⟩
set_option maxHeartbeats 2000000 in
set_option maxRecDepth 100000 in
theorem expr_var : ExC B b (.mk 3 op n name args) := by
  intro bs tabs w v hT ht hB hv hl
  obtain ⟨A, cap, rfl, hr, hs⟩ := ExV.elim hv
  have HT := Lib.hid hT
  rw [exT_var] at hl ⊢
  have HL : Hid (bs.length + name.size ≤ 140737488355328) := hl
  clear hT ht hs hr hl hv
  go_enter Tryd.func37, Tryd.ntmps37
  go_wp2_with (fail)
  go_region_with (go_at_call 33; (refine (writeString_any ((HT.out.alloc _).drew) _ HL.out (by simp; omega)).mono ?_); rintro e w2 ⟨rfl, hT2, hw2⟩)
  all_goals
    go_wp2_with (fail)
    go_end0
    exact ⟨rfl, hT2, (((Wr.refl B b w).alloc hB _).drew).trans hw2⟩
theorem formatBool_any (c : Bool) (w : World) : Calls Tryd.prog 51 #[.bool c] w fun e w' => e = .returned (.string ⟨(boolT c).toArray⟩) ∧ w = w' := by
  refine (Any.strconv_FormatBool Tryd.lays121 c w).mono ?_
  rintro e w' ⟨rfl, rfl⟩
  exact ⟨by cases c <;> rfl, rfl⟩
set_option maxHeartbeats 2000000 in
set_option maxRecDepth 100000 in
theorem expr_truth (c : Bool) (hc : (n == 1) = c) : ExC B b (.mk 2 op n name args) := by
  intro bs tabs w v hT ht hB hv hl
  obtain ⟨A, cap, rfl, hr, hs⟩ := ExV.elim hv
  have HT := Lib.hid hT
  have e : boolT (decide (n = 1)) = boolT c := by rw [← hc]; rfl
  rw [exT_truth, e] at hl ⊢
  have HL : Hid (bs.length + (⟨(boolT c).toArray⟩ : ByteArray).size ≤ 140737488355328) := hl
  clear hT ht hs hr hl hv e
  go_enter Tryd.func37, Tryd.ntmps37
  go_wp2_with (fail)
  go_region_with (first
    | (go_at_call 51; (refine (formatBool_any c _).mono ?_); rintro e w1 ⟨rfl, rfl⟩)
    | (go_at_call 33; (refine (writeString_any ((HT.out.alloc _).drew) _ HL.out (by simp; omega)).mono ?_); rintro e w2 ⟨rfl, hT2, hw2⟩))
  all_goals
    go_wp2_with (fail)
    go_end0
    exact ⟨rfl, hT2, (((Wr.refl B b w).alloc hB _).drew).trans hw2⟩
set_option maxHeartbeats 2000000 in
set_option maxRecDepth 100000 in
theorem expr_call (hx : ∀ (i : Nat) e, args[i]? = some e → ExC B b e) : ExC B b (.mk 7 op n name args) := by
  intro bs tabs w v hT ht hB hv hl
  obtain ⟨A, cap, rfl, hr, hs⟩ := ExV.elim hv
  have HT := Lib.hid hT
  have HTT := Lib.hid ht
  have HP : Hid (∀ w', Below B w w' → PtVs B w' [.str name, .str ⟨#[40]⟩, .exs args, .str ⟨#[41]⟩] (#[.iface 9 (.string name), .iface 9 (.string ⟨#[40]⟩), .iface 22 (.slice A args.length cap), .iface 9 (.string ⟨#[41]⟩)] : Array Value).toList) :=
    fun w' hb => ⟨rfl, rfl, ⟨_, rfl, hs.below hb (Nat.le_refl _)⟩, rfl, trivial⟩
  have HW : Hid (WrC B b [.str name, .str ⟨#[40]⟩, .exs args, .str ⟨#[41]⟩]) := write_core B b _ (forall_list fun p hp => by
    simp only [List.mem_cons, List.not_mem_nil, or_false] at hp
    rcases hp with rfl | rfl | rfl | rfl
    · trivial
    · trivial
    · exact list_ex B b args hx
    · trivial)
  rw [exT_call] at hl ⊢
  have HL := Lib.hid hl
  clear hT ht hs hr hl hv hx
  go_enter Tryd.func37, Tryd.ntmps37
  go_wp2_with (go_at_call 21; (with_reducible refine (WrC.call ((HT.out.alloc _).alloc _) ((HTT.out.below ((Below.refl _ _).alloc hB _)).below ((Below.refl _ _).alloc (by simp; omega) _)) (by simp; omega) HW.out (PtsAt.made (by simp; omega) (HP.out _ ((Below.refl _ _).alloc hB _)) _ 4 (by simp) rfl (by decide)) HL.out).mono ?_); rintro e w2 ⟨rfl, hT2, hw2⟩)
  go_end0
  exact ⟨rfl, hT2, (((Wr.refl B b w).alloc hB _).alloc (by simp; omega) _).trans hw2⟩
end
end Go.Proofs.YtomdcgifkkmopaaDoor
