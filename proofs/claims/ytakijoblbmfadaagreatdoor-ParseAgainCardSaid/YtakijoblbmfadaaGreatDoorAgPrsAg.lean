import Derived.Test.YtakijoblbmfadaaGreatDoorAgPrsPc
import Derived.Test.YtakijoblbmfadaaGreatDoorAgPrsAgM
import Derived.Test.YtakijoblbmfadaaGreatDoorAgTreeRefB
import Derived.Test.YtakijoblbmfadaaGreatDoorRows
import Derived.ProofKit
import Derived.OpenShut
import Derived.LaidMore
import Derived.Lay
import Derived.LaidSub
import Derived.Stop.LaidErr
import Derived.Lib.LaidTab
import Derived.Lib.SmallJoins
import Derived.SevenTiedAt
import Derived.Stop.Joined
import Derived.ShutString
import Derived.ChangeOld
set_option linter.unusedSimpArgs false
set_option linter.unusedVariables false
/- The law of parse: again. -/
namespace Go.Proofs.YtakijoblbmfadaaGreatDoor
open Go.RowKit
set_option maxHeartbeats 3200000 in
set_option maxRecDepth 100000 in
theorem lagain_raw (s : ByteArray) (v : Value) (w : World) (ht : PT w) : Calls Tryz.prog 6 #[.string s, v, .bool false] w fun e w' => e = .returned (.bool true) ∧ Below w.heap.size w w' := by
  obtain ⟨R, hR⟩ : ∃ R, docP s = R := ⟨_, rfl⟩
  obtain ⟨p, k, ln⟩ := R
  have HR := Lib.hid hR
  have HPT := Lib.hid ht
  clear hR ht
  go_enter Tryz.func6, Tryz.ntmps6
  go_wp2_with (first
    | (go_at_call 8; (with_reducible refine (lawake_any _ HPT.out).mono ?_); rintro e w1 ⟨rfl, hb⟩
       have HB1 := Lib.hid hb
       clear hb))
  go_at_call 14
  refine (dparse_any s _ (HPT.out.below HB1.out)).mono ?_
  rintro e w2 ⟨hb, v0, v1, rfl, ha, hf⟩
  rw [HR.out] at ha hf
  rw [HR.out]
  obtain ⟨A0, q0, rfl, _⟩ := ha.form
  obtain ⟨A1, q1, rfl, _⟩ := hf.form
  have HX := Lib.hid (heap_alloc_new w2 (.cells #[.slice A0 p.arrays.length q0, .slice A1 p.funcs.length q1] 35))
  have HBX := Lib.hid ((HB1.out.trans (hb.mono HB1.out.size)).more (Nat.le_refl _) (.cells #[.slice A0 p.arrays.length q0, .slice A1 p.funcs.length q1] 35))
  have HAX := Lib.hid (slA_below ha ((Below.refl w2.heap.size w2).more (Nat.le_refl _) (.cells #[.slice A0 p.arrays.length q0, .slice A1 p.funcs.length q1] 35)) (Nat.le_succ _))
  have HFX := Lib.hid (slF_below hf ((Below.refl w2.heap.size w2).more (Nat.le_refl _) (.cells #[.slice A0 p.arrays.length q0, .slice A1 p.funcs.length q1] 35)) (Nat.le_succ _))
  clear ha hf hb
  by_cases hk : k = 0
  · subst hk
    by_cases hs : 500 < s.size
    · go_wp2
      go_ret
      exact ⟨rfl, HBX.out⟩
    · obtain ⟨rfl, _⟩ := docP_ok HR.out
      obtain ⟨hok, hlen, htold⟩ := docP_told HR.out (by omega)
      have HAR := Lib.hid (docP_around HR.out (by omega))
      have HOK := Lib.hid hok
      have HTO := Lib.hid htold
      have HLN := Lib.hid hlen
      clear hok htold hlen
      go_wp2_with (first
        | (go_at_call 16; (with_reducible refine (rprint_yes (w2.heap.size + 1) p HOK.out (by have := HLN.out; omega) _ _ _ (by rw [alloc_size]; exact Nat.le_refl _) HAX.out HFX.out).mono ?_); rintro e w3 ⟨hb, rfl⟩
           rw [if_pos HOK.out, if_pos HOK.out]
           have hz := hb.size
           rw [alloc_size] at hz
           have HB3 := Lib.hid (HBX.out.trans (hb.mono (by have := HBX.out.size; rw [alloc_size] at this; exact this)))
           have HP3 := Lib.hid ((hb.block w2.heap.size (Nat.lt_succ_self _)).trans HX.out)
           have HA3 := Lib.hid (slA_below HAX.out hb hz)
           have HF3 := Lib.hid (slF_below HFX.out hb hz)
           clear hb)
        | (go_at_call 14; (with_reducible refine (dparse_any ⟨(prT p).toArray⟩ _ (HPT.out.below HB3.out)).mono ?_); rintro e w4 ⟨hb, y0, y1, rfl, ha, hf⟩
           rw [HTO.out] at ha hf
           rw [HTO.out]
           obtain ⟨C0, u0, rfl, _⟩ := ha.form
           obtain ⟨C1, u1, rfl, _⟩ := hf.form
           have hz3 := hb.size
           have hb4 : Below w3.heap.size w3 (w4.alloc (.cells #[.slice C0 p.arrays.length u0, .slice C1 p.funcs.length u1] 35)) := hb.more (Nat.le_refl _) (.cells #[.slice C0 p.arrays.length u0, .slice C1 p.funcs.length u1] 35)
           have hn4 : Below w4.heap.size w4 (w4.alloc (.cells #[.slice C0 p.arrays.length u0, .slice C1 p.funcs.length u1] 35)) := (Below.refl _ _).more (Nat.le_refl _) (.cells #[.slice C0 p.arrays.length u0, .slice C1 p.funcs.length u1] 35)
           have HB4 := Lib.hid (HB3.out.trans (hb4.mono HB3.out.size))
           have HP4 := Lib.hid ((hb4.block w2.heap.size (by omega)).trans HP3.out)
           have HQ4 := Lib.hid (heap_alloc_new w4 (.cells #[.slice C0 p.arrays.length u0, .slice C1 p.funcs.length u1] 35))
           have HA4 := Lib.hid (slA_below HA3.out hb4 hb4.size)
           have HF4 := Lib.hid (slF_below HF3.out hb4 hb4.size)
           have GA4 := Lib.hid (slA_below ha hn4 hn4.size)
           have GF4 := Lib.hid (slF_below hf hn4 hn4.size)
           have hz4 : (w4.alloc (.cells #[.slice C0 p.arrays.length u0, .slice C1 p.funcs.length u1] 35)).heap.size = w4.heap.size + 1 := alloc_size _ _
           clear hb ha hf hb4 hn4)
        | (go_at_call 14; (with_reducible refine (dparse_any _ _ (HPT.out.below HB4.out)).mono ?_); rintro e w5 ⟨hb, y0, y1, rfl, ha, hf⟩
           rw [HAR.out] at ha hf
           rw [HAR.out]
           obtain ⟨D0, t0, rfl, _⟩ := ha.form
           obtain ⟨D1, t1, rfl, _⟩ := hf.form
           have hz5 := hb.size
           have hb5 : Below (w4.alloc (.cells #[.slice C0 p.arrays.length u0, .slice C1 p.funcs.length u1] 35)).heap.size (w4.alloc (.cells #[.slice C0 p.arrays.length u0, .slice C1 p.funcs.length u1] 35)) (w5.alloc (.cells #[.slice D0 p.arrays.length t0, .slice D1 p.funcs.length t1] 35)) := hb.more (Nat.le_refl _) (.cells #[.slice D0 p.arrays.length t0, .slice D1 p.funcs.length t1] 35)
           have hn5 : Below w5.heap.size w5 (w5.alloc (.cells #[.slice D0 p.arrays.length t0, .slice D1 p.funcs.length t1] 35)) := (Below.refl _ _).more (Nat.le_refl _) (.cells #[.slice D0 p.arrays.length t0, .slice D1 p.funcs.length t1] 35)
           have hz6 : (w5.alloc (.cells #[.slice D0 p.arrays.length t0, .slice D1 p.funcs.length t1] 35)).heap.size = w5.heap.size + 1 := alloc_size _ _
           have HB5 := Lib.hid (HB4.out.trans (hb5.mono HB4.out.size))
           have HP5 := Lib.hid ((hb5.block w2.heap.size (by omega)).trans HP4.out)
           have HQ5 := Lib.hid ((hb5.block w4.heap.size (by omega)).trans HQ4.out)
           have HR5 := Lib.hid (heap_alloc_new w5 (.cells #[.slice D0 p.arrays.length t0, .slice D1 p.funcs.length t1] 35))
           have HA5 := Lib.hid (slA_below HA4.out hb5 hb5.size)
           have HF5 := Lib.hid (slF_below HF4.out hb5 hb5.size)
           have GA5 := Lib.hid (slA_below GA4.out hb5 hb5.size)
           have GF5 := Lib.hid (slF_below GF4.out hb5 hb5.size)
           have KA5 := Lib.hid (slA_below ha hn5 hn5.size)
           have KF5 := Lib.hid (slF_below hf hn5 hn5.size)
           obtain ⟨⟨p0, p1⟩, _⟩ := two_cells HP5.out
           obtain ⟨⟨p2, p3⟩, _⟩ := two_cells HQ5.out
           obtain ⟨⟨p4, p5⟩, _⟩ := two_cells HR5.out
           clear hb ha hf hb5 hn5)
        | (go_at_call 15; (with_reducible refine (same_any p _ _ _ _ _ _ (Nat.le_refl _) HA5.out HF5.out GA5.out GF5.out).mono ?_); rintro e w6 ⟨rfl, hb⟩
           have hz7 := hb.size
           have HB6 := Lib.hid (HB5.out.trans (hb.mono HB5.out.size))
           have HA6 := Lib.hid (slA_below HA5.out hb hb.size)
           have HF6 := Lib.hid (slF_below HF5.out hb hb.size)
           have KA6 := Lib.hid (slA_below KA5.out hb hb.size)
           have KF6 := Lib.hid (slF_below KF5.out hb hb.size)
           obtain ⟨⟨p0, p1⟩, _⟩ := two_cells ((hb.block w2.heap.size (by omega)).trans HP5.out)
           obtain ⟨⟨p4, p5⟩, _⟩ := two_cells ((hb.block w5.heap.size (by omega)).trans HR5.out)
           clear hb)
        | (go_at_call 15; (with_reducible refine (same_any p _ _ _ _ _ _ (Nat.le_refl _) HA6.out HF6.out KA6.out KF6.out).mono ?_); rintro e w7 ⟨rfl, hb⟩
           have HB7 := Lib.hid (HB6.out.trans (hb.mono HB6.out.size))
           clear hb))
      go_ret
      exact ⟨rfl, HB7.out⟩
  · obtain rfl := docP_bad HR.out hk
    have HN0 := Lib.hid (slA_nil (w2.heap.size + 1) (w2.alloc (.cells #[.slice A0 pr0.arrays.length q0, .slice A1 pr0.funcs.length q1] 35)))
    have HN1 := Lib.hid (slF_nil (w2.heap.size + 1) (w2.alloc (.cells #[.slice A0 pr0.arrays.length q0, .slice A1 pr0.funcs.length q1] 35)))
    go_wp2_with (first
      | (go_at_call 15; (with_reducible refine (same_any pr0 (w2.heap.size + 1) _ _ _ _ _ (by rw [alloc_size]; exact Nat.le_refl _) HAX.out HFX.out HN0.out HN1.out).mono ?_); rintro e w3 ⟨rfl, hb⟩
         have HB3 := Lib.hid (HBX.out.trans (hb.mono HBX.out.size))
         clear hb))
    go_ret
    exact ⟨rfl, HB3.out⟩
set_option maxHeartbeats 3200000 in
set_option maxRecDepth 100000 in
theorem lagain_lines (s0 : ByteArray) (v : Value) (w : World) (ht : PT w) (hv : BytesIn w v) : Calls Tryz.prog 6 #[.string s0, v, .bool true] w fun e w' => e = .returned (.bool true) ∧ Below w.heap.size w w' := by
  have HV := Lib.hid hv
  have HPT := Lib.hid ht
  clear hv ht
  go_enter Tryz.func6, Tryz.ntmps6
  go_wp2_with (first
    | (go_at_call 8; (with_reducible refine (lawake_any _ HPT.out).mono ?_); rintro e wa ⟨rfl, hb⟩
       have HBA := Lib.hid hb
       clear hb)
    | (go_at_call 12; (with_reducible refine (plines_any _).mono ?_); rintro e wb ⟨rfl, hS, hb⟩
       have HS := Lib.hid hS
       have HB1 := Lib.hid (HBA.out.trans (hb.mono HBA.out.size))
       clear hS hb)
    | (go_at_call 10; (with_reducible refine (pieces_at _ 18 18 (HV.out.below HB1.out) (by decide) (by decide) HS.out).mono ?_); rintro e w1 ⟨s, rfl, hr, rfl⟩))
  go_at_call 14
  obtain ⟨R, hR⟩ : ∃ R, docP s = R := ⟨_, rfl⟩
  obtain ⟨p, k, ln⟩ := R
  have HR := Lib.hid hR
  clear hR
  refine (dparse_any s _ (HPT.out.below HB1.out)).mono ?_
  rintro e w2 ⟨hb, v0, v1, rfl, ha, hf⟩
  rw [HR.out] at ha hf
  rw [HR.out]
  obtain ⟨A0, q0, rfl, _⟩ := ha.form
  obtain ⟨A1, q1, rfl, _⟩ := hf.form
  have HX := Lib.hid (heap_alloc_new w2 (.cells #[.slice A0 p.arrays.length q0, .slice A1 p.funcs.length q1] 35))
  have HBX := Lib.hid ((HB1.out.trans (hb.mono HB1.out.size)).more (Nat.le_refl _) (.cells #[.slice A0 p.arrays.length q0, .slice A1 p.funcs.length q1] 35))
  have HAX := Lib.hid (slA_below ha ((Below.refl w2.heap.size w2).more (Nat.le_refl _) (.cells #[.slice A0 p.arrays.length q0, .slice A1 p.funcs.length q1] 35)) (Nat.le_succ _))
  have HFX := Lib.hid (slF_below hf ((Below.refl w2.heap.size w2).more (Nat.le_refl _) (.cells #[.slice A0 p.arrays.length q0, .slice A1 p.funcs.length q1] 35)) (Nat.le_succ _))
  clear ha hf hb
  by_cases hk : k = 0
  · subst hk
    by_cases hs : 500 < s.size
    · go_wp2
      go_ret
      exact ⟨rfl, HBX.out⟩
    · obtain ⟨rfl, _⟩ := docP_ok HR.out
      obtain ⟨hok, hlen, htold⟩ := docP_told HR.out (by omega)
      have HAR := Lib.hid (docP_around HR.out (by omega))
      have HOK := Lib.hid hok
      have HTO := Lib.hid htold
      have HLN := Lib.hid hlen
      clear hok htold hlen
      go_wp2_with (first
        | (go_at_call 16; (with_reducible refine (rprint_yes (w2.heap.size + 1) p HOK.out (by have := HLN.out; omega) _ _ _ (by rw [alloc_size]; exact Nat.le_refl _) HAX.out HFX.out).mono ?_); rintro e w3 ⟨hb, rfl⟩
           rw [if_pos HOK.out, if_pos HOK.out]
           have hz := hb.size
           rw [alloc_size] at hz
           have HB3 := Lib.hid (HBX.out.trans (hb.mono (by have := HBX.out.size; rw [alloc_size] at this; exact this)))
           have HP3 := Lib.hid ((hb.block w2.heap.size (Nat.lt_succ_self _)).trans HX.out)
           have HA3 := Lib.hid (slA_below HAX.out hb hz)
           have HF3 := Lib.hid (slF_below HFX.out hb hz)
           clear hb)
        | (go_at_call 14; (with_reducible refine (dparse_any ⟨(prT p).toArray⟩ _ (HPT.out.below HB3.out)).mono ?_); rintro e w4 ⟨hb, y0, y1, rfl, ha, hf⟩
           rw [HTO.out] at ha hf
           rw [HTO.out]
           obtain ⟨C0, u0, rfl, _⟩ := ha.form
           obtain ⟨C1, u1, rfl, _⟩ := hf.form
           have hz3 := hb.size
           have hb4 : Below w3.heap.size w3 (w4.alloc (.cells #[.slice C0 p.arrays.length u0, .slice C1 p.funcs.length u1] 35)) := hb.more (Nat.le_refl _) (.cells #[.slice C0 p.arrays.length u0, .slice C1 p.funcs.length u1] 35)
           have hn4 : Below w4.heap.size w4 (w4.alloc (.cells #[.slice C0 p.arrays.length u0, .slice C1 p.funcs.length u1] 35)) := (Below.refl _ _).more (Nat.le_refl _) (.cells #[.slice C0 p.arrays.length u0, .slice C1 p.funcs.length u1] 35)
           have HB4 := Lib.hid (HB3.out.trans (hb4.mono HB3.out.size))
           have HP4 := Lib.hid ((hb4.block w2.heap.size (by omega)).trans HP3.out)
           have HQ4 := Lib.hid (heap_alloc_new w4 (.cells #[.slice C0 p.arrays.length u0, .slice C1 p.funcs.length u1] 35))
           have HA4 := Lib.hid (slA_below HA3.out hb4 hb4.size)
           have HF4 := Lib.hid (slF_below HF3.out hb4 hb4.size)
           have GA4 := Lib.hid (slA_below ha hn4 hn4.size)
           have GF4 := Lib.hid (slF_below hf hn4 hn4.size)
           have hz4 : (w4.alloc (.cells #[.slice C0 p.arrays.length u0, .slice C1 p.funcs.length u1] 35)).heap.size = w4.heap.size + 1 := alloc_size _ _
           clear hb ha hf hb4 hn4)
        | (go_at_call 14; (with_reducible refine (dparse_any _ _ (HPT.out.below HB4.out)).mono ?_); rintro e w5 ⟨hb, y0, y1, rfl, ha, hf⟩
           rw [HAR.out] at ha hf
           rw [HAR.out]
           obtain ⟨D0, t0, rfl, _⟩ := ha.form
           obtain ⟨D1, t1, rfl, _⟩ := hf.form
           have hz5 := hb.size
           have hb5 : Below (w4.alloc (.cells #[.slice C0 p.arrays.length u0, .slice C1 p.funcs.length u1] 35)).heap.size (w4.alloc (.cells #[.slice C0 p.arrays.length u0, .slice C1 p.funcs.length u1] 35)) (w5.alloc (.cells #[.slice D0 p.arrays.length t0, .slice D1 p.funcs.length t1] 35)) := hb.more (Nat.le_refl _) (.cells #[.slice D0 p.arrays.length t0, .slice D1 p.funcs.length t1] 35)
           have hn5 : Below w5.heap.size w5 (w5.alloc (.cells #[.slice D0 p.arrays.length t0, .slice D1 p.funcs.length t1] 35)) := (Below.refl _ _).more (Nat.le_refl _) (.cells #[.slice D0 p.arrays.length t0, .slice D1 p.funcs.length t1] 35)
           have hz6 : (w5.alloc (.cells #[.slice D0 p.arrays.length t0, .slice D1 p.funcs.length t1] 35)).heap.size = w5.heap.size + 1 := alloc_size _ _
           have HB5 := Lib.hid (HB4.out.trans (hb5.mono HB4.out.size))
           have HP5 := Lib.hid ((hb5.block w2.heap.size (by omega)).trans HP4.out)
           have HQ5 := Lib.hid ((hb5.block w4.heap.size (by omega)).trans HQ4.out)
           have HR5 := Lib.hid (heap_alloc_new w5 (.cells #[.slice D0 p.arrays.length t0, .slice D1 p.funcs.length t1] 35))
           have HA5 := Lib.hid (slA_below HA4.out hb5 hb5.size)
           have HF5 := Lib.hid (slF_below HF4.out hb5 hb5.size)
           have GA5 := Lib.hid (slA_below GA4.out hb5 hb5.size)
           have GF5 := Lib.hid (slF_below GF4.out hb5 hb5.size)
           have KA5 := Lib.hid (slA_below ha hn5 hn5.size)
           have KF5 := Lib.hid (slF_below hf hn5 hn5.size)
           obtain ⟨⟨p0, p1⟩, _⟩ := two_cells HP5.out
           obtain ⟨⟨p2, p3⟩, _⟩ := two_cells HQ5.out
           obtain ⟨⟨p4, p5⟩, _⟩ := two_cells HR5.out
           clear hb ha hf hb5 hn5)
        | (go_at_call 15; (with_reducible refine (same_any p _ _ _ _ _ _ (Nat.le_refl _) HA5.out HF5.out GA5.out GF5.out).mono ?_); rintro e w6 ⟨rfl, hb⟩
           have hz7 := hb.size
           have HB6 := Lib.hid (HB5.out.trans (hb.mono HB5.out.size))
           have HA6 := Lib.hid (slA_below HA5.out hb hb.size)
           have HF6 := Lib.hid (slF_below HF5.out hb hb.size)
           have KA6 := Lib.hid (slA_below KA5.out hb hb.size)
           have KF6 := Lib.hid (slF_below KF5.out hb hb.size)
           obtain ⟨⟨p0, p1⟩, _⟩ := two_cells ((hb.block w2.heap.size (by omega)).trans HP5.out)
           obtain ⟨⟨p4, p5⟩, _⟩ := two_cells ((hb.block w5.heap.size (by omega)).trans HR5.out)
           clear hb)
        | (go_at_call 15; (with_reducible refine (same_any p _ _ _ _ _ _ (Nat.le_refl _) HA6.out HF6.out KA6.out KF6.out).mono ?_); rintro e w7 ⟨rfl, hb⟩
           have HB7 := Lib.hid (HB6.out.trans (hb.mono HB6.out.size))
           clear hb))
      go_ret
      exact ⟨rfl, HB7.out⟩
  · obtain rfl := docP_bad HR.out hk
    have HN0 := Lib.hid (slA_nil (w2.heap.size + 1) (w2.alloc (.cells #[.slice A0 pr0.arrays.length q0, .slice A1 pr0.funcs.length q1] 35)))
    have HN1 := Lib.hid (slF_nil (w2.heap.size + 1) (w2.alloc (.cells #[.slice A0 pr0.arrays.length q0, .slice A1 pr0.funcs.length q1] 35)))
    go_wp2_with (first
      | (go_at_call 15; (with_reducible refine (same_any pr0 (w2.heap.size + 1) _ _ _ _ _ (by rw [alloc_size]; exact Nat.le_refl _) HAX.out HFX.out HN0.out HN1.out).mono ?_); rintro e w3 ⟨rfl, hb⟩
         have HB3 := Lib.hid (HBX.out.trans (hb.mono HBX.out.size))
         clear hb))
    go_ret
    exact ⟨rfl, HB3.out⟩
theorem lagain_any (s : ByteArray) (v : Value) (b : Bool) (w : World) (ht : PT w) (hv : BytesIn w v) : Calls Tryz.prog 6 #[.string s, v, .bool b] w fun e w' => e = .returned (.bool true) ∧ Below w.heap.size w w' := by
  cases b
  · exact lagain_raw s v w ht
  · exact lagain_lines s v w ht hv
end Go.Proofs.YtakijoblbmfadaaGreatDoor

/- From the rows' condition that the listed variables read as the program's text lays them to what the walks ask of the variables (PT); the start that meets it. (By tools/gen_prsdoor.py.) -/
namespace Go.Proofs.YtakijoblbmfadaaGreatDoor
open Go.ChangeShapes Go.WideShapes Go.ChangeAt Go.RowKit
theorem own : ownKnob Tryz.prog.godebug = none := by kernel_rfl
theorem laidOut : laidOutB Tryz.prog = true := by kernel_rfl
abbrev laidRows : List (String × DataW Unit) := [("boxhedge/wrap.rows", Rows.laid_boxhedge_wrap_rows), ("math/bits.deBruijn32tab", Rows.laid_math_bits_deBruijn32tab), ("math/bits.deBruijn64tab", Rows.laid_math_bits_deBruijn64tab), ("internal/strconv.uint64pow10", Rows.laid_internal_strconv_uint64pow10), ("unicode/utf8.acceptRanges", Rows.laid_unicode_utf8_acceptRanges), ("strconv.ErrRange", Rows.laid_strconv_ErrRange), ("strconv.ErrSyntax", Rows.laid_strconv_ErrSyntax), ("boxhedge/token.symbols", Rows.laid_boxhedge_token_symbols), ("unicode/utf8.first", Rows.laid_unicode_utf8_first)]
theorem plain_of {W : World} (h : laidMetH Tryz.prog laidRows W) : laidMet Tryz.prog laidRows W := by
  rw [MakeChecks.laidMetH_plain _ _ _ (by kernel_rfl)] at h
  exact h
theorem gSym : Tryz.prog.globalNamed "boxhedge/token.symbols" = some 0 := by kernel_rfl
theorem tSym : (Tryz.prog.globals[0]?).map (·.type) = some 107 := by kernel_rfl
theorem gSyn : Tryz.prog.globalNamed "strconv.ErrSyntax" = some 4 := by kernel_rfl
theorem tSyn : (Tryz.prog.globals[4]?).map (·.type) = some 122 := by kernel_rfl
theorem gRng : Tryz.prog.globalNamed "strconv.ErrRange" = some 5 := by kernel_rfl
theorem tRng : (Tryz.prog.globals[5]?).map (·.type) = some 122 := by kernel_rfl
theorem cellsStr : Tryz.prog.cellsOf 9 = 1 := by kernel_rfl
theorem cellsEs : Tryz.prog.cellsOf 170 = 1 := by kernel_rfl
theorem star : "*" ++ "errors.errorString" = "*errors.errorString" := by decide
theorem rowEs (u : TypeId) (h : Tryz.prog.typeName? 3 u = some "*errors.errorString") : u = 168 :=
  typeName_ptr_named (nm := "errors.errorString") (by rw [star]; kernel_rfl) (by kernel_rfl) (by decide) u (by rw [star]; exact h)
theorem filt (n : String) (d : DataW Unit) {W : World} (h : laidMet Tryz.prog laidRows W) (e : (laidRows.filter fun x => x.1 == n) = [(n, d)]) : laidMet Tryz.prog [(n, d)] W := by
  have := h.filter (fun x => x.1 == n)
  rwa [e] at this
theorem syn_of {W : World} (h : laidMet Tryz.prog laidRows W) : ∃ tp p, W.cell? ⟨4, 0, none⟩ = some (.iface tp p) := by
  have h1 := filt "strconv.ErrSyntax" (.iface "*errors.errorString" (.ptr (.agg [.lit (.string [105, 110, 118, 97, 108, 105, 100, 32, 115, 121, 110, 116, 97, 120])]))) h rfl
  obtain ⟨a0, s0, hv0, _⟩ := laid_sentinel h1 gSyn tSyn Tryz.underlying122 rowEs Tryz.underlying168 Tryz.underlying170 rfl rfl Tryz.underlying9 cellsEs cellsStr
  exact ⟨_, _, by have h0 := World.var?_cell gSyn hv0 0; simpa using h0⟩
theorem rng_of {W : World} (h : laidMet Tryz.prog laidRows W) : ∃ tp p, W.cell? ⟨5, 0, none⟩ = some (.iface tp p) := by
  have h1 := filt "strconv.ErrRange" (.iface "*errors.errorString" (.ptr (.agg [.lit (.string [118, 97, 108, 117, 101, 32, 111, 117, 116, 32, 111, 102, 32, 114, 97, 110, 103, 101])]))) h rfl
  obtain ⟨a0, s0, hv0, _⟩ := laid_sentinel h1 gRng tRng Tryz.underlying122 rowEs Tryz.underlying168 Tryz.underlying170 rfl rfl Tryz.underlying9 cellsEs cellsStr
  exact ⟨_, _, by have h0 := World.var?_cell gRng hv0 0; simpa using h0⟩
theorem toList_inj {s : ByteArray} {l : List UInt8} (h : s.data.toList = l) : s = ⟨l.toArray⟩ := by
  subst h
  cases s
  simp
theorem sym_of {W : World} (h : laidMet Tryz.prog laidRows W) (k : Nat) (t : List UInt8) (ht : allSigns[k]? = some t) : W.cell? ⟨0, k, none⟩ = some (.string ⟨t.toArray⟩) := by
  have h1 := filt "boxhedge/token.symbols" Rows.laid_boxhedge_token_symbols h rfl
  obtain ⟨ps, ⟨g0, t0, cs0, f0, p0, q0, hg0, ht0, hv0, hd0, _, _⟩, _, _⟩ := h1
  obtain rfl := Option.some.inj (gSym.symm.trans hg0)
  obtain rfl := Option.some.inj (tSym.symm.trans ht0)
  obtain ⟨xs, m1, _, hx1, hlen, hn, hel⟩ := DataW.trod_array Tryz.underlying107 hd0
  have hk : k < 30 := by have := (List.getElem?_eq_some_iff.1 ht).1; simpa [allSigns, signs2, signs1] using this
  have hcell : W.cell? ⟨0, k, none⟩ = cs0.toList[k]? := by
    have := World.var?_cell hg0 hv0 k
    simpa using this
  have h2 := hel k (by omega)
  rw [cellsStr, Nat.mul_one] at h2
  have hxs : (xs.map (·.1))[k]? = some (.lit (.string t)) := by
    have hx1' := congrArg Prod.fst hx1
    have e : Rows.laid_boxhedge_token_symbols = (DataW.agg (allSigns.map fun t => .lit (.string t)) : DataW Unit) := rfl
    rw [e] at hx1'
    simp only [DataW.agg.injEq] at hx1'
    rw [← hx1', List.getElem?_map, ht]
    rfl
  rw [List.getElem?_map] at hxs
  obtain ⟨x, hx, hx2⟩ := Option.map_eq_some_iff.1 hxs
  rw [hx] at h2
  obtain ⟨d, p⟩ := x
  simp only at hx2
  subst hx2
  obtain ⟨s, e1, e2, _⟩ := DataW.trod_string Tryz.underlying9 h2
  simp only [Prod.mk.injEq, DataW.lit.injEq, Lit.string.injEq] at e2
  have hs : W.cell? ⟨0, k, none⟩ = some (.string s) := by
    rw [hcell]
    have : cs0.toList[k]? = ((cs0.toList.drop k).take 1)[0]? := by simp [List.getElem?_drop]
    rw [this, e1]
    rfl
  rw [hs, toList_inj e2.1.symm]
theorem tok_of_laid {W : World} (h : laidMetH Tryz.prog laidRows W) : TokTab W.heap.size W := by
  have h1 := plain_of h
  obtain ⟨tp, p, hc⟩ := syn_of h1
  obtain ⟨tp', p', hc'⟩ := rng_of h1
  exact ⟨⟨block_lt_of_cell (sym_of h1 0 _ rfl), block_lt_of_cell hc, block_lt_of_cell hc'⟩, sym_of h1, ⟨tp, p, hc⟩, ⟨tp', p', hc'⟩⟩
theorem gRows : Tryz.prog.globalNamed "boxhedge/wrap.rows" = some 6 := by kernel_rfl
theorem tRows : (Tryz.prog.globals[6]?).map (·.type) = some 165 := by kernel_rfl
theorem cellsRow : Tryz.prog.cellsOf 153 = 2 := by kernel_rfl
theorem cellsInt : Tryz.prog.cellsOf 3 = 1 := by kernel_rfl
/-- One row of the table, off its two cells. -/
theorem row_cells {W : World} {fuel : Nat} {cs : List Value} {b : List UInt8} {n : Int} {p : List MemPlace}
    (h : DataW.trod (fun _ => ()) Tryz.prog W 0 (fun _ => true) false fuel 153 cs = some (.agg [.lit (.string b), .lit (.int .i64 n)], p)) :
    cs[0]? = some (.string ⟨b.toArray⟩) ∧ cs[1]? = some (.int .i64 n) := by
  obtain ⟨y0, y1, m, hx, hl, h0, h1⟩ := trod_struct2 Tryz.underlying153 h
  rw [cellsStr] at h0
  rw [cellsInt] at h1
  obtain ⟨s, e1, e2, _⟩ := DataW.trod_string Tryz.underlying9 h0
  obtain ⟨k, e3, e4, _⟩ := DataW.trod_int Tryz.underlying3 h1
  subst e2 e4
  simp only [Prod.mk.injEq, DataW.agg.injEq, List.cons.injEq, DataW.lit.injEq, Lit.string.injEq, Lit.int.injEq, true_and, and_true] at hx
  obtain ⟨⟨hs, hk⟩, _⟩ := hx
  rw [cellsRow] at hl
  match cs, hl with
  | [c0, c1], _ =>
    simp at e1 e3
    subst e1 e3 hk
    refine ⟨?_, rfl⟩
    rw [toList_inj hs.symm]
    rfl
theorem rows_of_laid {W : World} (h : laidMet Tryz.prog [("boxhedge/wrap.rows", Rows.laid_boxhedge_wrap_rows)] W) : Tab W := by
  obtain ⟨ps, ⟨g0, t0, cs0, f0, p0, q0, hg0, ht0, hv0, hd0, _, _⟩, _, _⟩ := h
  obtain rfl := Option.some.inj (gRows.symm.trans hg0)
  obtain rfl := Option.some.inj (tRows.symm.trans ht0)
  obtain ⟨xs, m1, rfl, hx1, hlen, hn, hel⟩ := DataW.trod_array Tryz.underlying165 hd0
  intro k hk
  have hcell : ∀ j, W.cell? ⟨6, j, none⟩ = cs0.toList[j]? := by
    intro j
    have := World.var?_cell hg0 hv0 j
    simpa using this
  have h1 := hel k (by omega)
  rw [cellsRow] at h1
  have hxs : (xs.map (·.1))[k]? = some (.agg [.lit (.string (sgnL.getD k [])), .lit (.int .i64 (lvlL.getD k 0))]) := by
    have hx1' := congrArg Prod.fst hx1
    unfold Rows.laid_boxhedge_wrap_rows at hx1'
    simp only [DataW.agg.injEq] at hx1'
    rw [← hx1']
    obtain rfl | rfl | rfl | rfl | rfl | rfl | rfl | rfl | rfl | rfl | rfl | rfl | rfl | rfl | rfl | rfl | rfl | rfl | rfl | rfl | rfl | rfl | rfl | rfl | rfl | rfl | rfl | rfl | rfl : k = 0 ∨ k = 1 ∨ k = 2 ∨ k = 3 ∨ k = 4 ∨ k = 5 ∨ k = 6 ∨ k = 7 ∨ k = 8 ∨ k = 9 ∨ k = 10 ∨ k = 11 ∨ k = 12 ∨ k = 13 ∨ k = 14 ∨ k = 15 ∨ k = 16 ∨ k = 17 ∨ k = 18 ∨ k = 19 ∨ k = 20 ∨ k = 21 ∨ k = 22 ∨ k = 23 ∨ k = 24 ∨ k = 25 ∨ k = 26 ∨ k = 27 ∨ k = 28 := by omega
    all_goals rfl
  rw [List.getElem?_map] at hxs
  obtain ⟨x, hx, hx2⟩ := Option.map_eq_some_iff.1 hxs
  rw [hx] at h1
  obtain ⟨d, p⟩ := x
  simp only at hx2
  subst hx2
  obtain ⟨e0, e1⟩ := row_cells h1
  rw [hcell, hcell]
  refine ⟨?_, ?_⟩
  · have : cs0.toList[k * 2]? = ((cs0.toList.drop (k * 2)).take 2)[0]? := by simp [List.getElem?_drop]
    rw [this, e0]
    rfl
  · have : cs0.toList[k * 2 + 1]? = ((cs0.toList.drop (k * 2)).take 2)[1]? := by simp [List.getElem?_drop]
    rw [this, e1]
    rfl
theorem gPow : Tryz.prog.globalNamed "internal/strconv.uint64pow10" = some 7 := by kernel_rfl
theorem tPow : (Tryz.prog.globals[7]?).map (·.type) = some 180 := by kernel_rfl
theorem cellsU64 : Tryz.prog.cellsOf 159 = 1 := by kernel_rfl
theorem cellsPow : Tryz.prog.cellsOf 180 = 20 := by kernel_rfl
theorem pow_of_laid {W : World} (h : laidMet Tryz.prog laidRows W) : Lib.TabIs Tryz.prog W "internal/strconv.uint64pow10" .u64 Lib.pow10Tab := by
  have h1 := filt "internal/strconv.uint64pow10" Rows.laid_internal_strconv_uint64pow10 h rfl
  have e : (Rows.laid_internal_strconv_uint64pow10 : DataW Unit) = Lib.tabData .u64 Lib.pow10Tab := by kernel_rfl
  rw [e] at h1
  exact Lib.tabIs_of_head gPow tPow Tryz.underlying180 Tryz.underlying159 cellsU64 cellsPow h1
theorem tree_of_laid {W : World} (h : laidMetH Tryz.prog laidRows W) : TreeTab W.heap.size W := by
  have h1 := plain_of h
  have ht := rows_of_laid (filt "boxhedge/wrap.rows" Rows.laid_boxhedge_wrap_rows h1 rfl)
  exact ⟨block_lt_of_cell (ht 0 (by omega)).1, ht, fun w' hb => Joins.tab_stays gPow (pow_of_laid h1) hb (Nat.le_refl _)⟩
theorem tab_of_laid {W : World} (h : laidMetH Tryz.prog laidRows W) : PT W := ⟨tok_of_laid h, tree_of_laid h⟩
set_option maxRecDepth 100000 in
theorem start_met (os : Os) (args : Array Value) : laidMetH Tryz.prog laidRows ((World.laidAll Tryz.prog os laidRows).forCall (fun _ _ => 0) ⟨#[], args, []⟩).memory := by
  rw [MakeChecks.laidMetH_plain _ _ _ (by kernel_rfl)]
  exact laidMet_laidAll _ (by kernel_rfl) (by kernel_rfl)
set_option maxRecDepth 100000 in
/-- A slice of bytes that the row reads can be read by the walk. -/
theorem bytes_in {H : Type} {enc : TypeId × Value → H} {W : World} {base : Nat} {v : Value} {d : DataW H} {p : List MemPlace} (h0 : DataW.Trod enc Tryz.prog W 0 (fun _ => true) true 22 v d p) (hv : Value.okWide Tryz.prog W .any base 22 v) : BytesIn W v := by
  obtain ⟨a0, len0, cap0, rfl⟩ := okWide_slice Tryz.underlying22 hv
  obtain ⟨fuel, hf⟩ := h0
  rcases open_ints Tryz.underlying22 Tryz.underlying5 (by kernel_rfl) hf with ⟨hcs, _⟩ | ⟨x, l, c, zs, hcs, _, hl, hm, hz, _, hcell, hwz⟩
  · simp [Value.cells] at hcs
    obtain ⟨rfl, rfl, rfl⟩ := hcs
    exact ⟨none, 0, 0, rfl, by omega, fun hp => absurd hp (by omega)⟩
  · simp [Value.cells] at hcs
    obtain ⟨rfl, rfl, rfl⟩ := hcs
    have hz' : zs.length = cap0 := by simpa using hz
    refine ⟨_, len0, cap0, rfl, by unfold maxLen at hm; omega, fun hp => ?_⟩
    obtain ⟨b, off, spot⟩ := x
    have hc := hcell 0 (by omega)
    have hspot : spot = none := by simpa [Addr.add] using World.cell?_spot hc
    subst hspot
    have hadd : ∀ k, (⟨b, off, none⟩ : Addr).add k = ⟨b, off + k, none⟩ := fun k => by unfold Addr.add; split <;> simp_all
    refine ⟨b, off, rfl, ?_, fun k hk => ?_⟩
    · rw [hadd] at hc
      exact block_lt_of_cell hc
    · have h1 := hcell k (by omega)
      rw [hadd] at h1
      exact ⟨zs.getD k 0, (range_u8 hwz k).1, (range_u8 hwz k).2, h1⟩
end Go.Proofs.YtakijoblbmfadaaGreatDoor
