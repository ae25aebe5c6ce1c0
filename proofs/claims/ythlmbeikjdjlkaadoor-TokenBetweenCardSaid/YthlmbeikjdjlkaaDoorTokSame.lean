/- The contracts of the document's Same and of flat; of the pieces of the layer token's laws. -/
import Derived.Test.YthlmbeikjdjlkaaDoorTokRefC
import Derived.Deep.QuietTactic
import Derived.BigQuiet
namespace Go.Proofs.YthlmbeikjdjlkaaDoor
open Go.RowKit
/-- A slice of tokens that can be read: v has them, in cells of blocks below C. -/
def Reads (w : World) (v : Value) (ts : List Tok) : Prop := ∃ A c, v = .slice A ts.length c ∧ ts.length ≤ c ∧ (0 < ts.length → ∃ g, A = some ⟨g, 0, none⟩ ∧ g < w.heap.size ∧ ∀ (j : Nat) u, (tokCells ts)[j]? = some u → w.cell? ⟨g, j, none⟩ = some u)
theorem Toks.reads {w : World} {B : Nat} {v : Value} {ts : List Tok} (h : Toks w B v ts) : Reads w v ts := by
  rcases h.2 with ⟨rfl, h0⟩ | ⟨g, cap, cur, rfl, h1, h2, h3, h4, h5, h6⟩
  · exact ⟨none, 0, by rw [h0], by omega, fun hp => absurd hp (by omega)⟩
  · refine ⟨_, cap, rfl, h3, fun _ => ⟨g, rfl, (Array.getElem?_eq_some_iff.1 h2).1, fun j u hu => ?_⟩⟩
    rw [cell_of_row w g j cur _ (0, 0) h2]
    rw [← h6, List.getElem?_take] at hu
    split at hu
    · simpa using hu
    · cases hu
theorem Reads.below {w w' : World} {v : Value} {ts : List Tok} (h : Reads w v ts) (hb : Below w.heap.size w w') : Reads w' v ts := by
  obtain ⟨A, c, rfl, hc0, h1⟩ := h
  refine ⟨A, c, rfl, hc0, fun hp => ?_⟩
  obtain ⟨g, rfl, hg, hc⟩ := h1 hp
  exact ⟨g, rfl, Nat.lt_of_lt_of_le hg hb.size, fun j u hu => (hb.cell (p := ⟨g, j, none⟩) hg).trans (hc j u hu)⟩
theorem tokCells_at (ts : List Tok) (k : Nat) (t : Tok) (h : ts[k]? = some t) : (tokCells ts)[k * 3]? = some (.int .i64 t.kind) ∧ (tokCells ts)[k * 3 + 1]? = some (.string ⟨t.text.toArray⟩) ∧ (tokCells ts)[k * 3 + 2]? = some (.int .i64 (t.line : Int)) := by
  induction ts generalizing k with
  | nil => simp at h
  | cons a r ih =>
    have e : tokCells (a :: r) = .int .i64 a.kind :: .string ⟨a.text.toArray⟩ :: .int .i64 (a.line : Int) :: tokCells r := by simp [tokCells]
    rw [e]
    cases k with
    | zero =>
      simp at h
      subst h
      exact ⟨rfl, rfl, rfl⟩
    | succ k =>
      obtain ⟨h1, h2, h3⟩ := ih k (by simpa using h)
      rw [show (k + 1) * 3 = k * 3 + 1 + 1 + 1 by omega]
      exact ⟨h1, h2, h3⟩
theorem same_nil (A B : Option Addr) (c d : Nat) (w : World) : Calls Tryd.prog 11 #[.slice A 0 c, .slice B 0 d] w fun e w' => e = .returned (.bool true) ∧ w = w' := by
  go_enter Tryd.func11, Tryd.ntmps11
  go_wp2
  go_loop [5] (fun i => i = .int .i64 0) (fun _ => 0)
  case atStart => rfl
  case round =>
    obtain rfl := hrel
    go_wp2
    go_ret
    exact ⟨rfl, rfl⟩
theorem same_some (g h : Nat) (n c d : Nat) (ts : List Tok) (hn : ts.length = n) (w : World) (h1 : ∀ (j : Nat) u, (tokCells ts)[j]? = some u → w.cell? ⟨g, j, none⟩ = some u) (h2 : ∀ (j : Nat) u, (tokCells ts)[j]? = some u → w.cell? ⟨h, j, none⟩ = some u) (hl : n < 4294967296) :
    Calls Tryd.prog 11 #[.slice (some ⟨g, 0, none⟩) n c, .slice (some ⟨h, 0, none⟩) n d] w fun e w' => e = .returned (.bool true) ∧ ∃ k, w' = w.drewN k := by
  have H1 := Lib.hid h1
  have H2 := Lib.hid h2
  have HN := Lib.hid hn
  clear h1 h2 hn
  go_enter Tryd.func11, Tryd.ntmps11
  go_wp2
  go_loopw [5] (fun i wr => ∃ (k q : Nat), k ≤ n ∧ i = .int .i64 k ∧ wr = w.drewN q) (fun i _ => n - (intOf i).toNat)
  case atStart => exact ⟨0, 0, Nat.zero_le _, rfl, rfl⟩
  case round =>
    obtain ⟨k, q, hk, rfl, rfl⟩ := hrel
    by_cases hlt : k < n
    · obtain ⟨t, ht⟩ : ∃ t, ts[k]? = some t := ⟨_, List.getElem?_eq_getElem (by rw [HN.out]; exact hlt)⟩
      obtain ⟨e0, e1, e2⟩ := tokCells_at ts k t ht
      have a0 := H1.out _ _ e0
      have a1 := H1.out _ _ e1
      have a2 := H1.out _ _ e2
      have b0 := H2.out _ _ e0
      have b1 := H2.out _ _ e1
      have b2 := H2.out _ _ e2
      clear e0 e1 e2 ht
      go_wp2
      go_quiet (fail)
      go_wp2
      go_roundw
      case rel => exact ⟨k + 1, _, by omega, by go_num, rfl⟩
      case measure => simp [intOf]; omega
    · go_wp2
      go_ret
      exact ⟨rfl, q, rfl⟩
/-- Two slices that read as the same tokens are the same. -/
theorem same_any (a b : Value) (ts : List Tok) (w : World) (ha : Reads w a ts) (hb : Reads w b ts) (hl : ts.length < 4294967296) :
    Calls Tryd.prog 11 #[a, b] w fun e w' => e = .returned (.bool true) ∧ Below w.heap.size w w' := by
  obtain ⟨A, c, rfl, _, h1⟩ := ha
  obtain ⟨B, d, rfl, _, h2⟩ := hb
  by_cases h0 : 0 < ts.length
  · obtain ⟨g, rfl, _, hc1⟩ := h1 h0
    obtain ⟨h, rfl, _, hc2⟩ := h2 h0
    exact (same_some g h ts.length c d ts rfl w hc1 hc2 hl).mono fun e w' ⟨he, k, hk⟩ => ⟨he, hk ▸ below_drewN (Below.refl _ _) k⟩
  · rw [show ts.length = 0 by omega]
    exact (same_nil A B c d w).mono fun e w' ⟨he, hk⟩ => ⟨he, hk ▸ Below.refl _ _⟩
/-- A token without its line. -/
def flatT (t : Tok) : Tok := ⟨t.kind, t.text, 0⟩
theorem flat_nil (A : Option Addr) (c : Nat) (w : World) : Calls Tryd.prog 18 #[.slice A 0 c] w fun e w' => e = .returned (.slice none 0 0) ∧ w = w' := by
  go_enter Tryd.func18, Tryd.ntmps18
  go_wp2
  go_loop [3, 4] (fun o i => i = .int .i64 0 ∧ o = .slice none 0 0) (fun _ _ => 0)
  case atStart => exact ⟨rfl, rfl⟩
  case round =>
    obtain ⟨rfl, rfl⟩ := hrel
    go_wp2
    go_ret
    exact ⟨rfl, rfl⟩
theorem take_map_snoc {ts : List Tok} {k : Nat} {t : Tok} (h : ts[k]? = some t) : (ts.take (k + 1)).map flatT = (ts.take k).map flatT ++ [flatT t] := by
  rw [List.take_add_one, h]
  simp
set_option maxRecDepth 100000 in
theorem flat_some (g : Nat) (n c : Nat) (ts : List Tok) (hn : ts.length = n) (w : World) (hg : g < w.heap.size) (h1 : ∀ (j : Nat) u, (tokCells ts)[j]? = some u → w.cell? ⟨g, j, none⟩ = some u) (hl : n < 4294967296) :
    Calls Tryd.prog 18 #[.slice (some ⟨g, 0, none⟩) n c] w fun e w' => ∃ v, e = .returned v ∧ Toks w' w.heap.size v (ts.map flatT) ∧ Below w.heap.size w w' := by
  have H1 := Lib.hid h1
  have HN := Lib.hid hn
  clear h1 hn
  go_enter Tryd.func18, Tryd.ntmps18
  go_wp2
  go_loopw [3, 4] (fun o i wr => ∃ k : Nat, k ≤ n ∧ i = .int .i64 k ∧ Toks wr w.heap.size o ((ts.take k).map flatT) ∧ Below w.heap.size w wr) (fun _ i _ => n - (intOf i).toNat)
  case atStart => exact ⟨0, Nat.zero_le _, rfl, Toks.nil _ _, Below.refl _ _⟩
  case round =>
    obtain ⟨k, hk, rfl, hO, hb⟩ := hrel
    have HO := Lib.hid hO
    clear hO
    by_cases hlt : k < n
    · obtain ⟨t, ht⟩ : ∃ t, ts[k]? = some t := ⟨_, List.getElem?_eq_getElem (by rw [HN.out]; exact hlt)⟩
      obtain ⟨e0, e1, e2⟩ := tokCells_at ts k t ht
      have a0 := (hb.cell (p := ⟨g, k * 3, none⟩) hg).trans (H1.out _ _ e0)
      have a1 := (hb.cell (p := ⟨g, k * 3 + 1, none⟩) hg).trans (H1.out _ _ e1)
      have a2 := (hb.cell (p := ⟨g, k * 3 + 2, none⟩) hg).trans (H1.out _ _ e2)
      have HT := Lib.hid ht
      clear e0 e1 e2 ht
      have HPRE := Lib.hid (ref_pre wr w.heap.size u3 _ t.kind ⟨t.text.toArray⟩ 0 HO.out hb.size)
      obtain ⟨i0, hi0, hz0, hz1, hz2⟩ := info_parts tok_info
      have HI0 := Lib.hid (And.intro hi0 (And.intro hz0 (And.intro hz1 hz2)))
      have hlk : ((ts.take k).map flatT).length ≤ k := by rw [List.length_map, List.length_take]; omega
      clear hi0 hz0 hz1 hz2
      go_wp2_with (at_builtin; refine wpList_append_own _ rfl (.tmp 17) (.tmp 19) _ rfl w.heap.size 36 i0 _ 3 32 Tryd.underlying23 HI0.out.1 HI0.out.2.1 HI0.out.2.2.1 HI0.out.2.2.2 rfl (by omega) u3 _ _ rfl (by exact HPRE.out.1) ⟨wr.heap.size + 1, 0, none⟩ 1 1 [.int .i64 t.kind, .string ⟨t.text.toArray⟩, .int .i64 0] rfl rfl (by exact HPRE.out.2.1) (by simp [Value.oneCell']) (by simp only [maxLen]; omega) (by omega) (by exact HPRE.out.2.2) ?_; intro v1 w1 hown1 hg1 _; have HO1 := Lib.hid hown1; have HG1 := Lib.hid hg1; clear hown1 hg1)
      go_roundw
      case rel =>
        have hbW : Below w.heap.size w ((wr.alloc (.cells #[.int .i64 t.kind, .string ⟨t.text.toArray⟩, .int .i64 ((0 : Nat) : Int)] 36)).alloc (.cells #[.int .i64 t.kind, .string ⟨t.text.toArray⟩, .int .i64 ((0 : Nat) : Int)] 36)) :=
          (hb.alloc hb.size _).alloc (by simp; have := hb.size; omega) _
        refine ⟨k + 1, by omega, by go_num, ?_, hbW.grown HG1.out hbW.size (fun j hj => (own_lt HPRE.out.1 j hj).2)⟩
        rw [take_map_snoc HT.out]
        unfold Toks
        rw [tokCells_snoc, List.length_append]
        exact HO1.out
      case measure => simp [intOf]; omega
    · have e : k = n := by omega
      go_wp2
      go_ret
      refine ⟨u3, rfl, ?_, hb⟩
      have h2 := HO.out
      rw [List.take_of_length_le (by rw [HN.out]; omega)] at h2
      exact h2
/-- flat: the tokens without their lines, in a row of its own. -/
def FlatPost (w : World) (ts : List Tok) (e : Ending) (w' : World) : Prop := ∃ v, e = .returned v ∧ Reads w' v (ts.map flatT) ∧ Below w.heap.size w w'
theorem flat_any (v : Value) (ts : List Tok) (w : World) (h : Reads w v ts) (hl : ts.length < 4294967296) : Calls Tryd.prog 18 #[v] w (FlatPost w ts) := by
  obtain ⟨A, c, rfl, _, h1⟩ := h
  by_cases h0 : 0 < ts.length
  · obtain ⟨g, rfl, hg, hc1⟩ := h1 h0
    exact (flat_some g ts.length c ts rfl w hg hc1 hl).mono fun e w' ⟨v, he, hT, hb⟩ => ⟨v, he, hT.reads, hb⟩
  · have hts : ts = [] := List.eq_nil_of_length_eq_zero (by omega)
    subst hts
    exact (flat_nil A c w).mono fun e w' ⟨he, hk⟩ => ⟨_, he, ⟨none, 0, rfl, Nat.le_refl _, fun hp => absurd hp (by simp)⟩, hk ▸ Below.refl _ _⟩
end Go.Proofs.YthlmbeikjdjlkaaDoor
