import Derived.Test.YtakijoblbmfadaaGreatDoorMgTokLeaf
import Derived.Laws.Rows
import Derived.Lib.SmallJoins
set_option linter.unusedSimpArgs false
set_option linter.unusedVariables false
/- The contracts of token.number, kindOf and symbol, where the errors of strconv and the table of symbols read as the program's text lays them (TokTab). -/
namespace Go.Proofs.YtakijoblbmfadaaGreatDoor
open Go.RowKit
/-- What the walks ask of package-level variables: they lie below block B and read as the text lays them. -/
structure TokTab (B : Nat) (w : World) : Prop where
  lt : 0 < B ∧ 4 < B ∧ 5 < B
  syms : ∀ (k : Nat) t, allSigns[k]? = some t → w.cell? ⟨0, k, none⟩ = some (.string ⟨t.toArray⟩)
  esyn : ∃ tp p, w.cell? ⟨4, 0, none⟩ = some (.iface tp p)
  erng : ∃ tp p, w.cell? ⟨5, 0, none⟩ = some (.iface tp p)
theorem TokTab.below {B : Nat} {w w' : World} (h : TokTab B w) (hb : Below B w w') : TokTab B w' where
  lt := h.lt
  syms := fun k t ht => (hb.cell (p := ⟨_, k, none⟩) h.lt.1).trans (h.syms k t ht)
  esyn := h.esyn.imp fun _ hp => hp.imp fun _ hc => (hb.cell (p := ⟨_, 0, none⟩) h.lt.2.1).trans hc
  erng := h.erng.imp fun _ hp => hp.imp fun _ hc => (hb.cell (p := ⟨_, 0, none⟩) h.lt.2.2).trans hc
/-- strconv.Atoi: an int and no error, or an error that is not nil. -/
theorem atoi_any (B : Nat) (s : ByteArray) (b : Bool) (hb : atoiB s.data.toList = b) (w : World) (hs : s.size ≤ 281474976710656) (ht : TokTab B w) :
    Calls Tryz.prog 102 #[.string s] w fun e w' => ∃ (v : Int) (er : Value), e = .returned (.tuple #[.int .i64 v, er]) ∧ ((b = true ∧ er = .nilIface) ∨ (b = false ∧ ∃ N, er = .iface 149 (.pointer (some ⟨N, 0, none⟩)))) ∧ Below w.heap.size w w' := by
  rcases h : Lib.atoiAll s.data.toList with v | _ | _
  · have hb' : b = true := by rw [← hb]; unfold atoiB; rw [h]
    refine (Any.strconv_Atoi_ok Tryz.laysC172 s (by omega) v h w).mono fun e w' ⟨h1, h2⟩ => ⟨v, .nilIface, h1, .inl ⟨hb', rfl⟩, ?_⟩
    rcases h2 with rfl | ⟨t, rfl⟩
    · exact Below.refl _ _
    · exact Joins.below_bytesWorld _ _ _ _ (Nat.le_refl _)
  · have hb' : b = false := by rw [← hb]; unfold atoiB; rw [h]
    obtain ⟨tp, p, hc⟩ := ht.esyn
    exact (Any.strconv_Atoi_syntax Tryz.laysC172 s hs h _ w hc (.inr ⟨_, _, rfl⟩)).mono fun e w' ⟨N, h1, _, _, h4⟩ => ⟨_, _, h1, .inr ⟨hb', N, rfl⟩, h4⟩
  · have hb' : b = false := by rw [← hb]; unfold atoiB; rw [h]
    obtain ⟨tp, p, hc⟩ := ht.erng
    exact (Any.strconv_Atoi_range Tryz.laysC172 s hs h _ w hc (.inr ⟨_, _, rfl⟩)).mono fun e w' ⟨N, h1, _, _, h4⟩ => ⟨_, _, h1, .inr ⟨hb', N, rfl⟩, h4⟩
theorem atoi_yes (B : Nat) (s : ByteArray) (hb : atoiB s.data.toList = true) (w : World) (hs : s.size ≤ 281474976710656) (ht : TokTab B w) :
    Calls Tryz.prog 102 #[.string s] w fun e w' => ∃ v : Int, e = .returned (.tuple #[.int .i64 v, .nilIface]) ∧ Below w.heap.size w w' :=
  (atoi_any B s true hb w hs ht).mono fun e w' ⟨v, er, h1, h2, h3⟩ => by
    rcases h2 with ⟨_, rfl⟩ | ⟨h, _⟩
    · exact ⟨v, h1, h3⟩
    · cases h
theorem atoi_no (B : Nat) (s : ByteArray) (hb : atoiB s.data.toList = false) (w : World) (hs : s.size ≤ 281474976710656) (ht : TokTab B w) :
    Calls Tryz.prog 102 #[.string s] w fun e w' => ∃ (v : Int) (N : Nat), e = .returned (.tuple #[.int .i64 v, .iface 149 (.pointer (some ⟨N, 0, none⟩))]) ∧ Below w.heap.size w w' :=
  (atoi_any B s false hb w hs ht).mono fun e w' ⟨v, er, h1, h2, h3⟩ => by
    rcases h2 with ⟨h, _⟩ | ⟨_, N, rfl⟩
    · cases h
    · exact ⟨v, N, h1, h3⟩
theorem number_no (B : Nat) (s : ByteArray) (hb : atoiB s.data.toList = false) (w : World) (hs : s.size ≤ 281474976710656) (ht : TokTab B w) :
    Calls Tryz.prog 82 #[.string s] w fun e w' => e = .returned (.bool false) ∧ Below w.heap.size w w' := by
  have HB := Lib.hid hb
  have HT := Lib.hid ht
  clear hb ht
  go_enter Tryz.func82, Tryz.ntmps82
  go_wp2_with (go_at_call 102; (with_reducible refine (atoi_no B _ HB.out _ hs HT.out).mono ?_); rintro e w1 ⟨v, N, rfl, hb1⟩)
  go_ret
  exact ⟨rfl, hb1⟩
theorem number_yes (B : Nat) (s : ByteArray) (hb : atoiB s.data.toList = true) (w : World) (hp : 0 < s.size) (hs : s.size ≤ 281474976710656) (ht : TokTab B w) :
    Calls Tryz.prog 82 #[.string s] w fun e w' => e = .returned (.bool (s.data.toList == [48] || (s.data.toList.headD 0).toNat != 48)) ∧ Below w.heap.size w w' := by
  rw [head_eq s hp, ← Lib.toList_data]
  have HB := Lib.hid hb
  have HT := Lib.hid ht
  clear hb ht
  obtain ⟨b, hbb⟩ : ∃ b, (s.toList == [48]) = b := ⟨_, rfl⟩
  cases b
  all_goals
    go_enter Tryz.func82, Tryz.ntmps82
    go_wp2_with (go_at_call 102; (with_reducible refine (atoi_yes B _ HB.out _ hs HT.out).mono ?_); rintro e w1 ⟨v, rfl, hb1⟩)
  all_goals go_ret
  all_goals refine ⟨ret_bool ?_, hb1⟩
  all_goals (rw [hbb, Bool.eq_iff_iff]; simp; try omega)
theorem number_is (B : Nat) (s : ByteArray) (b : Bool) (hb : numB s.data.toList = b) (ha : s.data.toList.all isAln = true) (w : World) (hp : 0 < s.size) (hs : s.size ≤ 281474976710656) (ht : TokTab B w) :
    Calls Tryz.prog 82 #[.string s] w fun e w' => e = .returned (.bool b) ∧ Below w.heap.size w w' := by
  subst hb
  rw [numB_eq _ (ne_of_size s hp) ha]
  cases h : atoiB s.data.toList with
  | false => exact number_no B s h w hs ht
  | true => exact number_yes B s h w hp hs ht
theorem name_is (s : ByteArray) (b : Bool) (h : nameB s.data.toList = b) (w : World) : Calls Tryz.prog 63 #[.string s] w fun e w' => e = .returned (.bool b) ∧ Below w.heap.size w w' := h ▸ name_any s w
def kindZ (o : Option Int) : Int := o.getD 0
theorem kindOf_parts (B : Nat) (s : ByteArray) (b1 b2 b3 : Bool) (h1 : wordB s.data.toList = b1) (h2 : nameB s.data.toList = b2) (h3 : numB s.data.toList = b3) (ha : s.data.toList.all isAln = true) (w : World) (hp : 0 < s.size) (hs : s.size ≤ 281474976710656) (ht : TokTab B w) (hB : B ≤ w.heap.size) :
    Calls Tryz.prog 55 #[.string s] w fun e w' => e = .returned (.tuple #[.int .i64 (if b1 then 2 else if b2 then 1 else 0), .bool (b1 || b2 || b3)]) ∧ Below w.heap.size w w' := by
  have H1 := Lib.hid h1
  have H2 := Lib.hid h2
  have H3 := Lib.hid h3
  have HA := Lib.hid ha
  have HT := Lib.hid ht
  clear h1 h2 h3 ha ht
  cases b1 <;> cases b2 <;> cases b3
  all_goals
    go_enter Tryz.func55, Tryz.ntmps55
    go_wp2_with (first | (go_at_call 81; (with_reducible refine (word_is _ _ H1.out _).mono ?_); rintro e w' ⟨rfl, rfl⟩) | (go_at_call 63; (with_reducible refine (name_is _ _ H2.out _).mono ?_); rintro e w1 ⟨rfl, hb1⟩) | (go_at_call 82; (with_reducible refine (number_is B _ _ H3.out HA.out _ hp hs (HT.out.below (hb1.mono hB))).mono ?_); rintro e w2 ⟨rfl, hb2⟩))
    go_ret2
    first
      | exact ⟨rfl, hb1.trans (hb2.mono hb1.size)⟩
      | exact ⟨rfl, hb1⟩
      | exact ⟨rfl, Below.refl _ _⟩
theorem kindOf_any (B : Nat) (s : ByteArray) (o : Option Int) (ho : kindT s.data.toList = o) (ha : s.data.toList.all isAln = true) (w : World) (hp : 0 < s.size) (hs : s.size ≤ 281474976710656) (ht : TokTab B w) (hB : B ≤ w.heap.size) :
    Calls Tryz.prog 55 #[.string s] w fun e w' => e = .returned (.tuple #[.int .i64 (kindZ o), .bool o.isSome]) ∧ Below w.heap.size w w' := by
  refine (kindOf_parts B s _ _ _ rfl rfl rfl ha w hp hs ht hB).mono fun e w' ⟨h1, h2⟩ => ⟨h1.trans ?_, h2⟩
  subst ho
  unfold kindT kindZ
  cases wordB s.data.toList <;> cases nameB s.data.toList <;> cases numB s.data.toList <;> rfl
/-! ### symbols -/
section
variable {P : Program}
theorem wp_load_cells {o : Oper} {a : Act} {w : World} {K : Act → World → Prop} {Q : Exit → Act → World → Prop} (ty : TypeId) (x : Operand) (ho : o.op = .load ty x)
    (g : Nat) (hx : a.eval x = .pointer (some ⟨g, 0, none⟩)) (cs : List Value) (d : TypeDesc) (hg : ∀ (j : Nat) v, cs[j]? = some v → w.cell? ⟨g, j, none⟩ = some v)
    (hu : P.underlying ty = some d) (hd : (match d with | .struct _ | .array _ _ => true | _ => false) = true) (hi : (P.info? ty).map (·.size) = some cs.length)
    (h : K (a.put o.dst (.agg cs.toArray)) w) : o.wp P a w K Q := by
  have hl : (loadCells ⟨g, 0, none⟩ cs.length).run P w = .ok cs.toArray w :=
    run_loadCells_list (P := P) w ⟨g, 0, none⟩ cs (fun j v hv => by
      have hadd : (⟨g, 0, none⟩ : Addr).add j = ⟨g, j, none⟩ := by unfold Addr.add; split <;> simp_all
      rw [hadd]
      exact hg j v hv)
  have hload : (loadVar ty ⟨g, 0, none⟩).run P w = .ok (.agg cs.toArray) w := by
    cases hq : P.info? ty with
    | none => simp [hq] at hi
    | some i =>
      have hs : i.size = cs.length := by simpa [hq] using hi
      have hagg : (isAgg ty).run P w = .ok true w := by
        unfold isAgg
        rw [Sem.run_bind, run_underlying hu w]
        cases d <;> simp_all
      simp [loadVar, Sem.run_bind, hagg, sizeOf, typeInfo, hq, hs, hl]
  unfold Oper.wp execOp
  simp only [ho, hx, Instr.loadAt, Instr.sureAddr, Sem.run_bind, Sem.run_pure, Result.andThen_ok, hload]
  exact h
theorem wpList_load_cells {ops : Array Oper} {rest : List Oper} {o : Oper} {a : Act} {w : World} {Q : Exit → Act → World → Prop} (hgd : o.guard = none) (ty : TypeId) (x : Operand) (ho : o.op = .load ty x)
    (g : Nat) (hx : a.eval x = .pointer (some ⟨g, 0, none⟩)) (cs : List Value) (d : TypeDesc) (hg : ∀ (j : Nat) v, cs[j]? = some v → w.cell? ⟨g, j, none⟩ = some v)
    (hu : P.underlying ty = some d) (hd : (match d with | .struct _ | .array _ _ => true | _ => false) = true) (hi : (P.info? ty).map (·.size) = some cs.length)
    (h : wpList P ops Q rest (a.put o.dst (.agg cs.toArray)) w) : wpList P ops Q (o :: rest) a w :=
  wpList_plain hgd fun _ hK => wp_load_cells ty x ho g hx cs d hg hu hd hi (hK _ _ h)
end
def symCells : List Value := allSigns.map fun t => .string ⟨t.toArray⟩
theorem symCells_at (k : Nat) (v : Value) (h : symCells[k]? = some v) : ∃ t, allSigns[k]? = some t ∧ v = .string ⟨t.toArray⟩ := by
  unfold symCells at h
  rw [List.getElem?_map] at h
  obtain ⟨t, h1, h2⟩ := Option.map_eq_some_iff.1 h
  exact ⟨t, h1, h2.symm⟩
def symArr : Value := .agg symCells.toArray
theorem symArr_index (k : Nat) (t : List UInt8) (h : allSigns[k]? = some t) (w : World) : (Instr.index 107 symArr (.int .i64 k)).run Tryz.prog w = .ok (.string ⟨t.toArray⟩) w := by
  have hk : k < 30 := by have := (List.getElem?_eq_some_iff.1 h).1; simpa [allSigns, signs2, signs1] using this
  have hc : symCells[k]? = some (.string ⟨t.toArray⟩) := by unfold symCells; rw [List.getElem?_map, h]; rfl
  have hn : (0 : Int) ≤ (k : Int) ∧ (k : Int) < ((30 : Nat) : Int) := by omega
  unfold symArr
  simp [Instr.index, run_underlying Tryz.underlying107, asIntOf, go_sem]
  rw [if_pos hk, hc]
  rfl
theorem symbol_any (B : Nat) (s : ByteArray) (w : World) (ht : TokTab B w) :
    Calls Tryz.prog 56 #[.string s] w fun e w' => e = .returned (.string ⟨(signL s.data.toList).toArray⟩) ∧ w = w' := by
  have hs : ∀ (j : Nat) v, symCells[j]? = some v → w.cell? ⟨0, j, none⟩ = some v := fun j v hv => by
    obtain ⟨t, h1, rfl⟩ := symCells_at j v hv
    exact ht.syms j t h1
  have HT := Lib.hid hs
  clear ht hs
  go_enter Tryz.func56, Tryz.ntmps56
  go_wp2_with (refine wpList_load_cells rfl 107 _ rfl 0 rfl symCells _ HT.out Tryz.underlying107 rfl (by kernel_rfl) ?_)
  go_loop [4, 6] (fun _ i => ∃ k : Nat, k ≤ 30 ∧ i = .int .i64 k ∧ ∀ (j : Nat) u, j < k → allSigns[j]? = some u → Lib.hasPrefix s.data.toList u = false) (fun _ i => 30 - (intOf i).toNat)
  case atStart => exact ⟨0, by omega, rfl, fun j u hj => absurd hj (by omega)⟩
  case round =>
    obtain ⟨k, hk, rfl, hall⟩ := hrel
    have HA := Lib.hid hall
    clear hall
    by_cases hlt : k < 30
    · obtain ⟨t, htk⟩ := sign_at k hlt
      have hix := fun w => symArr_index k t htk w
      unfold symArr at hix
      have HK := Lib.hid htk
      clear htk
      cases hp : Lib.hasPrefix s.data.toList t with
      | true =>
        have HP := Lib.hid hp
        clear hp
        go_wp2_with (go_at_call 73; (with_reducible refine (hasPrefix_is _ _ _ HP.out _).mono ?_); rintro e w' ⟨rfl, rfl⟩)
        go_ret
        rw [signL_at _ k t HK.out HP.out HA.out]
        exact ⟨rfl, rfl⟩
      | false =>
        have HP := Lib.hid hp
        clear hp
        go_wp2_with (go_at_call 73; (with_reducible refine (hasPrefix_is _ _ _ HP.out _).mono ?_); rintro e w' ⟨rfl, rfl⟩)
        go_round
        case rel =>
          refine ⟨k + 1, by omega, by go_num, fun j u hj hu => ?_⟩
          by_cases e : j = k
          · subst e
            have := HK.out.symm.trans hu
            injection this with this
            subst this
            exact HP.out
          · exact HA.out j u (by omega) hu
        case measure => simp [intOf]; omega
    · have e : k = 30 := by omega
      subst e
      go_wp2
      go_ret
      rw [signL_none _ (fun j u hu => HA.out j u (by have := (List.getElem?_eq_some_iff.1 hu).1; simpa [allSigns, signs2, signs1] using this) hu)]
      exact ⟨rfl, rfl⟩
end Go.Proofs.YtakijoblbmfadaaGreatDoor

/- The contracts of the document's answer for the layer token: names and numbers. -/
namespace Go.Proofs.YtakijoblbmfadaaGreatDoor
open Go.RowKit
theorem rletter_is (c : Int) (b : Bool) (h : letZ c = b) (w : World) : Calls Tryz.prog 40 #[.int .u8 c] w fun e w' => e = .returned (.bool b) ∧ w = w' := h ▸ rletter_any c w
theorem rdigit_is (c : Int) (b : Bool) (h : digZ c = b) (w : World) : Calls Tryz.prog 41 #[.int .u8 c] w fun e w' => e = .returned (.bool b) ∧ w = w' := h ▸ rdigit_any c w
theorem rword_is (s : ByteArray) (b : Bool) (h : wordB s.data.toList = b) (w : World) : Calls Tryz.prog 42 #[.string s] w fun e w' => e = .returned (.bool b) ∧ w = w' := h ▸ rword_any s w
theorem all_alls {p : UInt8 → Bool} {s : ByteArray} (h : ∀ (j : Nat) b, j < s.size → s.data.toList[j]? = some b → p b = true) : s.data.toList.all p = true :=
  List.all_eq_true.2 fun b hb => by
    obtain ⟨j, hj⟩ := List.mem_iff_getElem?.1 hb
    exact h j b (by have := (List.getElem?_eq_some_iff.1 hj).1; rwa [← Lib.size_eq] at this) hj
theorem all_none {p : UInt8 → Bool} {s : ByteArray} {k : Nat} (hk : k < s.size) (h : p s[k] = false) : s.data.toList.all p = false := by
  rw [Bool.eq_false_iff]
  intro ha
  rw [List.all_eq_true.1 ha s[k] (List.mem_iff_getElem?.2 ⟨k, at_list s k hk⟩)] at h
  cases h
theorem all_step' {p : UInt8 → Bool} {s : ByteArray} {pos : Nat} (hp : pos < s.size) (h : ∀ (j : Nat) b, j < pos → s.data.toList[j]? = some b → p b = true) (ha : p s[pos] = true) :
    ∀ (j : Nat) b, j < pos + 1 → s.data.toList[j]? = some b → p b = true := by
  intro j b hj hb
  by_cases e : j = pos
  · subst e
    rw [at_list s j hp] at hb
    injection hb with hb
    exact hb ▸ ha
  · exact h j b (by omega) hb
theorem rname_nil (s : ByteArray) (w : World) (h0 : s.size = 0) : Calls Tryz.prog 36 #[.string s] w fun e w' => e = .returned (.bool false) ∧ w = w' := by
  have hl := nil_of_size s h0
  have he : s.toList.isEmpty = true := by rw [Lib.toList_data, hl]; rfl
  have he2 : s.toList = [] := by rw [Lib.toList_data, hl]
  clear hl h0
  go_enter Tryz.func36, Tryz.ntmps36
  go_wp2
  go_ret
  exact ⟨rfl, rfl⟩
theorem rname_long (s : ByteArray) (w : World) (h20 : 20 < s.size) : Calls Tryz.prog 36 #[.string s] w fun e w' => e = .returned (.bool false) ∧ w = w' := by
  have hne := ne_of_size s (by omega)
  have he : s.toList.isEmpty = false := by rw [Lib.toList_data]; simpa using hne
  have hd : decide ((20 : Int) < s.size) = true := by simp; omega
  clear hne h20
  go_enter Tryz.func36, Tryz.ntmps36
  go_wp2
  go_ret
  exact ⟨rfl, rfl⟩
theorem rname_head (s : ByteArray) (w : World) (hp : 0 < s.size) (h20 : s.size ≤ 20) (b1 b2 : Bool) (h1 : letZ (s[0].toNat : Int) = b1) (h2 : wordB s.data.toList = b2) (hb : b1 = false ∨ b2 = true) :
    Calls Tryz.prog 36 #[.string s] w fun e w' => e = .returned (.bool false) ∧ w = w' := by
  have hne := ne_of_size s hp
  have he : s.toList.isEmpty = false := by rw [Lib.toList_data]; simpa using hne
  have hd : decide ((20 : Int) < s.size) = false := by simp; omega
  have H1 := Lib.hid h1
  have H2 := Lib.hid h2
  clear hne h1 h2
  cases b1 <;> cases b2 <;> simp at hb
  all_goals
    go_enter Tryz.func36, Tryz.ntmps36
    go_wp2_with (first | (go_at_call 40; (with_reducible refine (rletter_is _ _ H1.out _).mono ?_); rintro e w' ⟨rfl, rfl⟩) | (go_at_call 42; (with_reducible refine (rword_is _ _ H2.out _).mono ?_); rintro e w' ⟨rfl, rfl⟩))
    go_ret
    exact ⟨rfl, rfl⟩
theorem rname_loop (s : ByteArray) (w : World) (hp : 0 < s.size) (h20 : s.size ≤ 20) (h1 : letZ (s[0].toNat : Int) = true) (h2 : wordB s.data.toList = false) (b : Bool) (hb : s.data.toList.all isAln = b) :
    Calls Tryz.prog 36 #[.string s] w fun e w' => e = .returned (.bool b) ∧ w = w' := by
  have hne := ne_of_size s hp
  have he : s.toList.isEmpty = false := by rw [Lib.toList_data]; simpa using hne
  have hd : decide ((20 : Int) < s.size) = false := by simp; omega
  have H1 := Lib.hid h1
  have H2 := Lib.hid h2
  have HB := Lib.hid hb
  clear hne h1 h2 hb
  go_enter Tryz.func36, Tryz.ntmps36
  go_wp2_with (first | (go_at_call 40; (with_reducible refine (rletter_is _ _ H1.out _).mono ?_); rintro e w' ⟨rfl, rfl⟩) | (go_at_call 42; (with_reducible refine (rword_is _ _ H2.out _).mono ?_); rintro e w' ⟨rfl, rfl⟩))
  go_loop [3] (fun i => ∃ k : Nat, k ≤ s.size ∧ i = .int .i64 k ∧ ∀ (j : Nat) b, j < k → s.data.toList[j]? = some b → isAln b = true) (fun i => s.size - (intOf i).toNat)
  case atStart => exact ⟨0, Nat.zero_le _, rfl, fun j b hj => absurd hj (by omega)⟩
  case round =>
    obtain ⟨k, hk, rfl, hall⟩ := hrel
    have HA := Lib.hid hall
    clear hall
    by_cases hlt : k < s.size
    · obtain ⟨b1, hb1⟩ : ∃ b, letZ (s[k].toNat : Int) = b := ⟨_, rfl⟩
      obtain ⟨b2, hb2⟩ : ∃ b, digZ (s[k].toNat : Int) = b := ⟨_, rfl⟩
      have HE : Hid (isAln s[k] = (b1 || b2)) := by unfold Hid isAln; rw [← hb1, ← hb2, letZ_eq, digZ_eq]
      have HB1 := Lib.hid hb1
      have HB2 := Lib.hid hb2
      clear hb1 hb2
      cases b1 <;> cases b2
      all_goals
        go_wp2_with (first | (go_at_call 40; (with_reducible refine (rletter_is _ _ HB1.out _).mono ?_); rintro e w' ⟨rfl, rfl⟩) | (go_at_call 41; (with_reducible refine (rdigit_is _ _ HB2.out _).mono ?_); rintro e w' ⟨rfl, rfl⟩))
      · go_ret
        exact ⟨ret_bool ((all_none hlt HE.out).symm.trans HB.out), rfl⟩
      all_goals
        go_round
        case rel => exact ⟨k + 1, by omega, by go_num, all_step' hlt HA.out HE.out⟩
        case measure => simp [intOf]; omega
    · have e : k = s.size := by omega
      subst e
      go_wp2
      go_ret
      exact ⟨ret_bool ((all_alls HA.out).symm.trans HB.out), rfl⟩
theorem rname_any (s : ByteArray) (w : World) : Calls Tryz.prog 36 #[.string s] w fun e w' => e = .returned (.bool (nameB s.data.toList)) ∧ w = w' := by
  by_cases h0 : s.size = 0
  · rw [nil_of_size s h0, nameB_nil]
    exact rname_nil s w h0
  by_cases h20 : 20 < s.size
  · rw [nameB_long _ (by rw [← Lib.size_eq]; exact h20)]
    exact rname_long s w h20
  · have hp : 0 < s.size := by omega
    have hb : nameB s.data.toList = (letZ (s[0].toNat : Int) && s.data.toList.all isAln && !wordB s.data.toList) := by
      unfold nameB
      rw [head_eq s hp, ← letZ_eq]
      have e1 : s.data.toList.isEmpty = false := by simpa using ne_of_size s hp
      have e2 : s.data.toList.length ≤ 20 := by rw [← Lib.size_eq]; omega
      rw [e1, decide_eq_true e2]
      rfl
    rw [hb]
    cases h1 : letZ (s[0].toNat : Int) with
    | false => exact rname_head s w hp (by omega) _ _ h1 rfl (.inl rfl)
    | true =>
      cases h2 : wordB s.data.toList with
      | true => exact (rname_head s w hp (by omega) _ _ h1 h2 (.inr rfl)).mono fun e w' ⟨h, k⟩ => ⟨by simp [h], k⟩
      | false => exact (rname_loop s w hp (by omega) h1 h2 _ rfl).mono fun e w' ⟨h, k⟩ => ⟨by simp [h], k⟩
theorem rname_is (s : ByteArray) (b : Bool) (h : nameB s.data.toList = b) (w : World) : Calls Tryz.prog 36 #[.string s] w fun e w' => e = .returned (.bool b) ∧ w = w' := h ▸ rname_any s w
/-! ### numbers -/
theorem take_next {s : ByteArray} {k : Nat} (h : k < s.size) : s.data.toList.take (k + 1) = s.data.toList.take k ++ [s[k]] := by
  rw [List.take_add_one, at_list s k h]
  rfl
theorem decV_take_le (l : List UInt8) (k : Nat) : decV 0 (l.take k) ≤ decV 0 l := by
  have e : decV 0 l = decV (decV 0 (l.take k)) (l.drop k) := by rw [← decV_app, List.take_append_drop]
  rw [e]
  exact decV_ge _ _
theorem byte_index (s : ByteArray) (k : Nat) (h : k < s.size) (c : Int) (hc : (s[k].toNat : Int) = c) (w : World) : (Instr.index 9 (.string s) (.int .i64 k)).run Tryz.prog w = .ok (.int .u8 c) w := by
  subst hc
  have hn : (0 : Int) ≤ (k : Int) := by omega
  simp [Instr.index, run_underlying Tryz.underlying9, asIntOf, go_sem, h]
theorem byte_index0 (s : ByteArray) (h : 0 < s.size) (c : Int) (hc : (s[0].toNat : Int) = c) (w : World) : (Instr.index 9 (.string s) (.int .i64 0)).run Tryz.prog w = .ok (.int .u8 c) w := byte_index s 0 h c hc w
/-- What Value tells of digits: a number that is not below 0 where they are a number that may be. -/
def ValPost (l : List UInt8) (w : World) (e : Ending) (w' : World) : Prop := ∃ r, e = .returned (.int .i64 r) ∧ decide (0 ≤ r) = numB l ∧ w = w'
theorem dig_at {s : ByteArray} {k : Nat} (h : k < s.size) (hd : s.data.toList.all isDig = true) : 48 ≤ s[k].toNat ∧ s[k].toNat ≤ 57 := by
  have := List.all_eq_true.1 hd s[k] (List.mem_iff_getElem?.2 ⟨k, at_list s k h⟩)
  simpa [isDig] using this
theorem numB_over (s : ByteArray) (k m : Nat) (h : k < s.size) (hm : m = decV 0 (s.data.toList.take k)) (c : Int) (hc : (s[k].toNat : Int) = c) (h48 : 48 ≤ c) (hov : (9223372036854775807 - (c - 48)) / 10 < (m : Int)) : numB s.data.toList = false := by
  have h1 := decV_take_le s.data.toList (k + 1)
  rw [take_next h, decV_snoc, ← hm] at h1
  have h2 : ¬ decV 0 s.data.toList < 9223372036854775808 := by omega
  unfold numB
  rw [decide_eq_false h2, Bool.and_false]
theorem numB_one (s : ByteArray) (h0 : 0 < s.size) (hd : s.data.toList.all isDig = true) (hm : decV 0 s.data.toList < 9223372036854775808) : numB s.data.toList = (decide (s.size = 1) || decide (s[0].toNat ≠ 48)) := by
  unfold numB
  have e1 : s.data.toList.isEmpty = false := by simpa using ne_of_size s h0
  rw [hd, decide_eq_true hm, e1]
  have hh := head_eq s h0
  have hz : s.size = s.data.toList.length := rfl
  rw [← hh, hz]
  generalize s.data.toList = l at *
  cases l with
  | nil => simp at e1
  | cons a t =>
    simp only [List.headD_cons, List.length_cons]
    rw [Bool.eq_iff_iff]
    cases t with
    | nil =>
      simp
      by_cases ha : a = 48
      · exact .inl ha
      · exact .inr ha
    | cons b r =>
      simp [← UInt8.toNat_inj]
      exact decide_eq_true_iff.symm
theorem rvalue_any (s : ByteArray) (w : World) (hp : 0 < s.size) (hs : s.size ≤ 281474976710656) (hd : s.data.toList.all isDig = true) :
    Calls Tryz.prog 49 #[.string s] w (ValPost s.data.toList w) := by
  have hne := ne_of_size s hp
  have he : s.toList.isEmpty = false := by rw [Lib.toList_data]; simpa using hne
  have HD := Lib.hid hd
  clear hne hd
  go_enter Tryz.func49, Tryz.ntmps49
  go_wp2
  go_loop [3, 4, 5] (fun n i _ => ∃ (k m : Nat), k ≤ s.size ∧ i = .int .i64 k ∧ n = .int .i64 m ∧ m = decV 0 (s.data.toList.take k) ∧ m < 9223372036854775808) (fun _ i _ => s.size - (intOf i).toNat)
  case atStart => exact ⟨0, 0, Nat.zero_le _, rfl, rfl, by rw [List.take_zero, decV_nil], by omega⟩
  case round =>
    obtain ⟨k, m, hk, rfl, rfl, hm, hbig⟩ := hrel
    have HM := Lib.hid hm
    clear hm
    by_cases hlt : k < s.size
    · obtain ⟨c, hc⟩ : ∃ c : Int, (s[k].toNat : Int) = c := ⟨_, rfl⟩
      have hix := byte_index s k hlt c hc
      have HC := Lib.hid hc
      have hdk := dig_at hlt HD.out
      have h48 : 48 ≤ c := by omega
      have h57 : c ≤ 57 := by omega
      clear hc hdk
      by_cases hov : (9223372036854775807 - (c - 48)) / 10 < (m : Int)
      · go_wp2
        go_ret
        exact ⟨-1, rfl, by rw [numB_over s k m hlt HM.out c HC.out h48 hov]; rfl, rfl⟩
      · go_wp2
        have HC2 := HC.out
        have hmc : ((m * 10 + (s[k].toNat - 48) : Nat) : Int) = (m : Int) * 10 + (c - 48) := by omega
        go_round
        case rel => exact ⟨k + 1, m * 10 + (s[k].toNat - 48), by omega, by go_num, by rw [hmc], by rw [take_next hlt, decV_snoc, ← HM.out], by omega⟩
        case measure => simp [intOf]; omega
    · have e : k = s.size := by omega
      subst e
      have HM2 : Hid (m = decV 0 s.data.toList) := by
        unfold Hid
        rw [HM.out, List.take_of_length_le (by rw [← Lib.size_eq]; exact Nat.le_refl _)]
      obtain ⟨c, hc⟩ : ∃ c : Int, (s[0].toNat : Int) = c := ⟨_, rfl⟩
      have hix := byte_index0 s hp c hc
      have HN : Hid (numB s.data.toList = (decide (s.size = 1) || decide (c ≠ 48))) := by
        unfold Hid
        rw [numB_one s hp HD.out (by rw [← HM2.out]; exact hbig)]
        congr 1
        rw [Bool.eq_iff_iff]
        simp
        omega
      clear hc
      by_cases h1 : 1 < s.size
      · by_cases h2 : c = 48
        · subst h2
          go_wp2
          go_ret
          refine ⟨-1, rfl, ?_, rfl⟩
          rw [HN.out, decide_eq_false (show ¬ s.size = 1 by omega)]
          rfl
        · go_wp2
          go_ret
          refine ⟨m, rfl, ?_, rfl⟩
          rw [HN.out, decide_eq_true h2, Bool.or_true]
          simp
      · go_wp2
        go_ret
        refine ⟨m, rfl, ?_, rfl⟩
        rw [HN.out, decide_eq_true (show s.size = 1 by omega), Bool.true_or]
        simp
theorem numB_digits {s : ByteArray} (h : s.data.toList.all isDig = false) : numB s.data.toList = false := by
  unfold numB
  rw [h]
  simp
theorem rnumber_all (s : ByteArray) (w : World) (hp : 0 < s.size) (hs : s.size ≤ 281474976710656) (b : Bool) (hb : numB s.data.toList = b) :
    Calls Tryz.prog 43 #[.string s] w fun e w' => e = .returned (.bool b) ∧ w = w' := by
  have HB := Lib.hid hb
  clear hb
  go_enter Tryz.func43, Tryz.ntmps43
  go_wp2
  go_loop [3] (fun i => ∃ k : Nat, k ≤ s.size ∧ i = .int .i64 k ∧ ∀ (j : Nat) b, j < k → s.data.toList[j]? = some b → isDig b = true) (fun i => s.size - (intOf i).toNat)
  case atStart => exact ⟨0, Nat.zero_le _, rfl, fun j b hj => absurd hj (by omega)⟩
  case round =>
    obtain ⟨k, hk, rfl, hall⟩ := hrel
    have HA := Lib.hid hall
    clear hall
    by_cases hlt : k < s.size
    · obtain ⟨b1, hb1⟩ : ∃ b, digZ (s[k].toNat : Int) = b := ⟨_, rfl⟩
      have HE : Hid (isDig s[k] = b1) := by unfold Hid; rw [← hb1, digZ_eq]
      have HB1 := Lib.hid hb1
      clear hb1
      cases b1
      all_goals
        go_wp2_with (go_at_call 41; (with_reducible refine (rdigit_is _ _ HB1.out _).mono ?_); rintro e w' ⟨rfl, rfl⟩)
      · go_ret
        exact ⟨ret_bool ((numB_digits (all_none hlt HE.out)).symm.trans HB.out), rfl⟩
      · go_round
        case rel => exact ⟨k + 1, by omega, by go_num, all_step' hlt HA.out HE.out⟩
        case measure => simp [intOf]; omega
    · have e : k = s.size := by omega
      subst e
      have HD := Lib.hid (all_alls HA.out)
      go_wp2_with (go_at_call 49; (with_reducible refine (rvalue_any _ _ hp hs HD.out).mono ?_); rintro e w' ⟨r, rfl, hr, rfl⟩; have HR := Lib.hid hr; clear hr)
      go_ret
      exact ⟨ret_bool (HR.out.trans HB.out), rfl⟩
end Go.Proofs.YtakijoblbmfadaaGreatDoor
