/- The contracts of token.number, kindOf and symbol, where the errors of strconv and the table of symbols read as the program's text lays them (TokTab). -/
import Derived.Test.YthlmbeikjdjlkaaDoorTokGap
import Derived.Laws.Rows
import Derived.Lib.SmallJoins
namespace Go.Proofs.YthlmbeikjdjlkaaDoor
open Go.RowKit
/-- What the walks ask of package-level variables: they lie below block B and read as the text lays them. -/
structure TokTab (B : Nat) (w : World) : Prop where
  lt : 0 < B ∧ 4 < B ∧ 5 < B
  syms : ∀ (k : Nat) t, allSigns[k]? = some t → w.cell? ⟨0, k, none⟩ = some (.string ⟨t.toArray⟩)
  esyn : ∃ tp p, w.cell? ⟨4, 0, none⟩ = some (.iface tp p)
  erng : ∃ tp p, w.cell? ⟨5, 0, none⟩ = some (.iface tp p)
theorem TokTab.below {B : Nat} {w w' : World} (h : TokTab B w) (hb : Below B w w') : TokTab B w' where
  lt := h.lt
  syms := fun k t ht => (hb.cell (p := ⟨_, k, none⟩) h.lt.1).trans (h.syms k t ht)
  esyn := h.esyn.imp fun _ hp => hp.imp fun _ hc => (hb.cell (p := ⟨_, 0, none⟩) h.lt.2.1).trans hc
  erng := h.erng.imp fun _ hp => hp.imp fun _ hc => (hb.cell (p := ⟨_, 0, none⟩) h.lt.2.2).trans hc
/-- strconv.Atoi: an int and no error, or an error that is not nil. -/
theorem atoi_any (B : Nat) (s : ByteArray) (b : Bool) (hb : atoiB s.data.toList = b) (w : World) (hs : s.size ≤ 281474976710656) (ht : TokTab B w) :
    Calls Tryd.prog 48 #[.string s] w fun e w' => ∃ (v : Int) (er : Value), e = .returned (.tuple #[.int .i64 v, er]) ∧ ((b = true ∧ er = .nilIface) ∨ (b = false ∧ ∃ N, er = .iface 79 (.pointer (some ⟨N, 0, none⟩)))) ∧ Below w.heap.size w w' := by
  rcases h : Lib.atoiAll s.data.toList with v | _ | _
  · have hb' : b = true := by rw [← hb]; unfold atoiB; rw [h]
    refine (Any.strconv_Atoi_ok Tryd.laysC172 s (by omega) v h w).mono fun e w' ⟨h1, h2⟩ => ⟨v, .nilIface, h1, .inl ⟨hb', rfl⟩, ?_⟩
    rcases h2 with rfl | ⟨t, rfl⟩
    · exact Below.refl _ _
    · exact Joins.below_bytesWorld _ _ _ _ (Nat.le_refl _)
  · have hb' : b = false := by rw [← hb]; unfold atoiB; rw [h]
    obtain ⟨tp, p, hc⟩ := ht.esyn
    exact (Any.strconv_Atoi_syntax Tryd.laysC172 s hs h _ w hc (.inr ⟨_, _, rfl⟩)).mono fun e w' ⟨N, h1, _, _, h4⟩ => ⟨_, _, h1, .inr ⟨hb', N, rfl⟩, h4⟩
  · have hb' : b = false := by rw [← hb]; unfold atoiB; rw [h]
    obtain ⟨tp, p, hc⟩ := ht.erng
    exact (Any.strconv_Atoi_range Tryd.laysC172 s hs h _ w hc (.inr ⟨_, _, rfl⟩)).mono fun e w' ⟨N, h1, _, _, h4⟩ => ⟨_, _, h1, .inr ⟨hb', N, rfl⟩, h4⟩
theorem atoi_yes (B : Nat) (s : ByteArray) (hb : atoiB s.data.toList = true) (w : World) (hs : s.size ≤ 281474976710656) (ht : TokTab B w) :
    Calls Tryd.prog 48 #[.string s] w fun e w' => ∃ v : Int, e = .returned (.tuple #[.int .i64 v, .nilIface]) ∧ Below w.heap.size w w' :=
  (atoi_any B s true hb w hs ht).mono fun e w' ⟨v, er, h1, h2, h3⟩ => by
    rcases h2 with ⟨_, rfl⟩ | ⟨h, _⟩
    · exact ⟨v, h1, h3⟩
    · cases h
theorem atoi_no (B : Nat) (s : ByteArray) (hb : atoiB s.data.toList = false) (w : World) (hs : s.size ≤ 281474976710656) (ht : TokTab B w) :
    Calls Tryd.prog 48 #[.string s] w fun e w' => ∃ (v : Int) (N : Nat), e = .returned (.tuple #[.int .i64 v, .iface 79 (.pointer (some ⟨N, 0, none⟩))]) ∧ Below w.heap.size w w' :=
  (atoi_any B s false hb w hs ht).mono fun e w' ⟨v, er, h1, h2, h3⟩ => by
    rcases h2 with ⟨h, _⟩ | ⟨_, N, rfl⟩
    · cases h
    · exact ⟨v, N, h1, h3⟩
theorem number_no (B : Nat) (s : ByteArray) (hb : atoiB s.data.toList = false) (w : World) (hs : s.size ≤ 281474976710656) (ht : TokTab B w) :
    Calls Tryd.prog 40 #[.string s] w fun e w' => e = .returned (.bool false) ∧ Below w.heap.size w w' := by
  have HB := Lib.hid hb
  have HT := Lib.hid ht
  clear hb ht
  go_enter Tryd.func40, Tryd.ntmps40
  go_wp2_with (go_at_call 48; (with_reducible refine (atoi_no B _ HB.out _ hs HT.out).mono ?_); rintro e w1 ⟨v, N, rfl, hb1⟩)
  go_ret
  exact ⟨rfl, hb1⟩
theorem number_yes (B : Nat) (s : ByteArray) (hb : atoiB s.data.toList = true) (w : World) (hp : 0 < s.size) (hs : s.size ≤ 281474976710656) (ht : TokTab B w) :
    Calls Tryd.prog 40 #[.string s] w fun e w' => e = .returned (.bool (s.data.toList == [48] || (s.data.toList.headD 0).toNat != 48)) ∧ Below w.heap.size w w' := by
  rw [head_eq s hp, ← Lib.toList_data]
  have HB := Lib.hid hb
  have HT := Lib.hid ht
  clear hb ht
  obtain ⟨b, hbb⟩ : ∃ b, (s.toList == [48]) = b := ⟨_, rfl⟩
  cases b
  all_goals
    go_enter Tryd.func40, Tryd.ntmps40
    go_wp2_with (go_at_call 48; (with_reducible refine (atoi_yes B _ HB.out _ hs HT.out).mono ?_); rintro e w1 ⟨v, rfl, hb1⟩)
  all_goals go_ret
  all_goals refine ⟨ret_bool ?_, hb1⟩
  all_goals (rw [hbb, Bool.eq_iff_iff]; simp; try omega)
theorem number_is (B : Nat) (s : ByteArray) (b : Bool) (hb : numB s.data.toList = b) (ha : s.data.toList.all isAln = true) (w : World) (hp : 0 < s.size) (hs : s.size ≤ 281474976710656) (ht : TokTab B w) :
    Calls Tryd.prog 40 #[.string s] w fun e w' => e = .returned (.bool b) ∧ Below w.heap.size w w' := by
  subst hb
  rw [numB_eq _ (ne_of_size s hp) ha]
  cases h : atoiB s.data.toList with
  | false => exact number_no B s h w hs ht
  | true => exact number_yes B s h w hp hs ht
theorem name_is (s : ByteArray) (b : Bool) (h : nameB s.data.toList = b) (w : World) : Calls Tryd.prog 14 #[.string s] w fun e w' => e = .returned (.bool b) ∧ Below w.heap.size w w' := h ▸ name_any s w
def kindZ (o : Option Int) : Int := o.getD 0
theorem kindOf_parts (B : Nat) (s : ByteArray) (b1 b2 b3 : Bool) (h1 : wordB s.data.toList = b1) (h2 : nameB s.data.toList = b2) (h3 : numB s.data.toList = b3) (ha : s.data.toList.all isAln = true) (w : World) (hp : 0 < s.size) (hs : s.size ≤ 281474976710656) (ht : TokTab B w) (hB : B ≤ w.heap.size) :
    Calls Tryd.prog 30 #[.string s] w fun e w' => e = .returned (.tuple #[.int .i64 (if b1 then 2 else if b2 then 1 else 0), .bool (b1 || b2 || b3)]) ∧ Below w.heap.size w w' := by
  have H1 := Lib.hid h1
  have H2 := Lib.hid h2
  have H3 := Lib.hid h3
  have HA := Lib.hid ha
  have HT := Lib.hid ht
  clear h1 h2 h3 ha ht
  cases b1 <;> cases b2 <;> cases b3
  all_goals
    go_enter Tryd.func30, Tryd.ntmps30
    go_wp2_with (first | (go_at_call 16; (with_reducible refine (word_is _ _ H1.out _).mono ?_); rintro e w' ⟨rfl, rfl⟩) | (go_at_call 14; (with_reducible refine (name_is _ _ H2.out _).mono ?_); rintro e w1 ⟨rfl, hb1⟩) | (go_at_call 40; (with_reducible refine (number_is B _ _ H3.out HA.out _ hp hs (HT.out.below (hb1.mono hB))).mono ?_); rintro e w2 ⟨rfl, hb2⟩))
    go_ret2
    first
      | exact ⟨rfl, hb1.trans (hb2.mono hb1.size)⟩
      | exact ⟨rfl, hb1⟩
      | exact ⟨rfl, Below.refl _ _⟩
theorem kindOf_any (B : Nat) (s : ByteArray) (o : Option Int) (ho : kindT s.data.toList = o) (ha : s.data.toList.all isAln = true) (w : World) (hp : 0 < s.size) (hs : s.size ≤ 281474976710656) (ht : TokTab B w) (hB : B ≤ w.heap.size) :
    Calls Tryd.prog 30 #[.string s] w fun e w' => e = .returned (.tuple #[.int .i64 (kindZ o), .bool o.isSome]) ∧ Below w.heap.size w w' := by
  refine (kindOf_parts B s _ _ _ rfl rfl rfl ha w hp hs ht hB).mono fun e w' ⟨h1, h2⟩ => ⟨h1.trans ?_, h2⟩
  subst ho
  unfold kindT kindZ
  cases wordB s.data.toList <;> cases nameB s.data.toList <;> cases numB s.data.toList <;> rfl
/-! ### symbols -/
section
variable {P : Program}
theorem wp_load_cells {o : Oper} {a : Act} {w : World} {K : Act → World → Prop} {Q : Exit → Act → World → Prop} (ty : TypeId) (x : Operand) (ho : o.op = .load ty x)
    (g : Nat) (hx : a.eval x = .pointer (some ⟨g, 0, none⟩)) (cs : List Value) (d : TypeDesc) (hg : ∀ (j : Nat) v, cs[j]? = some v → w.cell? ⟨g, j, none⟩ = some v)
    (hu : P.underlying ty = some d) (hd : (match d with | .struct _ | .array _ _ => true | _ => false) = true) (hi : (P.info? ty).map (·.size) = some cs.length)
    (h : K (a.put o.dst (.agg cs.toArray)) w) : o.wp P a w K Q := by
  have hl : (loadCells ⟨g, 0, none⟩ cs.length).run P w = .ok cs.toArray w :=
    run_loadCells_list (P := P) w ⟨g, 0, none⟩ cs (fun j v hv => by
      have hadd : (⟨g, 0, none⟩ : Addr).add j = ⟨g, j, none⟩ := by unfold Addr.add; split <;> simp_all
      rw [hadd]
      exact hg j v hv)
  have hload : (loadVar ty ⟨g, 0, none⟩).run P w = .ok (.agg cs.toArray) w := by
    cases hq : P.info? ty with
    | none => simp [hq] at hi
    | some i =>
      have hs : i.size = cs.length := by simpa [hq] using hi
      have hagg : (isAgg ty).run P w = .ok true w := by
        unfold isAgg
        rw [Sem.run_bind, run_underlying hu w]
        cases d <;> simp_all
      simp [loadVar, Sem.run_bind, hagg, sizeOf, typeInfo, hq, hs, hl]
  unfold Oper.wp execOp
  simp only [ho, hx, Instr.loadAt, Instr.sureAddr, Sem.run_bind, Sem.run_pure, Result.andThen_ok, hload]
  exact h
theorem wpList_load_cells {ops : Array Oper} {rest : List Oper} {o : Oper} {a : Act} {w : World} {Q : Exit → Act → World → Prop} (hgd : o.guard = none) (ty : TypeId) (x : Operand) (ho : o.op = .load ty x)
    (g : Nat) (hx : a.eval x = .pointer (some ⟨g, 0, none⟩)) (cs : List Value) (d : TypeDesc) (hg : ∀ (j : Nat) v, cs[j]? = some v → w.cell? ⟨g, j, none⟩ = some v)
    (hu : P.underlying ty = some d) (hd : (match d with | .struct _ | .array _ _ => true | _ => false) = true) (hi : (P.info? ty).map (·.size) = some cs.length)
    (h : wpList P ops Q rest (a.put o.dst (.agg cs.toArray)) w) : wpList P ops Q (o :: rest) a w :=
  wpList_plain hgd fun _ hK => wp_load_cells ty x ho g hx cs d hg hu hd hi (hK _ _ h)
end
def symCells : List Value := allSigns.map fun t => .string ⟨t.toArray⟩
theorem symCells_at (k : Nat) (v : Value) (h : symCells[k]? = some v) : ∃ t, allSigns[k]? = some t ∧ v = .string ⟨t.toArray⟩ := by
  unfold symCells at h
  rw [List.getElem?_map] at h
  obtain ⟨t, h1, h2⟩ := Option.map_eq_some_iff.1 h
  exact ⟨t, h1, h2.symm⟩
def symArr : Value := .agg symCells.toArray
theorem symArr_index (k : Nat) (t : List UInt8) (h : allSigns[k]? = some t) (w : World) : (Instr.index 54 symArr (.int .i64 k)).run Tryd.prog w = .ok (.string ⟨t.toArray⟩) w := by
  have hk : k < 30 := by have := (List.getElem?_eq_some_iff.1 h).1; simpa [allSigns, signs2, signs1] using this
  have hc : symCells[k]? = some (.string ⟨t.toArray⟩) := by unfold symCells; rw [List.getElem?_map, h]; rfl
  have hn : (0 : Int) ≤ (k : Int) ∧ (k : Int) < ((30 : Nat) : Int) := by omega
  unfold symArr
  simp [Instr.index, run_underlying Tryd.underlying54, asIntOf, go_sem]
  rw [if_pos hk, hc]
  rfl
theorem symbol_any (B : Nat) (s : ByteArray) (w : World) (ht : TokTab B w) :
    Calls Tryd.prog 31 #[.string s] w fun e w' => e = .returned (.string ⟨(signL s.data.toList).toArray⟩) ∧ w = w' := by
  have hs : ∀ (j : Nat) v, symCells[j]? = some v → w.cell? ⟨0, j, none⟩ = some v := fun j v hv => by
    obtain ⟨t, h1, rfl⟩ := symCells_at j v hv
    exact ht.syms j t h1
  have HT := Lib.hid hs
  clear ht hs
  go_enter Tryd.func31, Tryd.ntmps31
  go_wp2_with (refine wpList_load_cells rfl 54 _ rfl 0 rfl symCells _ HT.out Tryd.underlying54 rfl (by kernel_rfl) ?_)
  go_loop [4, 6] (fun _ i => ∃ k : Nat, k ≤ 30 ∧ i = .int .i64 k ∧ ∀ (j : Nat) u, j < k → allSigns[j]? = some u → Lib.hasPrefix s.data.toList u = false) (fun _ i => 30 - (intOf i).toNat)
  case atStart => exact ⟨0, by omega, rfl, fun j u hj => absurd hj (by omega)⟩
  case round =>
    obtain ⟨k, hk, rfl, hall⟩ := hrel
    have HA := Lib.hid hall
    clear hall
    by_cases hlt : k < 30
    · obtain ⟨t, htk⟩ := sign_at k hlt
      have hix := fun w => symArr_index k t htk w
      unfold symArr at hix
      have HK := Lib.hid htk
      clear htk
      cases hp : Lib.hasPrefix s.data.toList t with
      | true =>
        have HP := Lib.hid hp
        clear hp
        go_wp2_with (go_at_call 34; (with_reducible refine (hasPrefix_is _ _ _ HP.out _).mono ?_); rintro e w' ⟨rfl, rfl⟩)
        go_ret
        rw [signL_at _ k t HK.out HP.out HA.out]
        exact ⟨rfl, rfl⟩
      | false =>
        have HP := Lib.hid hp
        clear hp
        go_wp2_with (go_at_call 34; (with_reducible refine (hasPrefix_is _ _ _ HP.out _).mono ?_); rintro e w' ⟨rfl, rfl⟩)
        go_round
        case rel =>
          refine ⟨k + 1, by omega, by go_num, fun j u hj hu => ?_⟩
          by_cases e : j = k
          · subst e
            have := HK.out.symm.trans hu
            injection this with this
            subst this
            exact HP.out
          · exact HA.out j u (by omega) hu
        case measure => simp [intOf]; omega
    · have e : k = 30 := by omega
      subst e
      go_wp2
      go_ret
      rw [signL_none _ (fun j u hu => HA.out j u (by have := (List.getElem?_eq_some_iff.1 hu).1; simpa [allSigns, signs2, signs1] using this) hu)]
      exact ⟨rfl, rfl⟩
end Go.Proofs.YthlmbeikjdjlkaaDoor
