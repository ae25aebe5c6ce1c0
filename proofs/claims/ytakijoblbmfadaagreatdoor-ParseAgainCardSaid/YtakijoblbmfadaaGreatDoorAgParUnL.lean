import Derived.Test.YtakijoblbmfadaaGreatDoorAgParPrim
import Derived.Test.YtakijoblbmfadaaGreatDoorAgParVals
import Derived.Laws.AppendOwn
set_option linter.unusedSimpArgs false
set_option linter.unusedVariables false
/- The document's parser: what may have a sign ahead, where all is well so far. -/
namespace Go.Proofs.YtakijoblbmfadaaGreatDoor
open Go.RowKit
theorem row_cells5 {W : World} {g : Nat} {c0 c1 c2 c3 c4 : Value} {T : TypeId} (h : W.heap[g]? = some (.cells #[c0, c1, c2, c3, c4] T (0, 0))) :
    (W.cell? ⟨g, 0, none⟩ = some c0 ∧ W.cell? ⟨g, 1, none⟩ = some c1 ∧ W.cell? ⟨g, 2, none⟩ = some c2 ∧ W.cell? ⟨g, 3, none⟩ = some c3 ∧ W.cell? ⟨g, 4, none⟩ = some c4) ∧ ∀ o, W.frozen? ⟨g, o, none⟩ = false := by
  refine ⟨⟨(Lib.cell_of_heap h 0).trans rfl, (Lib.cell_of_heap h 1).trans rfl, (Lib.cell_of_heap h 2).trans rfl, (Lib.cell_of_heap h 3).trans rfl, (Lib.cell_of_heap h 4).trans rfl⟩, fun o => ?_⟩
  simp [World.frozen?, h]
theorem writ_other {w : World} {g k : Nat} (hk : k ≠ g) (c0 c1 c2 c3 c4 : Value) : (writ w g c0 c1 c2 c3 c4).heap[k]? = w.heap[k]? := by
  unfold writ
  rw [Below.heap_setCell _ _ _ _ (by show k ≠ g; exact hk), Below.heap_setCell _ _ _ _ (by show k ≠ g; exact hk), Below.heap_setCell _ _ _ _ (by show k ≠ g; exact hk), Below.heap_setCell _ _ _ _ (by show k ≠ g; exact hk), Below.heap_setCell _ _ _ _ (by show k ≠ g; exact hk)]
/-- Another block of the call's own is written. -/
theorem Cur.writ2 {b g : Nat} {V : Value} {all : List Tok} {w W : World} {x : PR Unit} (h : Cur b V all w x W) (hg : w.heap.size < g) (c0 c1 c2 c3 c4 : Value) : Cur b V all w x (writ W g c0 c1 c2 c3 c4) :=
  ⟨h.1.writ h.2.2.1 (by omega) (by have := h.2.2.2; omega) _ _ _ _ _, (writ_other (by omega) _ _ _ _ _).trans h.2.1, h.2.2⟩
abbrev nest (W : World) (g : Nat) (c0 c1 c2 c3 c4 : Value) : World := ((((W.setCell ⟨g, 0, none⟩ c0).setCell ⟨g, 1, none⟩ c1).setCell ⟨g, 2, none⟩ c2).setCell ⟨g, 3, none⟩ c3).setCell ⟨g, 4, none⟩ c4
theorem Cur.nest {b g : Nat} {V : Value} {all : List Tok} {w W : World} {x : PR Unit} (h : Cur b V all w x W) (hg : w.heap.size < g) (c0 c1 c2 c3 c4 : Value) : Cur b V all w x (nest W g c0 c1 c2 c3 c4) := h.writ2 hg c0 c1 c2 c3 c4
end Go.Proofs.YtakijoblbmfadaaGreatDoor

/- The document's parser: expressions up to a bracket. -/
namespace Go.Proofs.YtakijoblbmfadaaGreatDoor
open Go.RowKit
/-- Where append's row lies: where it lay, or in a new block. -/
def RowAt (w : World) (v v' : Value) : Prop := v'.ownBlock = v.ownBlock ∨ ∃ g, v'.ownBlock = some g ∧ w.heap.size ≤ g
theorem append_at {P : Program} {w : World} {base : Nat} {t ty e : TypeId} {i : TypeInfo} {z : Value} {size bytes : Nat} (ht : P.underlying t = some (.slice e)) (hi : P.info? e = some i) (hz : i.zero = some z)
    (hsize : i.size = size) (hby : i.bytes = bytes) (hzs : z.cells.size = size) (hsz : 0 < size)
    {v : Value} {n : Nat} {xs : List Value} (hown : w.ownsRow base e size v n xs)
    {a : Addr} {m c : Nat} {news : List Value} (hl : news.length = m * size) (hnews : ∀ j u, news[j]? = some u → w.cell? (a.add j) = some u) (h1 : ∀ u ∈ news, u.oneCell' = true)
    (h63 : n + m ≤ maxLen) (hbytes : (n + m) * bytes ≤ 140737488355328) (hm : 0 < m) {v' : Value} {w' : World}
    (hr : (Builtin.append_ #[t, t] ty #[v, .slice (some a) m c]).run P w = .ok v' w') : RowAt w v v' := by
  subst hsize hby
  rcases hown.2 with ⟨rfl, rfl⟩ | ⟨g, cap, cur, rfl, hbg, hg, hnc, hcm, hcs, htake⟩
  · have h2 := run_append_nil (P := P) w t ty e i z ht hi hz a m c news hl hnews (by omega) (by simp only [maxLen] at h63; omega) (by have hb := hbytes; simp only [Nat.zero_add] at hb; omega)
    rw [h2] at hr
    injection hr with e1 _
    subst e1
    exact .inr ⟨_, rfl, Nat.le_refl _⟩
  · by_cases hroom : n + m ≤ cap
    · have h2 := run_append_room (P := P) w t ty e i ht hi g n cap cur hg a m c news hl hnews h1 hroom (by rw [hl, hcs, ← Nat.add_mul]; exact Nat.mul_le_mul_right _ hroom)
      rw [h2] at hr
      injection hr with e1 _
      subst e1
      exact .inl rfl
    · have h2 := run_append_grow (P := P) w t ty e i z ht hi hz ⟨g, 0, none⟩ n cap xs hown.1 (hown.cells (g := g) rfl) a m c news hl hnews (by omega) (by simp only [maxLen] at h63; omega) (growslice_fits (by simp only [maxLen] at h63; omega) hbytes)
      rw [h2] at hr
      injection hr with e1 _
      subst e1
      exact .inr ⟨_, rfl, Nat.le_refl _⟩
theorem list_append_at {P : Program} {w : World} {ops : Array Oper} {rest : List Oper} {o : Oper} {a : Act} {Q : Exit → Act → World → Prop} (hgd : o.guard = none) (s x : Operand) (t : TypeId)
    (ho : o.op = .call { callee := .builtin .append, args := #[s, x], argTypes := #[t, t] })
    (base : Nat) (e : TypeId) (i : TypeInfo) (z : Value) (size bytes : Nat) (ht : P.underlying t = some (.slice e)) (hi : P.info? e = some i) (hz : i.zero = some z)
    (hsize : i.size = size) (hby : i.bytes = bytes) (hzs : z.cells.size = size) (hsz : 0 < size)
    (v : Value) (n : Nat) (xs : List Value) (hs : a.eval s = v) (hown : w.ownsRow base e size v n xs)
    (ad : Addr) (m c : Nat) (news : List Value) (hx : a.eval x = .slice (some ad) m c) (hl : news.length = m * size) (hnews : ∀ j u, news[j]? = some u → w.cell? (ad.add j) = some u) (h1 : ∀ u ∈ news, u.oneCell' = true)
    (h63 : n + m ≤ maxLen) (hbytes : (n + m) * bytes ≤ 140737488355328) (hbase : base ≤ w.heap.size) (hm : 0 < m)
    (h : ∀ v' w', w'.ownsRow base e size v' (n + m) (xs ++ news) → w.grownBy w' v.ownBlock → RowAt w v v' → wpList P ops Q rest (a.put o.dst v') w') : wpList P ops Q (o :: rest) a w := by
  refine wpList_plain hgd fun K hK => ?_
  obtain ⟨v', w', hr, h2, h3, _⟩ := run_append_own (P := P) w base t o.type e i z size bytes ht hi hz hsize hby hzs hsz v n xs hown ad m c news hl hnews h1 h63 hbytes hbase
  have h4 := append_at ht hi hz hsize hby hzs hsz hown hl hnews h1 h63 hbytes hm hr
  have hk := hK _ _ (h v' w' h2 h3 h4)
  unfold Oper.wp execOp
  simp only [ho, resolve, invoke, builtin, Sem.run_bind, Sem.run_pure, Result.andThen_ok, List.map_toArray, List.map_cons, List.map_nil, hs, hx, hr]
  exact hk
/-! ### a list of expressions that grows -/
def exCs (ps : List (Ex × Value)) : List Value := ps.flatMap fun p => [.int .i64 p.1.kind, .int .i64 p.1.op, .int .i64 p.1.n, .string p.1.name, p.2]
theorem exCs_snoc (ps : List (Ex × Value)) (p : Ex × Value) : exCs (ps ++ [p]) = exCs ps ++ [.int .i64 p.1.kind, .int .i64 p.1.op, .int .i64 p.1.n, .string p.1.name, p.2] := by simp [exCs]
def outMask (B : Nat) (v : Value) : Nat → Bool := fun k => decide (k < B) || v.ownBlock == some k
theorem outMask_no {B k : Nat} {v : Value} : outMask B v k = false ↔ B ≤ k ∧ v.ownBlock ≠ some k := by
  unfold outMask
  simp [Bool.or_eq_false_iff]
/-- v is a list that has been made since block B, of these expressions. -/
def Outs (B : Nat) (w : World) (v : Value) (acc : List Ex) : Prop :=
  ∃ ps : List (Ex × Value), ps.map (·.1) = acc ∧ w.ownsRow B 84 5 v ps.length (exCs ps) ∧ ∀ p ∈ ps, i64R p.1.n ∧ SlE w.heap.size (mask (outMask B v) w) p.2 p.1.args
theorem Outs.nil (B : Nat) (w : World) : Outs B w (.slice none 0 0) [] := ⟨[], rfl, World.ownsRow_nil w B _ 5, fun p hp => by cases hp⟩
theorem Outs.form {B : Nat} {w : World} {v : Value} {acc : List Ex} (h : Outs B w v acc) : ∃ A c, v = .slice A acc.length c := by
  obtain ⟨ps, rfl, ho, _⟩ := h
  rw [List.length_map]
  exact own_form ho
theorem Outs.own {B : Nat} {w : World} {v : Value} {acc : List Ex} (h : Outs B w v acc) : ∀ k, v.ownBlock = some k → k < w.heap.size ∧ B ≤ k := by
  obtain ⟨ps, _, ho, _⟩ := h
  exact own_lt ho
/-- From one world to a later one. -/
theorem SlE.mask {p q : Nat → Bool} {w w' : World} {v : Value} {l : List Ex} (h : SlE w.heap.size (_root_.Go.Proofs.YtakijoblbmfadaaGreatDoor.mask p w) v l) (hs : w.heap.size ≤ w'.heap.size) (hk : ∀ k, k < w.heap.size → p k = false → q k = false ∧ w'.heap[k]? = w.heap[k]?) : SlE w'.heap.size (_root_.Go.Proofs.YtakijoblbmfadaaGreatDoor.mask q w') v l := by
  refine h.imp fun g o u hc => ?_
  obtain ⟨hp, hc⟩ := mask_cell hc
  obtain ⟨hq, he⟩ := hk g hc.1 hp
  exact cell_mask hq ⟨Nat.lt_of_lt_of_le hc.1 hs, (World.cell?_of_block (w := w) he).trans hc.2⟩
theorem Outs.keep {B : Nat} {w w' : World} {v : Value} {acc : List Ex} (h : Outs B w v acc) (k : Keep B w w') : Outs B w' v acc := by
  have hown := h.own
  obtain ⟨ps, ha, ho, hp⟩ := h
  refine ⟨ps, ha, own_keep ho fun j hj => k.2 j (hown j hj).1 (hown j hj).2, fun p hm => ⟨(hp p hm).1, (hp p hm).2.mask k.1 fun j hj hq => ⟨hq, k.2 j hj (outMask_no.1 hq).1⟩⟩⟩
theorem Outs.app {B L : Nat} {w W w' : World} {v v' : Value} {acc : List Ex} {e : Ex} {k op n : Int} {s : ByteArray} {u : Value} (h : Outs B w v acc) (he : FrE L w e (.agg #[.int .i64 k, .int .i64 op, .int .i64 n, .string s, u])) (hB : B ≤ L) (hL : ∀ k, v.ownBlock = some k → k < L)
    (hW : Below w.heap.size w W) (hg : W.grownBy w' v.ownBlock) (hr : RowAt W v v') (ho : w'.ownsRow B 84 5 v' (acc.length + 1) ((exCs (Classical.choose h)) ++ [.int .i64 k, .int .i64 op, .int .i64 n, .string s, u])) : Outs B w' v' (acc ++ [e]) := by
  obtain ⟨hps, hown, hp⟩ := Classical.choose_spec h
  generalize Classical.choose h = ps at *
  obtain ⟨args, rfl, hn, hs⟩ := exV_at he
  have hsz : w.heap.size ≤ w'.heap.size := Nat.le_trans hW.size hg.size
  have hblk : ∀ j, j < w.heap.size → v.ownBlock ≠ some j → v'.ownBlock ≠ some j ∧ w'.heap[j]? = w.heap[j]? := fun j hj hne => by
    refine ⟨fun hc => ?_, (hg.block j (Nat.lt_of_lt_of_le hj hW.size) (fun e => hne e.symm)).trans (hW.block j hj)⟩
    rcases hr with h1 | ⟨g, h1, h2⟩
    · exact hne (h1 ▸ hc)
    · rw [h1] at hc
      injection hc with hc
      have := hW.size
      omega
  refine ⟨ps ++ [(.mk k op n s args, u)], by rw [List.map_append, hps]; rfl, ?_, fun p hm => ?_⟩
  · rw [exCs_snoc, List.length_append, show ps.length = acc.length by rw [← hps, List.length_map]]
    exact ho
  · rcases List.mem_append.1 hm with hm | hm
    · refine ⟨(hp p hm).1, (hp p hm).2.mask hsz fun j hj hq => ?_⟩
      obtain ⟨h1, h2⟩ := outMask_no.1 hq
      obtain ⟨h3, h4⟩ := hblk j hj h2
      exact ⟨outMask_no.2 ⟨h1, h3⟩, h4⟩
    · obtain rfl := List.mem_singleton.1 hm
      refine ⟨hn, SlE.mask hs hsz fun j hj hq => ?_⟩
      have hjL := low_no.1 hq
      obtain ⟨h3, h4⟩ := hblk j hj (fun hc => by have := hL j hc; omega)
      exact ⟨outMask_no.2 ⟨by omega, h3⟩, h4⟩
theorem rdEs_of {N : Nat} {W : World} {g : Nat} : ∀ (ps : List (Ex × Value)) (o : Nat), (∀ j u, (exCs ps)[j]? = some u → CellB N W g (o + j) u) → (∀ p ∈ ps, i64R p.1.n ∧ SlE N W p.2 p.1.args) → RdEs N W (ps.map (·.1)) g o
  | [], _, _, _ => by
    show RdEs N W [] g _
    rw [RdEs]
    trivial
  | p :: r, o, hc, hp => by
    show RdEs N W (p.1 :: r.map (·.1)) g o
    have e : exCs (p :: r) = .int .i64 p.1.kind :: .int .i64 p.1.op :: .int .i64 p.1.n :: .string p.1.name :: p.2 :: exCs r := by simp [exCs]
    rw [e] at hc
    rw [RdEs]
    refine ⟨?_, rdEs_of r (o + 5) (fun j u hj => ?_) fun q hq => hp q (List.mem_cons_of_mem _ hq)⟩
    · obtain ⟨hn, hs⟩ := hp p (List.mem_cons_self ..)
      obtain ⟨⟨k, op, n, nm, args⟩, u⟩ := p
      rw [RdE]
      exact ⟨hc 0 _ rfl, hc 1 _ rfl, hc 2 _ rfl, hc 3 _ rfl, hn, u, hc 4 _ rfl, hs⟩
    · have := hc (j + 5) u (by simpa using hj)
      rw [show o + 5 + j = o + (j + 5) by omega]
      exact this
theorem Outs.read {B : Nat} {w : World} {v : Value} {acc : List Ex} (h : Outs B w v acc) (hn : acc.length ≤ 281474976710656) : FrEs B w acc v := by
  obtain ⟨ps, rfl, ho, hp⟩ := h
  have hsub : ∀ g o u, CellB w.heap.size (mask (outMask B v) w) g o u → CellB w.heap.size (mask (low B) w) g o u := fun g o u hc => by
    obtain ⟨hq, hc⟩ := mask_cell hc
    exact cell_mask (low_no.2 (outMask_no.1 hq).1) hc
  rcases ho.2 with ⟨rfl, h0⟩ | ⟨g, cap, cur, rfl, h1, h2, h3, h4, h5, h6⟩
  · have : ps = [] := List.eq_nil_of_length_eq_zero h0
    subst this
    exact slE_nil _ _
  · refine ⟨_, cap, ?_, ?_, fun _ => ⟨g, 0, rfl, ?_⟩⟩
    · rw [List.length_map]
    · exact hn
    · have hglt : g < w.heap.size := (Array.getElem?_eq_some_iff.1 h2).1
      refine rdEs_of ps 0 (fun j u hj => ?_) fun p hm => ⟨(hp p hm).1, (hp p hm).2.imp hsub⟩
      refine cell_mask (low_no.2 h1) ⟨hglt, ?_⟩
      rw [Nat.zero_add, cell_of_row w g j cur _ (0, 0) h2]
      rw [← h6, List.getElem?_take] at hj
      split at hj
      · simpa using hj
      · cases hj
theorem ex_info : (Tryz.prog.info? 84).map (fun i => (i.zero, i.size, i.bytes)) = some (some ex0V, 5, 64) := by kernel_rfl
/-! ### the round -/
/-- How far the box has come. -/
def atOf (b : Nat) (w : World) : Nat := match w.cell? ⟨b, 1, none⟩ with | some (.int _ k) => k.toNat | _ => 0
/-- What is left to tell behind an expression. -/
def argRest (m : Nat) (d : Int) (acc : List Ex) (r : List Tok) : PR (List Ex) := if isS [44] r = true then pAL m d acc r.tail else (must [41] r).bind fun _ r => .ok acc r
def ArgB (b : Nat) (V : Value) (all : List Tok) (w : World) (T : PR (List Ex)) (n : Nat) (d : Int) (ov : Value) (wr : World) : Prop :=
  ∃ (m : Nat) (acc : List Ex) (y : PR Unit), m ≤ n ∧ Outs w.heap.size wr ov acc ∧ Did b V all w y wr ∧ T = y.bind (fun _ r => argRest m d acc r) ∧ (isOver y = false → acc.length ≤ atOf b wr) ∧ acc.length ≤ 2000000
/-- What a round leaves. -/
def ArgNext (b : Nat) (V : Value) (all : List Tok) (w w' : World) (q : Nat) (d : Int) (acc : List Ex) (r : List Tok) (v' : Value) : Prop :=
  ∃ (acc' : List Ex) (y : PR Unit), Outs w.heap.size w' v' acc' ∧ Did b V all w y w' ∧ pAL (q + 1) d acc r = y.bind (fun _ r => argRest q d acc' r) ∧ (isOver y = false → acc'.length ≤ atOf b w') ∧ acc'.length ≤ 2000000 ∧ all.length - r.length ≤ atOf b w'
theorem pAL_got {q : Nat} {d : Int} {acc : List Ex} {r : List Tok} : pAL (q + 1) d acc r = (pE q 1 d r).bind fun e r => argRest q d (acc ++ [e]) r := by rw [pAL]; rfl
theorem ArgNext.rel {b : Nat} {V : Value} {all : List Tok} {w w' : World} {q n : Nat} {d : Int} {acc : List Ex} {r : List Tok} {v' : Value} {T : PR (List Ex)} (h : ArgNext b V all w w' q d acc r v') (hq : q ≤ n) (hT : T = pAL (q + 1) d acc r) : ArgB b V all w T n d v' w' := by
  obtain ⟨acc', y, h1, h2, h3, h4, h5, _⟩ := h
  exact ⟨q, acc', y, hq, h1, h2, hT.trans h3, h4, h5⟩
theorem ArgNext.at {b : Nat} {V : Value} {all : List Tok} {w w' : World} {q : Nat} {d : Int} {acc : List Ex} {r : List Tok} {v' : Value} (h : ArgNext b V all w w' q d acc r v') : all.length - r.length ≤ atOf b w' := by
  obtain ⟨acc', y, h1, h2, h3, h4, h5, h6⟩ := h
  exact h6
end Go.Proofs.YtakijoblbmfadaaGreatDoor
