/- The law TreeDeep returns true, where the package-level variables read as the program's text lays them (TreeTab). -/
import Derived.Test.YtomdcgifkkmopaaDoorTreeDeepA
import Derived.Test.YtomdcgifkkmopaaDoorTreeDeepC
import Derived.Test.YtomdcgifkkmopaaDoorTreeAwake
import Derived.Test.YtomdcgifkkmopaaDoorTreeRefN
namespace Go.Proofs.YtomdcgifkkmopaaDoor
open Go.RowKit
theorem rprint_any (B : Nat) (p : Pr) (hlen : (prT p).length ≤ 1099511627776) (v v' : Value) (w : World) (hB : B ≤ w.heap.size) (ha : SlA B w v p.arrays) (hf : SlF B w v' p.funcs) :
    Calls Tryd.prog 5 #[.agg #[v, v']] w (PrintPost B p w) := by
  cases hc : prOK p with
  | false => exact rprint_no B p hc v v' w hB ha hf
  | true => exact rprint_yes B p hc hlen v v' w hB ha hf
theorem tails_any (w : World) (ht : TreeTab w.heap.size w) : Tails w := by
  intro W V l hb hF hl
  refine ⟨⟨(if prOK (oneF l) then prT (oneF l) else []).toArray⟩, if prOK (oneF l) then 0 else 1, prOK (oneF l), fun w' hw => ?_⟩
  have hz := hw.size
  have ht' : TreeTab W.heap.size w' := ((ht.below hb).mono hb.size).below hw
  have hF' : SlF W.heap.size w' V (oneF l).funcs := hF.below hw (Nat.le_refl _)
  have hlen := oneF_len l hl
  exact ⟨(print_any W.heap.size (oneF l) (fun _ => hlen) _ V w' ht' hz (slA_nil _ _) hF').mono fun e w2 h => ⟨h.2, h.1⟩,
    (rprint_any W.heap.size (oneF l) hlen _ V w' hz (slA_nil _ _) hF').mono fun e w2 h => ⟨h.2, h.1⟩,
    (awake_any w' (ht'.mono hz)).mono fun e w2 h => ⟨h.1, hw.trans (h.2.mono hz)⟩,
    (right_any W.heap.size (oneF l) _ rfl _ V w' ht' hz (slA_nil _ _) hF').mono fun e w2 h => ⟨h.1, hw.trans (h.2.mono hz)⟩,
    (rright_any W.heap.size (oneF l) _ rfl _ V w' hz (slA_nil _ _) hF').mono fun e w2 h => ⟨h.1, hw.trans (h.2.mono hz)⟩⟩
theorem treeDeep_law (n k : Int) (hn : 0 ≤ n ∧ n ≤ 255) (hk : 0 ≤ k ∧ k ≤ 255) (w : World) (ht : TreeTab w.heap.size w) :
    Calls Tryd.prog 3 #[.int .u8 n, .int .u8 k] w fun e w' => e = .returned (.bool true) ∧ Below w.heap.size w w' := by
  have hT := tails_any w ht
  obtain ⟨hn0, hn1⟩ := hn
  obtain ⟨hk0, hk1⟩ := hk
  rcases (by omega : k % 4 = 0 ∨ k % 4 = 1 ∨ k % 4 = 2 ∨ k % 4 = 3) with h | h | h | h
  · exact negs_law n k hn0 hn1 hk0 hk1 w h hT
  · exact subs_law n k hn0 hn1 hk0 hk1 w h hT
  · exact whiles_law n k hn0 hn1 hk0 hk1 w h hT
  · exact elses_law n k hn0 hn1 hk0 hk1 w h hT
end Go.Proofs.YtomdcgifkkmopaaDoor
