import Derived.Test.YtndgkfkieogplaaDoorAgParFn
import Derived.Test.YtndgkfkieogplaaDoorAgParBlanks
import Derived.Test.YtndgkfkieogplaaDoorAgTokRefB
import Derived.Test.YtndgkfkieogplaaDoorAgTreeRefS
import Derived.Test.YtndgkfkieogplaaDoorAgPrsAgM
import Derived.Test.YtndgkfkieogplaaDoorAgTreeRightF
import Derived.Test.YtndgkfkieogplaaDoorAgParBlk
import Derived.Test.YtndgkfkieogplaaDoorAgTyGlo
set_option linter.unusedSimpArgs false
set_option linter.unusedVariables false
set_option maxRecDepth 100000
/- The document's parser: what it answers of a text. -/
namespace Go.Proofs.YtndgkfkieogplaaDoor
open Lib (hid)
open Go.RowKit
def yV (R:Pr × Int × Nat) (w:World) (e:Ending) (w':World):Prop:=
 Below w.heap.size w w'∧∃ v0 v1,e=.returned (.tuple #[.agg #[v0,v1],.int .i64 R.2.1,.int .i64 (R.2.2:Int)])∧SlA w'.heap.size w' v0 R.1.arrays∧SlF w'.heap.size w' v1 R.1.funcs
theorem slF_nil (B:Nat) (w:World):SlF B w (.slice none 0 0) []:=⟨none,0,rfl,Nat.zero_le _,fun h=>absurd h (by simp)⟩
theorem mask_sub {p:Nat→Bool} {B:Nat} {w:World}:∀ g o u,CellB B (mask p w) g o u→CellB B w g o u:=fun _ _ _ h=>(jj h).2
theorem FrG.tree {L:Nat} {w:World} {a:Pr} {v:Value} (h:FrG L w a v):∃ v0 v1,v=.agg #[v0,v1]∧SlA w.heap.size w v0 a.arrays∧SlF w.heap.size w v1 a.funcs:=by
 obtain⟨v0,v1,hv,h0,h1⟩:=h
 exact⟨v0,v1,hv,h0.imp mask_sub,h1.imp mask_sub⟩
theorem off_below {b B C:Nat} {w w':World} (h:OffB b B w w') (hC:C≤B) (hb:C≤b):Below C w w':=by
 have g:Below B (hole b w) (hole b w'):=h
 exact⟨g.os,g.tape,g.output,h.size,fun k hk=>h.block (by omega) (by omega)⟩
theorem box_new {w:World} {v:Value} {ts:List Tok} {B:Nat} (h:vT w B v ts) (hE:zw ts) (hl:ts.length≤1000000) (hn:∀ t ∈ ts,t.kind=0→kO t.text=true∧t.text.length≤281474976710656):
 jS w.heap.size v ts (.ok () ts) (w.alloc (.cells #[v,.int .i64 0,.bool false,.bool false] 57)):=by
 rcases h.2 with⟨rfl,h0⟩ | ⟨g,cap,cur,rfl,h1,h2,h3,h4,h5,h6⟩
 · exact absurd h0 (by have:=hE.pos;omega)
 · have hglt:g<w.heap.size:=(Array.getElem?_eq_some_iff.1 h2).1
   refine⟨?_,⟨g,cap,rfl,by omega,by simp;omega,fun j u hj=>?_,hl,fun t ht h0=>⟨(hn t ht h0).1,?_⟩⟩,List.suffix_refl _,hE⟩
   · rw[Nat.sub_self]
     exact heap_alloc_new w _
   · rw[Lib.cell_of_heap ((Below.heap_alloc w _ g hglt).trans h2)]
     rw[←h6,List.getElem?_take]at hj
     split at hj
     · simpa using hj
     · cases hj
   · rw[Lib.size_eq]
     exact(hn t ht h0).2
def Rb (w W:World):Prop:=Below w.heap.size w W∧W.heap[w.heap.size]? =some vM
theorem Rb.start (w:World):Rb w (w.alloc vM):=⟨(Below.refl _ _).alloc (Nat.le_refl _) _,heap_alloc_new w vM⟩
section
variable {w W W':World}
theorem Rb.lt (h:Rb w W):w.heap.size<W.heap.size:=(Array.getElem?_eq_some_iff.1 h.2).1
theorem Rb.bel (h:Rb w W):Below w.heap.size w W:=h.1
theorem Rb.below (h:Rb w W) (hb:Below W.heap.size W W'):Rb w W':=⟨h.1.trans (hb.mono h.1.size),(hb.block _ h.lt).trans h.2⟩
theorem Rb.off {b B:Nat} (h:Rb w W) (ho:OffB b B W W') (hB:w.heap.size<B) (hb:w.heap.size<b):Rb w W':=⟨h.1.trans (off_below ho (by omega) (by omega)),qe ho hB (by omega) h.2⟩
theorem Rb.alloc (h:Rb w W) (o:Obj):Rb w (W.alloc o):=h.below ((Below.refl _ _).alloc (Nat.le_refl _) o)
theorem Rb.drew (h:Rb w W):Rb w W.drew:=h.below (Below.refl _ _).drew
theorem Rb.own (h:Rb w W):(W.cell? ⟨w.heap.size,0,none⟩=some (.slice none 0 0)∧W.cell? ⟨w.heap.size,1,none⟩=some (.slice none 0 0))∧∀ o,W.frozen? ⟨w.heap.size,o,none⟩=false:=xt h.2
theorem Rb.read (h:Rb w W) (c0 c1:Value):((W.setCell ⟨w.heap.size,0,none⟩ c0).setCell ⟨w.heap.size,1,none⟩ c1).cell? ⟨w.heap.size,0,none⟩=some c0∧((W.setCell ⟨w.heap.size,0,none⟩ c0).setCell ⟨w.heap.size,1,none⟩ c1).cell? ⟨w.heap.size,1,none⟩=some c1:=(xt (nest2_row h.2 c0 c1)).1
theorem Rb.fail (h:Rb w W) {R:Pr × Int × Nat} (e:Int) (ln:Nat) (hR:R=(pr0,e,ln)):yV R w (.returned (.tuple #[.agg #[.slice Option.none 0 0,.slice Option.none 0 0],.int .i64 e,.int .i64 (ln:Int)])) W:=by
 subst hR
 exact⟨h.1,_,_,rfl,slA_nil _ _,slF_nil _ _⟩
theorem Rb.nest (h:Rb w W) (c0 c1:Value):Below w.heap.size w (uc W w.heap.size c0 c1):=(h.1.setCell (p:=⟨w.heap.size,0,Option.none⟩) (Nat.le_refl _) _).setCell (p:=⟨w.heap.size,1,Option.none⟩) (Nat.le_refl _) _
theorem Rb.failn (h:Rb w W) {R:Pr × Int × Nat} (e:Int) (ln:Nat) (hR:R=(pr0,e,ln)) (c0 c1:Value):yV R w (.returned (.tuple #[.agg #[.slice Option.none 0 0,.slice Option.none 0 0],.int .i64 e,.int .i64 (ln:Int)])) (uc W w.heap.size c0 c1):=by
 subst hR
 exact⟨h.nest c0 c1,_,_,rfl,slA_nil _ _,slF_nil _ _⟩
theorem FrG.keep {L M:Nat} {a:Pr} {v:Value} (h:FrG L W a v) (k:zM L W W') (hM:M≤L):FrG M W' a v:=by
 obtain⟨v0,v1,hv,h0,h1⟩:=h
 exact⟨v0,v1,hv,h0.imp (k.cells hM),h1.imp (k.cells hM)⟩
theorem Rb.give (h:Rb w W) {R:Pr × Int × Nat} {p:Pr} {v0 v1:Value} (hR:R=(p,0,0)) {L:Nat} (hG:FrG L W p (.agg #[v0,v1])) (hL:w.heap.size<L):yV R w (.returned (.tuple #[.agg #[v0,v1],.int .i64 0,.int .i64 ((0 :Nat):Int)])) (uc W w.heap.size v0 v1):=by
 subst hR
 obtain⟨u0,u1,hv,h0,h1⟩:=(hG.keep (zM.nest2 (g:=w.heap.size) hL v0 v1) (Nat.le_refl _)).tree
 simp only[Value.agg.injEq,Array.mk.injEq,List.cons.injEq,and_true]at hv
 obtain⟨rfl,rfl⟩:=hv
 exact⟨h.nest _ _,_,_,rfl,h0,h1⟩
end
theorem rparse_long (s:ByteArray) (w:World) (h:100000<s.size):Calls Tryd.prog 8 #[.string s] w (yV (kS s) w):=by
 rw[docP_long h]
 have HH:=hid h
 have HR:=hid (Rb.start w)
 clear h
 go_enter Tryd.func8,Tryd.ntmps8
 go_wp2_with (go_at_call 16;(with_reducible refine(rtokens_long s _ HH.out).mono ?_);rintro e w1 ⟨rfl,rfl⟩)
 obtain⟨⟨c0,c1⟩,fz⟩:=HR.out.own
 refine bodyPost_ret (v:=.tuple #[.agg #[.slice none 0 0,.slice none 0 0],.int .i64 2,.int .i64 ((0 :Nat):Int)]) (by simp[results,Tryd.results8,go_sem,c0,c1]) rfl ?_
 exact HR.out.fail 2 0 rfl
theorem rtokens_no (s:ByteArray) (w:World) (h:s.size≤100000) {ln:Nat} (hs:(zN s.data.toList 1).2=some ln):Calls Tryd.prog 16 #[.string s] w fun e w'=>e=.returned (.tuple #[.slice none 0 0,.int .i64 20,.int .i64 (ln:Int)])∧Below w.heap.size w w':=
 (rtokens_any s w h).mono fun e w' hp=>by
   unfold xI at hp
   rw[hs]at hp
   exact⟨hp.2,hp.1⟩
theorem vN (s:ByteArray) (w:World) (h:s.size≤100000) {ts:List Tok} (hs:zN s.data.toList 1=(ts,none)):Calls Tryd.prog 16 #[.string s] w fun e w'=>∃ v,e=.returned (.tuple #[v,.int .i64 0,.int .i64 0])∧vT w' w.heap.size v ts∧Below w.heap.size w w':=
 (rtokens_any s w h).mono fun e w' hp=>by
   unfold xI at hp
   rw[hs]at hp
   obtain⟨h1,v,h2,h3⟩:=hp
   exact⟨v,h2,h3,h1⟩
theorem rparse_no (s:ByteArray) (w:World) (h:s.size≤100000) {ln:Nat} (hs:(zN s.data.toList 1).2=some ln):Calls Tryd.prog 8 #[.string s] w (yV (kS s) w):=by
 rw[docP_no h hs]
 have HH:=hid h
 have HS:=hid hs
 have HR:=hid (Rb.start w)
 clear h hs
 go_enter Tryd.func8,Tryd.ntmps8
 go_wp2_with (go_at_call 16;(with_reducible refine(rtokens_no s _ HH.out HS.out).mono ?_);rintro e w1 ⟨rfl,hb⟩
              replace HR:=hid (HR.out.below hb)
              obtain⟨⟨c0,c1⟩,fz⟩:=HR.out.own
              clear hb)
 refine bodyPost_ret (v:=.tuple #[.agg #[.slice none 0 0,.slice none 0 0],.int .i64 20,.int .i64 (ln:Int)]) (by simp[results,Tryd.results8,go_sem,c0,c1]) rfl ?_
 exact HR.out.failn 20 ln rfl _ _
theorem box_go {s:ByteArray} {W:World} {v:Value} {ts:List Tok} {B:Nat} (h:vT W B v ts) (hs:zN s.data.toList 1=(ts,none)) (hl:s.size≤100000):jS W.heap.size v ts (.ok () ts) (W.alloc (.cells #[v,.int .i64 0,.bool false,.bool false] 57)):=by
 have hz:s.size=s.data.toList.length:=rfl
 obtain⟨h1,h2⟩:=zAb _ _ _ _ (Nat.le_refl _) hs
 exact box_new h (jT _ _ _ _ (Nat.le_refl _) hs) (by omega) fun t ht h0=>⟨(h1 t ht h0).1,by have:=(h1 t ht h0).2;omega⟩
theorem toks_form {w:World} {B:Nat} {v:Value} {ts:List Tok} (h:vT w B v ts):∃ A c,v=.slice A ts.length c:=kX h
theorem right_go {L:Nat} {W:World} {p:Pr} {v0 v1:Value} {c:Bool} {o:Obj} (h:FrG L W p (.agg #[v0,v1])) (hc:prOK p=c):Calls Tryd.prog 18 #[.agg #[v0,v1]] (W.alloc o) fun e w'=>e=.returned (.bool c)∧Below (W.alloc o).heap.size (W.alloc o) w':=by
 obtain⟨u0,u1,hv,h0,h1⟩:=(h.keep (zM.of_below (L:=L) ((Below.refl _ _).alloc (Nat.le_refl _) o)) (Nat.le_refl _)).tree
 simp only[Value.agg.injEq,Array.mk.injEq,List.cons.injEq,and_true]at hv
 obtain⟨rfl,rfl⟩:=hv
 exact uW _ p c hc _ _ _ (Nat.le_refl _) h0 h1
set_option maxHeartbeats 1600000 in
theorem rparse_ok (s:ByteArray) (w:World) (h:s.size≤100000) {ts:List Tok} (hs:zN s.data.toList 1=(ts,none)) {p:Pr} {r:List Tok} (hp:qA ts=.ok p r):Calls Tryd.prog 8 #[.string s] w (yV (kS s) w):=by
 obtain⟨c,hc⟩:∃ c,prOK p=c:=⟨_,rfl⟩
 have hR:kS s=if c=true then (p,0,0) else (pr0,2,0):=by
  rw[zAc h hs]
  unfold docT
  rw[hp,←hc]
 have HE:=hid (show zG ((PR.ok () ts).bind fun _ r=>jg (20 * ts.length+40) ⟨[],[]⟩ r) from xL (jT _ _ _ _ (Nat.le_refl _) hs))
 have HP:=hid hp
 have HC:=hid hc
 have HH:=hid h
 have HS:=hid hs
 have HR:=hid (Rb.start w)
 have HRR:=hid hR
 clear h hs hp hc hR
 cases c
 case false=>
  go_enter Tryd.func8,Tryd.ntmps8
  go_wp2_with (first
   | (go_at_call 16;(with_reducible refine(vN s _ HH.out HS.out).mono ?_);rintro e w1 ⟨v,rfl,hT,hb⟩
      obtain⟨A0,cp0,rfl⟩:=toks_form hT
      have HT:=hid hT
      replace HR:=hid (HR.out.below hb)
      clear hb hT)
   | (go_at_call 17;(with_reducible refine(prog_any (box_go HT.out HS.out HH.out) HE.out).mono ?_);rintro e w3 ⟨v,rfl,hD,hG⟩
      have hp3:zY w1.heap.size (.slice A0 ts.length cp0) ts r false false w3:=by
       have h1:jS w1.heap.size (.slice A0 ts.length cp0) ts (qA ts).un w3:=hD.st
       rw[HP.out]at h1
       exact h1
      have HG:=hid (show FrG (w1.alloc (.cells #[.slice A0 ts.length cp0,.int .i64 0,.bool false,.bool false] 57)).heap.size w3 p v by
       have h1:jE (qA ts) _:=hG
       rw[HP.out]at h1
       exact h1)
      obtain⟨v0,v1,rfl,g0,g1⟩:=HG.out
      obtain⟨B0,q0,rfl,_⟩:=g0.form
      obtain⟨B1,q1,rfl,_⟩:=g1.form
      obtain⟨b0,b1,b2,b3⟩:=hp3.cells
      have hw1:=HR.out.lt
      have HR3:=hid ((HR.out.alloc _).off hD.off (by simp;omega) (by omega))
      have h3:w1.heap.size<w3.heap.size:=hp3.lt
      have hw3:=HR3.out.lt
      clear hD hG hp3 g0 g1)
   | (go_at_call 18;(with_reducible refine(right_go HG.out HC.out).mono ?_);rintro e w4 ⟨rfl,hb⟩
      have HG4:=hid (HG.out.keep ((zM.of_below ((Below.refl _ _).alloc (Nat.le_refl _) _)).trans (zM.of_below hb)) (Nat.le_refl _))
      have HR4:=hid ((HR3.out.alloc _).below hb)
      obtain⟨⟨o0,o1⟩,oz⟩:=xt ((hb.block _ (by simp)).trans (heap_alloc_new w3 (.cells #[.slice B0 p.arrays.length q0,.slice B1 p.funcs.length q1] 26)))
      obtain⟨⟨c0,c1⟩,fz⟩:=HR4.out.own
      clear hb))
  refine bodyPost_ret (v:=.tuple #[.agg #[.slice none 0 0,.slice none 0 0],.int .i64 2,.int .i64 ((0 :Nat):Int)]) (by simp[results,Tryd.results8,go_sem,c0,c1]) rfl ?_
  exact HR4.out.failn 2 0 (by rw[HRR.out];rfl) _ _
 case true=>
  go_enter Tryd.func8,Tryd.ntmps8
  go_wp2_with (first
   | (go_at_call 16;(with_reducible refine(vN s _ HH.out HS.out).mono ?_);rintro e w1 ⟨v,rfl,hT,hb⟩
      obtain⟨A0,cp0,rfl⟩:=toks_form hT
      have HT:=hid hT
      replace HR:=hid (HR.out.below hb)
      clear hb hT)
   | (go_at_call 17;(with_reducible refine(prog_any (box_go HT.out HS.out HH.out) HE.out).mono ?_);rintro e w3 ⟨v,rfl,hD,hG⟩
      have hp3:zY w1.heap.size (.slice A0 ts.length cp0) ts r false false w3:=by
       have h1:jS w1.heap.size (.slice A0 ts.length cp0) ts (qA ts).un w3:=hD.st
       rw[HP.out]at h1
       exact h1
      have HG:=hid (show FrG (w1.alloc (.cells #[.slice A0 ts.length cp0,.int .i64 0,.bool false,.bool false] 57)).heap.size w3 p v by
       have h1:jE (qA ts) _:=hG
       rw[HP.out]at h1
       exact h1)
      obtain⟨v0,v1,rfl,g0,g1⟩:=HG.out
      obtain⟨B0,q0,rfl,_⟩:=g0.form
      obtain⟨B1,q1,rfl,_⟩:=g1.form
      obtain⟨b0,b1,b2,b3⟩:=hp3.cells
      have hw1:=HR.out.lt
      have HR3:=hid ((HR.out.alloc _).off hD.off (by simp;omega) (by omega))
      have h3:w1.heap.size<w3.heap.size:=hp3.lt
      have hw3:=HR3.out.lt
      clear hD hG hp3 g0 g1)
   | (go_at_call 18;(with_reducible refine(right_go HG.out HC.out).mono ?_);rintro e w4 ⟨rfl,hb⟩
      have HG4:=hid (HG.out.keep ((zM.of_below ((Below.refl _ _).alloc (Nat.le_refl _) _)).trans (zM.of_below hb)) (Nat.le_refl _))
      have HR4:=hid ((HR3.out.alloc _).below hb)
      obtain⟨⟨o0,o1⟩,oz⟩:=xt ((hb.block _ (by simp)).trans (heap_alloc_new w3 (.cells #[.slice B0 p.arrays.length q0,.slice B1 p.funcs.length q1] 26)))
      obtain⟨⟨c0,c1⟩,fz⟩:=HR4.out.own
      clear hb))
  obtain⟨f0,f1⟩:=HR4.out.read (.slice B0 p.arrays.length q0) (.slice B1 p.funcs.length q1)
  refine bodyPost_ret (v:=.tuple #[.agg #[.slice B0 p.arrays.length q0,.slice B1 p.funcs.length q1],.int .i64 0,.int .i64 ((0 :Nat):Int)]) (by simp[results,Tryd.results8,go_sem,f0,f1]) rfl ?_
  exact HR4.out.give (by rw[HRR.out];rfl) HG4.out (by simp;omega)
set_option maxHeartbeats 1600000 in
theorem rparse_bad (s:ByteArray) (w:World) (h:s.size≤100000) {ts:List Tok} (hs:zN s.data.toList 1=(ts,none)) {r:List Tok} (hp:qA ts=.bad r):Calls Tryd.prog 8 #[.string s] w (yV (kS s) w):=by
 have hR:kS s=(pr0,20,hdL r):=by
  rw[zAc h hs]
  unfold docT
  rw[hp]
 have HE:=hid (show zG ((PR.ok () ts).bind fun _ r=>jg (20 * ts.length+40) ⟨[],[]⟩ r) from xL (jT _ _ _ _ (Nat.le_refl _) hs))
 have HP:=hid hp
 have HH:=hid h
 have HS:=hid hs
 have HR:=hid (Rb.start w)
 have HRR:=hid hR
 clear h hs hp hR
 go_enter Tryd.func8,Tryd.ntmps8
 go_wp2_with (first
  | (go_at_call 16;(with_reducible refine(vN s _ HH.out HS.out).mono ?_);rintro e w1 ⟨v,rfl,hT,hb⟩
     obtain⟨A0,cp0,rfl⟩:=toks_form hT
     have HT:=hid hT
     replace HR:=hid (HR.out.below hb)
     clear hb hT)
  | (go_at_call 17;(with_reducible refine(prog_any (box_go HT.out HS.out HH.out) HE.out).mono ?_);rintro e w3 ⟨v,rfl,hD,hG⟩
     have hp3:zY w1.heap.size (.slice A0 ts.length cp0) ts r true false w3:=by
      have h1:jS w1.heap.size (.slice A0 ts.length cp0) ts (qA ts).un w3:=hD.st
      rw[HP.out]at h1
      exact h1
     have hG2:∃ a,FrG (w1.alloc (.cells #[.slice A0 ts.length cp0,.int .i64 0,.bool false,.bool false] 57)).heap.size w3 a v:=by
      have h1:jE (qA ts) _:=hG
      rw[HP.out]at h1
      exact h1
     obtain⟨a,v0,v1,rfl,g0,g1⟩:=hG2
     obtain⟨B0,q0,rfl,_⟩:=g0.form
     obtain⟨B1,q1,rfl,_⟩:=g1.form
     obtain⟨g,cp,k,t,q,hV,hr,hk,hklt,hl,b0,b1,b2,b3,t0,t1,t2⟩:=hp3.tok
     injection hV with hV1 _ hV2
     subst hV1 hV2
     have hgb:g≠w1.heap.size∧g<w3.heap.size∧g≠w.heap.size:=by
      refine⟨?_,World.block_lt_of_cell? w3 ⟨g,k * 3+2,none⟩ t2,?_⟩
      · obtain⟨_,⟨g',c',hv',hb',_⟩,_⟩:=hp3
        injection hv' with e1 _ _
        injection e1 with e1
        injection e1 with e1 _ _
        omega
      · obtain⟨_,_⟩:=HT.out
        have h1:=(own_lt HT.out g rfl).2
        simp at h1
        omega
     obtain⟨hgb1,hgb2,hgb3⟩:=hgb
     have hgb4:w.heap.size≠g:=fun e=>hgb3 e.symm
     have HLN:=hid (show (t.line:Int)=(hdL r:Int) by rw[hr];rfl)
     have hw1:=HR.out.lt
     have HR3:=hid (((HR.out.alloc _).off hD.off (by simp;omega) (by omega)).alloc (.cells #[.slice B0 a.arrays.length q0,.slice B1 a.funcs.length q1] 26))
     obtain⟨⟨c0,c1⟩,fz⟩:=HR3.out.own
     have h3:w1.heap.size<w3.heap.size:=hp3.lt
     have hkl2:(k:Int)<ts.length:=by omega
     have hw3:=HR3.out.lt
     have hne:w.heap.size≠w1.heap.size:=by omega
     clear hD hG hp3 g0 g1 hr hk))
 have m1:(w3.alloc (.cells #[.slice B0 a.arrays.length q0,.slice B1 a.funcs.length q1] 26)).cell? ⟨w1.heap.size,1,none⟩=some (.int .i64 (k:Int)):=by rw[World.cell?_alloc_past _ _ _ h3];exact b1
 have m2:(w3.alloc (.cells #[.slice B0 a.arrays.length q0,.slice B1 a.funcs.length q1] 26)).cell? ⟨g,k * 3+2,none⟩=some (.int .i64 (t.line:Int)):=by rw[World.cell?_alloc_past _ _ _ hgb2];exact t2
 go_region_held3 (fun w'=>w'.cell? ⟨w1.heap.size,1,none⟩=some (.int .i64 (k:Int))∧w'.cell? ⟨g,k * 3+2,none⟩=some (.int .i64 (t.line:Int)))
  (go_keep)
  (fail)
 all_goals
  go_wp2_with (fail)
  obtain⟨f0,f1⟩:=HR3.out.read (.slice none 0 0) (.slice none 0 0)
  refine bodyPost_ret (v:=.tuple #[.agg #[.slice none 0 0,.slice none 0 0],.int .i64 20,.int .i64 ((hdL r:Nat):Int)]) (by rw[←HLN.out];simp[results,Tryd.results8,go_sem,f0,f1]) rfl ?_
  exact HR3.out.drew.failn 20 (hdL r) HRR.out _ _
set_option maxHeartbeats 1600000 in
theorem rparse_deep (s:ByteArray) (w:World) (h:s.size≤100000) {ts:List Tok} (hs:zN s.data.toList 1=(ts,none)) {r:List Tok} (hp:qA ts=.deep r):Calls Tryd.prog 8 #[.string s] w (yV (kS s) w):=by
 have hR:kS s=(pr0,2,hdL r):=by
  rw[zAc h hs]
  unfold docT
  rw[hp]
 have HE:=hid (show zG ((PR.ok () ts).bind fun _ r=>jg (20 * ts.length+40) ⟨[],[]⟩ r) from xL (jT _ _ _ _ (Nat.le_refl _) hs))
 have HP:=hid hp
 have HH:=hid h
 have HS:=hid hs
 have HR:=hid (Rb.start w)
 have HRR:=hid hR
 clear h hs hp hR
 go_enter Tryd.func8,Tryd.ntmps8
 go_wp2_with (first
  | (go_at_call 16;(with_reducible refine(vN s _ HH.out HS.out).mono ?_);rintro e w1 ⟨v,rfl,hT,hb⟩
     obtain⟨A0,cp0,rfl⟩:=toks_form hT
     have HT:=hid hT
     replace HR:=hid (HR.out.below hb)
     clear hb hT)
  | (go_at_call 17;(with_reducible refine(prog_any (box_go HT.out HS.out HH.out) HE.out).mono ?_);rintro e w3 ⟨v,rfl,hD,hG⟩
     have hp3:zY w1.heap.size (.slice A0 ts.length cp0) ts r false true w3:=by
      have h1:jS w1.heap.size (.slice A0 ts.length cp0) ts (qA ts).un w3:=hD.st
      rw[HP.out]at h1
      exact h1
     have hG2:∃ a,FrG (w1.alloc (.cells #[.slice A0 ts.length cp0,.int .i64 0,.bool false,.bool false] 57)).heap.size w3 a v:=by
      have h1:jE (qA ts) _:=hG
      rw[HP.out]at h1
      exact h1
     obtain⟨a,v0,v1,rfl,g0,g1⟩:=hG2
     obtain⟨B0,q0,rfl,_⟩:=g0.form
     obtain⟨B1,q1,rfl,_⟩:=g1.form
     obtain⟨g,cp,k,t,q,hV,hr,hk,hklt,hl,b0,b1,b2,b3,t0,t1,t2⟩:=hp3.tok
     injection hV with hV1 _ hV2
     subst hV1 hV2
     have hgb:g≠w1.heap.size∧g<w3.heap.size∧g≠w.heap.size:=by
      refine⟨?_,World.block_lt_of_cell? w3 ⟨g,k * 3+2,none⟩ t2,?_⟩
      · obtain⟨_,⟨g',c',hv',hb',_⟩,_⟩:=hp3
        injection hv' with e1 _ _
        injection e1 with e1
        injection e1 with e1 _ _
        omega
      · obtain⟨_,_⟩:=HT.out
        have h1:=(own_lt HT.out g rfl).2
        simp at h1
        omega
     obtain⟨hgb1,hgb2,hgb3⟩:=hgb
     have hgb4:w.heap.size≠g:=fun e=>hgb3 e.symm
     have HLN:=hid (show (t.line:Int)=(hdL r:Int) by rw[hr];rfl)
     have hw1:=HR.out.lt
     have HR3:=hid (((HR.out.alloc _).off hD.off (by simp;omega) (by omega)).alloc (.cells #[.slice B0 a.arrays.length q0,.slice B1 a.funcs.length q1] 26))
     obtain⟨⟨c0,c1⟩,fz⟩:=HR3.out.own
     have h3:w1.heap.size<w3.heap.size:=hp3.lt
     have hkl2:(k:Int)<ts.length:=by omega
     have hw3:=HR3.out.lt
     have hne:w.heap.size≠w1.heap.size:=by omega
     clear hD hG hp3 g0 g1 hr hk))
 have m1:(w3.alloc (.cells #[.slice B0 a.arrays.length q0,.slice B1 a.funcs.length q1] 26)).cell? ⟨w1.heap.size,1,none⟩=some (.int .i64 (k:Int)):=by rw[World.cell?_alloc_past _ _ _ h3];exact b1
 have m2:(w3.alloc (.cells #[.slice B0 a.arrays.length q0,.slice B1 a.funcs.length q1] 26)).cell? ⟨g,k * 3+2,none⟩=some (.int .i64 (t.line:Int)):=by rw[World.cell?_alloc_past _ _ _ hgb2];exact t2
 go_region_held3 (fun w'=>w'.cell? ⟨w1.heap.size,1,none⟩=some (.int .i64 (k:Int))∧w'.cell? ⟨g,k * 3+2,none⟩=some (.int .i64 (t.line:Int)))
  (go_keep)
  (fail)
 all_goals
  go_wp2_with (fail)
  obtain⟨f0,f1⟩:=HR3.out.read (.slice none 0 0) (.slice none 0 0)
  refine bodyPost_ret (v:=.tuple #[.agg #[.slice none 0 0,.slice none 0 0],.int .i64 2,.int .i64 ((hdL r:Nat):Int)]) (by rw[←HLN.out];simp[results,Tryd.results8,go_sem,f0,f1]) rfl ?_
  exact HR3.out.drew.failn 2 (hdL r) HRR.out _ _
theorem rparse_any (s:ByteArray) (w:World):Calls Tryd.prog 8 #[.string s] w (yV (kS s) w):=by
 by_cases h:100000<s.size
 · exact rparse_long s w h
 · cases hs:(zN s.data.toList 1).2 with
   | some ln=>exact rparse_no s w (by omega) hs
   | none=>
     have hs2:=scan_none hs
     cases hp:qA (zN s.data.toList 1).1 with
     | ok p r=>exact rparse_ok s w (by omega) hs2 hp
     | bad r=>exact rparse_bad s w (by omega) hs2 hp
     | deep r=>exact rparse_deep s w (by omega) hs2 hp
     | out=>
       have h1:=xL (jT _ _ _ _ (Nat.le_refl _) hs2)
       rw[hp]at h1
       exact absurd h1 id
def awS1:ByteArray:=⟨#[105,110,116,32,109,97,105,110,40,41,32,123,32,98,111,111,108,32,98,32,61,32,49,59,32,125]⟩
def awS2:ByteArray:=⟨#[105,110,116,32,97,91,50,93,59,32,105,110,116,32,109,97,105,110,40,41,32,123,32,105,110,116,32,120,32,61,32,97,91,48,93,59,32,119,104,105,108,101,32,40,120,32,60,32,50,41,32,123,32,120,32,61,32,120,32,43,32,49,59,32,125,32,114,101,116,117,114,110,32,120,59,32,125]⟩
def awP1:Pr:=(kS awS1).1
def awP2:Pr:=(kS awS2).1
theorem aw1:kS awS1=(awP1,0,0):=by kernel_rfl
theorem aw2:kS awS2=(awP2,0,0):=by kernel_rfl
theorem awc1:kC awP1=(51,0,0):=by kernel_rfl
theorem awc2:kC awP2=(0,0,0):=by kernel_rfl
theorem awa1:awP1.arrays.length=0:=by kernel_rfl
theorem awf1:awP1.funcs.length=1:=by kernel_rfl
theorem awa2:awP2.arrays.length=1:=by kernel_rfl
theorem awf2:awP2.funcs.length=1:=by kernel_rfl
theorem awi1:jQ (qF awP2.funcs ⟨#[109,97,105,110]⟩)=0:=by kernel_rfl
theorem awi2:jQ (qg awP2.arrays ⟨#[97]⟩)=0:=by kernel_rfl
theorem awi3:jQ (qg awP2.arrays ⟨#[109,97,105,110]⟩)= -1:=by kernel_rfl
theorem aws1:Small awP1:=y8 (s:=awS1) (by decide) aw1
theorem aws2:Small awP2:=y8 (s:=awS2) (by decide) aw2
@[go_sem] theorem eql2 (a b c d:Int) (w:World):(Op.equalIn 10000 32 (.agg #[.int .i64 a,.int .i64 b]) (.agg #[.int .i64 c,.int .i64 d])).run Tryd.prog w=.ok (a == c && b == d) w:=by
  have u3:=Tryd.underlying3
  have a3:=Tryd.isAgg3
  have z3:=Tryd.sizeOf3
  rw[show (10000 :Nat)=9999+1 from rfl,Op.equalIn]
  simp only[Sem.run_bind,run_underlying Tryd.underlying32,Result.andThen_ok]
  simp only[Std.Legacy.Range.forIn_eq_forIn_range',Std.Legacy.Range.size,Nat.sub_zero,Nat.add_sub_cancel,Nat.div_one,List.range'_succ,List.range'_zero,List.forIn_cons,List.forIn_nil]
  go_simp
  by_cases h1:a=c <;> by_cases h2:b=d <;> simp[h1,h2]
structure Laid5 (B:Nat) (p:Pr) (v0 v1:Value) (w:World):Prop where
 hB:B≤w.heap.size
 tab:TreeTab B w
 ha:SlA B w v0 p.arrays
 hf:SlF B w v1 p.funcs
theorem Laid5.below {B:Nat} {p:Pr} {v0 v1:Value} {w w':World} (h:Laid5 B p v0 v1 w) (hb:Below w.heap.size w w'):Laid5 B p v0 v1 w':=⟨Nat.le_trans h.hB hb.size,h.tab.below (hb.mono h.hB),h.ha.below (hb.mono h.hB) (Nat.le_refl _),h.hf.below (hb.mono h.hB) (Nat.le_refl _)⟩
theorem Laid5.chk {B:Nat} {p:Pr} {v0 v1:Value} {w:World} (h:Laid5 B p v0 v1 w) (hs:Small p) {R:Int × Nat × Nat} (hR:kC p=R):Calls Tryd.prog 11 #[.agg #[v0,v1]] w (ChkPost w R):=check_any B p R v0 v1 w h.tab h.hB h.ha h.hf hs.sz hs.n1 hs.n2 hR
theorem aw_chk1 {B:Nat} {v0 v1:Value} {w:World} (h:Laid5 B awP1 v0 v1 w):Calls Tryd.prog 11 #[.agg #[v0,v1]] w fun e w'=>e=.returned (.tuple #[.int .i64 51,.agg #[.int .i64 0,.int .i64 0]])∧Below w.heap.size w w':=(h.chk aws1 awc1).mono fun e w' h=>h
theorem aw_chk2 {B:Nat} {v0 v1:Value} {w:World} (h:Laid5 B awP2 v0 v1 w):Calls Tryd.prog 11 #[.agg #[v0,v1]] w fun e w'=>e=.returned (.tuple #[.int .i64 0,.agg #[.int .i64 0,.int .i64 0]])∧Below w.heap.size w w':=(h.chk aws2 awc2).mono fun e w' h=>h
theorem xu {B:Nat} {w:World} (s:ByteArray) (ht:TreeTab B w) (hB:B≤w.heap.size) {p:Pr} {e ln:_} (hd:kS s=(p,e,ln)):Calls Tryd.prog 8 #[.string s] w fun x w'=>∃ A0 c0 A1 c1,x=.returned (.tuple #[.agg #[.slice A0 p.arrays.length c0,.slice A1 p.funcs.length c1],.int .i64 e,.int .i64 (ln:Int)])∧Below w.heap.size w w'∧Laid5 w'.heap.size p (.slice A0 p.arrays.length c0) (.slice A1 p.funcs.length c1) w':=
 (rparse_any s w).mono fun x w' ⟨hb,v0,v1,he,ha,hf⟩=>by
   rw[hd]at he ha hf
   obtain⟨A0,c0,rfl,_⟩:=ha.form
   obtain⟨A1,c1,rfl,_⟩:=hf.form
   exact⟨A0,c0,A1,c1,he,hb,Nat.le_refl _,(ht.below (hb.mono hB)).mono (Nat.le_trans hB hb.size),ha,hf⟩
theorem aw_parse1 {B:Nat} {w:World} (ht:TreeTab B w) (hB:B≤w.heap.size):Calls Tryd.prog 8 #[.string ⟨#[105,110,116,32,109,97,105,110,40,41,32,123,32,98,111,111,108,32,98,32,61,32,49,59,32,125]⟩] w fun x w'=>∃ A0 c0 A1 c1,x=.returned (.tuple #[.agg #[.slice A0 0 c0,.slice A1 1 c1],.int .i64 0,.int .i64 0])∧Below w.heap.size w w'∧Laid5 w'.heap.size awP1 (.slice A0 0 c0) (.slice A1 1 c1) w':=
 (xu awS1 ht hB aw1).mono fun x w' ⟨A0,c0,A1,c1,he,hb,hg⟩=>by rw[awa1,awf1]at he hg;exact⟨A0,c0,A1,c1,he,hb,hg⟩
theorem aw_parse2 {B:Nat} {w:World} (ht:TreeTab B w) (hB:B≤w.heap.size):Calls Tryd.prog 8 #[.string ⟨#[105,110,116,32,97,91,50,93,59,32,105,110,116,32,109,97,105,110,40,41,32,123,32,105,110,116,32,120,32,61,32,97,91,48,93,59,32,119,104,105,108,101,32,40,120,32,60,32,50,41,32,123,32,120,32,61,32,120,32,43,32,49,59,32,125,32,114,101,116,117,114,110,32,120,59,32,125]⟩] w fun x w'=>∃ A0 c0 A1 c1,x=.returned (.tuple #[.agg #[.slice A0 1 c0,.slice A1 1 c1],.int .i64 0,.int .i64 0])∧Below w.heap.size w w'∧Laid5 w'.heap.size awP2 (.slice A0 1 c0) (.slice A1 1 c1) w':=
 (xu awS2 ht hB aw2).mono fun x w' ⟨A0,c0,A1,c1,he,hb,hg⟩=>by rw[awa2,awf2]at he hg;exact⟨A0,c0,A1,c1,he,hb,hg⟩
theorem aw_place {B:Nat} {v0 v1:Value} {w:World} (h:Laid5 B awP2 v0 v1 w):Calls Tryd.prog 20 #[.agg #[v0,v1],.string ⟨#[109,97,105,110]⟩] w fun e w'=>e=.returned (.int .i64 0)∧Below w.heap.size w w':=(place_any B awP2 _ v0 v1 w h.hB h.ha h.hf).mono fun e w' h=>by rw[awi1]at h;exact h
theorem aw_arr1 {B:Nat} {v0 v1:Value} {w:World} (h:Laid5 B awP2 v0 v1 w):Calls Tryd.prog 21 #[.agg #[v0,v1],.string ⟨#[97]⟩] w fun e w'=>e=.returned (.int .i64 0)∧Below w.heap.size w w':=(array_any B awP2 _ v0 v1 w h.hB h.ha h.hf).mono fun e w' h=>by rw[awi2]at h;exact h
theorem aw_arr2 {B:Nat} {v0 v1:Value} {w:World} (h:Laid5 B awP2 v0 v1 w):Calls Tryd.prog 21 #[.agg #[v0,v1],.string ⟨#[109,97,105,110]⟩] w fun e w'=>e=.returned (.int .i64 (-1))∧Below w.heap.size w w':=(array_any B awP2 _ v0 v1 w h.hB h.ha h.hf).mono fun e w' h=>by rw[awi3]at h;exact h
set_option maxHeartbeats 2000000 in
theorem jw (B:Nat) (w:World) (ht:TreeTab B w) (hB:B≤w.heap.size):Calls Tryd.prog 10 #[] w fun e w'=>e=.returned (.bool true)∧Below w.heap.size w w':=by
 have HT:=hid ht
 clear ht
 go_enter Tryd.func10,Tryd.ntmps10
 go_wp2_with (first
  | (go_at_call 8;(with_reducible refine(aw_parse1 HT.out hB).mono ?_);rintro e w1 ⟨A0,c0,A1,c1,rfl,hb,hg⟩
     have hz1:w.heap.size≤w1.heap.size:=hb.size
     have hx1:=heap_alloc_new w1 (ze A0 0 c0 A1 1 c1)
     have hb1:Below w1.heap.size w1 (w1.alloc (ze A0 0 c0 A1 1 c1)):=(Below.refl _ _).alloc (Nat.le_refl _) _
     have HG1:=hid (hg.below hb1)
     have HX1:=hid hx1
     have HB1:=hid (hb.trans (hb1.mono hz1))
     have HT1:=hid (HT.out.below ((hb.trans (hb1.mono hz1)).mono hB))
     clear hb hg hx1 hb1)
  | (go_at_call 8;(with_reducible refine(aw_parse2 HT1.out (by simp;omega)).mono ?_);rintro e w2 ⟨A2,c2,A3,c3,rfl,hb,hg⟩
     have hz2:w1.heap.size+1≤w2.heap.size:=by have:=hb.size;simpa using this
     have hx2:(w2.alloc (ze A2 1 c2 A3 1 c3)).heap[w2.heap.size]? =some (ze A2 1 c2 A3 1 c3):=heap_alloc_new w2 _
     have hb2:Below w2.heap.size w2 (w2.alloc (ze A2 1 c2 A3 1 c3)):=(Below.refl _ _).alloc (Nat.le_refl _) _
     have hy2:=(hb2.block w1.heap.size (by omega)).trans ((hb.block w1.heap.size (by simp)).trans HX1.out)
     obtain⟨⟨p0,p1⟩,pz⟩:=zE hy2
     have HG2:=hid (hg.below hb2)
     have HX2:=hid hx2
     have HY2:=hid ((HG1.out.below hb).below hb2)
     have HB2:=hid (HB1.out.trans (((hb.trans (hb2.mono (by simp;omega)))).mono (by simp;omega)))
     clear hb hg hx2 hb2 hy2)
  | (go_at_call 11;(with_reducible refine(aw_chk1 HY2.out).mono ?_);rintro e w3 ⟨rfl,hb⟩
     have hz3:w2.heap.size+1≤w3.heap.size:=by have:=hb.size;simpa using this
     have hb3:Below w3.heap.size w3 (w3.alloc (qQ 0 0)):=(Below.refl _ _).alloc (Nat.le_refl _) _
     have hx3:=heap_alloc_new w3 (qQ 0 0)
     have hy3:=(hb3.block w2.heap.size (by omega)).trans ((hb.block w2.heap.size (by simp)).trans HX2.out)
     obtain⟨⟨p2,p3⟩,py⟩:=zE hy3
     have HG3:=hid ((HG2.out.below hb).below hb3)
     have HY3:=hid hy3
     have HX3:=hid hx3
     have HB3:=hid (HB2.out.trans (((hb.trans (hb3.mono (by simp;omega)))).mono (by simp;omega)))
     clear hb hx3 hb3 hy3)
  | (go_at_call 11;(with_reducible refine(aw_chk2 HG3.out).mono ?_);rintro e w4 ⟨rfl,hb⟩
     have hz4:w3.heap.size+1≤w4.heap.size:=by have:=hb.size;simpa using this
     have hb4:Below w4.heap.size w4 (w4.alloc (qQ 0 0)):=(Below.refl _ _).alloc (Nat.le_refl _) _
     have hy4:=(hb4.block w2.heap.size (by omega)).trans ((hb.block w2.heap.size (by simp;omega)).trans HY3.out)
     have hx4:=(hb4.block w3.heap.size (by omega)).trans ((hb.block w3.heap.size (by simp)).trans HX3.out)
     obtain⟨⟨p4,p5⟩,pw⟩:=zE hy4
     obtain⟨⟨x4,x5⟩,xw⟩:=zE hx4
     have HG4:=hid ((HG3.out.below hb).below hb4)
     have HY4:=hid hy4
     have HB4:=hid (HB3.out.trans (((hb.trans (hb4.mono (by simp;omega)))).mono (by simp;omega)))
     clear hb hb4 hy4 hx4)
  | (go_at_call 20;(with_reducible refine(aw_place HG4.out).mono ?_);rintro e w5 ⟨rfl,hb⟩
     have hy5:=(hb.block w2.heap.size (by simp;omega)).trans HY4.out
     obtain⟨⟨p6,p7⟩,pu⟩:=zE hy5
     have HY5:=hid hy5
     have HG5:=hid (HG4.out.below hb)
     have HB5:=hid (HB4.out.trans (hb.mono (by simp;omega)))
     have hz5:w4.heap.size+1≤w5.heap.size:=by have:=hb.size;simpa using this
     clear hb hy5)
  | (go_at_call 21;(with_reducible refine(aw_arr1 HG5.out).mono ?_);rintro e w6 ⟨rfl,hb⟩
     have hy6:=(hb.block w2.heap.size (by omega)).trans HY5.out
     obtain⟨⟨p8,p9⟩,pt⟩:=zE hy6
     have HG6:=hid (HG5.out.below hb)
     have HB6:=hid (HB5.out.trans (hb.mono (by omega)))
     have hz6:w5.heap.size≤w6.heap.size:=hb.size
     clear hb hy6)
  | (go_at_call 21;(with_reducible refine(aw_arr2 HG6.out).mono ?_);rintro e w7 ⟨rfl,hb⟩
     have HB7:=hid (HB6.out.trans (hb.mono (by omega)))
     clear hb))
 go_ret
 exact⟨rfl,HB7.out⟩
def frF (l:List Fu):Prop:=∀ (i:Nat) f,l[i]? =some f→qF l f.name=some i
theorem dupF_iff:∀ {l:List Fu},zAd l=false↔frF l
 | []=>⟨fun _ i f h=>by simp at h,fun _=>rfl⟩
 | x :: r=>by
   rw[zAd,Bool.or_eq_false_iff,dupF_iff (l:=r)]
   constructor
   · rintro⟨h1,h2⟩ i f hi
     cases i with
     | zero=>simp at hi;subst hi;rw[qF,if_pos rfl]
     | succ i=>
       have hi':r[i]? =some f:=by simpa using hi
       have h3:=h2 i f hi'
       have hne:¬ x.name=f.name:=fun e=>by
        rw[kw,List.any_eq_false]at h1
        exact h1 f (List.mem_of_getElem? hi') (by simp[e])
       rw[qF,if_neg hne,h3]
       rfl
   · intro h
     refine⟨?_,fun i f hi=>?_⟩
     · rw[kw,List.any_eq_false]
       intro f hf
       obtain⟨i,hi⟩:=List.getElem?_of_mem hf
       have:=h (i+1) f (by simpa using hi)
       rw[qF]at this
       split at this
       · cases this
       · rename_i hne
         simp
         exact fun e=>hne e.symm
     · have:=h (i+1) f (by simpa using hi)
       rw[qF]at this
       split at this
       · cases this
       · cases hr:qF r f.name with
         | none=>rw[hr]at this;cases this
         | some j=>
           rw[hr]at this
           have:j=i:=by simpa using this
           rw[this]
def frA (p:Pr) (l:List Ar):Prop:=∀ (i:Nat) f,l[i]? =some f→qg l f.name=some i∧qF p.funcs f.name=none
theorem dupA_iff (p:Pr):∀ {l:List Ar},ug p l=false↔frA p l
 | []=>⟨fun _ i f h=>by simp at h,fun _=>rfl⟩
 | x :: r=>by
   rw[ug,Bool.or_eq_false_iff,Bool.or_eq_false_iff,dupA_iff p (l:=r)]
   constructor
   · rintro⟨⟨h1,h0⟩,h2⟩ i f hi
     cases i with
     | zero=>simp at hi;subst hi;exact⟨by rw[qg,if_pos rfl],by simpa using h0⟩
     | succ i=>
       have hi':r[i]? =some f:=by simpa using hi
       obtain⟨h3,h4⟩:=h2 i f hi'
       have hne:¬ x.name=f.name:=fun e=>by
        rw[xy,List.any_eq_false]at h1
        exact h1 f (List.mem_of_getElem? hi') (by simp[e])
       exact⟨by rw[qg,if_neg hne,h3];rfl,h4⟩
   · intro h
     refine⟨⟨?_,?_⟩,fun i f hi=>⟨?_,(h (i+1) f (by simpa using hi)).2⟩⟩
     · rw[xy,List.any_eq_false]
       intro f hf
       obtain⟨i,hi⟩:=List.getElem?_of_mem hf
       have:=(h (i+1) f (by simpa using hi)).1
       rw[qg]at this
       split at this
       · cases this
       · rename_i hne
         simp
         exact fun e=>hne e.symm
     · have:=(h 0 x rfl).2
       simp[this]
     · have:=(h (i+1) f (by simpa using hi)).1
       rw[qg]at this
       split at this
       · cases this
       · cases hr:qg r f.name with
         | none=>rw[hr]at this;cases this
         | some j=>
           rw[hr]at this
           have:j=i:=by simpa using this
           rw[this]
end Go.Proofs.YtndgkfkieogplaaDoor
