import Derived.Test.YtndgkfkieogplaaDoorAgParBlk
import Derived.Deep.RegionHeld3
import Derived.Test.YtndgkfkieogplaaDoorAgTokScan
set_option linter.unusedSimpArgs false
set_option linter.unusedVariables false
set_option maxRecDepth 100000
/- The document's parser: a function behind its name. (By tools/gen_parfn.py.) -/
namespace Go.Proofs.YtndgkfkieogplaaDoor
open Lib (hid)
open Go.RowKit
def FrPs (L:Nat) (w:World) (a:List Pa) (v:Value):Prop:=SlP w.heap.size (mask (low L) w) v a
theorem FrPs.keep {L M:Nat} {w w':World} {a:List Pa} {v:Value} (h:FrPs L w a v) (k:zM L w w') (hM:M≤L):FrPs M w' a v:=SlP.imp (k.cells hM) h
theorem FrPs.form {L:Nat} {w:World} {a:List Pa} {v:Value} (h:FrPs L w a v):∃ A c,v=.slice A a.length c:=by
 obtain⟨A,c,hv,_⟩:=SlP.form h
 exact⟨A,c,hv⟩
def FrF (L:Nat) (w:World) (a:Fu) (v:Value):Prop:=∃ v2 v3,v=.agg #[.string a.name,.int .i64 a.type,v2,v3]∧FrPs L w a.params v2∧xQ L w a.body v3
theorem FrF.keep {L M:Nat} {w w':World} {a:Fu} {v:Value} (h:FrF L w a v) (k:zM L w w') (hM:M≤L):FrF M w' a v:=by
 obtain⟨v2,v3,hv,h2,h3⟩:=h
 exact⟨v2,v3,hv,h2.keep k hM,h3.keep k hM⟩
theorem FrF.form {L:Nat} {w:World} {a:Fu} {v:Value} (h:FrF L w a v):∃ s t A2 m2 c2 A3 m3 c3,v=.agg #[.string s,.int .i64 t,.slice A2 m2 c2,.slice A3 m3 c3]:=by
 obtain⟨v2,v3,hv,h2,h3⟩:=h
 obtain⟨A2,c2,rfl⟩:=h2.form
 obtain⟨A3,c3,rfl,_⟩:=h3.form
 exact⟨_,_,_,_,_,_,_,_,hv⟩
theorem gotf_form {L:Nat} {w:World} {x:PR Fu} {v:Value} (h:jE x fun a=>FrF L w a v) (he:zG x):∃ s t A2 m2 c2 A3 m3 c3,v=.agg #[.string s,.int .i64 t,.slice A2 m2 c2,.slice A3 m3 c3]:=by
 obtain⟨a,ha⟩:=h.some he
 exact ha.form
abbrev fnBox:Obj:=.cells #[.string ⟨#[]⟩,.int .i64 0,.slice none 0 0,.slice none 0 0] 39
abbrev nest4 (W:World) (g:Nat) (c0 c1 c2 c3:Value):World:=(((W.setCell ⟨g,0,none⟩ c0).setCell ⟨g,1,none⟩ c1).setCell ⟨g,2,none⟩ c2).setCell ⟨g,3,none⟩ c3
theorem nest4_row {W:World} {g:Nat} {d0 d1 d2 d3:Value} {T:TypeId} {fr:Nat × Nat} (hb:W.heap[g]? =some (.cells #[d0,d1,d2,d3] T fr)) (c0 c1 c2 c3:Value):(nest4 W g c0 c1 c2 c3).heap[g]? =some (.cells #[c0,c1,c2,c3] T fr):=
 Lib.heap_setCell_same (Lib.heap_setCell_same (Lib.heap_setCell_same (Lib.heap_setCell_same hb c0) c1) c2) c3
theorem zM.nest4 {L g:Nat} {w:World} (hg:g<L) (c0 c1 c2 c3:Value):zM L w (nest4 w g c0 c1 c2 c3):=
 (((zM.set hg 0 c0).trans (zM.set hg 1 c1)).trans (zM.set hg 2 c2)).trans (zM.set hg 3 c3)
theorem four_cells {W:World} {g:Nat} {c0 c1 c2 c3:Value} {T:TypeId} (h:W.heap[g]? =some (.cells #[c0,c1,c2,c3] T (0,0))):
 (W.cell? ⟨g,0,none⟩=some c0∧W.cell? ⟨g,1,none⟩=some c1∧W.cell? ⟨g,2,none⟩=some c2∧W.cell? ⟨g,3,none⟩=some c3)∧∀ o,W.frozen? ⟨g,o,none⟩=false:=by
 refine⟨⟨(Lib.cell_of_heap h 0).trans rfl,(Lib.cell_of_heap h 1).trans rfl,(Lib.cell_of_heap h 2).trans rfl,(Lib.cell_of_heap h 3).trans rfl⟩,fun o=>?_⟩
 simp[World.frozen?,h]
theorem q7.nest4 {b:Nat} {V:Value} {all:List Tok} {x:PR Unit} {w W:World} (h:q7 b V all w x W) (ht:TokH b V all w) {g:Nat} (hg:w.heap.size≤g) (hb:g≠b) (c0 c1 c2 c3:Value):q7 b V all w x (nest4 W g c0 c1 c2 c3):=
 (((h.set ht hg hb 0 c0).set ht hg hb 1 c1).set ht hg hb 2 c2).set ht hg hb 3 c3
def qX (b:Nat) (V:Value) (all:List Tok) (w:World) (x:PR Unit) (W:World) (c0 c1 c2 c3:Value):Prop:=
 q7 b V all w x W∧W.heap[w.heap.size]? =some fnBox∧W.heap[w.heap.size+1]? =some (.cells #[c0,c1,c2,c3] 39 (0,0))∧TokH b V all w∧b<w.heap.size
section
variable {b:Nat} {V:Value} {all:List Tok} {w W W':World} {x y:PR Unit} {c0 c1 c2 c3:Value}
theorem qX.start (h:jS b V all x w) (s:ByteArray) (t:Int):qX b V all w x ((w.alloc fnBox).alloc (.cells #[.string s,.int .i64 t,.slice none 0 0,.slice none 0 0] 39)) (.string s) (.int .i64 t) (.slice none 0 0) (.slice none 0 0):=by
 have hb:Below w.heap.size w ((w.alloc fnBox).alloc (.cells #[.string s,.int .i64 t,.slice none 0 0,.slice none 0 0] 39)):=((Below.refl _ _).alloc (Nat.le_refl _) _).alloc (by rw[zA];omega) _
 refine⟨⟨h.below hb,OffB.of_below hb h.lt⟩,jL (heap_alloc_new w fnBox) _,?_,h.tok,h.lt⟩
 have:=heap_alloc_new (w.alloc fnBox) (.cells #[.string s,.int .i64 t,.slice none 0 0,.slice none 0 0] 39)
 rw[zA]at this
 exact this
theorem qX.did (h:qX b V all w x W c0 c1 c2 c3):q7 b V all w x W:=h.1
theorem qX.st (h:qX b V all w x W c0 c1 c2 c3):jS b V all x W:=h.1.1
theorem qX.lt (h:qX b V all w x W c0 c1 c2 c3):b<w.heap.size:=h.2.2.2.2
theorem qX.size (h:qX b V all w x W c0 c1 c2 c3):w.heap.size+1<W.heap.size:=(Array.getElem?_eq_some_iff.1 h.2.2.1).1
theorem qX.step (h:qX b V all w x W c0 c1 c2 c3) (g:q7 b V all W y W'):qX b V all w y W' c0 c1 c2 c3:=
 ⟨h.1.after g,qe g.off (by have:=h.size;omega) (by have:=h.lt;omega) h.2.1,qe g.off h.size (by have:=h.lt;omega) h.2.2.1,h.2.2.2⟩
theorem qX.alloc (h:qX b V all w x W c0 c1 c2 c3) (o:Obj):qX b V all w x (W.alloc o) c0 c1 c2 c3:=⟨h.1.alloc o,jL h.2.1 o,jL h.2.2.1 o,h.2.2.2⟩
theorem qX.drew (h:qX b V all w x W c0 c1 c2 c3):qX b V all w x W.drew c0 c1 c2 c3:=h.step ⟨h.st.below (Below.refl _ _).drew,OffB.of_below (Below.refl _ _).drew h.st.lt⟩
theorem qX.own (h:qX b V all w x W c0 c1 c2 c3):(W.cell? ⟨w.heap.size,0,none⟩=some (.string ⟨#[]⟩)∧W.cell? ⟨w.heap.size,1,none⟩=some (.int .i64 0)∧W.cell? ⟨w.heap.size,2,none⟩=some (.slice none 0 0)∧W.cell? ⟨w.heap.size,3,none⟩=some (.slice none 0 0))∧∀ o,W.frozen? ⟨w.heap.size,o,none⟩=false:=four_cells h.2.1
theorem qX.f (h:qX b V all w x W c0 c1 c2 c3):(W.cell? ⟨w.heap.size+1,0,none⟩=some c0∧W.cell? ⟨w.heap.size+1,1,none⟩=some c1∧W.cell? ⟨w.heap.size+1,2,none⟩=some c2∧W.cell? ⟨w.heap.size+1,3,none⟩=some c3)∧∀ o,W.frozen? ⟨w.heap.size+1,o,none⟩=false:=four_cells h.2.2.1
theorem qX.set (h:qX b V all w x W c0 c1 c2 c3) (i:Nat) (u:Value):q7 b V all w x (W.setCell ⟨w.heap.size+1,i,none⟩ u)∧(W.setCell ⟨w.heap.size+1,i,none⟩ u).heap[w.heap.size]? =some fnBox:=
 ⟨h.1.set h.2.2.2.1 (by omega) (by have:=h.lt;omega) i u,(Below.heap_setCell W _ u _ (by show w.heap.size≠w.heap.size+1;omega)).trans h.2.1⟩
theorem qX.set0 (h:qX b V all w x W c0 c1 c2 c3) (u:Value):qX b V all w x (W.setCell ⟨w.heap.size+1,0,none⟩ u) u c1 c2 c3:=⟨(h.set 0 u).1,(h.set 0 u).2,Lib.heap_setCell_same h.2.2.1 u,h.2.2.2⟩
theorem qX.set1 (h:qX b V all w x W c0 c1 c2 c3) (u:Value):qX b V all w x (W.setCell ⟨w.heap.size+1,1,none⟩ u) c0 u c2 c3:=⟨(h.set 1 u).1,(h.set 1 u).2,Lib.heap_setCell_same h.2.2.1 u,h.2.2.2⟩
theorem qX.set2 (h:qX b V all w x W c0 c1 c2 c3) (u:Value):qX b V all w x (W.setCell ⟨w.heap.size+1,2,none⟩ u) c0 c1 u c3:=⟨(h.set 2 u).1,(h.set 2 u).2,Lib.heap_setCell_same h.2.2.1 u,h.2.2.2⟩
theorem qX.set3 (h:qX b V all w x W c0 c1 c2 c3) (u:Value):qX b V all w x (W.setCell ⟨w.heap.size+1,3,none⟩ u) c0 c1 c2 u:=⟨(h.set 3 u).1,(h.set 3 u).2,Lib.heap_setCell_same h.2.2.1 u,h.2.2.2⟩
theorem qX.fin (h:qX b V all w y W c0 c1 c2 c3) {X:PR Fu} (hy:X.un=y) (hG:jE X fun a=>FrF w.heap.size (_root_.Go.Proofs.YtndgkfkieogplaaDoor.nest4 W w.heap.size c0 c1 c2 c3) a (.agg #[c0,c1,c2,c3])):
 qM b V all w X (FrF w.heap.size) (.returned (.agg #[c0,c1,c2,c3])) (_root_.Go.Proofs.YtndgkfkieogplaaDoor.nest4 W w.heap.size c0 c1 c2 c3):=
 ⟨_,rfl,hy ▸ h.1.nest4 h.2.2.2.1 (Nat.le_refl _) (by have:=h.lt;omega) _ _ _ _,hG⟩
theorem qX.read (h:qX b V all w x W c0 c1 c2 c3):((((W.setCell ⟨w.heap.size,0,none⟩ c0).setCell ⟨w.heap.size,1,none⟩ c1).setCell ⟨w.heap.size,2,none⟩ c2).setCell ⟨w.heap.size,3,none⟩ c3).cell? ⟨w.heap.size,0,none⟩=some c0∧((((W.setCell ⟨w.heap.size,0,none⟩ c0).setCell ⟨w.heap.size,1,none⟩ c1).setCell ⟨w.heap.size,2,none⟩ c2).setCell ⟨w.heap.size,3,none⟩ c3).cell? ⟨w.heap.size,1,none⟩=some c1∧
 ((((W.setCell ⟨w.heap.size,0,none⟩ c0).setCell ⟨w.heap.size,1,none⟩ c1).setCell ⟨w.heap.size,2,none⟩ c2).setCell ⟨w.heap.size,3,none⟩ c3).cell? ⟨w.heap.size,2,none⟩=some c2∧((((W.setCell ⟨w.heap.size,0,none⟩ c0).setCell ⟨w.heap.size,1,none⟩ c1).setCell ⟨w.heap.size,2,none⟩ c2).setCell ⟨w.heap.size,3,none⟩ c3).cell? ⟨w.heap.size,3,none⟩=some c3:=(four_cells (nest4_row h.2.1 c0 c1 c2 c3)).1
end
def uV (m:Nat) (acc:List Pa) (r:List Tok):PR (List Pa):=if z9 [44] r=true then yr m acc r.tail else (zI [41] r).bind fun _ r=>.ok acc r
def qh (r:List Tok):PR Pa:=(yt r).bind fun t r=>(zy 1 r).bind fun s r=>.ok ⟨s,t⟩ r
theorem pPL_got {m:Nat} {acc:List Pa} {r:List Tok}:yr (m+1) acc r=(qh r).bind fun p r=>uV m (acc++[p]) r:=by
 rw[yr]
 unfold qh
 simp only[zW]
 rfl
theorem yK {r:List Tok} (h:zw r):zg 1 r (qh r):=by
 unfold qh
 exact(ye h).bind (m:=0) (fun t r _ hr=>(jA hr 1 (by decide)).bind (n:=0) (fun _ r _ hr=>zg.self hr _) (by omega)) (by omega)
theorem parOne_un (r:List Tok):(qh r).un=((yt r).un.bind fun _ r=>zy 1 r).un:=by
 unfold qh
 cases yt r with
 | ok t r=>
   show ((zy 1 r).bind fun s r=>PR.ok (⟨s,t⟩:Pa) r).un=(zy 1 r).un
   rw[jP]
   rfl
 | _=>rfl
theorem ty_ends (r:List Tok):zG (yt r):=by
 unfold yt zI
 split
 · trivial
 · split <;> trivial
theorem parOne_got {r:List Tok} {tv:Int} {s:ByteArray} (h1:jE (yt r) fun a=>a=tv) (h2:jE ((yt r).un.bind fun _ r=>zy 1 r) fun a=>a=s):jE (qh r) fun p=>p=⟨s,tv⟩:=by
 unfold qh
 cases hx:yt r with
 | ok t r1=>
   rw[hx]at h1 h2
   obtain rfl:t=tv:=h1
   have h2':jE (zy 1 r1) fun a=>a=s:=h2
   show jE ((zy 1 r1).bind fun s r=>PR.ok (⟨s,t⟩:Pa) r) _
   exact h2'.bind (fun a r _ ha=>by subst ha;exact rfl) fun a ha=>⟨_,rfl⟩
 | bad r1=>exact⟨_,rfl⟩
 | deep r1=>exact⟨_,rfl⟩
 | out=>trivial
theorem ty_got {r:List Tok} {w:World} {v:Value} (h:jE (yt r) fun a=>IntV w a v):∃ tv,v=.int .i64 tv∧jE (yt r) fun a=>a=tv:=by
 obtain⟨tv,hv⟩:=h.some (ty_ends r)
 have hv':v=.int .i64 tv:=hv
 refine⟨tv,hv',h.imp fun a ha=>?_⟩
 have ha':v=.int .i64 a:=ha
 rw[hv']at ha'
 injection ha' with _ e
 exact e.symm
theorem fn_next {b:Nat} {V:Value} {all:List Tok} {w w2 w5:World} {Y:PR Unit} {c0 c1 v c3 v1:Value} {acc:List Pa} {q:Pa} (hC:qX b V all w Y w2 c0 c1 v c3) (hO:OutK kP (w.heap.size+2) w2 v acc)
 (hg:(w2.alloc (.cells #[.string q.name,.int .i64 q.type] 44)).grownBy w5 v.ownBlock) (hr:RowAt (w2.alloc (.cells #[.string q.name,.int .i64 q.type] 44)) v v1)
 (ho:w5.ownsRow (w.heap.size+2) 44 2 v1 (acc.length+1) (acc.flatMap kP.cs++[.string q.name,.int .i64 q.type])):
 qX b V all w Y w5 c0 c1 v c3∧qX b V all w Y (w5.setCell ⟨w.heap.size+1,2,none⟩ v1) c0 c1 v1 c3∧OutK kP (w.heap.size+2) (w5.setCell ⟨w.heap.size+1,2,none⟩ v1) v1 (acc++[q]):=by
 have hal:Below w2.heap.size w2 (w2.alloc (.cells #[.string q.name,.int .i64 q.type] 44)):=(Below.refl _ _).alloc (Nat.le_refl _) _
 have hO1:OutK kP (w.heap.size+2) w5 v1 (acc++[q]):=hO.app (L:=w2.heap.size) trivial (by have:=hC.size;omega) (fun k hk=>(hO.own k hk).1) hal hg hr ho
 have hown:∀ j,v.ownBlock=some j→w.heap.size+2≤j:=fun j hj=>(hO.own j hj).2
 have hblk:∀ j,j<w2.heap.size→j<w.heap.size+2→w5.heap[j]? =w2.heap[j]?:=fun j hj hj2=>(hg.block j (Nat.lt_of_lt_of_le hj hal.size) (fun e=>by have:=hown j e.symm;omega)).trans (hal.block j hj)
 have hz:=hC.size
 have hbl:=hC.lt
 have hoff:OffB b w.heap.size w w5:=hC.did.off.trans (OffB.mk' (hg.os.trans hal.os) (hg.tape.trans hal.tape) (hg.output.trans hal.output) (Nat.le_trans hal.size hg.size) hC.st.lt fun j hj _=>hblk j (by have:=hC.did.off.size;omega) (by omega))
 have hC1:qX b V all w Y w5 c0 c1 v c3:=⟨⟨hC.st.move hC.2.2.2.1 hoff (hblk b hC.st.lt (by omega)),hoff⟩,(hblk _ (by omega) (by omega)).trans hC.2.1,(hblk _ hz (by omega)).trans hC.2.2.1,hC.2.2.2⟩
 exact⟨hC1,hC1.set2 v1,hO1.keep (zM.set (by omega) 2 v1)⟩
def FnB (b:Nat) (V:Value) (all:List Tok) (w:World) (T:PR (List Pa)) (n:Nat) (c0 c1:Value) (wr:World):Prop:=
 ∃ (m:Nat) (acc:List Pa) (y:PR Unit) (v:Value),m≤n∧OutK kP (w.heap.size+2) wr v acc∧qX b V all w y wr c0 c1 v (.slice none 0 0)∧T=y.bind (fun _ r=>uV m acc r)∧(zm y=false→acc.length≤yP b wr)∧acc.length≤2000000
def FnRel (b:Nat) (V:Value) (all:List Tok) (w:World) (T:PR (List Pa)) (n:Nat) (c0 c1:Value) (X:PR Unit) (fv:Value) (wr:World):Prop:=
 (fv=.bool true∧qX b V all w X wr c0 c1 (.slice none 0 0) (.slice none 0 0))∨(fv=.bool false∧FnB b V all w T n c0 c1 wr)
theorem fn_rel {b:Nat} {V:Value} {all:List Tok} {w W:World} {c0 c1 v1:Value} {acc:List Pa} {q:Pa} {r:List Tok} {T:PR (List Pa)} {m n:Nat} (hm:m≤n) (hT:T=yr (m+1) acc r) (hC:qX b V all w (qh r).un W c0 c1 v1 (.slice none 0 0)) (hO:OutK kP (w.heap.size+2) W v1 (acc++[q]))
 (hq:jE (qh r) fun p=>p=q) (hE:zw r) (hrl:r.length≤all.length) (hat:acc.length≤all.length-r.length) (hacc:acc.length≤1000000):FnB b V all w T n c0 c1 W∧all.length-r.length≤yP b W:=by
 rw[pPL_got]at hT
 have hF:=yK hE
 have hlen:(acc++[q]).length=acc.length+1:=by simp
 cases hx:qh r with
 | ok p r2=>
   rw[hx]at hT hC hq hF
   obtain rfl:p=q:=hq
   have hp:zY b V all r2 false false W:=hC.st
   have hao:=qx hp
   have hl:=(show zL 1 r r2 from hF).2.2
   exact⟨⟨m,acc++[p],.ok () r2,v1,hm,hO,hC,hT,fun _=>by rw[hlen];omega,by rw[hlen];omega⟩,by omega⟩
 | bad r2=>
   rw[hx]at hT hC hF
   have hp:zY b V all r2 true false W:=hC.st
   have hao:=qx hp
   have hl:=(show zL 0 r r2 from hF).2.2
   exact⟨⟨m,acc++[q],.bad r2,v1,hm,hO,hC,hT,(fun h=>by cases h),by rw[hlen];omega⟩,by omega⟩
 | deep r2=>
   rw[hx]at hT hC hF
   have hp:zY b V all r2 false true W:=hC.st
   have hao:=qx hp
   have hl:=(show zL 0 r r2 from hF).2.2
   exact⟨⟨m,acc++[q],.deep r2,v1,hm,hO,hC,hT,(fun h=>by cases h),by rw[hlen];omega⟩,by omega⟩
 | out=>
   rw[hx]at hC
   exact absurd hC.st id
theorem par_end {m:Nat} {acc:List Pa} {y:PR Unit} (hx:zS [44] y=false):y.bind (fun _ r=>uV m acc r)=y.bind fun _ r=>(zI [41] r).bind fun _ r=>.ok acc r:=by
 cases y with
 | ok u r=>
   show uV m acc r=_
   unfold uV
   rw[if_neg (by rw[show z9 [44] r=false from hx];decide)]
   rfl
 | _=>rfl
theorem par_fin {y:PR Unit} {acc:List Pa} {P:List Pa→Prop} (h:P acc):jE (y.bind fun _ r=>(zI [41] r).bind fun _ r=>.ok acc r) P:=by
 cases y with
 | ok u r=>exact yn h
 | bad r=>exact⟨acc,h⟩
 | deep r=>exact⟨acc,h⟩
 | out=>trivial
theorem par_un (y:PR Unit) (acc:List Pa):(y.bind fun _ r=>(zI [41] r).bind fun _ r=>PR.ok acc r).un=y.bind fun _ r=>zI [41] r:=by
 rw[jP]
 simp only[xD]
def fnK (n:Nat) (t:Int) (s:ByteArray) (ps:List Pa) (r:List Tok):PR Fu:=(pB n 1 r).bind fun b r=>.ok ⟨s,t,ps,b⟩ r
def parS (n:Nat) (r:List Tok):PR (List Pa):=if z9 [41] r=true then .ok [] r.tail else yr n [] r
theorem pFn_split (n:Nat) (t:Int) (s:ByteArray) (x:PR Unit):(x.bind fun _ r=>uh n t s r)=((x.bind fun _ r=>zI [40] r).bind fun _ r=>parS n r).bind fun ps r=>fnK n t s ps r:=by
 unfold uh pPs parS fnK
 simp only[zW]
theorem fn_ends {n:Nat} {t:Int} {s:ByteArray} {T:PR (List Pa)} (h:zG (T.bind fun ps r=>fnK n t s ps r)):zG (T.un.bind fun _ r=>pB n 1 r):=by
 cases T with
 | ok ps r=>exact zv (show zG (fnK n t s ps r) from h)
 | bad r=>trivial
 | deep r=>trivial
 | out=>exact h
theorem fn_un {n:Nat} {t:Int} {s:ByteArray} {T:PR (List Pa)}:(T.bind fun ps r=>fnK n t s ps r).un=(T.un.bind fun _ r=>pB n 1 r).un:=by
 cases T with
 | ok ps r=>
   show (fnK n t s ps r).un=(pB n 1 r).un
   unfold fnK
   rw[jP]
   rfl
 | _=>rfl
theorem fn_got {n:Nat} {t:Int} {s:ByteArray} {T:PR (List Pa)} {P1:List Pa→Prop} {P2:List St→Prop} {Q:Fu→Prop} (h1:jE T P1) (h2:jE (T.un.bind fun _ r=>pB n 1 r) P2) (he:zG (T.un.bind fun _ r=>pB n 1 r)) (hq:∀ ps b,P1 ps→P2 b→Q ⟨s,t,ps,b⟩):jE (T.bind fun ps r=>fnK n t s ps r) Q:=by
 obtain⟨b0,hb0⟩:=h2.some he
 cases T with
 | ok ps r=>
   show jE ((pB n 1 r).bind fun b r=>PR.ok (⟨s,t,ps,b⟩:Fu) r) Q
   have h2':jE (pB n 1 r) P2:=h2
   exact h2'.bind (fun b r _ hb=>hq ps b h1 hb) fun b hb=>⟨_,hq ps b h1 hb⟩
 | bad r=>obtain⟨ps,hp⟩:=h1;exact⟨_,hq ps b0 hp hb0⟩
 | deep r=>obtain⟨ps,hp⟩:=h1;exact⟨_,hq ps b0 hp hb0⟩
 | out=>trivial
theorem fn_done {b:Nat} {V:Value} {all:List Tok} {w w6 w7:World} {n:Nat} {t:Int} {s:ByteArray} {T:PR (List Pa)} {v v3:Value} {acc:List Pa} (hC6:qX b V all w T.un w6 (.string s) (.int .i64 t) v (.slice none 0 0)) (hO:OutK kP (w.heap.size+2) w6 v acc) (hn:acc.length≤2000000) (hT:jE T fun ps=>ps=acc)
 (hD:q7 b V all w6 (T.un.bind fun _ r=>pB n 1 r).un w7) (hG:jE (T.un.bind fun _ r=>pB n 1 r) fun a=>xQ w6.heap.size w7 a v3) (he:zG (T.un.bind fun _ r=>pB n 1 r)):
 qM b V all w (T.bind fun ps r=>fnK n t s ps r) (FrF w.heap.size) (.returned (.agg #[.string s,.int .i64 t,v,v3])) (nest4 (w7.setCell ⟨w.heap.size+1,3,none⟩ v3) w.heap.size (.string s) (.int .i64 t) v v3):=by
 have hz:=hC6.size
 have hb:=hC6.lt
 have h67:=hD.off.size
 refine qX.fin ((hC6.step hD).set3 v3) fn_un (fn_got hT hG he fun ps bd hps hbd=>?_)
 subst hps
 refine⟨v,v3,rfl,?_,?_⟩
 · refine FrPs.keep (L:=w.heap.size+2) (hO.params (by omega)) ?_ (by omega)
   exact((zM.did hD (by omega)).trans (zM.set (by omega) 3 v3)).trans (zM.nest4 (by omega) _ _ _ _)
 · exact xQ.keep hbd ((zM.set (by omega) 3 v3).trans (zM.nest4 (by omega) _ _ _ _)) (by omega)
theorem fn_none {b:Nat} {V:Value} {all:List Tok} {n:Nat} {x:PR Unit} {w:World} {t:Int} {s:ByteArray} {r:List Tok} (h:jS b V all x w) (hx:(x.bind fun _ r=>zI [40] r)=.ok () r) (h41:z9 [41] r=true) (hn:zG (x.bind fun _ r=>uh n t s r)):
 Calls Tryd.prog 46 #[.pointer (some ⟨b,0,none⟩),.int .i64 t,.string s] w (qM b V all w (x.bind fun _ r=>uh n t s r) (FrF w.heap.size)):=by
 have ex:(x.bind fun _ r=>uh n t s r)=(PR.ok [] r.tail).bind fun ps r=>fnK n t s ps r:=by
  rw[pFn_split,hx]
  show (parS n r).bind _=_
  unfold parS
  rw[if_pos h41]
 rw[ex]at hn ⊢
 have HN:=hid (show zG ((PR.ok () r.tail).bind fun _ r=>pB n 1 r) from fn_ends hn)
 have HC:=hid (qX.start h s t)
 have HX:=hid hx
 have HY:=hid (show zS (⟨#[41]⟩:ByteArray).data.toList (PR.ok () r)=true from h41)
 have HB:=hid (pblock_any (b:=b) (V:=V) (all:=all) (n:=n) (d:=1) (by decide) (by decide))
 have hbw:=h.lt
 clear h hx h41 hn ex
 go_enter Tryd.func46,Tryd.ntmps46
 go_wp2_with (first
  | (go_at_call 45;(with_reducible refine(zb HC.out.st ⟨#[40]⟩).mono ?_);rintro e w1 ⟨rfl,hD⟩
     replace HC:=hid (show qX b V all w (.ok () r) w1 _ _ _ _ from HX.out ▸ HC.out.step hD)
     clear hD)
  | (go_at_call 43;(with_reducible refine(zl HC.out.st _ HY.out).mono ?_);rintro e w2 ⟨rfl,hD⟩
     replace HC:=hid (show qX b V all w (.ok () r.tail) w2 _ _ _ _ from HC.out.step hD)
     clear hD)
  | (go_at_call 60;(with_reducible refine(HB.out.call HC.out.st HN.out).mono ?_);rintro e w7 ⟨v3,rfl,hD,hG⟩
     obtain⟨A3,m3,q3,rfl⟩:=xF hG HN.out
     have HG:=hid hG
     have HC6:=HC
     have HD7:=hid hD
     replace HC:=hid (HC.out.step hD)
     obtain⟨⟨c0,c1,c2,c3⟩,fz⟩:=HC.out.own
     obtain⟨⟨s0,s1,s2,s3⟩,sz⟩:=HC.out.f
     clear hD hG))
 obtain⟨f0,f1,f2,f3⟩:=(HC.out.set3 (.slice A3 m3 q3)).read
 refine bodyPost_ret (v:=.agg #[.string s,.int .i64 t,.slice none 0 0,.slice A3 m3 q3]) (by simp[results,Tryd.results46,go_sem,f0,f1,f2,f3]) rfl ?_
 exact fn_done (T:=.ok [] r.tail) HC6.out (OutK.nil kP _ _) (by simp) rfl HD7.out HG.out HN.out
set_option maxHeartbeats 3200000 in
theorem fn_some {b:Nat} {V:Value} {all:List Tok} {n:Nat} {x:PR Unit} {w:World} {t:Int} {s:ByteArray} (h:jS b V all x w) (h41:zS [41] (x.bind fun _ r=>zI [40] r)=false) (hn:zG (x.bind fun _ r=>uh n t s r)):
 Calls Tryd.prog 46 #[.pointer (some ⟨b,0,none⟩),.int .i64 t,.string s] w (qM b V all w (x.bind fun _ r=>uh n t s r) (FrF w.heap.size)):=by
 obtain⟨X,hX⟩:∃ X,(x.bind fun _ r=>zI [40] r)=X:=⟨_,rfl⟩
 obtain⟨T,hT⟩:∃ T,(X.bind fun _ r=>parS n r)=T:=⟨_,rfl⟩
 have ex:(x.bind fun _ r=>uh n t s r)=T.bind fun ps r=>fnK n t s ps r:=by rw[pFn_split,hX,hT]
 rw[ex]at hn ⊢
 rw[hX]at h41
 have hT2:T=X.bind fun _ r=>yr n [] r:=by
  rw[←hT]
  cases X with
  | ok u r=>show parS n r=yr n [] r;unfold parS;rw[if_neg (by rw[show z9 [41] r=false from h41];decide)]
  | _=>rfl
 have HN:=hid (fn_ends hn)
 have hTE:zG T:=zv hn
 have HTE:=hid hTE
 have HC:=hid (qX.start h s t)
 have HX:=hid hX
 have HT2:=hid hT2
 have HY:=hid (show zS (⟨#[41]⟩:ByteArray).data.toList X=false from h41)
 have HB:=hid (pblock_any (b:=b) (V:=V) (all:=all) (n:=n) (d:=1) (by decide) (by decide))
 have hbw:=h.lt
 clear h hX h41 hn ex hT hT2 hTE
 go_enter Tryd.func46,Tryd.ntmps46
 go_wp2_with (first
  | (go_at_call 45;(with_reducible refine(zb HC.out.st ⟨#[40]⟩).mono ?_);rintro e w1 ⟨rfl,hD⟩
     replace HC:=hid (show qX b V all w X w1 _ _ _ _ from HX.out ▸ HC.out.step hD)
     clear hD)
  | (go_at_call 43;(with_reducible refine(zF HC.out.st _ HY.out).mono ?_);rintro e w2 ⟨rfl,hD⟩
     replace HC:=hid (HC.out.step hD)
     clear hD))
 go_loopw [8] (fun fv wr=>FnRel b V all w T n (.string s) (.int .i64 t) X fv wr) (fun fv wr=>2 * (all.length-yP b wr)+firstN fv)
 case atStart=>exact .inl ⟨rfl,HC.out⟩
 case round=>
  obtain⟨i0,hi0,hz0,hz1,hz2⟩:=info_parts pa_info
  have HI0:=hid (And.intro hi0 (And.intro hz0 (And.intro hz1 hz2)))
  clear hi0 hz0 hz1 hz2
  rcases hrel with⟨rfl,hC⟩ | ⟨rfl,m,acc,y,v,hmn,hO,hC,hT,hacc,hac2⟩
  · replace HC:=hid hC
    have HO:=hid (OutK.nil kP (w.heap.size+2) wr)
    clear hC
    cases ho:zm X with
    | true=>
      have hTT:T=X.bind fun _ r=>(zI [41] r).bind fun _ r=>.ok [] r:=HT2.out.trans (over_bind ho _ _)
      have HTU:=hid (show T.un=X.bind fun _ r=>zI [41] r by rw[hTT,par_un])
      have HGT:=hid (show jE T fun ps=>ps=[] by rw[hTT];exact par_fin rfl)
      have hac2:([]:List Pa).length≤2000000:=by simp
      have HOV:=hid ho
      clear ho hTT
      go_wp2_with (first
       | (go_at_call 40;(with_reducible refine(zu HC.out.st true HOV.out).mono ?_);rintro e w2 ⟨rfl,rfl⟩)
       | (go_at_call 45;(with_reducible refine(zb HC.out.st ⟨#[41]⟩).mono ?_);rintro e w6 ⟨rfl,hD⟩
          replace HO:=hid (HO.out.keep (zM.did hD (by omega)))
          replace HC:=hid (show qX b V all w T.un w6 _ _ _ _ from HTU.out ▸ HC.out.step hD)
          clear hD)
       | (go_at_call 60;(with_reducible refine(HB.out.call HC.out.st HN.out).mono ?_);rintro e w7 ⟨v3,rfl,hD,hG⟩
          obtain⟨A3,m3,q3,rfl⟩:=xF hG HN.out
          have HG:=hid hG
          have HC6:=HC
          have HD7:=hid hD
          replace HC:=hid (HC.out.step hD)
          obtain⟨⟨c0,c1,c2,c3⟩,fz⟩:=HC.out.own
          obtain⟨⟨s0,s1,s2,s3⟩,sz⟩:=HC.out.f
          clear hD hG))
      obtain⟨f0,f1,f2,f3⟩:=(HC.out.set3 (.slice A3 m3 q3)).read
      refine bodyPost_ret (v:=.agg #[.string s,.int .i64 t,.slice none 0 0,.slice A3 m3 q3]) (by simp[results,Tryd.results46,go_sem,f0,f1,f2,f3]) rfl ?_
      exact fn_done HC6.out HO.out hac2 HGT.out HD7.out HG.out HN.out
    | false=>
      obtain⟨r,rfl⟩:∃ r,X=.ok () r:=by
       cases X with
       | ok u r=>exact⟨r,rfl⟩
       | bad r=>cases ho
       | deep r=>cases ho
       | out=>exact absurd HC.out.st id
      obtain⟨hat,hrl,hal,hen,hrp⟩:=xq HC.out.did
      obtain⟨q,rfl⟩:∃ q,n=q+1:=by
       cases n with
       | zero=>have h1:=HTE.out;rw[HT2.out]at h1;exact absurd (show zG (yr 0 [] r) from h1) (by rw[yr];exact id)
       | succ q=>exact⟨q,rfl⟩
      obtain⟨acc,hac⟩:∃ acc:List Pa,acc=[]:=⟨_,rfl⟩
      have hac6:acc.length≤1000000:=by rw[hac];simp
      have hac7:acc.length≤all.length-r.length:=by rw[hac];simp
      replace HO:=hid (show OutK kP (w.heap.size+2) wr (.slice none 0 0) acc by rw[hac];exact HO.out)
      have HT:=hid (show T=yr (q+1) acc r by rw[HT2.out,hac];rfl)
      have HEN:=hid hen
      have HAT:=hid hat
      clear ho hat hac hen
      go_wp2_with (first
       | (go_at_call 40;(with_reducible refine(zu HC.out.st false rfl).mono ?_);rintro e w2 ⟨rfl,rfl⟩)
       | (go_at_call 41;(with_reducible refine(vw HC.out.st).mono ?_);rintro e w3 ⟨tv0,rfl,hD,hG⟩
          obtain⟨tv,rfl,hG2⟩:=ty_got (r:=r) hG
          have HGT:=hid hG2
          replace HO:=hid (HO.out.keep (zM.did hD (by omega)))
          replace HC:=hid (show qX b V all w (yt r).un w3 _ _ _ _ from HC.out.step hD)
          obtain⟨⟨s0,s1,s2,s3⟩,sz⟩:=HC.out.f
          clear hD hG hG2))
      go_region_law (first
       | (refine k8 rfl (.tmp 31) (.tmp 36) _ rfl (w.heap.size+2) 44 i0 _ 2 24 Tryd.underlying36 HI0.out.1 HI0.out.2.1 HI0.out.2.2.1 HI0.out.2.2.2 rfl (by omega) (.slice none 0 0) acc.length _ rfl (by exact HPRE.out.1) ⟨w4.heap.size,0,none⟩ 1 1 [.string s',.int .i64 tv] rfl rfl (by exact HPRE.out.2.1) (by simp[Value.oneCell']) (by simp only[maxLen];omega) (by omega) (by exact HPRE.out.2.2) (by omega) ?_
          intro v1 w5 hown1 hg1 hr1
          obtain⟨A1,cp1,rfl⟩:=kX hown1
          have HX1:=hid (fn_next (q:=⟨s',tv⟩) HC4.out HO2.out hg1 hr1 hown1)
          have hk7:w5.cell? ⟨w.heap.size+1,2,none⟩=some (.slice none 0 0):=HX1.out.1.f.1.2.2.1
          have fz5:=HX1.out.1.f.2
          clear hown1 hg1 hr1)
       | (go_simp;go_at_call 42;(refine(yJ (HC.out.drew).st 1 (by decide)).mono ?_);rintro e w4 ⟨s',rfl,hD,hG⟩
          have HGS:=hid hG
          have HO2:=hid (HO.out.keep ((zM.of_below (Below.refl _ _).drew).trans (zM.did hD (by omega))))
          have HC4:=hid (show qX b V all w (qh r).un w4 _ _ _ _ from(parOne_un r).symm ▸ HC.out.drew.step hD)
          have hk7:w4.cell? ⟨w.heap.size+1,2,none⟩=some (.slice none 0 0):=HC4.out.f.1.2.2.1
          have fz4:=HC4.out.f.2
          have hk8:(w4.alloc (.cells #[.string s',.int .i64 tv] 44)).cell? ⟨w.heap.size+1,2,none⟩=some (.slice none 0 0):=(HC4.out.alloc _).f.1.2.2.1
          have HPRE:=hid (HO2.out.pre [.string s',.int .i64 tv] (by have:=HC4.out.size;omega))
          clear hD hG))
      all_goals
       go_wp2
       have HZ:=hid (fn_rel (n:=q+1) (by omega) HT.out HX1.out.2.1 HX1.out.2.2 (parOne_got HGT.out HGS.out) HEN.out hrl (by omega) (by omega))
       go_roundw
       case rel=>exact .inr ⟨rfl,HZ.out.1⟩
       case measure=>
        have h1:=HZ.out.2
        have h2:=HAT.out
        simp[firstN]
        omega
  · obtain⟨hbb,hx⟩:∃ v:Bool,zS [44] y=v:=⟨_,rfl⟩
    cases hbb with
    | true=>
      obtain⟨r1,rfl,hs1⟩:=uP hx
      obtain⟨hat,hrl1,hal,hen1,hrp⟩:=xq hC.did
      have hTT:T=yr m acc r1.tail:=by
       rw[hT]
       show uV m acc r1=_
       unfold uV
       rw[if_pos hs1]
      obtain⟨q,rfl⟩:∃ q,m=q+1:=by
       cases m with
       | zero=>have:=HTE.out;rw[hTT,yr]at this;exact absurd this id
       | succ q=>exact⟨q,rfl⟩
      have hacc1:=hacc rfl
      rw[hat]at hacc1
      have htl:=jV hen1
      have HAT:=hid hat
      have HV4:=hid (show zS (⟨#[44]⟩:ByteArray).data.toList (PR.ok () r1)=true from hs1)
      have hen2:=hen1.sign hs1
      obtain⟨r,hr2⟩:∃ r2,r2=r1.tail:=⟨_,rfl⟩
      rw[←hr2]at hTT htl hen2
      have hrl:r.length≤all.length:=by omega
      have HRT:=hid hr2
      have HT:=hid hTT
      have HEN:=hid hen2
      have HO:=hid hO
      replace HC:=hid hC
      obtain⟨A0,cp0,rfl⟩:=hO.form
      clear hC hO hT hTT hat hx hs1 hen1 hen2 hr2 hacc
      go_wp2_with (first
       | (go_at_call 43;(with_reducible refine(zl HC.out.st _ HV4.out).mono ?_);rintro e w2 ⟨rfl,hD⟩
          have hD3:q7 b V all wr (.ok () r) w2:=by rw[HRT.out];exact hD
          replace HO:=hid (HO.out.keep (zM.did hD3 (by omega)))
          replace HC:=hid (HC.out.step hD3)
          clear hD hD3)
       | (go_at_call 40;(with_reducible refine(zu HC.out.st false rfl).mono ?_);rintro e w2 ⟨rfl,rfl⟩)
       | (go_at_call 41;(with_reducible refine(vw HC.out.st).mono ?_);rintro e w3 ⟨tv0,rfl,hD,hG⟩
          obtain⟨tv,rfl,hG2⟩:=ty_got (r:=r) hG
          have HGT:=hid hG2
          replace HO:=hid (HO.out.keep (zM.did hD (by omega)))
          replace HC:=hid (show qX b V all w (yt r).un w3 _ _ _ _ from HC.out.step hD)
          obtain⟨⟨s0,s1,s2,s3⟩,sz⟩:=HC.out.f
          clear hD hG hG2))
      go_region_law (first
       | (refine k8 rfl (.tmp 31) (.tmp 36) _ rfl (w.heap.size+2) 44 i0 _ 2 24 Tryd.underlying36 HI0.out.1 HI0.out.2.1 HI0.out.2.2.1 HI0.out.2.2.2 rfl (by omega) (.slice A0 acc.length cp0) acc.length _ rfl (by exact HPRE.out.1) ⟨w4.heap.size,0,none⟩ 1 1 [.string s',.int .i64 tv] rfl rfl (by exact HPRE.out.2.1) (by simp[Value.oneCell']) (by simp only[maxLen];omega) (by omega) (by exact HPRE.out.2.2) (by omega) ?_
          intro v1 w5 hown1 hg1 hr1
          obtain⟨A1,cp1,rfl⟩:=kX hown1
          have HX1:=hid (fn_next (q:=⟨s',tv⟩) HC4.out HO2.out hg1 hr1 hown1)
          have hk7:w5.cell? ⟨w.heap.size+1,2,none⟩=some (.slice A0 acc.length cp0):=HX1.out.1.f.1.2.2.1
          have fz5:=HX1.out.1.f.2
          clear hown1 hg1 hr1)
       | (go_simp;go_at_call 42;(refine(yJ (HC.out.drew).st 1 (by decide)).mono ?_);rintro e w4 ⟨s',rfl,hD,hG⟩
          have HGS:=hid hG
          have HO2:=hid (HO.out.keep ((zM.of_below (Below.refl _ _).drew).trans (zM.did hD (by omega))))
          have HC4:=hid (show qX b V all w (qh r).un w4 _ _ _ _ from(parOne_un r).symm ▸ HC.out.drew.step hD)
          have hk7:w4.cell? ⟨w.heap.size+1,2,none⟩=some (.slice A0 acc.length cp0):=HC4.out.f.1.2.2.1
          have fz4:=HC4.out.f.2
          have hk8:(w4.alloc (.cells #[.string s',.int .i64 tv] 44)).cell? ⟨w.heap.size+1,2,none⟩=some (.slice A0 acc.length cp0):=(HC4.out.alloc _).f.1.2.2.1
          have HPRE:=hid (HO2.out.pre [.string s',.int .i64 tv] (by have:=HC4.out.size;omega))
          clear hD hG))
      all_goals
       go_wp2
       have HZ:=hid (fn_rel (n:=n) (by omega) HT.out HX1.out.2.1 HX1.out.2.2 (parOne_got HGT.out HGS.out) HEN.out hrl (by omega) (by omega))
       go_roundw
       case rel=>exact .inr ⟨rfl,HZ.out.1⟩
       case measure=>
        have h1:=HZ.out.2
        have h2:=HAT.out
        simp[firstN]
        omega
    | false=>
      have HV4:=hid (show zS (⟨#[44]⟩:ByteArray).data.toList y=false from hx)
      have hTT:=hT.trans (par_end (m:=m) (acc:=acc) hx)
      have HTU:=hid (show T.un=y.bind fun _ r=>zI [41] r by rw[hTT,par_un])
      have HGT:=hid (show jE T fun ps=>ps=acc by rw[hTT];exact par_fin rfl)
      have HO:=hid hO
      replace HC:=hid hC
      obtain⟨A0,cp0,rfl⟩:=hO.form
      clear hC hO hT hTT hx hacc
      go_wp2_with (first
       | (go_at_call 43;(with_reducible refine(zF HC.out.st _ HV4.out).mono ?_);rintro e w2 ⟨rfl,hD⟩
          replace HO:=hid (HO.out.keep (zM.did hD (by omega)))
          replace HC:=hid (HC.out.step hD)
          clear hD)
       | (go_at_call 45;(with_reducible refine(zb HC.out.st ⟨#[41]⟩).mono ?_);rintro e w6 ⟨rfl,hD⟩
          replace HO:=hid (HO.out.keep (zM.did hD (by omega)))
          replace HC:=hid (show qX b V all w T.un w6 _ _ _ _ from HTU.out ▸ HC.out.step hD)
          clear hD)
       | (go_at_call 60;(with_reducible refine(HB.out.call HC.out.st HN.out).mono ?_);rintro e w7 ⟨v3,rfl,hD,hG⟩
          obtain⟨A3,m3,q3,rfl⟩:=xF hG HN.out
          have HG:=hid hG
          have HC6:=HC
          have HD7:=hid hD
          replace HC:=hid (HC.out.step hD)
          obtain⟨⟨c0,c1,c2,c3⟩,fz⟩:=HC.out.own
          obtain⟨⟨s0,s1,s2,s3⟩,sz⟩:=HC.out.f
          clear hD hG))
      obtain⟨f0,f1,f2,f3⟩:=(HC.out.set3 (.slice A3 m3 q3)).read
      refine bodyPost_ret (v:=.agg #[.string s,.int .i64 t,.slice A0 acc.length cp0,.slice A3 m3 q3]) (by simp[results,Tryd.results46,go_sem,f0,f1,f2,f3]) rfl ?_
      exact fn_done HC6.out HO.out hac2 HGT.out HD7.out HG.out HN.out
theorem pfn_any {b:Nat} {V:Value} {all:List Tok} {n:Nat} {x:PR Unit} {w:World} {t:Int} {s:ByteArray} (h:jS b V all x w) (hn:zG (x.bind fun _ r=>uh n t s r)):
 Calls Tryd.prog 46 #[.pointer (some ⟨b,0,none⟩),.int .i64 t,.string s] w (qM b V all w (x.bind fun _ r=>uh n t s r) (FrF w.heap.size)):=by
 cases h41:zS [41] (x.bind fun _ r=>zI [40] r) with
 | true=>
   obtain⟨r,hx,hs⟩:=uP h41
   exact fn_none h hx hs hn
 | false=>exact fn_some h h41 hn
theorem rvalue_nil (w:World):Calls Tryd.prog 44 #[.string ⟨#[]⟩] w fun e w'=>e=.returned (.int .i64 (-1))∧w=w':=by
 go_enter Tryd.func44,Tryd.ntmps44
 go_wp2
 go_loop [3,4,5] (fun n i _=>i=.int .i64 0∧n=.int .i64 0) (fun _ i _=>0)
 case atStart=>exact⟨rfl,rfl⟩
 case round=>
  obtain⟨rfl,rfl⟩:=hrel
  go_wp2
  go_ret
  exact⟨rfl,rfl⟩
theorem text_nil {b:Nat} {V:Value} {all r:List Tok} {w:World} (h:jS b V all (.ok () r) w) (k:Int) (hk:yQ r≠k):
 Calls Tryd.prog 42 #[.pointer (some ⟨b,0,none⟩),.int .i64 k] w fun e w'=>e=.returned (.string ⟨#[]⟩)∧q7 b V all w (.bad r) w':=by
 have hp:zY b V all r false false w:=h
 clear h
 have hS:=fun o=>box_spoil hp o
 have hlt:=hp.lt
 have f1:=hp.1.frozen 1
 have f2:=hp.1.frozen 2
 have HOV:=hid (show jS b V all (.ok () r) w from hp)
 obtain⟨g,c,p,t,q,rfl,rfl,hpp,hpl,hl,c0,c1,c2,c3,t0,t1,t2⟩:=hp.tok
 have hlk:(p:Int)<all.length:=by omega
 have hw0:0<w.heap.size:=by omega
 have HS:=hid hS
 have e2:(t.kind != k)=true:=by simpa[yQ] using hk
 clear hp hpp hS hk
 go_enter Tryd.func42,Tryd.ntmps42
 go_wp2_with (go_at_call 40;(with_reducible refine(zu HOV.out false rfl).mono ?_);rintro e w1 ⟨rfl,rfl⟩)
 go_region_held3 (fun w'=>w'.cell? ⟨b,0,none⟩=some (.slice (some ⟨g,0,none⟩) all.length c)∧w'.cell? ⟨b,1,none⟩=some (.int .i64 p)∧w'.cell? ⟨g,p * 3,none⟩=some (.int .i64 t.kind)∧w'.cell? ⟨g,p * 3+1,none⟩=some (.string ⟨t.text.toArray⟩)∧w'.cell? ⟨g,p * 3+2,none⟩=some (.int .i64 (t.line:Int))∧0<w'.heap.size)
  (first | go_keep | (go_split_ands;refine⟨?_,?_,?_,?_,?_,?_⟩ <;> assumption))
  (fail)
 go_wp2_with (fail)
 go_ret
 exact⟨rfl,HS.out _⟩
abbrev vM:Obj:=.cells #[.slice none 0 0,.slice none 0 0] 26
abbrev uc (W:World) (g:Nat) (c0 c1:Value):World:=(W.setCell ⟨g,0,none⟩ c0).setCell ⟨g,1,none⟩ c1
theorem nest2_row {W:World} {g:Nat} {d0 d1:Value} {T:TypeId} {fr:Nat × Nat} (hb:W.heap[g]? =some (.cells #[d0,d1] T fr)) (c0 c1:Value):(uc W g c0 c1).heap[g]? =some (.cells #[c0,c1] T fr):=Lib.heap_setCell_same (Lib.heap_setCell_same hb c0) c1
theorem zM.nest2 {L g:Nat} {w:World} (hg:g<L) (c0 c1:Value):zM L w (uc w g c0 c1):=(zM.set hg 0 c0).trans (zM.set hg 1 c1)
theorem xt {W:World} {g:Nat} {c0 c1:Value} {T:TypeId} (h:W.heap[g]? =some (.cells #[c0,c1] T (0,0))):(W.cell? ⟨g,0,none⟩=some c0∧W.cell? ⟨g,1,none⟩=some c1)∧∀ o,W.frozen? ⟨g,o,none⟩=false:=by
 refine⟨⟨(Lib.cell_of_heap h 0).trans rfl,(Lib.cell_of_heap h 1).trans rfl⟩,fun o=>?_⟩
 simp[World.frozen?,h]
def FrG (L:Nat) (w:World) (a:Pr) (v:Value):Prop:=∃ v0 v1,v=.agg #[v0,v1]∧SlA w.heap.size (mask (low L) w) v0 a.arrays∧SlF w.heap.size (mask (low L) w) v1 a.funcs
def CurP (b:Nat) (V:Value) (all:List Tok) (w:World) (x:PR Unit) (W:World) (c0 c1:Value):Prop:=
 q7 b V all w x W∧W.heap[w.heap.size]? =some vM∧W.heap[w.heap.size+1]? =some (.cells #[c0,c1] 26 (0,0))∧TokH b V all w∧b<w.heap.size
section
variable {b:Nat} {V:Value} {all:List Tok} {w W W':World} {x y:PR Unit} {c0 c1:Value}
theorem CurP.start (h:jS b V all x w):CurP b V all w x ((w.alloc vM).alloc vM) (.slice none 0 0) (.slice none 0 0):=by
 have hb:Below w.heap.size w ((w.alloc vM).alloc vM):=((Below.refl _ _).alloc (Nat.le_refl _) _).alloc (by rw[zA];omega) _
 refine⟨⟨h.below hb,OffB.of_below hb h.lt⟩,jL (heap_alloc_new w vM) _,?_,h.tok,h.lt⟩
 have:=heap_alloc_new (w.alloc vM) vM
 rw[zA]at this
 exact this
theorem CurP.did (h:CurP b V all w x W c0 c1):q7 b V all w x W:=h.1
theorem CurP.st (h:CurP b V all w x W c0 c1):jS b V all x W:=h.1.1
theorem CurP.lt (h:CurP b V all w x W c0 c1):b<w.heap.size:=h.2.2.2.2
theorem CurP.size (h:CurP b V all w x W c0 c1):w.heap.size+1<W.heap.size:=(Array.getElem?_eq_some_iff.1 h.2.2.1).1
theorem CurP.step (h:CurP b V all w x W c0 c1) (g:q7 b V all W y W'):CurP b V all w y W' c0 c1:=
 ⟨h.1.after g,qe g.off (by have:=h.size;omega) (by have:=h.lt;omega) h.2.1,qe g.off h.size (by have:=h.lt;omega) h.2.2.1,h.2.2.2⟩
theorem CurP.alloc (h:CurP b V all w x W c0 c1) (o:Obj):CurP b V all w x (W.alloc o) c0 c1:=⟨h.1.alloc o,jL h.2.1 o,jL h.2.2.1 o,h.2.2.2⟩
theorem CurP.drew (h:CurP b V all w x W c0 c1):CurP b V all w x W.drew c0 c1:=h.step ⟨h.st.below (Below.refl _ _).drew,OffB.of_below (Below.refl _ _).drew h.st.lt⟩
theorem CurP.drewN (h:CurP b V all w x W c0 c1) (n:Nat):CurP b V all w x (W.drewN n) c0 c1:=h.step ⟨h.st.drewN n,(OffB.refl b _ W).drewN n⟩
theorem CurP.own (h:CurP b V all w x W c0 c1):(W.cell? ⟨w.heap.size,0,none⟩=some (.slice none 0 0)∧W.cell? ⟨w.heap.size,1,none⟩=some (.slice none 0 0))∧∀ o,W.frozen? ⟨w.heap.size,o,none⟩=false:=xt h.2.1
theorem CurP.f (h:CurP b V all w x W c0 c1):(W.cell? ⟨w.heap.size+1,0,none⟩=some c0∧W.cell? ⟨w.heap.size+1,1,none⟩=some c1)∧∀ o,W.frozen? ⟨w.heap.size+1,o,none⟩=false:=xt h.2.2.1
theorem CurP.set (h:CurP b V all w x W c0 c1) (i:Nat) (u:Value):q7 b V all w x (W.setCell ⟨w.heap.size+1,i,none⟩ u)∧(W.setCell ⟨w.heap.size+1,i,none⟩ u).heap[w.heap.size]? =some vM:=
 ⟨h.1.set h.2.2.2.1 (by omega) (by have:=h.lt;omega) i u,(Below.heap_setCell W _ u _ (by show w.heap.size≠w.heap.size+1;omega)).trans h.2.1⟩
theorem CurP.set0 (h:CurP b V all w x W c0 c1) (u:Value):CurP b V all w x (W.setCell ⟨w.heap.size+1,0,none⟩ u) u c1:=⟨(h.set 0 u).1,(h.set 0 u).2,Lib.heap_setCell_same h.2.2.1 u,h.2.2.2⟩
theorem CurP.set1 (h:CurP b V all w x W c0 c1) (u:Value):CurP b V all w x (W.setCell ⟨w.heap.size+1,1,none⟩ u) c0 u:=⟨(h.set 1 u).1,(h.set 1 u).2,Lib.heap_setCell_same h.2.2.1 u,h.2.2.2⟩
theorem CurP.fin (h:CurP b V all w y W c0 c1) {X:PR Pr} (hy:X.un=y) (hG:jE X fun a=>FrG w.heap.size (_root_.Go.Proofs.YtndgkfkieogplaaDoor.uc W w.heap.size c0 c1) a (.agg #[c0,c1])):
 qM b V all w X (FrG w.heap.size) (.returned (.agg #[c0,c1])) (_root_.Go.Proofs.YtndgkfkieogplaaDoor.uc W w.heap.size c0 c1):=
 ⟨_,rfl,hy ▸ (h.1.set h.2.2.2.1 (Nat.le_refl _) (by have:=h.lt;omega) 0 c0).set h.2.2.2.1 (Nat.le_refl _) (by have:=h.lt;omega) 1 c1,hG⟩
theorem CurP.read (h:CurP b V all w x W c0 c1):((W.setCell ⟨w.heap.size,0,none⟩ c0).setCell ⟨w.heap.size,1,none⟩ c1).cell? ⟨w.heap.size,0,none⟩=some c0∧((W.setCell ⟨w.heap.size,0,none⟩ c0).setCell ⟨w.heap.size,1,none⟩ c1).cell? ⟨w.heap.size,1,none⟩=some c1:=(xt (nest2_row h.2.1 c0 c1)).1
end
theorem got_eq {α β:Type} {x:PR α} {a0:α} (h:jE x fun a=>a=a0) (F:α→List Tok→PR β):x.bind F=x.un.bind fun _ r=>F a0 r:=by
 cases x with
 | ok a r=>
   obtain rfl:a=a0:=h
   rfl
 | _=>rfl
def pgK (q:Nat) (p:Pr) (a:Pa) (r:List Tok):PR Pr:=
 if a.type=1∧p.funcs=[]∧z9 [91] r=true then (vc a.name r.tail).bind fun x r=>jg q ⟨p.arrays++[x],p.funcs⟩ r
 else (uh q a.type a.name r).bind fun f r=>jg q ⟨p.arrays,p.funcs++[f]⟩ r
theorem pPr_got {q:Nat} {p:Pr} {r:List Tok} (h:yQ r≠3):jg (q+1) p r=(qh r).bind fun a r=>pgK q p a r:=by
 rw[jg,if_neg h]
 unfold qh
 simp only[zW]
 rfl
theorem pPr_end {q:Nat} {p:Pr} {r:List Tok} (h:yQ r=3):jg (q+1) p r=.ok p r:=by rw[jg,if_pos h]
theorem own_apart {w:World} {B:Nat} {e t:TypeId} {n m k l:Nat} {v u:Value} {xs ys:List Value} (h:w.ownsRow B e n v k xs) (g:w.ownsRow B t m u l ys) (hne:e≠t):∀ j,v.ownBlock=some j→u.ownBlock≠some j:=by
 intro j hj
 rcases h.2 with⟨rfl,_⟩ | ⟨g',cap,cur,rfl,h1,h2,_⟩
 · cases hj
 · injection hj with hj
   subst hj
   exact own_ne g (show Is w g' e cur from h2) (fun e=>hne e.symm)
structure PgAt (b:Nat) (V:Value) (all:List Tok) (w:World) (y:PR Unit) (W:World) (va vf:Value) (ars:List Ar) (fs:List FuV):Prop where
 cur:CurP b V all w y W va vf
 arr:OutK kA (w.heap.size+2) W va ars
 fnc:OutK kF (w.heap.size+2) W vf fs
 nil:fs=[]→vf=.slice none 0 0
section
variable {b:Nat} {V:Value} {all:List Tok} {w W W':World} {x y:PR Unit} {va vf:Value} {ars:List Ar} {fs:List FuV}
theorem PgAt.step (h:PgAt b V all w x W va vf ars fs) (g:q7 b V all W y W'):PgAt b V all w y W' va vf ars fs:=
 ⟨h.cur.step g,h.arr.keep (zM.did g (by have:=h.cur.lt;omega)),h.fnc.keep (zM.did g (by have:=h.cur.lt;omega)),h.nil⟩
theorem PgAt.drewN (h:PgAt b V all w x W va vf ars fs) (n:Nat):PgAt b V all w x (W.drewN n) va vf ars fs:=h.step ⟨h.cur.st.drewN n,(OffB.refl b _ W).drewN n⟩
theorem PgAt.drew (h:PgAt b V all w x W va vf ars fs):PgAt b V all w x W.drew va vf ars fs:=h.step ⟨h.cur.st.below (Below.refl _ _).drew,OffB.of_below (Below.refl _ _).drew h.cur.st.lt⟩
theorem PgAt.array {w5:World} {v1:Value} {a:Ar} (h:PgAt b V all w y W va vf ars []) (hg:(W.alloc (.cells #[.string a.name,.int .i64 a.size] 85)).grownBy w5 va.ownBlock) (hr:RowAt (W.alloc (.cells #[.string a.name,.int .i64 a.size] 85)) va v1)
 (ho:w5.ownsRow (w.heap.size+2) 85 2 v1 (ars.length+1) (ars.flatMap kA.cs++[.string a.name,.int .i64 a.size])):CurP b V all w y w5 va vf∧PgAt b V all w y (w5.setCell ⟨w.heap.size+1,0,none⟩ v1) v1 vf (ars++[a]) []:=by
 have hC:=h.cur
 have hal:Below W.heap.size W (W.alloc (.cells #[.string a.name,.int .i64 a.size] 85)):=(Below.refl _ _).alloc (Nat.le_refl _) _
 have hO1:OutK kA (w.heap.size+2) w5 v1 (ars++[a]):=h.arr.app (L:=W.heap.size) trivial (by have:=hC.size;omega) (fun k hk=>(h.arr.own k hk).1) hal hg hr ho
 have hown:∀ j,va.ownBlock=some j→w.heap.size+2≤j:=fun j hj=>(h.arr.own j hj).2
 have hblk:∀ j,j<W.heap.size→j<w.heap.size+2→w5.heap[j]? =W.heap[j]?:=fun j hj hj2=>(hg.block j (Nat.lt_of_lt_of_le hj hal.size) (fun e=>by have:=hown j e.symm;omega)).trans (hal.block j hj)
 have hz:=hC.size
 have hbl:=hC.lt
 have hoff:OffB b w.heap.size w w5:=hC.did.off.trans (OffB.mk' (hg.os.trans hal.os) (hg.tape.trans hal.tape) (hg.output.trans hal.output) (Nat.le_trans hal.size hg.size) hC.st.lt fun j hj _=>hblk j (by have:=hC.did.off.size;omega) (by omega))
 have hC1:CurP b V all w y w5 va vf:=⟨⟨hC.st.move hC.2.2.2.1 hoff (hblk b hC.st.lt (by omega)),hoff⟩,(hblk _ (by omega) (by omega)).trans hC.2.1,(hblk _ hz (by omega)).trans hC.2.2.1,hC.2.2.2⟩
 refine⟨hC1,hC1.set0 v1,hO1.keep (zM.set (by omega) 0 v1),?_,h.nil⟩
 rw[h.nil rfl]
 exact OutK.nil _ _ _
theorem PgAt.func {w5:World} {v1:Value} {s:ByteArray} {t:Int} {v2 v3:Value} (h:PgAt b V all w y W va vf ars fs) (hg:(W.alloc (.cells #[.string s,.int .i64 t,v2,v3] 39)).grownBy w5 vf.ownBlock) (hr:RowAt (W.alloc (.cells #[.string s,.int .i64 t,v2,v3] 39)) vf v1)
 (ho:w5.ownsRow (w.heap.size+2) 39 4 v1 (fs.length+1) (fs.flatMap kF.cs++[.string s,.int .i64 t,v2,v3])) {L:Nat} (hL:w.heap.size+2≤L) (hL2:∀ k,vf.ownBlock=some k→k<L):
 CurP b V all w y w5 va vf∧∀ f,FrF L W f (.agg #[.string s,.int .i64 t,v2,v3])→∃ q:FuV,q.f=f∧PgAt b V all w y (w5.setCell ⟨w.heap.size+1,1,none⟩ v1) va v1 ars (fs++[q]):=by
 have hC:=h.cur
 have hal:Below W.heap.size W (W.alloc (.cells #[.string s,.int .i64 t,v2,v3] 39)):=(Below.refl _ _).alloc (Nat.le_refl _) _
 have hown:∀ j,vf.ownBlock=some j→w.heap.size+2≤j:=fun j hj=>(h.fnc.own j hj).2
 have hblk0:∀ j,j<W.heap.size→vf.ownBlock≠some j→w5.heap[j]? =W.heap[j]?:=fun j hj hj2=>(hg.block j (Nat.lt_of_lt_of_le hj hal.size) (fun e=>hj2 e.symm)).trans (hal.block j hj)
 have hblk:∀ j,j<W.heap.size→j<w.heap.size+2→w5.heap[j]? =W.heap[j]?:=fun j hj hj2=>hblk0 j hj (fun e=>by have:=hown j e;omega)
 have hz:=hC.size
 have hbl:=hC.lt
 have hoff:OffB b w.heap.size w w5:=hC.did.off.trans (OffB.mk' (hg.os.trans hal.os) (hg.tape.trans hal.tape) (hg.output.trans hal.output) (Nat.le_trans hal.size hg.size) hC.st.lt fun j hj _=>hblk j (by have:=hC.did.off.size;omega) (by omega))
 have hC1:CurP b V all w y w5 va vf:=⟨⟨hC.st.move hC.2.2.2.1 hoff (hblk b hC.st.lt (by omega)),hoff⟩,(hblk _ (by omega) (by omega)).trans hC.2.1,(hblk _ hz (by omega)).trans hC.2.2.1,hC.2.2.2⟩
 refine⟨hC1,fun f hf=>?_⟩
 obtain⟨u2,u3,hv,h2,h3⟩:=hf
 simp only[Value.agg.injEq,Array.mk.injEq,List.cons.injEq,Value.int.injEq,Value.string.injEq,true_and,and_true]at hv
 obtain⟨rfl,rfl,rfl,rfl⟩:=hv
 have hO1:OutK kF (w.heap.size+2) w5 v1 (fs++[⟨f,v2,v3⟩]):=h.fnc.app (K:=kF) (L:=L) (p:=(⟨f,v2,v3⟩:FuV)) (show SlP W.heap.size (mask (low L) W) v2 f.params∧SlS W.heap.size (mask (low L) W) v3 f.body from⟨h2,h3⟩) hL hL2 hal hg hr ho
 have hA:OutK kA (w.heap.size+2) w5 va ars:=by
  refine⟨own_keep h.arr.1 fun j hj=>hblk0 j (h.arr.own j hj).1 ?_,fun p hp=>trivial⟩
  exact own_apart h.arr.1 h.fnc.1 (by decide) j hj
 exact⟨⟨f,v2,v3⟩,rfl,hC1.set1 v1,hA.keep (zM.set (by omega) 1 v1),hO1.keep (zM.set (by omega) 1 v1),fun e=>absurd e (by simp)⟩
end
theorem RdA.imp {B B':Nat} {w w':World} (hc:∀ g o u,CellB B w g o u→CellB B' w' g o u) (a:Ar) (g o:Nat) (h:RdA B w a g o):RdA B' w' a g o:=⟨hc _ _ _ h.1,hc _ _ _ h.2⟩
theorem SlA.imp {B B':Nat} {w w':World} (hc:∀ g o u,CellB B w g o u→CellB B' w' g o u) {v:Value} {l:List Ar} (h:SlA B w v l):SlA B' w' v l:=yv.imp h fun g o=>uM.imp (fun a g o=>RdA.imp hc a g o) l g o
theorem RdF.imp {B B':Nat} {w w':World} (hc:∀ g o u,CellB B w g o u→CellB B' w' g o u) (a:Fu) (g o:Nat) (h:RdF B w a g o):RdF B' w' a g o:=by
 obtain⟨h0,h1,⟨v,h2,h3⟩,⟨v',h4,h5⟩⟩:=h
 exact⟨hc _ _ _ h0,hc _ _ _ h1,⟨v,hc _ _ _ h2,h3.imp hc⟩,⟨v',hc _ _ _ h4,h5.imp hc⟩⟩
theorem SlF.imp {B B':Nat} {w w':World} (hc:∀ g o u,CellB B w g o u→CellB B' w' g o u) {v:Value} {l:List Fu} (h:SlF B w v l):SlF B' w' v l:=yv.imp h fun g o=>uM.imp (fun a g o=>RdF.imp hc a g o) l g o
def PgRel (b:Nat) (V:Value) (all:List Tok) (w:World) (T:PR Pr) (n:Nat) (wr:World):Prop:=
 ∃ (m:Nat) (ars:List Ar) (fs:List FuV) (y:PR Unit) (va vf:Value),m≤n∧PgAt b V all w y wr va vf ars fs∧T=y.bind (fun _ r=>jg m ⟨ars,fs.map (·.f)⟩ r)∧(zm y=false→ars.length+fs.length≤yP b wr)∧ars.length+fs.length≤2000000
theorem pg_end {b:Nat} {V:Value} {all:List Tok} {w W:World} {y:PR Unit} {va vf:Value} {ars:List Ar} {fs:List FuV} {T:PR Pr} (h:PgAt b V all w y W va vf ars fs) (hn:ars.length+fs.length≤2000000) (hT:T=y.bind fun _ r=>.ok ⟨ars,fs.map (·.f)⟩ r):qM b V all w T (FrG w.heap.size) (.returned (.agg #[va,vf])) (uc W w.heap.size va vf):=by
 subst hT
 have hk:zM (w.heap.size+2) W (uc W w.heap.size va vf):=zM.nest2 (by omega) _ _
 have ha:=(h.arr.keep hk).arrays (by omega)
 have hf:=(h.fnc.keep hk).funcs (by omega)
 have hl:∀ g o u,CellB (uc W w.heap.size va vf).heap.size (mask (low (w.heap.size+2)) (uc W w.heap.size va vf)) g o u→CellB (uc W w.heap.size va vf).heap.size (mask (low w.heap.size) (uc W w.heap.size va vf)) g o u:=(zM.refl (w.heap.size+2) _).cells (by omega)
 have hg:FrG w.heap.size (uc W w.heap.size va vf) ⟨ars,fs.map (·.f)⟩ (.agg #[va,vf]):=⟨va,vf,rfl,SlA.imp hl ha,SlF.imp hl hf⟩
 refine h.cur.fin ?_ ?_
 · rw[jP]
   cases y <;> rfl
 · cases y with
   | ok u r=>exact hg
   | bad r=>exact⟨_,hg⟩
   | deep r=>exact⟨_,hg⟩
   | out=>trivial
theorem got_pick {α:Type} {Y:PR α} {P:α→Prop} (h:jE Y P) (he:zG Y):∃ a,P a∧∀ {β:Type} (F:α→List Tok→PR β),Y.bind F=Y.un.bind fun _ r=>F a r:=by
 cases Y with
 | ok a r=>exact⟨a,h,fun F=>rfl⟩
 | bad r=>obtain⟨a,ha⟩:=h;exact⟨a,ha,fun F=>rfl⟩
 | deep r=>obtain⟨a,ha⟩:=h;exact⟨a,ha,fun F=>rfl⟩
 | out=>exact absurd he id
theorem pgK_fn {q:Nat} {p:Pr} {a:Pa} {z:PR Unit} (hc:¬ (a.type=1∧p.funcs=[]∧zS [91] z=true)):(z.bind fun _ r=>pgK q p a r)=(z.bind fun _ r=>uh q a.type a.name r).bind fun f r=>jg q ⟨p.arrays,p.funcs++[f]⟩ r:=by
 cases z with
 | ok u r=>
   show pgK q p a r=(uh q a.type a.name r).bind _
   unfold pgK
   exact congrArg id (if_neg hc)
 | _=>rfl
theorem pgK_arr {q:Nat} {p:Pr} {a:Pa} {r:List Tok} (h1:a.type=1) (h2:p.funcs=[]) (h3:z9 [91] r=true):pgK q p a r=(vc a.name r.tail).bind fun x r=>jg q ⟨p.arrays++[x],p.funcs⟩ r:=by
 unfold pgK
 rw[if_pos ⟨h1,h2,h3⟩]
theorem fits_at {α:Type} {b:Nat} {V:Value} {all r:List Tok} {W:World} {X:PR α} (hF:zg 1 r X) (hs:jS b V all X.un W) (hrl:r.length≤all.length) (hrp:0<r.length):
 2 * (all.length-yP b W)+vH b W<2 * r.length+1∧(zm X.un=false→all.length-r.length+1≤yP b W):=by
 cases X with
 | ok a r2=>
   have hp:zY b V all r2 false false W:=hs
   have hao:=qx hp
   have hl:=(show zL 1 r r2 from hF).2.2
   have hlv:=liveN_le b W
   exact⟨by omega,fun _=>by omega⟩
 | bad r2=>
   have hp:zY b V all r2 true false W:=hs
   have hao:=qx hp
   have hl:=(show zL 0 r r2 from hF).2.2
   have hlv:=uS hs rfl
   exact⟨by omega,fun h=>by cases h⟩
 | deep r2=>
   have hp:zY b V all r2 false true W:=hs
   have hao:=qx hp
   have hl:=(show zL 0 r r2 from hF).2.2
   have hlv:=uS hs rfl
   exact⟨by omega,fun h=>by cases h⟩
 | out=>exact absurd hs id
theorem pg_rel {α:Type} {b:Nat} {V:Value} {all r:List Tok} {w W:World} {va vf:Value} {ars:List Ar} {fs:List FuV} {T:PR Pr} {X:PR α} {q n:Nat} (hq:q≤n) (hF:zg 1 r X) (hP:PgAt b V all w X.un W va vf ars fs) (hT:T=X.un.bind fun _ r=>jg q ⟨ars,fs.map (·.f)⟩ r)
 (hrl:r.length≤all.length) (hrp:0<r.length) (hc:ars.length+fs.length≤all.length-r.length+1) (hal:all.length≤1000000):PgRel b V all w T n W∧2 * (all.length-yP b W)+vH b W<2 * r.length+1:=by
 obtain⟨h1,h2⟩:=fits_at hF hP.cur.st hrl hrp
 exact⟨⟨q,ars,fs,_,va,vf,hq,hP,hT,fun ho=>by have:=h2 ho;omega,by omega⟩,h1⟩
theorem parOne_live {r:List Tok} {a:Pa} {r1:List Tok} (h:(qh r).un=.ok () r1) (hg:jE (qh r) fun p=>p=a) (he:zw r):qh r=.ok a r1∧zL 1 r r1:=by
 obtain⟨a',h2⟩:=un_ok h
 have hF:=yK he
 rw[h2]at hg hF
 obtain rfl:a'=a:=hg
 exact⟨h2,hF⟩
theorem un_fits {α:Type} {k:Nat} {l:List Tok} {x:PR α} (h:zg k l x):zg k l x.un:=by
 cases x with
 | ok a r=>exact h
 | bad r=>exact h
 | deep r=>exact h
 | out=>trivial
theorem rvalue_is (s:ByteArray) (nv:Int) (w:World) (hs:s.size≤281474976710656) (hn:kO s.data.toList=true) (h:nv=(jH 0 s.data.toList:Nat)):
 Calls Tryd.prog 44 #[.string s] w fun e w'=>e=.returned (.int .i64 nv)∧w=w':=by
 subst h
 exact rvalue_num s w hs hn
set_option maxHeartbeats 6400000 in
theorem prog_any {b:Nat} {V:Value} {all:List Tok} {n:Nat} {x:PR Unit} {w:World} (h:jS b V all x w) (hn:zG (x.bind fun _ r=>jg n ⟨[],[]⟩ r)):
 Calls Tryd.prog 17 #[.pointer (some ⟨b,0,none⟩)] w (qM b V all w (x.bind fun _ r=>jg n ⟨[],[]⟩ r) (FrG w.heap.size)):=by
 obtain⟨T,hT⟩:∃ T,(x.bind fun _ r=>jg n ⟨[],[]⟩ r)=T:=⟨_,rfl⟩
 rw[hT]at hn ⊢
 have HTE:=hid hn
 have HT0:=hid hT.symm
 have HP:=hid (show PgAt b V all w x ((w.alloc vM).alloc vM) (.slice none 0 0) (.slice none 0 0) [] [] from⟨CurP.start h,OutK.nil _ _ _,OutK.nil _ _ _,fun _=>rfl⟩)
 have hbw:=h.lt
 clear h hn hT
 go_enter Tryd.func17,Tryd.ntmps17
 go_wp2
 go_loopw [4] (fun _ wr=>PgRel b V all w T n wr) (fun _ wr=>2 * (all.length-yP b wr)+vH b wr)
 case atStart=>exact⟨n,[],[],x,_,_,Nat.le_refl _,HP.out,HT0.out,fun _=>Nat.zero_le _,by simp⟩
 case round=>
  obtain⟨i0,hi0,hz0,hz1,hz2⟩:=info_parts ar_info
  have HI0:=hid (And.intro hi0 (And.intro hz0 (And.intro hz1 hz2)))
  obtain⟨i1,hi1,hy0,hy1,hy2⟩:=info_parts fu_info
  have HI1:=hid (And.intro hi1 (And.intro hy0 (And.intro hy1 hy2)))
  clear hi0 hz0 hz1 hz2 hi1 hy0 hy1 hy2
  obtain⟨m,ars,fs,y,va,vf,hmn,hP,hT,hacc,hac2⟩:=hrel
  replace HP:=hid hP
  cases ho:zm y with
  | true=>
    have HTT:=hid (show T=y.bind fun _ r=>.ok ⟨ars,fs.map (·.f)⟩ r from hT.trans (over_bind ho _ _))
    have HOV:=hid ho
    obtain⟨r0,bd,dp,hp,_,_⟩:=hP.cur.st.box
    obtain⟨g,c,k,t,q,rfl,rfl,hk,hklt,hl,b0,b1,b2,b3,t0,t1,t2⟩:=hp.tok
    have hklt2:(k:Int)<all.length:=by omega
    clear hk hp ho hT hacc hP
    go_wp2
    go_quiet ((go_at_call 40;exact Calls.quiet_of_same (zu (HP.out.drewN _).cur.st true HOV.out)))
    replace HP:=hid (HP.out.drewN nq)
    clear b0 b1 b2 b3 t0 t1 t2
    obtain⟨⟨p0,p1⟩,pz⟩:=HP.out.cur.f
    obtain⟨⟨q0,q1⟩,qz⟩:=HP.out.cur.own
    obtain⟨A0,cp0,rfl⟩:=HP.out.arr.form
    obtain⟨A1,cp1,rfl⟩:=HP.out.fnc.form
    go_wp2_with (fail)
    obtain⟨f0,f1⟩:=HP.out.cur.read
    refine bodyPost_ret (v:=.agg #[.slice A0 ars.length cp0,.slice A1 fs.length cp1]) (by simp[results,Tryd.results17,go_sem,f0,f1]) rfl ?_
    exact pg_end HP.out hac2 HTT.out
  | false=>
    obtain⟨r,rfl⟩:∃ r,y=.ok () r:=by
     cases y with
     | ok u r=>exact⟨r,rfl⟩
     | bad r=>cases ho
     | deep r=>cases ho
     | out=>exact absurd hP.cur.st id
    obtain⟨hat,hrl,hal,hen,hrp⟩:=xq hP.cur.did
    have hacc9:=hacc rfl
    rw[hat]at hacc9
    have hlv:=liveN_ok (show zY b V all r false false wr from hP.cur.st)
    obtain⟨q,rfl⟩:∃ q,m=q+1:=by
     cases m with
     | zero=>have h1:=HTE.out;rw[hT]at h1;exact absurd (show zG (jg 0 ⟨ars,fs.map (·.f)⟩ r) from h1) (by rw[jg];exact id)
     | succ q=>exact⟨q,rfl⟩
    have hT2:T=jg (q+1) ⟨ars,fs.map (·.f)⟩ r:=hT
    obtain⟨g,c,k,t,tq,rfl,htq,hk,hklt,hl,b0,b1,b2,b3,t0,t1,t2⟩:=(show zY b V all r false false wr from hP.cur.st).tok
    have hklt2:(k:Int)<all.length:=by omega
    have hkk:yQ r=t.kind:=by rw[htq];rfl
    cases hk3:decide (t.kind=3) with
    | true=>
      have e3:t.kind=3:=of_decide_eq_true hk3
      have hk0:(t.kind != 3)=false:=by simpa using hk3
      have HTT:=hid (show T=(PR.ok () r).bind fun _ r=>.ok ⟨ars,fs.map (·.f)⟩ r from hT2.trans (pPr_end (hkk.trans e3)))
      clear hk ho hT hT2 hacc hP hk3 e3 hlv hat hkk htq hen
      go_wp2
      go_quiet ((go_at_call 40;exact Calls.quiet_of_same (zu (HP.out.drewN _).cur.st false rfl)))
      replace HP:=hid (HP.out.drewN nq)
      clear b0 b1 b2 b3 t0 t1 t2
      obtain⟨⟨p0,p1⟩,pz⟩:=HP.out.cur.f
      obtain⟨⟨q0,q1⟩,qz⟩:=HP.out.cur.own
      obtain⟨A0,cp0,rfl⟩:=HP.out.arr.form
      obtain⟨A1,cp1,rfl⟩:=HP.out.fnc.form
      go_wp2_with (fail)
      obtain⟨f0,f1⟩:=HP.out.cur.read
      refine bodyPost_ret (v:=.agg #[.slice A0 ars.length cp0,.slice A1 fs.length cp1]) (by simp[results,Tryd.results17,go_sem,f0,f1]) rfl ?_
      exact pg_end HP.out hac2 HTT.out
    | false=>
      have e3:¬ t.kind=3:=of_decide_eq_false hk3
      have hk0:(t.kind != 3)=true:=by simpa using hk3
      have HT:=hid (hT2.trans (pPr_got (hkk ▸ e3)))
      have HEN:=hid hen
      have HAT:=hid hat
      have HLV:=hid hlv
      clear hk ho hT hT2 hacc hP hk3 e3 hlv hat hkk htq hen
      go_wp2
      go_quiet ((go_at_call 40;exact Calls.quiet_of_same (zu (HP.out.drewN _).cur.st false rfl)))
      replace HP:=hid (HP.out.drewN nq)
      clear b0 b1 b2 b3 t0 t1 t2
      go_wp2_with (first
       | (go_at_call 41;(with_reducible refine(vw HP.out.cur.st).mono ?_);rintro e w3 ⟨tv0,rfl,hD,hG⟩
          obtain⟨tv,rfl,hG2⟩:=ty_got (r:=r) hG
          have HGT:=hid hG2
          replace HP:=hid (show PgAt b _ all w (yt r).un w3 _ _ _ _ from HP.out.step hD)
          clear hD hG hG2))
      go_at_call 42
      (with_reducible refine(yJ HP.out.cur.st 1 (by decide)).mono ?_)
      rintro e w4 ⟨s',rfl,hD,hG⟩
      have HGS:=hid (parOne_got HGT.out hG)
      replace HP:=hid (show PgAt b _ all w (qh r).un w4 _ _ _ _ from(parOne_un r).symm ▸ HP.out.step hD)
      replace HT:=hid (HT.out.trans (got_eq HGS.out _))
      clear hD hG HGT
      have hbw4:=HP.out.cur.st.lt
      dsimp only
      by_cases hA:tv=1∧fs=[]∧zS [91] (qh r).un=true
      · obtain⟨rfl,rfl,h91⟩:=hA
        obtain⟨r1,hz,hs1⟩:=uP h91
        obtain⟨hp1,hR1⟩:=parOne_live hz HGS.out HEN.out
        have hvf:vf=.slice none 0 0:=HP.out.nil rfl
        subst hvf
        have hT3:T=(vc s' r1.tail).bind fun x r=>jg q ⟨ars++[x],[]⟩ r:=by
         rw[HT.out,hz]
         exact pgK_arr rfl rfl hs1
        rw[hz]at HP
        have hR2:zL 1 r r1.tail:=(hR1.trans (zL.sign hR1.2.1 hs1)).mono (by omega)
        obtain⟨r2,hr2⟩:∃ r2,r2=r1.tail:=⟨_,rfl⟩
        rw[←hr2]at hT3 hR2
        have HR2:=hid hr2
        have HRR:=hid hR2
        have HY:=hid (show zS (⟨#[91]⟩:ByteArray).data.toList (PR.ok () r1)=true from hs1)
        have HT3:=hid hT3
        have HEN2:=hid hR2.2.1
        obtain⟨⟨p0,p1⟩,pz⟩:=HP.out.cur.f
        clear hz hp1 hR1 hT3 hr2 hR2 hs1 h91
        by_cases hnum:yQ r2=0
        · obtain⟨sn,hsn⟩:∃ sn:ByteArray,sn=⟨(hdT r2).toArray⟩:=⟨_,rfl⟩
          have HSN:=hid hsn
          have HNUM:=hid hnum
          have HNB:=hid (show sn.size≤281474976710656∧kO sn.data.toList=true by
           rw[hsn]
           have hp2:zY b _ all r1 false false w4:=HP.out.cur.st
           have hp3:=(zY.next hp2 (by rw[(vd (show z9 [91] r1=true from HY.out)).1];decide))
           rw[←HR2.out]at hp3
           obtain⟨h1,h2,_⟩:=hp3.num hnum
           exact⟨h1,h2⟩)
          obtain⟨nv,hnv⟩:∃ nv:Int,nv=(jH 0 sn.data.toList:Nat):=⟨_,rfl⟩
          have HNV:=hid hnv
          have HTY:=hid (show T=((((PR.ok () r2.tail).bind fun _ r=>zI [93] r).bind fun _ r=>zI [59] r)).un.bind fun _ r=>jg q ⟨ars++[⟨s',nv⟩],([]:List FuV).map (·.f)⟩ r by
           rw[HT3.out,un_unit,hnv,hsn]
           unfold vc zy
           rw[if_pos hnum]
           show ((zI [93] r2.tail).bind fun _ r=>(zI [59] r).bind fun _ r=>PR.ok _ r).bind _=((zI [93] r2.tail).bind fun _ r=>zI [59] r).bind _
           simp only[zW]
           rfl)
          clear hsn hnum hnv
          go_wp2_with (first
          | (go_at_call 43;(with_reducible refine(zl HP.out.cur.st _ HY.out).mono ?_);rintro e w5 ⟨rfl,hD⟩
             replace HP:=hid (show PgAt b _ all w (.ok () r2) w5 _ _ _ _ by rw[HR2.out];exact HP.out.step hD)
             clear hD)
          | (go_at_call 42;(with_reducible refine(text_yes HP.out.cur.st 0 (by decide) HNUM.out sn HSN.out).mono ?_);rintro e w6 ⟨rfl,hD⟩
             replace HP:=hid (show PgAt b _ all w (.ok () r2.tail) w6 _ _ _ _ from HP.out.step hD)
             clear hD)
          | (go_at_call 44;(with_reducible refine(rvalue_is sn _ _ HNB.out.1 HNB.out.2 HNV.out).mono ?_);rintro e w6 ⟨rfl,rfl⟩)
          | (go_at_call 45;(with_reducible refine(zb HP.out.cur.st ⟨#[93]⟩).mono ?_);rintro e w7 ⟨rfl,hD⟩
             replace HP:=hid (show PgAt b _ all w ((PR.ok () r2.tail).bind fun _ r=>zI [93] r) w7 _ _ _ _ from HP.out.step hD)
             clear hD)
          | (go_at_call 45;(with_reducible refine(zb HP.out.cur.st ⟨#[59]⟩).mono ?_);rintro e w8 ⟨rfl,hD⟩
             replace HP:=hid (show PgAt b _ all w (((PR.ok () r2.tail).bind fun _ r=>zI [93] r).bind fun _ r=>zI [59] r) w8 _ _ _ _ from HP.out.step hD)
             obtain⟨⟨p0,p1⟩,pz⟩:=HP.out.cur.f
             obtain⟨A0,cp0,rfl⟩:=HP.out.arr.form
             have HPRE:=hid (HP.out.arr.pre [.string s',.int .i64 (nv)] (by have:=HP.out.cur.size;omega))
             clear hD)
          | (at_builtin;refine kZ rfl (.tmp 48) (.tmp 52) _ rfl (w.heap.size+2) 85 i0 _ 2 24 Tryd.underlying23 HI0.out.1 HI0.out.2.1 HI0.out.2.2.1 HI0.out.2.2.2 rfl (by omega) (.slice A0 ars.length cp0) ars.length _ rfl (by exact HPRE.out.1) ⟨w8.heap.size,0,none⟩ 1 1 [.string s',.int .i64 (nv)] rfl rfl (by exact HPRE.out.2.1) (by simp[Value.oneCell']) (by simp only[maxLen];omega) (by omega) (by exact HPRE.out.2.2) (by omega) ?_
             intro v1 w9 hown1 hg1 hr1
             obtain⟨A1,cp1,rfl⟩:=kX hown1
             have HX1:=hid (HP.out.array (a:=⟨s',nv⟩) hg1 hr1 hown1)
             have fz9:=HX1.out.1.f.2
             have k9:=HX1.out.1.f.1.1
             clear hown1 hg1 hr1))
          have HZ:=hid (pg_rel (q:=q) (n:=n) (X:=((PR.ok () r2.tail).bind fun _ r=>zI [93] r).bind fun _ r=>zI [59] r) (by omega) (zg.from HRR.out (zg.from (n:=0) (zL.tail HEN2.out (by rw[HNUM.out];decide)) ((zO (HEN2.out.tail (by rw[HNUM.out];decide)) _).bind (m:=0) (n:=0) (fun _ r _ hr=>(zO hr _).mono (by omega)) (by omega)) (by omega)) (by omega)) (un_unit (((PR.ok () r2.tail).bind fun _ r=>zI [93] r).bind fun _ r=>zI [59] r) ▸ HX1.out.2) HTY.out hrl hrp (by simp at hacc9 ⊢;omega) hal)
          go_roundw
          case rel=>exact HZ.out.1
          case measure=>
           have h1:=HZ.out.2
           have h2:=HAT.out
           have h3:=HLV.out
           simp only[h2,h3]at *
           omega
        · have HNUM:=hid hnum
          have HTY:=hid (show T=((((PR.bad r2:PR Unit).bind fun _ r=>zI [93] r).bind fun _ r=>zI [59] r)).un.bind fun _ r=>jg q ⟨ars++[⟨s',-1⟩],([]:List FuV).map (·.f)⟩ r by
           rw[HT3.out]
           unfold vc zy
           rw[if_neg hnum]
           rfl)
          clear hnum
          go_wp2_with (first
          | (go_at_call 43;(with_reducible refine(zl HP.out.cur.st _ HY.out).mono ?_);rintro e w5 ⟨rfl,hD⟩
             replace HP:=hid (show PgAt b _ all w (.ok () r2) w5 _ _ _ _ by rw[HR2.out];exact HP.out.step hD)
             clear hD)
          | (go_at_call 42;(with_reducible refine(text_nil HP.out.cur.st 0 HNUM.out).mono ?_);rintro e w6 ⟨rfl,hD⟩
             replace HP:=hid (show PgAt b _ all w (.bad r2) w6 _ _ _ _ from HP.out.step hD)
             clear hD)
          | (go_at_call 44;(with_reducible refine(rvalue_nil _).mono ?_);rintro e w6 ⟨rfl,rfl⟩)
          | (go_at_call 45;(with_reducible refine(zb HP.out.cur.st ⟨#[93]⟩).mono ?_);rintro e w7 ⟨rfl,hD⟩
             replace HP:=hid (show PgAt b _ all w ((PR.bad r2:PR Unit).bind fun _ r=>zI [93] r) w7 _ _ _ _ from HP.out.step hD)
             clear hD)
          | (go_at_call 45;(with_reducible refine(zb HP.out.cur.st ⟨#[59]⟩).mono ?_);rintro e w8 ⟨rfl,hD⟩
             replace HP:=hid (show PgAt b _ all w (((PR.bad r2:PR Unit).bind fun _ r=>zI [93] r).bind fun _ r=>zI [59] r) w8 _ _ _ _ from HP.out.step hD)
             obtain⟨⟨p0,p1⟩,pz⟩:=HP.out.cur.f
             obtain⟨A0,cp0,rfl⟩:=HP.out.arr.form
             have HPRE:=hid (HP.out.arr.pre [.string s',.int .i64 (-1)] (by have:=HP.out.cur.size;omega))
             clear hD)
          | (at_builtin;refine kZ rfl (.tmp 48) (.tmp 52) _ rfl (w.heap.size+2) 85 i0 _ 2 24 Tryd.underlying23 HI0.out.1 HI0.out.2.1 HI0.out.2.2.1 HI0.out.2.2.2 rfl (by omega) (.slice A0 ars.length cp0) ars.length _ rfl (by exact HPRE.out.1) ⟨w8.heap.size,0,none⟩ 1 1 [.string s',.int .i64 (-1)] rfl rfl (by exact HPRE.out.2.1) (by simp[Value.oneCell']) (by simp only[maxLen];omega) (by omega) (by exact HPRE.out.2.2) (by omega) ?_
             intro v1 w9 hown1 hg1 hr1
             obtain⟨A1,cp1,rfl⟩:=kX hown1
             have HX1:=hid (HP.out.array (a:=⟨s',-1⟩) hg1 hr1 hown1)
             have fz9:=HX1.out.1.f.2
             have k9:=HX1.out.1.f.1.1
             clear hown1 hg1 hr1))
          have HZ:=hid (pg_rel (q:=q) (n:=n) (X:=((PR.bad r2:PR Unit).bind fun _ r=>zI [93] r).bind fun _ r=>zI [59] r) (by omega) (show zL 0 r r2 from HRR.out.mono (by omega)) (un_unit (((PR.bad r2:PR Unit).bind fun _ r=>zI [93] r).bind fun _ r=>zI [59] r) ▸ HX1.out.2) HTY.out hrl hrp (by simp at hacc9 ⊢;omega) hal)
          go_roundw
          case rel=>exact HZ.out.1
          case measure=>
           have h1:=HZ.out.2
           have h2:=HAT.out
           have h3:=HLV.out
           simp only[h2,h3]at *
           omega
      · have hT4:=HT.out.trans (pgK_fn (q:=q) (p:=⟨ars,fs.map (·.f)⟩) (a:=⟨s',tv⟩) (z:=(qh r).un) (fun h=>hA ⟨h.1,by simpa using h.2.1,h.2.2⟩))
        have HT4:=hid hT4
        have HNF:=hid (show zG ((qh r).un.bind fun _ r=>uh q tv s' r) by have h1:=HTE.out;rw[hT4]at h1;exact zv h1)
        clear hT4
        obtain⟨⟨p0,p1⟩,pz⟩:=HP.out.cur.f
        by_cases h1:tv=1
        · subst h1
          cases fs with
          | nil=>
            have hvf:vf=.slice none 0 0:=HP.out.nil rfl
            subst hvf
            obtain⟨fs,hfs⟩:∃ fs:List FuV,fs=[]:=⟨_,rfl⟩
            rw[←hfs]at HP HT4 hacc9 hac2
            clear hfs
            have HY:=hid (show zS (⟨#[91]⟩:ByteArray).data.toList (qh r).un=false by
             cases h:zS [91] (qh r).un with
             | true=>exact absurd ⟨rfl,rfl,h⟩ hA
             | false=>rfl)
            clear hA
            go_wp2_with (first
             | (go_at_call 43;(with_reducible refine(zF HP.out.cur.st _ HY.out).mono ?_);rintro e w5 ⟨rfl,hD⟩
                replace HP:=hid (HP.out.step hD)
                obtain⟨⟨p0,p1⟩,pz⟩:=HP.out.cur.f
                clear hD))
            have HPO:=hid HP.out.fnc.own
            go_region_law (first
             | (refine k8 rfl (.tmp 56) (.tmp 61) _ rfl (w.heap.size+2) 39 i1 _ 4 72 Tryd.underlying24 HI1.out.1 HI1.out.2.1 HI1.out.2.2.1 HI1.out.2.2.2 rfl (by omega) (.slice none 0 0) fs.length _ rfl (by exact HPRE.out.1) ⟨w6.heap.size,0,none⟩ 1 1 [.string sF,.int .i64 tF,.slice A2 m2 q2,.slice A3 m3 q3] rfl rfl (by exact HPRE.out.2.1) (by simp[Value.oneCell']) (by simp only[maxLen];omega) (by omega) (by exact HPRE.out.2.2) (by omega) ?_
                intro v1 w7 hown1 hg1 hr1
                obtain⟨A4,cp4,rfl⟩:=kX hown1
                have HX1:=hid (HP6.out.func (L:=w5.heap.size) hg1 hr1 hown1 HL6.out fun k hk=>(HPO.out k hk).1)
                have hk7:w7.cell? ⟨w.heap.size+1,1,none⟩=some (.slice none 0 0):=HX1.out.1.f.1.2
                have fz7:=HX1.out.1.f.2
                clear hown1 hg1 hr1)
             | (go_simp;go_at_call 46;(refine(pfn_any HP.out.drew.cur.st HNF.out).mono ?_);rintro e w6 ⟨v,rfl,hD,hG⟩
                obtain⟨sF,tF,A2,m2,q2,A3,m3,q3,rfl⟩:=gotf_form hG HNF.out
                have HG:=hid hG
                have HP6:=hid (HP.out.drew.step hD)
                have HL6:=hid (show w.heap.size+2≤w5.heap.size from HP.out.cur.size)
                have hk7:w6.cell? ⟨w.heap.size+1,1,none⟩=some (.slice none 0 0):=HP6.out.cur.f.1.2
                have hk8:(w6.alloc (.cells #[.string sF,.int .i64 tF,.slice A2 m2 q2,.slice A3 m3 q3] 39)).cell? ⟨w.heap.size+1,1,none⟩=some (.slice none 0 0):=(HP6.out.cur.alloc _).f.1.2
                have fz6:=HP6.out.cur.f.2
                have HPRE:=hid (HP6.out.fnc.pre [.string sF,.int .i64 tF,.slice A2 m2 q2,.slice A3 m3 q3] (by have:=HP6.out.cur.size;omega))
                clear hD hG))
            all_goals
             go_wp2
             have HGP:=hid (got_pick HG.out HNF.out)
             have HZ:=hid (show PgRel b _ all w T n _∧2 * (all.length-yP b _)+vH b _<2 * r.length+1 by
              obtain⟨f,hf,hF⟩:=HGP.out
              obtain⟨qf,hqf,hP9⟩:=HX1.out.2 f hf
              refine pg_rel (q:=q) (X:=(qh r).un.bind fun _ r=>uh q 1 s' r) (by omega) ?_ hP9 ?_ hrl hrp (by simp at hacc9 ⊢;omega) hal
              · exact(un_fits (yK HEN.out)).bind (m:=0) (fun _ r _ hr=>(pFn_fits hr).mono (by omega)) (by omega)
              · rw[HT4.out,hF,List.map_append,←hqf]
                rfl)
             go_roundw
             case rel=>exact HZ.out.1
             case measure=>
              have h1:=HZ.out.2
              have h2:=HAT.out
              have h3:=HLV.out
              simp only[h2,h3]at *
              omega
          | cons f0 ft=>
            obtain⟨fs,hfs⟩:∃ fs,fs=f0 :: ft:=⟨_,rfl⟩
            have hfl:0<fs.length:=by rw[hfs];simp
            rw[←hfs]at HP HT4 hacc9 hac2
            have hfl2:((fs.length:Int) == 0)=false:=by rw[beq_eq_false_iff_ne];omega
            obtain⟨A1,cp1,rfl⟩:=HP.out.fnc.form
            clear hA hfs
            go_wp2_with (fail)
            have HPO:=hid HP.out.fnc.own
            go_region_law (first
             | (refine k8 rfl (.tmp 56) (.tmp 61) _ rfl (w.heap.size+2) 39 i1 _ 4 72 Tryd.underlying24 HI1.out.1 HI1.out.2.1 HI1.out.2.2.1 HI1.out.2.2.2 rfl (by omega) (.slice A1 fs.length cp1) fs.length _ rfl (by exact HPRE.out.1) ⟨w6.heap.size,0,none⟩ 1 1 [.string sF,.int .i64 tF,.slice A2 m2 q2,.slice A3 m3 q3] rfl rfl (by exact HPRE.out.2.1) (by simp[Value.oneCell']) (by simp only[maxLen];omega) (by omega) (by exact HPRE.out.2.2) (by omega) ?_
                intro v1 w7 hown1 hg1 hr1
                obtain⟨A4,cp4,rfl⟩:=kX hown1
                have HX1:=hid (HP6.out.func (L:=w4.heap.size) hg1 hr1 hown1 HL6.out fun k hk=>(HPO.out k hk).1)
                have hk7:w7.cell? ⟨w.heap.size+1,1,none⟩=some (.slice A1 fs.length cp1):=HX1.out.1.f.1.2
                have fz7:=HX1.out.1.f.2
                clear hown1 hg1 hr1)
             | (go_simp;go_at_call 46;(refine(pfn_any HP.out.drew.cur.st HNF.out).mono ?_);rintro e w6 ⟨v,rfl,hD,hG⟩
                obtain⟨sF,tF,A2,m2,q2,A3,m3,q3,rfl⟩:=gotf_form hG HNF.out
                have HG:=hid hG
                have HP6:=hid (HP.out.drew.step hD)
                have HL6:=hid (show w.heap.size+2≤w4.heap.size from HP.out.cur.size)
                have hk7:w6.cell? ⟨w.heap.size+1,1,none⟩=some (.slice A1 fs.length cp1):=HP6.out.cur.f.1.2
                have hk8:(w6.alloc (.cells #[.string sF,.int .i64 tF,.slice A2 m2 q2,.slice A3 m3 q3] 39)).cell? ⟨w.heap.size+1,1,none⟩=some (.slice A1 fs.length cp1):=(HP6.out.cur.alloc _).f.1.2
                have fz6:=HP6.out.cur.f.2
                have HPRE:=hid (HP6.out.fnc.pre [.string sF,.int .i64 tF,.slice A2 m2 q2,.slice A3 m3 q3] (by have:=HP6.out.cur.size;omega))
                clear hD hG))
            all_goals
             go_wp2
             have HGP:=hid (got_pick HG.out HNF.out)
             have HZ:=hid (show PgRel b _ all w T n _∧2 * (all.length-yP b _)+vH b _<2 * r.length+1 by
              obtain⟨f,hf,hF⟩:=HGP.out
              obtain⟨qf,hqf,hP9⟩:=HX1.out.2 f hf
              refine pg_rel (q:=q) (X:=(qh r).un.bind fun _ r=>uh q 1 s' r) (by omega) ?_ hP9 ?_ hrl hrp (by simp at hacc9 ⊢;omega) hal
              · exact(un_fits (yK HEN.out)).bind (m:=0) (fun _ r _ hr=>(pFn_fits hr).mono (by omega)) (by omega)
              · rw[HT4.out,hF,List.map_append,←hqf]
                rfl)
             go_roundw
             case rel=>exact HZ.out.1
             case measure=>
              have h1:=HZ.out.2
              have h2:=HAT.out
              have h3:=HLV.out
              simp only[h2,h3]at *
              omega
        · have h1b:(tv == 1)=false:=by simpa using h1
          obtain⟨A1,cp1,rfl⟩:=HP.out.fnc.form
          clear hA h1
          go_wp2_with (fail)
          have HPO:=hid HP.out.fnc.own
          go_region_law (first
           | (refine k8 rfl (.tmp 56) (.tmp 61) _ rfl (w.heap.size+2) 39 i1 _ 4 72 Tryd.underlying24 HI1.out.1 HI1.out.2.1 HI1.out.2.2.1 HI1.out.2.2.2 rfl (by omega) (.slice A1 fs.length cp1) fs.length _ rfl (by exact HPRE.out.1) ⟨w6.heap.size,0,none⟩ 1 1 [.string sF,.int .i64 tF,.slice A2 m2 q2,.slice A3 m3 q3] rfl rfl (by exact HPRE.out.2.1) (by simp[Value.oneCell']) (by simp only[maxLen];omega) (by omega) (by exact HPRE.out.2.2) (by omega) ?_
              intro v1 w7 hown1 hg1 hr1
              obtain⟨A4,cp4,rfl⟩:=kX hown1
              have HX1:=hid (HP6.out.func (L:=w4.heap.size) hg1 hr1 hown1 HL6.out fun k hk=>(HPO.out k hk).1)
              have hk7:w7.cell? ⟨w.heap.size+1,1,none⟩=some (.slice A1 fs.length cp1):=HX1.out.1.f.1.2
              have fz7:=HX1.out.1.f.2
              clear hown1 hg1 hr1)
           | (go_simp;go_at_call 46;(refine(pfn_any HP.out.drew.cur.st HNF.out).mono ?_);rintro e w6 ⟨v,rfl,hD,hG⟩
              obtain⟨sF,tF,A2,m2,q2,A3,m3,q3,rfl⟩:=gotf_form hG HNF.out
              have HG:=hid hG
              have HP6:=hid (HP.out.drew.step hD)
              have HL6:=hid (show w.heap.size+2≤w4.heap.size from HP.out.cur.size)
              have hk7:w6.cell? ⟨w.heap.size+1,1,none⟩=some (.slice A1 fs.length cp1):=HP6.out.cur.f.1.2
              have hk8:(w6.alloc (.cells #[.string sF,.int .i64 tF,.slice A2 m2 q2,.slice A3 m3 q3] 39)).cell? ⟨w.heap.size+1,1,none⟩=some (.slice A1 fs.length cp1):=(HP6.out.cur.alloc _).f.1.2
              have fz6:=HP6.out.cur.f.2
              have HPRE:=hid (HP6.out.fnc.pre [.string sF,.int .i64 tF,.slice A2 m2 q2,.slice A3 m3 q3] (by have:=HP6.out.cur.size;omega))
              clear hD hG))
          all_goals
           go_wp2
           have HGP:=hid (got_pick HG.out HNF.out)
           have HZ:=hid (show PgRel b _ all w T n _∧2 * (all.length-yP b _)+vH b _<2 * r.length+1 by
            obtain⟨f,hf,hF⟩:=HGP.out
            obtain⟨qf,hqf,hP9⟩:=HX1.out.2 f hf
            refine pg_rel (q:=q) (X:=(qh r).un.bind fun _ r=>uh q tv s' r) (by omega) ?_ hP9 ?_ hrl hrp (by simp at hacc9 ⊢;omega) hal
            · exact(un_fits (yK HEN.out)).bind (m:=0) (fun _ r _ hr=>(pFn_fits hr).mono (by omega)) (by omega)
            · rw[HT4.out,hF,List.map_append,←hqf]
              rfl)
           go_roundw
           case rel=>exact HZ.out.1
           case measure=>
            have h1:=HZ.out.2
            have h2:=HAT.out
            have h3:=HLV.out
            simp only[h2,h3]at *
            omega
theorem spanN_take (l:List UInt8):l.takeWhile zd=l.take (ko l):=List.prefix_iff_eq_take.1 (List.takeWhile_prefix _)
theorem one_span {l:List UInt8} (h:0<ko l):one l=(jR (l.take (ko l))).map fun k=>(k,l.take (ko l)):=by
 unfold one
 rw[if_pos (by intro e;have:ko l=0:=by unfold ko;rw[e];rfl
               omega),spanN_take]
theorem one_sign {l:List UInt8} (h:ko l=0):one l=if kQ l≠[] then some (2,kQ l) else none:=by
 unfold one
 rw[if_neg (by rw[spanN_take,h];simp)]
theorem signL_prefix (l:List UInt8):l.take (kQ l).length=kQ l:=by
 have h:(kQ l).isPrefixOf l=true:=by
  unfold kQ
  cases hf:zn.find? (fun t=>Lib.hasPrefix l t) with
  | none=>simp
  | some t=>exact List.find?_some (p:=fun t=>Lib.hasPrefix l t) hf
 exact(List.prefix_iff_eq_take.1 (List.isPrefixOf_iff_prefix.1 h)).symm
theorem signL_le (l:List UInt8):(kQ l).length≤l.length:=by
 have:=congrArg List.length (signL_prefix l)
 rw[List.length_take]at this
 omega
theorem vT.below {w w':World} {B:Nat} {v:Value} {ts:List Tok} (h:vT w B v ts) (hb:Below w.heap.size w w'):vT w' B v ts:=yZ h hb (Nat.le_refl _)
theorem one_take {l:List UInt8} {k:Int} {t:List UInt8} (h:one l=some (k,t)):l.take t.length=t∧0<t.length∧t.length≤l.length:=by
 by_cases h0:0<ko l
 · rw[one_span h0]at h
   obtain⟨k',_,e⟩:=Option.map_eq_some_iff.1 h
   injection e with e1 e2
   subst e2
   have:=spanN_le l
   rw[List.length_take]
   exact⟨by rw[Nat.min_eq_left this],by omega,by omega⟩
 · rw[one_sign (by omega)]at h
   split at h
   · rename_i hne
     injection h with h
     injection h with e1 e2
     subst e2
     exact⟨signL_prefix l,List.length_pos_iff.2 hne,signL_le l⟩
   · cases h
def xI (w:World) (l:List UInt8) (e:Ending) (w':World):Prop:=
 Below w.heap.size w w'∧match (zN l 1).2 with
  | none=>∃ v,e=.returned (.tuple #[v,.int .i64 0,.int .i64 0])∧vT w' w.heap.size v (zN l 1).1
  | some ln=>e=.returned (.tuple #[.slice none 0 0,.int .i64 20,.int .i64 (ln:Int)])
theorem vT.nil (w:World) (B:Nat):vT w B (.slice none 0 0) []:=⟨rfl,.inl ⟨rfl,rfl⟩⟩
theorem scan_one {l:List UInt8} {line:Nat} {k:Int} {t:List UInt8} (hg:uk l=0) (h:one l=some (k,t)):
 zN l line=(⟨k,t,line⟩ :: (zN (l.drop t.length) line).1,(zN (l.drop t.length) line).2):=by
 obtain⟨_,h1,h2⟩:=one_take h
 cases l with
 | nil=>rw[List.length_nil]at h2;omega
 | cons c r=>
   rw[scan_step hg,h]
   have e:(c :: r).drop t.length=r.drop (t.length-1):=by
    obtain⟨m,hm⟩:∃ m,t.length=m+1:=⟨t.length-1,by omega⟩
    rw[hm,List.drop_succ_cons]
    rfl
   rw[e]
theorem scan_bad {l:List UInt8} {line:Nat} (hg:uk l=0) (hn:l≠[]) (h:one l=none):zN l line=([],some line):=by
 cases l with
 | nil=>exact absurd rfl hn
 | cons c r=>rw[scan_step hg,h]
theorem scan_end (line:Nat):zN [] line=([⟨3,[],line⟩],none):=by rw[zN]
end Go.Proofs.YtndgkfkieogplaaDoor
