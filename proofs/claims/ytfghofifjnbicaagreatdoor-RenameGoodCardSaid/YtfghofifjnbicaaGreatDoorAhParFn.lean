import Derived.Test.YtfghofifjnbicaaGreatDoorAhZed
import Derived.Test.YtfghofifjnbicaaGreatDoorAhParBlk
import Derived.Deep.RegionHeld3
import Derived.Test.YtfghofifjnbicaaGreatDoorAhRnDx
import Derived.Deep.RegionLaw
import Derived.Test.YtfghofifjnbicaaGreatDoorAhTokRefA
set_option linter.unusedSimpArgs false
set_option linter.unusedVariables false
set_option maxRecDepth 100000
/- The document's parser: a function behind its name. (By tools/gen_parfn.py.) -/
namespace Go.Proofs.YtfghofifjnbicaaGreatDoor
open Lib (hid)
open Go.RowKit
def FrPs (L:Nat) (w:World) (a:List Pa) (v:Value):Prop:=SlP w.heap.size (mask (yd L) w) v a
theorem FrPs.keep {L M:Nat} {w w':World} {a:List Pa} {v:Value} (h:FrPs L w a v) (k:zD L w w') (hM:M≤L):FrPs M w' a v:=SlP.imp (k.cells hM) h
theorem FrPs.form {L:Nat} {w:World} {a:List Pa} {v:Value} (h:FrPs L w a v):∃ A c,v=.slice A a.length c:=by
 obtain⟨A,c,hv,_⟩:=SlP.form h;exact⟨A,c,hv⟩
def FrF (L:Nat) (w:World) (a:Fu) (v:Value):Prop:=∃ v2 v3,v=.agg #[.string a.name,.int .i64 a.type,v2,v3]∧FrPs L w a.params v2∧zT L w a.body v3
theorem FrF.form {L:Nat} {w:World} {a:Fu} {v:Value} (h:FrF L w a v):∃ s t A2 m2 c2 A3 m3 c3,v=.agg #[.string s,.int .i64 t,.slice A2 m2 c2,.slice A3 m3 c3]:=by
 obtain⟨v2,v3,hv,h2,h3⟩:=h;obtain⟨A2,c2,rfl⟩:=h2.form;obtain⟨A3,c3,rfl,_⟩:=h3.form;exact⟨_,_,_,_,_,_,_,_,hv⟩
theorem gotf_form {L:Nat} {w:World} {x:PR Fu} {v:Value} (h:qn x fun a=>FrF L w a v) (he:zG x):∃ s t A2 m2 c2 A3 m3 c3,v=.agg #[.string s,.int .i64 t,.slice A2 m2 c2,.slice A3 m3 c3]:=by
 obtain⟨a,ha⟩:=h.some he;exact ha.form
abbrev fnBox:Obj:=.cells #[.string ⟨#[]⟩,.int .i64 0,.slice none 0 0,.slice none 0 0] 45
abbrev nest4 (W:World) (g:Nat) (c0 c1 c2 c3:Value):World:=(((W.setCell ⟨g,0,none⟩ c0).setCell ⟨g,1,none⟩ c1).setCell ⟨g,2,none⟩ c2).setCell ⟨g,3,none⟩ c3
theorem nest4_row {W:World} {g:Nat} {d0 d1 d2 d3:Value} {T:TypeId} {fr:Nat × Nat} (hb:W.heap[g]? =some (.cells #[d0,d1,d2,d3] T fr)) (c0 c1 c2 c3:Value):(nest4 W g c0 c1 c2 c3).heap[g]? =some (.cells #[c0,c1,c2,c3] T fr):=
 Lib.heap_setCell_same (Lib.heap_setCell_same (Lib.heap_setCell_same (Lib.heap_setCell_same hb c0) c1) c2) c3
theorem zD.nest4 {L g:Nat} {w:World} (hg:g<L) (c0 c1 c2 c3:Value):zD L w (nest4 w g c0 c1 c2 c3):=
 (((zD.set hg 0 c0).trans (zD.set hg 1 c1)).trans (zD.set hg 2 c2)).trans (zD.set hg 3 c3)
theorem xm {W:World} {g:Nat} {c0 c1 c2 c3:Value} {T:TypeId} (h:W.heap[g]? =some (.cells #[c0,c1,c2,c3] T (0,0))):
 (W.cell? ⟨g,0,none⟩=some c0∧W.cell? ⟨g,1,none⟩=some c1∧W.cell? ⟨g,2,none⟩=some c2∧W.cell? ⟨g,3,none⟩=some c3)∧∀ o,W.frozen? ⟨g,o,none⟩=false:=by
 refine⟨⟨(Lib.cell_of_heap h 0).trans rfl,(Lib.cell_of_heap h 1).trans rfl,(Lib.cell_of_heap h 2).trans rfl,(Lib.cell_of_heap h 3).trans rfl⟩,fun o=>?_⟩;simp[World.frozen?,h]
theorem qY.nest4 {b:Nat} {V:Value} {all:List Tok} {x:PR Unit} {w W:World} (h:qY b V all w x W) (ht:vy b V all w) {g:Nat} (hg:w.heap.size≤g) (hb:g≠b) (c0 c1 c2 c3:Value):qY b V all w x (nest4 W g c0 c1 c2 c3):=
 (((h.set ht hg hb 0 c0).set ht hg hb 1 c1).set ht hg hb 2 c2).set ht hg hb 3 c3
def qZ (b:Nat) (V:Value) (all:List Tok) (w:World) (x:PR Unit) (W:World) (c0 c1 c2 c3:Value):Prop:=
 qY b V all w x W∧W.heap[w.heap.size]? =some fnBox∧W.heap[w.heap.size+1]? =some (.cells #[c0,c1,c2,c3] 45 (0,0))∧vy b V all w∧b<w.heap.size
section
variable {b:Nat} {V:Value} {all:List Tok} {w W W':World} {x y:PR Unit} {c0 c1 c2 c3:Value}
theorem qZ.start (h:qx b V all x w) (s:ByteArray) (t:Int):qZ b V all w x ((w.alloc fnBox).alloc (.cells #[.string s,.int .i64 t,.slice none 0 0,.slice none 0 0] 45)) (.string s) (.int .i64 t) (.slice none 0 0) (.slice none 0 0):=by
 have hb:Below w.heap.size w ((w.alloc fnBox).alloc (.cells #[.string s,.int .i64 t,.slice none 0 0,.slice none 0 0] 45)):=(Zb.alloc Zr _).alloc (by rw[zA];omega) _;refine⟨⟨h.below hb,OffB.of_below hb h.lt⟩,zc (heap_alloc_new w fnBox) _,?_,h.tok,h.lt⟩;have:=heap_alloc_new (w.alloc fnBox) (.cells #[.string s,.int .i64 t,.slice none 0 0,.slice none 0 0] 45);rw[zA]at this;exact this
theorem qZ.did (h:qZ b V all w x W c0 c1 c2 c3):qY b V all w x W:=h.1
theorem qZ.st (h:qZ b V all w x W c0 c1 c2 c3):qx b V all x W:=h.1.1
theorem qZ.lt (h:qZ b V all w x W c0 c1 c2 c3):b<w.heap.size:=h.2.2.2.2
theorem qZ.size (h:qZ b V all w x W c0 c1 c2 c3):w.heap.size+1<W.heap.size:=(Array.getElem?_eq_some_iff.1 h.2.2.1).1
theorem qZ.step (h:qZ b V all w x W c0 c1 c2 c3) (g:qY b V all W y W'):qZ b V all w y W' c0 c1 c2 c3:=
 ⟨h.1.after g,qW g.off (by have:=h.size;omega) (by have:=h.lt;omega) h.2.1,qW g.off h.size (by have:=h.lt;omega) h.2.2.1,h.2.2.2⟩
theorem qZ.alloc (h:qZ b V all w x W c0 c1 c2 c3) (o:Obj):qZ b V all w x (W.alloc o) c0 c1 c2 c3:=⟨h.1.alloc o,zc h.2.1 o,zc h.2.2.1 o,h.2.2.2⟩
theorem qZ.drew (h:qZ b V all w x W c0 c1 c2 c3):qZ b V all w x W.drew c0 c1 c2 c3:=h.step ⟨h.st.below Zb.drew,OffB.of_below Zb.drew h.st.lt⟩
theorem qZ.own (h:qZ b V all w x W c0 c1 c2 c3):(W.cell? ⟨w.heap.size,0,none⟩=some (.string ⟨#[]⟩)∧W.cell? ⟨w.heap.size,1,none⟩=some (.int .i64 0)∧W.cell? ⟨w.heap.size,2,none⟩=some (.slice none 0 0)∧W.cell? ⟨w.heap.size,3,none⟩=some (.slice none 0 0))∧∀ o,W.frozen? ⟨w.heap.size,o,none⟩=false:=xm h.2.1
theorem qZ.f (h:qZ b V all w x W c0 c1 c2 c3):(W.cell? ⟨w.heap.size+1,0,none⟩=some c0∧W.cell? ⟨w.heap.size+1,1,none⟩=some c1∧W.cell? ⟨w.heap.size+1,2,none⟩=some c2∧W.cell? ⟨w.heap.size+1,3,none⟩=some c3)∧∀ o,W.frozen? ⟨w.heap.size+1,o,none⟩=false:=xm h.2.2.1
theorem qZ.set (h:qZ b V all w x W c0 c1 c2 c3) (i:Nat) (u:Value):qY b V all w x (W.setCell ⟨w.heap.size+1,i,none⟩ u)∧(W.setCell ⟨w.heap.size+1,i,none⟩ u).heap[w.heap.size]? =some fnBox:=
 ⟨h.1.set h.2.2.2.1 (by omega) (by have:=h.lt;omega) i u,(Below.heap_setCell W _ u _ (by show w.heap.size≠w.heap.size+1;omega)).trans h.2.1⟩
theorem qZ.set2 (h:qZ b V all w x W c0 c1 c2 c3) (u:Value):qZ b V all w x (W.setCell ⟨w.heap.size+1,2,none⟩ u) c0 c1 u c3:=⟨(h.set 2 u).1,(h.set 2 u).2,Lib.heap_setCell_same h.2.2.1 u,h.2.2.2⟩
theorem qZ.set3 (h:qZ b V all w x W c0 c1 c2 c3) (u:Value):qZ b V all w x (W.setCell ⟨w.heap.size+1,3,none⟩ u) c0 c1 c2 u:=⟨(h.set 3 u).1,(h.set 3 u).2,Lib.heap_setCell_same h.2.2.1 u,h.2.2.2⟩
theorem qZ.fin (h:qZ b V all w y W c0 c1 c2 c3) {X:PR Fu} (hy:X.un=y) (hG:qn X fun a=>FrF w.heap.size (_root_.Go.Proofs.YtfghofifjnbicaaGreatDoor.nest4 W w.heap.size c0 c1 c2 c3) a (.agg #[c0,c1,c2,c3])):
 qF b V all w X (FrF w.heap.size) (.returned (.agg #[c0,c1,c2,c3])) (_root_.Go.Proofs.YtfghofifjnbicaaGreatDoor.nest4 W w.heap.size c0 c1 c2 c3):=
 ⟨_,rfl,hy ▸ h.1.nest4 h.2.2.2.1 Zr (by have:=h.lt;omega) _ _ _ _,hG⟩
theorem qZ.read (h:qZ b V all w x W c0 c1 c2 c3):((((W.setCell ⟨w.heap.size,0,none⟩ c0).setCell ⟨w.heap.size,1,none⟩ c1).setCell ⟨w.heap.size,2,none⟩ c2).setCell ⟨w.heap.size,3,none⟩ c3).cell? ⟨w.heap.size,0,none⟩=some c0∧((((W.setCell ⟨w.heap.size,0,none⟩ c0).setCell ⟨w.heap.size,1,none⟩ c1).setCell ⟨w.heap.size,2,none⟩ c2).setCell ⟨w.heap.size,3,none⟩ c3).cell? ⟨w.heap.size,1,none⟩=some c1∧
 ((((W.setCell ⟨w.heap.size,0,none⟩ c0).setCell ⟨w.heap.size,1,none⟩ c1).setCell ⟨w.heap.size,2,none⟩ c2).setCell ⟨w.heap.size,3,none⟩ c3).cell? ⟨w.heap.size,2,none⟩=some c2∧((((W.setCell ⟨w.heap.size,0,none⟩ c0).setCell ⟨w.heap.size,1,none⟩ c1).setCell ⟨w.heap.size,2,none⟩ c2).setCell ⟨w.heap.size,3,none⟩ c3).cell? ⟨w.heap.size,3,none⟩=some c3:=(xm (nest4_row h.2.1 c0 c1 c2 c3)).1
end
def yj (m:Nat) (acc:List Pa) (r:List Tok):PR (List Pa):=if z6 [44] r=true then pPL m acc r.tail else (zL [41] r).bind fun _ r=>.ok acc r
def q6 (r:List Tok):PR Pa:=(uM r).bind fun t r=>(qP 1 r).bind fun s r=>.ok ⟨s,t⟩ r
theorem pPL_got {m:Nat} {acc:List Pa} {r:List Tok}:pPL (m+1) acc r=(q6 r).bind fun p r=>yj m (acc++[p]) r:=by
 rw[pPL];unfold q6;simp only[zR];rfl
theorem xC {r:List Tok} (h:ze r):zY 1 r (q6 r):=by
 unfold q6;exact(kT h).bind (m:=0) (fun t r _ hr=>(qX hr 1 (by decide)).bind (n:=0) (fun _ r _ hr=>zY.self hr _) (by omega)) (by omega)
theorem parOne_un (r:List Tok):(q6 r).un=((uM r).un.bind fun _ r=>qP 1 r).un:=by
 unfold q6;cases uM r with
 | ok t r=>
   show ((qP 1 r).bind fun s r=>PR.ok (⟨s,t⟩:Pa) r).un=(qP 1 r).un;rw[qr];rfl
 | _=>rfl
theorem ty_ends (r:List Tok):zG (uM r):=by
 unfold uM zL;split
 · trivial
 · split <;> trivial
theorem uV {r:List Tok} {tv:Int} {s:ByteArray} (h1:qn (uM r) fun a=>a=tv) (h2:qn ((uM r).un.bind fun _ r=>qP 1 r) fun a=>a=s):qn (q6 r) fun p=>p=⟨s,tv⟩:=by
 unfold q6;cases hx:uM r with
 | ok t r1=>
   rw[hx]at h1 h2;obtain rfl:t=tv:=h1;have h2':qn (qP 1 r1) fun a=>a=s:=h2
   show qn ((qP 1 r1).bind fun s r=>PR.ok (⟨s,t⟩:Pa) r) _;exact h2'.bind (fun a r _ ha=>by subst ha;exact rfl) fun a ha=>⟨_,rfl⟩
 | bad r1=>exact⟨_,rfl⟩
 | deep r1=>exact⟨_,rfl⟩
 | out=>trivial
theorem ty_got {r:List Tok} {w:World} {v:Value} (h:qn (uM r) fun a=>IntV w a v):∃ tv,v=.int .i64 tv∧qn (uM r) fun a=>a=tv:=by
 obtain⟨tv,hv⟩:=h.some (ty_ends r);have hv':v=.int .i64 tv:=hv;refine⟨tv,hv',h.imp fun a ha=>?_⟩;have ha':v=.int .i64 a:=ha;rw[hv']at ha';injection ha' with _ e;exact e.symm
theorem fn_next {b:Nat} {V:Value} {all:List Tok} {w w2 w5:World} {Y:PR Unit} {c0 c1 v c3 v1:Value} {acc:List Pa} {q:Pa} (hC:qZ b V all w Y w2 c0 c1 v c3) (hO:OutK kP (w.heap.size+2) w2 v acc)
 (hg:(w2.alloc (.cells #[.string q.name,.int .i64 q.type] 47)).grownBy w5 v.ownBlock) (hr:xA (w2.alloc (.cells #[.string q.name,.int .i64 q.type] 47)) v v1)
 (ho:w5.ownsRow (w.heap.size+2) 47 2 v1 (acc.length+1) (acc.flatMap kP.cs++[.string q.name,.int .i64 q.type])):
 qZ b V all w Y w5 c0 c1 v c3∧qZ b V all w Y (w5.setCell ⟨w.heap.size+1,2,none⟩ v1) c0 c1 v1 c3∧OutK kP (w.heap.size+2) (w5.setCell ⟨w.heap.size+1,2,none⟩ v1) v1 (acc++[q]):=by
 have hal:Below w2.heap.size w2 (w2.alloc (.cells #[.string q.name,.int .i64 q.type] 47)):=Zb.alloc Zr _;have hO1:OutK kP (w.heap.size+2) w5 v1 (acc++[q]):=hO.app (L:=w2.heap.size) trivial (by have:=hC.size;omega) (fun k hk=>(hO.own k hk).1) hal hg hr ho;have hown:∀ j,v.ownBlock=some j→w.heap.size+2≤j:=fun j hj=>(hO.own j hj).2
 have hblk:∀ j,j<w2.heap.size→j<w.heap.size+2→w5.heap[j]? =w2.heap[j]?:=fun j hj hj2=>(hg.block j (Nat.lt_of_lt_of_le hj hal.size) (fun e=>by have:=hown j e.symm;omega)).trans (hal.block j hj)
 have hz:=hC.size;have hbl:=hC.lt;have hoff:OffB b w.heap.size w w5:=hC.did.off.trans (OffB.mk' (hg.os.trans hal.os) (hg.tape.trans hal.tape) (hg.output.trans hal.output) (Nat.le_trans hal.size hg.size) hC.st.lt fun j hj _=>hblk j (by have:=hC.did.off.size;omega) (by omega));have hC1:qZ b V all w Y w5 c0 c1 v c3:=⟨⟨hC.st.move hC.2.2.2.1 hoff (hblk b hC.st.lt (by omega)),hoff⟩,(hblk _ (by omega) (by omega)).trans hC.2.1,(hblk _ hz (by omega)).trans hC.2.2.1,hC.2.2.2⟩
 exact⟨hC1,hC1.set2 v1,hO1.keep (zD.set (by omega) 2 v1)⟩
def FnB (b:Nat) (V:Value) (all:List Tok) (w:World) (T:PR (List Pa)) (n:Nat) (c0 c1:Value) (wr:World):Prop:=
 ∃ (m:Nat) (acc:List Pa) (y:PR Unit) (v:Value),m≤n∧OutK kP (w.heap.size+2) wr v acc∧qZ b V all w y wr c0 c1 v (.slice none 0 0)∧T=y.bind (fun _ r=>yj m acc r)∧(zg y=false→acc.length≤xG b wr)∧acc.length≤2000000
def FnRel (b:Nat) (V:Value) (all:List Tok) (w:World) (T:PR (List Pa)) (n:Nat) (c0 c1:Value) (X:PR Unit) (fv:Value) (wr:World):Prop:=
 (fv=.bool true∧qZ b V all w X wr c0 c1 (.slice none 0 0) (.slice none 0 0))∨(fv=.bool false∧FnB b V all w T n c0 c1 wr)
theorem fn_rel {b:Nat} {V:Value} {all:List Tok} {w W:World} {c0 c1 v1:Value} {acc:List Pa} {q:Pa} {r:List Tok} {T:PR (List Pa)} {m n:Nat} (hm:m≤n) (hT:T=pPL (m+1) acc r) (hC:qZ b V all w (q6 r).un W c0 c1 v1 (.slice none 0 0)) (hO:OutK kP (w.heap.size+2) W v1 (acc++[q]))
 (hq:qn (q6 r) fun p=>p=q) (hE:ze r) (hrl:r.length≤all.length) (hat:acc.length≤all.length-r.length) (hacc:acc.length≤1000000):FnB b V all w T n c0 c1 W∧all.length-r.length≤xG b W:=by
 rw[pPL_got]at hT;have hF:=xC hE;have hlen:(acc++[q]).length=acc.length+1:=by simp
 cases hx:q6 r with
 | ok p r2=>
   rw[hx]at hT hC hq hF;obtain rfl:p=q:=hq;have hp:zS b V all r2 false false W:=hC.st;have hao:=qk hp;have hl:=(show zH 1 r r2 from hF).2.2;exact⟨⟨m,acc++[p],.ok () r2,v1,hm,hO,hC,hT,fun _=>by rw[hlen];omega,by rw[hlen];omega⟩,by omega⟩
 | bad r2=>
   rw[hx]at hT hC hF;have hp:zS b V all r2 true false W:=hC.st;have hao:=qk hp;have hl:=(show zH 0 r r2 from hF).2.2;exact⟨⟨m,acc++[q],.bad r2,v1,hm,hO,hC,hT,(fun h=>by cases h),by rw[hlen];omega⟩,by omega⟩
 | deep r2=>
   rw[hx]at hT hC hF;have hp:zS b V all r2 false true W:=hC.st;have hao:=qk hp;have hl:=(show zH 0 r r2 from hF).2.2;exact⟨⟨m,acc++[q],.deep r2,v1,hm,hO,hC,hT,(fun h=>by cases h),by rw[hlen];omega⟩,by omega⟩
 | out=>
   rw[hx]at hC;exact absurd hC.st id
theorem par_end {m:Nat} {acc:List Pa} {y:PR Unit} (hx:zP [44] y=false):y.bind (fun _ r=>yj m acc r)=y.bind fun _ r=>(zL [41] r).bind fun _ r=>.ok acc r:=by
 cases y with
 | ok u r=>
   show yj m acc r=_;unfold yj;rw[if_neg (by rw[show z6 [44] r=false from hx];decide)];rfl
 | _=>rfl
theorem par_fin {y:PR Unit} {acc:List Pa} {P:List Pa→Prop} (h:P acc):qn (y.bind fun _ r=>(zL [41] r).bind fun _ r=>.ok acc r) P:=by
 cases y with
 | ok u r=>exact xe h
 | bad r=>exact⟨acc,h⟩
 | deep r=>exact⟨acc,h⟩
 | out=>trivial
theorem par_un (y:PR Unit) (acc:List Pa):(y.bind fun _ r=>(zL [41] r).bind fun _ r=>PR.ok acc r).un=y.bind fun _ r=>zL [41] r:=by
 rw[qr];simp only[jz]
def fnK (n:Nat) (t:Int) (s:ByteArray) (ps:List Pa) (r:List Tok):PR Fu:=(pB n 1 r).bind fun b r=>.ok ⟨s,t,ps,b⟩ r
def parS (n:Nat) (r:List Tok):PR (List Pa):=if z6 [41] r=true then .ok [] r.tail else pPL n [] r
theorem pFn_split (n:Nat) (t:Int) (s:ByteArray) (x:PR Unit):(x.bind fun _ r=>pFn n t s r)=((x.bind fun _ r=>zL [40] r).bind fun _ r=>parS n r).bind fun ps r=>fnK n t s ps r:=by
 unfold pFn pPs parS fnK;simp only[zR]
theorem fn_ends {n:Nat} {t:Int} {s:ByteArray} {T:PR (List Pa)} (h:zG (T.bind fun ps r=>fnK n t s ps r)):zG (T.un.bind fun _ r=>pB n 1 r):=by
 cases T with
 | ok ps r=>exact zo (show zG (fnK n t s ps r) from h)
 | bad r=>trivial
 | deep r=>trivial
 | out=>exact h
theorem fn_un {n:Nat} {t:Int} {s:ByteArray} {T:PR (List Pa)}:(T.bind fun ps r=>fnK n t s ps r).un=(T.un.bind fun _ r=>pB n 1 r).un:=by
 cases T with
 | ok ps r=>
   show (fnK n t s ps r).un=(pB n 1 r).un;unfold fnK;rw[qr];rfl
 | _=>rfl
theorem fn_got {n:Nat} {t:Int} {s:ByteArray} {T:PR (List Pa)} {P1:List Pa→Prop} {P2:List St→Prop} {Q:Fu→Prop} (h1:qn T P1) (h2:qn (T.un.bind fun _ r=>pB n 1 r) P2) (he:zG (T.un.bind fun _ r=>pB n 1 r)) (hq:∀ ps b,P1 ps→P2 b→Q ⟨s,t,ps,b⟩):qn (T.bind fun ps r=>fnK n t s ps r) Q:=by
 obtain⟨b0,hb0⟩:=h2.some he;cases T with
 | ok ps r=>
   show qn ((pB n 1 r).bind fun b r=>PR.ok (⟨s,t,ps,b⟩:Fu) r) Q;have h2':qn (pB n 1 r) P2:=h2;exact h2'.bind (fun b r _ hb=>hq ps b h1 hb) fun b hb=>⟨_,hq ps b h1 hb⟩
 | bad r=>obtain⟨ps,hp⟩:=h1;exact⟨_,hq ps b0 hp hb0⟩
 | deep r=>obtain⟨ps,hp⟩:=h1;exact⟨_,hq ps b0 hp hb0⟩
 | out=>trivial
theorem fn_done {b:Nat} {V:Value} {all:List Tok} {w w6 w7:World} {n:Nat} {t:Int} {s:ByteArray} {T:PR (List Pa)} {v v3:Value} {acc:List Pa} (hC6:qZ b V all w T.un w6 (.string s) (.int .i64 t) v (.slice none 0 0)) (hO:OutK kP (w.heap.size+2) w6 v acc) (hn:acc.length≤2000000) (hT:qn T fun ps=>ps=acc)
 (hD:qY b V all w6 (T.un.bind fun _ r=>pB n 1 r).un w7) (hG:qn (T.un.bind fun _ r=>pB n 1 r) fun a=>zT w6.heap.size w7 a v3) (he:zG (T.un.bind fun _ r=>pB n 1 r)):
 qF b V all w (T.bind fun ps r=>fnK n t s ps r) (FrF w.heap.size) (.returned (.agg #[.string s,.int .i64 t,v,v3])) (nest4 (w7.setCell ⟨w.heap.size+1,3,none⟩ v3) w.heap.size (.string s) (.int .i64 t) v v3):=by
 have hz:=hC6.size;have hb:=hC6.lt;have h67:=hD.off.size;refine qZ.fin ((hC6.step hD).set3 v3) fn_un (fn_got hT hG he fun ps bd hps hbd=>?_);subst hps;refine⟨v,v3,rfl,?_,?_⟩
 · refine FrPs.keep (L:=w.heap.size+2) (hO.params (by omega)) ?_ (by omega)
   exact((zD.did hD (by omega)).trans (zD.set (by omega) 3 v3)).trans (zD.nest4 (by omega) _ _ _ _)
 · exact zT.keep hbd ((zD.set (by omega) 3 v3).trans (zD.nest4 (by omega) _ _ _ _)) (by omega)
theorem fn_none {b:Nat} {V:Value} {all:List Tok} {n:Nat} {x:PR Unit} {w:World} {t:Int} {s:ByteArray} {r:List Tok} (h:qx b V all x w) (hx:(x.bind fun _ r=>zL [40] r)=.ok () r) (h41:z6 [41] r=true) (hn:zG (x.bind fun _ r=>pFn n t s r)):
 Calls Tryz.prog 45 #[.pointer (some ⟨b,0,none⟩),.int .i64 t,.string s] w (qF b V all w (x.bind fun _ r=>pFn n t s r) (FrF w.heap.size)):=by
 have ex:(x.bind fun _ r=>pFn n t s r)=(PR.ok [] r.tail).bind fun ps r=>fnK n t s ps r:=by
  rw[pFn_split,hx];show (parS n r).bind _=_;unfold parS;rw[if_pos h41]
 rw[ex]at hn ⊢;have HN:=hid (show zG ((PR.ok () r.tail).bind fun _ r=>pB n 1 r) from fn_ends hn);have HC:=hid (qZ.start h s t);have HX:=hid hx;have HY:=hid (show zP (⟨#[41]⟩:ByteArray).data.toList (PR.ok () r)=true from h41);have HB:=hid (pblock_any (b:=b) (V:=V) (all:=all) (n:=n) (d:=1) (by decide) (by decide));have hbw:=h.lt;clear h hx h41 hn ex;go_enter Tryz.func45,Tryz.ntmps45
 go_wp2_with (first
  | (go_at_call 44;(with_reducible refine(zW HC.out.st ⟨#[40]⟩).mono ?_);rintro e w1 ⟨rfl,hD⟩
     replace HC:=hid (show qZ b V all w (.ok () r) w1 _ _ _ _ from HX.out ▸ HC.out.step hD)
     clear hD)
  | (go_at_call 42;(with_reducible refine(zb HC.out.st _ HY.out).mono ?_);rintro e w2 ⟨rfl,hD⟩
     replace HC:=hid (show qZ b V all w (.ok () r.tail) w2 _ _ _ _ from HC.out.step hD)
     clear hD)
  | (go_at_call 68;(with_reducible refine(HB.out.call HC.out.st HN.out).mono ?_);rintro e w7 ⟨v3,rfl,hD,hG⟩
     obtain⟨A3,m3,q3,rfl⟩:=kB hG HN.out;have HG:=hid hG;have HC6:=HC;have HD7:=hid hD;replace HC:=hid (HC.out.step hD);obtain⟨⟨c0,c1,c2,c3⟩,fz⟩:=HC.out.own;obtain⟨⟨s0,s1,s2,s3⟩,sz⟩:=HC.out.f
     clear hD hG))
 obtain⟨f0,f1,f2,f3⟩:=(HC.out.set3 (.slice A3 m3 q3)).read;refine bodyPost_ret (v:=.agg #[.string s,.int .i64 t,.slice none 0 0,.slice A3 m3 q3]) (by simp[results,Tryz.results45,go_sem,f0,f1,f2,f3]) rfl ?_;exact fn_done (T:=.ok [] r.tail) HC6.out (OutK.nil kP _ _) (by simp) rfl HD7.out HG.out HN.out
set_option maxHeartbeats 3200000 in
theorem fn_some {b:Nat} {V:Value} {all:List Tok} {n:Nat} {x:PR Unit} {w:World} {t:Int} {s:ByteArray} (h:qx b V all x w) (h41:zP [41] (x.bind fun _ r=>zL [40] r)=false) (hn:zG (x.bind fun _ r=>pFn n t s r)):
 Calls Tryz.prog 45 #[.pointer (some ⟨b,0,none⟩),.int .i64 t,.string s] w (qF b V all w (x.bind fun _ r=>pFn n t s r) (FrF w.heap.size)):=by
 obtain⟨X,hX⟩:∃ X,(x.bind fun _ r=>zL [40] r)=X:=⟨_,rfl⟩
 obtain⟨T,hT⟩:∃ T,(X.bind fun _ r=>parS n r)=T:=⟨_,rfl⟩
 have ex:(x.bind fun _ r=>pFn n t s r)=T.bind fun ps r=>fnK n t s ps r:=by rw[pFn_split,hX,hT]
 rw[ex]at hn ⊢;rw[hX]at h41
 have hT2:T=X.bind fun _ r=>pPL n [] r:=by
  rw[←hT];cases X with
  | ok u r=>show parS n r=pPL n [] r;unfold parS;rw[if_neg (by rw[show z6 [41] r=false from h41];decide)]
  | _=>rfl
 have HN:=hid (fn_ends hn);have hTE:zG T:=zo hn;have HTE:=hid hTE;have HC:=hid (qZ.start h s t);have HX:=hid hX;have HT2:=hid hT2;have HY:=hid (show zP (⟨#[41]⟩:ByteArray).data.toList X=false from h41);have HB:=hid (pblock_any (b:=b) (V:=V) (all:=all) (n:=n) (d:=1) (by decide) (by decide));have hbw:=h.lt;clear h hX h41 hn ex hT hT2 hTE;go_enter Tryz.func45,Tryz.ntmps45
 go_wp2_with (first
  | (go_at_call 44;(with_reducible refine(zW HC.out.st ⟨#[40]⟩).mono ?_);rintro e w1 ⟨rfl,hD⟩
     replace HC:=hid (show qZ b V all w X w1 _ _ _ _ from HX.out ▸ HC.out.step hD)
     clear hD)
  | (go_at_call 42;(with_reducible refine(zF HC.out.st _ HY.out).mono ?_);rintro e w2 ⟨rfl,hD⟩
     replace HC:=hid (HC.out.step hD)
     clear hD))
 go_loopw [8] (fun fv wr=>FnRel b V all w T n (.string s) (.int .i64 t) X fv wr) (fun fv wr=>2 * (all.length-xG b wr)+firstN fv)
 case atStart=>exact .inl ⟨rfl,HC.out⟩
 case round=>
  obtain⟨i0,hi0,hz0,hz1,hz2⟩:=info_parts pa_info;have HI0:=hid (And.intro hi0 (And.intro hz0 (And.intro hz1 hz2)));clear hi0 hz0 hz1 hz2;rcases hrel with⟨rfl,hC⟩ | ⟨rfl,m,acc,y,v,hmn,hO,hC,hT,hacc,hac2⟩
  · replace HC:=hid hC
    have HO:=hid (OutK.nil kP (w.heap.size+2) wr);clear hC;cases ho:zg X with
    | true=>
      have hTT:T=X.bind fun _ r=>(zL [41] r).bind fun _ r=>.ok [] r:=HT2.out.trans (vk ho _ _)
      have HTU:=hid (show T.un=X.bind fun _ r=>zL [41] r by rw[hTT,par_un]);have HGT:=hid (show qn T fun ps=>ps=[] by rw[hTT];exact par_fin rfl);have hac2:([]:List Pa).length≤2000000:=by simp
      have HOV:=hid ho;clear ho hTT
      go_wp2_with (first
       | (go_at_call 39;(with_reducible refine(zl HC.out.st true HOV.out).mono ?_);rintro e w2 ⟨rfl,rfl⟩)
       | (go_at_call 44;(with_reducible refine(zW HC.out.st ⟨#[41]⟩).mono ?_);rintro e w6 ⟨rfl,hD⟩
          replace HO:=hid (HO.out.keep (zD.did hD (by omega)));replace HC:=hid (show qZ b V all w T.un w6 _ _ _ _ from HTU.out ▸ HC.out.step hD)
          clear hD)
       | (go_at_call 68;(with_reducible refine(HB.out.call HC.out.st HN.out).mono ?_);rintro e w7 ⟨v3,rfl,hD,hG⟩
          obtain⟨A3,m3,q3,rfl⟩:=kB hG HN.out;have HG:=hid hG;have HC6:=HC;have HD7:=hid hD;replace HC:=hid (HC.out.step hD);obtain⟨⟨c0,c1,c2,c3⟩,fz⟩:=HC.out.own;obtain⟨⟨s0,s1,s2,s3⟩,sz⟩:=HC.out.f
          clear hD hG))
      obtain⟨f0,f1,f2,f3⟩:=(HC.out.set3 (.slice A3 m3 q3)).read;refine bodyPost_ret (v:=.agg #[.string s,.int .i64 t,.slice none 0 0,.slice A3 m3 q3]) (by simp[results,Tryz.results45,go_sem,f0,f1,f2,f3]) rfl ?_;exact fn_done HC6.out HO.out hac2 HGT.out HD7.out HG.out HN.out
    | false=>
      obtain⟨r,rfl⟩:∃ r,X=.ok () r:=by
       cases X with
       | ok u r=>exact⟨r,rfl⟩
       | bad r=>cases ho
       | deep r=>cases ho
       | out=>exact absurd HC.out.st id
      obtain⟨hat,hrl,hal,hen,hrp⟩:=kn HC.out.did
      obtain⟨q,rfl⟩:∃ q,n=q+1:=by
       cases n with
       | zero=>have h1:=HTE.out;rw[HT2.out]at h1;exact absurd (show zG (pPL 0 [] r) from h1) (by rw[pPL];exact id)
       | succ q=>exact⟨q,rfl⟩
      obtain⟨acc,hac⟩:∃ acc:List Pa,acc=[]:=⟨_,rfl⟩
      have hac6:acc.length≤1000000:=by rw[hac];simp
      have hac7:acc.length≤all.length-r.length:=by rw[hac];simp
      replace HO:=hid (show OutK kP (w.heap.size+2) wr (.slice none 0 0) acc by rw[hac];exact HO.out);have HT:=hid (show T=pPL (q+1) acc r by rw[HT2.out,hac];rfl);have HEN:=hid hen;have HAT:=hid hat;clear ho hat hac hen
      go_wp2_with (first
       | (go_at_call 39;(with_reducible refine(zl HC.out.st false rfl).mono ?_);rintro e w2 ⟨rfl,rfl⟩)
       | (go_at_call 40;(with_reducible refine(yR HC.out.st).mono ?_);rintro e w3 ⟨tv0,rfl,hD,hG⟩
          obtain⟨tv,rfl,hG2⟩:=ty_got (r:=r) hG;have HGT:=hid hG2;replace HO:=hid (HO.out.keep (zD.did hD (by omega)));replace HC:=hid (show qZ b V all w (uM r).un w3 _ _ _ _ from HC.out.step hD);obtain⟨⟨s0,s1,s2,s3⟩,sz⟩:=HC.out.f
          clear hD hG hG2))
      go_region_law (first
       | (refine jP rfl (.tmp 31) (.tmp 36) _ rfl (w.heap.size+2) 47 i0 _ 2 24 Tryz.underlying42 HI0.out.1 HI0.out.2.1 HI0.out.2.2.1 HI0.out.2.2.2 rfl (by omega) (.slice none 0 0) acc.length _ rfl (by exact HPRE.out.1) ⟨w4.heap.size,0,none⟩ 1 1 [.string s',.int .i64 tv] rfl rfl (by exact HPRE.out.2.1) (by simp[Value.oneCell']) (by simp only[maxLen];omega) (by omega) (by exact HPRE.out.2.2) (by omega) ?_
          intro v1 w5 hown1 hg1 hr1;obtain⟨A1,cp1,rfl⟩:=zj hown1;have HX1:=hid (fn_next (q:=⟨s',tv⟩) HC4.out HO2.out hg1 hr1 hown1);have hk7:w5.cell? ⟨w.heap.size+1,2,none⟩=some (.slice none 0 0):=HX1.out.1.f.1.2.2.1;have fz5:=HX1.out.1.f.2
          clear hown1 hg1 hr1)
       | (go_simp;go_at_call 41;(refine(xB (HC.out.drew).st 1 (by decide)).mono ?_);rintro e w4 ⟨s',rfl,hD,hG⟩
          have HGS:=hid hG;have HO2:=hid (HO.out.keep ((zD.of_below Zb.drew).trans (zD.did hD (by omega))));have HC4:=hid (show qZ b V all w (q6 r).un w4 _ _ _ _ from(parOne_un r).symm ▸ HC.out.drew.step hD);have hk7:w4.cell? ⟨w.heap.size+1,2,none⟩=some (.slice none 0 0):=HC4.out.f.1.2.2.1;have fz4:=HC4.out.f.2;have hk8:(w4.alloc (.cells #[.string s',.int .i64 tv] 47)).cell? ⟨w.heap.size+1,2,none⟩=some (.slice none 0 0):=(HC4.out.alloc _).f.1.2.2.1;have HPRE:=hid (HO2.out.pre [.string s',.int .i64 tv] (by have:=HC4.out.size;omega))
          clear hD hG))
      all_goals
       go_wp2;have HZ:=hid (fn_rel (n:=q+1) (by omega) HT.out HX1.out.2.1 HX1.out.2.2 (uV HGT.out HGS.out) HEN.out hrl (by omega) (by omega));go_roundw
       case rel=>exact .inr ⟨rfl,HZ.out.1⟩
       case measure=>
        have h1:=HZ.out.2;have h2:=HAT.out;simp[firstN];omega
  · obtain⟨hbb,hx⟩:∃ v:Bool,zP [44] y=v:=⟨_,rfl⟩
    cases hbb with
    | true=>
      obtain⟨r1,rfl,hs1⟩:=yc hx;obtain⟨hat,hrl1,hal,hen1,hrp⟩:=kn hC.did
      have hTT:T=pPL m acc r1.tail:=by
       rw[hT];show yj m acc r1=_;unfold yj;rw[if_pos hs1]
      obtain⟨q,rfl⟩:∃ q,m=q+1:=by
       cases m with
       | zero=>have:=HTE.out;rw[hTT,pPL]at this;exact absurd this id
       | succ q=>exact⟨q,rfl⟩
      have hacc1:=hacc rfl;rw[hat]at hacc1;have htl:=jB hen1;have HAT:=hid hat;have HV4:=hid (show zP (⟨#[44]⟩:ByteArray).data.toList (PR.ok () r1)=true from hs1);have hen2:=hen1.sign hs1;obtain⟨r,hr2⟩:∃ r2,r2=r1.tail:=⟨_,rfl⟩
      rw[←hr2]at hTT htl hen2;have hrl:r.length≤all.length:=by omega
      have HRT:=hid hr2;have HT:=hid hTT;have HEN:=hid hen2;have HO:=hid hO;replace HC:=hid hC;obtain⟨A0,cp0,rfl⟩:=hO.form;clear hC hO hT hTT hat hx hs1 hen1 hen2 hr2 hacc
      go_wp2_with (first
       | (go_at_call 42;(with_reducible refine(zb HC.out.st _ HV4.out).mono ?_);rintro e w2 ⟨rfl,hD⟩
          have hD3:qY b V all wr (.ok () r) w2:=by rw[HRT.out];exact hD
          replace HO:=hid (HO.out.keep (zD.did hD3 (by omega)));replace HC:=hid (HC.out.step hD3)
          clear hD hD3)
       | (go_at_call 39;(with_reducible refine(zl HC.out.st false rfl).mono ?_);rintro e w2 ⟨rfl,rfl⟩)
       | (go_at_call 40;(with_reducible refine(yR HC.out.st).mono ?_);rintro e w3 ⟨tv0,rfl,hD,hG⟩
          obtain⟨tv,rfl,hG2⟩:=ty_got (r:=r) hG;have HGT:=hid hG2;replace HO:=hid (HO.out.keep (zD.did hD (by omega)));replace HC:=hid (show qZ b V all w (uM r).un w3 _ _ _ _ from HC.out.step hD);obtain⟨⟨s0,s1,s2,s3⟩,sz⟩:=HC.out.f
          clear hD hG hG2))
      go_region_law (first
       | (refine jP rfl (.tmp 31) (.tmp 36) _ rfl (w.heap.size+2) 47 i0 _ 2 24 Tryz.underlying42 HI0.out.1 HI0.out.2.1 HI0.out.2.2.1 HI0.out.2.2.2 rfl (by omega) (.slice A0 acc.length cp0) acc.length _ rfl (by exact HPRE.out.1) ⟨w4.heap.size,0,none⟩ 1 1 [.string s',.int .i64 tv] rfl rfl (by exact HPRE.out.2.1) (by simp[Value.oneCell']) (by simp only[maxLen];omega) (by omega) (by exact HPRE.out.2.2) (by omega) ?_
          intro v1 w5 hown1 hg1 hr1;obtain⟨A1,cp1,rfl⟩:=zj hown1;have HX1:=hid (fn_next (q:=⟨s',tv⟩) HC4.out HO2.out hg1 hr1 hown1);have hk7:w5.cell? ⟨w.heap.size+1,2,none⟩=some (.slice A0 acc.length cp0):=HX1.out.1.f.1.2.2.1;have fz5:=HX1.out.1.f.2
          clear hown1 hg1 hr1)
       | (go_simp;go_at_call 41;(refine(xB (HC.out.drew).st 1 (by decide)).mono ?_);rintro e w4 ⟨s',rfl,hD,hG⟩
          have HGS:=hid hG;have HO2:=hid (HO.out.keep ((zD.of_below Zb.drew).trans (zD.did hD (by omega))));have HC4:=hid (show qZ b V all w (q6 r).un w4 _ _ _ _ from(parOne_un r).symm ▸ HC.out.drew.step hD);have hk7:w4.cell? ⟨w.heap.size+1,2,none⟩=some (.slice A0 acc.length cp0):=HC4.out.f.1.2.2.1;have fz4:=HC4.out.f.2;have hk8:(w4.alloc (.cells #[.string s',.int .i64 tv] 47)).cell? ⟨w.heap.size+1,2,none⟩=some (.slice A0 acc.length cp0):=(HC4.out.alloc _).f.1.2.2.1;have HPRE:=hid (HO2.out.pre [.string s',.int .i64 tv] (by have:=HC4.out.size;omega))
          clear hD hG))
      all_goals
       go_wp2;have HZ:=hid (fn_rel (n:=n) (by omega) HT.out HX1.out.2.1 HX1.out.2.2 (uV HGT.out HGS.out) HEN.out hrl (by omega) (by omega));go_roundw
       case rel=>exact .inr ⟨rfl,HZ.out.1⟩
       case measure=>
        have h1:=HZ.out.2;have h2:=HAT.out;simp[firstN];omega
    | false=>
      have HV4:=hid (show zP (⟨#[44]⟩:ByteArray).data.toList y=false from hx);have hTT:=hT.trans (par_end (m:=m) (acc:=acc) hx);have HTU:=hid (show T.un=y.bind fun _ r=>zL [41] r by rw[hTT,par_un]);have HGT:=hid (show qn T fun ps=>ps=acc by rw[hTT];exact par_fin rfl);have HO:=hid hO;replace HC:=hid hC;obtain⟨A0,cp0,rfl⟩:=hO.form;clear hC hO hT hTT hx hacc
      go_wp2_with (first
       | (go_at_call 42;(with_reducible refine(zF HC.out.st _ HV4.out).mono ?_);rintro e w2 ⟨rfl,hD⟩
          replace HO:=hid (HO.out.keep (zD.did hD (by omega)));replace HC:=hid (HC.out.step hD)
          clear hD)
       | (go_at_call 44;(with_reducible refine(zW HC.out.st ⟨#[41]⟩).mono ?_);rintro e w6 ⟨rfl,hD⟩
          replace HO:=hid (HO.out.keep (zD.did hD (by omega)));replace HC:=hid (show qZ b V all w T.un w6 _ _ _ _ from HTU.out ▸ HC.out.step hD)
          clear hD)
       | (go_at_call 68;(with_reducible refine(HB.out.call HC.out.st HN.out).mono ?_);rintro e w7 ⟨v3,rfl,hD,hG⟩
          obtain⟨A3,m3,q3,rfl⟩:=kB hG HN.out;have HG:=hid hG;have HC6:=HC;have HD7:=hid hD;replace HC:=hid (HC.out.step hD);obtain⟨⟨c0,c1,c2,c3⟩,fz⟩:=HC.out.own;obtain⟨⟨s0,s1,s2,s3⟩,sz⟩:=HC.out.f
          clear hD hG))
      obtain⟨f0,f1,f2,f3⟩:=(HC.out.set3 (.slice A3 m3 q3)).read;refine bodyPost_ret (v:=.agg #[.string s,.int .i64 t,.slice A0 acc.length cp0,.slice A3 m3 q3]) (by simp[results,Tryz.results45,go_sem,f0,f1,f2,f3]) rfl ?_;exact fn_done HC6.out HO.out hac2 HGT.out HD7.out HG.out HN.out
theorem pfn_any {b:Nat} {V:Value} {all:List Tok} {n:Nat} {x:PR Unit} {w:World} {t:Int} {s:ByteArray} (h:qx b V all x w) (hn:zG (x.bind fun _ r=>pFn n t s r)):
 Calls Tryz.prog 45 #[.pointer (some ⟨b,0,none⟩),.int .i64 t,.string s] w (qF b V all w (x.bind fun _ r=>pFn n t s r) (FrF w.heap.size)):=by
 cases h41:zP [41] (x.bind fun _ r=>zL [40] r) with
 | true=>
   obtain⟨r,hx,hs⟩:=yc h41;exact fn_none h hx hs hn
 | false=>exact fn_some h h41 hn
end Go.Proofs.YtfghofifjnbicaaGreatDoor
namespace Go.Proofs.YtfghofifjnbicaaGreatDoor
open Lib (hid)
open Go.RowKit Go.Maps
theorem uW:∀ (l:List Pa) (x:Pa) (n:Nat),renPs (l++[x]) n=renPs l n++[⟨vN (n+l.length),x.type⟩]
 | [],x,n=>by rw[List.nil_append,renPs,renPs,renPs];rfl
 | y :: r,x,n=>by rw[List.cons_append,renPs,uW r x (n+1),renPs,List.length_cons,show n+1+r.length=n+(r.length+1) by omega];rfl
theorem parM_snoc:∀ (l:List Pa) (x:Pa) (n:Nat) (nm:Nm),yH (l++[x]) n nm=upN (yH l n nm) x.name (n+l.length)
 | [],x,n,nm=>by rw[List.nil_append,yH,yH,yH];rfl
 | y :: r,x,n,nm=>by rw[List.cons_append,yH,parM_snoc r x (n+1),yH,List.length_cons,show n+1+r.length=n+(r.length+1) by omega]
theorem parM_le:∀ (l:List Pa) (n:Nat) (nm:Nm),(∀ s,nm s≤1000000000)→n+l.length≤1000000000→∀ s,yH l n nm s≤1000000000
 | [],n,nm,h,_,s=>by rw[yH];exact h s
 | x :: r,n,nm,h,hn,s=>by
   rw[List.length_cons]at hn;rw[yH];exact parM_le r (n+1) _ (upN_le h x.name (by omega)) (by omega) s
theorem kp {α:Type} {l:List α} {i:Nat} {e:α} (h:l[i]? =some e):l.take (i+1)=l.take i++[e]:=by
 rw[List.take_add_one,h];rfl
theorem kp_cells {B L:Nat} {w:World} {g c m i:Nat} {ps qs:List Pa} {s:ByteArray} {t:Int} (h:OutT kP B L w (.slice (some ⟨g,0,none⟩) m c) ps (⟨s,t⟩ :: qs)) (hm:m=(ps++(⟨s,t⟩:Pa) :: qs).length) (hi:ps.length=i):
 (w.cell? ⟨g,i * 2,none⟩=some (.string s)∧w.cell? ⟨g,i * 2+1,none⟩=some (.int .i64 t))∧∀ o,w.frozen? ⟨g,o,none⟩=false:=by
 subst hi;exact⟨⟨h.cel hm (j:=0) rfl,h.cel hm (j:=1) rfl⟩,fun o=>h.frz hm o⟩
structure FMid (w:World) (k n:Nat) (nm:Nm) (bx:Obj) (W:World):Prop where
 bel:Below w.heap.size w W
 box:W.heap[w.heap.size]? =some bx
 res:W.heap[w.heap.size+1]? =some (.cells #[.string ⟨#[]⟩,.int .i64 0,.slice none 0 0,.slice none 0 0] 45)
 map:MapIs W (w.heap.size+2) k nm
 ctr:W.heap[w.heap.size+3]? =some (ctrO ((n:Int)-1))
section
variable {w:World} {k n:Nat} {nm:Nm} {bx:Obj} {W W':World}
theorem FMid.below (h:FMid w k n nm bx W) (hb:Below W.heap.size W W'):FMid w k n nm bx W' where
 bel:=h.bel.trans (hb.mono h.bel.size)
 box:=(hb.block _ (zB h.box)).trans h.box
 res:=(hb.block _ (zB h.res)).trans h.res
 map:=h.map.below hb
 ctr:=(hb.block _ (zB h.ctr)).trans h.ctr
theorem FMid.step (h:FMid w k n nm bx W) (ho:Off2 (w.heap.size+2) (w.heap.size+3) W.heap.size W W') {k' n':Nat} {nm':Nm} (hM:MapIs W' (w.heap.size+2) k' nm') (hx:W'.heap[w.heap.size+3]? =some (ctrO ((n':Int)-1))):FMid w k' n' nm' bx W' where
 bel:=h.bel.trans (ho.below h.bel.size (by omega) (by omega))
 box:=(ho.block _ (zB h.box) (by omega) (by omega)).trans h.box
 res:=(ho.block _ (zB h.res) (by omega) (by omega)).trans h.res
 map:=hM
 ctr:=hx
theorem FMid.list (h:FMid w k n nm bx W) (ho:OffB (w.heap.size+3) W.heap.size W W') {n':Nat} (hx:W'.heap[w.heap.size+3]? =some (ctrO ((n':Int)-1))):FMid w k n' nm bx W':=
 h.step (Off2.of_off ho) (h.map.of_block (ho.block h.map.lt (by omega))) hx
theorem FMid.set (h:FMid w k n nm bx W) (i:Nat) (u:Value) {bx':Obj} (hb':(W.setCell ⟨w.heap.size,i,none⟩ u).heap[w.heap.size]? =some bx'):FMid w k n nm bx' (W.setCell ⟨w.heap.size,i,none⟩ u) where
 bel:=h.bel.setCell (p:=⟨w.heap.size,i,none⟩) Zr u
 box:=hb'
 res:=(Below.heap_setCell W _ u (w.heap.size+1) (by show w.heap.size+1≠w.heap.size;omega)).trans h.res
 map:=h.map.of_block (Below.heap_setCell W _ u _ (by show w.heap.size+2≠w.heap.size;omega))
 ctr:=(Below.heap_setCell W _ u _ (by show w.heap.size+3≠w.heap.size;omega)).trans h.ctr
theorem FMid.far (h:FMid w k n nm bx W) {g:Nat} (hg:w.heap.size+4≤g) (i:Nat) (u:Value):FMid w k n nm bx (W.setCell ⟨g,i,none⟩ u) where
 bel:=h.bel.setCell (p:=⟨g,i,none⟩) (by show w.heap.size≤g;omega) u
 box:=(Below.heap_setCell W _ u _ (by show w.heap.size≠g;omega)).trans h.box
 res:=(Below.heap_setCell W _ u _ (by show w.heap.size+1≠g;omega)).trans h.res
 map:=h.map.of_block (Below.heap_setCell W _ u _ (by show w.heap.size+2≠g;omega))
 ctr:=(Below.heap_setCell W _ u _ (by show w.heap.size+3≠g;omega)).trans h.ctr
theorem FMid.drew (h:FMid w k n nm bx W):FMid w k n nm bx W.drew:=h.below Zb.drew
end
theorem four_set {W:World} {g:Nat} {d0 d1 d2 d3:Value} {T:TypeId} (h:W.heap[g]? =some (.cells #[d0,d1,d2,d3] T (0,0))) (c0 c1 c2 c3:Value):
 ((((W.setCell ⟨g,0,none⟩ c0).setCell ⟨g,1,none⟩ c1).setCell ⟨g,2,none⟩ c2).setCell ⟨g,3,none⟩ c3).heap[g]? =some (.cells #[c0,c1,c2,c3] T (0,0)):=
 Lib.heap_setCell_same (Lib.heap_setCell_same (Lib.heap_setCell_same (Lib.heap_setCell_same h c0) c1) c2) c3
theorem four_keep (W:World) (g:Nat) (c0 c1 c2 c3:Value) {L:Nat} (hL:g<L):zD L W ((((W.setCell ⟨g,0,none⟩ c0).setCell ⟨g,1,none⟩ c1).setCell ⟨g,2,none⟩ c2).setCell ⟨g,3,none⟩ c3):=
 (((zD.set hL 0 c0).trans (zD.set hL 1 c1)).trans (zD.set hL 2 c2)).trans (zD.set hL 3 c3)
theorem four_below (W:World) (g:Nat) (c0 c1 c2 c3:Value) {B:Nat} (hB:B≤g):Below B W ((((W.setCell ⟨g,0,none⟩ c0).setCell ⟨g,1,none⟩ c1).setCell ⟨g,2,none⟩ c2).setCell ⟨g,3,none⟩ c3):=
 ((((Below.refl B W).setCell (p:=⟨g,0,none⟩) hB c0).setCell (p:=⟨g,1,none⟩) hB c1).setCell (p:=⟨g,2,none⟩) hB c2).setCell (p:=⟨g,3,none⟩) hB c3
def FuPost (f:Fu) (w:World) (e:Ending) (w':World):Prop:=∃ v,e=.returned v∧FrF w.heap.size w' (dvF f) v∧Below w.heap.size w w'
set_option maxHeartbeats 8000000 in
theorem dfun_any (B:Nat) (f:Fu) (v2 v3:Value) (w:World) (hok:k8 f=true) (ht:TreeTab B w) (hB:B≤w.heap.size) (h2:SlP B w v2 f.params) (h3:SlS B w v3 f.body) (hcn:f.params.length+cntSs f.body≤1000000000):
 Calls Tryz.prog 22 #[.agg #[.string f.name,.int .i64 f.type,v2,v3]] w (FuPost f w):=by
 obtain⟨A2,c2,rfl,hn2⟩:=h2.form;obtain⟨A3,c3,rfl,hn3⟩:=h3.form;have hsrc:=src_pas h2;unfold k8 at hok;simp only[Bool.and_eq_true,decide_eq_true_eq]at hok;obtain⟨⟨⟨⟨hnm,hty⟩,h8⟩,hpas⟩,hbody⟩:=hok;have hmm:=@run_makeMap Tryz.prog;have HSRC:=hid hsrc;have HPAS:=hid hpas;have HBODY:=hid hbody;have HT:=hid ht;have H3:=hid h3;have HCN:=hid hcn;clear hsrc hpas hbody ht h3 hcn h2 hnm hty;go_enter Tryz.func22,Tryz.ntmps22
 go_upto_region 2 with(go_at_call 53;(with_reducible refine(counter_any _).mono ?_);rintro e w1 ⟨rfl,hb1,hx1,hz1⟩
                       have HM1:=hid (show FMid w 0 0 (fun _=>0) (.cells #[.string f.name,.int .i64 f.type,.slice A2 f.params.length c2,.slice A3 f.body.length c3] 45) w1 from by
                        have e1:((((w.alloc (.cells #[.string f.name,.int .i64 f.type,.slice A2 f.params.length c2,.slice A3 f.body.length c3] 45)).alloc (.cells #[.string ⟨#[]⟩,.int .i64 0,.slice none 0 0,.slice none 0 0] 45)).alloc (.map #[] 0))).heap.size=w.heap.size+3:=by rw[zA,zA,zA]
                        rw[e1]at hb1 hx1;have hbw:Below w.heap.size w ((((w.alloc (.cells #[.string f.name,.int .i64 f.type,.slice A2 f.params.length c2,.slice A3 f.body.length c3] 45)).alloc (.cells #[.string ⟨#[]⟩,.int .i64 0,.slice none 0 0,.slice none 0 0] 45)).alloc (.map #[] 0))):=((Zb.alloc Zr _).alloc (by rw[zA];omega) _).alloc (by rw[zA,zA];omega) _;refine⟨hbw.trans (hb1.mono (by omega)),(hb1.block _ (by omega)).trans (zc (zc (heap_alloc_new w _) _) _),(hb1.block _ (by omega)).trans (zc (by have:=heap_alloc_new (w.alloc (.cells #[.string f.name,.int .i64 f.type,.slice A2 f.params.length c2,.slice A3 f.body.length c3] 45)) (.cells #[.string ⟨#[]⟩,.int .i64 0,.slice none 0 0,.slice none 0 0] 45);rw[zA]at this;exact this) _),?_,hx1⟩;have hm:=map_made ((w.alloc (.cells #[.string f.name,.int .i64 f.type,.slice A2 f.params.length c2,.slice A3 f.body.length c3] 45)).alloc (.cells #[.string ⟨#[]⟩,.int .i64 0,.slice none 0 0,.slice none 0 0] 45));rw[zA,zA]at hm
                        exact hm.of_block (hb1.block _ (by omega)))
                       have hz1a:w1.heap.size=w.heap.size+4:=by rw[hz1,zA,zA,zA]
                       clear hb1 hx1 hz1)
 obtain⟨⟨a0,a1,a2,a3⟩,az⟩:=zI HM1.out.box;have hs1:w.heap.size<w1.heap.size:=by omega
 have HSRC1:=hid (HSRC.out.below (HM1.out.bel.mono hB));have hz1b:=Nat.le_of_eq hz1a;have hz1c:=Nat.le_of_eq hz1a.symm;clear hz1a
 go_upto_region 3 with(go_at_call 54;(with_reducible refine(clone_pas A2 f.params.length c2 f.params w1 HSRC1.out (by omega)).mono ?_);rintro e w2 ⟨v1,rfl,hown,hb2⟩
                       obtain⟨A1,c1,rfl⟩:=zj hown;have HO2:=hid hown;have HM2:=hid (HM1.out.below hb2);obtain⟨⟨b0,b1,b2,b3⟩,bz⟩:=zI HM2.out.box;have hz2:w1.heap.size≤w2.heap.size:=hb2.size;have hs2:w.heap.size<w2.heap.size:=by omega
                       clear hown hb2)
 have HM3:=hid (HM2.out.set 2 (.slice A1 f.params.length c1) (bx':=.cells #[.string f.name,.int .i64 f.type,.slice A1 f.params.length c1,.slice A3 f.body.length c3] 45) (Lib.heap_setCell_same HM2.out.box _))
 have HT3:=hid (show OutT kP (w.heap.size+4) w2.heap.size (w2.setCell ⟨w.heap.size,2,none⟩ (.slice A1 f.params.length c1)) (.slice A1 f.params.length c1) [] f.params from by
  have h0:w2.ownsRow (w.heap.size+4) kP.T kP.n (.slice A1 f.params.length c1) f.params.length (f.params.flatMap kP.cs):=by
   obtain⟨h1,h2⟩:=HO2.out;refine⟨h1,?_⟩;rcases h2 with h2 | ⟨g,cap,cur,hv,hb,h4⟩
   · exact .inl h2
   · exact .inr ⟨g,cap,cur,hv,by omega,h4⟩
  refine(OutT.start h0 Zr).keep (zD.set (by omega) _ _) fun j hj hjo=>Below.heap_setCell w2 _ _ j ?_
  have:=(qJ h0 j hjo).2;show j≠w.heap.size
  omega)
 have hz3:(w2.setCell ⟨w.heap.size,2,none⟩ (.slice A1 f.params.length c1)).heap.size=w2.heap.size:=by simp[World.setCell]
 generalize w2.setCell ⟨w.heap.size,2,none⟩ (.slice A1 f.params.length c1)=W3 at *;have hz3a:=Nat.le_of_eq hz3;have hz3b:=Nat.le_of_eq hz3.symm;clear hz3 a0 a1 a2 a3 az b0 b1 b2 b3 bz;obtain⟨⟨b0,b1,b2,b3⟩,bz⟩:=zI HM3.out.box;have hs3:w.heap.size<W3.heap.size:=by omega
 go_upto_region 4 with(fail)
 go_loopw [16] (fun iv wr=>∃ i:Nat,i≤f.params.length∧iv=.int .i64 i∧OutT kP (w.heap.size+4) w2.heap.size wr (.slice A1 f.params.length c1) (renPs (f.params.take i) 0) (f.params.drop i)∧FMid w i i (yH (f.params.take i) 0 fun _=>0) (.cells #[.string f.name,.int .i64 f.type,.slice A1 f.params.length c1,.slice A3 f.body.length c3] 45) wr∧w2.heap.size≤wr.heap.size) (fun iv _=>f.params.length-(intOf iv).toNat)
 case atStart=>exact⟨0,Nat.zero_le _,rfl,HT3.out,HM3.out,by omega⟩
 case round=>
  obtain⟨i,hi,rfl,hT,hM,hw2⟩:=hrel;have hpl:(renPs (f.params.take i) 0).length=i:=by rw[xV,List.length_take];omega
  have HPL:=hid hpl;have HM:=hid hM;have hsr:w.heap.size+3<wr.heap.size:=zB hM.ctr;obtain⟨⟨d0,d1,d2,d3⟩,dz⟩:=zI hM.box;clear hpl hM;by_cases hlt:i<f.params.length
  · obtain⟨⟨pn,pt⟩,he⟩:∃ e,f.params[i]? =some e:=⟨_,List.getElem?_eq_getElem hlt⟩
    rw[jv he]at hT;obtain⟨g,c',hv,hBg,hg,hgL⟩:=hT.cons (by simp);simp only[Value.slice.injEq]at hv;obtain⟨rfl,hlen,rfl⟩:=hv;have HLEN:=hid hlen;obtain⟨⟨q0,q1⟩,qz⟩:=kp_cells hT hlen HPL.out
    have hps:pn.size≤281474976710656:=by
     have h1:=List.all_eq_true.1 HPAS.out _ (List.mem_of_getElem? he);unfold y6 at h1;rw[Bool.and_eq_true]at h1;have:pn.size≤20:=zAf h1.1;omega
    have HE:=hid he;have HTT:=hid hT;have hbA:Below wr.heap.size wr (wr.alloc (.cells #[.string pn,.int .i64 pt] 47)):=Zb.alloc Zr _;have hxA:(wr.alloc (.cells #[.string pn,.int .i64 pt] 47)).heap[wr.heap.size]? =some (.cells #[.string pn,.int .i64 pt] 47):=heap_alloc_new wr _;have hzA:(wr.alloc (.cells #[.string pn,.int .i64 pt] 47)).heap.size=wr.heap.size+1:=zA _ _;clear he hT hlen;go_upto_region 6 with(fail);generalize wr.alloc (.cells #[.string pn,.int .i64 pt] 47)=W6 at *;have HM6:=hid (HM.out.below hbA);have HT6:=hid (HTT.out.below hbA);have HX6:=hid hxA;have hza:=Nat.le_of_eq hzA;have hzb:=Nat.le_of_eq hzA.symm;obtain⟨⟨x0,x1⟩,xz⟩:=zE hxA;clear d0 d1 d2 d3 dz q0 q1 qz hbA hxA hzA;obtain⟨⟨d0,d1,d2,d3⟩,dz⟩:=zI HM6.out.box;obtain⟨⟨q0,q1⟩,qz⟩:=kp_cells HT6.out HLEN.out HPL.out;have hs6:w.heap.size<W6.heap.size:=by omega
    have hs6b:wr.heap.size<W6.heap.size:=by omega
    have hg6:g<W6.heap.size:=by omega
    have HTB:=hid (HT.out.below (HM6.out.drew.bel.mono hB))
    go_region_law (first
     | (go_simp;go_at_call 55;(with_reducible refine(declare_any (w.heap.size+2) (w.heap.size+3) i i (yH (f.params.take i) 0 fun _=>0) pn W6.drew HTB.out (by omega) (by omega) HM6.out.drew.map (by omega) HM6.out.drew.ctr hps (by omega) (by omega)).mono ?_)
        rintro e w7 ⟨rfl,ho,hx,hM7⟩;have hz7:W6.heap.size≤w7.heap.size:=ho.size;have HM7:=hid (HM6.out.drew.step ho hM7 hx);have hgk:w7.heap[g]? =W6.heap[g]?:=ho.block g hg6 (by omega) (by omega)
        have HT7:=hid (HT6.out.keep (w':=w7) (zD.of_off2 (w:=W6.drew) ho (by omega) (by omega)) fun j hj hjo=>by
         have e1:(some g:Option Nat)=some j:=hjo;injection e1 with e1;subst e1
         exact hgk)
        obtain⟨⟨y0,y1,y2,y3⟩,yz⟩:=zI HM7.out.box;obtain⟨⟨p0,p1⟩,pz⟩:=kp_cells HT7.out HLEN.out HPL.out;have hs7:w.heap.size<w7.heap.size:=by omega
        have hg7:g<w7.heap.size:=by omega
        clear ho hx hM7 hgk))
    all_goals
     have HT8:=hid (HT7.out.set (q':=⟨vN i,pt⟩) HLEN.out (i:=i * 2) (j:=0) (u:=.string (vN i)) (by rw[HPL.out];rfl) rfl (by decide));have HM8:=hid (HM7.out.far hBg (i * 2) (.string (vN i)));have hz8:(w7.setCell ⟨g,i * 2,none⟩ (.string (vN i))).heap.size=w7.heap.size:=by simp[World.setCell]
     go_wp2_with (fail);go_roundw
     case rel=>
      refine⟨i+1,by omega,by go_num,?_,?_,by rw[hz8];omega⟩
      · rw[kp HE.out,uW,Nat.zero_add,show (f.params.take i).length=i by rw[List.length_take];omega]
        exact HT8.out.push (M:=w2.heap.size) trivial Zr
      · rw[kp HE.out,parM_snoc,Nat.zero_add,show (f.params.take i).length=i by rw[List.length_take];omega]
        exact HM8.out
     case measure=>simp[intOf];omega
  · have hil:i=f.params.length:=by omega
    subst hil;rw[List.drop_length,List.take_length]at hT;have HTT:=hid hT;have HM':=HM.out;rw[List.take_length]at HM';have HMM:=hid HM';clear hT HM';have HEN:=hid (show RnEnv B (w.heap.size+2) (w.heap.size+3) f.params.length f.params.length (yH f.params 0 fun _=>0) wr from⟨HT.out.below (HMM.out.bel.mono hB),by omega,by omega,HMM.out.map,by omega,HMM.out.ctr,parM_le _ _ _ (fun _=>Nat.zero_le _) (by have:=HCN.out;omega)⟩);have H3R:=hid (H3.out.below (HMM.out.bel.mono hB) Zr);have hs0:w.heap.size<wr.heap.size:=by omega
    go_upto_region 9 with(go_at_call 56
                          (with_reducible refine(DlC.call (dl_all 100) HBODY.out HEN.out HCN.out HCN.out H3R.out).mono ?_)
                          rintro x w8 ⟨v8,rfl,hF,ho,hx⟩;obtain⟨A8,c8,rfl,_⟩:=zT.form hF;rw[qq]at hF;simp only[qq];have hz8:wr.heap.size≤w8.heap.size:=ho.size;have HM8:=hid (HMM.out.list ho hx);have HF8:=hid (show zT (w.heap.size+2) w8 (qO f.body (yH f.params 0 fun _=>0) f.params.length).1 (.slice A8 f.body.length c8) from zT.keep hF (zD.refl _ _) (by omega));have hown:=HTT.out.own;have HT8:=hid (HTT.out.keep (zD.of_off ho (by omega)) fun j hj hjo=>ho.block hj (by have:=(hown j hjo).2;omega));obtain⟨⟨y0,y1,y2,y3⟩,yz⟩:=zI HM8.out.box;have hs8:w.heap.size<w8.heap.size:=by omega
                          clear hF ho hx hown)
    have HM9:=hid (HM8.out.set 3 (.slice A8 f.body.length c8) (bx':=.cells #[.string f.name,.int .i64 f.type,.slice A1 f.params.length c1,.slice A8 f.body.length c8] 45) (Lib.heap_setCell_same HM8.out.box _));have HF9:=hid (show zT (w.heap.size+2) (w8.setCell ⟨w.heap.size,3,none⟩ (.slice A8 f.body.length c8)) (qO f.body (yH f.params 0 fun _=>0) f.params.length).1 (.slice A8 f.body.length c8) from zT.keep HF8.out (zD.set (by omega) _ _) Zr);have HT9:=hid (show OutT kP (w.heap.size+4) w2.heap.size (w8.setCell ⟨w.heap.size,3,none⟩ (.slice A8 f.body.length c8)) (.slice A1 f.params.length c1) (renPs f.params 0) [] from HT8.out.keep (zD.set (by omega) _ _) fun j hj hjo=>Below.heap_setCell w8 _ _ j (by have:=(HT8.out.own j hjo).2;show j≠w.heap.size;omega));have hz9:(w8.setCell ⟨w.heap.size,3,none⟩ (.slice A8 f.body.length c8)).heap.size=w8.heap.size:=by simp[World.setCell]
    generalize w8.setCell ⟨w.heap.size,3,none⟩ (.slice A8 f.body.length c8)=W9 at *;have hz9a:=Nat.le_of_eq hz9;have hz9b:=Nat.le_of_eq hz9.symm;clear hz9 y0 y1 y2 y3 yz d0 d1 d2 d3 dz;obtain⟨⟨e0,e1,e2,e3⟩,ez⟩:=zI HM9.out.box;obtain⟨⟨r0,r1,r2,r3⟩,rz⟩:=zI HM9.out.res;have hs9:w.heap.size<W9.heap.size:=by omega
    have hr9:w.heap.size+1<W9.heap.size:=zB HM9.out.res;obtain⟨⟨s0,s1,s2,s3⟩,_⟩:=zI (four_set HM9.out.res (.string f.name) (.int .i64 f.type) (.slice A1 f.params.length c1) (.slice A8 f.body.length c8));go_wp2_with (fail);refine bodyPost_ret (v:=.agg #[.string f.name,.int .i64 f.type,.slice A1 f.params.length c1,.slice A8 f.body.length c8]) (by simp[results,Tryz.results22,go_sem,s0,s1,s2,s3]) rfl ?_;have hX:=four_below W9 (w.heap.size+1) (.string f.name) (.int .i64 f.type) (.slice A1 f.params.length c1) (.slice A8 f.body.length c8) (B:=w.heap.size) (by omega);have hK:=four_keep W9 (w.heap.size+1) (.string f.name) (.int .i64 f.type) (.slice A1 f.params.length c1) (.slice A8 f.body.length c8) (L:=w.heap.size+2) (by omega);have hP:FrPs (w.heap.size+4) W9 (renPs f.params 0) (.slice A1 f.params.length c1):=OutK.params (HT9.out.fin (by omega)) (by rw[xV];omega);exact⟨_,rfl,⟨_,_,rfl,hP.keep (hK.mono (by omega)) (by omega),zT.keep HF9.out hK (by omega)⟩,HM9.out.bel.trans hX⟩
end Go.Proofs.YtfghofifjnbicaaGreatDoor
namespace Go.Proofs.YtfghofifjnbicaaGreatDoor
open Lib (hid)
open Go.RowKit
theorem tl_nil (s:ByteArray):s.toList=[]↔s.size=0:=by
 rw[Lib.toList_data,Lib.size_eq];exact List.length_eq_zero_iff.symm
section
variable (B:Nat) (op n:Int) (name:ByteArray) (A:Option Addr) (m cap:Nat) (w:World)
set_option maxHeartbeats 2000000 in
theorem rightExpr_plain (k:Int) (hk:k=1∨k=2∨k=4∨k=8):
 Calls Tryz.prog 115 #[.agg #[.int .i64 k,.int .i64 op,.int .i64 n,.string name,.slice A m cap]] w fun e w'=>e=.returned (.bool (zh k op n name m))∧Below w.heap.size w w':=by
 rcases hk with rfl | rfl | rfl | rfl
 all_goals
  go_enter Tryz.func115,Tryz.ntmps115;go_wp2_with (fail)
  all_goals go_ret
  all_goals refine⟨zC ?_,(Zb.alloc Zr _).alloc (by simp) _⟩
  all_goals go_light
  all_goals simp_all [zh,eB,tl_nil]
 all_goals omega
set_option maxHeartbeats 2000000 in
theorem rightExpr_named (k:Int) (hk:k=3∨k=6∨k=7) (b:Bool) (hb:vt name=b):
 Calls Tryz.prog 115 #[.agg #[.int .i64 k,.int .i64 op,.int .i64 n,.string name,.slice A m cap]] w fun e w'=>e=.returned (.bool (zh k op n name m))∧Below w.heap.size w w':=by
 have HB:=hid hb;clear hb;cases b
 all_goals rcases hk with rfl | rfl | rfl
 all_goals
  go_enter Tryz.func115,Tryz.ntmps115;go_wp2_with (go_at_call 87;(with_reducible refine(ud name _ HB.out _).mono ?_);rintro e w1 ⟨rfl,hb1⟩;obtain⟨hc1,hf1⟩:=zu hb1)
  all_goals go_ret
  all_goals refine⟨zC ?_,((Zb.alloc Zr _).alloc (by simp) _).trans (hb1.mono (by simp;omega))⟩
  all_goals have HB':=HB.out
  all_goals go_light
  all_goals simp_all [zh]
 all_goals omega
set_option maxHeartbeats 2000000 in
theorem rightExpr_two (ht:TreeTab B w) (hB:B≤w.heap.size):
 Calls Tryz.prog 115 #[.agg #[.int .i64 5,.int .i64 op,.int .i64 n,.string name,.slice A m cap]] w fun e w'=>e=.returned (.bool (zh 5 op n name m))∧Below w.heap.size w w':=by
 have HT:=hid ht;clear ht;go_enter Tryz.func115,Tryz.ntmps115;go_wp2_with (go_at_call 120;(with_reducible refine(level_any op _ (HT.out.below ((Zb.alloc hB _).alloc (by simp;omega) _)).rows).mono ?_);rintro e w1 ⟨rfl,hb1⟩;obtain⟨hc1,hf1⟩:=zu hb1)
 all_goals go_ret
 all_goals refine⟨zC ?_,((Zb.alloc Zr _).alloc (by simp) _).trans (hb1.mono (by simp;omega))⟩
 all_goals go_light
 all_goals simp_all [zh,eB,tl_nil]
 all_goals omega
set_option maxHeartbeats 2000000 in
theorem rightExpr_other (k:Int) (hk:k<1∨8<k):
 Calls Tryz.prog 115 #[.agg #[.int .i64 k,.int .i64 op,.int .i64 n,.string name,.slice A m cap]] w fun e w'=>e=.returned (.bool (zh k op n name m))∧Below w.heap.size w w':=by
 have n1:(k == 1)=false:=by simp;omega
 have n2:(k == 2)=false:=by simp;omega
 have n3:(k == 3)=false:=by simp;omega
 have n4:(k == 4)=false:=by simp;omega
 have n5:(k == 5)=false:=by simp;omega
 have n6:(k == 6)=false:=by simp;omega
 have n7:(k == 7)=false:=by simp;omega
 have n8:(k == 8)=false:=by simp;omega
 have hf:Hid (zh k op n name m=false):=by
  unfold Hid zh;rw[if_neg (by omega),if_neg (by omega),if_neg (by omega),if_neg (by omega),if_neg (by omega),if_neg (by omega),if_neg (by omega),if_neg (by omega)]
 clear hk;go_enter Tryz.func115,Tryz.ntmps115;go_wp2_with (fail);go_ret;exact⟨zC hf.out.symm,(Zb.alloc Zr _).alloc (by simp) _⟩
theorem rightExpr_any (k:Int) (ht:TreeTab B w) (hB:B≤w.heap.size):
 Calls Tryz.prog 115 #[.agg #[.int .i64 k,.int .i64 op,.int .i64 n,.string name,.slice A m cap]] w fun e w'=>e=.returned (.bool (zh k op n name m))∧Below w.heap.size w w':=by
 by_cases h1:k=1∨k=2∨k=4∨k=8
 · exact rightExpr_plain op n name A m cap w k h1
 by_cases h2:k=3∨k=6∨k=7
 · exact rightExpr_named op n name A m cap w k h2 _ rfl
 by_cases h3:k=5
 · subst h3
   exact rightExpr_two B op n name A m cap w ht hB
 · exact rightExpr_other op n name A m cap w k (by omega)
end
end Go.Proofs.YtfghofifjnbicaaGreatDoor
