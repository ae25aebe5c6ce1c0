import Derived.Test.YtfghofifjnbicaaGreatDoorAgParFn
import Derived.Test.YtfghofifjnbicaaGreatDoorAgTreeRightF
import Derived.Test.YtfghofifjnbicaaGreatDoorAgParNums
import Derived.Deep.DeepCutAuto
import Derived.Test.YtfghofifjnbicaaGreatDoorAgParBlk
import Derived.Test.YtfghofifjnbicaaGreatDoorAgTyGlo
set_option linter.unusedSimpArgs false
set_option linter.unusedVariables false
set_option maxRecDepth 100000
/- The document's parser: a program. (By tools/gen_parpg.py.) -/
namespace Go.Proofs.YtfghofifjnbicaaGreatDoor
open Lib (hid)
open Go.RowKit
theorem rvalue_nil (w:World):Calls Tryz.prog 43 #[.string ⟨#[]⟩] w fun e w'=>e=.returned (.int .i64 (-1))∧w=w':=by
 go_enter Tryz.func43,Tryz.ntmps43;go_wp2
 go_loop [3,4,5] (fun n i _=>i=.int .i64 0∧n=.int .i64 0) (fun _ i _=>0)
 case atStart=>exact⟨rfl,rfl⟩
 case round=>
  obtain⟨rfl,rfl⟩:=hrel;go_wp2;go_ret;exact⟨rfl,rfl⟩
theorem text_nil {b:Nat} {V:Value} {all r:List Tok} {w:World} (h:jA b V all (.ok () r) w) (k:Int) (hk:yq r≠k):
 Calls Tryz.prog 41 #[.pointer (some ⟨b,0,none⟩),.int .i64 k] w fun e w'=>e=.returned (.string ⟨#[]⟩)∧qV b V all w (.bad r) w':=by
 have hp:zT b V all r false false w:=h;clear h;have hS:=fun o=>box_spoil hp o
 have hlt:=hp.lt;have f1:=hp.1.frozen 1;have f2:=hp.1.frozen 2;have HOV:=hid (show jA b V all (.ok () r) w from hp);obtain⟨g,c,p,t,q,rfl,rfl,hpp,hpl,hl,c0,c1,c2,c3,t0,t1,t2⟩:=hp.tok;have hlk:(p:Int)<all.length:=by omega
 have hw0:0<w.heap.size:=by omega
 have HS:=hid hS;have e2:(t.kind != k)=true:=by simpa[yq] using hk
 clear hp hpp hS hk;go_enter Tryz.func41,Tryz.ntmps41;go_wp2_with (go_at_call 39;(with_reducible refine(zl HOV.out false rfl).mono ?_);rintro e w1 ⟨rfl,rfl⟩)
 go_region_held3 (fun w'=>w'.cell? ⟨b,0,none⟩=some (.slice (some ⟨g,0,none⟩) all.length c)∧w'.cell? ⟨b,1,none⟩=some (.int .i64 p)∧w'.cell? ⟨g,p * 3,none⟩=some (.int .i64 t.kind)∧w'.cell? ⟨g,p * 3+1,none⟩=some (.string ⟨t.text.toArray⟩)∧w'.cell? ⟨g,p * 3+2,none⟩=some (.int .i64 (t.line:Int))∧0<w'.heap.size)
  (first | go_keep | (go_split_ands;refine⟨?_,?_,?_,?_,?_,?_⟩ <;> assumption))
  (fail)
 go_wp2_with (fail);go_ret;exact⟨rfl,HS.out _⟩
abbrev pgBox:Obj:=.cells #[.slice none 0 0,.slice none 0 0] 26
abbrev yC (W:World) (g:Nat) (c0 c1:Value):World:=(W.setCell ⟨g,0,none⟩ c0).setCell ⟨g,1,none⟩ c1
theorem nest2_row {W:World} {g:Nat} {d0 d1:Value} {T:TypeId} {fr:Nat × Nat} (hb:W.heap[g]? =some (.cells #[d0,d1] T fr)) (c0 c1:Value):(yC W g c0 c1).heap[g]? =some (.cells #[c0,c1] T fr):=Lib.heap_setCell_same (Lib.heap_setCell_same hb c0) c1
theorem zD.nest2 {L g:Nat} {w:World} (hg:g<L) (c0 c1:Value):zD L w (yC w g c0 c1):=(zD.set hg 0 c0).trans (zD.set hg 1 c1)
theorem jb {W:World} {g:Nat} {c0 c1:Value} {T:TypeId} (h:W.heap[g]? =some (.cells #[c0,c1] T (0,0))):(W.cell? ⟨g,0,none⟩=some c0∧W.cell? ⟨g,1,none⟩=some c1)∧∀ o,W.frozen? ⟨g,o,none⟩=false:=by
 refine⟨⟨(Lib.cell_of_heap h 0).trans rfl,(Lib.cell_of_heap h 1).trans rfl⟩,fun o=>?_⟩;simp[World.frozen?,h]
def FrG (L:Nat) (w:World) (a:Pr) (v:Value):Prop:=∃ v0 v1,v=.agg #[v0,v1]∧SlA w.heap.size (mask (yg L) w) v0 a.arrays∧SlF w.heap.size (mask (yg L) w) v1 a.funcs
def CurP (b:Nat) (V:Value) (all:List Tok) (w:World) (x:PR Unit) (W:World) (c0 c1:Value):Prop:=
 qV b V all w x W∧W.heap[w.heap.size]? =some pgBox∧W.heap[w.heap.size+1]? =some (.cells #[c0,c1] 26 (0,0))∧vO b V all w∧b<w.heap.size
section
variable {b:Nat} {V:Value} {all:List Tok} {w W W':World} {x y:PR Unit} {c0 c1:Value}
theorem CurP.start (h:jA b V all x w):CurP b V all w x ((w.alloc pgBox).alloc pgBox) (.slice none 0 0) (.slice none 0 0):=by
 have hb:Below w.heap.size w ((w.alloc pgBox).alloc pgBox):=((Below.refl _ _).alloc (Nat.le_refl _) _).alloc (by rw[zA];omega) _;refine⟨⟨h.below hb,OffB.of_below hb h.lt⟩,zc (heap_alloc_new w pgBox) _,?_,h.tok,h.lt⟩;have:=heap_alloc_new (w.alloc pgBox) pgBox;rw[zA]at this;exact this
theorem CurP.did (h:CurP b V all w x W c0 c1):qV b V all w x W:=h.1
theorem CurP.st (h:CurP b V all w x W c0 c1):jA b V all x W:=h.1.1
theorem CurP.lt (h:CurP b V all w x W c0 c1):b<w.heap.size:=h.2.2.2.2
theorem CurP.size (h:CurP b V all w x W c0 c1):w.heap.size+1<W.heap.size:=(Array.getElem?_eq_some_iff.1 h.2.2.1).1
theorem CurP.step (h:CurP b V all w x W c0 c1) (g:qV b V all W y W'):CurP b V all w y W' c0 c1:=
 ⟨h.1.after g,qY g.off (by have:=h.size;omega) (by have:=h.lt;omega) h.2.1,qY g.off h.size (by have:=h.lt;omega) h.2.2.1,h.2.2.2⟩
theorem CurP.alloc (h:CurP b V all w x W c0 c1) (o:Obj):CurP b V all w x (W.alloc o) c0 c1:=⟨h.1.alloc o,zc h.2.1 o,zc h.2.2.1 o,h.2.2.2⟩
theorem CurP.drew (h:CurP b V all w x W c0 c1):CurP b V all w x W.drew c0 c1:=h.step ⟨h.st.below (Below.refl _ _).drew,OffB.of_below (Below.refl _ _).drew h.st.lt⟩
theorem CurP.drewN (h:CurP b V all w x W c0 c1) (n:Nat):CurP b V all w x (W.drewN n) c0 c1:=h.step ⟨h.st.drewN n,(OffB.refl b _ W).drewN n⟩
theorem CurP.own (h:CurP b V all w x W c0 c1):(W.cell? ⟨w.heap.size,0,none⟩=some (.slice none 0 0)∧W.cell? ⟨w.heap.size,1,none⟩=some (.slice none 0 0))∧∀ o,W.frozen? ⟨w.heap.size,o,none⟩=false:=jb h.2.1
theorem CurP.f (h:CurP b V all w x W c0 c1):(W.cell? ⟨w.heap.size+1,0,none⟩=some c0∧W.cell? ⟨w.heap.size+1,1,none⟩=some c1)∧∀ o,W.frozen? ⟨w.heap.size+1,o,none⟩=false:=jb h.2.2.1
theorem CurP.set (h:CurP b V all w x W c0 c1) (i:Nat) (u:Value):qV b V all w x (W.setCell ⟨w.heap.size+1,i,none⟩ u)∧(W.setCell ⟨w.heap.size+1,i,none⟩ u).heap[w.heap.size]? =some pgBox:=
 ⟨h.1.set h.2.2.2.1 (by omega) (by have:=h.lt;omega) i u,(Below.heap_setCell W _ u _ (by show w.heap.size≠w.heap.size+1;omega)).trans h.2.1⟩
theorem CurP.set0 (h:CurP b V all w x W c0 c1) (u:Value):CurP b V all w x (W.setCell ⟨w.heap.size+1,0,none⟩ u) u c1:=⟨(h.set 0 u).1,(h.set 0 u).2,Lib.heap_setCell_same h.2.2.1 u,h.2.2.2⟩
theorem CurP.set1 (h:CurP b V all w x W c0 c1) (u:Value):CurP b V all w x (W.setCell ⟨w.heap.size+1,1,none⟩ u) c0 u:=⟨(h.set 1 u).1,(h.set 1 u).2,Lib.heap_setCell_same h.2.2.1 u,h.2.2.2⟩
theorem CurP.fin (h:CurP b V all w y W c0 c1) {X:PR Pr} (hy:X.un=y) (hG:qo X fun a=>FrG w.heap.size (_root_.Go.Proofs.YtfghofifjnbicaaGreatDoor.yC W w.heap.size c0 c1) a (.agg #[c0,c1])):
 qG b V all w X (FrG w.heap.size) (.returned (.agg #[c0,c1])) (_root_.Go.Proofs.YtfghofifjnbicaaGreatDoor.yC W w.heap.size c0 c1):=
 ⟨_,rfl,hy ▸ (h.1.set h.2.2.2.1 (Nat.le_refl _) (by have:=h.lt;omega) 0 c0).set h.2.2.2.1 (Nat.le_refl _) (by have:=h.lt;omega) 1 c1,hG⟩
theorem CurP.read (h:CurP b V all w x W c0 c1):((W.setCell ⟨w.heap.size,0,none⟩ c0).setCell ⟨w.heap.size,1,none⟩ c1).cell? ⟨w.heap.size,0,none⟩=some c0∧((W.setCell ⟨w.heap.size,0,none⟩ c0).setCell ⟨w.heap.size,1,none⟩ c1).cell? ⟨w.heap.size,1,none⟩=some c1:=(jb (nest2_row h.2.1 c0 c1)).1
end
theorem got_eq {α β:Type} {x:PR α} {a0:α} (h:qo x fun a=>a=a0) (F:α→List Tok→PR β):x.bind F=x.un.bind fun _ r=>F a0 r:=by
 cases x with
 | ok a r=>
   obtain rfl:a=a0:=h;rfl
 | _=>rfl
def pgK (q:Nat) (p:Pr) (a:Pa) (r:List Tok):PR Pr:=
 if a.type=1∧p.funcs=[]∧z6 [91] r=true then (pArr a.name r.tail).bind fun x r=>Go.Proofs.YtfghofifjnbicaaGreatDoor.u7 q ⟨p.arrays++[x],p.funcs⟩ r
 else (pFn q a.type a.name r).bind fun f r=>Go.Proofs.YtfghofifjnbicaaGreatDoor.u7 q ⟨p.arrays,p.funcs++[f]⟩ r
theorem pPr_got {q:Nat} {p:Pr} {r:List Tok} (h:yq r≠3):Go.Proofs.YtfghofifjnbicaaGreatDoor.u7 (q+1) p r=(q6 r).bind fun a r=>pgK q p a r:=by
 rw[Go.Proofs.YtfghofifjnbicaaGreatDoor.u7,if_neg h];unfold q6;simp only[zR];rfl
theorem pPr_end {q:Nat} {p:Pr} {r:List Tok} (h:yq r=3):Go.Proofs.YtfghofifjnbicaaGreatDoor.u7 (q+1) p r=.ok p r:=by rw[Go.Proofs.YtfghofifjnbicaaGreatDoor.u7,if_pos h]
theorem own_apart {w:World} {B:Nat} {e t:TypeId} {n m k l:Nat} {v u:Value} {xs ys:List Value} (h:w.ownsRow B e n v k xs) (g:w.ownsRow B t m u l ys) (hne:e≠t):∀ j,v.ownBlock=some j→u.ownBlock≠some j:=by
 intro j hj;rcases h.2 with⟨rfl,_⟩ | ⟨g',cap,cur,rfl,h1,h2,_⟩
 · cases hj
 · injection hj with hj
   subst hj;exact own_ne g (show Is w g' e cur from h2) (fun e=>hne e.symm)
structure PgAt (b:Nat) (V:Value) (all:List Tok) (w:World) (y:PR Unit) (W:World) (va vf:Value) (ars:List Ar) (fs:List FuV):Prop where
 cur:CurP b V all w y W va vf
 arr:OutK kA (w.heap.size+2) W va ars
 fnc:OutK kF (w.heap.size+2) W vf fs
 nil:fs=[]→vf=.slice none 0 0
section
variable {b:Nat} {V:Value} {all:List Tok} {w W W':World} {x y:PR Unit} {va vf:Value} {ars:List Ar} {fs:List FuV}
theorem PgAt.step (h:PgAt b V all w x W va vf ars fs) (g:qV b V all W y W'):PgAt b V all w y W' va vf ars fs:=
 ⟨h.cur.step g,h.arr.keep (zD.did g (by have:=h.cur.lt;omega)),h.fnc.keep (zD.did g (by have:=h.cur.lt;omega)),h.nil⟩
theorem PgAt.drewN (h:PgAt b V all w x W va vf ars fs) (n:Nat):PgAt b V all w x (W.drewN n) va vf ars fs:=h.step ⟨h.cur.st.drewN n,(OffB.refl b _ W).drewN n⟩
theorem PgAt.drew (h:PgAt b V all w x W va vf ars fs):PgAt b V all w x W.drew va vf ars fs:=h.step ⟨h.cur.st.below (Below.refl _ _).drew,OffB.of_below (Below.refl _ _).drew h.cur.st.lt⟩
theorem PgAt.array {w5:World} {v1:Value} {a:Ar} (h:PgAt b V all w y W va vf ars []) (hg:(W.alloc (.cells #[.string a.name,.int .i64 a.size] 62)).grownBy w5 va.ownBlock) (hr:xE (W.alloc (.cells #[.string a.name,.int .i64 a.size] 62)) va v1)
 (ho:w5.ownsRow (w.heap.size+2) 62 2 v1 (ars.length+1) (ars.flatMap kA.cs++[.string a.name,.int .i64 a.size])):CurP b V all w y w5 va vf∧PgAt b V all w y (w5.setCell ⟨w.heap.size+1,0,none⟩ v1) v1 vf (ars++[a]) []:=by
 have hC:=h.cur;have hal:Below W.heap.size W (W.alloc (.cells #[.string a.name,.int .i64 a.size] 62)):=(Below.refl _ _).alloc (Nat.le_refl _) _;have hO1:OutK kA (w.heap.size+2) w5 v1 (ars++[a]):=h.arr.app (L:=W.heap.size) trivial (by have:=hC.size;omega) (fun k hk=>(h.arr.own k hk).1) hal hg hr ho;have hown:∀ j,va.ownBlock=some j→w.heap.size+2≤j:=fun j hj=>(h.arr.own j hj).2
 have hblk:∀ j,j<W.heap.size→j<w.heap.size+2→w5.heap[j]? =W.heap[j]?:=fun j hj hj2=>(hg.block j (Nat.lt_of_lt_of_le hj hal.size) (fun e=>by have:=hown j e.symm;omega)).trans (hal.block j hj)
 have hz:=hC.size;have hbl:=hC.lt;have hoff:OffB b w.heap.size w w5:=hC.did.off.trans (OffB.mk' (hg.os.trans hal.os) (hg.tape.trans hal.tape) (hg.output.trans hal.output) (Nat.le_trans hal.size hg.size) hC.st.lt fun j hj _=>hblk j (by have:=hC.did.off.size;omega) (by omega));have hC1:CurP b V all w y w5 va vf:=⟨⟨hC.st.move hC.2.2.2.1 hoff (hblk b hC.st.lt (by omega)),hoff⟩,(hblk _ (by omega) (by omega)).trans hC.2.1,(hblk _ hz (by omega)).trans hC.2.2.1,hC.2.2.2⟩
 refine⟨hC1,hC1.set0 v1,hO1.keep (zD.set (by omega) 0 v1),?_,h.nil⟩;rw[h.nil rfl];exact OutK.nil _ _ _
theorem PgAt.func {w5:World} {v1:Value} {s:ByteArray} {t:Int} {v2 v3:Value} (h:PgAt b V all w y W va vf ars fs) (hg:(W.alloc (.cells #[.string s,.int .i64 t,v2,v3] 45)).grownBy w5 vf.ownBlock) (hr:xE (W.alloc (.cells #[.string s,.int .i64 t,v2,v3] 45)) vf v1)
 (ho:w5.ownsRow (w.heap.size+2) 45 4 v1 (fs.length+1) (fs.flatMap kF.cs++[.string s,.int .i64 t,v2,v3])) {L:Nat} (hL:w.heap.size+2≤L) (hL2:∀ k,vf.ownBlock=some k→k<L):
 CurP b V all w y w5 va vf∧∀ f,FrF L W f (.agg #[.string s,.int .i64 t,v2,v3])→∃ q:FuV,q.f=f∧PgAt b V all w y (w5.setCell ⟨w.heap.size+1,1,none⟩ v1) va v1 ars (fs++[q]):=by
 have hC:=h.cur;have hal:Below W.heap.size W (W.alloc (.cells #[.string s,.int .i64 t,v2,v3] 45)):=(Below.refl _ _).alloc (Nat.le_refl _) _;have hown:∀ j,vf.ownBlock=some j→w.heap.size+2≤j:=fun j hj=>(h.fnc.own j hj).2
 have hblk0:∀ j,j<W.heap.size→vf.ownBlock≠some j→w5.heap[j]? =W.heap[j]?:=fun j hj hj2=>(hg.block j (Nat.lt_of_lt_of_le hj hal.size) (fun e=>hj2 e.symm)).trans (hal.block j hj)
 have hblk:∀ j,j<W.heap.size→j<w.heap.size+2→w5.heap[j]? =W.heap[j]?:=fun j hj hj2=>hblk0 j hj (fun e=>by have:=hown j e;omega)
 have hz:=hC.size;have hbl:=hC.lt;have hoff:OffB b w.heap.size w w5:=hC.did.off.trans (OffB.mk' (hg.os.trans hal.os) (hg.tape.trans hal.tape) (hg.output.trans hal.output) (Nat.le_trans hal.size hg.size) hC.st.lt fun j hj _=>hblk j (by have:=hC.did.off.size;omega) (by omega));have hC1:CurP b V all w y w5 va vf:=⟨⟨hC.st.move hC.2.2.2.1 hoff (hblk b hC.st.lt (by omega)),hoff⟩,(hblk _ (by omega) (by omega)).trans hC.2.1,(hblk _ hz (by omega)).trans hC.2.2.1,hC.2.2.2⟩
 refine⟨hC1,fun f hf=>?_⟩;obtain⟨u2,u3,hv,h2,h3⟩:=hf;simp only[Value.agg.injEq,Array.mk.injEq,List.cons.injEq,Value.int.injEq,Value.string.injEq,true_and,and_true]at hv;obtain⟨rfl,rfl,rfl,rfl⟩:=hv;have hO1:OutK kF (w.heap.size+2) w5 v1 (fs++[⟨f,v2,v3⟩]):=h.fnc.app (K:=kF) (L:=L) (p:=(⟨f,v2,v3⟩:FuV)) (show SlP W.heap.size (mask (yg L) W) v2 f.params∧SlS W.heap.size (mask (yg L) W) v3 f.body from⟨h2,h3⟩) hL hL2 hal hg hr ho
 have hA:OutK kA (w.heap.size+2) w5 va ars:=by
  refine⟨qS h.arr.1 fun j hj=>hblk0 j (h.arr.own j hj).1 ?_,fun p hp=>trivial⟩;exact own_apart h.arr.1 h.fnc.1 (by decide) j hj
 exact⟨⟨f,v2,v3⟩,rfl,hC1.set1 v1,hA.keep (zD.set (by omega) 1 v1),hO1.keep (zD.set (by omega) 1 v1),fun e=>absurd e (by simp)⟩
end
theorem RdA.imp {B B':Nat} {w w':World} (hc:∀ g o u,CellB B w g o u→CellB B' w' g o u) (a:Ar) (g o:Nat) (h:RdA B w a g o):RdA B' w' a g o:=⟨hc _ _ _ h.1,hc _ _ _ h.2⟩
theorem SlA.imp {B B':Nat} {w w':World} (hc:∀ g o u,CellB B w g o u→CellB B' w' g o u) {v:Value} {l:List Ar} (h:SlA B w v l):SlA B' w' v l:=xH.imp h fun g o=>xp.imp (fun a g o=>RdA.imp hc a g o) l g o
theorem RdF.imp {B B':Nat} {w w':World} (hc:∀ g o u,CellB B w g o u→CellB B' w' g o u) (a:Fu) (g o:Nat) (h:RdF B w a g o):RdF B' w' a g o:=by
 obtain⟨h0,h1,⟨v,h2,h3⟩,⟨v',h4,h5⟩⟩:=h;exact⟨hc _ _ _ h0,hc _ _ _ h1,⟨v,hc _ _ _ h2,h3.imp hc⟩,⟨v',hc _ _ _ h4,h5.imp hc⟩⟩
theorem SlF.imp {B B':Nat} {w w':World} (hc:∀ g o u,CellB B w g o u→CellB B' w' g o u) {v:Value} {l:List Fu} (h:SlF B w v l):SlF B' w' v l:=xH.imp h fun g o=>xp.imp (fun a g o=>RdF.imp hc a g o) l g o
def PgRel (b:Nat) (V:Value) (all:List Tok) (w:World) (T:PR Pr) (n:Nat) (wr:World):Prop:=
 ∃ (m:Nat) (ars:List Ar) (fs:List FuV) (y:PR Unit) (va vf:Value),m≤n∧PgAt b V all w y wr va vf ars fs∧T=y.bind (fun _ r=>Go.Proofs.YtfghofifjnbicaaGreatDoor.u7 m ⟨ars,fs.map (·.f)⟩ r)∧(zg y=false→ars.length+fs.length≤xJ b wr)∧ars.length+fs.length≤2000000
theorem pg_end {b:Nat} {V:Value} {all:List Tok} {w W:World} {y:PR Unit} {va vf:Value} {ars:List Ar} {fs:List FuV} {T:PR Pr} (h:PgAt b V all w y W va vf ars fs) (hn:ars.length+fs.length≤2000000) (hT:T=y.bind fun _ r=>.ok ⟨ars,fs.map (·.f)⟩ r):qG b V all w T (FrG w.heap.size) (.returned (.agg #[va,vf])) (yC W w.heap.size va vf):=by
 subst hT;have hk:zD (w.heap.size+2) W (yC W w.heap.size va vf):=zD.nest2 (by omega) _ _;have ha:=(h.arr.keep hk).arrays (by omega);have hf:=(h.fnc.keep hk).funcs (by omega);have hl:∀ g o u,CellB (yC W w.heap.size va vf).heap.size (mask (yg (w.heap.size+2)) (yC W w.heap.size va vf)) g o u→CellB (yC W w.heap.size va vf).heap.size (mask (yg w.heap.size) (yC W w.heap.size va vf)) g o u:=(zD.refl (w.heap.size+2) _).cells (by omega);have hg:FrG w.heap.size (yC W w.heap.size va vf) ⟨ars,fs.map (·.f)⟩ (.agg #[va,vf]):=⟨va,vf,rfl,SlA.imp hl ha,SlF.imp hl hf⟩
 refine h.cur.fin ?_ ?_
 · rw[qu]
   cases y <;> rfl
 · cases y with
   | ok u r=>exact hg
   | bad r=>exact⟨_,hg⟩
   | deep r=>exact⟨_,hg⟩
   | out=>trivial
theorem got_pick {α:Type} {Y:PR α} {P:α→Prop} (h:qo Y P) (he:zG Y):∃ a,P a∧∀ {β:Type} (F:α→List Tok→PR β),Y.bind F=Y.un.bind fun _ r=>F a r:=by
 cases Y with
 | ok a r=>exact⟨a,h,fun F=>rfl⟩
 | bad r=>obtain⟨a,ha⟩:=h;exact⟨a,ha,fun F=>rfl⟩
 | deep r=>obtain⟨a,ha⟩:=h;exact⟨a,ha,fun F=>rfl⟩
 | out=>exact absurd he id
theorem pgK_fn {q:Nat} {p:Pr} {a:Pa} {z:PR Unit} (hc:¬ (a.type=1∧p.funcs=[]∧zP [91] z=true)):(z.bind fun _ r=>pgK q p a r)=(z.bind fun _ r=>pFn q a.type a.name r).bind fun f r=>Go.Proofs.YtfghofifjnbicaaGreatDoor.u7 q ⟨p.arrays,p.funcs++[f]⟩ r:=by
 cases z with
 | ok u r=>
   show pgK q p a r=(pFn q a.type a.name r).bind _;unfold pgK;exact congrArg id (if_neg hc)
 | _=>rfl
theorem pgK_arr {q:Nat} {p:Pr} {a:Pa} {r:List Tok} (h1:a.type=1) (h2:p.funcs=[]) (h3:z6 [91] r=true):pgK q p a r=(pArr a.name r.tail).bind fun x r=>Go.Proofs.YtfghofifjnbicaaGreatDoor.u7 q ⟨p.arrays++[x],p.funcs⟩ r:=by
 unfold pgK;rw[if_pos ⟨h1,h2,h3⟩]
theorem fits_at {α:Type} {b:Nat} {V:Value} {all r:List Tok} {W:World} {X:PR α} (hF:zZ 1 r X) (hs:jA b V all X.un W) (hrl:r.length≤all.length) (hrp:0<r.length):
 2 * (all.length-xJ b W)+yB b W<2 * r.length+1∧(zg X.un=false→all.length-r.length+1≤xJ b W):=by
 cases X with
 | ok a r2=>
   have hp:zT b V all r2 false false W:=hs;have hao:=qk hp;have hl:=(show zH 1 r r2 from hF).2.2;have hlv:=liveN_le b W;exact⟨by omega,fun _=>by omega⟩
 | bad r2=>
   have hp:zT b V all r2 true false W:=hs;have hao:=qk hp;have hl:=(show zH 0 r r2 from hF).2.2;have hlv:=yk hs rfl;exact⟨by omega,fun h=>by cases h⟩
 | deep r2=>
   have hp:zT b V all r2 false true W:=hs;have hao:=qk hp;have hl:=(show zH 0 r r2 from hF).2.2;have hlv:=yk hs rfl;exact⟨by omega,fun h=>by cases h⟩
 | out=>exact absurd hs id
theorem pg_rel {α:Type} {b:Nat} {V:Value} {all r:List Tok} {w W:World} {va vf:Value} {ars:List Ar} {fs:List FuV} {T:PR Pr} {X:PR α} {q n:Nat} (hq:q≤n) (hF:zZ 1 r X) (hP:PgAt b V all w X.un W va vf ars fs) (hT:T=X.un.bind fun _ r=>Go.Proofs.YtfghofifjnbicaaGreatDoor.u7 q ⟨ars,fs.map (·.f)⟩ r)
 (hrl:r.length≤all.length) (hrp:0<r.length) (hc:ars.length+fs.length≤all.length-r.length+1) (hal:all.length≤1000000):PgRel b V all w T n W∧2 * (all.length-xJ b W)+yB b W<2 * r.length+1:=by
 obtain⟨h1,h2⟩:=fits_at hF hP.cur.st hrl hrp;exact⟨⟨q,ars,fs,_,va,vf,hq,hP,hT,fun ho=>by have:=h2 ho;omega,by omega⟩,h1⟩
theorem parOne_live {r:List Tok} {a:Pa} {r1:List Tok} (h:(q6 r).un=.ok () r1) (hg:qo (q6 r) fun p=>p=a) (he:ze r):q6 r=.ok a r1∧zH 1 r r1:=by
 obtain⟨a',h2⟩:=un_ok h;have hF:=xG he;rw[h2]at hg hF;obtain rfl:a'=a:=hg;exact⟨h2,hF⟩
theorem un_fits {α:Type} {k:Nat} {l:List Tok} {x:PR α} (h:zZ k l x):zZ k l x.un:=by
 cases x with
 | ok a r=>exact h
 | bad r=>exact h
 | deep r=>exact h
 | out=>trivial
theorem rvalue_is (s:ByteArray) (nv:Int) (w:World) (hs:s.size≤281474976710656) (hn:jr s.data.toList=true) (h:nv=(jU 0 s.data.toList:Nat)):
 Calls Tryz.prog 43 #[.string s] w fun e w'=>e=.returned (.int .i64 nv)∧w=w':=by
 subst h;exact rvalue_num s w hs hn
set_option maxHeartbeats 6400000 in
theorem zAg {b:Nat} {V:Value} {all:List Tok} {n:Nat} {x:PR Unit} {w:World} (h:jA b V all x w) (hn:zG (x.bind fun _ r=>Go.Proofs.YtfghofifjnbicaaGreatDoor.u7 n ⟨[],[]⟩ r)):
 Calls Tryz.prog 16 #[.pointer (some ⟨b,0,none⟩)] w (qG b V all w (x.bind fun _ r=>Go.Proofs.YtfghofifjnbicaaGreatDoor.u7 n ⟨[],[]⟩ r) (FrG w.heap.size)):=by
 obtain⟨T,hT⟩:∃ T,(x.bind fun _ r=>Go.Proofs.YtfghofifjnbicaaGreatDoor.u7 n ⟨[],[]⟩ r)=T:=⟨_,rfl⟩
 rw[hT]at hn ⊢;have HTE:=hid hn;have HT0:=hid hT.symm;have HP:=hid (show PgAt b V all w x ((w.alloc pgBox).alloc pgBox) (.slice none 0 0) (.slice none 0 0) [] [] from⟨CurP.start h,OutK.nil _ _ _,OutK.nil _ _ _,fun _=>rfl⟩);have hbw:=h.lt;clear h hn hT;go_enter Tryz.func16,Tryz.ntmps16;go_wp2
 go_loopw [4] (fun _ wr=>PgRel b V all w T n wr) (fun _ wr=>2 * (all.length-xJ b wr)+yB b wr)
 case atStart=>exact⟨n,[],[],x,_,_,Nat.le_refl _,HP.out,HT0.out,fun _=>Nat.zero_le _,by simp⟩
 case round=>
  obtain⟨i0,hi0,hz0,hz1,hz2⟩:=info_parts ar_info;have HI0:=hid (And.intro hi0 (And.intro hz0 (And.intro hz1 hz2)));obtain⟨i1,hi1,hy0,hy1,hy2⟩:=info_parts fu_info;have HI1:=hid (And.intro hi1 (And.intro hy0 (And.intro hy1 hy2)));clear hi0 hz0 hz1 hz2 hi1 hy0 hy1 hy2;obtain⟨m,ars,fs,y,va,vf,hmn,hP,hT,hacc,hac2⟩:=hrel;replace HP:=hid hP;cases ho:zg y with
  | true=>
    have HTT:=hid (show T=y.bind fun _ r=>.ok ⟨ars,fs.map (·.f)⟩ r from hT.trans (vt ho _ _));have HOV:=hid ho;obtain⟨r0,bd,dp,hp,_,_⟩:=hP.cur.st.box;obtain⟨g,c,k,t,q,rfl,rfl,hk,hklt,hl,b0,b1,b2,b3,t0,t1,t2⟩:=hp.tok;have hklt2:(k:Int)<all.length:=by omega
    clear hk hp ho hT hacc hP;go_wp2
    go_quiet ((go_at_call 39;exact Calls.quiet_of_same (zl (HP.out.drewN _).cur.st true HOV.out)))
    replace HP:=hid (HP.out.drewN nq);clear b0 b1 b2 b3 t0 t1 t2;obtain⟨⟨p0,p1⟩,pz⟩:=HP.out.cur.f;obtain⟨⟨q0,q1⟩,qz⟩:=HP.out.cur.own;obtain⟨A0,cp0,rfl⟩:=HP.out.arr.form;obtain⟨A1,cp1,rfl⟩:=HP.out.fnc.form;go_wp2_with (fail);obtain⟨f0,f1⟩:=HP.out.cur.read;refine bodyPost_ret (v:=.agg #[.slice A0 ars.length cp0,.slice A1 fs.length cp1]) (by simp[results,Tryz.results16,go_sem,f0,f1]) rfl ?_;exact pg_end HP.out hac2 HTT.out
  | false=>
    obtain⟨r,rfl⟩:∃ r,y=.ok () r:=by
     cases y with
     | ok u r=>exact⟨r,rfl⟩
     | bad r=>cases ho
     | deep r=>cases ho
     | out=>exact absurd hP.cur.st id
    obtain⟨hat,hrl,hal,hen,hrp⟩:=kr hP.cur.did;have hacc9:=hacc rfl;rw[hat]at hacc9;have hlv:=liveN_ok (show zT b V all r false false wr from hP.cur.st)
    obtain⟨q,rfl⟩:∃ q,m=q+1:=by
     cases m with
     | zero=>have h1:=HTE.out;rw[hT]at h1;exact absurd (show zG (Go.Proofs.YtfghofifjnbicaaGreatDoor.u7 0 ⟨ars,fs.map (·.f)⟩ r) from h1) (by rw[Go.Proofs.YtfghofifjnbicaaGreatDoor.u7];exact id)
     | succ q=>exact⟨q,rfl⟩
    have hT2:T=Go.Proofs.YtfghofifjnbicaaGreatDoor.u7 (q+1) ⟨ars,fs.map (·.f)⟩ r:=hT;obtain⟨g,c,k,t,tq,rfl,htq,hk,hklt,hl,b0,b1,b2,b3,t0,t1,t2⟩:=(show zT b V all r false false wr from hP.cur.st).tok;have hklt2:(k:Int)<all.length:=by omega
    have hkk:yq r=t.kind:=by rw[htq];rfl
    cases hk3:decide (t.kind=3) with
    | true=>
      have e3:t.kind=3:=of_decide_eq_true hk3;have hk0:(t.kind != 3)=false:=by simpa using hk3
      have HTT:=hid (show T=(PR.ok () r).bind fun _ r=>.ok ⟨ars,fs.map (·.f)⟩ r from hT2.trans (pPr_end (hkk.trans e3)));clear hk ho hT hT2 hacc hP hk3 e3 hlv hat hkk htq hen;go_wp2
      go_quiet ((go_at_call 39;exact Calls.quiet_of_same (zl (HP.out.drewN _).cur.st false rfl)))
      replace HP:=hid (HP.out.drewN nq);clear b0 b1 b2 b3 t0 t1 t2;obtain⟨⟨p0,p1⟩,pz⟩:=HP.out.cur.f;obtain⟨⟨q0,q1⟩,qz⟩:=HP.out.cur.own;obtain⟨A0,cp0,rfl⟩:=HP.out.arr.form;obtain⟨A1,cp1,rfl⟩:=HP.out.fnc.form;go_wp2_with (fail);obtain⟨f0,f1⟩:=HP.out.cur.read;refine bodyPost_ret (v:=.agg #[.slice A0 ars.length cp0,.slice A1 fs.length cp1]) (by simp[results,Tryz.results16,go_sem,f0,f1]) rfl ?_;exact pg_end HP.out hac2 HTT.out
    | false=>
      have e3:¬ t.kind=3:=of_decide_eq_false hk3;have hk0:(t.kind != 3)=true:=by simpa using hk3
      have HT:=hid (hT2.trans (pPr_got (hkk ▸ e3)));have HEN:=hid hen;have HAT:=hid hat;have HLV:=hid hlv;clear hk ho hT hT2 hacc hP hk3 e3 hlv hat hkk htq hen;go_wp2
      go_quiet ((go_at_call 39;exact Calls.quiet_of_same (zl (HP.out.drewN _).cur.st false rfl)))
      replace HP:=hid (HP.out.drewN nq);clear b0 b1 b2 b3 t0 t1 t2
      go_wp2_with (first
       | (go_at_call 40;(with_reducible refine(yU HP.out.cur.st).mono ?_);rintro e w3 ⟨tv0,rfl,hD,hG⟩
          obtain⟨tv,rfl,hG2⟩:=ty_got (r:=r) hG;have HGT:=hid hG2;replace HP:=hid (show PgAt b _ all w (uO r).un w3 _ _ _ _ from HP.out.step hD)
          clear hD hG hG2))
      go_at_call 41
      (with_reducible refine(xF HP.out.cur.st 1 (by decide)).mono ?_)
      rintro e w4 ⟨s',rfl,hD,hG⟩;have HGS:=hid (uW HGT.out hG);replace HP:=hid (show PgAt b _ all w (q6 r).un w4 _ _ _ _ from(parOne_un r).symm ▸ HP.out.step hD);replace HT:=hid (HT.out.trans (got_eq HGS.out _));clear hD hG HGT;have hbw4:=HP.out.cur.st.lt;dsimp only;by_cases hA:tv=1∧fs=[]∧zP [91] (q6 r).un=true
      · obtain⟨rfl,rfl,h91⟩:=hA
        obtain⟨r1,hz,hs1⟩:=yf h91;obtain⟨hp1,hR1⟩:=parOne_live hz HGS.out HEN.out;have hvf:vf=.slice none 0 0:=HP.out.nil rfl;subst hvf
        have hT3:T=(pArr s' r1.tail).bind fun x r=>Go.Proofs.YtfghofifjnbicaaGreatDoor.u7 q ⟨ars++[x],[]⟩ r:=by
         rw[HT.out,hz];exact pgK_arr rfl rfl hs1
        rw[hz]at HP;have hR2:zH 1 r r1.tail:=(hR1.trans (zH.sign hR1.2.1 hs1)).mono (by omega);obtain⟨r2,hr2⟩:∃ r2,r2=r1.tail:=⟨_,rfl⟩
        rw[←hr2]at hT3 hR2;have HR2:=hid hr2;have HRR:=hid hR2;have HY:=hid (show zP (⟨#[91]⟩:ByteArray).data.toList (PR.ok () r1)=true from hs1);have HT3:=hid hT3;have HEN2:=hid hR2.2.1;obtain⟨⟨p0,p1⟩,pz⟩:=HP.out.cur.f;clear hz hp1 hR1 hT3 hr2 hR2 hs1 h91;by_cases hnum:yq r2=0
        · obtain⟨sn,hsn⟩:∃ sn:ByteArray,sn=⟨(hdT r2).toArray⟩:=⟨_,rfl⟩
          have HSN:=hid hsn;have HNUM:=hid hnum
          have HNB:=hid (show sn.size≤281474976710656∧jr sn.data.toList=true by
           rw[hsn];have hp2:zT b _ all r1 false false w4:=HP.out.cur.st;have hp3:=(zT.next hp2 (by rw[(vI (show z6 [91] r1=true from HY.out)).1];decide))
           rw[←HR2.out]at hp3;obtain⟨h1,h2,_⟩:=hp3.num hnum
           exact⟨h1,h2⟩)
          obtain⟨nv,hnv⟩:∃ nv:Int,nv=(jU 0 sn.data.toList:Nat):=⟨_,rfl⟩
          have HNV:=hid hnv
          have HTY:=hid (show T=((((PR.ok () r2.tail).bind fun _ r=>zL [93] r).bind fun _ r=>zL [59] r)).un.bind fun _ r=>Go.Proofs.YtfghofifjnbicaaGreatDoor.u7 q ⟨ars++[⟨s',nv⟩],([]:List FuV).map (·.f)⟩ r by
           rw[HT3.out,un_unit,hnv,hsn];unfold pArr qQ;rw[if_pos hnum];show ((zL [93] r2.tail).bind fun _ r=>(zL [59] r).bind fun _ r=>PR.ok _ r).bind _=((zL [93] r2.tail).bind fun _ r=>zL [59] r).bind _;simp only[zR]
           rfl)
          clear hsn hnum hnv
          go_wp2_with (first
          | (go_at_call 42;(with_reducible refine(zb HP.out.cur.st _ HY.out).mono ?_);rintro e w5 ⟨rfl,hD⟩
             replace HP:=hid (show PgAt b _ all w (.ok () r2) w5 _ _ _ _ by rw[HR2.out];exact HP.out.step hD)
             clear hD)
          | (go_at_call 41;(with_reducible refine(vP HP.out.cur.st 0 (by decide) HNUM.out sn HSN.out).mono ?_);rintro e w6 ⟨rfl,hD⟩
             replace HP:=hid (show PgAt b _ all w (.ok () r2.tail) w6 _ _ _ _ from HP.out.step hD)
             clear hD)
          | (go_at_call 43;(with_reducible refine(rvalue_is sn _ _ HNB.out.1 HNB.out.2 HNV.out).mono ?_);rintro e w6 ⟨rfl,rfl⟩)
          | (go_at_call 44;(with_reducible refine(zX HP.out.cur.st ⟨#[93]⟩).mono ?_);rintro e w7 ⟨rfl,hD⟩
             replace HP:=hid (show PgAt b _ all w ((PR.ok () r2.tail).bind fun _ r=>zL [93] r) w7 _ _ _ _ from HP.out.step hD)
             clear hD)
          | (go_at_call 44;(with_reducible refine(zX HP.out.cur.st ⟨#[59]⟩).mono ?_);rintro e w8 ⟨rfl,hD⟩
             replace HP:=hid (show PgAt b _ all w (((PR.ok () r2.tail).bind fun _ r=>zL [93] r).bind fun _ r=>zL [59] r) w8 _ _ _ _ from HP.out.step hD);obtain⟨⟨p0,p1⟩,pz⟩:=HP.out.cur.f;obtain⟨A0,cp0,rfl⟩:=HP.out.arr.form;have HPRE:=hid (HP.out.arr.pre [.string s',.int .i64 (nv)] (by have:=HP.out.cur.size;omega))
             clear hD)
          | (at_builtin;refine zw rfl (.tmp 48) (.tmp 52) _ rfl (w.heap.size+2) 62 i0 _ 2 24 Tryz.underlying23 HI0.out.1 HI0.out.2.1 HI0.out.2.2.1 HI0.out.2.2.2 rfl (by omega) (.slice A0 ars.length cp0) ars.length _ rfl (by exact HPRE.out.1) ⟨w8.heap.size,0,none⟩ 1 1 [.string s',.int .i64 (nv)] rfl rfl (by exact HPRE.out.2.1) (by simp[Value.oneCell']) (by simp only[maxLen];omega) (by omega) (by exact HPRE.out.2.2) (by omega) ?_
             intro v1 w9 hown1 hg1 hr1;obtain⟨A1,cp1,rfl⟩:=zh hown1;have HX1:=hid (HP.out.array (a:=⟨s',nv⟩) hg1 hr1 hown1);have fz9:=HX1.out.1.f.2;have k9:=HX1.out.1.f.1.1
             clear hown1 hg1 hr1))
          have HZ:=hid (pg_rel (q:=q) (n:=n) (X:=((PR.ok () r2.tail).bind fun _ r=>zL [93] r).bind fun _ r=>zL [59] r) (by omega) (zZ.from HRR.out (zZ.from (n:=0) (zH.tail HEN2.out (by rw[HNUM.out];decide)) ((zJ (HEN2.out.tail (by rw[HNUM.out];decide)) _).bind (m:=0) (n:=0) (fun _ r _ hr=>(zJ hr _).mono (by omega)) (by omega)) (by omega)) (by omega)) (un_unit (((PR.ok () r2.tail).bind fun _ r=>zL [93] r).bind fun _ r=>zL [59] r) ▸ HX1.out.2) HTY.out hrl hrp (by simp at hacc9 ⊢;omega) hal);go_roundw
          case rel=>exact HZ.out.1
          case measure=>
           have h1:=HZ.out.2;have h2:=HAT.out;have h3:=HLV.out;simp only[h2,h3]at *;omega
        · have HNUM:=hid hnum
          have HTY:=hid (show T=((((PR.bad r2:PR Unit).bind fun _ r=>zL [93] r).bind fun _ r=>zL [59] r)).un.bind fun _ r=>Go.Proofs.YtfghofifjnbicaaGreatDoor.u7 q ⟨ars++[⟨s',-1⟩],([]:List FuV).map (·.f)⟩ r by
           rw[HT3.out];unfold pArr qQ;rw[if_neg hnum]
           rfl)
          clear hnum
          go_wp2_with (first
          | (go_at_call 42;(with_reducible refine(zb HP.out.cur.st _ HY.out).mono ?_);rintro e w5 ⟨rfl,hD⟩
             replace HP:=hid (show PgAt b _ all w (.ok () r2) w5 _ _ _ _ by rw[HR2.out];exact HP.out.step hD)
             clear hD)
          | (go_at_call 41;(with_reducible refine(text_nil HP.out.cur.st 0 HNUM.out).mono ?_);rintro e w6 ⟨rfl,hD⟩
             replace HP:=hid (show PgAt b _ all w (.bad r2) w6 _ _ _ _ from HP.out.step hD)
             clear hD)
          | (go_at_call 43;(with_reducible refine(rvalue_nil _).mono ?_);rintro e w6 ⟨rfl,rfl⟩)
          | (go_at_call 44;(with_reducible refine(zX HP.out.cur.st ⟨#[93]⟩).mono ?_);rintro e w7 ⟨rfl,hD⟩
             replace HP:=hid (show PgAt b _ all w ((PR.bad r2:PR Unit).bind fun _ r=>zL [93] r) w7 _ _ _ _ from HP.out.step hD)
             clear hD)
          | (go_at_call 44;(with_reducible refine(zX HP.out.cur.st ⟨#[59]⟩).mono ?_);rintro e w8 ⟨rfl,hD⟩
             replace HP:=hid (show PgAt b _ all w (((PR.bad r2:PR Unit).bind fun _ r=>zL [93] r).bind fun _ r=>zL [59] r) w8 _ _ _ _ from HP.out.step hD);obtain⟨⟨p0,p1⟩,pz⟩:=HP.out.cur.f;obtain⟨A0,cp0,rfl⟩:=HP.out.arr.form;have HPRE:=hid (HP.out.arr.pre [.string s',.int .i64 (-1)] (by have:=HP.out.cur.size;omega))
             clear hD)
          | (at_builtin;refine zw rfl (.tmp 48) (.tmp 52) _ rfl (w.heap.size+2) 62 i0 _ 2 24 Tryz.underlying23 HI0.out.1 HI0.out.2.1 HI0.out.2.2.1 HI0.out.2.2.2 rfl (by omega) (.slice A0 ars.length cp0) ars.length _ rfl (by exact HPRE.out.1) ⟨w8.heap.size,0,none⟩ 1 1 [.string s',.int .i64 (-1)] rfl rfl (by exact HPRE.out.2.1) (by simp[Value.oneCell']) (by simp only[maxLen];omega) (by omega) (by exact HPRE.out.2.2) (by omega) ?_
             intro v1 w9 hown1 hg1 hr1;obtain⟨A1,cp1,rfl⟩:=zh hown1;have HX1:=hid (HP.out.array (a:=⟨s',-1⟩) hg1 hr1 hown1);have fz9:=HX1.out.1.f.2;have k9:=HX1.out.1.f.1.1
             clear hown1 hg1 hr1))
          have HZ:=hid (pg_rel (q:=q) (n:=n) (X:=((PR.bad r2:PR Unit).bind fun _ r=>zL [93] r).bind fun _ r=>zL [59] r) (by omega) (show zH 0 r r2 from HRR.out.mono (by omega)) (un_unit (((PR.bad r2:PR Unit).bind fun _ r=>zL [93] r).bind fun _ r=>zL [59] r) ▸ HX1.out.2) HTY.out hrl hrp (by simp at hacc9 ⊢;omega) hal);go_roundw
          case rel=>exact HZ.out.1
          case measure=>
           have h1:=HZ.out.2;have h2:=HAT.out;have h3:=HLV.out;simp only[h2,h3]at *;omega
      · have hT4:=HT.out.trans (pgK_fn (q:=q) (p:=⟨ars,fs.map (·.f)⟩) (a:=⟨s',tv⟩) (z:=(q6 r).un) (fun h=>hA ⟨h.1,by simpa using h.2.1,h.2.2⟩))
        have HT4:=hid hT4;have HNF:=hid (show zG ((q6 r).un.bind fun _ r=>pFn q tv s' r) by have h1:=HTE.out;rw[hT4]at h1;exact zo h1);clear hT4;obtain⟨⟨p0,p1⟩,pz⟩:=HP.out.cur.f;by_cases h1:tv=1
        · subst h1
          cases fs with
          | nil=>
            have hvf:vf=.slice none 0 0:=HP.out.nil rfl;subst hvf;obtain⟨fs,hfs⟩:∃ fs:List FuV,fs=[]:=⟨_,rfl⟩
            rw[←hfs]at HP HT4 hacc9 hac2;clear hfs
            have HY:=hid (show zP (⟨#[91]⟩:ByteArray).data.toList (q6 r).un=false by
             cases h:zP [91] (q6 r).un with
             | true=>exact absurd ⟨rfl,rfl,h⟩ hA
             | false=>rfl)
            clear hA
            go_wp2_with (first
             | (go_at_call 42;(with_reducible refine(zF HP.out.cur.st _ HY.out).mono ?_);rintro e w5 ⟨rfl,hD⟩
                replace HP:=hid (HP.out.step hD);obtain⟨⟨p0,p1⟩,pz⟩:=HP.out.cur.f
                clear hD))
            have HPO:=hid HP.out.fnc.own
            go_region_law (first
             | (refine jQ rfl (.tmp 56) (.tmp 61) _ rfl (w.heap.size+2) 45 i1 _ 4 72 Tryz.underlying24 HI1.out.1 HI1.out.2.1 HI1.out.2.2.1 HI1.out.2.2.2 rfl (by omega) (.slice none 0 0) fs.length _ rfl (by exact HPRE.out.1) ⟨w6.heap.size,0,none⟩ 1 1 [.string sF,.int .i64 tF,.slice A2 m2 q2,.slice A3 m3 q3] rfl rfl (by exact HPRE.out.2.1) (by simp[Value.oneCell']) (by simp only[maxLen];omega) (by omega) (by exact HPRE.out.2.2) (by omega) ?_
                intro v1 w7 hown1 hg1 hr1;obtain⟨A4,cp4,rfl⟩:=zh hown1;have HX1:=hid (HP6.out.func (L:=w5.heap.size) hg1 hr1 hown1 HL6.out fun k hk=>(HPO.out k hk).1);have hk7:w7.cell? ⟨w.heap.size+1,1,none⟩=some (.slice none 0 0):=HX1.out.1.f.1.2;have fz7:=HX1.out.1.f.2
                clear hown1 hg1 hr1)
             | (go_simp;go_at_call 45;(refine(pfn_any HP.out.drew.cur.st HNF.out).mono ?_);rintro e w6 ⟨v,rfl,hD,hG⟩
                obtain⟨sF,tF,A2,m2,q2,A3,m3,q3,rfl⟩:=gotf_form hG HNF.out;have HG:=hid hG;have HP6:=hid (HP.out.drew.step hD);have HL6:=hid (show w.heap.size+2≤w5.heap.size from HP.out.cur.size);have hk7:w6.cell? ⟨w.heap.size+1,1,none⟩=some (.slice none 0 0):=HP6.out.cur.f.1.2;have hk8:(w6.alloc (.cells #[.string sF,.int .i64 tF,.slice A2 m2 q2,.slice A3 m3 q3] 45)).cell? ⟨w.heap.size+1,1,none⟩=some (.slice none 0 0):=(HP6.out.cur.alloc _).f.1.2;have fz6:=HP6.out.cur.f.2;have HPRE:=hid (HP6.out.fnc.pre [.string sF,.int .i64 tF,.slice A2 m2 q2,.slice A3 m3 q3] (by have:=HP6.out.cur.size;omega))
                clear hD hG))
            all_goals
             go_wp2;have HGP:=hid (got_pick HG.out HNF.out)
             have HZ:=hid (show PgRel b _ all w T n _∧2 * (all.length-xJ b _)+yB b _<2 * r.length+1 by
              obtain⟨f,hf,hF⟩:=HGP.out;obtain⟨qf,hqf,hP9⟩:=HX1.out.2 f hf;refine pg_rel (q:=q) (X:=(q6 r).un.bind fun _ r=>pFn q 1 s' r) (by omega) ?_ hP9 ?_ hrl hrp (by simp at hacc9 ⊢;omega) hal
              · exact(un_fits (xG HEN.out)).bind (m:=0) (fun _ r _ hr=>(vK hr).mono (by omega)) (by omega)
              · rw[HT4.out,hF,List.map_append,←hqf]
                rfl)
             go_roundw
             case rel=>exact HZ.out.1
             case measure=>
              have h1:=HZ.out.2;have h2:=HAT.out;have h3:=HLV.out;simp only[h2,h3]at *;omega
          | cons f0 ft=>
            obtain⟨fs,hfs⟩:∃ fs,fs=f0 :: ft:=⟨_,rfl⟩
            have hfl:0<fs.length:=by rw[hfs];simp
            rw[←hfs]at HP HT4 hacc9 hac2;have hfl2:((fs.length:Int) == 0)=false:=by rw[beq_eq_false_iff_ne];omega
            obtain⟨A1,cp1,rfl⟩:=HP.out.fnc.form;clear hA hfs;go_wp2_with (fail);have HPO:=hid HP.out.fnc.own
            go_region_law (first
             | (refine jQ rfl (.tmp 56) (.tmp 61) _ rfl (w.heap.size+2) 45 i1 _ 4 72 Tryz.underlying24 HI1.out.1 HI1.out.2.1 HI1.out.2.2.1 HI1.out.2.2.2 rfl (by omega) (.slice A1 fs.length cp1) fs.length _ rfl (by exact HPRE.out.1) ⟨w6.heap.size,0,none⟩ 1 1 [.string sF,.int .i64 tF,.slice A2 m2 q2,.slice A3 m3 q3] rfl rfl (by exact HPRE.out.2.1) (by simp[Value.oneCell']) (by simp only[maxLen];omega) (by omega) (by exact HPRE.out.2.2) (by omega) ?_
                intro v1 w7 hown1 hg1 hr1;obtain⟨A4,cp4,rfl⟩:=zh hown1;have HX1:=hid (HP6.out.func (L:=w4.heap.size) hg1 hr1 hown1 HL6.out fun k hk=>(HPO.out k hk).1);have hk7:w7.cell? ⟨w.heap.size+1,1,none⟩=some (.slice A1 fs.length cp1):=HX1.out.1.f.1.2;have fz7:=HX1.out.1.f.2
                clear hown1 hg1 hr1)
             | (go_simp;go_at_call 45;(refine(pfn_any HP.out.drew.cur.st HNF.out).mono ?_);rintro e w6 ⟨v,rfl,hD,hG⟩
                obtain⟨sF,tF,A2,m2,q2,A3,m3,q3,rfl⟩:=gotf_form hG HNF.out;have HG:=hid hG;have HP6:=hid (HP.out.drew.step hD);have HL6:=hid (show w.heap.size+2≤w4.heap.size from HP.out.cur.size);have hk7:w6.cell? ⟨w.heap.size+1,1,none⟩=some (.slice A1 fs.length cp1):=HP6.out.cur.f.1.2;have hk8:(w6.alloc (.cells #[.string sF,.int .i64 tF,.slice A2 m2 q2,.slice A3 m3 q3] 45)).cell? ⟨w.heap.size+1,1,none⟩=some (.slice A1 fs.length cp1):=(HP6.out.cur.alloc _).f.1.2;have fz6:=HP6.out.cur.f.2;have HPRE:=hid (HP6.out.fnc.pre [.string sF,.int .i64 tF,.slice A2 m2 q2,.slice A3 m3 q3] (by have:=HP6.out.cur.size;omega))
                clear hD hG))
            all_goals
             go_wp2;have HGP:=hid (got_pick HG.out HNF.out)
             have HZ:=hid (show PgRel b _ all w T n _∧2 * (all.length-xJ b _)+yB b _<2 * r.length+1 by
              obtain⟨f,hf,hF⟩:=HGP.out;obtain⟨qf,hqf,hP9⟩:=HX1.out.2 f hf;refine pg_rel (q:=q) (X:=(q6 r).un.bind fun _ r=>pFn q 1 s' r) (by omega) ?_ hP9 ?_ hrl hrp (by simp at hacc9 ⊢;omega) hal
              · exact(un_fits (xG HEN.out)).bind (m:=0) (fun _ r _ hr=>(vK hr).mono (by omega)) (by omega)
              · rw[HT4.out,hF,List.map_append,←hqf]
                rfl)
             go_roundw
             case rel=>exact HZ.out.1
             case measure=>
              have h1:=HZ.out.2;have h2:=HAT.out;have h3:=HLV.out;simp only[h2,h3]at *;omega
        · have h1b:(tv == 1)=false:=by simpa using h1
          obtain⟨A1,cp1,rfl⟩:=HP.out.fnc.form;clear hA h1;go_wp2_with (fail);have HPO:=hid HP.out.fnc.own
          go_region_law (first
           | (refine jQ rfl (.tmp 56) (.tmp 61) _ rfl (w.heap.size+2) 45 i1 _ 4 72 Tryz.underlying24 HI1.out.1 HI1.out.2.1 HI1.out.2.2.1 HI1.out.2.2.2 rfl (by omega) (.slice A1 fs.length cp1) fs.length _ rfl (by exact HPRE.out.1) ⟨w6.heap.size,0,none⟩ 1 1 [.string sF,.int .i64 tF,.slice A2 m2 q2,.slice A3 m3 q3] rfl rfl (by exact HPRE.out.2.1) (by simp[Value.oneCell']) (by simp only[maxLen];omega) (by omega) (by exact HPRE.out.2.2) (by omega) ?_
              intro v1 w7 hown1 hg1 hr1;obtain⟨A4,cp4,rfl⟩:=zh hown1;have HX1:=hid (HP6.out.func (L:=w4.heap.size) hg1 hr1 hown1 HL6.out fun k hk=>(HPO.out k hk).1);have hk7:w7.cell? ⟨w.heap.size+1,1,none⟩=some (.slice A1 fs.length cp1):=HX1.out.1.f.1.2;have fz7:=HX1.out.1.f.2
              clear hown1 hg1 hr1)
           | (go_simp;go_at_call 45;(refine(pfn_any HP.out.drew.cur.st HNF.out).mono ?_);rintro e w6 ⟨v,rfl,hD,hG⟩
              obtain⟨sF,tF,A2,m2,q2,A3,m3,q3,rfl⟩:=gotf_form hG HNF.out;have HG:=hid hG;have HP6:=hid (HP.out.drew.step hD);have HL6:=hid (show w.heap.size+2≤w4.heap.size from HP.out.cur.size);have hk7:w6.cell? ⟨w.heap.size+1,1,none⟩=some (.slice A1 fs.length cp1):=HP6.out.cur.f.1.2;have hk8:(w6.alloc (.cells #[.string sF,.int .i64 tF,.slice A2 m2 q2,.slice A3 m3 q3] 45)).cell? ⟨w.heap.size+1,1,none⟩=some (.slice A1 fs.length cp1):=(HP6.out.cur.alloc _).f.1.2;have fz6:=HP6.out.cur.f.2;have HPRE:=hid (HP6.out.fnc.pre [.string sF,.int .i64 tF,.slice A2 m2 q2,.slice A3 m3 q3] (by have:=HP6.out.cur.size;omega))
              clear hD hG))
          all_goals
           go_wp2;have HGP:=hid (got_pick HG.out HNF.out)
           have HZ:=hid (show PgRel b _ all w T n _∧2 * (all.length-xJ b _)+yB b _<2 * r.length+1 by
            obtain⟨f,hf,hF⟩:=HGP.out;obtain⟨qf,hqf,hP9⟩:=HX1.out.2 f hf;refine pg_rel (q:=q) (X:=(q6 r).un.bind fun _ r=>pFn q tv s' r) (by omega) ?_ hP9 ?_ hrl hrp (by simp at hacc9 ⊢;omega) hal
            · exact(un_fits (xG HEN.out)).bind (m:=0) (fun _ r _ hr=>(vK hr).mono (by omega)) (by omega)
            · rw[HT4.out,hF,List.map_append,←hqf]
              rfl)
           go_roundw
           case rel=>exact HZ.out.1
           case measure=>
            have h1:=HZ.out.2;have h2:=HAT.out;have h3:=HLV.out;simp only[h2,h3]at *;omega
end Go.Proofs.YtfghofifjnbicaaGreatDoor
namespace Go.Proofs.YtfghofifjnbicaaGreatDoor
open Lib (hid)
open Go.RowKit Go.Maps
theorem kf_cells {B L:Nat} {w:World} {g c m i:Nat} {ps qs:List FuV} {f:Fu} {v2 v3:Value} (h:OutT kF B L w (.slice (some ⟨g,0,none⟩) m c) ps (⟨f,v2,v3⟩ :: qs)) (hm:m=(ps++(⟨f,v2,v3⟩:FuV) :: qs).length) (hi:ps.length=i):
 (w.cell? ⟨g,i * 4,none⟩=some (.string f.name)∧w.cell? ⟨g,i * 4+1,none⟩=some (.int .i64 f.type)∧w.cell? ⟨g,i * 4+2,none⟩=some v2∧w.cell? ⟨g,i * 4+3,none⟩=some v3)∧∀ o,w.frozen? ⟨g,o,none⟩=false:=by
 subst hi;exact⟨⟨h.cel hm (j:=0) rfl,h.cel hm (j:=1) rfl,h.cel hm (j:=2) rfl,h.cel hm (j:=3) rfl⟩,fun o=>h.frz hm o⟩
abbrev set4o (W:World) (g o:Nat) (c0 c1 c2 c3:Value):World:=(((W.setCell ⟨g,o,none⟩ c0).setCell ⟨g,o+1,none⟩ c1).setCell ⟨g,o+2,none⟩ c2).setCell ⟨g,o+3,none⟩ c3
theorem set4o_block (W:World) (g o:Nat) (c0 c1 c2 c3:Value) (q:Nat) (hq:q≠g):(set4o W g o c0 c1 c2 c3).heap[q]? =W.heap[q]?:=
 (Below.heap_setCell _ _ _ q hq).trans ((Below.heap_setCell _ _ _ q hq).trans ((Below.heap_setCell _ _ _ q hq).trans (Below.heap_setCell _ _ _ q hq)))
theorem set4o_size (W:World) (g o:Nat) (c0 c1 c2 c3:Value):(set4o W g o c0 c1 c2 c3).heap.size=W.heap.size:=by simp[set4o,World.setCell]
theorem set4o_keep (W:World) (g o:Nat) (c0 c1 c2 c3:Value) {L:Nat} (hL:g<L):zD L W (set4o W g o c0 c1 c2 c3):=⟨Nat.le_of_eq (set4o_size W g o c0 c1 c2 c3).symm,fun k _ hk=>set4o_block W g o c0 c1 c2 c3 k (by omega)⟩
theorem set4o_below (W:World) (g o:Nat) (c0 c1 c2 c3:Value) {B:Nat} (hg:B≤g):Below B W (set4o W g o c0 c1 c2 c3):=
 ((((Below.refl B W).setCell (p:=⟨g,o,none⟩) hg c0).setCell (p:=⟨g,o+1,none⟩) hg c1).setCell (p:=⟨g,o+2,none⟩) hg c2).setCell (p:=⟨g,o+3,none⟩) hg c3
theorem kf_set {B L:Nat} {w:World} {g c m i:Nat} {ps qs:List FuV} {f f':Fu} {v2 v3:Value} (h:OutT kF B L w (.slice (some ⟨g,0,none⟩) m c) ps (⟨f,v2,v3⟩ :: qs)) (hm:m=(ps++(⟨f,v2,v3⟩:FuV) :: qs).length) (hi:ps.length=i) (u2 u3:Value):
 OutT kF B L (set4o w g (i * 4) (.string f'.name) (.int .i64 f'.type) u2 u3) (.slice (some ⟨g,0,none⟩) m c) ps (⟨f',u2,u3⟩ :: qs):=by
 have hl:∀ q:FuV,m=(ps++q :: qs).length:=fun q=>by rw[hm];simp
 subst hi;have h1:=h.set (q':=⟨⟨f'.name,f.type,f.params,f.body⟩,v2,v3⟩) hm (i:=ps.length * 4) (j:=0) (u:=.string f'.name) rfl rfl (by decide);have h2:=h1.set (q':=⟨⟨f'.name,f'.type,f.params,f.body⟩,v2,v3⟩) (hl _) (i:=ps.length * 4+1) (j:=1) (u:=.int .i64 f'.type) rfl rfl (by decide);have h3:=h2.set (q':=⟨⟨f'.name,f'.type,f.params,f.body⟩,u2,v3⟩) (hl _) (i:=ps.length * 4+2) (j:=2) (u:=u2) rfl rfl (by decide);exact h3.set (q':=⟨f',u2,u3⟩) (hl _) (i:=ps.length * 4+3) (j:=3) (u:=u3) rfl rfl (by decide)
theorem frk_fu {M:Nat} {W:World} {f:Fu} {v2 v3:Value} (h2:FrPs M W f.params v2) (h3:zU M W f.body v3):FrK kF M W ⟨f,v2,v3⟩:=by
 show SlP W.heap.size (mask (yg M) W) v2 f.params∧SlS W.heap.size (mask (yg M) W) v3 f.body;exact⟨h2,h3⟩
def vZ (p:Pr):Pr × Int:=if (uL p).1=0 then (renPr p,0) else (pr0,1)
def RnPost (p:Pr) (w:World) (e:Ending) (w':World):Prop:=
 ∃ v0 v1,e=.returned (.tuple #[.agg #[v0,v1],.int .i64 (vZ p).2])∧Below w.heap.size w w'∧FrG w.heap.size w' (vZ p).1 (.agg #[v0,v1])
structure PMid (w:World) (bx:Obj) (W:World):Prop where
 bel:Below w.heap.size w W
 box:W.heap[w.heap.size]? =some bx
 res:W.heap[w.heap.size+1]? =some pgBox
section
variable {w:World} {bx:Obj} {W W':World}
theorem PMid.below (h:PMid w bx W) (hb:Below W.heap.size W W'):PMid w bx W':=⟨h.bel.trans (hb.mono h.bel.size),(hb.block _ (zB h.box)).trans h.box,(hb.block _ (zB h.res)).trans h.res⟩
theorem PMid.keep (h:PMid w bx W) {M:Nat} (hb:Below M W W') (hM:w.heap.size+2≤M):PMid w bx W':=⟨h.bel.trans (hb.mono (by omega)),(hb.block _ (by omega)).trans h.box,(hb.block _ (by omega)).trans h.res⟩
theorem PMid.set (h:PMid w bx W) (i:Nat) (u:Value) {bx':Obj} (hb':(W.setCell ⟨w.heap.size,i,none⟩ u).heap[w.heap.size]? =some bx'):PMid w bx' (W.setCell ⟨w.heap.size,i,none⟩ u):=
 ⟨h.bel.setCell (p:=⟨w.heap.size,i,none⟩) (Nat.le_refl _) u,hb',(Below.heap_setCell W _ u (w.heap.size+1) (by show w.heap.size+1≠w.heap.size;omega)).trans h.res⟩
theorem PMid.drewN (h:PMid w bx W) (n:Nat):PMid w bx (W.drewN n):=⟨⟨h.bel.os,h.bel.tape,h.bel.output,h.bel.size,h.bel.block⟩,h.box,h.res⟩
end
structure Cl8 (w:World) (p:Pr) (os:List FuV) (A3:Option Addr) (c3:Nat) (A4:Option Addr) (c4 M L:Nat) (ps:List FuV) (i:Nat) (W:World):Prop where
 mid:PMid w (pgO A3 p.arrays.length c3 A4 p.funcs.length c4) W
 arr:OutK kA (w.heap.size+2) W (.slice A3 p.arrays.length c3) p.arrays
 ab:∀ j,(Value.slice A3 p.arrays.length c3).ownBlock=some j→j<M
 fun_:OutT kF M L W (.slice A4 p.funcs.length c4) ps (os.drop i)
 hM:w.heap.size+2≤M
 hL:M≤L
 sz:L≤W.heap.size
theorem Cl8.below {w:World} {p:Pr} {os:List FuV} {A3:Option Addr} {c3:Nat} {A4:Option Addr} {c4 M L:Nat} {ps:List FuV} {i:Nat} {W W':World} (h:Cl8 w p os A3 c3 A4 c4 M L ps i W) (hb:Below W.heap.size W W'):Cl8 w p os A3 c3 A4 c4 M L ps i W' where
 mid:=h.mid.below hb
 arr:=h.arr.keep (zD.of_below hb)
 ab:=h.ab
 fun_:=h.fun_.below hb
 hM:=h.hM
 hL:=h.hL
 sz:=Nat.le_trans h.sz hb.size
theorem own_up {W:World} {B B':Nat} {T:TypeId} {n m:Nat} {v:Value} {xs:List Value} (h:W.ownsRow B T n v m xs) (hB:B'≤B):W.ownsRow B' T n v m xs:=by
 obtain⟨h1,h2⟩:=h;refine⟨h1,?_⟩;rcases h2 with h2 | ⟨g,cap,cur,hv,hb,h4⟩
 · exact .inl h2
 · exact .inr ⟨g,cap,cur,hv,by omega,h4⟩
theorem Cl8.start {w:World} {p:Pr} {os:List FuV} {A3:Option Addr} {c3:Nat} {A4:Option Addr} {c4:Nat} {W1 w3 w4:World} {bx:Obj} (hm:PMid w bx w4) (h2:w.heap.size+2≤W1.heap.size) (hz:W1.heap.size≤w3.heap.size) (ha:w3.ownsRow W1.heap.size kA.T kA.n (.slice A3 p.arrays.length c3) p.arrays.length (p.arrays.flatMap kA.cs))
 (hb4:Below w3.heap.size w3 w4) (hf:w4.ownsRow w3.heap.size kF.T kF.n (.slice A4 p.funcs.length c4) os.length (os.flatMap kF.cs)) {W:World} (hW:W=(w4.setCell ⟨w.heap.size,0,none⟩ (.slice A3 p.arrays.length c3)).setCell ⟨w.heap.size,1,none⟩ (.slice A4 p.funcs.length c4)) (hbx:W.heap[w.heap.size]? =some (pgO A3 p.arrays.length c3 A4 p.funcs.length c4)):
 Cl8 w p os A3 c3 A4 c4 w3.heap.size w4.heap.size [] 0 W:=by
 subst hW;have hK:zD (w.heap.size+2) w4 ((w4.setCell ⟨w.heap.size,0,none⟩ (.slice A3 p.arrays.length c3)).setCell ⟨w.heap.size,1,none⟩ (.slice A4 p.funcs.length c4)):=(zD.set (by omega) _ _).trans (zD.set (by omega) _ _);have hz4:=hb4.size;refine⟨⟨(hm.bel.setCell (p:=⟨w.heap.size,0,none⟩) (Nat.le_refl _) _).setCell (p:=⟨w.heap.size,1,none⟩) (Nat.le_refl _) _,hbx,?_⟩,?_,fun j hj=>(qJ ha j hj).1,?_,by omega,hb4.size,?_⟩
 · exact(Below.heap_setCell _ _ _ _ (by show w.heap.size+1≠w.heap.size;omega)).trans ((Below.heap_setCell _ _ _ _ (by show w.heap.size+1≠w.heap.size;omega)).trans hm.res)
 · have h1:OutK kA (w.heap.size+2) w3 (.slice A3 p.arrays.length c3) p.arrays:=⟨own_up ha h2,fun _ _=>trivial⟩
   exact(h1.keep (zD.of_below hb4)).keep hK
 · rw[List.drop_zero]
   exact(OutT.start hf (Nat.le_refl _)).keep (hK.mono (by omega)) fun j hj hjo=>hK.2 j hj (by have:=(qJ hf j hjo).2;omega)
 · exact hK.1
set_option maxHeartbeats 8000000 in
theorem drename_any (B:Nat) (p:Pr) (v0 v1:Value) (w:World) (ht:TreeTab B w) (hB:B≤w.heap.size) (ha:SlA B w v0 p.arrays) (hf:SlF B w v1 p.funcs) (hsm:Small p):
 Calls Tryz.prog 8 #[.agg #[v0,v1]] w (RnPost p w):=by
 obtain⟨A0,c0,rfl,hn0⟩:=ha.form;obtain⟨A1,c1,rfl,hn1⟩:=hf.form;obtain⟨⟨R0,R1,R2⟩,hR⟩:∃ R,uL p=R:=⟨_,rfl⟩
 have hBA:Below w.heap.size w ((w.alloc (pgO A0 p.arrays.length c0 A1 p.funcs.length c1)).alloc pgBox):=((Below.refl _ _).alloc (Nat.le_refl _) _).alloc (by rw[zA];omega) _;have HMA:=hid (show PMid w (pgO A0 p.arrays.length c0 A1 p.funcs.length c1) ((w.alloc (pgO A0 p.arrays.length c0 A1 p.funcs.length c1)).alloc pgBox) from⟨hBA,zc (heap_alloc_new w _) _,by have:=heap_alloc_new (w.alloc (pgO A0 p.arrays.length c0 A1 p.funcs.length c1)) pgBox;rw[zA]at this;exact this⟩);have hzA:((w.alloc (pgO A0 p.arrays.length c0 A1 p.funcs.length c1)).alloc pgBox).heap.size=w.heap.size+2:=by rw[zA,zA]
 have HT:=hid ht;have HA:=hid ha;have HF:=hid hf;have HSM:=hid hsm;have HR:=hid hR;clear ht ha hf hsm hR hBA;have hl1:=HSM.out.n1;have hl2:=HSM.out.n2;go_enter Tryz.func8,Tryz.ntmps8;go_upto_region 1 with(fail);generalize (w.alloc (pgO A0 p.arrays.length c0 A1 p.funcs.length c1)).alloc pgBox=WA at *;have hza:=Nat.le_of_eq hzA;have hzb:=Nat.le_of_eq hzA.symm;clear hzA;obtain⟨⟨a0,a1⟩,az⟩:=zE HMA.out.box;have hsA:w.heap.size<WA.heap.size:=by omega
 have HCK:=hid (check_any B p (R0,R1,R2) (.slice A0 p.arrays.length c0) (.slice A1 p.funcs.length c1) WA (HT.out.below (HMA.out.bel.mono hB)) (by omega) (HA.out.below (HMA.out.bel.mono hB) (Nat.le_refl _)) (HF.out.below (HMA.out.bel.mono hB) (Nat.le_refl _)) HSM.out.sz HSM.out.n1 HSM.out.n2 HR.out);by_cases h0:R0=0
 case neg=>
  have hne:(R0 != 0)=true:=by simpa using h0
  go_upto_region 2 with(go_at_call 19;(with_reducible refine(HCK.out).mono ?_);rintro e w1 ⟨rfl,hb1⟩
                        have HM1:=hid (HMA.out.below (hb1.alloc (by have:=hb1.size;omega) (.cells #[.int .i64 (R1:Int),.int .i64 (W64 R2)] 38)));have hr1:w.heap.size+1<(w1.alloc (.cells #[.int .i64 (R1:Int),.int .i64 (W64 R2)] 38)).heap.size:=by have:=hb1.size;rw[zA];omega
                        clear hb1)
  generalize w1.alloc (.cells #[.int .i64 (R1:Int),.int .i64 (W64 R2)] 38)=W1 at *;obtain⟨⟨r0,r1⟩,rz⟩:=zE HM1.out.res;go_wp2_with (fail);obtain⟨f0,f1⟩:=qg HM1.out.res (.slice none 0 0) (.slice none 0 0);refine bodyPost_ret (v:=.tuple #[.agg #[.slice none 0 0,.slice none 0 0],.int .i64 1]) (by simp[results,Tryz.results8,go_sem,f0,f1]) rfl ?_;have hrr:vZ p=(pr0,1):=by unfold vZ;rw[HR.out,if_neg h0]
  refine⟨_,_,by rw[hrr],HM1.out.bel.trans (zm (Below.refl _ _) (by omega) _ _),?_⟩;rw[hrr];exact⟨_,_,rfl,ud _ _,⟨none,0,rfl,Nat.zero_le _,fun h=>absurd h (by simp[pr0])⟩⟩
 case pos=>
  subst h0;obtain⟨os,hos,hsrc⟩:=src_fus HF.out;have hosl:os.length=p.funcs.length:=by rw[←hos,List.length_map]
  have HOS:=hid hos;have HOSL:=hid hosl;have HSRC:=hid hsrc;have HSRA:=hid (src_ars HA.out);clear hos hosl hsrc
  go_upto_region 4 with(go_at_call 19;(with_reducible refine(HCK.out).mono ?_);rintro e w1 ⟨rfl,hb1⟩
                        have HM1:=hid (HMA.out.below (hb1.alloc (by have:=hb1.size;omega) (.cells #[.int .i64 (R1:Int),.int .i64 (W64 R2)] 38)));have hz1:WA.heap.size≤w1.heap.size:=hb1.size;have hz1':(w1.alloc (.cells #[.int .i64 (R1:Int),.int .i64 (W64 R2)] 38)).heap.size=w1.heap.size+1:=zA _ _
                        clear hb1)
  generalize w1.alloc (.cells #[.int .i64 (R1:Int),.int .i64 (W64 R2)] 38)=W1 at *;have hz1a:=Nat.le_of_eq hz1';have hz1b:=Nat.le_of_eq hz1'.symm;clear hz1' a0 a1 az;obtain⟨⟨a0,a1⟩,az⟩:=zE HM1.out.box;have hs1:w.heap.size<W1.heap.size:=by omega
  have HSA1:=hid (show Src kA B W1.drew A0 p.arrays.length p.arrays from HSRA.out.below (HM1.out.bel.drew.mono hB));have HSF1:=hid (show Src kF B W1 A1 p.funcs.length os from HSRC.out.below (HM1.out.bel.mono hB))
  go_cut [3] (fun v3 wx=>v3=.int .i64 0∧∃ A3 c3 A4 c4 M L,Cl8 w p os A3 c3 A4 c4 M L [] 0 wx)
  case first=>
   go_region_law (first
    | (go_simp;go_at_call 20;(with_reducible refine(clone_ars A0 p.arrays.length c0 p.arrays W1.drew HSA1.out (by omega)).mono ?_)
       rintro e w3 ⟨vA,rfl,hown,hb3⟩;obtain⟨A3,c3,rfl⟩:=zh hown;have hz3:W1.heap.size≤w3.heap.size:=hb3.size;have HO3:=hid hown;have HB3:=hid (show Below W1.heap.size W1 w3 from⟨hb3.os,hb3.tape,hb3.output,hb3.size,hb3.block⟩);have HM3:=hid (HM1.out.below HB3.out);obtain⟨⟨b0,b1⟩,bz⟩:=zE HM3.out.box;have hs3:w.heap.size<w3.heap.size:=by omega
       have HSF3:=hid (show Src kF B w3 A1 p.funcs.length os from HSF1.out.below (HB3.out.mono (by omega)))
       clear hown hb3)
    | (go_simp;go_at_call 21;(with_reducible refine(clone_fus A1 p.funcs.length c1 os w3 HSF3.out (by omega)).mono ?_)
       rintro e w4 ⟨vF,rfl,hown,hb4⟩;obtain⟨A4,c4,hv4⟩:=zh hown;rw[HOSL.out]at hv4;subst hv4;have hz4:w3.heap.size≤w4.heap.size:=hb4.size;have HO4:=hid hown;have HB4:=hid hb4;have HM4:=hid (HM3.out.below hb4);obtain⟨⟨d0,d1⟩,dz⟩:=zE HM4.out.box;have hs4:w.heap.size<w4.heap.size:=by omega
       clear hown hb4))
   all_goals
    go_wp2_with (fail)
    go_meet
    exact⟨rfl,A3,c3,A4,c4,w3.heap.size,w4.heap.size,Cl8.start HM4.out (by omega) hz3 HO3.out HB4.out HO4.out rfl (by exact Lib.heap_setCell_same (Lib.heap_setCell_same HM4.out.box _) _)⟩
  case rest=>
   obtain⟨rfl,A3,c3,A4,c4,M,L,hcl⟩:=hcut;have HCL:=hid hcl;obtain⟨⟨b0,b1⟩,bz⟩:=zE hcl.mid.box;have hsc:w.heap.size<wc.heap.size:=zB hcl.mid.box;clear hcl;go_upto_region 6 with(fail)
   go_loopw [27] (fun iv wr=>∃ (i:Nat) (ps:List FuV),i≤p.funcs.length∧iv=.int .i64 i∧ps.map (·.f)=(p.funcs.take i).map dvF∧Cl8 w p os A3 c3 A4 c4 M L ps i wr) (fun iv _=>p.funcs.length-(intOf iv).toNat)
   case atStart=>exact⟨0,[],Nat.zero_le _,rfl,rfl,HCL.out⟩
   case round=>
    obtain⟨i,ps,hi,rfl,hps,hC⟩:=hrel;have hpl:ps.length=i:=by have:=congrArg List.length hps;rw[List.length_map,List.length_map,List.length_take]at this;omega
    have HPL:=hid hpl;have HPS:=hid hps;have HC:=hid hC;have hsr:w.heap.size<wr.heap.size:=zB hC.mid.box;have hMw:=hC.hM;have hLM:=hC.hL;have hLr:=hC.sz;have hT:=hC.fun_;obtain⟨⟨d0,d1⟩,dz⟩:=zE hC.mid.box;clear hpl hps hC;by_cases hlt:i<p.funcs.length
    · obtain⟨f,he⟩:∃ e,p.funcs[i]? =some e:=⟨_,List.getElem?_eq_getElem hlt⟩
      obtain⟨v2,v3,hva⟩:∃ v2 v3,os[i]? =some ⟨f,v2,v3⟩:=by
       have h1:(os.map (·.f))[i]? =some f:=by rw[HOS.out];exact he
       rw[List.getElem?_map]at h1;cases h2:os[i]? with
       | none=>rw[h2]at h1;cases h1
       | some x=>
         obtain⟨xs,x3,x4⟩:=x;rw[h2]at h1;have h3:=Option.some.inj h1;dsimp only at h3;subst h3;exact⟨x3,x4,rfl⟩
      rw[jz hva]at hT;have hin:=HSRC.out.inn _ (List.mem_of_getElem? hva);obtain⟨in2,in3⟩:SlP B w v2 f.params∧SlS B w v3 f.body:=hin;obtain⟨A5,c5,rfl,_⟩:=in2.form;obtain⟨A6,c6,rfl,_⟩:=in3.form;obtain⟨g,c',hv,hBg,hg,hgL⟩:=hT.cons (by simp);simp only[Value.slice.injEq]at hv;obtain⟨rfl,hlen,rfl⟩:=hv;have HLEN:=hid hlen;obtain⟨⟨q0,q1,q2,q3⟩,qz⟩:=kf_cells hT hlen HPL.out
      have HOKF:=hid (show ke f=true from by
       have h1:=HSM.out.ok;unfold prOK at h1;rw[Bool.and_eq_true]at h1
       exact List.all_eq_true.1 h1.2 f (List.mem_of_getElem? he))
      have HCNF:=hid (HSM.out.cn f (List.mem_of_getElem? he));have HE:=hid he;have HVA:=hid hva;have HTT:=hid hT;have hbA:Below wr.heap.size wr (wr.alloc (.cells #[.string f.name,.int .i64 f.type,.slice A5 f.params.length c5,.slice A6 f.body.length c6] 45)):=(Below.refl _ _).alloc (Nat.le_refl _) _;have hxA:(wr.alloc (.cells #[.string f.name,.int .i64 f.type,.slice A5 f.params.length c5,.slice A6 f.body.length c6] 45)).heap[wr.heap.size]? =some (.cells #[.string f.name,.int .i64 f.type,.slice A5 f.params.length c5,.slice A6 f.body.length c6] 45):=heap_alloc_new wr _;have hzW:(wr.alloc (.cells #[.string f.name,.int .i64 f.type,.slice A5 f.params.length c5,.slice A6 f.body.length c6] 45)).heap.size=wr.heap.size+1:=zA _ _;have hbel:Below B w wr:=HC.out.mid.bel.mono hB;have HI2:=hid (in2.below (hbel.trans (hbA.mono (by omega))).drew (Nat.le_refl _));have HI3:=hid (in3.below (hbel.trans (hbA.mono (by omega))).drew (Nat.le_refl _));have HTB:=hid (HT.out.below (hbel.trans (hbA.mono (by omega))).drew);clear he hva hT hlen in2 in3 hbel;go_upto_region 8 with(fail);generalize wr.alloc (.cells #[.string f.name,.int .i64 f.type,.slice A5 f.params.length c5,.slice A6 f.body.length c6] 45)=W8 at *;have HC8:=hid (HC.out.below hbA);have HT8:=hid (HTT.out.below hbA);have hza8:=Nat.le_of_eq hzW;have hzb8:=Nat.le_of_eq hzW.symm;obtain⟨⟨x0,x1,x2,x3⟩,xz⟩:=zI hxA;clear d0 d1 dz q0 q1 q2 q3 qz hbA hxA hzW;obtain⟨⟨d0,d1⟩,dz⟩:=zE HC8.out.mid.box;have hs8:w.heap.size<W8.heap.size:=by omega
      have hs8b:wr.heap.size<W8.heap.size:=by omega
      have hg8:g<W8.heap.size:=by omega
      have hBd:B≤W8.drew.heap.size:=Nat.le_trans hB HC8.out.mid.bel.drew.size
      go_region_law (first
       | (go_simp;go_at_call 22;(with_reducible refine(dfun_any B f (.slice A5 f.params.length c5) (.slice A6 f.body.length c6) W8.drew HOKF.out HTB.out hBd HI2.out HI3.out HCNF.out).mono ?_)
          rintro e w9 ⟨v9,rfl,hF9,hb9⟩;obtain⟨u2,u3,rfl,hf2,hf3⟩:=hF9;obtain⟨D2,e2,rfl⟩:=FrPs.form hf2;obtain⟨D3,e3,rfl,_⟩:=zU.form hf3;have hb9':Below W8.heap.size W8 w9:=⟨hb9.os,hb9.tape,hb9.output,hb9.size,hb9.block⟩
          have hz9:W8.heap.size≤w9.heap.size:=hb9'.size;have HC9:=hid (HC8.out.below hb9');have HT9:=hid (HT8.out.below hb9');have HF2:=hid hf2;have HF3:=hid hf3;obtain⟨⟨y0,y1⟩,yz⟩:=zE HC9.out.mid.box;obtain⟨⟨p0,p1,p2,p3⟩,pz⟩:=kf_cells HT9.out HLEN.out HPL.out;have hs9:w.heap.size<w9.heap.size:=by omega
          have hg9:g<w9.heap.size:=by omega
          clear hb9 hb9' hf2 hf3))
      all_goals
       have HT10:=hid (kf_set (f':=dvF f) HT9.out HLEN.out HPL.out (.slice D2 (dvF f).params.length e2) (.slice D3 (dvF f).body.length e3));have HK10:=hid (set4o_keep w9 g (i * 4) (.string (dvF f).name) (.int .i64 (dvF f).type) (.slice D2 (dvF f).params.length e2) (.slice D3 (dvF f).body.length e3) (L:=W8.heap.size) (by omega));have HB10:=hid (set4o_below w9 g (i * 4) (.string (dvF f).name) (.int .i64 (dvF f).type) (.slice D2 (dvF f).params.length e2) (.slice D3 (dvF f).body.length e3) (B:=M) hBg);have HQ10:=hid (fun q (hq:q≠g)=>set4o_block w9 g (i * 4) (.string (dvF f).name) (.int .i64 (dvF f).type) (.slice D2 (dvF f).params.length e2) (.slice D3 (dvF f).body.length e3) q hq);have hz10:=set4o_size w9 g (i * 4) (.string (dvF f).name) (.int .i64 (dvF f).type) (.slice D2 (dvF f).params.length e2) (.slice D3 (dvF f).body.length e3);go_wp2_with (fail);go_roundw
       case rel=>
        refine⟨i+1,ps++[⟨dvF f,.slice D2 (dvF f).params.length e2,.slice D3 (dvF f).body.length e3⟩],by omega,by go_num,?_,?_⟩
        · rw[List.map_append,HPS.out,kt HE.out,List.map_append]
          rfl
        · exact⟨HC9.out.mid.keep HB10.out hMw,⟨qS HC9.out.arr.1 fun j hj=>HQ10.out j (by have:=HC9.out.ab j hj;omega),fun _ _=>trivial⟩,HC9.out.ab,HT10.out.push (M:=W8.heap.size) (frk_fu (HF2.out.keep HK10.out (Nat.le_refl _)) (zU.keep HF3.out HK10.out (Nat.le_refl _))) (by omega),hMw,hLM,Nat.le_trans (Nat.le_trans hLr (by omega)) (Nat.le_of_eq hz10.symm)⟩
       case measure=>simp[intOf];omega
    · have hil:i=p.funcs.length:=by omega
      subst hil;have hrr:vZ p=(renPr p,0):=by unfold vZ;rw[HR.out,if_pos rfl]
      have HRR:=hid hrr;have hres:=HC.out.mid.res;obtain⟨⟨r0,r1⟩,rz⟩:=zE hres;have hr1:=zB hres;obtain⟨s0,s1⟩:=qg hres (.slice A3 p.arrays.length c3) (.slice A4 p.funcs.length c4)
      have HOUT:=hid (show SlA wr.heap.size (mask (yg (w.heap.size+2)) wr) (.slice A3 p.arrays.length c3) p.arrays∧SlF wr.heap.size (mask (yg (w.heap.size+2)) wr) (.slice A4 p.funcs.length c4) (p.funcs.map renF) from by
       rw[List.drop_of_length_le (by rw[HOSL.out];exact Nat.le_refl _)]at hT;refine⟨OutK.arrays HC.out.arr (by omega),?_⟩;have h1:=OutK.funcs (hT.fin hLM) (by rw[HPL.out];omega);rw[HPS.out,List.take_length,dvPr_ren (by rw[HR.out])]at h1;refine SlF.imp (fun g o u hc=>?_) h1;obtain⟨hq,hc⟩:=zn hc
       exact zy (qH.2 (by have:=qH.1 hq;omega)) hc)
      clear hT;go_wp2_with (fail);refine bodyPost_ret (v:=.tuple #[.agg #[.slice A3 p.arrays.length c3,.slice A4 p.funcs.length c4],.int .i64 0]) (by simp[results,Tryz.results8,go_sem,s0,s1]) rfl ?_;have hK:zD (w.heap.size+2) wr ((wr.setCell ⟨w.heap.size+1,0,none⟩ (.slice A3 p.arrays.length c3)).setCell ⟨w.heap.size+1,1,none⟩ (.slice A4 p.funcs.length c4)):=(zD.set (by omega) _ _).trans (zD.set (by omega) _ _);refine⟨_,_,by rw[HRR.out],zm HC.out.mid.bel (by omega) _ _,?_⟩;rw[HRR.out];exact⟨_,_,rfl,SlA.imp (hK.cells (by omega)) HOUT.out.1,SlF.imp (hK.cells (by omega)) HOUT.out.2⟩
end Go.Proofs.YtfghofifjnbicaaGreatDoor
namespace Go.Proofs.YtfghofifjnbicaaGreatDoor
open Lib (hid)
open Go.RowKit
def frF (l:List Fu):Prop:=∀ (i:Nat) f,l[i]? =some f→qO l f.name=some i
theorem dupF_iff:∀ {l:List Fu},uA l=false↔frF l
 | []=>⟨fun _ i f h=>by simp at h,fun _=>rfl⟩
 | x :: r=>by
   rw[uA,Bool.or_eq_false_iff,dupF_iff (l:=r)];constructor
   · rintro⟨h1,h2⟩ i f hi
     cases i with
     | zero=>simp at hi;subst hi;rw[qO,if_pos rfl]
     | succ i=>
       have hi':r[i]? =some f:=by simpa using hi
       have h3:=h2 i f hi'
       have hne:¬ x.name=f.name:=fun e=>by
        rw[jv,List.any_eq_false]at h1;exact h1 f (List.mem_of_getElem? hi') (by simp[e])
       rw[qO,if_neg hne,h3];rfl
   · intro h
     refine⟨?_,fun i f hi=>?_⟩
     · rw[jv,List.any_eq_false]
       intro f hf;obtain⟨i,hi⟩:=List.getElem?_of_mem hf;have:=h (i+1) f (by simpa using hi);rw[qO]at this;split at this
       · cases this
       · rename_i hne
         simp;exact fun e=>hne e.symm
     · have:=h (i+1) f (by simpa using hi)
       rw[qO]at this;split at this
       · cases this
       · cases hr:qO r f.name with
         | none=>rw[hr]at this;cases this
         | some j=>
           rw[hr]at this;have:j=i:=by simpa using this
           rw[this]
def frA (p:Pr) (l:List Ar):Prop:=∀ (i:Nat) f,l[i]? =some f→qb l f.name=some i∧qO p.funcs f.name=none
theorem zAh (p:Pr):∀ {l:List Ar},vG p l=false↔frA p l
 | []=>⟨fun _ i f h=>by simp at h,fun _=>rfl⟩
 | x :: r=>by
   rw[vG,Bool.or_eq_false_iff,Bool.or_eq_false_iff,zAh p (l:=r)];constructor
   · rintro⟨⟨h1,h0⟩,h2⟩ i f hi
     cases i with
     | zero=>simp at hi;subst hi;exact⟨by rw[qb,if_pos rfl],by simpa using h0⟩
     | succ i=>
       have hi':r[i]? =some f:=by simpa using hi
       obtain⟨h3,h4⟩:=h2 i f hi'
       have hne:¬ x.name=f.name:=fun e=>by
        rw[kw,List.any_eq_false]at h1;exact h1 f (List.mem_of_getElem? hi') (by simp[e])
       exact⟨by rw[qb,if_neg hne,h3];rfl,h4⟩
   · intro h
     refine⟨⟨?_,?_⟩,fun i f hi=>⟨?_,(h (i+1) f (by simpa using hi)).2⟩⟩
     · rw[kw,List.any_eq_false]
       intro f hf;obtain⟨i,hi⟩:=List.getElem?_of_mem hf;have:=(h (i+1) f (by simpa using hi)).1;rw[qb]at this;split at this
       · cases this
       · rename_i hne
         simp;exact fun e=>hne e.symm
     · have:=(h 0 x rfl).2
       simp[this]
     · have:=(h (i+1) f (by simpa using hi)).1
       rw[qb]at this;split at this
       · cases this
       · cases hr:qb r f.name with
         | none=>rw[hr]at this;cases this
         | some j=>
           rw[hr]at this;have:j=i:=by simpa using this
           rw[this]
end Go.Proofs.YtfghofifjnbicaaGreatDoor
