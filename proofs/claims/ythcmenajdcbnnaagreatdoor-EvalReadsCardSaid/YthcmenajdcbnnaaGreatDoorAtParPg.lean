import Derived.Test.YthcmenajdcbnnaaGreatDoorAtEvDp
set_option linter.unusedSimpArgs false
set_option linter.unusedVariables false
set_option maxRecDepth 100000
set_option maxHeartbeats 99000000
/- The document's parser: a program. (By tools/gen_parpg.py.) -/
namespace Go.Proofs.YthcmenajdcbnnaaGreatDoor
open Lib (hid)
open Go.RowKit
theorem OK{p:Prop}(h:p:=by
 replace d:=hid (d.out.drewN nq);clear aS aT aU aV a5 a6 a7;obtain⟨⟨aq,ar⟩,au⟩:=d.out.cur.f;obtain⟨⟨b2,b3⟩,b4⟩:=d.out.cur.own;obtain⟨ai,aj,rfl⟩:=d.out.arr.form;obtain⟨E,F,rfl⟩:=d.out.fnc.form;go_wp2_with (fail);obtain⟨aI,f1⟩:=d.out.cur.read;refine bodyPost_ret (v:=.agg #[.slice ai ars.length aj,.slice E fs.length F]) (by simp[results,Tryz.results27,go_sem,aI,f1]) rfl ?_;exact pg_end d.out aY ba.out):p:=h
theorem OL{p:Prop}(h:p:=by
 have D:=G.out.2;have O:=ay.out;have ad:=aC.out;simp only[O,ad]at *;omega):p:=h
theorem rvalue_nil(w:World):Calls Tryz.prog 57 #[.string ⟨#[]⟩] w fun e w'=>e=.returned (.int .i64 (-1))/\w=w':=by
 go_enter Tryz.func57,Tryz.ntmps57;go_wp2
 go_loop [3,4,5] (fun n i _=>i=.int .i64 0/\n=.int .i64 0) (fun _ i _=>0)
 case atStart=>exact⟨rfl,rfl⟩
 case round=>
  obtain⟨rfl,rfl⟩:=hrel;go_wp2;go_ret;exact⟨rfl,rfl⟩
theorem text_nil{b:Nat}{V:Value}{all r:List Tok}{w:World}(d:jI b V all (.ok () r) w)(k:Int)(i:uO r≠k):
 Calls Tryz.prog 55 #[.pointer (some ⟨b,0,none⟩),.int .i64 k] w fun e w'=>e=.returned (.string ⟨#[]⟩)/\qd b V all w (.bad r) w':=by
 have a:zW b V all r false false w:=d;clear d;have f:=fun o=>box_spoil a o
 have z:=a.lt;have f1:=a.1.frozen 1;have v:=a.1.frozen 2;have j:=hid (show jI b V all (.ok () r) w from a);obtain⟨g,c,p,t,q,rfl,rfl,m,A,x,c0,c1,n,s,C,D,E⟩:=a.tok;have y:(p:Int)<all.length:=I7
 have B:0<w.heap.size:=I7
 have l:=hid f;have u:(t.kind != k)=true:=by simpa[uO]using i
 clear a m f i;go_enter Tryz.func55,Tryz.ntmps55;go_wp2_with (go_at_call 53;(with_reducible refine(zt j.out false rfl).mono ?_);rintro e F ⟨rfl,rfl⟩)
 go_region_held3 (fun w'=>w'.cell? ⟨b,0,none⟩=some (.slice (some ⟨g,0,none⟩) all.length c)/\w'.cell? ⟨b,1,none⟩=some (.int .i64 p)/\w'.cell? ⟨g,p*3,none⟩=some (.int .i64 t.kind)/\w'.cell? ⟨g,p*3+1,none⟩=some (.string ⟨t.text.toArray⟩)/\w'.cell? ⟨g,p*3+2,none⟩=some (.int .i64 (t.line:Int))/\0<w'.heap.size)
  (first|go_keep|(go_split_ands;refine⟨?_,?_,?_,?_,?_,?_⟩ <;> assumption))
  (fail)
 go_wp2_with (fail);go_ret;exact⟨rfl,l.out _⟩
abbrev yE:Obj:=.cells #[.slice none 0 0,.slice none 0 0] 27
abbrev vA(W:World)(g:Nat)(c0 c1:Value):World:=(W.setCell ⟨g,0,none⟩ c0).setCell ⟨g,1,none⟩ c1
theorem nest2_row{W:World}{g:Nat}{a b:Value}{T:TypeId}{fr:Nat × Nat}(c:W.heap[g]? =some (.cells #[a,b] T fr))(c0 c1:Value):(vA W g c0 c1).heap[g]? =some (.cells #[c0,c1] T fr):=Lib.heap_setCell_same (Lib.heap_setCell_same c c0) c1
theorem zK.nest2{L g:Nat}{w:World}(a:g<L)(c0 c1:Value):zK L w (vA w g c0 c1):=(zK.set a 0 c0).trans (zK.set a 1 c1)
theorem ku{W:World}{g:Nat}{c0 c1:Value}{T:TypeId}(h:W.heap[g]? =some (.cells #[c0,c1] T (0,0))):(W.cell? ⟨g,0,none⟩=some c0/\W.cell? ⟨g,1,none⟩=some c1)/\∀o,W.frozen? ⟨g,o,none⟩=false:=by
 refine⟨⟨(Lib.cell_of_heap h 0).trans rfl,(Lib.cell_of_heap h 1).trans rfl⟩,fun o=>?_⟩;simp[World.frozen?,h]
def FrG(L:Nat)(w:World)(a:Pr)(v:Value):Prop:=∃b c,v=.agg #[b,c]/\SlA w.heap.size (mask (low L) w) b a.arrays/\SlF w.heap.size (mask (low L) w) c a.funcs
def CurP(b:Nat)(V:Value)(all:List Tok)(w:World)(x:PR Unit)(W:World)(c0 c1:Value):Prop:=
 qd b V all w x W/\W.heap[w.heap.size]? =some yE/\W.heap[w.heap.size+1]? =some (.cells #[c0,c1] 27 (0,0))/\TokH b V all w/\b<w.heap.size
section
variable {b:Nat} {V:Value} {all:List Tok} {w W W':World} {x y:PR Unit} {c0 c1:Value}
theorem CurP.start(a:jI b V all x w):CurP b V all w x ((w.alloc yE).alloc yE) (.slice none 0 0) (.slice none 0 0):=by
 have c:Below w.heap.size w ((w.alloc yE).alloc yE):=(Zb.alloc Zr _).alloc Ic _;refine⟨⟨a.below c,OffB.of_below c a.lt⟩,qE (heap_alloc_new w yE) _,?_,a.tok,a.lt⟩;have:=heap_alloc_new (w.alloc yE) yE;rw[zA]at this;exact this
theorem CurP.did(h:CurP b V all w x W c0 c1):qd b V all w x W:=h.1
theorem CurP.st(h:CurP b V all w x W c0 c1):jI b V all x W:=h.1.1
theorem CurP.lt(h:CurP b V all w x W c0 c1):b<w.heap.size:=h.2.2.2.2
theorem CurP.size(h:CurP b V all w x W c0 c1):w.heap.size+1<W.heap.size:=(Array.getElem?_eq_some_iff.1 h.2.2.1).1
theorem CurP.step(h:CurP b V all w x W c0 c1)(g:qd b V all W y W'):CurP b V all w y W' c0 c1:=
 ⟨h.1.after g,q9 g.off (by have:=h.size;omega) (by have:=h.lt;omega) h.2.1,q9 g.off h.size (by have:=h.lt;omega) h.2.2.1,h.2.2.2⟩
theorem CurP.alloc(h:CurP b V all w x W c0 c1)(o:Obj):CurP b V all w x (W.alloc o) c0 c1:=⟨h.1.alloc o,qE h.2.1 o,qE h.2.2.1 o,h.2.2.2⟩
theorem CurP.own(h:CurP b V all w x W c0 c1):(W.cell? ⟨w.heap.size,0,none⟩=some (.slice none 0 0)/\W.cell? ⟨w.heap.size,1,none⟩=some (.slice none 0 0))/\∀o,W.frozen? ⟨w.heap.size,o,none⟩=false:=ku h.2.1
theorem CurP.f(h:CurP b V all w x W c0 c1):(W.cell? ⟨w.heap.size+1,0,none⟩=some c0/\W.cell? ⟨w.heap.size+1,1,none⟩=some c1)/\∀o,W.frozen? ⟨w.heap.size+1,o,none⟩=false:=ku h.2.2.1
theorem CurP.set(h:CurP b V all w x W c0 c1)(i:Nat)(u:Value):qd b V all w x (W.setCell ⟨w.heap.size+1,i,none⟩ u)/\(W.setCell ⟨w.heap.size+1,i,none⟩ u).heap[w.heap.size]? =some yE:=
 ⟨h.1.set h.2.2.2.1 I7 (by have:=h.lt;omega) i u,(Below.heap_setCell W _ u _ Um).trans h.2.1⟩
theorem CurP.set0(h:CurP b V all w x W c0 c1)(u:Value):CurP b V all w x (W.setCell ⟨w.heap.size+1,0,none⟩ u) u c1:=⟨(h.set 0 u).1,(h.set 0 u).2,Lib.heap_setCell_same h.2.2.1 u,h.2.2.2⟩
theorem CurP.set1(h:CurP b V all w x W c0 c1)(u:Value):CurP b V all w x (W.setCell ⟨w.heap.size+1,1,none⟩ u) c0 u:=⟨(h.set 1 u).1,(h.set 1 u).2,Lib.heap_setCell_same h.2.2.1 u,h.2.2.2⟩
theorem CurP.fin(c:CurP b V all w y W c0 c1){X:PR Pr}(e:X.un=y)(d:qy X fun a=>FrG w.heap.size (_root_.Go.Proofs.YthcmenajdcbnnaaGreatDoor.vA W w.heap.size c0 c1) a (.agg #[c0,c1])):
 qM b V all w X (FrG w.heap.size) (.returned (.agg #[c0,c1])) (_root_.Go.Proofs.YthcmenajdcbnnaaGreatDoor.vA W w.heap.size c0 c1):=
 ⟨_,rfl,e ▸ (c.1.set c.2.2.2.1 Zr QT 0 c0).set c.2.2.2.1 Zr QT 1 c1,d⟩
theorem CurP.read(h:CurP b V all w x W c0 c1):((W.setCell ⟨w.heap.size,0,none⟩ c0).setCell ⟨w.heap.size,1,none⟩ c1).cell? ⟨w.heap.size,0,none⟩=some c0/\((W.setCell ⟨w.heap.size,0,none⟩ c0).setCell ⟨w.heap.size,1,none⟩ c1).cell? ⟨w.heap.size,1,none⟩=some c1:=(ku (nest2_row h.2.1 c0 c1)).1
end
theorem got_eq{α β:Type}{x:PR α}{a0:α}(h:qy x fun a=>a=a0)(F:α->List Tok->PR β):x.bind F=x.un.bind fun _ r=>F a0 r:=by
 cases x with
 | ok a r=>
   obtain rfl:a=a0:=h;rfl
 | _=>rfl
def pgK(q:Nat)(p:Pr)(a:Pa)(r:List Tok):PR Pr:=
 if a.type=1/\p.funcs=[]/\ze [91] r=true then(pArr a.name r.tail).bind fun x r=>pPr q ⟨p.arrays++[x],p.funcs⟩ r
 else(pFn q a.type a.name r).bind fun f r=>pPr q ⟨p.arrays,p.funcs++[f]⟩ r
theorem pPr_got{q:Nat}{p:Pr}{r:List Tok}(h:uO r≠3):pPr (q+1) p r=(qg r).bind fun a r=>pgK q p a r:=by
 rw[pPr,if_neg h];unfold qg;simp only[zV];rfl
theorem pPr_end{q:Nat}{p:Pr}{r:List Tok}(h:uO r=3):pPr (q+1) p r=.ok p r:=by rw[pPr,if_pos h]
theorem own_apart{w:World}{B:Nat}{e t:TypeId}{n m k l:Nat}{v u:Value}{o p:List Value}(d:w.ownsRow B e n v k o)(g:w.ownsRow B t m u l p)(i:e≠t):∀j,v.ownBlock=some j->u.ownBlock≠some j:=by
 intro j a;rcases d.2 with⟨rfl,_⟩|⟨c,q,b,rfl,r,f,_⟩
 .cases a
 .injection a with a
  subst a;exact vu g (show Is w c e b from f) (fun e=>i e.symm)
structure PgAt (b:Nat) (V:Value) (all:List Tok) (w:World) (y:PR Unit) (W:World) (va vf:Value) (ars:List Ar) (fs:List FuV):Prop where
 cur:CurP b V all w y W va vf
 arr:OutK kA (w.heap.size+2) W va ars
 fnc:OutK kF (w.heap.size+2) W vf fs
 nil:fs=[]->vf=.slice none 0 0
section
variable {b:Nat} {V:Value} {all:List Tok} {w W W':World} {x y:PR Unit} {va vf:Value} {ars:List Ar} {fs:List FuV}
theorem PgAt.step(h:PgAt b V all w x W va vf ars fs)(g:qd b V all W y W'):PgAt b V all w y W' va vf ars fs:=
 ⟨h.cur.step g,h.arr.keep (zK.did g (by have:=h.cur.lt;omega)),h.fnc.keep (zK.did g (by have:=h.cur.lt;omega)),h.nil⟩
theorem PgAt.drewN(h:PgAt b V all w x W va vf ars fs)(n:Nat):PgAt b V all w x (W.drewN n) va vf ars fs:=h.step ⟨h.cur.st.drewN n,(OffB.refl b _ W).drewN n⟩
theorem PgAt.drew(h:PgAt b V all w x W va vf ars fs):PgAt b V all w x W.drew va vf ars fs:=h.step ⟨h.cur.st.below Zb.drew,OffB.of_below Zb.drew h.cur.st.lt⟩
theorem PgAt.array{w5:World}{f:Value}{a:Ar}(g:PgAt b V all w y W va vf ars [])(i:(W.alloc (.cells #[.string a.name,.int .i64 a.size] 80)).grownBy w5 va.ownBlock)(t:xG (W.alloc (.cells #[.string a.name,.int .i64 a.size] 80)) va f)
 (r:w5.ownsRow (w.heap.size+2) 80 2 f (ars.length+1) (ars.flatMap kA.cs++[.string a.name,.int .i64 a.size])):CurP b V all w y w5 va vf/\PgAt b V all w y (w5.setCell ⟨w.heap.size+1,0,none⟩ f) f vf (ars++[a]) []:=by
 have c:=g.cur;have d:Below W.heap.size W (W.alloc (.cells #[.string a.name,.int .i64 a.size] 80)):=Zb.alloc Zr _;have p:OutK kA (w.heap.size+2) w5 f (ars++[a]):=g.arr.app (L:=W.heap.size) trivial QR (fun k q=>(g.arr.own k q).1) d i t r;have s:∀j,va.ownBlock=some j->w.heap.size+2<=j:=fun j l=>(g.arr.own j l).2
 have m:∀j,j<W.heap.size->j<w.heap.size+2->w5.heap[j]? =W.heap[j]?:=fun j l x=>(i.block j (Nat.lt_of_lt_of_le l d.size) (fun e=>by have:=s j e.symm;omega)).trans (d.block j l)
 have u:=c.size;have v:=c.lt;have o:OffB b w.heap.size w w5:=c.did.off.trans (OffB.mk' (i.os.trans d.os) (i.tape.trans d.tape) (i.output.trans d.output) (Nat.le_trans d.size i.size) c.st.lt fun j l _=>m j (by have:=c.did.off.size;omega) I7);have n:CurP b V all w y w5 va vf:=⟨⟨c.st.move c.2.2.2.1 o (m b c.st.lt I7),o⟩,(m _ I7 I7).trans c.2.1,(m _ u I7).trans c.2.2.1,c.2.2.2⟩
 refine⟨n,n.set0 f,p.keep (zK.set I7 0 f),?_,g.nil⟩;rw[g.nil rfl];exact OutK.nil _ _ _
theorem PgAt.func{w5:World}{i:Value}{s:ByteArray}{t:Int}{d g:Value}(l:PgAt b V all w y W va vf ars fs)(n:(W.alloc (.cells #[.string s,.int .i64 t,d,g] 93)).grownBy w5 vf.ownBlock)(J:xG (W.alloc (.cells #[.string s,.int .i64 t,d,g] 93)) vf i)
 (H:w5.ownsRow (w.heap.size+2) 93 4 i (fs.length+1) (fs.flatMap kF.cs++[.string s,.int .i64 t,d,g])) {L:Nat} (D:w.heap.size+2<=L) (E:∀k,vf.ownBlock=some k->k<L):
 CurP b V all w y w5 va vf/\∀f,FrF L W f (.agg #[.string s,.int .i64 t,d,g])->∃q:FuV,q.f=f/\PgAt b V all w y (w5.setCell ⟨w.heap.size+1,1,none⟩ i) va i ars (fs++[q]):=by
 have a:=l.cur;have m:Below W.heap.size W (W.alloc (.cells #[.string s,.int .i64 t,d,g] 93)):=Zb.alloc Zr _;have I:∀j,vf.ownBlock=some j->w.heap.size+2<=j:=fun j c=>(l.fnc.own j c).2
 have u:∀j,j<W.heap.size->vf.ownBlock≠some j->w5.heap[j]? =W.heap[j]?:=fun j c v=>(n.block j (Nat.lt_of_lt_of_le c m.size) (fun e=>v e.symm)).trans (m.block j c)
 have o:∀j,j<W.heap.size->j<w.heap.size+2->w5.heap[j]? =W.heap[j]?:=fun j c v=>u j c (fun e=>by have:=I j e;omega)
 have M:=a.size;have N:=a.lt;have x:OffB b w.heap.size w w5:=a.did.off.trans (OffB.mk' (n.os.trans m.os) (n.tape.trans m.tape) (n.output.trans m.output) (Nat.le_trans m.size n.size) a.st.lt fun j c _=>o j Uz I7);have r:CurP b V all w y w5 va vf:=⟨⟨a.st.move a.2.2.2.1 x (o b a.st.lt I7),x⟩,(o _ I7 I7).trans a.2.1,(o _ M I7).trans a.2.2.1,a.2.2.2⟩
 refine⟨r,fun f G=>?_⟩;obtain⟨u2,u3,z,A,B⟩:=G;simp only[Value.agg.injEq,Array.mk.injEq,List.cons.injEq,Value.int.injEq,Value.string.injEq,true_and,and_true]at z;obtain⟨rfl,rfl,rfl,rfl⟩:=z;have F:OutK kF (w.heap.size+2) w5 i (fs++[⟨f,d,g⟩]):=l.fnc.app (K:=kF) (L:=L) (p:=(⟨f,d,g⟩:FuV)) (show SlP W.heap.size (mask (low L) W) d f.params/\SlS W.heap.size (mask (low L) W) g f.body from⟨A,B⟩) D E m n J H
 have C:OutK kA (w.heap.size+2) w5 va ars:=by
  refine⟨zm l.arr.1 fun j c=>u j (l.arr.own j c).1 ?_,fun p O=>trivial⟩;exact own_apart l.arr.1 l.fnc.1 I8 j c
 exact⟨⟨f,d,g⟩,rfl,r.set1 i,C.keep (zK.set I7 1 i),F.keep (zK.set I7 1 i),fun e=>absurd e Ia⟩
end
theorem RdA.imp{B b:Nat}{w w':World}(d:∀g o u,CellB B w g o u->CellB b w' g o u)(a:Ar)(g o:Nat)(c:RdA B w a g o):RdA b w' a g o:=⟨d _ _ _ c.1,d _ _ _ c.2⟩
theorem SlA.imp{B b:Nat}{w w':World}(d:∀g o u,CellB B w g o u->CellB b w' g o u){v:Value}{l:List Ar}(c:SlA B w v l):SlA b w' v l:=v9.imp c fun g o=>RdL.imp (fun a g o=>RdA.imp d a g o) l g o
theorem RdF.imp{B c:Nat}{w w':World}(b:∀g o u,CellB B w g o u->CellB c w' g o u)(a:Fu)(g o:Nat)(d:RdF B w a g o):RdF c w' a g o:=by
 obtain⟨e,f,⟨v,i,j⟩,⟨v',k,l⟩⟩:=d;exact⟨b _ _ _ e,b _ _ _ f,⟨v,b _ _ _ i,j.imp b⟩,⟨v',b _ _ _ k,l.imp b⟩⟩
theorem SlF.imp{B b:Nat}{w w':World}(d:∀g o u,CellB B w g o u->CellB b w' g o u){v:Value}{l:List Fu}(c:SlF B w v l):SlF b w' v l:=v9.imp c fun g o=>RdL.imp (fun a g o=>RdF.imp d a g o) l g o
def PgRel(b:Nat)(V:Value)(all:List Tok)(w:World)(T:PR Pr)(n:Nat)(wr:World):Prop:=
 ∃(m:Nat) (ars:List Ar) (fs:List FuV) (y:PR Unit) (va vf:Value),m<=n/\PgAt b V all w y wr va vf ars fs/\T=y.bind (fun _ r=>pPr m ⟨ars,fs.map (·.f)⟩ r)/\(zl y=false->ars.length+fs.length<=xx b wr)/\ars.length+fs.length<=2000000
theorem pg_end{b:Nat}{V:Value}{all:List Tok}{w W:World}{y:PR Unit}{va vf:Value}{ars:List Ar}{fs:List FuV}{T:PR Pr}(a:PgAt b V all w y W va vf ars fs)(l:ars.length+fs.length<=2000000)(i:T=y.bind fun _ r=>.ok ⟨ars,fs.map (·.f)⟩ r):qM b V all w T (FrG w.heap.size) (.returned (.agg #[va,vf])) (vA W w.heap.size va vf):=by
 subst i;have d:zK (w.heap.size+2) W (vA W w.heap.size va vf):=zK.nest2 I7 _ _;have j:=(a.arr.keep d).arrays I7;have k:=(a.fnc.keep d).funcs I7;have e:∀g o u,CellB (vA W w.heap.size va vf).heap.size (mask (low (w.heap.size+2)) (vA W w.heap.size va vf)) g o u->CellB (vA W w.heap.size va vf).heap.size (mask (low w.heap.size) (vA W w.heap.size va vf)) g o u:=(zK.refl (w.heap.size+2) _).cells I7;have c:FrG w.heap.size (vA W w.heap.size va vf) ⟨ars,fs.map (·.f)⟩ (.agg #[va,vf]):=⟨va,vf,rfl,SlA.imp e j,SlF.imp e k⟩
 refine a.cur.fin ?_ ?_
 .rw[jE]
  cases y <;> rfl
 .cases y with
  | ok u r=>exact c
  | bad r=>exact⟨_,c⟩
  | deep r=>exact⟨_,c⟩
  | out=>trivial
theorem got_pick{α:Type}{Y:PR α}{P:α->Prop}(b:qy Y P)(d:zG Y):∃a,P a/\∀{β:Type} (F:α->List Tok->PR β),Y.bind F=Y.un.bind fun _ r=>F a r:=by
 cases Y with
 | ok a r=>exact⟨a,b,fun F=>rfl⟩
 | bad r=>obtain⟨a,c⟩:=b;exact⟨a,c,fun F=>rfl⟩
 | deep r=>obtain⟨a,c⟩:=b;exact⟨a,c,fun F=>rfl⟩
 | out=>exact absurd d id
theorem pgK_fn{q:Nat}{p:Pr}{a:Pa}{z:PR Unit}(b:¬(a.type=1/\p.funcs=[]/\zS [91] z=true)):(z.bind fun _ r=>pgK q p a r)=(z.bind fun _ r=>pFn q a.type a.name r).bind fun f r=>pPr q ⟨p.arrays,p.funcs++[f]⟩ r:=by
 cases z with
 | ok u r=>
   show pgK q p a r=(pFn q a.type a.name r).bind _;unfold pgK;exact congrArg id (if_neg b)
 | _=>rfl
theorem pgK_arr{q:Nat}{p:Pr}{a:Pa}{r:List Tok}(b:a.type=1)(c:p.funcs=[])(d:ze [91] r=true):pgK q p a r=(pArr a.name r.tail).bind fun x r=>pPr q ⟨p.arrays++[x],p.funcs⟩ r:=by
 unfold pgK;rw[if_pos ⟨b,c,d⟩]
theorem fits_at{α:Type}{b:Nat}{V:Value}{all r:List Tok}{W:World}{X:PR α}(hF:zc 1 r X)(d:jI b V all X.un W)(k:r.length<=all.length)(l:0<r.length):
 2*(all.length-xx b W)+yx b W<2*r.length+1/\(zl X.un=false->all.length-r.length+1<=xx b W):=by
 cases X with
 | ok a c=>
   have e:zW b V all c false false W:=d;have g:=qt e;have i:=(show zH 1 r c from hF).2.2;have j:=liveN_le b W;exact⟨I7,fun _=>I7⟩
 | bad c=>
   have e:zW b V all c true false W:=d;have g:=qt e;have i:=(show zH 0 r c from hF).2.2;have j:=uC d rfl;exact⟨I7,fun f=>by cases f⟩
 | deep c=>
   have e:zW b V all c false true W:=d;have g:=qt e;have i:=(show zH 0 r c from hF).2.2;have j:=uC d rfl;exact⟨I7,fun f=>by cases f⟩
 | out=>exact absurd d id
theorem pg_rel{α:Type}{b:Nat}{V:Value}{all r:List Tok}{w W:World}{va vf:Value}{ars:List Ar}{fs:List FuV}{T:PR Pr}{X:PR α}{q n:Nat}(i:q<=n)(hF:zc 1 r X)(a:PgAt b V all w X.un W va vf ars fs)(e:T=X.un.bind fun _ r=>pPr q ⟨ars,fs.map (·.f)⟩ r)
 (j:r.length<=all.length) (k:0<r.length) (m:ars.length+fs.length<=all.length-r.length+1) (l:all.length<=1000000):PgRel b V all w T n W/\2*(all.length-xx b W)+yx b W<2*r.length+1:=by
 obtain⟨c,d⟩:=fits_at hF a.cur.st j k;exact⟨⟨q,ars,fs,_,va,vf,i,a,e,fun g=>by have:=d g;omega,I7⟩,c⟩
theorem parOne_live{r:List Tok}{a:Pa}{r1:List Tok}(e:(qg r).un=.ok () r1)(c:qy (qg r) fun p=>p=a)(f:zk r):qg r=.ok a r1/\zH 1 r r1:=by
 obtain⟨d,b⟩:=un_ok e;have hF:=xt f;rw[b]at c hF;obtain rfl:d=a:=c;exact⟨b,hF⟩
theorem un_fits{α:Type}{k:Nat}{l:List Tok}{x:PR α}(h:zc k l x):zc k l x.un:=by
 cases x with
 | ok a r=>exact h
 | bad r=>exact h
 | deep r=>exact h
 | out=>trivial
theorem rvalue_is(s:ByteArray)(a:Int)(w:World)(d:s.size<=281474976710656)(c:kT s.data.toList=true)(b:a=(jj 0 s.data.toList:Nat)):
 Calls Tryz.prog 57 #[.string s] w fun e w'=>e=.returned (.int .i64 a)/\w=w':=by
 subst b;exact rvalue_num s w d c
theorem prog_any{b:Nat}{V:Value}{all:List Tok}{n:Nat}{x:PR Unit}{w:World}(ab:jI b V all x w)(bh:zG (x.bind fun _ r=>pPr n ⟨[],[]⟩ r)):
 Calls Tryz.prog 27 #[.pointer (some ⟨b,0,none⟩)] w (qM b V all w (x.bind fun _ r=>pPr n ⟨[],[]⟩ r) (FrG w.heap.size)):=by
 obtain⟨T,Y⟩:∃T,(x.bind fun _ r=>pPr n ⟨[],[]⟩ r)=T:=⟨_,rfl⟩
 rw[Y]at bh ⊢;have bu:=hid bh;have bT:=hid Y.symm;have d:=hid (show PgAt b V all w x ((w.alloc yE).alloc yE) (.slice none 0 0) (.slice none 0 0) [] []from⟨CurP.start ab,OutK.nil _ _ _,OutK.nil _ _ _,fun _=>rfl⟩);have b8:=ab.lt;clear ab bh Y;go_enter Tryz.func27,Tryz.ntmps27;go_wp2
 go_loopw [4] (fun _ wr=>PgRel b V all w T n wr) (fun _ wr=>2*(all.length-xx b wr)+yx b wr)
 case atStart=>exact⟨n,[],[],x,_,_,Nat.le_refl _,d.out,bT.out,fun _=>Nat.zero_le _,Ia⟩
 case round=>
  obtain⟨bO,bC,bL,bM,bN⟩:=info_parts ar_info;have ag:=hid (And.intro bC (And.intro bL (And.intro bM bN)));obtain⟨bm,bD,bI,bJ,bK⟩:=info_parts fu_info;have K:=hid (And.intro bD (And.intro bI (And.intro bJ bK)));clear bC bL bM bN bD bI bJ bK;obtain⟨m,ars,fs,y,va,vf,cc,ae,Y,aZ,aY⟩:=hrel;replace d:=hid ae;cases ho:zl y with
  | true=>
    have ba:=hid (show T=y.bind fun _ r=>.ok ⟨ars,fs.map (·.f)⟩ r from Y.trans (over_bind ho _ _));have bR:=hid ho;obtain⟨cd,b6,dp,bG,_,_⟩:=ae.cur.st.box;obtain⟨g,c,k,t,q,rfl,rfl,Z,bW,bY,aS,aT,aU,aV,a5,a6,a7⟩:=bG.tok;have bX:(k:Int)<all.length:=I7
    clear Z bG ho Y aZ ae;go_wp2
    go_quiet ((go_at_call 53;exact Calls.quiet_of_same (zt (d.out.drewN _).cur.st true bR.out)))
    exact OK
  | false=>
    obtain⟨r,rfl⟩:∃r,y=.ok () r:=by
     cases y with
     | ok u r=>exact⟨r,rfl⟩
     | bad r=>cases ho
     | deep r=>cases ho
     | out=>exact absurd ae.cur.st id
    obtain⟨a0,aO,aK,bf,aP⟩:=xZ ae.cur.did;have ah:=aZ rfl;rw[a0]at ah;have bg:=liveN_ok (show zW b V all r false false wr from ae.cur.st)
    obtain⟨q,rfl⟩:∃q,m=q+1:=by
     cases m with
     | zero=>have D:=bu.out;rw[Y]at D;exact absurd (show zG (pPr 0 ⟨ars,fs.map (·.f)⟩ r)from D) (by rw[pPr];exact id)
     | succ q=>exact⟨q,rfl⟩
    have aX:T=pPr (q+1) ⟨ars,fs.map (·.f)⟩ r:=Y;obtain⟨g,c,k,t,ce,rfl,bk,Z,bW,bY,aS,aT,aU,aV,a5,a6,a7⟩:=(show zW b V all r false false wr from ae.cur.st).tok;have bX:(k:Int)<all.length:=I7
    have a1:uO r=t.kind:=by rw[bk];rfl
    cases hk3:decide (t.kind=3)with
    | true=>
      have aH:t.kind=3:=of_decide_eq_true hk3;have bV:(t.kind != 3)=false:=by simpa using hk3
      have ba:=hid (show T=(PR.ok () r).bind fun _ r=>.ok ⟨ars,fs.map (·.f)⟩ r from aX.trans (pPr_end (a1.trans aH)));clear Z ho Y aX aZ ae hk3 aH bg a0 a1 bk bf;go_wp2
      go_quiet ((go_at_call 53;exact Calls.quiet_of_same (zt (d.out.drewN _).cur.st false rfl)))
      exact OK
    | false=>
      have aH:¬t.kind=3:=of_decide_eq_false hk3;have bV:(t.kind != 3)=true:=by simpa using hk3
      have aR:=hid (aX.trans (pPr_got (a1 ▸ aH)));have aQ:=hid bf;have ay:=hid a0;have aC:=hid bg;clear Z ho Y aX aZ ae hk3 aH bg a0 a1 bk bf;go_wp2
      go_quiet ((go_at_call 53;exact Calls.quiet_of_same (zt (d.out.drewN _).cur.st false rfl)))
      replace d:=hid (d.out.drewN nq);clear aS aT aU aV a5 a6 a7
      go_wp2_with (first
       | (go_at_call 54;(with_reducible refine(vP d.out.cur.st).mono ?_);rintro e b5 ⟨cf,rfl,i,B⟩
          obtain⟨aw,rfl,bA⟩:=ty_got (r:=r) B;have bq:=hid bA;replace d:=hid (show PgAt b _ all w (pTy r).un b5 _ _ _ _ from d.out.step i)
          clear i B bA))
      go_at_call 55
      (with_reducible refine(xo d.out.cur.st 1 I8).mono ?_)
      rintro e w4 ⟨J,rfl,i,B⟩;have bp:=hid (parOne_got bq.out B);replace d:=hid (show PgAt b _ all w (qg r).un w4 _ _ _ _ from(parOne_un r).symm ▸ d.out.step i);replace aR:=hid (aR.out.trans (got_eq bp.out _));clear i B bq;have b9:=d.out.cur.st.lt;dsimp only;by_cases an:aw=1/\fs=[]/\zS [91] (qg r).un=true
      .obtain⟨rfl,rfl,bz⟩:=an
       obtain⟨av,a4,a2⟩:=vw bz;obtain⟨bZ,bc⟩:=parOne_live a4 bp.out aQ.out;have bl:vf=.slice none 0 0:=d.out.nil rfl;subst bl
       have bd:T=(pArr J av.tail).bind fun x r=>pPr q ⟨ars++[x],[]⟩ r:=by
        rw[aR.out,a4];exact pgK_arr rfl rfl a2
       rw[a4]at d;have aW:zH 1 r av.tail:=(bc.trans (zH.sign bc.2.1 a2)).mono I7;obtain⟨j,bj⟩:∃j,j=av.tail:=⟨_,rfl⟩
       rw[<-bj]at bd aW;have a9:=hid bj;have bs:=hid aW;have aG:=hid (show zS (⟨#[91]⟩:ByteArray).data.toList (PR.ok () av)=true from a2);have bt:=hid bd;have bo:=hid aW.2.1;obtain⟨⟨aq,ar⟩,au⟩:=d.out.cur.f;clear a4 bZ bc bd bj aW a2 bz;by_cases ak:uO j=0
       .obtain⟨am,a3⟩:∃am:ByteArray,am=⟨(hdT j).toArray⟩:=⟨_,rfl⟩
        have bS:=hid a3;have aD:=hid ak
        have br:=hid (show am.size<=281474976710656/\kT am.data.toList=true by
         rw[a3];have b0:zW b _ all av false false w4:=d.out.cur.st;have bH:=(zW.next b0 (by rw[(vM (show ze [91] av=true from aG.out)).1];decide))
         rw[<-a9.out]at bH;obtain⟨D,O,_⟩:=bH.num ak
         exact⟨D,O⟩)
        obtain⟨ap,bi⟩:∃ap:Int,ap=(jj 0 am.data.toList:Nat):=⟨_,rfl⟩
        have bQ:=hid bi
        have bb:=hid (show T=((((PR.ok () j.tail).bind fun _ r=>zN [93] r).bind fun _ r=>zN [59] r)).un.bind fun _ r=>pPr q ⟨ars++[⟨J,ap⟩],([]:List FuV).map (·.f)⟩ r by
         rw[bt.out,un_unit,bi,a3];unfold pArr want;rw[if_pos ak];show((zN [93] j.tail).bind fun _ r=>(zN [59] r).bind fun _ r=>PR.ok _ r).bind _=((zN [93] j.tail).bind fun _ r=>zN [59] r).bind _;simp only[zV]
         rfl)
        clear a3 ak bi
        go_wp2_with (first
        | (go_at_call 56;(with_reducible refine(zi d.out.cur.st _ aG.out).mono ?_);rintro e ax ⟨rfl,i⟩
           replace d:=hid (show PgAt b _ all w (.ok () j) ax _ _ _ _ by rw[a9.out];exact d.out.step i)
           clear i)
        | (go_at_call 55;(with_reducible refine(uo d.out.cur.st 0 I8 aD.out am bS.out).mono ?_);rintro e C ⟨rfl,i⟩
           replace d:=hid (show PgAt b _ all w (.ok () j.tail) C _ _ _ _ from d.out.step i)
           clear i)
        | (go_at_call 57;(with_reducible refine(rvalue_is am _ _ br.out.1 br.out.2 bQ.out).mono ?_);rintro e C ⟨rfl,rfl⟩)
        | (go_at_call 58;(with_reducible refine(zY d.out.cur.st ⟨#[93]⟩).mono ?_);rintro e af ⟨rfl,i⟩
           replace d:=hid (show PgAt b _ all w ((PR.ok () j.tail).bind fun _ r=>zN [93] r) af _ _ _ _ from d.out.step i)
           clear i)
        | (go_at_call 58;(with_reducible refine(zY d.out.cur.st ⟨#[59]⟩).mono ?_);rintro e w8 ⟨rfl,i⟩
           replace d:=hid (show PgAt b _ all w (((PR.ok () j.tail).bind fun _ r=>zN [93] r).bind fun _ r=>zN [59] r) w8 _ _ _ _ from d.out.step i);obtain⟨⟨aq,ar⟩,au⟩:=d.out.cur.f;obtain⟨ai,aj,rfl⟩:=d.out.arr.form;have o:=hid (d.out.arr.pre [.string J,.int .i64 (ap)] (by have:=d.out.cur.size;omega))
           clear i)
        | (at_builtin;refine jC rfl (.tmp 48) (.tmp 52) _ rfl (w.heap.size+2) 80 bO _ 2 24 Tryz.underlying24 ag.out.1 ag.out.2.1 ag.out.2.2.1 ag.out.2.2.2 rfl I7 (.slice ai ars.length aj) ars.length _ rfl (by exact o.out.1) ⟨w8.heap.size,0,none⟩ 1 1 [.string J,.int .i64 (ap)] rfl rfl (by exact o.out.2.1) Ig If I7 (by exact o.out.2.2) I7 ?_
           intro a8 w9 A H I;obtain⟨E,F,rfl⟩:=zU A;have s:=hid (d.out.array (a:=⟨J,ap⟩) H I A);have bU:=s.out.1.f.2;have b1:=s.out.1.f.1.1
           clear A H I))
        have G:=hid (pg_rel (q:=q) (n:=n) (X:=((PR.ok () j.tail).bind fun _ r=>zN [93] r).bind fun _ r=>zN [59] r) I7 (zc.from bs.out (zc.from (n:=0) (zH.tail bo.out (by rw[aD.out];decide)) ((zL (bo.out.tail (by rw[aD.out];decide)) _).bind (m:=0) (n:=0) (fun _ r _ al=>(zL al _).mono I7) I7) I7) I7) (un_unit (((PR.ok () j.tail).bind fun _ r=>zN [93] r).bind fun _ r=>zN [59] r) ▸ s.out.2) bb.out aO aP (by simp at ah ⊢;omega) aK);go_roundw
        case rel=>exact G.out.1
        case measure=>
         exact OL
       .have aD:=hid ak
        have bb:=hid (show T=((((PR.bad j:PR Unit).bind fun _ r=>zN [93] r).bind fun _ r=>zN [59] r)).un.bind fun _ r=>pPr q ⟨ars++[⟨J,-1⟩],([]:List FuV).map (·.f)⟩ r by
         rw[bt.out];unfold pArr want;rw[if_neg ak]
         rfl)
        clear ak
        go_wp2_with (first
        | (go_at_call 56;(with_reducible refine(zi d.out.cur.st _ aG.out).mono ?_);rintro e ax ⟨rfl,i⟩
           replace d:=hid (show PgAt b _ all w (.ok () j) ax _ _ _ _ by rw[a9.out];exact d.out.step i)
           clear i)
        | (go_at_call 55;(with_reducible refine(text_nil d.out.cur.st 0 aD.out).mono ?_);rintro e C ⟨rfl,i⟩
           replace d:=hid (show PgAt b _ all w (.bad j) C _ _ _ _ from d.out.step i)
           clear i)
        | (go_at_call 57;(with_reducible refine(rvalue_nil _).mono ?_);rintro e C ⟨rfl,rfl⟩)
        | (go_at_call 58;(with_reducible refine(zY d.out.cur.st ⟨#[93]⟩).mono ?_);rintro e af ⟨rfl,i⟩
           replace d:=hid (show PgAt b _ all w ((PR.bad j:PR Unit).bind fun _ r=>zN [93] r) af _ _ _ _ from d.out.step i)
           clear i)
        | (go_at_call 58;(with_reducible refine(zY d.out.cur.st ⟨#[59]⟩).mono ?_);rintro e w8 ⟨rfl,i⟩
           replace d:=hid (show PgAt b _ all w (((PR.bad j:PR Unit).bind fun _ r=>zN [93] r).bind fun _ r=>zN [59] r) w8 _ _ _ _ from d.out.step i);obtain⟨⟨aq,ar⟩,au⟩:=d.out.cur.f;obtain⟨ai,aj,rfl⟩:=d.out.arr.form;have o:=hid (d.out.arr.pre [.string J,.int .i64 (-1)] (by have:=d.out.cur.size;omega))
           clear i)
        | (at_builtin;refine jC rfl (.tmp 48) (.tmp 52) _ rfl (w.heap.size+2) 80 bO _ 2 24 Tryz.underlying24 ag.out.1 ag.out.2.1 ag.out.2.2.1 ag.out.2.2.2 rfl I7 (.slice ai ars.length aj) ars.length _ rfl (by exact o.out.1) ⟨w8.heap.size,0,none⟩ 1 1 [.string J,.int .i64 (-1)] rfl rfl (by exact o.out.2.1) Ig If I7 (by exact o.out.2.2) I7 ?_
           intro a8 w9 A H I;obtain⟨E,F,rfl⟩:=zU A;have s:=hid (d.out.array (a:=⟨J,-1⟩) H I A);have bU:=s.out.1.f.2;have b1:=s.out.1.f.1.1
           clear A H I))
        have G:=hid (pg_rel (q:=q) (n:=n) (X:=((PR.bad j:PR Unit).bind fun _ r=>zN [93] r).bind fun _ r=>zN [59] r) I7 (show zH 0 r j from bs.out.mono I7) (un_unit (((PR.bad j:PR Unit).bind fun _ r=>zN [93] r).bind fun _ r=>zN [59] r) ▸ s.out.2) bb.out aO aP (by simp at ah ⊢;omega) aK);go_roundw
        case rel=>exact G.out.1
        case measure=>
         exact OL
      .have be:=aR.out.trans (pgK_fn (q:=q) (p:=⟨ars,fs.map (·.f)⟩) (a:=⟨J,aw⟩) (z:=(qg r).un) (fun ab=>an ⟨ab.1,by simpa using ab.2.1,ab.2.2⟩))
       have aF:=hid be;have aa:=hid (show zG ((qg r).un.bind fun _ r=>pFn q aw J r)by have D:=bu.out;rw[be]at D;exact zu D);clear be;obtain⟨⟨aq,ar⟩,au⟩:=d.out.cur.f;by_cases D:aw=1
       .subst D
        cases fs with
        | nil=>
          have bl:vf=.slice none 0 0:=d.out.nil rfl;subst bl;obtain⟨fs,ao⟩:∃fs:List FuV,fs=[]:=⟨_,rfl⟩
          rw[<-ao]at d aF ah aY;clear ao
          have aG:=hid (show zS (⟨#[91]⟩:ByteArray).data.toList (qg r).un=false by
           cases ab:zS [91] (qg r).un with
           | true=>exact absurd ⟨rfl,rfl,ab⟩ an
           | false=>rfl)
          clear an
          go_wp2_with (first
           | (go_at_call 56;(with_reducible refine(zD d.out.cur.st _ aG.out).mono ?_);rintro e ax ⟨rfl,i⟩
              replace d:=hid (d.out.step i);obtain⟨⟨aq,ar⟩,au⟩:=d.out.cur.f
              clear i))
          have aE:=hid d.out.fnc.own
          go_region_law (first
           | (refine qo rfl (.tmp 56) (.tmp 61) _ rfl (w.heap.size+2) 93 bm _ 4 72 Tryz.underlying25 K.out.1 K.out.2.1 K.out.2.2.1 K.out.2.2.2 rfl I7 (.slice none 0 0) fs.length _ rfl (by exact o.out.1) ⟨C.heap.size,0,none⟩ 1 1 [.string U,.int .i64 W,.slice M P R,.slice N Q S] rfl rfl (by exact o.out.2.1) Ig If I7 (by exact o.out.2.2) I7 ?_
              intro a8 af A H I;obtain⟨bn,bv,rfl⟩:=zU A;have s:=hid (l.out.func (L:=ax.heap.size) H I A aB.out fun k Z=>(aE.out k Z).1);have aM:af.cell? ⟨w.heap.size+1,1,none⟩=some (.slice none 0 0):=s.out.1.f.1.2;have bx:=s.out.1.f.2
              clear A H I)
           | (go_simp;go_at_call 59;(refine(pfn_any d.out.drew.cur.st aa.out).mono ?_);rintro e C ⟨v,rfl,i,B⟩
              obtain⟨U,W,M,P,R,N,Q,S,rfl⟩:=gotf_form B aa.out;have az:=hid B;have l:=hid (d.out.drew.step i);have aB:=hid (show w.heap.size+2<=ax.heap.size from d.out.cur.size);have aM:C.cell? ⟨w.heap.size+1,1,none⟩=some (.slice none 0 0):=l.out.cur.f.1.2;have bF:(C.alloc (.cells #[.string U,.int .i64 W,.slice M P R,.slice N Q S] 93)).cell? ⟨w.heap.size+1,1,none⟩=some (.slice none 0 0):=(l.out.cur.alloc _).f.1.2;have bw:=l.out.cur.f.2;have o:=hid (l.out.fnc.pre [.string U,.int .i64 W,.slice M P R,.slice N Q S] (by have:=l.out.cur.size;omega))
              clear i B))
          all_goals
           go_wp2;have aA:=hid (got_pick az.out aa.out)
           have G:=hid (show PgRel b _ all w T n _/\2*(all.length-xx b _)+yx b _<2*r.length+1 by
            obtain⟨f,aL,hF⟩:=aA.out;obtain⟨bP,aN,aJ⟩:=s.out.2 f aL;refine pg_rel (q:=q) (X:=(qg r).un.bind fun _ r=>pFn q 1 J r) I7 ?_ aJ ?_ aO aP (by simp at ah ⊢;omega) aK
            .exact(un_fits (xt aQ.out)).bind (m:=0) (fun _ r _ al=>(uk al).mono I7) I7
            .rw[aF.out,hF,List.map_append,<-aN]
             rfl)
           go_roundw
           case rel=>exact G.out.1
           case measure=>
            exact OL
        | cons aI ft=>
          obtain⟨fs,ao⟩:∃fs,fs=aI::ft:=⟨_,rfl⟩
          have ca:0<fs.length:=by rw[ao];simp
          rw[<-ao]at d aF ah aY;have cb:((fs.length:Int) == 0)=false:=by rw[beq_eq_false_iff_ne];omega
          obtain⟨E,F,rfl⟩:=d.out.fnc.form;clear an ao;go_wp2_with (fail);have aE:=hid d.out.fnc.own
          go_region_law (first
           | (refine qo rfl (.tmp 56) (.tmp 61) _ rfl (w.heap.size+2) 93 bm _ 4 72 Tryz.underlying25 K.out.1 K.out.2.1 K.out.2.2.1 K.out.2.2.2 rfl I7 (.slice E fs.length F) fs.length _ rfl (by exact o.out.1) ⟨C.heap.size,0,none⟩ 1 1 [.string U,.int .i64 W,.slice M P R,.slice N Q S] rfl rfl (by exact o.out.2.1) Ig If I7 (by exact o.out.2.2) I7 ?_
              intro a8 af A H I;obtain⟨bn,bv,rfl⟩:=zU A;have s:=hid (l.out.func (L:=w4.heap.size) H I A aB.out fun k Z=>(aE.out k Z).1);have aM:af.cell? ⟨w.heap.size+1,1,none⟩=some (.slice E fs.length F):=s.out.1.f.1.2;have bx:=s.out.1.f.2
              clear A H I)
           | (go_simp;go_at_call 59;(refine(pfn_any d.out.drew.cur.st aa.out).mono ?_);rintro e C ⟨v,rfl,i,B⟩
              obtain⟨U,W,M,P,R,N,Q,S,rfl⟩:=gotf_form B aa.out;have az:=hid B;have l:=hid (d.out.drew.step i);have aB:=hid (show w.heap.size+2<=w4.heap.size from d.out.cur.size);have aM:C.cell? ⟨w.heap.size+1,1,none⟩=some (.slice E fs.length F):=l.out.cur.f.1.2;have bF:(C.alloc (.cells #[.string U,.int .i64 W,.slice M P R,.slice N Q S] 93)).cell? ⟨w.heap.size+1,1,none⟩=some (.slice E fs.length F):=(l.out.cur.alloc _).f.1.2;have bw:=l.out.cur.f.2;have o:=hid (l.out.fnc.pre [.string U,.int .i64 W,.slice M P R,.slice N Q S] (by have:=l.out.cur.size;omega))
              clear i B))
          all_goals
           go_wp2;have aA:=hid (got_pick az.out aa.out)
           have G:=hid (show PgRel b _ all w T n _/\2*(all.length-xx b _)+yx b _<2*r.length+1 by
            obtain⟨f,aL,hF⟩:=aA.out;obtain⟨bP,aN,aJ⟩:=s.out.2 f aL;refine pg_rel (q:=q) (X:=(qg r).un.bind fun _ r=>pFn q 1 J r) I7 ?_ aJ ?_ aO aP (by simp at ah ⊢;omega) aK
            .exact(un_fits (xt aQ.out)).bind (m:=0) (fun _ r _ al=>(uk al).mono I7) I7
            .rw[aF.out,hF,List.map_append,<-aN]
             rfl)
           go_roundw
           case rel=>exact G.out.1
           case measure=>
            exact OL
       .have b7:(aw == 1)=false:=by simpa using D
        obtain⟨E,F,rfl⟩:=d.out.fnc.form;clear an D;go_wp2_with (fail);have aE:=hid d.out.fnc.own
        go_region_law (first
         | (refine qo rfl (.tmp 56) (.tmp 61) _ rfl (w.heap.size+2) 93 bm _ 4 72 Tryz.underlying25 K.out.1 K.out.2.1 K.out.2.2.1 K.out.2.2.2 rfl I7 (.slice E fs.length F) fs.length _ rfl (by exact o.out.1) ⟨C.heap.size,0,none⟩ 1 1 [.string U,.int .i64 W,.slice M P R,.slice N Q S] rfl rfl (by exact o.out.2.1) Ig If I7 (by exact o.out.2.2) I7 ?_
            intro a8 af A H I;obtain⟨bn,bv,rfl⟩:=zU A;have s:=hid (l.out.func (L:=w4.heap.size) H I A aB.out fun k Z=>(aE.out k Z).1);have aM:af.cell? ⟨w.heap.size+1,1,none⟩=some (.slice E fs.length F):=s.out.1.f.1.2;have bx:=s.out.1.f.2
            clear A H I)
         | (go_simp;go_at_call 59;(refine(pfn_any d.out.drew.cur.st aa.out).mono ?_);rintro e C ⟨v,rfl,i,B⟩
            obtain⟨U,W,M,P,R,N,Q,S,rfl⟩:=gotf_form B aa.out;have az:=hid B;have l:=hid (d.out.drew.step i);have aB:=hid (show w.heap.size+2<=w4.heap.size from d.out.cur.size);have aM:C.cell? ⟨w.heap.size+1,1,none⟩=some (.slice E fs.length F):=l.out.cur.f.1.2;have bF:(C.alloc (.cells #[.string U,.int .i64 W,.slice M P R,.slice N Q S] 93)).cell? ⟨w.heap.size+1,1,none⟩=some (.slice E fs.length F):=(l.out.cur.alloc _).f.1.2;have bw:=l.out.cur.f.2;have o:=hid (l.out.fnc.pre [.string U,.int .i64 W,.slice M P R,.slice N Q S] (by have:=l.out.cur.size;omega))
            clear i B))
        all_goals
         go_wp2;have aA:=hid (got_pick az.out aa.out)
         have G:=hid (show PgRel b _ all w T n _/\2*(all.length-xx b _)+yx b _<2*r.length+1 by
          obtain⟨f,aL,hF⟩:=aA.out;obtain⟨bP,aN,aJ⟩:=s.out.2 f aL;refine pg_rel (q:=q) (X:=(qg r).un.bind fun _ r=>pFn q aw J r) I7 ?_ aJ ?_ aO aP (by simp at ah ⊢;omega) aK
          .exact(un_fits (xt aQ.out)).bind (m:=0) (fun _ r _ al=>(uk al).mono I7) I7
          .rw[aF.out,hF,List.map_append,<-aN]
           rfl)
         go_roundw
         case rel=>exact G.out.1
         case measure=>
          exact OL
theorem spanN_take(l:List UInt8):l.takeWhile qO=l.take (kU l):=List.prefix_iff_eq_take.1 (List.takeWhile_prefix _)
theorem one_span{l:List UInt8}(h:0<kU l):one l=(xg (l.take (kU l))).map fun k=>(k,l.take (kU l)):=by
 unfold one
 rw[if_pos (by intro e;have:kU l=0:=by unfold kU;rw[e];rfl
               omega),spanN_take]
theorem one_sign{l:List UInt8}(h:kU l=0):one l=if xM l≠[]then some (2,xM l)else none:=by
 unfold one;rw[if_neg (by rw[spanN_take,h];simp)]
theorem signL_prefix(l:List UInt8):l.take (xM l).length=xM l:=by
 have h:(xM l).isPrefixOf l=true:=by
  unfold xM;cases hf:uZ.find? (fun t=>Lib.hasPrefix l t)with
  | none=>simp
  | some t=>exact List.find?_some (p:=fun t=>Lib.hasPrefix l t) hf
 exact(List.prefix_iff_eq_take.1 (List.isPrefixOf_iff_prefix.1 h)).symm
theorem signL_le(l:List UInt8):(xM l).length<=l.length:=by
 have:=congrArg List.length (signL_prefix l);rw[List.length_take]at this;omega
theorem vF.below{w w':World}{B:Nat}{v:Value}{ts:List Tok}(a:vF w B v ts)(b:Below w.heap.size w w'):vF w' B v ts:=qR a b Zr
theorem one_take{l:List UInt8}{k:Int}{t:List UInt8}(a:one l=some (k,t)):l.take t.length=t/\0<t.length/\t.length<=l.length:=by
 by_cases d:0<kU l
 .rw[one_span d]at a
  obtain⟨g,_,e⟩:=Option.map_eq_some_iff.1 a;injection e with c b;subst b;have:=spanN_le l;rw[List.length_take];exact⟨by rw[Nat.min_eq_left this],I7,I7⟩
 .rw[one_sign I7]at a
  split at a
  .rename_i f
   injection a with a;injection a with c b;subst b;exact⟨signL_prefix l,List.length_pos_iff.2 f,signL_le l⟩
  .cases a
def ko(w:World)(l:List UInt8)(e:Ending)(w':World):Prop:=
 Below w.heap.size w w'/\match (zn l 1).2 with
  | none=>∃v,e=.returned (.tuple #[v,.int .i64 0,.int .i64 0])/\vF w' w.heap.size v (zn l 1).1
  | some a=>e=.returned (.tuple #[.slice none 0 0,.int .i64 20,.int .i64 (a:Int)])
theorem vF.nil(w:World)(B:Nat):vF w B (.slice none 0 0) []:=⟨rfl,.inl ⟨rfl,rfl⟩⟩
theorem scan_one{l:List UInt8}{a:Nat}{k:Int}{t:List UInt8}(f:gapN l=0)(b:one l=some (k,t)):
 zn l a=(⟨k,t,a⟩::(zn (l.drop t.length) a).1,(zn (l.drop t.length) a).2):=by
 obtain⟨_,i,d⟩:=one_take b;cases l with
 | nil=>rw[List.length_nil]at d;omega
 | cons c r=>
   rw[scan_step f,b]
   have e:(c::r).drop t.length=r.drop (t.length-1):=by
    obtain⟨m,g⟩:∃m,t.length=m+1:=⟨t.length-1,I7⟩
    rw[g,List.drop_succ_cons];rfl
   rw[e]
theorem scan_bad{l:List UInt8}{a:Nat}(d:gapN l=0)(e:l≠[])(b:one l=none):zn l a=([],some a):=by
 cases l with
 | nil=>exact absurd rfl e
 | cons c r=>rw[scan_step d,b]
theorem scan_end(a:Nat):zn [] a=([⟨3,[],a⟩],none):=by rw[zn]
def yW:List (List UInt8):=[[60,60],[62,62],[60,61],[62,61],[61,61],[33,61],[38,38],[124,124]]
def jc:List (List UInt8):=[62,62,62]::(yW++signs1)
def rCells:Array Value:=(jc.map fun t=>Value.string ⟨t.toArray⟩).toArray
theorem rCells_at(k:Nat)(b:k<30):∃t,jc[k]? =some t/\rCells[k]? =some (.string ⟨t.toArray⟩):=by
 have a:k<jc.length:=by simpa[jc,yW,signs1]using b
 refine⟨jc[k],List.getElem?_eq_getElem a,?_⟩;unfold rCells;rw[List.getElem?_toArray,List.getElem?_map,List.getElem?_eq_getElem a];rfl
theorem find_perm{α:Type}(p:α->Bool)(a d:List α)(c:∀u,u∈a↔u∈d)(f:∀u v,u∈a->v∈a->p u=true->p v=true->u=v):a.find? p=d.find? p:=by
 cases hx:a.find? p with
 | none=>
   rw[List.find?_eq_none]at hx;exact(List.find?_eq_none.2 fun u b=>hx u ((c u).2 b)).symm
 | some u=>
   have e:=List.find?_some hx;have b:=List.mem_of_find?_eq_some hx;cases hy:d.find? p with
   | none=>exact absurd e (List.find?_eq_none.1 hy u ((c u).1 b))
   | some v=>rw[f u v b ((c v).2 (List.mem_of_find?_eq_some hy)) e (List.find?_some hy)]
theorem refSigns_find(l:List UInt8):jc.find? (fun t=>Lib.hasPrefix l t)=uZ.find? (fun t=>Lib.hasPrefix l t):=by
 have a:yW.find? (fun t=>Lib.hasPrefix l t)=signs2.find? (fun t=>Lib.hasPrefix l t):=by
  refine find_perm _ _ _ (fun u=>(show yW.Perm signs2 by decide).mem_iff) (fun u v f g e a=>?_);have d:∀x,x∈yW->x.length=2:=I8
  have b:=List.prefix_iff_eq_take.1 (List.isPrefixOf_iff_prefix.1 e);have c:=List.prefix_iff_eq_take.1 (List.isPrefixOf_iff_prefix.1 a);rw[d u f]at b;rw[d v g]at c;rw[b,c]
 unfold jc uZ;rw[List.find?_cons,List.find?_cons,List.find?_append,List.find?_append,a]
theorem refSigns_at(l:List UInt8)(k:Nat)(t:List UInt8)(a:jc[k]? =some t)(c:Lib.hasPrefix l t=true)(b:∀(j:Nat) u,j<k->jc[j]? =some u->Lib.hasPrefix l u=false):xM l=t:=by
 unfold xM;rw[<-refSigns_find,find_first (fun t=>Lib.hasPrefix l t) _ k t a c b];rfl
theorem refSigns_none(l:List UInt8)(a:∀(j:Nat) u,jc[j]? =some u->Lib.hasPrefix l u=false):xM l=[]:=by
 unfold xM;rw[<-refSigns_find,find_never (fun t=>Lib.hasPrefix l t) _ a];rfl
theorem prefix_test(s a:ByteArray)(t:List UInt8)(e:(⟨t.toArray⟩:ByteArray)=a)(c:a.size<=s.size):((s.extract 0 a.size).toList == a.toList)=Lib.hasPrefix s.data.toList t:=by
 subst e;have d:(⟨t.toArray⟩:ByteArray).toList=t:=by rw[Lib.toList_data]
 have b:(⟨t.toArray⟩:ByteArray).size=t.length:=rfl;rw[b]at c;rw[<-Lib.hasPrefix_of_take,Lib.extract_toList,d,b,decide_eq_true (by rw[<-Lib.size_eq];exact c),Bool.true_and];rfl
theorem prefix_test_no(s b:ByteArray)(t:List UInt8)(d:(⟨t.toArray⟩:ByteArray)=b)(a:¬b.size<=s.size):Lib.hasPrefix s.data.toList t=false:=by
 subst d;have c:(⟨t.toArray⟩:ByteArray).size=t.length:=rfl;rw[c]at a;rw[<-Lib.hasPrefix_of_take,decide_eq_false (by rw[<-Lib.size_eq];exact a),Bool.false_and]
theorem tsign_any(s:ByteArray)(w:World):
 Calls Tryz.prog 52 #[.string s] w fun e w'=>e=.returned (.string ⟨(xM s.data.toList).toArray⟩)/\Below w.heap.size w w':=by
 go_enter Tryz.func52,Tryz.ntmps52;go_wp2
 go_loopw [4] (fun i wr=>∃k:Nat,k<=30/\i=.int .i64 k/\(∀(j:Nat) u,j<k->jc[j]? =some u->Lib.hasPrefix s.data.toList u=false)/\Is wr w.heap.size 9 rCells/\Below w.heap.size w wr) (fun i _=>30-(intOf i).toNat)
 case atStart=>exact⟨0,I7,rfl,fun j u x=>absurd x I7,heap_alloc_new w _,Zb.alloc Zr _⟩
 case round=>
  obtain⟨k,C,rfl,v,r,d⟩:=hrel;have g:=hid v;have l:=hid r;clear v r;by_cases z:k<30
  .obtain⟨t,y,n⟩:=rCells_at k z
   obtain⟨tb,o⟩:∃tb:ByteArray,(⟨t.toArray⟩:ByteArray)=tb:=⟨_,rfl⟩
   rw[o]at n;have B:wr.cell? ⟨w.heap.size,k,none⟩=some (.string tb):=(l.out.cell k).trans n;have p:=hid y;have c:=hid o;clear y n o
   have q:Hid (Lib.hasPrefix s.data.toList t=false->∀(j:Nat) u,j<k+1->jc[j]? =some u->Lib.hasPrefix s.data.toList u=false):=by
    intro A j u x b;by_cases e:j=k
    .subst e
     have:=p.out.symm.trans b;injection this with this;exact this ▸ A
    .exact g.out j u I7 b
   by_cases f:tb.size<=s.size
   .go_wp2
    go_quiet (fail)
    go_wp2
    .have a:((s.extract 0 tb.size).toList == tb.toList)=true:=by assumption
     rw[prefix_test s tb t c.out f]at a;go_ret;rw[refSigns_at _ k t p.out a g.out,c.out];exact⟨rfl,xk d _⟩
    .have a:((s.extract 0 tb.size).toList == tb.toList)=false:=by assumption
     rw[prefix_test s tb t c.out f]at a;have m:=hid (q.out a);clear a;go_roundw
     case rel=>exact⟨k+1,I7,by go_num,m.out,l.out,xk d _⟩
     case measure=>simp[intOf];omega
   .have D:decide (tb.size<=s.size)=false:=by simpa using f
    have m:=hid (q.out (prefix_test_no s tb t c.out f));go_wp2
    go_quiet (fail)
    go_wp2;go_roundw
    case rel=>exact⟨k+1,I7,by go_num,m.out,l.out,xk d _⟩
    case measure=>simp[intOf];omega
  .have e:k=30:=by omega
   subst e;go_wp2;go_ret;rw[refSigns_none _ (fun j u b=>g.out j u (by have:=(List.getElem?_eq_some_iff.1 b).1;simpa[jc,yW,signs1]using this) b)];exact⟨rfl,d⟩
theorem rsign_is(s t:ByteArray)(h:(⟨(xM s.data.toList).toArray⟩:ByteArray)=t)(w:World):
 Calls Tryz.prog 52 #[.string s] w fun e w'=>e=.returned (.string t)/\Below w.heap.size w w':=h ▸ tsign_any s w
end Go.Proofs.YthcmenajdcbnnaaGreatDoor
