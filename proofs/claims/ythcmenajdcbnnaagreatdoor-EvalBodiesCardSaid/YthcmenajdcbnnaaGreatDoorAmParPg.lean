import Derived.Test.YthcmenajdcbnnaaGreatDoorAmEvCk
set_option linter.unusedSimpArgs false
set_option linter.unusedVariables false
set_option maxRecDepth 100000
set_option maxHeartbeats 99000000
namespace Go.Proofs.YthcmenajdcbnnaaGreatDoor
open Go.RowKit Tryz
theorem Qu{p:Prop}(h:p:=by
 replace d:=U (d.o.drewN nq);clear aW aX aY aZ a9 ba bb;obtain⟨⟨av,aw⟩,ax⟩:=d.o.cur.f;obtain⟨⟨b7,b8⟩,b9⟩:=d.o.cur.own;obtain⟨al,am,rfl⟩:=d.o.arr.form;obtain⟨F,G,rfl⟩:=d.o.fnc.form;go_wp2_with fail;obtain⟨aM,f1⟩:=d.o.cur.read;refine bodyPost_ret (v:=.agg #[(al,ars.length,am),(F,fs.length,G)]) (by simp[results,results27,go_sem,aM,f1]) rfl ?_
 exact UV d.o a2 bf.o):p:=h
theorem Qv{p:Prop}(h:p:=by
 have E:=H.o.2;have Q:=aC.o;have ag:=aG.o;simp only[Q,ag]at *
 omega):p:=h
theorem Qw{p:Prop}(h:p:=by
 have g:=jX e;have i:=(show zJ 0 r c from hF).2.2;have j:=zAa d rfl
 exact⟨O,fun f=>by cases f⟩):p:=h
theorem Qx{p:Prop}(h:p:=by
 go_roundw
 case rel=>exact⟨k+1,O,by go_num,p.o,n.o,yX g _⟩
 case measure=>simp[intOf];omega):p:=h
variable{b g q B n B':Nat}{V v:C4}{r:List fH}{w W w':C3}{p:Pr}{l:List UInt8}
theorem J2(w:C3):Cy 57 #[.string ⟨#[]⟩] w (Cw (-1:Int) w):=by
 go_enter func57,ntmps57;go_wp2
 go_loop [3,4,5] (fun n i _=>i=.int .i64 0/\n=.int .i64 0) (fun _ i _=>0)
 case atStart=>exact⟨rfl,rfl⟩
 case round=>
  obtain⟨rfl,rfl⟩:=hrel;go_wp2;go_ret;exact⟨rfl,rfl⟩
theorem UU{tj:List fH}(d:jk b V tj (.ok () r) w)(k:Int)(i:gV r≠k):
 Cy 55 #[(b,0),(k:Int)] w fun e w'=>e=.returned (.string ⟨#[]⟩)/\jJ b V tj w (.bad r) w':=by
 have a:zc b V tj r false false w:=d;clear d;have f:=fun o=>z0 a o
 have v:=a.lt;have f1:=a.1.frozen 1;have s:=a.1.frozen 2;have j:=C0 (jk b V tj (.ok () r) w) a;obtain⟨g,c,p,t,q,rfl,rfl,m,_,_,c0,c1,_,_,_,_,_⟩:=a.tok;have u:(p:Int)<tj.length:=O
 have x:0<w.heap.size:=O
 have l:=U f;have n:(t.kind != k)=true:=by simpa[gV]using i
 clear a m f i;go_enter func55,ntmps55;go_wp2_with (go_at_call 53;(with_reducible refine(qL j.o false rfl).mono ?_);rintro e _ ⟨rfl,rfl⟩)
 go_region_held3 (fun w'=>w'.cell? (b,0)=some (.slice (some ⟨g,0,none⟩) tj.length c)/\w'.cell? (b,1)=some (.int .i64 p)/\w'.cell? (g,p*3)=some (.int .i64 t.kind)/\w'.cell? (g,p*3+1)=some (.string ⟨t.text.toArray⟩)/\w'.cell? (g,p*3+2)=some (.int .i64 (t.line:Int))/\0<w'.heap.size)
  (first|go_keep|(go_split_ands;refine⟨?_,?_,?_,?_,?_,?_⟩ <;> assumption))
  (fail)
 go_wp2_with fail;go_ret;exact⟨rfl,l.o _⟩
abbrev uA:Obj:=.cells #[(),()] 27
abbrev g0(W:C3)(g:Nat)(c0 c1:C4):C3:=(W.setCell (g,0) c0).setCell (g,1) c1
theorem BW{a b:C4}{T:TypeId}{fr:Nat×Nat}(c:W.heap[g]?=some (.cells #[a,b] T fr))(c0 c1:C4):(g0 W g c0 c1).heap[g]?=some (.cells #[c0,c1] T fr):=D3 (D3 c c0) c1
theorem zM.dj{L:Nat}(a:g<L)(c0 c1:C4):zM L w (g0 w g c0 c1):=(zM.set a 0 c0).trans (zM.set a 1 c1)
theorem yQ{c0 c1:C4}{T:TypeId}(h:W.heap[g]?=some (.cells #[c0,c1] T (0,0))):(W.cell? (g,0)=some c0/\W.cell? (g,1)=some c1)/\∀o,W.frozen? ⟨g,o,none⟩=false:=by
 refine⟨⟨(Du h 0).trans rfl,(Du h 1).trans rfl⟩,fun o=>?_⟩;simp[World.frozen?,h]
def HN(L:Nat)(w:C3)(a:Pr)(v:C4):Prop:=∃b c,v=.agg #[b,c]/\gM w.heap.size (fW (nO L) w) b a.wa/\gN w.heap.size (fW (nO L) w) c a.funcs
def f9(b:Nat)(V:C4)(tj:List fH)(w:C3)(x:PR Unit)(W:C3)(c0 c1:C4):Prop:=
 jJ b V tj w x W/\W.heap[w.heap.size]?=some uA/\W.heap[w.heap.size+1]?=some (.cells #[c0,c1] 27 (0,0))/\k3 b V tj w/\b<w.heap.size
section
variable {b:Nat}{V:C4}{tj:List fH} {w W W':C3}{x y:PR Unit}{c0 c1:C4}
theorem f9.start(a:jk b V tj x w):f9 b V tj w x ((w.alloc uA).alloc uA) (.slice none 0 0) (.slice none 0 0):=by
 have c:Cx w ((w.alloc uA).alloc uA):=(Zb.alloc Zr _).alloc Uj _;refine⟨⟨a.below c,fI.wb c a.lt⟩,zu (Ds w uA) _,?_,a.tok,a.lt⟩;have:=Ds (w.alloc uA) uA;rw[zA]at this;exact this
theorem f9.did(h:f9 b V tj w x W c0 c1):jJ b V tj w x W:=h.1
theorem f9.st(h:f9 b V tj w x W c0 c1):jk b V tj x W:=h.1.1
theorem f9.lt(h:f9 b V tj w x W c0 c1):b<w.heap.size:=h.2.2.2.2
theorem f9.size(h:f9 b V tj w x W c0 c1):w.heap.size+1<W.heap.size:=(Array.getElem?_eq_some_iff.1 h.2.2.1).1
theorem f9.step(h:f9 b V tj w x W c0 c1)(g:jJ b V tj W y W'):f9 b V tj w y W' c0 c1:=
 ⟨h.1.after g,jH g.off (by have:=h.size;omega) Va h.2.1,jH g.off h.size Va h.2.2.1,h.2.2.2⟩
theorem f9.alloc(h:f9 b V tj w x W c0 c1)(o:Obj):f9 b V tj w x (W.alloc o) c0 c1:=⟨h.1.alloc o,zu h.2.1 o,zu h.2.2.1 o,h.2.2.2⟩
theorem f9.own(h:f9 b V tj w x W c0 c1):(W.cell? (w.heap.size,0)=some (.slice none 0 0)/\W.cell? (w.heap.size,1)=some (.slice none 0 0))/\∀o,W.frozen? ⟨w.heap.size,o,none⟩=false:=yQ h.2.1
theorem f9.f(h:f9 b V tj w x W c0 c1):(W.cell? (w.heap.size+1,0)=some c0/\W.cell? (w.heap.size+1,1)=some c1)/\∀o,W.frozen? ⟨w.heap.size+1,o,none⟩=false:=yQ h.2.2.1
theorem f9.set(h:f9 b V tj w x W c0 c1)(i:Nat)(u:C4):jJ b V tj w x (W.setCell (w.heap.size+1,i) u)/\(W.setCell (w.heap.size+1,i) u).heap[w.heap.size]?=some uA:=
 ⟨h.1.set h.2.2.2.1 O Va i u,(Dw W _ u _ Ha).trans h.2.1⟩
theorem f9.set0(h:f9 b V tj w x W c0 c1)(u:C4):f9 b V tj w x (W.setCell (w.heap.size+1,0) u) u c1:=⟨(h.set 0 u).1,(h.set 0 u).2,D3 h.2.2.1 u,h.2.2.2⟩
theorem f9.ww(h:f9 b V tj w x W c0 c1)(u:C4):f9 b V tj w x (W.setCell (w.heap.size+1,1) u) c0 u:=⟨(h.set 1 u).1,(h.set 1 u).2,D3 h.2.2.1 u,h.2.2.2⟩
theorem f9.fin(c:f9 b V tj w y W c0 c1){X:PR Pr}(e:X.un=y)(d:j9 X fun a=>HN w.heap.size (_root_.Go.Proofs.YthcmenajdcbnnaaGreatDoor.g0 W w.heap.size c0 c1) a (.agg #[c0,c1])):
 qk b V tj w X (HN w.heap.size) (.returned (.agg #[c0,c1])) (_root_.Go.Proofs.YthcmenajdcbnnaaGreatDoor.g0 W w.heap.size c0 c1):=
 ⟨_,rfl,e▸(c.1.set c.2.2.2.1 Zr Jv 0 c0).set c.2.2.2.1 Zr Jv 1 c1,d⟩
theorem f9.read(h:f9 b V tj w x W c0 c1):((W.setCell (w.heap.size,0) c0).setCell (w.heap.size,1) c1).cell? (w.heap.size,0)=some c0/\((W.setCell (w.heap.size,0) c0).setCell (w.heap.size,1) c1).cell? (w.heap.size,1)=some c1:=(yQ (BW h.2.1 c0 c1)).1
end
theorem zaw{α β:Type}{x:PR α}{b:α}(c:j9 x fun a=>a=b)(F:α->List fH->PR β):x.bind F=x.un.bind fun _ r=>F b r:=by
 cases x with
 |ok a r=>
   obtain rfl:a=b:=c;rfl
 |_=>rfl
def pgK(q:Nat)(p:Pr)(a:Pa)(r:List fH):PR Pr:=
 if a.type=1/\p.funcs=[]/\zq [91] r=true then(pZ a.name r.tail).bind fun x r=>k2 q ⟨p.wa++[x],p.funcs⟩ r
 else(o6 q a.type a.name r).bind fun f r=>k2 q ⟨p.wa,p.funcs++[f]⟩ r
theorem YR(h:gV r≠3):k2 (q+1) p r=(jN r).bind fun a r=>pgK q p a r:=by
 rw[k2,Dp h];unfold jN;simp only[zb];rfl
theorem YS(h:gV r=3):k2 (q+1) p r=.ok p r:=by rw[k2,Dq h]
theorem PJ{e t:TypeId}{m k l:Nat}{b:C4}{p q:List C4}(f:w.ownsRow B e n v k p)(g:w.ownsRow B t m b l q)(o:e≠t):∀j,v.ownBlock=some j->b.ownBlock≠some j:=by
 intro j a;rcases f.2 with⟨rfl,_⟩|⟨d,_,c,rfl,_,i,_⟩
 .cases a
 .injection a with a
  subst a;exact uE g (show Is w d e c from i) (fun e=>o e.symm)
structure gF (b:Nat) (V:C4) (all:List fH) (w:C3) (y:PR Unit) (W:C3) (va vf:C4) (ars:List Ar) (fs:List KX):Prop where
 cur:f9 b V all w y W va vf
 arr:f4 kA (w.heap.size+2) W va ars
 fnc:f4 kF (w.heap.size+2) W vf fs
 nil:fs=[]->vf=.slice none 0 0
section
variable {b:Nat}{V:C4}{tj:List fH} {w W W':C3}{x y:PR Unit}{va vf:C4}{ars:List Ar}{fs:List KX}
theorem gF.step(h:gF b V tj w x W va vf ars fs)(g:jJ b V tj W y W'):gF b V tj w y W' va vf ars fs:=
 ⟨h.cur.step g,h.arr.keep (zM.did g (by have:=h.cur.lt;omega)),h.fnc.keep (zM.did g (by have:=h.cur.lt;omega)),h.nil⟩
theorem gF.drewN(h:gF b V tj w x W va vf ars fs)(n:Nat):gF b V tj w x (W.drewN n) va vf ars fs:=h.step ⟨h.cur.st.drewN n,(fI.refl b _ W).drewN n⟩
theorem gF.drew(h:gF b V tj w x W va vf ars fs):gF b V tj w x W.drew va vf ars fs:=h.step ⟨h.cur.st.below Zb.drew,fI.wb Zb.drew h.cur.st.lt⟩
theorem gF.array{d:C3}{g:C4}{a:Ar}(i:gF b V tj w y W va vf ars [])(l:(W.alloc (.cells #[a.name,(a.size:Int)] 80)).grownBy d va.ownBlock)(u:kj (W.alloc (.cells #[a.name,(a.size:Int)] 80)) va g)
 (s:d.ownsRow (w.heap.size+2) 80 2 g (ars.length+1) (ars.flatMap kA.cs++[.string a.name,.int .i64 a.size])):f9 b V tj w y d va vf/\gF b V tj w y (d.setCell (w.heap.size+1,0) g) g vf (ars++[a]) []:=by
 have c:=i.cur;have f:Cx W (W.alloc (.cells #[a.name,(a.size:Int)] 80)):=Zb.alloc Zr _;have q:f4 kA (w.heap.size+2) d g (ars++[a]):=i.arr.app (L:=W.heap.size) trivial (by have:=c.size;omega) (fun k r=>(i.arr.own k r).1) f l u s;have t:∀j,va.ownBlock=some j->w.heap.size+2<=j:=fun j m=>(i.arr.own j m).2
 have n:∀j,j<W.heap.size->j<w.heap.size+2->d.heap[j]?=W.heap[j]?:=fun j m _=>(l.block j (Yb m f.size) (fun e=>by have:=t j e.symm;omega)).trans (f.block j m)
 have v:=c.size;have x:=c.lt;have p:fI b w.heap.size w d:=c.did.off.trans (fI.mk' (l.os.trans f.os) (l.tape.trans f.tape) (l.output.trans f.output) (Dz f.size l.size) c.st.lt fun j m _=>n j (by have:=c.did.off.size;omega) O);have o:f9 b V tj w y d va vf:=⟨⟨c.st.move c.2.2.2.1 p (n b c.st.lt O),p⟩,(n _ O O).trans c.2.1,(n _ v O).trans c.2.2.1,c.2.2.2⟩
 refine⟨o,o.set0 g,q.keep (zM.set O 0 g),?_,i.nil⟩;rw[i.nil rfl];exact f4.nil _ _ _
theorem gF.func{d:C3}{l:C4}{s:C2}{t:Int}{g i:C4}(m:gF b V tj w y W va vf ars fs)(o:(W.alloc (.cells #[s,(t:Int),g,i] 93)).grownBy d vf.ownBlock)(M:kj (W.alloc (.cells #[s,(t:Int),g,i] 93)) vf l)
 (I:d.ownsRow (w.heap.size+2) 93 4 l (fs.length+1) (fs.flatMap kF.cs++[.string s,.int .i64 t,g,i])) {L:Nat} (E:w.heap.size+2<=L) (F:∀k,vf.ownBlock=some k->k<L):
 f9 b V tj w y d va vf/\∀f,VV L W f (.agg #[s,(t:Int),g,i])->∃q:KX,q.f=f/\gF b V tj w y (d.setCell (w.heap.size+1,1) l) va l ars (fs++[q]):=by
 have a:=m.cur;have n:Cx W (W.alloc (.cells #[s,(t:Int),g,i] 93)):=Zb.alloc Zr _;have J:∀j,vf.ownBlock=some j->w.heap.size+2<=j:=fun j c=>(m.fnc.own j c).2
 have v:∀j,j<W.heap.size->vf.ownBlock≠some j->d.heap[j]?=W.heap[j]?:=fun j c x=>(o.block j (Yb c n.size) (fun e=>x e.symm)).trans (n.block j c)
 have r:∀j,j<W.heap.size->j<w.heap.size+2->d.heap[j]?=W.heap[j]?:=fun j c x=>v j c (fun e=>by have:=J j e;omega)
 have N:=a.size;have P:=a.lt;have z:fI b w.heap.size w d:=a.did.off.trans (fI.mk' (o.os.trans n.os) (o.tape.trans n.tape) (o.output.trans n.output) (Dz n.size o.size) a.st.lt fun j c _=>r j Hj O);have u:f9 b V tj w y d va vf:=⟨⟨a.st.move a.2.2.2.1 z (r b a.st.lt O),z⟩,(r _ O O).trans a.2.1,(r _ N O).trans a.2.2.1,a.2.2.2⟩
 refine⟨u,fun f H=>?_⟩;obtain⟨u2,u3,A,B,C⟩:=H;simp only[Value.agg.injEq,Array.mk.injEq,Cb,Value.int.injEq,Value.string.injEq,true_and,and_true]at A;obtain⟨rfl,rfl,rfl,rfl⟩:=A;have G:f4 kF (w.heap.size+2) d l (fs++[⟨f,g,i⟩]):=m.fnc.app (K:=kF) (L:=L) (p:=(⟨f,g,i⟩:KX)) (show gT W.heap.size (fW (nO L) W) g f.params/\f6 W.heap.size (fW (nO L) W) i f.body from⟨B,C⟩) E F n o M I
 have D:f4 kA (w.heap.size+2) d va ars:=by
  refine⟨zQ m.arr.1 fun j c=>v j (m.arr.own j c).1 ?_,fun p _=>trivial⟩;exact PJ m.arr.1 m.fnc.1 Uf j c
 exact⟨⟨f,g,i⟩,rfl,u.ww l,D.keep (zM.set O 1 l),G.keep (zM.set O 1 l),fun e=>absurd e Uh⟩
end
theorem VH.imp(c:∀g o d,fK B w g o d->fK B' w' g o d)(a:Ar)(g o:Nat)(b:VH B w a g o):VH B' w' a g o:=⟨c _ _ _ b.1,c _ _ _ b.2⟩
theorem gM.imp(d:∀g o b,fK B w g o b->fK B' w' g o b){l:List Ar}(c:gM B w v l):gM B' w' v l:=vd.imp c fun g o=>um.imp (fun a g o=>VH.imp d a g o) l g o
theorem VI.imp(b:∀g o c,fK B w g o c->fK B' w' g o c)(a:Fu)(g o:Nat)(d:VI B w a g o):VI B' w' a g o:=by
 obtain⟨e,f,⟨v,i,j⟩,⟨v',k,l⟩⟩:=d;exact⟨b _ _ _ e,b _ _ _ f,⟨v,b _ _ _ i,j.imp b⟩,⟨v',b _ _ _ k,l.imp b⟩⟩
theorem gN.imp(d:∀g o b,fK B w g o b->fK B' w' g o b){l:List Fu}(c:gN B w v l):gN B' w' v l:=vd.imp c fun g o=>um.imp (fun a g o=>VI.imp d a g o) l g o
def G6(b:Nat)(V:C4)(tj:List fH)(w:C3)(T:PR Pr)(n:Nat)(wr:C3):Prop:=
 ∃(m:Nat) (ars:List Ar) (fs:List KX) (y:PR Unit) (va vf:C4),m<=n/\gF b V tj w y wr va vf ars fs/\T=y.bind (fun _ r=>k2 m ⟨ars,fs.map (·.f)⟩ r)/\(qD y=false->ars.length+fs.length<=yi b wr)/\ars.length+fs.length<=2000000
theorem UV{tj:List fH}{y:PR Unit}{va vf:C4}{ars:List Ar}{fs:List KX}{T:PR Pr}(a:gF b V tj w y W va vf ars fs)(_:ars.length+fs.length<=2000000)(j:T=y.bind fun _ r=>.ok ⟨ars,fs.map (·.f)⟩ r):qk b V tj w T (HN w.heap.size) (.returned (.agg #[va,vf])) (g0 W w.heap.size va vf):=by
 subst j;have e:zM (w.heap.size+2) W (g0 W w.heap.size va vf):=zM.dj O _ _;have k:=(a.arr.keep e).wa O;have l:=(a.fnc.keep e).funcs O;have i:∀g o d,fK (g0 W w.heap.size va vf).heap.size (fW (nO (w.heap.size+2)) (g0 W w.heap.size va vf)) g o d->fK (g0 W w.heap.size va vf).heap.size (fW (nO w.heap.size) (g0 W w.heap.size va vf)) g o d:=(zM.refl (w.heap.size+2) _).cells O;have c:HN w.heap.size (g0 W w.heap.size va vf) ⟨ars,fs.map (·.f)⟩ (.agg #[va,vf]):=⟨va,vf,rfl,gM.imp i k,gN.imp i l⟩
 refine a.cur.fin ?_ ?_
 .rw[jh]
  cases y<;>rfl
 .cases y with
  |ok d r=>exact c
  |bad r=>exact⟨_,c⟩
  |deep r=>exact⟨_,c⟩
  |o=>trivial
theorem wB{α:Type}{Y:PR α}{P:α->Prop}(b:j9 Y P)(d:zI Y):∃a,P a/\∀{β:Type}(F:α->List fH->PR β),Y.bind F=Y.un.bind fun _ r=>F a r:=by
 cases Y with
 |ok a r=>exact⟨a,b,fun F=>rfl⟩
 |bad r=>obtain⟨a,c⟩:=b;exact⟨a,c,fun F=>rfl⟩
 |deep r=>obtain⟨a,c⟩:=b;exact⟨a,c,fun F=>rfl⟩
 |o=>exact absurd d id
theorem zax{a:Pa}{z:PR Unit}(b:¬(a.type=1/\p.funcs=[]/\zU [91] z=true)):(z.bind fun _ r=>pgK q p a r)=(z.bind fun _ r=>o6 q a.type a.name r).bind fun f r=>k2 q ⟨p.wa,p.funcs++[f]⟩ r:=by
 cases z with
 |ok _ r=>
   show pgK q p a r=(o6 q a.type a.name r).bind _;unfold pgK;exact congrArg id (Dp b)
 |_=>rfl
theorem YT{a:Pa}(b:a.type=1)(c:p.funcs=[])(d:zq [91] r=true):pgK q p a r=(pZ a.name r.tail).bind fun x r=>k2 q ⟨p.wa++[x],p.funcs⟩ r:=by
 unfold pgK;rw[Dq ⟨b,c,d⟩]
theorem YU{α:Type}{tj:List fH}{X:PR α}(hF:zm 1 r X)(d:jk b V tj X.un W)(_:r.length<=tj.length)(_:0<r.length):
 2*(tj.length-yi b W)+vy b W<2*r.length+1/\(qD X.un=false->tj.length-r.length+1<=yi b W):=by
 cases X with
 |ok a c=>
   have e:zc b V tj c false false W:=d;have g:=jX e;have i:=(show zJ 1 r c from hF).2.2;have j:=FH b W;exact⟨O,fun _=>O⟩
 |bad c=>
   have e:zc b V tj c true false W:=d;exact Qw
 |deep c=>
   have e:zc b V tj c false true W:=d;exact Qw
 |o=>exact absurd d id
theorem wC{α:Type}{tj:List fH}{va vf:C4}{ars:List Ar}{fs:List KX}{T:PR Pr}{X:PR α}(i:q<=n)(hF:zm 1 r X)(a:gF b V tj w X.un W va vf ars fs)(e:T=X.un.bind fun _ r=>k2 q ⟨ars,fs.map (·.f)⟩ r)
 (j:r.length<=tj.length) (k:0<r.length) (_:ars.length+fs.length<=tj.length-r.length+1) (_:tj.length<=1000000):G6 b V tj w T n W/\2*(tj.length-yi b W)+vy b W<2*r.length+1:=by
 obtain⟨c,d⟩:=YU hF a.cur.st j k;exact⟨⟨q,ars,fs,_,va,vf,i,a,e,fun g=>by have:=d g;omega,O⟩,c⟩
theorem G7{a:Pa}{b:List fH}(f:(jN r).un=.ok () b)(d:j9 (jN r) fun p=>p=a)(g:qC r):jN r=.ok a b/\zJ 1 r b:=by
 obtain⟨e,c⟩:=zbq f;have hF:=yd g;rw[c]at d hF;obtain rfl:e=a:=d;exact⟨c,hF⟩
theorem DM{α:Type}{k:Nat}{l:List fH}{x:PR α}(h:zm k l x):zm k l x.un:=by
 cases x with
 |ok a r=>exact h
 |bad r=>exact h
 |deep r=>exact h
 |o=>trivial
theorem PK(s:C2)(a:Int)(w:C3)(d:s.size<=281474976710656)(c:xK s.data.toList=true)(b:a=(kS 0 s.data.toList:Nat)):
 Cy 57 #[s] w (Cw (a:Int) w):=by
 subst b;exact sF s w d c
theorem nF{tj:List fH}{x:PR Unit}(af:jk b V tj x w)(bm:zI (x.bind fun _ r=>k2 n ⟨[],[]⟩ r)):
 Cy 27 #[(b,0)] w (qk b V tj w (x.bind fun _ r=>k2 n ⟨[],[]⟩ r) (HN w.heap.size)):=by
 obtain⟨T,ab⟩:=Cz ((x.bind fun _ r=>k2 n ⟨[],[]⟩ r));rw[ab]at bm ⊢;have bA:=U bm;have bY:=U ab.symm;have d:=C0 (gF b V tj w x ((w.alloc uA).alloc uA) (.slice none 0 0) (.slice none 0 0) [] []) ⟨f9.start af,f4.nil _ _ _,f4.nil _ _ _,fun _=>rfl⟩;have cc:=af.lt;clear af bm ab;go_enter func27,ntmps27;go_wp2
 go_loopw [4] (fun _ wr=>G6 b V tj w T n wr) (fun _ wr=>2*(tj.length-yi b wr)+vy b wr)
 case atStart=>exact⟨n,[],[],x,_,_,D0 _,d.o,bY.o,fun _=>Dx _,Uh⟩
 case round=>
  obtain⟨bT,bI,bQ,bR,bS⟩:=info_parts XC;have aj:=U (Dt bI (Dt bQ (Dt bR bS)));obtain⟨br,bJ,bN,bO,bP⟩:=info_parts XF;have M:=U (Dt bJ (Dt bN (Dt bO bP)));clear bI bQ bR bS bJ bN bO bP;obtain⟨m,ars,fs,y,va,vf,_,ah,ab,a3,a2⟩:=hrel;replace d:=U ah;cases ho:qD y with
  |true=>
    have bf:=C0 (T=y.bind fun _ r=>.ok ⟨ars,fs.map (·.f)⟩ r) (ab.trans (i4 ho _ _));have bW:=U ho;obtain⟨_,_,dp,bL,_,_⟩:=ah.cur.st.box;obtain⟨g,c,k,t,q,rfl,rfl,ad,b1,b3,aW,aX,aY,aZ,a9,ba,bb⟩:=bL.tok;have b2:(k:Int)<tj.length:=O
    clear ad bL ho ab a3 ah;go_wp2
    go_quiet ((go_at_call 53;exact Calls.quiet_of_same (qL (d.o.drewN _).cur.st true bW.o)))
    exact Qu
  |false=>
    obtain⟨r,rfl⟩:∃r,y=.ok () r:=by
     cases y with
     |ok _ r=>exact⟨r,rfl⟩
     |bad r=>cases ho
     |deep r=>cases ho
     |o=>exact absurd ah.cur.st id
    obtain⟨a4,aS,aO,bk,aT⟩:=yG ah.cur.did;have ak:=a3 rfl;rw[a4]at ak;have bl:=FG (show zc b V tj r false false wr from ah.cur.st)
    obtain⟨q,rfl⟩:∃q,m=q+1:=by
     cases m with
     |zero=>have E:=bA.o;rw[ab]at E;exact absurd (show zI (k2 0 ⟨ars,fs.map (·.f)⟩ r)from E) (by rw[k2];exact id)
     |succ q=>exact⟨q,rfl⟩
    have a1:T=k2 (q+1) ⟨ars,fs.map (·.f)⟩ r:=ab;obtain⟨g,c,k,t,_,rfl,bp,ad,b1,b3,aW,aX,aY,aZ,a9,ba,bb⟩:=(show zc b V tj r false false wr from ah.cur.st).tok;have b2:(k:Int)<tj.length:=O
    have a5:gV r=t.kind:=by rw[bp];rfl
    cases hk3:decide (t.kind=3)with
    |true=>
      have aL:t.kind=3:=of_decide_eq_true hk3;have b0:(t.kind != 3)=false:=by simpa using hk3
      have bf:=C0 (T=(PR.ok () r).bind fun _ r=>.ok ⟨ars,fs.map (·.f)⟩ r) (a1.trans (YS (a5.trans aL)));clear ad ho ab a1 a3 ah hk3 aL bl a4 a5 bp bk;go_wp2
      go_quiet ((go_at_call 53;exact Calls.quiet_of_same (qL (d.o.drewN _).cur.st false rfl)))
      exact Qu
    |false=>
      have aL:¬t.kind=3:=of_decide_eq_false hk3;have b0:(t.kind != 3)=true:=by simpa using hk3
      have aV:=U (a1.trans (YR (a5▸aL)));have aU:=U bk;have aC:=U a4;have aG:=U bl;clear ad ho ab a1 a3 ah hk3 aL bl a4 a5 bp bk;go_wp2
      go_quiet ((go_at_call 53;exact Calls.quiet_of_same (qL (d.o.drewN _).cur.st false rfl)))
      replace d:=U (d.o.drewN nq);clear aW aX aY aZ a9 ba bb
      go_wp2_with (first
       | (go_at_call 54;(with_reducible refine(uO d.o.cur.st).mono ?_);rintro e ca ⟨_,rfl,i,C⟩
          obtain⟨az,rfl,bH⟩:=J0 (r:=r) C;have bv:=U bH;replace d:=C0 (gF b _ tj w (k1 r).un ca _ _ _ _) (d.o.step i)
          clear i C bH))
      go_at_call 55
      (with_reducible refine(y7 d.o.cur.st 1 Uf).mono ?_)
      rintro e aA ⟨K,rfl,i,C⟩;have bu:=U (lZ bv.o C);replace d:=C0 (gF b _ tj w (jN r).un aA _ _ _ _) ((o3 r).symm▸d.o.step i);replace aV:=U (aV.o.trans (zaw bu.o _));clear i C bv;have cd:=d.o.cur.st.lt;dsimp only;by_cases aq:az=1/\fs=[]/\zU [91] (jN r).un=true
      .obtain⟨rfl,rfl,bG⟩:=aq
       obtain⟨ay,a8,a6⟩:=uq bG;obtain⟨b4,bh⟩:=G7 a8 bu.o aU.o;have bq:vf=.slice none 0 0:=d.o.nil rfl;subst bq
       have bi:T=(pZ K ay.tail).bind fun x r=>k2 q ⟨ars++[x],[]⟩ r:=by
        rw[aV.o,a8];exact YT rfl rfl a6
       rw[a8]at d;have a0:zJ 1 r ay.tail:=(bh.trans (zJ.sign bh.2.1 a6)).mono O;obtain⟨j,bo⟩:∃j,j=ay.tail:=⟨_,rfl⟩
       rw[<-bo]at bi a0;have be:=U bo;have bx:=U a0;have aK:=C0 (zU (⟨#[91]⟩:C2).data.toList (PR.ok () ay)=true) a6;have bz:=U bi;have bt:=U a0.2.1;obtain⟨⟨av,aw⟩,ax⟩:=d.o.cur.f;clear a8 b4 bh bi bo a0 a6 bG;by_cases an:gV j=0
       .obtain⟨ap,a7⟩:∃ap:C2,ap=⟨(pV j).toArray⟩:=⟨_,rfl⟩
        have bX:=U a7;have aH:=U an
        have bw:=U (show ap.size<=281474976710656/\xK ap.data.toList=true by
         rw[a7];have b5:zc b _ tj ay false false aA:=d.o.cur.st;have bM:=(zc.next b5 (by rw[(uM (show zq [91] ay=true from aK.o)).1];decide))
         rw[<-be.o]at bM;obtain⟨E,Q,_⟩:=bM.num an
         exact⟨E,Q⟩)
        obtain⟨au,bn⟩:∃au:Int,au=(kS 0 ap.data.toList:Nat):=⟨_,rfl⟩
        have bV:=U bn
        have bg:=U (show T=((((PR.ok () j.tail).bind fun _ r=>zN [93] r).bind fun _ r=>zN [59] r)).un.bind fun _ r=>k2 q ⟨ars++[⟨K,au⟩],([]:List KX).map (·.f)⟩ r by
         rw[bz.o,q8,bn,a7];unfold pZ qr;rw[Dq an];show((zN [93] j.tail).bind fun _ r=>(zN [59] r).bind fun _ r=>PR.ok _ r).bind _=((zN [93] j.tail).bind fun _ r=>zN [59] r).bind _;simp only[zb]
         rfl)
        clear a7 an bn
        go_wp2_with (first
        | (go_at_call 56;(with_reducible refine(qA d.o.cur.st _ aK.o).mono ?_);rintro e aB ⟨rfl,i⟩
           replace d:=U (show gF b _ tj w (.ok () j) aB _ _ _ _ by rw[be.o];exact d.o.step i)
           clear i)
        | (go_at_call 55;(with_reducible refine(hP d.o.cur.st 0 Uf aH.o ap bX.o).mono ?_);rintro e D ⟨rfl,i⟩
           replace d:=C0 (gF b _ tj w (.ok () j.tail) D _ _ _ _) (d.o.step i)
           clear i)
        |(go_at_call 57;(with_reducible refine(PK ap _ _ bw.o.1 bw.o.2 bV.o).mono ?_);rintro e D ⟨rfl,rfl⟩)
        | (go_at_call 58;(with_reducible refine(zg d.o.cur.st ⟨#[93]⟩).mono ?_);rintro e ai ⟨rfl,i⟩
           replace d:=C0 (gF b _ tj w ((PR.ok () j.tail).bind fun _ r=>zN [93] r) ai _ _ _ _) (d.o.step i)
           clear i)
        | (go_at_call 58;(with_reducible refine(zg d.o.cur.st ⟨#[59]⟩).mono ?_);rintro e w8 ⟨rfl,i⟩
           replace d:=C0 (gF b _ tj w (((PR.ok () j.tail).bind fun _ r=>zN [93] r).bind fun _ r=>zN [59] r) w8 _ _ _ _) (d.o.step i);obtain⟨⟨av,aw⟩,ax⟩:=d.o.cur.f;obtain⟨al,am,rfl⟩:=d.o.arr.form;have s:=U (d.o.arr.pre [.string K,.int .i64 (au)] (by have:=d.o.cur.size;omega))
           clear i)
        | (at_builtin;refine qJ rfl (.tmp 48) (.tmp 52) _ rfl (w.heap.size+2) 80 bT _ 2 24 underlying24 aj.o.1 aj.o.2.1 aj.o.2.2.1 aj.o.2.2.2 rfl O (.slice al ars.length am) ars.length _ rfl Xs ⟨w8.heap.size,0,none⟩ 1 1 [.string K,.int .i64 (au)] rfl rfl Xo Um Ul O Xp O ?_
           intro bc w9 B I J;obtain⟨F,G,rfl⟩:=zY B;have A:=U (d.o.array (a:=⟨K,au⟩) I J B);have bZ:=A.o.1.f.2;have b6:=A.o.1.f.1.1
           clear B I J))
        have H:=U (wC (q:=q) (n:=n) (X:=((PR.ok () j.tail).bind fun _ r=>zN [93] r).bind fun _ r=>zN [59] r) O (zm.from bx.o (zm.from (n:=0) (zJ.tail bt.o (by rw[aH.o];decide)) ((zL (bt.o.tail (by rw[aH.o];decide)) _).bind (m:=0) (n:=0) (fun _ r _ ao=>(zL ao _).mono O) O) O) O) (q8 (((PR.ok () j.tail).bind fun _ r=>zN [93] r).bind fun _ r=>zN [59] r)▸A.o.2) bg.o aS aT Vn aO);go_roundw
        case rel=>exact H.o.1
        case measure=>
         exact Qv
       .have aH:=U an
        have bg:=U (show T=((((PR.bad j:PR Unit).bind fun _ r=>zN [93] r).bind fun _ r=>zN [59] r)).un.bind fun _ r=>k2 q ⟨ars++[⟨K,-1⟩],([]:List KX).map (·.f)⟩ r by
         rw[bz.o];unfold pZ qr;rw[Dp an]
         rfl)
        clear an
        go_wp2_with (first
        | (go_at_call 56;(with_reducible refine(qA d.o.cur.st _ aK.o).mono ?_);rintro e aB ⟨rfl,i⟩
           replace d:=U (show gF b _ tj w (.ok () j) aB _ _ _ _ by rw[be.o];exact d.o.step i)
           clear i)
        | (go_at_call 55;(with_reducible refine(UU d.o.cur.st 0 aH.o).mono ?_);rintro e D ⟨rfl,i⟩
           replace d:=C0 (gF b _ tj w (.bad j) D _ _ _ _) (d.o.step i)
           clear i)
        |(go_at_call 57;(with_reducible refine(J2 _).mono ?_);rintro e D ⟨rfl,rfl⟩)
        | (go_at_call 58;(with_reducible refine(zg d.o.cur.st ⟨#[93]⟩).mono ?_);rintro e ai ⟨rfl,i⟩
           replace d:=C0 (gF b _ tj w ((PR.bad j:PR Unit).bind fun _ r=>zN [93] r) ai _ _ _ _) (d.o.step i)
           clear i)
        | (go_at_call 58;(with_reducible refine(zg d.o.cur.st ⟨#[59]⟩).mono ?_);rintro e w8 ⟨rfl,i⟩
           replace d:=C0 (gF b _ tj w (((PR.bad j:PR Unit).bind fun _ r=>zN [93] r).bind fun _ r=>zN [59] r) w8 _ _ _ _) (d.o.step i);obtain⟨⟨av,aw⟩,ax⟩:=d.o.cur.f;obtain⟨al,am,rfl⟩:=d.o.arr.form;have s:=U (d.o.arr.pre [.string K,.int .i64 (-1)] (by have:=d.o.cur.size;omega))
           clear i)
        | (at_builtin;refine qJ rfl (.tmp 48) (.tmp 52) _ rfl (w.heap.size+2) 80 bT _ 2 24 underlying24 aj.o.1 aj.o.2.1 aj.o.2.2.1 aj.o.2.2.2 rfl O (.slice al ars.length am) ars.length _ rfl Xs ⟨w8.heap.size,0,none⟩ 1 1 [.string K,.int .i64 (-1)] rfl rfl Xo Um Ul O Xp O ?_
           intro bc w9 B I J;obtain⟨F,G,rfl⟩:=zY B;have A:=U (d.o.array (a:=⟨K,-1⟩) I J B);have bZ:=A.o.1.f.2;have b6:=A.o.1.f.1.1
           clear B I J))
        have H:=U (wC (q:=q) (n:=n) (X:=((PR.bad j:PR Unit).bind fun _ r=>zN [93] r).bind fun _ r=>zN [59] r) O (show zJ 0 r j from bx.o.mono O) (q8 (((PR.bad j:PR Unit).bind fun _ r=>zN [93] r).bind fun _ r=>zN [59] r)▸A.o.2) bg.o aS aT Vn aO);go_roundw
        case rel=>exact H.o.1
        case measure=>
         exact Qv
      .have bj:=aV.o.trans (zax (q:=q) (p:=⟨ars,fs.map (·.f)⟩) (a:=⟨K,az⟩) (z:=(jN r).un) (fun af=>aq ⟨af.1,by simpa using af.2.1,af.2.2⟩))
       have aJ:=U bj;have ae:=U (show zI ((jN r).un.bind fun _ r=>o6 q az K r)by have E:=bA.o;rw[bj]at E;exact qM E);clear bj;obtain⟨⟨av,aw⟩,ax⟩:=d.o.cur.f;by_cases E:az=1
       .subst E
        cases fs with
        |nil=>
          have bq:vf=.slice none 0 0:=d.o.nil rfl;subst bq;obtain⟨fs,ar⟩:∃fs:List KX,fs=[]:=⟨_,rfl⟩
          rw[<-ar]at d aJ ak a2;clear ar
          have aK:=U (show zU (⟨#[91]⟩:C2).data.toList (jN r).un=false by
           cases af:zU [91] (jN r).un with
           |true=>exact absurd ⟨rfl,rfl,af⟩ aq
           |false=>rfl)
          clear aq
          go_wp2_with (first
           | (go_at_call 56;(with_reducible refine(zE d.o.cur.st _ aK.o).mono ?_);rintro e aB ⟨rfl,i⟩
              replace d:=U (d.o.step i);obtain⟨⟨av,aw⟩,ax⟩:=d.o.cur.f
              clear i))
          have aI:=U d.o.fnc.own
          go_region_law (first
           | (refine qX rfl (.tmp 56) (.tmp 61) _ rfl (w.heap.size+2) 93 br _ 4 72 underlying25 M.o.1 M.o.2.1 M.o.2.2.1 M.o.2.2.2 rfl O (.slice none 0 0) fs.length _ rfl Xs ⟨D.heap.size,0,none⟩ 1 1 [.string Z,.int .i64 aa,.slice N R W,.slice P S Y] rfl rfl Xo Um Ul O Xp O ?_
              intro bc ai B I J;obtain⟨bs,bC,rfl⟩:=zY B;have A:=U (l.o.func (L:=aB.heap.size) I J B aF.o fun k ad=>(aI.o k ad).1);have aQ:ai.cell? (w.heap.size+1,1)=some (.slice none 0 0):=A.o.1.f.1.2;have bF:=A.o.1.f.2
              clear B I J)
           | (go_simp;go_at_call 59;(refine(DL d.o.drew.cur.st ae.o).mono ?_);rintro e D ⟨v,rfl,i,C⟩
              obtain⟨Z,aa,N,R,W,P,S,Y,rfl⟩:=o2 C ae.o;have aD:=U C;have l:=U (d.o.drew.step i);have aF:=C0 (w.heap.size+2<=aB.heap.size) d.o.cur.size;have aQ:D.cell? (w.heap.size+1,1)=some (.slice none 0 0):=l.o.cur.f.1.2;have bK:(D.alloc (.cells #[Z,(aa:Int),(N,R,W),(P,S,Y)] 93)).cell? (w.heap.size+1,1)=some (.slice none 0 0):=(l.o.cur.alloc _).f.1.2;have bD:=l.o.cur.f.2;have s:=U (l.o.fnc.pre [.string Z,.int .i64 aa,.slice N R W,.slice P S Y] Jj)
              clear i C))
          all_goals
           go_wp2;have aE:=U (wB aD.o ae.o)
           have H:=U (show G6 b _ tj w T n _/\2*(tj.length-yi b _)+vy b _<2*r.length+1 by
            obtain⟨f,aP,hF⟩:=aE.o;obtain⟨bU,aR,aN⟩:=A.o.2 f aP;refine wC (q:=q) (X:=(jN r).un.bind fun _ r=>o6 q 1 K r) O ?_ aN ?_ aS aT Vn aO
            .exact(DM (yd aU.o)).bind (m:=0) (fun _ r _ ao=>(hN ao).mono O) O
            .rw[aJ.o,hF,Yj,<-aR]
             rfl)
           go_roundw
           case rel=>exact H.o.1
           case measure=>
            exact Qv
        |cons aM ft=>
          obtain⟨fs,ar⟩:∃fs,fs=aM::ft:=⟨_,rfl⟩
          have ce:0<fs.length:=by rw[ar];simp
          rw[<-ar]at d aJ ak a2;have cf:((fs.length:Int) == 0)=false:=by rw[beq_eq_false_iff_ne];omega
          obtain⟨F,G,rfl⟩:=d.o.fnc.form;clear aq ar;go_wp2_with fail;have aI:=U d.o.fnc.own
          go_region_law (first
           | (refine qX rfl (.tmp 56) (.tmp 61) _ rfl (w.heap.size+2) 93 br _ 4 72 underlying25 M.o.1 M.o.2.1 M.o.2.2.1 M.o.2.2.2 rfl O (.slice F fs.length G) fs.length _ rfl Xs ⟨D.heap.size,0,none⟩ 1 1 [.string Z,.int .i64 aa,.slice N R W,.slice P S Y] rfl rfl Xo Um Ul O Xp O ?_
              intro bc ai B I J;obtain⟨bs,bC,rfl⟩:=zY B;have A:=U (l.o.func (L:=aA.heap.size) I J B aF.o fun k ad=>(aI.o k ad).1);have aQ:ai.cell? (w.heap.size+1,1)=some (.slice F fs.length G):=A.o.1.f.1.2;have bF:=A.o.1.f.2
              clear B I J)
           | (go_simp;go_at_call 59;(refine(DL d.o.drew.cur.st ae.o).mono ?_);rintro e D ⟨v,rfl,i,C⟩
              obtain⟨Z,aa,N,R,W,P,S,Y,rfl⟩:=o2 C ae.o;have aD:=U C;have l:=U (d.o.drew.step i);have aF:=C0 (w.heap.size+2<=aA.heap.size) d.o.cur.size;have aQ:D.cell? (w.heap.size+1,1)=some (.slice F fs.length G):=l.o.cur.f.1.2;have bK:(D.alloc (.cells #[Z,(aa:Int),(N,R,W),(P,S,Y)] 93)).cell? (w.heap.size+1,1)=some (.slice F fs.length G):=(l.o.cur.alloc _).f.1.2;have bD:=l.o.cur.f.2;have s:=U (l.o.fnc.pre [.string Z,.int .i64 aa,.slice N R W,.slice P S Y] Jj)
              clear i C))
          all_goals
           go_wp2;have aE:=U (wB aD.o ae.o)
           have H:=U (show G6 b _ tj w T n _/\2*(tj.length-yi b _)+vy b _<2*r.length+1 by
            obtain⟨f,aP,hF⟩:=aE.o;obtain⟨bU,aR,aN⟩:=A.o.2 f aP;refine wC (q:=q) (X:=(jN r).un.bind fun _ r=>o6 q 1 K r) O ?_ aN ?_ aS aT Vn aO
            .exact(DM (yd aU.o)).bind (m:=0) (fun _ r _ ao=>(hN ao).mono O) O
            .rw[aJ.o,hF,Yj,<-aR]
             rfl)
           go_roundw
           case rel=>exact H.o.1
           case measure=>
            exact Qv
       .have cb:(az == 1)=false:=by simpa using E
        obtain⟨F,G,rfl⟩:=d.o.fnc.form;clear aq E;go_wp2_with fail;have aI:=U d.o.fnc.own
        go_region_law (first
         | (refine qX rfl (.tmp 56) (.tmp 61) _ rfl (w.heap.size+2) 93 br _ 4 72 underlying25 M.o.1 M.o.2.1 M.o.2.2.1 M.o.2.2.2 rfl O (.slice F fs.length G) fs.length _ rfl Xs ⟨D.heap.size,0,none⟩ 1 1 [.string Z,.int .i64 aa,.slice N R W,.slice P S Y] rfl rfl Xo Um Ul O Xp O ?_
            intro bc ai B I J;obtain⟨bs,bC,rfl⟩:=zY B;have A:=U (l.o.func (L:=aA.heap.size) I J B aF.o fun k ad=>(aI.o k ad).1);have aQ:ai.cell? (w.heap.size+1,1)=some (.slice F fs.length G):=A.o.1.f.1.2;have bF:=A.o.1.f.2
            clear B I J)
         | (go_simp;go_at_call 59;(refine(DL d.o.drew.cur.st ae.o).mono ?_);rintro e D ⟨v,rfl,i,C⟩
            obtain⟨Z,aa,N,R,W,P,S,Y,rfl⟩:=o2 C ae.o;have aD:=U C;have l:=U (d.o.drew.step i);have aF:=C0 (w.heap.size+2<=aA.heap.size) d.o.cur.size;have aQ:D.cell? (w.heap.size+1,1)=some (.slice F fs.length G):=l.o.cur.f.1.2;have bK:(D.alloc (.cells #[Z,(aa:Int),(N,R,W),(P,S,Y)] 93)).cell? (w.heap.size+1,1)=some (.slice F fs.length G):=(l.o.cur.alloc _).f.1.2;have bD:=l.o.cur.f.2;have s:=U (l.o.fnc.pre [.string Z,.int .i64 aa,.slice N R W,.slice P S Y] Jj)
            clear i C))
        all_goals
         go_wp2;have aE:=U (wB aD.o ae.o)
         have H:=U (show G6 b _ tj w T n _/\2*(tj.length-yi b _)+vy b _<2*r.length+1 by
          obtain⟨f,aP,hF⟩:=aE.o;obtain⟨bU,aR,aN⟩:=A.o.2 f aP;refine wC (q:=q) (X:=(jN r).un.bind fun _ r=>o6 q az K r) O ?_ aN ?_ aS aT Vn aO
          .exact(DM (yd aU.o)).bind (m:=0) (fun _ r _ ao=>(hN ao).mono O) O
          .rw[aJ.o,hF,Yj,<-aR]
           rfl)
         go_roundw
         case rel=>exact H.o.1
         case measure=>
          exact Qv
theorem wD(l:List UInt8):l.takeWhile qp=l.take (xL l):=List.prefix_iff_eq_take.1 (Cr _)
theorem G8(_:0<xL l):wH l=(yV (l.take (xL l))).map fun k=>(k,l.take (xL l)):=by
 unfold wH
 rw[Dq (by intro e;have:xL l=0:=(by unfold xL;rw[e];rfl);omega),wD]
theorem G9(h:xL l=0):wH l=if xy l≠[]then some (2,xy l)else none:=by
 unfold wH;rw[Dp (by rw[wD,h];simp)]
theorem nG(l:List UInt8):l.take (xy l).length=xy l:=by
 have h:(xy l).isPrefixOf l=true:=by
  unfold xy;cases hf:g7.find? (fun t=>Lib.hasPrefix l t)with
  |none=>simp
  |some t=>exact List.find?_some (p:=fun t=>Lib.hasPrefix l t) hf
 exact(List.prefix_iff_eq_take.1 (List.isPrefixOf_iff_prefix.1 h)).symm
theorem UW(l:List UInt8):(xy l).length<=l.length:=by
 have:=congrArg List.length (nG l);rw[Yg]at this;omega
theorem uD.below{a:List fH}(b:uD w B v a)(c:Cx w w'):uD w' B v a:=qR b c Zr
theorem nH{k:Int}{t:List UInt8}(a:wH l=some (k,t)):l.take t.length=t/\0<t.length/\t.length<=l.length:=by
 by_cases d:0<xL l
 .rw[G8 d]at a
  obtain⟨g,_,e⟩:=Option.map_eq_some_iff.1 a;injection e with c b;subst b;have:=P8 l;rw[Yg];exact⟨by rw[Ca this],O,O⟩
 .rw[G9 O]at a
  split at a
  .rename_i f
   injection a with a;injection a with c b;subst b;exact⟨nG l,List.length_pos_iff.2 f,UW l⟩
  .cases a
def xc(w:C3)(l:List UInt8)(e:Ending)(w':C3):Prop:=
 Cx w w'/\match (qF l 1).2 with
  |none=>∃v,e=.returned (.tuple #[v,.int .i64 0,.int .i64 0])/\uD w' w.heap.size v (qF l 1).1
  |some a=>e=.returned (.tuple #[.slice none 0 0,.int .i64 20,.int .i64 (a:Int)])
theorem uD.nil(w:C3)(B:Nat):uD w B (.slice none 0 0) []:=⟨rfl,.inl ⟨rfl,rfl⟩⟩
theorem UX{a:Nat}{k:Int}{t:List UInt8}(f:nQ l=0)(b:wH l=some (k,t)):
 qF l a=(⟨k,t,a⟩::(qF (l.drop t.length) a).1,(qF (l.drop t.length) a).2):=by
 obtain⟨_,_,d⟩:=nH b;cases l with
 |nil=>rw[D5]at d;omega
 |cons c r=>
   rw[x6 f,b]
   have e:(c::r).drop t.length=r.drop (t.length-1):=by
    obtain⟨m,g⟩:∃m,t.length=m+1:=⟨t.length-1,O⟩
    rw[g,List.drop_succ_cons];rfl
   rw[e]
theorem UY{a:Nat}(d:nQ l=0)(e:l≠[])(b:wH l=none):qF l a=([],some a):=by
 cases l with
 |nil=>exact absurd rfl e
 |cons c r=>rw[x6 d,b]
theorem UZ(a:Nat):qF [] a=([⟨3,[],a⟩],none):=by rw[qF]
def vE:List (List UInt8):=[[60,60],[62,62],[60,61],[62,61],[61,61],[33,61],[38,38],[124,124]]
def kK:List (List UInt8):=[62,62,62]::(vE++BY)
def J3:Array C4:=(kK.map fun t=>Value.string ⟨t.toArray⟩).toArray
theorem PL(k:Nat)(b:k<30):∃t,kK[k]?=some t/\J3[k]?=some (.string ⟨t.toArray⟩):=by
 have a:k<kK.length:=by simpa[kK,vE,BY]using b
 refine⟨kK[k],Dy a,?_⟩;unfold J3;rw[List.getElem?_toArray,Yn,Dy a];rfl
theorem PM{α:Type}(p:α->Bool)(b e:List α)(d:∀a,a∈b↔a∈e)(g:∀a v,a∈b->v∈b->p a=true->p v=true->a=v):b.find? p=e.find? p:=by
 cases hx:b.find? p with
 |none=>
   rw[List.find?_eq_none]at hx;exact(List.find?_eq_none.2 fun a c=>hx a ((d a).2 c)).symm
 |some a=>
   have f:=List.find?_some hx;have c:=List.mem_of_find?_eq_some hx;cases hy:e.find? p with
   |none=>exact absurd f (List.find?_eq_none.1 hy a ((d a).1 c))
   |some v=>rw[g a v c ((d v).2 (List.mem_of_find?_eq_some hy)) f (List.find?_some hy)]
theorem lH(l:List UInt8):kK.find? (fun t=>Lib.hasPrefix l t)=g7.find? (fun t=>Lib.hasPrefix l t):=by
 have a:vE.find? (fun t=>Lib.hasPrefix l t)=HO.find? (fun t=>Lib.hasPrefix l t):=by
  refine PM _ _ _ (fun e=>(show vE.Perm HO by decide).mem_iff) (fun e v g i f a=>?_);have d:∀x,x∈vE->x.length=2:=Uf
  have b:=List.prefix_iff_eq_take.1 (List.isPrefixOf_iff_prefix.1 f);have c:=List.prefix_iff_eq_take.1 (List.isPrefixOf_iff_prefix.1 a);rw[d e g]at b;rw[d v i]at c;rw[b,c]
 unfold kK g7;rw[List.find?_cons,List.find?_cons,List.find?_append,List.find?_append,a]
theorem HA(l:List UInt8)(k:Nat)(t:List UInt8)(b:kK[k]?=some t)(d:Lib.hasPrefix l t=true)(c:∀(j:Nat) a,j<k->kK[j]?=some a->Lib.hasPrefix l a=false):xy l=t:=by
 unfold xy;rw[<-lH,rK (fun t=>Lib.hasPrefix l t) _ k t b d c];rfl
theorem x3(l:List UInt8)(b:∀(j:Nat) a,kK[j]?=some a->Lib.hasPrefix l a=false):xy l=[]:=by
 unfold xy;rw[<-lH,HP (fun t=>Lib.hasPrefix l t) _ b];rfl
theorem pR(s a:C2)(t:List UInt8)(e:(⟨t.toArray⟩:C2)=a)(c:a.size<=s.size):((s.extract 0 a.size).toList == a.toList)=Lib.hasPrefix s.data.toList t:=by
 subst e;have d:(⟨t.toArray⟩:C2).toList=t:=by rw[Ym]
 have b:(⟨t.toArray⟩:C2).size=t.length:=rfl;rw[b]at c;rw[<-Lib.hasPrefix_of_take,Lib.extract_toList,d,b,decide_eq_true (by rw[<-Yf];exact c),Bool.true_and];rfl
theorem wE(s b:C2)(t:List UInt8)(d:(⟨t.toArray⟩:C2)=b)(a:¬b.size<=s.size):Lib.hasPrefix s.data.toList t=false:=by
 subst d;have c:(⟨t.toArray⟩:C2).size=t.length:=rfl;rw[c]at a;rw[<-Lib.hasPrefix_of_take,decide_eq_false (by rw[<-Yf];exact a),Bool.false_and]
theorem PN(s:C2)(w:C3):
 Cy 52 #[s] w (Cv (.string ⟨(xy s.data.toList).toArray⟩) w):=by
 go_enter func52,ntmps52;go_wp2
 go_loopw [4] (fun i wr=>∃k:Nat,k<=30/\i=.int .i64 k/\(∀(j:Nat) b,j<k->kK[j]?=some b->Lib.hasPrefix s.data.toList b=false)/\Is wr w.heap.size 9 J3/\Cx w wr) (fun i _=>30-(intOf i).toNat)
 case atStart=>exact⟨0,O,rfl,fun j b z=>absurd z O,Ds w _,Zb.alloc Zr _⟩
 case round=>
  obtain⟨k,_,rfl,y,x,g⟩:=hrel;have m:=U y;have n:=U x;clear y x;by_cases B:k<30
  .obtain⟨t,A,q⟩:=PL k B
   obtain⟨a,r⟩:∃a:C2,(⟨t.toArray⟩:C2)=a:=⟨_,rfl⟩
   rw[r]at q;have D:wr.cell? (w.heap.size,k)=some (.string a):=(n.o.cell k).trans q;have u:=U A;have f:=U r;clear A q r
   have v:Do (Lib.hasPrefix s.data.toList t=false->∀(j:Nat) b,j<k+1->kK[j]?=some b->Lib.hasPrefix s.data.toList b=false):=by
    intro C j b z d;by_cases e:j=k
    .subst e
     have:=u.o.symm.trans d;injection this with this;exact this▸C
    .exact m.o j b O d
   by_cases l:a.size<=s.size
   .go_wp2
    go_quiet (fail)
    go_wp2
    .have c:((s.extract 0 a.size).toList == a.toList)=true:=by assumption
     rw[pR s a t f.o l]at c;go_ret;rw[HA _ k t u.o c m.o,f.o];exact⟨rfl,yX g _⟩
    .have c:((s.extract 0 a.size).toList == a.toList)=false:=by assumption
     rw[pR s a t f.o l]at c;have p:=U (v.o c);clear c;exact Qx
   .have E:decide (a.size<=s.size)=false:=by simpa using l
    have p:=U (v.o (wE s a t f.o l));go_wp2
    go_quiet (fail)
    go_wp2;exact Qx
  .have e:k=30:=by omega
   subst e;go_wp2;go_ret;rw[x3 _ (fun j b d=>m.o j b (by have:=(List.getElem?_eq_some_iff.1 d).1;simpa[kK,vE,BY]using this) d)];exact⟨rfl,g⟩
theorem HB(s t:C2)(h:(⟨(xy s.data.toList).toArray⟩:C2)=t)(w:C3):
 Cy 52 #[s] w (Cv t w):=h▸PN s w
