import Derived.Test.YthcmenajdcbnnaaGreatDoorAlEvCk
set_option linter.unusedSimpArgs false
set_option linter.unusedVariables false
set_option maxRecDepth 100000
set_option maxHeartbeats 99000000
namespace Go.Proofs.YthcmenajdcbnnaaGreatDoor
open Go.RowKit Tryz
theorem Qu{p:Prop}(h:p:=by
 replace d:=U (d.o.drewN nq);clear aW aX aY aZ a9 ba bb;obtain⟨⟨av,aw⟩,ax⟩:=d.o.cur.f;obtain⟨⟨b7,b8⟩,b9⟩:=d.o.cur.own;obtain⟨al,am,rfl⟩:=d.o.arr.form;obtain⟨F,G,rfl⟩:=d.o.fnc.form;go_wp2_with fail;obtain⟨aM,f1⟩:=d.o.cur.read;refine bodyPost_ret (v:=.agg #[(al,ars.length,am),(F,fs.length,G)]) (by simp[results,results27,go_sem,aM,f1]) rfl ?_
 exact UZ d.o a2 bf.o):p:=h
theorem Qv{p:Prop}(h:p:=by
 have E:=H.o.2;have Q:=aC.o;have ag:=aG.o;simp only[Q,ag]at *
 omega):p:=h
theorem Qw{p:Prop}(h:p:=by
 have g:=jY e;have i:=(show zJ 0 r c from hF).2.2;have j:=zAg d rfl
 exact⟨O,fun f=>by cases f⟩):p:=h
theorem Qx{p:Prop}(h:p:=by
 go_roundw
 case rel=>exact⟨k+1,O,by go_num,p.o,n.o,yZ g _⟩
 case measure=>simp[intOf];omega):p:=h
variable{b g q B n B':Nat}{V v:C5}{r:List fH}{w W w':C4}{p:Pr}{l:List UInt8}
theorem KD(w:C4):Cz 57 #[.string ⟨#[]⟩] w (Cx (-1:Int) w):=by
 go_enter func57,ntmps57;go_wp2
 go_loop [3,4,5] (fun n i _=>i=.int .i64 0/\n=.int .i64 0) (fun _ i _=>0)
 case atStart=>exact⟨rfl,rfl⟩
 case round=>
  obtain⟨rfl,rfl⟩:=hrel;go_wp2;go_ret;exact⟨rfl,rfl⟩
theorem UY{tj:List fH}(d:jm b V tj (.ok () r) w)(k:Int)(i:gW r≠k):
 Cz 55 #[(b,0),(k:Int)] w fun e w'=>e=.returned (.string ⟨#[]⟩)/\jK b V tj w (.bad r) w':=by
 have a:zc b V tj r false false w:=d;clear d;have f:=fun o=>z8 a o
 have v:=a.lt;have f1:=a.1.frozen 1;have s:=a.1.frozen 2;have j:=C2 (jm b V tj (.ok () r) w) a;obtain⟨g,c,p,t,q,rfl,rfl,m,_,_,c0,c1,_,_,_,_,_⟩:=a.tok;have u:(p:Int)<tj.length:=O
 have x:0<w.heap.size:=O
 have l:=U f;have n:(t.kind != k)=true:=by simpa[gW]using i
 clear a m f i;go_enter func55,ntmps55;go_wp2_with (go_at_call 53;(with_reducible refine(qL j.o false rfl).mono ?_);rintro e _ ⟨rfl,rfl⟩)
 go_region_held3 (fun w'=>w'.cell? (b,0)=some (.slice (some ⟨g,0,none⟩) tj.length c)/\w'.cell? (b,1)=some (.int .i64 p)/\w'.cell? (g,p*3)=some (.int .i64 t.kind)/\w'.cell? (g,p*3+1)=some (.string ⟨t.text.toArray⟩)/\w'.cell? (g,p*3+2)=some (.int .i64 (t.line:Int))/\0<w'.heap.size)
  (first|go_keep|(go_split_ands;refine⟨?_,?_,?_,?_,?_,?_⟩ <;> assumption))
  (fail)
 go_wp2_with fail;go_ret;exact⟨rfl,l.o _⟩
abbrev uD:Obj:=.cells #[(),()] 27
abbrev uo(W:C4)(g:Nat)(c0 c1:C5):C4:=(W.setCell (g,0) c0).setCell (g,1) c1
theorem B4{a b:C5}{T:TypeId}{fr:Nat×Nat}(c:W.heap[g]?=some (.cells #[a,b] T fr))(c0 c1:C5):(uo W g c0 c1).heap[g]?=some (.cells #[c0,c1] T fr):=D3 (D3 c c0) c1
theorem zL.nest2{L:Nat}(a:g<L)(c0 c1:C5):zL L w (uo w g c0 c1):=(zL.set a 0 c0).trans (zL.set a 1 c1)
theorem ki{c0 c1:C5}{T:TypeId}(h:W.heap[g]?=some (.cells #[c0,c1] T (0,0))):(W.cell? (g,0)=some c0/\W.cell? (g,1)=some c1)/\∀o,W.frozen? ⟨g,o,none⟩=false:=by
 refine⟨⟨(Du h 0).trans rfl,(Du h 1).trans rfl⟩,fun o=>?_⟩;simp[World.frozen?,h]
def DX(L:Nat)(w:C4)(a:Pr)(v:C5):Prop:=∃b c,v=.agg #[b,c]/\gN w.heap.size (fW (nS L) w) b a.wa/\gO w.heap.size (fW (nS L) w) c a.funcs
def gA(b:Nat)(V:C5)(tj:List fH)(w:C4)(x:PR Unit)(W:C4)(c0 c1:C5):Prop:=
 jK b V tj w x W/\W.heap[w.heap.size]?=some uD/\W.heap[w.heap.size+1]?=some (.cells #[c0,c1] 27 (0,0))/\k5 b V tj w/\b<w.heap.size
section
variable {b:Nat}{V:C5}{tj:List fH} {w W W':C4}{x y:PR Unit}{c0 c1:C5}
theorem gA.start(a:jm b V tj x w):gA b V tj w x ((w.alloc uD).alloc uD) (.slice none 0 0) (.slice none 0 0):=by
 have c:Cy w ((w.alloc uD).alloc uD):=(Zb.alloc Zr _).alloc Uj _;refine⟨⟨a.below c,fI.wb c a.lt⟩,zu (Ds w uD) _,?_,a.tok,a.lt⟩;have:=Ds (w.alloc uD) uD;rw[zA]at this;exact this
theorem gA.did(h:gA b V tj w x W c0 c1):jK b V tj w x W:=h.1
theorem gA.st(h:gA b V tj w x W c0 c1):jm b V tj x W:=h.1.1
theorem gA.lt(h:gA b V tj w x W c0 c1):b<w.heap.size:=h.2.2.2.2
theorem gA.size(h:gA b V tj w x W c0 c1):w.heap.size+1<W.heap.size:=(Array.getElem?_eq_some_iff.1 h.2.2.1).1
theorem gA.step(h:gA b V tj w x W c0 c1)(g:jK b V tj W y W'):gA b V tj w y W' c0 c1:=
 ⟨h.1.after g,jI g.off (by have:=h.size;omega) Vb h.2.1,jI g.off h.size Vb h.2.2.1,h.2.2.2⟩
theorem gA.alloc(h:gA b V tj w x W c0 c1)(o:Obj):gA b V tj w x (W.alloc o) c0 c1:=⟨h.1.alloc o,zu h.2.1 o,zu h.2.2.1 o,h.2.2.2⟩
theorem gA.own(h:gA b V tj w x W c0 c1):(W.cell? (w.heap.size,0)=some (.slice none 0 0)/\W.cell? (w.heap.size,1)=some (.slice none 0 0))/\∀o,W.frozen? ⟨w.heap.size,o,none⟩=false:=ki h.2.1
theorem gA.f(h:gA b V tj w x W c0 c1):(W.cell? (w.heap.size+1,0)=some c0/\W.cell? (w.heap.size+1,1)=some c1)/\∀o,W.frozen? ⟨w.heap.size+1,o,none⟩=false:=ki h.2.2.1
theorem gA.set(h:gA b V tj w x W c0 c1)(i:Nat)(u:C5):jK b V tj w x (W.setCell (w.heap.size+1,i) u)/\(W.setCell (w.heap.size+1,i) u).heap[w.heap.size]?=some uD:=
 ⟨h.1.set h.2.2.2.1 O Vb i u,(Dw W _ u _ Hg).trans h.2.1⟩
theorem gA.set0(h:gA b V tj w x W c0 c1)(u:C5):gA b V tj w x (W.setCell (w.heap.size+1,0) u) u c1:=⟨(h.set 0 u).1,(h.set 0 u).2,D3 h.2.2.1 u,h.2.2.2⟩
theorem gA.ww(h:gA b V tj w x W c0 c1)(u:C5):gA b V tj w x (W.setCell (w.heap.size+1,1) u) c0 u:=⟨(h.set 1 u).1,(h.set 1 u).2,D3 h.2.2.1 u,h.2.2.2⟩
theorem gA.fin(c:gA b V tj w y W c0 c1){X:PR Pr}(e:X.un=y)(d:ja X fun a=>DX w.heap.size (_root_.Go.Proofs.YthcmenajdcbnnaaGreatDoor.uo W w.heap.size c0 c1) a (.agg #[c0,c1])):
 qk b V tj w X (DX w.heap.size) (.returned (.agg #[c0,c1])) (_root_.Go.Proofs.YthcmenajdcbnnaaGreatDoor.uo W w.heap.size c0 c1):=
 ⟨_,rfl,e▸(c.1.set c.2.2.2.1 Zr Gb 0 c0).set c.2.2.2.1 Zr Gb 1 c1,d⟩
theorem gA.read(h:gA b V tj w x W c0 c1):((W.setCell (w.heap.size,0) c0).setCell (w.heap.size,1) c1).cell? (w.heap.size,0)=some c0/\((W.setCell (w.heap.size,0) c0).setCell (w.heap.size,1) c1).cell? (w.heap.size,1)=some c1:=(ki (B4 h.2.1 c0 c1)).1
end
theorem za4{α β:Type}{x:PR α}{b:α}(c:ja x fun a=>a=b)(F:α->List fH->PR β):x.bind F=x.un.bind fun _ r=>F b r:=by
 cases x with
 |ok a r=>
   obtain rfl:a=b:=c;rfl
 |_=>rfl
def pgK(q:Nat)(p:Pr)(a:Pa)(r:List fH):PR Pr:=
 if a.type=1/\p.funcs=[]/\zq [91] r=true then(p3 a.name r.tail).bind fun x r=>k4 q ⟨p.wa++[x],p.funcs⟩ r
 else(pC q a.type a.name r).bind fun f r=>k4 q ⟨p.wa,p.funcs++[f]⟩ r
theorem YV(h:gW r≠3):k4 (q+1) p r=(jO r).bind fun a r=>pgK q p a r:=by
 rw[k4,Dp h];unfold jO;simp only[zb];rfl
theorem YW(h:gW r=3):k4 (q+1) p r=.ok p r:=by rw[k4,Dq h]
theorem PO{e t:TypeId}{m k l:Nat}{b:C5}{p q:List C5}(f:w.ownsRow B e n v k p)(g:w.ownsRow B t m b l q)(o:e≠t):∀j,v.ownBlock=some j->b.ownBlock≠some j:=by
 intro j a;rcases f.2 with⟨rfl,_⟩|⟨d,_,c,rfl,_,i,_⟩
 .cases a
 .injection a with a
  subst a;exact uJ g (show Is w d e c from i) (fun e=>o e.symm)
structure gG (b:Nat) (V:C5) (all:List fH) (w:C4) (y:PR Unit) (W:C4) (va vf:C5) (ars:List Ar) (fs:List K4):Prop where
 cur:gA b V all w y W va vf
 arr:f4 kA (w.heap.size+2) W va ars
 fnc:f4 kF (w.heap.size+2) W vf fs
 nil:fs=[]->vf=.slice none 0 0
section
variable {b:Nat}{V:C5}{tj:List fH} {w W W':C4}{x y:PR Unit}{va vf:C5}{ars:List Ar}{fs:List K4}
theorem gG.step(h:gG b V tj w x W va vf ars fs)(g:jK b V tj W y W'):gG b V tj w y W' va vf ars fs:=
 ⟨h.cur.step g,h.arr.keep (zL.did g (by have:=h.cur.lt;omega)),h.fnc.keep (zL.did g (by have:=h.cur.lt;omega)),h.nil⟩
theorem gG.drewN(h:gG b V tj w x W va vf ars fs)(n:Nat):gG b V tj w x (W.drewN n) va vf ars fs:=h.step ⟨h.cur.st.drewN n,(fI.refl b _ W).drewN n⟩
theorem gG.drew(h:gG b V tj w x W va vf ars fs):gG b V tj w x W.drew va vf ars fs:=h.step ⟨h.cur.st.below Zb.drew,fI.wb Zb.drew h.cur.st.lt⟩
theorem gG.array{d:C4}{g:C5}{a:Ar}(i:gG b V tj w y W va vf ars [])(l:(W.alloc (.cells #[a.name,(a.size:Int)] 80)).grownBy d va.ownBlock)(u:kn (W.alloc (.cells #[a.name,(a.size:Int)] 80)) va g)
 (s:d.ownsRow (w.heap.size+2) 80 2 g (ars.length+1) (ars.flatMap kA.cs++[.string a.name,.int .i64 a.size])):gA b V tj w y d va vf/\gG b V tj w y (d.setCell (w.heap.size+1,0) g) g vf (ars++[a]) []:=by
 have c:=i.cur;have f:Cy W (W.alloc (.cells #[a.name,(a.size:Int)] 80)):=Zb.alloc Zr _;have q:f4 kA (w.heap.size+2) d g (ars++[a]):=i.arr.app (L:=W.heap.size) trivial (by have:=c.size;omega) (fun k r=>(i.arr.own k r).1) f l u s;have t:∀j,va.ownBlock=some j->w.heap.size+2<=j:=fun j m=>(i.arr.own j m).2
 have n:∀j,j<W.heap.size->j<w.heap.size+2->d.heap[j]?=W.heap[j]?:=fun j m _=>(l.block j (Yb m f.size) (fun e=>by have:=t j e.symm;omega)).trans (f.block j m)
 have v:=c.size;have x:=c.lt;have p:fI b w.heap.size w d:=c.did.off.trans (fI.mk' (l.os.trans f.os) (l.tape.trans f.tape) (l.output.trans f.output) (Dy f.size l.size) c.st.lt fun j m _=>n j (by have:=c.did.off.size;omega) O);have o:gA b V tj w y d va vf:=⟨⟨c.st.move c.2.2.2.1 p (n b c.st.lt O),p⟩,(n _ O O).trans c.2.1,(n _ v O).trans c.2.2.1,c.2.2.2⟩
 refine⟨o,o.set0 g,q.keep (zL.set O 0 g),?_,i.nil⟩;rw[i.nil rfl];exact f4.nil _ _ _
theorem gG.func{d:C4}{l:C5}{s:C3}{t:Int}{g i:C5}(m:gG b V tj w y W va vf ars fs)(o:(W.alloc (.cells #[s,(t:Int),g,i] 93)).grownBy d vf.ownBlock)(M:kn (W.alloc (.cells #[s,(t:Int),g,i] 93)) vf l)
 (I:d.ownsRow (w.heap.size+2) 93 4 l (fs.length+1) (fs.flatMap kF.cs++[.string s,.int .i64 t,g,i])) {L:Nat} (E:w.heap.size+2<=L) (F:∀k,vf.ownBlock=some k->k<L):
 gA b V tj w y d va vf/\∀f,VY L W f (.agg #[s,(t:Int),g,i])->∃q:K4,q.f=f/\gG b V tj w y (d.setCell (w.heap.size+1,1) l) va l ars (fs++[q]):=by
 have a:=m.cur;have n:Cy W (W.alloc (.cells #[s,(t:Int),g,i] 93)):=Zb.alloc Zr _;have J:∀j,vf.ownBlock=some j->w.heap.size+2<=j:=fun j c=>(m.fnc.own j c).2
 have v:∀j,j<W.heap.size->vf.ownBlock≠some j->d.heap[j]?=W.heap[j]?:=fun j c x=>(o.block j (Yb c n.size) (fun e=>x e.symm)).trans (n.block j c)
 have r:∀j,j<W.heap.size->j<w.heap.size+2->d.heap[j]?=W.heap[j]?:=fun j c x=>v j c (fun e=>by have:=J j e;omega)
 have N:=a.size;have P:=a.lt;have z:fI b w.heap.size w d:=a.did.off.trans (fI.mk' (o.os.trans n.os) (o.tape.trans n.tape) (o.output.trans n.output) (Dy n.size o.size) a.st.lt fun j c _=>r j Hp O);have u:gA b V tj w y d va vf:=⟨⟨a.st.move a.2.2.2.1 z (r b a.st.lt O),z⟩,(r _ O O).trans a.2.1,(r _ N O).trans a.2.2.1,a.2.2.2⟩
 refine⟨u,fun f H=>?_⟩;obtain⟨u2,u3,A,B,C⟩:=H;simp only[Value.agg.injEq,Array.mk.injEq,Cb,Value.int.injEq,Value.string.injEq,true_and,and_true]at A;obtain⟨rfl,rfl,rfl,rfl⟩:=A;have G:f4 kF (w.heap.size+2) d l (fs++[⟨f,g,i⟩]):=m.fnc.app (K:=kF) (L:=L) (p:=(⟨f,g,i⟩:K4)) (show gU W.heap.size (fW (nS L) W) g f.params/\f6 W.heap.size (fW (nS L) W) i f.body from⟨B,C⟩) E F n o M I
 have D:f4 kA (w.heap.size+2) d va ars:=by
  refine⟨zQ m.arr.1 fun j c=>v j (m.arr.own j c).1 ?_,fun p _=>trivial⟩;exact PO m.arr.1 m.fnc.1 Uf j c
 exact⟨⟨f,g,i⟩,rfl,u.ww l,D.keep (zL.set O 1 l),G.keep (zL.set O 1 l),fun e=>absurd e Uh⟩
end
theorem VK.imp(c:∀g o d,fK B w g o d->fK B' w' g o d)(a:Ar)(g o:Nat)(b:VK B w a g o):VK B' w' a g o:=⟨c _ _ _ b.1,c _ _ _ b.2⟩
theorem gN.imp(d:∀g o b,fK B w g o b->fK B' w' g o b){l:List Ar}(c:gN B w v l):gN B' w' v l:=vh.imp c fun g o=>uv.imp (fun a g o=>VK.imp d a g o) l g o
theorem VL.imp(b:∀g o c,fK B w g o c->fK B' w' g o c)(a:Fu)(g o:Nat)(d:VL B w a g o):VL B' w' a g o:=by
 obtain⟨e,f,⟨v,i,j⟩,⟨v',k,l⟩⟩:=d;exact⟨b _ _ _ e,b _ _ _ f,⟨v,b _ _ _ i,j.imp b⟩,⟨v',b _ _ _ k,l.imp b⟩⟩
theorem gO.imp(d:∀g o b,fK B w g o b->fK B' w' g o b){l:List Fu}(c:gO B w v l):gO B' w' v l:=vh.imp c fun g o=>uv.imp (fun a g o=>VL.imp d a g o) l g o
def HI(b:Nat)(V:C5)(tj:List fH)(w:C4)(T:PR Pr)(n:Nat)(wr:C4):Prop:=
 ∃(m:Nat) (ars:List Ar) (fs:List K4) (y:PR Unit) (va vf:C5),m<=n/\gG b V tj w y wr va vf ars fs/\T=y.bind (fun _ r=>k4 m ⟨ars,fs.map (·.f)⟩ r)/\(qD y=false->ars.length+fs.length<=yk b wr)/\ars.length+fs.length<=2000000
theorem UZ{tj:List fH}{y:PR Unit}{va vf:C5}{ars:List Ar}{fs:List K4}{T:PR Pr}(a:gG b V tj w y W va vf ars fs)(_:ars.length+fs.length<=2000000)(j:T=y.bind fun _ r=>.ok ⟨ars,fs.map (·.f)⟩ r):qk b V tj w T (DX w.heap.size) (.returned (.agg #[va,vf])) (uo W w.heap.size va vf):=by
 subst j;have e:zL (w.heap.size+2) W (uo W w.heap.size va vf):=zL.nest2 O _ _;have k:=(a.arr.keep e).wa O;have l:=(a.fnc.keep e).funcs O;have i:∀g o d,fK (uo W w.heap.size va vf).heap.size (fW (nS (w.heap.size+2)) (uo W w.heap.size va vf)) g o d->fK (uo W w.heap.size va vf).heap.size (fW (nS w.heap.size) (uo W w.heap.size va vf)) g o d:=(zL.refl (w.heap.size+2) _).cells O;have c:DX w.heap.size (uo W w.heap.size va vf) ⟨ars,fs.map (·.f)⟩ (.agg #[va,vf]):=⟨va,vf,rfl,gN.imp i k,gO.imp i l⟩
 refine a.cur.fin ?_ ?_
 .rw[jj]
  cases y<;>rfl
 .cases y with
  |ok d r=>exact c
  |bad r=>exact⟨_,c⟩
  |deep r=>exact⟨_,c⟩
  |o=>trivial
theorem wI{α:Type}{Y:PR α}{P:α->Prop}(b:ja Y P)(d:zI Y):∃a,P a/\∀{β:Type}(F:α->List fH->PR β),Y.bind F=Y.un.bind fun _ r=>F a r:=by
 cases Y with
 |ok a r=>exact⟨a,b,fun F=>rfl⟩
 |bad r=>obtain⟨a,c⟩:=b;exact⟨a,c,fun F=>rfl⟩
 |deep r=>obtain⟨a,c⟩:=b;exact⟨a,c,fun F=>rfl⟩
 |o=>exact absurd d id
theorem za5{a:Pa}{z:PR Unit}(b:¬(a.type=1/\p.funcs=[]/\zU [91] z=true)):(z.bind fun _ r=>pgK q p a r)=(z.bind fun _ r=>pC q a.type a.name r).bind fun f r=>k4 q ⟨p.wa,p.funcs++[f]⟩ r:=by
 cases z with
 |ok _ r=>
   show pgK q p a r=(pC q a.type a.name r).bind _;unfold pgK;exact congrArg id (Dp b)
 |_=>rfl
theorem YX{a:Pa}(b:a.type=1)(c:p.funcs=[])(d:zq [91] r=true):pgK q p a r=(p3 a.name r.tail).bind fun x r=>k4 q ⟨p.wa++[x],p.funcs⟩ r:=by
 unfold pgK;rw[Dq ⟨b,c,d⟩]
theorem YY{α:Type}{tj:List fH}{X:PR α}(hF:zm 1 r X)(d:jm b V tj X.un W)(_:r.length<=tj.length)(_:0<r.length):
 2*(tj.length-yk b W)+uA b W<2*r.length+1/\(qD X.un=false->tj.length-r.length+1<=yk b W):=by
 cases X with
 |ok a c=>
   have e:zc b V tj c false false W:=d;have g:=jY e;have i:=(show zJ 1 r c from hF).2.2;have j:=FU b W;exact⟨O,fun _=>O⟩
 |bad c=>
   have e:zc b V tj c true false W:=d;exact Qw
 |deep c=>
   have e:zc b V tj c false true W:=d;exact Qw
 |o=>exact absurd d id
theorem wJ{α:Type}{tj:List fH}{va vf:C5}{ars:List Ar}{fs:List K4}{T:PR Pr}{X:PR α}(i:q<=n)(hF:zm 1 r X)(a:gG b V tj w X.un W va vf ars fs)(e:T=X.un.bind fun _ r=>k4 q ⟨ars,fs.map (·.f)⟩ r)
 (j:r.length<=tj.length) (k:0<r.length) (_:ars.length+fs.length<=tj.length-r.length+1) (_:tj.length<=1000000):HI b V tj w T n W/\2*(tj.length-yk b W)+uA b W<2*r.length+1:=by
 obtain⟨c,d⟩:=YY hF a.cur.st j k;exact⟨⟨q,ars,fs,_,va,vf,i,a,e,fun g=>by have:=d g;omega,O⟩,c⟩
theorem HJ{a:Pa}{b:List fH}(f:(jO r).un=.ok () b)(d:ja (jO r) fun p=>p=a)(g:qC r):jO r=.ok a b/\zJ 1 r b:=by
 obtain⟨e,c⟩:=zby f;have hF:=yf g;rw[c]at d hF;obtain rfl:e=a:=d;exact⟨c,hF⟩
theorem DY{α:Type}{k:Nat}{l:List fH}{x:PR α}(h:zm k l x):zm k l x.un:=by
 cases x with
 |ok a r=>exact h
 |bad r=>exact h
 |deep r=>exact h
 |o=>trivial
theorem PP(s:C3)(a:Int)(w:C4)(d:s.size<=281474976710656)(c:xM s.data.toList=true)(b:a=(kT 0 s.data.toList:Nat)):
 Cz 57 #[s] w (Cx (a:Int) w):=by
 subst b;exact sL s w d c
theorem nH{tj:List fH}{x:PR Unit}(af:jm b V tj x w)(bm:zI (x.bind fun _ r=>k4 n ⟨[],[]⟩ r)):
 Cz 27 #[(b,0)] w (qk b V tj w (x.bind fun _ r=>k4 n ⟨[],[]⟩ r) (DX w.heap.size)):=by
 obtain⟨T,ab⟩:=C0 ((x.bind fun _ r=>k4 n ⟨[],[]⟩ r));rw[ab]at bm ⊢;have bA:=U bm;have bY:=U ab.symm;have d:=C2 (gG b V tj w x ((w.alloc uD).alloc uD) (.slice none 0 0) (.slice none 0 0) [] []) ⟨gA.start af,f4.nil _ _ _,f4.nil _ _ _,fun _=>rfl⟩;have cc:=af.lt;clear af bm ab;go_enter func27,ntmps27;go_wp2
 go_loopw [4] (fun _ wr=>HI b V tj w T n wr) (fun _ wr=>2*(tj.length-yk b wr)+uA b wr)
 case atStart=>exact⟨n,[],[],x,_,_,D0 _,d.o,bY.o,fun _=>Dx _,Uh⟩
 case round=>
  obtain⟨bT,bI,bQ,bR,bS⟩:=info_parts XI;have aj:=U (Dt bI (Dt bQ (Dt bR bS)));obtain⟨br,bJ,bN,bO,bP⟩:=info_parts XJ;have M:=U (Dt bJ (Dt bN (Dt bO bP)));clear bI bQ bR bS bJ bN bO bP;obtain⟨m,ars,fs,y,va,vf,_,ah,ab,a3,a2⟩:=hrel;replace d:=U ah;cases ho:qD y with
  |true=>
    have bf:=C2 (T=y.bind fun _ r=>.ok ⟨ars,fs.map (·.f)⟩ r) (ab.trans (i5 ho _ _));have bW:=U ho;obtain⟨_,_,dp,bL,_,_⟩:=ah.cur.st.box;obtain⟨g,c,k,t,q,rfl,rfl,ad,b1,b3,aW,aX,aY,aZ,a9,ba,bb⟩:=bL.tok;have b2:(k:Int)<tj.length:=O
    clear ad bL ho ab a3 ah;go_wp2
    go_quiet ((go_at_call 53;exact Calls.quiet_of_same (qL (d.o.drewN _).cur.st true bW.o)))
    exact Qu
  |false=>
    obtain⟨r,rfl⟩:∃r,y=.ok () r:=by
     cases y with
     |ok _ r=>exact⟨r,rfl⟩
     |bad r=>cases ho
     |deep r=>cases ho
     |o=>exact absurd ah.cur.st id
    obtain⟨a4,aS,aO,bk,aT⟩:=yI ah.cur.did;have ak:=a3 rfl;rw[a4]at ak;have bl:=FT (show zc b V tj r false false wr from ah.cur.st)
    obtain⟨q,rfl⟩:∃q,m=q+1:=by
     cases m with
     |zero=>have E:=bA.o;rw[ab]at E;exact absurd (show zI (k4 0 ⟨ars,fs.map (·.f)⟩ r)from E) (by rw[k4];exact id)
     |succ q=>exact⟨q,rfl⟩
    have a1:T=k4 (q+1) ⟨ars,fs.map (·.f)⟩ r:=ab;obtain⟨g,c,k,t,_,rfl,bp,ad,b1,b3,aW,aX,aY,aZ,a9,ba,bb⟩:=(show zc b V tj r false false wr from ah.cur.st).tok;have b2:(k:Int)<tj.length:=O
    have a5:gW r=t.kind:=by rw[bp];rfl
    cases hk3:decide (t.kind=3)with
    |true=>
      have aL:t.kind=3:=of_decide_eq_true hk3;have b0:(t.kind != 3)=false:=by simpa using hk3
      have bf:=C2 (T=(PR.ok () r).bind fun _ r=>.ok ⟨ars,fs.map (·.f)⟩ r) (a1.trans (YW (a5.trans aL)));clear ad ho ab a1 a3 ah hk3 aL bl a4 a5 bp bk;go_wp2
      go_quiet ((go_at_call 53;exact Calls.quiet_of_same (qL (d.o.drewN _).cur.st false rfl)))
      exact Qu
    |false=>
      have aL:¬t.kind=3:=of_decide_eq_false hk3;have b0:(t.kind != 3)=true:=by simpa using hk3
      have aV:=U (a1.trans (YV (a5▸aL)));have aU:=U bk;have aC:=U a4;have aG:=U bl;clear ad ho ab a1 a3 ah hk3 aL bl a4 a5 bp bk;go_wp2
      go_quiet ((go_at_call 53;exact Calls.quiet_of_same (qL (d.o.drewN _).cur.st false rfl)))
      replace d:=U (d.o.drewN nq);clear aW aX aY aZ a9 ba bb
      go_wp2_with (first
       | (go_at_call 54;(with_reducible refine(uT d.o.cur.st).mono ?_);rintro e ca ⟨_,rfl,i,C⟩
          obtain⟨az,rfl,bH⟩:=KB (r:=r) C;have bv:=U bH;replace d:=C2 (gG b _ tj w (k3 r).un ca _ _ _ _) (d.o.step i)
          clear i C bH))
      go_at_call 55
      (with_reducible refine(y9 d.o.cur.st 1 Uf).mono ?_)
      rintro e aA ⟨K,rfl,i,C⟩;have bu:=U (l0 bv.o C);replace d:=C2 (gG b _ tj w (jO r).un aA _ _ _ _) ((o7 r).symm▸d.o.step i);replace aV:=U (aV.o.trans (za4 bu.o _));clear i C bv;have cd:=d.o.cur.st.lt;dsimp only;by_cases aq:az=1/\fs=[]/\zU [91] (jO r).un=true
      .obtain⟨rfl,rfl,bG⟩:=aq
       obtain⟨ay,a8,a6⟩:=ux bG;obtain⟨b4,bh⟩:=HJ a8 bu.o aU.o;have bq:vf=.slice none 0 0:=d.o.nil rfl;subst bq
       have bi:T=(p3 K ay.tail).bind fun x r=>k4 q ⟨ars++[x],[]⟩ r:=by
        rw[aV.o,a8];exact YX rfl rfl a6
       rw[a8]at d;have a0:zJ 1 r ay.tail:=(bh.trans (zJ.sign bh.2.1 a6)).mono O;obtain⟨j,bo⟩:∃j,j=ay.tail:=⟨_,rfl⟩
       rw[<-bo]at bi a0;have be:=U bo;have bx:=U a0;have aK:=C2 (zU (⟨#[91]⟩:C3).data.toList (PR.ok () ay)=true) a6;have bz:=U bi;have bt:=U a0.2.1;obtain⟨⟨av,aw⟩,ax⟩:=d.o.cur.f;clear a8 b4 bh bi bo a0 a6 bG;by_cases an:gW j=0
       .obtain⟨ap,a7⟩:∃ap:C3,ap=⟨(pZ j).toArray⟩:=⟨_,rfl⟩
        have bX:=U a7;have aH:=U an
        have bw:=U (show ap.size<=281474976710656/\xM ap.data.toList=true by
         rw[a7];have b5:zc b _ tj ay false false aA:=d.o.cur.st;have bM:=(zc.next b5 (by rw[(uR (show zq [91] ay=true from aK.o)).1];decide))
         rw[<-be.o]at bM;obtain⟨E,Q,_⟩:=bM.num an
         exact⟨E,Q⟩)
        obtain⟨au,bn⟩:∃au:Int,au=(kT 0 ap.data.toList:Nat):=⟨_,rfl⟩
        have bV:=U bn
        have bg:=U (show T=((((PR.ok () j.tail).bind fun _ r=>zN [93] r).bind fun _ r=>zN [59] r)).un.bind fun _ r=>k4 q ⟨ars++[⟨K,au⟩],([]:List K4).map (·.f)⟩ r by
         rw[bz.o,rD,bn,a7];unfold p3 qt;rw[Dq an];show((zN [93] j.tail).bind fun _ r=>(zN [59] r).bind fun _ r=>PR.ok _ r).bind _=((zN [93] j.tail).bind fun _ r=>zN [59] r).bind _;simp only[zb]
         rfl)
        clear a7 an bn
        go_wp2_with (first
        | (go_at_call 56;(with_reducible refine(qA d.o.cur.st _ aK.o).mono ?_);rintro e aB ⟨rfl,i⟩
           replace d:=U (show gG b _ tj w (.ok () j) aB _ _ _ _ by rw[be.o];exact d.o.step i)
           clear i)
        | (go_at_call 55;(with_reducible refine(hQ d.o.cur.st 0 Uf aH.o ap bX.o).mono ?_);rintro e D ⟨rfl,i⟩
           replace d:=C2 (gG b _ tj w (.ok () j.tail) D _ _ _ _) (d.o.step i)
           clear i)
        |(go_at_call 57;(with_reducible refine(PP ap _ _ bw.o.1 bw.o.2 bV.o).mono ?_);rintro e D ⟨rfl,rfl⟩)
        | (go_at_call 58;(with_reducible refine(zg d.o.cur.st ⟨#[93]⟩).mono ?_);rintro e ai ⟨rfl,i⟩
           replace d:=C2 (gG b _ tj w ((PR.ok () j.tail).bind fun _ r=>zN [93] r) ai _ _ _ _) (d.o.step i)
           clear i)
        | (go_at_call 58;(with_reducible refine(zg d.o.cur.st ⟨#[59]⟩).mono ?_);rintro e w8 ⟨rfl,i⟩
           replace d:=C2 (gG b _ tj w (((PR.ok () j.tail).bind fun _ r=>zN [93] r).bind fun _ r=>zN [59] r) w8 _ _ _ _) (d.o.step i);obtain⟨⟨av,aw⟩,ax⟩:=d.o.cur.f;obtain⟨al,am,rfl⟩:=d.o.arr.form;have s:=U (d.o.arr.pre [.string K,.int .i64 (au)] (by have:=d.o.cur.size;omega))
           clear i)
        | (at_builtin;refine qJ rfl (.tmp 48) (.tmp 52) _ rfl (w.heap.size+2) 80 bT _ 2 24 underlying24 aj.o.1 aj.o.2.1 aj.o.2.2.1 aj.o.2.2.2 rfl O (.slice al ars.length am) ars.length _ rfl Xt ⟨w8.heap.size,0,none⟩ 1 1 [.string K,.int .i64 (au)] rfl rfl Xq Um Ul O Xr O ?_
           intro bc w9 B I J;obtain⟨F,G,rfl⟩:=zY B;have A:=U (d.o.array (a:=⟨K,au⟩) I J B);have bZ:=A.o.1.f.2;have b6:=A.o.1.f.1.1
           clear B I J))
        have H:=U (wJ (q:=q) (n:=n) (X:=((PR.ok () j.tail).bind fun _ r=>zN [93] r).bind fun _ r=>zN [59] r) O (zm.from bx.o (zm.from (n:=0) (zJ.tail bt.o (by rw[aH.o];decide)) ((zM (bt.o.tail (by rw[aH.o];decide)) _).bind (m:=0) (n:=0) (fun _ r _ ao=>(zM ao _).mono O) O) O) O) (rD (((PR.ok () j.tail).bind fun _ r=>zN [93] r).bind fun _ r=>zN [59] r)▸A.o.2) bg.o aS aT Vo aO);go_roundw
        case rel=>exact H.o.1
        case measure=>
         exact Qv
       .have aH:=U an
        have bg:=U (show T=((((PR.bad j:PR Unit).bind fun _ r=>zN [93] r).bind fun _ r=>zN [59] r)).un.bind fun _ r=>k4 q ⟨ars++[⟨K,-1⟩],([]:List K4).map (·.f)⟩ r by
         rw[bz.o];unfold p3 qt;rw[Dp an]
         rfl)
        clear an
        go_wp2_with (first
        | (go_at_call 56;(with_reducible refine(qA d.o.cur.st _ aK.o).mono ?_);rintro e aB ⟨rfl,i⟩
           replace d:=U (show gG b _ tj w (.ok () j) aB _ _ _ _ by rw[be.o];exact d.o.step i)
           clear i)
        | (go_at_call 55;(with_reducible refine(UY d.o.cur.st 0 aH.o).mono ?_);rintro e D ⟨rfl,i⟩
           replace d:=C2 (gG b _ tj w (.bad j) D _ _ _ _) (d.o.step i)
           clear i)
        |(go_at_call 57;(with_reducible refine(KD _).mono ?_);rintro e D ⟨rfl,rfl⟩)
        | (go_at_call 58;(with_reducible refine(zg d.o.cur.st ⟨#[93]⟩).mono ?_);rintro e ai ⟨rfl,i⟩
           replace d:=C2 (gG b _ tj w ((PR.bad j:PR Unit).bind fun _ r=>zN [93] r) ai _ _ _ _) (d.o.step i)
           clear i)
        | (go_at_call 58;(with_reducible refine(zg d.o.cur.st ⟨#[59]⟩).mono ?_);rintro e w8 ⟨rfl,i⟩
           replace d:=C2 (gG b _ tj w (((PR.bad j:PR Unit).bind fun _ r=>zN [93] r).bind fun _ r=>zN [59] r) w8 _ _ _ _) (d.o.step i);obtain⟨⟨av,aw⟩,ax⟩:=d.o.cur.f;obtain⟨al,am,rfl⟩:=d.o.arr.form;have s:=U (d.o.arr.pre [.string K,.int .i64 (-1)] (by have:=d.o.cur.size;omega))
           clear i)
        | (at_builtin;refine qJ rfl (.tmp 48) (.tmp 52) _ rfl (w.heap.size+2) 80 bT _ 2 24 underlying24 aj.o.1 aj.o.2.1 aj.o.2.2.1 aj.o.2.2.2 rfl O (.slice al ars.length am) ars.length _ rfl Xt ⟨w8.heap.size,0,none⟩ 1 1 [.string K,.int .i64 (-1)] rfl rfl Xq Um Ul O Xr O ?_
           intro bc w9 B I J;obtain⟨F,G,rfl⟩:=zY B;have A:=U (d.o.array (a:=⟨K,-1⟩) I J B);have bZ:=A.o.1.f.2;have b6:=A.o.1.f.1.1
           clear B I J))
        have H:=U (wJ (q:=q) (n:=n) (X:=((PR.bad j:PR Unit).bind fun _ r=>zN [93] r).bind fun _ r=>zN [59] r) O (show zJ 0 r j from bx.o.mono O) (rD (((PR.bad j:PR Unit).bind fun _ r=>zN [93] r).bind fun _ r=>zN [59] r)▸A.o.2) bg.o aS aT Vo aO);go_roundw
        case rel=>exact H.o.1
        case measure=>
         exact Qv
      .have bj:=aV.o.trans (za5 (q:=q) (p:=⟨ars,fs.map (·.f)⟩) (a:=⟨K,az⟩) (z:=(jO r).un) (fun af=>aq ⟨af.1,by simpa using af.2.1,af.2.2⟩))
       have aJ:=U bj;have ae:=U (show zI ((jO r).un.bind fun _ r=>pC q az K r)by have E:=bA.o;rw[bj]at E;exact qM E);clear bj;obtain⟨⟨av,aw⟩,ax⟩:=d.o.cur.f;by_cases E:az=1
       .subst E
        cases fs with
        |nil=>
          have bq:vf=.slice none 0 0:=d.o.nil rfl;subst bq;obtain⟨fs,ar⟩:∃fs:List K4,fs=[]:=⟨_,rfl⟩
          rw[<-ar]at d aJ ak a2;clear ar
          have aK:=U (show zU (⟨#[91]⟩:C3).data.toList (jO r).un=false by
           cases af:zU [91] (jO r).un with
           |true=>exact absurd ⟨rfl,rfl,af⟩ aq
           |false=>rfl)
          clear aq
          go_wp2_with (first
           | (go_at_call 56;(with_reducible refine(zE d.o.cur.st _ aK.o).mono ?_);rintro e aB ⟨rfl,i⟩
              replace d:=U (d.o.step i);obtain⟨⟨av,aw⟩,ax⟩:=d.o.cur.f
              clear i))
          have aI:=U d.o.fnc.own
          go_region_law (first
           | (refine qY rfl (.tmp 56) (.tmp 61) _ rfl (w.heap.size+2) 93 br _ 4 72 underlying25 M.o.1 M.o.2.1 M.o.2.2.1 M.o.2.2.2 rfl O (.slice none 0 0) fs.length _ rfl Xt ⟨D.heap.size,0,none⟩ 1 1 [.string Z,.int .i64 aa,.slice N R W,.slice P S Y] rfl rfl Xq Um Ul O Xr O ?_
              intro bc ai B I J;obtain⟨bs,bC,rfl⟩:=zY B;have A:=U (l.o.func (L:=aB.heap.size) I J B aF.o fun k ad=>(aI.o k ad).1);have aQ:ai.cell? (w.heap.size+1,1)=some (.slice none 0 0):=A.o.1.f.1.2;have bF:=A.o.1.f.2
              clear B I J)
           | (go_simp;go_at_call 59;(refine(DW d.o.drew.cur.st ae.o).mono ?_);rintro e D ⟨v,rfl,i,C⟩
              obtain⟨Z,aa,N,R,W,P,S,Y,rfl⟩:=o6 C ae.o;have aD:=U C;have l:=U (d.o.drew.step i);have aF:=C2 (w.heap.size+2<=aB.heap.size) d.o.cur.size;have aQ:D.cell? (w.heap.size+1,1)=some (.slice none 0 0):=l.o.cur.f.1.2;have bK:(D.alloc (.cells #[Z,(aa:Int),(N,R,W),(P,S,Y)] 93)).cell? (w.heap.size+1,1)=some (.slice none 0 0):=(l.o.cur.alloc _).f.1.2;have bD:=l.o.cur.f.2;have s:=U (l.o.fnc.pre [.string Z,.int .i64 aa,.slice N R W,.slice P S Y] Jp)
              clear i C))
          all_goals
           go_wp2;have aE:=U (wI aD.o ae.o)
           have H:=U (show HI b _ tj w T n _/\2*(tj.length-yk b _)+uA b _<2*r.length+1 by
            obtain⟨f,aP,hF⟩:=aE.o;obtain⟨bU,aR,aN⟩:=A.o.2 f aP;refine wJ (q:=q) (X:=(jO r).un.bind fun _ r=>pC q 1 K r) O ?_ aN ?_ aS aT Vo aO
            .exact(DY (yf aU.o)).bind (m:=0) (fun _ r _ ao=>(hP ao).mono O) O
            .rw[aJ.o,hF,Yj,<-aR]
             rfl)
           go_roundw
           case rel=>exact H.o.1
           case measure=>
            exact Qv
        |cons aM ft=>
          obtain⟨fs,ar⟩:∃fs,fs=aM::ft:=⟨_,rfl⟩
          have ce:0<fs.length:=by rw[ar];simp
          rw[<-ar]at d aJ ak a2;have cf:((fs.length:Int) == 0)=false:=by rw[beq_eq_false_iff_ne];omega
          obtain⟨F,G,rfl⟩:=d.o.fnc.form;clear aq ar;go_wp2_with fail;have aI:=U d.o.fnc.own
          go_region_law (first
           | (refine qY rfl (.tmp 56) (.tmp 61) _ rfl (w.heap.size+2) 93 br _ 4 72 underlying25 M.o.1 M.o.2.1 M.o.2.2.1 M.o.2.2.2 rfl O (.slice F fs.length G) fs.length _ rfl Xt ⟨D.heap.size,0,none⟩ 1 1 [.string Z,.int .i64 aa,.slice N R W,.slice P S Y] rfl rfl Xq Um Ul O Xr O ?_
              intro bc ai B I J;obtain⟨bs,bC,rfl⟩:=zY B;have A:=U (l.o.func (L:=aA.heap.size) I J B aF.o fun k ad=>(aI.o k ad).1);have aQ:ai.cell? (w.heap.size+1,1)=some (.slice F fs.length G):=A.o.1.f.1.2;have bF:=A.o.1.f.2
              clear B I J)
           | (go_simp;go_at_call 59;(refine(DW d.o.drew.cur.st ae.o).mono ?_);rintro e D ⟨v,rfl,i,C⟩
              obtain⟨Z,aa,N,R,W,P,S,Y,rfl⟩:=o6 C ae.o;have aD:=U C;have l:=U (d.o.drew.step i);have aF:=C2 (w.heap.size+2<=aA.heap.size) d.o.cur.size;have aQ:D.cell? (w.heap.size+1,1)=some (.slice F fs.length G):=l.o.cur.f.1.2;have bK:(D.alloc (.cells #[Z,(aa:Int),(N,R,W),(P,S,Y)] 93)).cell? (w.heap.size+1,1)=some (.slice F fs.length G):=(l.o.cur.alloc _).f.1.2;have bD:=l.o.cur.f.2;have s:=U (l.o.fnc.pre [.string Z,.int .i64 aa,.slice N R W,.slice P S Y] Jp)
              clear i C))
          all_goals
           go_wp2;have aE:=U (wI aD.o ae.o)
           have H:=U (show HI b _ tj w T n _/\2*(tj.length-yk b _)+uA b _<2*r.length+1 by
            obtain⟨f,aP,hF⟩:=aE.o;obtain⟨bU,aR,aN⟩:=A.o.2 f aP;refine wJ (q:=q) (X:=(jO r).un.bind fun _ r=>pC q 1 K r) O ?_ aN ?_ aS aT Vo aO
            .exact(DY (yf aU.o)).bind (m:=0) (fun _ r _ ao=>(hP ao).mono O) O
            .rw[aJ.o,hF,Yj,<-aR]
             rfl)
           go_roundw
           case rel=>exact H.o.1
           case measure=>
            exact Qv
       .have cb:(az == 1)=false:=by simpa using E
        obtain⟨F,G,rfl⟩:=d.o.fnc.form;clear aq E;go_wp2_with fail;have aI:=U d.o.fnc.own
        go_region_law (first
         | (refine qY rfl (.tmp 56) (.tmp 61) _ rfl (w.heap.size+2) 93 br _ 4 72 underlying25 M.o.1 M.o.2.1 M.o.2.2.1 M.o.2.2.2 rfl O (.slice F fs.length G) fs.length _ rfl Xt ⟨D.heap.size,0,none⟩ 1 1 [.string Z,.int .i64 aa,.slice N R W,.slice P S Y] rfl rfl Xq Um Ul O Xr O ?_
            intro bc ai B I J;obtain⟨bs,bC,rfl⟩:=zY B;have A:=U (l.o.func (L:=aA.heap.size) I J B aF.o fun k ad=>(aI.o k ad).1);have aQ:ai.cell? (w.heap.size+1,1)=some (.slice F fs.length G):=A.o.1.f.1.2;have bF:=A.o.1.f.2
            clear B I J)
         | (go_simp;go_at_call 59;(refine(DW d.o.drew.cur.st ae.o).mono ?_);rintro e D ⟨v,rfl,i,C⟩
            obtain⟨Z,aa,N,R,W,P,S,Y,rfl⟩:=o6 C ae.o;have aD:=U C;have l:=U (d.o.drew.step i);have aF:=C2 (w.heap.size+2<=aA.heap.size) d.o.cur.size;have aQ:D.cell? (w.heap.size+1,1)=some (.slice F fs.length G):=l.o.cur.f.1.2;have bK:(D.alloc (.cells #[Z,(aa:Int),(N,R,W),(P,S,Y)] 93)).cell? (w.heap.size+1,1)=some (.slice F fs.length G):=(l.o.cur.alloc _).f.1.2;have bD:=l.o.cur.f.2;have s:=U (l.o.fnc.pre [.string Z,.int .i64 aa,.slice N R W,.slice P S Y] Jp)
            clear i C))
        all_goals
         go_wp2;have aE:=U (wI aD.o ae.o)
         have H:=U (show HI b _ tj w T n _/\2*(tj.length-yk b _)+uA b _<2*r.length+1 by
          obtain⟨f,aP,hF⟩:=aE.o;obtain⟨bU,aR,aN⟩:=A.o.2 f aP;refine wJ (q:=q) (X:=(jO r).un.bind fun _ r=>pC q az K r) O ?_ aN ?_ aS aT Vo aO
          .exact(DY (yf aU.o)).bind (m:=0) (fun _ r _ ao=>(hP ao).mono O) O
          .rw[aJ.o,hF,Yj,<-aR]
           rfl)
         go_roundw
         case rel=>exact H.o.1
         case measure=>
          exact Qv
theorem wK(l:List UInt8):l.takeWhile qq=l.take (xN l):=List.prefix_iff_eq_take.1 (Cs _)
theorem HK(_:0<xN l):wQ l=(yX (l.take (xN l))).map fun k=>(k,l.take (xN l)):=by
 unfold wQ
 rw[Dq (by intro e;have:xN l=0:=(by unfold xN;rw[e];rfl);omega),wK]
theorem HL(h:xN l=0):wQ l=if yA l≠[]then some (2,yA l)else none:=by
 unfold wQ;rw[Dp (by rw[wK,h];simp)]
theorem nI(l:List UInt8):l.take (yA l).length=yA l:=by
 have h:(yA l).isPrefixOf l=true:=by
  unfold yA;cases hf:g8.find? (fun t=>Lib.hasPrefix l t)with
  |none=>simp
  |some t=>exact List.find?_some (p:=fun t=>Lib.hasPrefix l t) hf
 exact(List.prefix_iff_eq_take.1 (List.isPrefixOf_iff_prefix.1 h)).symm
theorem U0(l:List UInt8):(yA l).length<=l.length:=by
 have:=congrArg List.length (nI l);rw[Yg]at this;omega
theorem uI.below{a:List fH}(b:uI w B v a)(c:Cy w w'):uI w' B v a:=qS b c Zr
theorem nJ{k:Int}{t:List UInt8}(a:wQ l=some (k,t)):l.take t.length=t/\0<t.length/\t.length<=l.length:=by
 by_cases d:0<xN l
 .rw[HK d]at a
  obtain⟨g,_,e⟩:=Option.map_eq_some_iff.1 a;injection e with c b;subst b;have:=QD l;rw[Yg];exact⟨by rw[Cc this],O,O⟩
 .rw[HL O]at a
  split at a
  .rename_i f
   injection a with a;injection a with c b;subst b;exact⟨nI l,List.length_pos_iff.2 f,U0 l⟩
  .cases a
def xe(w:C4)(l:List UInt8)(e:Ending)(w':C4):Prop:=
 Cy w w'/\match (qF l 1).2 with
  |none=>∃v,e=.returned (.tuple #[v,.int .i64 0,.int .i64 0])/\uI w' w.heap.size v (qF l 1).1
  |some a=>e=.returned (.tuple #[.slice none 0 0,.int .i64 20,.int .i64 (a:Int)])
theorem uI.nil(w:C4)(B:Nat):uI w B (.slice none 0 0) []:=⟨rfl,.inl ⟨rfl,rfl⟩⟩
theorem U1{a:Nat}{k:Int}{t:List UInt8}(f:nU l=0)(b:wQ l=some (k,t)):
 qF l a=(⟨k,t,a⟩::(qF (l.drop t.length) a).1,(qF (l.drop t.length) a).2):=by
 obtain⟨_,_,d⟩:=nJ b;cases l with
 |nil=>rw[D5]at d;omega
 |cons c r=>
   rw[y5 f,b]
   have e:(c::r).drop t.length=r.drop (t.length-1):=by
    obtain⟨m,g⟩:∃m,t.length=m+1:=⟨t.length-1,O⟩
    rw[g,List.drop_succ_cons];rfl
   rw[e]
theorem U2{a:Nat}(d:nU l=0)(e:l≠[])(b:wQ l=none):qF l a=([],some a):=by
 cases l with
 |nil=>exact absurd rfl e
 |cons c r=>rw[y5 d,b]
theorem U3(a:Nat):qF [] a=([⟨3,[],a⟩],none):=by rw[qF]
def vF:List (List UInt8):=[[60,60],[62,62],[60,61],[62,61],[61,61],[33,61],[38,38],[124,124]]
def kL:List (List UInt8):=[62,62,62]::(vF++B6)
def KE:Array C5:=(kL.map fun t=>Value.string ⟨t.toArray⟩).toArray
theorem PQ(k:Nat)(b:k<30):∃t,kL[k]?=some t/\KE[k]?=some (.string ⟨t.toArray⟩):=by
 have a:k<kL.length:=by simpa[kL,vF,B6]using b
 refine⟨kL[k],Dz a,?_⟩;unfold KE;rw[List.getElem?_toArray,Yn,Dz a];rfl
theorem PS{α:Type}(p:α->Bool)(b e:List α)(d:∀a,a∈b↔a∈e)(g:∀a v,a∈b->v∈b->p a=true->p v=true->a=v):b.find? p=e.find? p:=by
 cases hx:b.find? p with
 |none=>
   rw[List.find?_eq_none]at hx;exact(List.find?_eq_none.2 fun a c=>hx a ((d a).2 c)).symm
 |some a=>
   have f:=List.find?_some hx;have c:=List.mem_of_find?_eq_some hx;cases hy:e.find? p with
   |none=>exact absurd f (List.find?_eq_none.1 hy a ((d a).1 c))
   |some v=>rw[g a v c ((d v).2 (List.mem_of_find?_eq_some hy)) f (List.find?_some hy)]
theorem lI(l:List UInt8):kL.find? (fun t=>Lib.hasPrefix l t)=g8.find? (fun t=>Lib.hasPrefix l t):=by
 have a:vF.find? (fun t=>Lib.hasPrefix l t)=HZ.find? (fun t=>Lib.hasPrefix l t):=by
  refine PS _ _ _ (fun e=>(show vF.Perm HZ by decide).mem_iff) (fun e v g i f a=>?_);have d:∀x,x∈vF->x.length=2:=Uf
  have b:=List.prefix_iff_eq_take.1 (List.isPrefixOf_iff_prefix.1 f);have c:=List.prefix_iff_eq_take.1 (List.isPrefixOf_iff_prefix.1 a);rw[d e g]at b;rw[d v i]at c;rw[b,c]
 unfold kL g8;rw[List.find?_cons,List.find?_cons,List.find?_append,List.find?_append,a]
theorem HM(l:List UInt8)(k:Nat)(t:List UInt8)(b:kL[k]?=some t)(d:Lib.hasPrefix l t=true)(c:∀(j:Nat) a,j<k->kL[j]?=some a->Lib.hasPrefix l a=false):yA l=t:=by
 unfold yA;rw[<-lI,rQ (fun t=>Lib.hasPrefix l t) _ k t b d c];rfl
theorem y2(l:List UInt8)(b:∀(j:Nat) a,kL[j]?=some a->Lib.hasPrefix l a=false):yA l=[]:=by
 unfold yA;rw[<-lI,H0 (fun t=>Lib.hasPrefix l t) _ b];rfl
theorem pX(s a:C3)(t:List UInt8)(e:(⟨t.toArray⟩:C3)=a)(c:a.size<=s.size):((s.extract 0 a.size).toList == a.toList)=Lib.hasPrefix s.data.toList t:=by
 subst e;have d:(⟨t.toArray⟩:C3).toList=t:=by rw[Ym]
 have b:(⟨t.toArray⟩:C3).size=t.length:=rfl;rw[b]at c;rw[<-Lib.hasPrefix_of_take,Lib.extract_toList,d,b,decide_eq_true (by rw[<-Yf];exact c),Bool.true_and];rfl
theorem wL(s b:C3)(t:List UInt8)(d:(⟨t.toArray⟩:C3)=b)(a:¬b.size<=s.size):Lib.hasPrefix s.data.toList t=false:=by
 subst d;have c:(⟨t.toArray⟩:C3).size=t.length:=rfl;rw[c]at a;rw[<-Lib.hasPrefix_of_take,decide_eq_false (by rw[<-Yf];exact a),Bool.false_and]
theorem PT(s:C3)(w:C4):
 Cz 52 #[s] w (Cw (.string ⟨(yA s.data.toList).toArray⟩) w):=by
 go_enter func52,ntmps52;go_wp2
 go_loopw [4] (fun i wr=>∃k:Nat,k<=30/\i=.int .i64 k/\(∀(j:Nat) b,j<k->kL[j]?=some b->Lib.hasPrefix s.data.toList b=false)/\Is wr w.heap.size 9 KE/\Cy w wr) (fun i _=>30-(intOf i).toNat)
 case atStart=>exact⟨0,O,rfl,fun j b z=>absurd z O,Ds w _,Zb.alloc Zr _⟩
 case round=>
  obtain⟨k,_,rfl,y,x,g⟩:=hrel;have m:=U y;have n:=U x;clear y x;by_cases B:k<30
  .obtain⟨t,A,q⟩:=PQ k B
   obtain⟨a,r⟩:∃a:C3,(⟨t.toArray⟩:C3)=a:=⟨_,rfl⟩
   rw[r]at q;have D:wr.cell? (w.heap.size,k)=some (.string a):=(n.o.cell k).trans q;have u:=U A;have f:=U r;clear A q r
   have v:Do (Lib.hasPrefix s.data.toList t=false->∀(j:Nat) b,j<k+1->kL[j]?=some b->Lib.hasPrefix s.data.toList b=false):=by
    intro C j b z d;by_cases e:j=k
    .subst e
     have:=u.o.symm.trans d;injection this with this;exact this▸C
    .exact m.o j b O d
   by_cases l:a.size<=s.size
   .go_wp2
    go_quiet (fail)
    go_wp2
    .have c:((s.extract 0 a.size).toList == a.toList)=true:=by assumption
     rw[pX s a t f.o l]at c;go_ret;rw[HM _ k t u.o c m.o,f.o];exact⟨rfl,yZ g _⟩
    .have c:((s.extract 0 a.size).toList == a.toList)=false:=by assumption
     rw[pX s a t f.o l]at c;have p:=U (v.o c);clear c;exact Qx
   .have E:decide (a.size<=s.size)=false:=by simpa using l
    have p:=U (v.o (wL s a t f.o l));go_wp2
    go_quiet (fail)
    go_wp2;exact Qx
  .have e:k=30:=by omega
   subst e;go_wp2;go_ret;rw[y2 _ (fun j b d=>m.o j b (by have:=(List.getElem?_eq_some_iff.1 d).1;simpa[kL,vF,B6]using this) d)];exact⟨rfl,g⟩
theorem HN(s t:C3)(h:(⟨(yA s.data.toList).toArray⟩:C3)=t)(w:C4):
 Cz 52 #[s] w (Cw t w):=h▸PT s w
