import Derived.Test.YthcmenajdcbnnaaGreatDoorAnTreeRead
set_option linter.unusedSimpArgs false
set_option linter.unusedVariables false
set_option maxRecDepth 100000
namespace Go.Proofs.YthcmenajdcbnnaaGreatDoor
open Go.RowKit Tryz
theorem Ok{p:Prop}(h:p:=by
 have t:=(iC (d:=d) p.o a.o F.o E.o G.o K.o J.o (fun k x=>(H.o k x).1) Jq O g O af.o i).at;have aF:=am.o;simp[nM]
 omega):p:=h
theorem Ol{p:Prop}(h:p:=by
 rw[k]at b;injection b with f _;subst f
 exact .inr ⟨_,rfl,Dy _⟩):p:=h
def eE(p:Nat->Bool)(w:C3):C3:={ w with heap:=w.heap.mapIdx fun i o=>if p i then .cells #[] 0 (0,0)else o }
theorem K3(p:Nat->Bool)(w:C3)(k:Nat):(eE p w).heap[k]?=(w.heap[k]?).map fun o=>if p k then .cells #[] 0 (0,0)else o:=by simp[eE,Array.getElem?_mapIdx]
theorem lW{p:Nat->Bool}{w:C3}{k:Nat}(h:p k=false):(eE p w).heap[k]?=w.heap[k]?:=by
 rw[K3,h];cases w.heap[k]? <;> rfl
theorem qS{p:Nat->Bool}{B:Nat}{w:C3}{g o:Nat}{c:C4}(b:dZ B (eE p w) g o c):p g=false/\dZ B w g o c:=by
 cases hp:p g with
 |false=>exact⟨rfl,b.1,(D4 (w:=eE p w) (w':=w) (lW hp).symm).trans b.2⟩
 |true=>
   have a:=b.2;unfold World.cell? at a;rw[show(eE p w).heap[(⟨g,o,none⟩:Addr).block]?=(eE p w).heap[g]? from rfl,K3,hp]at a;cases hg:w.heap[g]? with
   |none=>rw[hg]at a;cases a
   |some _=>rw[hg]at a;simp at a
theorem qn{p:Nat->Bool}{B:Nat}{w:C3}{g o:Nat}{b:C4}(c:p g=false)(a:dZ B w g o b):dZ B (eE p w) g o b:=⟨a.1,(D4 (w:=w) (w':=eE p w) (lW c)).trans a.2⟩
mutual
theorem y3.imp{B b:Nat}{w w':C3}(a:∀g o c,dZ B w g o c->dZ b w' g o c):∀(e:Ex) (g o:Nat),y3 B w e g o->y3 b w' e g o
 | .mk k op n td tc,g,o,h=>by
   rw[y3]at h ⊢;obtain⟨f,i,j,l,p,v,m,q⟩:=h;exact⟨a _ _ _ f,a _ _ _ i,a _ _ _ j,a _ _ _ l,p,v,a _ _ _ m,vR.imp q fun d r=>kW.imp a tc d r⟩
theorem kW.imp{B a:Nat}{w w':C3}(b:∀g o c,dZ B w g o c->dZ a w' g o c):∀(l:List Ex) (g o:Nat),kW B w l g o->kW a w' l g o
 |[],_,_,_=>by rw[kW];trivial
 | e::r,g,o,h=>by
   rw[kW]at h ⊢;exact⟨y3.imp b e g o h.1,kW.imp b r g (o+5) h.2⟩
end
mutual
theorem ED.imp{B d:Nat}{w w':C3}(a:∀g o f,dZ B w g o f->dZ d w' g o f):∀(e:St) (g o:Nat),ED B w e g o->ED d w' e g o
 | .mk k ty td tc tg th,g,o,h=>by
   rw[ED]at h ⊢;obtain⟨i,j,l,⟨v,m,q⟩,⟨t,n,r⟩,⟨u,p,s⟩⟩:=h;exact⟨a _ _ _ i,a _ _ _ j,a _ _ _ l,⟨v,a _ _ _ m,vR.imp q fun b c=>kW.imp a tc b c⟩,⟨t,a _ _ _ n,vR.imp r fun b c=>xG.imp a tg b c⟩,⟨u,a _ _ _ p,vR.imp s fun b c=>xG.imp a th b c⟩⟩
theorem xG.imp{B a:Nat}{w w':C3}(b:∀g o c,dZ B w g o c->dZ a w' g o c):∀(l:List St) (g o:Nat),xG B w l g o->xG a w' l g o
 |[],_,_,_=>by rw[xG];trivial
 | e::r,g,o,h=>by
   rw[xG]at h ⊢;exact⟨ED.imp b e g o h.1,xG.imp b r g (o+6) h.2⟩
end
theorem xA.imp{B a:Nat}{w w':C3}(d:∀g o b,dZ B w g o b->dZ a w' g o b){v:C4}{l:List Ex}(c:xA B w v l):xA a w' v l:=vR.imp c fun g o=>kW.imp d l g o
theorem eN.imp{B a:Nat}{w w':C3}(d:∀g o b,dZ B w g o b->dZ a w' g o b){v:C4}{l:List St}(c:eN B w v l):eN a w' v l:=vR.imp c fun g o=>xG.imp d l g o
theorem iY.imp{B c:Nat}{w w':C3}(e:∀g o b,dZ B w g o b->dZ c w' g o b){a:Ex}{v:C4}(d:iY B w a v):iY c w' a v:=by
 obtain⟨b,j,f,i⟩:=d;exact⟨b,j,f,i.imp e⟩
def i3(L:Nat):Nat->Bool:=fun k=>decide (k<L)
theorem jb{L k:Nat}:i3 L k=false↔L<=k:=by simp[i3]
def zK(L:Nat)(w w':C3):Prop:=w.heap.size<=w'.heap.size/\∀k,k<w.heap.size->L<=k->w'.heap[k]?=w.heap[k]?
theorem zK.cells{L c:Nat}{w w':C3}(d:zK L w w')(_:c<=L):∀g o b,dZ w.heap.size (eE (i3 L) w) g o b->dZ w'.heap.size (eE (i3 c) w') g o b:=fun g o b a=>by
 obtain⟨f,a⟩:=qS a;have e:=jb.1 f;exact qn (jb.2 O) ⟨D6 a.1 d.1,(D4 (w:=w) (d.2 g a.1 e)).trans a.2⟩
theorem zK.refl(L:Nat)(w:C3):zK L w w:=⟨Dy _,fun _ _ _=>rfl⟩
theorem zK.trans{L:Nat}{w w' d:C3}(a:zK L w w')(g:zK L w' d):zK L w d:=⟨Dr a.1 g.1,fun k b c=>(g.2 k (D6 b a.1) c).trans (a.2 k b c)⟩
theorem zK.of_off{b L:Nat}{w w':C3}(a:dX b w.heap.size w w')(_:b<L):zK L w w':=⟨a.size,fun k c _=>a.block c O⟩
theorem zK.wb{L:Nat}{w w':C3}(a:Cx w w'):zK L w w':=⟨a.size,fun k b _=>a.block k b⟩
theorem zK.set{L g:Nat}{w:C3}(_:g<L)(i:Nat)(u:C4):zK L w (w.setCell (g,i) u):=⟨Uu,fun k _ _=>Dx w _ u k Gp⟩
def ky(L:Nat)(w:C3)(a:Ex)(v:C4):Prop:=iY w.heap.size (eE (i3 L) w) a v
def jL(L:Nat)(w:C3)(a:List Ex)(v:C4):Prop:=xA w.heap.size (eE (i3 L) w) v a
def kD(L:Nat)(w:C3)(a:List St)(v:C4):Prop:=eN w.heap.size (eE (i3 L) w) v a
theorem ky.keep{L b:Nat}{w w':C3}{a:Ex}{v:C4}(c:ky L w a v)(k:zK L w w')(d:b<=L):ky b w' a v:=iY.imp (k.cells d) c
theorem jL.keep{L b:Nat}{w w':C3}{a:List Ex}{v:C4}(c:jL L w a v)(k:zK L w w')(d:b<=L):jL b w' a v:=xA.imp (k.cells d) c
theorem kD.keep{L b:Nat}{w w':C3}{a:List St}{v:C4}(c:kD L w a v)(k:zK L w w')(d:b<=L):kD b w' a v:=eN.imp (k.cells d) c
theorem ky.form{L:Nat}{w:C3}{a:Ex}{v:C4}(d:ky L w a v):∃k o n s b m c,v=.agg #[(k:Int),(o:Int),(n:Int),.string s,.slice b m c]:=by
 obtain⟨_,f,_,e⟩:=d;obtain⟨b,c,rfl,_⟩:=e.form;exact⟨_,_,_,_,b,_,c,f⟩
theorem jL.form{L:Nat}{w:C3}{a:List Ex}{v:C4}(h:jL L w a v):∃A c,v=.slice A a.length c/\a.length<=281474976710656:=xA.form h
theorem kD.form{L:Nat}{w:C3}{a:List St}{v:C4}(h:kD L w a v):∃A c,v=.slice A a.length c/\a.length<=281474976710656:=eN.form h
theorem je.imp{α:Type}{x:PR α}{P Q:α->Prop}(b:je x P)(k:∀a,P a->Q a):je x Q:=by
 cases x with
 |ok a r=>exact k a b
 |bad r=>obtain⟨a,c⟩:=b;exact⟨a,k a c⟩
 |deep r=>obtain⟨a,c⟩:=b;exact⟨a,k a c⟩
 |o=>trivial
theorem je.some{α:Type}{x:PR α}{P:α->Prop}(b:je x P)(c:zH x):∃a,P a:=by
 cases x with
 |ok a r=>exact⟨a,b⟩
 |bad r=>exact b
 |deep r=>exact b
 |o=>exact absurd c id
theorem je.bind{α β:Type}{x:PR α}{f:α->List dY->PR β}{P:α->Prop}{Q:β->Prop}(b:je x P)(k:∀a r,x=.ok a r->P a->je (f a r) Q)(j:∀a,P a->∃c,Q c):je (x.bind f) Q:=by
 cases x with
 |ok a r=>exact k a r rfl b
 |bad r=>obtain⟨a,d⟩:=b;exact j a d
 |deep r=>obtain⟨a,d⟩:=b;exact j a d
 |o=>trivial
theorem vw{s:List UInt8}{l:List dY}{β:Type}{a:β}{Q:β->Prop}(h:Q a):je ((zQ s l).bind fun _ r=>.ok a r) Q:=by
 unfold zQ;split
 .exact h
 .exact⟨a,h⟩
theorem jo{α β:Type}(x:PR α)(f:α->List dY->PR β):(x.bind f).un=x.bind fun a r=>(f a r).un:=Ka
theorem q8{α β:Type}(x:PR α)(f:List dY->PR β):x.un.bind (fun _ r=>f r)=x.bind fun _ r=>f r:=Ka
theorem zY{α β γ:Type}(x:PR α)(f:α->List dY->PR β)(g:β->List dY->PR γ):(x.bind f).bind g=x.bind fun a r=>(f a r).bind g:=Ka
theorem rA(x:PR Unit):x.un=x:=Ka
theorem xc{β:Type}(s:List UInt8)(l:List dY)(a:β):((zQ s l).bind fun _ r=>PR.ok a r).un=zQ s l:=by unfold zQ;split<;>rfl
theorem qM{α β:Type}{x:PR α}{f:α->List dY->PR β}(h:zH (x.bind f)):zH x:=by cases x<;>first|trivial|exact h
theorem jC{L:Nat}{w:C3}{x:PR Ex}{v:C4}(d:je x fun a=>ky L w a v)(f:zH x):∃k o n s b m c,v=.agg #[(k:Int),(o:Int),(n:Int),.string s,.slice b m c]:=by
 obtain⟨a,e⟩:=d.some f;exact e.form
theorem z4{L:Nat}{w:C3}{x:PR (List Ex)}{v:C4}(d:je x fun a=>jL L w a v)(f:zH x):∃b m c,v=.slice b m c:=by
 obtain⟨a,e⟩:=d.some f;obtain⟨b,c,g,_⟩:=e.form;exact⟨b,_,c,g⟩
theorem zc.num{b:Nat}{V:C4}{tj r:List dY}{d dp:Bool}{w:C3}(e:zc b V tj r d dp w)(j:f7 r=0):(⟨(pT r).toArray⟩:C2).size<=281474976710656/\xQ (pT r)=true/\kI 0 (pT r)<9223372036854775808:=by
 obtain⟨_,⟨g,c,_,_,_,_,_,k⟩,l,i⟩:=e;obtain⟨t,q,rfl⟩:=List.exists_cons_of_ne_nil i.ne;have m:t∈tj:=l.subset (Y4 ..);obtain⟨a,f⟩:=k t m j;refine⟨f,a,?_⟩;have:=a;simp only[xQ,Dv,decide_eq_true_eq]at this;exact this.2
theorem jr.tok{b:Nat}{V:C4}{tj:List dY}{x:PR Unit}{w:C3}(a:jr b V tj x w):i2 b V tj w:=by
 obtain⟨r,_,dp,c,_⟩:=a.box;exact c.2.1
theorem jr.move{b:Nat}{V:C4}{tj:List dY}{x:PR Unit}{w e W:C3}(d:jr b V tj x e)(i:i2 b V tj w)(g:dX b w.heap.size w W)(f:W.heap[b]?=e.heap[b]?):jr b V tj x W:=by
 have c:∀{r bd dp},zc b V tj r bd dp e->zc b V tj r bd dp W:=fun c=>⟨f.trans c.1,i.off g,c.2.2⟩
 cases x with
 |ok a r=>exact c d
 |bad r=>exact c d
 |deep r=>exact c d
 |o=>exact d
theorem jP.after{b:Nat}{V:C4}{tj:List dY}{x y:PR Unit}{w c d:C3}(a:jP b V tj w x c)(g:jP b V tj c y d):jP b V tj w y d:=⟨g.1,a.2.trans (g.2.mono a.2.size)⟩
theorem jP.below{b:Nat}{V:C4}{tj:List dY}{x:PR Unit}{w c d:C3}(a:jP b V tj w x c)(g:Cx c d):jP b V tj w x d:=⟨a.1.below g,a.2.trans ((dX.wb g a.1.lt).mono a.2.size)⟩
theorem jP.alloc{b:Nat}{V:C4}{tj:List dY}{x:PR Unit}{w a:C3}(c:jP b V tj w x a)(o:Obj):jP b V tj w x (a.alloc o):=c.below (Zb.alloc Zr o)
theorem jP.set{b g:Nat}{V:C4}{tj:List dY}{x:PR Unit}{w c:C3}(d:jP b V tj w x c)(j:i2 b V tj w)(f:w.heap.size<=g)(_:g≠b)(i:Nat)(a:C4):jP b V tj w x (c.setCell (g,i) a):=by
 have e:dX b w.heap.size w (c.setCell (g,i) a):=d.2.setCell d.1.lt f i a;exact⟨d.1.move j e (Dx c _ a b (by show b≠g;omega)),e⟩
theorem jP.wh{b g:Nat}{V:C4}{tj:List dY}{x:PR Unit}{w l:C3}(m:jP b V tj w x l)(d:i2 b V tj w)(c:w.heap.size<=g)(a:g≠b)(e f i j k:C4):jP b V tj w x (gF l g e f i j k):=
 ((((m.set d c a 0 e).set d c a 1 f).set d c a 2 i).set d c a 3 j).set d c a 4 k
theorem zK.wh{L g:Nat}{w:C3}(a:g<L)(b c d e f:C4):zK L w (gF w g b c d e f):=
 ((((zK.set a 0 b).trans (zK.set a 1 c)).trans (zK.set a 2 d)).trans (zK.set a 3 e)).trans (zK.set a 4 f)
theorem rB{b B k:Nat}{w w':C3}(a:dX b B w w')(d:k<B)(c:k≠b):(∀o,w'.cell? ⟨k,o,none⟩=w.cell? ⟨k,o,none⟩)/\∀o,w'.frozen? ⟨k,o,none⟩=w.frozen? ⟨k,o,none⟩:=
 ⟨fun _=>a.cell d c,fun _=>World.frozen?_of_block (w:=w) (a.block d c)⟩
abbrev vC:Obj:=.cells #[(0:Int),(0:Int),(0:Int),.string ⟨#[]⟩,()] 147
def ex0:Ex:=.mk 0 0 0 bE []
abbrev pZ:C4:=.agg #[(0:Int),(0:Int),(0:Int),.string ⟨#[]⟩,()]
theorem k1(L:Nat)(w:C3):ky L w ex0 pZ:=⟨_,rfl,Xw,uO _ _⟩
theorem zd0{W:C3}{g:Nat}{i j k l m:C4}{T:TypeId}{fr:Nat×Nat}(n:W.heap[g]?=some (.cells #[i,j,k,l,m] T fr))(a b c d e:C4):
 (((((W.setCell (g,0) a).setCell (g,1) b).setCell (g,2) c).setCell (g,3) d).setCell (g,4) e).cell? (g,0)=some a/\
 (((((W.setCell (g,0) a).setCell (g,1) b).setCell (g,2) c).setCell (g,3) d).setCell (g,4) e).cell? (g,1)=some b/\
 (((((W.setCell (g,0) a).setCell (g,1) b).setCell (g,2) c).setCell (g,3) d).setCell (g,4) e).cell? (g,2)=some c/\
 (((((W.setCell (g,0) a).setCell (g,1) b).setCell (g,2) c).setCell (g,3) d).setCell (g,4) e).cell? (g,3)=some d/\
 (((((W.setCell (g,0) a).setCell (g,1) b).setCell (g,2) c).setCell (g,3) d).setCell (g,4) e).cell? (g,4)=some e:=by
 have f:=lU n a b c d e;exact⟨(Ds f 0).trans rfl,(Ds f 1).trans rfl,(Ds f 2).trans rfl,(Ds f 3).trans rfl,(Ds f 4).trans rfl⟩
theorem jM{b B k:Nat}{w w':C3}{o:Obj}(a:dX b B w w')(d:k<B)(c:k≠b)(e:w.heap[k]?=some o):w'.heap[k]?=some o:=(a.block d c).trans e
theorem qI{k:Nat}{w:C3}{o:Obj}(a:w.heap[k]?=some o)(b:Obj):(w.alloc b).heap[k]?=some o:=(D3 w b k (Array.getElem?_eq_some_iff.1 a).1).trans a
def CE(b:Nat)(V:C4)(tj:List dY)(n:Nat)(lev d:Int):Prop:=∀(w:C3) (x:PR Unit),jr b V tj x w->zH (x.bind fun _ r=>pE n lev d r)->
 Cy 126 #[(b,0),(lev:Int),(d:Int)] w (qp b V tj w (x.bind fun _ r=>pE n lev d r) (ky w.heap.size))
theorem CE.call{b:Nat}{V:C4}{tj:List dY}{n:Nat}{lev d:Int}(a:CE b V tj n lev d){w:C3}{x:PR Unit}(e:jr b V tj x w)(c:zH (x.bind fun _ r=>pE n lev d r)):
 Cy 126 #[(b,0),(lev:Int),(d:Int)] w (qp b V tj w (x.bind fun _ r=>pE n lev d r) (ky w.heap.size)):=a w x e c
def CA(b:Nat)(V:C4)(tj:List dY)(n:Nat)(d:Int):Prop:=∀(w:C3) (x:PR Unit),jr b V tj x w->zH (x.bind fun _ r=>pA n d r)->
 Cy 150 #[(b,0),(d:Int)] w (qp b V tj w (x.bind fun _ r=>pA n d r) (jL w.heap.size))
theorem CA.call{b:Nat}{V:C4}{tj:List dY}{n:Nat}{d:Int}(a:CA b V tj n d){w:C3}{x:PR Unit}(e:jr b V tj x w)(c:zH (x.bind fun _ r=>pA n d r)):
 Cy 150 #[(b,0),(d:Int)] w (qp b V tj w (x.bind fun _ r=>pA n d r) (jL w.heap.size)):=a w x e c
def kX(b:Nat)(V:C4)(tj:List dY)(w:C3)(x:PR Unit)(W:C3):Prop:=jP b V tj w x W/\W.heap[w.heap.size]?=some vC/\i2 b V tj w/\b<w.heap.size
section
variable {b:Nat}{V:C4}{tj:List dY} {w W W':C3}{x y:PR Unit}
theorem kX.start(h:jr b V tj x w):kX b V tj w x (w.alloc vC):=
 ⟨⟨h.below (Zb.alloc Zr _),dX.wb (Zb.alloc Zr _) h.lt⟩,Dq w vC,h.tok,h.lt⟩
theorem kX.did(h:kX b V tj w x W):jP b V tj w x W:=h.1
theorem kX.st(h:kX b V tj w x W):jr b V tj x W:=h.1.1
theorem kX.size(h:kX b V tj w x W):w.heap.size<W.heap.size:=(Array.getElem?_eq_some_iff.1 h.2.1).1
theorem kX.ne(h:kX b V tj w x W):w.heap.size≠b:=Gb
theorem kX.step(h:kX b V tj w x W)(g:jP b V tj W y W'):kX b V tj w y W':=⟨h.1.after g,jM g.off h.size h.ne h.2.1,h.2.2⟩
theorem kX.alloc(h:kX b V tj w x W)(o:Obj):kX b V tj w x (W.alloc o):=⟨h.1.alloc o,qI h.2.1 o,h.2.2⟩
theorem kX.drewN(h:kX b V tj w x W)(n:Nat):kX b V tj w x (W.drewN n):=h.step ⟨h.st.drewN n,(dX.refl b _ W).drewN n⟩
theorem kX.own(c:kX b V tj w x W):(W.cell? (w.heap.size,0)=some (.int .i64 0)/\W.cell? (w.heap.size,1)=some (.int .i64 0)/\W.cell? (w.heap.size,2)=some (.int .i64 0)/\
 W.cell? (w.heap.size,3)=some (.string ⟨#[]⟩)/\W.cell? (w.heap.size,4)=some (.slice none 0 0))/\∀o,W.frozen? ⟨w.heap.size,o,none⟩=false:=by
 have a:=c.2.1;refine⟨⟨(Ds a 0).trans rfl,(Ds a 1).trans rfl,(Ds a 2).trans rfl,(Ds a 3).trans rfl,(Ds a 4).trans rfl⟩,fun o=>?_⟩;simp[World.frozen?,a]
theorem kX.read(g:kX b V tj w x W)(a c d e f:C4):(((((W.setCell (w.heap.size,0) a).setCell (w.heap.size,1) c).setCell (w.heap.size,2) d).setCell (w.heap.size,3) e).setCell (w.heap.size,4) f).cell? (w.heap.size,0)=some a/\(((((W.setCell (w.heap.size,0) a).setCell (w.heap.size,1) c).setCell (w.heap.size,2) d).setCell (w.heap.size,3) e).setCell (w.heap.size,4) f).cell? (w.heap.size,1)=some c/\(((((W.setCell (w.heap.size,0) a).setCell (w.heap.size,1) c).setCell (w.heap.size,2) d).setCell (w.heap.size,3) e).setCell (w.heap.size,4) f).cell? (w.heap.size,2)=some d/\(((((W.setCell (w.heap.size,0) a).setCell (w.heap.size,1) c).setCell (w.heap.size,2) d).setCell (w.heap.size,3) e).setCell (w.heap.size,4) f).cell? (w.heap.size,3)=some e/\(((((W.setCell (w.heap.size,0) a).setCell (w.heap.size,1) c).setCell (w.heap.size,2) d).setCell (w.heap.size,3) e).setCell (w.heap.size,4) f).cell? (w.heap.size,4)=some f:=zd0 g.2.1 a c d e f
theorem kX.fin(i:kX b V tj w y W){X:PR Ex}(k:X.un=y){c d e f g:C4}(j:je X fun a=>ky w.heap.size (gF W w.heap.size c d e f g) a (.agg #[c,d,e,f,g])):
 qp b V tj w X (ky w.heap.size) (.returned (.agg #[c,d,e,f,g])) (gF W w.heap.size c d e f g):=
 ⟨_,rfl,k▸i.1.wh i.2.2.1 Zr i.ne _ _ _ _ _,j⟩
theorem ky.wh{L:Nat}{a:Ex}{v:C4}(g:ky L W a v)(i:w.heap.size<L)(b c d e f:C4):ky w.heap.size (gF W w.heap.size b c d e f) a v:=g.keep (zK.wh i _ _ _ _ _) O
theorem jL.wh{L:Nat}{a:List Ex}{v:C4}(g:jL L W a v)(i:w.heap.size<L)(b c d e f:C4):jL w.heap.size (gF W w.heap.size b c d e f) a v:=g.keep (zK.wh i _ _ _ _ _) O
theorem zK.did{L:Nat}(a:jP b V tj W x W')(c:b<L):zK L W W':=zK.of_off a.off c
theorem fI(L:Nat)(W:C3)(k o n:Int)(s:C2)(a:eF n):ky L W (.mk k o n s []) (.agg #[(k:Int),(o:Int),(n:Int),s,()]):=⟨_,rfl,a,uO _ _⟩
theorem kX.wu(i:kX b V tj w x W)(o:Obj)(a c d e f:C4):((((((W.setCell (w.heap.size,0) a).setCell (w.heap.size,1) c).setCell (w.heap.size,2) d).setCell (w.heap.size,3) e).setCell (w.heap.size,4) f).alloc o).cell? (w.heap.size,0)=some a/\((((((W.setCell (w.heap.size,0) a).setCell (w.heap.size,1) c).setCell (w.heap.size,2) d).setCell (w.heap.size,3) e).setCell (w.heap.size,4) f).alloc o).cell? (w.heap.size,1)=some c/\((((((W.setCell (w.heap.size,0) a).setCell (w.heap.size,1) c).setCell (w.heap.size,2) d).setCell (w.heap.size,3) e).setCell (w.heap.size,4) f).alloc o).cell? (w.heap.size,2)=some d/\((((((W.setCell (w.heap.size,0) a).setCell (w.heap.size,1) c).setCell (w.heap.size,2) d).setCell (w.heap.size,3) e).setCell (w.heap.size,4) f).alloc o).cell? (w.heap.size,3)=some e/\((((((W.setCell (w.heap.size,0) a).setCell (w.heap.size,1) c).setCell (w.heap.size,2) d).setCell (w.heap.size,3) e).setCell (w.heap.size,4) f).alloc o).cell? (w.heap.size,4)=some f:=by
 have g:=qI (lU i.2.1 a c d e f) o;exact⟨(Ds g 0).trans rfl,(Ds g 1).trans rfl,(Ds g 2).trans rfl,(Ds g 3).trans rfl,(Ds g 4).trans rfl⟩
theorem kX.dc(i:kX b V tj w y W){X:PR Ex}(k:X.un=y){o:Obj}{c d e f g:C4}(j:je X fun a=>ky w.heap.size ((_root_.Go.Proofs.YthcmenajdcbnnaaGreatDoor.gF W w.heap.size c d e f g).alloc o) a (.agg #[c,d,e,f,g])):
 qp b V tj w X (ky w.heap.size) (.returned (.agg #[c,d,e,f,g])) ((_root_.Go.Proofs.YthcmenajdcbnnaaGreatDoor.gF W w.heap.size c d e f g).alloc o):=
 ⟨_,rfl,k▸(i.1.wh i.2.2.1 Zr i.ne _ _ _ _ _).alloc o,j⟩
theorem nL{B:Nat}{w:C3}{e:Ex}{k op n:Int}{s:C2}{b:C4}(c:iY B w e (.agg #[(k:Int),(op:Int),(n:Int),s,b])):∃tc,e=.mk k op n s tc/\eF n/\xA B w b tc:=by
 obtain⟨_,a,d,f⟩:=c;obtain⟨_,_,_,_,tc⟩:=e;simp only[Value.agg.injEq,Array.mk.injEq,Y7,Value.int.injEq,Value.string.injEq,true_and,and_true,Ex.kind,Ex.op,Ex.n,Ex.name]at a;obtain⟨rfl,rfl,rfl,rfl,rfl⟩:=a;exact⟨tc,rfl,d,f⟩
theorem ug{L a g:Nat}{e:Ex}{k op n:Int}{s:C2}{c:C4}{T:TypeId}(d:ky L W e (.agg #[(k:Int),(op:Int),(n:Int),s,c]))(i:a<=L)(j:a<=W.heap.size)(l:g=W.heap.size):
 jL a (W.alloc (.cells #[(k:Int),(op:Int),(n:Int),s,c] T)) [e] (.slice (some ⟨g,0,none⟩) 1 1):=by
 subst l;have f:=d.keep (zK.wb (Zb.alloc Zr (.cells #[(k:Int),(op:Int),(n:Int),s,c] T))) i;obtain⟨tc,rfl,m,o⟩:=nL f;exact XZ (w:=eE (i3 a) _) (b:=W.heap.size) ((lW (jb.2 j)).trans (Dq W _)) Ur m o
end
def kn(w:C3)(v v':C4):Prop:=v'.ownBlock=v.ownBlock\/∃g,v'.ownBlock=some g/\w.heap.size<=g
theorem z5{P:Program}{w:C3}{base:Nat}{t p e:TypeId}{i:TypeInfo}{z:C4}{l B:Nat}(A:P.underlying t=some (.slice e))(u:P.info? e=some i)(E:i.zero=some z)
 (M:i.size=l) (J:i.bytes=B) (_:z.cells.size=l) (_:0<l)
 {v:C4}{n:Nat}{F:List C4} (y:w.ownsRow base e l v n F)
 {a:Addr}{m c:Nat}{d:List C4} (o:d.length=m*l) (x:∀j q,d[j]?=some q->w.cell? (a.add j)=some q) (H:∀q∈d,q.oneCell'=true)
 (s:n+m<=maxLen) (C:(n+m)*B<=140737488355328) (_:0<m) {v':C4} {w':C3}
 (b:(Builtin.append_ #[t,t] p #[v,.slice (some a) m c]).run P w=.ok v' w'):kn w v v':=by
 subst M J;rcases y.2 with⟨rfl,rfl⟩|⟨g,r,G,rfl,_,L,_,_,K,_⟩
 .have k:=run_append_nil (P:=P) w t p e i z A u E a m c d o x O Jk (by have I:=C;simp only[Yo]at I;omega)
  exact Ol
 .by_cases D:n+m<=r
  .have k:=run_append_room (P:=P) w t p e i A u g n r G L a m c d o x H D (by rw[o,K,<-Nat.add_mul];exact Nat.mul_le_mul_right _ D)
   rw[k]at b;injection b with f _;subst f;exact .inl rfl
  .have k:=run_append_grow (P:=P) w t p e i z A u E ⟨g,0,none⟩ n r F y.1 (y.cells (g:=g) rfl) a m c d o x O Jk (growslice_fits Jk C)
   exact Ol
theorem zy{P:Program}{w:C3}{ops:Array Oper}{J:List Oper}{o:Oper}{a:Act}{Q:Exit->Act->C3->Prop}(V:o.guard=none)(s x:Operand)(t:TypeId)
 (Y:o.op=.call { callee:=.builtin .append,args:=#[s,x],argTypes:=#[t,t] })
 (base:Nat) (e:TypeId) (i:TypeInfo) (z:C4) (b k:Nat) (G:P.underlying t=some (.slice e)) (y:P.info? e=some i) (H:i.zero=some z)
 (E:i.size=b) (r:i.bytes=k) (I:z.cells.size=b) (F:0<b)
 (v:C4) (n:Nat) (l:List C4) (Z:a.eval s=v) (C:w.ownsRow base e b v n l)
 (g:Addr) (m c:Nat) (d:List C4) (aa:a.eval x=.slice (some g) m c) (A:d.length=m*b) (B:∀j f,d[j]?=some f->w.cell? (g.add j)=some f) (p:∀f∈d,f.oneCell'=true)
 (q:n+m<=maxLen) (u:(n+m)*k<=140737488355328) (T:base<=w.heap.size) (X:0<m)
 (L:∀v' w',w'.ownsRow base e b v' (n+m) (l++d)->w.grownBy w' v.ownBlock->kn w v v'->wpList P ops Q J (a.put o.dst v') w'):wpList P ops Q (o::J) a w:=by
 refine wpList_plain V fun K S=>?_
 obtain⟨v',w',D,M,N,_⟩:=run_append_own (P:=P) w base t o.type e i z b k G y H E r I F v n l C g m c d A B p q u T;have R:=z5 G y H E r I F C A B p q u X D;have W:=S _ _ (L v' w' M N R);unfold Oper.wp execOp;simp only[Y,resolve,invoke,builtin,Sem.run_bind,Sem.run_pure,Result.andThen_ok,List.map_toArray,Yb,Cj,Z,aa,D];exact W
def r2(ps:List (Ex×C4)):List C4:=ps.flatMap fun p=>[.int .i64 p.1.kind,.int .i64 p.1.op,.int .i64 p.1.n,.string p.1.name,p.2]
theorem NL(ps:List (Ex×C4))(p:Ex×C4):r2 (ps++[p])=r2 ps++[.int .i64 p.1.kind,.int .i64 p.1.op,.int .i64 p.1.n,.string p.1.name,p.2]:=by simp[r2]
def vJ(B:Nat)(v:C4):Nat->Bool:=fun k=>decide (k<B) || v.ownBlock == some k
theorem qd{B k:Nat}{v:C4}:vJ B v k=false↔B<=k/\v.ownBlock≠some k:=by
 unfold vJ;simp[Cb]
def uJ(B:Nat)(w:C3)(v:C4)(tk:List Ex):Prop:=
 ∃ps:List (Ex×C4),ps.map (·.1)=tk/\w.ownsRow B 147 5 v ps.length (r2 ps)/\∀p∈ps,eF p.1.n/\xA w.heap.size (eE (vJ B v) w) p.2 p.1.args
theorem uJ.nil(B:Nat)(w:C3):uJ B w (.slice none 0 0) []:=⟨[],rfl,Ym w B _ 5,fun p a=>Xb⟩
theorem uJ.form{B:Nat}{w:C3}{v:C4}{tk:List Ex}(b:uJ B w v tk):∃a c,v=.slice a tk.length c:=by
 obtain⟨ps,rfl,d,_⟩:=b;rw[Yd];exact zb d
theorem uJ.own{B:Nat}{w:C3}{v:C4}{tk:List Ex}(a:uJ B w v tk):∀k,v.ownBlock=some k->k<w.heap.size/\B<=k:=by
 obtain⟨ps,_,b,_⟩:=a;exact zo b
theorem xA.mask{p q:Nat->Bool}{w w':C3}{v:C4}{l:List Ex}(b:xA w.heap.size (_root_.Go.Proofs.YthcmenajdcbnnaaGreatDoor.eE p w) v l)(i:w.heap.size<=w'.heap.size)(d:∀k,k<w.heap.size->p k=false->q k=false/\w'.heap[k]?=w.heap[k]?):xA w'.heap.size (_root_.Go.Proofs.YthcmenajdcbnnaaGreatDoor.eE q w') v l:=by
 refine b.imp fun g o _ a=>?_
 obtain⟨e,a⟩:=qS a;obtain⟨f,c⟩:=d g a.1 e;exact qn f ⟨D6 a.1 i,(D4 (w:=w) c).trans a.2⟩
theorem uJ.keep{B:Nat}{w w':C3}{v:C4}{tk:List Ex}(b:uJ B w v tk)(k:zK B w w'):uJ B w' v tk:=by
 have d:=b.own;obtain⟨ps,g,i,e⟩:=b;refine⟨ps,g,zZ i fun j a=>k.2 j (d j a).1 (d j a).2,fun p c=>⟨(e p c).1,(e p c).2.mask k.1 fun j a f=>⟨f,k.2 j a (qd.1 f).1⟩⟩⟩
theorem uJ.app{B L:Nat}{w W w':C3}{v v':C4}{tk:List Ex}{e:Ex}{k op n:Int}{s:C2}{q:C4}(i:uJ B w v tk)(D:ky L w e (.agg #[(k:Int),(op:Int),(n:Int),s,q]))(_:B<=L)(C:∀k,v.ownBlock=some k->k<L)
 (f:Cx w W) (u:W.grownBy w' v.ownBlock) (G:kn W v v') (F:w'.ownsRow B 147 5 v' (tk.length+1) ((r2 (Classical.choose i))++[.int .i64 k,.int .i64 op,.int .i64 n,.string s,q])):uJ B w' v' (tk++[e]):=by
 obtain⟨z,_,y⟩:=Co i;generalize Classical.choose i=ps at *;obtain⟨tc,rfl,E,H⟩:=nL D;have A:w.heap.size<=w'.heap.size:=Dr f.size u.size
 have t:∀j,j<w.heap.size->v.ownBlock≠some j->v'.ownBlock≠some j/\w'.heap[j]?=w.heap[j]?:=fun j b x=>by
  refine⟨fun a=>?_,(u.block j (D6 b f.size) (fun e=>x e.symm)).trans (f.block j b)⟩;rcases G with d|⟨g,d,r⟩
  .exact x (d▸a)
  .rw[d]at a
   injection a with a;have:=f.size;omega
 refine⟨ps++[(.mk k op n s tc,q)],by rw[Yf,z];rfl,?_,fun p c=>?_⟩
 .rw[NL,Dn,show ps.length=tk.length by rw[<-z,Yd]]
  exact F
 .rcases List.mem_append.1 c with c|c
  .refine⟨(y p c).1,(y p c).2.mask A fun j b o=>?_⟩
   obtain⟨d,r⟩:=qd.1 o;obtain⟨l,m⟩:=t j b r;exact⟨qd.2 ⟨d,l⟩,m⟩
  .obtain rfl:=List.mem_singleton.1 c
   refine⟨E,xA.mask H A fun j b o=>?_⟩;have I:=jb.1 o;obtain⟨l,m⟩:=t j b (fun a=>by have:=C j a;omega);exact⟨qd.2 ⟨O,l⟩,m⟩
theorem K4{b:Nat}{W:C3}{g:Nat}:∀(ps:List (Ex×C4)) (o:Nat),(∀j a,(r2 ps)[j]?=some a->dZ b W g (o+j) a)->(∀p∈ps,eF p.1.n/\xA b W p.2 p.1.args)->kW b W (ps.map (·.1)) g o
 | [],_,_,_=>by
   show kW b W [] g _;rw[kW];trivial
 | p::r,o,hc,hp=>by
   show kW b W (p.1::r.map (·.1)) g o;have e:r2 (p::r)=.int .i64 p.1.kind :: .int .i64 p.1.op :: .int .i64 p.1.n :: .string p.1.name::p.2::r2 r:=by simp[r2]
   rw[e]at hc;rw[kW];refine⟨?_,K4 r (o+5) (fun j a c=>?_) fun q f=>hp q (Yz _ f)⟩
   .obtain⟨d,i⟩:=hp p (Y4 ..)
    obtain⟨⟨k,op,n,_,tc⟩,a⟩:=p;rw[y3];exact⟨hc 0 _ rfl,hc 1 _ rfl,hc 2 _ rfl,hc 3 _ rfl,d,a,hc 4 _ rfl,i⟩
   .have:=hc (j+5) a Xe
    rw[show o+5+j=o+(j+5)by omega];exact this
theorem uJ.read{B:Nat}{w:C3}{v:C4}{tk:List Ex}(l:uJ B w v tk)(s:tk.length<=281474976710656):jL B w tk v:=by
 obtain⟨ps,rfl,t,f⟩:=l
 have x:∀g o b,dZ w.heap.size (eE (vJ B v) w) g o b->dZ w.heap.size (eE (i3 B) w) g o b:=fun g o b c=>by
  obtain⟨u,c⟩:=qS c;exact qn (jb.2 (qd.1 u).1) c
 rcases t.2 with⟨rfl,m⟩|⟨g,i,k,rfl,n,d,_,_,_,q⟩
 .have:ps=[]:=Yj m
  subst this;exact uO _ _
 .refine⟨_,i,?_,?_,fun _=>⟨g,0,rfl,?_⟩⟩
  .rw[Yd]
  .exact s
  .have r:g<w.heap.size:=(Array.getElem?_eq_some_iff.1 d).1
   refine K4 ps 0 (fun j b a=>?_) fun p e=>⟨(f p e).1,(f p e).2.imp x⟩
   refine qn (jb.2 n) ⟨r,?_⟩;rw[Yo,cell_of_row w g j k _ (0,0) d];rw[<-q,Y5]at a;split at a
   .simpa using a
   .cases a
theorem K5:(Tryz.prog.info? 147).map (fun i=>(i.zero,i.size,i.bytes))=some (some pZ,5,64):=by kernel_rfl
def vB(b:Nat)(w:C3):Nat:=match w.cell? (b,1)with|some (.int _ k)=>k.toNat|_=>0
theorem jY{b:Nat}{V:C4}{tj r:List dY}{a dp:Bool}{w:C3}(c:zc b V tj r a dp w):vB b w=tj.length-r.length:=by
 unfold vB;rw[c.cells.2.1];exact Int.toNat_natCast _
def nM:C4->Nat
 |.bool true=>1
 |_=>0
def uQ(m:Nat)(d:Int)(tk:List Ex)(r:List dY):PR (List Ex):=if zt [44] r=true then rX m d tk r.tail else(zQ [41] r).bind fun _ r=>.ok tk r
def zcx(b:Nat)(V:C4)(tj:List dY)(w:C3)(T:PR (List Ex))(n:Nat)(d:Int)(a:C4)(wr:C3):Prop:=
 ∃(m:Nat) (tk:List Ex) (y:PR Unit),m<=n/\uJ w.heap.size wr a tk/\jP b V tj w y wr/\T=y.bind (fun _ r=>uQ m d tk r)/\(qC y=false->tk.length<=vB b wr)/\tk.length<=2000000
def zbb(b:Nat)(V:C4)(tj:List dY)(w:C3)(T:PR (List Ex))(n:Nat)(d:Int)(e:List dY)(c a:C4)(wr:C3):Prop:=
 (a=.bool true/\c=.slice none 0 0/\jP b V tj w (.ok () e) wr)\/(a=.bool false/\zcx b V tj w T n d c wr)
theorem nN{b:Nat}{V:C4}{tj:List dY}{x:PR Unit}{w:C3}(g:jr b V tj x w)(f:qC x=true)(d:Int):
 Cy 150 #[(b,0),(d:Int)] w fun e w'=>e=.returned (.slice none 0 0)/\jP b V tj w x w':=by
 have a:=C0 (jP b V tj w x w) ⟨g,dX.refl _ _ _⟩;have j:=U f;have k:=U (show zU (⟨#[41]⟩:C2).data.toList x=false by cases x with|ok n r=>cases f|_=>rfl);have i:=U (show(x.bind fun _ r=>zQ (⟨#[41]⟩:C2).data.toList r)=x by cases x with|ok n r=>cases f|_=>rfl);clear g f;go_enter func150,ntmps150
 go_wp2_with (first
  |(go_at_call 56;(with_reducible refine(zE a.o.st _ k.o).mono ?_);rintro e p ⟨rfl,c⟩;replace a:=U (a.o.after c);clear c))
 go_loopw [5,6] (fun m l wr=>m=.slice none 0 0/\l=.bool true/\jP b V tj w x wr) (fun _ _ _=>0)
 case atStart=>exact⟨rfl,rfl,a.o⟩
 case round=>
  obtain⟨rfl,rfl,c⟩:=hrel;replace a:=U c;clear c
  go_wp2_with (first
   |(go_at_call 53;(with_reducible refine(qL a.o.st true j.o).mono ?_);rintro e p ⟨rfl,rfl⟩)
   |(go_at_call 58;(with_reducible refine(zh a.o.st _).mono ?_);rintro e _ ⟨rfl,c⟩;rw[i.o]at c;replace a:=U (a.o.after c);clear c))
  go_ret;exact⟨rfl,a.o⟩
theorem lX{B:Nat}{w:C3}{v:C4}{tk:List Ex}(i:uJ B w v tk)(a b c d g:C4)(_:B<=w.heap.size):
 (w.alloc (.cells #[a,b,c,d,g] 147)).ownsRow B 147 5 v tk.length (r2 (Classical.choose i))/\
 (∀j k,[a,b,c,d,g][j]?=some k->(w.alloc (.cells #[a,b,c,d,g] 147)).cell? ((⟨w.heap.size,0,none⟩:Addr).add j)=some k)/\B<=(w.alloc (.cells #[a,b,c,d,g] 147)).heap.size:=by
 obtain⟨m,l,_⟩:=Co i;refine⟨?_,fun j k n=>?_,Ut⟩
 .have e:(Classical.choose i).length=tk.length:=by rw[<-Yd (f:=(·.1)),m]
  rw[e]at l;exact qD l ((D1 w.heap.size w).alloc Zr _) Zr
 .rw[show(⟨w.heap.size,0,none⟩:Addr).add j=⟨w.heap.size,j,none⟩by unfold Addr.add;split<;>simp_all]
  exact(cell_of_row _ w.heap.size j _ _ (0,0) (Dq w _)).trans (by simpa using n)
def lY(b:Nat)(V:C4)(tj:List dY)(w w':C3)(q:Nat)(d:Int)(tk:List Ex)(r:List dY)(v':C4):Prop:=
 ∃(a:List Ex) (y:PR Unit),uJ w.heap.size w' v' a/\jP b V tj w y w'/\rX (q+1) d tk r=y.bind (fun _ r=>uQ q d a r)/\(qC y=false->a.length<=vB b w')/\a.length<=2000000/\tj.length-r.length<=vB b w'
theorem lZ{q:Nat}{d:Int}{tk:List Ex}{r:List dY}:rX (q+1) d tk r=(pE q 1 d r).bind fun e r=>uQ q d (tk++[e]) r:=by rw[rX];rfl
theorem iC{b:Nat}{V:C4}{tj:List dY}{w l w':C3}{q:Nat}{d:Int}{tk:List Ex}{r:List dY}{v v':C4}{L:Nat}{k op n:Int}{s:C2}{y:C4}
 (t:uJ w.heap.size l v tk) (M:jP b V tj w ((PR.ok () r).bind fun _ r=>pE q 1 d r).un l) (p:je ((PR.ok () r).bind fun _ r=>pE q 1 d r) fun a=>ky L l a (.agg #[(k:Int),(op:Int),(n:Int),s,y])) (hF:zm 1 r (pE q 1 d r))
 (i:(l.alloc (.cells #[(k:Int),(op:Int),(n:Int),s,y] 147)).grownBy w' v.ownBlock) (I:kn (l.alloc (.cells #[(k:Int),(op:Int),(n:Int),s,y] 147)) v v')
 (H:w'.ownsRow w.heap.size 147 5 v' (tk.length+1) ((r2 (Classical.choose t))++[.int .i64 k,.int .i64 op,.int .i64 n,.string s,y])) (E:∀k,v.ownBlock=some k->k<L) (D:w.heap.size<=L) (_:r.length<=tj.length)
 (_:tk.length<=1000000) (_:tk.length<=tj.length-r.length) (Q:i2 b V tj w) (_:b<w.heap.size):lY b V tj w w' q d tk r v':=by
 have F:Cx l (l.alloc (.cells #[(k:Int),(op:Int),(n:Int),s,y] 147)):=Zb.alloc Zr _
 have N:∀x,jP b V tj w x l->jP b V tj w x w':=fun x f=>by
  have z:=f.alloc (.cells #[(k:Int),(op:Int),(n:Int),s,y] 147)
  have P:v.ownBlock≠some b:=fun e=>by
   have R:=(t.own b e).2;omega
  have K:dX b w.heap.size w w':=z.off.trans (dX.mk' i.os i.tape i.output i.size z.st.lt fun j _ _=>i.block j (by have:=z.off.size;omega) (fun e=>by
   have:=(t.own j e.symm).2
   omega))
  exact⟨z.st.move Q K (i.block b z.st.lt (fun e=>P e.symm)),K⟩
 have g:=N _ M;cases f:pE q 1 d r with
 |ok e c=>
   have m:((PR.ok () r).bind fun _ r=>pE q 1 d r)=.ok e c:=f;rw[m]at p g;rw[f]at hF;have A:zI 1 r c:=hF;have B:zc b V tj c false false w':=g.st;have u:=jY B;have J:=A.2.2;refine⟨tk++[e],.ok () c,t.app p D E F i I H,g,by rw[lZ,f];rfl,fun _=>?_,?_,?_⟩
   .rw[u,Dn]
    simp;omega
   .rw[Dn]
    simp;omega
   .rw[u]
    omega
 |bad c=>
   have m:((PR.ok () r).bind fun _ r=>pE q 1 d r)=.bad c:=f;rw[m]at p g;rw[f]at hF;have A:zI 0 r c:=hF;have B:zc b V tj c true false w':=g.st;have u:=jY B;have J:=A.2.2;obtain⟨e,G⟩:=p;refine⟨tk++[e],.bad c,t.app G D E F i I H,g,by rw[lZ,f];rfl,(fun C=>by cases C),?_,?_⟩
   .rw[Dn]
    simp;omega
   .rw[u]
    omega
 |deep c=>
   have m:((PR.ok () r).bind fun _ r=>pE q 1 d r)=.deep c:=f;rw[m]at p g;rw[f]at hF;have A:zI 0 r c:=hF;have B:zc b V tj c false true w':=g.st;have u:=jY B;have J:=A.2.2;obtain⟨e,G⟩:=p;refine⟨tk++[e],.deep c,t.app G D E F i I H,g,by rw[lZ,f];rfl,(fun C=>by cases C),?_,?_⟩
   .rw[Dn]
    simp;omega
   .rw[u]
    omega
 |o=>
   have m:((PR.ok () r).bind fun _ r=>pE q 1 d r)=.o:=f;rw[m]at g;exact absurd g.st id
theorem lY.rel{b:Nat}{V:C4}{tj:List dY}{w w':C3}{q n:Nat}{d:Int}{tk:List Ex}{r:List dY}{v':C4}{T:PR (List Ex)}(c:lY b V tj w w' q d tk r v')(l:q<=n)(k:T=rX (q+1) d tk r):zcx b V tj w T n d v' w':=by
 obtain⟨a,y,e,f,g,i,j,_⟩:=c;exact⟨q,a,y,l,e,f,k.trans g,i,j⟩
theorem lY.at{b:Nat}{V:C4}{tj:List dY}{w w':C3}{q:Nat}{d:Int}{tk:List Ex}{r:List dY}{v':C4}(a:lY b V tj w w' q d tk r v'):tj.length-r.length<=vB b w':=by
 obtain⟨_,y,_,_,_,_,_,c⟩:=a;exact c
theorem yU{b:Nat}{V:C4}{tj r:List dY}{w w':C3}(a:jP b V tj w (.ok () r) w'):vB b w'=tj.length-r.length/\r.length<=tj.length/\tj.length<=1000000/\qB r/\0<r.length:=by
 have e:zc b V tj r false false w':=a.st;obtain⟨_,⟨_,_,_,_,_,_,d,_⟩,f,c⟩:=e;exact⟨jY a.st,rZ f,d,c,c.pos⟩
theorem X7{m:Nat}{d:Int}{tk:List Ex}{y:PR Unit}(a:zU [44] y=false):y.bind (fun _ r=>uQ m d tk r)=y.bind fun _ r=>(zQ [41] r).bind fun _ r=>.ok tk r:=by
 cases y with
 |ok _ r=>
   show uQ m d tk r=_;unfold uQ;rw[Dl Hl];rfl
 |_=>rfl
theorem RP{b:Nat}{V:C4}{tj:List dY}{w W:C3}{y:PR Unit}{tk:List Ex}{v:C4}{L:Nat}(c:jP b V tj w (y.bind fun _ r=>zQ [41] r) W)(a:jL L W tk v):
 qp b V tj w (y.bind fun _ r=>(zQ [41] r).bind fun _ r=>.ok tk r) (jL L) (.returned v) W:=by
 refine⟨v,rfl,?_,?_⟩
 .rw[jo]
  simp only[xc];exact c
 .cases y with
  |ok _ r=>exact vw a
  |bad r=>exact⟨tk,a⟩
  |deep r=>exact⟨tk,a⟩
  |o=>trivial
theorem NM{b:Nat}{V:C4}{tj r:List dY}{w:C3}{n:Nat}{d:Int}(ay:∀m,m<=n->CE b V tj m 1 d)(N:zc b V tj r false false w)(ah:zH (pA (n+1) d r)):
 Cy 150 #[(b,0),(d:Int)] w (qp b V tj w (pA (n+1) d r) (jL w.heap.size)):=by
 have a:=C0 (jP b V tj w (.ok () r) w) ⟨N,dX.refl _ _ _⟩;have i:=N.lt;have af:=U N.2.1;cases hs:zt [41] r with
 |true=>
   have M:pA (n+1) d r=.ok [] r.tail:=by rw[pA,Dm hs]
   rw[M];have an:=C0 (zU (⟨#[41]⟩:C2).data.toList (PR.ok () r)=true) hs;clear N ah hs M;go_enter func150,ntmps150
   go_wp2_with (first
    |(go_at_call 56;(with_reducible refine(zx a.o.st _ an.o).mono ?_);rintro e C ⟨rfl,c⟩;replace a:=U (a.o.after c);clear c))
   go_ret;exact⟨_,rfl,a.o,uO _ _⟩
 |false=>
   have M:pA (n+1) d r=rX n d [] r:=by rw[pA,Dl (by rw[hs];decide)]
   rw[M]at ah ⊢;have an:=C0 (zU (⟨#[41]⟩:C2).data.toList (PR.ok () r)=false) hs;have ae:=U ah;have aw:=U ay;clear N ah hs M ay;go_enter func150,ntmps150
   go_wp2_with (first
    |(go_at_call 56;(with_reducible refine(zE a.o.st _ an.o).mono ?_);rintro e C ⟨rfl,c⟩;replace a:=U (a.o.after c);clear c))
   go_loopw [5,6] (fun aM ap wr=>zbb b V tj w (rX n d [] r) n d r aM ap wr) (fun _ ap wr=>2*(tj.length-vB b wr)+nM ap)
   case atStart=>exact .inl ⟨rfl,rfl,a.o⟩
   case round=>
    obtain⟨aD,az,aA,aB,aC⟩:=info_parts K5;have j:=U (Do az (Do aA (Do aB aC)));clear az aA aB aC;rcases hrel with⟨rfl,rfl,c⟩|⟨rfl,m,tk,y,_,z,c,ag,g,_⟩
    .replace a:=U c
     have D:=U c;obtain⟨A,aJ,aH,B,aK⟩:=yU c
     obtain⟨q,rfl⟩:∃q,n=q+1:=by
      cases n with
      |zero=>have:=ae.o;rw[rX]at this;exact absurd this id
      |succ q=>exact⟨q,rfl⟩
     have g:([]:List Ex).length<=1000000:=Ur
     obtain⟨tk,P⟩:∃tk:List Ex,tk=[]:=⟨_,rfl⟩
     rw[<-P]at g;have aP:tk.length=0:=by rw[P];rfl
     have L:=U (show rX (q+1) d [] r=rX (q+1) d tk r by rw[P]);have f:=U (show uJ w.heap.size wr (.slice none 0 0) tk by rw[P];exact uJ.nil _ _);have I:=U (show zH ((PR.ok () r).bind fun _ r=>pE q 1 d r)by have t:=ae.o;rw[lZ]at t;exact qM t);have E:=U (jB (n:=q) (lev:=1) (d:=d) B);have am:=U A;clear c A P B;go_wp2_with
     (first
       |(go_at_call 53;(with_reducible refine(qL a.o.st false rfl).mono ?_);rintro e C ⟨rfl,rfl⟩)
       | (go_at_call 126;(with_reducible refine((aw.o q O).call a.o.st I.o).mono ?_);rintro e al ⟨v,rfl,c,u⟩
          obtain⟨W,X,Y,Z,aa,ab,ad,rfl⟩:=jC u I.o;have F:=U u;have p:=U (f.o.keep (zK.did c i));have H:=U f.o.own;replace a:=U (a.o.after c);have s:=U (lX p.o (.int .i64 W) (.int .i64 X) (.int .i64 Y) (.string Z) (.slice aa ab ad) Jr)
          clear c u)
       |(at_builtin;refine zy rfl (.tmp 19) (.tmp 23) _ rfl w.heap.size 147 aD _ 5 64 underlying137 j.o.1 j.o.2.1 j.o.2.2.1 j.o.2.2.2 rfl O (.slice none 0 0) tk.length _ rfl Va ⟨al.heap.size,0,none⟩ 1 1 [.int .i64 W,.int .i64 X,.int .i64 Y,.string Z,.slice aa ab ad] rfl rfl Xx Uw Uv O Xy O ?_;intro aN aO R Q S;have J:=U R;have G:=U Q;have K:=U S;clear R Q S))
     go_roundw
     case rel=>
      exact .inr ⟨rfl,(iC (d:=d) p.o a.o F.o E.o G.o K.o J.o (fun k x=>(H.o k x).1) Jq O g O af.o i).rel (n:=q+1) O L.o⟩
     case measure=>
      exact Ok
    .obtain⟨aI,T⟩:∃v:Bool,zU [44] y=v:=⟨_,rfl⟩
     cases aI with
     |true=>
       obtain⟨aj,rfl,ai⟩:=fH T;obtain⟨A,aJ,aH,B,aK⟩:=yU c
       have l:rX n d [] r=rX m d tk aj.tail:=by
        rw[ag];show uQ m d tk aj=_;unfold uQ;rw[Dm ai]
       obtain⟨q,rfl⟩:∃q,m=q+1:=by
        cases m with
        |zero=>have:=ae.o;rw[l,rX]at this;exact absurd this id
        |succ q=>exact⟨q,rfl⟩
       have aG:=g rfl;rw[A]at aG;have aL:=jv B;have am:=U A;have ao:=C0 (zU (⟨#[44]⟩:C2).data.toList (PR.ok () aj)=true) ai;have ar:=B.sign ai;obtain⟨ak,au⟩:∃ak,ak=aj.tail:=⟨_,rfl⟩
       rw[<-au]at l aL ar;have aE:=U au;have L:=U l;have I:=U (show zH ((PR.ok () ak).bind fun _ r=>pE q 1 d r)by have t:=ae.o;rw[l,lZ]at t;exact qM t);have E:=U (jB (n:=q) (lev:=1) (d:=d) ar);have f:=U z;replace a:=U c;obtain⟨av,ax,rfl⟩:=z.form;have g:tk.length<=1000000:=O
       clear c z ag l A T ai B ar au;go_wp2_with
       (first
         |(go_at_call 53;(with_reducible refine(qL a.o.st false rfl).mono ?_);rintro e C ⟨rfl,rfl⟩)
         | (go_at_call 56;(with_reducible refine(zx a.o.st _ ao.o).mono ?_);rintro e C ⟨rfl,c⟩
            have aq:jP b V tj wr (.ok () ak) C:=by rw[aE.o];exact c
            replace f:=U (f.o.keep (zK.did aq i));replace a:=U (a.o.after aq);have D:=a
            clear c aq)
         | (go_at_call 126;(with_reducible refine((aw.o q O).call a.o.st I.o).mono ?_);rintro e al ⟨v,rfl,c,u⟩
            obtain⟨W,X,Y,Z,aa,ab,ad,rfl⟩:=jC u I.o;have F:=U u;have p:=U (f.o.keep (zK.did c i));have H:=U f.o.own;replace a:=U (a.o.after c);have s:=U (lX p.o (.int .i64 W) (.int .i64 X) (.int .i64 Y) (.string Z) (.slice aa ab ad) Jr)
            clear c u)
         |(at_builtin;refine zy rfl (.tmp 19) (.tmp 23) _ rfl w.heap.size 147 aD _ 5 64 underlying137 j.o.1 j.o.2.1 j.o.2.2.1 j.o.2.2.2 rfl O (.slice av tk.length ax) tk.length _ rfl Va ⟨al.heap.size,0,none⟩ 1 1 [.int .i64 W,.int .i64 X,.int .i64 Y,.string Z,.slice aa ab ad] rfl rfl Xx Uw Uv O Xy O ?_;intro aN aO R Q S;have J:=U R;have G:=U Q;have K:=U S;clear R Q S))
       go_roundw
       case rel=>
        exact .inr ⟨rfl,(iC (d:=d) p.o a.o F.o E.o G.o K.o J.o (fun k x=>(H.o k x).1) Jq O g O af.o i).rel (n:=n) O L.o⟩
       case measure=>
        exact Ok
     |false=>
       have ao:=C0 (zU (⟨#[44]⟩:C2).data.toList y=false) T;have l:=ag.trans (X7 (m:=m) (d:=d) (tk:=tk) T);have L:=U l;have f:=U z;replace a:=U c;obtain⟨av,ax,rfl⟩:=z.form;clear c z ag l T g
       go_wp2_with (first
        | (go_at_call 56;(with_reducible refine(zE a.o.st _ ao.o).mono ?_);rintro e C ⟨rfl,c⟩
           replace f:=U (f.o.keep (zK.did c i));replace a:=U (a.o.after c)
           clear c)
        | (go_at_call 58;(with_reducible refine(zh a.o.st _).mono ?_);rintro e al ⟨rfl,c⟩
           replace f:=U (f.o.keep (zK.did c i));replace a:=U (a.o.after c)
           clear c))
       go_ret;rw[L.o];exact RP a.o (f.o.read O)
def qN:List Fu->C2->Option Nat
 |[],_=>none
 |f::r,s=>if f.name=s then some 0 else(qN r s).map (·+1)
def ze:List Ar->C2->Option Nat
 |[],_=>none
 |a::r,s=>if a.name=s then some 0 else(ze r s).map (·+1)
def ko:Option Nat->Int
 |none=>-1
 |some k=>(k:Int)
def zX:List Pa->C2->Option Int
 |[],_=>none
 | x::r,s=>match zX r s with
   |some t=>some t
   |none=>if x.name=s then some x.type else none
def jN(p:Pr)(s:C2):Option Fu:=(qN p.funcs s).bind fun k=>p.funcs[k]?
def jZ(op:Int):Int:=if op=18\/op=19\/op=22 then 2 else if op=16\/op=17 then 0 else 1
def vx(op:Int):Int:=if op=18\/op=19\/op=22 then 2 else if op=16\/op=17 then 2 else if 12<=op/\op<=15 then 2 else 1
def jp(p:Pr)(tf:List Pa)(k:Int)(s:C2):Bool:=
 if k=3 then(zX tf s).isSome else if k=6 then(ze p.wa s).isSome else if k=7 then(qN p.funcs s).isSome else true
def kb(p:Pr)(k:Int)(s:C2)(n:Nat):Bool:=
 if k=7 then(match jN p s with|some f=>decide (n=f.params.length)|none=>true)else true
def j8(p:Pr)(tf:List Pa)(k op:Int)(s:C2)(l:List Int):Int×Int:=
 if k=2 then(2,0)
 else if k=3 then((zX tf s).getD 0,0)
 else if k=7 then(match jN p s with|some f=>if l=f.params.map (·.type)then(f.type,0)else(0,51)|none=>(0,51))
 else if k=6 then(if l.headD 0=1 then(1,0)else(0,51))
 else if k=4\/k=5 then(if l.all (fun t=>decide ((jZ op=0\/t=jZ op)/\t=l.headD 0))then(vx op,0)else(0,51))
 else(1,0)
mutual
def qF(p:Pr)(tf:List Pa):Ex->Int×Int
 |.mk k op _ td tc=>
   if jp p tf k td=false then(0,50)
   else if kb p k td tc.length=false then(0,51)
   else match zq p tf tc with
    |.inl e=>(0,e)
    |.inr l=>j8 p tf k op td l
def zq(p:Pr)(tf:List Pa):List Ex->Int ⊕ List Int
 |[]=>.inr []
 |e::r=>
   if(qF p tf e).2≠0 then .inl (qF p tf e).2
   else match zq p tf r with
    |.inl x=>.inl x
    |.inr l=>.inr ((qF p tf e).1::l)
end
def i9:List Ex->Bool
 |.mk k _ n _ _::_=>decide (k=2)&&decide (n=1)
 |[]=>false
mutual
def l0:St->Bool
 |.mk k _ _ _ tg th=>decide (k=6) || (decide (k=4)&&(jD tg || jD th))
def jD:List St->Bool
 |[]=>false
 |s::r=>l0 s || jD r
end
mutual
def l1:St->Bool
 |.mk k _ _ tc tg th=>decide (k=8) || (decide (k=4)&&(d9 tg&&d9 th)) || (decide (k=5)&&(i9 tc&&!jD tg))
def d9:List St->Bool
 |[]=>false
 |s::r=>l1 s || d9 r
end
def qu(p:Pr)(tf:List Pa)(e:Ex)(t:Int):Int:=if(qF p tf e).2=0 then(if(qF p tf e).1=t then 0 else 51)else(qF p tf e).2
def jj:Ex:=.mk 1 0 0 ⟨#[]⟩ []
def qy(p:Pr)(ft:Int)(k a:Int)(td:C2)(tc:List Ex)(tf:List Pa)(frm:Nat)(ti:Bool):Int:=
 if k=1 then(if qu p tf (tc.getD 0 jj) a=0 then(if(zX (tf.drop frm) td).isSome then 50 else 0)else qu p tf (tc.getD 0 jj) a)
 else if k=2 then(match zX tf td with|none=>50|some t=>qu p tf (tc.getD 0 jj) t)
 else if k=3 then(if(ze p.wa td).isSome then(if qu p tf (tc.getD 0 jj) 1=0 then qu p tf (tc.getD 1 jj) 1 else qu p tf (tc.getD 0 jj) 1)else 50)
 else if k=4\/k=5 then qu p tf (tc.getD 0 jj) 2
 else if k=8 then qu p tf (tc.getD 0 jj) ft
 else if k=9 then qu p tf (tc.getD 0 jj) 1
 else if k=10 then(qF p tf (tc.getD 0 jj)).2
 else if ti then 0 else 53
def jE(k a:Int)(td:C2)(tf:List Pa):List Pa:=if k=1 then tf++[⟨td,a⟩]else tf
def B5:St->List Pa->List Pa
 |.mk k ty td _ _ _,tf=>jE k ty td tf
mutual
def yn(p:Pr)(ft:Int):St->List Pa->Nat->Bool->Nat->Int×Nat
 |.mk k ty td tc tg th,tf,frm,ti,n=>
   if qy p ft k ty td tc tf frm ti≠0 then(qy p ft k ty td tc tf frm ti,n)
   else if(zW p ft tg (jE k ty td tf) (jE k ty td tf).length (ti || decide (k=5)) (n+1)).1≠0 then zW p ft tg (jE k ty td tf) (jE k ty td tf).length (ti || decide (k=5)) (n+1)
   else zW p ft th (jE k ty td tf) (jE k ty td tf).length ti (zW p ft tg (jE k ty td tf) (jE k ty td tf).length (ti || decide (k=5)) (n+1)).2
def zW(p:Pr)(ft:Int):List St->List Pa->Nat->Bool->Nat->Int×Nat
 |[],_,_,_,n=>(0,n)
 |s::r,tf,frm,ti,n=>
   if(yn p ft s tf frm ti n).1≠0 then yn p ft s tf frm ti n
   else zW p ft r (B5 s tf) frm ti (yn p ft s tf frm ti n).2
end
def fJ:List Pa->Bool
 |[]=>false
 |x::r=>(zX r x.name).isSome || fJ r
def xt(p:Pr)(f:Fu):Int×Nat:=
 if fJ f.params then(50,0)
 else if(zW p f.type f.body f.params f.params.length false 0).1≠0 then zW p f.type f.body f.params f.params.length false 0
 else if d9 f.body then(0,0)else(52,(zW p f.type f.body f.params f.params.length false 0).2)
def yo(p:Pr):List Fu->Nat->Int×Nat×Nat
 |[],_=>(0,0,0)
 |f::r,i=>if(xt p f).1≠0 then((xt p f).1,i,(xt p f).2)else yo p r (i+1)
def yV:List Fu->Bool
 |[]=>false
 |f::r=>(qN r f.name).isSome || yV r
def yK(p:Pr):List Ar->Bool
 |[]=>false
 |a::r=>(ze r a.name).isSome || (qN p.funcs a.name).isSome || yK p r
def kd(p:Pr):Bool:=match jN p ⟨#[109,97,105,110]⟩with|some f=>decide (f.type=1)&&decide (f.params.length=0)|none=>false
def xy(p:Pr):Int×Nat×Nat:=
 if eK p=false then(1,0,0)
 else if yK p p.wa || yV p.funcs || !kd p then(50,0,0)
 else yo p p.funcs 0
structure RS where
 arr:List (List Int)
 inp:List Int
 o:List Int
 cost:Nat
 fuel:Nat
 stat:Int
 spent:Bool
abbrev d2:=List (C2×Int)
inductive eD (α:Type) where
 |ok (a:α) (s:RS)
 |fin (s:RS)
def eD.bind{α β:Type}:eD α->(α->RS->eD β)->eD β
 |.ok a s,f=>f a s
 |.fin s,_=>.fin s
def eD.st{α:Type}:eD α->RS
 |.ok _ s=>s
 |.fin s=>s
def jf:d2->C2->Option Nat
 |[],_=>none
 | x::r,s=>match jf r s with
   |some k=>some (k+1)
   |none=>if x.1=s then some 0 else none
def o0(vs:d2)(s:C2):Int:=match jf vs s with|some k=>((vs[k]?).map (·.2)).getD 0|none=>0
def yO(vs:d2)(s:C2)(n:Int):d2:=match jf vs s with|some k=>vs.set k (s,n)|none=>vs
def jJ(s:RS):eD Unit:=match s.fuel with
 |0=>.fin { s with spent:=true }
 |f+1=>.ok () { s with fuel:=f }
def zl(s:RS):RS:={ s with cost:=s.cost+1 }
def yP(s:RS)(k:Int):RS:={ s with stat:=k }
def j0(f:Ex->RS->eD Int):List Ex->RS->eD (List Int)
 |[],s=>.ok [] s
 |e::r,s=>(f e s).bind fun a s=>(j0 f r s).bind fun l s=>.ok (a::l) s
abbrev uK:=Int×Int×d2
def kw(f:d2->St->RS->eD uK):d2->List St->RS->eD uK
 |vs,[],s=>.ok (0,0,vs) s
 |vs,t::r,s=>(f vs t s).bind fun h s=>if h.1=0 then kw f h.2.2 r s else .ok h s
def j9(f:d2->St->RS->eD uK)(vs:d2)(l:List St)(s:RS):eD uK:=
 (kw f vs l s).bind fun h s=>.ok (h.1,h.2.1,h.2.2.take vs.length) s
def EL(e:d2->RS->eD Int)(b:d2->RS->eD uK):Nat->d2->RS->eD uK
 |0,_,s=>.fin s
 | k+1,vs,s=>(e vs s).bind fun a s=>if a=0 then .ok (0,0,vs) s else
    (b vs s).bind fun h s=>if h.1=3 then .ok h s else if h.1=1 then .ok (0,0,h.2.2) s else EL e b k h.2.2 s
def o1(p:Pr)(td:C2)(i:Int)(s:RS):eD Int:=
 match ze p.wa td with
 |none=>.fin s
 | some k=>match s.arr[k]? with
   |none=>.fin s
   |some l=>if 0<=i/\i<l.length then .ok (l.getD i.toNat 0) s else .fin (yP s 3)
def vD(p:Pr)(td:C2)(i n:Int)(s:RS):eD Unit:=
 match ze p.wa td with
 |none=>.fin s
 | some k=>match s.arr[k]? with
   |none=>.fin s
   |some l=>if 0<=i/\i<l.length then .ok () { s with arr:=s.arr.set k (l.set i.toNat n) } else .fin (yP s 3)
def k3(s:RS):eD Int:=match s.inp with
 |[]=>.fin (yP s 4)
 |n::r=>.ok n { s with inp:=r }
def qX(p:Pr)(c:Fu->List Int->RS->eD Int)(vs:d2)(k op n:Int)(td:C2)(l:List Int)(s:RS):eD Int:=
 if k=1\/k=2 then .ok n s
 else if k=3 then .ok (o0 vs td) s
 else if k=4 then .ok (EC op (l.getD 0 0)) (zl s)
 else if k=5 then(if pQ op (l.getD 1 0)then .ok (pR op (l.getD 0 0) (l.getD 1 0)) (zl s)else .fin (yP (zl s) 2))
 else if k=6 then o1 p td (l.getD 0 0) (zl s)
 else if k=7 then(match jN p td with|some f=>c f l (zl s)|none=>.fin s)
 else k3 (zl s)
def d7(f:Fu)(l:List Int):d2:=(f.params.map (·.name)).zip l
mutual
def uL(p:Pr):Nat->d2->Ex->RS->eD Int
 |0,_,_,s=>.fin { s with spent:=true }
 |g+1,vs,.mk k op n td tc,s=>(jJ s).bind fun _ s=>
   if k=5/\(op=18\/op=19)then
    (uL p g vs (tc.getD 0 jj) s).bind fun a s=>if decide (a≠0)=decide (op=19)then .ok a s else uL p g vs (tc.getD 1 jj) s
   else(j0 (uL p g vs) tc s).bind fun l s=>qX p (fun f l s=>(j9 (kM p g) (d7 f l) f.body s).bind fun h s=>.ok h.2.1 s) vs k op n td l s
def kM(p:Pr):Nat->d2->St->RS->eD uK
 |0,_,_,s=>.fin { s with spent:=true }
 |g+1,vs,.mk k _ td tc tg th,s=>(jJ s).bind fun _ s=>
   if k=5 then EL (fun vs s=>uL p g vs (tc.getD 0 jj) s) (fun vs s=>j9 (kM p g) vs tg s) (s.fuel+1) vs s
   else if k=6 then .ok (1,0,vs) s
   else if k=7 then .ok (2,0,vs) s
   else(uL p g vs (tc.getD 0 jj) s).bind fun a s=>
    if k=1 then .ok (0,0,vs++[(td,a)]) s
    else if k=2 then .ok (0,0,yO vs td a) s
    else if k=3 then(uL p g vs (tc.getD 1 jj) s).bind fun n s=>(vD p td a n (zl s)).bind fun _ s=>.ok (0,0,vs) s
    else if k=4 then(if a≠0 then j9 (kM p g) vs tg s else j9 (kM p g) vs th s)
    else if k=8 then .ok (3,a,vs) s
    else if k=9 then .ok (0,0,vs) { zl s with o:=s.o++[a] }
    else .ok (0,0,vs) s
end
def vE(p:Pr)(c:List Int)(b:Int):Int×Int×List Int×Nat×Nat:=
 if(xy p).1≠0 then(0,0,[],0,0)else
 match jN p ⟨#[109,97,105,110]⟩with
 |none=>(0,0,[],0,0)
 |some f=>
   match j9 (kM p b.toNat) [] f.body ⟨p.wa.map fun a=>List.replicate a.size.toNat 0,c,[],0,b.toNat,0,false⟩with
   |.ok h s=>(1,h.2.1,s.o,s.cost,s.fuel)
   |.fin s=>(s.stat,0,s.o,s.cost,s.fuel)
structure Mv (s t:RS):Prop where
 fuel:t.fuel<=s.fuel
 pay:t.cost+t.fuel<=s.cost+s.fuel
 cost:s.cost<=t.cost
 len:t.arr.map List.length=s.arr.map List.length
 inp:∃l,s.inp=l++t.inp
 o:∃l,t.o=s.o++l
theorem Mv.refl(s:RS):Mv s s:=⟨Dy _,Dy _,Dy _,rfl,⟨[],rfl⟩,⟨[],(D8 _).symm⟩⟩
theorem Mv.trans{s t d:RS}(c:Mv s t)(g:Mv t d):Mv s d:=by
 obtain⟨l,i⟩:=c.inp;obtain⟨m,j⟩:=g.inp;obtain⟨a,e⟩:=c.o;obtain⟨b,f⟩:=g.o;exact⟨Dr g.fuel c.fuel,Dr g.pay c.pay,Dr c.cost g.cost,g.len.trans c.len,⟨l++m,by rw[i,j,D7]⟩,⟨a++b,by rw[f,e,D7]⟩⟩
def zw{α:Type}(s:RS)(d:Nat):eD α->Prop
 |.ok _ t=>Mv s t/\t.fuel+d<=s.fuel/\t.spent=s.spent/\t.stat=s.stat
 |.fin t=>Mv s t
theorem zw.ok{α:Type}(a:α)(s:RS):zw s 0 (eD.ok a s):=⟨Mv.refl s,Dy _,rfl,rfl⟩
theorem zw.fin{α:Type}(s:RS)(d:Nat):zw s d (eD.fin s:eD α):=Mv.refl s
theorem zw.bind{α β:Type}{s:RS}{d e:Nat}{x:eD α}{f:α->RS->eD β}(i:zw s d x)(g:∀a t,x=.ok a t->zw t e (f a t)):zw s (d+e) (x.bind f):=by
 cases x with
 |fin t=>exact i
 |ok a t=>
   have c:=g a t rfl;show zw s (d+e) (f a t);cases hx:f a t with
   |fin j=>rw[hx]at c;exact i.1.trans c
   |ok b j=>rw[hx]at c;exact⟨i.1.trans c.1,by have:=i.2.1;have:=c.2.1;omega,c.2.2.1.trans i.2.2.1,c.2.2.2.trans i.2.2.2⟩
theorem zw.le{α:Type}{s:RS}{d e:Nat}{x:eD α}(h:zw s d x)(_:e<=d):zw s e x:=by
 cases x with
 |fin t=>exact h
 |ok a t=>exact⟨h.1,by have:=h.2.1;omega,h.2.2⟩
structure l2 (s t:RS):Prop where
 fuel:t.fuel+1<=s.fuel
 pay:t.cost+t.fuel+1<=s.cost+s.fuel
 cost:s.cost<=t.cost
 len:t.arr.map List.length=s.arr.map List.length
 inp:∃l,s.inp=l++t.inp
 o:∃l,t.o=s.o++l
 idl:t.spent=s.spent/\t.stat=s.stat
theorem l2.mv{s t:RS}(h:l2 s t):Mv s t:=⟨by have:=h.fuel;omega,by have:=h.pay;omega,h.cost,h.len,h.inp,h.o⟩
theorem l2.trans{s t b:RS}(a:l2 s t)(g:Mv t b)(c:b.spent=t.spent/\b.stat=t.stat):l2 s b:=by
 have m:=a.mv.trans g;exact⟨by have:=a.fuel;have:=g.fuel;omega,by have:=a.pay;have:=g.pay;omega,m.cost,m.len,m.inp,m.o,c.1.trans a.idl.1,c.2.trans a.idl.2⟩
theorem l2.done{s t:RS}(h:l2 s t):Mv s (zl t):=⟨by have:=h.fuel;show t.fuel<=_;omega,by have:=h.pay;show t.cost+1+t.fuel<=_;omega,by have:=h.cost;show s.cost<=t.cost+1;omega,h.len,h.inp,h.o⟩
theorem vT{s t:RS}(h:jJ s=.ok () t):l2 s t:=by
 unfold jJ at h;cases hf:s.fuel with
 |zero=>rw[hf]at h;cases h
 |succ f=>
   rw[hf]at h;injection h with _ h;subst h;exact⟨by rw[hf];exact Dy _,by rw[hf];show s.cost+f+1<=_;omega,Dy _,rfl,⟨[],rfl⟩,⟨[],(D8 _).symm⟩,rfl,rfl⟩
theorem IK{s t:RS}(h:jJ s=.fin t):Mv s t:=by
 unfold jJ at h;cases hf:s.fuel with
 |zero=>
   rw[hf]at h;injection h with h;subst h;exact⟨Dw _,by rw[hf];exact Dy _,Dy _,rfl,⟨[],rfl⟩,⟨[],(D8 _).symm⟩⟩
 |succ f=>rw[hf]at h;cases h
theorem z6{α:Type}{s:RS}{f:RS->eD α}(h:∀t,l2 s t->zw s 1 (f t)):zw s 1 ((jJ s).bind fun _ t=>f t):=by
 cases hx:jJ s with
 |fin t=>exact IK hx
 |ok a t=>exact h t (vT hx)
theorem l2.goes{α:Type}{s t:RS}{d:Nat}{x:eD α}(h:l2 s t)(g:zw t d x):zw s 1 x:=by
 cases x with
 |fin u=>exact h.mv.trans g
 |ok a u=>exact⟨h.mv.trans g.1,by have:=h.fuel;have:=g.2.1;omega,g.2.2.1.trans h.idl.1,g.2.2.2.trans h.idl.2⟩
theorem l2.gone{α:Type}{s t:RS}{d:Nat}{x:eD α}(h:l2 s t)(g:zw (zl t) d x):zw s 1 x:=by
 cases x with
 |fin u=>exact h.done.trans g
 |ok a u=>exact⟨h.done.trans g.1,by have:=h.fuel;have:=g.2.1;have e:(zl t).fuel=t.fuel:=rfl;omega,g.2.2.1.trans h.idl.1,g.2.2.2.trans h.idl.2⟩
theorem l3(s:RS)(k:Int):Mv s (yP s k):=⟨Dy _,Dy _,Dy _,rfl,⟨[],rfl⟩,⟨[],(D8 _).symm⟩⟩
theorem r3(p:Pr)(td:C2)(i:Int)(s:RS):zw s 0 (o1 p td i s):=by
 unfold o1;split
 .exact zw.fin _ _
 .split
  .exact zw.fin _ _
  .split
   .exact zw.ok _ _
   .exact l3 _ _
theorem r4(p:Pr)(td:C2)(i n:Int)(s:RS):zw s 0 (vD p td i n s):=by
 unfold vD;split
 .exact zw.fin _ _
 .split
  .exact zw.fin _ _
  .rename_i k _ _ l a
   split
   .refine⟨⟨Dy _,Dy _,Dy _,?_,⟨[],rfl⟩,⟨[],(D8 _).symm⟩⟩,Dy _,rfl,rfl⟩
    show(s.arr.set k (l.set i.toNat n)).map List.length=_;rw[List.map_set,Ce];apply List.ext_getElem?;intro q;rw[Cf];split
    .rename_i c
     subst c;split
     .rw[Yl,a];rfl
     .rename_i b
      rw[Yd]at b;have:=(List.getElem?_eq_some_iff.1 a).1;omega
    .rfl
   .exact l3 _ _
theorem o2(s:RS):zw s 0 (k3 s):=by
 unfold k3;split
 .exact l3 _ _
 .rename_i n r h
  exact⟨⟨Dy _,Dy _,Dy _,rfl,⟨[n],h⟩,⟨[],(D8 _).symm⟩⟩,Dy _,rfl,rfl⟩
theorem NN{p:Pr}{c:Fu->List Int->RS->eD Int}(b:∀f l t,zw t 0 (c f l t)){vs:d2}{k op n:Int}{td:C2}{l:List Int}{s t:RS}(a:l2 s t):zw s 1 (qX p c vs k op n td l t):=by
 unfold qX;split
 .exact a.goes (zw.ok _ _)
 split
 .exact a.goes (zw.ok _ _)
 split
 .exact a.gone (zw.ok _ _)
 split
 .split
  .exact a.gone (zw.ok _ _)
  .exact a.gone (d:=0) (show Mv _ _ from l3 _ _)
 split
 .exact a.gone (r3 _ _ _ _)
 split
 .split
  .exact a.gone (b _ _ _)
  .exact a.goes (zw.fin _ 0)
 .exact a.gone (o2 _)
theorem l4{f:Ex->RS->eD Int}(b:∀e s,zw s 0 (f e s)):∀(l:List Ex) (s:RS),zw s 0 (j0 f l s)
 |[],s=>zw.ok _ _
 | e::r,s=>by
   rw[j0];exact zw.bind (d:=0) (e:=0) (b e s) fun a t _=>zw.bind (d:=0) (e:=0) (l4 b r t) fun l _ _=>zw.ok _ _
theorem nO{f:d2->St->RS->eD uK}(a:∀vs t s,zw s 0 (f vs t s)):∀(l:List St) (vs:d2) (s:RS),zw s 0 (kw f vs l s)
 |[],vs,s=>zw.ok _ _
 | t::r,vs,s=>by
   rw[kw];refine zw.bind (d:=0) (e:=0) (a vs t s) fun _ b _=>?_
   split
   .exact nO a r _ b
   .exact zw.ok _ _
theorem yW{f:d2->St->RS->eD uK}(a:∀vs t s,zw s 0 (f vs t s))(vs:d2)(l:List St)(s:RS):zw s 0 (j9 f vs l s):=by
 unfold j9;exact zw.bind (d:=0) (e:=0) (nO a l vs s) fun _ t _=>zw.ok _ _
theorem EM{e:d2->RS->eD Int}{b:d2->RS->eD uK}(f:∀vs s,zw s 0 (e vs s))(c:∀vs s,zw s 0 (b vs s)):∀(k:Nat) (vs:d2) (s:RS),zw s 0 (EL e b k vs s)
 |0,vs,s=>zw.fin _ _
 | k+1,vs,s=>by
   rw[EL];refine zw.bind (d:=0) (e:=0) (f vs s) fun a t _=>?_
   split
   .exact zw.ok _ _
   .refine zw.bind (d:=0) (e:=0) (c vs t) fun _ g _=>?_
    split
    .exact zw.ok _ _
    .split
     .exact zw.ok _ _
     .exact EM f c k _ g
theorem EN(s:RS):Mv s { s with spent:=true }:=⟨Dy _,Dy _,Dy _,rfl,⟨[],rfl⟩,⟨[],(D8 _).symm⟩⟩
mutual
theorem jk(p:Pr):∀(g:Nat) (vs:d2) (e:Ex) (s:RS),zw s 1 (uL p g vs e s)
 |0,vs,e,s=>by rw[uL];exact EN s
 | g+1,vs,.mk k op n td tc,s=>by
   have i:∀vs e s,zw s 0 (uL p g vs e s):=fun vs e s=>(jk p g vs e s).le (Dw _)
   have q:∀vs t s,zw s 0 (kM p g vs t s):=fun vs t s=>(yA p g vs t s).le (Dw _)
   rw[uL];refine z6 fun t j=>?_
   split
   .refine j.goes (d:=0+0) (zw.bind (i _ _ t) fun a m _=>?_)
    split
    .exact zw.ok _ _
    .exact i _ _ m
   .have b:=l4 (i vs) tc t
    cases hx:j0 (uL p g vs) tc t with
    |fin m=>rw[hx]at b;exact j.mv.trans b
    |ok l m=>
      rw[hx]at b;exact NN (p:=p) (c:=fun f l s=>(j9 (kM p g) (d7 f l) f.body s).bind fun o s=>.ok o.2.1 s) (vs:=vs) (k:=k) (op:=op) (n:=n) (td:=td) (l:=l) (fun f l v=>zw.bind (d:=0) (e:=0) (yW q _ _ v) fun o x _=>zw.ok _ _) (j.trans b.1 b.2.2)
theorem yA(p:Pr):∀(g:Nat) (vs:d2) (t:St) (s:RS),zw s 1 (kM p g vs t s)
 |0,vs,t,s=>by rw[kM];exact EN s
 | g+1,vs,.mk k ty td tc tg th,s=>by
   have j:∀vs e s,zw s 0 (uL p g vs e s):=fun vs e s=>(jk p g vs e s).le (Dw _)
   have l:∀vs t s,zw s 0 (kM p g vs t s):=fun vs t s=>(yA p g vs t s).le (Dw _)
   rw[kM];refine z6 fun t i=>?_
   split
   .exact i.goes (EM (fun _ _=>j _ _ _) (fun _ _=>yW l _ _ _) _ _ _)
   split
   .exact i.goes (zw.ok _ _)
   split
   .exact i.goes (zw.ok _ _)
   have c:=j vs (tc.getD 0 jj) t;cases hx:uL p g vs (tc.getD 0 jj) t with
   |fin m=>rw[hx]at c;exact i.mv.trans c
   |ok a m=>
     rw[hx]at c;have b:=i.trans c.1 c.2.2;show zw s 1 (if k=1 then _ else _);split
     .exact b.goes (zw.ok _ _)
     split
     .exact b.goes (zw.ok _ _)
     split
     .have f:=j vs (tc.getD 1 jj) m
      cases hy:uL p g vs (tc.getD 1 jj) m with
      |fin v=>rw[hy]at f;exact b.mv.trans f
      |ok n v=>
        rw[hy]at f;show zw s 1 ((vD p td a n (zl v)).bind fun _ s=>.ok (0,0,vs) s);exact(b.trans f.1 f.2.2).gone (d:=0+0) (zw.bind (r4 _ _ _ _ _) fun _ x _=>zw.ok _ _)
     split
     .split
      .exact b.goes (yW l _ _ _)
      .exact b.goes (yW l _ _ _)
     split
     .exact b.goes (zw.ok _ _)
     split
     .refine b.gone (d:=0) ⟨⟨Dy _,Dy _,Dy _,rfl,⟨[],rfl⟩,⟨[a],rfl⟩⟩,Dy _,rfl,rfl⟩
     .exact b.goes (zw.ok _ _)
end
theorem zw.at{α:Type}{s t:RS}{d:Nat}{a:α}{x:eD α}(h:zw s d x)(e:x=.ok a t):t.fuel+d<=s.fuel/\t.spent=s.spent:=by
 subst e;exact⟨h.2.1,h.2.2.1⟩
section
variable {α β:Type}{m g:Nat}
end
section
variable {m g:Nat}
end
theorem B6{k:Nat}(_:k<10):(UInt8.ofNat (48+k)).toNat=48+k:=by
 rw[UInt8.toNat_ofNat'];omega
theorem o3(a:Nat):kI 0 (Lib.decDigits a)=a:=by
 induction a using Nat.strongRecOn with
 |ind a c=>
   rw[Lib.decDigits];split
   .rename_i b
    rw[hT,uj,B6 b];omega
   .rename_i b
    rw[uk,c (a / 10) O,B6 O];omega
