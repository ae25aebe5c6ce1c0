import Derived.Test.YthcmenajdcbnnaaGreatDoorAmTreeRead
set_option linter.unusedSimpArgs false
set_option linter.unusedVariables false
set_option maxRecDepth 100000
namespace Go.Proofs.YthcmenajdcbnnaaGreatDoor
open Go.RowKit Tryz
theorem On{p:Prop}(h:p:=by
 have t:=(iY (d:=d) p.o a.o F.o E.o G.o K.o J.o (fun k x=>(H.o k x).1) Jg O g O af.o i).at;have aF:=am.o;simp[nY]
 omega):p:=h
theorem Oo{p:Prop}(h:p:=by
 rw[k]at b;injection b with f _;subst f
 exact .inr ⟨_,rfl,D0 _⟩):p:=h
def fW(p:Nat->Bool)(w:C3):C3:={ w with heap:=w.heap.mapIdx fun i o=>if p i then .cells #[] 0 (0,0)else o }
theorem KL(p:Nat->Bool)(w:C3)(k:Nat):(fW p w).heap[k]?=(w.heap[k]?).map fun o=>if p k then .cells #[] 0 (0,0)else o:=by simp[fW,Array.getElem?_mapIdx]
theorem l8{p:Nat->Bool}{w:C3}{k:Nat}(h:p k=false):(fW p w).heap[k]?=w.heap[k]?:=by
 rw[KL,h];cases w.heap[k]? <;> rfl
theorem kE{p:Nat->Bool}{B:Nat}{w:C3}{g o:Nat}{c:C4}(b:fK B (fW p w) g o c):p g=false/\fK B w g o c:=by
 cases hp:p g with
 |false=>exact⟨rfl,b.1,(D6 (w:=fW p w) (w':=w) (l8 hp).symm).trans b.2⟩
 |true=>
   have a:=b.2;unfold World.cell? at a;rw[show(fW p w).heap[(⟨g,o,none⟩:Addr).block]?=(fW p w).heap[g]? from rfl,KL,hp]at a;cases hg:w.heap[g]? with
   |none=>rw[hg]at a;cases a
   |some _=>rw[hg]at a;simp at a
theorem jl{p:Nat->Bool}{B:Nat}{w:C3}{g o:Nat}{b:C4}(c:p g=false)(a:fK B w g o b):fK B (fW p w) g o b:=⟨a.1,(D6 (w:=w) (w':=fW p w) (l8 c)).trans a.2⟩
mutual
theorem y1.imp{B b:Nat}{w w':C3}(a:∀g o c,fK B w g o c->fK b w' g o c):∀(e:Ex) (g o:Nat),y1 B w e g o->y1 b w' e g o
 | .mk k op n td tc,g,o,h=>by
   rw[y1]at h ⊢;obtain⟨f,i,j,l,p,v,m,q⟩:=h;exact⟨a _ _ _ f,a _ _ _ i,a _ _ _ j,a _ _ _ l,p,v,a _ _ _ m,vd.imp q fun d r=>kL.imp a tc d r⟩
theorem kL.imp{B a:Nat}{w w':C3}(b:∀g o c,fK B w g o c->fK a w' g o c):∀(l:List Ex) (g o:Nat),kL B w l g o->kL a w' l g o
 |[],_,_,_=>by rw[kL];trivial
 | e::r,g,o,h=>by
   rw[kL]at h ⊢;exact⟨y1.imp b e g o h.1,kL.imp b r g (o+5) h.2⟩
end
mutual
theorem EC.imp{B d:Nat}{w w':C3}(a:∀g o f,fK B w g o f->fK d w' g o f):∀(e:St) (g o:Nat),EC B w e g o->EC d w' e g o
 | .mk k ty td tc tg th,g,o,h=>by
   rw[EC]at h ⊢;obtain⟨i,j,l,⟨v,m,q⟩,⟨t,n,r⟩,⟨u,p,s⟩⟩:=h;exact⟨a _ _ _ i,a _ _ _ j,a _ _ _ l,⟨v,a _ _ _ m,vd.imp q fun b c=>kL.imp a tc b c⟩,⟨t,a _ _ _ n,vd.imp r fun b c=>ky.imp a tg b c⟩,⟨u,a _ _ _ p,vd.imp s fun b c=>ky.imp a th b c⟩⟩
theorem ky.imp{B a:Nat}{w w':C3}(b:∀g o c,fK B w g o c->fK a w' g o c):∀(l:List St) (g o:Nat),ky B w l g o->ky a w' l g o
 |[],_,_,_=>by rw[ky];trivial
 | e::r,g,o,h=>by
   rw[ky]at h ⊢;exact⟨EC.imp b e g o h.1,ky.imp b r g (o+6) h.2⟩
end
theorem kU.imp{B a:Nat}{w w':C3}(d:∀g o b,fK B w g o b->fK a w' g o b){v:C4}{l:List Ex}(c:kU B w v l):kU a w' v l:=vd.imp c fun g o=>kL.imp d l g o
theorem f6.imp{B a:Nat}{w w':C3}(d:∀g o b,fK B w g o b->fK a w' g o b){v:C4}{l:List St}(c:f6 B w v l):f6 a w' v l:=vd.imp c fun g o=>ky.imp d l g o
theorem j7.imp{B c:Nat}{w w':C3}(e:∀g o b,fK B w g o b->fK c w' g o b){a:Ex}{v:C4}(d:j7 B w a v):j7 c w' a v:=by
 obtain⟨b,j,f,i⟩:=d;exact⟨b,j,f,i.imp e⟩
def nO(L:Nat):Nat->Bool:=fun k=>decide (k<L)
theorem kr{L k:Nat}:nO L k=false↔L<=k:=by simp[nO]
def zM(L:Nat)(w w':C3):Prop:=w.heap.size<=w'.heap.size/\∀k,k<w.heap.size->L<=k->w'.heap[k]?=w.heap[k]?
theorem zM.cells{L c:Nat}{w w':C3}(d:zM L w w')(_:c<=L):∀g o b,fK w.heap.size (fW (nO L) w) g o b->fK w'.heap.size (fW (nO c) w') g o b:=fun g o b a=>by
 obtain⟨f,a⟩:=kE a;have e:=kr.1 f;exact jl (kr.2 O) ⟨Yb a.1 d.1,(D6 (w:=w) (d.2 g a.1 e)).trans a.2⟩
theorem zM.refl(L:Nat)(w:C3):zM L w w:=⟨D0 _,fun _ _ _=>rfl⟩
theorem zM.trans{L:Nat}{w w' d:C3}(a:zM L w w')(g:zM L w' d):zM L w d:=⟨Dz a.1 g.1,fun k b c=>(g.2 k (Yb b a.1) c).trans (a.2 k b c)⟩
theorem zM.of_off{b L:Nat}{w w':C3}(a:fI b w.heap.size w w')(_:b<L):zM L w w':=⟨a.size,fun k c _=>a.block c O⟩
theorem zM.wb{L:Nat}{w w':C3}(a:Cx w w'):zM L w w':=⟨a.size,fun k b _=>a.block k b⟩
theorem zM.set{L g:Nat}{w:C3}(_:g<L)(i:Nat)(u:C4):zM L w (w.setCell (g,i) u):=⟨Uk,fun k _ _=>Dw w _ u k (by show k≠g;omega)⟩
def kn(L:Nat)(w:C3)(a:Ex)(v:C4):Prop:=j7 w.heap.size (fW (nO L) w) a v
def jc(L:Nat)(w:C3)(a:List Ex)(v:C4):Prop:=kU w.heap.size (fW (nO L) w) v a
def xk(L:Nat)(w:C3)(a:List St)(v:C4):Prop:=f6 w.heap.size (fW (nO L) w) v a
theorem kn.keep{L b:Nat}{w w':C3}{a:Ex}{v:C4}(c:kn L w a v)(k:zM L w w')(d:b<=L):kn b w' a v:=j7.imp (k.cells d) c
theorem jc.keep{L b:Nat}{w w':C3}{a:List Ex}{v:C4}(c:jc L w a v)(k:zM L w w')(d:b<=L):jc b w' a v:=kU.imp (k.cells d) c
theorem xk.keep{L b:Nat}{w w':C3}{a:List St}{v:C4}(c:xk L w a v)(k:zM L w w')(d:b<=L):xk b w' a v:=f6.imp (k.cells d) c
theorem kn.form{L:Nat}{w:C3}{a:Ex}{v:C4}(d:kn L w a v):∃k o n s b m c,v=.agg #[(k:Int),(o:Int),(n:Int),.string s,.slice b m c]:=by
 obtain⟨_,f,_,e⟩:=d;obtain⟨b,c,rfl,_⟩:=e.form;exact⟨_,_,_,_,b,_,c,f⟩
theorem jc.form{L:Nat}{w:C3}{a:List Ex}{v:C4}(h:jc L w a v):∃A c,v=.slice A a.length c/\a.length<=281474976710656:=kU.form h
theorem xk.form{L:Nat}{w:C3}{a:List St}{v:C4}(h:xk L w a v):∃A c,v=.slice A a.length c/\a.length<=281474976710656:=f6.form h
theorem j9.imp{α:Type}{x:PR α}{P Q:α->Prop}(b:j9 x P)(k:∀a,P a->Q a):j9 x Q:=by
 cases x with
 |ok a r=>exact k a b
 |bad r=>obtain⟨a,c⟩:=b;exact⟨a,k a c⟩
 |deep r=>obtain⟨a,c⟩:=b;exact⟨a,k a c⟩
 |o=>trivial
theorem j9.some{α:Type}{x:PR α}{P:α->Prop}(b:j9 x P)(c:zI x):∃a,P a:=by
 cases x with
 |ok a r=>exact⟨a,b⟩
 |bad r=>exact b
 |deep r=>exact b
 |o=>exact absurd c id
theorem j9.bind{α β:Type}{x:PR α}{f:α->List fH->PR β}{P:α->Prop}{Q:β->Prop}(b:j9 x P)(k:∀a r,x=.ok a r->P a->j9 (f a r) Q)(j:∀a,P a->∃c,Q c):j9 (x.bind f) Q:=by
 cases x with
 |ok a r=>exact k a r rfl b
 |bad r=>obtain⟨a,d⟩:=b;exact j a d
 |deep r=>obtain⟨a,d⟩:=b;exact j a d
 |o=>trivial
theorem vJ{s:List UInt8}{l:List fH}{β:Type}{a:β}{Q:β->Prop}(h:Q a):j9 ((zN s l).bind fun _ r=>.ok a r) Q:=by
 unfold zN;split
 .exact h
 .exact⟨a,h⟩
theorem jh{α β:Type}(x:PR α)(f:α->List fH->PR β):(x.bind f).un=x.bind fun a r=>(f a r).un:=Vb
theorem q7{α β:Type}(x:PR α)(f:List fH->PR β):x.un.bind (fun _ r=>f r)=x.bind fun _ r=>f r:=Vb
theorem zb{α β γ:Type}(x:PR α)(f:α->List fH->PR β)(g:β->List fH->PR γ):(x.bind f).bind g=x.bind fun a r=>(f a r).bind g:=Vb
theorem q8(x:PR Unit):x.un=x:=Vb
theorem xW{β:Type}(s:List UInt8)(l:List fH)(a:β):((zN s l).bind fun _ r=>PR.ok a r).un=zN s l:=by unfold zN;split<;>rfl
theorem qM{α β:Type}{x:PR α}{f:α->List fH->PR β}(h:zI (x.bind f)):zI x:=by cases x<;>first|trivial|exact h
theorem jC{L:Nat}{w:C3}{x:PR Ex}{v:C4}(d:j9 x fun a=>kn L w a v)(f:zI x):∃k o n s b m c,v=.agg #[(k:Int),(o:Int),(n:Int),.string s,.slice b m c]:=by
 obtain⟨a,e⟩:=d.some f;exact e.form
theorem z2{L:Nat}{w:C3}{x:PR (List Ex)}{v:C4}(d:j9 x fun a=>jc L w a v)(f:zI x):∃b m c,v=.slice b m c:=by
 obtain⟨a,e⟩:=d.some f;obtain⟨b,c,g,_⟩:=e.form;exact⟨b,_,c,g⟩
theorem zc.num{b:Nat}{V:C4}{tj r:List fH}{d dp:Bool}{w:C3}(e:zc b V tj r d dp w)(j:gV r=0):(⟨(pV r).toArray⟩:C2).size<=281474976710656/\xK (pV r)=true/\kS 0 (pV r)<9223372036854775808:=by
 obtain⟨_,⟨g,c,_,_,_,_,_,k⟩,l,i⟩:=e;obtain⟨t,q,rfl⟩:=List.exists_cons_of_ne_nil i.ne;have m:t∈tj:=l.subset (Y4 ..);obtain⟨a,f⟩:=k t m j;refine⟨f,a,?_⟩;have:=a;simp only[xK,D2,decide_eq_true_eq]at this;exact this.2
theorem jk.tok{b:Nat}{V:C4}{tj:List fH}{x:PR Unit}{w:C3}(a:jk b V tj x w):k3 b V tj w:=by
 obtain⟨r,_,dp,c,_⟩:=a.box;exact c.2.1
theorem jk.move{b:Nat}{V:C4}{tj:List fH}{x:PR Unit}{w e W:C3}(d:jk b V tj x e)(i:k3 b V tj w)(g:fI b w.heap.size w W)(f:W.heap[b]?=e.heap[b]?):jk b V tj x W:=by
 have c:∀{r bd dp},zc b V tj r bd dp e->zc b V tj r bd dp W:=fun c=>⟨f.trans c.1,i.off g,c.2.2⟩
 cases x with
 |ok a r=>exact c d
 |bad r=>exact c d
 |deep r=>exact c d
 |o=>exact d
theorem jJ.after{b:Nat}{V:C4}{tj:List fH}{x y:PR Unit}{w c d:C3}(a:jJ b V tj w x c)(g:jJ b V tj c y d):jJ b V tj w y d:=⟨g.1,a.2.trans (g.2.mono a.2.size)⟩
theorem jJ.below{b:Nat}{V:C4}{tj:List fH}{x:PR Unit}{w c d:C3}(a:jJ b V tj w x c)(g:Cx c d):jJ b V tj w x d:=⟨a.1.below g,a.2.trans ((fI.wb g a.1.lt).mono a.2.size)⟩
theorem jJ.alloc{b:Nat}{V:C4}{tj:List fH}{x:PR Unit}{w a:C3}(c:jJ b V tj w x a)(o:Obj):jJ b V tj w x (a.alloc o):=c.below (Zb.alloc Zr o)
theorem jJ.set{b g:Nat}{V:C4}{tj:List fH}{x:PR Unit}{w c:C3}(d:jJ b V tj w x c)(j:k3 b V tj w)(f:w.heap.size<=g)(_:g≠b)(i:Nat)(a:C4):jJ b V tj w x (c.setCell (g,i) a):=by
 have e:fI b w.heap.size w (c.setCell (g,i) a):=d.2.setCell d.1.lt f i a;exact⟨d.1.move j e (Dw c _ a b (by show b≠g;omega)),e⟩
theorem jJ.wj{b g:Nat}{V:C4}{tj:List fH}{x:PR Unit}{w l:C3}(m:jJ b V tj w x l)(d:k3 b V tj w)(c:w.heap.size<=g)(a:g≠b)(e f i j k:C4):jJ b V tj w x (g2 l g e f i j k):=
 ((((m.set d c a 0 e).set d c a 1 f).set d c a 2 i).set d c a 3 j).set d c a 4 k
theorem zM.wj{L g:Nat}{w:C3}(a:g<L)(b c d e f:C4):zM L w (g2 w g b c d e f):=
 ((((zM.set a 0 b).trans (zM.set a 1 c)).trans (zM.set a 2 d)).trans (zM.set a 3 e)).trans (zM.set a 4 f)
theorem rA{b B k:Nat}{w w':C3}(a:fI b B w w')(d:k<B)(c:k≠b):(∀o,w'.cell? ⟨k,o,none⟩=w.cell? ⟨k,o,none⟩)/\∀o,w'.frozen? ⟨k,o,none⟩=w.frozen? ⟨k,o,none⟩:=
 ⟨fun _=>a.cell d c,fun _=>World.frozen?_of_block (w:=w) (a.block d c)⟩
abbrev yl:Obj:=.cells #[(0:Int),(0:Int),(0:Int),.string ⟨#[]⟩,()] 147
def Z2:Ex:=.mk 0 0 0 bE []
abbrev p0:C4:=.agg #[(0:Int),(0:Int),(0:Int),.string ⟨#[]⟩,()]
theorem lK(L:Nat)(w:C3):kn L w Z2 p0:=⟨_,rfl,Xn,vg _ _⟩
theorem zci{W:C3}{g:Nat}{i j k l m:C4}{T:TypeId}{fr:Nat×Nat}(n:W.heap[g]?=some (.cells #[i,j,k,l,m] T fr))(a b c d e:C4):
 (((((W.setCell (g,0) a).setCell (g,1) b).setCell (g,2) c).setCell (g,3) d).setCell (g,4) e).cell? (g,0)=some a/\
 (((((W.setCell (g,0) a).setCell (g,1) b).setCell (g,2) c).setCell (g,3) d).setCell (g,4) e).cell? (g,1)=some b/\
 (((((W.setCell (g,0) a).setCell (g,1) b).setCell (g,2) c).setCell (g,3) d).setCell (g,4) e).cell? (g,2)=some c/\
 (((((W.setCell (g,0) a).setCell (g,1) b).setCell (g,2) c).setCell (g,3) d).setCell (g,4) e).cell? (g,3)=some d/\
 (((((W.setCell (g,0) a).setCell (g,1) b).setCell (g,2) c).setCell (g,3) d).setCell (g,4) e).cell? (g,4)=some e:=by
 have f:=l6 n a b c d e;exact⟨(Du f 0).trans rfl,(Du f 1).trans rfl,(Du f 2).trans rfl,(Du f 3).trans rfl,(Du f 4).trans rfl⟩
theorem jH{b B k:Nat}{w w':C3}{o:Obj}(a:fI b B w w')(d:k<B)(c:k≠b)(e:w.heap[k]?=some o):w'.heap[k]?=some o:=(a.block d c).trans e
theorem zu{k:Nat}{w:C3}{o:Obj}(a:w.heap[k]?=some o)(b:Obj):(w.alloc b).heap[k]?=some o:=(D7 w b k (Array.getElem?_eq_some_iff.1 a).1).trans a
def CE(b:Nat)(V:C4)(tj:List fH)(n:Nat)(lev d:Int):Prop:=∀(w:C3) (x:PR Unit),jk b V tj x w->zI (x.bind fun _ r=>pE n lev d r)->
 Cy 126 #[(b,0),(lev:Int),(d:Int)] w (qk b V tj w (x.bind fun _ r=>pE n lev d r) (kn w.heap.size))
theorem CE.call{b:Nat}{V:C4}{tj:List fH}{n:Nat}{lev d:Int}(a:CE b V tj n lev d){w:C3}{x:PR Unit}(e:jk b V tj x w)(c:zI (x.bind fun _ r=>pE n lev d r)):
 Cy 126 #[(b,0),(lev:Int),(d:Int)] w (qk b V tj w (x.bind fun _ r=>pE n lev d r) (kn w.heap.size)):=a w x e c
def CA(b:Nat)(V:C4)(tj:List fH)(n:Nat)(d:Int):Prop:=∀(w:C3) (x:PR Unit),jk b V tj x w->zI (x.bind fun _ r=>pA n d r)->
 Cy 150 #[(b,0),(d:Int)] w (qk b V tj w (x.bind fun _ r=>pA n d r) (jc w.heap.size))
theorem CA.call{b:Nat}{V:C4}{tj:List fH}{n:Nat}{d:Int}(a:CA b V tj n d){w:C3}{x:PR Unit}(e:jk b V tj x w)(c:zI (x.bind fun _ r=>pA n d r)):
 Cy 150 #[(b,0),(d:Int)] w (qk b V tj w (x.bind fun _ r=>pA n d r) (jc w.heap.size)):=a w x e c
def kM(b:Nat)(V:C4)(tj:List fH)(w:C3)(x:PR Unit)(W:C3):Prop:=jJ b V tj w x W/\W.heap[w.heap.size]?=some yl/\k3 b V tj w/\b<w.heap.size
section
variable {b:Nat}{V:C4}{tj:List fH} {w W W':C3}{x y:PR Unit}
theorem kM.start(h:jk b V tj x w):kM b V tj w x (w.alloc yl):=
 ⟨⟨h.below (Zb.alloc Zr _),fI.wb (Zb.alloc Zr _) h.lt⟩,Ds w yl,h.tok,h.lt⟩
theorem kM.did(h:kM b V tj w x W):jJ b V tj w x W:=h.1
theorem kM.st(h:kM b V tj w x W):jk b V tj x W:=h.1.1
theorem kM.size(h:kM b V tj w x W):w.heap.size<W.heap.size:=(Array.getElem?_eq_some_iff.1 h.2.1).1
theorem kM.ne(h:kM b V tj w x W):w.heap.size≠b:=Jp
theorem kM.step(h:kM b V tj w x W)(g:jJ b V tj W y W'):kM b V tj w y W':=⟨h.1.after g,jH g.off h.size h.ne h.2.1,h.2.2⟩
theorem kM.alloc(h:kM b V tj w x W)(o:Obj):kM b V tj w x (W.alloc o):=⟨h.1.alloc o,zu h.2.1 o,h.2.2⟩
theorem kM.drewN(h:kM b V tj w x W)(n:Nat):kM b V tj w x (W.drewN n):=h.step ⟨h.st.drewN n,(fI.refl b _ W).drewN n⟩
theorem kM.own(c:kM b V tj w x W):(W.cell? (w.heap.size,0)=some (.int .i64 0)/\W.cell? (w.heap.size,1)=some (.int .i64 0)/\W.cell? (w.heap.size,2)=some (.int .i64 0)/\
 W.cell? (w.heap.size,3)=some (.string ⟨#[]⟩)/\W.cell? (w.heap.size,4)=some (.slice none 0 0))/\∀o,W.frozen? ⟨w.heap.size,o,none⟩=false:=by
 have a:=c.2.1;refine⟨⟨(Du a 0).trans rfl,(Du a 1).trans rfl,(Du a 2).trans rfl,(Du a 3).trans rfl,(Du a 4).trans rfl⟩,fun o=>?_⟩;simp[World.frozen?,a]
theorem kM.read(g:kM b V tj w x W)(a c d e f:C4):(((((W.setCell (w.heap.size,0) a).setCell (w.heap.size,1) c).setCell (w.heap.size,2) d).setCell (w.heap.size,3) e).setCell (w.heap.size,4) f).cell? (w.heap.size,0)=some a/\(((((W.setCell (w.heap.size,0) a).setCell (w.heap.size,1) c).setCell (w.heap.size,2) d).setCell (w.heap.size,3) e).setCell (w.heap.size,4) f).cell? (w.heap.size,1)=some c/\(((((W.setCell (w.heap.size,0) a).setCell (w.heap.size,1) c).setCell (w.heap.size,2) d).setCell (w.heap.size,3) e).setCell (w.heap.size,4) f).cell? (w.heap.size,2)=some d/\(((((W.setCell (w.heap.size,0) a).setCell (w.heap.size,1) c).setCell (w.heap.size,2) d).setCell (w.heap.size,3) e).setCell (w.heap.size,4) f).cell? (w.heap.size,3)=some e/\(((((W.setCell (w.heap.size,0) a).setCell (w.heap.size,1) c).setCell (w.heap.size,2) d).setCell (w.heap.size,3) e).setCell (w.heap.size,4) f).cell? (w.heap.size,4)=some f:=zci g.2.1 a c d e f
theorem kM.fin(i:kM b V tj w y W){X:PR Ex}(k:X.un=y){c d e f g:C4}(j:j9 X fun a=>kn w.heap.size (g2 W w.heap.size c d e f g) a (.agg #[c,d,e,f,g])):
 qk b V tj w X (kn w.heap.size) (.returned (.agg #[c,d,e,f,g])) (g2 W w.heap.size c d e f g):=
 ⟨_,rfl,k▸i.1.wj i.2.2.1 Zr i.ne _ _ _ _ _,j⟩
theorem kn.wj{L:Nat}{a:Ex}{v:C4}(g:kn L W a v)(i:w.heap.size<L)(b c d e f:C4):kn w.heap.size (g2 W w.heap.size b c d e f) a v:=g.keep (zM.wj i _ _ _ _ _) O
theorem jc.wj{L:Nat}{a:List Ex}{v:C4}(g:jc L W a v)(i:w.heap.size<L)(b c d e f:C4):jc w.heap.size (g2 W w.heap.size b c d e f) a v:=g.keep (zM.wj i _ _ _ _ _) O
theorem zM.did{L:Nat}(a:jJ b V tj W x W')(c:b<L):zM L W W':=zM.of_off a.off c
theorem ur(L:Nat)(W:C3)(k o n:Int)(s:C2)(a:fS n):kn L W (.mk k o n s []) (.agg #[(k:Int),(o:Int),(n:Int),s,()]):=⟨_,rfl,a,vg _ _⟩
theorem kM.wv(i:kM b V tj w x W)(o:Obj)(a c d e f:C4):((((((W.setCell (w.heap.size,0) a).setCell (w.heap.size,1) c).setCell (w.heap.size,2) d).setCell (w.heap.size,3) e).setCell (w.heap.size,4) f).alloc o).cell? (w.heap.size,0)=some a/\((((((W.setCell (w.heap.size,0) a).setCell (w.heap.size,1) c).setCell (w.heap.size,2) d).setCell (w.heap.size,3) e).setCell (w.heap.size,4) f).alloc o).cell? (w.heap.size,1)=some c/\((((((W.setCell (w.heap.size,0) a).setCell (w.heap.size,1) c).setCell (w.heap.size,2) d).setCell (w.heap.size,3) e).setCell (w.heap.size,4) f).alloc o).cell? (w.heap.size,2)=some d/\((((((W.setCell (w.heap.size,0) a).setCell (w.heap.size,1) c).setCell (w.heap.size,2) d).setCell (w.heap.size,3) e).setCell (w.heap.size,4) f).alloc o).cell? (w.heap.size,3)=some e/\((((((W.setCell (w.heap.size,0) a).setCell (w.heap.size,1) c).setCell (w.heap.size,2) d).setCell (w.heap.size,3) e).setCell (w.heap.size,4) f).alloc o).cell? (w.heap.size,4)=some f:=by
 have g:=zu (l6 i.2.1 a c d e f) o;exact⟨(Du g 0).trans rfl,(Du g 1).trans rfl,(Du g 2).trans rfl,(Du g 3).trans rfl,(Du g 4).trans rfl⟩
theorem kM.de(i:kM b V tj w y W){X:PR Ex}(k:X.un=y){o:Obj}{c d e f g:C4}(j:j9 X fun a=>kn w.heap.size ((_root_.Go.Proofs.YthcmenajdcbnnaaGreatDoor.g2 W w.heap.size c d e f g).alloc o) a (.agg #[c,d,e,f,g])):
 qk b V tj w X (kn w.heap.size) (.returned (.agg #[c,d,e,f,g])) ((_root_.Go.Proofs.YthcmenajdcbnnaaGreatDoor.g2 W w.heap.size c d e f g).alloc o):=
 ⟨_,rfl,k▸(i.1.wj i.2.2.1 Zr i.ne _ _ _ _ _).alloc o,j⟩
theorem nX{B:Nat}{w:C3}{e:Ex}{k op n:Int}{s:C2}{b:C4}(c:j7 B w e (.agg #[(k:Int),(op:Int),(n:Int),s,b])):∃tc,e=.mk k op n s tc/\fS n/\kU B w b tc:=by
 obtain⟨_,a,d,f⟩:=c;obtain⟨_,_,_,_,tc⟩:=e;simp only[Value.agg.injEq,Array.mk.injEq,Cb,Value.int.injEq,Value.string.injEq,true_and,and_true,Ex.kind,Ex.op,Ex.n,Ex.name]at a;obtain⟨rfl,rfl,rfl,rfl,rfl⟩:=a;exact⟨tc,rfl,d,f⟩
theorem uG{L a g:Nat}{e:Ex}{k op n:Int}{s:C2}{c:C4}{T:TypeId}(d:kn L W e (.agg #[(k:Int),(op:Int),(n:Int),s,c]))(i:a<=L)(j:a<=W.heap.size)(l:g=W.heap.size):
 jc a (W.alloc (.cells #[(k:Int),(op:Int),(n:Int),s,c] T)) [e] (.slice (some ⟨g,0,none⟩) 1 1):=by
 subst l;have f:=d.keep (zM.wb (Zb.alloc Zr (.cells #[(k:Int),(op:Int),(n:Int),s,c] T))) i;obtain⟨tc,rfl,m,o⟩:=nX f;exact V7 (w:=fW (nO a) _) (b:=W.heap.size) ((l8 (kr.2 j)).trans (Ds W _)) Uh m o
end
def kj(w:C3)(v v':C4):Prop:=v'.ownBlock=v.ownBlock\/∃g,v'.ownBlock=some g/\w.heap.size<=g
theorem z3{P:Program}{w:C3}{G:Nat}{t p e:TypeId}{i:TypeInfo}{z:C4}{l B:Nat}(A:P.underlying t=some (.slice e))(u:P.info? e=some i)(E:i.zero=some z)
 (N:i.size=l) (K:i.bytes=B) (_:z.cells.size=l) (_:0<l)
 {v:C4}{n:Nat}{F:List C4} (y:w.ownsRow G e l v n F)
 {a:Addr}{m c:Nat}{d:List C4} (o:d.length=m*l) (x:∀j q,d[j]?=some q->w.cell? (a.add j)=some q) (I:∀q∈d,q.oneCell'=true)
 (s:n+m<=maxLen) (C:(n+m)*B<=140737488355328) (_:0<m) {v':C4} {w':C3}
 (b:(Builtin.append_ #[t,t] p #[v,.slice (some a) m c]).run P w=.ok v' w'):kj w v v':=by
 subst N K;rcases y.2 with⟨rfl,rfl⟩|⟨g,r,H,rfl,_,M,_,_,L,_⟩
 .have k:=run_append_nil (P:=P) w t p e i z A u E a m c d o x O Jb (by have J:=C;simp only[Yz]at J;omega)
  exact Oo
 .by_cases D:n+m<=r
  .have k:=run_append_room (P:=P) w t p e i A u g n r H M a m c d o x I D (by rw[o,L,<-Nat.add_mul];exact Nat.mul_le_mul_right _ D)
   rw[k]at b;injection b with f _;subst f;exact .inl rfl
  .have k:=run_append_grow (P:=P) w t p e i z A u E ⟨g,0,none⟩ n r F y.1 (y.cells (g:=g) rfl) a m c d o x O Jb (growslice_fits Jb C)
   exact Oo
theorem qJ{P:Program}{w:C3}{ops:Array Oper}{L:List Oper}{o:Oper}{a:Act}{Q:Exit->Act->C3->Prop}(W:o.guard=none)(s x:Operand)(t:TypeId)
 (Z:o.op=.call { callee:=.builtin .append,args:=#[s,x],argTypes:=#[t,t] })
 (f:Nat) (e:TypeId) (i:TypeInfo) (z:C4) (b l:Nat) (H:P.underlying t=some (.slice e)) (A:P.info? e=some i) (I:i.zero=some z)
 (F:i.size=b) (u:i.bytes=l) (J:z.cells.size=b) (G:0<b)
 (v:C4) (n:Nat) (p:List C4) (aa:a.eval s=v) (D:w.ownsRow f e b v n p)
 (k:Addr) (m c:Nat) (d:List C4) (ab:a.eval x=.slice (some k) m c) (B:d.length=m*b) (C:∀j g,d[j]?=some g->w.cell? (k.add j)=some g) (q:∀g∈d,g.oneCell'=true)
 (r:n+m<=maxLen) (y:(n+m)*l<=140737488355328) (V:f<=w.heap.size) (Y:0<m)
 (M:∀v' w',w'.ownsRow f e b v' (n+m) (p++d)->w.grownBy w' v.ownBlock->kj w v v'->wpList P ops Q L (a.put o.dst v') w'):wpList P ops Q (o::L) a w:=by
 refine wpList_plain W fun K T=>?_
 obtain⟨v',w',E,N,R,_⟩:=run_append_own (P:=P) w f t o.type e i z b l H A I F u J G v n p D k m c d B C q r y V;have S:=z3 H A I F u J G D B C q r y Y E;have X:=T _ _ (M v' w' N R S);unfold Oper.wp execOp;simp only[Z,resolve,invoke,builtin,Sem.run_bind,Sem.run_pure,Result.andThen_ok,List.map_toArray,Y5,Cl,aa,ab,E];exact X
def rZ(ps:List (Ex×C4)):List C4:=ps.flatMap fun p=>[.int .i64 p.1.kind,.int .i64 p.1.op,.int .i64 p.1.n,.string p.1.name,p.2]
theorem MR(ps:List (Ex×C4))(p:Ex×C4):rZ (ps++[p])=rZ ps++[.int .i64 p.1.kind,.int .i64 p.1.op,.int .i64 p.1.n,.string p.1.name,p.2]:=by simp[rZ]
def yq(B:Nat)(v:C4):Nat->Bool:=fun k=>decide (k<B) || v.ownBlock == some k
theorem qt{B k:Nat}{v:C4}:yq B v k=false↔B<=k/\v.ownBlock≠some k:=by
 unfold yq;simp[Cc]
def uP(B:Nat)(w:C3)(v:C4)(tk:List Ex):Prop:=
 ∃ps:List (Ex×C4),ps.map (·.1)=tk/\w.ownsRow B 147 5 v ps.length (rZ ps)/\∀p∈ps,fS p.1.n/\kU w.heap.size (fW (yq B v) w) p.2 p.1.args
theorem uP.nil(B:Nat)(w:C3):uP B w (.slice none 0 0) []:=⟨[],rfl,Yp w B _ 5,fun p a=>Ur⟩
theorem uP.form{B:Nat}{w:C3}{v:C4}{tk:List Ex}(b:uP B w v tk):∃a c,v=.slice a tk.length c:=by
 obtain⟨ps,rfl,d,_⟩:=b;rw[Yh];exact zY d
theorem uP.own{B:Nat}{w:C3}{v:C4}{tk:List Ex}(a:uP B w v tk):∀k,v.ownBlock=some k->k<w.heap.size/\B<=k:=by
 obtain⟨ps,_,b,_⟩:=a;exact zT b
theorem kU.mask{p q:Nat->Bool}{w w':C3}{v:C4}{l:List Ex}(b:kU w.heap.size (_root_.Go.Proofs.YthcmenajdcbnnaaGreatDoor.fW p w) v l)(i:w.heap.size<=w'.heap.size)(d:∀k,k<w.heap.size->p k=false->q k=false/\w'.heap[k]?=w.heap[k]?):kU w'.heap.size (_root_.Go.Proofs.YthcmenajdcbnnaaGreatDoor.fW q w') v l:=by
 refine b.imp fun g o _ a=>?_
 obtain⟨e,a⟩:=kE a;obtain⟨f,c⟩:=d g a.1 e;exact jl f ⟨Yb a.1 i,(D6 (w:=w) c).trans a.2⟩
theorem uP.keep{B:Nat}{w w':C3}{v:C4}{tk:List Ex}(b:uP B w v tk)(k:zM B w w'):uP B w' v tk:=by
 have d:=b.own;obtain⟨ps,g,i,e⟩:=b;refine⟨ps,g,zQ i fun j a=>k.2 j (d j a).1 (d j a).2,fun p c=>⟨(e p c).1,(e p c).2.mask k.1 fun j a f=>⟨f,k.2 j a (qt.1 f).1⟩⟩⟩
theorem uP.app{B L:Nat}{w W w':C3}{v v':C4}{tk:List Ex}{e:Ex}{k op n:Int}{s:C2}{q:C4}(i:uP B w v tk)(D:kn L w e (.agg #[(k:Int),(op:Int),(n:Int),s,q]))(_:B<=L)(C:∀k,v.ownBlock=some k->k<L)
 (f:Cx w W) (u:W.grownBy w' v.ownBlock) (G:kj W v v') (F:w'.ownsRow B 147 5 v' (tk.length+1) ((rZ (Classical.choose i))++[.int .i64 k,.int .i64 op,.int .i64 n,.string s,q])):uP B w' v' (tk++[e]):=by
 obtain⟨z,_,y⟩:=Cp i;generalize Classical.choose i=ps at *;obtain⟨tc,rfl,E,H⟩:=nX D;have A:w.heap.size<=w'.heap.size:=Dz f.size u.size
 have t:∀j,j<w.heap.size->v.ownBlock≠some j->v'.ownBlock≠some j/\w'.heap[j]?=w.heap[j]?:=fun j b x=>by
  refine⟨fun a=>?_,(u.block j (Yb b f.size) (fun e=>x e.symm)).trans (f.block j b)⟩;rcases G with d|⟨g,d,r⟩
  .exact x (d▸a)
  .rw[d]at a
   injection a with a;have:=f.size;omega
 refine⟨ps++[(.mk k op n s tc,q)],by rw[Yj,z];rfl,?_,fun p c=>?_⟩
 .rw[MR,Dr,show ps.length=tk.length by rw[<-z,Yh]]
  exact F
 .rcases List.mem_append.1 c with c|c
  .refine⟨(y p c).1,(y p c).2.mask A fun j b o=>?_⟩
   obtain⟨d,r⟩:=qt.1 o;obtain⟨l,m⟩:=t j b r;exact⟨qt.2 ⟨d,l⟩,m⟩
  .obtain rfl:=List.mem_singleton.1 c
   refine⟨E,kU.mask H A fun j b o=>?_⟩;have I:=kr.1 o;obtain⟨l,m⟩:=t j b (fun a=>by have:=C j a;omega);exact⟨qt.2 ⟨O,l⟩,m⟩
theorem KM{b:Nat}{W:C3}{g:Nat}:∀(ps:List (Ex×C4)) (o:Nat),(∀j a,(rZ ps)[j]?=some a->fK b W g (o+j) a)->(∀p∈ps,fS p.1.n/\kU b W p.2 p.1.args)->kL b W (ps.map (·.1)) g o
 | [],_,_,_=>by
   show kL b W [] g _;rw[kL];trivial
 | p::r,o,hc,hp=>by
   show kL b W (p.1::r.map (·.1)) g o;have e:rZ (p::r)=.int .i64 p.1.kind :: .int .i64 p.1.op :: .int .i64 p.1.n :: .string p.1.name::p.2::rZ r:=by simp[rZ]
   rw[e]at hc;rw[kL];refine⟨?_,KM r (o+5) (fun j a c=>?_) fun q f=>hp q (Y7 _ f)⟩
   .obtain⟨d,i⟩:=hp p (Y4 ..)
    obtain⟨⟨k,op,n,_,tc⟩,a⟩:=p;rw[y1];exact⟨hc 0 _ rfl,hc 1 _ rfl,hc 2 _ rfl,hc 3 _ rfl,d,a,hc 4 _ rfl,i⟩
   .have:=hc (j+5) a Ux
    rw[show o+5+j=o+(j+5)by omega];exact this
theorem uP.read{B:Nat}{w:C3}{v:C4}{tk:List Ex}(l:uP B w v tk)(s:tk.length<=281474976710656):jc B w tk v:=by
 obtain⟨ps,rfl,t,f⟩:=l
 have x:∀g o b,fK w.heap.size (fW (yq B v) w) g o b->fK w.heap.size (fW (nO B) w) g o b:=fun g o b c=>by
  obtain⟨u,c⟩:=kE c;exact jl (kr.2 (qt.1 u).1) c
 rcases t.2 with⟨rfl,m⟩|⟨g,i,k,rfl,n,d,_,_,_,q⟩
 .have:ps=[]:=Yq m
  subst this;exact vg _ _
 .refine⟨_,i,?_,?_,fun _=>⟨g,0,rfl,?_⟩⟩
  .rw[Yh]
  .exact s
  .have r:g<w.heap.size:=(Array.getElem?_eq_some_iff.1 d).1
   refine KM ps 0 (fun j b a=>?_) fun p e=>⟨(f p e).1,(f p e).2.imp x⟩
   refine jl (kr.2 n) ⟨r,?_⟩;rw[Yz,cell_of_row w g j k _ (0,0) d];rw[<-q,Y8]at a;split at a
   .simpa using a
   .cases a
theorem WG:(Tryz.prog.info? 147).map (fun i=>(i.zero,i.size,i.bytes))=some (some p0,5,64):=by kernel_rfl
def yi(b:Nat)(w:C3):Nat:=match w.cell? (b,1)with|some (.int _ k)=>k.toNat|_=>0
theorem jX{b:Nat}{V:C4}{tj r:List fH}{a dp:Bool}{w:C3}(c:zc b V tj r a dp w):yi b w=tj.length-r.length:=by
 unfold yi;rw[c.cells.2.1];exact Int.toNat_natCast _
def nY:C4->Nat
 |.bool true=>1
 |_=>0
def vj(m:Nat)(d:Int)(tk:List Ex)(r:List fH):PR (List Ex):=if zq [44] r=true then rU m d tk r.tail else(zN [41] r).bind fun _ r=>.ok tk r
def zbl(b:Nat)(V:C4)(tj:List fH)(w:C3)(T:PR (List Ex))(n:Nat)(d:Int)(a:C4)(wr:C3):Prop:=
 ∃(m:Nat) (tk:List Ex) (y:PR Unit),m<=n/\uP w.heap.size wr a tk/\jJ b V tj w y wr/\T=y.bind (fun _ r=>vj m d tk r)/\(qD y=false->tk.length<=yi b wr)/\tk.length<=2000000
def Z3(b:Nat)(V:C4)(tj:List fH)(w:C3)(T:PR (List Ex))(n:Nat)(d:Int)(e:List fH)(c a:C4)(wr:C3):Prop:=
 (a=.bool true/\c=.slice none 0 0/\jJ b V tj w (.ok () e) wr)\/(a=.bool false/\zbl b V tj w T n d c wr)
theorem nZ{b:Nat}{V:C4}{tj:List fH}{x:PR Unit}{w:C3}(g:jk b V tj x w)(f:qD x=true)(d:Int):
 Cy 150 #[(b,0),(d:Int)] w fun e w'=>e=.returned (.slice none 0 0)/\jJ b V tj w x w':=by
 have a:=C0 (jJ b V tj w x w) ⟨g,fI.refl _ _ _⟩;have j:=U f;have k:=U (show zU (⟨#[41]⟩:C2).data.toList x=false by cases x with|ok n r=>cases f|_=>rfl);have i:=U (show(x.bind fun _ r=>zN (⟨#[41]⟩:C2).data.toList r)=x by cases x with|ok n r=>cases f|_=>rfl);clear g f;go_enter func150,ntmps150
 go_wp2_with (first
  |(go_at_call 56;(with_reducible refine(zE a.o.st _ k.o).mono ?_);rintro e p ⟨rfl,c⟩;replace a:=U (a.o.after c);clear c))
 go_loopw [5,6] (fun m l wr=>m=.slice none 0 0/\l=.bool true/\jJ b V tj w x wr) (fun _ _ _=>0)
 case atStart=>exact⟨rfl,rfl,a.o⟩
 case round=>
  obtain⟨rfl,rfl,c⟩:=hrel;replace a:=U c;clear c
  go_wp2_with (first
   |(go_at_call 53;(with_reducible refine(qL a.o.st true j.o).mono ?_);rintro e p ⟨rfl,rfl⟩)
   |(go_at_call 58;(with_reducible refine(zg a.o.st _).mono ?_);rintro e _ ⟨rfl,c⟩;rw[i.o]at c;replace a:=U (a.o.after c);clear c))
  go_ret;exact⟨rfl,a.o⟩
theorem EK{B:Nat}{w:C3}{v:C4}{tk:List Ex}(i:uP B w v tk)(a b c d g:C4)(_:B<=w.heap.size):
 (w.alloc (.cells #[a,b,c,d,g] 147)).ownsRow B 147 5 v tk.length (rZ (Classical.choose i))/\
 (∀j k,[a,b,c,d,g][j]?=some k->(w.alloc (.cells #[a,b,c,d,g] 147)).cell? ((⟨w.heap.size,0,none⟩:Addr).add j)=some k)/\B<=(w.alloc (.cells #[a,b,c,d,g] 147)).heap.size:=by
 obtain⟨m,l,_⟩:=Cp i;refine⟨?_,fun j k n=>?_,Uj⟩
 .have e:(Classical.choose i).length=tk.length:=by rw[<-Yh (f:=(·.1)),m]
  rw[e]at l;exact qR l ((D4 w.heap.size w).alloc Zr _) Zr
 .rw[show(⟨w.heap.size,0,none⟩:Addr).add j=⟨w.heap.size,j,none⟩by unfold Addr.add;split<;>simp_all]
  exact(cell_of_row _ w.heap.size j _ _ (0,0) (Ds w _)).trans (by simpa using n)
def l9(b:Nat)(V:C4)(tj:List fH)(w w':C3)(q:Nat)(d:Int)(tk:List Ex)(r:List fH)(v':C4):Prop:=
 ∃(a:List Ex) (y:PR Unit),uP w.heap.size w' v' a/\jJ b V tj w y w'/\rU (q+1) d tk r=y.bind (fun _ r=>vj q d a r)/\(qD y=false->a.length<=yi b w')/\a.length<=2000000/\tj.length-r.length<=yi b w'
theorem mA{q:Nat}{d:Int}{tk:List Ex}{r:List fH}:rU (q+1) d tk r=(pE q 1 d r).bind fun e r=>vj q d (tk++[e]) r:=by rw[rU];rfl
theorem iY{b:Nat}{V:C4}{tj:List fH}{w l w':C3}{q:Nat}{d:Int}{tk:List Ex}{r:List fH}{v v':C4}{L:Nat}{k op n:Int}{s:C2}{y:C4}
 (t:uP w.heap.size l v tk) (M:jJ b V tj w ((PR.ok () r).bind fun _ r=>pE q 1 d r).un l) (p:j9 ((PR.ok () r).bind fun _ r=>pE q 1 d r) fun a=>kn L l a (.agg #[(k:Int),(op:Int),(n:Int),s,y])) (hF:zm 1 r (pE q 1 d r))
 (i:(l.alloc (.cells #[(k:Int),(op:Int),(n:Int),s,y] 147)).grownBy w' v.ownBlock) (I:kj (l.alloc (.cells #[(k:Int),(op:Int),(n:Int),s,y] 147)) v v')
 (H:w'.ownsRow w.heap.size 147 5 v' (tk.length+1) ((rZ (Classical.choose t))++[.int .i64 k,.int .i64 op,.int .i64 n,.string s,y])) (E:∀k,v.ownBlock=some k->k<L) (D:w.heap.size<=L) (_:r.length<=tj.length)
 (_:tk.length<=1000000) (_:tk.length<=tj.length-r.length) (Q:k3 b V tj w) (_:b<w.heap.size):l9 b V tj w w' q d tk r v':=by
 have F:Cx l (l.alloc (.cells #[(k:Int),(op:Int),(n:Int),s,y] 147)):=Zb.alloc Zr _
 have N:∀x,jJ b V tj w x l->jJ b V tj w x w':=fun x f=>by
  have z:=f.alloc (.cells #[(k:Int),(op:Int),(n:Int),s,y] 147)
  have P:v.ownBlock≠some b:=fun e=>by
   have R:=(t.own b e).2;omega
  have K:fI b w.heap.size w w':=z.off.trans (fI.mk' i.os i.tape i.output i.size z.st.lt fun j _ _=>i.block j (by have:=z.off.size;omega) (fun e=>by
   have:=(t.own j e.symm).2
   omega))
  exact⟨z.st.move Q K (i.block b z.st.lt (fun e=>P e.symm)),K⟩
 have g:=N _ M;cases f:pE q 1 d r with
 |ok e c=>
   have m:((PR.ok () r).bind fun _ r=>pE q 1 d r)=.ok e c:=f;rw[m]at p g;rw[f]at hF;have A:zJ 1 r c:=hF;have B:zc b V tj c false false w':=g.st;have u:=jX B;have J:=A.2.2;refine⟨tk++[e],.ok () c,t.app p D E F i I H,g,by rw[mA,f];rfl,fun _=>?_,?_,?_⟩
   .rw[u,Dr]
    simp;omega
   .rw[Dr]
    simp;omega
   .rw[u]
    omega
 |bad c=>
   have m:((PR.ok () r).bind fun _ r=>pE q 1 d r)=.bad c:=f;rw[m]at p g;rw[f]at hF;have A:zJ 0 r c:=hF;have B:zc b V tj c true false w':=g.st;have u:=jX B;have J:=A.2.2;obtain⟨e,G⟩:=p;refine⟨tk++[e],.bad c,t.app G D E F i I H,g,by rw[mA,f];rfl,(fun C=>by cases C),?_,?_⟩
   .rw[Dr]
    simp;omega
   .rw[u]
    omega
 |deep c=>
   have m:((PR.ok () r).bind fun _ r=>pE q 1 d r)=.deep c:=f;rw[m]at p g;rw[f]at hF;have A:zJ 0 r c:=hF;have B:zc b V tj c false true w':=g.st;have u:=jX B;have J:=A.2.2;obtain⟨e,G⟩:=p;refine⟨tk++[e],.deep c,t.app G D E F i I H,g,by rw[mA,f];rfl,(fun C=>by cases C),?_,?_⟩
   .rw[Dr]
    simp;omega
   .rw[u]
    omega
 |o=>
   have m:((PR.ok () r).bind fun _ r=>pE q 1 d r)=.o:=f;rw[m]at g;exact absurd g.st id
theorem l9.rel{b:Nat}{V:C4}{tj:List fH}{w w':C3}{q n:Nat}{d:Int}{tk:List Ex}{r:List fH}{v':C4}{T:PR (List Ex)}(c:l9 b V tj w w' q d tk r v')(l:q<=n)(k:T=rU (q+1) d tk r):zbl b V tj w T n d v' w':=by
 obtain⟨a,y,e,f,g,i,j,_⟩:=c;exact⟨q,a,y,l,e,f,k.trans g,i,j⟩
theorem l9.at{b:Nat}{V:C4}{tj:List fH}{w w':C3}{q:Nat}{d:Int}{tk:List Ex}{r:List fH}{v':C4}(a:l9 b V tj w w' q d tk r v'):tj.length-r.length<=yi b w':=by
 obtain⟨_,y,_,_,_,_,_,c⟩:=a;exact c
theorem yG{b:Nat}{V:C4}{tj r:List fH}{w w':C3}(a:jJ b V tj w (.ok () r) w'):yi b w'=tj.length-r.length/\r.length<=tj.length/\tj.length<=1000000/\qC r/\0<r.length:=by
 have e:zc b V tj r false false w':=a.st;obtain⟨_,⟨_,_,_,_,_,_,d,_⟩,f,c⟩:=e;exact⟨jX a.st,rW f,d,c,c.pos⟩
theorem WH{m:Nat}{d:Int}{tk:List Ex}{y:PR Unit}(a:zU [44] y=false):y.bind (fun _ r=>vj m d tk r)=y.bind fun _ r=>(zN [41] r).bind fun _ r=>.ok tk r:=by
 cases y with
 |ok _ r=>
   show vj m d tk r=_;unfold vj;rw[Dp Gv];rfl
 |_=>rfl
theorem QX{b:Nat}{V:C4}{tj:List fH}{w W:C3}{y:PR Unit}{tk:List Ex}{v:C4}{L:Nat}(c:jJ b V tj w (y.bind fun _ r=>zN [41] r) W)(a:jc L W tk v):
 qk b V tj w (y.bind fun _ r=>(zN [41] r).bind fun _ r=>.ok tk r) (jc L) (.returned v) W:=by
 refine⟨v,rfl,?_,?_⟩
 .rw[jh]
  simp only[xW];exact c
 .cases y with
  |ok _ r=>exact vJ a
  |bad r=>exact⟨tk,a⟩
  |deep r=>exact⟨tk,a⟩
  |o=>trivial
theorem MS{b:Nat}{V:C4}{tj r:List fH}{w:C3}{n:Nat}{d:Int}(ay:∀m,m<=n->CE b V tj m 1 d)(N:zc b V tj r false false w)(ah:zI (pA (n+1) d r)):
 Cy 150 #[(b,0),(d:Int)] w (qk b V tj w (pA (n+1) d r) (jc w.heap.size)):=by
 have a:=C0 (jJ b V tj w (.ok () r) w) ⟨N,fI.refl _ _ _⟩;have i:=N.lt;have af:=U N.2.1;cases hs:zq [41] r with
 |true=>
   have M:pA (n+1) d r=.ok [] r.tail:=by rw[pA,Dq hs]
   rw[M];have an:=C0 (zU (⟨#[41]⟩:C2).data.toList (PR.ok () r)=true) hs;clear N ah hs M;go_enter func150,ntmps150
   go_wp2_with (first
    |(go_at_call 56;(with_reducible refine(qA a.o.st _ an.o).mono ?_);rintro e C ⟨rfl,c⟩;replace a:=U (a.o.after c);clear c))
   go_ret;exact⟨_,rfl,a.o,vg _ _⟩
 |false=>
   have M:pA (n+1) d r=rU n d [] r:=by rw[pA,Dp (by rw[hs];decide)]
   rw[M]at ah ⊢;have an:=C0 (zU (⟨#[41]⟩:C2).data.toList (PR.ok () r)=false) hs;have ae:=U ah;have aw:=U ay;clear N ah hs M ay;go_enter func150,ntmps150
   go_wp2_with (first
    |(go_at_call 56;(with_reducible refine(zE a.o.st _ an.o).mono ?_);rintro e C ⟨rfl,c⟩;replace a:=U (a.o.after c);clear c))
   go_loopw [5,6] (fun aM ap wr=>Z3 b V tj w (rU n d [] r) n d r aM ap wr) (fun _ ap wr=>2*(tj.length-yi b wr)+nY ap)
   case atStart=>exact .inl ⟨rfl,rfl,a.o⟩
   case round=>
    obtain⟨aD,az,aA,aB,aC⟩:=info_parts WG;have j:=U (Dt az (Dt aA (Dt aB aC)));clear az aA aB aC;rcases hrel with⟨rfl,rfl,c⟩|⟨rfl,m,tk,y,_,z,c,ag,g,_⟩
    .replace a:=U c
     have D:=U c;obtain⟨A,aJ,aH,B,aK⟩:=yG c
     obtain⟨q,rfl⟩:∃q,n=q+1:=by
      cases n with
      |zero=>have:=ae.o;rw[rU]at this;exact absurd this id
      |succ q=>exact⟨q,rfl⟩
     have g:([]:List Ex).length<=1000000:=Uh
     obtain⟨tk,P⟩:∃tk:List Ex,tk=[]:=⟨_,rfl⟩
     rw[<-P]at g;have aP:tk.length=0:=by rw[P];rfl
     have L:=U (show rU (q+1) d [] r=rU (q+1) d tk r by rw[P]);have f:=U (show uP w.heap.size wr (.slice none 0 0) tk by rw[P];exact uP.nil _ _);have I:=U (show zI ((PR.ok () r).bind fun _ r=>pE q 1 d r)by have t:=ae.o;rw[mA]at t;exact qM t);have E:=U (jB (n:=q) (lev:=1) (d:=d) B);have am:=U A;clear c A P B;go_wp2_with
     (first
       |(go_at_call 53;(with_reducible refine(qL a.o.st false rfl).mono ?_);rintro e C ⟨rfl,rfl⟩)
       | (go_at_call 126;(with_reducible refine((aw.o q O).call a.o.st I.o).mono ?_);rintro e al ⟨v,rfl,c,u⟩
          obtain⟨W,X,Y,Z,aa,ab,ad,rfl⟩:=jC u I.o;have F:=U u;have p:=U (f.o.keep (zM.did c i));have H:=U f.o.own;replace a:=U (a.o.after c);have s:=U (EK p.o (.int .i64 W) (.int .i64 X) (.int .i64 Y) (.string Z) (.slice aa ab ad) Jh)
          clear c u)
       |(at_builtin;refine qJ rfl (.tmp 19) (.tmp 23) _ rfl w.heap.size 147 aD _ 5 64 underlying137 j.o.1 j.o.2.1 j.o.2.2.1 j.o.2.2.2 rfl O (.slice none 0 0) tk.length _ rfl Xs ⟨al.heap.size,0,none⟩ 1 1 [.int .i64 W,.int .i64 X,.int .i64 Y,.string Z,.slice aa ab ad] rfl rfl Xo Um Ul O Xp O ?_;intro aN aO R Q S;have J:=U R;have G:=U Q;have K:=U S;clear R Q S))
     go_roundw
     case rel=>
      exact .inr ⟨rfl,(iY (d:=d) p.o a.o F.o E.o G.o K.o J.o (fun k x=>(H.o k x).1) Jg O g O af.o i).rel (n:=q+1) O L.o⟩
     case measure=>
      exact On
    .obtain⟨aI,T⟩:∃v:Bool,zU [44] y=v:=⟨_,rfl⟩
     cases aI with
     |true=>
       obtain⟨aj,rfl,ai⟩:=uq T;obtain⟨A,aJ,aH,B,aK⟩:=yG c
       have l:rU n d [] r=rU m d tk aj.tail:=by
        rw[ag];show vj m d tk aj=_;unfold vj;rw[Dq ai]
       obtain⟨q,rfl⟩:∃q,m=q+1:=by
        cases m with
        |zero=>have:=ae.o;rw[l,rU]at this;exact absurd this id
        |succ q=>exact⟨q,rfl⟩
       have aG:=g rfl;rw[A]at aG;have aL:=jo B;have am:=U A;have ao:=C0 (zU (⟨#[44]⟩:C2).data.toList (PR.ok () aj)=true) ai;have ar:=B.sign ai;obtain⟨ak,au⟩:∃ak,ak=aj.tail:=⟨_,rfl⟩
       rw[<-au]at l aL ar;have aE:=U au;have L:=U l;have I:=U (show zI ((PR.ok () ak).bind fun _ r=>pE q 1 d r)by have t:=ae.o;rw[l,mA]at t;exact qM t);have E:=U (jB (n:=q) (lev:=1) (d:=d) ar);have f:=U z;replace a:=U c;obtain⟨av,ax,rfl⟩:=z.form;have g:tk.length<=1000000:=O
       clear c z ag l A T ai B ar au;go_wp2_with
       (first
         |(go_at_call 53;(with_reducible refine(qL a.o.st false rfl).mono ?_);rintro e C ⟨rfl,rfl⟩)
         | (go_at_call 56;(with_reducible refine(qA a.o.st _ ao.o).mono ?_);rintro e C ⟨rfl,c⟩
            have aq:jJ b V tj wr (.ok () ak) C:=by rw[aE.o];exact c
            replace f:=U (f.o.keep (zM.did aq i));replace a:=U (a.o.after aq);have D:=a
            clear c aq)
         | (go_at_call 126;(with_reducible refine((aw.o q O).call a.o.st I.o).mono ?_);rintro e al ⟨v,rfl,c,u⟩
            obtain⟨W,X,Y,Z,aa,ab,ad,rfl⟩:=jC u I.o;have F:=U u;have p:=U (f.o.keep (zM.did c i));have H:=U f.o.own;replace a:=U (a.o.after c);have s:=U (EK p.o (.int .i64 W) (.int .i64 X) (.int .i64 Y) (.string Z) (.slice aa ab ad) Jh)
            clear c u)
         |(at_builtin;refine qJ rfl (.tmp 19) (.tmp 23) _ rfl w.heap.size 147 aD _ 5 64 underlying137 j.o.1 j.o.2.1 j.o.2.2.1 j.o.2.2.2 rfl O (.slice av tk.length ax) tk.length _ rfl Xs ⟨al.heap.size,0,none⟩ 1 1 [.int .i64 W,.int .i64 X,.int .i64 Y,.string Z,.slice aa ab ad] rfl rfl Xo Um Ul O Xp O ?_;intro aN aO R Q S;have J:=U R;have G:=U Q;have K:=U S;clear R Q S))
       go_roundw
       case rel=>
        exact .inr ⟨rfl,(iY (d:=d) p.o a.o F.o E.o G.o K.o J.o (fun k x=>(H.o k x).1) Jg O g O af.o i).rel (n:=n) O L.o⟩
       case measure=>
        exact On
     |false=>
       have ao:=C0 (zU (⟨#[44]⟩:C2).data.toList y=false) T;have l:=ag.trans (WH (m:=m) (d:=d) (tk:=tk) T);have L:=U l;have f:=U z;replace a:=U c;obtain⟨av,ax,rfl⟩:=z.form;clear c z ag l T g
       go_wp2_with (first
        | (go_at_call 56;(with_reducible refine(zE a.o.st _ ao.o).mono ?_);rintro e C ⟨rfl,c⟩
           replace f:=U (f.o.keep (zM.did c i));replace a:=U (a.o.after c)
           clear c)
        | (go_at_call 58;(with_reducible refine(zg a.o.st _).mono ?_);rintro e al ⟨rfl,c⟩
           replace f:=U (f.o.keep (zM.did c i));replace a:=U (a.o.after c)
           clear c))
       go_ret;rw[L.o];exact QX a.o (f.o.read O)
def qP:List Fu->C2->Option Nat
 |[],_=>none
 |f::r,s=>if f.name=s then some 0 else(qP r s).map (·+1)
def zZ:List Ar->C2->Option Nat
 |[],_=>none
 |a::r,s=>if a.name=s then some 0 else(zZ r s).map (·+1)
def jw:Option Nat->Int
 |none=>-1
 |some k=>(k:Int)
def zv:List Pa->C2->Option Int
 |[],_=>none
 | x::r,s=>match zv r s with
   |some t=>some t
   |none=>if x.name=s then some x.type else none
def jT(p:Pr)(s:C2):Option Fu:=(qP p.funcs s).bind fun k=>p.funcs[k]?
def jY(op:Int):Int:=if op=18\/op=19\/op=22 then 2 else if op=16\/op=17 then 0 else 1
def vK(op:Int):Int:=if op=18\/op=19\/op=22 then 2 else if op=16\/op=17 then 2 else if 12<=op/\op<=15 then 2 else 1
def kN(p:Pr)(tf:List Pa)(k:Int)(s:C2):Bool:=
 if k=3 then(zv tf s).isSome else if k=6 then(zZ p.wa s).isSome else if k=7 then(qP p.funcs s).isSome else true
def xQ(p:Pr)(k:Int)(s:C2)(n:Nat):Bool:=
 if k=7 then(match jT p s with|some f=>decide (n=f.params.length)|none=>true)else true
def ji(p:Pr)(tf:List Pa)(k op:Int)(s:C2)(l:List Int):Int×Int:=
 if k=2 then(2,0)
 else if k=3 then((zv tf s).getD 0,0)
 else if k=7 then(match jT p s with|some f=>if l=f.params.map (·.type)then(f.type,0)else(0,51)|none=>(0,51))
 else if k=6 then(if l.headD 0=1 then(1,0)else(0,51))
 else if k=4\/k=5 then(if l.all (fun t=>decide ((jY op=0\/t=jY op)/\t=l.headD 0))then(vK op,0)else(0,51))
 else(1,0)
mutual
def qE(p:Pr)(tf:List Pa):Ex->Int×Int
 |.mk k op _ td tc=>
   if kN p tf k td=false then(0,50)
   else if xQ p k td tc.length=false then(0,51)
   else match qI p tf tc with
    |.inl e=>(0,e)
    |.inr l=>ji p tf k op td l
def qI(p:Pr)(tf:List Pa):List Ex->Int ⊕ List Int
 |[]=>.inr []
 |e::r=>
   if(qE p tf e).2≠0 then .inl (qE p tf e).2
   else match qI p tf r with
    |.inl x=>.inl x
    |.inr l=>.inr ((qE p tf e).1::l)
end
def o7:List Ex->Bool
 |.mk k _ n _ _::_=>decide (k=2)&&decide (n=1)
 |[]=>false
mutual
def wO:St->Bool
 |.mk k _ _ _ tg th=>decide (k=6) || (decide (k=4)&&(jR tg || jR th))
def jR:List St->Bool
 |[]=>false
 |s::r=>wO s || jR r
end
mutual
def wP:St->Bool
 |.mk k _ _ tc tg th=>decide (k=8) || (decide (k=4)&&(fV tg&&fV th)) || (decide (k=5)&&(o7 tc&&!jR tg))
def fV:List St->Bool
 |[]=>false
 |s::r=>wP s || fV r
end
def jO(p:Pr)(tf:List Pa)(e:Ex)(t:Int):Int:=if(qE p tf e).2=0 then(if(qE p tf e).1=t then 0 else 51)else(qE p tf e).2
def jZ:Ex:=.mk 1 0 0 ⟨#[]⟩ []
def jG(p:Pr)(ft:Int)(k a:Int)(td:C2)(tc:List Ex)(tf:List Pa)(frm:Nat)(ti:Bool):Int:=
 if k=1 then(if jO p tf (tc.getD 0 jZ) a=0 then(if(zv (tf.drop frm) td).isSome then 50 else 0)else jO p tf (tc.getD 0 jZ) a)
 else if k=2 then(match zv tf td with|none=>50|some t=>jO p tf (tc.getD 0 jZ) t)
 else if k=3 then(if(zZ p.wa td).isSome then(if jO p tf (tc.getD 0 jZ) 1=0 then jO p tf (tc.getD 1 jZ) 1 else jO p tf (tc.getD 0 jZ) 1)else 50)
 else if k=4\/k=5 then jO p tf (tc.getD 0 jZ) 2
 else if k=8 then jO p tf (tc.getD 0 jZ) ft
 else if k=9 then jO p tf (tc.getD 0 jZ) 1
 else if k=10 then(qE p tf (tc.getD 0 jZ)).2
 else if ti then 0 else 53
def jd(k a:Int)(td:C2)(tf:List Pa):List Pa:=if k=1 then tf++[⟨td,a⟩]else tf
def H2:St->List Pa->List Pa
 |.mk k ty td _ _ _,tf=>jd k ty td tf
mutual
def yr(p:Pr)(ft:Int):St->List Pa->Nat->Bool->Nat->Int×Nat
 |.mk k ty td tc tg th,tf,frm,ti,n=>
   if jG p ft k ty td tc tf frm ti≠0 then(jG p ft k ty td tc tf frm ti,n)
   else if(zX p ft tg (jd k ty td tf) (jd k ty td tf).length (ti || decide (k=5)) (n+1)).1≠0 then zX p ft tg (jd k ty td tf) (jd k ty td tf).length (ti || decide (k=5)) (n+1)
   else zX p ft th (jd k ty td tf) (jd k ty td tf).length ti (zX p ft tg (jd k ty td tf) (jd k ty td tf).length (ti || decide (k=5)) (n+1)).2
def zX(p:Pr)(ft:Int):List St->List Pa->Nat->Bool->Nat->Int×Nat
 |[],_,_,_,n=>(0,n)
 |s::r,tf,frm,ti,n=>
   if(yr p ft s tf frm ti n).1≠0 then yr p ft s tf frm ti n
   else zX p ft r (H2 s tf) frm ti (yr p ft s tf frm ti n).2
end
def lL:List Pa->Bool
 |[]=>false
 |x::r=>(zv r x.name).isSome || lL r
def yj(p:Pr)(f:Fu):Int×Nat:=
 if lL f.params then(50,0)
 else if(zX p f.type f.body f.params f.params.length false 0).1≠0 then zX p f.type f.body f.params f.params.length false 0
 else if fV f.body then(0,0)else(52,(zX p f.type f.body f.params f.params.length false 0).2)
def uQ(p:Pr):List Fu->Nat->Int×Nat×Nat
 |[],_=>(0,0,0)
 |f::r,i=>if(yj p f).1≠0 then((yj p f).1,i,(yj p f).2)else uQ p r (i+1)
def us:List Fu->Bool
 |[]=>false
 |f::r=>(qP r f.name).isSome || us r
def uR(p:Pr):List Ar->Bool
 |[]=>false
 |a::r=>(zZ r a.name).isSome || (qP p.funcs a.name).isSome || uR p r
def xe(p:Pr):Bool:=match jT p ⟨#[109,97,105,110]⟩with|some f=>decide (f.type=1)&&decide (f.params.length=0)|none=>false
def yt(p:Pr):Int×Nat×Nat:=
 if f5 p=false then(1,0,0)
 else if uR p p.wa || us p.funcs || !xe p then(50,0,0)
 else uQ p p.funcs 0
structure RS where
 arr:List (List Int)
 inp:List Int
 o:List Int
 cost:Nat
 fuel:Nat
 stat:Int
 spent:Bool
abbrev fG:=List (C2×Int)
inductive fR (α:Type) where
 |ok (a:α) (s:RS)
 |fin (s:RS)
def fR.bind{α β:Type}:fR α->(α->RS->fR β)->fR β
 |.ok a s,f=>f a s
 |.fin s,_=>.fin s
def fR.st{α:Type}:fR α->RS
 |.ok _ s=>s
 |.fin s=>s
def ja:fG->C2->Option Nat
 |[],_=>none
 | x::r,s=>match ja r s with
   |some k=>some (k+1)
   |none=>if x.1=s then some 0 else none
def o8(vs:fG)(s:C2):Int:=match ja vs s with|some k=>((vs[k]?).map (·.2)).getD 0|none=>0
def xH(vs:fG)(s:C2)(n:Int):fG:=match ja vs s with|some k=>vs.set k (s,n)|none=>vs
def zj(s:RS):fR Unit:=match s.fuel with
 |0=>.fin { s with spent:=true }
 |f+1=>.ok () { s with fuel:=f }
def zV(s:RS):RS:={ s with cost:=s.cost+1 }
def kQ(s:RS)(k:Int):RS:={ s with stat:=k }
def iZ(f:Ex->RS->fR Int):List Ex->RS->fR (List Int)
 |[],s=>.ok [] s
 |e::r,s=>(f e s).bind fun a s=>(iZ f r s).bind fun l s=>.ok (a::l) s
abbrev xx:=Int×Int×fG
def kG(f:fG->St->RS->fR xx):fG->List St->RS->fR xx
 |vs,[],s=>.ok (0,0,vs) s
 |vs,t::r,s=>(f vs t s).bind fun h s=>if h.1=0 then kG f h.2.2 r s else .ok h s
def qG(f:fG->St->RS->fR xx)(vs:fG)(l:List St)(s:RS):fR xx:=
 (kG f vs l s).bind fun h s=>.ok (h.1,h.2.1,h.2.2.take vs.length) s
def k4(e:fG->RS->fR Int)(b:fG->RS->fR xx):Nat->fG->RS->fR xx
 |0,_,s=>.fin s
 | k+1,vs,s=>(e vs s).bind fun a s=>if a=0 then .ok (0,0,vs) s else
    (b vs s).bind fun h s=>if h.1=3 then .ok h s else if h.1=1 then .ok (0,0,h.2.2) s else k4 e b k h.2.2 s
def o9(p:Pr)(td:C2)(i:Int)(s:RS):fR Int:=
 match zZ p.wa td with
 |none=>.fin s
 | some k=>match s.arr[k]? with
   |none=>.fin s
   |some l=>if 0<=i/\i<l.length then .ok (l.getD i.toNat 0) s else .fin (kQ s 3)
def yZ(p:Pr)(td:C2)(i n:Int)(s:RS):fR Unit:=
 match zZ p.wa td with
 |none=>.fin s
 | some k=>match s.arr[k]? with
   |none=>.fin s
   |some l=>if 0<=i/\i<l.length then .ok () { s with arr:=s.arr.set k (l.set i.toNat n) } else .fin (kQ s 3)
def vL(s:RS):fR Int:=match s.inp with
 |[]=>.fin (kQ s 4)
 |n::r=>.ok n { s with inp:=r }
def qQ(p:Pr)(c:Fu->List Int->RS->fR Int)(vs:fG)(k op n:Int)(td:C2)(l:List Int)(s:RS):fR Int:=
 if k=1\/k=2 then .ok n s
 else if k=3 then .ok (o8 vs td) s
 else if k=4 then .ok (rP op (l.getD 0 0)) (zV s)
 else if k=5 then(if uj op (l.getD 1 0)then .ok (uC op (l.getD 0 0) (l.getD 1 0)) (zV s)else .fin (kQ (zV s) 2))
 else if k=6 then o9 p td (l.getD 0 0) (zV s)
 else if k=7 then(match jT p td with|some f=>c f l (zV s)|none=>.fin s)
 else vL (zV s)
def fN(f:Fu)(l:List Int):fG:=(f.params.map (·.name)).zip l
mutual
def f0(p:Pr):Nat->fG->Ex->RS->fR Int
 |0,_,_,s=>.fin { s with spent:=true }
 |g+1,vs,.mk k op n td tc,s=>(zj s).bind fun _ s=>
   if k=5/\(op=18\/op=19)then
    (f0 p g vs (tc.getD 0 jZ) s).bind fun a s=>if decide (a≠0)=decide (op=19)then .ok a s else f0 p g vs (tc.getD 1 jZ) s
   else(iZ (f0 p g vs) tc s).bind fun l s=>qQ p (fun f l s=>(qG (qn p g) (fN f l) f.body s).bind fun h s=>.ok h.2.1 s) vs k op n td l s
def qn(p:Pr):Nat->fG->St->RS->fR xx
 |0,_,_,s=>.fin { s with spent:=true }
 |g+1,vs,.mk k _ td tc tg th,s=>(zj s).bind fun _ s=>
   if k=5 then k4 (fun vs s=>f0 p g vs (tc.getD 0 jZ) s) (fun vs s=>qG (qn p g) vs tg s) (s.fuel+1) vs s
   else if k=6 then .ok (1,0,vs) s
   else if k=7 then .ok (2,0,vs) s
   else(f0 p g vs (tc.getD 0 jZ) s).bind fun a s=>
    if k=1 then .ok (0,0,vs++[(td,a)]) s
    else if k=2 then .ok (0,0,xH vs td a) s
    else if k=3 then(f0 p g vs (tc.getD 1 jZ) s).bind fun n s=>(yZ p td a n (zV s)).bind fun _ s=>.ok (0,0,vs) s
    else if k=4 then(if a≠0 then qG (qn p g) vs tg s else qG (qn p g) vs th s)
    else if k=8 then .ok (3,a,vs) s
    else if k=9 then .ok (0,0,vs) { zV s with o:=s.o++[a] }
    else .ok (0,0,vs) s
end
def vM(p:Pr)(c:List Int)(b:Int):Int×Int×List Int×Nat×Nat:=
 if(yt p).1≠0 then(0,0,[],0,0)else
 match jT p ⟨#[109,97,105,110]⟩with
 |none=>(0,0,[],0,0)
 |some f=>
   match qG (qn p b.toNat) [] f.body ⟨p.wa.map fun a=>List.replicate a.size.toNat 0,c,[],0,b.toNat,0,false⟩with
   |.ok h s=>(1,h.2.1,s.o,s.cost,s.fuel)
   |.fin s=>(s.stat,0,s.o,s.cost,s.fuel)
structure Mv (s t:RS):Prop where
 fuel:t.fuel<=s.fuel
 pay:t.cost+t.fuel<=s.cost+s.fuel
 cost:s.cost<=t.cost
 len:t.arr.map List.length=s.arr.map List.length
 inp:∃l,s.inp=l++t.inp
 o:∃l,t.o=s.o++l
theorem Mv.refl(s:RS):Mv s s:=⟨D0 _,D0 _,D0 _,rfl,⟨[],rfl⟩,⟨[],(Yd _).symm⟩⟩
theorem Mv.trans{s t d:RS}(c:Mv s t)(g:Mv t d):Mv s d:=by
 obtain⟨l,i⟩:=c.inp;obtain⟨m,j⟩:=g.inp;obtain⟨a,e⟩:=c.o;obtain⟨b,f⟩:=g.o;exact⟨Dz g.fuel c.fuel,Dz g.pay c.pay,Dz c.cost g.cost,g.len.trans c.len,⟨l++m,by rw[i,j,Ya]⟩,⟨a++b,by rw[f,e,Ya]⟩⟩
def zw{α:Type}(s:RS)(d:Nat):fR α->Prop
 |.ok _ t=>Mv s t/\t.fuel+d<=s.fuel/\t.spent=s.spent/\t.stat=s.stat
 |.fin t=>Mv s t
theorem zw.ok{α:Type}(a:α)(s:RS):zw s 0 (fR.ok a s):=⟨Mv.refl s,D0 _,rfl,rfl⟩
theorem zw.fin{α:Type}(s:RS)(d:Nat):zw s d (fR.fin s:fR α):=Mv.refl s
theorem zw.bind{α β:Type}{s:RS}{d e:Nat}{x:fR α}{f:α->RS->fR β}(i:zw s d x)(g:∀a t,x=.ok a t->zw t e (f a t)):zw s (d+e) (x.bind f):=by
 cases x with
 |fin t=>exact i
 |ok a t=>
   have c:=g a t rfl;show zw s (d+e) (f a t);cases hx:f a t with
   |fin j=>rw[hx]at c;exact i.1.trans c
   |ok b j=>rw[hx]at c;exact⟨i.1.trans c.1,by have:=i.2.1;have:=c.2.1;omega,c.2.2.1.trans i.2.2.1,c.2.2.2.trans i.2.2.2⟩
theorem zw.le{α:Type}{s:RS}{d e:Nat}{x:fR α}(h:zw s d x)(_:e<=d):zw s e x:=by
 cases x with
 |fin t=>exact h
 |ok a t=>exact⟨h.1,by have:=h.2.1;omega,h.2.2⟩
structure mB (s t:RS):Prop where
 fuel:t.fuel+1<=s.fuel
 pay:t.cost+t.fuel+1<=s.cost+s.fuel
 cost:s.cost<=t.cost
 len:t.arr.map List.length=s.arr.map List.length
 inp:∃l,s.inp=l++t.inp
 o:∃l,t.o=s.o++l
 idl:t.spent=s.spent/\t.stat=s.stat
theorem mB.mv{s t:RS}(h:mB s t):Mv s t:=⟨by have:=h.fuel;omega,by have:=h.pay;omega,h.cost,h.len,h.inp,h.o⟩
theorem mB.trans{s t b:RS}(a:mB s t)(g:Mv t b)(c:b.spent=t.spent/\b.stat=t.stat):mB s b:=by
 have m:=a.mv.trans g;exact⟨by have:=a.fuel;have:=g.fuel;omega,by have:=a.pay;have:=g.pay;omega,m.cost,m.len,m.inp,m.o,c.1.trans a.idl.1,c.2.trans a.idl.2⟩
theorem mB.done{s t:RS}(h:mB s t):Mv s (zV t):=⟨by have:=h.fuel;show t.fuel<=_;omega,by have:=h.pay;show t.cost+1+t.fuel<=_;omega,by have:=h.cost;show s.cost<=t.cost+1;omega,h.len,h.inp,h.o⟩
theorem yy{s t:RS}(h:zj s=.ok () t):mB s t:=by
 unfold zj at h;cases hf:s.fuel with
 |zero=>rw[hf]at h;cases h
 |succ f=>
   rw[hf]at h;injection h with _ h;subst h;exact⟨by rw[hf];exact D0 _,by rw[hf];show s.cost+f+1<=_;omega,D0 _,rfl,⟨[],rfl⟩,⟨[],(Yd _).symm⟩,rfl,rfl⟩
theorem H3{s t:RS}(h:zj s=.fin t):Mv s t:=by
 unfold zj at h;cases hf:s.fuel with
 |zero=>
   rw[hf]at h;injection h with h;subst h;exact⟨Dx _,by rw[hf];exact D0 _,D0 _,rfl,⟨[],rfl⟩,⟨[],(Yd _).symm⟩⟩
 |succ f=>rw[hf]at h;cases h
theorem z4{α:Type}{s:RS}{f:RS->fR α}(h:∀t,mB s t->zw s 1 (f t)):zw s 1 ((zj s).bind fun _ t=>f t):=by
 cases hx:zj s with
 |fin t=>exact H3 hx
 |ok a t=>exact h t (yy hx)
theorem mB.goes{α:Type}{s t:RS}{d:Nat}{x:fR α}(h:mB s t)(g:zw t d x):zw s 1 x:=by
 cases x with
 |fin u=>exact h.mv.trans g
 |ok a u=>exact⟨h.mv.trans g.1,by have:=h.fuel;have:=g.2.1;omega,g.2.2.1.trans h.idl.1,g.2.2.2.trans h.idl.2⟩
theorem mB.gone{α:Type}{s t:RS}{d:Nat}{x:fR α}(h:mB s t)(g:zw (zV t) d x):zw s 1 x:=by
 cases x with
 |fin u=>exact h.done.trans g
 |ok a u=>exact⟨h.done.trans g.1,by have:=h.fuel;have:=g.2.1;have e:(zV t).fuel=t.fuel:=rfl;omega,g.2.2.1.trans h.idl.1,g.2.2.2.trans h.idl.2⟩
theorem mC(s:RS)(k:Int):Mv s (kQ s k):=⟨D0 _,D0 _,D0 _,rfl,⟨[],rfl⟩,⟨[],(Yd _).symm⟩⟩
theorem r0(p:Pr)(td:C2)(i:Int)(s:RS):zw s 0 (o9 p td i s):=by
 unfold o9;split
 .exact zw.fin _ _
 .split
  .exact zw.fin _ _
  .split
   .exact zw.ok _ _
   .exact mC _ _
theorem r1(p:Pr)(td:C2)(i n:Int)(s:RS):zw s 0 (yZ p td i n s):=by
 unfold yZ;split
 .exact zw.fin _ _
 .split
  .exact zw.fin _ _
  .rename_i k _ _ l a
   split
   .refine⟨⟨D0 _,D0 _,D0 _,?_,⟨[],rfl⟩,⟨[],(Yd _).symm⟩⟩,D0 _,rfl,rfl⟩
    show(s.arr.set k (l.set i.toNat n)).map List.length=_;rw[List.map_set,Yw];apply List.ext_getElem?;intro q;rw[Cg];split
    .rename_i c
     subst c;split
     .rw[Yn,a];rfl
     .rename_i b
      rw[Yh]at b;have:=(List.getElem?_eq_some_iff.1 a).1;omega
    .rfl
   .exact mC _ _
theorem pC(s:RS):zw s 0 (vL s):=by
 unfold vL;split
 .exact mC _ _
 .rename_i n r h
  exact⟨⟨D0 _,D0 _,D0 _,rfl,⟨[n],h⟩,⟨[],(Yd _).symm⟩⟩,D0 _,rfl,rfl⟩
theorem MT{p:Pr}{c:Fu->List Int->RS->fR Int}(b:∀f l t,zw t 0 (c f l t)){vs:fG}{k op n:Int}{td:C2}{l:List Int}{s t:RS}(a:mB s t):zw s 1 (qQ p c vs k op n td l t):=by
 unfold qQ;split
 .exact a.goes (zw.ok _ _)
 split
 .exact a.goes (zw.ok _ _)
 split
 .exact a.gone (zw.ok _ _)
 split
 .split
  .exact a.gone (zw.ok _ _)
  .exact a.gone (d:=0) (show Mv _ _ from mC _ _)
 split
 .exact a.gone (r0 _ _ _ _)
 split
 .split
  .exact a.gone (b _ _ _)
  .exact a.goes (zw.fin _ 0)
 .exact a.gone (pC _)
theorem mD{f:Ex->RS->fR Int}(b:∀e s,zw s 0 (f e s)):∀(l:List Ex) (s:RS),zw s 0 (iZ f l s)
 |[],s=>zw.ok _ _
 | e::r,s=>by
   rw[iZ];exact zw.bind (d:=0) (e:=0) (b e s) fun a t _=>zw.bind (d:=0) (e:=0) (mD b r t) fun l _ _=>zw.ok _ _
theorem n0{f:fG->St->RS->fR xx}(a:∀vs t s,zw s 0 (f vs t s)):∀(l:List St) (vs:fG) (s:RS),zw s 0 (kG f vs l s)
 |[],vs,s=>zw.ok _ _
 | t::r,vs,s=>by
   rw[kG];refine zw.bind (d:=0) (e:=0) (a vs t s) fun _ b _=>?_
   split
   .exact n0 a r _ b
   .exact zw.ok _ _
theorem xf{f:fG->St->RS->fR xx}(a:∀vs t s,zw s 0 (f vs t s))(vs:fG)(l:List St)(s:RS):zw s 0 (qG f vs l s):=by
 unfold qG;exact zw.bind (d:=0) (e:=0) (n0 a l vs s) fun _ t _=>zw.ok _ _
theorem EL{e:fG->RS->fR Int}{b:fG->RS->fR xx}(f:∀vs s,zw s 0 (e vs s))(c:∀vs s,zw s 0 (b vs s)):∀(k:Nat) (vs:fG) (s:RS),zw s 0 (k4 e b k vs s)
 |0,vs,s=>zw.fin _ _
 | k+1,vs,s=>by
   rw[k4];refine zw.bind (d:=0) (e:=0) (f vs s) fun a t _=>?_
   split
   .exact zw.ok _ _
   .refine zw.bind (d:=0) (e:=0) (c vs t) fun _ g _=>?_
    split
    .exact zw.ok _ _
    .split
     .exact zw.ok _ _
     .exact EL f c k _ g
theorem EM(s:RS):Mv s { s with spent:=true }:=⟨D0 _,D0 _,D0 _,rfl,⟨[],rfl⟩,⟨[],(Yd _).symm⟩⟩
mutual
theorem qu(p:Pr):∀(g:Nat) (vs:fG) (e:Ex) (s:RS),zw s 1 (f0 p g vs e s)
 |0,vs,e,s=>by rw[f0];exact EM s
 | g+1,vs,.mk k op n td tc,s=>by
   have i:∀vs e s,zw s 0 (f0 p g vs e s):=fun vs e s=>(qu p g vs e s).le (Dx _)
   have q:∀vs t s,zw s 0 (qn p g vs t s):=fun vs t s=>(ks p g vs t s).le (Dx _)
   rw[f0];refine z4 fun t j=>?_
   split
   .refine j.goes (d:=0+0) (zw.bind (i _ _ t) fun a m _=>?_)
    split
    .exact zw.ok _ _
    .exact i _ _ m
   .have b:=mD (i vs) tc t
    cases hx:iZ (f0 p g vs) tc t with
    |fin m=>rw[hx]at b;exact j.mv.trans b
    |ok l m=>
      rw[hx]at b;exact MT (p:=p) (c:=fun f l s=>(qG (qn p g) (fN f l) f.body s).bind fun o s=>.ok o.2.1 s) (vs:=vs) (k:=k) (op:=op) (n:=n) (td:=td) (l:=l) (fun f l v=>zw.bind (d:=0) (e:=0) (xf q _ _ v) fun o x _=>zw.ok _ _) (j.trans b.1 b.2.2)
theorem ks(p:Pr):∀(g:Nat) (vs:fG) (t:St) (s:RS),zw s 1 (qn p g vs t s)
 |0,vs,t,s=>by rw[qn];exact EM s
 | g+1,vs,.mk k ty td tc tg th,s=>by
   have j:∀vs e s,zw s 0 (f0 p g vs e s):=fun vs e s=>(qu p g vs e s).le (Dx _)
   have l:∀vs t s,zw s 0 (qn p g vs t s):=fun vs t s=>(ks p g vs t s).le (Dx _)
   rw[qn];refine z4 fun t i=>?_
   split
   .exact i.goes (EL (fun _ _=>j _ _ _) (fun _ _=>xf l _ _ _) _ _ _)
   split
   .exact i.goes (zw.ok _ _)
   split
   .exact i.goes (zw.ok _ _)
   have c:=j vs (tc.getD 0 jZ) t;cases hx:f0 p g vs (tc.getD 0 jZ) t with
   |fin m=>rw[hx]at c;exact i.mv.trans c
   |ok a m=>
     rw[hx]at c;have b:=i.trans c.1 c.2.2;show zw s 1 (if k=1 then _ else _);split
     .exact b.goes (zw.ok _ _)
     split
     .exact b.goes (zw.ok _ _)
     split
     .have f:=j vs (tc.getD 1 jZ) m
      cases hy:f0 p g vs (tc.getD 1 jZ) m with
      |fin v=>rw[hy]at f;exact b.mv.trans f
      |ok n v=>
        rw[hy]at f;show zw s 1 ((yZ p td a n (zV v)).bind fun _ s=>.ok (0,0,vs) s);exact(b.trans f.1 f.2.2).gone (d:=0+0) (zw.bind (r1 _ _ _ _ _) fun _ x _=>zw.ok _ _)
     split
     .split
      .exact b.goes (xf l _ _ _)
      .exact b.goes (xf l _ _ _)
     split
     .exact b.goes (zw.ok _ _)
     split
     .refine b.gone (d:=0) ⟨⟨D0 _,D0 _,D0 _,rfl,⟨[],rfl⟩,⟨[a],rfl⟩⟩,D0 _,rfl,rfl⟩
     .exact b.goes (zw.ok _ _)
end
theorem zw.at{α:Type}{s t:RS}{d:Nat}{a:α}{x:fR α}(h:zw s d x)(e:x=.ok a t):t.fuel+d<=s.fuel/\t.spent=s.spent:=by
 subst e;exact⟨h.2.1,h.2.2.1⟩
section
variable {α β:Type}{m g:Nat}
end
section
variable {m g:Nat}
end
theorem z5{p:Pr}{tf:List Pa}:∀{l:List Ex}{x:Int},qI p tf l=.inl x->x≠0
 |[],x,a=>by rw[qI]at a;cases a
 | e::r,x,a=>by
   rw[qI]at a;by_cases b:(qE p tf e).2=0
   .rw[Dp Uo]at a
    cases hr:qI p tf r with
    |inl y=>rw[hr]at a;injection a with a;subst a;exact z5 hr
    |inr l=>rw[hr]at a;cases a
   .rw[Dq b]at a
    injection a with a;rw[<-a];exact b
