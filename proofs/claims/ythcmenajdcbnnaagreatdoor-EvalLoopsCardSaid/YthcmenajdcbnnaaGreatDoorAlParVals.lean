import Derived.Test.YthcmenajdcbnnaaGreatDoorAlTreeRead
set_option linter.unusedSimpArgs false
set_option linter.unusedVariables false
set_option maxRecDepth 100000
namespace Go.Proofs.YthcmenajdcbnnaaGreatDoor
open Go.RowKit Tryz
theorem On{p:Prop}(h:p:=by
 have t:=(iZ (d:=d) p.o a.o F.o E.o G.o K.o J.o (fun k x=>(H.o k x).1) Jm O g O af.o i).at;have aF:=am.o;simp[n6]
 omega):p:=h
theorem Oo{p:Prop}(h:p:=by
 rw[k]at b;injection b with f _;subst f
 exact .inr ⟨_,rfl,D0 _⟩):p:=h
def fW(p:Nat->Bool)(w:C4):C4:={ w with heap:=w.heap.mapIdx fun i o=>if p i then .cells #[] 0 (0,0)else o }
theorem KS(p:Nat->Bool)(w:C4)(k:Nat):(fW p w).heap[k]?=(w.heap[k]?).map fun o=>if p k then .cells #[] 0 (0,0)else o:=by simp[fW,Array.getElem?_mapIdx]
theorem l9{p:Nat->Bool}{w:C4}{k:Nat}(h:p k=false):(fW p w).heap[k]?=w.heap[k]?:=by
 rw[KS,h];cases w.heap[k]? <;> rfl
theorem jb{p:Nat->Bool}{B:Nat}{w:C4}{g o:Nat}{c:C5}(b:fK B (fW p w) g o c):p g=false/\fK B w g o c:=by
 cases hp:p g with
 |false=>exact⟨rfl,b.1,(D6 (w:=fW p w) (w':=w) (l9 hp).symm).trans b.2⟩
 |true=>
   have a:=b.2;unfold World.cell? at a;rw[show(fW p w).heap[(⟨g,o,none⟩:Addr).block]?=(fW p w).heap[g]? from rfl,KS,hp]at a;cases hg:w.heap[g]? with
   |none=>rw[hg]at a;cases a
   |some _=>rw[hg]at a;simp at a
theorem jn{p:Nat->Bool}{B:Nat}{w:C4}{g o:Nat}{b:C5}(c:p g=false)(a:fK B w g o b):fK B (fW p w) g o b:=⟨a.1,(D6 (w:=w) (w':=fW p w) (l9 c)).trans a.2⟩
mutual
theorem z3.imp{B b:Nat}{w w':C4}(a:∀g o c,fK B w g o c->fK b w' g o c):∀(e:Ex) (g o:Nat),z3 B w e g o->z3 b w' e g o
 | .mk k op n td tc,g,o,h=>by
   rw[z3]at h ⊢;obtain⟨f,i,j,l,p,v,m,q⟩:=h;exact⟨a _ _ _ f,a _ _ _ i,a _ _ _ j,a _ _ _ l,p,v,a _ _ _ m,vh.imp q fun d r=>kM.imp a tc d r⟩
theorem kM.imp{B a:Nat}{w w':C4}(b:∀g o c,fK B w g o c->fK a w' g o c):∀(l:List Ex) (g o:Nat),kM B w l g o->kM a w' l g o
 |[],_,_,_=>by rw[kM];trivial
 | e::r,g,o,h=>by
   rw[kM]at h ⊢;exact⟨z3.imp b e g o h.1,kM.imp b r g (o+5) h.2⟩
end
mutual
theorem EP.imp{B d:Nat}{w w':C4}(a:∀g o f,fK B w g o f->fK d w' g o f):∀(e:St) (g o:Nat),EP B w e g o->EP d w' e g o
 | .mk k ty td tc tg th,g,o,h=>by
   rw[EP]at h ⊢;obtain⟨i,j,l,⟨v,m,q⟩,⟨t,n,r⟩,⟨u,p,s⟩⟩:=h;exact⟨a _ _ _ i,a _ _ _ j,a _ _ _ l,⟨v,a _ _ _ m,vh.imp q fun b c=>kM.imp a tc b c⟩,⟨t,a _ _ _ n,vh.imp r fun b c=>xB.imp a tg b c⟩,⟨u,a _ _ _ p,vh.imp s fun b c=>xB.imp a th b c⟩⟩
theorem xB.imp{B a:Nat}{w w':C4}(b:∀g o c,fK B w g o c->fK a w' g o c):∀(l:List St) (g o:Nat),xB B w l g o->xB a w' l g o
 |[],_,_,_=>by rw[xB];trivial
 | e::r,g,o,h=>by
   rw[xB]at h ⊢;exact⟨EP.imp b e g o h.1,xB.imp b r g (o+6) h.2⟩
end
theorem kW.imp{B a:Nat}{w w':C4}(d:∀g o b,fK B w g o b->fK a w' g o b){v:C5}{l:List Ex}(c:kW B w v l):kW a w' v l:=vh.imp c fun g o=>kM.imp d l g o
theorem f6.imp{B a:Nat}{w w':C4}(d:∀g o b,fK B w g o b->fK a w' g o b){v:C5}{l:List St}(c:f6 B w v l):f6 a w' v l:=vh.imp c fun g o=>xB.imp d l g o
theorem k1.imp{B c:Nat}{w w':C4}(e:∀g o b,fK B w g o b->fK c w' g o b){a:Ex}{v:C5}(d:k1 B w a v):k1 c w' a v:=by
 obtain⟨b,j,f,i⟩:=d;exact⟨b,j,f,i.imp e⟩
def nS(L:Nat):Nat->Bool:=fun k=>decide (k<L)
theorem kt{L k:Nat}:nS L k=false↔L<=k:=by simp[nS]
def zL(L:Nat)(w w':C4):Prop:=w.heap.size<=w'.heap.size/\∀k,k<w.heap.size->L<=k->w'.heap[k]?=w.heap[k]?
theorem zL.cells{L c:Nat}{w w':C4}(d:zL L w w')(_:c<=L):∀g o b,fK w.heap.size (fW (nS L) w) g o b->fK w'.heap.size (fW (nS c) w') g o b:=fun g o b a=>by
 obtain⟨f,a⟩:=jb a;have e:=kt.1 f;exact jn (kt.2 O) ⟨Yb a.1 d.1,(D6 (w:=w) (d.2 g a.1 e)).trans a.2⟩
theorem zL.refl(L:Nat)(w:C4):zL L w w:=⟨D0 _,fun _ _ _=>rfl⟩
theorem zL.trans{L:Nat}{w w' d:C4}(a:zL L w w')(g:zL L w' d):zL L w d:=⟨Dy a.1 g.1,fun k b c=>(g.2 k (Yb b a.1) c).trans (a.2 k b c)⟩
theorem zL.of_off{b L:Nat}{w w':C4}(a:fI b w.heap.size w w')(_:b<L):zL L w w':=⟨a.size,fun k c _=>a.block c O⟩
theorem zL.wb{L:Nat}{w w':C4}(a:Cy w w'):zL L w w':=⟨a.size,fun k b _=>a.block k b⟩
theorem zL.set{L g:Nat}{w:C4}(_:g<L)(i:Nat)(u:C5):zL L w (w.setCell (g,i) u):=⟨Uk,fun k _ _=>Dw w _ u k (by show k≠g;omega)⟩
def kr(L:Nat)(w:C4)(a:Ex)(v:C5):Prop:=k1 w.heap.size (fW (nS L) w) a v
def je(L:Nat)(w:C4)(a:List Ex)(v:C5):Prop:=kW w.heap.size (fW (nS L) w) v a
def xm(L:Nat)(w:C4)(a:List St)(v:C5):Prop:=f6 w.heap.size (fW (nS L) w) v a
theorem kr.keep{L b:Nat}{w w':C4}{a:Ex}{v:C5}(c:kr L w a v)(k:zL L w w')(d:b<=L):kr b w' a v:=k1.imp (k.cells d) c
theorem je.keep{L b:Nat}{w w':C4}{a:List Ex}{v:C5}(c:je L w a v)(k:zL L w w')(d:b<=L):je b w' a v:=kW.imp (k.cells d) c
theorem xm.keep{L b:Nat}{w w':C4}{a:List St}{v:C5}(c:xm L w a v)(k:zL L w w')(d:b<=L):xm b w' a v:=f6.imp (k.cells d) c
theorem kr.form{L:Nat}{w:C4}{a:Ex}{v:C5}(d:kr L w a v):∃k o n s b m c,v=.agg #[(k:Int),(o:Int),(n:Int),.string s,.slice b m c]:=by
 obtain⟨_,f,_,e⟩:=d;obtain⟨b,c,rfl,_⟩:=e.form;exact⟨_,_,_,_,b,_,c,f⟩
theorem je.form{L:Nat}{w:C4}{a:List Ex}{v:C5}(h:je L w a v):∃A c,v=.slice A a.length c/\a.length<=281474976710656:=kW.form h
theorem xm.form{L:Nat}{w:C4}{a:List St}{v:C5}(h:xm L w a v):∃A c,v=.slice A a.length c/\a.length<=281474976710656:=f6.form h
theorem ja.imp{α:Type}{x:PR α}{P Q:α->Prop}(b:ja x P)(k:∀a,P a->Q a):ja x Q:=by
 cases x with
 |ok a r=>exact k a b
 |bad r=>obtain⟨a,c⟩:=b;exact⟨a,k a c⟩
 |deep r=>obtain⟨a,c⟩:=b;exact⟨a,k a c⟩
 |o=>trivial
theorem ja.some{α:Type}{x:PR α}{P:α->Prop}(b:ja x P)(c:zI x):∃a,P a:=by
 cases x with
 |ok a r=>exact⟨a,b⟩
 |bad r=>exact b
 |deep r=>exact b
 |o=>exact absurd c id
theorem ja.bind{α β:Type}{x:PR α}{f:α->List fH->PR β}{P:α->Prop}{Q:β->Prop}(b:ja x P)(k:∀a r,x=.ok a r->P a->ja (f a r) Q)(j:∀a,P a->∃c,Q c):ja (x.bind f) Q:=by
 cases x with
 |ok a r=>exact k a r rfl b
 |bad r=>obtain⟨a,d⟩:=b;exact j a d
 |deep r=>obtain⟨a,d⟩:=b;exact j a d
 |o=>trivial
theorem vL{s:List UInt8}{l:List fH}{β:Type}{a:β}{Q:β->Prop}(h:Q a):ja ((zN s l).bind fun _ r=>.ok a r) Q:=by
 unfold zN;split
 .exact h
 .exact⟨a,h⟩
theorem jj{α β:Type}(x:PR α)(f:α->List fH->PR β):(x.bind f).un=x.bind fun a r=>(f a r).un:=Vc
theorem rC{α β:Type}(x:PR α)(f:List fH->PR β):x.un.bind (fun _ r=>f r)=x.bind fun _ r=>f r:=Vc
theorem zb{α β γ:Type}(x:PR α)(f:α->List fH->PR β)(g:β->List fH->PR γ):(x.bind f).bind g=x.bind fun a r=>(f a r).bind g:=Vc
theorem rD(x:PR Unit):x.un=x:=Vc
theorem xY{β:Type}(s:List UInt8)(l:List fH)(a:β):((zN s l).bind fun _ r=>PR.ok a r).un=zN s l:=by unfold zN;split<;>rfl
theorem qM{α β:Type}{x:PR α}{f:α->List fH->PR β}(h:zI (x.bind f)):zI x:=by cases x<;>first|trivial|exact h
theorem jD{L:Nat}{w:C4}{x:PR Ex}{v:C5}(d:ja x fun a=>kr L w a v)(f:zI x):∃k o n s b m c,v=.agg #[(k:Int),(o:Int),(n:Int),.string s,.slice b m c]:=by
 obtain⟨a,e⟩:=d.some f;exact e.form
theorem AA{L:Nat}{w:C4}{x:PR (List Ex)}{v:C5}(d:ja x fun a=>je L w a v)(f:zI x):∃b m c,v=.slice b m c:=by
 obtain⟨a,e⟩:=d.some f;obtain⟨b,c,g,_⟩:=e.form;exact⟨b,_,c,g⟩
theorem zc.num{b:Nat}{V:C5}{tj r:List fH}{d dp:Bool}{w:C4}(e:zc b V tj r d dp w)(j:gW r=0):(⟨(pZ r).toArray⟩:C3).size<=281474976710656/\xM (pZ r)=true/\kT 0 (pZ r)<9223372036854775808:=by
 obtain⟨_,⟨g,c,_,_,_,_,_,k⟩,l,i⟩:=e;obtain⟨t,q,rfl⟩:=List.exists_cons_of_ne_nil i.ne;have m:t∈tj:=l.subset (Y4 ..);obtain⟨a,f⟩:=k t m j;refine⟨f,a,?_⟩;have:=a;simp only[xM,D2,decide_eq_true_eq]at this;exact this.2
theorem jm.tok{b:Nat}{V:C5}{tj:List fH}{x:PR Unit}{w:C4}(a:jm b V tj x w):k5 b V tj w:=by
 obtain⟨r,_,dp,c,_⟩:=a.box;exact c.2.1
theorem jm.move{b:Nat}{V:C5}{tj:List fH}{x:PR Unit}{w e W:C4}(d:jm b V tj x e)(i:k5 b V tj w)(g:fI b w.heap.size w W)(f:W.heap[b]?=e.heap[b]?):jm b V tj x W:=by
 have c:∀{r bd dp},zc b V tj r bd dp e->zc b V tj r bd dp W:=fun c=>⟨f.trans c.1,i.off g,c.2.2⟩
 cases x with
 |ok a r=>exact c d
 |bad r=>exact c d
 |deep r=>exact c d
 |o=>exact d
theorem jK.after{b:Nat}{V:C5}{tj:List fH}{x y:PR Unit}{w c d:C4}(a:jK b V tj w x c)(g:jK b V tj c y d):jK b V tj w y d:=⟨g.1,a.2.trans (g.2.mono a.2.size)⟩
theorem jK.below{b:Nat}{V:C5}{tj:List fH}{x:PR Unit}{w c d:C4}(a:jK b V tj w x c)(g:Cy c d):jK b V tj w x d:=⟨a.1.below g,a.2.trans ((fI.wb g a.1.lt).mono a.2.size)⟩
theorem jK.alloc{b:Nat}{V:C5}{tj:List fH}{x:PR Unit}{w a:C4}(c:jK b V tj w x a)(o:Obj):jK b V tj w x (a.alloc o):=c.below (Zb.alloc Zr o)
theorem jK.set{b g:Nat}{V:C5}{tj:List fH}{x:PR Unit}{w c:C4}(d:jK b V tj w x c)(j:k5 b V tj w)(f:w.heap.size<=g)(_:g≠b)(i:Nat)(a:C5):jK b V tj w x (c.setCell (g,i) a):=by
 have e:fI b w.heap.size w (c.setCell (g,i) a):=d.2.setCell d.1.lt f i a;exact⟨d.1.move j e (Dw c _ a b (by show b≠g;omega)),e⟩
theorem jK.wj{b g:Nat}{V:C5}{tj:List fH}{x:PR Unit}{w l:C4}(m:jK b V tj w x l)(d:k5 b V tj w)(c:w.heap.size<=g)(a:g≠b)(e f i j k:C5):jK b V tj w x (g2 l g e f i j k):=
 ((((m.set d c a 0 e).set d c a 1 f).set d c a 2 i).set d c a 3 j).set d c a 4 k
theorem zL.wj{L g:Nat}{w:C4}(a:g<L)(b c d e f:C5):zL L w (g2 w g b c d e f):=
 ((((zL.set a 0 b).trans (zL.set a 1 c)).trans (zL.set a 2 d)).trans (zL.set a 3 e)).trans (zL.set a 4 f)
theorem rE{b B k:Nat}{w w':C4}(a:fI b B w w')(d:k<B)(c:k≠b):(∀o,w'.cell? ⟨k,o,none⟩=w.cell? ⟨k,o,none⟩)/\∀o,w'.frozen? ⟨k,o,none⟩=w.frozen? ⟨k,o,none⟩:=
 ⟨fun _=>a.cell d c,fun _=>World.frozen?_of_block (w:=w) (a.block d c)⟩
abbrev ym:Obj:=.cells #[(0:Int),(0:Int),(0:Int),.string ⟨#[]⟩,()] 147
def ex0:Ex:=.mk 0 0 0 bE []
abbrev p4:C5:=.agg #[(0:Int),(0:Int),(0:Int),.string ⟨#[]⟩,()]
theorem lL(L:Nat)(w:C4):kr L w ex0 p4:=⟨_,rfl,Xp,vj _ _⟩
theorem zcw{W:C4}{g:Nat}{i j k l m:C5}{T:TypeId}{fr:Nat×Nat}(n:W.heap[g]?=some (.cells #[i,j,k,l,m] T fr))(a b c d e:C5):
 (((((W.setCell (g,0) a).setCell (g,1) b).setCell (g,2) c).setCell (g,3) d).setCell (g,4) e).cell? (g,0)=some a/\
 (((((W.setCell (g,0) a).setCell (g,1) b).setCell (g,2) c).setCell (g,3) d).setCell (g,4) e).cell? (g,1)=some b/\
 (((((W.setCell (g,0) a).setCell (g,1) b).setCell (g,2) c).setCell (g,3) d).setCell (g,4) e).cell? (g,2)=some c/\
 (((((W.setCell (g,0) a).setCell (g,1) b).setCell (g,2) c).setCell (g,3) d).setCell (g,4) e).cell? (g,3)=some d/\
 (((((W.setCell (g,0) a).setCell (g,1) b).setCell (g,2) c).setCell (g,3) d).setCell (g,4) e).cell? (g,4)=some e:=by
 have f:=l7 n a b c d e;exact⟨(Du f 0).trans rfl,(Du f 1).trans rfl,(Du f 2).trans rfl,(Du f 3).trans rfl,(Du f 4).trans rfl⟩
theorem jI{b B k:Nat}{w w':C4}{o:Obj}(a:fI b B w w')(d:k<B)(c:k≠b)(e:w.heap[k]?=some o):w'.heap[k]?=some o:=(a.block d c).trans e
theorem zu{k:Nat}{w:C4}{o:Obj}(a:w.heap[k]?=some o)(b:Obj):(w.alloc b).heap[k]?=some o:=(D7 w b k (Array.getElem?_eq_some_iff.1 a).1).trans a
def CE(b:Nat)(V:C5)(tj:List fH)(n:Nat)(lev d:Int):Prop:=∀(w:C4) (x:PR Unit),jm b V tj x w->zI (x.bind fun _ r=>pE n lev d r)->
 Cz 126 #[(b,0),(lev:Int),(d:Int)] w (qk b V tj w (x.bind fun _ r=>pE n lev d r) (kr w.heap.size))
theorem CE.call{b:Nat}{V:C5}{tj:List fH}{n:Nat}{lev d:Int}(a:CE b V tj n lev d){w:C4}{x:PR Unit}(e:jm b V tj x w)(c:zI (x.bind fun _ r=>pE n lev d r)):
 Cz 126 #[(b,0),(lev:Int),(d:Int)] w (qk b V tj w (x.bind fun _ r=>pE n lev d r) (kr w.heap.size)):=a w x e c
def CA(b:Nat)(V:C5)(tj:List fH)(n:Nat)(d:Int):Prop:=∀(w:C4) (x:PR Unit),jm b V tj x w->zI (x.bind fun _ r=>pA n d r)->
 Cz 150 #[(b,0),(d:Int)] w (qk b V tj w (x.bind fun _ r=>pA n d r) (je w.heap.size))
theorem CA.call{b:Nat}{V:C5}{tj:List fH}{n:Nat}{d:Int}(a:CA b V tj n d){w:C4}{x:PR Unit}(e:jm b V tj x w)(c:zI (x.bind fun _ r=>pA n d r)):
 Cz 150 #[(b,0),(d:Int)] w (qk b V tj w (x.bind fun _ r=>pA n d r) (je w.heap.size)):=a w x e c
def kN(b:Nat)(V:C5)(tj:List fH)(w:C4)(x:PR Unit)(W:C4):Prop:=jK b V tj w x W/\W.heap[w.heap.size]?=some ym/\k5 b V tj w/\b<w.heap.size
section
variable {b:Nat}{V:C5}{tj:List fH} {w W W':C4}{x y:PR Unit}
theorem kN.start(h:jm b V tj x w):kN b V tj w x (w.alloc ym):=
 ⟨⟨h.below (Zb.alloc Zr _),fI.wb (Zb.alloc Zr _) h.lt⟩,Ds w ym,h.tok,h.lt⟩
theorem kN.did(h:kN b V tj w x W):jK b V tj w x W:=h.1
theorem kN.st(h:kN b V tj w x W):jm b V tj x W:=h.1.1
theorem kN.size(h:kN b V tj w x W):w.heap.size<W.heap.size:=(Array.getElem?_eq_some_iff.1 h.2.1).1
theorem kN.ne(h:kN b V tj w x W):w.heap.size≠b:=Jv
theorem kN.step(h:kN b V tj w x W)(g:jK b V tj W y W'):kN b V tj w y W':=⟨h.1.after g,jI g.off h.size h.ne h.2.1,h.2.2⟩
theorem kN.alloc(h:kN b V tj w x W)(o:Obj):kN b V tj w x (W.alloc o):=⟨h.1.alloc o,zu h.2.1 o,h.2.2⟩
theorem kN.drewN(h:kN b V tj w x W)(n:Nat):kN b V tj w x (W.drewN n):=h.step ⟨h.st.drewN n,(fI.refl b _ W).drewN n⟩
theorem kN.own(c:kN b V tj w x W):(W.cell? (w.heap.size,0)=some (.int .i64 0)/\W.cell? (w.heap.size,1)=some (.int .i64 0)/\W.cell? (w.heap.size,2)=some (.int .i64 0)/\
 W.cell? (w.heap.size,3)=some (.string ⟨#[]⟩)/\W.cell? (w.heap.size,4)=some (.slice none 0 0))/\∀o,W.frozen? ⟨w.heap.size,o,none⟩=false:=by
 have a:=c.2.1;refine⟨⟨(Du a 0).trans rfl,(Du a 1).trans rfl,(Du a 2).trans rfl,(Du a 3).trans rfl,(Du a 4).trans rfl⟩,fun o=>?_⟩;simp[World.frozen?,a]
theorem kN.read(g:kN b V tj w x W)(a c d e f:C5):(((((W.setCell (w.heap.size,0) a).setCell (w.heap.size,1) c).setCell (w.heap.size,2) d).setCell (w.heap.size,3) e).setCell (w.heap.size,4) f).cell? (w.heap.size,0)=some a/\(((((W.setCell (w.heap.size,0) a).setCell (w.heap.size,1) c).setCell (w.heap.size,2) d).setCell (w.heap.size,3) e).setCell (w.heap.size,4) f).cell? (w.heap.size,1)=some c/\(((((W.setCell (w.heap.size,0) a).setCell (w.heap.size,1) c).setCell (w.heap.size,2) d).setCell (w.heap.size,3) e).setCell (w.heap.size,4) f).cell? (w.heap.size,2)=some d/\(((((W.setCell (w.heap.size,0) a).setCell (w.heap.size,1) c).setCell (w.heap.size,2) d).setCell (w.heap.size,3) e).setCell (w.heap.size,4) f).cell? (w.heap.size,3)=some e/\(((((W.setCell (w.heap.size,0) a).setCell (w.heap.size,1) c).setCell (w.heap.size,2) d).setCell (w.heap.size,3) e).setCell (w.heap.size,4) f).cell? (w.heap.size,4)=some f:=zcw g.2.1 a c d e f
theorem kN.fin(i:kN b V tj w y W){X:PR Ex}(k:X.un=y){c d e f g:C5}(j:ja X fun a=>kr w.heap.size (g2 W w.heap.size c d e f g) a (.agg #[c,d,e,f,g])):
 qk b V tj w X (kr w.heap.size) (.returned (.agg #[c,d,e,f,g])) (g2 W w.heap.size c d e f g):=
 ⟨_,rfl,k▸i.1.wj i.2.2.1 Zr i.ne _ _ _ _ _,j⟩
theorem kr.wj{L:Nat}{a:Ex}{v:C5}(g:kr L W a v)(i:w.heap.size<L)(b c d e f:C5):kr w.heap.size (g2 W w.heap.size b c d e f) a v:=g.keep (zL.wj i _ _ _ _ _) O
theorem je.wj{L:Nat}{a:List Ex}{v:C5}(g:je L W a v)(i:w.heap.size<L)(b c d e f:C5):je w.heap.size (g2 W w.heap.size b c d e f) a v:=g.keep (zL.wj i _ _ _ _ _) O
theorem zL.did{L:Nat}(a:jK b V tj W x W')(c:b<L):zL L W W':=zL.of_off a.off c
theorem uy(L:Nat)(W:C4)(k o n:Int)(s:C3)(a:fT n):kr L W (.mk k o n s []) (.agg #[(k:Int),(o:Int),(n:Int),s,()]):=⟨_,rfl,a,vj _ _⟩
theorem kN.wv(i:kN b V tj w x W)(o:Obj)(a c d e f:C5):((((((W.setCell (w.heap.size,0) a).setCell (w.heap.size,1) c).setCell (w.heap.size,2) d).setCell (w.heap.size,3) e).setCell (w.heap.size,4) f).alloc o).cell? (w.heap.size,0)=some a/\((((((W.setCell (w.heap.size,0) a).setCell (w.heap.size,1) c).setCell (w.heap.size,2) d).setCell (w.heap.size,3) e).setCell (w.heap.size,4) f).alloc o).cell? (w.heap.size,1)=some c/\((((((W.setCell (w.heap.size,0) a).setCell (w.heap.size,1) c).setCell (w.heap.size,2) d).setCell (w.heap.size,3) e).setCell (w.heap.size,4) f).alloc o).cell? (w.heap.size,2)=some d/\((((((W.setCell (w.heap.size,0) a).setCell (w.heap.size,1) c).setCell (w.heap.size,2) d).setCell (w.heap.size,3) e).setCell (w.heap.size,4) f).alloc o).cell? (w.heap.size,3)=some e/\((((((W.setCell (w.heap.size,0) a).setCell (w.heap.size,1) c).setCell (w.heap.size,2) d).setCell (w.heap.size,3) e).setCell (w.heap.size,4) f).alloc o).cell? (w.heap.size,4)=some f:=by
 have g:=zu (l7 i.2.1 a c d e f) o;exact⟨(Du g 0).trans rfl,(Du g 1).trans rfl,(Du g 2).trans rfl,(Du g 3).trans rfl,(Du g 4).trans rfl⟩
theorem kN.df(i:kN b V tj w y W){X:PR Ex}(k:X.un=y){o:Obj}{c d e f g:C5}(j:ja X fun a=>kr w.heap.size ((_root_.Go.Proofs.YthcmenajdcbnnaaGreatDoor.g2 W w.heap.size c d e f g).alloc o) a (.agg #[c,d,e,f,g])):
 qk b V tj w X (kr w.heap.size) (.returned (.agg #[c,d,e,f,g])) ((_root_.Go.Proofs.YthcmenajdcbnnaaGreatDoor.g2 W w.heap.size c d e f g).alloc o):=
 ⟨_,rfl,k▸(i.1.wj i.2.2.1 Zr i.ne _ _ _ _ _).alloc o,j⟩
theorem n3{B:Nat}{w:C4}{e:Ex}{k op n:Int}{s:C3}{b:C5}(c:k1 B w e (.agg #[(k:Int),(op:Int),(n:Int),s,b])):∃tc,e=.mk k op n s tc/\fT n/\kW B w b tc:=by
 obtain⟨_,a,d,f⟩:=c;obtain⟨_,_,_,_,tc⟩:=e;simp only[Value.agg.injEq,Array.mk.injEq,Cb,Value.int.injEq,Value.string.injEq,true_and,and_true,Ex.kind,Ex.op,Ex.n,Ex.name]at a;obtain⟨rfl,rfl,rfl,rfl,rfl⟩:=a;exact⟨tc,rfl,d,f⟩
theorem uL{L a g:Nat}{e:Ex}{k op n:Int}{s:C3}{c:C5}{T:TypeId}(d:kr L W e (.agg #[(k:Int),(op:Int),(n:Int),s,c]))(i:a<=L)(j:a<=W.heap.size)(l:g=W.heap.size):
 je a (W.alloc (.cells #[(k:Int),(op:Int),(n:Int),s,c] T)) [e] (.slice (some ⟨g,0,none⟩) 1 1):=by
 subst l;have f:=d.keep (zL.wb (Zb.alloc Zr (.cells #[(k:Int),(op:Int),(n:Int),s,c] T))) i;obtain⟨tc,rfl,m,o⟩:=n3 f;exact WB (w:=fW (nS a) _) (b:=W.heap.size) ((l9 (kt.2 j)).trans (Ds W _)) Uh m o
end
def kn(w:C4)(v v':C5):Prop:=v'.ownBlock=v.ownBlock\/∃g,v'.ownBlock=some g/\w.heap.size<=g
theorem AB{P:Program}{w:C4}{G:Nat}{t p e:TypeId}{i:TypeInfo}{z:C5}{l B:Nat}(A:P.underlying t=some (.slice e))(u:P.info? e=some i)(E:i.zero=some z)
 (N:i.size=l) (K:i.bytes=B) (_:z.cells.size=l) (_:0<l)
 {v:C5}{n:Nat}{F:List C5} (y:w.ownsRow G e l v n F)
 {a:Addr}{m c:Nat}{d:List C5} (o:d.length=m*l) (x:∀j q,d[j]?=some q->w.cell? (a.add j)=some q) (I:∀q∈d,q.oneCell'=true)
 (s:n+m<=maxLen) (C:(n+m)*B<=140737488355328) (_:0<m) {v':C5} {w':C4}
 (b:(Builtin.append_ #[t,t] p #[v,.slice (some a) m c]).run P w=.ok v' w'):kn w v v':=by
 subst N K;rcases y.2 with⟨rfl,rfl⟩|⟨g,r,H,rfl,_,M,_,_,L,_⟩
 .have k:=run_append_nil (P:=P) w t p e i z A u E a m c d o x O Jh (by have J:=C;simp only[Yz]at J;omega)
  exact Oo
 .by_cases D:n+m<=r
  .have k:=run_append_room (P:=P) w t p e i A u g n r H M a m c d o x I D (by rw[o,L,<-Nat.add_mul];exact Nat.mul_le_mul_right _ D)
   rw[k]at b;injection b with f _;subst f;exact .inl rfl
  .have k:=run_append_grow (P:=P) w t p e i z A u E ⟨g,0,none⟩ n r F y.1 (y.cells (g:=g) rfl) a m c d o x O Jh (growslice_fits Jh C)
   exact Oo
theorem qJ{P:Program}{w:C4}{ops:Array Oper}{L:List Oper}{o:Oper}{a:Act}{Q:Exit->Act->C4->Prop}(W:o.guard=none)(s x:Operand)(t:TypeId)
 (Z:o.op=.call { callee:=.builtin .append,args:=#[s,x],argTypes:=#[t,t] })
 (f:Nat) (e:TypeId) (i:TypeInfo) (z:C5) (b l:Nat) (H:P.underlying t=some (.slice e)) (A:P.info? e=some i) (I:i.zero=some z)
 (F:i.size=b) (u:i.bytes=l) (J:z.cells.size=b) (G:0<b)
 (v:C5) (n:Nat) (p:List C5) (aa:a.eval s=v) (D:w.ownsRow f e b v n p)
 (k:Addr) (m c:Nat) (d:List C5) (ab:a.eval x=.slice (some k) m c) (B:d.length=m*b) (C:∀j g,d[j]?=some g->w.cell? (k.add j)=some g) (q:∀g∈d,g.oneCell'=true)
 (r:n+m<=maxLen) (y:(n+m)*l<=140737488355328) (V:f<=w.heap.size) (Y:0<m)
 (M:∀v' w',w'.ownsRow f e b v' (n+m) (p++d)->w.grownBy w' v.ownBlock->kn w v v'->wpList P ops Q L (a.put o.dst v') w'):wpList P ops Q (o::L) a w:=by
 refine wpList_plain W fun K T=>?_
 obtain⟨v',w',E,N,R,_⟩:=run_append_own (P:=P) w f t o.type e i z b l H A I F u J G v n p D k m c d B C q r y V;have S:=AB H A I F u J G D B C q r y Y E;have X:=T _ _ (M v' w' N R S);unfold Oper.wp execOp;simp only[Z,resolve,invoke,builtin,Sem.run_bind,Sem.run_pure,Result.andThen_ok,List.map_toArray,Y5,Cm,aa,ab,E];exact X
def r5(ps:List (Ex×C5)):List C5:=ps.flatMap fun p=>[.int .i64 p.1.kind,.int .i64 p.1.op,.int .i64 p.1.n,.string p.1.name,p.2]
theorem MX(ps:List (Ex×C5))(p:Ex×C5):r5 (ps++[p])=r5 ps++[.int .i64 p.1.kind,.int .i64 p.1.op,.int .i64 p.1.n,.string p.1.name,p.2]:=by simp[r5]
def yr(B:Nat)(v:C5):Nat->Bool:=fun k=>decide (k<B) || v.ownBlock == some k
theorem qu{B k:Nat}{v:C5}:yr B v k=false↔B<=k/\v.ownBlock≠some k:=by
 unfold yr;simp[Cd]
def uU(B:Nat)(w:C4)(v:C5)(tk:List Ex):Prop:=
 ∃ps:List (Ex×C5),ps.map (·.1)=tk/\w.ownsRow B 147 5 v ps.length (r5 ps)/\∀p∈ps,fT p.1.n/\kW w.heap.size (fW (yr B v) w) p.2 p.1.args
theorem uU.nil(B:Nat)(w:C4):uU B w (.slice none 0 0) []:=⟨[],rfl,Yp w B _ 5,fun p a=>Uo⟩
theorem uU.form{B:Nat}{w:C4}{v:C5}{tk:List Ex}(b:uU B w v tk):∃a c,v=.slice a tk.length c:=by
 obtain⟨ps,rfl,d,_⟩:=b;rw[Yh];exact zY d
theorem uU.own{B:Nat}{w:C4}{v:C5}{tk:List Ex}(a:uU B w v tk):∀k,v.ownBlock=some k->k<w.heap.size/\B<=k:=by
 obtain⟨ps,_,b,_⟩:=a;exact zT b
theorem kW.mask{p q:Nat->Bool}{w w':C4}{v:C5}{l:List Ex}(b:kW w.heap.size (_root_.Go.Proofs.YthcmenajdcbnnaaGreatDoor.fW p w) v l)(i:w.heap.size<=w'.heap.size)(d:∀k,k<w.heap.size->p k=false->q k=false/\w'.heap[k]?=w.heap[k]?):kW w'.heap.size (_root_.Go.Proofs.YthcmenajdcbnnaaGreatDoor.fW q w') v l:=by
 refine b.imp fun g o _ a=>?_
 obtain⟨e,a⟩:=jb a;obtain⟨f,c⟩:=d g a.1 e;exact jn f ⟨Yb a.1 i,(D6 (w:=w) c).trans a.2⟩
theorem uU.keep{B:Nat}{w w':C4}{v:C5}{tk:List Ex}(b:uU B w v tk)(k:zL B w w'):uU B w' v tk:=by
 have d:=b.own;obtain⟨ps,g,i,e⟩:=b;refine⟨ps,g,zQ i fun j a=>k.2 j (d j a).1 (d j a).2,fun p c=>⟨(e p c).1,(e p c).2.mask k.1 fun j a f=>⟨f,k.2 j a (qu.1 f).1⟩⟩⟩
theorem uU.app{B L:Nat}{w W w':C4}{v v':C5}{tk:List Ex}{e:Ex}{k op n:Int}{s:C3}{q:C5}(i:uU B w v tk)(D:kr L w e (.agg #[(k:Int),(op:Int),(n:Int),s,q]))(_:B<=L)(C:∀k,v.ownBlock=some k->k<L)
 (f:Cy w W) (u:W.grownBy w' v.ownBlock) (G:kn W v v') (F:w'.ownsRow B 147 5 v' (tk.length+1) ((r5 (Classical.choose i))++[.int .i64 k,.int .i64 op,.int .i64 n,.string s,q])):uU B w' v' (tk++[e]):=by
 obtain⟨z,_,y⟩:=Cq i;generalize Classical.choose i=ps at *;obtain⟨tc,rfl,E,H⟩:=n3 D;have A:w.heap.size<=w'.heap.size:=Dy f.size u.size
 have t:∀j,j<w.heap.size->v.ownBlock≠some j->v'.ownBlock≠some j/\w'.heap[j]?=w.heap[j]?:=fun j b x=>by
  refine⟨fun a=>?_,(u.block j (Yb b f.size) (fun e=>x e.symm)).trans (f.block j b)⟩;rcases G with d|⟨g,d,r⟩
  .exact x (d▸a)
  .rw[d]at a
   injection a with a;have:=f.size;omega
 refine⟨ps++[(.mk k op n s tc,q)],by rw[Yj,z];rfl,?_,fun p c=>?_⟩
 .rw[MX,Dr,show ps.length=tk.length by rw[<-z,Yh]]
  exact F
 .rcases List.mem_append.1 c with c|c
  .refine⟨(y p c).1,(y p c).2.mask A fun j b o=>?_⟩
   obtain⟨d,r⟩:=qu.1 o;obtain⟨l,m⟩:=t j b r;exact⟨qu.2 ⟨d,l⟩,m⟩
  .obtain rfl:=List.mem_singleton.1 c
   refine⟨E,kW.mask H A fun j b o=>?_⟩;have I:=kt.1 o;obtain⟨l,m⟩:=t j b (fun a=>by have:=C j a;omega);exact⟨qu.2 ⟨O,l⟩,m⟩
theorem KT{b:Nat}{W:C4}{g:Nat}:∀(ps:List (Ex×C5)) (o:Nat),(∀j a,(r5 ps)[j]?=some a->fK b W g (o+j) a)->(∀p∈ps,fT p.1.n/\kW b W p.2 p.1.args)->kM b W (ps.map (·.1)) g o
 | [],_,_,_=>by
   show kM b W [] g _;rw[kM];trivial
 | p::r,o,hc,hp=>by
   show kM b W (p.1::r.map (·.1)) g o;have e:r5 (p::r)=.int .i64 p.1.kind :: .int .i64 p.1.op :: .int .i64 p.1.n :: .string p.1.name::p.2::r5 r:=by simp[r5]
   rw[e]at hc;rw[kM];refine⟨?_,KT r (o+5) (fun j a c=>?_) fun q f=>hp q (Y7 _ f)⟩
   .obtain⟨d,i⟩:=hp p (Y4 ..)
    obtain⟨⟨k,op,n,_,tc⟩,a⟩:=p;rw[z3];exact⟨hc 0 _ rfl,hc 1 _ rfl,hc 2 _ rfl,hc 3 _ rfl,d,a,hc 4 _ rfl,i⟩
   .have:=hc (j+5) a Uy
    rw[show o+5+j=o+(j+5)by omega];exact this
theorem uU.read{B:Nat}{w:C4}{v:C5}{tk:List Ex}(l:uU B w v tk)(s:tk.length<=281474976710656):je B w tk v:=by
 obtain⟨ps,rfl,t,f⟩:=l
 have x:∀g o b,fK w.heap.size (fW (yr B v) w) g o b->fK w.heap.size (fW (nS B) w) g o b:=fun g o b c=>by
  obtain⟨u,c⟩:=jb c;exact jn (kt.2 (qu.1 u).1) c
 rcases t.2 with⟨rfl,m⟩|⟨g,i,k,rfl,n,d,_,_,_,q⟩
 .have:ps=[]:=Yq m
  subst this;exact vj _ _
 .refine⟨_,i,?_,?_,fun _=>⟨g,0,rfl,?_⟩⟩
  .rw[Yh]
  .exact s
  .have r:g<w.heap.size:=(Array.getElem?_eq_some_iff.1 d).1
   refine KT ps 0 (fun j b a=>?_) fun p e=>⟨(f p e).1,(f p e).2.imp x⟩
   refine jn (kt.2 n) ⟨r,?_⟩;rw[Yz,cell_of_row w g j k _ (0,0) d];rw[<-q,Y8]at a;split at a
   .simpa using a
   .cases a
theorem WJ:(Tryz.prog.info? 147).map (fun i=>(i.zero,i.size,i.bytes))=some (some p4,5,64):=by kernel_rfl
def yk(b:Nat)(w:C4):Nat:=match w.cell? (b,1)with|some (.int _ k)=>k.toNat|_=>0
theorem jY{b:Nat}{V:C5}{tj r:List fH}{a dp:Bool}{w:C4}(c:zc b V tj r a dp w):yk b w=tj.length-r.length:=by
 unfold yk;rw[c.cells.2.1];exact Int.toNat_natCast _
def n6:C5->Nat
 |.bool true=>1
 |_=>0
def vm(m:Nat)(d:Int)(tk:List Ex)(r:List fH):PR (List Ex):=if zq [44] r=true then r0 m d tk r.tail else(zN [41] r).bind fun _ r=>.ok tk r
def zbt(b:Nat)(V:C5)(tj:List fH)(w:C4)(T:PR (List Ex))(n:Nat)(d:Int)(a:C5)(wr:C4):Prop:=
 ∃(m:Nat) (tk:List Ex) (y:PR Unit),m<=n/\uU w.heap.size wr a tk/\jK b V tj w y wr/\T=y.bind (fun _ r=>vm m d tk r)/\(qD y=false->tk.length<=yk b wr)/\tk.length<=2000000
def zab(b:Nat)(V:C5)(tj:List fH)(w:C4)(T:PR (List Ex))(n:Nat)(d:Int)(e:List fH)(c a:C5)(wr:C4):Prop:=
 (a=.bool true/\c=.slice none 0 0/\jK b V tj w (.ok () e) wr)\/(a=.bool false/\zbt b V tj w T n d c wr)
theorem n7{b:Nat}{V:C5}{tj:List fH}{x:PR Unit}{w:C4}(g:jm b V tj x w)(f:qD x=true)(d:Int):
 Cz 150 #[(b,0),(d:Int)] w fun e w'=>e=.returned (.slice none 0 0)/\jK b V tj w x w':=by
 have a:=C2 (jK b V tj w x w) ⟨g,fI.refl _ _ _⟩;have j:=U f;have k:=U (show zU (⟨#[41]⟩:C3).data.toList x=false by cases x with|ok n r=>cases f|_=>rfl);have i:=U (show(x.bind fun _ r=>zN (⟨#[41]⟩:C3).data.toList r)=x by cases x with|ok n r=>cases f|_=>rfl);clear g f;go_enter func150,ntmps150
 go_wp2_with (first
  |(go_at_call 56;(with_reducible refine(zE a.o.st _ k.o).mono ?_);rintro e p ⟨rfl,c⟩;replace a:=U (a.o.after c);clear c))
 go_loopw [5,6] (fun m l wr=>m=.slice none 0 0/\l=.bool true/\jK b V tj w x wr) (fun _ _ _=>0)
 case atStart=>exact⟨rfl,rfl,a.o⟩
 case round=>
  obtain⟨rfl,rfl,c⟩:=hrel;replace a:=U c;clear c
  go_wp2_with (first
   |(go_at_call 53;(with_reducible refine(qL a.o.st true j.o).mono ?_);rintro e p ⟨rfl,rfl⟩)
   |(go_at_call 58;(with_reducible refine(zg a.o.st _).mono ?_);rintro e _ ⟨rfl,c⟩;rw[i.o]at c;replace a:=U (a.o.after c);clear c))
  go_ret;exact⟨rfl,a.o⟩
theorem EY{B:Nat}{w:C4}{v:C5}{tk:List Ex}(i:uU B w v tk)(a b c d g:C5)(_:B<=w.heap.size):
 (w.alloc (.cells #[a,b,c,d,g] 147)).ownsRow B 147 5 v tk.length (r5 (Classical.choose i))/\
 (∀j k,[a,b,c,d,g][j]?=some k->(w.alloc (.cells #[a,b,c,d,g] 147)).cell? ((⟨w.heap.size,0,none⟩:Addr).add j)=some k)/\B<=(w.alloc (.cells #[a,b,c,d,g] 147)).heap.size:=by
 obtain⟨m,l,_⟩:=Cq i;refine⟨?_,fun j k n=>?_,Uj⟩
 .have e:(Classical.choose i).length=tk.length:=by rw[<-Yh (f:=(·.1)),m]
  rw[e]at l;exact qS l ((D4 w.heap.size w).alloc Zr _) Zr
 .rw[show(⟨w.heap.size,0,none⟩:Addr).add j=⟨w.heap.size,j,none⟩by unfold Addr.add;split<;>simp_all]
  exact(cell_of_row _ w.heap.size j _ _ (0,0) (Ds w _)).trans (by simpa using n)
def mA(b:Nat)(V:C5)(tj:List fH)(w w':C4)(q:Nat)(d:Int)(tk:List Ex)(r:List fH)(v':C5):Prop:=
 ∃(a:List Ex) (y:PR Unit),uU w.heap.size w' v' a/\jK b V tj w y w'/\r0 (q+1) d tk r=y.bind (fun _ r=>vm q d a r)/\(qD y=false->a.length<=yk b w')/\a.length<=2000000/\tj.length-r.length<=yk b w'
theorem mB{q:Nat}{d:Int}{tk:List Ex}{r:List fH}:r0 (q+1) d tk r=(pE q 1 d r).bind fun e r=>vm q d (tk++[e]) r:=by rw[r0];rfl
theorem iZ{b:Nat}{V:C5}{tj:List fH}{w l w':C4}{q:Nat}{d:Int}{tk:List Ex}{r:List fH}{v v':C5}{L:Nat}{k op n:Int}{s:C3}{y:C5}
 (t:uU w.heap.size l v tk) (M:jK b V tj w ((PR.ok () r).bind fun _ r=>pE q 1 d r).un l) (p:ja ((PR.ok () r).bind fun _ r=>pE q 1 d r) fun a=>kr L l a (.agg #[(k:Int),(op:Int),(n:Int),s,y])) (hF:zm 1 r (pE q 1 d r))
 (i:(l.alloc (.cells #[(k:Int),(op:Int),(n:Int),s,y] 147)).grownBy w' v.ownBlock) (I:kn (l.alloc (.cells #[(k:Int),(op:Int),(n:Int),s,y] 147)) v v')
 (H:w'.ownsRow w.heap.size 147 5 v' (tk.length+1) ((r5 (Classical.choose t))++[.int .i64 k,.int .i64 op,.int .i64 n,.string s,y])) (E:∀k,v.ownBlock=some k->k<L) (D:w.heap.size<=L) (_:r.length<=tj.length)
 (_:tk.length<=1000000) (_:tk.length<=tj.length-r.length) (Q:k5 b V tj w) (_:b<w.heap.size):mA b V tj w w' q d tk r v':=by
 have F:Cy l (l.alloc (.cells #[(k:Int),(op:Int),(n:Int),s,y] 147)):=Zb.alloc Zr _
 have N:∀x,jK b V tj w x l->jK b V tj w x w':=fun x f=>by
  have z:=f.alloc (.cells #[(k:Int),(op:Int),(n:Int),s,y] 147)
  have P:v.ownBlock≠some b:=fun e=>by
   have R:=(t.own b e).2;omega
  have K:fI b w.heap.size w w':=z.off.trans (fI.mk' i.os i.tape i.output i.size z.st.lt fun j _ _=>i.block j (by have:=z.off.size;omega) (fun e=>by
   have:=(t.own j e.symm).2
   omega))
  exact⟨z.st.move Q K (i.block b z.st.lt (fun e=>P e.symm)),K⟩
 have g:=N _ M;cases f:pE q 1 d r with
 |ok e c=>
   have m:((PR.ok () r).bind fun _ r=>pE q 1 d r)=.ok e c:=f;rw[m]at p g;rw[f]at hF;have A:zJ 1 r c:=hF;have B:zc b V tj c false false w':=g.st;have u:=jY B;have J:=A.2.2;refine⟨tk++[e],.ok () c,t.app p D E F i I H,g,by rw[mB,f];rfl,fun _=>?_,?_,?_⟩
   .rw[u,Dr]
    simp;omega
   .rw[Dr]
    simp;omega
   .rw[u]
    omega
 |bad c=>
   have m:((PR.ok () r).bind fun _ r=>pE q 1 d r)=.bad c:=f;rw[m]at p g;rw[f]at hF;have A:zJ 0 r c:=hF;have B:zc b V tj c true false w':=g.st;have u:=jY B;have J:=A.2.2;obtain⟨e,G⟩:=p;refine⟨tk++[e],.bad c,t.app G D E F i I H,g,by rw[mB,f];rfl,(fun C=>by cases C),?_,?_⟩
   .rw[Dr]
    simp;omega
   .rw[u]
    omega
 |deep c=>
   have m:((PR.ok () r).bind fun _ r=>pE q 1 d r)=.deep c:=f;rw[m]at p g;rw[f]at hF;have A:zJ 0 r c:=hF;have B:zc b V tj c false true w':=g.st;have u:=jY B;have J:=A.2.2;obtain⟨e,G⟩:=p;refine⟨tk++[e],.deep c,t.app G D E F i I H,g,by rw[mB,f];rfl,(fun C=>by cases C),?_,?_⟩
   .rw[Dr]
    simp;omega
   .rw[u]
    omega
 |o=>
   have m:((PR.ok () r).bind fun _ r=>pE q 1 d r)=.o:=f;rw[m]at g;exact absurd g.st id
theorem mA.rel{b:Nat}{V:C5}{tj:List fH}{w w':C4}{q n:Nat}{d:Int}{tk:List Ex}{r:List fH}{v':C5}{T:PR (List Ex)}(c:mA b V tj w w' q d tk r v')(l:q<=n)(k:T=r0 (q+1) d tk r):zbt b V tj w T n d v' w':=by
 obtain⟨a,y,e,f,g,i,j,_⟩:=c;exact⟨q,a,y,l,e,f,k.trans g,i,j⟩
theorem mA.at{b:Nat}{V:C5}{tj:List fH}{w w':C4}{q:Nat}{d:Int}{tk:List Ex}{r:List fH}{v':C5}(a:mA b V tj w w' q d tk r v'):tj.length-r.length<=yk b w':=by
 obtain⟨_,y,_,_,_,_,_,c⟩:=a;exact c
theorem yI{b:Nat}{V:C5}{tj r:List fH}{w w':C4}(a:jK b V tj w (.ok () r) w'):yk b w'=tj.length-r.length/\r.length<=tj.length/\tj.length<=1000000/\qC r/\0<r.length:=by
 have e:zc b V tj r false false w':=a.st;obtain⟨_,⟨_,_,_,_,_,_,d,_⟩,f,c⟩:=e;exact⟨jY a.st,r2 f,d,c,c.pos⟩
theorem WK{m:Nat}{d:Int}{tk:List Ex}{y:PR Unit}(a:zU [44] y=false):y.bind (fun _ r=>vm m d tk r)=y.bind fun _ r=>(zN [41] r).bind fun _ r=>.ok tk r:=by
 cases y with
 |ok _ r=>
   show vm m d tk r=_;unfold vm;rw[Dp Hb];rfl
 |_=>rfl
theorem Q2{b:Nat}{V:C5}{tj:List fH}{w W:C4}{y:PR Unit}{tk:List Ex}{v:C5}{L:Nat}(c:jK b V tj w (y.bind fun _ r=>zN [41] r) W)(a:je L W tk v):
 qk b V tj w (y.bind fun _ r=>(zN [41] r).bind fun _ r=>.ok tk r) (je L) (.returned v) W:=by
 refine⟨v,rfl,?_,?_⟩
 .rw[jj]
  simp only[xY];exact c
 .cases y with
  |ok _ r=>exact vL a
  |bad r=>exact⟨tk,a⟩
  |deep r=>exact⟨tk,a⟩
  |o=>trivial
theorem MY{b:Nat}{V:C5}{tj r:List fH}{w:C4}{n:Nat}{d:Int}(ay:∀m,m<=n->CE b V tj m 1 d)(N:zc b V tj r false false w)(ah:zI (pA (n+1) d r)):
 Cz 150 #[(b,0),(d:Int)] w (qk b V tj w (pA (n+1) d r) (je w.heap.size)):=by
 have a:=C2 (jK b V tj w (.ok () r) w) ⟨N,fI.refl _ _ _⟩;have i:=N.lt;have af:=U N.2.1;cases hs:zq [41] r with
 |true=>
   have M:pA (n+1) d r=.ok [] r.tail:=by rw[pA,Dq hs]
   rw[M];have an:=C2 (zU (⟨#[41]⟩:C3).data.toList (PR.ok () r)=true) hs;clear N ah hs M;go_enter func150,ntmps150
   go_wp2_with (first
    |(go_at_call 56;(with_reducible refine(qA a.o.st _ an.o).mono ?_);rintro e C ⟨rfl,c⟩;replace a:=U (a.o.after c);clear c))
   go_ret;exact⟨_,rfl,a.o,vj _ _⟩
 |false=>
   have M:pA (n+1) d r=r0 n d [] r:=by rw[pA,Dp (by rw[hs];decide)]
   rw[M]at ah ⊢;have an:=C2 (zU (⟨#[41]⟩:C3).data.toList (PR.ok () r)=false) hs;have ae:=U ah;have aw:=U ay;clear N ah hs M ay;go_enter func150,ntmps150
   go_wp2_with (first
    |(go_at_call 56;(with_reducible refine(zE a.o.st _ an.o).mono ?_);rintro e C ⟨rfl,c⟩;replace a:=U (a.o.after c);clear c))
   go_loopw [5,6] (fun aM ap wr=>zab b V tj w (r0 n d [] r) n d r aM ap wr) (fun _ ap wr=>2*(tj.length-yk b wr)+n6 ap)
   case atStart=>exact .inl ⟨rfl,rfl,a.o⟩
   case round=>
    obtain⟨aD,az,aA,aB,aC⟩:=info_parts WJ;have j:=U (Dt az (Dt aA (Dt aB aC)));clear az aA aB aC;rcases hrel with⟨rfl,rfl,c⟩|⟨rfl,m,tk,y,_,z,c,ag,g,_⟩
    .replace a:=U c
     have D:=U c;obtain⟨A,aJ,aH,B,aK⟩:=yI c
     obtain⟨q,rfl⟩:∃q,n=q+1:=by
      cases n with
      |zero=>have:=ae.o;rw[r0]at this;exact absurd this id
      |succ q=>exact⟨q,rfl⟩
     have g:([]:List Ex).length<=1000000:=Uh
     obtain⟨tk,P⟩:∃tk:List Ex,tk=[]:=⟨_,rfl⟩
     rw[<-P]at g;have aP:tk.length=0:=by rw[P];rfl
     have L:=U (show r0 (q+1) d [] r=r0 (q+1) d tk r by rw[P]);have f:=U (show uU w.heap.size wr (.slice none 0 0) tk by rw[P];exact uU.nil _ _);have I:=U (show zI ((PR.ok () r).bind fun _ r=>pE q 1 d r)by have t:=ae.o;rw[mB]at t;exact qM t);have E:=U (jC (n:=q) (lev:=1) (d:=d) B);have am:=U A;clear c A P B;go_wp2_with
     (first
       |(go_at_call 53;(with_reducible refine(qL a.o.st false rfl).mono ?_);rintro e C ⟨rfl,rfl⟩)
       | (go_at_call 126;(with_reducible refine((aw.o q O).call a.o.st I.o).mono ?_);rintro e al ⟨v,rfl,c,u⟩
          obtain⟨W,X,Y,Z,aa,ab,ad,rfl⟩:=jD u I.o;have F:=U u;have p:=U (f.o.keep (zL.did c i));have H:=U f.o.own;replace a:=U (a.o.after c);have s:=U (EY p.o (.int .i64 W) (.int .i64 X) (.int .i64 Y) (.string Z) (.slice aa ab ad) Jn)
          clear c u)
       |(at_builtin;refine qJ rfl (.tmp 19) (.tmp 23) _ rfl w.heap.size 147 aD _ 5 64 underlying137 j.o.1 j.o.2.1 j.o.2.2.1 j.o.2.2.2 rfl O (.slice none 0 0) tk.length _ rfl Xt ⟨al.heap.size,0,none⟩ 1 1 [.int .i64 W,.int .i64 X,.int .i64 Y,.string Z,.slice aa ab ad] rfl rfl Xq Um Ul O Xr O ?_;intro aN aO R Q S;have J:=U R;have G:=U Q;have K:=U S;clear R Q S))
     go_roundw
     case rel=>
      exact .inr ⟨rfl,(iZ (d:=d) p.o a.o F.o E.o G.o K.o J.o (fun k x=>(H.o k x).1) Jm O g O af.o i).rel (n:=q+1) O L.o⟩
     case measure=>
      exact On
    .obtain⟨aI,T⟩:∃v:Bool,zU [44] y=v:=⟨_,rfl⟩
     cases aI with
     |true=>
       obtain⟨aj,rfl,ai⟩:=ux T;obtain⟨A,aJ,aH,B,aK⟩:=yI c
       have l:r0 n d [] r=r0 m d tk aj.tail:=by
        rw[ag];show vm m d tk aj=_;unfold vm;rw[Dq ai]
       obtain⟨q,rfl⟩:∃q,m=q+1:=by
        cases m with
        |zero=>have:=ae.o;rw[l,r0]at this;exact absurd this id
        |succ q=>exact⟨q,rfl⟩
       have aG:=g rfl;rw[A]at aG;have aL:=jq B;have am:=U A;have ao:=C2 (zU (⟨#[44]⟩:C3).data.toList (PR.ok () aj)=true) ai;have ar:=B.sign ai;obtain⟨ak,au⟩:∃ak,ak=aj.tail:=⟨_,rfl⟩
       rw[<-au]at l aL ar;have aE:=U au;have L:=U l;have I:=U (show zI ((PR.ok () ak).bind fun _ r=>pE q 1 d r)by have t:=ae.o;rw[l,mB]at t;exact qM t);have E:=U (jC (n:=q) (lev:=1) (d:=d) ar);have f:=U z;replace a:=U c;obtain⟨av,ax,rfl⟩:=z.form;have g:tk.length<=1000000:=O
       clear c z ag l A T ai B ar au;go_wp2_with
       (first
         |(go_at_call 53;(with_reducible refine(qL a.o.st false rfl).mono ?_);rintro e C ⟨rfl,rfl⟩)
         | (go_at_call 56;(with_reducible refine(qA a.o.st _ ao.o).mono ?_);rintro e C ⟨rfl,c⟩
            have aq:jK b V tj wr (.ok () ak) C:=by rw[aE.o];exact c
            replace f:=U (f.o.keep (zL.did aq i));replace a:=U (a.o.after aq);have D:=a
            clear c aq)
         | (go_at_call 126;(with_reducible refine((aw.o q O).call a.o.st I.o).mono ?_);rintro e al ⟨v,rfl,c,u⟩
            obtain⟨W,X,Y,Z,aa,ab,ad,rfl⟩:=jD u I.o;have F:=U u;have p:=U (f.o.keep (zL.did c i));have H:=U f.o.own;replace a:=U (a.o.after c);have s:=U (EY p.o (.int .i64 W) (.int .i64 X) (.int .i64 Y) (.string Z) (.slice aa ab ad) Jn)
            clear c u)
         |(at_builtin;refine qJ rfl (.tmp 19) (.tmp 23) _ rfl w.heap.size 147 aD _ 5 64 underlying137 j.o.1 j.o.2.1 j.o.2.2.1 j.o.2.2.2 rfl O (.slice av tk.length ax) tk.length _ rfl Xt ⟨al.heap.size,0,none⟩ 1 1 [.int .i64 W,.int .i64 X,.int .i64 Y,.string Z,.slice aa ab ad] rfl rfl Xq Um Ul O Xr O ?_;intro aN aO R Q S;have J:=U R;have G:=U Q;have K:=U S;clear R Q S))
       go_roundw
       case rel=>
        exact .inr ⟨rfl,(iZ (d:=d) p.o a.o F.o E.o G.o K.o J.o (fun k x=>(H.o k x).1) Jm O g O af.o i).rel (n:=n) O L.o⟩
       case measure=>
        exact On
     |false=>
       have ao:=C2 (zU (⟨#[44]⟩:C3).data.toList y=false) T;have l:=ag.trans (WK (m:=m) (d:=d) (tk:=tk) T);have L:=U l;have f:=U z;replace a:=U c;obtain⟨av,ax,rfl⟩:=z.form;clear c z ag l T g
       go_wp2_with (first
        | (go_at_call 56;(with_reducible refine(zE a.o.st _ ao.o).mono ?_);rintro e C ⟨rfl,c⟩
           replace f:=U (f.o.keep (zL.did c i));replace a:=U (a.o.after c)
           clear c)
        | (go_at_call 58;(with_reducible refine(zg a.o.st _).mono ?_);rintro e al ⟨rfl,c⟩
           replace f:=U (f.o.keep (zL.did c i));replace a:=U (a.o.after c)
           clear c))
       go_ret;rw[L.o];exact Q2 a.o (f.o.read O)
def qP:List Fu->C3->Option Nat
 |[],_=>none
 |f::r,s=>if f.name=s then some 0 else(qP r s).map (·+1)
def zZ:List Ar->C3->Option Nat
 |[],_=>none
 |a::r,s=>if a.name=s then some 0 else(zZ r s).map (·+1)
def jy:Option Nat->Int
 |none=>-1
 |some k=>(k:Int)
def zv:List Pa->C3->Option Int
 |[],_=>none
 | x::r,s=>match zv r s with
   |some t=>some t
   |none=>if x.name=s then some x.type else none
def jU(p:Pr)(s:C3):Option Fu:=(qP p.funcs s).bind fun k=>p.funcs[k]?
def jZ(op:Int):Int:=if op=18\/op=19\/op=22 then 2 else if op=16\/op=17 then 0 else 1
def vM(op:Int):Int:=if op=18\/op=19\/op=22 then 2 else if op=16\/op=17 then 2 else if 12<=op/\op<=15 then 2 else 1
def kO(p:Pr)(tf:List Pa)(k:Int)(s:C3):Bool:=
 if k=3 then(zv tf s).isSome else if k=6 then(zZ p.wa s).isSome else if k=7 then(qP p.funcs s).isSome else true
def xS(p:Pr)(k:Int)(s:C3)(n:Nat):Bool:=
 if k=7 then(match jU p s with|some f=>decide (n=f.params.length)|none=>true)else true
def jk(p:Pr)(tf:List Pa)(k op:Int)(s:C3)(l:List Int):Int×Int:=
 if k=2 then(2,0)
 else if k=3 then((zv tf s).getD 0,0)
 else if k=7 then(match jU p s with|some f=>if l=f.params.map (·.type)then(f.type,0)else(0,51)|none=>(0,51))
 else if k=6 then(if l.headD 0=1 then(1,0)else(0,51))
 else if k=4\/k=5 then(if l.all (fun t=>decide ((jZ op=0\/t=jZ op)/\t=l.headD 0))then(vM op,0)else(0,51))
 else(1,0)
mutual
def qE(p:Pr)(tf:List Pa):Ex->Int×Int
 |.mk k op _ td tc=>
   if kO p tf k td=false then(0,50)
   else if xS p k td tc.length=false then(0,51)
   else match qI p tf tc with
    |.inl e=>(0,e)
    |.inr l=>jk p tf k op td l
def qI(p:Pr)(tf:List Pa):List Ex->Int ⊕ List Int
 |[]=>.inr []
 |e::r=>
   if(qE p tf e).2≠0 then .inl (qE p tf e).2
   else match qI p tf r with
    |.inl x=>.inl x
    |.inr l=>.inr ((qE p tf e).1::l)
end
def pD:List Ex->Bool
 |.mk k _ n _ _::_=>decide (k=2)&&decide (n=1)
 |[]=>false
mutual
def wW:St->Bool
 |.mk k _ _ _ tg th=>decide (k=6) || (decide (k=4)&&(jS tg || jS th))
def jS:List St->Bool
 |[]=>false
 |s::r=>wW s || jS r
end
mutual
def wX:St->Bool
 |.mk k _ _ tc tg th=>decide (k=8) || (decide (k=4)&&(fV tg&&fV th)) || (decide (k=5)&&(pD tc&&!jS tg))
def fV:List St->Bool
 |[]=>false
 |s::r=>wX s || fV r
end
def jP(p:Pr)(tf:List Pa)(e:Ex)(t:Int):Int:=if(qE p tf e).2=0 then(if(qE p tf e).1=t then 0 else 51)else(qE p tf e).2
def j8:Ex:=.mk 1 0 0 ⟨#[]⟩ []
def jH(p:Pr)(ft:Int)(k a:Int)(td:C3)(tc:List Ex)(tf:List Pa)(frm:Nat)(ti:Bool):Int:=
 if k=1 then(if jP p tf (tc.getD 0 j8) a=0 then(if(zv (tf.drop frm) td).isSome then 50 else 0)else jP p tf (tc.getD 0 j8) a)
 else if k=2 then(match zv tf td with|none=>50|some t=>jP p tf (tc.getD 0 j8) t)
 else if k=3 then(if(zZ p.wa td).isSome then(if jP p tf (tc.getD 0 j8) 1=0 then jP p tf (tc.getD 1 j8) 1 else jP p tf (tc.getD 0 j8) 1)else 50)
 else if k=4\/k=5 then jP p tf (tc.getD 0 j8) 2
 else if k=8 then jP p tf (tc.getD 0 j8) ft
 else if k=9 then jP p tf (tc.getD 0 j8) 1
 else if k=10 then(qE p tf (tc.getD 0 j8)).2
 else if ti then 0 else 53
def jf(k a:Int)(td:C3)(tf:List Pa):List Pa:=if k=1 then tf++[⟨td,a⟩]else tf
def ID:St->List Pa->List Pa
 |.mk k ty td _ _ _,tf=>jf k ty td tf
mutual
def yt(p:Pr)(ft:Int):St->List Pa->Nat->Bool->Nat->Int×Nat
 |.mk k ty td tc tg th,tf,frm,ti,n=>
   if jH p ft k ty td tc tf frm ti≠0 then(jH p ft k ty td tc tf frm ti,n)
   else if(zX p ft tg (jf k ty td tf) (jf k ty td tf).length (ti || decide (k=5)) (n+1)).1≠0 then zX p ft tg (jf k ty td tf) (jf k ty td tf).length (ti || decide (k=5)) (n+1)
   else zX p ft th (jf k ty td tf) (jf k ty td tf).length ti (zX p ft tg (jf k ty td tf) (jf k ty td tf).length (ti || decide (k=5)) (n+1)).2
def zX(p:Pr)(ft:Int):List St->List Pa->Nat->Bool->Nat->Int×Nat
 |[],_,_,_,n=>(0,n)
 |s::r,tf,frm,ti,n=>
   if(yt p ft s tf frm ti n).1≠0 then yt p ft s tf frm ti n
   else zX p ft r (ID s tf) frm ti (yt p ft s tf frm ti n).2
end
def lM:List Pa->Bool
 |[]=>false
 |x::r=>(zv r x.name).isSome || lM r
def yl(p:Pr)(f:Fu):Int×Nat:=
 if lM f.params then(50,0)
 else if(zX p f.type f.body f.params f.params.length false 0).1≠0 then zX p f.type f.body f.params f.params.length false 0
 else if fV f.body then(0,0)else(52,(zX p f.type f.body f.params f.params.length false 0).2)
def uV(p:Pr):List Fu->Nat->Int×Nat×Nat
 |[],_=>(0,0,0)
 |f::r,i=>if(yl p f).1≠0 then((yl p f).1,i,(yl p f).2)else uV p r (i+1)
def CI:List Fu->Bool
 |[]=>false
 |f::r=>(qP r f.name).isSome || CI r
def uW(p:Pr):List Ar->Bool
 |[]=>false
 |a::r=>(zZ r a.name).isSome || (qP p.funcs a.name).isSome || uW p r
def xg(p:Pr):Bool:=match jU p ⟨#[109,97,105,110]⟩with|some f=>decide (f.type=1)&&decide (f.params.length=0)|none=>false
def yu(p:Pr):Int×Nat×Nat:=
 if f5 p=false then(1,0,0)
 else if uW p p.wa || CI p.funcs || !xg p then(50,0,0)
 else uV p p.funcs 0
structure RS where
 arr:List (List Int)
 inp:List Int
 o:List Int
 cost:Nat
 fuel:Nat
 stat:Int
 spent:Bool
abbrev fG:=List (C3×Int)
inductive fS (α:Type) where
 |ok (a:α) (s:RS)
 |fin (s:RS)
def fS.bind{α β:Type}:fS α->(α->RS->fS β)->fS β
 |.ok a s,f=>f a s
 |.fin s,_=>.fin s
def fS.st{α:Type}:fS α->RS
 |.ok _ s=>s
 |.fin s=>s
def jc:fG->C3->Option Nat
 |[],_=>none
 | x::r,s=>match jc r s with
   |some k=>some (k+1)
   |none=>if x.1=s then some 0 else none
def pF(vs:fG)(s:C3):Int:=match jc vs s with|some k=>((vs[k]?).map (·.2)).getD 0|none=>0
def xJ(vs:fG)(s:C3)(n:Int):fG:=match jc vs s with|some k=>vs.set k (s,n)|none=>vs
def zj(s:RS):fS Unit:=match s.fuel with
 |0=>.fin { s with spent:=true }
 |f+1=>.ok () { s with fuel:=f }
def zV(s:RS):RS:={ s with cost:=s.cost+1 }
def kR(s:RS)(k:Int):RS:={ s with stat:=k }
def i0(f:Ex->RS->fS Int):List Ex->RS->fS (List Int)
 |[],s=>.ok [] s
 |e::r,s=>(f e s).bind fun a s=>(i0 f r s).bind fun l s=>.ok (a::l) s
abbrev xy:=Int×Int×fG
def kH(f:fG->St->RS->fS xy):fG->List St->RS->fS xy
 |vs,[],s=>.ok (0,0,vs) s
 |vs,t::r,s=>(f vs t s).bind fun h s=>if h.1=0 then kH f h.2.2 r s else .ok h s
def qG(f:fG->St->RS->fS xy)(vs:fG)(l:List St)(s:RS):fS xy:=
 (kH f vs l s).bind fun h s=>.ok (h.1,h.2.1,h.2.2.take vs.length) s
def k6(e:fG->RS->fS Int)(b:fG->RS->fS xy):Nat->fG->RS->fS xy
 |0,_,s=>.fin s
 | k+1,vs,s=>(e vs s).bind fun a s=>if a=0 then .ok (0,0,vs) s else
    (b vs s).bind fun h s=>if h.1=3 then .ok h s else if h.1=1 then .ok (0,0,h.2.2) s else k6 e b k h.2.2 s
def pG(p:Pr)(td:C3)(i:Int)(s:RS):fS Int:=
 match zZ p.wa td with
 |none=>.fin s
 | some k=>match s.arr[k]? with
   |none=>.fin s
   |some l=>if 0<=i/\i<l.length then .ok (l.getD i.toNat 0) s else .fin (kR s 3)
def y7(p:Pr)(td:C3)(i n:Int)(s:RS):fS Unit:=
 match zZ p.wa td with
 |none=>.fin s
 | some k=>match s.arr[k]? with
   |none=>.fin s
   |some l=>if 0<=i/\i<l.length then .ok () { s with arr:=s.arr.set k (l.set i.toNat n) } else .fin (kR s 3)
def vN(s:RS):fS Int:=match s.inp with
 |[]=>.fin (kR s 4)
 |n::r=>.ok n { s with inp:=r }
def qR(p:Pr)(c:Fu->List Int->RS->fS Int)(vs:fG)(k op n:Int)(td:C3)(l:List Int)(s:RS):fS Int:=
 if k=1\/k=2 then .ok n s
 else if k=3 then .ok (pF vs td) s
 else if k=4 then .ok (rV op (l.getD 0 0)) (zV s)
 else if k=5 then(if ur op (l.getD 1 0)then .ok (uH op (l.getD 0 0) (l.getD 1 0)) (zV s)else .fin (kR (zV s) 2))
 else if k=6 then pG p td (l.getD 0 0) (zV s)
 else if k=7 then(match jU p td with|some f=>c f l (zV s)|none=>.fin s)
 else vN (zV s)
def fN(f:Fu)(l:List Int):fG:=(f.params.map (·.name)).zip l
mutual
def f0(p:Pr):Nat->fG->Ex->RS->fS Int
 |0,_,_,s=>.fin { s with spent:=true }
 |g+1,vs,.mk k op n td tc,s=>(zj s).bind fun _ s=>
   if k=5/\(op=18\/op=19)then
    (f0 p g vs (tc.getD 0 j8) s).bind fun a s=>if decide (a≠0)=decide (op=19)then .ok a s else f0 p g vs (tc.getD 1 j8) s
   else(i0 (f0 p g vs) tc s).bind fun l s=>qR p (fun f l s=>(qG (qn p g) (fN f l) f.body s).bind fun h s=>.ok h.2.1 s) vs k op n td l s
def qn(p:Pr):Nat->fG->St->RS->fS xy
 |0,_,_,s=>.fin { s with spent:=true }
 |g+1,vs,.mk k _ td tc tg th,s=>(zj s).bind fun _ s=>
   if k=5 then k6 (fun vs s=>f0 p g vs (tc.getD 0 j8) s) (fun vs s=>qG (qn p g) vs tg s) (s.fuel+1) vs s
   else if k=6 then .ok (1,0,vs) s
   else if k=7 then .ok (2,0,vs) s
   else(f0 p g vs (tc.getD 0 j8) s).bind fun a s=>
    if k=1 then .ok (0,0,vs++[(td,a)]) s
    else if k=2 then .ok (0,0,xJ vs td a) s
    else if k=3 then(f0 p g vs (tc.getD 1 j8) s).bind fun n s=>(y7 p td a n (zV s)).bind fun _ s=>.ok (0,0,vs) s
    else if k=4 then(if a≠0 then qG (qn p g) vs tg s else qG (qn p g) vs th s)
    else if k=8 then .ok (3,a,vs) s
    else if k=9 then .ok (0,0,vs) { zV s with o:=s.o++[a] }
    else .ok (0,0,vs) s
end
def yD(p:Pr)(c:List Int)(b:Int):Int×Int×List Int×Nat×Nat:=
 if(yu p).1≠0 then(0,0,[],0,0)else
 match jU p ⟨#[109,97,105,110]⟩with
 |none=>(0,0,[],0,0)
 |some f=>
   match qG (qn p b.toNat) [] f.body ⟨p.wa.map fun a=>List.replicate a.size.toNat 0,c,[],0,b.toNat,0,false⟩with
   |.ok h s=>(1,h.2.1,s.o,s.cost,s.fuel)
   |.fin s=>(s.stat,0,s.o,s.cost,s.fuel)
structure Mv (s t:RS):Prop where
 fuel:t.fuel<=s.fuel
 pay:t.cost+t.fuel<=s.cost+s.fuel
 cost:s.cost<=t.cost
 len:t.arr.map List.length=s.arr.map List.length
 inp:∃l,s.inp=l++t.inp
 o:∃l,t.o=s.o++l
theorem Mv.refl(s:RS):Mv s s:=⟨D0 _,D0 _,D0 _,rfl,⟨[],rfl⟩,⟨[],(Yd _).symm⟩⟩
theorem Mv.trans{s t d:RS}(c:Mv s t)(g:Mv t d):Mv s d:=by
 obtain⟨l,i⟩:=c.inp;obtain⟨m,j⟩:=g.inp;obtain⟨a,e⟩:=c.o;obtain⟨b,f⟩:=g.o;exact⟨Dy g.fuel c.fuel,Dy g.pay c.pay,Dy c.cost g.cost,g.len.trans c.len,⟨l++m,by rw[i,j,Ya]⟩,⟨a++b,by rw[f,e,Ya]⟩⟩
def zw{α:Type}(s:RS)(d:Nat):fS α->Prop
 |.ok _ t=>Mv s t/\t.fuel+d<=s.fuel/\t.spent=s.spent/\t.stat=s.stat
 |.fin t=>Mv s t
theorem zw.ok{α:Type}(a:α)(s:RS):zw s 0 (fS.ok a s):=⟨Mv.refl s,D0 _,rfl,rfl⟩
theorem zw.fin{α:Type}(s:RS)(d:Nat):zw s d (fS.fin s:fS α):=Mv.refl s
theorem zw.bind{α β:Type}{s:RS}{d e:Nat}{x:fS α}{f:α->RS->fS β}(i:zw s d x)(g:∀a t,x=.ok a t->zw t e (f a t)):zw s (d+e) (x.bind f):=by
 cases x with
 |fin t=>exact i
 |ok a t=>
   have c:=g a t rfl;show zw s (d+e) (f a t);cases hx:f a t with
   |fin j=>rw[hx]at c;exact i.1.trans c
   |ok b j=>rw[hx]at c;exact⟨i.1.trans c.1,by have:=i.2.1;have:=c.2.1;omega,c.2.2.1.trans i.2.2.1,c.2.2.2.trans i.2.2.2⟩
theorem zw.le{α:Type}{s:RS}{d e:Nat}{x:fS α}(h:zw s d x)(_:e<=d):zw s e x:=by
 cases x with
 |fin t=>exact h
 |ok a t=>exact⟨h.1,by have:=h.2.1;omega,h.2.2⟩
structure mC (s t:RS):Prop where
 fuel:t.fuel+1<=s.fuel
 pay:t.cost+t.fuel+1<=s.cost+s.fuel
 cost:s.cost<=t.cost
 len:t.arr.map List.length=s.arr.map List.length
 inp:∃l,s.inp=l++t.inp
 o:∃l,t.o=s.o++l
 idl:t.spent=s.spent/\t.stat=s.stat
theorem mC.mv{s t:RS}(h:mC s t):Mv s t:=⟨by have:=h.fuel;omega,by have:=h.pay;omega,h.cost,h.len,h.inp,h.o⟩
theorem mC.trans{s t b:RS}(a:mC s t)(g:Mv t b)(c:b.spent=t.spent/\b.stat=t.stat):mC s b:=by
 have m:=a.mv.trans g;exact⟨by have:=a.fuel;have:=g.fuel;omega,by have:=a.pay;have:=g.pay;omega,m.cost,m.len,m.inp,m.o,c.1.trans a.idl.1,c.2.trans a.idl.2⟩
theorem mC.done{s t:RS}(h:mC s t):Mv s (zV t):=⟨by have:=h.fuel;show t.fuel<=_;omega,by have:=h.pay;show t.cost+1+t.fuel<=_;omega,by have:=h.cost;show s.cost<=t.cost+1;omega,h.len,h.inp,h.o⟩
theorem vA{s t:RS}(h:zj s=.ok () t):mC s t:=by
 unfold zj at h;cases hf:s.fuel with
 |zero=>rw[hf]at h;cases h
 |succ f=>
   rw[hf]at h;injection h with _ h;subst h;exact⟨by rw[hf];exact D0 _,by rw[hf];show s.cost+f+1<=_;omega,D0 _,rfl,⟨[],rfl⟩,⟨[],(Yd _).symm⟩,rfl,rfl⟩
theorem IE{s t:RS}(h:zj s=.fin t):Mv s t:=by
 unfold zj at h;cases hf:s.fuel with
 |zero=>
   rw[hf]at h;injection h with h;subst h;exact⟨Dx _,by rw[hf];exact D0 _,D0 _,rfl,⟨[],rfl⟩,⟨[],(Yd _).symm⟩⟩
 |succ f=>rw[hf]at h;cases h
theorem AC{α:Type}{s:RS}{f:RS->fS α}(h:∀t,mC s t->zw s 1 (f t)):zw s 1 ((zj s).bind fun _ t=>f t):=by
 cases hx:zj s with
 |fin t=>exact IE hx
 |ok a t=>exact h t (vA hx)
theorem mC.goes{α:Type}{s t:RS}{d:Nat}{x:fS α}(h:mC s t)(g:zw t d x):zw s 1 x:=by
 cases x with
 |fin u=>exact h.mv.trans g
 |ok a u=>exact⟨h.mv.trans g.1,by have:=h.fuel;have:=g.2.1;omega,g.2.2.1.trans h.idl.1,g.2.2.2.trans h.idl.2⟩
theorem mC.gone{α:Type}{s t:RS}{d:Nat}{x:fS α}(h:mC s t)(g:zw (zV t) d x):zw s 1 x:=by
 cases x with
 |fin u=>exact h.done.trans g
 |ok a u=>exact⟨h.done.trans g.1,by have:=h.fuel;have:=g.2.1;have e:(zV t).fuel=t.fuel:=rfl;omega,g.2.2.1.trans h.idl.1,g.2.2.2.trans h.idl.2⟩
theorem mD(s:RS)(k:Int):Mv s (kR s k):=⟨D0 _,D0 _,D0 _,rfl,⟨[],rfl⟩,⟨[],(Yd _).symm⟩⟩
theorem r6(p:Pr)(td:C3)(i:Int)(s:RS):zw s 0 (pG p td i s):=by
 unfold pG;split
 .exact zw.fin _ _
 .split
  .exact zw.fin _ _
  .split
   .exact zw.ok _ _
   .exact mD _ _
theorem r7(p:Pr)(td:C3)(i n:Int)(s:RS):zw s 0 (y7 p td i n s):=by
 unfold y7;split
 .exact zw.fin _ _
 .split
  .exact zw.fin _ _
  .rename_i k _ _ l a
   split
   .refine⟨⟨D0 _,D0 _,D0 _,?_,⟨[],rfl⟩,⟨[],(Yd _).symm⟩⟩,D0 _,rfl,rfl⟩
    show(s.arr.set k (l.set i.toNat n)).map List.length=_;rw[List.map_set,Yw];apply List.ext_getElem?;intro q;rw[Ch];split
    .rename_i c
     subst c;split
     .rw[Yn,a];rfl
     .rename_i b
      rw[Yh]at b;have:=(List.getElem?_eq_some_iff.1 a).1;omega
    .rfl
   .exact mD _ _
theorem pH(s:RS):zw s 0 (vN s):=by
 unfold vN;split
 .exact mD _ _
 .rename_i n r h
  exact⟨⟨D0 _,D0 _,D0 _,rfl,⟨[n],h⟩,⟨[],(Yd _).symm⟩⟩,D0 _,rfl,rfl⟩
theorem MZ{p:Pr}{c:Fu->List Int->RS->fS Int}(b:∀f l t,zw t 0 (c f l t)){vs:fG}{k op n:Int}{td:C3}{l:List Int}{s t:RS}(a:mC s t):zw s 1 (qR p c vs k op n td l t):=by
 unfold qR;split
 .exact a.goes (zw.ok _ _)
 split
 .exact a.goes (zw.ok _ _)
 split
 .exact a.gone (zw.ok _ _)
 split
 .split
  .exact a.gone (zw.ok _ _)
  .exact a.gone (d:=0) (show Mv _ _ from mD _ _)
 split
 .exact a.gone (r6 _ _ _ _)
 split
 .split
  .exact a.gone (b _ _ _)
  .exact a.goes (zw.fin _ 0)
 .exact a.gone (pH _)
theorem mE{f:Ex->RS->fS Int}(b:∀e s,zw s 0 (f e s)):∀(l:List Ex) (s:RS),zw s 0 (i0 f l s)
 |[],s=>zw.ok _ _
 | e::r,s=>by
   rw[i0];exact zw.bind (d:=0) (e:=0) (b e s) fun a t _=>zw.bind (d:=0) (e:=0) (mE b r t) fun l _ _=>zw.ok _ _
theorem n8{f:fG->St->RS->fS xy}(a:∀vs t s,zw s 0 (f vs t s)):∀(l:List St) (vs:fG) (s:RS),zw s 0 (kH f vs l s)
 |[],vs,s=>zw.ok _ _
 | t::r,vs,s=>by
   rw[kH];refine zw.bind (d:=0) (e:=0) (a vs t s) fun _ b _=>?_
   split
   .exact n8 a r _ b
   .exact zw.ok _ _
theorem xh{f:fG->St->RS->fS xy}(a:∀vs t s,zw s 0 (f vs t s))(vs:fG)(l:List St)(s:RS):zw s 0 (qG f vs l s):=by
 unfold qG;exact zw.bind (d:=0) (e:=0) (n8 a l vs s) fun _ t _=>zw.ok _ _
theorem EZ{e:fG->RS->fS Int}{b:fG->RS->fS xy}(f:∀vs s,zw s 0 (e vs s))(c:∀vs s,zw s 0 (b vs s)):∀(k:Nat) (vs:fG) (s:RS),zw s 0 (k6 e b k vs s)
 |0,vs,s=>zw.fin _ _
 | k+1,vs,s=>by
   rw[k6];refine zw.bind (d:=0) (e:=0) (f vs s) fun a t _=>?_
   split
   .exact zw.ok _ _
   .refine zw.bind (d:=0) (e:=0) (c vs t) fun _ g _=>?_
    split
    .exact zw.ok _ _
    .split
     .exact zw.ok _ _
     .exact EZ f c k _ g
theorem E0(s:RS):Mv s { s with spent:=true }:=⟨D0 _,D0 _,D0 _,rfl,⟨[],rfl⟩,⟨[],(Yd _).symm⟩⟩
mutual
theorem qw(p:Pr):∀(g:Nat) (vs:fG) (e:Ex) (s:RS),zw s 1 (f0 p g vs e s)
 |0,vs,e,s=>by rw[f0];exact E0 s
 | g+1,vs,.mk k op n td tc,s=>by
   have i:∀vs e s,zw s 0 (f0 p g vs e s):=fun vs e s=>(qw p g vs e s).le (Dx _)
   have q:∀vs t s,zw s 0 (qn p g vs t s):=fun vs t s=>(ku p g vs t s).le (Dx _)
   rw[f0];refine AC fun t j=>?_
   split
   .refine j.goes (d:=0+0) (zw.bind (i _ _ t) fun a m _=>?_)
    split
    .exact zw.ok _ _
    .exact i _ _ m
   .have b:=mE (i vs) tc t
    cases hx:i0 (f0 p g vs) tc t with
    |fin m=>rw[hx]at b;exact j.mv.trans b
    |ok l m=>
      rw[hx]at b;exact MZ (p:=p) (c:=fun f l s=>(qG (qn p g) (fN f l) f.body s).bind fun o s=>.ok o.2.1 s) (vs:=vs) (k:=k) (op:=op) (n:=n) (td:=td) (l:=l) (fun f l v=>zw.bind (d:=0) (e:=0) (xh q _ _ v) fun o x _=>zw.ok _ _) (j.trans b.1 b.2.2)
theorem ku(p:Pr):∀(g:Nat) (vs:fG) (t:St) (s:RS),zw s 1 (qn p g vs t s)
 |0,vs,t,s=>by rw[qn];exact E0 s
 | g+1,vs,.mk k ty td tc tg th,s=>by
   have j:∀vs e s,zw s 0 (f0 p g vs e s):=fun vs e s=>(qw p g vs e s).le (Dx _)
   have l:∀vs t s,zw s 0 (qn p g vs t s):=fun vs t s=>(ku p g vs t s).le (Dx _)
   rw[qn];refine AC fun t i=>?_
   split
   .exact i.goes (EZ (fun _ _=>j _ _ _) (fun _ _=>xh l _ _ _) _ _ _)
   split
   .exact i.goes (zw.ok _ _)
   split
   .exact i.goes (zw.ok _ _)
   have c:=j vs (tc.getD 0 j8) t;cases hx:f0 p g vs (tc.getD 0 j8) t with
   |fin m=>rw[hx]at c;exact i.mv.trans c
   |ok a m=>
     rw[hx]at c;have b:=i.trans c.1 c.2.2;show zw s 1 (if k=1 then _ else _);split
     .exact b.goes (zw.ok _ _)
     split
     .exact b.goes (zw.ok _ _)
     split
     .have f:=j vs (tc.getD 1 j8) m
      cases hy:f0 p g vs (tc.getD 1 j8) m with
      |fin v=>rw[hy]at f;exact b.mv.trans f
      |ok n v=>
        rw[hy]at f;show zw s 1 ((y7 p td a n (zV v)).bind fun _ s=>.ok (0,0,vs) s);exact(b.trans f.1 f.2.2).gone (d:=0+0) (zw.bind (r7 _ _ _ _ _) fun _ x _=>zw.ok _ _)
     split
     .split
      .exact b.goes (xh l _ _ _)
      .exact b.goes (xh l _ _ _)
     split
     .exact b.goes (zw.ok _ _)
     split
     .refine b.gone (d:=0) ⟨⟨D0 _,D0 _,D0 _,rfl,⟨[],rfl⟩,⟨[a],rfl⟩⟩,D0 _,rfl,rfl⟩
     .exact b.goes (zw.ok _ _)
end
theorem zw.at{α:Type}{s t:RS}{d:Nat}{a:α}{x:fS α}(h:zw s d x)(e:x=.ok a t):t.fuel+d<=s.fuel/\t.spent=s.spent:=by
 subst e;exact⟨h.2.1,h.2.2.1⟩
section
variable {α β:Type}{m g:Nat}
end
section
variable {m g:Nat}
end
theorem AD{p:Pr}{tf:List Pa}:∀{l:List Ex}{x:Int},qI p tf l=.inl x->x≠0
 |[],x,a=>by rw[qI]at a;cases a
 | e::r,x,a=>by
   rw[qI]at a;by_cases b:(qE p tf e).2=0
   .rw[Dp Up]at a
    cases hr:qI p tf r with
    |inl y=>rw[hr]at a;injection a with a;subst a;exact AD hr
    |inr l=>rw[hr]at a;cases a
   .rw[Dq b]at a
    injection a with a;rw[<-a];exact b
