import Derived.Test.YthcmenajdcbnnaaGreatDoorAnTokMath
import Derived.StillTailTactics
import Derived.Deep.RegionHeld3
import Derived.Deep.RegionLaw
import Derived.BigQuiet
set_option linter.unusedSimpArgs false
set_option linter.unusedVariables false
set_option maxRecDepth 100000
namespace Go.Proofs.YthcmenajdcbnnaaGreatDoor
open Go.RowKit Tryz
theorem Og{p:Prop}(h:p:=by
 exact zm.from (zI.sign b f) ((g _ _ _ (b.sign f)).bind (n:=0) (fun e r _ c=>(zN c _).bind (n:=0) (fun _ r _ c=>zm.self c _) O) O) O):p:=h
theorem Oh{p:Prop}(h:p:=by
 exact zH.bind (jB (b.sign f)) (j _ _ _ (b.sign f) O O O) fun e r _ c g=>zH.bind (zN c _) (qR _ _) fun _ r _ c g=>trivial):p:=h
theorem Oi{p:Prop}(h:p:=by
 go_enter func81,ntmps81;go_wp2
 go_quiet ((go_at_call 53;exact Calls.quiet_of_same (qL (i.o _) false rfl)))
 go_wp2;go_ret
 exact⟨rfl,_,rfl⟩):p:=h
theorem Oj{p:Prop}(h:p:=by
 exact yT (k:=1) (l:=l) (show zI 1 l l.tail from zI.sign b c) trivial):p:=h
structure d6 (B:Nat) (w:C3):Prop where
 lt:0<B
 rows:Tab w
theorem d6.below{B:Nat}{w w':C3}(a:d6 B w)(b:Below B w w'):d6 B w' where
 lt:=a.lt
 rows:=fun k c=>⟨(b.cell (p:=⟨0,k*2,none⟩) a.lt).trans (a.rows k c).1,(b.cell (p:=⟨0,k*2+1,none⟩) a.lt).trans (a.rows k c).2⟩
theorem d6.mono{B a:Nat}{w:C3}(b:d6 B w)(c:B<=a):d6 a w where
 lt:=D6 b.lt c
 rows:=b.rows
theorem lT(s:C2)(b:Bool)(h:uH s=b)(w:C3):Cy 106 #[s] w (Cv b w):=XS s b h w
theorem qo(s:C2)(b:Bool)(h:uH s=b)(w:C3):Cy 50 #[s] w (Cw b w):=rR s b h w
theorem qT{W c:C3}(d:Cx W c):(∀b o,b<W.heap.size->c.cell? ⟨b,o,none⟩=W.cell? ⟨b,o,none⟩)/\(∀b o,b<W.heap.size->c.frozen? ⟨b,o,none⟩=W.frozen? ⟨b,o,none⟩):=
 ⟨fun b o a=>d.cell (p:=⟨b,o,none⟩) a,fun b o a=>d.frozen (p:=⟨b,o,none⟩) a⟩
def dZ(B:Nat)(w:C3)(g o:Nat)(u:C4):Prop:=g<B/\w.cell? (g,o)=some u
def vR(v:C4)(n:Nat)(F:Nat->Nat->Prop):Prop:=
 ∃(a:Option Addr) (b:Nat),v=.slice a n b/\n<=281474976710656/\(0<n->∃g o,a=some ⟨g,o,none⟩/\F g o)
def eF(n:Int):Prop:=-9223372036854775808<=n/\n<=9223372036854775807
mutual
def y3(B:Nat)(w:C3):Ex->Nat->Nat->Prop
 | .mk k op n td tc,g,o=>dZ B w g o (.int .i64 k)/\dZ B w g (o+1) (.int .i64 op)/\dZ B w g (o+2) (.int .i64 n)/\dZ B w g (o+3) (.string td)/\
     eF n/\∃v,dZ B w g (o+4) v/\vR v tc.length (kW B w tc)
def kW(B:Nat)(w:C3):List Ex->Nat->Nat->Prop
 |[],_,_=>True
 |e::r,g,o=>y3 B w e g o/\kW B w r g (o+5)
end
mutual
def ED(B:Nat)(w:C3):St->Nat->Nat->Prop
 | .mk k ty td tc tg th,g,o=>dZ B w g o (.int .i64 k)/\dZ B w g (o+1) (.int .i64 ty)/\dZ B w g (o+2) (.string td)/\
     (∃v,dZ B w g (o+3) v/\vR v tc.length (kW B w tc))/\(∃v,dZ B w g (o+4) v/\vR v tg.length (xG B w tg))/\(∃v,dZ B w g (o+5) v/\vR v th.length (xG B w th))
def xG(B:Nat)(w:C3):List St->Nat->Nat->Prop
 |[],_,_=>True
 |s::r,g,o=>ED B w s g o/\xG B w r g (o+6)
end
theorem dZ.below{B b:Nat}{w w':C3}(e:Below B w w')(d:B<=b){g o:Nat}{c:C4}(a:dZ B w g o c):dZ b w' g o c:=⟨D6 a.1 d,(e.cell (p:=(g,o)) a.1).trans a.2⟩
theorem vR.imp{v:C4}{n:Nat}{F G:Nat->Nat->Prop}(c:vR v n F)(k:∀g o,F g o->G g o):vR v n G:=by
 obtain⟨a,b,j,e,hF⟩:=c;exact⟨a,b,j,e,fun f=>by obtain⟨g,o,d,i⟩:=hF f;exact⟨g,o,d,k g o i⟩⟩
mutual
theorem y3.below{B c:Nat}{w w':C3}(b:Below B w w')(a:B<=c):∀(e:Ex) (g o:Nat),y3 B w e g o->y3 c w' e g o
 | .mk k op n td tc,g,o,h=>by
   rw[y3]at h ⊢;obtain⟨f,i,j,l,p,v,m,q⟩:=h;exact⟨f.below b a,i.below b a,j.below b a,l.below b a,p,v,m.below b a,q.imp fun d r=>kW.below b a tc d r⟩
theorem kW.below{B a:Nat}{w w':C3}(c:Below B w w')(b:B<=a):∀(l:List Ex) (g o:Nat),kW B w l g o->kW a w' l g o
 |[],_,_,_=>by rw[kW];trivial
 | e::r,g,o,h=>by
   rw[kW]at h ⊢;exact⟨y3.below c b e g o h.1,kW.below c b r g (o+5) h.2⟩
end
mutual
theorem ED.below{B f:Nat}{w w':C3}(b:Below B w w')(a:B<=f):∀(e:St) (g o:Nat),ED B w e g o->ED f w' e g o
 | .mk k ty td tc tg th,g,o,h=>by
   rw[ED]at h ⊢;obtain⟨i,j,l,⟨v,m,q⟩,⟨t,n,r⟩,⟨u,p,s⟩⟩:=h;exact⟨i.below b a,j.below b a,l.below b a,⟨v,m.below b a,q.imp fun c d=>kW.below b a tc c d⟩,⟨t,n.below b a,r.imp fun c d=>xG.below b a tg c d⟩,⟨u,p.below b a,s.imp fun c d=>xG.below b a th c d⟩⟩
theorem xG.below{B a:Nat}{w w':C3}(c:Below B w w')(b:B<=a):∀(l:List St) (g o:Nat),xG B w l g o->xG a w' l g o
 |[],_,_,_=>by rw[xG];trivial
 | e::r,g,o,h=>by
   rw[xG]at h ⊢;exact⟨ED.below c b e g o h.1,xG.below c b r g (o+6) h.2⟩
end
theorem kW.at{B:Nat}{w:C3}:∀(l:List Ex) (g o i:Nat) (e:Ex),kW B w l g o->l[i]?=some e->y3 B w e g (o+i*5)
 |[],_,_,_,_,_,h=>Xs
 | a::r,g,o,0,e,h,hi=>by
   rw[kW]at h;simp at hi;subst hi;simpa using h.1
 | a::r,g,o,i+1,e,h,hi=>by
   rw[kW]at h;have:=kW.at r g (o+5) i e h.2 Gn;rw[show o+(i+1)*5=o+5+i*5 by omega];exact this
theorem xG.at{B:Nat}{w:C3}:∀(l:List St) (g o i:Nat) (e:St),xG B w l g o->l[i]?=some e->ED B w e g (o+i*6)
 |[],_,_,_,_,_,h=>Xs
 | a::r,g,o,0,e,h,hi=>by
   rw[xG]at h;simp at hi;subst hi;simpa using h.1
 | a::r,g,o,i+1,e,h,hi=>by
   rw[xG]at h;have:=xG.at r g (o+6) i e h.2 Gn;rw[show o+(i+1)*6=o+6+i*6 by omega];exact this
def xA(B:Nat)(w:C3)(v:C4)(l:List Ex):Prop:=vR v l.length (kW B w l)
def eN(B:Nat)(w:C3)(v:C4)(l:List St):Prop:=vR v l.length (xG B w l)
theorem xA.below{B a:Nat}{w w':C3}{v:C4}{l:List Ex}(b:xA B w v l)(d:Below B w w')(c:B<=a):xA a w' v l:=vR.imp b fun g o=>kW.below d c l g o
theorem eN.below{B a:Nat}{w w':C3}{v:C4}{l:List St}(b:eN B w v l)(d:Below B w w')(c:B<=a):eN a w' v l:=vR.imp b fun g o=>xG.below d c l g o
theorem xA.cells{B:Nat}{w:C3}{a:Option Addr}{n e:Nat}{l:List Ex}(j:xA B w (.slice a n e) l){i:Nat}{k op m:Int}{td:C2}{tc:List Ex}(c:l[i]?=some (.mk k op m td tc)):
 ∃(g o:Nat) (v:C4),a=some ⟨g,o,none⟩/\g<B/\w.cell? (g,o+i*5)=some (.int .i64 k)/\w.cell? (g,o+i*5+1)=some (.int .i64 op)/\w.cell? (g,o+i*5+2)=some (.int .i64 m)/\
   w.cell? (g,o+i*5+3)=some (.string td)/\w.cell? (g,o+i*5+4)=some v/\xA B w v tc:=by
 obtain⟨_,_,y,_,hF⟩:=j;injection y with f _ _;subst f;obtain⟨g,o,t,u⟩:=hF Ki;have d:=kW.at l g o i _ u c;rw[y3]at d;obtain⟨b,p,q,r,_,v,s,x⟩:=d;exact⟨g,o,v,t,b.1,b.2,p.2,q.2,r.2,s.2,x⟩
theorem xA.range{B:Nat}{w:C3}{v:C4}{l:List Ex}(c:xA B w v l){i:Nat}{k op m:Int}{td:C2}{tc:List Ex}(a:l[i]?=some (.mk k op m td tc)):eF m:=by
 obtain⟨_,_,_,_,hF⟩:=c;obtain⟨g,o,_,d⟩:=hF Xl;have b:=kW.at l g o i _ d a;rw[y3]at b;exact b.2.2.2.2.1
theorem eN.cells{B:Nat}{w:C3}{c:Option Addr}{n m:Nat}{l:List St}(q:eN B w (.slice c n m) l){i:Nat}{k j:Int}{td:C2}{tc:List Ex}{tg th:List St}(e:l[i]?=some (.mk k j td tc tg th)):
 ∃(g o:Nat) (v a b:C4),c=some ⟨g,o,none⟩/\g<B/\w.cell? (g,o+i*6)=some (.int .i64 k)/\w.cell? (g,o+i*6+1)=some (.int .i64 j)/\w.cell? (g,o+i*6+2)=some (.string td)/\
   w.cell? (g,o+i*6+3)=some v/\w.cell? (g,o+i*6+4)=some a/\w.cell? (g,o+i*6+5)=some b/\xA B w v tc/\eN B w a tg/\eN B w b th:=by
 obtain⟨_,_,E,_,hF⟩:=q;injection E with p _ _;subst p;obtain⟨g,o,y,z⟩:=hF (by have:=(List.getElem?_eq_some_iff.1 e).1;omega);have f:=xG.at l g o i _ z e;rw[ED]at f;obtain⟨d,r,s,⟨v,t,A⟩,⟨a,u,C⟩,⟨b,x,D⟩⟩:=f;exact⟨g,o,v,a,b,y,d.1,d.2,r.2,s.2,t.2,u.2,x.2,A,C,D⟩
def uI{α:Type}(b:Nat)(F:α->Nat->Nat->Prop):List α->Nat->Nat->Prop
 |[],_,_=>True
 |a::r,g,o=>F a g o/\uI b F r g (o+b)
theorem uI.imp{α:Type}{b:Nat}{F G:α->Nat->Nat->Prop}(k:∀a g o,F a g o->G a g o):∀(l:List α) (g o:Nat),uI b F l g o->uI b G l g o
 |[],_,_,_=>trivial
 |a::r,g,o,h=>⟨k a g o h.1,uI.imp k r g (o+b) h.2⟩
theorem uI.at{α:Type}{b:Nat}{F:α->Nat->Nat->Prop}:∀(l:List α) (g o i:Nat) (a:α),uI b F l g o->l[i]?=some a->F a g (o+i*b)
 |[],_,_,_,_,_,h=>Xs
 | a::r,g,o,0,e,h,hi=>by
   simp at hi;subst hi;simpa using h.1
 | a::r,g,o,i+1,e,h,hi=>by
   have:=uI.at r g (o+b) i e h.2 Gn;rw[show o+(i+1)*b=o+b+i*b by rw[Nat.add_mul,Nat.one_mul];omega];exact this
def RF(B:Nat)(w:C3)(a:Ar)(g o:Nat):Prop:=dZ B w g o (.string a.name)/\dZ B w g (o+1) (.int .i64 a.size)
def RG(B:Nat)(w:C3)(a:Pa)(g o:Nat):Prop:=dZ B w g o (.string a.name)/\dZ B w g (o+1) (.int .i64 a.type)
def eZ(B:Nat)(w:C3)(v:C4)(l:List Ar):Prop:=vR v l.length (uI 2 (RF B w) l)
def e5(B:Nat)(w:C3)(v:C4)(l:List Pa):Prop:=vR v l.length (uI 2 (RG B w) l)/\∀A n c,v=.slice A n c->n<=c
def WY(B:Nat)(w:C3)(f:Fu)(g o:Nat):Prop:=dZ B w g o (.string f.name)/\dZ B w g (o+1) (.int .i64 f.type)/\(∃v,dZ B w g (o+2) v/\e5 B w v f.params)/\(∃v,dZ B w g (o+3) v/\eN B w v f.body)
def e0(B:Nat)(w:C3)(v:C4)(l:List Fu):Prop:=vR v l.length (uI 4 (WY B w) l)
theorem RF.below{B b:Nat}{w w':C3}(e:Below B w w')(d:B<=b)(a:Ar)(g o:Nat)(c:RF B w a g o):RF b w' a g o:=⟨c.1.below e d,c.2.below e d⟩
theorem RG.below{B b:Nat}{w w':C3}(e:Below B w w')(d:B<=b)(a:Pa)(g o:Nat)(c:RG B w a g o):RG b w' a g o:=⟨c.1.below e d,c.2.below e d⟩
theorem eZ.below{B b:Nat}{w w':C3}{v:C4}{l:List Ar}(c:eZ B w v l)(e:Below B w w')(d:B<=b):eZ b w' v l:=vR.imp c fun g o=>uI.imp (fun a g o=>RF.below e d a g o) l g o
theorem e5.below{B b:Nat}{w w':C3}{v:C4}{l:List Pa}(c:e5 B w v l)(e:Below B w w')(d:B<=b):e5 b w' v l:=⟨vR.imp c.1 fun g o=>uI.imp (fun a g o=>RG.below e d a g o) l g o,c.2⟩
theorem WY.below{B d:Nat}{w w':C3}(c:Below B w w')(b:B<=d)(a:Fu)(g o:Nat)(e:WY B w a g o):WY d w' a g o:=by
 obtain⟨f,i,⟨v,j,k⟩,⟨v',l,m⟩⟩:=e;exact⟨f.below c b,i.below c b,⟨v,j.below c b,k.below c b⟩,⟨v',l.below c b,m.below c b⟩⟩
theorem e0.below{B b:Nat}{w w':C3}{v:C4}{l:List Fu}(c:e0 B w v l)(e:Below B w w')(d:B<=b):e0 b w' v l:=vR.imp c fun g o=>uI.imp (fun a g o=>WY.below e d a g o) l g o
theorem vR.elem{v:C4}{n:Nat}{F:Nat->Nat->Prop}{a:Option Addr}{m c:Nat}(e:vR v n F)(i:v=.slice a m c)(f:0<n):∃g o,a=some ⟨g,o,none⟩/\F g o:=by
 obtain⟨_,_,b,_,hF⟩:=e;rw[i]at b;injection b with d _ _;subst d;exact hF f
theorem eZ.cells{B:Nat}{w:C3}{b:Option Addr}{n d:Nat}{l:List Ar}(e:eZ B w (.slice b n d) l){i:Nat}{a:Ar}(c:l[i]?=some a):
 ∃(g o:Nat),b=some ⟨g,o,none⟩/\g<B/\w.cell? (g,o+i*2)=some (.string a.name)/\w.cell? (g,o+i*2+1)=some (.int .i64 a.size):=by
 obtain⟨g,o,f,j⟩:=vR.elem e rfl Ki;have:=uI.at l g o i a j c;exact⟨g,o,f,this.1.1,this.1.2,this.2.2⟩
theorem e5.cells{B:Nat}{w:C3}{b:Option Addr}{n d:Nat}{l:List Pa}(e:e5 B w (.slice b n d) l){i:Nat}{a:Pa}(c:l[i]?=some a):
 ∃(g o:Nat),b=some ⟨g,o,none⟩/\g<B/\w.cell? (g,o+i*2)=some (.string a.name)/\w.cell? (g,o+i*2+1)=some (.int .i64 a.type):=by
 obtain⟨g,o,f,j⟩:=vR.elem e.1 rfl Ki;have:=uI.at l g o i a j c;exact⟨g,o,f,this.1.1,this.1.2,this.2.2⟩
theorem e0.cells{B:Nat}{w:C3}{a:Option Addr}{n d:Nat}{l:List Fu}(e:e0 B w (.slice a n d) l){i:Nat}{f:Fu}(c:l[i]?=some f):
 ∃(g o:Nat) (v v':C4),a=some ⟨g,o,none⟩/\g<B/\w.cell? (g,o+i*4)=some (.string f.name)/\w.cell? (g,o+i*4+1)=some (.int .i64 f.type)/\w.cell? (g,o+i*4+2)=some v/\w.cell? (g,o+i*4+3)=some v'/\e5 B w v f.params/\eN B w v' f.body:=by
 obtain⟨g,o,r,s⟩:=vR.elem e rfl Ki;obtain⟨b,j,⟨v,k,m⟩,⟨v',p,q⟩⟩:=uI.at l g o i f s c;exact⟨g,o,v,v',r,b.1,b.2,j.2,k.2,p.2,m,q⟩
theorem eZ.form{B:Nat}{w:C3}{v:C4}{l:List Ar}(c:eZ B w v l):∃a b,v=.slice a l.length b/\l.length<=281474976710656:=by
 obtain⟨a,b,e,d,_⟩:=c;exact⟨a,b,e,d⟩
theorem e5.form{B:Nat}{w:C3}{v:C4}{l:List Pa}(c:e5 B w v l):∃a b,v=.slice a l.length b/\l.length<=281474976710656:=by
 obtain⟨a,b,e,d,_⟩:=c.1;exact⟨a,b,e,d⟩
theorem e0.form{B:Nat}{w:C3}{v:C4}{l:List Fu}(c:e0 B w v l):∃a b,v=.slice a l.length b/\l.length<=281474976710656:=by
 obtain⟨a,b,e,d,_⟩:=c;exact⟨a,b,e,d⟩
theorem xA.form{B:Nat}{w:C3}{v:C4}{l:List Ex}(c:xA B w v l):∃a b,v=.slice a l.length b/\l.length<=281474976710656:=by
 obtain⟨a,b,e,d,_⟩:=c;exact⟨a,b,e,d⟩
theorem eN.form{B:Nat}{w:C3}{v:C4}{l:List St}(c:eN B w v l):∃a b,v=.slice a l.length b/\l.length<=281474976710656:=by
 obtain⟨a,b,e,d,_⟩:=c;exact⟨a,b,e,d⟩
def iY(B:Nat)(w:C3)(e:Ex)(x:C4):Prop:=∃v,x=.agg #[(e.kind:Int),(e.op:Int),(e.n:Int),e.name,v]/\eF e.n/\xA B w v e.args
theorem iY.below{B a:Nat}{w w':C3}{e:Ex}{x:C4}(b:iY B w e x)(d:Below B w w')(c:B<=a):iY a w' e x:=by
 obtain⟨v,i,f,g⟩:=b;exact⟨v,i,f,g.below d c⟩
theorem uO(B:Nat)(w:C3):xA B w (.slice none 0 0) []:=⟨none,0,rfl,Dw _,fun h=>absurd h Ur⟩
theorem B2(B:Nat)(w:C3):eN B w (.slice none 0 0) []:=⟨none,0,rfl,Dw _,fun h=>absurd h Ur⟩
theorem q2(B:Nat)(w:C3):eZ B w (.slice none 0 0) []:=⟨none,0,rfl,Dw _,fun h=>absurd h Ur⟩
theorem vm{w:C3}{b:Nat}{cs:Array C4}{T:TypeId}{fr:Nat×Nat}{B:Nat}(d:w.heap[b]?=some (.cells cs T fr))(c:b<B)(j:Nat)(a:C4)(e:cs[j]?=some a):dZ B w b j a:=⟨c,(Ds d j).trans e⟩
theorem II{w:C3}{b B:Nat}{cs:Array C4}{T:TypeId}{fr:Nat×Nat}(c:w.heap[b]?=some (.cells cs T fr))(a:b<B)(o:Nat){k op n:Int}{td:C2}{tc:List Ex}{v:C4}(j:eF n)(l:xA B w v tc)
 (d:cs[o]?=some (.int .i64 k)) (e:cs[o+1]?=some (.int .i64 op)) (f:cs[o+2]?=some (.int .i64 n)) (g:cs[o+3]?=some (.string td)) (i:cs[o+4]?=some v):y3 B w (.mk k op n td tc) b o:=by
 rw[y3];exact⟨vm c a _ _ d,vm c a _ _ e,vm c a _ _ f,vm c a _ _ g,j,v,vm c a _ _ i,l⟩
theorem XZ{w:C3}{b B:Nat}{k op n:Int}{td:C2}{tc:List Ex}{v:C4}{T:TypeId}{fr:Nat×Nat}(c:w.heap[b]?=some (.cells #[(k:Int),(op:Int),(n:Int),td,v] T fr))(a:b<B)(d:eF n)(e:xA B w v tc):
 xA B w (.slice (some ⟨b,0,none⟩) 1 1) [.mk k op n td tc]:=by
 refine⟨_,1,rfl,Ur,fun _=>⟨b,0,rfl,?_⟩⟩;rw[kW,kW];exact⟨II c a 0 d e rfl rfl rfl rfl rfl,trivial⟩
theorem K1{w:C3}{b B:Nat}{k op n f i a:Int}{td g:C2}{tc c:List Ex}{v v':C4}{T:TypeId}{fr:Nat×Nat}
 (e:w.heap[b]?=some (.cells #[(k:Int),(op:Int),(n:Int),td,v,(f:Int),(i:Int),(a:Int),g,v'] T fr)) (d:b<B) (j:eF n) (m:xA B w v tc) (l:eF a) (o:xA B w v' c):
 xA B w (.slice (some ⟨b,0,none⟩) 2 2) [.mk k op n td tc,.mk f i a g c]:=by
 refine⟨_,2,rfl,Ur,fun _=>⟨b,0,rfl,?_⟩⟩;rw[kW,kW,kW];exact⟨II e d 0 j m rfl rfl rfl rfl rfl,II e d 5 l o rfl rfl rfl rfl rfl,trivial⟩
theorem zA(w:C3)(o:Obj):(w.alloc o).heap.size=w.heap.size+1:=Ur
theorem xH(w:C3)(a:Addr)(u:C4):(w.setCell a u).heap.size=w.heap.size:=Ur
def gF(w:C3)(b:Nat)(a c d e f:C4):C3:=((((w.setCell (b,0) a).setCell (b,1) c).setCell (b,2) d).setCell (b,3) e).setCell (b,4) f
theorem xk(w:C3)(b:Nat)(a c d e f:C4):(gF w b a c d e f).heap.size=w.heap.size:=by simp[gF]
theorem lU{w:C3}{b:Nat}{g i j k l:C4}{T:TypeId}{fr:Nat×Nat}(m:w.heap[b]?=some (.cells #[g,i,j,k,l] T fr))(a c d e f:C4):(gF w b a c d e f).heap[b]?=some (.cells #[a,c,d,e,f] T fr):=
 D0 (D0 (D0 (D0 (D0 m a) c) d) e) f
def Is(w:C3)(g:Nat)(t:TypeId)(cs:Array C4):Prop:=w.heap[g]?=some (.cells cs t (0,0))
theorem Is.cell{w:C3}{g:Nat}{t:TypeId}{cs:Array C4}(h:Is w g t cs)(i:Nat):w.cell? (g,i)=cs[i]?:=cell_of_row w g i cs t (0,0) h
theorem Is.frozen{w:C3}{g:Nat}{t:TypeId}{cs:Array C4}(h:Is w g t cs)(i:Nat):w.frozen? (g,i)=false:=by
 unfold Is at h;simp[World.frozen?,h]
theorem Is.lt{w:C3}{g:Nat}{t:TypeId}{cs:Array C4}(h:Is w g t cs):g<w.heap.size:=(Array.getElem?_eq_some_iff.1 h).1
theorem Is.below{w w':C3}{g:Nat}{t:TypeId}{cs:Array C4}{B:Nat}(a:Is w g t cs)(b:Below B w w')(c:g<B):Is w' g t cs:=(b.block g c).trans a
theorem Is.set{w:C3}{g:Nat}{t:TypeId}{cs:Array C4}(h:Is w g t cs)(i:Nat)(u:C4):Is (w.setCell (g,i) u) g t (cs.setIfInBounds i u):=by
 unfold Is at h ⊢;simp[World.setCell,Array.getElem?_modify,h]
section
variable {a w:C3}{g:Nat}
end
def jT(a:List dY):List C4:=a.flatMap fun t=>[.int .i64 t.kind,.string ⟨t.text.toArray⟩,.int .i64 (t.line:Int)]
theorem i7(a:List dY)(t:dY):jT (a++[t])=jT a++[.int .i64 t.kind,.string ⟨t.text.toArray⟩,.int .i64 (t.line:Int)]:=by simp[jT]
def ue(w:C3)(B:Nat)(v:C4)(a:List dY):Prop:=w.ownsRow B 57 3 v a.length (jT a)
theorem zZ{w w':C3}{B:Nat}{e:TypeId}{b n:Nat}{v:C4}{c:List C4}(a:w.ownsRow B e b v n c)(o:∀k,v.ownBlock=some k->w'.heap[k]?=w.heap[k]?):w'.ownsRow B e b v n c:=by
 refine⟨a.1,?_⟩;rcases a.2 with i|⟨g,d,f,rfl,j,l,m⟩
 .exact .inl i
 .exact .inr ⟨g,d,f,rfl,j,(o g rfl).trans l,m⟩
theorem zo{w:C3}{B:Nat}{e:TypeId}{f n:Nat}{v:C4}{i:List C4}(b:w.ownsRow B e f v n i):∀k,v.ownBlock=some k->k<w.heap.size/\B<=k:=by
 intro k a;rcases b.2 with⟨rfl,_⟩|⟨g,_,_,rfl,c,d,_⟩
 .cases a
 .injection a with a
  subst a;exact⟨(Array.getElem?_eq_some_iff.1 d).1,c⟩
theorem zb{w:C3}{B:Nat}{e:TypeId}{f n:Nat}{v:C4}{i:List C4}(d:w.ownsRow B e f v n i):∃a c,v=.slice a n c:=by
 rcases d.2 with⟨rfl,rfl⟩|⟨g,b,_,rfl,_⟩
 .exact⟨none,0,rfl⟩
 .exact⟨_,b,rfl⟩
theorem nH{w:C3}{B:Nat}{e t:TypeId}{i n:Nat}{v:C4}{j:List C4}{g:Nat}{cs:Array C4}(c:w.ownsRow B e i v n j)(d:Is w g t cs)(f:e≠t):v.ownBlock≠some g:=by
 rcases c.2 with⟨rfl,_⟩|⟨_,_,_,rfl,_,a,_⟩
 .simp[Value.ownBlock]
 .intro b
  injection b with b;subst b;rw[d]at a;injection a with a;injection a with _ a;exact f a.symm
theorem qD{w w':C3}{B C:Nat}{e:TypeId}{b n:Nat}{v:C4}{c:List C4}(a:w.ownsRow B e b v n c)(f:Below C w w')(d:w.heap.size<=C):w'.ownsRow B e b v n c:=
 zZ a fun k g=>f.block k (D6 (zo a k g).1 d)
theorem EE:(Tryz.prog.info? 57).map (fun i=>(i.zero,i.size,i.bytes))=some (some (.agg #[(0:Int),.string ⟨#[]⟩,(0:Int)]),3,32):=by kernel_rfl
inductive PR (α:Type) where
 |ok (a:α) (r:List dY)
 |bad (r:List dY)
 |deep (r:List dY)
 |o
def PR.bind{α β:Type}(x:PR α)(f:α->List dY->PR β):PR β:=
 match x with
 |.ok a r=>f a r
 |.bad r=>.bad r
 |.deep r=>.deep r
 |.o=>.o
def zt(s:List UInt8)(l:List dY):Bool:=match l with|t::_=>decide (t.kind=2)&&t.text == s | []=>false
def f7(l:List dY):Int:=match l with|t::_=>t.kind | []=>3
def pT(l:List dY):List UInt8:=match l with|t::_=>t.text | []=>[]
def zQ(s:List UInt8)(l:List dY):PR Unit:=if zt s l then .ok () l.tail else .bad l
def qt(k:Int)(l:List dY):PR C2:=if f7 l=k then .ok ⟨(pT l).toArray⟩ l.tail else .bad l
def pV(op:Int):List UInt8:=(xU op).data.toList
def xb(lev:Int)(l:List dY):List Int->Int
 |[]=>0
 |op::r=>if kL op=lev/\zt (pV op) l=true then op else xb lev l r
def IJ:List Int:=[1,2,3,4,5,6,7,8,9,10,11,12,13,14,15,16,17,18,19]
def NE:List Int:=[20,21,22,23,24,25,26,27,28]
def EF(lev:Int)(l:List dY):Int:=xb lev l IJ
def xw(l:List dY):List Int->Int
 |[]=>0
 |op::r=>if zt (pV op) l=true then op else xw l r
def pW(l:List dY):Int:=xw l NE
def bE:C2:=⟨#[]⟩
def gO:List UInt8:=[116,114,117,101]
def uf:List UInt8:=[102,97,108,115,101]
def lV:List UInt8:=[114,101,97,100]
def iZ:List UInt8:=[105,110,116]
def xW:List UInt8:=[98,111,111,108]
def NF:List UInt8:=[105,102]
def y4:List UInt8:=[101,108,115,101]
def vq:List UInt8:=[119,104,105,108,101]
def gP:List UInt8:=[98,114,101,97,107]
def rW:List UInt8:=[99,111,110,116,105,110,117,101]
def EG:List UInt8:=[114,101,116,117,114,110]
def k0:List UInt8:=[112,114,105,110,116]
mutual
def pE:Nat->Int->Int->List dY->PR Ex
 |0,_,_,_=>.o
 |n+1,lev,d,l=>if 10<lev then pU n d l else(pE n (lev+1) d l).bind fun a r=>pL n lev d a r
def pL:Nat->Int->Int->Ex->List dY->PR Ex
 |0,_,_,_,_=>.o
 |n+1,lev,d,a,l=>if EF lev l=0 then .ok a l else(pE n (lev+1) d l.tail).bind fun b r=>pL n lev d (.mk 5 (EF lev l) 0 bE [a,b]) r
def pU:Nat->Int->List dY->PR Ex
 |0,_,_=>.o
 |n+1,d,l=>
   if 100<d then .deep l
   else if pW l=0 then pP n d l
   else if 23<=pW l then(zQ [40] l.tail).bind fun _ r=>(pE n 1 (d+1) r).bind fun e r=>(zQ [41] r).bind fun _ r=>.ok (.mk 4 (pW l) 0 bE [e]) r
   else(pU n (d+1) l.tail).bind fun e r=>.ok (.mk 4 (pW l) 0 bE [e]) r
def pP:Nat->Int->List dY->PR Ex
 |0,_,_=>.o
 |n+1,d,l=>
   if zt [40] l=true then(pE n 1 (d+1) l.tail).bind fun e r=>(zQ [41] r).bind fun _ r=>.ok e r
   else if zt gO l=true then .ok (.mk 2 0 1 bE []) l.tail
   else if zt uf l=true then .ok (.mk 2 0 0 bE []) l.tail
   else if zt lV l=true then(zQ [40] l.tail).bind fun _ r=>(zQ [41] r).bind fun _ r=>.ok (.mk 8 0 0 bE []) r
   else if f7 l=0 then .ok (.mk 1 0 (kI 0 (pT l)) bE []) l.tail
   else(qt 1 l).bind fun s r=>pN n d s r
def pN:Nat->Int->C2->List dY->PR Ex
 |0,_,_,_=>.o
 |n+1,d,s,l=>
   if zt [40] l=true then(pA n (d+1) l.tail).bind fun a r=>.ok (.mk 7 0 0 s a) r
   else if zt [91] l=true then(pE n 1 (d+1) l.tail).bind fun e r=>(zQ [93] r).bind fun _ r=>.ok (.mk 6 0 0 s [e]) r
   else .ok (.mk 3 0 0 s []) l
def pA:Nat->Int->List dY->PR (List Ex)
 |0,_,_=>.o
 |n+1,d,l=>if zt [41] l=true then .ok [] l.tail else rX n d [] l
def rX:Nat->Int->List Ex->List dY->PR (List Ex)
 |0,_,_,_=>.o
 |n+1,d,tk,l=>(pE n 1 d l).bind fun e r=>if zt [44] r=true then rX n d (tk++[e]) r.tail else(zQ [41] r).bind fun _ r=>.ok (tk++[e]) r
end
def pI(n:Nat)(l:List dY):PR Ex:=(zQ [40] l).bind fun _ r=>(pE n 1 1 r).bind fun e r=>(zQ [41] r).bind fun _ r=>.ok e r
def i0(l:List dY):PR Int:=if zt iZ l=true then .ok 1 l.tail else(zQ xW l).bind fun _ r=>.ok 2 r
def vu{α:Type}(x:PR α):PR α:=x.bind fun a r=>(zQ [59] r).bind fun _ r=>.ok a r
def q3(n:Nat)(l:List dY):PR St:=(qt 1 l).bind fun s r=>
 if zt [40] r=true then(pA n 2 r.tail).bind fun a r=>.ok (.mk 10 0 bE [.mk 7 0 0 s a] [] []) r
 else if zt [91] r=true then(pE n 1 1 r.tail).bind fun e r=>(zQ [93] r).bind fun _ r=>(zQ [61] r).bind fun _ r=>(pE n 1 1 r).bind fun f r=>.ok (.mk 3 0 s [e,f] [] []) r
 else(zQ [61] r).bind fun _ r=>(pE n 1 1 r).bind fun e r=>.ok (.mk 2 0 s [e] [] []) r
mutual
def pS:Nat->Int->List dY->PR St
 |0,_,_=>.o
 |n+1,d,l=>
   if 100<d then .deep l
   else if zt iZ l=true\/zt xW l=true then vu ((i0 l).bind fun t r=>(qt 1 r).bind fun s r=>(zQ [61] r).bind fun _ r=>(pE n 1 1 r).bind fun e r=>.ok (.mk 1 t s [e] [] []) r)
   else if zt NF l=true then(pI n l.tail).bind fun e r=>(pB n (d+1) r).bind fun t r=>q5 n d e t r
   else if zt vq l=true then(pI n l.tail).bind fun e r=>(pB n (d+1) r).bind fun t r=>.ok (.mk 5 0 bE [e] t []) r
   else if zt gP l=true then vu (.ok (.mk 6 0 bE [] [] []) l.tail)
   else if zt rW l=true then vu (.ok (.mk 7 0 bE [] [] []) l.tail)
   else if zt EG l=true then vu ((pE n 1 1 l.tail).bind fun e r=>.ok (.mk 8 0 bE [e] [] []) r)
   else if zt k0 l=true then vu ((pI n l.tail).bind fun e r=>.ok (.mk 9 0 bE [e] [] []) r)
   else vu (q3 n l)
def q5:Nat->Int->Ex->List St->List dY->PR St
 |0,_,_,_,_=>.o
 |n+1,d,e,t,l=>if zt y4 l=true then(pB n (d+1) l.tail).bind fun u r=>.ok (.mk 4 0 bE [e] t u) r else .ok (.mk 4 0 bE [e] t []) l
def pB:Nat->Int->List dY->PR (List St)
 |0,_,_=>.o
 |n+1,d,l=>(zQ [123] l).bind fun _ r=>nB n d [] r
def nB:Nat->Int->List St->List dY->PR (List St)
 |0,_,_,_=>.o
 |n+1,d,tk,l=>if zt [125] l=true then .ok tk l.tail else(pS n d l).bind fun s r=>nB n d (tk++[s]) r
end
def pX:Nat->List Pa->List dY->PR (List Pa)
 |0,_,_=>.o
 |n+1,tk,l=>(i0 l).bind fun t r=>(qt 1 r).bind fun s r=>if zt [44] r=true then pX n (tk++[⟨s,t⟩]) r.tail else(zQ [41] r).bind fun _ r=>.ok (tk++[⟨s,t⟩]) r
def X0(n:Nat)(l:List dY):PR (List Pa):=(zQ [40] l).bind fun _ r=>if zt [41] r=true then .ok [] r.tail else pX n [] r
def oZ(n:Nat)(t:Int)(s:C2)(l:List dY):PR Fu:=(X0 n l).bind fun ps r=>(pB n 1 r).bind fun b r=>.ok ⟨s,t,ps,b⟩ r
def pY(s:C2)(l:List dY):PR Ar:=(qt 0 l).bind fun t r=>(zQ [93] r).bind fun _ r=>(zQ [59] r).bind fun _ r=>.ok ⟨s,kI 0 t.data.toList⟩ r
def i1:Nat->Pr->List dY->PR Pr
 |0,_,_=>.o
 |n+1,p,l=>if f7 l=3 then .ok p l else(i0 l).bind fun t r=>(qt 1 r).bind fun s r=>
    if t=1/\p.funcs=[]/\zt [91] r=true then(pY s r.tail).bind fun a r=>i1 n ⟨p.wa++[a],p.funcs⟩ r
    else(oZ n t s r).bind fun f r=>i1 n ⟨p.wa,p.funcs++[f]⟩ r
def qB(l:List dY):Prop:=∃i e,l=i++[e]/\e.kind=3/\∀t∈i,t.kind≠3
theorem qB.ne{l:List dY}(h:qB l):l≠[]:=by obtain⟨i,e,rfl,_⟩:=h;simp
theorem qB.pos{l:List dY}(h:qB l):0<l.length:=List.length_pos_iff.2 h.ne
theorem qB.tail{l:List dY}(c:qB l)(f:f7 l≠3):qB l.tail:=by
 obtain⟨i,e,rfl,b,d⟩:=c;cases i with
 |nil=>exact absurd b f
 |cons a i=>exact⟨i,e,rfl,b,fun t g=>d t (Yz _ g)⟩
theorem uq{s:List UInt8}{l:List dY}(h:zt s l=true):f7 l=2/\pT l=s:=by
 cases l with
 |nil=>cases h
 |cons t r=>
   simp only[zt,Dv,decide_eq_true_eq]at h;exact⟨h.1,by simpa[pT]using h.2⟩
theorem qB.sign{l:List dY}(a:qB l){s:List UInt8}(b:zt s l=true):qB l.tail:=a.tail (by rw[(uq b).1];decide)
theorem jv{l:List dY}(h:qB l):l.tail.length+1=l.length:=by
 have:=h.pos;rw[List.length_tail];omega
theorem uP{lev:Int}{l:List dY}:∀{ops:List Int},xb lev l ops≠0->∃s,zt s l=true
 |[],h=>absurd rfl h
 | op::r,h=>by
   rw[xb]at h;split at h
   .rename_i a
    exact⟨_,a.2⟩
   .exact uP h
theorem gQ{l:List dY}:∀{ops:List Int},xw l ops≠0->∃s,zt s l=true
 |[],h=>absurd rfl h
 | op::r,h=>by
   rw[xw]at h;split at h
   .rename_i a
    exact⟨_,a⟩
   .exact gQ h
def zI(k:Nat)(l r:List dY):Prop:=r <:+l/\qB r/\r.length+k<=l.length
def zm{α:Type}(k:Nat)(l:List dY):PR α->Prop
 |.ok _ r=>zI k l r
 |.bad r=>zI 0 l r
 |.deep r=>zI 0 l r
 |.o=>True
theorem zI.self{l:List dY}(h:qB l):zI 0 l l:=⟨List.suffix_refl _,h,Dy _⟩
theorem zI.tail{l:List dY}(a:qB l)(b:f7 l≠3):zI 1 l l.tail:=⟨List.tail_suffix l,a.tail b,by rw[jv a];exact Dy _⟩
theorem zI.sign{l:List dY}(a:qB l){s:List UInt8}(b:zt s l=true):zI 1 l l.tail:=zI.tail a (by rw[(uq b).1];decide)
theorem zI.trans{k m:Nat}{a b c:List dY}(h:zI k a b)(g:zI m b c):zI (k+m) a c:=⟨g.1.trans h.1,g.2.1,by have:=h.2.2;have:=g.2.2;omega⟩
theorem zI.mono{k m:Nat}{a b:List dY}(h:zI k a b)(_:m<=k):zI m a b:=⟨h.1,h.2.1,by have:=h.2.2;omega⟩
theorem zm.mono{α:Type}{k m:Nat}{l:List dY}{x:PR α}(b:zm k l x)(c:m<=k):zm m l x:=by
 cases x with
 |ok a r=>exact zI.mono (show zI k l r from b) c
 |bad r=>exact b
 |deep r=>exact b
 |o=>trivial
theorem zm.from{α:Type}{k m n:Nat}{l r:List dY}{x:PR α}(b:zI m l r)(g:zm k r x)(c:n<=m+k):zm n l x:=by
 cases x with
 |ok a t=>exact(b.trans (show zI k r t from g)).mono c
 |bad t=>exact(b.trans (show zI 0 r t from g)).mono (Dw _)
 |deep t=>exact(b.trans (show zI 0 r t from g)).mono (Dw _)
 |o=>trivial
theorem zm.bind{α β:Type}{k m n:Nat}{l:List dY}{x:PR α}{f:α->List dY->PR β}(b:zm k l x)(g:∀a r,x=.ok a r->qB r->zm m r (f a r))(c:n<=k+m):zm n l (x.bind f):=by
 cases x with
 |ok a r=>exact zm.from (show zI k l r from b) (g a r rfl (show zI k l r from b).2.1) c
 |bad r=>exact b
 |deep r=>exact b
 |o=>trivial
theorem zm.self{α:Type}{l:List dY}(h:qB l)(a:α):zm 0 l (.ok a l):=zI.self h
theorem zN{l:List dY}(a:qB l)(s:List UInt8):zm 1 l (zQ s l):=by
 unfold zQ;split
 .rename_i b
  exact zI.sign a b
 .exact zI.self a
theorem jO{l:List dY}(a:qB l)(k:Int)(b:k≠3):zm 1 l (qt k l):=by
 unfold qt;split
 .rename_i c
  exact zI.tail a (by rw[c];exact b)
 .exact zI.self a
theorem nI(n:Nat):(∀lev d l,qB l->zm 1 l (pE n lev d l))/\(∀lev d a l,qB l->zm 0 l (pL n lev d a l))/\(∀d l,qB l->zm 1 l (pU n d l))/\(∀d l,qB l->zm 1 l (pP n d l))/\
 (∀d s l,qB l->zm 0 l (pN n d s l))/\(∀d l,qB l->zm 1 l (pA n d l))/\(∀d tk l,qB l->zm 1 l (rX n d tk l)):=by
 induction n with
 |zero=>exact⟨fun _ _ _ _=>by rw[pE];trivial,fun _ _ _ _ _=>by rw[pL];trivial,fun _ _ _=>by rw[pU];trivial,fun _ _ _=>by rw[pP];trivial,fun _ _ _ _=>by rw[pN];trivial,fun _ _ _=>by rw[pA];trivial,fun _ _ _ _=>by rw[rX];trivial⟩
 |succ n v=>
   obtain⟨g,k,o,u,t,q,j⟩:=v;refine⟨fun lev d l b=>?_,fun lev d a l b=>?_,fun d l b=>?_,fun d l b=>?_,fun d s l b=>?_,fun d l b=>?_,fun d tk l b=>?_⟩
   .rw[pE]
    split
    .exact o d l b
    .exact(g _ _ _ b).bind (fun a r _ c=>k _ _ _ _ c) O
   .rw[pL]
    split
    .exact zm.self b _
    .rename_i i
     obtain⟨s,f⟩:=uP i;exact zm.from (zI.sign b f) ((g _ _ _ (b.sign f)).bind (n:=1) (fun a r _ c=>k _ _ _ _ c) O) O
   .rw[pU]
    split
    .exact zI.self b
    .split
     .exact u d l b
     .rename_i i
      obtain⟨s,f⟩:=gQ i;split
      .exact zm.from (zI.sign b f) ((zN (b.sign f) _).bind (n:=0) (fun _ r _ c=>(g _ _ _ c).bind (n:=0) (fun e r _ c=>(zN c _).bind (n:=0) (fun _ r _ c=>zm.self c _) O) O) O) O
      .exact zm.from (zI.sign b f) ((o _ _ (b.sign f)).bind (n:=0) (fun _ r _ c=>zm.self c _) O) O
   .rw[pP]
    split
    .rename_i f
     exact Og
    .split
     .rename_i f
      exact zI.sign b f
     .split
      .rename_i f
       exact zI.sign b f
      .split
       .rename_i f
        exact zm.from (zI.sign b f) ((zN (b.sign f) _).bind (n:=0) (fun _ r _ c=>(zN c _).bind (n:=0) (fun _ r _ c=>zm.self c _) O) O) O
       .split
        .rename_i p
         exact zI.tail b (by rw[p];decide)
        .exact(jO b 1 Up).bind (fun s r _ c=>t _ _ _ c) O
   .rw[pN]
    split
    .rename_i f
     exact zm.from (zI.sign b f) ((q _ _ (b.sign f)).bind (n:=0) (fun _ r _ c=>zm.self c _) O) O
    .split
     .rename_i f
      exact Og
     .exact zm.self b _
   .rw[pA]
    split
    .rename_i f
     exact zI.sign b f
    .exact j _ _ _ b
   .rw[rX]
    refine(g _ _ _ b).bind (m:=0) (fun e r _ c=>?_) O;split
    .rename_i f
     exact zm.from (zI.sign c f) (j _ _ _ (c.sign f)) O
    .exact(zN c _).bind (n:=0) (fun _ r _ c=>zm.self c _) O
theorem jB{n:Nat}{lev d:Int}{l:List dY}(h:qB l):zm 1 l (pE n lev d l):=(nI n).1 lev d l h
theorem B3{n:Nat}{d:Int}{l:List dY}(h:qB l):zm 1 l (pA n d l):=(nI n).2.2.2.2.2.1 d l h
theorem vI{n:Nat}{l:List dY}(b:qB l):zm 1 l (pI n l):=by
 unfold pI;exact(zN b _).bind (m:=0) (fun _ r _ a=>(jB a).bind (n:=0) (fun e r _ a=>(zN a _).bind (n:=0) (fun _ r _ a=>zm.self a _) O) O) O
theorem xx{l:List dY}(a:qB l):zm 1 l (i0 l):=by
 unfold i0;split
 .rename_i c
  exact zI.sign a c
 .exact(zN a _).bind (m:=0) (fun _ r _ b=>zm.self b _) O
theorem yS{α:Type}{k:Nat}{l:List dY}{x:PR α}(b:zm k l x):zm k l (vu x):=by
 unfold vu;exact b.bind (m:=0) (fun _ r _ a=>(zN a _).bind (n:=0) (fun _ r _ a=>zm.self a _) O) O
theorem EH{n:Nat}{l:List dY}(c:qB l):zm 1 l (q3 n l):=by
 unfold q3;refine(jO c 1 Up).bind (m:=0) (fun s r _ a=>?_) O;split
 .rename_i b
  exact zm.from (zI.sign a b) ((B3 (a.sign b)).bind (n:=0) (fun _ r _ a=>zm.self a _) O) O
 .split
  .rename_i b
   exact zm.from (zI.sign a b) ((jB (a.sign b)).bind (n:=0) (fun e r _ a=>(zN a _).bind (n:=0) (fun _ r _ a=>(zN a _).bind (n:=0) (fun _ r _ a=>(jB a).bind (n:=0) (fun _ r _ a=>zm.self a _) O) O) O) O) O
  .exact(zN a _).bind (n:=0) (fun _ r _ a=>(jB a).bind (n:=0) (fun _ r _ a=>zm.self a _) O) O
theorem y5(n:Nat):(∀d l,qB l->zm 1 l (pS n d l))/\(∀d e t l,qB l->zm 0 l (q5 n d e t l))/\(∀d l,qB l->zm 1 l (pB n d l))/\(∀d tk l,qB l->zm 1 l (nB n d tk l)):=by
 induction n with
 |zero=>exact⟨fun _ _ _=>by rw[pS];trivial,fun _ _ _ _ _=>by rw[q5];trivial,fun _ _ _=>by rw[pB];trivial,fun _ _ _ _=>by rw[nB];trivial⟩
 |succ n k=>
   obtain⟨j,i,f,g⟩:=k;refine⟨fun d l b=>?_,fun d e t l b=>?_,fun d l b=>?_,fun d tk l b=>?_⟩
   .rw[pS]
    split
    .exact zI.self b
    .split
     .refine yS ((xx b).bind (m:=0) (fun t r _ a=>(jO a 1 Up).bind (n:=0) (fun s r _ a=>(zN a _).bind (n:=0) (fun _ r _ a=>(jB a).bind (n:=0) (fun _ r _ a=>zm.self a _) O) O) O) O)
     .split
      .rename_i c
       exact zm.from (zI.sign b c) ((vI (b.sign c)).bind (n:=0) (fun e r _ a=>(f _ _ a).bind (n:=0) (fun t r _ a=>i _ _ _ _ a) O) O) O
      .split
       .rename_i c
        exact zm.from (zI.sign b c) ((vI (b.sign c)).bind (n:=0) (fun e r _ a=>(f _ _ a).bind (n:=0) (fun t r _ a=>zm.self a _) O) O) O
       .split
        .rename_i c
         exact yS (show zI 1 l l.tail from zI.sign b c)
        .split
         .rename_i c
          exact yS (show zI 1 l l.tail from zI.sign b c)
         .split
          .rename_i c
           exact yS (zm.from (zI.sign b c) ((jB (b.sign c)).bind (n:=0) (fun _ r _ a=>zm.self a _) O) O)
          .split
           .rename_i c
            exact yS (zm.from (zI.sign b c) ((vI (b.sign c)).bind (n:=0) (fun _ r _ a=>zm.self a _) O) O)
           .exact yS (EH b)
   .rw[q5]
    split
    .rename_i c
     exact zm.from (zI.sign b c) ((f _ _ (b.sign c)).bind (n:=0) (fun _ r _ a=>zm.self a _) O) O
    .exact zm.self b _
   .rw[pB]
    exact(zN b _).bind (m:=0) (fun _ r _ a=>(g _ _ _ a).mono O) O
   .rw[nB]
    split
    .rename_i c
     exact zI.sign b c
    .exact(j _ _ b).bind (m:=0) (fun _ r _ a=>(g _ _ _ a).mono O) O
theorem q6{n:Nat}{d:Int}{l:List dY}(h:qB l):zm 1 l (pS n d l):=(y5 n).1 d l h
theorem iA{n:Nat}{d:Int}{l:List dY}(h:qB l):zm 1 l (pB n d l):=(y5 n).2.2.1 d l h
theorem EI:∀(n:Nat) (tk:List Pa) (l:List dY),qB l->zm 1 l (pX n tk l)
 |0,_,_,_=>by rw[pX];trivial
 | n+1,tk,l,h=>by
   rw[pX];refine(xx h).bind (m:=0) (fun t r _ a=>(jO a 1 Up).bind (m:=0) (fun s r _ a=>?_) O) O;split
   .rename_i b
    exact zm.from (zI.sign a b) (EI n _ _ (a.sign b)) O
   .exact(zN a _).bind (n:=0) (fun _ r _ a=>zm.self a _) O
theorem rY{n:Nat}{l:List dY}(b:qB l):zm 1 l (X0 n l):=by
 unfold X0;refine(zN b _).bind (m:=0) (fun _ r _ a=>?_) O;split
 .rename_i c
  exact(show zI 1 r r.tail from zI.sign a c).mono O
 .exact(EI n _ _ a).mono O
theorem gR{n:Nat}{t:Int}{s:C2}{l:List dY}(b:qB l):zm 1 l (oZ n t s l):=by
 unfold oZ;exact(rY b).bind (m:=0) (fun _ r _ a=>(iA a).bind (n:=0) (fun _ r _ a=>zm.self a _) O) O
theorem z0{s:C2}{l:List dY}(b:qB l):zm 1 l (pY s l):=by
 unfold pY;exact(jO b 0 Up).bind (m:=0) (fun _ r _ a=>(zN a _).bind (n:=0) (fun _ r _ a=>(zN a _).bind (n:=0) (fun _ r _ a=>zm.self a _) O) O) O
def eG(b:Nat)(w:C3):C3:={ w with heap:=w.heap.setIfInBounds b (.cells #[] 0 (0,0)) }
theorem qk(b:Nat)(w:C3):(eG b w).heap.size=w.heap.size:=by simp[eG]
theorem kx{b k:Nat}(w:C3)(h:k≠b):(eG b w).heap[k]?=w.heap[k]?:=by
 simp only[eG,Array.getElem?_setIfInBounds];rw[Dl (fun e=>h e.symm)]
theorem nJ{b:Nat}(w:C3):(eG b w).heap[b]?=if b<w.heap.size then some (.cells #[] 0 (0,0))else none:=by
 simp only[eG,Array.getElem?_setIfInBounds,if_true]
def dX(b B:Nat)(w w':C3):Prop:=Below B (eG b w) (eG b w')
theorem dX.mk'{b B:Nat}{w w':C3}(a:w'.os=w.os)(c:w'.tape=w.tape)(d:w'.output=w.output)(f:w.heap.size<=w'.heap.size)(i:b<w.heap.size)(g:∀k,k<B->k≠b->w'.heap[k]?=w.heap[k]?):dX b B w w':=by
 refine⟨a,c,d,by rw[qk,qk];exact f,fun k j=>?_⟩;by_cases e:k=b
 .subst e
  rw[nJ,nJ,Dm i,Dm O]
 .rw[kx w' e,kx w e]
  exact g k j e
theorem dX.refl(b B:Nat)(w:C3):dX b B w w:=D1 _ _
theorem dX.trans{b B:Nat}{w w' a:C3}(c:dX b B w w')(g:dX b B w' a):dX b B w a:=Below.trans c g
theorem dX.mono{b B a:Nat}{w w':C3}(c:dX b B w w')(d:a<=B):dX b a w w':=Below.mono c d
theorem dX.size{b B:Nat}{w w':C3}(h:dX b B w w'):w.heap.size<=w'.heap.size:=by have:=Below.size h;rw[qk,qk]at this;exact this
theorem dX.block{b B k:Nat}{w w':C3}(c:dX b B w w')(d:k<B)(a:k≠b):w'.heap[k]?=w.heap[k]?:=by have:=Below.block c k d;rw[kx w a,kx w' a]at this;exact this
theorem dX.cell{b B k o:Nat}{w w':C3}(a:dX b B w w')(d:k<B)(c:k≠b):w'.cell? (k,o)=w.cell? (k,o):=D4 (w:=w) (a.block d c)
theorem dX.wb{b B:Nat}{w w':C3}(a:Below B w w')(c:b<w.heap.size):dX b B w w':=dX.mk' a.os a.tape a.output a.size c fun k d _=>a.block k d
theorem dX.drewN{b B:Nat}{w w':C3}(h:dX b B w w')(n:Nat):dX b B w (w'.drewN n):=Below.trans h ⟨rfl,rfl,rfl,Dy _,fun _ _=>rfl⟩
theorem dX.alloc{b B:Nat}{w w':C3}(a:dX b B w w')(d:b<w'.heap.size)(c:B<=w'.heap.size)(o:Obj):dX b B w (w'.alloc o):=
 a.trans (dX.wb ((D1 B w').alloc c o) d)
theorem dX.setb{b B:Nat}{w w':C3}(c:dX b B w w')(d:b<w'.heap.size)(i:Nat)(a:C4):dX b B w (w'.setCell (b,i) a):=
 c.trans (dX.mk' rfl rfl rfl Uu d fun k _ e=>Dx w' _ a k e)
theorem dX.setCell{b B g:Nat}{w w':C3}(c:dX b B w w')(d:b<w'.heap.size)(_:B<=g)(i:Nat)(a:C4):dX b B w (w'.setCell (g,i) a):=
 c.trans (dX.mk' rfl rfl rfl Uu d fun k _ _=>Dx w' _ a k Gp)
theorem dZ.wm{b B:Nat}{w:C3}{g o:Nat}{f:C4}(d:dZ B (eG b w) g o f):dZ B w g o f:=by
 refine⟨d.1,?_⟩;by_cases e:g=b
 .subst e
  have a:=d.2;unfold World.cell? at a;rw[show(eG g w).heap[(⟨g,o,none⟩:Addr).block]?=(eG g w).heap[g]? from rfl,nJ]at a;split at a
  .rename_i c
   split at c
   .injection c with c
    injection c with i _ _;subst i;simp at a
   .cases c
  .cases a
 .rw[<-d.2]
  exact(D4 (w:=eG b w) (w':=w) (kx w e).symm)
def i2(b:Nat)(V:C4)(tj:List dY)(w:C3):Prop:=
 ∃(g c:Nat),V=.slice (some ⟨g,0,none⟩) tj.length c/\g≠b/\g<w.heap.size/\(∀(j:Nat) u,(jT tj)[j]?=some u->w.cell? (g,j)=some u)/\tj.length<=1000000/\∀t∈tj,t.kind=0->xQ t.text=true/\(⟨t.text.toArray⟩:C2).size<=281474976710656
theorem i2.off{b:Nat}{V:C4}{tj:List dY}{w w':C3}(f:i2 b V tj w)(e:dX b w.heap.size w w'):i2 b V tj w':=by
 obtain⟨g,c,n,a,d,i,k,l⟩:=f;exact⟨g,c,n,a,D6 d e.size,fun j o m=>(e.cell d a).trans (i j o m),k,l⟩
def zc(b:Nat)(V:C4)(tj r:List dY)(a dp:Bool)(w:C3):Prop:=
 Is w b 54 #[V,(((tj.length-r.length:Nat):Int):Int),.bool a,.bool dp]/\i2 b V tj w/\r <:+tj/\qB r
theorem zc.lt{b:Nat}{V:C4}{tj r:List dY}{a dp:Bool}{w:C3}(c:zc b V tj r a dp w):b<w.heap.size:=c.1.lt
theorem zc.cells{b:Nat}{V:C4}{tj r:List dY}{c dp:Bool}{w:C3}(a:zc b V tj r c dp w):
 w.cell? (b,0)=some V/\w.cell? (b,1)=some (.int .i64 ((tj.length-r.length:Nat):Int))/\w.cell? (b,2)=some (.bool c)/\w.cell? (b,3)=some (.bool dp):=
 ⟨(a.1.cell 0).trans rfl,(a.1.cell 1).trans rfl,(a.1.cell 2).trans rfl,(a.1.cell 3).trans rfl⟩
theorem NG{tj r:List dY}(h:r <:+tj){t:dY}{q:List dY}(e:r=t::q):tj[tj.length-r.length]?=some t:=by
 obtain⟨p,rfl⟩:=h;subst e;rw[Dn,Yt,Yi Zr,Yx];rfl
theorem NH(b:List dY)(k:Nat)(t:dY)(c:b[k]?=some t):(jT b)[k*3]?=some (.int .i64 t.kind)/\(jT b)[k*3+1]?=some (.string ⟨t.text.toArray⟩)/\(jT b)[k*3+2]?=some (.int .i64 (t.line:Int)):=by
 induction b generalizing k with
 |nil=>simp at c
 |cons a r i=>
   have e:jT (a::r)=.int .i64 a.kind :: .string ⟨a.text.toArray⟩ :: .int .i64 (a.line:Int)::jT r:=by simp[jT]
   rw[e];cases k with
   |zero=>
     simp at c;subst c;exact⟨rfl,rfl,rfl⟩
   |succ k=>
     obtain⟨d,f,g⟩:=i k Xe;rw[show(k+1)*3=k*3+1+1+1 by omega];exact⟨d,f,g⟩
theorem zc.tok{b:Nat}{V:C4}{tj r:List dY}{d dp:Bool}{w:C3}(e:zc b V tj r d dp w):∃(g c k:Nat) (t:dY) (q:List dY),V=.slice (some ⟨g,0,none⟩) tj.length c/\r=t::q/\k=tj.length-r.length/\k<tj.length/\tj.length<=1000000/\
 w.cell? (b,0)=some (.slice (some ⟨g,0,none⟩) tj.length c)/\w.cell? (b,1)=some (.int .i64 (k:Int))/\w.cell? (b,2)=some (.bool d)/\w.cell? (b,3)=some (.bool dp)/\
 w.cell? (g,k*3)=some (.int .i64 t.kind)/\w.cell? (g,k*3+1)=some (.string ⟨t.text.toArray⟩)/\w.cell? (g,k*3+2)=some (.int .i64 (t.line:Int)):=by
 obtain⟨j,l,m,n⟩:=e.cells;obtain⟨_,⟨g,c,i,_,_,a,v,_⟩,x,u⟩:=e;obtain⟨t,q,rfl⟩:=List.exists_cons_of_ne_nil u.ne;have f:=NG x rfl;obtain⟨o,p,s⟩:=NH tj _ t f;refine⟨g,c,_,t,q,i,rfl,rfl,?_,v,i▸j,l,m,n,a _ _ o,a _ _ p,a _ _ s⟩;exact(List.getElem?_eq_some_iff.1 f).1
def PR.un{α:Type}(x:PR α):PR Unit:=x.bind fun _ r=>.ok () r
def qC{α:Type}:PR α->Bool
 |.ok _ _=>false
 |_=>true
def zU{α:Type}(s:List UInt8):PR α->Bool
 |.ok _ r=>zt s r
 |_=>false
def jr(b:Nat)(V:C4)(tj:List dY)(x:PR Unit)(w:C3):Prop:=
 match x with
 |.ok _ r=>zc b V tj r false false w
 |.bad r=>zc b V tj r true false w
 |.deep r=>zc b V tj r false true w
 |.o=>False
def je{α:Type}(x:PR α)(P:α->Prop):Prop:=
 match x with
 |.ok a _=>P a
 |.bad _=>∃a,P a
 |.deep _=>∃a,P a
 |.o=>True
theorem zc.off{b:Nat}{V:C4}{tj r:List dY}{c dp:Bool}{w w':C3}(a:zc b V tj r c dp w)(d:Cx w w'):zc b V tj r c dp w':=
 ⟨a.1.below d a.1.lt,a.2.1.off (dX.wb d a.lt),a.2.2⟩
theorem jr.below{b:Nat}{V:C4}{tj:List dY}{x:PR Unit}{w w':C3}(c:jr b V tj x w)(d:Cx w w'):jr b V tj x w':=by
 cases x with
 |ok a r=>exact zc.off c d
 |bad r=>exact zc.off c d
 |deep r=>exact zc.off c d
 |o=>exact c
theorem jr.lt{b:Nat}{V:C4}{tj:List dY}{x:PR Unit}{w:C3}(h:jr b V tj x w):b<w.heap.size:=by
 cases x with
 |ok a r=>exact zc.lt h
 |bad r=>exact zc.lt h
 |deep r=>exact zc.lt h
 |o=>exact absurd h id
theorem jr.drewN{b:Nat}{V:C4}{tj:List dY}{x:PR Unit}{w:C3}(h:jr b V tj x w)(n:Nat):jr b V tj x (w.drewN n):=h.below (yl Zb n)
theorem jr.box{b:Nat}{V:C4}{tj:List dY}{x:PR Unit}{w:C3}(d:jr b V tj x w):∃r c dp,zc b V tj r c dp w/\qC x=(c || dp)/\(x=.ok () r/\c=false/\dp=false\/x=.bad r/\c=true/\dp=false\/x=.deep r/\c=false/\dp=true):=by
 cases x with
 |ok a r=>exact⟨r,false,false,d,rfl,.inl ⟨rfl,rfl,rfl⟩⟩
 |bad r=>exact⟨r,true,false,d,rfl,.inr (.inl ⟨rfl,rfl,rfl⟩)⟩
 |deep r=>exact⟨r,false,true,d,rfl,.inr (.inr ⟨rfl,rfl,rfl⟩)⟩
 |o=>exact absurd d id
theorem RH{b:Nat}{V:C4}{tj:List dY}{x:PR Unit}{w:C3}(a:jr b V tj x w):Cy 53 #[(b,0)] w fun e w'=>e=.returned (.bool (qC x))/\w'=w:=by
 obtain⟨r,f,dp,d,c,_⟩:=a.box;obtain⟨_,_,_,_⟩:=d.cells;rw[c];clear a d c;cases f
 all_goals
  go_enter func53,ntmps53;go_wp2;go_ret;exact⟨Ur,rfl⟩
theorem qL{b:Nat}{V:C4}{tj:List dY}{x:PR Unit}{w:C3}(a:jr b V tj x w)(v:Bool)(c:qC x=v):Cy 53 #[(b,0)] w fun e w'=>e=.returned (.bool v)/\w'=w:=c▸RH a
theorem RI(s:List UInt8)(t:dY)(r:List dY):zt s (t::r)=(decide (t.kind=2)&&t.text == s):=rfl
theorem X1(t:List UInt8)(s:C2):(t == s.data.toList)=((⟨t.toArray⟩:C2).toList == s.toList):=by rw[Yh,Yh]
theorem X2{b:Nat}{V:C4}{tj r:List dY}{w:C3}(f:zc b V tj r false false w)(s:C2)(v:Bool)(a:zt s.data.toList r=v):
 Cy 81 #[(b,0),s] w fun e w'=>e=.returned (.bool v)/\∃m,w'=w.drewN m:=by
 have l:∀m,jr b V tj (.ok () r) (w.drewN m):=fun m=>jr.drewN (x:=.ok () r) f m
 obtain⟨g,c,k,t,q,rfl,rfl,n,_,_,_,_,_,_,p,u,_⟩:=f.tok;have i:=U l;clear f n l;have y:(k:Int)<tj.length:=O
 rw[RI,X1]at a;obtain⟨T,j⟩:∃T:C2,T=⟨t.text.toArray⟩:=⟨_,rfl⟩
 rw[<-j]at a u;clear j;cases hk2:decide (t.kind=2)with
 |true=>
   have d:t.kind=2:=of_decide_eq_true hk2;rw[d]at p;rw[hk2,Bool.true_and]at a;clear hk2 d;exact Oi
 |false=>
   have d:(t.kind == 2)=false:=by simpa using hk2
   rw[hk2,Bool.false_and]at a;subst a;clear hk2;exact Oi
theorem K2{b:Nat}{V:C4}{tj:List dY}{x:PR Unit}{w:C3}(a:jr b V tj x w)(d:qC x=true)(s:C2):
 Cy 81 #[(b,0),s] w fun e w'=>e=.returned (.bool false)/\∃m,w'=w.drewN m:=by
 have i:∀m,jr b V tj x (w.drewN m):=fun m=>a.drewN m
 obtain⟨r,_,dp,f,_,_⟩:=a.box;obtain⟨g,c,k,t,q,rfl,rfl,n,_,_,_,_,_,_,_,_,_⟩:=f.tok;have l:=U i;have j:=U d;clear a n i f d;have p:(k:Int)<tj.length:=O
 go_enter func81,ntmps81;go_wp2
 go_quiet ((go_at_call 53;exact Calls.quiet_of_same (qL (l.o _) true j.o)))
 go_wp2;go_ret;exact⟨rfl,_,rfl⟩
theorem RJ{b:Nat}{V:C4}{tj:List dY}{x:PR Unit}{w:C3}(c:jr b V tj x w)(s:C2)(v:Bool)(d:zU s.data.toList x=v):
 Cy 81 #[(b,0),s] w fun e w'=>e=.returned (.bool v)/\∃m,w'=w.drewN m:=by
 subst d;cases x with
 |ok a r=>exact X2 c s _ rfl
 |bad r=>exact K2 c rfl s
 |deep r=>exact K2 c rfl s
 |o=>exact absurd c id
theorem fH{s:List UInt8}{x:PR Unit}(h:zU s x=true):∃r,x=.ok () r/\zt s r=true:=by
 cases x with
 |ok a r=>exact⟨r,rfl,h⟩
 |bad r=>cases h
 |deep r=>cases h
 |o=>cases h
theorem RK{n k:Nat}(_:k+1<=n):((n-(k+1):Nat):Int)+1=((n-k:Nat):Int):=O
theorem rZ{a r:List dY}(h:r <:+a):r.length<=a.length:=h.length_le
theorem zc.next{b:Nat}{V:C4}{tj r:List dY}{w:C3}(a:zc b V tj r false false w)(c:f7 r≠3):zc b V tj r.tail false false (w.setCell (b,1) ((((tj.length-r.length:Nat):Int)+1):Int)):=by
 have d:=a.lt;have f:=jv a.2.2.2;have e:=rZ a.2.2.1;refine⟨?_,a.2.1.off ((dX.refl b _ w).setb d 1 _),(List.tail_suffix r).trans a.2.2.1,a.2.2.2.tail c⟩;have:=a.1.set 1 (.int .i64 (((tj.length-r.length:Nat):Int)+1));rw[show r.length=r.tail.length+1 by omega,RK O]at this ⊢;exact this
def jP(b:Nat)(V:C4)(tj:List dY)(w:C3)(x:PR Unit)(w':C3):Prop:=jr b V tj x w'/\dX b w.heap.size w w'
theorem jP.st{b:Nat}{V:C4}{tj:List dY}{w w':C3}{x:PR Unit}(h:jP b V tj w x w'):jr b V tj x w':=h.1
theorem jP.off{b:Nat}{V:C4}{tj:List dY}{w w':C3}{x:PR Unit}(h:jP b V tj w x w'):dX b w.heap.size w w':=h.2
theorem zx{b:Nat}{V:C4}{tj:List dY}{x:PR Unit}{w:C3}(a:jr b V tj x w)(s:C2)(i:zU s.data.toList x=true):
 Cy 56 #[(b,0),s] w fun e w'=>e=.returned (.bool true)/\jP b V tj w (x.bind fun _ r=>.ok () r.tail) w':=by
 obtain⟨r,rfl,l⟩:=fH i;have d:∀n,zc b V tj r.tail false false ((w.drewN n).setCell (b,1) ((((tj.length-r.length:Nat):Int)+1):Int)):=fun n=>zc.next (w:=w.drewN n) (jr.drewN (x:=.ok () r) a n) (by rw[(uq l).1];decide)
 have f:∀n,dX b w.heap.size w ((w.drewN n).setCell (b,1) ((((tj.length-r.length:Nat):Int)+1):Int)):=fun n=>((dX.refl b _ w).drewN n).setb (jr.drewN (x:=.ok () r) a n).lt 1 _
 obtain⟨g,c,k,t,q,rfl,rfl,j,_,_,_,_,_,_,_,_,_⟩:=(show zc b V tj r false false w from a).tok;have f1:=(show zc b _ tj _ false false w from a).1.frozen 1;rw[<-j]at d f;have p:Dk (∀n,jP b (.slice (some ⟨g,0,none⟩) tj.length c) tj w (.ok () q) ((w.drewN n).setCell (b,1) (((k:Int)+1):Int))):=fun n=>⟨d n,f n⟩
 have H:=U a;have u:=U i;have v:(k:Int)<tj.length:=O
 clear a i j d f l;go_enter func56,ntmps56;go_wp2_with (go_at_call 81;(with_reducible refine(RJ H.o s true u.o).mono ?_);rintro e _ ⟨rfl,m,rfl⟩);go_ret;exact⟨rfl,p.o m⟩
theorem q7{b:Nat}{V:C4}{tj:List dY}{x:PR Unit}{w:C3}(a:jr b V tj x w)(s:C2)(c:zU s.data.toList x=false):
 Cy 56 #[(b,0),s] w fun e w'=>e=.returned (.bool false)/\∃m,w'=w.drewN m:=by
 have H:=U a;have d:=U c;clear a c;go_enter func56,ntmps56;go_wp2_with (go_at_call 81;(with_reducible refine(RJ H.o s false d.o).mono ?_);rintro e _ ⟨rfl,m,rfl⟩);go_ret;exact⟨rfl,m,rfl⟩
theorem zE{b:Nat}{V:C4}{tj:List dY}{x:PR Unit}{w:C3}(a:jr b V tj x w)(s:C2)(f:zU s.data.toList x=false):
 Cy 56 #[(b,0),s] w fun e w'=>e=.returned (.bool false)/\jP b V tj w x w':=
 (q7 a s f).mono fun _ _ ⟨c,m,d⟩=>⟨c,d▸⟨a.drewN m,(dX.refl b _ w).drewN m⟩⟩
theorem zc.spoil{b:Nat}{V:C4}{tj r:List dY}{c:Bool}{w:C3}(a:zc b V tj r c false w):zc b V tj r true false (w.setCell (b,2) true):=
 ⟨a.1.set 2 (.bool true),a.2.1.off ((dX.refl b _ w).setb a.lt 2 _),a.2.2⟩
theorem NI{b:Nat}{V:C4}{tj r:List dY}{a:Bool}{w:C3}(d:zc b V tj r a false w)(m:Nat):jP b V tj w (.bad r) ((w.drewN m).setCell (b,2) true):=by
 have c:zc b V tj r a false (w.drewN m):=d.off (yl Zb m);exact⟨c.spoil,((dX.refl b _ w).drewN m).setb c.lt 2 _⟩
theorem zh{b:Nat}{V:C4}{tj:List dY}{x:PR Unit}{w:C3}(c:jr b V tj x w)(s:C2):
 Cy 58 #[(b,0),s] w fun e w'=>e=.returned (.tuple #[])/\jP b V tj w (x.bind fun _ r=>zQ s.data.toList r) w':=by
 cases hv:zU s.data.toList x with
 |true=>
   obtain⟨r,rfl,j⟩:=fH hv;have a:zQ s.data.toList r=.ok () r.tail:=by unfold zQ;rw[Dm j]
   rw[show((PR.ok () r).bind fun _ r=>zQ s.data.toList r)=.ok () r.tail from a];have H:=U c;have d:=U hv;clear c hv j a;go_enter func58,ntmps58;go_wp2_with (go_at_call 56;(with_reducible refine(zx H.o s d.o).mono ?_);rintro e k ⟨rfl,p⟩)
   go_end0
   exact⟨rfl,p⟩
 |false=>
   obtain⟨r,_,dp,f,q,i⟩:=c.box
   have a:(x.bind fun _ r=>zQ s.data.toList r)=if dp then .deep r else .bad r:=by
    rcases i with⟨rfl,rfl,rfl⟩|⟨rfl,rfl,rfl⟩|⟨rfl,rfl,rfl⟩
    .show zQ s.data.toList r=_
     unfold zQ;rw[Dl (by rw[show zt s.data.toList r=false from hv];decide)];rfl
    .rfl
    .rfl
   rw[a];obtain⟨_,_,_,_⟩:=f.cells;have t:=f.1.frozen 2;have H:=U c;have d:=U hv;have l:=U f;have n:=U i;clear c hv f i q a;cases dp with
   |true=>
     go_enter func58,ntmps58;go_wp2_with (go_at_call 56;(with_reducible refine(q7 H.o s d.o).mono ?_);rintro e k ⟨rfl,m,rfl⟩)
     go_end0
     refine⟨rfl,?_,(dX.refl b _ w).drewN m⟩;rcases n.o with⟨_,_,g⟩|⟨_,_,g⟩|⟨rfl,_,_⟩
     .cases g
     .cases g
     .exact H.o.drewN m
   |false=>
     go_enter func58,ntmps58;go_wp2_with (go_at_call 56;(with_reducible refine(q7 H.o s d.o).mono ?_);rintro e k ⟨rfl,m,rfl⟩)
     go_end0
     exact⟨rfl,NI l.o m⟩
def qp(b:Nat)(V:C4)(tj:List dY)(w:C3){α:Type}(x:PR α)(F:C3->α->C4->Prop)(e:Ending)(w':C3):Prop:=
 ∃v,e=.returned v/\jP b V tj w x.un w'/\je x fun a=>F w' a v
def zdz(_:C3)(a:C2)(v:C4):Prop:=v=.string a
def X3(_:C3)(a:Int)(v:C4):Prop:=v=.int .i64 a
theorem z1{b:Nat}{V:C4}{tj:List dY}{x:PR Unit}{w:C3}(a:jr b V tj x w)(c:qC x=true)(k:Int):
 Cy 55 #[(b,0),(k:Int)] w fun e w'=>e=.returned (.string ⟨#[]⟩)/\jP b V tj w x w':=by
 have H:=U a;have d:=U c;clear a c;go_enter func55,ntmps55;go_wp2_with (go_at_call 53;(with_reducible refine(qL H.o true d.o).mono ?_);rintro e _ ⟨rfl,rfl⟩);go_ret;exact⟨rfl,H.o,dX.refl _ _ _⟩
theorem EJ{b:Nat}{V:C4}{tj:List dY}{x:PR Unit}{w a:C3}(c:jP b V tj w x a)(e:w.heap.size<=a.heap.size)(o:Obj):jP b V tj w x (a.alloc o).drew:=by
 have d:Cx a (a.alloc o).drew:=(Zb.alloc Zr o).drew;exact⟨c.1.below d,c.2.trans ((dX.wb d c.1.lt).mono e)⟩
theorem RL{b:Nat}{V:C4}{tj r:List dY}{w:C3}(a:zc b V tj r false false w)(c:f7 r≠3)(o:Obj):jP b V tj w (.ok () r.tail) (((w.setCell (b,1) ((((tj.length-r.length:Nat):Int)+1):Int)).alloc o).drew):=
 EJ (x:=.ok () r.tail) ⟨a.next c,(dX.refl b _ w).setb a.lt 1 _⟩ Ur o
theorem z2{b:Nat}{V:C4}{tj r:List dY}{w:C3}(h:zc b V tj r false false w)(o:Obj):jP b V tj w (.bad r) (((w.setCell (b,2) true).alloc o).drew):=
 EJ (x:=.bad r) ⟨h.spoil,(dX.refl b _ w).setb h.lt 2 _⟩ Ur o
theorem jP.drewN{b:Nat}{V:C4}{tj:List dY}{x:PR Unit}{w c:C3}{m:Nat}(a:jP b V tj (w.drewN m) x c):jP b V tj w x c:=⟨a.1,((dX.refl b _ w).drewN m).trans a.2⟩
theorem nK{b:Nat}{V:C4}{tj r:List dY}{w:C3}(a:zc b V tj r false false w)(k:Int)(u:k≠3):
 Cy 55 #[(b,0),(k:Int)] w (qp b V tj w (qt k r) zdz):=by
 have f:=fun(s:f7 r≠3) o=>RL a s o
 have j:=fun o=>z2 a o
 have A:=a.lt;have f1:=a.1.frozen 1;have y:=a.1.frozen 2;have i:=C0 (jr b V tj (.ok () r) w) a;obtain⟨g,c,p,t,q,rfl,rfl,l,_,_,_,_,_,_,_,_,_⟩:=a.tok;rw[<-l]at f;have z:(p:Int)<tj.length:=O
 have B:0<w.heap.size:=O
 have n:=U j;clear a l j;cases hk2:decide (t.kind=k)with
 |true=>
   obtain rfl:t.kind=k:=of_decide_eq_true hk2;have m:=U (f u);have d:qt t.kind (t::q)=.ok ⟨t.text.toArray⟩ q:=by unfold qt;rw[Dm (show f7 (t::q)=t.kind from rfl)];rfl
   rw[d];clear hk2 f d;go_enter func55,ntmps55;go_wp2_with (go_at_call 53;(with_reducible refine(qL i.o false rfl).mono ?_);rintro e v ⟨rfl,rfl⟩)
   go_region_held3 (fun w'=>w'.cell? (b,0)=some (.slice (some ⟨g,0,none⟩) tj.length c)/\w'.cell? (b,1)=some (.int .i64 p)/\w'.cell? (g,p*3)=some (.int .i64 t.kind)/\w'.cell? (g,p*3+1)=some (.string ⟨t.text.toArray⟩)/\w'.cell? (g,p*3+2)=some (.int .i64 (t.line:Int))/\0<w'.heap.size)
    (first|go_keep|(go_split_ands;refine⟨?_,?_,?_,?_,?_,?_⟩ <;> assumption))
    (fail)
   go_wp2_with fail;go_ret;exact⟨_,rfl,m.o _,rfl⟩
 |false=>
   have x:(t.kind != k)=true:=by simpa using hk2
   have d:qt k (t::q)=.bad (t::q):=by unfold qt;rw[Dl (show ¬f7 (t::q)=k from of_decide_eq_false hk2)]
   rw[d];clear hk2 f d;go_enter func55,ntmps55;go_wp2_with (go_at_call 53;(with_reducible refine(qL i.o false rfl).mono ?_);rintro e v ⟨rfl,rfl⟩)
   go_region_held3 (fun w'=>w'.cell? (b,0)=some (.slice (some ⟨g,0,none⟩) tj.length c)/\w'.cell? (b,1)=some (.int .i64 p)/\w'.cell? (g,p*3)=some (.int .i64 t.kind)/\w'.cell? (g,p*3+1)=some (.string ⟨t.text.toArray⟩)/\w'.cell? (g,p*3+2)=some (.int .i64 (t.line:Int))/\0<w'.heap.size)
    (first|go_keep|(go_split_ands;refine⟨?_,?_,?_,?_,?_,?_⟩ <;> assumption))
    (fail)
   go_wp2_with fail;go_ret;exact⟨_,rfl,n.o _,⟨_,rfl⟩⟩
theorem gS{b:Nat}{V:C4}{tj r:List dY}{w:C3}(d:jr b V tj (.ok () r) w)(k:Int)(j:k≠3)(i:f7 r=k)(s:C2)(l:s=⟨(pT r).toArray⟩):
 Cy 55 #[(b,0),(k:Int)] w fun e w'=>e=.returned (.string s)/\jP b V tj w (.ok () r.tail) w':=by
 subst l;have c:qt k r=.ok ⟨(pT r).toArray⟩ r.tail:=by unfold qt;rw[Dm i]
 refine(nK d k j).mono fun e w' a=>?_
 rw[c]at a;obtain⟨v,g,f,m⟩:=a;exact⟨by rw[g,show v=.string ⟨(pT r).toArray⟩from m],f⟩
theorem X4{b:Nat}{V:C4}{tj r:List dY}{w:C3}(f:jr b V tj (.ok () r) w)(k:Int)(l:k≠3)(j:f7 r≠k):
 Cy 55 #[(b,0),(k:Int)] w fun e w'=>∃s,e=.returned (.string s)/\jP b V tj w (.bad r) w':=by
 have d:qt k r=.bad r:=by unfold qt;rw[Dl j]
 refine(nK f k l).mono fun e w' c=>?_
 rw[d]at c;obtain⟨v,i,g,a,m⟩:=c;exact⟨a,by rw[i,show v=.string a from m],g⟩
theorem ur{b:Nat}{V:C4}{tj:List dY}{x:PR Unit}{w:C3}(d:jr b V tj x w):
 Cy 54 #[(b,0)] w (qp b V tj w (x.bind fun _ r=>i0 r) X3):=by
 cases hv:zU iZ x with
 |true=>
   obtain⟨r,rfl,l⟩:=fH hv;have c:i0 r=.ok 1 r.tail:=by unfold i0;rw[Dm l]
   rw[show((PR.ok () r).bind fun _ r=>i0 r)=.ok 1 r.tail from c];have H:=U d;have f:=U hv;clear d hv l c;go_enter func54,ntmps54;go_wp2_with (go_at_call 56;(with_reducible refine(zx H.o _ f.o).mono ?_);rintro e n ⟨rfl,g⟩);go_ret;exact⟨_,rfl,g,rfl⟩
 |false=>
   have c:(x.bind fun _ r=>i0 r)=x.bind fun _ r=>(zQ xW r).bind fun _ r=>.ok 2 r:=by
    cases x with
    |ok a r=>
      show i0 r=(zQ xW r).bind _;unfold i0;rw[Dl (by rw[show zt iZ r=false from hv];decide)]
    |_=>rfl
   have j:(x.bind fun _ r=>(zQ xW r).bind fun _ r=>PR.ok (2 :Int) r).un=x.bind fun _ r=>zQ xW r:=by
    cases x with
    |ok a r=>show((zQ xW r).bind _).un=zQ xW r;unfold zQ;split<;>rfl
    |_=>rfl
   have k:je (x.bind fun _ r=>(zQ xW r).bind fun _ r=>PR.ok (2 :Int) r) fun a=>X3 w a (.int .i64 2):=by
    cases x with
    |ok a r=>show je ((zQ xW r).bind _) _;unfold zQ;split;exact rfl;exact⟨2,rfl⟩
    |bad r=>exact⟨2,rfl⟩
    |deep r=>exact⟨2,rfl⟩
    |o=>trivial
   rw[c];have H:=U d;have f:=U hv;have i:=U (Do j k);clear d hv c j k;go_enter func54,ntmps54
   go_wp2_with (first
    |(go_at_call 56;(with_reducible refine(q7 H.o _ f.o).mono ?_);rintro e n ⟨rfl,m,rfl⟩)
    |(go_at_call 58;(with_reducible refine(zh (H.o.drewN m) _).mono ?_);rintro e _ ⟨rfl,g⟩))
   go_ret;refine⟨_,rfl,?_,i.o.2⟩;rw[i.o.1];exact g.drewN
def zH{α:Type}(x:PR α):Prop:=match x with | .o=>False|_=>True
theorem zH.bind{α β:Type}{k:Nat}{l:List dY}{x:PR α}{f:α->List dY->PR β}(b:zm k l x)(c:zH x)(g:∀a r,x=.ok a r->qB r->r.length+k<=l.length->zH (f a r)):zH (x.bind f):=by
 cases x with
 |ok a r=>exact g a r rfl (show zI k l r from b).2.1 (show zI k l r from b).2.2
 |bad r=>trivial
 |deep r=>trivial
 |o=>exact c
theorem qR(s:List UInt8)(l:List dY):zH (zQ s l):=by unfold zQ;split<;>trivial
theorem vS(k:Int)(l:List dY):zH (qt k l):=by unfold qt;split<;>trivial
theorem z3(n:Nat):(∀lev d l,qB l->1<=lev->lev<=11->20*(l.length:Int)+15-lev<=n->zH (pE n lev d l))/\(∀lev d a l,qB l->1<=lev->lev<=10->20*(l.length:Int)+15-lev<=n->zH (pL n lev d a l))/\
 (∀d l,qB l->20*l.length+3<=n->zH (pU n d l))/\(∀d l,qB l->20*l.length+2<=n->zH (pP n d l))/\
 (∀d s l,qB l->20*l.length+1<=n->zH (pN n d s l))/\(∀d l,qB l->20*l.length+16<=n->zH (pA n d l))/\(∀d tk l,qB l->20*l.length+15<=n->zH (rX n d tk l)):=by
 induction n with
 |zero=>exact⟨fun _ _ _ _ _ _ _=>O,fun _ _ _ _ _ _ _ _=>O,fun _ _ _ _=>O,fun _ _ _ _=>O,fun _ _ _ _ _=>O,fun _ _ _ _=>O,fun _ _ _ _ _=>O⟩
 |succ n y=>
   obtain⟨j,t,u,x,w,v,q⟩:=y;refine⟨fun lev d l b m p i=>?_,fun lev d a l b m p i=>?_,fun d l b i=>?_,fun d l b i=>?_,fun d s l b i=>?_,fun d l b i=>?_,fun d tk l b i=>?_⟩
   .rw[pE]
    split
    .exact u d l b O
    .exact zH.bind (jB b) (j _ _ _ b O O O) fun a r _ c g=>t _ _ _ _ c m O O
   .rw[pL]
    split
    .trivial
    .rename_i o
     obtain⟨s,f⟩:=uP o;have k:=jv b;exact zH.bind (jB (b.sign f)) (j _ _ _ (b.sign f) O O O) fun a r _ c g=>t _ _ _ _ c m p O
   .rw[pU]
    split
    .trivial
    .split
     .exact x d l b O
     .rename_i o
      obtain⟨s,f⟩:=gQ o;have k:=jv b;split
      .exact zH.bind (zN (b.sign f) _) (qR _ _) fun _ r _ c g=>zH.bind (jB c) (j _ _ _ c O O O) fun e r _ c g=>zH.bind (zN c _) (qR _ _) fun _ r _ c g=>trivial
      .exact zH.bind ((nI n).2.2.1 _ _ (b.sign f)) (u _ _ (b.sign f) O) fun _ r _ c g=>trivial
   .rw[pP]
    have k:=jv b;split
    .rename_i f
     exact Oh
    .split
     .trivial
     .split
      .trivial
      .split
       .rename_i f
        exact zH.bind (zN (b.sign f) _) (qR _ _) fun _ r _ c g=>zH.bind (zN c _) (qR _ _) fun _ r _ c g=>trivial
       .split
        .trivial
        .exact zH.bind (jO b 1 Up) (vS _ _) fun s r _ c g=>w _ _ _ c O
   .rw[pN]
    have k:=jv b;split
    .rename_i f
     exact zH.bind (B3 (b.sign f)) (v _ _ (b.sign f) O) fun _ r _ c g=>trivial
    .split
     .rename_i f
      exact Oh
     .trivial
   .rw[pA]
    split
    .trivial
    .exact q _ _ _ b O
   .rw[rX]
    refine zH.bind (jB b) (j _ _ _ b O O O) fun e r _ c g=>?_
    split
    .rename_i f
     have k:=jv c;exact q _ _ _ (c.sign f) O
    .exact zH.bind (zN c _) (qR _ _) fun _ r _ c g=>trivial
theorem iB{n:Nat}{d:Int}{l:List dY}(h:qB l)(_:20*l.length+14<=n):zH (pE n 1 d l):=(z3 n).1 1 d l h O O O
theorem X5{n:Nat}{d:Int}{l:List dY}(a:qB l)(b:20*l.length+16<=n):zH (pA n d l):=(z3 n).2.2.2.2.2.1 d l a b
theorem B4{n:Nat}{l:List dY}(c:qB l)(_:20*l.length+14<=n):zH (pI n l):=by
 unfold pI;exact zH.bind (zN c _) (qR _ _) fun _ r _ a b=>zH.bind (jB a) (iB a O) fun e r _ a b=>zH.bind (zN a _) (qR _ _) fun _ r _ a b=>trivial
theorem r0{l:List dY}(h:qB l):zH (i0 l):=by
 unfold i0;split
 .trivial
 .exact zH.bind (zN h _) (qR _ _) fun _ r _ _ _=>trivial
theorem yT{α:Type}{k:Nat}{l:List dY}{x:PR α}(c:zm k l x)(b:zH x):zH (vu x):=by
 unfold vu;exact zH.bind c b fun _ r _ a d=>zH.bind (zN a _) (qR _ _) fun _ r _ a d=>trivial
theorem RM{n:Nat}{l:List dY}(d:qB l)(f:20*l.length+16<=n):zH (q3 n l):=by
 unfold q3;refine zH.bind (jO d 1 Up) (vS _ _) fun s r _ a b=>?_
 have g:=jv a;split
 .rename_i c
  exact zH.bind (B3 (a.sign c)) (X5 (a.sign c) O) fun _ r _ a b=>trivial
 .split
  .rename_i c
   exact zH.bind (jB (a.sign c)) (iB (a.sign c) O) fun e r _ a b=>zH.bind (zN a _) (qR _ _) fun _ r _ a b=>zH.bind (zN a _) (qR _ _) fun _ r _ a b=>zH.bind (jB a) (iB a O) fun _ r _ a b=>trivial
  .exact zH.bind (zN a _) (qR _ _) fun _ r _ a b=>zH.bind (jB a) (iB a O) fun _ r _ a b=>trivial
theorem NJ(n:Nat):(∀d l,qB l->20*l.length+30<=n->zH (pS n d l))/\(∀d e t l,qB l->20*l.length+30<=n->zH (q5 n d e t l))/\(∀d l,qB l->20*l.length+30<=n->zH (pB n d l))/\(∀d tk l,qB l->20*l.length+31<=n->zH (nB n d tk l)):=by
 induction n with
 |zero=>exact⟨fun _ _ _ _=>O,fun _ _ _ _ _ _=>O,fun _ _ _ _=>O,fun _ _ _ _ _=>O⟩
 |succ n u=>
   obtain⟨q,p,i,j⟩:=u;refine⟨fun d l b g=>?_,fun d e t l b g=>?_,fun d l b g=>?_,fun d tk l b g=>?_⟩
   .rw[pS]
    have o:=jv b;split
    .trivial
    .split
     .exact yT ((xx b).bind (m:=0) (n:=0) (fun t r _ a=>(jO a 1 Up).bind (n:=0) (fun s r _ a=>(zN a _).bind (n:=0) (fun _ r _ a=>(jB a).bind (n:=0) (fun _ r _ a=>zm.self a _) O) O) O) O)
       (zH.bind (xx b) (r0 b) fun t r _ a f=>zH.bind (jO a 1 Up) (vS _ _) fun s r _ a f=>zH.bind (zN a _) (qR _ _) fun _ r _ a f=>zH.bind (jB a) (iB a O) fun _ r _ a f=>trivial)
     .split
      .rename_i c
       exact zH.bind (vI (b.sign c)) (B4 (b.sign c) O) fun e r _ a f=>zH.bind (iA a) (i _ _ a O) fun t r _ a f=>p _ _ _ _ a O
      .split
       .rename_i c
        exact zH.bind (vI (b.sign c)) (B4 (b.sign c) O) fun e r _ a f=>zH.bind (iA a) (i _ _ a O) fun t r _ a f=>trivial
       .split
        .rename_i c
         exact Oj
        .split
         .rename_i c
          exact Oj
         .split
          .rename_i c
           exact yT ((jB (b.sign c)).bind (n:=0) (m:=0) (fun _ r _ a=>zm.self a _) O) (zH.bind (jB (b.sign c)) (iB (b.sign c) O) fun _ r _ a f=>trivial)
          .split
           .rename_i c
            exact yT ((vI (b.sign c)).bind (n:=0) (m:=0) (fun _ r _ a=>zm.self a _) O) (zH.bind (vI (b.sign c)) (B4 (b.sign c) O) fun _ r _ a f=>trivial)
           .exact yT (EH b) (RM b O)
   .rw[q5]
    have o:=jv b;split
    .rename_i c
     exact zH.bind (iA (b.sign c)) (i _ _ (b.sign c) O) fun _ r _ a f=>trivial
    .trivial
   .rw[pB]
    exact zH.bind (zN b _) (qR _ _) fun _ r _ a f=>j _ _ _ a O
   .rw[nB]
    split
    .trivial
    .exact zH.bind (q6 b) (q _ _ b O) fun _ r _ a f=>j _ _ _ a O
theorem X6{n:Nat}{d:Int}{l:List dY}(a:qB l)(b:20*l.length+30<=n):zH (pB n d l):=(NJ n).2.2.1 d l a b
theorem EK:∀(n:Nat) (tk:List Pa) (l:List dY),qB l->20*l.length+1<=n->zH (pX n tk l)
 |0,_,_,_,_=>O
 | n+1,tk,l,h,hn=>by
   rw[pX];refine zH.bind (xx h) (r0 h) fun t r _ a b=>zH.bind (jO a 1 Up) (vS _ _) fun s r _ a b=>?_
   have d:=jv a;split
   .rename_i c
    exact EK n _ _ (a.sign c) O
   .exact zH.bind (zN a _) (qR _ _) fun _ r _ a b=>trivial
theorem RN{n:Nat}{l:List dY}(a:qB l)(_:20*l.length+1<=n):zH (X0 n l):=by
 unfold X0;refine zH.bind (zN a _) (qR _ _) fun _ r _ b _=>?_
 split
 .trivial
 .exact EK n _ _ b O
theorem RO{n:Nat}{t:Int}{s:C2}{l:List dY}(b:qB l)(_:20*l.length+30<=n):zH (oZ n t s l):=by
 unfold oZ;exact zH.bind (rY b) (RN b O) fun _ r _ a c=>zH.bind (iA a) (X6 a O) fun _ r _ a c=>trivial
theorem NK{s:C2}{l:List dY}(c:qB l):zH (pY s l):=by
 unfold pY;exact zH.bind (jO c 0 Up) (vS _ _) fun _ r _ a b=>zH.bind (zN a _) (qR _ _) fun _ r _ a b=>zH.bind (zN a _) (qR _ _) fun _ r _ a b=>trivial
theorem r1:∀(n:Nat) (p:Pr) (l:List dY),qB l->20*l.length+40<=n->zH (i1 n p l)
 |0,_,_,_,_=>O
 | n+1,p,l,h,hn=>by
   rw[i1];split
   .trivial
   .refine zH.bind (xx h) (r0 h) fun t r _ a b=>zH.bind (jO a 1 Up) (vS _ _) fun s r _ a b=>?_
    split
    .rename_i c
     have d:=jv a;exact zH.bind (z0 (a.sign c.2.2)) (NK (a.sign c.2.2)) fun _ r _ a b=>r1 n _ _ a O
    .exact zH.bind (gR a) (RO a O) fun _ r _ a b=>r1 n _ _ a O
def kg(l:List dY):PR Pr:=i1 (20*l.length+40) ⟨[],[]⟩ l
theorem ym{l:List dY}(h:qB l):zH (kg l):=r1 _ _ _ h Zr
