import Derived.Test.YthcmenajdcbnnaaGreatDoorAlTokMath
import Derived.StillTailTactics
import Derived.Deep.RegionHeld3
import Derived.Deep.RegionLaw
import Derived.BigQuiet
set_option linter.unusedSimpArgs false
set_option linter.unusedVariables false
set_option maxRecDepth 100000
namespace Go.Proofs.YthcmenajdcbnnaaGreatDoor
open Go.RowKit Tryz
theorem Oj{p:Prop}(h:p:=by
 exact zm.from (zJ.sign b f) ((g _ _ _ (b.sign f)).bind (n:=0) (fun e r _ c=>(zM c _).bind (n:=0) (fun _ r _ c=>zm.self c _) O) O) O):p:=h
theorem Ok{p:Prop}(h:p:=by
 exact zI.bind (jC (b.sign f)) (j _ _ _ (b.sign f) O O O) fun e r _ c g=>zI.bind (zM c _) (qT _ _) fun _ r _ c g=>trivial):p:=h
theorem Ol{p:Prop}(h:p:=by
 go_enter func81,ntmps81;go_wp2
 go_quiet ((go_at_call 53;exact Calls.quiet_of_same (qL (i.o _) false rfl)))
 go_wp2;go_ret
 exact⟨rfl,_,rfl⟩):p:=h
theorem Om{p:Prop}(h:p:=by
 exact yH (k:=1) (l:=l) (show zJ 1 l l.tail from zJ.sign b c) trivial):p:=h
structure fO (B:Nat) (w:C4):Prop where
 lt:0<B
 rows:Z9 w
theorem fO.below{B:Nat}{w w':C4}(a:fO B w)(b:Below B w w'):fO B w' where
 lt:=a.lt
 rows:=fun k c=>⟨(b.cell (p:=⟨0,k*2,none⟩) a.lt).trans (a.rows k c).1,(b.cell (p:=⟨0,k*2+1,none⟩) a.lt).trans (a.rows k c).2⟩
theorem fO.mono{B a:Nat}{w:C4}(b:fO B w)(c:B<=a):fO a w where
 lt:=Yb b.lt c
 rows:=b.rows
theorem l6(s:C3)(b:Bool)(h:us s=b)(w:C4):Cz 106 #[s] w (Cw b w):=V3 s b h w
theorem qj(s:C3)(b:Bool)(h:us s=b)(w:C4):Cz 50 #[s] w (Cx b w):=rU s b h w
theorem qW{W c:C4}(d:Cy W c):(∀b o,b<W.heap.size->c.cell? ⟨b,o,none⟩=W.cell? ⟨b,o,none⟩)/\(∀b o,b<W.heap.size->c.frozen? ⟨b,o,none⟩=W.frozen? ⟨b,o,none⟩):=
 ⟨fun b o a=>d.cell (p:=⟨b,o,none⟩) a,fun b o a=>d.frozen (p:=⟨b,o,none⟩) a⟩
def fK(B:Nat)(w:C4)(g o:Nat)(u:C5):Prop:=g<B/\w.cell? (g,o)=some u
def vh(v:C5)(n:Nat)(F:Nat->Nat->Prop):Prop:=
 ∃(a:Option Addr) (b:Nat),v=.slice a n b/\n<=281474976710656/\(0<n->∃g o,a=some ⟨g,o,none⟩/\F g o)
def fT(n:Int):Prop:=-9223372036854775808<=n/\n<=9223372036854775807
mutual
def z3(B:Nat)(w:C4):Ex->Nat->Nat->Prop
 | .mk k op n td tc,g,o=>fK B w g o (.int .i64 k)/\fK B w g (o+1) (.int .i64 op)/\fK B w g (o+2) (.int .i64 n)/\fK B w g (o+3) (.string td)/\
     fT n/\∃v,fK B w g (o+4) v/\vh v tc.length (kM B w tc)
def kM(B:Nat)(w:C4):List Ex->Nat->Nat->Prop
 |[],_,_=>True
 |e::r,g,o=>z3 B w e g o/\kM B w r g (o+5)
end
mutual
def EP(B:Nat)(w:C4):St->Nat->Nat->Prop
 | .mk k ty td tc tg th,g,o=>fK B w g o (.int .i64 k)/\fK B w g (o+1) (.int .i64 ty)/\fK B w g (o+2) (.string td)/\
     (∃v,fK B w g (o+3) v/\vh v tc.length (kM B w tc))/\(∃v,fK B w g (o+4) v/\vh v tg.length (xB B w tg))/\(∃v,fK B w g (o+5) v/\vh v th.length (xB B w th))
def xB(B:Nat)(w:C4):List St->Nat->Nat->Prop
 |[],_,_=>True
 |s::r,g,o=>EP B w s g o/\xB B w r g (o+6)
end
theorem fK.below{B b:Nat}{w w':C4}(e:Below B w w')(d:B<=b){g o:Nat}{c:C5}(a:fK B w g o c):fK b w' g o c:=⟨Yb a.1 d,(e.cell (p:=(g,o)) a.1).trans a.2⟩
theorem vh.imp{v:C5}{n:Nat}{F G:Nat->Nat->Prop}(c:vh v n F)(k:∀g o,F g o->G g o):vh v n G:=by
 obtain⟨a,b,j,e,hF⟩:=c;exact⟨a,b,j,e,fun f=>by obtain⟨g,o,d,i⟩:=hF f;exact⟨g,o,d,k g o i⟩⟩
mutual
theorem z3.below{B c:Nat}{w w':C4}(b:Below B w w')(a:B<=c):∀(e:Ex) (g o:Nat),z3 B w e g o->z3 c w' e g o
 | .mk k op n td tc,g,o,h=>by
   rw[z3]at h ⊢;obtain⟨f,i,j,l,p,v,m,q⟩:=h;exact⟨f.below b a,i.below b a,j.below b a,l.below b a,p,v,m.below b a,q.imp fun d r=>kM.below b a tc d r⟩
theorem kM.below{B a:Nat}{w w':C4}(c:Below B w w')(b:B<=a):∀(l:List Ex) (g o:Nat),kM B w l g o->kM a w' l g o
 |[],_,_,_=>by rw[kM];trivial
 | e::r,g,o,h=>by
   rw[kM]at h ⊢;exact⟨z3.below c b e g o h.1,kM.below c b r g (o+5) h.2⟩
end
mutual
theorem EP.below{B f:Nat}{w w':C4}(b:Below B w w')(a:B<=f):∀(e:St) (g o:Nat),EP B w e g o->EP f w' e g o
 | .mk k ty td tc tg th,g,o,h=>by
   rw[EP]at h ⊢;obtain⟨i,j,l,⟨v,m,q⟩,⟨t,n,r⟩,⟨u,p,s⟩⟩:=h;exact⟨i.below b a,j.below b a,l.below b a,⟨v,m.below b a,q.imp fun c d=>kM.below b a tc c d⟩,⟨t,n.below b a,r.imp fun c d=>xB.below b a tg c d⟩,⟨u,p.below b a,s.imp fun c d=>xB.below b a th c d⟩⟩
theorem xB.below{B a:Nat}{w w':C4}(c:Below B w w')(b:B<=a):∀(l:List St) (g o:Nat),xB B w l g o->xB a w' l g o
 |[],_,_,_=>by rw[xB];trivial
 | e::r,g,o,h=>by
   rw[xB]at h ⊢;exact⟨EP.below c b e g o h.1,xB.below c b r g (o+6) h.2⟩
end
theorem kM.at{B:Nat}{w:C4}:∀(l:List Ex) (g o i:Nat) (e:Ex),kM B w l g o->l[i]?=some e->z3 B w e g (o+i*5)
 |[],_,_,_,_,_,h=>Xb
 | a::r,g,o,0,e,h,hi=>by
   rw[kM]at h;simp at hi;subst hi;simpa using h.1
 | a::r,g,o,i+1,e,h,hi=>by
   rw[kM]at h;have:=kM.at r g (o+5) i e h.2 Gd;rw[show o+(i+1)*5=o+5+i*5 by omega];exact this
theorem xB.at{B:Nat}{w:C4}:∀(l:List St) (g o i:Nat) (e:St),xB B w l g o->l[i]?=some e->EP B w e g (o+i*6)
 |[],_,_,_,_,_,h=>Xb
 | a::r,g,o,0,e,h,hi=>by
   rw[xB]at h;simp at hi;subst hi;simpa using h.1
 | a::r,g,o,i+1,e,h,hi=>by
   rw[xB]at h;have:=xB.at r g (o+6) i e h.2 Gd;rw[show o+(i+1)*6=o+6+i*6 by omega];exact this
def kW(B:Nat)(w:C4)(v:C5)(l:List Ex):Prop:=vh v l.length (kM B w l)
def f6(B:Nat)(w:C4)(v:C5)(l:List St):Prop:=vh v l.length (xB B w l)
theorem kW.below{B a:Nat}{w w':C4}{v:C5}{l:List Ex}(b:kW B w v l)(d:Below B w w')(c:B<=a):kW a w' v l:=vh.imp b fun g o=>kM.below d c l g o
theorem f6.below{B a:Nat}{w w':C4}{v:C5}{l:List St}(b:f6 B w v l)(d:Below B w w')(c:B<=a):f6 a w' v l:=vh.imp b fun g o=>xB.below d c l g o
theorem kW.cells{B:Nat}{w:C4}{a:Option Addr}{n e:Nat}{l:List Ex}(j:kW B w (.slice a n e) l){i:Nat}{k op m:Int}{td:C3}{tc:List Ex}(c:l[i]?=some (.mk k op m td tc)):
 ∃(g o:Nat) (v:C5),a=some ⟨g,o,none⟩/\g<B/\w.cell? (g,o+i*5)=some (.int .i64 k)/\w.cell? (g,o+i*5+1)=some (.int .i64 op)/\w.cell? (g,o+i*5+2)=some (.int .i64 m)/\
   w.cell? (g,o+i*5+3)=some (.string td)/\w.cell? (g,o+i*5+4)=some v/\kW B w v tc:=by
 obtain⟨_,_,y,_,hF⟩:=j;injection y with f _ _;subst f;obtain⟨g,o,t,u⟩:=hF Ka;have d:=kM.at l g o i _ u c;rw[z3]at d;obtain⟨b,p,q,r,_,v,s,x⟩:=d;exact⟨g,o,v,t,b.1,b.2,p.2,q.2,r.2,s.2,x⟩
theorem kW.range{B:Nat}{w:C4}{v:C5}{l:List Ex}(c:kW B w v l){i:Nat}{k op m:Int}{td:C3}{tc:List Ex}(a:l[i]?=some (.mk k op m td tc)):fT m:=by
 obtain⟨_,_,_,_,hF⟩:=c;obtain⟨g,o,_,d⟩:=hF Xd;have b:=kM.at l g o i _ d a;rw[z3]at b;exact b.2.2.2.2.1
theorem f6.cells{B:Nat}{w:C4}{c:Option Addr}{n m:Nat}{l:List St}(q:f6 B w (.slice c n m) l){i:Nat}{k j:Int}{td:C3}{tc:List Ex}{tg th:List St}(e:l[i]?=some (.mk k j td tc tg th)):
 ∃(g o:Nat) (v a b:C5),c=some ⟨g,o,none⟩/\g<B/\w.cell? (g,o+i*6)=some (.int .i64 k)/\w.cell? (g,o+i*6+1)=some (.int .i64 j)/\w.cell? (g,o+i*6+2)=some (.string td)/\
   w.cell? (g,o+i*6+3)=some v/\w.cell? (g,o+i*6+4)=some a/\w.cell? (g,o+i*6+5)=some b/\kW B w v tc/\f6 B w a tg/\f6 B w b th:=by
 obtain⟨_,_,E,_,hF⟩:=q;injection E with p _ _;subst p;obtain⟨g,o,y,z⟩:=hF (by have:=(List.getElem?_eq_some_iff.1 e).1;omega);have f:=xB.at l g o i _ z e;rw[EP]at f;obtain⟨d,r,s,⟨v,t,A⟩,⟨a,u,C⟩,⟨b,x,D⟩⟩:=f;exact⟨g,o,v,a,b,y,d.1,d.2,r.2,s.2,t.2,u.2,x.2,A,C,D⟩
def uv{α:Type}(b:Nat)(F:α->Nat->Nat->Prop):List α->Nat->Nat->Prop
 |[],_,_=>True
 |a::r,g,o=>F a g o/\uv b F r g (o+b)
theorem uv.imp{α:Type}{b:Nat}{F G:α->Nat->Nat->Prop}(k:∀a g o,F a g o->G a g o):∀(l:List α) (g o:Nat),uv b F l g o->uv b G l g o
 |[],_,_,_=>trivial
 |a::r,g,o,h=>⟨k a g o h.1,uv.imp k r g (o+b) h.2⟩
theorem uv.at{α:Type}{b:Nat}{F:α->Nat->Nat->Prop}:∀(l:List α) (g o i:Nat) (a:α),uv b F l g o->l[i]?=some a->F a g (o+i*b)
 |[],_,_,_,_,_,h=>Xb
 | a::r,g,o,0,e,h,hi=>by
   simp at hi;subst hi;simpa using h.1
 | a::r,g,o,i+1,e,h,hi=>by
   have:=uv.at r g (o+b) i e h.2 Gd;rw[show o+(i+1)*b=o+b+i*b by rw[Nat.add_mul,Nat.one_mul];omega];exact this
def VK(B:Nat)(w:C4)(a:Ar)(g o:Nat):Prop:=fK B w g o (.string a.name)/\fK B w g (o+1) (.int .i64 a.size)
def QT(B:Nat)(w:C4)(a:Pa)(g o:Nat):Prop:=fK B w g o (.string a.name)/\fK B w g (o+1) (.int .i64 a.type)
def gN(B:Nat)(w:C4)(v:C5)(l:List Ar):Prop:=vh v l.length (uv 2 (VK B w) l)
def gU(B:Nat)(w:C4)(v:C5)(l:List Pa):Prop:=vh v l.length (uv 2 (QT B w) l)/\∀A n c,v=.slice A n c->n<=c
def VL(B:Nat)(w:C4)(f:Fu)(g o:Nat):Prop:=fK B w g o (.string f.name)/\fK B w g (o+1) (.int .i64 f.type)/\(∃v,fK B w g (o+2) v/\gU B w v f.params)/\(∃v,fK B w g (o+3) v/\f6 B w v f.body)
def gO(B:Nat)(w:C4)(v:C5)(l:List Fu):Prop:=vh v l.length (uv 4 (VL B w) l)
theorem VK.below{B b:Nat}{w w':C4}(e:Below B w w')(d:B<=b)(a:Ar)(g o:Nat)(c:VK B w a g o):VK b w' a g o:=⟨c.1.below e d,c.2.below e d⟩
theorem QT.below{B b:Nat}{w w':C4}(e:Below B w w')(d:B<=b)(a:Pa)(g o:Nat)(c:QT B w a g o):QT b w' a g o:=⟨c.1.below e d,c.2.below e d⟩
theorem gN.below{B b:Nat}{w w':C4}{v:C5}{l:List Ar}(c:gN B w v l)(e:Below B w w')(d:B<=b):gN b w' v l:=vh.imp c fun g o=>uv.imp (fun a g o=>VK.below e d a g o) l g o
theorem gU.below{B b:Nat}{w w':C4}{v:C5}{l:List Pa}(c:gU B w v l)(e:Below B w w')(d:B<=b):gU b w' v l:=⟨vh.imp c.1 fun g o=>uv.imp (fun a g o=>QT.below e d a g o) l g o,c.2⟩
theorem VL.below{B d:Nat}{w w':C4}(c:Below B w w')(b:B<=d)(a:Fu)(g o:Nat)(e:VL B w a g o):VL d w' a g o:=by
 obtain⟨f,i,⟨v,j,k⟩,⟨v',l,m⟩⟩:=e;exact⟨f.below c b,i.below c b,⟨v,j.below c b,k.below c b⟩,⟨v',l.below c b,m.below c b⟩⟩
theorem gO.below{B b:Nat}{w w':C4}{v:C5}{l:List Fu}(c:gO B w v l)(e:Below B w w')(d:B<=b):gO b w' v l:=vh.imp c fun g o=>uv.imp (fun a g o=>VL.below e d a g o) l g o
theorem vh.elem{v:C5}{n:Nat}{F:Nat->Nat->Prop}{a:Option Addr}{m c:Nat}(e:vh v n F)(i:v=.slice a m c)(f:0<n):∃g o,a=some ⟨g,o,none⟩/\F g o:=by
 obtain⟨_,_,b,_,hF⟩:=e;rw[i]at b;injection b with d _ _;subst d;exact hF f
theorem gN.cells{B:Nat}{w:C4}{b:Option Addr}{n d:Nat}{l:List Ar}(e:gN B w (.slice b n d) l){i:Nat}{a:Ar}(c:l[i]?=some a):
 ∃(g o:Nat),b=some ⟨g,o,none⟩/\g<B/\w.cell? (g,o+i*2)=some (.string a.name)/\w.cell? (g,o+i*2+1)=some (.int .i64 a.size):=by
 obtain⟨g,o,f,j⟩:=vh.elem e rfl Ka;have:=uv.at l g o i a j c;exact⟨g,o,f,this.1.1,this.1.2,this.2.2⟩
theorem gU.cells{B:Nat}{w:C4}{b:Option Addr}{n d:Nat}{l:List Pa}(e:gU B w (.slice b n d) l){i:Nat}{a:Pa}(c:l[i]?=some a):
 ∃(g o:Nat),b=some ⟨g,o,none⟩/\g<B/\w.cell? (g,o+i*2)=some (.string a.name)/\w.cell? (g,o+i*2+1)=some (.int .i64 a.type):=by
 obtain⟨g,o,f,j⟩:=vh.elem e.1 rfl Ka;have:=uv.at l g o i a j c;exact⟨g,o,f,this.1.1,this.1.2,this.2.2⟩
theorem gO.cells{B:Nat}{w:C4}{a:Option Addr}{n d:Nat}{l:List Fu}(e:gO B w (.slice a n d) l){i:Nat}{f:Fu}(c:l[i]?=some f):
 ∃(g o:Nat) (v v':C5),a=some ⟨g,o,none⟩/\g<B/\w.cell? (g,o+i*4)=some (.string f.name)/\w.cell? (g,o+i*4+1)=some (.int .i64 f.type)/\w.cell? (g,o+i*4+2)=some v/\w.cell? (g,o+i*4+3)=some v'/\gU B w v f.params/\f6 B w v' f.body:=by
 obtain⟨g,o,r,s⟩:=vh.elem e rfl Ka;obtain⟨b,j,⟨v,k,m⟩,⟨v',p,q⟩⟩:=uv.at l g o i f s c;exact⟨g,o,v,v',r,b.1,b.2,j.2,k.2,p.2,m,q⟩
theorem gN.form{B:Nat}{w:C4}{v:C5}{l:List Ar}(c:gN B w v l):∃a b,v=.slice a l.length b/\l.length<=281474976710656:=by
 obtain⟨a,b,e,d,_⟩:=c;exact⟨a,b,e,d⟩
theorem gU.form{B:Nat}{w:C4}{v:C5}{l:List Pa}(c:gU B w v l):∃a b,v=.slice a l.length b/\l.length<=281474976710656:=by
 obtain⟨a,b,e,d,_⟩:=c.1;exact⟨a,b,e,d⟩
theorem gO.form{B:Nat}{w:C4}{v:C5}{l:List Fu}(c:gO B w v l):∃a b,v=.slice a l.length b/\l.length<=281474976710656:=by
 obtain⟨a,b,e,d,_⟩:=c;exact⟨a,b,e,d⟩
theorem kW.form{B:Nat}{w:C4}{v:C5}{l:List Ex}(c:kW B w v l):∃a b,v=.slice a l.length b/\l.length<=281474976710656:=by
 obtain⟨a,b,e,d,_⟩:=c;exact⟨a,b,e,d⟩
theorem f6.form{B:Nat}{w:C4}{v:C5}{l:List St}(c:f6 B w v l):∃a b,v=.slice a l.length b/\l.length<=281474976710656:=by
 obtain⟨a,b,e,d,_⟩:=c;exact⟨a,b,e,d⟩
def k1(B:Nat)(w:C4)(e:Ex)(x:C5):Prop:=∃v,x=.agg #[(e.kind:Int),(e.op:Int),(e.n:Int),e.name,v]/\fT e.n/\kW B w v e.args
theorem k1.below{B a:Nat}{w w':C4}{e:Ex}{x:C5}(b:k1 B w e x)(d:Below B w w')(c:B<=a):k1 a w' e x:=by
 obtain⟨v,i,f,g⟩:=b;exact⟨v,i,f,g.below d c⟩
theorem vj(B:Nat)(w:C4):kW B w (.slice none 0 0) []:=⟨none,0,rfl,Dx _,fun h=>absurd h Uh⟩
theorem CF(B:Nat)(w:C4):f6 B w (.slice none 0 0) []:=⟨none,0,rfl,Dx _,fun h=>absurd h Uh⟩
theorem KP(B:Nat)(w:C4):gN B w (.slice none 0 0) []:=⟨none,0,rfl,Dx _,fun h=>absurd h Uh⟩
theorem vI{w:C4}{b:Nat}{a:Array C5}{T:TypeId}{fr:Nat×Nat}{B:Nat}(e:w.heap[b]?=some (.cells a T fr))(d:b<B)(j:Nat)(c:C5)(f:a[j]?=some c):fK B w b j c:=⟨d,(Du e j).trans f⟩
theorem IA{w:C4}{b B:Nat}{a:Array C5}{T:TypeId}{fr:Nat×Nat}(d:w.heap[b]?=some (.cells a T fr))(c:b<B)(o:Nat){k op n:Int}{td:C3}{tc:List Ex}{v:C5}(l:fT n)(m:kW B w v tc)
 (e:a[o]?=some (.int .i64 k)) (f:a[o+1]?=some (.int .i64 op)) (g:a[o+2]?=some (.int .i64 n)) (i:a[o+3]?=some (.string td)) (j:a[o+4]?=some v):z3 B w (.mk k op n td tc) b o:=by
 rw[z3];exact⟨vI d c _ _ e,vI d c _ _ f,vI d c _ _ g,vI d c _ _ i,l,v,vI d c _ _ j,m⟩
theorem WB{w:C4}{b B:Nat}{k op n:Int}{td:C3}{tc:List Ex}{v:C5}{T:TypeId}{fr:Nat×Nat}(c:w.heap[b]?=some (.cells #[(k:Int),(op:Int),(n:Int),td,v] T fr))(a:b<B)(d:fT n)(e:kW B w v tc):
 kW B w (.slice (some ⟨b,0,none⟩) 1 1) [.mk k op n td tc]:=by
 refine⟨_,1,rfl,Uh,fun _=>⟨b,0,rfl,?_⟩⟩;rw[kM,kM];exact⟨IA c a 0 d e rfl rfl rfl rfl rfl,trivial⟩
theorem KQ{w:C4}{b B:Nat}{k op n f i a:Int}{td g:C3}{tc c:List Ex}{v v':C5}{T:TypeId}{fr:Nat×Nat}
 (e:w.heap[b]?=some (.cells #[(k:Int),(op:Int),(n:Int),td,v,(f:Int),(i:Int),(a:Int),g,v'] T fr)) (d:b<B) (j:fT n) (m:kW B w v tc) (l:fT a) (o:kW B w v' c):
 kW B w (.slice (some ⟨b,0,none⟩) 2 2) [.mk k op n td tc,.mk f i a g c]:=by
 refine⟨_,2,rfl,Uh,fun _=>⟨b,0,rfl,?_⟩⟩;rw[kM,kM,kM];exact⟨IA e d 0 j m rfl rfl rfl rfl rfl,IA e d 5 l o rfl rfl rfl rfl rfl,trivial⟩
theorem zA(w:C4)(o:Obj):(w.alloc o).heap.size=w.heap.size+1:=Uh
theorem xC(w:C4)(a:Addr)(u:C5):(w.setCell a u).heap.size=w.heap.size:=Uh
def g2(w:C4)(b:Nat)(a c d e f:C5):C4:=((((w.setCell (b,0) a).setCell (b,1) c).setCell (b,2) d).setCell (b,3) e).setCell (b,4) f
theorem xf(w:C4)(b:Nat)(a c d e f:C5):(g2 w b a c d e f).heap.size=w.heap.size:=by simp[g2]
theorem l7{w:C4}{b:Nat}{g i j k l:C5}{T:TypeId}{fr:Nat×Nat}(m:w.heap[b]?=some (.cells #[g,i,j,k,l] T fr))(a c d e f:C5):(g2 w b a c d e f).heap[b]?=some (.cells #[a,c,d,e,f] T fr):=
 D3 (D3 (D3 (D3 (D3 m a) c) d) e) f
def Is(w:C4)(g:Nat)(t:TypeId)(a:Array C5):Prop:=w.heap[g]?=some (.cells a t (0,0))
theorem Is.cell{w:C4}{g:Nat}{t:TypeId}{a:Array C5}(b:Is w g t a)(i:Nat):w.cell? (g,i)=a[i]?:=cell_of_row w g i a t (0,0) b
theorem Is.frozen{w:C4}{g:Nat}{t:TypeId}{b:Array C5}(a:Is w g t b)(i:Nat):w.frozen? (g,i)=false:=by
 unfold Is at a;simp[World.frozen?,a]
theorem Is.lt{w:C4}{g:Nat}{t:TypeId}{a:Array C5}(b:Is w g t a):g<w.heap.size:=(Array.getElem?_eq_some_iff.1 b).1
theorem Is.below{w w':C4}{g:Nat}{t:TypeId}{a:Array C5}{B:Nat}(b:Is w g t a)(c:Below B w w')(d:g<B):Is w' g t a:=(c.block g d).trans b
theorem Is.set{w:C4}{g:Nat}{t:TypeId}{a:Array C5}(b:Is w g t a)(i:Nat)(c:C5):Is (w.setCell (g,i) c) g t (a.setIfInBounds i c):=by
 unfold Is at b ⊢;simp[World.setCell,Array.getElem?_modify,b]
section
variable {a w:C4}{g:Nat}
end
def jR(a:List fH):List C5:=a.flatMap fun t=>[.int .i64 t.kind,.string ⟨t.text.toArray⟩,.int .i64 (t.line:Int)]
theorem lD(a:List fH)(t:fH):jR (a++[t])=jR a++[.int .i64 t.kind,.string ⟨t.text.toArray⟩,.int .i64 (t.line:Int)]:=by simp[jR]
def uI(w:C4)(B:Nat)(v:C5)(a:List fH):Prop:=w.ownsRow B 57 3 v a.length (jR a)
theorem zQ{w w':C4}{B:Nat}{e:TypeId}{b n:Nat}{v:C5}{c:List C5}(a:w.ownsRow B e b v n c)(o:∀k,v.ownBlock=some k->w'.heap[k]?=w.heap[k]?):w'.ownsRow B e b v n c:=by
 refine⟨a.1,?_⟩;rcases a.2 with i|⟨g,d,f,rfl,j,l,m⟩
 .exact .inl i
 .exact .inr ⟨g,d,f,rfl,j,(o g rfl).trans l,m⟩
theorem zT{w:C4}{B:Nat}{e:TypeId}{f n:Nat}{v:C5}{i:List C5}(b:w.ownsRow B e f v n i):∀k,v.ownBlock=some k->k<w.heap.size/\B<=k:=by
 intro k a;rcases b.2 with⟨rfl,_⟩|⟨g,_,_,rfl,c,d,_⟩
 .cases a
 .injection a with a
  subst a;exact⟨(Array.getElem?_eq_some_iff.1 d).1,c⟩
theorem zY{w:C4}{B:Nat}{e:TypeId}{f n:Nat}{v:C5}{i:List C5}(d:w.ownsRow B e f v n i):∃a c,v=.slice a n c:=by
 rcases d.2 with⟨rfl,rfl⟩|⟨g,b,_,rfl,_⟩
 .exact⟨none,0,rfl⟩
 .exact⟨_,b,rfl⟩
theorem uJ{w:C4}{B:Nat}{e t:TypeId}{j n:Nat}{v:C5}{k:List C5}{g:Nat}{c:Array C5}(d:w.ownsRow B e j v n k)(f:Is w g t c)(i:e≠t):v.ownBlock≠some g:=by
 rcases d.2 with⟨rfl,_⟩|⟨_,_,_,rfl,_,a,_⟩
 .simp[Value.ownBlock]
 .intro b
  injection b with b;subst b;rw[f]at a;injection a with a;injection a with _ a;exact i a.symm
theorem qS{w w':C4}{B C:Nat}{e:TypeId}{b n:Nat}{v:C5}{c:List C5}(a:w.ownsRow B e b v n c)(f:Below C w w')(d:w.heap.size<=C):w'.ownsRow B e b v n c:=
 zQ a fun k g=>f.block k (Yb (zT a k g).1 d)
theorem EQ:(Tryz.prog.info? 57).map (fun i=>(i.zero,i.size,i.bytes))=some (some (.agg #[(0:Int),.string ⟨#[]⟩,(0:Int)]),3,32):=by kernel_rfl
inductive PR (α:Type) where
 |ok (a:α) (r:List fH)
 |bad (r:List fH)
 |deep (r:List fH)
 |o
def PR.bind{α β:Type}(x:PR α)(f:α->List fH->PR β):PR β:=
 match x with
 |.ok a r=>f a r
 |.bad r=>.bad r
 |.deep r=>.deep r
 |.o=>.o
def zq(s:List UInt8)(l:List fH):Bool:=match l with|t::_=>decide (t.kind=2)&&t.text == s | []=>false
def gW(l:List fH):Int:=match l with|t::_=>t.kind | []=>3
def pZ(l:List fH):List UInt8:=match l with|t::_=>t.text | []=>[]
def zN(s:List UInt8)(l:List fH):PR Unit:=if zq s l then .ok () l.tail else .bad l
def qt(k:Int)(l:List fH):PR C3:=if gW l=k then .ok ⟨(pZ l).toArray⟩ l.tail else .bad l
def p0(op:Int):List UInt8:=(xP op).data.toList
def xX(lev:Int)(l:List fH):List Int->Int
 |[]=>0
 |op::r=>if kG op=lev/\zq (p0 op) l=true then op else xX lev l r
def IB:List Int:=[1,2,3,4,5,6,7,8,9,10,11,12,13,14,15,16,17,18,19]
def MP:List Int:=[20,21,22,23,24,25,26,27,28]
def ER(lev:Int)(l:List fH):Int:=xX lev l IB
def xq(l:List fH):List Int->Int
 |[]=>0
 |op::r=>if zq (p0 op) l=true then op else xq l r
def p1(l:List fH):Int:=xq l MP
def bE:C3:=⟨#[]⟩
def hK:List UInt8:=[116,114,117,101]
def uK:List UInt8:=[102,97,108,115,101]
def l8:List UInt8:=[114,101,97,100]
def k2:List UInt8:=[105,110,116]
def xR:List UInt8:=[98,111,111,108]
def MQ:List UInt8:=[105,102]
def z4:List UInt8:=[101,108,115,101]
def vJ:List UInt8:=[119,104,105,108,101]
def hM:List UInt8:=[98,114,101,97,107]
def rZ:List UInt8:=[99,111,110,116,105,110,117,101]
def ES:List UInt8:=[114,101,116,117,114,110]
def lK:List UInt8:=[112,114,105,110,116]
mutual
def pE:Nat->Int->Int->List fH->PR Ex
 |0,_,_,_=>.o
 |n+1,lev,d,l=>if 10<lev then pU n d l else(pE n (lev+1) d l).bind fun a r=>pL n lev d a r
def pL:Nat->Int->Int->Ex->List fH->PR Ex
 |0,_,_,_,_=>.o
 |n+1,lev,d,a,l=>if ER lev l=0 then .ok a l else(pE n (lev+1) d l.tail).bind fun b r=>pL n lev d (.mk 5 (ER lev l) 0 bE [a,b]) r
def pU:Nat->Int->List fH->PR Ex
 |0,_,_=>.o
 |n+1,d,l=>
   if 100<d then .deep l
   else if p1 l=0 then pP n d l
   else if 23<=p1 l then(zN [40] l.tail).bind fun _ r=>(pE n 1 (d+1) r).bind fun e r=>(zN [41] r).bind fun _ r=>.ok (.mk 4 (p1 l) 0 bE [e]) r
   else(pU n (d+1) l.tail).bind fun e r=>.ok (.mk 4 (p1 l) 0 bE [e]) r
def pP:Nat->Int->List fH->PR Ex
 |0,_,_=>.o
 |n+1,d,l=>
   if zq [40] l=true then(pE n 1 (d+1) l.tail).bind fun e r=>(zN [41] r).bind fun _ r=>.ok e r
   else if zq hK l=true then .ok (.mk 2 0 1 bE []) l.tail
   else if zq uK l=true then .ok (.mk 2 0 0 bE []) l.tail
   else if zq l8 l=true then(zN [40] l.tail).bind fun _ r=>(zN [41] r).bind fun _ r=>.ok (.mk 8 0 0 bE []) r
   else if gW l=0 then .ok (.mk 1 0 (kT 0 (pZ l)) bE []) l.tail
   else(qt 1 l).bind fun s r=>pN n d s r
def pN:Nat->Int->C3->List fH->PR Ex
 |0,_,_,_=>.o
 |n+1,d,s,l=>
   if zq [40] l=true then(pA n (d+1) l.tail).bind fun a r=>.ok (.mk 7 0 0 s a) r
   else if zq [91] l=true then(pE n 1 (d+1) l.tail).bind fun e r=>(zN [93] r).bind fun _ r=>.ok (.mk 6 0 0 s [e]) r
   else .ok (.mk 3 0 0 s []) l
def pA:Nat->Int->List fH->PR (List Ex)
 |0,_,_=>.o
 |n+1,d,l=>if zq [41] l=true then .ok [] l.tail else r0 n d [] l
def r0:Nat->Int->List Ex->List fH->PR (List Ex)
 |0,_,_,_=>.o
 |n+1,d,tk,l=>(pE n 1 d l).bind fun e r=>if zq [44] r=true then r0 n d (tk++[e]) r.tail else(zN [41] r).bind fun _ r=>.ok (tk++[e]) r
end
def pI(n:Nat)(l:List fH):PR Ex:=(zN [40] l).bind fun _ r=>(pE n 1 1 r).bind fun e r=>(zN [41] r).bind fun _ r=>.ok e r
def k3(l:List fH):PR Int:=if zq k2 l=true then .ok 1 l.tail else(zN xR l).bind fun _ r=>.ok 2 r
def vK{α:Type}(x:PR α):PR α:=x.bind fun a r=>(zN [59] r).bind fun _ r=>.ok a r
def q7(n:Nat)(l:List fH):PR St:=(qt 1 l).bind fun s r=>
 if zq [40] r=true then(pA n 2 r.tail).bind fun a r=>.ok (.mk 10 0 bE [.mk 7 0 0 s a] [] []) r
 else if zq [91] r=true then(pE n 1 1 r.tail).bind fun e r=>(zN [93] r).bind fun _ r=>(zN [61] r).bind fun _ r=>(pE n 1 1 r).bind fun f r=>.ok (.mk 3 0 s [e,f] [] []) r
 else(zN [61] r).bind fun _ r=>(pE n 1 1 r).bind fun e r=>.ok (.mk 2 0 s [e] [] []) r
mutual
def pS:Nat->Int->List fH->PR St
 |0,_,_=>.o
 |n+1,d,l=>
   if 100<d then .deep l
   else if zq k2 l=true\/zq xR l=true then vK ((k3 l).bind fun t r=>(qt 1 r).bind fun s r=>(zN [61] r).bind fun _ r=>(pE n 1 1 r).bind fun e r=>.ok (.mk 1 t s [e] [] []) r)
   else if zq MQ l=true then(pI n l.tail).bind fun e r=>(pB n (d+1) r).bind fun t r=>q8 n d e t r
   else if zq vJ l=true then(pI n l.tail).bind fun e r=>(pB n (d+1) r).bind fun t r=>.ok (.mk 5 0 bE [e] t []) r
   else if zq hM l=true then vK (.ok (.mk 6 0 bE [] [] []) l.tail)
   else if zq rZ l=true then vK (.ok (.mk 7 0 bE [] [] []) l.tail)
   else if zq ES l=true then vK ((pE n 1 1 l.tail).bind fun e r=>.ok (.mk 8 0 bE [e] [] []) r)
   else if zq lK l=true then vK ((pI n l.tail).bind fun e r=>.ok (.mk 9 0 bE [e] [] []) r)
   else vK (q7 n l)
def q8:Nat->Int->Ex->List St->List fH->PR St
 |0,_,_,_,_=>.o
 |n+1,d,e,t,l=>if zq z4 l=true then(pB n (d+1) l.tail).bind fun u r=>.ok (.mk 4 0 bE [e] t u) r else .ok (.mk 4 0 bE [e] t []) l
def pB:Nat->Int->List fH->PR (List St)
 |0,_,_=>.o
 |n+1,d,l=>(zN [123] l).bind fun _ r=>nR n d [] r
def nR:Nat->Int->List St->List fH->PR (List St)
 |0,_,_,_=>.o
 |n+1,d,tk,l=>if zq [125] l=true then .ok tk l.tail else(pS n d l).bind fun s r=>nR n d (tk++[s]) r
end
def p2:Nat->List Pa->List fH->PR (List Pa)
 |0,_,_=>.o
 |n+1,tk,l=>(k3 l).bind fun t r=>(qt 1 r).bind fun s r=>if zq [44] r=true then p2 n (tk++[⟨s,t⟩]) r.tail else(zN [41] r).bind fun _ r=>.ok (tk++[⟨s,t⟩]) r
def WC(n:Nat)(l:List fH):PR (List Pa):=(zN [40] l).bind fun _ r=>if zq [41] r=true then .ok [] r.tail else p2 n [] r
def pC(n:Nat)(t:Int)(s:C3)(l:List fH):PR Fu:=(WC n l).bind fun ps r=>(pB n 1 r).bind fun b r=>.ok ⟨s,t,ps,b⟩ r
def p3(s:C3)(l:List fH):PR Ar:=(qt 0 l).bind fun t r=>(zN [93] r).bind fun _ r=>(zN [59] r).bind fun _ r=>.ok ⟨s,kT 0 t.data.toList⟩ r
def k4:Nat->Pr->List fH->PR Pr
 |0,_,_=>.o
 |n+1,p,l=>if gW l=3 then .ok p l else(k3 l).bind fun t r=>(qt 1 r).bind fun s r=>
    if t=1/\p.funcs=[]/\zq [91] r=true then(p3 s r.tail).bind fun a r=>k4 n ⟨p.wa++[a],p.funcs⟩ r
    else(pC n t s r).bind fun f r=>k4 n ⟨p.wa,p.funcs++[f]⟩ r
def qC(l:List fH):Prop:=∃i e,l=i++[e]/\e.kind=3/\∀t∈i,t.kind≠3
theorem qC.ne{l:List fH}(h:qC l):l≠[]:=by obtain⟨i,e,rfl,_⟩:=h;simp
theorem qC.pos{l:List fH}(h:qC l):0<l.length:=List.length_pos_iff.2 h.ne
theorem qC.tail{l:List fH}(c:qC l)(f:gW l≠3):qC l.tail:=by
 obtain⟨i,e,rfl,b,d⟩:=c;cases i with
 |nil=>exact absurd b f
 |cons a i=>exact⟨i,e,rfl,b,fun t g=>d t (Y7 _ g)⟩
theorem uR{s:List UInt8}{l:List fH}(h:zq s l=true):gW l=2/\pZ l=s:=by
 cases l with
 |nil=>cases h
 |cons t r=>
   simp only[zq,D2,decide_eq_true_eq]at h;exact⟨h.1,by simpa[pZ]using h.2⟩
theorem qC.sign{l:List fH}(a:qC l){s:List UInt8}(b:zq s l=true):qC l.tail:=a.tail (by rw[(uR b).1];decide)
theorem jq{l:List fH}(h:qC l):l.tail.length+1=l.length:=by
 have:=h.pos;rw[List.length_tail];omega
theorem vk{lev:Int}{l:List fH}:∀{ops:List Int},xX lev l ops≠0->∃s,zq s l=true
 |[],h=>absurd rfl h
 | op::r,h=>by
   rw[xX]at h;split at h
   .rename_i a
    exact⟨_,a.2⟩
   .exact vk h
theorem hN{l:List fH}:∀{ops:List Int},xq l ops≠0->∃s,zq s l=true
 |[],h=>absurd rfl h
 | op::r,h=>by
   rw[xq]at h;split at h
   .rename_i a
    exact⟨_,a⟩
   .exact hN h
def zJ(k:Nat)(l r:List fH):Prop:=r <:+l/\qC r/\r.length+k<=l.length
def zm{α:Type}(k:Nat)(l:List fH):PR α->Prop
 |.ok _ r=>zJ k l r
 |.bad r=>zJ 0 l r
 |.deep r=>zJ 0 l r
 |.o=>True
theorem zJ.self{l:List fH}(h:qC l):zJ 0 l l:=⟨List.suffix_refl _,h,D0 _⟩
theorem zJ.tail{l:List fH}(a:qC l)(b:gW l≠3):zJ 1 l l.tail:=⟨List.tail_suffix l,a.tail b,by rw[jq a];exact D0 _⟩
theorem zJ.sign{l:List fH}(a:qC l){s:List UInt8}(b:zq s l=true):zJ 1 l l.tail:=zJ.tail a (by rw[(uR b).1];decide)
theorem zJ.trans{k m:Nat}{a b c:List fH}(h:zJ k a b)(g:zJ m b c):zJ (k+m) a c:=⟨g.1.trans h.1,g.2.1,by have:=h.2.2;have:=g.2.2;omega⟩
theorem zJ.mono{k m:Nat}{a b:List fH}(h:zJ k a b)(_:m<=k):zJ m a b:=⟨h.1,h.2.1,by have:=h.2.2;omega⟩
theorem zm.mono{α:Type}{k m:Nat}{l:List fH}{x:PR α}(b:zm k l x)(c:m<=k):zm m l x:=by
 cases x with
 |ok a r=>exact zJ.mono (show zJ k l r from b) c
 |bad r=>exact b
 |deep r=>exact b
 |o=>trivial
theorem zm.from{α:Type}{k m n:Nat}{l r:List fH}{x:PR α}(b:zJ m l r)(g:zm k r x)(c:n<=m+k):zm n l x:=by
 cases x with
 |ok a t=>exact(b.trans (show zJ k r t from g)).mono c
 |bad t=>exact(b.trans (show zJ 0 r t from g)).mono (Dx _)
 |deep t=>exact(b.trans (show zJ 0 r t from g)).mono (Dx _)
 |o=>trivial
theorem zm.bind{α β:Type}{k m n:Nat}{l:List fH}{x:PR α}{f:α->List fH->PR β}(b:zm k l x)(g:∀a r,x=.ok a r->qC r->zm m r (f a r))(c:n<=k+m):zm n l (x.bind f):=by
 cases x with
 |ok a r=>exact zm.from (show zJ k l r from b) (g a r rfl (show zJ k l r from b).2.1) c
 |bad r=>exact b
 |deep r=>exact b
 |o=>trivial
theorem zm.self{α:Type}{l:List fH}(h:qC l)(a:α):zm 0 l (.ok a l):=zJ.self h
theorem zM{l:List fH}(a:qC l)(s:List UInt8):zm 1 l (zN s l):=by
 unfold zN;split
 .rename_i b
  exact zJ.sign a b
 .exact zJ.self a
theorem jJ{l:List fH}(a:qC l)(k:Int)(b:k≠3):zm 1 l (qt k l):=by
 unfold qt;split
 .rename_i c
  exact zJ.tail a (by rw[c];exact b)
 .exact zJ.self a
theorem nZ(n:Nat):(∀lev d l,qC l->zm 1 l (pE n lev d l))/\(∀lev d a l,qC l->zm 0 l (pL n lev d a l))/\(∀d l,qC l->zm 1 l (pU n d l))/\(∀d l,qC l->zm 1 l (pP n d l))/\
 (∀d s l,qC l->zm 0 l (pN n d s l))/\(∀d l,qC l->zm 1 l (pA n d l))/\(∀d tk l,qC l->zm 1 l (r0 n d tk l)):=by
 induction n with
 |zero=>exact⟨fun _ _ _ _=>by rw[pE];trivial,fun _ _ _ _ _=>by rw[pL];trivial,fun _ _ _=>by rw[pU];trivial,fun _ _ _=>by rw[pP];trivial,fun _ _ _ _=>by rw[pN];trivial,fun _ _ _=>by rw[pA];trivial,fun _ _ _ _=>by rw[r0];trivial⟩
 |succ n v=>
   obtain⟨g,k,o,u,t,q,j⟩:=v;refine⟨fun lev d l b=>?_,fun lev d a l b=>?_,fun d l b=>?_,fun d l b=>?_,fun d s l b=>?_,fun d l b=>?_,fun d tk l b=>?_⟩
   .rw[pE]
    split
    .exact o d l b
    .exact(g _ _ _ b).bind (fun a r _ c=>k _ _ _ _ c) O
   .rw[pL]
    split
    .exact zm.self b _
    .rename_i i
     obtain⟨s,f⟩:=vk i;exact zm.from (zJ.sign b f) ((g _ _ _ (b.sign f)).bind (n:=1) (fun a r _ c=>k _ _ _ _ c) O) O
   .rw[pU]
    split
    .exact zJ.self b
    .split
     .exact u d l b
     .rename_i i
      obtain⟨s,f⟩:=hN i;split
      .exact zm.from (zJ.sign b f) ((zM (b.sign f) _).bind (n:=0) (fun _ r _ c=>(g _ _ _ c).bind (n:=0) (fun e r _ c=>(zM c _).bind (n:=0) (fun _ r _ c=>zm.self c _) O) O) O) O
      .exact zm.from (zJ.sign b f) ((o _ _ (b.sign f)).bind (n:=0) (fun _ r _ c=>zm.self c _) O) O
   .rw[pP]
    split
    .rename_i f
     exact Oj
    .split
     .rename_i f
      exact zJ.sign b f
     .split
      .rename_i f
       exact zJ.sign b f
      .split
       .rename_i f
        exact zm.from (zJ.sign b f) ((zM (b.sign f) _).bind (n:=0) (fun _ r _ c=>(zM c _).bind (n:=0) (fun _ r _ c=>zm.self c _) O) O) O
       .split
        .rename_i p
         exact zJ.tail b (by rw[p];decide)
        .exact(jJ b 1 Uf).bind (fun s r _ c=>t _ _ _ c) O
   .rw[pN]
    split
    .rename_i f
     exact zm.from (zJ.sign b f) ((q _ _ (b.sign f)).bind (n:=0) (fun _ r _ c=>zm.self c _) O) O
    .split
     .rename_i f
      exact Oj
     .exact zm.self b _
   .rw[pA]
    split
    .rename_i f
     exact zJ.sign b f
    .exact j _ _ _ b
   .rw[r0]
    refine(g _ _ _ b).bind (m:=0) (fun e r _ c=>?_) O;split
    .rename_i f
     exact zm.from (zJ.sign c f) (j _ _ _ (c.sign f)) O
    .exact(zM c _).bind (n:=0) (fun _ r _ c=>zm.self c _) O
theorem jC{n:Nat}{lev d:Int}{l:List fH}(h:qC l):zm 1 l (pE n lev d l):=(nZ n).1 lev d l h
theorem CG{n:Nat}{d:Int}{l:List fH}(h:qC l):zm 1 l (pA n d l):=(nZ n).2.2.2.2.2.1 d l h
theorem yq{n:Nat}{l:List fH}(b:qC l):zm 1 l (pI n l):=by
 unfold pI;exact(zM b _).bind (m:=0) (fun _ r _ a=>(jC a).bind (n:=0) (fun e r _ a=>(zM a _).bind (n:=0) (fun _ r _ a=>zm.self a _) O) O) O
theorem xr{l:List fH}(a:qC l):zm 1 l (k3 l):=by
 unfold k3;split
 .rename_i c
  exact zJ.sign a c
 .exact(zM a _).bind (m:=0) (fun _ r _ b=>zm.self b _) O
theorem yG{α:Type}{k:Nat}{l:List fH}{x:PR α}(b:zm k l x):zm k l (vK x):=by
 unfold vK;exact b.bind (m:=0) (fun _ r _ a=>(zM a _).bind (n:=0) (fun _ r _ a=>zm.self a _) O) O
theorem ET{n:Nat}{l:List fH}(c:qC l):zm 1 l (q7 n l):=by
 unfold q7;refine(jJ c 1 Uf).bind (m:=0) (fun s r _ a=>?_) O;split
 .rename_i b
  exact zm.from (zJ.sign a b) ((CG (a.sign b)).bind (n:=0) (fun _ r _ a=>zm.self a _) O) O
 .split
  .rename_i b
   exact zm.from (zJ.sign a b) ((jC (a.sign b)).bind (n:=0) (fun e r _ a=>(zM a _).bind (n:=0) (fun _ r _ a=>(zM a _).bind (n:=0) (fun _ r _ a=>(jC a).bind (n:=0) (fun _ r _ a=>zm.self a _) O) O) O) O) O
  .exact(zM a _).bind (n:=0) (fun _ r _ a=>(jC a).bind (n:=0) (fun _ r _ a=>zm.self a _) O) O
theorem z5(n:Nat):(∀d l,qC l->zm 1 l (pS n d l))/\(∀d e t l,qC l->zm 0 l (q8 n d e t l))/\(∀d l,qC l->zm 1 l (pB n d l))/\(∀d tk l,qC l->zm 1 l (nR n d tk l)):=by
 induction n with
 |zero=>exact⟨fun _ _ _=>by rw[pS];trivial,fun _ _ _ _ _=>by rw[q8];trivial,fun _ _ _=>by rw[pB];trivial,fun _ _ _ _=>by rw[nR];trivial⟩
 |succ n k=>
   obtain⟨j,i,f,g⟩:=k;refine⟨fun d l b=>?_,fun d e t l b=>?_,fun d l b=>?_,fun d tk l b=>?_⟩
   .rw[pS]
    split
    .exact zJ.self b
    .split
     .refine yG ((xr b).bind (m:=0) (fun t r _ a=>(jJ a 1 Uf).bind (n:=0) (fun s r _ a=>(zM a _).bind (n:=0) (fun _ r _ a=>(jC a).bind (n:=0) (fun _ r _ a=>zm.self a _) O) O) O) O)
     .split
      .rename_i c
       exact zm.from (zJ.sign b c) ((yq (b.sign c)).bind (n:=0) (fun e r _ a=>(f _ _ a).bind (n:=0) (fun t r _ a=>i _ _ _ _ a) O) O) O
      .split
       .rename_i c
        exact zm.from (zJ.sign b c) ((yq (b.sign c)).bind (n:=0) (fun e r _ a=>(f _ _ a).bind (n:=0) (fun t r _ a=>zm.self a _) O) O) O
       .split
        .rename_i c
         exact yG (show zJ 1 l l.tail from zJ.sign b c)
        .split
         .rename_i c
          exact yG (show zJ 1 l l.tail from zJ.sign b c)
         .split
          .rename_i c
           exact yG (zm.from (zJ.sign b c) ((jC (b.sign c)).bind (n:=0) (fun _ r _ a=>zm.self a _) O) O)
          .split
           .rename_i c
            exact yG (zm.from (zJ.sign b c) ((yq (b.sign c)).bind (n:=0) (fun _ r _ a=>zm.self a _) O) O)
           .exact yG (ET b)
   .rw[q8]
    split
    .rename_i c
     exact zm.from (zJ.sign b c) ((f _ _ (b.sign c)).bind (n:=0) (fun _ r _ a=>zm.self a _) O) O
    .exact zm.self b _
   .rw[pB]
    exact(zM b _).bind (m:=0) (fun _ r _ a=>(g _ _ _ a).mono O) O
   .rw[nR]
    split
    .rename_i c
     exact zJ.sign b c
    .exact(j _ _ b).bind (m:=0) (fun _ r _ a=>(g _ _ _ a).mono O) O
theorem rA{n:Nat}{d:Int}{l:List fH}(h:qC l):zm 1 l (pS n d l):=(z5 n).1 d l h
theorem iX{n:Nat}{d:Int}{l:List fH}(h:qC l):zm 1 l (pB n d l):=(z5 n).2.2.1 d l h
theorem EU:∀(n:Nat) (tk:List Pa) (l:List fH),qC l->zm 1 l (p2 n tk l)
 |0,_,_,_=>by rw[p2];trivial
 | n+1,tk,l,h=>by
   rw[p2];refine(xr h).bind (m:=0) (fun t r _ a=>(jJ a 1 Uf).bind (m:=0) (fun s r _ a=>?_) O) O;split
   .rename_i b
    exact zm.from (zJ.sign a b) (EU n _ _ (a.sign b)) O
   .exact(zM a _).bind (n:=0) (fun _ r _ a=>zm.self a _) O
theorem r1{n:Nat}{l:List fH}(b:qC l):zm 1 l (WC n l):=by
 unfold WC;refine(zM b _).bind (m:=0) (fun _ r _ a=>?_) O;split
 .rename_i c
  exact(show zJ 1 r r.tail from zJ.sign a c).mono O
 .exact(EU n _ _ a).mono O
theorem hP{n:Nat}{t:Int}{s:C3}{l:List fH}(b:qC l):zm 1 l (pC n t s l):=by
 unfold pC;exact(r1 b).bind (m:=0) (fun _ r _ a=>(iX a).bind (n:=0) (fun _ r _ a=>zm.self a _) O) O
theorem z6{s:C3}{l:List fH}(b:qC l):zm 1 l (p3 s l):=by
 unfold p3;exact(jJ b 0 Uf).bind (m:=0) (fun _ r _ a=>(zM a _).bind (n:=0) (fun _ r _ a=>(zM a _).bind (n:=0) (fun _ r _ a=>zm.self a _) O) O) O
def gR(b:Nat)(w:C4):C4:={ w with heap:=w.heap.setIfInBounds b (.cells #[] 0 (0,0)) }
theorem uS(b:Nat)(w:C4):(gR b w).heap.size=w.heap.size:=by simp[gR]
theorem uw{b k:Nat}(w:C4)(h:k≠b):(gR b w).heap[k]?=w.heap[k]?:=by
 simp only[gR,Array.getElem?_setIfInBounds];rw[Dp (fun e=>h e.symm)]
theorem IC{b:Nat}(w:C4):(gR b w).heap[b]?=if b<w.heap.size then some (.cells #[] 0 (0,0))else none:=by
 simp only[gR,Array.getElem?_setIfInBounds,if_true]
def fI(b B:Nat)(w w':C4):Prop:=Below B (gR b w) (gR b w')
theorem fI.mk'{b B:Nat}{w w':C4}(a:w'.os=w.os)(c:w'.tape=w.tape)(d:w'.output=w.output)(f:w.heap.size<=w'.heap.size)(i:b<w.heap.size)(g:∀k,k<B->k≠b->w'.heap[k]?=w.heap[k]?):fI b B w w':=by
 refine⟨a,c,d,by rw[uS,uS];exact f,fun k j=>?_⟩;by_cases e:k=b
 .subst e
  rw[IC,IC,Dq i,Dq O]
 .rw[uw w' e,uw w e]
  exact g k j e
theorem fI.refl(b B:Nat)(w:C4):fI b B w w:=D4 _ _
theorem fI.trans{b B:Nat}{w w' a:C4}(c:fI b B w w')(g:fI b B w' a):fI b B w a:=Below.trans c g
theorem fI.mono{b B a:Nat}{w w':C4}(c:fI b B w w')(d:a<=B):fI b a w w':=Below.mono c d
theorem fI.size{b B:Nat}{w w':C4}(h:fI b B w w'):w.heap.size<=w'.heap.size:=by have:=Below.size h;rw[uS,uS]at this;exact this
theorem fI.block{b B k:Nat}{w w':C4}(c:fI b B w w')(d:k<B)(a:k≠b):w'.heap[k]?=w.heap[k]?:=by have:=Below.block c k d;rw[uw w a,uw w' a]at this;exact this
theorem fI.cell{b B k o:Nat}{w w':C4}(a:fI b B w w')(d:k<B)(c:k≠b):w'.cell? (k,o)=w.cell? (k,o):=D6 (w:=w) (a.block d c)
theorem fI.wb{b B:Nat}{w w':C4}(a:Below B w w')(c:b<w.heap.size):fI b B w w':=fI.mk' a.os a.tape a.output a.size c fun k d _=>a.block k d
theorem fI.drewN{b B:Nat}{w w':C4}(h:fI b B w w')(n:Nat):fI b B w (w'.drewN n):=Below.trans h ⟨rfl,rfl,rfl,D0 _,fun _ _=>rfl⟩
theorem fI.wt{b B:Nat}{w w':C4}(c:fI b B w w')(d:b<w'.heap.size)(i:Nat)(a:C5):fI b B w (w'.setCell (b,i) a):=
 c.trans (fI.mk' rfl rfl rfl Uk d fun k _ e=>Dw w' _ a k e)
theorem fI.setCell{b B g:Nat}{w w':C4}(c:fI b B w w')(d:b<w'.heap.size)(_:B<=g)(i:Nat)(a:C5):fI b B w (w'.setCell (g,i) a):=
 c.trans (fI.mk' rfl rfl rfl Uk d fun k _ _=>Dw w' _ a k (by show k≠g;omega))
theorem fK.unhole{b B:Nat}{w:C4}{g o:Nat}{f:C5}(d:fK B (gR b w) g o f):fK B w g o f:=by
 refine⟨d.1,?_⟩;by_cases e:g=b
 .subst e
  have a:=d.2;unfold World.cell? at a;rw[show(gR g w).heap[(⟨g,o,none⟩:Addr).block]?=(gR g w).heap[g]? from rfl,IC]at a;split at a
  .rename_i c
   split at c
   .injection c with c
    injection c with i _ _;subst i;simp at a
   .cases c
  .cases a
 .rw[<-d.2]
  exact(D6 (w:=gR b w) (w':=w) (uw w e).symm)
def k5(b:Nat)(V:C5)(tj:List fH)(w:C4):Prop:=
 ∃(g c:Nat),V=.slice (some ⟨g,0,none⟩) tj.length c/\g≠b/\g<w.heap.size/\(∀(j:Nat) u,(jR tj)[j]?=some u->w.cell? (g,j)=some u)/\tj.length<=1000000/\∀t∈tj,t.kind=0->xM t.text=true/\(⟨t.text.toArray⟩:C3).size<=281474976710656
theorem k5.off{b:Nat}{V:C5}{tj:List fH}{w w':C4}(f:k5 b V tj w)(e:fI b w.heap.size w w'):k5 b V tj w':=by
 obtain⟨g,c,n,a,d,i,k,l⟩:=f;exact⟨g,c,n,a,Yb d e.size,fun j o m=>(e.cell d a).trans (i j o m),k,l⟩
def zc(b:Nat)(V:C5)(tj r:List fH)(a dp:Bool)(w:C4):Prop:=
 Is w b 54 #[V,(((tj.length-r.length:Nat):Int):Int),.bool a,.bool dp]/\k5 b V tj w/\r <:+tj/\qC r
theorem zc.lt{b:Nat}{V:C5}{tj r:List fH}{a dp:Bool}{w:C4}(c:zc b V tj r a dp w):b<w.heap.size:=c.1.lt
theorem zc.cells{b:Nat}{V:C5}{tj r:List fH}{c dp:Bool}{w:C4}(a:zc b V tj r c dp w):
 w.cell? (b,0)=some V/\w.cell? (b,1)=some (.int .i64 ((tj.length-r.length:Nat):Int))/\w.cell? (b,2)=some (.bool c)/\w.cell? (b,3)=some (.bool dp):=
 ⟨(a.1.cell 0).trans rfl,(a.1.cell 1).trans rfl,(a.1.cell 2).trans rfl,(a.1.cell 3).trans rfl⟩
theorem MR{tj r:List fH}(h:r <:+tj){t:fH}{q:List fH}(e:r=t::q):tj[tj.length-r.length]?=some t:=by
 obtain⟨p,rfl⟩:=h;subst e;rw[Dr,Yu,Yi Zr,Yy];rfl
theorem MS(b:List fH)(k:Nat)(t:fH)(c:b[k]?=some t):(jR b)[k*3]?=some (.int .i64 t.kind)/\(jR b)[k*3+1]?=some (.string ⟨t.text.toArray⟩)/\(jR b)[k*3+2]?=some (.int .i64 (t.line:Int)):=by
 induction b generalizing k with
 |nil=>simp at c
 |cons a r i=>
   have e:jR (a::r)=.int .i64 a.kind :: .string ⟨a.text.toArray⟩ :: .int .i64 (a.line:Int)::jR r:=by simp[jR]
   rw[e];cases k with
   |zero=>
     simp at c;subst c;exact⟨rfl,rfl,rfl⟩
   |succ k=>
     obtain⟨d,f,g⟩:=i k Uy;rw[show(k+1)*3=k*3+1+1+1 by omega];exact⟨d,f,g⟩
theorem zc.tok{b:Nat}{V:C5}{tj r:List fH}{d dp:Bool}{w:C4}(e:zc b V tj r d dp w):∃(g c k:Nat) (t:fH) (q:List fH),V=.slice (some ⟨g,0,none⟩) tj.length c/\r=t::q/\k=tj.length-r.length/\k<tj.length/\tj.length<=1000000/\
 w.cell? (b,0)=some (.slice (some ⟨g,0,none⟩) tj.length c)/\w.cell? (b,1)=some (.int .i64 (k:Int))/\w.cell? (b,2)=some (.bool d)/\w.cell? (b,3)=some (.bool dp)/\
 w.cell? (g,k*3)=some (.int .i64 t.kind)/\w.cell? (g,k*3+1)=some (.string ⟨t.text.toArray⟩)/\w.cell? (g,k*3+2)=some (.int .i64 (t.line:Int)):=by
 obtain⟨j,l,m,n⟩:=e.cells;obtain⟨_,⟨g,c,i,_,_,a,v,_⟩,x,u⟩:=e;obtain⟨t,q,rfl⟩:=List.exists_cons_of_ne_nil u.ne;have f:=MR x rfl;obtain⟨o,p,s⟩:=MS tj _ t f;refine⟨g,c,_,t,q,i,rfl,rfl,?_,v,i▸j,l,m,n,a _ _ o,a _ _ p,a _ _ s⟩;exact(List.getElem?_eq_some_iff.1 f).1
def PR.un{α:Type}(x:PR α):PR Unit:=x.bind fun _ r=>.ok () r
def qD{α:Type}:PR α->Bool
 |.ok _ _=>false
 |_=>true
def zU{α:Type}(s:List UInt8):PR α->Bool
 |.ok _ r=>zq s r
 |_=>false
def jm(b:Nat)(V:C5)(tj:List fH)(x:PR Unit)(w:C4):Prop:=
 match x with
 |.ok _ r=>zc b V tj r false false w
 |.bad r=>zc b V tj r true false w
 |.deep r=>zc b V tj r false true w
 |.o=>False
def ja{α:Type}(x:PR α)(P:α->Prop):Prop:=
 match x with
 |.ok a _=>P a
 |.bad _=>∃a,P a
 |.deep _=>∃a,P a
 |.o=>True
theorem zc.off{b:Nat}{V:C5}{tj r:List fH}{c dp:Bool}{w w':C4}(a:zc b V tj r c dp w)(d:Cy w w'):zc b V tj r c dp w':=
 ⟨a.1.below d a.1.lt,a.2.1.off (fI.wb d a.lt),a.2.2⟩
theorem jm.below{b:Nat}{V:C5}{tj:List fH}{x:PR Unit}{w w':C4}(c:jm b V tj x w)(d:Cy w w'):jm b V tj x w':=by
 cases x with
 |ok a r=>exact zc.off c d
 |bad r=>exact zc.off c d
 |deep r=>exact zc.off c d
 |o=>exact c
theorem jm.lt{b:Nat}{V:C5}{tj:List fH}{x:PR Unit}{w:C4}(h:jm b V tj x w):b<w.heap.size:=by
 cases x with
 |ok a r=>exact zc.lt h
 |bad r=>exact zc.lt h
 |deep r=>exact zc.lt h
 |o=>exact absurd h id
theorem jm.drewN{b:Nat}{V:C5}{tj:List fH}{x:PR Unit}{w:C4}(h:jm b V tj x w)(n:Nat):jm b V tj x (w.drewN n):=h.below (yZ Zb n)
theorem jm.box{b:Nat}{V:C5}{tj:List fH}{x:PR Unit}{w:C4}(d:jm b V tj x w):∃r c dp,zc b V tj r c dp w/\qD x=(c || dp)/\(x=.ok () r/\c=false/\dp=false\/x=.bad r/\c=true/\dp=false\/x=.deep r/\c=false/\dp=true):=by
 cases x with
 |ok a r=>exact⟨r,false,false,d,rfl,.inl ⟨rfl,rfl,rfl⟩⟩
 |bad r=>exact⟨r,true,false,d,rfl,.inr (.inl ⟨rfl,rfl,rfl⟩)⟩
 |deep r=>exact⟨r,false,true,d,rfl,.inr (.inr ⟨rfl,rfl,rfl⟩)⟩
 |o=>exact absurd d id
theorem QU{b:Nat}{V:C5}{tj:List fH}{x:PR Unit}{w:C4}(a:jm b V tj x w):Cz 53 #[(b,0)] w fun e w'=>e=.returned (.bool (qD x))/\w'=w:=by
 obtain⟨r,f,dp,d,c,_⟩:=a.box;obtain⟨_,_,_,_⟩:=d.cells;rw[c];clear a d c;cases f
 all_goals
  go_enter func53,ntmps53;go_wp2;go_ret;exact⟨Uh,rfl⟩
theorem qL{b:Nat}{V:C5}{tj:List fH}{x:PR Unit}{w:C4}(a:jm b V tj x w)(v:Bool)(c:qD x=v):Cz 53 #[(b,0)] w fun e w'=>e=.returned (.bool v)/\w'=w:=c▸QU a
theorem QV(s:List UInt8)(t:fH)(r:List fH):zq s (t::r)=(decide (t.kind=2)&&t.text == s):=rfl
theorem WD(t:List UInt8)(s:C3):(t == s.data.toList)=((⟨t.toArray⟩:C3).toList == s.toList):=by rw[Ym,Ym]
theorem WE{b:Nat}{V:C5}{tj r:List fH}{w:C4}(f:zc b V tj r false false w)(s:C3)(v:Bool)(a:zq s.data.toList r=v):
 Cz 81 #[(b,0),s] w fun e w'=>e=.returned (.bool v)/\∃m,w'=w.drewN m:=by
 have l:∀m,jm b V tj (.ok () r) (w.drewN m):=fun m=>jm.drewN (x:=.ok () r) f m
 obtain⟨g,c,k,t,q,rfl,rfl,n,_,_,_,_,_,_,p,u,_⟩:=f.tok;have i:=U l;clear f n l;have y:(k:Int)<tj.length:=O
 rw[QV,WD]at a;obtain⟨T,j⟩:∃T:C3,T=⟨t.text.toArray⟩:=⟨_,rfl⟩
 rw[<-j]at a u;clear j;cases hk2:decide (t.kind=2)with
 |true=>
   have d:t.kind=2:=of_decide_eq_true hk2;rw[d]at p;rw[hk2,Bool.true_and]at a;clear hk2 d;exact Ol
 |false=>
   have d:(t.kind == 2)=false:=by simpa using hk2
   rw[hk2,Bool.false_and]at a;subst a;clear hk2;exact Ol
theorem KR{b:Nat}{V:C5}{tj:List fH}{x:PR Unit}{w:C4}(a:jm b V tj x w)(d:qD x=true)(s:C3):
 Cz 81 #[(b,0),s] w fun e w'=>e=.returned (.bool false)/\∃m,w'=w.drewN m:=by
 have i:∀m,jm b V tj x (w.drewN m):=fun m=>a.drewN m
 obtain⟨r,_,dp,f,_,_⟩:=a.box;obtain⟨g,c,k,t,q,rfl,rfl,n,_,_,_,_,_,_,_,_,_⟩:=f.tok;have l:=U i;have j:=U d;clear a n i f d;have p:(k:Int)<tj.length:=O
 go_enter func81,ntmps81;go_wp2
 go_quiet ((go_at_call 53;exact Calls.quiet_of_same (qL (l.o _) true j.o)))
 go_wp2;go_ret;exact⟨rfl,_,rfl⟩
theorem QW{b:Nat}{V:C5}{tj:List fH}{x:PR Unit}{w:C4}(c:jm b V tj x w)(s:C3)(v:Bool)(d:zU s.data.toList x=v):
 Cz 81 #[(b,0),s] w fun e w'=>e=.returned (.bool v)/\∃m,w'=w.drewN m:=by
 subst d;cases x with
 |ok a r=>exact WE c s _ rfl
 |bad r=>exact KR c rfl s
 |deep r=>exact KR c rfl s
 |o=>exact absurd c id
theorem ux{s:List UInt8}{x:PR Unit}(h:zU s x=true):∃r,x=.ok () r/\zq s r=true:=by
 cases x with
 |ok a r=>exact⟨r,rfl,h⟩
 |bad r=>cases h
 |deep r=>cases h
 |o=>cases h
theorem QX{n k:Nat}(_:k+1<=n):((n-(k+1):Nat):Int)+1=((n-k:Nat):Int):=O
theorem r2{a r:List fH}(h:r <:+a):r.length<=a.length:=h.length_le
theorem zc.next{b:Nat}{V:C5}{tj r:List fH}{w:C4}(a:zc b V tj r false false w)(c:gW r≠3):zc b V tj r.tail false false (w.setCell (b,1) ((((tj.length-r.length:Nat):Int)+1):Int)):=by
 have d:=a.lt;have f:=jq a.2.2.2;have e:=r2 a.2.2.1;refine⟨?_,a.2.1.off ((fI.refl b _ w).wt d 1 _),(List.tail_suffix r).trans a.2.2.1,a.2.2.2.tail c⟩;have:=a.1.set 1 (.int .i64 (((tj.length-r.length:Nat):Int)+1));rw[show r.length=r.tail.length+1 by omega,QX O]at this ⊢;exact this
def jK(b:Nat)(V:C5)(tj:List fH)(w:C4)(x:PR Unit)(w':C4):Prop:=jm b V tj x w'/\fI b w.heap.size w w'
theorem jK.st{b:Nat}{V:C5}{tj:List fH}{w w':C4}{x:PR Unit}(h:jK b V tj w x w'):jm b V tj x w':=h.1
theorem jK.off{b:Nat}{V:C5}{tj:List fH}{w w':C4}{x:PR Unit}(h:jK b V tj w x w'):fI b w.heap.size w w':=h.2
theorem qA{b:Nat}{V:C5}{tj:List fH}{x:PR Unit}{w:C4}(a:jm b V tj x w)(s:C3)(i:zU s.data.toList x=true):
 Cz 56 #[(b,0),s] w fun e w'=>e=.returned (.bool true)/\jK b V tj w (x.bind fun _ r=>.ok () r.tail) w':=by
 obtain⟨r,rfl,l⟩:=ux i;have d:∀n,zc b V tj r.tail false false ((w.drewN n).setCell (b,1) ((((tj.length-r.length:Nat):Int)+1):Int)):=fun n=>zc.next (w:=w.drewN n) (jm.drewN (x:=.ok () r) a n) (by rw[(uR l).1];decide)
 have f:∀n,fI b w.heap.size w ((w.drewN n).setCell (b,1) ((((tj.length-r.length:Nat):Int)+1):Int)):=fun n=>((fI.refl b _ w).drewN n).wt (jm.drewN (x:=.ok () r) a n).lt 1 _
 obtain⟨g,c,k,t,q,rfl,rfl,j,_,_,_,_,_,_,_,_,_⟩:=(show zc b V tj r false false w from a).tok;have f1:=(show zc b _ tj _ false false w from a).1.frozen 1;rw[<-j]at d f;have p:Do (∀n,jK b (.slice (some ⟨g,0,none⟩) tj.length c) tj w (.ok () q) ((w.drewN n).setCell (b,1) (((k:Int)+1):Int))):=fun n=>⟨d n,f n⟩
 have H:=U a;have u:=U i;have v:(k:Int)<tj.length:=O
 clear a i j d f l;go_enter func56,ntmps56;go_wp2_with (go_at_call 81;(with_reducible refine(QW H.o s true u.o).mono ?_);rintro e _ ⟨rfl,m,rfl⟩);go_ret;exact⟨rfl,p.o m⟩
theorem rB{b:Nat}{V:C5}{tj:List fH}{x:PR Unit}{w:C4}(a:jm b V tj x w)(s:C3)(c:zU s.data.toList x=false):
 Cz 56 #[(b,0),s] w fun e w'=>e=.returned (.bool false)/\∃m,w'=w.drewN m:=by
 have H:=U a;have d:=U c;clear a c;go_enter func56,ntmps56;go_wp2_with (go_at_call 81;(with_reducible refine(QW H.o s false d.o).mono ?_);rintro e _ ⟨rfl,m,rfl⟩);go_ret;exact⟨rfl,m,rfl⟩
theorem zE{b:Nat}{V:C5}{tj:List fH}{x:PR Unit}{w:C4}(a:jm b V tj x w)(s:C3)(f:zU s.data.toList x=false):
 Cz 56 #[(b,0),s] w fun e w'=>e=.returned (.bool false)/\jK b V tj w x w':=
 (rB a s f).mono fun _ _ ⟨c,m,d⟩=>⟨c,d▸⟨a.drewN m,(fI.refl b _ w).drewN m⟩⟩
theorem zc.spoil{b:Nat}{V:C5}{tj r:List fH}{c:Bool}{w:C4}(a:zc b V tj r c false w):zc b V tj r true false (w.setCell (b,2) true):=
 ⟨a.1.set 2 (.bool true),a.2.1.off ((fI.refl b _ w).wt a.lt 2 _),a.2.2⟩
theorem MT{b:Nat}{V:C5}{tj r:List fH}{a:Bool}{w:C4}(d:zc b V tj r a false w)(m:Nat):jK b V tj w (.bad r) ((w.drewN m).setCell (b,2) true):=by
 have c:zc b V tj r a false (w.drewN m):=d.off (yZ Zb m);exact⟨c.spoil,((fI.refl b _ w).drewN m).wt c.lt 2 _⟩
theorem zg{b:Nat}{V:C5}{tj:List fH}{x:PR Unit}{w:C4}(c:jm b V tj x w)(s:C3):
 Cz 58 #[(b,0),s] w fun e w'=>e=.returned (.tuple #[])/\jK b V tj w (x.bind fun _ r=>zN s.data.toList r) w':=by
 cases hv:zU s.data.toList x with
 |true=>
   obtain⟨r,rfl,j⟩:=ux hv;have a:zN s.data.toList r=.ok () r.tail:=by unfold zN;rw[Dq j]
   rw[show((PR.ok () r).bind fun _ r=>zN s.data.toList r)=.ok () r.tail from a];have H:=U c;have d:=U hv;clear c hv j a;go_enter func58,ntmps58;go_wp2_with (go_at_call 56;(with_reducible refine(qA H.o s d.o).mono ?_);rintro e k ⟨rfl,p⟩)
   go_end0
   exact⟨rfl,p⟩
 |false=>
   obtain⟨r,_,dp,f,q,i⟩:=c.box
   have a:(x.bind fun _ r=>zN s.data.toList r)=if dp then .deep r else .bad r:=by
    rcases i with⟨rfl,rfl,rfl⟩|⟨rfl,rfl,rfl⟩|⟨rfl,rfl,rfl⟩
    .show zN s.data.toList r=_
     unfold zN;rw[Dp (by rw[show zq s.data.toList r=false from hv];decide)];rfl
    .rfl
    .rfl
   rw[a];obtain⟨_,_,_,_⟩:=f.cells;have t:=f.1.frozen 2;have H:=U c;have d:=U hv;have l:=U f;have n:=U i;clear c hv f i q a;cases dp with
   |true=>
     go_enter func58,ntmps58;go_wp2_with (go_at_call 56;(with_reducible refine(rB H.o s d.o).mono ?_);rintro e k ⟨rfl,m,rfl⟩)
     go_end0
     refine⟨rfl,?_,(fI.refl b _ w).drewN m⟩;rcases n.o with⟨_,_,g⟩|⟨_,_,g⟩|⟨rfl,_,_⟩
     .cases g
     .cases g
     .exact H.o.drewN m
   |false=>
     go_enter func58,ntmps58;go_wp2_with (go_at_call 56;(with_reducible refine(rB H.o s d.o).mono ?_);rintro e k ⟨rfl,m,rfl⟩)
     go_end0
     exact⟨rfl,MT l.o m⟩
def qk(b:Nat)(V:C5)(tj:List fH)(w:C4){α:Type}(x:PR α)(F:C4->α->C5->Prop)(e:Ending)(w':C4):Prop:=
 ∃v,e=.returned v/\jK b V tj w x.un w'/\ja x fun a=>F w' a v
def zcv(_:C4)(a:C3)(v:C5):Prop:=v=.string a
def WF(_:C4)(a:Int)(v:C5):Prop:=v=.int .i64 a
theorem z7{b:Nat}{V:C5}{tj:List fH}{x:PR Unit}{w:C4}(a:jm b V tj x w)(c:qD x=true)(k:Int):
 Cz 55 #[(b,0),(k:Int)] w fun e w'=>e=.returned (.string ⟨#[]⟩)/\jK b V tj w x w':=by
 have H:=U a;have d:=U c;clear a c;go_enter func55,ntmps55;go_wp2_with (go_at_call 53;(with_reducible refine(qL H.o true d.o).mono ?_);rintro e _ ⟨rfl,rfl⟩);go_ret;exact⟨rfl,H.o,fI.refl _ _ _⟩
theorem EV{b:Nat}{V:C5}{tj:List fH}{x:PR Unit}{w a:C4}(c:jK b V tj w x a)(e:w.heap.size<=a.heap.size)(o:Obj):jK b V tj w x (a.alloc o).drew:=by
 have d:Cy a (a.alloc o).drew:=(Zb.alloc Zr o).drew;exact⟨c.1.below d,c.2.trans ((fI.wb d c.1.lt).mono e)⟩
theorem QY{b:Nat}{V:C5}{tj r:List fH}{w:C4}(a:zc b V tj r false false w)(c:gW r≠3)(o:Obj):jK b V tj w (.ok () r.tail) (((w.setCell (b,1) ((((tj.length-r.length:Nat):Int)+1):Int)).alloc o).drew):=
 EV (x:=.ok () r.tail) ⟨a.next c,(fI.refl b _ w).wt a.lt 1 _⟩ Uh o
theorem z8{b:Nat}{V:C5}{tj r:List fH}{w:C4}(h:zc b V tj r false false w)(o:Obj):jK b V tj w (.bad r) (((w.setCell (b,2) true).alloc o).drew):=
 EV (x:=.bad r) ⟨h.spoil,(fI.refl b _ w).wt h.lt 2 _⟩ Uh o
theorem jK.drewN{b:Nat}{V:C5}{tj:List fH}{x:PR Unit}{w c:C4}{m:Nat}(a:jK b V tj (w.drewN m) x c):jK b V tj w x c:=⟨a.1,((fI.refl b _ w).drewN m).trans a.2⟩
theorem n0{b:Nat}{V:C5}{tj r:List fH}{w:C4}(a:zc b V tj r false false w)(k:Int)(u:k≠3):
 Cz 55 #[(b,0),(k:Int)] w (qk b V tj w (qt k r) zcv):=by
 have f:=fun(s:gW r≠3) o=>QY a s o
 have j:=fun o=>z8 a o
 have A:=a.lt;have f1:=a.1.frozen 1;have y:=a.1.frozen 2;have i:=C2 (jm b V tj (.ok () r) w) a;obtain⟨g,c,p,t,q,rfl,rfl,l,_,_,_,_,_,_,_,_,_⟩:=a.tok;rw[<-l]at f;have z:(p:Int)<tj.length:=O
 have B:0<w.heap.size:=O
 have n:=U j;clear a l j;cases hk2:decide (t.kind=k)with
 |true=>
   obtain rfl:t.kind=k:=of_decide_eq_true hk2;have m:=U (f u);have d:qt t.kind (t::q)=.ok ⟨t.text.toArray⟩ q:=by unfold qt;rw[Dq (show gW (t::q)=t.kind from rfl)];rfl
   rw[d];clear hk2 f d;go_enter func55,ntmps55;go_wp2_with (go_at_call 53;(with_reducible refine(qL i.o false rfl).mono ?_);rintro e v ⟨rfl,rfl⟩)
   go_region_held3 (fun w'=>w'.cell? (b,0)=some (.slice (some ⟨g,0,none⟩) tj.length c)/\w'.cell? (b,1)=some (.int .i64 p)/\w'.cell? (g,p*3)=some (.int .i64 t.kind)/\w'.cell? (g,p*3+1)=some (.string ⟨t.text.toArray⟩)/\w'.cell? (g,p*3+2)=some (.int .i64 (t.line:Int))/\0<w'.heap.size)
    (first|go_keep|(go_split_ands;refine⟨?_,?_,?_,?_,?_,?_⟩ <;> assumption))
    (fail)
   go_wp2_with fail;go_ret;exact⟨_,rfl,m.o _,rfl⟩
 |false=>
   have x:(t.kind != k)=true:=by simpa using hk2
   have d:qt k (t::q)=.bad (t::q):=by unfold qt;rw[Dp (show ¬gW (t::q)=k from of_decide_eq_false hk2)]
   rw[d];clear hk2 f d;go_enter func55,ntmps55;go_wp2_with (go_at_call 53;(with_reducible refine(qL i.o false rfl).mono ?_);rintro e v ⟨rfl,rfl⟩)
   go_region_held3 (fun w'=>w'.cell? (b,0)=some (.slice (some ⟨g,0,none⟩) tj.length c)/\w'.cell? (b,1)=some (.int .i64 p)/\w'.cell? (g,p*3)=some (.int .i64 t.kind)/\w'.cell? (g,p*3+1)=some (.string ⟨t.text.toArray⟩)/\w'.cell? (g,p*3+2)=some (.int .i64 (t.line:Int))/\0<w'.heap.size)
    (first|go_keep|(go_split_ands;refine⟨?_,?_,?_,?_,?_,?_⟩ <;> assumption))
    (fail)
   go_wp2_with fail;go_ret;exact⟨_,rfl,n.o _,⟨_,rfl⟩⟩
theorem hQ{b:Nat}{V:C5}{tj r:List fH}{w:C4}(d:jm b V tj (.ok () r) w)(k:Int)(j:k≠3)(i:gW r=k)(s:C3)(l:s=⟨(pZ r).toArray⟩):
 Cz 55 #[(b,0),(k:Int)] w fun e w'=>e=.returned (.string s)/\jK b V tj w (.ok () r.tail) w':=by
 subst l;have c:qt k r=.ok ⟨(pZ r).toArray⟩ r.tail:=by unfold qt;rw[Dq i]
 refine(n0 d k j).mono fun e w' a=>?_
 rw[c]at a;obtain⟨v,g,f,m⟩:=a;exact⟨by rw[g,show v=.string ⟨(pZ r).toArray⟩from m],f⟩
theorem WG{b:Nat}{V:C5}{tj r:List fH}{w:C4}(f:jm b V tj (.ok () r) w)(k:Int)(l:k≠3)(j:gW r≠k):
 Cz 55 #[(b,0),(k:Int)] w fun e w'=>∃s,e=.returned (.string s)/\jK b V tj w (.bad r) w':=by
 have d:qt k r=.bad r:=by unfold qt;rw[Dp j]
 refine(n0 f k l).mono fun e w' c=>?_
 rw[d]at c;obtain⟨v,i,g,a,m⟩:=c;exact⟨a,by rw[i,show v=.string a from m],g⟩
theorem uT{b:Nat}{V:C5}{tj:List fH}{x:PR Unit}{w:C4}(d:jm b V tj x w):
 Cz 54 #[(b,0)] w (qk b V tj w (x.bind fun _ r=>k3 r) WF):=by
 cases hv:zU k2 x with
 |true=>
   obtain⟨r,rfl,l⟩:=ux hv;have c:k3 r=.ok 1 r.tail:=by unfold k3;rw[Dq l]
   rw[show((PR.ok () r).bind fun _ r=>k3 r)=.ok 1 r.tail from c];have H:=U d;have f:=U hv;clear d hv l c;go_enter func54,ntmps54;go_wp2_with (go_at_call 56;(with_reducible refine(qA H.o _ f.o).mono ?_);rintro e n ⟨rfl,g⟩);go_ret;exact⟨_,rfl,g,rfl⟩
 |false=>
   have c:(x.bind fun _ r=>k3 r)=x.bind fun _ r=>(zN xR r).bind fun _ r=>.ok 2 r:=by
    cases x with
    |ok a r=>
      show k3 r=(zN xR r).bind _;unfold k3;rw[Dp (by rw[show zq k2 r=false from hv];decide)]
    |_=>rfl
   have j:(x.bind fun _ r=>(zN xR r).bind fun _ r=>PR.ok (2 :Int) r).un=x.bind fun _ r=>zN xR r:=by
    cases x with
    |ok a r=>show((zN xR r).bind _).un=zN xR r;unfold zN;split<;>rfl
    |_=>rfl
   have k:ja (x.bind fun _ r=>(zN xR r).bind fun _ r=>PR.ok (2 :Int) r) fun a=>WF w a (.int .i64 2):=by
    cases x with
    |ok a r=>show ja ((zN xR r).bind _) _;unfold zN;split;exact rfl;exact⟨2,rfl⟩
    |bad r=>exact⟨2,rfl⟩
    |deep r=>exact⟨2,rfl⟩
    |o=>trivial
   rw[c];have H:=U d;have f:=U hv;have i:=U (Dt j k);clear d hv c j k;go_enter func54,ntmps54
   go_wp2_with (first
    |(go_at_call 56;(with_reducible refine(rB H.o _ f.o).mono ?_);rintro e n ⟨rfl,m,rfl⟩)
    |(go_at_call 58;(with_reducible refine(zg (H.o.drewN m) _).mono ?_);rintro e _ ⟨rfl,g⟩))
   go_ret;refine⟨_,rfl,?_,i.o.2⟩;rw[i.o.1];exact g.drewN
def zI{α:Type}(x:PR α):Prop:=match x with | .o=>False|_=>True
theorem zI.bind{α β:Type}{k:Nat}{l:List fH}{x:PR α}{f:α->List fH->PR β}(b:zm k l x)(c:zI x)(g:∀a r,x=.ok a r->qC r->r.length+k<=l.length->zI (f a r)):zI (x.bind f):=by
 cases x with
 |ok a r=>exact g a r rfl (show zJ k l r from b).2.1 (show zJ k l r from b).2.2
 |bad r=>trivial
 |deep r=>trivial
 |o=>exact c
theorem qT(s:List UInt8)(l:List fH):zI (zN s l):=by unfold zN;split<;>trivial
theorem yy(k:Int)(l:List fH):zI (qt k l):=by unfold qt;split<;>trivial
theorem z9(n:Nat):(∀lev d l,qC l->1<=lev->lev<=11->20*(l.length:Int)+15-lev<=n->zI (pE n lev d l))/\(∀lev d a l,qC l->1<=lev->lev<=10->20*(l.length:Int)+15-lev<=n->zI (pL n lev d a l))/\
 (∀d l,qC l->20*l.length+3<=n->zI (pU n d l))/\(∀d l,qC l->20*l.length+2<=n->zI (pP n d l))/\
 (∀d s l,qC l->20*l.length+1<=n->zI (pN n d s l))/\(∀d l,qC l->20*l.length+16<=n->zI (pA n d l))/\(∀d tk l,qC l->20*l.length+15<=n->zI (r0 n d tk l)):=by
 induction n with
 |zero=>exact⟨fun _ _ _ _ _ _ _=>O,fun _ _ _ _ _ _ _ _=>O,fun _ _ _ _=>O,fun _ _ _ _=>O,fun _ _ _ _ _=>O,fun _ _ _ _=>O,fun _ _ _ _ _=>O⟩
 |succ n y=>
   obtain⟨j,t,u,x,w,v,q⟩:=y;refine⟨fun lev d l b m p i=>?_,fun lev d a l b m p i=>?_,fun d l b i=>?_,fun d l b i=>?_,fun d s l b i=>?_,fun d l b i=>?_,fun d tk l b i=>?_⟩
   .rw[pE]
    split
    .exact u d l b O
    .exact zI.bind (jC b) (j _ _ _ b O O O) fun a r _ c g=>t _ _ _ _ c m O O
   .rw[pL]
    split
    .trivial
    .rename_i o
     obtain⟨s,f⟩:=vk o;have k:=jq b;exact zI.bind (jC (b.sign f)) (j _ _ _ (b.sign f) O O O) fun a r _ c g=>t _ _ _ _ c m p O
   .rw[pU]
    split
    .trivial
    .split
     .exact x d l b O
     .rename_i o
      obtain⟨s,f⟩:=hN o;have k:=jq b;split
      .exact zI.bind (zM (b.sign f) _) (qT _ _) fun _ r _ c g=>zI.bind (jC c) (j _ _ _ c O O O) fun e r _ c g=>zI.bind (zM c _) (qT _ _) fun _ r _ c g=>trivial
      .exact zI.bind ((nZ n).2.2.1 _ _ (b.sign f)) (u _ _ (b.sign f) O) fun _ r _ c g=>trivial
   .rw[pP]
    have k:=jq b;split
    .rename_i f
     exact Ok
    .split
     .trivial
     .split
      .trivial
      .split
       .rename_i f
        exact zI.bind (zM (b.sign f) _) (qT _ _) fun _ r _ c g=>zI.bind (zM c _) (qT _ _) fun _ r _ c g=>trivial
       .split
        .trivial
        .exact zI.bind (jJ b 1 Uf) (yy _ _) fun s r _ c g=>w _ _ _ c O
   .rw[pN]
    have k:=jq b;split
    .rename_i f
     exact zI.bind (CG (b.sign f)) (v _ _ (b.sign f) O) fun _ r _ c g=>trivial
    .split
     .rename_i f
      exact Ok
     .trivial
   .rw[pA]
    split
    .trivial
    .exact q _ _ _ b O
   .rw[r0]
    refine zI.bind (jC b) (j _ _ _ b O O O) fun e r _ c g=>?_
    split
    .rename_i f
     have k:=jq c;exact q _ _ _ (c.sign f) O
    .exact zI.bind (zM c _) (qT _ _) fun _ r _ c g=>trivial
theorem iY{n:Nat}{d:Int}{l:List fH}(h:qC l)(_:20*l.length+14<=n):zI (pE n 1 d l):=(z9 n).1 1 d l h O O O
theorem WH{n:Nat}{d:Int}{l:List fH}(a:qC l)(b:20*l.length+16<=n):zI (pA n d l):=(z9 n).2.2.2.2.2.1 d l a b
theorem CH{n:Nat}{l:List fH}(c:qC l)(_:20*l.length+14<=n):zI (pI n l):=by
 unfold pI;exact zI.bind (zM c _) (qT _ _) fun _ r _ a b=>zI.bind (jC a) (iY a O) fun e r _ a b=>zI.bind (zM a _) (qT _ _) fun _ r _ a b=>trivial
theorem r3{l:List fH}(h:qC l):zI (k3 l):=by
 unfold k3;split
 .trivial
 .exact zI.bind (zM h _) (qT _ _) fun _ r _ _ _=>trivial
theorem yH{α:Type}{k:Nat}{l:List fH}{x:PR α}(c:zm k l x)(b:zI x):zI (vK x):=by
 unfold vK;exact zI.bind c b fun _ r _ a d=>zI.bind (zM a _) (qT _ _) fun _ r _ a d=>trivial
theorem QZ{n:Nat}{l:List fH}(d:qC l)(f:20*l.length+16<=n):zI (q7 n l):=by
 unfold q7;refine zI.bind (jJ d 1 Uf) (yy _ _) fun s r _ a b=>?_
 have g:=jq a;split
 .rename_i c
  exact zI.bind (CG (a.sign c)) (WH (a.sign c) O) fun _ r _ a b=>trivial
 .split
  .rename_i c
   exact zI.bind (jC (a.sign c)) (iY (a.sign c) O) fun e r _ a b=>zI.bind (zM a _) (qT _ _) fun _ r _ a b=>zI.bind (zM a _) (qT _ _) fun _ r _ a b=>zI.bind (jC a) (iY a O) fun _ r _ a b=>trivial
  .exact zI.bind (zM a _) (qT _ _) fun _ r _ a b=>zI.bind (jC a) (iY a O) fun _ r _ a b=>trivial
theorem MU(n:Nat):(∀d l,qC l->20*l.length+30<=n->zI (pS n d l))/\(∀d e t l,qC l->20*l.length+30<=n->zI (q8 n d e t l))/\(∀d l,qC l->20*l.length+30<=n->zI (pB n d l))/\(∀d tk l,qC l->20*l.length+31<=n->zI (nR n d tk l)):=by
 induction n with
 |zero=>exact⟨fun _ _ _ _=>O,fun _ _ _ _ _ _=>O,fun _ _ _ _=>O,fun _ _ _ _ _=>O⟩
 |succ n u=>
   obtain⟨q,p,i,j⟩:=u;refine⟨fun d l b g=>?_,fun d e t l b g=>?_,fun d l b g=>?_,fun d tk l b g=>?_⟩
   .rw[pS]
    have o:=jq b;split
    .trivial
    .split
     .exact yH ((xr b).bind (m:=0) (n:=0) (fun t r _ a=>(jJ a 1 Uf).bind (n:=0) (fun s r _ a=>(zM a _).bind (n:=0) (fun _ r _ a=>(jC a).bind (n:=0) (fun _ r _ a=>zm.self a _) O) O) O) O)
       (zI.bind (xr b) (r3 b) fun t r _ a f=>zI.bind (jJ a 1 Uf) (yy _ _) fun s r _ a f=>zI.bind (zM a _) (qT _ _) fun _ r _ a f=>zI.bind (jC a) (iY a O) fun _ r _ a f=>trivial)
     .split
      .rename_i c
       exact zI.bind (yq (b.sign c)) (CH (b.sign c) O) fun e r _ a f=>zI.bind (iX a) (i _ _ a O) fun t r _ a f=>p _ _ _ _ a O
      .split
       .rename_i c
        exact zI.bind (yq (b.sign c)) (CH (b.sign c) O) fun e r _ a f=>zI.bind (iX a) (i _ _ a O) fun t r _ a f=>trivial
       .split
        .rename_i c
         exact Om
        .split
         .rename_i c
          exact Om
         .split
          .rename_i c
           exact yH ((jC (b.sign c)).bind (n:=0) (m:=0) (fun _ r _ a=>zm.self a _) O) (zI.bind (jC (b.sign c)) (iY (b.sign c) O) fun _ r _ a f=>trivial)
          .split
           .rename_i c
            exact yH ((yq (b.sign c)).bind (n:=0) (m:=0) (fun _ r _ a=>zm.self a _) O) (zI.bind (yq (b.sign c)) (CH (b.sign c) O) fun _ r _ a f=>trivial)
           .exact yH (ET b) (QZ b O)
   .rw[q8]
    have o:=jq b;split
    .rename_i c
     exact zI.bind (iX (b.sign c)) (i _ _ (b.sign c) O) fun _ r _ a f=>trivial
    .trivial
   .rw[pB]
    exact zI.bind (zM b _) (qT _ _) fun _ r _ a f=>j _ _ _ a O
   .rw[nR]
    split
    .trivial
    .exact zI.bind (rA b) (q _ _ b O) fun _ r _ a f=>j _ _ _ a O
theorem WI{n:Nat}{d:Int}{l:List fH}(a:qC l)(b:20*l.length+30<=n):zI (pB n d l):=(MU n).2.2.1 d l a b
theorem EW:∀(n:Nat) (tk:List Pa) (l:List fH),qC l->20*l.length+1<=n->zI (p2 n tk l)
 |0,_,_,_,_=>O
 | n+1,tk,l,h,hn=>by
   rw[p2];refine zI.bind (xr h) (r3 h) fun t r _ a b=>zI.bind (jJ a 1 Uf) (yy _ _) fun s r _ a b=>?_
   have d:=jq a;split
   .rename_i c
    exact EW n _ _ (a.sign c) O
   .exact zI.bind (zM a _) (qT _ _) fun _ r _ a b=>trivial
theorem Q0{n:Nat}{l:List fH}(a:qC l)(_:20*l.length+1<=n):zI (WC n l):=by
 unfold WC;refine zI.bind (zM a _) (qT _ _) fun _ r _ b _=>?_
 split
 .trivial
 .exact EW n _ _ b O
theorem Q1{n:Nat}{t:Int}{s:C3}{l:List fH}(b:qC l)(_:20*l.length+30<=n):zI (pC n t s l):=by
 unfold pC;exact zI.bind (r1 b) (Q0 b O) fun _ r _ a c=>zI.bind (iX a) (WI a O) fun _ r _ a c=>trivial
theorem MV{s:C3}{l:List fH}(c:qC l):zI (p3 s l):=by
 unfold p3;exact zI.bind (jJ c 0 Uf) (yy _ _) fun _ r _ a b=>zI.bind (zM a _) (qT _ _) fun _ r _ a b=>zI.bind (zM a _) (qT _ _) fun _ r _ a b=>trivial
theorem r4:∀(n:Nat) (p:Pr) (l:List fH),qC l->20*l.length+40<=n->zI (k4 n p l)
 |0,_,_,_,_=>O
 | n+1,p,l,h,hn=>by
   rw[k4];split
   .trivial
   .refine zI.bind (xr h) (r3 h) fun t r _ a b=>zI.bind (jJ a 1 Uf) (yy _ _) fun s r _ a b=>?_
    split
    .rename_i c
     have d:=jq a;exact zI.bind (z6 (a.sign c.2.2)) (MV (a.sign c.2.2)) fun _ r _ a b=>r4 n _ _ a O
    .exact zI.bind (hP a) (Q1 a O) fun _ r _ a b=>r4 n _ _ a O
def kX(l:List fH):PR Pr:=k4 (20*l.length+40) ⟨[],[]⟩ l
theorem y6{l:List fH}(h:qC l):zI (kX l):=r4 _ _ _ h Zr
