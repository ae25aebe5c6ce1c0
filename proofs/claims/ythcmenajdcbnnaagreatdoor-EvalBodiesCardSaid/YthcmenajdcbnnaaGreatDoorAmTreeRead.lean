import Derived.Test.YthcmenajdcbnnaaGreatDoorAmTokMath
import Derived.StillTailTactics
import Derived.Deep.RegionHeld3
import Derived.Deep.RegionLaw
import Derived.BigQuiet
set_option linter.unusedSimpArgs false
set_option linter.unusedVariables false
set_option maxRecDepth 100000
namespace Go.Proofs.YthcmenajdcbnnaaGreatDoor
open Go.RowKit Tryz
theorem Oj{p:Prop}(h:p:=by
 exact zm.from (zJ.sign b f) ((g _ _ _ (b.sign f)).bind (n:=0) (fun e r _ c=>(zL c _).bind (n:=0) (fun _ r _ c=>zm.self c _) O) O) O):p:=h
theorem Ok{p:Prop}(h:p:=by
 exact zI.bind (jB (b.sign f)) (j _ _ _ (b.sign f) O O O) fun e r _ c g=>zI.bind (zL c _) (qS _ _) fun _ r _ c g=>trivial):p:=h
theorem Ol{p:Prop}(h:p:=by
 go_enter func81,ntmps81;go_wp2
 go_quiet ((go_at_call 53;exact Calls.quiet_of_same (qL (i.o _) false rfl)))
 go_wp2;go_ret
 exact⟨rfl,_,rfl⟩):p:=h
theorem Om{p:Prop}(h:p:=by
 exact yF (k:=1) (l:=l) (show zJ 1 l l.tail from zJ.sign b c) trivial):p:=h
structure fQ (B:Nat) (w:C3):Prop where
 lt:0<B
 rows:Z1 w
theorem fQ.below{B:Nat}{w w':C3}(a:fQ B w)(b:Below B w w'):fQ B w' where
 lt:=a.lt
 rows:=fun k c=>⟨(b.cell (p:=⟨0,k*2,none⟩) a.lt).trans (a.rows k c).1,(b.cell (p:=⟨0,k*2+1,none⟩) a.lt).trans (a.rows k c).2⟩
theorem fQ.mono{B a:Nat}{w:C3}(b:fQ B w)(c:B<=a):fQ a w where
 lt:=Yb b.lt c
 rows:=b.rows
theorem l5(s:C2)(b:Bool)(h:uk s=b)(w:C3):Cy 106 #[s] w (Cv b w):=V0 s b h w
theorem qj(s:C2)(b:Bool)(h:uk s=b)(w:C3):Cy 50 #[s] w (Cw b w):=rO s b h w
theorem qV{W c:C3}(d:Cx W c):(∀b o,b<W.heap.size->c.cell? ⟨b,o,none⟩=W.cell? ⟨b,o,none⟩)/\(∀b o,b<W.heap.size->c.frozen? ⟨b,o,none⟩=W.frozen? ⟨b,o,none⟩):=
 ⟨fun b o a=>d.cell (p:=⟨b,o,none⟩) a,fun b o a=>d.frozen (p:=⟨b,o,none⟩) a⟩
def fK(B:Nat)(w:C3)(g o:Nat)(u:C4):Prop:=g<B/\w.cell? (g,o)=some u
def vd(v:C4)(n:Nat)(F:Nat->Nat->Prop):Prop:=
 ∃(a:Option Addr) (b:Nat),v=.slice a n b/\n<=281474976710656/\(0<n->∃g o,a=some ⟨g,o,none⟩/\F g o)
def fS(n:Int):Prop:=-9223372036854775808<=n/\n<=9223372036854775807
mutual
def y1(B:Nat)(w:C3):Ex->Nat->Nat->Prop
 | .mk k op n td tc,g,o=>fK B w g o (.int .i64 k)/\fK B w g (o+1) (.int .i64 op)/\fK B w g (o+2) (.int .i64 n)/\fK B w g (o+3) (.string td)/\
     fS n/\∃v,fK B w g (o+4) v/\vd v tc.length (kL B w tc)
def kL(B:Nat)(w:C3):List Ex->Nat->Nat->Prop
 |[],_,_=>True
 |e::r,g,o=>y1 B w e g o/\kL B w r g (o+5)
end
mutual
def EC(B:Nat)(w:C3):St->Nat->Nat->Prop
 | .mk k ty td tc tg th,g,o=>fK B w g o (.int .i64 k)/\fK B w g (o+1) (.int .i64 ty)/\fK B w g (o+2) (.string td)/\
     (∃v,fK B w g (o+3) v/\vd v tc.length (kL B w tc))/\(∃v,fK B w g (o+4) v/\vd v tg.length (ky B w tg))/\(∃v,fK B w g (o+5) v/\vd v th.length (ky B w th))
def ky(B:Nat)(w:C3):List St->Nat->Nat->Prop
 |[],_,_=>True
 |s::r,g,o=>EC B w s g o/\ky B w r g (o+6)
end
theorem fK.below{B b:Nat}{w w':C3}(e:Below B w w')(d:B<=b){g o:Nat}{c:C4}(a:fK B w g o c):fK b w' g o c:=⟨Yb a.1 d,(e.cell (p:=(g,o)) a.1).trans a.2⟩
theorem vd.imp{v:C4}{n:Nat}{F G:Nat->Nat->Prop}(c:vd v n F)(k:∀g o,F g o->G g o):vd v n G:=by
 obtain⟨a,b,j,e,hF⟩:=c;exact⟨a,b,j,e,fun f=>by obtain⟨g,o,d,i⟩:=hF f;exact⟨g,o,d,k g o i⟩⟩
mutual
theorem y1.below{B c:Nat}{w w':C3}(b:Below B w w')(a:B<=c):∀(e:Ex) (g o:Nat),y1 B w e g o->y1 c w' e g o
 | .mk k op n td tc,g,o,h=>by
   rw[y1]at h ⊢;obtain⟨f,i,j,l,p,v,m,q⟩:=h;exact⟨f.below b a,i.below b a,j.below b a,l.below b a,p,v,m.below b a,q.imp fun d r=>kL.below b a tc d r⟩
theorem kL.below{B a:Nat}{w w':C3}(c:Below B w w')(b:B<=a):∀(l:List Ex) (g o:Nat),kL B w l g o->kL a w' l g o
 |[],_,_,_=>by rw[kL];trivial
 | e::r,g,o,h=>by
   rw[kL]at h ⊢;exact⟨y1.below c b e g o h.1,kL.below c b r g (o+5) h.2⟩
end
mutual
theorem EC.below{B f:Nat}{w w':C3}(b:Below B w w')(a:B<=f):∀(e:St) (g o:Nat),EC B w e g o->EC f w' e g o
 | .mk k ty td tc tg th,g,o,h=>by
   rw[EC]at h ⊢;obtain⟨i,j,l,⟨v,m,q⟩,⟨t,n,r⟩,⟨u,p,s⟩⟩:=h;exact⟨i.below b a,j.below b a,l.below b a,⟨v,m.below b a,q.imp fun c d=>kL.below b a tc c d⟩,⟨t,n.below b a,r.imp fun c d=>ky.below b a tg c d⟩,⟨u,p.below b a,s.imp fun c d=>ky.below b a th c d⟩⟩
theorem ky.below{B a:Nat}{w w':C3}(c:Below B w w')(b:B<=a):∀(l:List St) (g o:Nat),ky B w l g o->ky a w' l g o
 |[],_,_,_=>by rw[ky];trivial
 | e::r,g,o,h=>by
   rw[ky]at h ⊢;exact⟨EC.below c b e g o h.1,ky.below c b r g (o+6) h.2⟩
end
theorem kL.at{B:Nat}{w:C3}:∀(l:List Ex) (g o i:Nat) (e:Ex),kL B w l g o->l[i]?=some e->y1 B w e g (o+i*5)
 |[],_,_,_,_,_,h=>Xa
 | a::r,g,o,0,e,h,hi=>by
   rw[kL]at h;simp at hi;subst hi;simpa using h.1
 | a::r,g,o,i+1,e,h,hi=>by
   rw[kL]at h;have:=kL.at r g (o+5) i e h.2 Jx;rw[show o+(i+1)*5=o+5+i*5 by omega];exact this
theorem ky.at{B:Nat}{w:C3}:∀(l:List St) (g o i:Nat) (e:St),ky B w l g o->l[i]?=some e->EC B w e g (o+i*6)
 |[],_,_,_,_,_,h=>Xa
 | a::r,g,o,0,e,h,hi=>by
   rw[ky]at h;simp at hi;subst hi;simpa using h.1
 | a::r,g,o,i+1,e,h,hi=>by
   rw[ky]at h;have:=ky.at r g (o+6) i e h.2 Jx;rw[show o+(i+1)*6=o+6+i*6 by omega];exact this
def kU(B:Nat)(w:C3)(v:C4)(l:List Ex):Prop:=vd v l.length (kL B w l)
def f6(B:Nat)(w:C3)(v:C4)(l:List St):Prop:=vd v l.length (ky B w l)
theorem kU.below{B a:Nat}{w w':C3}{v:C4}{l:List Ex}(b:kU B w v l)(d:Below B w w')(c:B<=a):kU a w' v l:=vd.imp b fun g o=>kL.below d c l g o
theorem f6.below{B a:Nat}{w w':C3}{v:C4}{l:List St}(b:f6 B w v l)(d:Below B w w')(c:B<=a):f6 a w' v l:=vd.imp b fun g o=>ky.below d c l g o
theorem kU.cells{B:Nat}{w:C3}{a:Option Addr}{n e:Nat}{l:List Ex}(j:kU B w (.slice a n e) l){i:Nat}{k op m:Int}{td:C2}{tc:List Ex}(c:l[i]?=some (.mk k op m td tc)):
 ∃(g o:Nat) (v:C4),a=some ⟨g,o,none⟩/\g<B/\w.cell? (g,o+i*5)=some (.int .i64 k)/\w.cell? (g,o+i*5+1)=some (.int .i64 op)/\w.cell? (g,o+i*5+2)=some (.int .i64 m)/\
   w.cell? (g,o+i*5+3)=some (.string td)/\w.cell? (g,o+i*5+4)=some v/\kU B w v tc:=by
 obtain⟨_,_,y,_,hF⟩:=j;injection y with f _ _;subst f;obtain⟨g,o,t,u⟩:=hF Vz;have d:=kL.at l g o i _ u c;rw[y1]at d;obtain⟨b,p,q,r,_,v,s,x⟩:=d;exact⟨g,o,v,t,b.1,b.2,p.2,q.2,r.2,s.2,x⟩
theorem kU.range{B:Nat}{w:C3}{v:C4}{l:List Ex}(c:kU B w v l){i:Nat}{k op m:Int}{td:C2}{tc:List Ex}(a:l[i]?=some (.mk k op m td tc)):fS m:=by
 obtain⟨_,_,_,_,hF⟩:=c;obtain⟨g,o,_,d⟩:=hF Xc;have b:=kL.at l g o i _ d a;rw[y1]at b;exact b.2.2.2.2.1
theorem f6.cells{B:Nat}{w:C3}{c:Option Addr}{n m:Nat}{l:List St}(q:f6 B w (.slice c n m) l){i:Nat}{k j:Int}{td:C2}{tc:List Ex}{tg th:List St}(e:l[i]?=some (.mk k j td tc tg th)):
 ∃(g o:Nat) (v a b:C4),c=some ⟨g,o,none⟩/\g<B/\w.cell? (g,o+i*6)=some (.int .i64 k)/\w.cell? (g,o+i*6+1)=some (.int .i64 j)/\w.cell? (g,o+i*6+2)=some (.string td)/\
   w.cell? (g,o+i*6+3)=some v/\w.cell? (g,o+i*6+4)=some a/\w.cell? (g,o+i*6+5)=some b/\kU B w v tc/\f6 B w a tg/\f6 B w b th:=by
 obtain⟨_,_,E,_,hF⟩:=q;injection E with p _ _;subst p;obtain⟨g,o,y,z⟩:=hF (by have:=(List.getElem?_eq_some_iff.1 e).1;omega);have f:=ky.at l g o i _ z e;rw[EC]at f;obtain⟨d,r,s,⟨v,t,A⟩,⟨a,u,C⟩,⟨b,x,D⟩⟩:=f;exact⟨g,o,v,a,b,y,d.1,d.2,r.2,s.2,t.2,u.2,x.2,A,C,D⟩
def um{α:Type}(b:Nat)(F:α->Nat->Nat->Prop):List α->Nat->Nat->Prop
 |[],_,_=>True
 |a::r,g,o=>F a g o/\um b F r g (o+b)
theorem um.imp{α:Type}{b:Nat}{F G:α->Nat->Nat->Prop}(k:∀a g o,F a g o->G a g o):∀(l:List α) (g o:Nat),um b F l g o->um b G l g o
 |[],_,_,_=>trivial
 |a::r,g,o,h=>⟨k a g o h.1,um.imp k r g (o+b) h.2⟩
theorem um.at{α:Type}{b:Nat}{F:α->Nat->Nat->Prop}:∀(l:List α) (g o i:Nat) (a:α),um b F l g o->l[i]?=some a->F a g (o+i*b)
 |[],_,_,_,_,_,h=>Xa
 | a::r,g,o,0,e,h,hi=>by
   simp at hi;subst hi;simpa using h.1
 | a::r,g,o,i+1,e,h,hi=>by
   have:=um.at r g (o+b) i e h.2 Jx;rw[show o+(i+1)*b=o+b+i*b by rw[Nat.add_mul,Nat.one_mul];omega];exact this
def VH(B:Nat)(w:C3)(a:Ar)(g o:Nat):Prop:=fK B w g o (.string a.name)/\fK B w g (o+1) (.int .i64 a.size)
def QO(B:Nat)(w:C3)(a:Pa)(g o:Nat):Prop:=fK B w g o (.string a.name)/\fK B w g (o+1) (.int .i64 a.type)
def gM(B:Nat)(w:C3)(v:C4)(l:List Ar):Prop:=vd v l.length (um 2 (VH B w) l)
def gT(B:Nat)(w:C3)(v:C4)(l:List Pa):Prop:=vd v l.length (um 2 (QO B w) l)/\∀A n c,v=.slice A n c->n<=c
def VI(B:Nat)(w:C3)(f:Fu)(g o:Nat):Prop:=fK B w g o (.string f.name)/\fK B w g (o+1) (.int .i64 f.type)/\(∃v,fK B w g (o+2) v/\gT B w v f.params)/\(∃v,fK B w g (o+3) v/\f6 B w v f.body)
def gN(B:Nat)(w:C3)(v:C4)(l:List Fu):Prop:=vd v l.length (um 4 (VI B w) l)
theorem VH.below{B b:Nat}{w w':C3}(e:Below B w w')(d:B<=b)(a:Ar)(g o:Nat)(c:VH B w a g o):VH b w' a g o:=⟨c.1.below e d,c.2.below e d⟩
theorem QO.below{B b:Nat}{w w':C3}(e:Below B w w')(d:B<=b)(a:Pa)(g o:Nat)(c:QO B w a g o):QO b w' a g o:=⟨c.1.below e d,c.2.below e d⟩
theorem gM.below{B b:Nat}{w w':C3}{v:C4}{l:List Ar}(c:gM B w v l)(e:Below B w w')(d:B<=b):gM b w' v l:=vd.imp c fun g o=>um.imp (fun a g o=>VH.below e d a g o) l g o
theorem gT.below{B b:Nat}{w w':C3}{v:C4}{l:List Pa}(c:gT B w v l)(e:Below B w w')(d:B<=b):gT b w' v l:=⟨vd.imp c.1 fun g o=>um.imp (fun a g o=>QO.below e d a g o) l g o,c.2⟩
theorem VI.below{B d:Nat}{w w':C3}(c:Below B w w')(b:B<=d)(a:Fu)(g o:Nat)(e:VI B w a g o):VI d w' a g o:=by
 obtain⟨f,i,⟨v,j,k⟩,⟨v',l,m⟩⟩:=e;exact⟨f.below c b,i.below c b,⟨v,j.below c b,k.below c b⟩,⟨v',l.below c b,m.below c b⟩⟩
theorem gN.below{B b:Nat}{w w':C3}{v:C4}{l:List Fu}(c:gN B w v l)(e:Below B w w')(d:B<=b):gN b w' v l:=vd.imp c fun g o=>um.imp (fun a g o=>VI.below e d a g o) l g o
theorem vd.elem{v:C4}{n:Nat}{F:Nat->Nat->Prop}{a:Option Addr}{m c:Nat}(e:vd v n F)(i:v=.slice a m c)(f:0<n):∃g o,a=some ⟨g,o,none⟩/\F g o:=by
 obtain⟨_,_,b,_,hF⟩:=e;rw[i]at b;injection b with d _ _;subst d;exact hF f
theorem gM.cells{B:Nat}{w:C3}{b:Option Addr}{n d:Nat}{l:List Ar}(e:gM B w (.slice b n d) l){i:Nat}{a:Ar}(c:l[i]?=some a):
 ∃(g o:Nat),b=some ⟨g,o,none⟩/\g<B/\w.cell? (g,o+i*2)=some (.string a.name)/\w.cell? (g,o+i*2+1)=some (.int .i64 a.size):=by
 obtain⟨g,o,f,j⟩:=vd.elem e rfl Vz;have:=um.at l g o i a j c;exact⟨g,o,f,this.1.1,this.1.2,this.2.2⟩
theorem gT.cells{B:Nat}{w:C3}{b:Option Addr}{n d:Nat}{l:List Pa}(e:gT B w (.slice b n d) l){i:Nat}{a:Pa}(c:l[i]?=some a):
 ∃(g o:Nat),b=some ⟨g,o,none⟩/\g<B/\w.cell? (g,o+i*2)=some (.string a.name)/\w.cell? (g,o+i*2+1)=some (.int .i64 a.type):=by
 obtain⟨g,o,f,j⟩:=vd.elem e.1 rfl Vz;have:=um.at l g o i a j c;exact⟨g,o,f,this.1.1,this.1.2,this.2.2⟩
theorem gN.cells{B:Nat}{w:C3}{a:Option Addr}{n d:Nat}{l:List Fu}(e:gN B w (.slice a n d) l){i:Nat}{f:Fu}(c:l[i]?=some f):
 ∃(g o:Nat) (v v':C4),a=some ⟨g,o,none⟩/\g<B/\w.cell? (g,o+i*4)=some (.string f.name)/\w.cell? (g,o+i*4+1)=some (.int .i64 f.type)/\w.cell? (g,o+i*4+2)=some v/\w.cell? (g,o+i*4+3)=some v'/\gT B w v f.params/\f6 B w v' f.body:=by
 obtain⟨g,o,r,s⟩:=vd.elem e rfl Vz;obtain⟨b,j,⟨v,k,m⟩,⟨v',p,q⟩⟩:=um.at l g o i f s c;exact⟨g,o,v,v',r,b.1,b.2,j.2,k.2,p.2,m,q⟩
theorem gM.form{B:Nat}{w:C3}{v:C4}{l:List Ar}(c:gM B w v l):∃a b,v=.slice a l.length b/\l.length<=281474976710656:=by
 obtain⟨a,b,e,d,_⟩:=c;exact⟨a,b,e,d⟩
theorem gT.form{B:Nat}{w:C3}{v:C4}{l:List Pa}(c:gT B w v l):∃a b,v=.slice a l.length b/\l.length<=281474976710656:=by
 obtain⟨a,b,e,d,_⟩:=c.1;exact⟨a,b,e,d⟩
theorem gN.form{B:Nat}{w:C3}{v:C4}{l:List Fu}(c:gN B w v l):∃a b,v=.slice a l.length b/\l.length<=281474976710656:=by
 obtain⟨a,b,e,d,_⟩:=c;exact⟨a,b,e,d⟩
theorem kU.form{B:Nat}{w:C3}{v:C4}{l:List Ex}(c:kU B w v l):∃a b,v=.slice a l.length b/\l.length<=281474976710656:=by
 obtain⟨a,b,e,d,_⟩:=c;exact⟨a,b,e,d⟩
theorem f6.form{B:Nat}{w:C3}{v:C4}{l:List St}(c:f6 B w v l):∃a b,v=.slice a l.length b/\l.length<=281474976710656:=by
 obtain⟨a,b,e,d,_⟩:=c;exact⟨a,b,e,d⟩
def j7(B:Nat)(w:C3)(e:Ex)(x:C4):Prop:=∃v,x=.agg #[(e.kind:Int),(e.op:Int),(e.n:Int),e.name,v]/\fS e.n/\kU B w v e.args
theorem j7.below{B a:Nat}{w w':C3}{e:Ex}{x:C4}(b:j7 B w e x)(d:Below B w w')(c:B<=a):j7 a w' e x:=by
 obtain⟨v,i,f,g⟩:=b;exact⟨v,i,f,g.below d c⟩
theorem vg(B:Nat)(w:C3):kU B w (.slice none 0 0) []:=⟨none,0,rfl,Dx _,fun h=>absurd h Uh⟩
theorem B4(B:Nat)(w:C3):f6 B w (.slice none 0 0) []:=⟨none,0,rfl,Dx _,fun h=>absurd h Uh⟩
theorem KI(B:Nat)(w:C3):gM B w (.slice none 0 0) []:=⟨none,0,rfl,Dx _,fun h=>absurd h Uh⟩
theorem vG{w:C3}{b:Nat}{a:Array C4}{T:TypeId}{fr:Nat×Nat}{B:Nat}(e:w.heap[b]?=some (.cells a T fr))(d:b<B)(j:Nat)(c:C4)(f:a[j]?=some c):fK B w b j c:=⟨d,(Du e j).trans f⟩
theorem HZ{w:C3}{b B:Nat}{a:Array C4}{T:TypeId}{fr:Nat×Nat}(d:w.heap[b]?=some (.cells a T fr))(c:b<B)(o:Nat){k op n:Int}{td:C2}{tc:List Ex}{v:C4}(l:fS n)(m:kU B w v tc)
 (e:a[o]?=some (.int .i64 k)) (f:a[o+1]?=some (.int .i64 op)) (g:a[o+2]?=some (.int .i64 n)) (i:a[o+3]?=some (.string td)) (j:a[o+4]?=some v):y1 B w (.mk k op n td tc) b o:=by
 rw[y1];exact⟨vG d c _ _ e,vG d c _ _ f,vG d c _ _ g,vG d c _ _ i,l,v,vG d c _ _ j,m⟩
theorem V7{w:C3}{b B:Nat}{k op n:Int}{td:C2}{tc:List Ex}{v:C4}{T:TypeId}{fr:Nat×Nat}(c:w.heap[b]?=some (.cells #[(k:Int),(op:Int),(n:Int),td,v] T fr))(a:b<B)(d:fS n)(e:kU B w v tc):
 kU B w (.slice (some ⟨b,0,none⟩) 1 1) [.mk k op n td tc]:=by
 refine⟨_,1,rfl,Uh,fun _=>⟨b,0,rfl,?_⟩⟩;rw[kL,kL];exact⟨HZ c a 0 d e rfl rfl rfl rfl rfl,trivial⟩
theorem KJ{w:C3}{b B:Nat}{k op n f i a:Int}{td g:C2}{tc c:List Ex}{v v':C4}{T:TypeId}{fr:Nat×Nat}
 (e:w.heap[b]?=some (.cells #[(k:Int),(op:Int),(n:Int),td,v,(f:Int),(i:Int),(a:Int),g,v'] T fr)) (d:b<B) (j:fS n) (m:kU B w v tc) (l:fS a) (o:kU B w v' c):
 kU B w (.slice (some ⟨b,0,none⟩) 2 2) [.mk k op n td tc,.mk f i a g c]:=by
 refine⟨_,2,rfl,Uh,fun _=>⟨b,0,rfl,?_⟩⟩;rw[kL,kL,kL];exact⟨HZ e d 0 j m rfl rfl rfl rfl rfl,HZ e d 5 l o rfl rfl rfl rfl rfl,trivial⟩
theorem zA(w:C3)(o:Obj):(w.alloc o).heap.size=w.heap.size+1:=Uh
theorem xA(w:C3)(a:Addr)(u:C4):(w.setCell a u).heap.size=w.heap.size:=Uh
def g2(w:C3)(b:Nat)(a c d e f:C4):C3:=((((w.setCell (b,0) a).setCell (b,1) c).setCell (b,2) d).setCell (b,3) e).setCell (b,4) f
theorem xd(w:C3)(b:Nat)(a c d e f:C4):(g2 w b a c d e f).heap.size=w.heap.size:=by simp[g2]
theorem l6{w:C3}{b:Nat}{g i j k l:C4}{T:TypeId}{fr:Nat×Nat}(m:w.heap[b]?=some (.cells #[g,i,j,k,l] T fr))(a c d e f:C4):(g2 w b a c d e f).heap[b]?=some (.cells #[a,c,d,e,f] T fr):=
 D3 (D3 (D3 (D3 (D3 m a) c) d) e) f
def Is(w:C3)(g:Nat)(t:TypeId)(a:Array C4):Prop:=w.heap[g]?=some (.cells a t (0,0))
theorem Is.cell{w:C3}{g:Nat}{t:TypeId}{a:Array C4}(b:Is w g t a)(i:Nat):w.cell? (g,i)=a[i]?:=cell_of_row w g i a t (0,0) b
theorem Is.frozen{w:C3}{g:Nat}{t:TypeId}{b:Array C4}(a:Is w g t b)(i:Nat):w.frozen? (g,i)=false:=by
 unfold Is at a;simp[World.frozen?,a]
theorem Is.lt{w:C3}{g:Nat}{t:TypeId}{a:Array C4}(b:Is w g t a):g<w.heap.size:=(Array.getElem?_eq_some_iff.1 b).1
theorem Is.below{w w':C3}{g:Nat}{t:TypeId}{a:Array C4}{B:Nat}(b:Is w g t a)(c:Below B w w')(d:g<B):Is w' g t a:=(c.block g d).trans b
theorem Is.set{w:C3}{g:Nat}{t:TypeId}{a:Array C4}(b:Is w g t a)(i:Nat)(c:C4):Is (w.setCell (g,i) c) g t (a.setIfInBounds i c):=by
 unfold Is at b ⊢;simp[World.setCell,Array.getElem?_modify,b]
section
variable {a w:C3}{g:Nat}
end
def jQ(a:List fH):List C4:=a.flatMap fun t=>[.int .i64 t.kind,.string ⟨t.text.toArray⟩,.int .i64 (t.line:Int)]
theorem lC(a:List fH)(t:fH):jQ (a++[t])=jQ a++[.int .i64 t.kind,.string ⟨t.text.toArray⟩,.int .i64 (t.line:Int)]:=by simp[jQ]
def uD(w:C3)(B:Nat)(v:C4)(a:List fH):Prop:=w.ownsRow B 57 3 v a.length (jQ a)
theorem zQ{w w':C3}{B:Nat}{e:TypeId}{b n:Nat}{v:C4}{c:List C4}(a:w.ownsRow B e b v n c)(o:∀k,v.ownBlock=some k->w'.heap[k]?=w.heap[k]?):w'.ownsRow B e b v n c:=by
 refine⟨a.1,?_⟩;rcases a.2 with i|⟨g,d,f,rfl,j,l,m⟩
 .exact .inl i
 .exact .inr ⟨g,d,f,rfl,j,(o g rfl).trans l,m⟩
theorem zT{w:C3}{B:Nat}{e:TypeId}{f n:Nat}{v:C4}{i:List C4}(b:w.ownsRow B e f v n i):∀k,v.ownBlock=some k->k<w.heap.size/\B<=k:=by
 intro k a;rcases b.2 with⟨rfl,_⟩|⟨g,_,_,rfl,c,d,_⟩
 .cases a
 .injection a with a
  subst a;exact⟨(Array.getElem?_eq_some_iff.1 d).1,c⟩
theorem zY{w:C3}{B:Nat}{e:TypeId}{f n:Nat}{v:C4}{i:List C4}(d:w.ownsRow B e f v n i):∃a c,v=.slice a n c:=by
 rcases d.2 with⟨rfl,rfl⟩|⟨g,b,_,rfl,_⟩
 .exact⟨none,0,rfl⟩
 .exact⟨_,b,rfl⟩
theorem uE{w:C3}{B:Nat}{e t:TypeId}{j n:Nat}{v:C4}{k:List C4}{g:Nat}{c:Array C4}(d:w.ownsRow B e j v n k)(f:Is w g t c)(i:e≠t):v.ownBlock≠some g:=by
 rcases d.2 with⟨rfl,_⟩|⟨_,_,_,rfl,_,a,_⟩
 .simp[Value.ownBlock]
 .intro b
  injection b with b;subst b;rw[f]at a;injection a with a;injection a with _ a;exact i a.symm
theorem qR{w w':C3}{B C:Nat}{e:TypeId}{b n:Nat}{v:C4}{c:List C4}(a:w.ownsRow B e b v n c)(f:Below C w w')(d:w.heap.size<=C):w'.ownsRow B e b v n c:=
 zQ a fun k g=>f.block k (Yb (zT a k g).1 d)
theorem ED:(Tryz.prog.info? 57).map (fun i=>(i.zero,i.size,i.bytes))=some (some (.agg #[(0:Int),.string ⟨#[]⟩,(0:Int)]),3,32):=by kernel_rfl
inductive PR (α:Type) where
 |ok (a:α) (r:List fH)
 |bad (r:List fH)
 |deep (r:List fH)
 |o
def PR.bind{α β:Type}(x:PR α)(f:α->List fH->PR β):PR β:=
 match x with
 |.ok a r=>f a r
 |.bad r=>.bad r
 |.deep r=>.deep r
 |.o=>.o
def zq(s:List UInt8)(l:List fH):Bool:=match l with|t::_=>decide (t.kind=2)&&t.text == s | []=>false
def gV(l:List fH):Int:=match l with|t::_=>t.kind | []=>3
def pV(l:List fH):List UInt8:=match l with|t::_=>t.text | []=>[]
def zN(s:List UInt8)(l:List fH):PR Unit:=if zq s l then .ok () l.tail else .bad l
def qr(k:Int)(l:List fH):PR C2:=if gV l=k then .ok ⟨(pV l).toArray⟩ l.tail else .bad l
def pW(op:Int):List UInt8:=(xN op).data.toList
def xV(lev:Int)(l:List fH):List Int->Int
 |[]=>0
 |op::r=>if kD op=lev/\zq (pW op) l=true then op else xV lev l r
def H0:List Int:=[1,2,3,4,5,6,7,8,9,10,11,12,13,14,15,16,17,18,19]
def MK:List Int:=[20,21,22,23,24,25,26,27,28]
def EE(lev:Int)(l:List fH):Int:=xV lev l H0
def xo(l:List fH):List Int->Int
 |[]=>0
 |op::r=>if zq (pW op) l=true then op else xo l r
def pX(l:List fH):Int:=xo l MK
def bE:C2:=⟨#[]⟩
def hJ:List UInt8:=[116,114,117,101]
def uF:List UInt8:=[102,97,108,115,101]
def l7:List UInt8:=[114,101,97,100]
def k0:List UInt8:=[105,110,116]
def xP:List UInt8:=[98,111,111,108]
def ML:List UInt8:=[105,102]
def y2:List UInt8:=[101,108,115,101]
def vH:List UInt8:=[119,104,105,108,101]
def hK:List UInt8:=[98,114,101,97,107]
def rT:List UInt8:=[99,111,110,116,105,110,117,101]
def EF:List UInt8:=[114,101,116,117,114,110]
def lJ:List UInt8:=[112,114,105,110,116]
mutual
def pE:Nat->Int->Int->List fH->PR Ex
 |0,_,_,_=>.o
 |n+1,lev,d,l=>if 10<lev then pU n d l else(pE n (lev+1) d l).bind fun a r=>pL n lev d a r
def pL:Nat->Int->Int->Ex->List fH->PR Ex
 |0,_,_,_,_=>.o
 |n+1,lev,d,a,l=>if EE lev l=0 then .ok a l else(pE n (lev+1) d l.tail).bind fun b r=>pL n lev d (.mk 5 (EE lev l) 0 bE [a,b]) r
def pU:Nat->Int->List fH->PR Ex
 |0,_,_=>.o
 |n+1,d,l=>
   if 100<d then .deep l
   else if pX l=0 then pP n d l
   else if 23<=pX l then(zN [40] l.tail).bind fun _ r=>(pE n 1 (d+1) r).bind fun e r=>(zN [41] r).bind fun _ r=>.ok (.mk 4 (pX l) 0 bE [e]) r
   else(pU n (d+1) l.tail).bind fun e r=>.ok (.mk 4 (pX l) 0 bE [e]) r
def pP:Nat->Int->List fH->PR Ex
 |0,_,_=>.o
 |n+1,d,l=>
   if zq [40] l=true then(pE n 1 (d+1) l.tail).bind fun e r=>(zN [41] r).bind fun _ r=>.ok e r
   else if zq hJ l=true then .ok (.mk 2 0 1 bE []) l.tail
   else if zq uF l=true then .ok (.mk 2 0 0 bE []) l.tail
   else if zq l7 l=true then(zN [40] l.tail).bind fun _ r=>(zN [41] r).bind fun _ r=>.ok (.mk 8 0 0 bE []) r
   else if gV l=0 then .ok (.mk 1 0 (kS 0 (pV l)) bE []) l.tail
   else(qr 1 l).bind fun s r=>pN n d s r
def pN:Nat->Int->C2->List fH->PR Ex
 |0,_,_,_=>.o
 |n+1,d,s,l=>
   if zq [40] l=true then(pA n (d+1) l.tail).bind fun a r=>.ok (.mk 7 0 0 s a) r
   else if zq [91] l=true then(pE n 1 (d+1) l.tail).bind fun e r=>(zN [93] r).bind fun _ r=>.ok (.mk 6 0 0 s [e]) r
   else .ok (.mk 3 0 0 s []) l
def pA:Nat->Int->List fH->PR (List Ex)
 |0,_,_=>.o
 |n+1,d,l=>if zq [41] l=true then .ok [] l.tail else rU n d [] l
def rU:Nat->Int->List Ex->List fH->PR (List Ex)
 |0,_,_,_=>.o
 |n+1,d,tk,l=>(pE n 1 d l).bind fun e r=>if zq [44] r=true then rU n d (tk++[e]) r.tail else(zN [41] r).bind fun _ r=>.ok (tk++[e]) r
end
def pI(n:Nat)(l:List fH):PR Ex:=(zN [40] l).bind fun _ r=>(pE n 1 1 r).bind fun e r=>(zN [41] r).bind fun _ r=>.ok e r
def k1(l:List fH):PR Int:=if zq k0 l=true then .ok 1 l.tail else(zN xP l).bind fun _ r=>.ok 2 r
def vI{α:Type}(x:PR α):PR α:=x.bind fun a r=>(zN [59] r).bind fun _ r=>.ok a r
def q2(n:Nat)(l:List fH):PR St:=(qr 1 l).bind fun s r=>
 if zq [40] r=true then(pA n 2 r.tail).bind fun a r=>.ok (.mk 10 0 bE [.mk 7 0 0 s a] [] []) r
 else if zq [91] r=true then(pE n 1 1 r.tail).bind fun e r=>(zN [93] r).bind fun _ r=>(zN [61] r).bind fun _ r=>(pE n 1 1 r).bind fun f r=>.ok (.mk 3 0 s [e,f] [] []) r
 else(zN [61] r).bind fun _ r=>(pE n 1 1 r).bind fun e r=>.ok (.mk 2 0 s [e] [] []) r
mutual
def pS:Nat->Int->List fH->PR St
 |0,_,_=>.o
 |n+1,d,l=>
   if 100<d then .deep l
   else if zq k0 l=true\/zq xP l=true then vI ((k1 l).bind fun t r=>(qr 1 r).bind fun s r=>(zN [61] r).bind fun _ r=>(pE n 1 1 r).bind fun e r=>.ok (.mk 1 t s [e] [] []) r)
   else if zq ML l=true then(pI n l.tail).bind fun e r=>(pB n (d+1) r).bind fun t r=>q3 n d e t r
   else if zq vH l=true then(pI n l.tail).bind fun e r=>(pB n (d+1) r).bind fun t r=>.ok (.mk 5 0 bE [e] t []) r
   else if zq hK l=true then vI (.ok (.mk 6 0 bE [] [] []) l.tail)
   else if zq rT l=true then vI (.ok (.mk 7 0 bE [] [] []) l.tail)
   else if zq EF l=true then vI ((pE n 1 1 l.tail).bind fun e r=>.ok (.mk 8 0 bE [e] [] []) r)
   else if zq lJ l=true then vI ((pI n l.tail).bind fun e r=>.ok (.mk 9 0 bE [e] [] []) r)
   else vI (q2 n l)
def q3:Nat->Int->Ex->List St->List fH->PR St
 |0,_,_,_,_=>.o
 |n+1,d,e,t,l=>if zq y2 l=true then(pB n (d+1) l.tail).bind fun u r=>.ok (.mk 4 0 bE [e] t u) r else .ok (.mk 4 0 bE [e] t []) l
def pB:Nat->Int->List fH->PR (List St)
 |0,_,_=>.o
 |n+1,d,l=>(zN [123] l).bind fun _ r=>nN n d [] r
def nN:Nat->Int->List St->List fH->PR (List St)
 |0,_,_,_=>.o
 |n+1,d,tk,l=>if zq [125] l=true then .ok tk l.tail else(pS n d l).bind fun s r=>nN n d (tk++[s]) r
end
def pY:Nat->List Pa->List fH->PR (List Pa)
 |0,_,_=>.o
 |n+1,tk,l=>(k1 l).bind fun t r=>(qr 1 r).bind fun s r=>if zq [44] r=true then pY n (tk++[⟨s,t⟩]) r.tail else(zN [41] r).bind fun _ r=>.ok (tk++[⟨s,t⟩]) r
def V8(n:Nat)(l:List fH):PR (List Pa):=(zN [40] l).bind fun _ r=>if zq [41] r=true then .ok [] r.tail else pY n [] r
def o6(n:Nat)(t:Int)(s:C2)(l:List fH):PR Fu:=(V8 n l).bind fun ps r=>(pB n 1 r).bind fun b r=>.ok ⟨s,t,ps,b⟩ r
def pZ(s:C2)(l:List fH):PR Ar:=(qr 0 l).bind fun t r=>(zN [93] r).bind fun _ r=>(zN [59] r).bind fun _ r=>.ok ⟨s,kS 0 t.data.toList⟩ r
def k2:Nat->Pr->List fH->PR Pr
 |0,_,_=>.o
 |n+1,p,l=>if gV l=3 then .ok p l else(k1 l).bind fun t r=>(qr 1 r).bind fun s r=>
    if t=1/\p.funcs=[]/\zq [91] r=true then(pZ s r.tail).bind fun a r=>k2 n ⟨p.wa++[a],p.funcs⟩ r
    else(o6 n t s r).bind fun f r=>k2 n ⟨p.wa,p.funcs++[f]⟩ r
def qC(l:List fH):Prop:=∃i e,l=i++[e]/\e.kind=3/\∀t∈i,t.kind≠3
theorem qC.ne{l:List fH}(h:qC l):l≠[]:=by obtain⟨i,e,rfl,_⟩:=h;simp
theorem qC.pos{l:List fH}(h:qC l):0<l.length:=List.length_pos_iff.2 h.ne
theorem qC.tail{l:List fH}(c:qC l)(f:gV l≠3):qC l.tail:=by
 obtain⟨i,e,rfl,b,d⟩:=c;cases i with
 |nil=>exact absurd b f
 |cons a i=>exact⟨i,e,rfl,b,fun t g=>d t (Y7 _ g)⟩
theorem uM{s:List UInt8}{l:List fH}(h:zq s l=true):gV l=2/\pV l=s:=by
 cases l with
 |nil=>cases h
 |cons t r=>
   simp only[zq,D2,decide_eq_true_eq]at h;exact⟨h.1,by simpa[pV]using h.2⟩
theorem qC.sign{l:List fH}(a:qC l){s:List UInt8}(b:zq s l=true):qC l.tail:=a.tail (by rw[(uM b).1];decide)
theorem jo{l:List fH}(h:qC l):l.tail.length+1=l.length:=by
 have:=h.pos;rw[List.length_tail];omega
theorem vh{lev:Int}{l:List fH}:∀{ops:List Int},xV lev l ops≠0->∃s,zq s l=true
 |[],h=>absurd rfl h
 | op::r,h=>by
   rw[xV]at h;split at h
   .rename_i a
    exact⟨_,a.2⟩
   .exact vh h
theorem hM{l:List fH}:∀{ops:List Int},xo l ops≠0->∃s,zq s l=true
 |[],h=>absurd rfl h
 | op::r,h=>by
   rw[xo]at h;split at h
   .rename_i a
    exact⟨_,a⟩
   .exact hM h
def zJ(k:Nat)(l r:List fH):Prop:=r <:+l/\qC r/\r.length+k<=l.length
def zm{α:Type}(k:Nat)(l:List fH):PR α->Prop
 |.ok _ r=>zJ k l r
 |.bad r=>zJ 0 l r
 |.deep r=>zJ 0 l r
 |.o=>True
theorem zJ.self{l:List fH}(h:qC l):zJ 0 l l:=⟨List.suffix_refl _,h,D0 _⟩
theorem zJ.tail{l:List fH}(a:qC l)(b:gV l≠3):zJ 1 l l.tail:=⟨List.tail_suffix l,a.tail b,by rw[jo a];exact D0 _⟩
theorem zJ.sign{l:List fH}(a:qC l){s:List UInt8}(b:zq s l=true):zJ 1 l l.tail:=zJ.tail a (by rw[(uM b).1];decide)
theorem zJ.trans{k m:Nat}{a b c:List fH}(h:zJ k a b)(g:zJ m b c):zJ (k+m) a c:=⟨g.1.trans h.1,g.2.1,by have:=h.2.2;have:=g.2.2;omega⟩
theorem zJ.mono{k m:Nat}{a b:List fH}(h:zJ k a b)(_:m<=k):zJ m a b:=⟨h.1,h.2.1,by have:=h.2.2;omega⟩
theorem zm.mono{α:Type}{k m:Nat}{l:List fH}{x:PR α}(b:zm k l x)(c:m<=k):zm m l x:=by
 cases x with
 |ok a r=>exact zJ.mono (show zJ k l r from b) c
 |bad r=>exact b
 |deep r=>exact b
 |o=>trivial
theorem zm.from{α:Type}{k m n:Nat}{l r:List fH}{x:PR α}(b:zJ m l r)(g:zm k r x)(c:n<=m+k):zm n l x:=by
 cases x with
 |ok a t=>exact(b.trans (show zJ k r t from g)).mono c
 |bad t=>exact(b.trans (show zJ 0 r t from g)).mono (Dx _)
 |deep t=>exact(b.trans (show zJ 0 r t from g)).mono (Dx _)
 |o=>trivial
theorem zm.bind{α β:Type}{k m n:Nat}{l:List fH}{x:PR α}{f:α->List fH->PR β}(b:zm k l x)(g:∀a r,x=.ok a r->qC r->zm m r (f a r))(c:n<=k+m):zm n l (x.bind f):=by
 cases x with
 |ok a r=>exact zm.from (show zJ k l r from b) (g a r rfl (show zJ k l r from b).2.1) c
 |bad r=>exact b
 |deep r=>exact b
 |o=>trivial
theorem zm.self{α:Type}{l:List fH}(h:qC l)(a:α):zm 0 l (.ok a l):=zJ.self h
theorem zL{l:List fH}(a:qC l)(s:List UInt8):zm 1 l (zN s l):=by
 unfold zN;split
 .rename_i b
  exact zJ.sign a b
 .exact zJ.self a
theorem jI{l:List fH}(a:qC l)(k:Int)(b:k≠3):zm 1 l (qr k l):=by
 unfold qr;split
 .rename_i c
  exact zJ.tail a (by rw[c];exact b)
 .exact zJ.self a
theorem nV(n:Nat):(∀lev d l,qC l->zm 1 l (pE n lev d l))/\(∀lev d a l,qC l->zm 0 l (pL n lev d a l))/\(∀d l,qC l->zm 1 l (pU n d l))/\(∀d l,qC l->zm 1 l (pP n d l))/\
 (∀d s l,qC l->zm 0 l (pN n d s l))/\(∀d l,qC l->zm 1 l (pA n d l))/\(∀d tk l,qC l->zm 1 l (rU n d tk l)):=by
 induction n with
 |zero=>exact⟨fun _ _ _ _=>by rw[pE];trivial,fun _ _ _ _ _=>by rw[pL];trivial,fun _ _ _=>by rw[pU];trivial,fun _ _ _=>by rw[pP];trivial,fun _ _ _ _=>by rw[pN];trivial,fun _ _ _=>by rw[pA];trivial,fun _ _ _ _=>by rw[rU];trivial⟩
 |succ n v=>
   obtain⟨g,k,o,u,t,q,j⟩:=v;refine⟨fun lev d l b=>?_,fun lev d a l b=>?_,fun d l b=>?_,fun d l b=>?_,fun d s l b=>?_,fun d l b=>?_,fun d tk l b=>?_⟩
   .rw[pE]
    split
    .exact o d l b
    .exact(g _ _ _ b).bind (fun a r _ c=>k _ _ _ _ c) O
   .rw[pL]
    split
    .exact zm.self b _
    .rename_i i
     obtain⟨s,f⟩:=vh i;exact zm.from (zJ.sign b f) ((g _ _ _ (b.sign f)).bind (n:=1) (fun a r _ c=>k _ _ _ _ c) O) O
   .rw[pU]
    split
    .exact zJ.self b
    .split
     .exact u d l b
     .rename_i i
      obtain⟨s,f⟩:=hM i;split
      .exact zm.from (zJ.sign b f) ((zL (b.sign f) _).bind (n:=0) (fun _ r _ c=>(g _ _ _ c).bind (n:=0) (fun e r _ c=>(zL c _).bind (n:=0) (fun _ r _ c=>zm.self c _) O) O) O) O
      .exact zm.from (zJ.sign b f) ((o _ _ (b.sign f)).bind (n:=0) (fun _ r _ c=>zm.self c _) O) O
   .rw[pP]
    split
    .rename_i f
     exact Oj
    .split
     .rename_i f
      exact zJ.sign b f
     .split
      .rename_i f
       exact zJ.sign b f
      .split
       .rename_i f
        exact zm.from (zJ.sign b f) ((zL (b.sign f) _).bind (n:=0) (fun _ r _ c=>(zL c _).bind (n:=0) (fun _ r _ c=>zm.self c _) O) O) O
       .split
        .rename_i p
         exact zJ.tail b (by rw[p];decide)
        .exact(jI b 1 Uf).bind (fun s r _ c=>t _ _ _ c) O
   .rw[pN]
    split
    .rename_i f
     exact zm.from (zJ.sign b f) ((q _ _ (b.sign f)).bind (n:=0) (fun _ r _ c=>zm.self c _) O) O
    .split
     .rename_i f
      exact Oj
     .exact zm.self b _
   .rw[pA]
    split
    .rename_i f
     exact zJ.sign b f
    .exact j _ _ _ b
   .rw[rU]
    refine(g _ _ _ b).bind (m:=0) (fun e r _ c=>?_) O;split
    .rename_i f
     exact zm.from (zJ.sign c f) (j _ _ _ (c.sign f)) O
    .exact(zL c _).bind (n:=0) (fun _ r _ c=>zm.self c _) O
theorem jB{n:Nat}{lev d:Int}{l:List fH}(h:qC l):zm 1 l (pE n lev d l):=(nV n).1 lev d l h
theorem B5{n:Nat}{d:Int}{l:List fH}(h:qC l):zm 1 l (pA n d l):=(nV n).2.2.2.2.2.1 d l h
theorem yp{n:Nat}{l:List fH}(b:qC l):zm 1 l (pI n l):=by
 unfold pI;exact(zL b _).bind (m:=0) (fun _ r _ a=>(jB a).bind (n:=0) (fun e r _ a=>(zL a _).bind (n:=0) (fun _ r _ a=>zm.self a _) O) O) O
theorem xp{l:List fH}(a:qC l):zm 1 l (k1 l):=by
 unfold k1;split
 .rename_i c
  exact zJ.sign a c
 .exact(zL a _).bind (m:=0) (fun _ r _ b=>zm.self b _) O
theorem yE{α:Type}{k:Nat}{l:List fH}{x:PR α}(b:zm k l x):zm k l (vI x):=by
 unfold vI;exact b.bind (m:=0) (fun _ r _ a=>(zL a _).bind (n:=0) (fun _ r _ a=>zm.self a _) O) O
theorem EG{n:Nat}{l:List fH}(c:qC l):zm 1 l (q2 n l):=by
 unfold q2;refine(jI c 1 Uf).bind (m:=0) (fun s r _ a=>?_) O;split
 .rename_i b
  exact zm.from (zJ.sign a b) ((B5 (a.sign b)).bind (n:=0) (fun _ r _ a=>zm.self a _) O) O
 .split
  .rename_i b
   exact zm.from (zJ.sign a b) ((jB (a.sign b)).bind (n:=0) (fun e r _ a=>(zL a _).bind (n:=0) (fun _ r _ a=>(zL a _).bind (n:=0) (fun _ r _ a=>(jB a).bind (n:=0) (fun _ r _ a=>zm.self a _) O) O) O) O) O
  .exact(zL a _).bind (n:=0) (fun _ r _ a=>(jB a).bind (n:=0) (fun _ r _ a=>zm.self a _) O) O
theorem y3(n:Nat):(∀d l,qC l->zm 1 l (pS n d l))/\(∀d e t l,qC l->zm 0 l (q3 n d e t l))/\(∀d l,qC l->zm 1 l (pB n d l))/\(∀d tk l,qC l->zm 1 l (nN n d tk l)):=by
 induction n with
 |zero=>exact⟨fun _ _ _=>by rw[pS];trivial,fun _ _ _ _ _=>by rw[q3];trivial,fun _ _ _=>by rw[pB];trivial,fun _ _ _ _=>by rw[nN];trivial⟩
 |succ n k=>
   obtain⟨j,i,f,g⟩:=k;refine⟨fun d l b=>?_,fun d e t l b=>?_,fun d l b=>?_,fun d tk l b=>?_⟩
   .rw[pS]
    split
    .exact zJ.self b
    .split
     .refine yE ((xp b).bind (m:=0) (fun t r _ a=>(jI a 1 Uf).bind (n:=0) (fun s r _ a=>(zL a _).bind (n:=0) (fun _ r _ a=>(jB a).bind (n:=0) (fun _ r _ a=>zm.self a _) O) O) O) O)
     .split
      .rename_i c
       exact zm.from (zJ.sign b c) ((yp (b.sign c)).bind (n:=0) (fun e r _ a=>(f _ _ a).bind (n:=0) (fun t r _ a=>i _ _ _ _ a) O) O) O
      .split
       .rename_i c
        exact zm.from (zJ.sign b c) ((yp (b.sign c)).bind (n:=0) (fun e r _ a=>(f _ _ a).bind (n:=0) (fun t r _ a=>zm.self a _) O) O) O
       .split
        .rename_i c
         exact yE (show zJ 1 l l.tail from zJ.sign b c)
        .split
         .rename_i c
          exact yE (show zJ 1 l l.tail from zJ.sign b c)
         .split
          .rename_i c
           exact yE (zm.from (zJ.sign b c) ((jB (b.sign c)).bind (n:=0) (fun _ r _ a=>zm.self a _) O) O)
          .split
           .rename_i c
            exact yE (zm.from (zJ.sign b c) ((yp (b.sign c)).bind (n:=0) (fun _ r _ a=>zm.self a _) O) O)
           .exact yE (EG b)
   .rw[q3]
    split
    .rename_i c
     exact zm.from (zJ.sign b c) ((f _ _ (b.sign c)).bind (n:=0) (fun _ r _ a=>zm.self a _) O) O
    .exact zm.self b _
   .rw[pB]
    exact(zL b _).bind (m:=0) (fun _ r _ a=>(g _ _ _ a).mono O) O
   .rw[nN]
    split
    .rename_i c
     exact zJ.sign b c
    .exact(j _ _ b).bind (m:=0) (fun _ r _ a=>(g _ _ _ a).mono O) O
theorem q5{n:Nat}{d:Int}{l:List fH}(h:qC l):zm 1 l (pS n d l):=(y3 n).1 d l h
theorem iW{n:Nat}{d:Int}{l:List fH}(h:qC l):zm 1 l (pB n d l):=(y3 n).2.2.1 d l h
theorem EH:∀(n:Nat) (tk:List Pa) (l:List fH),qC l->zm 1 l (pY n tk l)
 |0,_,_,_=>by rw[pY];trivial
 | n+1,tk,l,h=>by
   rw[pY];refine(xp h).bind (m:=0) (fun t r _ a=>(jI a 1 Uf).bind (m:=0) (fun s r _ a=>?_) O) O;split
   .rename_i b
    exact zm.from (zJ.sign a b) (EH n _ _ (a.sign b)) O
   .exact(zL a _).bind (n:=0) (fun _ r _ a=>zm.self a _) O
theorem rV{n:Nat}{l:List fH}(b:qC l):zm 1 l (V8 n l):=by
 unfold V8;refine(zL b _).bind (m:=0) (fun _ r _ a=>?_) O;split
 .rename_i c
  exact(show zJ 1 r r.tail from zJ.sign a c).mono O
 .exact(EH n _ _ a).mono O
theorem hN{n:Nat}{t:Int}{s:C2}{l:List fH}(b:qC l):zm 1 l (o6 n t s l):=by
 unfold o6;exact(rV b).bind (m:=0) (fun _ r _ a=>(iW a).bind (n:=0) (fun _ r _ a=>zm.self a _) O) O
theorem y4{s:C2}{l:List fH}(b:qC l):zm 1 l (pZ s l):=by
 unfold pZ;exact(jI b 0 Uf).bind (m:=0) (fun _ r _ a=>(zL a _).bind (n:=0) (fun _ r _ a=>(zL a _).bind (n:=0) (fun _ r _ a=>zm.self a _) O) O) O
def gQ(b:Nat)(w:C3):C3:={ w with heap:=w.heap.setIfInBounds b (.cells #[] 0 (0,0)) }
theorem uN(b:Nat)(w:C3):(gQ b w).heap.size=w.heap.size:=by simp[gQ]
theorem uo{b k:Nat}(w:C3)(h:k≠b):(gQ b w).heap[k]?=w.heap[k]?:=by
 simp only[gQ,Array.getElem?_setIfInBounds];rw[Dp (fun e=>h e.symm)]
theorem H1{b:Nat}(w:C3):(gQ b w).heap[b]?=if b<w.heap.size then some (.cells #[] 0 (0,0))else none:=by
 simp only[gQ,Array.getElem?_setIfInBounds,if_true]
def fI(b B:Nat)(w w':C3):Prop:=Below B (gQ b w) (gQ b w')
theorem fI.mk'{b B:Nat}{w w':C3}(a:w'.os=w.os)(c:w'.tape=w.tape)(d:w'.output=w.output)(f:w.heap.size<=w'.heap.size)(i:b<w.heap.size)(g:∀k,k<B->k≠b->w'.heap[k]?=w.heap[k]?):fI b B w w':=by
 refine⟨a,c,d,by rw[uN,uN];exact f,fun k j=>?_⟩;by_cases e:k=b
 .subst e
  rw[H1,H1,Dq i,Dq O]
 .rw[uo w' e,uo w e]
  exact g k j e
theorem fI.refl(b B:Nat)(w:C3):fI b B w w:=D4 _ _
theorem fI.trans{b B:Nat}{w w' a:C3}(c:fI b B w w')(g:fI b B w' a):fI b B w a:=Below.trans c g
theorem fI.mono{b B a:Nat}{w w':C3}(c:fI b B w w')(d:a<=B):fI b a w w':=Below.mono c d
theorem fI.size{b B:Nat}{w w':C3}(h:fI b B w w'):w.heap.size<=w'.heap.size:=by have:=Below.size h;rw[uN,uN]at this;exact this
theorem fI.block{b B k:Nat}{w w':C3}(c:fI b B w w')(d:k<B)(a:k≠b):w'.heap[k]?=w.heap[k]?:=by have:=Below.block c k d;rw[uo w a,uo w' a]at this;exact this
theorem fI.cell{b B k o:Nat}{w w':C3}(a:fI b B w w')(d:k<B)(c:k≠b):w'.cell? (k,o)=w.cell? (k,o):=D6 (w:=w) (a.block d c)
theorem fI.wb{b B:Nat}{w w':C3}(a:Below B w w')(c:b<w.heap.size):fI b B w w':=fI.mk' a.os a.tape a.output a.size c fun k d _=>a.block k d
theorem fI.drewN{b B:Nat}{w w':C3}(h:fI b B w w')(n:Nat):fI b B w (w'.drewN n):=Below.trans h ⟨rfl,rfl,rfl,D0 _,fun _ _=>rfl⟩
theorem fI.wt{b B:Nat}{w w':C3}(c:fI b B w w')(d:b<w'.heap.size)(i:Nat)(a:C4):fI b B w (w'.setCell (b,i) a):=
 c.trans (fI.mk' rfl rfl rfl Uk d fun k _ e=>Dw w' _ a k e)
theorem fI.setCell{b B g:Nat}{w w':C3}(c:fI b B w w')(d:b<w'.heap.size)(_:B<=g)(i:Nat)(a:C4):fI b B w (w'.setCell (g,i) a):=
 c.trans (fI.mk' rfl rfl rfl Uk d fun k _ _=>Dw w' _ a k (by show k≠g;omega))
theorem fK.unhole{b B:Nat}{w:C3}{g o:Nat}{f:C4}(d:fK B (gQ b w) g o f):fK B w g o f:=by
 refine⟨d.1,?_⟩;by_cases e:g=b
 .subst e
  have a:=d.2;unfold World.cell? at a;rw[show(gQ g w).heap[(⟨g,o,none⟩:Addr).block]?=(gQ g w).heap[g]? from rfl,H1]at a;split at a
  .rename_i c
   split at c
   .injection c with c
    injection c with i _ _;subst i;simp at a
   .cases c
  .cases a
 .rw[<-d.2]
  exact(D6 (w:=gQ b w) (w':=w) (uo w e).symm)
def k3(b:Nat)(V:C4)(tj:List fH)(w:C3):Prop:=
 ∃(g c:Nat),V=.slice (some ⟨g,0,none⟩) tj.length c/\g≠b/\g<w.heap.size/\(∀(j:Nat) u,(jQ tj)[j]?=some u->w.cell? (g,j)=some u)/\tj.length<=1000000/\∀t∈tj,t.kind=0->xK t.text=true/\(⟨t.text.toArray⟩:C2).size<=281474976710656
theorem k3.off{b:Nat}{V:C4}{tj:List fH}{w w':C3}(f:k3 b V tj w)(e:fI b w.heap.size w w'):k3 b V tj w':=by
 obtain⟨g,c,n,a,d,i,k,l⟩:=f;exact⟨g,c,n,a,Yb d e.size,fun j o m=>(e.cell d a).trans (i j o m),k,l⟩
def zc(b:Nat)(V:C4)(tj r:List fH)(a dp:Bool)(w:C3):Prop:=
 Is w b 54 #[V,(((tj.length-r.length:Nat):Int):Int),.bool a,.bool dp]/\k3 b V tj w/\r <:+tj/\qC r
theorem zc.lt{b:Nat}{V:C4}{tj r:List fH}{a dp:Bool}{w:C3}(c:zc b V tj r a dp w):b<w.heap.size:=c.1.lt
theorem zc.cells{b:Nat}{V:C4}{tj r:List fH}{c dp:Bool}{w:C3}(a:zc b V tj r c dp w):
 w.cell? (b,0)=some V/\w.cell? (b,1)=some (.int .i64 ((tj.length-r.length:Nat):Int))/\w.cell? (b,2)=some (.bool c)/\w.cell? (b,3)=some (.bool dp):=
 ⟨(a.1.cell 0).trans rfl,(a.1.cell 1).trans rfl,(a.1.cell 2).trans rfl,(a.1.cell 3).trans rfl⟩
theorem MM{tj r:List fH}(h:r <:+tj){t:fH}{q:List fH}(e:r=t::q):tj[tj.length-r.length]?=some t:=by
 obtain⟨p,rfl⟩:=h;subst e;rw[Dr,Yu,Yi Zr,Yy];rfl
theorem MN(b:List fH)(k:Nat)(t:fH)(c:b[k]?=some t):(jQ b)[k*3]?=some (.int .i64 t.kind)/\(jQ b)[k*3+1]?=some (.string ⟨t.text.toArray⟩)/\(jQ b)[k*3+2]?=some (.int .i64 (t.line:Int)):=by
 induction b generalizing k with
 |nil=>simp at c
 |cons a r i=>
   have e:jQ (a::r)=.int .i64 a.kind :: .string ⟨a.text.toArray⟩ :: .int .i64 (a.line:Int)::jQ r:=by simp[jQ]
   rw[e];cases k with
   |zero=>
     simp at c;subst c;exact⟨rfl,rfl,rfl⟩
   |succ k=>
     obtain⟨d,f,g⟩:=i k Ux;rw[show(k+1)*3=k*3+1+1+1 by omega];exact⟨d,f,g⟩
theorem zc.tok{b:Nat}{V:C4}{tj r:List fH}{d dp:Bool}{w:C3}(e:zc b V tj r d dp w):∃(g c k:Nat) (t:fH) (q:List fH),V=.slice (some ⟨g,0,none⟩) tj.length c/\r=t::q/\k=tj.length-r.length/\k<tj.length/\tj.length<=1000000/\
 w.cell? (b,0)=some (.slice (some ⟨g,0,none⟩) tj.length c)/\w.cell? (b,1)=some (.int .i64 (k:Int))/\w.cell? (b,2)=some (.bool d)/\w.cell? (b,3)=some (.bool dp)/\
 w.cell? (g,k*3)=some (.int .i64 t.kind)/\w.cell? (g,k*3+1)=some (.string ⟨t.text.toArray⟩)/\w.cell? (g,k*3+2)=some (.int .i64 (t.line:Int)):=by
 obtain⟨j,l,m,n⟩:=e.cells;obtain⟨_,⟨g,c,i,_,_,a,v,_⟩,x,u⟩:=e;obtain⟨t,q,rfl⟩:=List.exists_cons_of_ne_nil u.ne;have f:=MM x rfl;obtain⟨o,p,s⟩:=MN tj _ t f;refine⟨g,c,_,t,q,i,rfl,rfl,?_,v,i▸j,l,m,n,a _ _ o,a _ _ p,a _ _ s⟩;exact(List.getElem?_eq_some_iff.1 f).1
def PR.un{α:Type}(x:PR α):PR Unit:=x.bind fun _ r=>.ok () r
def qD{α:Type}:PR α->Bool
 |.ok _ _=>false
 |_=>true
def zU{α:Type}(s:List UInt8):PR α->Bool
 |.ok _ r=>zq s r
 |_=>false
def jk(b:Nat)(V:C4)(tj:List fH)(x:PR Unit)(w:C3):Prop:=
 match x with
 |.ok _ r=>zc b V tj r false false w
 |.bad r=>zc b V tj r true false w
 |.deep r=>zc b V tj r false true w
 |.o=>False
def j9{α:Type}(x:PR α)(P:α->Prop):Prop:=
 match x with
 |.ok a _=>P a
 |.bad _=>∃a,P a
 |.deep _=>∃a,P a
 |.o=>True
theorem zc.off{b:Nat}{V:C4}{tj r:List fH}{c dp:Bool}{w w':C3}(a:zc b V tj r c dp w)(d:Cx w w'):zc b V tj r c dp w':=
 ⟨a.1.below d a.1.lt,a.2.1.off (fI.wb d a.lt),a.2.2⟩
theorem jk.below{b:Nat}{V:C4}{tj:List fH}{x:PR Unit}{w w':C3}(c:jk b V tj x w)(d:Cx w w'):jk b V tj x w':=by
 cases x with
 |ok a r=>exact zc.off c d
 |bad r=>exact zc.off c d
 |deep r=>exact zc.off c d
 |o=>exact c
theorem jk.lt{b:Nat}{V:C4}{tj:List fH}{x:PR Unit}{w:C3}(h:jk b V tj x w):b<w.heap.size:=by
 cases x with
 |ok a r=>exact zc.lt h
 |bad r=>exact zc.lt h
 |deep r=>exact zc.lt h
 |o=>exact absurd h id
theorem jk.drewN{b:Nat}{V:C4}{tj:List fH}{x:PR Unit}{w:C3}(h:jk b V tj x w)(n:Nat):jk b V tj x (w.drewN n):=h.below (yX Zb n)
theorem jk.box{b:Nat}{V:C4}{tj:List fH}{x:PR Unit}{w:C3}(d:jk b V tj x w):∃r c dp,zc b V tj r c dp w/\qD x=(c || dp)/\(x=.ok () r/\c=false/\dp=false\/x=.bad r/\c=true/\dp=false\/x=.deep r/\c=false/\dp=true):=by
 cases x with
 |ok a r=>exact⟨r,false,false,d,rfl,.inl ⟨rfl,rfl,rfl⟩⟩
 |bad r=>exact⟨r,true,false,d,rfl,.inr (.inl ⟨rfl,rfl,rfl⟩)⟩
 |deep r=>exact⟨r,false,true,d,rfl,.inr (.inr ⟨rfl,rfl,rfl⟩)⟩
 |o=>exact absurd d id
theorem QP{b:Nat}{V:C4}{tj:List fH}{x:PR Unit}{w:C3}(a:jk b V tj x w):Cy 53 #[(b,0)] w fun e w'=>e=.returned (.bool (qD x))/\w'=w:=by
 obtain⟨r,f,dp,d,c,_⟩:=a.box;obtain⟨_,_,_,_⟩:=d.cells;rw[c];clear a d c;cases f
 all_goals
  go_enter func53,ntmps53;go_wp2;go_ret;exact⟨Uh,rfl⟩
theorem qL{b:Nat}{V:C4}{tj:List fH}{x:PR Unit}{w:C3}(a:jk b V tj x w)(v:Bool)(c:qD x=v):Cy 53 #[(b,0)] w fun e w'=>e=.returned (.bool v)/\w'=w:=c▸QP a
theorem QQ(s:List UInt8)(t:fH)(r:List fH):zq s (t::r)=(decide (t.kind=2)&&t.text == s):=rfl
theorem V9(t:List UInt8)(s:C2):(t == s.data.toList)=((⟨t.toArray⟩:C2).toList == s.toList):=by rw[Ym,Ym]
theorem WB{b:Nat}{V:C4}{tj r:List fH}{w:C3}(f:zc b V tj r false false w)(s:C2)(v:Bool)(a:zq s.data.toList r=v):
 Cy 81 #[(b,0),s] w fun e w'=>e=.returned (.bool v)/\∃m,w'=w.drewN m:=by
 have l:∀m,jk b V tj (.ok () r) (w.drewN m):=fun m=>jk.drewN (x:=.ok () r) f m
 obtain⟨g,c,k,t,q,rfl,rfl,n,_,_,_,_,_,_,p,u,_⟩:=f.tok;have i:=U l;clear f n l;have y:(k:Int)<tj.length:=O
 rw[QQ,V9]at a;obtain⟨T,j⟩:∃T:C2,T=⟨t.text.toArray⟩:=⟨_,rfl⟩
 rw[<-j]at a u;clear j;cases hk2:decide (t.kind=2)with
 |true=>
   have d:t.kind=2:=of_decide_eq_true hk2;rw[d]at p;rw[hk2,Bool.true_and]at a;clear hk2 d;exact Ol
 |false=>
   have d:(t.kind == 2)=false:=by simpa using hk2
   rw[hk2,Bool.false_and]at a;subst a;clear hk2;exact Ol
theorem KK{b:Nat}{V:C4}{tj:List fH}{x:PR Unit}{w:C3}(a:jk b V tj x w)(d:qD x=true)(s:C2):
 Cy 81 #[(b,0),s] w fun e w'=>e=.returned (.bool false)/\∃m,w'=w.drewN m:=by
 have i:∀m,jk b V tj x (w.drewN m):=fun m=>a.drewN m
 obtain⟨r,_,dp,f,_,_⟩:=a.box;obtain⟨g,c,k,t,q,rfl,rfl,n,_,_,_,_,_,_,_,_,_⟩:=f.tok;have l:=U i;have j:=U d;clear a n i f d;have p:(k:Int)<tj.length:=O
 go_enter func81,ntmps81;go_wp2
 go_quiet ((go_at_call 53;exact Calls.quiet_of_same (qL (l.o _) true j.o)))
 go_wp2;go_ret;exact⟨rfl,_,rfl⟩
theorem QR{b:Nat}{V:C4}{tj:List fH}{x:PR Unit}{w:C3}(c:jk b V tj x w)(s:C2)(v:Bool)(d:zU s.data.toList x=v):
 Cy 81 #[(b,0),s] w fun e w'=>e=.returned (.bool v)/\∃m,w'=w.drewN m:=by
 subst d;cases x with
 |ok a r=>exact WB c s _ rfl
 |bad r=>exact KK c rfl s
 |deep r=>exact KK c rfl s
 |o=>exact absurd c id
theorem uq{s:List UInt8}{x:PR Unit}(h:zU s x=true):∃r,x=.ok () r/\zq s r=true:=by
 cases x with
 |ok a r=>exact⟨r,rfl,h⟩
 |bad r=>cases h
 |deep r=>cases h
 |o=>cases h
theorem QS{n k:Nat}(_:k+1<=n):((n-(k+1):Nat):Int)+1=((n-k:Nat):Int):=O
theorem rW{a r:List fH}(h:r <:+a):r.length<=a.length:=h.length_le
theorem zc.next{b:Nat}{V:C4}{tj r:List fH}{w:C3}(a:zc b V tj r false false w)(c:gV r≠3):zc b V tj r.tail false false (w.setCell (b,1) ((((tj.length-r.length:Nat):Int)+1):Int)):=by
 have d:=a.lt;have f:=jo a.2.2.2;have e:=rW a.2.2.1;refine⟨?_,a.2.1.off ((fI.refl b _ w).wt d 1 _),(List.tail_suffix r).trans a.2.2.1,a.2.2.2.tail c⟩;have:=a.1.set 1 (.int .i64 (((tj.length-r.length:Nat):Int)+1));rw[show r.length=r.tail.length+1 by omega,QS O]at this ⊢;exact this
def jJ(b:Nat)(V:C4)(tj:List fH)(w:C3)(x:PR Unit)(w':C3):Prop:=jk b V tj x w'/\fI b w.heap.size w w'
theorem jJ.st{b:Nat}{V:C4}{tj:List fH}{w w':C3}{x:PR Unit}(h:jJ b V tj w x w'):jk b V tj x w':=h.1
theorem jJ.off{b:Nat}{V:C4}{tj:List fH}{w w':C3}{x:PR Unit}(h:jJ b V tj w x w'):fI b w.heap.size w w':=h.2
theorem qA{b:Nat}{V:C4}{tj:List fH}{x:PR Unit}{w:C3}(a:jk b V tj x w)(s:C2)(i:zU s.data.toList x=true):
 Cy 56 #[(b,0),s] w fun e w'=>e=.returned (.bool true)/\jJ b V tj w (x.bind fun _ r=>.ok () r.tail) w':=by
 obtain⟨r,rfl,l⟩:=uq i;have d:∀n,zc b V tj r.tail false false ((w.drewN n).setCell (b,1) ((((tj.length-r.length:Nat):Int)+1):Int)):=fun n=>zc.next (w:=w.drewN n) (jk.drewN (x:=.ok () r) a n) (by rw[(uM l).1];decide)
 have f:∀n,fI b w.heap.size w ((w.drewN n).setCell (b,1) ((((tj.length-r.length:Nat):Int)+1):Int)):=fun n=>((fI.refl b _ w).drewN n).wt (jk.drewN (x:=.ok () r) a n).lt 1 _
 obtain⟨g,c,k,t,q,rfl,rfl,j,_,_,_,_,_,_,_,_,_⟩:=(show zc b V tj r false false w from a).tok;have f1:=(show zc b _ tj _ false false w from a).1.frozen 1;rw[<-j]at d f;have p:Do (∀n,jJ b (.slice (some ⟨g,0,none⟩) tj.length c) tj w (.ok () q) ((w.drewN n).setCell (b,1) (((k:Int)+1):Int))):=fun n=>⟨d n,f n⟩
 have H:=U a;have u:=U i;have v:(k:Int)<tj.length:=O
 clear a i j d f l;go_enter func56,ntmps56;go_wp2_with (go_at_call 81;(with_reducible refine(QR H.o s true u.o).mono ?_);rintro e _ ⟨rfl,m,rfl⟩);go_ret;exact⟨rfl,p.o m⟩
theorem q6{b:Nat}{V:C4}{tj:List fH}{x:PR Unit}{w:C3}(a:jk b V tj x w)(s:C2)(c:zU s.data.toList x=false):
 Cy 56 #[(b,0),s] w fun e w'=>e=.returned (.bool false)/\∃m,w'=w.drewN m:=by
 have H:=U a;have d:=U c;clear a c;go_enter func56,ntmps56;go_wp2_with (go_at_call 81;(with_reducible refine(QR H.o s false d.o).mono ?_);rintro e _ ⟨rfl,m,rfl⟩);go_ret;exact⟨rfl,m,rfl⟩
theorem zE{b:Nat}{V:C4}{tj:List fH}{x:PR Unit}{w:C3}(a:jk b V tj x w)(s:C2)(f:zU s.data.toList x=false):
 Cy 56 #[(b,0),s] w fun e w'=>e=.returned (.bool false)/\jJ b V tj w x w':=
 (q6 a s f).mono fun _ _ ⟨c,m,d⟩=>⟨c,d▸⟨a.drewN m,(fI.refl b _ w).drewN m⟩⟩
theorem zc.spoil{b:Nat}{V:C4}{tj r:List fH}{c:Bool}{w:C3}(a:zc b V tj r c false w):zc b V tj r true false (w.setCell (b,2) true):=
 ⟨a.1.set 2 (.bool true),a.2.1.off ((fI.refl b _ w).wt a.lt 2 _),a.2.2⟩
theorem MO{b:Nat}{V:C4}{tj r:List fH}{a:Bool}{w:C3}(d:zc b V tj r a false w)(m:Nat):jJ b V tj w (.bad r) ((w.drewN m).setCell (b,2) true):=by
 have c:zc b V tj r a false (w.drewN m):=d.off (yX Zb m);exact⟨c.spoil,((fI.refl b _ w).drewN m).wt c.lt 2 _⟩
theorem zg{b:Nat}{V:C4}{tj:List fH}{x:PR Unit}{w:C3}(c:jk b V tj x w)(s:C2):
 Cy 58 #[(b,0),s] w fun e w'=>e=.returned (.tuple #[])/\jJ b V tj w (x.bind fun _ r=>zN s.data.toList r) w':=by
 cases hv:zU s.data.toList x with
 |true=>
   obtain⟨r,rfl,j⟩:=uq hv;have a:zN s.data.toList r=.ok () r.tail:=by unfold zN;rw[Dq j]
   rw[show((PR.ok () r).bind fun _ r=>zN s.data.toList r)=.ok () r.tail from a];have H:=U c;have d:=U hv;clear c hv j a;go_enter func58,ntmps58;go_wp2_with (go_at_call 56;(with_reducible refine(qA H.o s d.o).mono ?_);rintro e k ⟨rfl,p⟩)
   go_end0
   exact⟨rfl,p⟩
 |false=>
   obtain⟨r,_,dp,f,q,i⟩:=c.box
   have a:(x.bind fun _ r=>zN s.data.toList r)=if dp then .deep r else .bad r:=by
    rcases i with⟨rfl,rfl,rfl⟩|⟨rfl,rfl,rfl⟩|⟨rfl,rfl,rfl⟩
    .show zN s.data.toList r=_
     unfold zN;rw[Dp (by rw[show zq s.data.toList r=false from hv];decide)];rfl
    .rfl
    .rfl
   rw[a];obtain⟨_,_,_,_⟩:=f.cells;have t:=f.1.frozen 2;have H:=U c;have d:=U hv;have l:=U f;have n:=U i;clear c hv f i q a;cases dp with
   |true=>
     go_enter func58,ntmps58;go_wp2_with (go_at_call 56;(with_reducible refine(q6 H.o s d.o).mono ?_);rintro e k ⟨rfl,m,rfl⟩)
     go_end0
     refine⟨rfl,?_,(fI.refl b _ w).drewN m⟩;rcases n.o with⟨_,_,g⟩|⟨_,_,g⟩|⟨rfl,_,_⟩
     .cases g
     .cases g
     .exact H.o.drewN m
   |false=>
     go_enter func58,ntmps58;go_wp2_with (go_at_call 56;(with_reducible refine(q6 H.o s d.o).mono ?_);rintro e k ⟨rfl,m,rfl⟩)
     go_end0
     exact⟨rfl,MO l.o m⟩
def qk(b:Nat)(V:C4)(tj:List fH)(w:C3){α:Type}(x:PR α)(F:C3->α->C4->Prop)(e:Ending)(w':C3):Prop:=
 ∃v,e=.returned v/\jJ b V tj w x.un w'/\j9 x fun a=>F w' a v
def zch(_:C3)(a:C2)(v:C4):Prop:=v=.string a
def WC(_:C3)(a:Int)(v:C4):Prop:=v=.int .i64 a
theorem y5{b:Nat}{V:C4}{tj:List fH}{x:PR Unit}{w:C3}(a:jk b V tj x w)(c:qD x=true)(k:Int):
 Cy 55 #[(b,0),(k:Int)] w fun e w'=>e=.returned (.string ⟨#[]⟩)/\jJ b V tj w x w':=by
 have H:=U a;have d:=U c;clear a c;go_enter func55,ntmps55;go_wp2_with (go_at_call 53;(with_reducible refine(qL H.o true d.o).mono ?_);rintro e _ ⟨rfl,rfl⟩);go_ret;exact⟨rfl,H.o,fI.refl _ _ _⟩
theorem EI{b:Nat}{V:C4}{tj:List fH}{x:PR Unit}{w a:C3}(c:jJ b V tj w x a)(e:w.heap.size<=a.heap.size)(o:Obj):jJ b V tj w x (a.alloc o).drew:=by
 have d:Cx a (a.alloc o).drew:=(Zb.alloc Zr o).drew;exact⟨c.1.below d,c.2.trans ((fI.wb d c.1.lt).mono e)⟩
theorem QT{b:Nat}{V:C4}{tj r:List fH}{w:C3}(a:zc b V tj r false false w)(c:gV r≠3)(o:Obj):jJ b V tj w (.ok () r.tail) (((w.setCell (b,1) ((((tj.length-r.length:Nat):Int)+1):Int)).alloc o).drew):=
 EI (x:=.ok () r.tail) ⟨a.next c,(fI.refl b _ w).wt a.lt 1 _⟩ Uh o
theorem z0{b:Nat}{V:C4}{tj r:List fH}{w:C3}(h:zc b V tj r false false w)(o:Obj):jJ b V tj w (.bad r) (((w.setCell (b,2) true).alloc o).drew):=
 EI (x:=.bad r) ⟨h.spoil,(fI.refl b _ w).wt h.lt 2 _⟩ Uh o
theorem jJ.drewN{b:Nat}{V:C4}{tj:List fH}{x:PR Unit}{w c:C3}{m:Nat}(a:jJ b V tj (w.drewN m) x c):jJ b V tj w x c:=⟨a.1,((fI.refl b _ w).drewN m).trans a.2⟩
theorem nW{b:Nat}{V:C4}{tj r:List fH}{w:C3}(a:zc b V tj r false false w)(k:Int)(u:k≠3):
 Cy 55 #[(b,0),(k:Int)] w (qk b V tj w (qr k r) zch):=by
 have f:=fun(s:gV r≠3) o=>QT a s o
 have j:=fun o=>z0 a o
 have A:=a.lt;have f1:=a.1.frozen 1;have y:=a.1.frozen 2;have i:=C0 (jk b V tj (.ok () r) w) a;obtain⟨g,c,p,t,q,rfl,rfl,l,_,_,_,_,_,_,_,_,_⟩:=a.tok;rw[<-l]at f;have z:(p:Int)<tj.length:=O
 have B:0<w.heap.size:=O
 have n:=U j;clear a l j;cases hk2:decide (t.kind=k)with
 |true=>
   obtain rfl:t.kind=k:=of_decide_eq_true hk2;have m:=U (f u);have d:qr t.kind (t::q)=.ok ⟨t.text.toArray⟩ q:=by unfold qr;rw[Dq (show gV (t::q)=t.kind from rfl)];rfl
   rw[d];clear hk2 f d;go_enter func55,ntmps55;go_wp2_with (go_at_call 53;(with_reducible refine(qL i.o false rfl).mono ?_);rintro e v ⟨rfl,rfl⟩)
   go_region_held3 (fun w'=>w'.cell? (b,0)=some (.slice (some ⟨g,0,none⟩) tj.length c)/\w'.cell? (b,1)=some (.int .i64 p)/\w'.cell? (g,p*3)=some (.int .i64 t.kind)/\w'.cell? (g,p*3+1)=some (.string ⟨t.text.toArray⟩)/\w'.cell? (g,p*3+2)=some (.int .i64 (t.line:Int))/\0<w'.heap.size)
    (first|go_keep|(go_split_ands;refine⟨?_,?_,?_,?_,?_,?_⟩ <;> assumption))
    (fail)
   go_wp2_with fail;go_ret;exact⟨_,rfl,m.o _,rfl⟩
 |false=>
   have x:(t.kind != k)=true:=by simpa using hk2
   have d:qr k (t::q)=.bad (t::q):=by unfold qr;rw[Dp (show ¬gV (t::q)=k from of_decide_eq_false hk2)]
   rw[d];clear hk2 f d;go_enter func55,ntmps55;go_wp2_with (go_at_call 53;(with_reducible refine(qL i.o false rfl).mono ?_);rintro e v ⟨rfl,rfl⟩)
   go_region_held3 (fun w'=>w'.cell? (b,0)=some (.slice (some ⟨g,0,none⟩) tj.length c)/\w'.cell? (b,1)=some (.int .i64 p)/\w'.cell? (g,p*3)=some (.int .i64 t.kind)/\w'.cell? (g,p*3+1)=some (.string ⟨t.text.toArray⟩)/\w'.cell? (g,p*3+2)=some (.int .i64 (t.line:Int))/\0<w'.heap.size)
    (first|go_keep|(go_split_ands;refine⟨?_,?_,?_,?_,?_,?_⟩ <;> assumption))
    (fail)
   go_wp2_with fail;go_ret;exact⟨_,rfl,n.o _,⟨_,rfl⟩⟩
theorem hP{b:Nat}{V:C4}{tj r:List fH}{w:C3}(d:jk b V tj (.ok () r) w)(k:Int)(j:k≠3)(i:gV r=k)(s:C2)(l:s=⟨(pV r).toArray⟩):
 Cy 55 #[(b,0),(k:Int)] w fun e w'=>e=.returned (.string s)/\jJ b V tj w (.ok () r.tail) w':=by
 subst l;have c:qr k r=.ok ⟨(pV r).toArray⟩ r.tail:=by unfold qr;rw[Dq i]
 refine(nW d k j).mono fun e w' a=>?_
 rw[c]at a;obtain⟨v,g,f,m⟩:=a;exact⟨by rw[g,show v=.string ⟨(pV r).toArray⟩from m],f⟩
theorem WD{b:Nat}{V:C4}{tj r:List fH}{w:C3}(f:jk b V tj (.ok () r) w)(k:Int)(l:k≠3)(j:gV r≠k):
 Cy 55 #[(b,0),(k:Int)] w fun e w'=>∃s,e=.returned (.string s)/\jJ b V tj w (.bad r) w':=by
 have d:qr k r=.bad r:=by unfold qr;rw[Dp j]
 refine(nW f k l).mono fun e w' c=>?_
 rw[d]at c;obtain⟨v,i,g,a,m⟩:=c;exact⟨a,by rw[i,show v=.string a from m],g⟩
theorem uO{b:Nat}{V:C4}{tj:List fH}{x:PR Unit}{w:C3}(d:jk b V tj x w):
 Cy 54 #[(b,0)] w (qk b V tj w (x.bind fun _ r=>k1 r) WC):=by
 cases hv:zU k0 x with
 |true=>
   obtain⟨r,rfl,l⟩:=uq hv;have c:k1 r=.ok 1 r.tail:=by unfold k1;rw[Dq l]
   rw[show((PR.ok () r).bind fun _ r=>k1 r)=.ok 1 r.tail from c];have H:=U d;have f:=U hv;clear d hv l c;go_enter func54,ntmps54;go_wp2_with (go_at_call 56;(with_reducible refine(qA H.o _ f.o).mono ?_);rintro e n ⟨rfl,g⟩);go_ret;exact⟨_,rfl,g,rfl⟩
 |false=>
   have c:(x.bind fun _ r=>k1 r)=x.bind fun _ r=>(zN xP r).bind fun _ r=>.ok 2 r:=by
    cases x with
    |ok a r=>
      show k1 r=(zN xP r).bind _;unfold k1;rw[Dp (by rw[show zq k0 r=false from hv];decide)]
    |_=>rfl
   have j:(x.bind fun _ r=>(zN xP r).bind fun _ r=>PR.ok (2 :Int) r).un=x.bind fun _ r=>zN xP r:=by
    cases x with
    |ok a r=>show((zN xP r).bind _).un=zN xP r;unfold zN;split<;>rfl
    |_=>rfl
   have k:j9 (x.bind fun _ r=>(zN xP r).bind fun _ r=>PR.ok (2 :Int) r) fun a=>WC w a (.int .i64 2):=by
    cases x with
    |ok a r=>show j9 ((zN xP r).bind _) _;unfold zN;split;exact rfl;exact⟨2,rfl⟩
    |bad r=>exact⟨2,rfl⟩
    |deep r=>exact⟨2,rfl⟩
    |o=>trivial
   rw[c];have H:=U d;have f:=U hv;have i:=U (Dt j k);clear d hv c j k;go_enter func54,ntmps54
   go_wp2_with (first
    |(go_at_call 56;(with_reducible refine(q6 H.o _ f.o).mono ?_);rintro e n ⟨rfl,m,rfl⟩)
    |(go_at_call 58;(with_reducible refine(zg (H.o.drewN m) _).mono ?_);rintro e _ ⟨rfl,g⟩))
   go_ret;refine⟨_,rfl,?_,i.o.2⟩;rw[i.o.1];exact g.drewN
def zI{α:Type}(x:PR α):Prop:=match x with | .o=>False|_=>True
theorem zI.bind{α β:Type}{k:Nat}{l:List fH}{x:PR α}{f:α->List fH->PR β}(b:zm k l x)(c:zI x)(g:∀a r,x=.ok a r->qC r->r.length+k<=l.length->zI (f a r)):zI (x.bind f):=by
 cases x with
 |ok a r=>exact g a r rfl (show zJ k l r from b).2.1 (show zJ k l r from b).2.2
 |bad r=>trivial
 |deep r=>trivial
 |o=>exact c
theorem qS(s:List UInt8)(l:List fH):zI (zN s l):=by unfold zN;split<;>trivial
theorem yx(k:Int)(l:List fH):zI (qr k l):=by unfold qr;split<;>trivial
theorem z1(n:Nat):(∀lev d l,qC l->1<=lev->lev<=11->20*(l.length:Int)+15-lev<=n->zI (pE n lev d l))/\(∀lev d a l,qC l->1<=lev->lev<=10->20*(l.length:Int)+15-lev<=n->zI (pL n lev d a l))/\
 (∀d l,qC l->20*l.length+3<=n->zI (pU n d l))/\(∀d l,qC l->20*l.length+2<=n->zI (pP n d l))/\
 (∀d s l,qC l->20*l.length+1<=n->zI (pN n d s l))/\(∀d l,qC l->20*l.length+16<=n->zI (pA n d l))/\(∀d tk l,qC l->20*l.length+15<=n->zI (rU n d tk l)):=by
 induction n with
 |zero=>exact⟨fun _ _ _ _ _ _ _=>O,fun _ _ _ _ _ _ _ _=>O,fun _ _ _ _=>O,fun _ _ _ _=>O,fun _ _ _ _ _=>O,fun _ _ _ _=>O,fun _ _ _ _ _=>O⟩
 |succ n y=>
   obtain⟨j,t,u,x,w,v,q⟩:=y;refine⟨fun lev d l b m p i=>?_,fun lev d a l b m p i=>?_,fun d l b i=>?_,fun d l b i=>?_,fun d s l b i=>?_,fun d l b i=>?_,fun d tk l b i=>?_⟩
   .rw[pE]
    split
    .exact u d l b O
    .exact zI.bind (jB b) (j _ _ _ b O O O) fun a r _ c g=>t _ _ _ _ c m O O
   .rw[pL]
    split
    .trivial
    .rename_i o
     obtain⟨s,f⟩:=vh o;have k:=jo b;exact zI.bind (jB (b.sign f)) (j _ _ _ (b.sign f) O O O) fun a r _ c g=>t _ _ _ _ c m p O
   .rw[pU]
    split
    .trivial
    .split
     .exact x d l b O
     .rename_i o
      obtain⟨s,f⟩:=hM o;have k:=jo b;split
      .exact zI.bind (zL (b.sign f) _) (qS _ _) fun _ r _ c g=>zI.bind (jB c) (j _ _ _ c O O O) fun e r _ c g=>zI.bind (zL c _) (qS _ _) fun _ r _ c g=>trivial
      .exact zI.bind ((nV n).2.2.1 _ _ (b.sign f)) (u _ _ (b.sign f) O) fun _ r _ c g=>trivial
   .rw[pP]
    have k:=jo b;split
    .rename_i f
     exact Ok
    .split
     .trivial
     .split
      .trivial
      .split
       .rename_i f
        exact zI.bind (zL (b.sign f) _) (qS _ _) fun _ r _ c g=>zI.bind (zL c _) (qS _ _) fun _ r _ c g=>trivial
       .split
        .trivial
        .exact zI.bind (jI b 1 Uf) (yx _ _) fun s r _ c g=>w _ _ _ c O
   .rw[pN]
    have k:=jo b;split
    .rename_i f
     exact zI.bind (B5 (b.sign f)) (v _ _ (b.sign f) O) fun _ r _ c g=>trivial
    .split
     .rename_i f
      exact Ok
     .trivial
   .rw[pA]
    split
    .trivial
    .exact q _ _ _ b O
   .rw[rU]
    refine zI.bind (jB b) (j _ _ _ b O O O) fun e r _ c g=>?_
    split
    .rename_i f
     have k:=jo c;exact q _ _ _ (c.sign f) O
    .exact zI.bind (zL c _) (qS _ _) fun _ r _ c g=>trivial
theorem iX{n:Nat}{d:Int}{l:List fH}(h:qC l)(_:20*l.length+14<=n):zI (pE n 1 d l):=(z1 n).1 1 d l h O O O
theorem WE{n:Nat}{d:Int}{l:List fH}(a:qC l)(b:20*l.length+16<=n):zI (pA n d l):=(z1 n).2.2.2.2.2.1 d l a b
theorem B6{n:Nat}{l:List fH}(c:qC l)(_:20*l.length+14<=n):zI (pI n l):=by
 unfold pI;exact zI.bind (zL c _) (qS _ _) fun _ r _ a b=>zI.bind (jB a) (iX a O) fun e r _ a b=>zI.bind (zL a _) (qS _ _) fun _ r _ a b=>trivial
theorem rX{l:List fH}(h:qC l):zI (k1 l):=by
 unfold k1;split
 .trivial
 .exact zI.bind (zL h _) (qS _ _) fun _ r _ _ _=>trivial
theorem yF{α:Type}{k:Nat}{l:List fH}{x:PR α}(c:zm k l x)(b:zI x):zI (vI x):=by
 unfold vI;exact zI.bind c b fun _ r _ a d=>zI.bind (zL a _) (qS _ _) fun _ r _ a d=>trivial
theorem QU{n:Nat}{l:List fH}(d:qC l)(f:20*l.length+16<=n):zI (q2 n l):=by
 unfold q2;refine zI.bind (jI d 1 Uf) (yx _ _) fun s r _ a b=>?_
 have g:=jo a;split
 .rename_i c
  exact zI.bind (B5 (a.sign c)) (WE (a.sign c) O) fun _ r _ a b=>trivial
 .split
  .rename_i c
   exact zI.bind (jB (a.sign c)) (iX (a.sign c) O) fun e r _ a b=>zI.bind (zL a _) (qS _ _) fun _ r _ a b=>zI.bind (zL a _) (qS _ _) fun _ r _ a b=>zI.bind (jB a) (iX a O) fun _ r _ a b=>trivial
  .exact zI.bind (zL a _) (qS _ _) fun _ r _ a b=>zI.bind (jB a) (iX a O) fun _ r _ a b=>trivial
theorem MP(n:Nat):(∀d l,qC l->20*l.length+30<=n->zI (pS n d l))/\(∀d e t l,qC l->20*l.length+30<=n->zI (q3 n d e t l))/\(∀d l,qC l->20*l.length+30<=n->zI (pB n d l))/\(∀d tk l,qC l->20*l.length+31<=n->zI (nN n d tk l)):=by
 induction n with
 |zero=>exact⟨fun _ _ _ _=>O,fun _ _ _ _ _ _=>O,fun _ _ _ _=>O,fun _ _ _ _ _=>O⟩
 |succ n u=>
   obtain⟨q,p,i,j⟩:=u;refine⟨fun d l b g=>?_,fun d e t l b g=>?_,fun d l b g=>?_,fun d tk l b g=>?_⟩
   .rw[pS]
    have o:=jo b;split
    .trivial
    .split
     .exact yF ((xp b).bind (m:=0) (n:=0) (fun t r _ a=>(jI a 1 Uf).bind (n:=0) (fun s r _ a=>(zL a _).bind (n:=0) (fun _ r _ a=>(jB a).bind (n:=0) (fun _ r _ a=>zm.self a _) O) O) O) O)
       (zI.bind (xp b) (rX b) fun t r _ a f=>zI.bind (jI a 1 Uf) (yx _ _) fun s r _ a f=>zI.bind (zL a _) (qS _ _) fun _ r _ a f=>zI.bind (jB a) (iX a O) fun _ r _ a f=>trivial)
     .split
      .rename_i c
       exact zI.bind (yp (b.sign c)) (B6 (b.sign c) O) fun e r _ a f=>zI.bind (iW a) (i _ _ a O) fun t r _ a f=>p _ _ _ _ a O
      .split
       .rename_i c
        exact zI.bind (yp (b.sign c)) (B6 (b.sign c) O) fun e r _ a f=>zI.bind (iW a) (i _ _ a O) fun t r _ a f=>trivial
       .split
        .rename_i c
         exact Om
        .split
         .rename_i c
          exact Om
         .split
          .rename_i c
           exact yF ((jB (b.sign c)).bind (n:=0) (m:=0) (fun _ r _ a=>zm.self a _) O) (zI.bind (jB (b.sign c)) (iX (b.sign c) O) fun _ r _ a f=>trivial)
          .split
           .rename_i c
            exact yF ((yp (b.sign c)).bind (n:=0) (m:=0) (fun _ r _ a=>zm.self a _) O) (zI.bind (yp (b.sign c)) (B6 (b.sign c) O) fun _ r _ a f=>trivial)
           .exact yF (EG b) (QU b O)
   .rw[q3]
    have o:=jo b;split
    .rename_i c
     exact zI.bind (iW (b.sign c)) (i _ _ (b.sign c) O) fun _ r _ a f=>trivial
    .trivial
   .rw[pB]
    exact zI.bind (zL b _) (qS _ _) fun _ r _ a f=>j _ _ _ a O
   .rw[nN]
    split
    .trivial
    .exact zI.bind (q5 b) (q _ _ b O) fun _ r _ a f=>j _ _ _ a O
theorem WF{n:Nat}{d:Int}{l:List fH}(a:qC l)(b:20*l.length+30<=n):zI (pB n d l):=(MP n).2.2.1 d l a b
theorem EJ:∀(n:Nat) (tk:List Pa) (l:List fH),qC l->20*l.length+1<=n->zI (pY n tk l)
 |0,_,_,_,_=>O
 | n+1,tk,l,h,hn=>by
   rw[pY];refine zI.bind (xp h) (rX h) fun t r _ a b=>zI.bind (jI a 1 Uf) (yx _ _) fun s r _ a b=>?_
   have d:=jo a;split
   .rename_i c
    exact EJ n _ _ (a.sign c) O
   .exact zI.bind (zL a _) (qS _ _) fun _ r _ a b=>trivial
theorem QV{n:Nat}{l:List fH}(a:qC l)(_:20*l.length+1<=n):zI (V8 n l):=by
 unfold V8;refine zI.bind (zL a _) (qS _ _) fun _ r _ b _=>?_
 split
 .trivial
 .exact EJ n _ _ b O
theorem QW{n:Nat}{t:Int}{s:C2}{l:List fH}(b:qC l)(_:20*l.length+30<=n):zI (o6 n t s l):=by
 unfold o6;exact zI.bind (rV b) (QV b O) fun _ r _ a c=>zI.bind (iW a) (WF a O) fun _ r _ a c=>trivial
theorem MQ{s:C2}{l:List fH}(c:qC l):zI (pZ s l):=by
 unfold pZ;exact zI.bind (jI c 0 Uf) (yx _ _) fun _ r _ a b=>zI.bind (zL a _) (qS _ _) fun _ r _ a b=>zI.bind (zL a _) (qS _ _) fun _ r _ a b=>trivial
theorem rY:∀(n:Nat) (p:Pr) (l:List fH),qC l->20*l.length+40<=n->zI (k2 n p l)
 |0,_,_,_,_=>O
 | n+1,p,l,h,hn=>by
   rw[k2];split
   .trivial
   .refine zI.bind (xp h) (rX h) fun t r _ a b=>zI.bind (jI a 1 Uf) (yx _ _) fun s r _ a b=>?_
    split
    .rename_i c
     have d:=jo a;exact zI.bind (y4 (a.sign c.2.2)) (MQ (a.sign c.2.2)) fun _ r _ a b=>rY n _ _ a O
    .exact zI.bind (hN a) (QW a O) fun _ r _ a b=>rY n _ _ a O
def kW(l:List fH):PR Pr:=k2 (20*l.length+40) ⟨[],[]⟩ l
theorem yY{l:List fH}(h:qC l):zI (kW l):=rY _ _ _ h Zr
