import Derived.Test.YthcmenajdcbnnaaGreatDoorAnEvMh
import Derived.Deep.Onto
set_option linter.unusedSimpArgs false
set_option linter.unusedVariables false
set_option maxRecDepth 100000
set_option maxHeartbeats 99000000
namespace Go.Proofs.YthcmenajdcbnnaaGreatDoor
open Go.RowKit Tryz Go.Maps
theorem Ql{p:Prop}(h:p:=by
 replace d:=U (d.o.drewN nq);clear aW aX aY aZ a9 ba bb;obtain⟨⟨av,aw⟩,ax⟩:=d.o.cur.f;obtain⟨⟨b7,b8⟩,b9⟩:=d.o.cur.own;obtain⟨al,am,rfl⟩:=d.o.arr.form;obtain⟨F,G,rfl⟩:=d.o.fnc.form;go_wp2_with fail;obtain⟨aM,f1⟩:=d.o.cur.read;refine bodyPost_ret (v:=.agg #[(al,ars.length,am),(F,fs.length,G)]) (by simp[results,results27,go_sem,aM,f1]) rfl ?_
 exact VK d.o a2 bf.o):p:=h
theorem Qm{p:Prop}(h:p:=by
 have E:=H.o.2;have Q:=aC.o;have ag:=aG.o;simp only[Q,ag]at *
 omega):p:=h
theorem Qn{p:Prop}(h:p:=by
 have g:=jY e;have i:=(show zI 0 r c from hF).2.2;have j:=fR d rfl
 exact⟨O,fun f=>by cases f⟩):p:=h
variable{p:Pr}{B m L g b n q B':Nat}{w w' W:C3}{v c0 c1 V:C4}{T:TypeId}{x y:PR Unit}{r:List dY}{s:C2}{t:Int}
theorem BL(b:(xy p).1=0):yK p p.wa=false/\yV p.funcs=false/\∀f∈p.funcs,d9 f.body=true:=by
 unfold xy at b;by_cases g:eK p=false
 .rw[Dm g]at b;exact absurd b (by show(1 :Int)≠0;decide)
 rw[Dl g]at b;by_cases c:(yK p p.wa || yV p.funcs || !kd p)=true
 .rw[Dm c]at b;exact absurd b Vd
 rw[Dl c]at b;have e:(yK p p.wa || yV p.funcs || !kd p)=false:=Xe
 rw[Cb,Cb]at e;refine⟨e.1.1,e.1.2,fun f k=>?_⟩;have a:=oO b f k;unfold xt at a;by_cases i:fJ f.params=true
 .rw[Dm i]at a;exact absurd a Vd
 rw[Dl i]at a;by_cases d:(zW p f.type f.body f.params f.params.length false 0).1=0
 .rw[Dl (by rw[d];decide)]at a
  by_cases j:d9 f.body=true
  .exact j
  .rw[Dl j]at a;exact absurd a (by show(52 :Int)≠0;decide)
 .rw[Dm d]at a;exact absurd a d
theorem HA(h:(xy p).1=0):TQ p:=⟨(m4 h).2.1,(BL h).2.2⟩
theorem zbx(m:(xy p).1=0)(u:∀f∈p.funcs,d0 f.body 0<=1000000000):G9 p:=by
 obtain⟨d,q,_⟩:=m4 m;obtain⟨r,s,_⟩:=BL m;have hF:=mS.1 s;have n:=(g6 p).1 r;unfold eK at d;rw[Dv,Yv,Yv]at d;refine⟨fun i j f g t c l e=>?_,fun f c=>?_,fun f c=>⟨(q f c).2,u f c⟩,fun i j f g t c l e=>?_,fun a o=>?_⟩
 .have b:=hF i f c
  have k:=hF j g l;rw[e,k]at b;injection b;omega
 .have b:=d.2 f c
  unfold xr at b;simp only[Dv]at b;exact uE b.1.1.1.1
 .have b:=(n i f c).1
  have k:=(n j g l).1;rw[e,k]at b;injection b;omega
 .have b:=d.1 a o
  unfold ud at b;simp only[Dv,decide_eq_true_eq]at b;exact⟨uE b.1,O,O⟩
def x2:eD uK->Option Int×RS
 |.ok h s=>(some h.2.1,s)
 |.fin s=>(none,s)
theorem zby(e:(xy p).1=0){b:Fu}(f:jN p ⟨#[109,97,105,110]⟩=some b)(g:b.params=[])(c:List Int){F:Nat}(hF:F<=1000000):
 To p 2000000 ⟨vH p c F,[],[⟨eW b,0,d7 b [],[]⟩]⟩ (.stop (x2 (j9 (kM p F) [] b.body (vH p c F))).1 (x2 (j9 (kM p F) [] b.body (vH p c F))).2):=by
 have i:=(LT (HA e) 2000000 F).2;have d:d7 b []=[]:=by unfold d7;rw[List.zip_nil_right]
 have:=F9 (HA e) i (uv f) (l:=[]) (by rw[g];rfl) (t:=vH p c F) (v:=[]) (r:=[]) Zr (ZU p c F) (by rw[d];exact⟨Ju,Ju,Ju,Dw _⟩);rw[d]at this ⊢;unfold Sm at this;cases hx:j9 (kM p F) [] b.body (vH p c F)with
 |ok a s=>rw[hx]at this;exact this
 |fin s=>rw[hx]at this;exact this
end Go.Proofs.YthcmenajdcbnnaaGreatDoor
namespace Go.Proofs.YthcmenajdcbnnaaGreatDoor
open Go.RowKit Tryz
variable{p:Pr}{B m L g b n q B':Nat}{w w' W:C3}{v c0 c1 V:C4}{T:TypeId}{x y:PR Unit}{r:List dY}{s:C2}{t:Int}
theorem ZY{b:Option Addr}{c:Nat}{l:List Int}(a:lQ B w (.slice b l.length c) l)(_:m<=l.length):lQ B w (.slice b m c) (l.take m):=by
 obtain⟨⟨_,_,s,_,hF⟩,p⟩:=a;have y:=p _ _ _ rfl;injection s with i _ f;subst i f;have d:(l.take m).length=m:=Kc
 refine⟨⟨b,c,by rw[d],by rw[d];omega,fun q=>?_⟩,fun _ n c2 e=>by injection e with _ _ f;omega⟩;obtain⟨g,o,j,k⟩:=hF (by rw[d]at q;omega);refine⟨g,o,j,?_⟩
 have v:∀(l:List Int) (m o:Nat),uI 1 (fun(t:Int) g o=>dZ B w g o (.int .i64 t)) l g o->uI 1 (fun(t:Int) g o=>dZ B w g o (.int .i64 t)) (l.take m) g o:=by
  intro l
  induction l with
  |nil=>intro m o a;simpa using a
  |cons x r u=>
    intro m o a;cases m with
    |zero=>exact trivial
    |succ m=>exact⟨a.1,u m _ a.2⟩
 exact v l m o k
theorem MA(B:Nat)(l:List Int)(v:C4)(w:C3)(a:lQ B w v l):
 Cy 18 #[v] w fun e w'=>∃v',e=.returned v'/\lQ B w v' (l.take 10)/\w=w':=by
 obtain⟨_,c,rfl,_⟩:=a.1.form;have b:l.length<=c:=a.2 _ _ _ rfl;have H:=U a;clear a;by_cases f:10<l.length
 .have d:10<=c:=by omega
  go_enter func18,ntmps18;go_wp2_with fail;go_ret;exact⟨_,rfl,ZY H.o O,rfl⟩
 .go_enter func18,ntmps18
  go_wp2_with fail;go_ret;exact⟨_,rfl,by rw[D9 O];exact H.o,rfl⟩
def zbz(L:Nat)(w:C3)(a:C4)(r:Int×Int×List Int×Nat×Nat):Prop:=
 w.ownsRow L 3 1 a r.2.2.1.length (r.2.2.1.map (Value.int .i64))/\r.2.2.1.length<=281474976710656
def zc9(a:C4)(r:Int×Int×List Int×Nat×Nat):C4:=.agg #[(r.1:Int),(r.2.1:Int),a,((r.2.2.2.1:Int):Int),((r.2.2.2.2:Int):Int)]
theorem zbz.run{b:C4}{r:Int×Int×List Int×Nat×Nat}(a:zbz L w b r):JX w.heap.size w (zc9 b r) r:=⟨b,rfl,EP a.1 rfl a.2,GQ a.1⟩
def x3(L:Nat)(w:C3)(a:List Pa)(v:C4):Prop:=e5 w.heap.size (eE (i3 L) w) v a
theorem x3.keep{b:Nat}{a:List Pa}(c:x3 L w a v)(k:zK L w w')(d:b<=L):x3 b w' a v:=e5.imp (k.cells d) c
theorem x3.form{a:List Pa}(d:x3 L w a v):∃b c,v=.slice b a.length c:=by
 obtain⟨b,c,e,_⟩:=e5.form d;exact⟨b,c,e⟩
def XL(L:Nat)(w:C3)(a:Fu)(v:C4):Prop:=∃b c,v=.agg #[a.name,(a.type:Int),b,c]/\x3 L w a.params b/\kD L w a.body c
theorem XL.form{a:Fu}(d:XL L w a v):∃s t b i c2 c j c3,v=.agg #[.string s,(t:Int),.slice b i c2,.slice c j c3]:=by
 obtain⟨_,_,g,e,f⟩:=d;obtain⟨b,c2,rfl⟩:=e.form;obtain⟨c,c3,rfl,_⟩:=f.form;exact⟨_,_,_,_,_,_,_,_,g⟩
theorem oP{x:PR Fu}(d:je x fun a=>XL L w a v)(f:zH x):∃s t b g c2 c i c3,v=.agg #[.string s,(t:Int),.slice b g c2,.slice c i c3]:=by
 obtain⟨a,e⟩:=d.some f;exact e.form
abbrev BM:Obj:=.cells #[.string ⟨#[]⟩,(0:Int),(),()] 93
abbrev MB(W:C3)(g:Nat)(c0 c1 c2 c3:C4):C3:=(((W.setCell (g,0) c0).setCell (g,1) c1).setCell (g,2) c2).setCell (g,3) c3
theorem P3{a b c d:C4}{fr:Nat×Nat}(e:W.heap[g]?=some (.cells #[a,b,c,d] T fr))(c0 c1 c2 c3:C4):(MB W g c0 c1 c2 c3).heap[g]?=some (.cells #[c0,c1,c2,c3] T fr):=
 D0 (D0 (D0 (D0 e c0) c1) c2) c3
theorem zK.nest4(a:g<L)(c0 c1 c2 c3:C4):zK L w (MB w g c0 c1 c2 c3):=
 (((zK.set a 0 c0).trans (zK.set a 1 c1)).trans (zK.set a 2 c2)).trans (zK.set a 3 c3)
theorem lK{c2 c3:C4}(h:W.heap[g]?=some (.cells #[c0,c1,c2,c3] T (0,0))):
 (W.cell? (g,0)=some c0/\W.cell? (g,1)=some c1/\W.cell? (g,2)=some c2/\W.cell? (g,3)=some c3)/\∀o,W.frozen? ⟨g,o,none⟩=false:=by
 refine⟨⟨(Ds h 0).trans rfl,(Ds h 1).trans rfl,(Ds h 2).trans rfl,(Ds h 3).trans rfl⟩,fun o=>?_⟩;simp[World.frozen?,h]
theorem jP.nest4{tj:List dY}(e:jP b V tj w x W)(d:i2 b V tj w)(c:w.heap.size<=g)(a:g≠b)(c0 c1 c2 c3:C4):jP b V tj w x (MB W g c0 c1 c2 c3):=
 (((e.set d c a 0 c0).set d c a 1 c1).set d c a 2 c2).set d c a 3 c3
def jQ(b:Nat)(V:C4)(tj:List dY)(w:C3)(x:PR Unit)(W:C3)(c0 c1 c2 c3:C4):Prop:=
 jP b V tj w x W/\W.heap[w.heap.size]?=some BM/\W.heap[w.heap.size+1]?=some (.cells #[c0,c1,c2,c3] 93 (0,0))/\i2 b V tj w/\b<w.heap.size
section
variable {b:Nat}{V:C4}{tj:List dY} {w W W':C3}{x y:PR Unit}{c0 c1 c2 c3:C4}
theorem jQ.start(a:jr b V tj x w)(s:C2)(t:Int):jQ b V tj w x ((w.alloc BM).alloc (.cells #[s,(t:Int),(),()] 93)) (.string s) (.int .i64 t) (.slice none 0 0) (.slice none 0 0):=by
 have c:Cx w ((w.alloc BM).alloc (.cells #[s,(t:Int),(),()] 93)):=(Zb.alloc Zr _).alloc Ut _;refine⟨⟨a.below c,dX.wb c a.lt⟩,qI (Dq w BM) _,?_,a.tok,a.lt⟩;have:=Dq (w.alloc BM) (.cells #[s,(t:Int),(),()] 93);rw[zA]at this;exact this
theorem jQ.did(h:jQ b V tj w x W c0 c1 c2 c3):jP b V tj w x W:=h.1
theorem jQ.st(h:jQ b V tj w x W c0 c1 c2 c3):jr b V tj x W:=h.1.1
theorem jQ.lt(h:jQ b V tj w x W c0 c1 c2 c3):b<w.heap.size:=h.2.2.2.2
theorem jQ.size(h:jQ b V tj w x W c0 c1 c2 c3):w.heap.size+1<W.heap.size:=(Array.getElem?_eq_some_iff.1 h.2.2.1).1
theorem jQ.step(h:jQ b V tj w x W c0 c1 c2 c3)(g:jP b V tj W y W'):jQ b V tj w y W' c0 c1 c2 c3:=
 ⟨h.1.after g,jM g.off (by have:=h.size;omega) Vi h.2.1,jM g.off h.size Vi h.2.2.1,h.2.2.2⟩
theorem jQ.alloc(h:jQ b V tj w x W c0 c1 c2 c3)(o:Obj):jQ b V tj w x (W.alloc o) c0 c1 c2 c3:=⟨h.1.alloc o,qI h.2.1 o,qI h.2.2.1 o,h.2.2.2⟩
theorem jQ.drew(h:jQ b V tj w x W c0 c1 c2 c3):jQ b V tj w x W.drew c0 c1 c2 c3:=h.step ⟨h.st.below Zb.drew,dX.wb Zb.drew h.st.lt⟩
theorem jQ.own(h:jQ b V tj w x W c0 c1 c2 c3):(W.cell? (w.heap.size,0)=some (.string ⟨#[]⟩)/\W.cell? (w.heap.size,1)=some (.int .i64 0)/\W.cell? (w.heap.size,2)=some (.slice none 0 0)/\W.cell? (w.heap.size,3)=some (.slice none 0 0))/\∀o,W.frozen? ⟨w.heap.size,o,none⟩=false:=lK h.2.1
theorem jQ.f(h:jQ b V tj w x W c0 c1 c2 c3):(W.cell? (w.heap.size+1,0)=some c0/\W.cell? (w.heap.size+1,1)=some c1/\W.cell? (w.heap.size+1,2)=some c2/\W.cell? (w.heap.size+1,3)=some c3)/\∀o,W.frozen? ⟨w.heap.size+1,o,none⟩=false:=lK h.2.2.1
theorem jQ.set(h:jQ b V tj w x W c0 c1 c2 c3)(i:Nat)(u:C4):jP b V tj w x (W.setCell (w.heap.size+1,i) u)/\(W.setCell (w.heap.size+1,i) u).heap[w.heap.size]?=some BM:=
 ⟨h.1.set h.2.2.2.1 O Vi i u,(Dx W _ u _ Hq).trans h.2.1⟩
theorem jQ.ww(h:jQ b V tj w x W c0 c1 c2 c3)(u:C4):jQ b V tj w x (W.setCell (w.heap.size+1,2) u) c0 c1 u c3:=⟨(h.set 2 u).1,(h.set 2 u).2,D0 h.2.2.1 u,h.2.2.2⟩
theorem jQ.set3(h:jQ b V tj w x W c0 c1 c2 c3)(u:C4):jQ b V tj w x (W.setCell (w.heap.size+1,3) u) c0 c1 c2 u:=⟨(h.set 3 u).1,(h.set 3 u).2,D0 h.2.2.1 u,h.2.2.2⟩
theorem jQ.fin(c:jQ b V tj w y W c0 c1 c2 c3){X:PR Fu}(e:X.un=y)(d:je X fun a=>XL w.heap.size (_root_.Go.Proofs.YthcmenajdcbnnaaGreatDoor.MB W w.heap.size c0 c1 c2 c3) a (.agg #[c0,c1,c2,c3])):
 qp b V tj w X (XL w.heap.size) (.returned (.agg #[c0,c1,c2,c3])) (_root_.Go.Proofs.YthcmenajdcbnnaaGreatDoor.MB W w.heap.size c0 c1 c2 c3):=
 ⟨_,rfl,e▸c.1.nest4 c.2.2.2.1 Zr Gh _ _ _ _,d⟩
theorem jQ.read(h:jQ b V tj w x W c0 c1 c2 c3):((((W.setCell (w.heap.size,0) c0).setCell (w.heap.size,1) c1).setCell (w.heap.size,2) c2).setCell (w.heap.size,3) c3).cell? (w.heap.size,0)=some c0/\((((W.setCell (w.heap.size,0) c0).setCell (w.heap.size,1) c1).setCell (w.heap.size,2) c2).setCell (w.heap.size,3) c3).cell? (w.heap.size,1)=some c1/\
 ((((W.setCell (w.heap.size,0) c0).setCell (w.heap.size,1) c1).setCell (w.heap.size,2) c2).setCell (w.heap.size,3) c3).cell? (w.heap.size,2)=some c2/\((((W.setCell (w.heap.size,0) c0).setCell (w.heap.size,1) c1).setCell (w.heap.size,2) c2).setCell (w.heap.size,3) c3).cell? (w.heap.size,3)=some c3:=(lK (P3 h.2.1 c0 c1 c2 c3)).1
end
def f2(m:Nat)(tk:List Pa)(r:List dY):PR (List Pa):=if zt [44] r=true then pX m tk r.tail else(zQ [41] r).bind fun _ r=>.ok tk r
def jR(r:List dY):PR Pa:=(i0 r).bind fun t r=>(qt 1 r).bind fun s r=>.ok ⟨s,t⟩ r
theorem ZZ{tk:List Pa}:pX (m+1) tk r=(jR r).bind fun p r=>f2 m (tk++[p]) r:=by
 rw[pX];unfold jR;simp only[zY];rfl
theorem yw(b:qB r):zm 1 r (jR r):=by
 unfold jR;exact(xx b).bind (m:=0) (fun t r _ a=>(jO a 1 Up).bind (n:=0) (fun _ r _ a=>zm.self a _) O) O
theorem oQ(r:List dY):(jR r).un=((i0 r).un.bind fun _ r=>qt 1 r).un:=by
 unfold jR;cases i0 r with
 |ok t r=>
   show((qt 1 r).bind fun s r=>PR.ok (⟨s,t⟩:Pa) r).un=(qt 1 r).un;rw[jo];rfl
 |_=>rfl
theorem Z0(r:List dY):zH (i0 r):=by
 unfold i0 zQ;split
 .trivial
 .split<;>trivial
theorem lL{c:Int}(d:je (i0 r) fun a=>a=c)(e:je ((i0 r).un.bind fun _ r=>qt 1 r) fun a=>a=s):je (jR r) fun p=>p=⟨s,c⟩:=by
 unfold jR;cases hx:i0 r with
 |ok t b=>
   rw[hx]at d e;obtain rfl:t=c:=d;have g:je (qt 1 b) fun a=>a=s:=e
   show je ((qt 1 b).bind fun s r=>PR.ok (⟨s,t⟩:Pa) r) _;exact g.bind (fun a r _ f=>by subst f;exact rfl) fun a f=>⟨_,rfl⟩
 |bad b=>exact⟨_,rfl⟩
 |deep b=>exact⟨_,rfl⟩
 |o=>trivial
theorem KF(c:je (i0 r) fun a=>X3 w a v):∃b,v=.int .i64 b/\je (i0 r) fun a=>a=b:=by
 obtain⟨b,i⟩:=c.some (Z0 r);have f:v=.int .i64 b:=i;refine⟨b,f,c.imp fun a g=>?_⟩;have d:v=.int .i64 a:=g;rw[f]at d;injection d with _ e;exact e.symm
theorem MC{tj:List dY}{d f:C3}{Y:PR Unit}{c3 c:C4}{tk:List Pa}{q:Pa}(a:jQ b V tj w Y d c0 c1 v c3)(n:eC kP (w.heap.size+2) d v tk)
 (i:(d.alloc (.cells #[q.name,(q.type:Int)] 100)).grownBy f v.ownBlock) (x:kn (d.alloc (.cells #[q.name,(q.type:Int)] 100)) v c)
 (t:f.ownsRow (w.heap.size+2) 100 2 c (tk.length+1) (tk.flatMap kP.cs++[.string q.name,.int .i64 q.type])):
 jQ b V tj w Y f c0 c1 v c3/\jQ b V tj w Y (f.setCell (w.heap.size+1,2) c) c0 c1 c c3/\eC kP (w.heap.size+2) (f.setCell (w.heap.size+1,2) c) c (tk++[q]):=by
 have g:Cx d (d.alloc (.cells #[q.name,(q.type:Int)] 100)):=Zb.alloc Zr _;have r:eC kP (w.heap.size+2) f c (tk++[q]):=n.app (L:=d.heap.size) trivial Xh (fun k s=>(n.own k s).1) g i x t;have u:∀j,v.ownBlock=some j->w.heap.size+2<=j:=fun j l=>(n.own j l).2
 have m:∀j,j<d.heap.size->j<w.heap.size+2->f.heap[j]?=d.heap[j]?:=fun j l _=>(i.block j (D6 l g.size) (fun e=>by have:=u j e.symm;omega)).trans (g.block j l)
 have y:=a.size;have z:=a.lt;have p:dX b w.heap.size w f:=a.did.off.trans (dX.mk' (i.os.trans g.os) (i.tape.trans g.tape) (i.output.trans g.output) (Dr g.size i.size) a.st.lt fun j l _=>m j Hz O);have o:jQ b V tj w Y f c0 c1 v c3:=⟨⟨a.st.move a.2.2.2.1 p (m b a.st.lt O),p⟩,(m _ O O).trans a.2.1,(m _ y O).trans a.2.2.1,a.2.2.2⟩
 exact⟨o,o.ww c,r.keep (zK.set O 2 c)⟩
def FnB(b:Nat)(V:C4)(tj:List dY)(w:C3)(T:PR (List Pa))(n:Nat)(c0 c1:C4)(wr:C3):Prop:=
 ∃(m:Nat) (tk:List Pa) (y:PR Unit) (v:C4),m<=n/\eC kP (w.heap.size+2) wr v tk/\jQ b V tj w y wr c0 c1 v (.slice none 0 0)/\T=y.bind (fun _ r=>f2 m tk r)/\(qC y=false->tk.length<=vB b wr)/\tk.length<=2000000
def zda(b:Nat)(V:C4)(tj:List dY)(w:C3)(T:PR (List Pa))(n:Nat)(c0 c1:C4)(X:PR Unit)(a:C4)(wr:C3):Prop:=
 (a=.bool true/\jQ b V tj w X wr c0 c1 (.slice none 0 0) (.slice none 0 0))\/(a=.bool false/\FnB b V tj w T n c0 c1 wr)
theorem VG{tj:List dY}{f:C4}{tk:List Pa}{q:Pa}{T:PR (List Pa)}(k:m<=n)(d:T=pX (m+1) tk r)(a:jQ b V tj w (jR r).un W c0 c1 f (.slice none 0 0))(j:eC kP (w.heap.size+2) W f (tk++[q]))
 (t:je (jR r) fun p=>p=q) (u:qB r) (_:r.length<=tj.length) (_:tk.length<=tj.length-r.length) (_:tk.length<=1000000):FnB b V tj w T n c0 c1 W/\tj.length-r.length<=vB b W:=by
 rw[ZZ]at d;have hF:=yw u;have g:(tk++[q]).length=tk.length+1:=Ur
 cases hx:jR r with
 |ok p c=>
   rw[hx]at d a t hF;obtain rfl:p=q:=t;have e:zc b V tj c false false W:=a.st;have l:=jY e;have s:=(show zI 1 r c from hF).2.2;exact⟨⟨m,tk++[p],.ok () c,f,k,j,a,d,fun _=>Kx,Kx⟩,O⟩
 |bad c=>
   rw[hx]at d a hF;have e:zc b V tj c true false W:=a.st;have l:=jY e;have s:=(show zI 0 r c from hF).2.2;exact⟨⟨m,tk++[q],.bad c,f,k,j,a,d,(fun i=>by cases i),Kx⟩,O⟩
 |deep c=>
   rw[hx]at d a hF;have e:zc b V tj c false true W:=a.st;have l:=jY e;have s:=(show zI 0 r c from hF).2.2;exact⟨⟨m,tk++[q],.deep c,f,k,j,a,d,(fun i=>by cases i),Kx⟩,O⟩
 |o=>
   rw[hx]at a;exact absurd a.st id
theorem Z1{tk:List Pa}(a:zU [44] y=false):y.bind (fun _ r=>f2 m tk r)=y.bind fun _ r=>(zQ [41] r).bind fun _ r=>.ok tk r:=by
 cases y with
 |ok _ r=>
   show f2 m tk r=_;unfold f2;rw[Dl Hl];rfl
 |_=>rfl
theorem MD{tk:List Pa}{P:List Pa->Prop}(h:P tk):je (y.bind fun _ r=>(zQ [41] r).bind fun _ r=>.ok tk r) P:=by
 cases y with
 |ok _ r=>exact vw h
 |bad r=>exact⟨tk,h⟩
 |deep r=>exact⟨tk,h⟩
 |o=>trivial
theorem VH(y:PR Unit)(tk:List Pa):(y.bind fun _ r=>(zQ [41] r).bind fun _ r=>PR.ok tk r).un=y.bind fun _ r=>zQ [41] r:=by
 rw[jo];simp only[xc]
def VI(n:Nat)(t:Int)(s:C2)(ps:List Pa)(r:List dY):PR Fu:=(pB n 1 r).bind fun b r=>.ok ⟨s,t,ps,b⟩ r
def KG(n:Nat)(r:List dY):PR (List Pa):=if zt [41] r=true then .ok [] r.tail else pX n [] r
theorem BN(n:Nat)(t:Int)(s:C2)(x:PR Unit):(x.bind fun _ r=>oZ n t s r)=((x.bind fun _ r=>zQ [40] r).bind fun _ r=>KG n r).bind fun ps r=>VI n t s ps r:=by
 unfold oZ X0 KG VI;simp only[zY]
theorem ME{T:PR (List Pa)}(h:zH (T.bind fun ps r=>VI n t s ps r)):zH (T.un.bind fun _ r=>pB n 1 r):=by
 cases T with
 |ok ps r=>exact qM (show zH (VI n t s ps r)from h)
 |bad r=>trivial
 |deep r=>trivial
 |o=>exact h
theorem zdb{T:PR (List Pa)}:(T.bind fun ps r=>VI n t s ps r).un=(T.un.bind fun _ r=>pB n 1 r).un:=by
 cases T with
 |ok ps r=>
   show(VI n t s ps r).un=(pB n 1 r).un;unfold VI;rw[jo];rfl
 |_=>rfl
theorem zb0{T:PR (List Pa)}{P1:List Pa->Prop}{P2:List St->Prop}{Q:Fu->Prop}(a:je T P1)(g:je (T.un.bind fun _ r=>pB n 1 r) P2)(k:zH (T.un.bind fun _ r=>pB n 1 r))(c:∀ps b,P1 ps->P2 b->Q ⟨s,t,ps,b⟩):je (T.bind fun ps r=>VI n t s ps r) Q:=by
 obtain⟨f,i⟩:=g.some k;cases T with
 |ok ps r=>
   show je ((pB n 1 r).bind fun b r=>PR.ok (⟨s,t,ps,b⟩:Fu) r) Q;have j:je (pB n 1 r) P2:=g;exact j.bind (fun b r _ d=>c ps b a d) fun b d=>⟨_,c ps b a d⟩
 |bad r=>obtain⟨ps,e⟩:=a;exact⟨_,c ps f e i⟩
 |deep r=>obtain⟨ps,e⟩:=a;exact⟨_,c ps f e i⟩
 |o=>trivial
theorem DK{tj:List dY}{d g:C3}{n:Nat}{T:PR (List Pa)}{c:C4}{tk:List Pa}(e:jQ b V tj w T.un d (.string s) (.int .i64 t) v (.slice none 0 0))(j:eC kP (w.heap.size+2) d v tk)(_:tk.length<=2000000)(k:je T fun ps=>ps=tk)
 (f:jP b V tj d (T.un.bind fun _ r=>pB n 1 r).un g) (i:je (T.un.bind fun _ r=>pB n 1 r) fun a=>kD d.heap.size g a c) (m:zH (T.un.bind fun _ r=>pB n 1 r)):
 qp b V tj w (T.bind fun ps r=>VI n t s ps r) (XL w.heap.size) (.returned (.agg #[s,(t:Int),v,c])) (MB (g.setCell (w.heap.size+1,3) c) w.heap.size (.string s) (.int .i64 t) v c):=by
 have u:=e.size;have q:=e.lt;have p:=f.off.size;refine jQ.fin ((e.step f).set3 c) zdb (zb0 k i m fun ps _ o l=>?_);subst o;refine⟨v,c,rfl,?_,?_⟩
 .refine x3.keep (L:=w.heap.size+2) (j.params O) ?_ O
  exact((zK.did f O).trans (zK.set O 3 c)).trans (zK.nest4 O _ _ _ _)
 .exact kD.keep l ((zK.set O 3 c).trans (zK.nest4 O _ _ _ _)) O
theorem Z2{tj:List dY}(i:jr b V tj x w)(m:(x.bind fun _ r=>zQ [40] r)=.ok () r)(j:zt [41] r=true)(l:zH (x.bind fun _ r=>oZ n t s r)):
 Cy 59 #[(b,0),(t:Int),s] w (qp b V tj w (x.bind fun _ r=>oZ n t s r) (XL w.heap.size)):=by
 have q:(x.bind fun _ r=>oZ n t s r)=(PR.ok [] r.tail).bind fun ps r=>VI n t s ps r:=by
  rw[BN,m];show(KG n r).bind _=_;unfold KG;rw[Dm j]
 rw[q]at l ⊢;have g:=C0 (zH ((PR.ok () r.tail).bind fun _ r=>pB n 1 r)) (ME l);have a:=U (jQ.start i s t);have D:=U m;have E:=C0 (zU (⟨#[41]⟩:C2).data.toList (PR.ok () r)=true) j;have z:=U (sU (b:=b) (V:=V) (tj:=tj) (n:=n) (d:=1) Up Up);have J:=i.lt;clear i m j l q;go_enter func59,ntmps59
 go_wp2_with (first
  | (go_at_call 58;(with_reducible refine(zh a.o.st ⟨#[40]⟩).mono ?_);rintro e H ⟨rfl,c⟩
     replace a:=C0 (jQ b V tj w (.ok () r) H _ _ _ _) (D.o▸a.o.step c)
     clear c)
  | (go_at_call 56;(with_reducible refine(zx a.o.st _ E.o).mono ?_);rintro e I ⟨rfl,c⟩
     replace a:=C0 (jQ b V tj w (.ok () r.tail) I _ _ _ _) (a.o.step c)
     clear c)
  | (go_at_call 82;(with_reducible refine(z.o.call a.o.st g.o).mono ?_);rintro e _ ⟨_,rfl,c,k⟩
     obtain⟨p,u,y,rfl⟩:=xf k g.o;have C:=U k;have A:=a;have B:=U c;replace a:=U (a.o.step c);obtain⟨⟨c0,c1,c2,c3⟩,_⟩:=a.o.own;obtain⟨⟨_,_,_,_⟩,_⟩:=a.o.f
     clear c k))
 obtain⟨F,f1,G,f3⟩:=(a.o.set3 (.slice p u y)).read;refine bodyPost_ret (v:=.agg #[s,(t:Int),(),(p,u,y)]) (by simp[results,results59,go_sem,F,f1,G,f3]) rfl ?_;exact DK (T:=.ok [] r.tail) A.o (eC.nil kP _ _) Ur rfl B.o C.o g.o
theorem Z3{tj:List dY}(ax:jr b V tj x w)(ad:zU [41] (x.bind fun _ r=>zQ [40] r)=false)(af:zH (x.bind fun _ r=>oZ n t s r)):
 Cy 59 #[(b,0),(t:Int),s] w (qp b V tj w (x.bind fun _ r=>oZ n t s r) (XL w.heap.size)):=by
 obtain⟨X,ae⟩:=Cz ((x.bind fun _ r=>zQ [40] r));obtain⟨T,C⟩:=Cz ((X.bind fun _ r=>KG n r));have aQ:(x.bind fun _ r=>oZ n t s r)=T.bind fun ps r=>VI n t s ps r:=by rw[BN,ae,C]
 rw[aQ]at af ⊢;rw[ae]at ad
 have aR:T=X.bind fun _ r=>pX n [] r:=by
  rw[<-C];cases X with
  |ok bh r=>show KG n r=pX n [] r;unfold KG;rw[Dl (by rw[show zt [41] r=false from ad];decide)]
  |_=>rfl
 have H:=U (ME af);have aS:zH T:=qM af;have aP:=U aS;have a:=U (jQ.start ax s t);have a2:=U ae;have ap:=U aR;have a3:=C0 (zU (⟨#[41]⟩:C2).data.toList X=false) ad;have aO:=U (sU (b:=b) (V:=V) (tj:=tj) (n:=n) (d:=1) Up Up);have bo:=ax.lt;clear ax ae ad af aQ C aR aS;go_enter func59,ntmps59
 go_wp2_with (first
  | (go_at_call 58;(with_reducible refine(zh a.o.st ⟨#[40]⟩).mono ?_);rintro e bk ⟨rfl,c⟩
     replace a:=C0 (jQ b V tj w X bk _ _ _ _) (a2.o▸a.o.step c)
     clear c)
  | (go_at_call 56;(with_reducible refine(zE a.o.st _ a3.o).mono ?_);rintro e L ⟨rfl,c⟩
     replace a:=U (a.o.step c)
     clear c))
 go_loopw [8] (fun aw wr=>zda b V tj w T n (.string s) (.int .i64 t) X aw wr) (fun aw wr=>2*(tj.length-vB b wr)+nM aw)
 case atStart=>exact .inl ⟨rfl,a.o⟩
 case round=>
  obtain⟨aY,aU,aV,aW,aX⟩:=info_parts LK;have A:=U (Do aU (Do aV (Do aW aX)));clear aU aV aW aX;rcases hrel with⟨rfl,B⟩|⟨rfl,m,tk,y,v,_,J,B,C,aA,az⟩
  .replace a:=U B
   have g:=U (eC.nil kP (w.heap.size+2) wr);clear B;cases ho:qC X with
   |true=>
     have j:T=X.bind fun _ r=>(zQ [41] r).bind fun _ r=>.ok [] r:=ap.o.trans (iK ho _ _)
     have aq:=U (show T.un=X.bind fun _ r=>zQ [41] r by rw[j,VH]);have D:=U (show je T fun ps=>ps=[]by rw[j];exact MD rfl);have az:([]:List Pa).length<=2000000:=Ur
     have a0:=U ho;clear ho j
     go_wp2_with (first
      |(go_at_call 53;(with_reducible refine(qL a.o.st true a0.o).mono ?_);rintro e L ⟨rfl,rfl⟩)
      | (go_at_call 58;(with_reducible refine(zh a.o.st ⟨#[41]⟩).mono ?_);rintro e aN ⟨rfl,c⟩
         replace g:=U (g.o.keep (zK.did c O));replace a:=C0 (jQ b V tj w T.un aN _ _ _ _) (aq.o▸a.o.step c)
         clear c)
      | (go_at_call 82;(with_reducible refine(aO.o.call a.o.st H.o).mono ?_);rintro e bl ⟨bj,rfl,c,i⟩
         obtain⟨M,Z,aa,rfl⟩:=xf i H.o;have am:=U i;have aj:=a;have ak:=U c;replace a:=U (a.o.step c);obtain⟨⟨c0,c1,c2,c3⟩,a5⟩:=a.o.own;obtain⟨⟨aG,aH,aI,aJ⟩,aK⟩:=a.o.f
         clear c i))
     obtain⟨au,f1,av,f3⟩:=(a.o.set3 (.slice M Z aa)).read;refine bodyPost_ret (v:=.agg #[s,(t:Int),(),(M,Z,aa)]) (by simp[results,results59,go_sem,au,f1,av,f3]) rfl ?_;exact DK aj.o g.o az D.o ak.o am.o H.o
   |false=>
     obtain⟨r,rfl⟩:∃r,X=.ok () r:=by
      cases X with
      |ok bh r=>exact⟨r,rfl⟩
      |bad r=>cases ho
      |deep r=>cases ho
      |o=>exact absurd a.o.st id
     obtain⟨K,aF,ba,aT,bd⟩:=yU a.o.did
     obtain⟨q,rfl⟩:∃q,n=q+1:=by
      cases n with
      |zero=>have ab:=aP.o;rw[ap.o]at ab;exact absurd (show zH (pX 0 [] r)from ab) (by rw[pX];exact id)
      |succ q=>exact⟨q,rfl⟩
     obtain⟨tk,R⟩:∃tk:List Pa,tk=[]:=⟨_,rfl⟩
     have bm:tk.length<=1000000:=by rw[R];simp
     have bn:tk.length<=tj.length-r.length:=by rw[R];simp
     replace g:=U (show eC kP (w.heap.size+2) wr (.slice none 0 0) tk by rw[R];exact g.o);have ao:=U (show T=pX (q+1) tk r by rw[ap.o,R];rfl);have al:=U aT;have ai:=U K;clear ho K R aT
     go_wp2_with (first
      |(go_at_call 53;(with_reducible refine(qL a.o.st false rfl).mono ?_);rintro e L ⟨rfl,rfl⟩)
      | (go_at_call 54;(with_reducible refine(ur a.o.st).mono ?_);rintro e aL ⟨bg,rfl,c,i⟩
         obtain⟨u,rfl,Q⟩:=KF (r:=r) i;have D:=U Q;replace g:=U (g.o.keep (zK.did c O));replace a:=C0 (jQ b V tj w (i0 r).un aL _ _ _ _) (a.o.step c);obtain⟨⟨aG,aH,aI,aJ⟩,aK⟩:=a.o.f
         clear c i Q))
     go_region_law (first
      | (refine jF rfl (.tmp 31) (.tmp 36) _ rfl (w.heap.size+2) 100 aY _ 2 24 underlying90 A.o.1 A.o.2.1 A.o.2.2.1 A.o.2.2.2 rfl O (.slice none 0 0) tk.length _ rfl (by exact E.o.1) ⟨z.heap.size,0,none⟩ 1 1 [.string p,.int .i64 u] rfl rfl (by exact E.o.2.1) Uw Uv O (by exact E.o.2.2) O ?_
         intro bi aM F S W;obtain⟨aZ,a4,rfl⟩:=zb F;have l:=U (MC (q:=⟨p,u⟩) k.o N.o S W F);have aD:aM.cell? (w.heap.size+1,2)=some (.slice none 0 0):=l.o.1.f.1.2.2.1;have a7:=l.o.1.f.2
         clear F S W)
      | (go_simp;go_at_call 55;(refine(yr (a.o.drew).st 1 Up).mono ?_);rintro e z ⟨p,rfl,c,i⟩
         have an:=U i;have N:=U (g.o.keep ((zK.wb Zb.drew).trans (zK.did c O)));have k:=C0 (jQ b V tj w (jR r).un z _ _ _ _) ((oQ r).symm▸a.o.drew.step c);have aD:z.cell? (w.heap.size+1,2)=some (.slice none 0 0):=k.o.f.1.2.2.1;have a6:=k.o.f.2;have bc:(z.alloc (.cells #[p,(u:Int)] 100)).cell? (w.heap.size+1,2)=some (.slice none 0 0):=(k.o.alloc _).f.1.2.2.1;have E:=U (N.o.pre [.string p,.int .i64 u] (by have:=k.o.size;omega))
         clear c i))
     all_goals
      go_wp2;have P:=U (VG (n:=q+1) O ao.o l.o.2.1 l.o.2.2 (lL D.o an.o) al.o aF O O);go_roundw
      case rel=>exact .inr ⟨rfl,P.o.1⟩
      case measure=>
       have ab:=P.o.2;have a8:=ai.o;simp[nM];omega
  .obtain⟨bb,Y⟩:∃v:Bool,zU [44] y=v:=⟨_,rfl⟩
   cases bb with
   |true=>
     obtain⟨ah,rfl,ag⟩:=fH Y;obtain⟨K,_,ba,aB,bd⟩:=yU B.did
     have j:T=pX m tk ah.tail:=by
      rw[C];show f2 m tk ah=_;unfold f2;rw[Dm ag]
     obtain⟨q,rfl⟩:∃q,m=q+1:=by
      cases m with
      |zero=>have:=aP.o;rw[j,pX]at this;exact absurd this id
      |succ q=>exact⟨q,rfl⟩
     have a9:=aA rfl;rw[K]at a9;have be:=jv aB;have ai:=U K;have ar:=C0 (zU (⟨#[44]⟩:C2).data.toList (PR.ok () ah)=true) ag;have aC:=aB.sign ag;obtain⟨r,aE⟩:∃bf,bf=ah.tail:=⟨_,rfl⟩
     rw[<-aE]at j be aC;have aF:r.length<=tj.length:=O
     have a1:=U aE;have ao:=U j;have al:=U aC;have g:=U J;replace a:=U B;obtain⟨G,I,rfl⟩:=J.form;clear B J C j K Y ag aB aC aE aA
     go_wp2_with (first
      | (go_at_call 56;(with_reducible refine(zx a.o.st _ ar.o).mono ?_);rintro e L ⟨rfl,c⟩
         have ay:jP b V tj wr (.ok () r) L:=by rw[a1.o];exact c
         replace g:=U (g.o.keep (zK.did ay O));replace a:=U (a.o.step ay)
         clear c ay)
      |(go_at_call 53;(with_reducible refine(qL a.o.st false rfl).mono ?_);rintro e L ⟨rfl,rfl⟩)
      | (go_at_call 54;(with_reducible refine(ur a.o.st).mono ?_);rintro e aL ⟨bg,rfl,c,i⟩
         obtain⟨u,rfl,Q⟩:=KF (r:=r) i;have D:=U Q;replace g:=U (g.o.keep (zK.did c O));replace a:=C0 (jQ b V tj w (i0 r).un aL _ _ _ _) (a.o.step c);obtain⟨⟨aG,aH,aI,aJ⟩,aK⟩:=a.o.f
         clear c i Q))
     go_region_law (first
      | (refine jF rfl (.tmp 31) (.tmp 36) _ rfl (w.heap.size+2) 100 aY _ 2 24 underlying90 A.o.1 A.o.2.1 A.o.2.2.1 A.o.2.2.2 rfl O (.slice G tk.length I) tk.length _ rfl (by exact E.o.1) ⟨z.heap.size,0,none⟩ 1 1 [.string p,.int .i64 u] rfl rfl (by exact E.o.2.1) Uw Uv O (by exact E.o.2.2) O ?_
         intro bi aM F S W;obtain⟨aZ,a4,rfl⟩:=zb F;have l:=U (MC (q:=⟨p,u⟩) k.o N.o S W F);have aD:aM.cell? (w.heap.size+1,2)=some (.slice G tk.length I):=l.o.1.f.1.2.2.1;have a7:=l.o.1.f.2
         clear F S W)
      | (go_simp;go_at_call 55;(refine(yr (a.o.drew).st 1 Up).mono ?_);rintro e z ⟨p,rfl,c,i⟩
         have an:=U i;have N:=U (g.o.keep ((zK.wb Zb.drew).trans (zK.did c O)));have k:=C0 (jQ b V tj w (jR r).un z _ _ _ _) ((oQ r).symm▸a.o.drew.step c);have aD:z.cell? (w.heap.size+1,2)=some (.slice G tk.length I):=k.o.f.1.2.2.1;have a6:=k.o.f.2;have bc:(z.alloc (.cells #[p,(u:Int)] 100)).cell? (w.heap.size+1,2)=some (.slice G tk.length I):=(k.o.alloc _).f.1.2.2.1;have E:=U (N.o.pre [.string p,.int .i64 u] (by have:=k.o.size;omega))
         clear c i))
     all_goals
      go_wp2;have P:=U (VG (n:=n) O ao.o l.o.2.1 l.o.2.2 (lL D.o an.o) al.o aF O O);go_roundw
      case rel=>exact .inr ⟨rfl,P.o.1⟩
      case measure=>
       have ab:=P.o.2;have a8:=ai.o;simp[nM];omega
   |false=>
     have ar:=C0 (zU (⟨#[44]⟩:C2).data.toList y=false) Y;have j:=C.trans (Z1 (m:=m) (tk:=tk) Y);have aq:=U (show T.un=y.bind fun _ r=>zQ [41] r by rw[j,VH]);have D:=U (show je T fun ps=>ps=tk by rw[j];exact MD rfl);have g:=U J;replace a:=U B;obtain⟨G,I,rfl⟩:=J.form;clear B J C j Y aA
     go_wp2_with (first
      | (go_at_call 56;(with_reducible refine(zE a.o.st _ ar.o).mono ?_);rintro e L ⟨rfl,c⟩
         replace g:=U (g.o.keep (zK.did c O));replace a:=U (a.o.step c)
         clear c)
      | (go_at_call 58;(with_reducible refine(zh a.o.st ⟨#[41]⟩).mono ?_);rintro e aN ⟨rfl,c⟩
         replace g:=U (g.o.keep (zK.did c O));replace a:=C0 (jQ b V tj w T.un aN _ _ _ _) (aq.o▸a.o.step c)
         clear c)
      | (go_at_call 82;(with_reducible refine(aO.o.call a.o.st H.o).mono ?_);rintro e bl ⟨bj,rfl,c,i⟩
         obtain⟨M,Z,aa,rfl⟩:=xf i H.o;have am:=U i;have aj:=a;have ak:=U c;replace a:=U (a.o.step c);obtain⟨⟨c0,c1,c2,c3⟩,a5⟩:=a.o.own;obtain⟨⟨aG,aH,aI,aJ⟩,aK⟩:=a.o.f
         clear c i))
     obtain⟨au,f1,av,f3⟩:=(a.o.set3 (.slice M Z aa)).read;refine bodyPost_ret (v:=.agg #[s,(t:Int),(G,tk.length,I),(M,Z,aa)]) (by simp[results,results59,go_sem,au,f1,av,f3]) rfl ?_;exact DK aj.o g.o az D.o ak.o am.o H.o
theorem DL{tj:List dY}(a:jr b V tj x w)(c:zH (x.bind fun _ r=>oZ n t s r)):
 Cy 59 #[(b,0),(t:Int),s] w (qp b V tj w (x.bind fun _ r=>oZ n t s r) (XL w.heap.size)):=by
 cases h41:zU [41] (x.bind fun _ r=>zQ [40] r)with
 |true=>
   obtain⟨r,e,d⟩:=fH h41;exact Z2 a e d c
 |false=>exact Z3 a h41 c
theorem KH(w:C3):Cy 57 #[.string ⟨#[]⟩] w (Cw (-1:Int) w):=by
 go_enter func57,ntmps57;go_wp2
 go_loop [3,4,5] (fun n i _=>i=.int .i64 0/\n=.int .i64 0) (fun _ i _=>0)
 case atStart=>exact⟨rfl,rfl⟩
 case round=>
  obtain⟨rfl,rfl⟩:=hrel;go_wp2;go_ret;exact⟨rfl,rfl⟩
theorem VJ{tj:List dY}(d:jr b V tj (.ok () r) w)(k:Int)(i:f7 r≠k):
 Cy 55 #[(b,0),(k:Int)] w fun e w'=>e=.returned (.string ⟨#[]⟩)/\jP b V tj w (.bad r) w':=by
 have a:zc b V tj r false false w:=d;clear d;have f:=fun o=>z2 a o
 have v:=a.lt;have f1:=a.1.frozen 1;have s:=a.1.frozen 2;have j:=C0 (jr b V tj (.ok () r) w) a;obtain⟨g,c,p,t,q,rfl,rfl,m,_,_,c0,c1,c2,c3,_,_,_⟩:=a.tok;have u:(p:Int)<tj.length:=O
 have x:0<w.heap.size:=O
 have l:=U f;have n:(t.kind != k)=true:=by simpa[f7]using i
 clear a m f i;go_enter func55,ntmps55;go_wp2_with (go_at_call 53;(with_reducible refine(qL j.o false rfl).mono ?_);rintro e _ ⟨rfl,rfl⟩)
 go_region_held3 (fun w'=>w'.cell? (b,0)=some (.slice (some ⟨g,0,none⟩) tj.length c)/\w'.cell? (b,1)=some (.int .i64 p)/\w'.cell? (g,p*3)=some (.int .i64 t.kind)/\w'.cell? (g,p*3+1)=some (.string ⟨t.text.toArray⟩)/\w'.cell? (g,p*3+2)=some (.int .i64 (t.line:Int))/\0<w'.heap.size)
  (first|go_keep|(go_split_ands;refine⟨?_,?_,?_,?_,?_,?_⟩ <;> assumption))
  (fail)
 go_wp2_with fail;go_ret;exact⟨rfl,l.o _⟩
abbrev eM:Obj:=.cells #[(),()] 27
abbrev uZ(W:C3)(g:Nat)(c0 c1:C4):C3:=(W.setCell (g,0) c0).setCell (g,1) c1
theorem BO{a b:C4}{fr:Nat×Nat}(c:W.heap[g]?=some (.cells #[a,b] T fr))(c0 c1:C4):(uZ W g c0 c1).heap[g]?=some (.cells #[c0,c1] T fr):=D0 (D0 c c0) c1
theorem zK.nest2(a:g<L)(c0 c1:C4):zK L w (uZ w g c0 c1):=(zK.set a 0 c0).trans (zK.set a 1 c1)
theorem xp(h:W.heap[g]?=some (.cells #[c0,c1] T (0,0))):(W.cell? (g,0)=some c0/\W.cell? (g,1)=some c1)/\∀o,W.frozen? ⟨g,o,none⟩=false:=by
 refine⟨⟨(Ds h 0).trans rfl,(Ds h 1).trans rfl⟩,fun o=>?_⟩;simp[World.frozen?,h]
def BP(L:Nat)(w:C3)(a:Pr)(v:C4):Prop:=∃b c,v=.agg #[b,c]/\eZ w.heap.size (eE (i3 L) w) b a.wa/\e0 w.heap.size (eE (i3 L) w) c a.funcs
def eP(b:Nat)(V:C4)(tj:List dY)(w:C3)(x:PR Unit)(W:C3)(c0 c1:C4):Prop:=
 jP b V tj w x W/\W.heap[w.heap.size]?=some eM/\W.heap[w.heap.size+1]?=some (.cells #[c0,c1] 27 (0,0))/\i2 b V tj w/\b<w.heap.size
section
variable {b:Nat}{V:C4}{tj:List dY} {w W W':C3}{x y:PR Unit}{c0 c1:C4}
theorem eP.start(a:jr b V tj x w):eP b V tj w x ((w.alloc eM).alloc eM) (.slice none 0 0) (.slice none 0 0):=by
 have c:Cx w ((w.alloc eM).alloc eM):=(Zb.alloc Zr _).alloc Ut _;refine⟨⟨a.below c,dX.wb c a.lt⟩,qI (Dq w eM) _,?_,a.tok,a.lt⟩;have:=Dq (w.alloc eM) eM;rw[zA]at this;exact this
theorem eP.did(h:eP b V tj w x W c0 c1):jP b V tj w x W:=h.1
theorem eP.st(h:eP b V tj w x W c0 c1):jr b V tj x W:=h.1.1
theorem eP.lt(h:eP b V tj w x W c0 c1):b<w.heap.size:=h.2.2.2.2
theorem eP.size(h:eP b V tj w x W c0 c1):w.heap.size+1<W.heap.size:=(Array.getElem?_eq_some_iff.1 h.2.2.1).1
theorem eP.step(h:eP b V tj w x W c0 c1)(g:jP b V tj W y W'):eP b V tj w y W' c0 c1:=
 ⟨h.1.after g,jM g.off (by have:=h.size;omega) Vi h.2.1,jM g.off h.size Vi h.2.2.1,h.2.2.2⟩
theorem eP.alloc(h:eP b V tj w x W c0 c1)(o:Obj):eP b V tj w x (W.alloc o) c0 c1:=⟨h.1.alloc o,qI h.2.1 o,qI h.2.2.1 o,h.2.2.2⟩
theorem eP.own(h:eP b V tj w x W c0 c1):(W.cell? (w.heap.size,0)=some (.slice none 0 0)/\W.cell? (w.heap.size,1)=some (.slice none 0 0))/\∀o,W.frozen? ⟨w.heap.size,o,none⟩=false:=xp h.2.1
theorem eP.f(h:eP b V tj w x W c0 c1):(W.cell? (w.heap.size+1,0)=some c0/\W.cell? (w.heap.size+1,1)=some c1)/\∀o,W.frozen? ⟨w.heap.size+1,o,none⟩=false:=xp h.2.2.1
theorem eP.set(h:eP b V tj w x W c0 c1)(i:Nat)(u:C4):jP b V tj w x (W.setCell (w.heap.size+1,i) u)/\(W.setCell (w.heap.size+1,i) u).heap[w.heap.size]?=some eM:=
 ⟨h.1.set h.2.2.2.1 O Vi i u,(Dx W _ u _ Hq).trans h.2.1⟩
theorem eP.wg(h:eP b V tj w x W c0 c1)(u:C4):eP b V tj w x (W.setCell (w.heap.size+1,0) u) u c1:=⟨(h.set 0 u).1,(h.set 0 u).2,D0 h.2.2.1 u,h.2.2.2⟩
theorem eP.wv(h:eP b V tj w x W c0 c1)(u:C4):eP b V tj w x (W.setCell (w.heap.size+1,1) u) c0 u:=⟨(h.set 1 u).1,(h.set 1 u).2,D0 h.2.2.1 u,h.2.2.2⟩
theorem eP.fin(c:eP b V tj w y W c0 c1){X:PR Pr}(e:X.un=y)(d:je X fun a=>BP w.heap.size (_root_.Go.Proofs.YthcmenajdcbnnaaGreatDoor.uZ W w.heap.size c0 c1) a (.agg #[c0,c1])):
 qp b V tj w X (BP w.heap.size) (.returned (.agg #[c0,c1])) (_root_.Go.Proofs.YthcmenajdcbnnaaGreatDoor.uZ W w.heap.size c0 c1):=
 ⟨_,rfl,e▸(c.1.set c.2.2.2.1 Zr Gh 0 c0).set c.2.2.2.1 Zr Gh 1 c1,d⟩
theorem eP.read(h:eP b V tj w x W c0 c1):((W.setCell (w.heap.size,0) c0).setCell (w.heap.size,1) c1).cell? (w.heap.size,0)=some c0/\((W.setCell (w.heap.size,0) c0).setCell (w.heap.size,1) c1).cell? (w.heap.size,1)=some c1:=(xp (BO h.2.1 c0 c1)).1
end
theorem zb1{α β:Type}{x:PR α}{b:α}(c:je x fun a=>a=b)(F:α->List dY->PR β):x.bind F=x.un.bind fun _ r=>F b r:=by
 cases x with
 |ok a r=>
   obtain rfl:a=b:=c;rfl
 |_=>rfl
def pgK(q:Nat)(p:Pr)(a:Pa)(r:List dY):PR Pr:=
 if a.type=1/\p.funcs=[]/\zt [91] r=true then(pY a.name r.tail).bind fun x r=>i1 q ⟨p.wa++[x],p.funcs⟩ r
 else(oZ q a.type a.name r).bind fun f r=>i1 q ⟨p.wa,p.funcs++[f]⟩ r
theorem Z4(h:f7 r≠3):i1 (q+1) p r=(jR r).bind fun a r=>pgK q p a r:=by
 rw[i1,Dl h];unfold jR;simp only[zY];rfl
theorem Z5(h:f7 r=3):i1 (q+1) p r=.ok p r:=by rw[i1,Dm h]
theorem P4{e t:TypeId}{k l:Nat}{b:C4}{p q:List C4}(f:w.ownsRow B e n v k p)(g:w.ownsRow B t m b l q)(o:e≠t):∀j,v.ownBlock=some j->b.ownBlock≠some j:=by
 intro j a;rcases f.2 with⟨rfl,_⟩|⟨d,_,c,rfl,_,i,_⟩
 .cases a
 .injection a with a
  subst a;exact nH g (show Is w d e c from i) (fun e=>o e.symm)
structure eY (b:Nat) (V:C4) (all:List dY) (w:C3) (y:PR Unit) (W:C3) (va vf:C4) (ars:List Ar) (fs:List DU):Prop where
 cur:eP b V all w y W va vf
 arr:eC kA (w.heap.size+2) W va ars
 fnc:eC kF (w.heap.size+2) W vf fs
 nil:fs=[]->vf=.slice none 0 0
section
variable {b:Nat}{V:C4}{tj:List dY} {w W W':C3}{x y:PR Unit}{va vf:C4}{ars:List Ar}{fs:List DU}
theorem eY.step(h:eY b V tj w x W va vf ars fs)(g:jP b V tj W y W'):eY b V tj w y W' va vf ars fs:=
 ⟨h.cur.step g,h.arr.keep (zK.did g (by have:=h.cur.lt;omega)),h.fnc.keep (zK.did g (by have:=h.cur.lt;omega)),h.nil⟩
theorem eY.drewN(h:eY b V tj w x W va vf ars fs)(n:Nat):eY b V tj w x (W.drewN n) va vf ars fs:=h.step ⟨h.cur.st.drewN n,(dX.refl b _ W).drewN n⟩
theorem eY.drew(h:eY b V tj w x W va vf ars fs):eY b V tj w x W.drew va vf ars fs:=h.step ⟨h.cur.st.below Zb.drew,dX.wb Zb.drew h.cur.st.lt⟩
theorem eY.array{d:C3}{g:C4}{a:Ar}(i:eY b V tj w y W va vf ars [])(l:(W.alloc (.cells #[a.name,(a.size:Int)] 80)).grownBy d va.ownBlock)(u:kn (W.alloc (.cells #[a.name,(a.size:Int)] 80)) va g)
 (s:d.ownsRow (w.heap.size+2) 80 2 g (ars.length+1) (ars.flatMap kA.cs++[.string a.name,.int .i64 a.size])):eP b V tj w y d va vf/\eY b V tj w y (d.setCell (w.heap.size+1,0) g) g vf (ars++[a]) []:=by
 have c:=i.cur;have f:Cx W (W.alloc (.cells #[a.name,(a.size:Int)] 80)):=Zb.alloc Zr _;have q:eC kA (w.heap.size+2) d g (ars++[a]):=i.arr.app (L:=W.heap.size) trivial Gd (fun k r=>(i.arr.own k r).1) f l u s;have t:∀j,va.ownBlock=some j->w.heap.size+2<=j:=fun j m=>(i.arr.own j m).2
 have n:∀j,j<W.heap.size->j<w.heap.size+2->d.heap[j]?=W.heap[j]?:=fun j m _=>(l.block j (D6 m f.size) (fun e=>by have:=t j e.symm;omega)).trans (f.block j m)
 have v:=c.size;have x:=c.lt;have p:dX b w.heap.size w d:=c.did.off.trans (dX.mk' (l.os.trans f.os) (l.tape.trans f.tape) (l.output.trans f.output) (Dr f.size l.size) c.st.lt fun j m _=>n j (by have:=c.did.off.size;omega) O);have o:eP b V tj w y d va vf:=⟨⟨c.st.move c.2.2.2.1 p (n b c.st.lt O),p⟩,(n _ O O).trans c.2.1,(n _ v O).trans c.2.2.1,c.2.2.2⟩
 refine⟨o,o.wg g,q.keep (zK.set O 0 g),?_,i.nil⟩;rw[i.nil rfl];exact eC.nil _ _ _
theorem eY.func{d:C3}{l:C4}{s:C2}{t:Int}{g i:C4}(m:eY b V tj w y W va vf ars fs)(o:(W.alloc (.cells #[s,(t:Int),g,i] 93)).grownBy d vf.ownBlock)(M:kn (W.alloc (.cells #[s,(t:Int),g,i] 93)) vf l)
 (I:d.ownsRow (w.heap.size+2) 93 4 l (fs.length+1) (fs.flatMap kF.cs++[.string s,.int .i64 t,g,i])) {L:Nat} (E:w.heap.size+2<=L) (F:∀k,vf.ownBlock=some k->k<L):
 eP b V tj w y d va vf/\∀f,XL L W f (.agg #[s,(t:Int),g,i])->∃q:DU,q.f=f/\eY b V tj w y (d.setCell (w.heap.size+1,1) l) va l ars (fs++[q]):=by
 have a:=m.cur;have n:Cx W (W.alloc (.cells #[s,(t:Int),g,i] 93)):=Zb.alloc Zr _;have J:∀j,vf.ownBlock=some j->w.heap.size+2<=j:=fun j c=>(m.fnc.own j c).2
 have v:∀j,j<W.heap.size->vf.ownBlock≠some j->d.heap[j]?=W.heap[j]?:=fun j c x=>(o.block j (D6 c n.size) (fun e=>x e.symm)).trans (n.block j c)
 have r:∀j,j<W.heap.size->j<w.heap.size+2->d.heap[j]?=W.heap[j]?:=fun j c x=>v j c (fun e=>by have:=J j e;omega)
 have N:=a.size;have P:=a.lt;have z:dX b w.heap.size w d:=a.did.off.trans (dX.mk' (o.os.trans n.os) (o.tape.trans n.tape) (o.output.trans n.output) (Dr n.size o.size) a.st.lt fun j c _=>r j Hz O);have u:eP b V tj w y d va vf:=⟨⟨a.st.move a.2.2.2.1 z (r b a.st.lt O),z⟩,(r _ O O).trans a.2.1,(r _ N O).trans a.2.2.1,a.2.2.2⟩
 refine⟨u,fun f H=>?_⟩;obtain⟨u2,u3,A,B,C⟩:=H;simp only[Value.agg.injEq,Array.mk.injEq,Y7,Value.int.injEq,Value.string.injEq,true_and,and_true]at A;obtain⟨rfl,rfl,rfl,rfl⟩:=A;have G:eC kF (w.heap.size+2) d l (fs++[⟨f,g,i⟩]):=m.fnc.app (K:=kF) (L:=L) (p:=(⟨f,g,i⟩:DU)) (show e5 W.heap.size (eE (i3 L) W) g f.params/\eN W.heap.size (eE (i3 L) W) i f.body from⟨B,C⟩) E F n o M I
 have D:eC kA (w.heap.size+2) d va ars:=by
  refine⟨zZ m.arr.1 fun j c=>v j (m.arr.own j c).1 ?_,fun p _=>trivial⟩;exact P4 m.arr.1 m.fnc.1 Up j c
 exact⟨⟨f,g,i⟩,rfl,u.wv l,D.keep (zK.set O 1 l),G.keep (zK.set O 1 l),fun e=>absurd e Ur⟩
end
theorem RF.imp(c:∀g o d,dZ B w g o d->dZ B' w' g o d)(a:Ar)(g o:Nat)(b:RF B w a g o):RF B' w' a g o:=⟨c _ _ _ b.1,c _ _ _ b.2⟩
theorem eZ.imp(d:∀g o b,dZ B w g o b->dZ B' w' g o b){l:List Ar}(c:eZ B w v l):eZ B' w' v l:=vR.imp c fun g o=>uI.imp (fun a g o=>RF.imp d a g o) l g o
theorem WY.imp(b:∀g o c,dZ B w g o c->dZ B' w' g o c)(a:Fu)(g o:Nat)(d:WY B w a g o):WY B' w' a g o:=by
 obtain⟨e,f,⟨v,i,j⟩,⟨v',k,l⟩⟩:=d;exact⟨b _ _ _ e,b _ _ _ f,⟨v,b _ _ _ i,j.imp b⟩,⟨v',b _ _ _ k,l.imp b⟩⟩
theorem e0.imp(d:∀g o b,dZ B w g o b->dZ B' w' g o b){l:List Fu}(c:e0 B w v l):e0 B' w' v l:=vR.imp c fun g o=>uI.imp (fun a g o=>WY.imp d a g o) l g o
def HB(b:Nat)(V:C4)(tj:List dY)(w:C3)(T:PR Pr)(n:Nat)(wr:C3):Prop:=
 ∃(m:Nat) (ars:List Ar) (fs:List DU) (y:PR Unit) (va vf:C4),m<=n/\eY b V tj w y wr va vf ars fs/\T=y.bind (fun _ r=>i1 m ⟨ars,fs.map (·.f)⟩ r)/\(qC y=false->ars.length+fs.length<=vB b wr)/\ars.length+fs.length<=2000000
theorem VK{tj:List dY}{va vf:C4}{ars:List Ar}{fs:List DU}{T:PR Pr}(a:eY b V tj w y W va vf ars fs)(_:ars.length+fs.length<=2000000)(j:T=y.bind fun _ r=>.ok ⟨ars,fs.map (·.f)⟩ r):qp b V tj w T (BP w.heap.size) (.returned (.agg #[va,vf])) (uZ W w.heap.size va vf):=by
 subst j;have e:zK (w.heap.size+2) W (uZ W w.heap.size va vf):=zK.nest2 O _ _;have k:=(a.arr.keep e).wa O;have l:=(a.fnc.keep e).funcs O;have i:∀g o d,dZ (uZ W w.heap.size va vf).heap.size (eE (i3 (w.heap.size+2)) (uZ W w.heap.size va vf)) g o d->dZ (uZ W w.heap.size va vf).heap.size (eE (i3 w.heap.size) (uZ W w.heap.size va vf)) g o d:=(zK.refl (w.heap.size+2) _).cells O;have c:BP w.heap.size (uZ W w.heap.size va vf) ⟨ars,fs.map (·.f)⟩ (.agg #[va,vf]):=⟨va,vf,rfl,eZ.imp i k,e0.imp i l⟩
 refine a.cur.fin ?_ ?_
 .rw[jo]
  cases y<;>rfl
 .cases y with
  |ok d r=>exact c
  |bad r=>exact⟨_,c⟩
  |deep r=>exact⟨_,c⟩
  |o=>trivial
theorem t6{α:Type}{Y:PR α}{P:α->Prop}(b:je Y P)(d:zH Y):∃a,P a/\∀{β:Type}(F:α->List dY->PR β),Y.bind F=Y.un.bind fun _ r=>F a r:=by
 cases Y with
 |ok a r=>exact⟨a,b,fun F=>rfl⟩
 |bad r=>obtain⟨a,c⟩:=b;exact⟨a,c,fun F=>rfl⟩
 |deep r=>obtain⟨a,c⟩:=b;exact⟨a,c,fun F=>rfl⟩
 |o=>exact absurd d id
theorem zb2{a:Pa}{z:PR Unit}(b:¬(a.type=1/\p.funcs=[]/\zU [91] z=true)):(z.bind fun _ r=>pgK q p a r)=(z.bind fun _ r=>oZ q a.type a.name r).bind fun f r=>i1 q ⟨p.wa,p.funcs++[f]⟩ r:=by
 cases z with
 |ok _ r=>
   show pgK q p a r=(oZ q a.type a.name r).bind _;unfold pgK;exact congrArg id (Dl b)
 |_=>rfl
theorem Z6{a:Pa}(b:a.type=1)(c:p.funcs=[])(d:zt [91] r=true):pgK q p a r=(pY a.name r.tail).bind fun x r=>i1 q ⟨p.wa++[x],p.funcs⟩ r:=by
 unfold pgK;rw[Dm ⟨b,c,d⟩]
theorem Z7{α:Type}{tj:List dY}{X:PR α}(hF:zm 1 r X)(d:jr b V tj X.un W)(_:r.length<=tj.length)(_:0<r.length):
 2*(tj.length-vB b W)+uX b W<2*r.length+1/\(qC X.un=false->tj.length-r.length+1<=vB b W):=by
 cases X with
 |ok a c=>
   have e:zc b V tj c false false W:=d;have g:=jY e;have i:=(show zI 1 r c from hF).2.2;have j:=FN b W;exact⟨O,fun _=>O⟩
 |bad c=>
   have e:zc b V tj c true false W:=d;exact Qn
 |deep c=>
   have e:zc b V tj c false true W:=d;exact Qn
 |o=>exact absurd d id
theorem t7{α:Type}{tj:List dY}{va vf:C4}{ars:List Ar}{fs:List DU}{T:PR Pr}{X:PR α}(i:q<=n)(hF:zm 1 r X)(a:eY b V tj w X.un W va vf ars fs)(e:T=X.un.bind fun _ r=>i1 q ⟨ars,fs.map (·.f)⟩ r)
 (j:r.length<=tj.length) (k:0<r.length) (_:ars.length+fs.length<=tj.length-r.length+1) (_:tj.length<=1000000):HB b V tj w T n W/\2*(tj.length-vB b W)+uX b W<2*r.length+1:=by
 obtain⟨c,d⟩:=Z7 hF a.cur.st j k;exact⟨⟨q,ars,fs,_,va,vf,i,a,e,fun g=>by have:=d g;omega,O⟩,c⟩
theorem HC{a:Pa}{b:List dY}(f:(jR r).un=.ok () b)(d:je (jR r) fun p=>p=a)(g:qB r):jR r=.ok a b/\zI 1 r b:=by
 obtain⟨e,c⟩:=zc2 f;have hF:=yw g;rw[c]at d hF;obtain rfl:e=a:=d;exact⟨c,hF⟩
theorem DM{α:Type}{k:Nat}{l:List dY}{x:PR α}(h:zm k l x):zm k l x.un:=by
 cases x with
 |ok a r=>exact h
 |bad r=>exact h
 |deep r=>exact h
 |o=>trivial
theorem P5(s:C2)(a:Int)(w:C3)(d:s.size<=281474976710656)(c:xQ s.data.toList=true)(b:a=(kI 0 s.data.toList:Nat)):
 Cy 57 #[s] w (Cw (a:Int) w):=by
 subst b;exact sL s w d c
theorem m5{tj:List dY}(af:jr b V tj x w)(bm:zH (x.bind fun _ r=>i1 n ⟨[],[]⟩ r)):
 Cy 27 #[(b,0)] w (qp b V tj w (x.bind fun _ r=>i1 n ⟨[],[]⟩ r) (BP w.heap.size)):=by
 obtain⟨T,ab⟩:=Cz ((x.bind fun _ r=>i1 n ⟨[],[]⟩ r));rw[ab]at bm ⊢;have bA:=U bm;have bY:=U ab.symm;have d:=C0 (eY b V tj w x ((w.alloc eM).alloc eM) (.slice none 0 0) (.slice none 0 0) [] []) ⟨eP.start af,eC.nil _ _ _,eC.nil _ _ _,fun _=>rfl⟩;have cc:=af.lt;clear af bm ab;go_enter func27,ntmps27;go_wp2
 go_loopw [4] (fun _ wr=>HB b V tj w T n wr) (fun _ wr=>2*(tj.length-vB b wr)+uX b wr)
 case atStart=>exact⟨n,[],[],x,_,_,Dy _,d.o,bY.o,fun _=>Dw _,Ur⟩
 case round=>
  obtain⟨bT,bI,bQ,bR,bS⟩:=info_parts LL;have aj:=U (Do bI (Do bQ (Do bR bS)));obtain⟨br,bJ,bN,bO,bP⟩:=info_parts LM;have M:=U (Do bJ (Do bN (Do bO bP)));clear bI bQ bR bS bJ bN bO bP;obtain⟨m,ars,fs,y,va,vf,_,ah,ab,a3,a2⟩:=hrel;replace d:=U ah;cases ho:qC y with
  |true=>
    have bf:=C0 (T=y.bind fun _ r=>.ok ⟨ars,fs.map (·.f)⟩ r) (ab.trans (iK ho _ _));have bW:=U ho;obtain⟨_,_,dp,bL,_,_⟩:=ah.cur.st.box;obtain⟨g,c,k,t,q,rfl,rfl,ad,b1,b3,aW,aX,aY,aZ,a9,ba,bb⟩:=bL.tok;have b2:(k:Int)<tj.length:=O
    clear ad bL ho ab a3 ah;go_wp2
    go_quiet ((go_at_call 53;exact Calls.quiet_of_same (qL (d.o.drewN _).cur.st true bW.o)))
    exact Ql
  |false=>
    obtain⟨r,rfl⟩:∃r,y=.ok () r:=by
     cases y with
     |ok _ r=>exact⟨r,rfl⟩
     |bad r=>cases ho
     |deep r=>cases ho
     |o=>exact absurd ah.cur.st id
    obtain⟨a4,aS,aO,bk,aT⟩:=yU ah.cur.did;have ak:=a3 rfl;rw[a4]at ak;have bl:=FM (show zc b V tj r false false wr from ah.cur.st)
    obtain⟨q,rfl⟩:∃q,m=q+1:=by
     cases m with
     |zero=>have E:=bA.o;rw[ab]at E;exact absurd (show zH (i1 0 ⟨ars,fs.map (·.f)⟩ r)from E) (by rw[i1];exact id)
     |succ q=>exact⟨q,rfl⟩
    have a1:T=i1 (q+1) ⟨ars,fs.map (·.f)⟩ r:=ab;obtain⟨g,c,k,t,_,rfl,bp,ad,b1,b3,aW,aX,aY,aZ,a9,ba,bb⟩:=(show zc b V tj r false false wr from ah.cur.st).tok;have b2:(k:Int)<tj.length:=O
    have a5:f7 r=t.kind:=by rw[bp];rfl
    cases hk3:decide (t.kind=3)with
    |true=>
      have aL:t.kind=3:=of_decide_eq_true hk3;have b0:(t.kind != 3)=false:=by simpa using hk3
      have bf:=C0 (T=(PR.ok () r).bind fun _ r=>.ok ⟨ars,fs.map (·.f)⟩ r) (a1.trans (Z5 (a5.trans aL)));clear ad ho ab a1 a3 ah hk3 aL bl a4 a5 bp bk;go_wp2
      go_quiet ((go_at_call 53;exact Calls.quiet_of_same (qL (d.o.drewN _).cur.st false rfl)))
      exact Ql
    |false=>
      have aL:¬t.kind=3:=of_decide_eq_false hk3;have b0:(t.kind != 3)=true:=by simpa using hk3
      have aV:=U (a1.trans (Z4 (a5▸aL)));have aU:=U bk;have aC:=U a4;have aG:=U bl;clear ad ho ab a1 a3 ah hk3 aL bl a4 a5 bp bk;go_wp2
      go_quiet ((go_at_call 53;exact Calls.quiet_of_same (qL (d.o.drewN _).cur.st false rfl)))
      replace d:=U (d.o.drewN nq);clear aW aX aY aZ a9 ba bb
      go_wp2_with (first
       | (go_at_call 54;(with_reducible refine(ur d.o.cur.st).mono ?_);rintro e ca ⟨_,rfl,i,C⟩
          obtain⟨az,rfl,bH⟩:=KF (r:=r) C;have bv:=U bH;replace d:=C0 (eY b _ tj w (i0 r).un ca _ _ _ _) (d.o.step i)
          clear i C bH))
      go_at_call 55
      (with_reducible refine(yr d.o.cur.st 1 Up).mono ?_)
      rintro e aA ⟨K,rfl,i,C⟩;have bu:=U (lL bv.o C);replace d:=C0 (eY b _ tj w (jR r).un aA _ _ _ _) ((oQ r).symm▸d.o.step i);replace aV:=U (aV.o.trans (zb1 bu.o _));clear i C bv;have cd:=d.o.cur.st.lt;dsimp only;by_cases aq:az=1/\fs=[]/\zU [91] (jR r).un=true
      .obtain⟨rfl,rfl,bG⟩:=aq
       obtain⟨ay,a8,a6⟩:=fH bG;obtain⟨b4,bh⟩:=HC a8 bu.o aU.o;have bq:vf=.slice none 0 0:=d.o.nil rfl;subst bq
       have bi:T=(pY K ay.tail).bind fun x r=>i1 q ⟨ars++[x],[]⟩ r:=by
        rw[aV.o,a8];exact Z6 rfl rfl a6
       rw[a8]at d;have a0:zI 1 r ay.tail:=(bh.trans (zI.sign bh.2.1 a6)).mono O;obtain⟨j,bo⟩:∃j,j=ay.tail:=⟨_,rfl⟩
       rw[<-bo]at bi a0;have be:=U bo;have bx:=U a0;have aK:=C0 (zU (⟨#[91]⟩:C2).data.toList (PR.ok () ay)=true) a6;have bz:=U bi;have bt:=U a0.2.1;obtain⟨⟨av,aw⟩,ax⟩:=d.o.cur.f;clear a8 b4 bh bi bo a0 a6 bG;by_cases an:f7 j=0
       .obtain⟨ap,a7⟩:∃ap:C2,ap=⟨(pT j).toArray⟩:=⟨_,rfl⟩
        have bX:=U a7;have aH:=U an
        have bw:=U (show ap.size<=281474976710656/\xQ ap.data.toList=true by
         rw[a7];have b5:zc b _ tj ay false false aA:=d.o.cur.st;have bM:=(zc.next b5 (by rw[(uq (show zt [91] ay=true from aK.o)).1];decide))
         rw[<-be.o]at bM;obtain⟨E,Q,_⟩:=bM.num an
         exact⟨E,Q⟩)
        obtain⟨au,bn⟩:∃au:Int,au=(kI 0 ap.data.toList:Nat):=⟨_,rfl⟩
        have bV:=U bn
        have bg:=U (show T=((((PR.ok () j.tail).bind fun _ r=>zQ [93] r).bind fun _ r=>zQ [59] r)).un.bind fun _ r=>i1 q ⟨ars++[⟨K,au⟩],([]:List DU).map (·.f)⟩ r by
         rw[bz.o,rA,bn,a7];unfold pY qt;rw[Dm an];show((zQ [93] j.tail).bind fun _ r=>(zQ [59] r).bind fun _ r=>PR.ok _ r).bind _=((zQ [93] j.tail).bind fun _ r=>zQ [59] r).bind _;simp only[zY]
         rfl)
        clear a7 an bn
        go_wp2_with (first
        | (go_at_call 56;(with_reducible refine(zx d.o.cur.st _ aK.o).mono ?_);rintro e aB ⟨rfl,i⟩
           replace d:=U (show eY b _ tj w (.ok () j) aB _ _ _ _ by rw[be.o];exact d.o.step i)
           clear i)
        | (go_at_call 55;(with_reducible refine(gS d.o.cur.st 0 Up aH.o ap bX.o).mono ?_);rintro e D ⟨rfl,i⟩
           replace d:=C0 (eY b _ tj w (.ok () j.tail) D _ _ _ _) (d.o.step i)
           clear i)
        |(go_at_call 57;(with_reducible refine(P5 ap _ _ bw.o.1 bw.o.2 bV.o).mono ?_);rintro e D ⟨rfl,rfl⟩)
        | (go_at_call 58;(with_reducible refine(zh d.o.cur.st ⟨#[93]⟩).mono ?_);rintro e ai ⟨rfl,i⟩
           replace d:=C0 (eY b _ tj w ((PR.ok () j.tail).bind fun _ r=>zQ [93] r) ai _ _ _ _) (d.o.step i)
           clear i)
        | (go_at_call 58;(with_reducible refine(zh d.o.cur.st ⟨#[59]⟩).mono ?_);rintro e w8 ⟨rfl,i⟩
           replace d:=C0 (eY b _ tj w (((PR.ok () j.tail).bind fun _ r=>zQ [93] r).bind fun _ r=>zQ [59] r) w8 _ _ _ _) (d.o.step i);obtain⟨⟨av,aw⟩,ax⟩:=d.o.cur.f;obtain⟨al,am,rfl⟩:=d.o.arr.form;have s:=U (d.o.arr.pre [.string K,.int .i64 (au)] (by have:=d.o.cur.size;omega))
           clear i)
        | (at_builtin;refine zy rfl (.tmp 48) (.tmp 52) _ rfl (w.heap.size+2) 80 bT _ 2 24 underlying24 aj.o.1 aj.o.2.1 aj.o.2.2.1 aj.o.2.2.2 rfl O (.slice al ars.length am) ars.length _ rfl Va ⟨w8.heap.size,0,none⟩ 1 1 [.string K,.int .i64 (au)] rfl rfl Xx Uw Uv O Xy O ?_
           intro bc w9 B I J;obtain⟨F,G,rfl⟩:=zb B;have A:=U (d.o.array (a:=⟨K,au⟩) I J B);have bZ:=A.o.1.f.2;have b6:=A.o.1.f.1.1
           clear B I J))
        have H:=U (t7 (q:=q) (n:=n) (X:=((PR.ok () j.tail).bind fun _ r=>zQ [93] r).bind fun _ r=>zQ [59] r) O (zm.from bx.o (zm.from (n:=0) (zI.tail bt.o (by rw[aH.o];decide)) ((zN (bt.o.tail (by rw[aH.o];decide)) _).bind (m:=0) (n:=0) (fun _ r _ ao=>(zN ao _).mono O) O) O) O) (rA (((PR.ok () j.tail).bind fun _ r=>zQ [93] r).bind fun _ r=>zQ [59] r)▸A.o.2) bg.o aS aT Vy aO);go_roundw
        case rel=>exact H.o.1
        case measure=>
         exact Qm
       .have aH:=U an
        have bg:=U (show T=((((PR.bad j:PR Unit).bind fun _ r=>zQ [93] r).bind fun _ r=>zQ [59] r)).un.bind fun _ r=>i1 q ⟨ars++[⟨K,-1⟩],([]:List DU).map (·.f)⟩ r by
         rw[bz.o];unfold pY qt;rw[Dl an]
         rfl)
        clear an
        go_wp2_with (first
        | (go_at_call 56;(with_reducible refine(zx d.o.cur.st _ aK.o).mono ?_);rintro e aB ⟨rfl,i⟩
           replace d:=U (show eY b _ tj w (.ok () j) aB _ _ _ _ by rw[be.o];exact d.o.step i)
           clear i)
        | (go_at_call 55;(with_reducible refine(VJ d.o.cur.st 0 aH.o).mono ?_);rintro e D ⟨rfl,i⟩
           replace d:=C0 (eY b _ tj w (.bad j) D _ _ _ _) (d.o.step i)
           clear i)
        |(go_at_call 57;(with_reducible refine(KH _).mono ?_);rintro e D ⟨rfl,rfl⟩)
        | (go_at_call 58;(with_reducible refine(zh d.o.cur.st ⟨#[93]⟩).mono ?_);rintro e ai ⟨rfl,i⟩
           replace d:=C0 (eY b _ tj w ((PR.bad j:PR Unit).bind fun _ r=>zQ [93] r) ai _ _ _ _) (d.o.step i)
           clear i)
        | (go_at_call 58;(with_reducible refine(zh d.o.cur.st ⟨#[59]⟩).mono ?_);rintro e w8 ⟨rfl,i⟩
           replace d:=C0 (eY b _ tj w (((PR.bad j:PR Unit).bind fun _ r=>zQ [93] r).bind fun _ r=>zQ [59] r) w8 _ _ _ _) (d.o.step i);obtain⟨⟨av,aw⟩,ax⟩:=d.o.cur.f;obtain⟨al,am,rfl⟩:=d.o.arr.form;have s:=U (d.o.arr.pre [.string K,.int .i64 (-1)] (by have:=d.o.cur.size;omega))
           clear i)
        | (at_builtin;refine zy rfl (.tmp 48) (.tmp 52) _ rfl (w.heap.size+2) 80 bT _ 2 24 underlying24 aj.o.1 aj.o.2.1 aj.o.2.2.1 aj.o.2.2.2 rfl O (.slice al ars.length am) ars.length _ rfl Va ⟨w8.heap.size,0,none⟩ 1 1 [.string K,.int .i64 (-1)] rfl rfl Xx Uw Uv O Xy O ?_
           intro bc w9 B I J;obtain⟨F,G,rfl⟩:=zb B;have A:=U (d.o.array (a:=⟨K,-1⟩) I J B);have bZ:=A.o.1.f.2;have b6:=A.o.1.f.1.1
           clear B I J))
        have H:=U (t7 (q:=q) (n:=n) (X:=((PR.bad j:PR Unit).bind fun _ r=>zQ [93] r).bind fun _ r=>zQ [59] r) O (show zI 0 r j from bx.o.mono O) (rA (((PR.bad j:PR Unit).bind fun _ r=>zQ [93] r).bind fun _ r=>zQ [59] r)▸A.o.2) bg.o aS aT Vy aO);go_roundw
        case rel=>exact H.o.1
        case measure=>
         exact Qm
      .have bj:=aV.o.trans (zb2 (q:=q) (p:=⟨ars,fs.map (·.f)⟩) (a:=⟨K,az⟩) (z:=(jR r).un) (fun af=>aq ⟨af.1,by simpa using af.2.1,af.2.2⟩))
       have aJ:=U bj;have ae:=U (show zH ((jR r).un.bind fun _ r=>oZ q az K r)by have E:=bA.o;rw[bj]at E;exact qM E);clear bj;obtain⟨⟨av,aw⟩,ax⟩:=d.o.cur.f;by_cases E:az=1
       .subst E
        cases fs with
        |nil=>
          have bq:vf=.slice none 0 0:=d.o.nil rfl;subst bq;obtain⟨fs,ar⟩:∃fs:List DU,fs=[]:=⟨_,rfl⟩
          rw[<-ar]at d aJ ak a2;clear ar
          have aK:=U (show zU (⟨#[91]⟩:C2).data.toList (jR r).un=false by
           cases af:zU [91] (jR r).un with
           |true=>exact absurd ⟨rfl,rfl,af⟩ aq
           |false=>rfl)
          clear aq
          go_wp2_with (first
           | (go_at_call 56;(with_reducible refine(zE d.o.cur.st _ aK.o).mono ?_);rintro e aB ⟨rfl,i⟩
              replace d:=U (d.o.step i);obtain⟨⟨av,aw⟩,ax⟩:=d.o.cur.f
              clear i))
          have aI:=U d.o.fnc.own
          go_region_law (first
           | (refine jF rfl (.tmp 56) (.tmp 61) _ rfl (w.heap.size+2) 93 br _ 4 72 underlying25 M.o.1 M.o.2.1 M.o.2.2.1 M.o.2.2.2 rfl O (.slice none 0 0) fs.length _ rfl Va ⟨D.heap.size,0,none⟩ 1 1 [.string Z,.int .i64 aa,.slice N R W,.slice P S Y] rfl rfl Xx Uw Uv O Xy O ?_
              intro bc ai B I J;obtain⟨bs,bC,rfl⟩:=zb B;have A:=U (l.o.func (L:=aB.heap.size) I J B aF.o fun k ad=>(aI.o k ad).1);have aQ:ai.cell? (w.heap.size+1,1)=some (.slice none 0 0):=A.o.1.f.1.2;have bF:=A.o.1.f.2
              clear B I J)
           | (go_simp;go_at_call 59;(refine(DL d.o.drew.cur.st ae.o).mono ?_);rintro e D ⟨v,rfl,i,C⟩
              obtain⟨Z,aa,N,R,W,P,S,Y,rfl⟩:=oP C ae.o;have aD:=U C;have l:=U (d.o.drew.step i);have aF:=C0 (w.heap.size+2<=aB.heap.size) d.o.cur.size;have aQ:D.cell? (w.heap.size+1,1)=some (.slice none 0 0):=l.o.cur.f.1.2;have bK:(D.alloc (.cells #[Z,(aa:Int),(N,R,W),(P,S,Y)] 93)).cell? (w.heap.size+1,1)=some (.slice none 0 0):=(l.o.cur.alloc _).f.1.2;have bD:=l.o.cur.f.2;have s:=U (l.o.fnc.pre [.string Z,.int .i64 aa,.slice N R W,.slice P S Y] Jt)
              clear i C))
          all_goals
           go_wp2;have aE:=U (t6 aD.o ae.o)
           have H:=U (show HB b _ tj w T n _/\2*(tj.length-vB b _)+uX b _<2*r.length+1 by
            obtain⟨f,aP,hF⟩:=aE.o;obtain⟨bU,aR,aN⟩:=A.o.2 f aP;refine t7 (q:=q) (X:=(jR r).un.bind fun _ r=>oZ q 1 K r) O ?_ aN ?_ aS aT Vy aO
            .exact(DM (yw aU.o)).bind (m:=0) (fun _ r _ ao=>(gR ao).mono O) O
            .rw[aJ.o,hF,Yf,<-aR]
             rfl)
           go_roundw
           case rel=>exact H.o.1
           case measure=>
            exact Qm
        |cons aM ft=>
          obtain⟨fs,ar⟩:∃fs,fs=aM::ft:=⟨_,rfl⟩
          have ce:0<fs.length:=by rw[ar];simp
          rw[<-ar]at d aJ ak a2;have cf:((fs.length:Int) == 0)=false:=by rw[beq_eq_false_iff_ne];omega
          obtain⟨F,G,rfl⟩:=d.o.fnc.form;clear aq ar;go_wp2_with fail;have aI:=U d.o.fnc.own
          go_region_law (first
           | (refine jF rfl (.tmp 56) (.tmp 61) _ rfl (w.heap.size+2) 93 br _ 4 72 underlying25 M.o.1 M.o.2.1 M.o.2.2.1 M.o.2.2.2 rfl O (.slice F fs.length G) fs.length _ rfl Va ⟨D.heap.size,0,none⟩ 1 1 [.string Z,.int .i64 aa,.slice N R W,.slice P S Y] rfl rfl Xx Uw Uv O Xy O ?_
              intro bc ai B I J;obtain⟨bs,bC,rfl⟩:=zb B;have A:=U (l.o.func (L:=aA.heap.size) I J B aF.o fun k ad=>(aI.o k ad).1);have aQ:ai.cell? (w.heap.size+1,1)=some (.slice F fs.length G):=A.o.1.f.1.2;have bF:=A.o.1.f.2
              clear B I J)
           | (go_simp;go_at_call 59;(refine(DL d.o.drew.cur.st ae.o).mono ?_);rintro e D ⟨v,rfl,i,C⟩
              obtain⟨Z,aa,N,R,W,P,S,Y,rfl⟩:=oP C ae.o;have aD:=U C;have l:=U (d.o.drew.step i);have aF:=C0 (w.heap.size+2<=aA.heap.size) d.o.cur.size;have aQ:D.cell? (w.heap.size+1,1)=some (.slice F fs.length G):=l.o.cur.f.1.2;have bK:(D.alloc (.cells #[Z,(aa:Int),(N,R,W),(P,S,Y)] 93)).cell? (w.heap.size+1,1)=some (.slice F fs.length G):=(l.o.cur.alloc _).f.1.2;have bD:=l.o.cur.f.2;have s:=U (l.o.fnc.pre [.string Z,.int .i64 aa,.slice N R W,.slice P S Y] Jt)
              clear i C))
          all_goals
           go_wp2;have aE:=U (t6 aD.o ae.o)
           have H:=U (show HB b _ tj w T n _/\2*(tj.length-vB b _)+uX b _<2*r.length+1 by
            obtain⟨f,aP,hF⟩:=aE.o;obtain⟨bU,aR,aN⟩:=A.o.2 f aP;refine t7 (q:=q) (X:=(jR r).un.bind fun _ r=>oZ q 1 K r) O ?_ aN ?_ aS aT Vy aO
            .exact(DM (yw aU.o)).bind (m:=0) (fun _ r _ ao=>(gR ao).mono O) O
            .rw[aJ.o,hF,Yf,<-aR]
             rfl)
           go_roundw
           case rel=>exact H.o.1
           case measure=>
            exact Qm
       .have cb:(az == 1)=false:=by simpa using E
        obtain⟨F,G,rfl⟩:=d.o.fnc.form;clear aq E;go_wp2_with fail;have aI:=U d.o.fnc.own
        go_region_law (first
         | (refine jF rfl (.tmp 56) (.tmp 61) _ rfl (w.heap.size+2) 93 br _ 4 72 underlying25 M.o.1 M.o.2.1 M.o.2.2.1 M.o.2.2.2 rfl O (.slice F fs.length G) fs.length _ rfl Va ⟨D.heap.size,0,none⟩ 1 1 [.string Z,.int .i64 aa,.slice N R W,.slice P S Y] rfl rfl Xx Uw Uv O Xy O ?_
            intro bc ai B I J;obtain⟨bs,bC,rfl⟩:=zb B;have A:=U (l.o.func (L:=aA.heap.size) I J B aF.o fun k ad=>(aI.o k ad).1);have aQ:ai.cell? (w.heap.size+1,1)=some (.slice F fs.length G):=A.o.1.f.1.2;have bF:=A.o.1.f.2
            clear B I J)
         | (go_simp;go_at_call 59;(refine(DL d.o.drew.cur.st ae.o).mono ?_);rintro e D ⟨v,rfl,i,C⟩
            obtain⟨Z,aa,N,R,W,P,S,Y,rfl⟩:=oP C ae.o;have aD:=U C;have l:=U (d.o.drew.step i);have aF:=C0 (w.heap.size+2<=aA.heap.size) d.o.cur.size;have aQ:D.cell? (w.heap.size+1,1)=some (.slice F fs.length G):=l.o.cur.f.1.2;have bK:(D.alloc (.cells #[Z,(aa:Int),(N,R,W),(P,S,Y)] 93)).cell? (w.heap.size+1,1)=some (.slice F fs.length G):=(l.o.cur.alloc _).f.1.2;have bD:=l.o.cur.f.2;have s:=U (l.o.fnc.pre [.string Z,.int .i64 aa,.slice N R W,.slice P S Y] Jt)
            clear i C))
        all_goals
         go_wp2;have aE:=U (t6 aD.o ae.o)
         have H:=U (show HB b _ tj w T n _/\2*(tj.length-vB b _)+uX b _<2*r.length+1 by
          obtain⟨f,aP,hF⟩:=aE.o;obtain⟨bU,aR,aN⟩:=A.o.2 f aP;refine t7 (q:=q) (X:=(jR r).un.bind fun _ r=>oZ q az K r) O ?_ aN ?_ aS aT Vy aO
          .exact(DM (yw aU.o)).bind (m:=0) (fun _ r _ ao=>(gR ao).mono O) O
          .rw[aJ.o,hF,Yf,<-aR]
           rfl)
         go_roundw
         case rel=>exact H.o.1
         case measure=>
          exact Qm
