import Derived.Test.YthcmenajdcbnnaaGreatDoorAnParEx
set_option linter.unusedSimpArgs false
set_option linter.unusedVariables false
set_option maxRecDepth 100000
namespace Go.Proofs.YthcmenajdcbnnaaGreatDoor
open Go.RowKit Tryz
variable{w:C3}{b n:Nat}{V:C4}{d:Int}{r:List dY}
def jU{α β γ:Type}(A:PR α)(k:List dY->PR β)(F:α->β->γ):PR γ:=A.bind fun a r=>(k r).bind fun b r=>.ok (F a b) r
theorem jm{α β γ:Type}(A:PR α)(k:List dY->PR β)(F:α->β->γ):(jU A k F).un=(A.un.bind fun _ r=>k r).un:=by
 cases A with
 |ok a r=>
   show((k r).bind fun b r=>PR.ok (F a b) r).un=(k r).un;rw[jo];rfl
 |_=>rfl
theorem jH{α β γ:Type}{c:PR α}{k:List dY->PR β}{F:α->β->γ}{P1:α->Prop}{P2:β->Prop}{Q:γ->Prop}(d:je c P1)(j:je (c.un.bind fun _ r=>k r) P2)(n:zH (c.un.bind fun _ r=>k r))(e:∀a b,P1 a->P2 b->Q (F a b)):je (jU c k F) Q:=by
 obtain⟨i,l⟩:=j.some n;cases c with
 |ok a r=>
   have m:je ((k r).bind fun b r=>PR.ok (F a b) r) Q:=je.bind (show je (k r) P2 from j) (fun b r _ g=>e a b d g) fun b g=>⟨_,e a b d g⟩
   exact m
 |bad r=>obtain⟨a,f⟩:=d;exact⟨_,e a i f l⟩
 |deep r=>obtain⟨a,f⟩:=d;exact⟨_,e a i f l⟩
 |o=>trivial
theorem qe{α β γ:Type}{A:PR α}{k:List dY->PR β}{F:α->β->γ}(h:zH (jU A k F)):zH (A.un.bind fun _ r=>k r):=by
 cases A with
 |ok a r=>exact qM (show zH ((k r).bind fun b r=>PR.ok (F a b) r)from h)
 |bad r=>trivial
 |deep r=>trivial
 |o=>exact h
theorem qQ{α β γ:Type}{A:PR α}{k:List dY->PR β}{F:α->β->γ}(h:zH (jU A k F)):zH A:=qM h
theorem kH{α γ:Type}(A:PR α)(t:List UInt8)(F:α->Unit->γ):(jU A (fun r=>zQ t r) F).un=A.un.bind fun _ r=>zQ t r:=by rw[jm,rA]
theorem mI{L:Nat}{x:PR Ex}{v:C4}(d:je x fun a=>zc1 L w a v)(f:zH x):∃b m c,v=.slice b m c:=by
 obtain⟨a,e⟩:=d.some f;obtain⟨b,c,g,_⟩:=jL.form e;exact⟨b,_,c,g⟩
theorem FH{x:PR Int}{v:C4}(b:je x fun a=>X3 w a v)(d:zH x):∃t,v=.int .i64 t:=by
 obtain⟨a,c⟩:=b.some d;exact⟨a,c⟩
theorem mJ{α β:Type}(a:α)(r:List dY)(f:α->List dY->PR β):(PR.ok a r).bind f=f a r:=rfl
theorem uB{x:PR Unit}{s:List UInt8}(_:zH (x.bind fun _ r=>zQ s r)):je (x.bind fun _ r=>zQ s r) fun _=>True:=by
 cases hx:(x.bind fun _ r=>zQ s r)with
 |ok a r=>trivial
 |bad r=>exact⟨(),trivial⟩
 |deep r=>exact⟨(),trivial⟩
 |o=>trivial
def CB(b:Nat)(V:C4)(tj:List dY)(n:Nat)(d:Int):Prop:=∀(w:C3) (x:PR Unit),jr b V tj x w->zH (x.bind fun _ r=>pB n d r)->
 Cy 82 #[(b,0),(d:Int)] w (qp b V tj w (x.bind fun _ r=>pB n d r) (kD w.heap.size))
theorem CB.call{tj:List dY}(a:CB b V tj n d){x:PR Unit}(e:jr b V tj x w)(c:zH (x.bind fun _ r=>pB n d r)):
 Cy 82 #[(b,0),(d:Int)] w (qp b V tj w (x.bind fun _ r=>pB n d r) (kD w.heap.size)):=a w x e c
def xh(b:Nat)(V:C4)(tj:List dY)(w:C3)(x:PR Unit)(W:C3)(c0 c1 c2 c3 c4 c5:C4):Prop:=kB b V tj w x W/\W.heap[w.heap.size+1]?=some (.cells #[c0,c1,c2,c3,c4,c5] 139 (0,0))
section
variable {b:Nat}{V:C4}{tj:List dY} {w W W':C3}{x y:PR Unit}{c0 c1 c2 c3 c4 c5:C4}
theorem xh.start(h:jr b V tj x w):xh b V tj w x ((w.alloc uy).alloc uy) (.int .i64 0) (.int .i64 0) (.string ⟨#[]⟩) (.slice none 0 0) (.slice none 0 0) (.slice none 0 0):=
 ⟨(kB.start h).alloc uy,by have:=Dq (w.alloc uy) uy;rw[zA]at this;exact this⟩
theorem xh.st(h:xh b V tj w x W c0 c1 c2 c3 c4 c5):jr b V tj x W:=h.1.st
theorem xh.size(h:xh b V tj w x W c0 c1 c2 c3 c4 c5):w.heap.size+1<W.heap.size:=(Array.getElem?_eq_some_iff.1 h.2).1
theorem xh.ne(h:xh b V tj w x W c0 c1 c2 c3 c4 c5):w.heap.size+1≠b:=by have:=h.1.lt;omega
theorem xh.step(h:xh b V tj w x W c0 c1 c2 c3 c4 c5)(g:jP b V tj W y W'):xh b V tj w y W' c0 c1 c2 c3 c4 c5:=⟨h.1.step g,jM g.off h.size h.ne h.2⟩
theorem xh.alloc(h:xh b V tj w x W c0 c1 c2 c3 c4 c5)(o:Obj):xh b V tj w x (W.alloc o) c0 c1 c2 c3 c4 c5:=⟨h.1.alloc o,qI h.2 o⟩
theorem xh.own(h:xh b V tj w x W c0 c1 c2 c3 c4 c5):(W.cell? (w.heap.size,0)=some (.int .i64 0)/\W.cell? (w.heap.size,1)=some (.int .i64 0)/\W.cell? (w.heap.size,2)=some (.string ⟨#[]⟩)/\
 W.cell? (w.heap.size,3)=some (.slice none 0 0)/\W.cell? (w.heap.size,4)=some (.slice none 0 0)/\W.cell? (w.heap.size,5)=some (.slice none 0 0))/\∀o,W.frozen? ⟨w.heap.size,o,none⟩=false:=h.1.own
theorem xh.s(h:xh b V tj w x W c0 c1 c2 c3 c4 c5):(W.cell? (w.heap.size+1,0)=some c0/\W.cell? (w.heap.size+1,1)=some c1/\W.cell? (w.heap.size+1,2)=some c2/\W.cell? (w.heap.size+1,3)=some c3/\W.cell? (w.heap.size+1,4)=some c4/\W.cell? (w.heap.size+1,5)=some c5)/\∀o,W.frozen? ⟨w.heap.size+1,o,none⟩=false:=jh h.2
theorem xh.wg(h:xh b V tj w x W c0 c1 c2 c3 c4 c5)(u:C4):xh b V tj w x (W.setCell (w.heap.size+1,0) u) u c1 c2 c3 c4 c5:=⟨h.1.set O 0 u,D0 h.2 u⟩
theorem xh.wv(h:xh b V tj w x W c0 c1 c2 c3 c4 c5)(u:C4):xh b V tj w x (W.setCell (w.heap.size+1,1) u) c0 u c2 c3 c4 c5:=⟨h.1.set O 1 u,D0 h.2 u⟩
theorem xh.ww(h:xh b V tj w x W c0 c1 c2 c3 c4 c5)(u:C4):xh b V tj w x (W.setCell (w.heap.size+1,2) u) c0 c1 u c3 c4 c5:=⟨h.1.set O 2 u,D0 h.2 u⟩
theorem xh.set3(h:xh b V tj w x W c0 c1 c2 c3 c4 c5)(u:C4):xh b V tj w x (W.setCell (w.heap.size+1,3) u) c0 c1 c2 u c4 c5:=⟨h.1.set O 3 u,D0 h.2 u⟩
theorem xh.wy(h:xh b V tj w x W c0 c1 c2 c3 c4 c5)(u:C4):xh b V tj w x (W.setCell (w.heap.size+1,4) u) c0 c1 c2 c3 u c5:=⟨h.1.set O 4 u,D0 h.2 u⟩
theorem xh.set5(h:xh b V tj w x W c0 c1 c2 c3 c4 c5)(u:C4):xh b V tj w x (W.setCell (w.heap.size+1,5) u) c0 c1 c2 c3 c4 u:=⟨h.1.set O 5 u,D0 h.2 u⟩
theorem xh.fin(c:xh b V tj w y W c0 c1 c2 c3 c4 c5){X:PR St}(e:X.un=y)(d:je X fun a=>e6 w.heap.size (f9 W w.heap.size c0 c1 c2 c3 c4 c5) a (.agg #[c0,c1,c2,c3,c4,c5])):
 qp b V tj w X (e6 w.heap.size) (.returned (.agg #[c0,c1,c2,c3,c4,c5])) (f9 W w.heap.size c0 c1 c2 c3 c4 c5):=c.1.fin e d
end
theorem FI{tj:List dY}(j:zc b V tj r false false w)(R:0<=d/\d<=100)(p:zt iZ r=false)(k:zt xW r=false)(m:zt NF r=false)(t:zt vq r=false)(l:zt gP r=true)(q:zH (pS (n+1) d r)):
 Cy 103 #[(b,0),(d:Int)] w (qp b V tj w (pS (n+1) d r) (e6 w.heap.size)):=by
 obtain⟨_,_⟩:=R;have c:=U (xh.start (x:=.ok () r) j);have S:=j.lt;have T:¬100<d:=O
 have F:pS (n+1) d r=jU (PR.ok (St.mk 6 0 bE [] [] []) r.tail) (fun r=>zQ [59] r) fun a _=>a:=by rw[pS,Dl O,Dl (by rw[p,k];decide),Dl (by rw[m];decide),Dl (by rw[t];decide),Dm l];rfl
 rw[F]at q ⊢;have G:=C0 (zU (⟨#[105,110,116]⟩:C2).data.toList (PR.ok () r)=false) p;have H:=C0 (zU (⟨#[98,111,111,108]⟩:C2).data.toList (PR.ok () r)=false) k;have I:=C0 (zU (⟨#[105,102]⟩:C2).data.toList (PR.ok () r)=false) m;have J:=C0 (zU (⟨#[119,104,105,108,101]⟩:C2).data.toList (PR.ok () r)=false) t;have K:=C0 (zU (⟨#[98,114,101,97,107]⟩:C2).data.toList (PR.ok () r)=true) l;have E:=U (qe q);clear j q F p k m t l;go_enter func103,ntmps103
 go_wp2_with (first
  |(go_at_call 81;(with_reducible refine(jl c.o.st _ false G.o).mono ?_);rintro e g ⟨rfl,f⟩;replace c:=U (c.o.step f);clear f)
  |(go_at_call 81;(with_reducible refine(jl c.o.st _ false H.o).mono ?_);rintro e g ⟨rfl,f⟩;replace c:=U (c.o.step f);clear f)
  | (go_at_call 56;(with_reducible refine(zE c.o.st _ I.o).mono ?_);rintro e g ⟨rfl,f⟩
     replace c:=U (c.o.step f);clear f;obtain⟨⟨c0,c1,c2,c3,c4,c5⟩,i⟩:=c.o.own
     obtain⟨⟨u,y,z,A,B,C⟩,D⟩:=c.o.s)
  | (go_at_call 56;(with_reducible refine(zE c.o.st _ J.o).mono ?_);rintro e g ⟨rfl,f⟩
     replace c:=U (c.o.step f);clear f;obtain⟨⟨c0,c1,c2,c3,c4,c5⟩,i⟩:=c.o.own
     obtain⟨⟨u,y,z,A,B,C⟩,D⟩:=c.o.s)
  | (go_at_call 56;(with_reducible refine(zx c.o.st _ K.o).mono ?_);rintro e g ⟨rfl,f⟩
     replace c:=C0 (xh b V tj w (.ok () r.tail) g _ _ _ _ _ _) (c.o.step f);clear f;obtain⟨⟨c0,c1,c2,c3,c4,c5⟩,i⟩:=c.o.own
     obtain⟨⟨u,y,z,A,B,C⟩,D⟩:=c.o.s)
  | (go_at_call 58;(with_reducible refine(zh (c.o.wg (.int .i64 6)).st ⟨#[59]⟩).mono ?_);rintro e w9 ⟨rfl,f⟩
     replace c:=U ((c.o.wg (.int .i64 6)).step f);have W:=c.o.size;clear f;obtain⟨⟨c0,c1,c2,c3,c4,c5⟩,i⟩:=c.o.own
     obtain⟨⟨u,y,z,A,B,C⟩,D⟩:=c.o.s))
 obtain⟨L,f1,M,f3,N,P⟩:=c.o.1.read (.int .i64 6) (.int .i64 0) (.string ⟨#[]⟩) (.slice none 0 0) (.slice none 0 0) (.slice none 0 0);refine bodyPost_ret (v:=.agg #[(6:Int),(0:Int),.string ⟨#[]⟩,(),(),()]) (by simp[results,results103,go_sem,L,f1,M,f3,N,P]) rfl ?_;refine c.o.fin (kH _ _ _) ?_;exact jH (P1:=fun a=>a=St.mk 6 0 bE [] [] []) rfl (uB (x:=.ok () r.tail) E.o) E.o fun a _ Q _=>by subst Q;exact⟨_,_,_,rfl,FE _ _,qw _ _,qw _ _⟩
theorem wV{tj:List dY}(u:zc b V tj r false false w)(T:0<=d/\d<=100)(C:zt iZ r=false)(y:zt xW r=false)(B:zt NF r=false)(E:zt vq r=false)(z:zt gP r=false)(A:zt rW r=true)(D:zH (pS (n+1) d r)):
 Cy 103 #[(b,0),(d:Int)] w (qp b V tj w (pS (n+1) d r) (e6 w.heap.size)):=by
 obtain⟨_,_⟩:=T;have c:=U (xh.start (x:=.ok () r) u);have W:=u.lt;have X:¬100<d:=O
 have G:pS (n+1) d r=jU (PR.ok (St.mk 7 0 bE [] [] []) r.tail) (fun r=>zQ [59] r) fun a _=>a:=by rw[pS,Dl O,Dl (by rw[C,y];decide),Dl (by rw[B];decide),Dl (by rw[E];decide),Dl (by rw[z];decide),Dm A];rfl
 rw[G]at D ⊢;have H:=C0 (zU (⟨#[105,110,116]⟩:C2).data.toList (PR.ok () r)=false) C;have I:=C0 (zU (⟨#[98,111,111,108]⟩:C2).data.toList (PR.ok () r)=false) y;have J:=C0 (zU (⟨#[105,102]⟩:C2).data.toList (PR.ok () r)=false) B;have K:=C0 (zU (⟨#[119,104,105,108,101]⟩:C2).data.toList (PR.ok () r)=false) E;have L:=C0 (zU (⟨#[98,114,101,97,107]⟩:C2).data.toList (PR.ok () r)=false) z;have M:=C0 (zU (⟨#[99,111,110,116,105,110,117,101]⟩:C2).data.toList (PR.ok () r)=true) A;have F:=U (qe D);clear u D G C y B E z A;go_enter func103,ntmps103
 go_wp2_with (first
  |(go_at_call 81;(with_reducible refine(jl c.o.st _ false H.o).mono ?_);rintro e g ⟨rfl,f⟩;replace c:=U (c.o.step f);clear f)
  |(go_at_call 81;(with_reducible refine(jl c.o.st _ false I.o).mono ?_);rintro e g ⟨rfl,f⟩;replace c:=U (c.o.step f);clear f)
  | (go_at_call 56;(with_reducible refine(zE c.o.st _ J.o).mono ?_);rintro e g ⟨rfl,f⟩
     replace c:=U (c.o.step f);clear f;obtain⟨⟨c0,c1,c2,c3,c4,c5⟩,i⟩:=c.o.own
     obtain⟨⟨j,k,l,m,p,q⟩,t⟩:=c.o.s)
  | (go_at_call 56;(with_reducible refine(zE c.o.st _ K.o).mono ?_);rintro e g ⟨rfl,f⟩
     replace c:=U (c.o.step f);clear f;obtain⟨⟨c0,c1,c2,c3,c4,c5⟩,i⟩:=c.o.own
     obtain⟨⟨j,k,l,m,p,q⟩,t⟩:=c.o.s)
  | (go_at_call 56;(with_reducible refine(zE c.o.st _ L.o).mono ?_);rintro e g ⟨rfl,f⟩
     replace c:=U (c.o.step f);clear f;obtain⟨⟨c0,c1,c2,c3,c4,c5⟩,i⟩:=c.o.own
     obtain⟨⟨j,k,l,m,p,q⟩,t⟩:=c.o.s)
  | (go_at_call 56;(with_reducible refine(zx c.o.st _ M.o).mono ?_);rintro e g ⟨rfl,f⟩
     replace c:=C0 (xh b V tj w (.ok () r.tail) g _ _ _ _ _ _) (c.o.step f);clear f;obtain⟨⟨c0,c1,c2,c3,c4,c5⟩,i⟩:=c.o.own
     obtain⟨⟨j,k,l,m,p,q⟩,t⟩:=c.o.s)
  | (go_at_call 58;(with_reducible refine(zh (c.o.wg (.int .i64 7)).st ⟨#[59]⟩).mono ?_);rintro e w9 ⟨rfl,f⟩
     replace c:=U ((c.o.wg (.int .i64 7)).step f);have Y:=c.o.size;clear f;obtain⟨⟨c0,c1,c2,c3,c4,c5⟩,i⟩:=c.o.own
     obtain⟨⟨j,k,l,m,p,q⟩,t⟩:=c.o.s))
 obtain⟨N,f1,P,f3,Q,R⟩:=c.o.1.read (.int .i64 7) (.int .i64 0) (.string ⟨#[]⟩) (.slice none 0 0) (.slice none 0 0) (.slice none 0 0);refine bodyPost_ret (v:=.agg #[(7:Int),(0:Int),.string ⟨#[]⟩,(),(),()]) (by simp[results,results103,go_sem,N,f1,P,f3,Q,R]) rfl ?_;refine c.o.fin (kH _ _ _) ?_;exact jH (P1:=fun a=>a=St.mk 7 0 bE [] [] []) rfl (uB (x:=.ok () r.tail) F.o) F.o fun a _ S _=>by subst S;exact⟨_,_,_,rfl,FE _ _,qw _ _,qw _ _⟩
theorem CQ{tj:List dY}(C:zc b V tj r false false w)(ar:0<=d/\d<=100)(J:zt iZ r=false)(E:zt xW r=false)(I:zt NF r=false)(M:zt vq r=false)(F:zt gP r=false)(G:zt rW r=false)(K:zt EG r=true)(A:zH (pS (n+1) d r)):
 Cy 103 #[(b,0),(d:Int)] w (qp b V tj w (pS (n+1) d r) (e6 w.heap.size)):=by
 obtain⟨_,_⟩:=ar;have c:=U (xh.start (x:=.ok () r) C);have au:=C.lt;have av:¬100<d:=O
 have P:pS (n+1) d r=jU (jU (PR.ok () r.tail) (fun r=>pE n 1 1 r) fun _ e=>St.mk 8 0 bE [e] [] []) (fun r=>zQ [59] r) fun a _=>a:=by rw[pS,Dl O,Dl (by rw[J,E];decide),Dl (by rw[I];decide),Dl (by rw[M];decide),Dl (by rw[F];decide),Dl (by rw[G];decide),Dm K];rfl
 rw[P]at A ⊢;have ag:=C0 (zU (⟨#[105,110,116]⟩:C2).data.toList (PR.ok () r)=false) J;have ah:=C0 (zU (⟨#[98,111,111,108]⟩:C2).data.toList (PR.ok () r)=false) E;have ai:=C0 (zU (⟨#[105,102]⟩:C2).data.toList (PR.ok () r)=false) I;have aj:=C0 (zU (⟨#[119,104,105,108,101]⟩:C2).data.toList (PR.ok () r)=false) M;have ak:=C0 (zU (⟨#[98,114,101,97,107]⟩:C2).data.toList (PR.ok () r)=false) F;have al:=C0 (zU (⟨#[99,111,110,116,105,110,117,101]⟩:C2).data.toList (PR.ok () r)=false) G;have am:=C0 (zU (⟨#[114,101,116,117,114,110]⟩:C2).data.toList (PR.ok () r)=true) K;have N:=U (qe A);have B:=C0 (zH ((PR.ok () r.tail).bind fun _ r=>pE n 1 1 r)) (qe (qQ A));have ab:=U (vU (b:=b) (V:=V) (tj:=tj) (n:=n) (d:=1) Up Up);clear C A P J E I M F G K;go_enter func103,ntmps103
 go_wp2_with (first
  |(go_at_call 81;(with_reducible refine(jl c.o.st _ false ag.o).mono ?_);rintro e i ⟨rfl,f⟩;replace c:=U (c.o.step f);clear f)
  |(go_at_call 81;(with_reducible refine(jl c.o.st _ false ah.o).mono ?_);rintro e i ⟨rfl,f⟩;replace c:=U (c.o.step f);clear f)
  | (go_at_call 56;(with_reducible refine(zE c.o.st _ ai.o).mono ?_);rintro e i ⟨rfl,f⟩
     replace c:=U (c.o.step f);clear f;obtain⟨⟨c0,c1,c2,c3,c4,c5⟩,k⟩:=c.o.own
     obtain⟨⟨l,m,p,q,t,u⟩,y⟩:=c.o.s)
  | (go_at_call 56;(with_reducible refine(zE c.o.st _ aj.o).mono ?_);rintro e i ⟨rfl,f⟩
     replace c:=U (c.o.step f);clear f;obtain⟨⟨c0,c1,c2,c3,c4,c5⟩,k⟩:=c.o.own
     obtain⟨⟨l,m,p,q,t,u⟩,y⟩:=c.o.s)
  | (go_at_call 56;(with_reducible refine(zE c.o.st _ ak.o).mono ?_);rintro e i ⟨rfl,f⟩
     replace c:=U (c.o.step f);clear f;obtain⟨⟨c0,c1,c2,c3,c4,c5⟩,k⟩:=c.o.own
     obtain⟨⟨l,m,p,q,t,u⟩,y⟩:=c.o.s)
  | (go_at_call 56;(with_reducible refine(zE c.o.st _ al.o).mono ?_);rintro e i ⟨rfl,f⟩
     replace c:=U (c.o.step f);clear f;obtain⟨⟨c0,c1,c2,c3,c4,c5⟩,k⟩:=c.o.own
     obtain⟨⟨l,m,p,q,t,u⟩,y⟩:=c.o.s)
  | (go_at_call 56;(with_reducible refine(zx c.o.st _ am.o).mono ?_);rintro e i ⟨rfl,f⟩
     replace c:=C0 (xh b V tj w (.ok () r.tail) i _ _ _ _ _ _) (c.o.step f);clear f;obtain⟨⟨c0,c1,c2,c3,c4,c5⟩,k⟩:=c.o.own
     obtain⟨⟨l,m,p,q,t,u⟩,y⟩:=c.o.s)
  | (go_at_call 126;(with_reducible refine(ab.o.call c.o.st B.o).mono ?_);rintro e j ⟨v,rfl,f,D⟩
     obtain⟨R,S,W,X,Y,Z,aa,rfl⟩:=jC D B.o;have ae:=C0 (je _ fun a=>ky (w.heap.size+2) j a _) (D.imp fun a z=>ky.keep z (zK.refl _ _) Xc);replace c:=U (c.o.step f);have ax:=c.o.size;clear f D;obtain⟨⟨c0,c1,c2,c3,c4,c5⟩,k⟩:=c.o.own
     obtain⟨⟨l,m,p,q,t,u⟩,y⟩:=c.o.s)
  | (go_at_call 58;(with_reducible refine(zh (((c.o.wg (.int .i64 8)).set3 (.slice (some ⟨j.heap.size,0,none⟩) 1 1)).alloc (.cells #[.int .i64 R,.int .i64 S,.int .i64 W,.string X,.slice Y Z aa] 147)).st ⟨#[59]⟩).mono ?_);rintro e w9 ⟨rfl,f⟩
     have ad:=C0 (je _ fun a=>jL (w.heap.size+2) _ [a] _) (ae.o.imp fun a z=>ug (T:=147) (ky.keep z ((zK.set (g:=w.heap.size+1) O 0 (.int .i64 8)).trans (zK.set (g:=w.heap.size+1) O 3 (.slice (some ⟨j.heap.size,0,none⟩) 1 1))) Zr) Zr Uq (g:=j.heap.size) Ur);have af:=U (zK.did (L:=w.heap.size+2) f O);replace c:=U ((((c.o.wg (.int .i64 8)).set3 (.slice (some ⟨j.heap.size,0,none⟩) 1 1)).alloc (.cells #[(R:Int),(S:Int),(W:Int),X,(Y,Z,aa)] 147)).step f);have aw:=c.o.size;clear f;obtain⟨⟨c0,c1,c2,c3,c4,c5⟩,k⟩:=c.o.own
     obtain⟨⟨l,m,p,q,t,u⟩,y⟩:=c.o.s))
 obtain⟨an,f1,ao,f3,ap,aq⟩:=c.o.1.read (.int .i64 8) (.int .i64 0) (.string ⟨#[]⟩) (.slice (some ⟨j.heap.size,0,none⟩) 1 1) (.slice none 0 0) (.slice none 0 0);refine bodyPost_ret (v:=.agg #[(8:Int),(0:Int),.string ⟨#[]⟩,.slice (some ⟨j.heap.size,0,none⟩) 1 1,(),()]) (by simp[results,results103,go_sem,an,f1,ao,f3,ap,aq]) rfl ?_;refine c.o.fin (by rw[kH,jm];rfl) ?_;refine jH (jH (P1:=fun _=>True) (P2:=_) (Q:=fun a=>∃e,a=St.mk 8 0 bE [e] [] []/\jL (w.heap.size+2) _ [e] _) trivial ad.o B.o (fun _ e _ H=>⟨e,rfl,H⟩)) (uB N.o) N.o fun a _ z _=>?_
 obtain⟨e,rfl,H⟩:=z;exact⟨_,_,_,rfl,jL.keep H (af.o.trans (zK.nest6 O _ _ _ _ _ _)) O,qw _ _,qw _ _⟩
theorem FJ{tj:List dY}(D:zc b V tj r false false w)(al:0<=d/\d<=100)(M:zt iZ r=false)(G:zt xW r=false)(K:zt NF r=false)(R:zt vq r=false)(H:zt gP r=false)(I:zt rW r=false)(P:zt EG r=false)(N:zt k0 r=true)(B:zH (pS (n+1) d r)):
 Cy 103 #[(b,0),(d:Int)] w (qp b V tj w (pS (n+1) d r) (e6 w.heap.size)):=by
 obtain⟨_,_⟩:=al;have c:=U (xh.start (x:=.ok () r) D);have an:=D.lt;have ao:¬100<d:=O
 have T:pS (n+1) d r=jU (jU (PR.ok () r.tail) (fun r=>pI n r) fun _ e=>St.mk 9 0 bE [e] [] []) (fun r=>zQ [59] r) fun a _=>a:=by rw[pS,Dl O,Dl (by rw[M,G];decide),Dl (by rw[K];decide),Dl (by rw[R];decide),Dl (by rw[H];decide),Dl (by rw[I];decide),Dl (by rw[P];decide),Dm N];rfl
 rw[T]at B ⊢;have Y:=C0 (zU (⟨#[105,110,116]⟩:C2).data.toList (PR.ok () r)=false) M;have Z:=C0 (zU (⟨#[98,111,111,108]⟩:C2).data.toList (PR.ok () r)=false) G;have aa:=C0 (zU (⟨#[105,102]⟩:C2).data.toList (PR.ok () r)=false) K;have ab:=C0 (zU (⟨#[119,104,105,108,101]⟩:C2).data.toList (PR.ok () r)=false) R;have ad:=C0 (zU (⟨#[98,114,101,97,107]⟩:C2).data.toList (PR.ok () r)=false) H;have ae:=C0 (zU (⟨#[99,111,110,116,105,110,117,101]⟩:C2).data.toList (PR.ok () r)=false) I;have af:=C0 (zU (⟨#[114,101,116,117,114,110]⟩:C2).data.toList (PR.ok () r)=false) P;have ag:=C0 (zU (⟨#[112,114,105,110,116]⟩:C2).data.toList (PR.ok () r)=true) N;have S:=U (qe B);have C:=C0 (zH ((PR.ok () r.tail).bind fun _ r=>pI n r)) (qe (qQ B));clear D B T M G K R H I P N;go_enter func103,ntmps103
 go_wp2_with (first
  |(go_at_call 81;(with_reducible refine(jl c.o.st _ false Y.o).mono ?_);rintro e i ⟨rfl,f⟩;replace c:=U (c.o.step f);clear f)
  |(go_at_call 81;(with_reducible refine(jl c.o.st _ false Z.o).mono ?_);rintro e i ⟨rfl,f⟩;replace c:=U (c.o.step f);clear f)
  | (go_at_call 56;(with_reducible refine(zE c.o.st _ aa.o).mono ?_);rintro e i ⟨rfl,f⟩
     replace c:=U (c.o.step f);clear f;obtain⟨⟨c0,c1,c2,c3,c4,c5⟩,j⟩:=c.o.own
     obtain⟨⟨k,l,m,p,q,t⟩,u⟩:=c.o.s)
  | (go_at_call 56;(with_reducible refine(zE c.o.st _ ab.o).mono ?_);rintro e i ⟨rfl,f⟩
     replace c:=U (c.o.step f);clear f;obtain⟨⟨c0,c1,c2,c3,c4,c5⟩,j⟩:=c.o.own
     obtain⟨⟨k,l,m,p,q,t⟩,u⟩:=c.o.s)
  | (go_at_call 56;(with_reducible refine(zE c.o.st _ ad.o).mono ?_);rintro e i ⟨rfl,f⟩
     replace c:=U (c.o.step f);clear f;obtain⟨⟨c0,c1,c2,c3,c4,c5⟩,j⟩:=c.o.own
     obtain⟨⟨k,l,m,p,q,t⟩,u⟩:=c.o.s)
  | (go_at_call 56;(with_reducible refine(zE c.o.st _ ae.o).mono ?_);rintro e i ⟨rfl,f⟩
     replace c:=U (c.o.step f);clear f;obtain⟨⟨c0,c1,c2,c3,c4,c5⟩,j⟩:=c.o.own
     obtain⟨⟨k,l,m,p,q,t⟩,u⟩:=c.o.s)
  | (go_at_call 56;(with_reducible refine(zE c.o.st _ af.o).mono ?_);rintro e i ⟨rfl,f⟩
     replace c:=U (c.o.step f);clear f;obtain⟨⟨c0,c1,c2,c3,c4,c5⟩,j⟩:=c.o.own
     obtain⟨⟨k,l,m,p,q,t⟩,u⟩:=c.o.s)
  | (go_at_call 56;(with_reducible refine(zx c.o.st _ ag.o).mono ?_);rintro e i ⟨rfl,f⟩
     replace c:=C0 (xh b V tj w (.ok () r.tail) i _ _ _ _ _ _) (c.o.step f);clear f;obtain⟨⟨c0,c1,c2,c3,c4,c5⟩,j⟩:=c.o.own
     obtain⟨⟨k,l,m,p,q,t⟩,u⟩:=c.o.s)
  | (go_at_call 127;(with_reducible refine(fQ c.o.st C.o).mono ?_);rintro e am ⟨v,rfl,f,E⟩
     obtain⟨y,z,A,rfl⟩:=mI E C.o;have W:=C0 (je _ fun a=>jL (w.heap.size+2) am [a] (.slice y z A)) (E.imp fun a F=>jL.keep F (zK.refl _ _) Xc);replace c:=U (c.o.step f);clear f E;obtain⟨⟨c0,c1,c2,c3,c4,c5⟩,j⟩:=c.o.own
     obtain⟨⟨k,l,m,p,q,t⟩,u⟩:=c.o.s)
  | (go_at_call 58;(with_reducible refine(zh ((c.o.wg (.int .i64 9)).set3 (.slice y z A)).st ⟨#[59]⟩).mono ?_);rintro e w9 ⟨rfl,f⟩
     have X:=U (((zK.set (L:=w.heap.size+2) (g:=w.heap.size+1) O 0 (.int .i64 9)).trans (zK.set (g:=w.heap.size+1) O 3 (.slice y z A))).trans (zK.did f O));replace c:=U (((c.o.wg (.int .i64 9)).set3 (.slice y z A)).step f);have ap:=c.o.size;clear f;obtain⟨⟨c0,c1,c2,c3,c4,c5⟩,j⟩:=c.o.own
     obtain⟨⟨k,l,m,p,q,t⟩,u⟩:=c.o.s))
 obtain⟨ah,f1,ai,f3,aj,ak⟩:=c.o.1.read (.int .i64 9) (.int .i64 0) (.string ⟨#[]⟩) (.slice y z A) (.slice none 0 0) (.slice none 0 0);refine bodyPost_ret (v:=.agg #[(9:Int),(0:Int),.string ⟨#[]⟩,(y,z,A),(),()]) (by simp[results,results103,go_sem,ah,f1,ai,f3,aj,ak]) rfl ?_;refine c.o.fin (by rw[kH,jm];rfl) ?_;refine jH (jH (P1:=fun _=>True) (P2:=_) (Q:=fun a=>∃e,a=St.mk 9 0 bE [e] [] []/\jL (w.heap.size+2) _ [e] _) trivial W.o C.o (fun _ e _ J=>⟨e,rfl,J⟩)) (uB S.o) S.o fun a _ F _=>?_
 obtain⟨e,rfl,J⟩:=F;exact⟨_,_,_,rfl,jL.keep J (X.o.trans (zK.nest6 O _ _ _ _ _ _)) O,qw _ _,qw _ _⟩
theorem OE{tj:List dY}(K:zc b V tj r false false w)(ar:0<=d/\d<=100)(T:zt iZ r=false)(P:zt xW r=false)(S:zt NF r=false)(Y:zt vq r=false)(Q:zt gP r=false)(R:zt rW r=false)(X:zt EG r=false)(W:zt k0 r=false)(J:zH (pS (n+1) d r)):
 Cy 103 #[(b,0),(d:Int)] w (qp b V tj w (pS (n+1) d r) (e6 w.heap.size)):=by
 obtain⟨_,_⟩:=ar;have c:=U (xh.start (x:=.ok () r) K);have av:=K.lt;have aw:¬100<d:=O
 have ab:pS (n+1) d r=jU ((PR.ok () r).bind fun _ r=>q3 n r) (fun r=>zQ [59] r) fun a _=>a:=by rw[pS,Dl O,Dl (by rw[T,P];decide),Dl (by rw[S];decide),Dl (by rw[Y];decide),Dl (by rw[Q];decide),Dl (by rw[R];decide),Dl (by rw[X];decide),Dl (by rw[W];decide)];rfl
 rw[ab]at J ⊢;have af:=C0 (zU (⟨#[105,110,116]⟩:C2).data.toList (PR.ok () r)=false) T;have ag:=C0 (zU (⟨#[98,111,111,108]⟩:C2).data.toList (PR.ok () r)=false) P;have ah:=C0 (zU (⟨#[105,102]⟩:C2).data.toList (PR.ok () r)=false) S;have ai:=C0 (zU (⟨#[119,104,105,108,101]⟩:C2).data.toList (PR.ok () r)=false) Y;have aj:=C0 (zU (⟨#[98,114,101,97,107]⟩:C2).data.toList (PR.ok () r)=false) Q;have ak:=C0 (zU (⟨#[99,111,110,116,105,110,117,101]⟩:C2).data.toList (PR.ok () r)=false) R;have al:=C0 (zU (⟨#[114,101,116,117,114,110]⟩:C2).data.toList (PR.ok () r)=false) X;have am:=C0 (zU (⟨#[112,114,105,110,116]⟩:C2).data.toList (PR.ok () r)=false) W;have Z:=U (qe J);have aa:=C0 (zH ((PR.ok () r).bind fun _ r=>q3 n r)) (qQ J);clear K J ab T P S Y Q R X W;go_enter func103,ntmps103
 go_wp2_with (first
  |(go_at_call 81;(with_reducible refine(jl c.o.st _ false af.o).mono ?_);rintro e u ⟨rfl,f⟩;replace c:=U (c.o.step f);clear f)
  |(go_at_call 81;(with_reducible refine(jl c.o.st _ false ag.o).mono ?_);rintro e u ⟨rfl,f⟩;replace c:=U (c.o.step f);clear f)
  | (go_at_call 56;(with_reducible refine(zE c.o.st _ ah.o).mono ?_);rintro e u ⟨rfl,f⟩
     replace c:=U (c.o.step f);clear f;obtain⟨⟨c0,c1,c2,c3,c4,c5⟩,i⟩:=c.o.own
     obtain⟨⟨j,k,l,m,p,q⟩,t⟩:=c.o.s)
  | (go_at_call 56;(with_reducible refine(zE c.o.st _ ai.o).mono ?_);rintro e u ⟨rfl,f⟩
     replace c:=U (c.o.step f);clear f;obtain⟨⟨c0,c1,c2,c3,c4,c5⟩,i⟩:=c.o.own
     obtain⟨⟨j,k,l,m,p,q⟩,t⟩:=c.o.s)
  | (go_at_call 56;(with_reducible refine(zE c.o.st _ aj.o).mono ?_);rintro e u ⟨rfl,f⟩
     replace c:=U (c.o.step f);clear f;obtain⟨⟨c0,c1,c2,c3,c4,c5⟩,i⟩:=c.o.own
     obtain⟨⟨j,k,l,m,p,q⟩,t⟩:=c.o.s)
  | (go_at_call 56;(with_reducible refine(zE c.o.st _ ak.o).mono ?_);rintro e u ⟨rfl,f⟩
     replace c:=U (c.o.step f);clear f;obtain⟨⟨c0,c1,c2,c3,c4,c5⟩,i⟩:=c.o.own
     obtain⟨⟨j,k,l,m,p,q⟩,t⟩:=c.o.s)
  | (go_at_call 56;(with_reducible refine(zE c.o.st _ al.o).mono ?_);rintro e u ⟨rfl,f⟩
     replace c:=U (c.o.step f);clear f;obtain⟨⟨c0,c1,c2,c3,c4,c5⟩,i⟩:=c.o.own
     obtain⟨⟨j,k,l,m,p,q⟩,t⟩:=c.o.s)
  | (go_at_call 56;(with_reducible refine(zE c.o.st _ am.o).mono ?_);rintro e u ⟨rfl,f⟩
     replace c:=U (c.o.step f);clear f;obtain⟨⟨c0,c1,c2,c3,c4,c5⟩,i⟩:=c.o.own
     obtain⟨⟨j,k,l,m,p,q⟩,t⟩:=c.o.s)
  | (go_at_call 128;(with_reducible refine(AP c.o.st aa.o).mono ?_);rintro e au ⟨v,rfl,f,M⟩
     obtain⟨B,C,D,y,E,H,z,F,q4,A,G,I,rfl⟩:=n6 M aa.o;have ad:=C0 (je _ fun a=>e6 (w.heap.size+2) au a _) (M.imp fun a N=>e6.keep N (zK.refl _ _) Xc);replace c:=U (c.o.step f);clear f M;obtain⟨⟨c0,c1,c2,c3,c4,c5⟩,i⟩:=c.o.own
     obtain⟨⟨j,k,l,m,p,q⟩,t⟩:=c.o.s)
  | (go_at_call 58;(with_reducible refine(zh ((((((c.o.wg (.int .i64 B)).wv (.int .i64 C)).ww (.string D)).set3 (.slice y E H)).wy (.slice z F q4)).set5 (.slice A G I)).st ⟨#[59]⟩).mono ?_);rintro e w9 ⟨rfl,f⟩
     have ae:=U ((zK.nest6 (L:=w.heap.size+2) (g:=w.heap.size+1) O (.int .i64 B) (.int .i64 C) (.string D) (.slice y E H) (.slice z F q4) (.slice A G I)).trans (zK.did f O));replace c:=U (((((((c.o.wg (.int .i64 B)).wv (.int .i64 C)).ww (.string D)).set3 (.slice y E H)).wy (.slice z F q4)).set5 (.slice A G I)).step f);have ax:=c.o.size;clear f;obtain⟨⟨c0,c1,c2,c3,c4,c5⟩,i⟩:=c.o.own
     obtain⟨⟨j,k,l,m,p,q⟩,t⟩:=c.o.s))
 obtain⟨an,f1,ao,f3,ap,aq⟩:=c.o.1.read (.int .i64 B) (.int .i64 C) (.string D) (.slice y E H) (.slice z F q4) (.slice A G I);refine bodyPost_ret (v:=.agg #[(B:Int),(C:Int),D,(y,E,H),(z,F,q4),(A,G,I)]) (by simp[results,results103,go_sem,an,f1,ao,f3,ap,aq]) rfl ?_;refine c.o.fin (kH _ _ _) ?_;exact jH ad.o (uB Z.o) Z.o fun a _ N _=>e6.keep N (ae.o.trans (zK.nest6 O _ _ _ _ _ _)) O
theorem S3{tj:List dY}(m:zc b V tj r false false w)(ap:0<=d/\d<=100)(H:zt iZ r=true)(l:zH (pS (n+1) d r)):
 Cy 103 #[(b,0),(d:Int)] w (qp b V tj w (pS (n+1) d r) (e6 w.heap.size)):=by
 obtain⟨_,_⟩:=ap;have c:=U (xh.start (x:=.ok () r) m);have au:=m.lt;have av:¬100<d:=O
 have K:pS (n+1) d r=jU (jU (jU ((PR.ok () r).bind fun _ r=>i0 r) (fun r=>qt 1 r) fun t s=>(t,s)) (fun r=>(zQ [61] r).bind fun _ r=>pE n 1 1 r) fun p e=>St.mk 1 p.1 p.2 [e] [] []) (fun r=>zQ [59] r) fun a _=>a:=by
  rw[pS,Dl O,Dm (.inl H)];unfold vu jU;simp only[zY,mJ]
 rw[K]at l ⊢;have aj:=C0 (zU (⟨#[105,110,116]⟩:C2).data.toList (PR.ok () r)=true) H;have I:=U (qe l);have u:=qe (qQ l);have ah:=U u;have M:=qQ (qQ (qQ l));have ag:=U M;have ai:=U (qe (qQ (qQ l)));rw[jm,<-zY]at u;have J:=U u;clear m l K u M H;have Z:=U (vU (b:=b) (V:=V) (tj:=tj) (n:=n) (d:=1) Up Up);go_enter func103,ntmps103
 go_wp2_with (first
  |(go_at_call 81;(with_reducible refine(jl c.o.st _ true aj.o).mono ?_);rintro e _ ⟨rfl,f⟩;replace c:=U (c.o.step f);clear f)
  | (go_at_call 54;(with_reducible refine(ur c.o.st).mono ?_);rintro e _ ⟨v,rfl,f,i⟩
     obtain⟨t,rfl⟩:=FH i ag.o;have ae:=C0 (je _ fun a=>a=t) (i.imp fun a j=>Gz);replace c:=U (c.o.step f);clear f i;obtain⟨⟨c0,c1,c2,c3,c4,c5⟩,q⟩:=c.o.own
     obtain⟨⟨y,z,A,B,C,D⟩,E⟩:=c.o.s)
  | (go_at_call 55;(with_reducible refine(yr ((c.o.wg (.int .i64 1)).wv (.int .i64 t)).st 1 Up).mono ?_);rintro e _ ⟨s,rfl,f,i⟩
     have ad:=U i;replace c:=U (((c.o.wg (.int .i64 1)).wv (.int .i64 t)).step f);clear f i;obtain⟨⟨c0,c1,c2,c3,c4,c5⟩,q⟩:=c.o.own
     obtain⟨⟨y,z,A,B,C,D⟩,E⟩:=c.o.s)
  | (go_at_call 58;(with_reducible refine(zh (c.o.ww (.string s)).st ⟨#[61]⟩).mono ?_);rintro e ar ⟨rfl,f⟩
     replace c:=C0 (xh b V tj w ((((PR.ok () r).bind fun _ r=>i0 r).un.bind fun _ r=>qt 1 r).un.bind fun _ r=>zQ [61] r) ar _ _ _ _ _ _) ((c.o.ww (.string s)).step f);clear f;obtain⟨⟨c0,c1,c2,c3,c4,c5⟩,q⟩:=c.o.own
     obtain⟨⟨y,z,A,B,C,D⟩,E⟩:=c.o.s)
  | (go_at_call 126;(with_reducible refine(Z.o.call c.o.st J.o).mono ?_);rintro e k ⟨v,rfl,f,i⟩
     obtain⟨N,P,R,S,W,X,Y,rfl⟩:=jC i J.o;have ab:=C0 (je _ fun a=>ky (w.heap.size+2) k a _) (i.imp fun a j=>ky.keep j (zK.refl _ _) Xc);replace c:=U (c.o.step f);have ax:=c.o.size;clear f i;obtain⟨⟨c0,c1,c2,c3,c4,c5⟩,q⟩:=c.o.own
     obtain⟨⟨y,z,A,B,C,D⟩,E⟩:=c.o.s)
  | (go_at_call 58;(with_reducible refine(zh ((c.o.set3 (.slice (some ⟨k.heap.size,0,none⟩) 1 1)).alloc (.cells #[.int .i64 N,.int .i64 P,.int .i64 R,.string S,.slice W X Y] 147)).st ⟨#[59]⟩).mono ?_);rintro e w9 ⟨rfl,f⟩
     have aa:=C0 (je _ fun a=>jL (w.heap.size+2) _ [a] _) (ab.o.imp fun a j=>ug (T:=147) (ky.keep j (zK.set (g:=w.heap.size+1) O 3 (.slice (some ⟨k.heap.size,0,none⟩) 1 1)) Zr) Zr Uq (g:=k.heap.size) Ur);have af:=U (zK.did (L:=w.heap.size+2) f O);replace c:=U (((c.o.set3 (.slice (some ⟨k.heap.size,0,none⟩) 1 1)).alloc (.cells #[(N:Int),(P:Int),(R:Int),S,(W,X,Y)] 147)).step f);have aw:=c.o.size;clear f;obtain⟨⟨c0,c1,c2,c3,c4,c5⟩,q⟩:=c.o.own
     obtain⟨⟨y,z,A,B,C,D⟩,E⟩:=c.o.s))
 obtain⟨ak,f1,al,f3,am,an⟩:=c.o.1.read (.int .i64 1) (.int .i64 t) (.string s) (.slice (some ⟨k.heap.size,0,none⟩) 1 1) (.slice none 0 0) (.slice none 0 0);refine bodyPost_ret (v:=.agg #[(1:Int),(t:Int),s,.slice (some ⟨k.heap.size,0,none⟩) 1 1,(),()]) (by simp[results,results103,go_sem,ak,f1,al,f3,am,an]) rfl ?_;refine c.o.fin (by rw[kH,jm,jm,<-zY]) ?_;have hF:=aa.o;rw[zY,<-jm (F:=fun(a:Int) (s:C2)=>(a,s))]at hF;refine jH (jH (Q:=fun a=>∃e,a=St.mk 1 t s [e] [] []/\jL (w.heap.size+2) _ [e] _) (jH (Q:=fun p=>p=(t,s)) ae.o ad.o ai.o (fun a b j ao=>by rw[j,ao])) hF ah.o (fun p e aq G=>⟨e,by rw[aq],G⟩)) (uB I.o) I.o fun a _ j _=>?_
 obtain⟨e,rfl,G⟩:=j;exact⟨_,_,_,rfl,jL.keep G (af.o.trans (zK.nest6 O _ _ _ _ _ _)) O,qw _ _,qw _ _⟩
theorem OF{tj:List dY}(m:zc b V tj r false false w)(ar:0<=d/\d<=100)(N:zt iZ r=false)(G:zt xW r=true)(l:zH (pS (n+1) d r)):
 Cy 103 #[(b,0),(d:Int)] w (qp b V tj w (pS (n+1) d r) (e6 w.heap.size)):=by
 obtain⟨_,_⟩:=ar;have c:=U (xh.start (x:=.ok () r) m);have ax:=m.lt;have ay:¬100<d:=O
 have K:pS (n+1) d r=jU (jU (jU ((PR.ok () r).bind fun _ r=>i0 r) (fun r=>qt 1 r) fun t s=>(t,s)) (fun r=>(zQ [61] r).bind fun _ r=>pE n 1 1 r) fun p e=>St.mk 1 p.1 p.2 [e] [] []) (fun r=>zQ [59] r) fun a _=>a:=by
  rw[pS,Dl O,Dm (.inr G)];unfold vu jU;simp only[zY,mJ]
 rw[K]at l ⊢;have ak:=C0 (zU (⟨#[105,110,116]⟩:C2).data.toList (PR.ok () r)=false) N;have al:=C0 (zU (⟨#[98,111,111,108]⟩:C2).data.toList (PR.ok () r)=true) G;have I:=U (qe l);have u:=qe (qQ l);have ai:=U u;have M:=qQ (qQ (qQ l));have ah:=U M;have aj:=U (qe (qQ (qQ l)));rw[jm,<-zY]at u;have J:=U u;clear m l K u M N G;have aa:=U (vU (b:=b) (V:=V) (tj:=tj) (n:=n) (d:=1) Up Up);go_enter func103,ntmps103
 go_wp2_with (first
  |(go_at_call 81;(with_reducible refine(jl c.o.st _ false ak.o).mono ?_);rintro e av ⟨rfl,f⟩;replace c:=U (c.o.step f);clear f)
  |(go_at_call 81;(with_reducible refine(jl c.o.st _ true al.o).mono ?_);rintro e av ⟨rfl,f⟩;replace c:=U (c.o.step f);clear f)
  | (go_at_call 54;(with_reducible refine(ur c.o.st).mono ?_);rintro e _ ⟨v,rfl,f,i⟩
     obtain⟨t,rfl⟩:=FH i ah.o;have af:=C0 (je _ fun a=>a=t) (i.imp fun a j=>Gz);replace c:=U (c.o.step f);clear f i;obtain⟨⟨c0,c1,c2,c3,c4,c5⟩,q⟩:=c.o.own
     obtain⟨⟨y,z,A,B,C,D⟩,E⟩:=c.o.s)
  | (go_at_call 55;(with_reducible refine(yr ((c.o.wg (.int .i64 1)).wv (.int .i64 t)).st 1 Up).mono ?_);rintro e _ ⟨s,rfl,f,i⟩
     have ae:=U i;replace c:=U (((c.o.wg (.int .i64 1)).wv (.int .i64 t)).step f);clear f i;obtain⟨⟨c0,c1,c2,c3,c4,c5⟩,q⟩:=c.o.own
     obtain⟨⟨y,z,A,B,C,D⟩,E⟩:=c.o.s)
  | (go_at_call 58;(with_reducible refine(zh (c.o.ww (.string s)).st ⟨#[61]⟩).mono ?_);rintro e aw ⟨rfl,f⟩
     replace c:=C0 (xh b V tj w ((((PR.ok () r).bind fun _ r=>i0 r).un.bind fun _ r=>qt 1 r).un.bind fun _ r=>zQ [61] r) aw _ _ _ _ _ _) ((c.o.ww (.string s)).step f);clear f;obtain⟨⟨c0,c1,c2,c3,c4,c5⟩,q⟩:=c.o.own
     obtain⟨⟨y,z,A,B,C,D⟩,E⟩:=c.o.s)
  | (go_at_call 126;(with_reducible refine(aa.o.call c.o.st J.o).mono ?_);rintro e k ⟨v,rfl,f,i⟩
     obtain⟨P,R,S,W,X,Y,Z,rfl⟩:=jC i J.o;have ad:=C0 (je _ fun a=>ky (w.heap.size+2) k a _) (i.imp fun a j=>ky.keep j (zK.refl _ _) Xc);replace c:=U (c.o.step f);have aA:=c.o.size;clear f i;obtain⟨⟨c0,c1,c2,c3,c4,c5⟩,q⟩:=c.o.own
     obtain⟨⟨y,z,A,B,C,D⟩,E⟩:=c.o.s)
  | (go_at_call 58;(with_reducible refine(zh ((c.o.set3 (.slice (some ⟨k.heap.size,0,none⟩) 1 1)).alloc (.cells #[.int .i64 P,.int .i64 R,.int .i64 S,.string W,.slice X Y Z] 147)).st ⟨#[59]⟩).mono ?_);rintro e w9 ⟨rfl,f⟩
     have ab:=C0 (je _ fun a=>jL (w.heap.size+2) _ [a] _) (ad.o.imp fun a j=>ug (T:=147) (ky.keep j (zK.set (g:=w.heap.size+1) O 3 (.slice (some ⟨k.heap.size,0,none⟩) 1 1)) Zr) Zr Uq (g:=k.heap.size) Ur);have ag:=U (zK.did (L:=w.heap.size+2) f O);replace c:=U (((c.o.set3 (.slice (some ⟨k.heap.size,0,none⟩) 1 1)).alloc (.cells #[(P:Int),(R:Int),(S:Int),W,(X,Y,Z)] 147)).step f);have az:=c.o.size;clear f;obtain⟨⟨c0,c1,c2,c3,c4,c5⟩,q⟩:=c.o.own
     obtain⟨⟨y,z,A,B,C,D⟩,E⟩:=c.o.s))
 obtain⟨am,f1,an,f3,ao,ap⟩:=c.o.1.read (.int .i64 1) (.int .i64 t) (.string s) (.slice (some ⟨k.heap.size,0,none⟩) 1 1) (.slice none 0 0) (.slice none 0 0);refine bodyPost_ret (v:=.agg #[(1:Int),(t:Int),s,.slice (some ⟨k.heap.size,0,none⟩) 1 1,(),()]) (by simp[results,results103,go_sem,am,f1,an,f3,ao,ap]) rfl ?_;refine c.o.fin (by rw[kH,jm,jm,<-zY]) ?_;have hF:=ab.o;rw[zY,<-jm (F:=fun(a:Int) (s:C2)=>(a,s))]at hF;refine jH (jH (Q:=fun a=>∃e,a=St.mk 1 t s [e] [] []/\jL (w.heap.size+2) _ [e] _) (jH (Q:=fun p=>p=(t,s)) af.o ae.o aj.o (fun a b j aq=>by rw[j,aq])) hF ai.o (fun p e au H=>⟨e,by rw[au],H⟩)) (uB I.o) I.o fun a _ j _=>?_
 obtain⟨e,rfl,H⟩:=j;exact⟨_,_,_,rfl,jL.keep H (ag.o.trans (zK.nest6 O _ _ _ _ _ _)) O,qw _ _,qw _ _⟩
theorem FK{tj:List dY}(S:CB b V tj n (d+1))(A:zc b V tj r false false w)(ak:0<=d/\d<=100)(E:zt iZ r=false)(C:zt xW r=false)(D:zt NF r=false)(F:zt vq r=true)(q:zH (pS (n+1) d r)):
 Cy 103 #[(b,0),(d:Int)] w (qp b V tj w (pS (n+1) d r) (e6 w.heap.size)):=by
 obtain⟨_,_⟩:=ak;have c:=U (xh.start (x:=.ok () r) A);have ao:=A.lt;have ap:¬100<d:=O
 have R:pS (n+1) d r=jU ((PR.ok () r.tail).bind fun _ r=>pI n r) (fun r=>pB n (d+1) r) fun e t=>St.mk 5 0 bE [e] t []:=by rw[pS,Dl O,Dl (by rw[E,C];decide),Dl (by rw[D];decide),Dm F];rfl
 rw[R]at q ⊢;have ab:=C0 (zU (⟨#[105,110,116]⟩:C2).data.toList (PR.ok () r)=false) E;have ad:=C0 (zU (⟨#[98,111,111,108]⟩:C2).data.toList (PR.ok () r)=false) C;have ae:=C0 (zU (⟨#[105,102]⟩:C2).data.toList (PR.ok () r)=false) D;have af:=C0 (zU (⟨#[119,104,105,108,101]⟩:C2).data.toList (PR.ok () r)=true) F;have y:=U (qe q);have Q:=U (qQ q);have X:=U S;clear A q R S E C D F;go_enter func103,ntmps103
 go_wp2_with (first
  |(go_at_call 81;(with_reducible refine(jl c.o.st _ false ab.o).mono ?_);rintro e u ⟨rfl,f⟩;replace c:=U (c.o.step f);clear f)
  |(go_at_call 81;(with_reducible refine(jl c.o.st _ false ad.o).mono ?_);rintro e u ⟨rfl,f⟩;replace c:=U (c.o.step f);clear f)
  | (go_at_call 56;(with_reducible refine(zE c.o.st _ ae.o).mono ?_);rintro e u ⟨rfl,f⟩
     replace c:=U (c.o.step f);clear f;obtain⟨⟨c0,c1,c2,c3,c4,c5⟩,z⟩:=c.o.own
     obtain⟨⟨G,H,I,J,K,M⟩,N⟩:=c.o.s)
  | (go_at_call 56;(with_reducible refine(zx c.o.st _ af.o).mono ?_);rintro e u ⟨rfl,f⟩
     replace c:=C0 (xh b V tj w (.ok () r.tail) u _ _ _ _ _ _) (c.o.step f);clear f;obtain⟨⟨c0,c1,c2,c3,c4,c5⟩,z⟩:=c.o.own
     obtain⟨⟨G,H,I,J,K,M⟩,N⟩:=c.o.s)
  | (go_at_call 127;(with_reducible refine(fQ c.o.st Q.o).mono ?_);rintro e an ⟨v,rfl,f,i⟩
     obtain⟨j,k,l,rfl⟩:=mI i Q.o;have Y:=C0 (je _ fun a=>jL (w.heap.size+2) an [a] (.slice j k l)) (i.imp fun a B=>jL.keep B (zK.refl _ _) Xc);replace c:=U (c.o.step f);clear f i;obtain⟨⟨c0,c1,c2,c3,c4,c5⟩,z⟩:=c.o.own
     obtain⟨⟨G,H,I,J,K,M⟩,N⟩:=c.o.s)
  | (go_at_call 82;(with_reducible refine(X.o.call ((c.o.wg (.int .i64 5)).set3 (.slice j k l)).st y.o).mono ?_);rintro e W ⟨v,rfl,f,i⟩
     obtain⟨m,p,q4,rfl⟩:=xf i y.o;have aa:=C0 (je _ fun a=>kD (w.heap.size+2) W a _) (i.imp fun a B=>kD.keep B (zK.refl _ _) Xc);have Z:=U (((zK.set (L:=w.heap.size+2) (g:=w.heap.size+1) O 0 (.int .i64 5)).trans (zK.set (g:=w.heap.size+1) O 3 (.slice j k l))).trans (zK.did f O));replace c:=U (((c.o.wg (.int .i64 5)).set3 (.slice j k l)).step f);clear f i;obtain⟨⟨c0,c1,c2,c3,c4,c5⟩,z⟩:=c.o.own
     obtain⟨⟨G,H,I,J,K,M⟩,N⟩:=c.o.s))
 have P:=U (c.o.wy (.slice m p q4));obtain⟨ag,f1,ah,f3,ai,aj⟩:=P.o.1.read (.int .i64 5) (.int .i64 0) (.string ⟨#[]⟩) (.slice j k l) (.slice m p q4) (.slice none 0 0);refine bodyPost_ret (v:=.agg #[(5:Int),(0:Int),.string ⟨#[]⟩,(j,k,l),(m,p,q4),()]) (by simp[results,results103,go_sem,ag,f1,ah,f3,ai,aj]) rfl ?_;have T:=(zK.set (L:=w.heap.size+2) (w:=W) (g:=w.heap.size+1) O 4 (.slice m p q4)).trans (zK.nest6 (g:=w.heap.size) O (.int .i64 5) (.int .i64 0) (.string ⟨#[]⟩) (.slice j k l) (.slice m p q4) (.slice none 0 0));refine P.o.fin (jm _ _ _) (jH Y.o aa.o y.o fun e t al am=>?_);exact⟨_,_,_,rfl,jL.keep al (Z.o.trans T) O,kD.keep am T O,qw _ _⟩
theorem sT:((pI n r.tail).bind fun e r=>(pB n (d+1) r).bind fun t r=>q5 n d e t r)=(jU ((PR.ok () r.tail).bind fun _ r=>pI n r) (fun r=>pB n (d+1) r) fun e t=>(e,t)).bind fun p r=>q5 n d p.1 p.2 r:=by
 unfold jU;simp only[zY,mJ]
theorem mK{tj:List dY}(W:CB b V tj n (d+1))(C:zc b V tj r false false w)(aq:0<=d/\d<=100)(H:zt iZ r=false)(E:zt xW r=false)(G:zt NF r=true)(y:zU y4 (jU ((PR.ok () r.tail).bind fun _ r=>pI n r) (fun r=>pB n (d+1) r) fun e t=>(e,t))=false)(j:zH (pS (n+1) d r)):
 Cy 103 #[(b,0),(d:Int)] w (qp b V tj w (pS (n+1) d r) (e6 w.heap.size)):=by
 obtain⟨_,_⟩:=aq;have c:=U (xh.start (x:=.ok () r) C);have aw:=C.lt;have ax:¬100<d:=O
 have T:pS (n+1) d r=jU ((PR.ok () r.tail).bind fun _ r=>pI n r) (fun r=>pB n (d+1) r) fun e t=>St.mk 4 0 bE [e] t []:=by
  have ao:pS (n+1) d r=(jU ((PR.ok () r.tail).bind fun _ r=>pI n r) (fun r=>pB n (d+1) r) fun e t=>(e,t)).bind fun p r=>q5 n d p.1 p.2 r:=by rw[pS,Dl O,Dl (by rw[H,E];decide),Dm G,sT]
  rw[ao]at j ⊢
  have ap:(jU ((PR.ok () r.tail).bind fun _ r=>pI n r) (fun r=>pB n (d+1) r) fun e t=>St.mk 4 0 bE [e] t [])=(jU ((PR.ok () r.tail).bind fun _ r=>pI n r) (fun r=>pB n (d+1) r) fun e t=>(e,t)).bind fun p r=>.ok (St.mk 4 0 bE [p.1] p.2 []) r:=by
   unfold jU;simp only[zY,mJ]
  rw[ap];cases hx:(jU ((PR.ok () r.tail).bind fun _ r=>pI n r) (fun r=>pB n (d+1) r) fun e t=>(e,t))with
  |ok p z=>
    rw[hx]at j y;cases n with
    |zero=>exact absurd (show zH (q5 0 d p.1 p.2 z)from j) (by rw[q5];exact id)
    |succ n=>
      show q5 (n+1) d p.1 p.2 z=.ok _ z;rw[q5,Dl (by rw[show zt y4 z=false from y];decide)]
  |_=>rfl
 rw[T]at j ⊢;have ah:=C0 (zU (⟨#[105,110,116]⟩:C2).data.toList (PR.ok () r)=false) H;have ai:=C0 (zU (⟨#[98,111,111,108]⟩:C2).data.toList (PR.ok () r)=false) E;have aj:=C0 (zU (⟨#[105,102]⟩:C2).data.toList (PR.ok () r)=true) G;have A:=U (qe j);have S:=U (qQ j);have aa:=U W
 have X:zU (⟨#[101,108,115,101]⟩:C2).data.toList (((PR.ok () r.tail).bind fun _ r=>pI n r).un.bind fun _ r=>pB n (d+1) r).un=false:=by
  rw[<-jm (F:=fun e t=>(e,t))];revert y;cases(jU ((PR.ok () r.tail).bind fun _ r=>pI n r) (fun r=>pB n (d+1) r) fun e t=>(e,t))<;>exact id
 have ab:=U X;clear C j T W y X H E G;go_enter func103,ntmps103
 go_wp2_with (first
  |(go_at_call 81;(with_reducible refine(jl c.o.st _ false ah.o).mono ?_);rintro e R ⟨rfl,f⟩;replace c:=U (c.o.step f);clear f)
  |(go_at_call 81;(with_reducible refine(jl c.o.st _ false ai.o).mono ?_);rintro e R ⟨rfl,f⟩;replace c:=U (c.o.step f);clear f)
  | (go_at_call 56;(with_reducible refine(zx c.o.st _ aj.o).mono ?_);rintro e R ⟨rfl,f⟩
     replace c:=C0 (xh b V tj w (.ok () r.tail) R _ _ _ _ _ _) (c.o.step f);clear f;obtain⟨⟨c0,c1,c2,c3,c4,c5⟩,B⟩:=c.o.own
     obtain⟨⟨I,J,K,M,N,P⟩,Q⟩:=c.o.s)
  | (go_at_call 127;(with_reducible refine(fQ c.o.st S.o).mono ?_);rintro e av ⟨v,rfl,f,i⟩
     obtain⟨k,l,m,rfl⟩:=mI i S.o;have ad:=C0 (je _ fun a=>jL (w.heap.size+2) av [a] (.slice k l m)) (i.imp fun a D=>jL.keep D (zK.refl _ _) Xc);replace c:=U (c.o.step f);clear f i;obtain⟨⟨c0,c1,c2,c3,c4,c5⟩,B⟩:=c.o.own
     obtain⟨⟨I,J,K,M,N,P⟩,Q⟩:=c.o.s)
  | (go_at_call 82;(with_reducible refine(aa.o.call ((c.o.wg (.int .i64 4)).set3 (.slice k l m)).st A.o).mono ?_);rintro e Z ⟨v,rfl,f,i⟩
     obtain⟨q,u,q4,rfl⟩:=xf i A.o;have ag:=C0 (je _ fun a=>kD (w.heap.size+2) Z a _) (i.imp fun a D=>kD.keep D (zK.refl _ _) Xc);have ae:=U (((zK.set (L:=w.heap.size+2) (g:=w.heap.size+1) O 0 (.int .i64 4)).trans (zK.set (g:=w.heap.size+1) O 3 (.slice k l m))).trans (zK.did f O));replace c:=U (((c.o.wg (.int .i64 4)).set3 (.slice k l m)).step f);clear f i;obtain⟨⟨c0,c1,c2,c3,c4,c5⟩,B⟩:=c.o.own
     obtain⟨⟨I,J,K,M,N,P⟩,Q⟩:=c.o.s)
  | (go_at_call 56;(with_reducible refine(zE (c.o.wy (.slice q u q4)).st _ ab.o).mono ?_);rintro e _ ⟨rfl,f⟩
     have af:=U ((zK.set (L:=w.heap.size+2) (w:=Z) (g:=w.heap.size+1) O 4 (.slice q u q4)).trans (zK.did f O));replace c:=U ((c.o.wy (.slice q u q4)).step f);clear f;obtain⟨⟨c0,c1,c2,c3,c4,c5⟩,B⟩:=c.o.own
     obtain⟨⟨I,J,K,M,N,P⟩,Q⟩:=c.o.s))
 obtain⟨ak,f1,al,f3,am,an⟩:=c.o.1.read (.int .i64 4) (.int .i64 0) (.string ⟨#[]⟩) (.slice k l m) (.slice q u q4) (.slice none 0 0);refine bodyPost_ret (v:=.agg #[(4:Int),(0:Int),.string ⟨#[]⟩,(k,l,m),(q,u,q4),()]) (by simp[results,results103,go_sem,ak,f1,al,f3,am,an]) rfl ?_;have Y:=af.o.trans (zK.nest6 (g:=w.heap.size) O (.int .i64 4) (.int .i64 0) (.string ⟨#[]⟩) (.slice k l m) (.slice q u q4) (.slice none 0 0));refine c.o.fin (jm _ _ _) (jH ad.o ag.o A.o fun e t ar au=>?_);exact⟨_,_,_,rfl,jL.keep ar (ae.o.trans Y) O,kD.keep au Y O,qw _ _⟩
theorem OG{tj:List dY}{q:Nat}{p:Ex×List St}{j:List dY}(aO:n=q+1)(an:CB b V tj n (d+1))(ao:CB b V tj q (d+1))(T:zc b V tj r false false w)(aN:0<=d/\d<=100)(ab:zt iZ r=false)(X:zt xW r=false)(aa:zt NF r=true)(A:(jU ((PR.ok () r.tail).bind fun _ r=>pI n r) (fun r=>pB n (d+1) r) fun e t=>(e,t))=.ok p j)(Z:zt y4 j=true)(ae:zH (pS (n+1) d r)):
 Cy 103 #[(b,0),(d:Int)] w (qp b V tj w (pS (n+1) d r) (e6 w.heap.size)):=by
 obtain⟨_,_⟩:=aN;have c:=U (xh.start (x:=.ok () r) T);have aQ:=T.lt;have aR:¬100<d:=O
 have al:pS (n+1) d r=(pB q (d+1) j.tail).bind fun P r=>.ok (St.mk 4 0 bE [p.1] p.2 P) r:=by
  have aM:pS (n+1) d r=(jU ((PR.ok () r.tail).bind fun _ r=>pI n r) (fun r=>pB n (d+1) r) fun e t=>(e,t)).bind fun p r=>q5 n d p.1 p.2 r:=by rw[pS,Dl O,Dl (by rw[ab,X];decide),Dm aa,sT]
  rw[aM,A,aO];show q5 (q+1) d p.1 p.2 j=_;rw[q5,Dm Z]
 rw[al]at ae ⊢;have aF:=C0 (zU (⟨#[105,110,116]⟩:C2).data.toList (PR.ok () r)=false) ab;have aG:=C0 (zU (⟨#[98,111,111,108]⟩:C2).data.toList (PR.ok () r)=false) X;have aH:=C0 (zU (⟨#[105,102]⟩:C2).data.toList (PR.ok () r)=true) aa;have W:zH (jU ((PR.ok () r.tail).bind fun _ r=>pI n r) (fun r=>pB n (d+1) r) fun e t=>(e,t)):=by rw[A];trivial
 have S:=U (qe W);have aj:=U (qQ W);have ak:=C0 (zH ((PR.ok () j.tail).bind fun _ r=>pB q (d+1) r)) (qM ae);have aw:=U an;have ax:=U ao;have av:=U A;have az:=U (show(((PR.ok () r.tail).bind fun _ r=>pI n r).un.bind fun _ r=>pB n (d+1) r).un=.ok () j by rw[<-jm (F:=fun e t=>(e,t)),A];rfl);have ay:=C0 (zU (⟨#[101,108,115,101]⟩:C2).data.toList (PR.ok () j)=true) Z;clear T ae al an ao Z A W ab X aa;go_enter func103,ntmps103
 go_wp2_with (first
  |(go_at_call 81;(with_reducible refine(jl c.o.st _ false aF.o).mono ?_);rintro e ag ⟨rfl,f⟩;replace c:=U (c.o.step f);clear f)
  |(go_at_call 81;(with_reducible refine(jl c.o.st _ false aG.o).mono ?_);rintro e ag ⟨rfl,f⟩;replace c:=U (c.o.step f);clear f)
  | (go_at_call 56;(with_reducible refine(zx c.o.st _ aH.o).mono ?_);rintro e ag ⟨rfl,f⟩
     replace c:=C0 (xh b V tj w (.ok () r.tail) ag _ _ _ _ _ _) (c.o.step f);clear f;obtain⟨⟨c0,c1,c2,c3,c4,c5⟩,E⟩:=c.o.own
     obtain⟨⟨G,H,I,J,K,M⟩,N⟩:=c.o.s)
  | (go_at_call 127;(with_reducible refine(fQ c.o.st aj.o).mono ?_);rintro e ar ⟨v,rfl,f,i⟩
     obtain⟨k,l,m,rfl⟩:=mI i aj.o;have aA:=C0 (je _ fun a=>jL (w.heap.size+2) ar [a] (.slice k l m)) (i.imp fun a B=>jL.keep B (zK.refl _ _) Xc);replace c:=U (c.o.step f);clear f i;obtain⟨⟨c0,c1,c2,c3,c4,c5⟩,E⟩:=c.o.own
     obtain⟨⟨G,H,I,J,K,M⟩,N⟩:=c.o.s)
  | (go_at_call 82;(with_reducible refine(aw.o.call ((c.o.wg (.int .i64 4)).set3 (.slice k l m)).st S.o).mono ?_);rintro e R ⟨v,rfl,f,i⟩
     obtain⟨u,y,q4,rfl⟩:=xf i S.o;have aD:=C0 (je _ fun a=>kD (w.heap.size+2) R a _) (i.imp fun a B=>kD.keep B (zK.refl _ _) Xc);have aB:=U (((zK.set (L:=w.heap.size+2) (g:=w.heap.size+1) O 0 (.int .i64 4)).trans (zK.set (g:=w.heap.size+1) O 3 (.slice k l m))).trans (zK.did f O));replace c:=U (show xh b V tj w (.ok () j) R _ _ _ _ _ _ by have am:=((c.o.wg (.int .i64 4)).set3 (.slice k l m)).step f;rw[az.o]at am;exact am);clear f i;obtain⟨⟨c0,c1,c2,c3,c4,c5⟩,E⟩:=c.o.own
     obtain⟨⟨G,H,I,J,K,M⟩,N⟩:=c.o.s)
  | (go_at_call 56;(with_reducible refine(zx (c.o.wy (.slice u y q4)).st _ ay.o).mono ?_);rintro e aP ⟨rfl,f⟩
     have aC:=U ((zK.set (L:=w.heap.size+2) (w:=R) (g:=w.heap.size+1) O 4 (.slice u y q4)).trans (zK.did f O));replace c:=C0 (xh b V tj w (.ok () j.tail) aP _ _ _ _ _ _) ((c.o.wy (.slice u y q4)).step f);clear f;obtain⟨⟨c0,c1,c2,c3,c4,c5⟩,E⟩:=c.o.own
     obtain⟨⟨G,H,I,J,K,M⟩,N⟩:=c.o.s)
  | (go_at_call 82;(with_reducible refine(ax.o.call c.o.st ak.o).mono ?_);rintro e au ⟨v,rfl,f,i⟩
     obtain⟨z,C,D,rfl⟩:=xf i ak.o;have aE:=C0 (je _ fun a=>kD (w.heap.size+2) au a _) (i.imp fun a B=>kD.keep B (zK.refl _ _) Xc);have ai:=U (aC.o.trans (zK.did f O));replace c:=U (c.o.step f);clear f i;obtain⟨⟨c0,c1,c2,c3,c4,c5⟩,E⟩:=c.o.own
     obtain⟨⟨G,H,I,J,K,M⟩,N⟩:=c.o.s))
 have ah:=U (c.o.set5 (.slice z C D));obtain⟨aI,f1,aJ,f3,aK,aL⟩:=ah.o.1.read (.int .i64 4) (.int .i64 0) (.string ⟨#[]⟩) (.slice k l m) (.slice u y q4) (.slice z C D);refine bodyPost_ret (v:=.agg #[(4:Int),(0:Int),.string ⟨#[]⟩,(k,l,m),(u,y,q4),(z,C,D)]) (by simp[results,results103,go_sem,aI,f1,aJ,f3,aK,aL]) rfl ?_;have ad:=(zK.set (L:=w.heap.size+2) (w:=au) (g:=w.heap.size+1) O 5 (.slice z C D)).trans (zK.nest6 (g:=w.heap.size) O (.int .i64 4) (.int .i64 0) (.string ⟨#[]⟩) (.slice k l m) (.slice u y q4) (.slice z C D));have ap:=jH (F:=fun e t=>(e,t)) (Q:=fun p:Ex×List St=>jL (w.heap.size+2) ar [p.1] (.slice k l m)/\kD (w.heap.size+2) R p.2 (.slice u y q4)) aA.o aD.o S.o fun e t Y af=>⟨Y,af⟩
 rw[av.o]at ap;obtain⟨Y,af⟩:=ap;refine ah.o.fin Kw (je.bind aE.o (fun P r _ aq=>?_) fun P aq=>⟨St.mk 4 0 bE [p.1] p.2 P,?_⟩)
 all_goals exact⟨_,_,_,rfl,jL.keep Y (aB.o.trans (ai.o.trans ad)) O,kD.keep af (ai.o.trans ad) O,kD.keep aq ad O⟩
theorem xh.deepen{tj:List dY}(a:zc b V tj r false false w):xh b V tj w (.deep r) (((w.setCell (b,3) true).alloc uy).alloc uy) (.int .i64 0) (.int .i64 0) (.string ⟨#[]⟩) (.slice none 0 0) (.slice none 0 0) (.slice none 0 0):=by
 have c:jP b V tj w (.deep r) (w.setCell (b,3) true):=⟨a.deepen,(dX.refl b _ _).setb a.lt 3 _⟩
 refine⟨⟨(c.alloc _).alloc _,?_,a.2.1,a.lt⟩,?_⟩
 .refine qI ?_ _
  have:=Dq (w.setCell (b,3) true) uy;rw[xH]at this;exact this
 .have:=Dq ((w.setCell (b,3) true).alloc uy) uy
  rw[zA,xH]at this;exact this
theorem OH{tj:List dY}(A:zc b V tj r false false w)(_:0<=d/\d<=1000)(ah:100<d)(ai:zH (pS (n+1) d r)):
 Cy 103 #[(b,0),(d:Int)] w (qp b V tj w (pS (n+1) d r) (e6 w.heap.size)):=by
 have N:pS (n+1) d r=.deep r:=by rw[pS,Dm ah]
 rw[N];have f3:=A.1.frozen 3;obtain⟨_,_,_,_⟩:=A.cells;have aj:=A.lt;have c:=U (xh.deepen A);clear A ai N;have S:=C0 (zU (⟨#[105,110,116]⟩:C2).data.toList (PR.deep r:PR Unit)=false) rfl;have T:=C0 (zU (⟨#[98,111,111,108]⟩:C2).data.toList (PR.deep r:PR Unit)=false) rfl;have W:=C0 (zU (⟨#[105,102]⟩:C2).data.toList (PR.deep r:PR Unit)=false) rfl;have X:=C0 (zU (⟨#[119,104,105,108,101]⟩:C2).data.toList (PR.deep r:PR Unit)=false) rfl;have Y:=C0 (zU (⟨#[98,114,101,97,107]⟩:C2).data.toList (PR.deep r:PR Unit)=false) rfl;have Z:=C0 (zU (⟨#[99,111,110,116,105,110,117,101]⟩:C2).data.toList (PR.deep r:PR Unit)=false) rfl;have aa:=C0 (zU (⟨#[114,101,116,117,114,110]⟩:C2).data.toList (PR.deep r:PR Unit)=false) rfl;have ab:=C0 (zU (⟨#[112,114,105,110,116]⟩:C2).data.toList (PR.deep r:PR Unit)=false) rfl;have M:=C0 (zH ((PR.deep r:PR Unit).bind fun _ r=>q3 0 r)) trivial;go_enter func103,ntmps103
 go_wp2_with (first
  |(go_at_call 81;(with_reducible refine(jl c.o.st _ false S.o).mono ?_);rintro e u ⟨rfl,f⟩;replace c:=U (c.o.step f);clear f)
  |(go_at_call 81;(with_reducible refine(jl c.o.st _ false T.o).mono ?_);rintro e u ⟨rfl,f⟩;replace c:=U (c.o.step f);clear f)
  | (go_at_call 56;(with_reducible refine(zE c.o.st _ W.o).mono ?_);rintro e u ⟨rfl,f⟩
     replace c:=U (c.o.step f);clear f;obtain⟨⟨c0,c1,c2,c3,c4,c5⟩,i⟩:=c.o.own
     obtain⟨⟨j,k,l,m,p,q⟩,t⟩:=c.o.s)
  | (go_at_call 56;(with_reducible refine(zE c.o.st _ X.o).mono ?_);rintro e u ⟨rfl,f⟩
     replace c:=U (c.o.step f);clear f;obtain⟨⟨c0,c1,c2,c3,c4,c5⟩,i⟩:=c.o.own
     obtain⟨⟨j,k,l,m,p,q⟩,t⟩:=c.o.s)
  | (go_at_call 56;(with_reducible refine(zE c.o.st _ Y.o).mono ?_);rintro e u ⟨rfl,f⟩
     replace c:=U (c.o.step f);clear f;obtain⟨⟨c0,c1,c2,c3,c4,c5⟩,i⟩:=c.o.own
     obtain⟨⟨j,k,l,m,p,q⟩,t⟩:=c.o.s)
  | (go_at_call 56;(with_reducible refine(zE c.o.st _ Z.o).mono ?_);rintro e u ⟨rfl,f⟩
     replace c:=U (c.o.step f);clear f;obtain⟨⟨c0,c1,c2,c3,c4,c5⟩,i⟩:=c.o.own
     obtain⟨⟨j,k,l,m,p,q⟩,t⟩:=c.o.s)
  | (go_at_call 56;(with_reducible refine(zE c.o.st _ aa.o).mono ?_);rintro e u ⟨rfl,f⟩
     replace c:=U (c.o.step f);clear f;obtain⟨⟨c0,c1,c2,c3,c4,c5⟩,i⟩:=c.o.own
     obtain⟨⟨j,k,l,m,p,q⟩,t⟩:=c.o.s)
  | (go_at_call 56;(with_reducible refine(zE c.o.st _ ab.o).mono ?_);rintro e u ⟨rfl,f⟩
     replace c:=U (c.o.step f);clear f;obtain⟨⟨c0,c1,c2,c3,c4,c5⟩,i⟩:=c.o.own
     obtain⟨⟨j,k,l,m,p,q⟩,t⟩:=c.o.s)
  | (go_at_call 128;(with_reducible refine(AP c.o.st M.o).mono ?_);rintro e P ⟨v,rfl,f,J⟩
     obtain⟨B,C,D,x,E,H,y,F,q4,z,G,I,rfl⟩:=n6 J M.o;have Q:=U (show ∃a,e6 (w.heap.size+2) P a _ by obtain⟨a,K⟩:=J;exact⟨a,e6.keep K (zK.refl _ _) Xc⟩);replace c:=C0 (xh b V tj w (.deep r) P _ _ _ _ _ _) (c.o.step f);clear f J;obtain⟨⟨c0,c1,c2,c3,c4,c5⟩,i⟩:=c.o.own
     obtain⟨⟨j,k,l,m,p,q⟩,t⟩:=c.o.s)
  | (go_at_call 58;(with_reducible refine(zh ((((((c.o.wg (.int .i64 B)).wv (.int .i64 C)).ww (.string D)).set3 (.slice x E H)).wy (.slice y F q4)).set5 (.slice z G I)).st ⟨#[59]⟩).mono ?_);rintro e w9 ⟨rfl,f⟩
     have R:=U ((zK.nest6 (L:=w.heap.size+2) (g:=w.heap.size+1) O (.int .i64 B) (.int .i64 C) (.string D) (.slice x E H) (.slice y F q4) (.slice z G I)).trans (zK.did f O));replace c:=U (((((((c.o.wg (.int .i64 B)).wv (.int .i64 C)).ww (.string D)).set3 (.slice x E H)).wy (.slice y F q4)).set5 (.slice z G I)).step f);have ak:=c.o.size;clear f;obtain⟨⟨c0,c1,c2,c3,c4,c5⟩,i⟩:=c.o.own
     obtain⟨⟨j,k,l,m,p,q⟩,t⟩:=c.o.s))
 obtain⟨ad,f1,ae,f3,af,ag⟩:=c.o.1.read (.int .i64 B) (.int .i64 C) (.string D) (.slice x E H) (.slice y F q4) (.slice z G I);refine bodyPost_ret (v:=.agg #[(B:Int),(C:Int),D,(x,E,H),(y,F,q4),(z,G,I)]) (by simp[results,results103,go_sem,ad,f1,ae,f3,af,ag]) rfl ?_;refine c.o.fin rfl ?_;obtain⟨a,K⟩:=Q.o;exact⟨a,e6.keep K (R.o.trans (zK.nest6 O _ _ _ _ _ _)) O⟩
theorem OI{tj:List dY}(k:d<=100->∀m,m<=n->CB b V tj m (d+1))(c:zc b V tj r false false w)(l:0<=d/\d<=1000)(a:zH (pS (n+1) d r)):
 Cy 103 #[(b,0),(d:Int)] w (qp b V tj w (pS (n+1) d r) (e6 w.heap.size)):=by
 by_cases j:d<=100
 .have f:0<=d/\d<=100:=⟨l.1,j⟩
  have g:=k j n Zr;cases h0:zt iZ r with
  |true=>exact S3 c f h0 a
  |false=>
    cases h1:zt xW r with
    |true=>exact OF c f h0 h1 a
    |false=>
      cases h2:zt NF r with
      |true=>
        cases hA:(jU ((PR.ok () r.tail).bind fun _ r=>pI n r) (fun r=>pB n (d+1) r) fun e t=>(e,t))with
        |ok p i=>
          cases hel:zt y4 i with
          |true=>
            cases n with
            |zero=>
              rw[pS,Dl O,Dl (by rw[h0,h1];decide),Dm h2,sT,hA]at a;exact absurd (show zH (q5 0 d p.1 p.2 i)from a) (by rw[q5];exact id)
            |succ q=>exact OG rfl g (k j q O) c f h0 h1 h2 hA hel a
          |false=>exact mK g c f h0 h1 h2 (by rw[hA];exact hel) a
        |bad i=>exact mK g c f h0 h1 h2 (by rw[hA];rfl) a
        |deep i=>exact mK g c f h0 h1 h2 (by rw[hA];rfl) a
        |o=>exact mK g c f h0 h1 h2 (by rw[hA];rfl) a
      |false=>
        cases h3:zt vq r with
        |true=>exact FK g c f h0 h1 h2 h3 a
        |false=>
          cases h4:zt gP r with
          |true=>exact FI c f h0 h1 h2 h3 h4 a
          |false=>
            cases h5:zt rW r with
            |true=>exact wV c f h0 h1 h2 h3 h4 h5 a
            |false=>
              cases h6:zt EG r with
              |true=>exact CQ c f h0 h1 h2 h3 h4 h5 h6 a
              |false=>
                cases h7:zt k0 r with
                |true=>exact FJ c f h0 h1 h2 h3 h4 h5 h6 h7 a
                |false=>exact OE c f h0 h1 h2 h3 h4 h5 h6 h7 a
 .exact OH c l O a
