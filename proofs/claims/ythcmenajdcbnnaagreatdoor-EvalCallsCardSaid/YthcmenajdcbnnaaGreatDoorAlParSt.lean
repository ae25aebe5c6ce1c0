import Derived.Test.YthcmenajdcbnnaaGreatDoorAlParEx
set_option linter.unusedSimpArgs false
set_option linter.unusedVariables false
set_option maxRecDepth 100000
namespace Go.Proofs.YthcmenajdcbnnaaGreatDoor
open Go.RowKit Tryz
variable{w:C4}{b n:Nat}{V:C5}{d:Int}{r:List fH}
def jT{α β γ:Type}(A:PR α)(k:List fH->PR β)(F:α->β->γ):PR γ:=A.bind fun a r=>(k r).bind fun b r=>.ok (F a b) r
theorem ji{α β γ:Type}(A:PR α)(k:List fH->PR β)(F:α->β->γ):(jT A k F).un=(A.un.bind fun _ r=>k r).un:=by
 cases A with
 |ok a r=>
   show((k r).bind fun b r=>PR.ok (F a b) r).un=(k r).un;rw[jj];rfl
 |_=>rfl
theorem jF{α β γ:Type}{c:PR α}{k:List fH->PR β}{F:α->β->γ}{P1:α->Prop}{P2:β->Prop}{Q:γ->Prop}(d:ja c P1)(j:ja (c.un.bind fun _ r=>k r) P2)(n:zI (c.un.bind fun _ r=>k r))(e:∀a b,P1 a->P2 b->Q (F a b)):ja (jT c k F) Q:=by
 obtain⟨i,l⟩:=j.some n;cases c with
 |ok a r=>
   have m:ja ((k r).bind fun b r=>PR.ok (F a b) r) Q:=ja.bind (show ja (k r) P2 from j) (fun b r _ g=>e a b d g) fun b g=>⟨_,e a b d g⟩
   exact m
 |bad r=>obtain⟨a,f⟩:=d;exact⟨_,e a i f l⟩
 |deep r=>obtain⟨a,f⟩:=d;exact⟨_,e a i f l⟩
 |o=>trivial
theorem qd{α β γ:Type}{A:PR α}{k:List fH->PR β}{F:α->β->γ}(h:zI (jT A k F)):zI (A.un.bind fun _ r=>k r):=by
 cases A with
 |ok a r=>exact qM (show zI ((k r).bind fun b r=>PR.ok (F a b) r)from h)
 |bad r=>trivial
 |deep r=>trivial
 |o=>exact h
theorem qO{α β γ:Type}{A:PR α}{k:List fH->PR β}{F:α->β->γ}(h:zI (jT A k F)):zI A:=qM h
theorem kB{α γ:Type}(A:PR α)(t:List UInt8)(F:α->Unit->γ):(jT A (fun r=>zN t r) F).un=A.un.bind fun _ r=>zN t r:=by rw[ji,rD]
theorem mQ{L:Nat}{x:PR Ex}{v:C5}(d:ja x fun a=>zbx L w a v)(f:zI x):∃b m c,v=.slice b m c:=by
 obtain⟨a,e⟩:=d.some f;obtain⟨b,c,g,_⟩:=je.form e;exact⟨b,_,c,g⟩
theorem FP{x:PR Int}{v:C5}(b:ja x fun a=>WF w a v)(d:zI x):∃t,v=.int .i64 t:=by
 obtain⟨a,c⟩:=b.some d;exact⟨a,c⟩
theorem mR{α β:Type}(a:α)(r:List fH)(f:α->List fH->PR β):(PR.ok a r).bind f=f a r:=rfl
theorem vS{x:PR Unit}{s:List UInt8}(_:zI (x.bind fun _ r=>zN s r)):ja (x.bind fun _ r=>zN s r) fun _=>True:=by
 cases hx:(x.bind fun _ r=>zN s r)with
 |ok a r=>trivial
 |bad r=>exact⟨(),trivial⟩
 |deep r=>exact⟨(),trivial⟩
 |o=>trivial
def CB(b:Nat)(V:C5)(tj:List fH)(n:Nat)(d:Int):Prop:=∀(w:C4) (x:PR Unit),jm b V tj x w->zI (x.bind fun _ r=>pB n d r)->
 Cz 82 #[(b,0),(d:Int)] w (qk b V tj w (x.bind fun _ r=>pB n d r) (xm w.heap.size))
theorem CB.call{tj:List fH}(a:CB b V tj n d){x:PR Unit}(e:jm b V tj x w)(c:zI (x.bind fun _ r=>pB n d r)):
 Cz 82 #[(b,0),(d:Int)] w (qk b V tj w (x.bind fun _ r=>pB n d r) (xm w.heap.size)):=a w x e c
def xb(b:Nat)(V:C5)(tj:List fH)(w:C4)(x:PR Unit)(W:C4)(c0 c1 c2 c3 c4 c5:C5):Prop:=jv b V tj w x W/\W.heap[w.heap.size+1]?=some (.cells #[c0,c1,c2,c3,c4,c5] 139 (0,0))
section
variable {b:Nat}{V:C5}{tj:List fH} {w W W':C4}{x y:PR Unit}{c0 c1 c2 c3 c4 c5:C5}
theorem xb.start(h:jm b V tj x w):xb b V tj w x ((w.alloc ue).alloc ue) (.int .i64 0) (.int .i64 0) (.string ⟨#[]⟩) (.slice none 0 0) (.slice none 0 0) (.slice none 0 0):=
 ⟨(jv.start h).alloc ue,by have:=Ds (w.alloc ue) ue;rw[zA]at this;exact this⟩
theorem xb.st(h:xb b V tj w x W c0 c1 c2 c3 c4 c5):jm b V tj x W:=h.1.st
theorem xb.size(h:xb b V tj w x W c0 c1 c2 c3 c4 c5):w.heap.size+1<W.heap.size:=(Array.getElem?_eq_some_iff.1 h.2).1
theorem xb.ne(h:xb b V tj w x W c0 c1 c2 c3 c4 c5):w.heap.size+1≠b:=by have:=h.1.lt;omega
theorem xb.step(h:xb b V tj w x W c0 c1 c2 c3 c4 c5)(g:jK b V tj W y W'):xb b V tj w y W' c0 c1 c2 c3 c4 c5:=⟨h.1.step g,jI g.off h.size h.ne h.2⟩
theorem xb.alloc(h:xb b V tj w x W c0 c1 c2 c3 c4 c5)(o:Obj):xb b V tj w x (W.alloc o) c0 c1 c2 c3 c4 c5:=⟨h.1.alloc o,zu h.2 o⟩
theorem xb.own(h:xb b V tj w x W c0 c1 c2 c3 c4 c5):(W.cell? (w.heap.size,0)=some (.int .i64 0)/\W.cell? (w.heap.size,1)=some (.int .i64 0)/\W.cell? (w.heap.size,2)=some (.string ⟨#[]⟩)/\
 W.cell? (w.heap.size,3)=some (.slice none 0 0)/\W.cell? (w.heap.size,4)=some (.slice none 0 0)/\W.cell? (w.heap.size,5)=some (.slice none 0 0))/\∀o,W.frozen? ⟨w.heap.size,o,none⟩=false:=h.1.own
theorem xb.s(h:xb b V tj w x W c0 c1 c2 c3 c4 c5):(W.cell? (w.heap.size+1,0)=some c0/\W.cell? (w.heap.size+1,1)=some c1/\W.cell? (w.heap.size+1,2)=some c2/\W.cell? (w.heap.size+1,3)=some c3/\W.cell? (w.heap.size+1,4)=some c4/\W.cell? (w.heap.size+1,5)=some c5)/\∀o,W.frozen? ⟨w.heap.size+1,o,none⟩=false:=qU h.2
theorem xb.set0(h:xb b V tj w x W c0 c1 c2 c3 c4 c5)(u:C5):xb b V tj w x (W.setCell (w.heap.size+1,0) u) u c1 c2 c3 c4 c5:=⟨h.1.set O 0 u,D3 h.2 u⟩
theorem xb.ww(h:xb b V tj w x W c0 c1 c2 c3 c4 c5)(u:C5):xb b V tj w x (W.setCell (w.heap.size+1,1) u) c0 u c2 c3 c4 c5:=⟨h.1.set O 1 u,D3 h.2 u⟩
theorem xb.set2(h:xb b V tj w x W c0 c1 c2 c3 c4 c5)(u:C5):xb b V tj w x (W.setCell (w.heap.size+1,2) u) c0 c1 u c3 c4 c5:=⟨h.1.set O 2 u,D3 h.2 u⟩
theorem xb.wk(h:xb b V tj w x W c0 c1 c2 c3 c4 c5)(u:C5):xb b V tj w x (W.setCell (w.heap.size+1,3) u) c0 c1 c2 u c4 c5:=⟨h.1.set O 3 u,D3 h.2 u⟩
theorem xb.wz(h:xb b V tj w x W c0 c1 c2 c3 c4 c5)(u:C5):xb b V tj w x (W.setCell (w.heap.size+1,4) u) c0 c1 c2 c3 u c5:=⟨h.1.set O 4 u,D3 h.2 u⟩
theorem xb.set5(h:xb b V tj w x W c0 c1 c2 c3 c4 c5)(u:C5):xb b V tj w x (W.setCell (w.heap.size+1,5) u) c0 c1 c2 c3 c4 u:=⟨h.1.set O 5 u,D3 h.2 u⟩
theorem xb.fin(c:xb b V tj w y W c0 c1 c2 c3 c4 c5){X:PR St}(e:X.un=y)(d:ja X fun a=>gX w.heap.size (gY W w.heap.size c0 c1 c2 c3 c4 c5) a (.agg #[c0,c1,c2,c3,c4,c5])):
 qk b V tj w X (gX w.heap.size) (.returned (.agg #[c0,c1,c2,c3,c4,c5])) (gY W w.heap.size c0 c1 c2 c3 c4 c5):=c.1.fin e d
end
theorem FQ{tj:List fH}(j:zc b V tj r false false w)(R:0<=d/\d<=100)(p:zq k2 r=false)(k:zq xR r=false)(m:zq MQ r=false)(t:zq vJ r=false)(l:zq hM r=true)(q:zI (pS (n+1) d r)):
 Cz 103 #[(b,0),(d:Int)] w (qk b V tj w (pS (n+1) d r) (gX w.heap.size)):=by
 obtain⟨_,_⟩:=R;have c:=U (xb.start (x:=.ok () r) j);have S:=j.lt;have T:¬100<d:=O
 have F:pS (n+1) d r=jT (PR.ok (St.mk 6 0 bE [] [] []) r.tail) (fun r=>zN [59] r) fun a _=>a:=by rw[pS,Dp O,Dp (by rw[p,k];decide),Dp (by rw[m];decide),Dp (by rw[t];decide),Dq l];rfl
 rw[F]at q ⊢;have G:=C2 (zU (⟨#[105,110,116]⟩:C3).data.toList (PR.ok () r)=false) p;have H:=C2 (zU (⟨#[98,111,111,108]⟩:C3).data.toList (PR.ok () r)=false) k;have I:=C2 (zU (⟨#[105,102]⟩:C3).data.toList (PR.ok () r)=false) m;have J:=C2 (zU (⟨#[119,104,105,108,101]⟩:C3).data.toList (PR.ok () r)=false) t;have K:=C2 (zU (⟨#[98,114,101,97,107]⟩:C3).data.toList (PR.ok () r)=true) l;have E:=U (qd q);clear j q F p k m t l;go_enter func103,ntmps103
 go_wp2_with (first
  |(go_at_call 81;(with_reducible refine(jh c.o.st _ false G.o).mono ?_);rintro e g ⟨rfl,f⟩;replace c:=U (c.o.step f);clear f)
  |(go_at_call 81;(with_reducible refine(jh c.o.st _ false H.o).mono ?_);rintro e g ⟨rfl,f⟩;replace c:=U (c.o.step f);clear f)
  | (go_at_call 56;(with_reducible refine(zE c.o.st _ I.o).mono ?_);rintro e g ⟨rfl,f⟩
     replace c:=U (c.o.step f);clear f;obtain⟨⟨c0,c1,c2,c3,c4,c5⟩,i⟩:=c.o.own
     obtain⟨⟨u,y,z,A,B,C⟩,D⟩:=c.o.s)
  | (go_at_call 56;(with_reducible refine(zE c.o.st _ J.o).mono ?_);rintro e g ⟨rfl,f⟩
     replace c:=U (c.o.step f);clear f;obtain⟨⟨c0,c1,c2,c3,c4,c5⟩,i⟩:=c.o.own
     obtain⟨⟨u,y,z,A,B,C⟩,D⟩:=c.o.s)
  | (go_at_call 56;(with_reducible refine(qA c.o.st _ K.o).mono ?_);rintro e g ⟨rfl,f⟩
     replace c:=C2 (xb b V tj w (.ok () r.tail) g _ _ _ _ _ _) (c.o.step f);clear f;obtain⟨⟨c0,c1,c2,c3,c4,c5⟩,i⟩:=c.o.own
     obtain⟨⟨u,y,z,A,B,C⟩,D⟩:=c.o.s)
  | (go_at_call 58;(with_reducible refine(zg (c.o.set0 (.int .i64 6)).st ⟨#[59]⟩).mono ?_);rintro e w9 ⟨rfl,f⟩
     replace c:=U ((c.o.set0 (.int .i64 6)).step f);have W:=c.o.size;clear f;obtain⟨⟨c0,c1,c2,c3,c4,c5⟩,i⟩:=c.o.own
     obtain⟨⟨u,y,z,A,B,C⟩,D⟩:=c.o.s))
 obtain⟨L,f1,M,f3,N,P⟩:=c.o.1.read (.int .i64 6) (.int .i64 0) (.string ⟨#[]⟩) (.slice none 0 0) (.slice none 0 0) (.slice none 0 0);refine bodyPost_ret (v:=.agg #[(6:Int),(0:Int),.string ⟨#[]⟩,(),(),()]) (by simp[results,results103,go_sem,L,f1,M,f3,N,P]) rfl ?_;refine c.o.fin (kB _ _ _) ?_;exact jF (P1:=fun a=>a=St.mk 6 0 bE [] [] []) rfl (vS (x:=.ok () r.tail) E.o) E.o fun a _ Q _=>by subst Q;exact⟨_,_,_,rfl,FM _ _,qy _ _,qy _ _⟩
theorem w4{tj:List fH}(u:zc b V tj r false false w)(T:0<=d/\d<=100)(C:zq k2 r=false)(y:zq xR r=false)(B:zq MQ r=false)(E:zq vJ r=false)(z:zq hM r=false)(A:zq rZ r=true)(D:zI (pS (n+1) d r)):
 Cz 103 #[(b,0),(d:Int)] w (qk b V tj w (pS (n+1) d r) (gX w.heap.size)):=by
 obtain⟨_,_⟩:=T;have c:=U (xb.start (x:=.ok () r) u);have W:=u.lt;have X:¬100<d:=O
 have G:pS (n+1) d r=jT (PR.ok (St.mk 7 0 bE [] [] []) r.tail) (fun r=>zN [59] r) fun a _=>a:=by rw[pS,Dp O,Dp (by rw[C,y];decide),Dp (by rw[B];decide),Dp (by rw[E];decide),Dp (by rw[z];decide),Dq A];rfl
 rw[G]at D ⊢;have H:=C2 (zU (⟨#[105,110,116]⟩:C3).data.toList (PR.ok () r)=false) C;have I:=C2 (zU (⟨#[98,111,111,108]⟩:C3).data.toList (PR.ok () r)=false) y;have J:=C2 (zU (⟨#[105,102]⟩:C3).data.toList (PR.ok () r)=false) B;have K:=C2 (zU (⟨#[119,104,105,108,101]⟩:C3).data.toList (PR.ok () r)=false) E;have L:=C2 (zU (⟨#[98,114,101,97,107]⟩:C3).data.toList (PR.ok () r)=false) z;have M:=C2 (zU (⟨#[99,111,110,116,105,110,117,101]⟩:C3).data.toList (PR.ok () r)=true) A;have F:=U (qd D);clear u D G C y B E z A;go_enter func103,ntmps103
 go_wp2_with (first
  |(go_at_call 81;(with_reducible refine(jh c.o.st _ false H.o).mono ?_);rintro e g ⟨rfl,f⟩;replace c:=U (c.o.step f);clear f)
  |(go_at_call 81;(with_reducible refine(jh c.o.st _ false I.o).mono ?_);rintro e g ⟨rfl,f⟩;replace c:=U (c.o.step f);clear f)
  | (go_at_call 56;(with_reducible refine(zE c.o.st _ J.o).mono ?_);rintro e g ⟨rfl,f⟩
     replace c:=U (c.o.step f);clear f;obtain⟨⟨c0,c1,c2,c3,c4,c5⟩,i⟩:=c.o.own
     obtain⟨⟨j,k,l,m,p,q⟩,t⟩:=c.o.s)
  | (go_at_call 56;(with_reducible refine(zE c.o.st _ K.o).mono ?_);rintro e g ⟨rfl,f⟩
     replace c:=U (c.o.step f);clear f;obtain⟨⟨c0,c1,c2,c3,c4,c5⟩,i⟩:=c.o.own
     obtain⟨⟨j,k,l,m,p,q⟩,t⟩:=c.o.s)
  | (go_at_call 56;(with_reducible refine(zE c.o.st _ L.o).mono ?_);rintro e g ⟨rfl,f⟩
     replace c:=U (c.o.step f);clear f;obtain⟨⟨c0,c1,c2,c3,c4,c5⟩,i⟩:=c.o.own
     obtain⟨⟨j,k,l,m,p,q⟩,t⟩:=c.o.s)
  | (go_at_call 56;(with_reducible refine(qA c.o.st _ M.o).mono ?_);rintro e g ⟨rfl,f⟩
     replace c:=C2 (xb b V tj w (.ok () r.tail) g _ _ _ _ _ _) (c.o.step f);clear f;obtain⟨⟨c0,c1,c2,c3,c4,c5⟩,i⟩:=c.o.own
     obtain⟨⟨j,k,l,m,p,q⟩,t⟩:=c.o.s)
  | (go_at_call 58;(with_reducible refine(zg (c.o.set0 (.int .i64 7)).st ⟨#[59]⟩).mono ?_);rintro e w9 ⟨rfl,f⟩
     replace c:=U ((c.o.set0 (.int .i64 7)).step f);have Y:=c.o.size;clear f;obtain⟨⟨c0,c1,c2,c3,c4,c5⟩,i⟩:=c.o.own
     obtain⟨⟨j,k,l,m,p,q⟩,t⟩:=c.o.s))
 obtain⟨N,f1,P,f3,Q,R⟩:=c.o.1.read (.int .i64 7) (.int .i64 0) (.string ⟨#[]⟩) (.slice none 0 0) (.slice none 0 0) (.slice none 0 0);refine bodyPost_ret (v:=.agg #[(7:Int),(0:Int),.string ⟨#[]⟩,(),(),()]) (by simp[results,results103,go_sem,N,f1,P,f3,Q,R]) rfl ?_;refine c.o.fin (kB _ _ _) ?_;exact jF (P1:=fun a=>a=St.mk 7 0 bE [] [] []) rfl (vS (x:=.ok () r.tail) F.o) F.o fun a _ S _=>by subst S;exact⟨_,_,_,rfl,FM _ _,qy _ _,qy _ _⟩
theorem C7{tj:List fH}(C:zc b V tj r false false w)(ar:0<=d/\d<=100)(J:zq k2 r=false)(E:zq xR r=false)(I:zq MQ r=false)(M:zq vJ r=false)(F:zq hM r=false)(G:zq rZ r=false)(K:zq ES r=true)(A:zI (pS (n+1) d r)):
 Cz 103 #[(b,0),(d:Int)] w (qk b V tj w (pS (n+1) d r) (gX w.heap.size)):=by
 obtain⟨_,_⟩:=ar;have c:=U (xb.start (x:=.ok () r) C);have au:=C.lt;have av:¬100<d:=O
 have P:pS (n+1) d r=jT (jT (PR.ok () r.tail) (fun r=>pE n 1 1 r) fun _ e=>St.mk 8 0 bE [e] [] []) (fun r=>zN [59] r) fun a _=>a:=by rw[pS,Dp O,Dp (by rw[J,E];decide),Dp (by rw[I];decide),Dp (by rw[M];decide),Dp (by rw[F];decide),Dp (by rw[G];decide),Dq K];rfl
 rw[P]at A ⊢;have ag:=C2 (zU (⟨#[105,110,116]⟩:C3).data.toList (PR.ok () r)=false) J;have ah:=C2 (zU (⟨#[98,111,111,108]⟩:C3).data.toList (PR.ok () r)=false) E;have ai:=C2 (zU (⟨#[105,102]⟩:C3).data.toList (PR.ok () r)=false) I;have aj:=C2 (zU (⟨#[119,104,105,108,101]⟩:C3).data.toList (PR.ok () r)=false) M;have ak:=C2 (zU (⟨#[98,114,101,97,107]⟩:C3).data.toList (PR.ok () r)=false) F;have al:=C2 (zU (⟨#[99,111,110,116,105,110,117,101]⟩:C3).data.toList (PR.ok () r)=false) G;have am:=C2 (zU (⟨#[114,101,116,117,114,110]⟩:C3).data.toList (PR.ok () r)=true) K;have N:=U (qd A);have B:=C2 (zI ((PR.ok () r.tail).bind fun _ r=>pE n 1 1 r)) (qd (qO A));have ab:=U (vB (b:=b) (V:=V) (tj:=tj) (n:=n) (d:=1) Uf Uf);clear C A P J E I M F G K;go_enter func103,ntmps103
 go_wp2_with (first
  |(go_at_call 81;(with_reducible refine(jh c.o.st _ false ag.o).mono ?_);rintro e i ⟨rfl,f⟩;replace c:=U (c.o.step f);clear f)
  |(go_at_call 81;(with_reducible refine(jh c.o.st _ false ah.o).mono ?_);rintro e i ⟨rfl,f⟩;replace c:=U (c.o.step f);clear f)
  | (go_at_call 56;(with_reducible refine(zE c.o.st _ ai.o).mono ?_);rintro e i ⟨rfl,f⟩
     replace c:=U (c.o.step f);clear f;obtain⟨⟨c0,c1,c2,c3,c4,c5⟩,k⟩:=c.o.own
     obtain⟨⟨l,m,p,q,t,u⟩,y⟩:=c.o.s)
  | (go_at_call 56;(with_reducible refine(zE c.o.st _ aj.o).mono ?_);rintro e i ⟨rfl,f⟩
     replace c:=U (c.o.step f);clear f;obtain⟨⟨c0,c1,c2,c3,c4,c5⟩,k⟩:=c.o.own
     obtain⟨⟨l,m,p,q,t,u⟩,y⟩:=c.o.s)
  | (go_at_call 56;(with_reducible refine(zE c.o.st _ ak.o).mono ?_);rintro e i ⟨rfl,f⟩
     replace c:=U (c.o.step f);clear f;obtain⟨⟨c0,c1,c2,c3,c4,c5⟩,k⟩:=c.o.own
     obtain⟨⟨l,m,p,q,t,u⟩,y⟩:=c.o.s)
  | (go_at_call 56;(with_reducible refine(zE c.o.st _ al.o).mono ?_);rintro e i ⟨rfl,f⟩
     replace c:=U (c.o.step f);clear f;obtain⟨⟨c0,c1,c2,c3,c4,c5⟩,k⟩:=c.o.own
     obtain⟨⟨l,m,p,q,t,u⟩,y⟩:=c.o.s)
  | (go_at_call 56;(with_reducible refine(qA c.o.st _ am.o).mono ?_);rintro e i ⟨rfl,f⟩
     replace c:=C2 (xb b V tj w (.ok () r.tail) i _ _ _ _ _ _) (c.o.step f);clear f;obtain⟨⟨c0,c1,c2,c3,c4,c5⟩,k⟩:=c.o.own
     obtain⟨⟨l,m,p,q,t,u⟩,y⟩:=c.o.s)
  | (go_at_call 126;(with_reducible refine(ab.o.call c.o.st B.o).mono ?_);rintro e j ⟨v,rfl,f,D⟩
     obtain⟨R,S,W,X,Y,Z,aa,rfl⟩:=jD D B.o;have ae:=C2 (ja _ fun a=>kr (w.heap.size+2) j a _) (D.imp fun a z=>kr.keep z (zL.refl _ _) Ut);replace c:=U (c.o.step f);have ax:=c.o.size;clear f D;obtain⟨⟨c0,c1,c2,c3,c4,c5⟩,k⟩:=c.o.own
     obtain⟨⟨l,m,p,q,t,u⟩,y⟩:=c.o.s)
  | (go_at_call 58;(with_reducible refine(zg (((c.o.set0 (.int .i64 8)).wk (.slice (some ⟨j.heap.size,0,none⟩) 1 1)).alloc (.cells #[.int .i64 R,.int .i64 S,.int .i64 W,.string X,.slice Y Z aa] 147)).st ⟨#[59]⟩).mono ?_);rintro e w9 ⟨rfl,f⟩
     have ad:=C2 (ja _ fun a=>je (w.heap.size+2) _ [a] _) (ae.o.imp fun a z=>uL (T:=147) (kr.keep z ((zL.set (g:=w.heap.size+1) O 0 (.int .i64 8)).trans (zL.set (g:=w.heap.size+1) O 3 (.slice (some ⟨j.heap.size,0,none⟩) 1 1))) Zr) Zr Ug (g:=j.heap.size) Uh);have af:=U (zL.did (L:=w.heap.size+2) f O);replace c:=U ((((c.o.set0 (.int .i64 8)).wk (.slice (some ⟨j.heap.size,0,none⟩) 1 1)).alloc (.cells #[(R:Int),(S:Int),(W:Int),X,(Y,Z,aa)] 147)).step f);have aw:=c.o.size;clear f;obtain⟨⟨c0,c1,c2,c3,c4,c5⟩,k⟩:=c.o.own
     obtain⟨⟨l,m,p,q,t,u⟩,y⟩:=c.o.s))
 obtain⟨an,f1,ao,f3,ap,aq⟩:=c.o.1.read (.int .i64 8) (.int .i64 0) (.string ⟨#[]⟩) (.slice (some ⟨j.heap.size,0,none⟩) 1 1) (.slice none 0 0) (.slice none 0 0);refine bodyPost_ret (v:=.agg #[(8:Int),(0:Int),.string ⟨#[]⟩,.slice (some ⟨j.heap.size,0,none⟩) 1 1,(),()]) (by simp[results,results103,go_sem,an,f1,ao,f3,ap,aq]) rfl ?_;refine c.o.fin (by rw[kB,ji];rfl) ?_;refine jF (jF (P1:=fun _=>True) (P2:=_) (Q:=fun a=>∃e,a=St.mk 8 0 bE [e] [] []/\je (w.heap.size+2) _ [e] _) trivial ad.o B.o (fun _ e _ H=>⟨e,rfl,H⟩)) (vS N.o) N.o fun a _ z _=>?_
 obtain⟨e,rfl,H⟩:=z;exact⟨_,_,_,rfl,je.keep H (af.o.trans (zL.wh O _ _ _ _ _ _)) O,qy _ _,qy _ _⟩
theorem FR{tj:List fH}(D:zc b V tj r false false w)(al:0<=d/\d<=100)(M:zq k2 r=false)(G:zq xR r=false)(K:zq MQ r=false)(R:zq vJ r=false)(H:zq hM r=false)(I:zq rZ r=false)(P:zq ES r=false)(N:zq lK r=true)(B:zI (pS (n+1) d r)):
 Cz 103 #[(b,0),(d:Int)] w (qk b V tj w (pS (n+1) d r) (gX w.heap.size)):=by
 obtain⟨_,_⟩:=al;have c:=U (xb.start (x:=.ok () r) D);have an:=D.lt;have ao:¬100<d:=O
 have T:pS (n+1) d r=jT (jT (PR.ok () r.tail) (fun r=>pI n r) fun _ e=>St.mk 9 0 bE [e] [] []) (fun r=>zN [59] r) fun a _=>a:=by rw[pS,Dp O,Dp (by rw[M,G];decide),Dp (by rw[K];decide),Dp (by rw[R];decide),Dp (by rw[H];decide),Dp (by rw[I];decide),Dp (by rw[P];decide),Dq N];rfl
 rw[T]at B ⊢;have Y:=C2 (zU (⟨#[105,110,116]⟩:C3).data.toList (PR.ok () r)=false) M;have Z:=C2 (zU (⟨#[98,111,111,108]⟩:C3).data.toList (PR.ok () r)=false) G;have aa:=C2 (zU (⟨#[105,102]⟩:C3).data.toList (PR.ok () r)=false) K;have ab:=C2 (zU (⟨#[119,104,105,108,101]⟩:C3).data.toList (PR.ok () r)=false) R;have ad:=C2 (zU (⟨#[98,114,101,97,107]⟩:C3).data.toList (PR.ok () r)=false) H;have ae:=C2 (zU (⟨#[99,111,110,116,105,110,117,101]⟩:C3).data.toList (PR.ok () r)=false) I;have af:=C2 (zU (⟨#[114,101,116,117,114,110]⟩:C3).data.toList (PR.ok () r)=false) P;have ag:=C2 (zU (⟨#[112,114,105,110,116]⟩:C3).data.toList (PR.ok () r)=true) N;have S:=U (qd B);have C:=C2 (zI ((PR.ok () r.tail).bind fun _ r=>pI n r)) (qd (qO B));clear D B T M G K R H I P N;go_enter func103,ntmps103
 go_wp2_with (first
  |(go_at_call 81;(with_reducible refine(jh c.o.st _ false Y.o).mono ?_);rintro e i ⟨rfl,f⟩;replace c:=U (c.o.step f);clear f)
  |(go_at_call 81;(with_reducible refine(jh c.o.st _ false Z.o).mono ?_);rintro e i ⟨rfl,f⟩;replace c:=U (c.o.step f);clear f)
  | (go_at_call 56;(with_reducible refine(zE c.o.st _ aa.o).mono ?_);rintro e i ⟨rfl,f⟩
     replace c:=U (c.o.step f);clear f;obtain⟨⟨c0,c1,c2,c3,c4,c5⟩,j⟩:=c.o.own
     obtain⟨⟨k,l,m,p,q,t⟩,u⟩:=c.o.s)
  | (go_at_call 56;(with_reducible refine(zE c.o.st _ ab.o).mono ?_);rintro e i ⟨rfl,f⟩
     replace c:=U (c.o.step f);clear f;obtain⟨⟨c0,c1,c2,c3,c4,c5⟩,j⟩:=c.o.own
     obtain⟨⟨k,l,m,p,q,t⟩,u⟩:=c.o.s)
  | (go_at_call 56;(with_reducible refine(zE c.o.st _ ad.o).mono ?_);rintro e i ⟨rfl,f⟩
     replace c:=U (c.o.step f);clear f;obtain⟨⟨c0,c1,c2,c3,c4,c5⟩,j⟩:=c.o.own
     obtain⟨⟨k,l,m,p,q,t⟩,u⟩:=c.o.s)
  | (go_at_call 56;(with_reducible refine(zE c.o.st _ ae.o).mono ?_);rintro e i ⟨rfl,f⟩
     replace c:=U (c.o.step f);clear f;obtain⟨⟨c0,c1,c2,c3,c4,c5⟩,j⟩:=c.o.own
     obtain⟨⟨k,l,m,p,q,t⟩,u⟩:=c.o.s)
  | (go_at_call 56;(with_reducible refine(zE c.o.st _ af.o).mono ?_);rintro e i ⟨rfl,f⟩
     replace c:=U (c.o.step f);clear f;obtain⟨⟨c0,c1,c2,c3,c4,c5⟩,j⟩:=c.o.own
     obtain⟨⟨k,l,m,p,q,t⟩,u⟩:=c.o.s)
  | (go_at_call 56;(with_reducible refine(qA c.o.st _ ag.o).mono ?_);rintro e i ⟨rfl,f⟩
     replace c:=C2 (xb b V tj w (.ok () r.tail) i _ _ _ _ _ _) (c.o.step f);clear f;obtain⟨⟨c0,c1,c2,c3,c4,c5⟩,j⟩:=c.o.own
     obtain⟨⟨k,l,m,p,q,t⟩,u⟩:=c.o.s)
  | (go_at_call 127;(with_reducible refine(zAf c.o.st C.o).mono ?_);rintro e am ⟨v,rfl,f,E⟩
     obtain⟨y,z,A,rfl⟩:=mQ E C.o;have W:=C2 (ja _ fun a=>je (w.heap.size+2) am [a] (.slice y z A)) (E.imp fun a F=>je.keep F (zL.refl _ _) Ut);replace c:=U (c.o.step f);clear f E;obtain⟨⟨c0,c1,c2,c3,c4,c5⟩,j⟩:=c.o.own
     obtain⟨⟨k,l,m,p,q,t⟩,u⟩:=c.o.s)
  | (go_at_call 58;(with_reducible refine(zg ((c.o.set0 (.int .i64 9)).wk (.slice y z A)).st ⟨#[59]⟩).mono ?_);rintro e w9 ⟨rfl,f⟩
     have X:=U (((zL.set (L:=w.heap.size+2) (g:=w.heap.size+1) O 0 (.int .i64 9)).trans (zL.set (g:=w.heap.size+1) O 3 (.slice y z A))).trans (zL.did f O));replace c:=U (((c.o.set0 (.int .i64 9)).wk (.slice y z A)).step f);have ap:=c.o.size;clear f;obtain⟨⟨c0,c1,c2,c3,c4,c5⟩,j⟩:=c.o.own
     obtain⟨⟨k,l,m,p,q,t⟩,u⟩:=c.o.s))
 obtain⟨ah,f1,ai,f3,aj,ak⟩:=c.o.1.read (.int .i64 9) (.int .i64 0) (.string ⟨#[]⟩) (.slice y z A) (.slice none 0 0) (.slice none 0 0);refine bodyPost_ret (v:=.agg #[(9:Int),(0:Int),.string ⟨#[]⟩,(y,z,A),(),()]) (by simp[results,results103,go_sem,ah,f1,ai,f3,aj,ak]) rfl ?_;refine c.o.fin (by rw[kB,ji];rfl) ?_;refine jF (jF (P1:=fun _=>True) (P2:=_) (Q:=fun a=>∃e,a=St.mk 9 0 bE [e] [] []/\je (w.heap.size+2) _ [e] _) trivial W.o C.o (fun _ e _ J=>⟨e,rfl,J⟩)) (vS S.o) S.o fun a _ F _=>?_
 obtain⟨e,rfl,J⟩:=F;exact⟨_,_,_,rfl,je.keep J (X.o.trans (zL.wh O _ _ _ _ _ _)) O,qy _ _,qy _ _⟩
theorem NL{tj:List fH}(K:zc b V tj r false false w)(ar:0<=d/\d<=100)(T:zq k2 r=false)(P:zq xR r=false)(S:zq MQ r=false)(Y:zq vJ r=false)(Q:zq hM r=false)(R:zq rZ r=false)(X:zq ES r=false)(W:zq lK r=false)(J:zI (pS (n+1) d r)):
 Cz 103 #[(b,0),(d:Int)] w (qk b V tj w (pS (n+1) d r) (gX w.heap.size)):=by
 obtain⟨_,_⟩:=ar;have c:=U (xb.start (x:=.ok () r) K);have av:=K.lt;have aw:¬100<d:=O
 have ab:pS (n+1) d r=jT ((PR.ok () r).bind fun _ r=>q7 n r) (fun r=>zN [59] r) fun a _=>a:=by rw[pS,Dp O,Dp (by rw[T,P];decide),Dp (by rw[S];decide),Dp (by rw[Y];decide),Dp (by rw[Q];decide),Dp (by rw[R];decide),Dp (by rw[X];decide),Dp (by rw[W];decide)];rfl
 rw[ab]at J ⊢;have af:=C2 (zU (⟨#[105,110,116]⟩:C3).data.toList (PR.ok () r)=false) T;have ag:=C2 (zU (⟨#[98,111,111,108]⟩:C3).data.toList (PR.ok () r)=false) P;have ah:=C2 (zU (⟨#[105,102]⟩:C3).data.toList (PR.ok () r)=false) S;have ai:=C2 (zU (⟨#[119,104,105,108,101]⟩:C3).data.toList (PR.ok () r)=false) Y;have aj:=C2 (zU (⟨#[98,114,101,97,107]⟩:C3).data.toList (PR.ok () r)=false) Q;have ak:=C2 (zU (⟨#[99,111,110,116,105,110,117,101]⟩:C3).data.toList (PR.ok () r)=false) R;have al:=C2 (zU (⟨#[114,101,116,117,114,110]⟩:C3).data.toList (PR.ok () r)=false) X;have am:=C2 (zU (⟨#[112,114,105,110,116]⟩:C3).data.toList (PR.ok () r)=false) W;have Z:=U (qd J);have aa:=C2 (zI ((PR.ok () r).bind fun _ r=>q7 n r)) (qO J);clear K J ab T P S Y Q R X W;go_enter func103,ntmps103
 go_wp2_with (first
  |(go_at_call 81;(with_reducible refine(jh c.o.st _ false af.o).mono ?_);rintro e u ⟨rfl,f⟩;replace c:=U (c.o.step f);clear f)
  |(go_at_call 81;(with_reducible refine(jh c.o.st _ false ag.o).mono ?_);rintro e u ⟨rfl,f⟩;replace c:=U (c.o.step f);clear f)
  | (go_at_call 56;(with_reducible refine(zE c.o.st _ ah.o).mono ?_);rintro e u ⟨rfl,f⟩
     replace c:=U (c.o.step f);clear f;obtain⟨⟨c0,c1,c2,c3,c4,c5⟩,i⟩:=c.o.own
     obtain⟨⟨j,k,l,m,p,q⟩,t⟩:=c.o.s)
  | (go_at_call 56;(with_reducible refine(zE c.o.st _ ai.o).mono ?_);rintro e u ⟨rfl,f⟩
     replace c:=U (c.o.step f);clear f;obtain⟨⟨c0,c1,c2,c3,c4,c5⟩,i⟩:=c.o.own
     obtain⟨⟨j,k,l,m,p,q⟩,t⟩:=c.o.s)
  | (go_at_call 56;(with_reducible refine(zE c.o.st _ aj.o).mono ?_);rintro e u ⟨rfl,f⟩
     replace c:=U (c.o.step f);clear f;obtain⟨⟨c0,c1,c2,c3,c4,c5⟩,i⟩:=c.o.own
     obtain⟨⟨j,k,l,m,p,q⟩,t⟩:=c.o.s)
  | (go_at_call 56;(with_reducible refine(zE c.o.st _ ak.o).mono ?_);rintro e u ⟨rfl,f⟩
     replace c:=U (c.o.step f);clear f;obtain⟨⟨c0,c1,c2,c3,c4,c5⟩,i⟩:=c.o.own
     obtain⟨⟨j,k,l,m,p,q⟩,t⟩:=c.o.s)
  | (go_at_call 56;(with_reducible refine(zE c.o.st _ al.o).mono ?_);rintro e u ⟨rfl,f⟩
     replace c:=U (c.o.step f);clear f;obtain⟨⟨c0,c1,c2,c3,c4,c5⟩,i⟩:=c.o.own
     obtain⟨⟨j,k,l,m,p,q⟩,t⟩:=c.o.s)
  | (go_at_call 56;(with_reducible refine(zE c.o.st _ am.o).mono ?_);rintro e u ⟨rfl,f⟩
     replace c:=U (c.o.step f);clear f;obtain⟨⟨c0,c1,c2,c3,c4,c5⟩,i⟩:=c.o.own
     obtain⟨⟨j,k,l,m,p,q⟩,t⟩:=c.o.s)
  | (go_at_call 128;(with_reducible refine(AU c.o.st aa.o).mono ?_);rintro e au ⟨v,rfl,f,M⟩
     obtain⟨B,C,D,y,E,H,z,F,q4,A,G,I,rfl⟩:=oL M aa.o;have ad:=C2 (ja _ fun a=>gX (w.heap.size+2) au a _) (M.imp fun a N=>gX.keep N (zL.refl _ _) Ut);replace c:=U (c.o.step f);clear f M;obtain⟨⟨c0,c1,c2,c3,c4,c5⟩,i⟩:=c.o.own
     obtain⟨⟨j,k,l,m,p,q⟩,t⟩:=c.o.s)
  | (go_at_call 58;(with_reducible refine(zg ((((((c.o.set0 (.int .i64 B)).ww (.int .i64 C)).set2 (.string D)).wk (.slice y E H)).wz (.slice z F q4)).set5 (.slice A G I)).st ⟨#[59]⟩).mono ?_);rintro e w9 ⟨rfl,f⟩
     have ae:=U ((zL.wh (L:=w.heap.size+2) (g:=w.heap.size+1) O (.int .i64 B) (.int .i64 C) (.string D) (.slice y E H) (.slice z F q4) (.slice A G I)).trans (zL.did f O));replace c:=U (((((((c.o.set0 (.int .i64 B)).ww (.int .i64 C)).set2 (.string D)).wk (.slice y E H)).wz (.slice z F q4)).set5 (.slice A G I)).step f);have ax:=c.o.size;clear f;obtain⟨⟨c0,c1,c2,c3,c4,c5⟩,i⟩:=c.o.own
     obtain⟨⟨j,k,l,m,p,q⟩,t⟩:=c.o.s))
 obtain⟨an,f1,ao,f3,ap,aq⟩:=c.o.1.read (.int .i64 B) (.int .i64 C) (.string D) (.slice y E H) (.slice z F q4) (.slice A G I);refine bodyPost_ret (v:=.agg #[(B:Int),(C:Int),D,(y,E,H),(z,F,q4),(A,G,I)]) (by simp[results,results103,go_sem,an,f1,ao,f3,ap,aq]) rfl ?_;refine c.o.fin (kB _ _ _) ?_;exact jF ad.o (vS Z.o) Z.o fun a _ N _=>gX.keep N (ae.o.trans (zL.wh O _ _ _ _ _ _)) O
theorem R4{tj:List fH}(m:zc b V tj r false false w)(ap:0<=d/\d<=100)(H:zq k2 r=true)(l:zI (pS (n+1) d r)):
 Cz 103 #[(b,0),(d:Int)] w (qk b V tj w (pS (n+1) d r) (gX w.heap.size)):=by
 obtain⟨_,_⟩:=ap;have c:=U (xb.start (x:=.ok () r) m);have au:=m.lt;have av:¬100<d:=O
 have K:pS (n+1) d r=jT (jT (jT ((PR.ok () r).bind fun _ r=>k3 r) (fun r=>qt 1 r) fun t s=>(t,s)) (fun r=>(zN [61] r).bind fun _ r=>pE n 1 1 r) fun p e=>St.mk 1 p.1 p.2 [e] [] []) (fun r=>zN [59] r) fun a _=>a:=by
  rw[pS,Dp O,Dq (.inl H)];unfold vK jT;simp only[zb,mR]
 rw[K]at l ⊢;have aj:=C2 (zU (⟨#[105,110,116]⟩:C3).data.toList (PR.ok () r)=true) H;have I:=U (qd l);have u:=qd (qO l);have ah:=U u;have M:=qO (qO (qO l));have ag:=U M;have ai:=U (qd (qO (qO l)));rw[ji,<-zb]at u;have J:=U u;clear m l K u M H;have Z:=U (vB (b:=b) (V:=V) (tj:=tj) (n:=n) (d:=1) Uf Uf);go_enter func103,ntmps103
 go_wp2_with (first
  |(go_at_call 81;(with_reducible refine(jh c.o.st _ true aj.o).mono ?_);rintro e _ ⟨rfl,f⟩;replace c:=U (c.o.step f);clear f)
  | (go_at_call 54;(with_reducible refine(uT c.o.st).mono ?_);rintro e _ ⟨v,rfl,f,i⟩
     obtain⟨t,rfl⟩:=FP i ag.o;have ae:=C2 (ja _ fun a=>a=t) (i.imp fun a j=>Gq);replace c:=U (c.o.step f);clear f i;obtain⟨⟨c0,c1,c2,c3,c4,c5⟩,q⟩:=c.o.own
     obtain⟨⟨y,z,A,B,C,D⟩,E⟩:=c.o.s)
  | (go_at_call 55;(with_reducible refine(y9 ((c.o.set0 (.int .i64 1)).ww (.int .i64 t)).st 1 Uf).mono ?_);rintro e _ ⟨s,rfl,f,i⟩
     have ad:=U i;replace c:=U (((c.o.set0 (.int .i64 1)).ww (.int .i64 t)).step f);clear f i;obtain⟨⟨c0,c1,c2,c3,c4,c5⟩,q⟩:=c.o.own
     obtain⟨⟨y,z,A,B,C,D⟩,E⟩:=c.o.s)
  | (go_at_call 58;(with_reducible refine(zg (c.o.set2 (.string s)).st ⟨#[61]⟩).mono ?_);rintro e ar ⟨rfl,f⟩
     replace c:=C2 (xb b V tj w ((((PR.ok () r).bind fun _ r=>k3 r).un.bind fun _ r=>qt 1 r).un.bind fun _ r=>zN [61] r) ar _ _ _ _ _ _) ((c.o.set2 (.string s)).step f);clear f;obtain⟨⟨c0,c1,c2,c3,c4,c5⟩,q⟩:=c.o.own
     obtain⟨⟨y,z,A,B,C,D⟩,E⟩:=c.o.s)
  | (go_at_call 126;(with_reducible refine(Z.o.call c.o.st J.o).mono ?_);rintro e k ⟨v,rfl,f,i⟩
     obtain⟨N,P,R,S,W,X,Y,rfl⟩:=jD i J.o;have ab:=C2 (ja _ fun a=>kr (w.heap.size+2) k a _) (i.imp fun a j=>kr.keep j (zL.refl _ _) Ut);replace c:=U (c.o.step f);have ax:=c.o.size;clear f i;obtain⟨⟨c0,c1,c2,c3,c4,c5⟩,q⟩:=c.o.own
     obtain⟨⟨y,z,A,B,C,D⟩,E⟩:=c.o.s)
  | (go_at_call 58;(with_reducible refine(zg ((c.o.wk (.slice (some ⟨k.heap.size,0,none⟩) 1 1)).alloc (.cells #[.int .i64 N,.int .i64 P,.int .i64 R,.string S,.slice W X Y] 147)).st ⟨#[59]⟩).mono ?_);rintro e w9 ⟨rfl,f⟩
     have aa:=C2 (ja _ fun a=>je (w.heap.size+2) _ [a] _) (ab.o.imp fun a j=>uL (T:=147) (kr.keep j (zL.set (g:=w.heap.size+1) O 3 (.slice (some ⟨k.heap.size,0,none⟩) 1 1)) Zr) Zr Ug (g:=k.heap.size) Uh);have af:=U (zL.did (L:=w.heap.size+2) f O);replace c:=U (((c.o.wk (.slice (some ⟨k.heap.size,0,none⟩) 1 1)).alloc (.cells #[(N:Int),(P:Int),(R:Int),S,(W,X,Y)] 147)).step f);have aw:=c.o.size;clear f;obtain⟨⟨c0,c1,c2,c3,c4,c5⟩,q⟩:=c.o.own
     obtain⟨⟨y,z,A,B,C,D⟩,E⟩:=c.o.s))
 obtain⟨ak,f1,al,f3,am,an⟩:=c.o.1.read (.int .i64 1) (.int .i64 t) (.string s) (.slice (some ⟨k.heap.size,0,none⟩) 1 1) (.slice none 0 0) (.slice none 0 0);refine bodyPost_ret (v:=.agg #[(1:Int),(t:Int),s,.slice (some ⟨k.heap.size,0,none⟩) 1 1,(),()]) (by simp[results,results103,go_sem,ak,f1,al,f3,am,an]) rfl ?_;refine c.o.fin (by rw[kB,ji,ji,<-zb]) ?_;have hF:=aa.o;rw[zb,<-ji (F:=fun(a:Int) (s:C3)=>(a,s))]at hF;refine jF (jF (Q:=fun a=>∃e,a=St.mk 1 t s [e] [] []/\je (w.heap.size+2) _ [e] _) (jF (Q:=fun p=>p=(t,s)) ae.o ad.o ai.o (fun a b j ao=>by rw[j,ao])) hF ah.o (fun p e aq G=>⟨e,by rw[aq],G⟩)) (vS I.o) I.o fun a _ j _=>?_
 obtain⟨e,rfl,G⟩:=j;exact⟨_,_,_,rfl,je.keep G (af.o.trans (zL.wh O _ _ _ _ _ _)) O,qy _ _,qy _ _⟩
theorem NM{tj:List fH}(m:zc b V tj r false false w)(ar:0<=d/\d<=100)(N:zq k2 r=false)(G:zq xR r=true)(l:zI (pS (n+1) d r)):
 Cz 103 #[(b,0),(d:Int)] w (qk b V tj w (pS (n+1) d r) (gX w.heap.size)):=by
 obtain⟨_,_⟩:=ar;have c:=U (xb.start (x:=.ok () r) m);have ax:=m.lt;have ay:¬100<d:=O
 have K:pS (n+1) d r=jT (jT (jT ((PR.ok () r).bind fun _ r=>k3 r) (fun r=>qt 1 r) fun t s=>(t,s)) (fun r=>(zN [61] r).bind fun _ r=>pE n 1 1 r) fun p e=>St.mk 1 p.1 p.2 [e] [] []) (fun r=>zN [59] r) fun a _=>a:=by
  rw[pS,Dp O,Dq (.inr G)];unfold vK jT;simp only[zb,mR]
 rw[K]at l ⊢;have ak:=C2 (zU (⟨#[105,110,116]⟩:C3).data.toList (PR.ok () r)=false) N;have al:=C2 (zU (⟨#[98,111,111,108]⟩:C3).data.toList (PR.ok () r)=true) G;have I:=U (qd l);have u:=qd (qO l);have ai:=U u;have M:=qO (qO (qO l));have ah:=U M;have aj:=U (qd (qO (qO l)));rw[ji,<-zb]at u;have J:=U u;clear m l K u M N G;have aa:=U (vB (b:=b) (V:=V) (tj:=tj) (n:=n) (d:=1) Uf Uf);go_enter func103,ntmps103
 go_wp2_with (first
  |(go_at_call 81;(with_reducible refine(jh c.o.st _ false ak.o).mono ?_);rintro e av ⟨rfl,f⟩;replace c:=U (c.o.step f);clear f)
  |(go_at_call 81;(with_reducible refine(jh c.o.st _ true al.o).mono ?_);rintro e av ⟨rfl,f⟩;replace c:=U (c.o.step f);clear f)
  | (go_at_call 54;(with_reducible refine(uT c.o.st).mono ?_);rintro e _ ⟨v,rfl,f,i⟩
     obtain⟨t,rfl⟩:=FP i ah.o;have af:=C2 (ja _ fun a=>a=t) (i.imp fun a j=>Gq);replace c:=U (c.o.step f);clear f i;obtain⟨⟨c0,c1,c2,c3,c4,c5⟩,q⟩:=c.o.own
     obtain⟨⟨y,z,A,B,C,D⟩,E⟩:=c.o.s)
  | (go_at_call 55;(with_reducible refine(y9 ((c.o.set0 (.int .i64 1)).ww (.int .i64 t)).st 1 Uf).mono ?_);rintro e _ ⟨s,rfl,f,i⟩
     have ae:=U i;replace c:=U (((c.o.set0 (.int .i64 1)).ww (.int .i64 t)).step f);clear f i;obtain⟨⟨c0,c1,c2,c3,c4,c5⟩,q⟩:=c.o.own
     obtain⟨⟨y,z,A,B,C,D⟩,E⟩:=c.o.s)
  | (go_at_call 58;(with_reducible refine(zg (c.o.set2 (.string s)).st ⟨#[61]⟩).mono ?_);rintro e aw ⟨rfl,f⟩
     replace c:=C2 (xb b V tj w ((((PR.ok () r).bind fun _ r=>k3 r).un.bind fun _ r=>qt 1 r).un.bind fun _ r=>zN [61] r) aw _ _ _ _ _ _) ((c.o.set2 (.string s)).step f);clear f;obtain⟨⟨c0,c1,c2,c3,c4,c5⟩,q⟩:=c.o.own
     obtain⟨⟨y,z,A,B,C,D⟩,E⟩:=c.o.s)
  | (go_at_call 126;(with_reducible refine(aa.o.call c.o.st J.o).mono ?_);rintro e k ⟨v,rfl,f,i⟩
     obtain⟨P,R,S,W,X,Y,Z,rfl⟩:=jD i J.o;have ad:=C2 (ja _ fun a=>kr (w.heap.size+2) k a _) (i.imp fun a j=>kr.keep j (zL.refl _ _) Ut);replace c:=U (c.o.step f);have aA:=c.o.size;clear f i;obtain⟨⟨c0,c1,c2,c3,c4,c5⟩,q⟩:=c.o.own
     obtain⟨⟨y,z,A,B,C,D⟩,E⟩:=c.o.s)
  | (go_at_call 58;(with_reducible refine(zg ((c.o.wk (.slice (some ⟨k.heap.size,0,none⟩) 1 1)).alloc (.cells #[.int .i64 P,.int .i64 R,.int .i64 S,.string W,.slice X Y Z] 147)).st ⟨#[59]⟩).mono ?_);rintro e w9 ⟨rfl,f⟩
     have ab:=C2 (ja _ fun a=>je (w.heap.size+2) _ [a] _) (ad.o.imp fun a j=>uL (T:=147) (kr.keep j (zL.set (g:=w.heap.size+1) O 3 (.slice (some ⟨k.heap.size,0,none⟩) 1 1)) Zr) Zr Ug (g:=k.heap.size) Uh);have ag:=U (zL.did (L:=w.heap.size+2) f O);replace c:=U (((c.o.wk (.slice (some ⟨k.heap.size,0,none⟩) 1 1)).alloc (.cells #[(P:Int),(R:Int),(S:Int),W,(X,Y,Z)] 147)).step f);have az:=c.o.size;clear f;obtain⟨⟨c0,c1,c2,c3,c4,c5⟩,q⟩:=c.o.own
     obtain⟨⟨y,z,A,B,C,D⟩,E⟩:=c.o.s))
 obtain⟨am,f1,an,f3,ao,ap⟩:=c.o.1.read (.int .i64 1) (.int .i64 t) (.string s) (.slice (some ⟨k.heap.size,0,none⟩) 1 1) (.slice none 0 0) (.slice none 0 0);refine bodyPost_ret (v:=.agg #[(1:Int),(t:Int),s,.slice (some ⟨k.heap.size,0,none⟩) 1 1,(),()]) (by simp[results,results103,go_sem,am,f1,an,f3,ao,ap]) rfl ?_;refine c.o.fin (by rw[kB,ji,ji,<-zb]) ?_;have hF:=ab.o;rw[zb,<-ji (F:=fun(a:Int) (s:C3)=>(a,s))]at hF;refine jF (jF (Q:=fun a=>∃e,a=St.mk 1 t s [e] [] []/\je (w.heap.size+2) _ [e] _) (jF (Q:=fun p=>p=(t,s)) af.o ae.o aj.o (fun a b j aq=>by rw[j,aq])) hF ai.o (fun p e au H=>⟨e,by rw[au],H⟩)) (vS I.o) I.o fun a _ j _=>?_
 obtain⟨e,rfl,H⟩:=j;exact⟨_,_,_,rfl,je.keep H (ag.o.trans (zL.wh O _ _ _ _ _ _)) O,qy _ _,qy _ _⟩
theorem FSq{tj:List fH}(S:CB b V tj n (d+1))(A:zc b V tj r false false w)(ak:0<=d/\d<=100)(E:zq k2 r=false)(C:zq xR r=false)(D:zq MQ r=false)(F:zq vJ r=true)(q:zI (pS (n+1) d r)):
 Cz 103 #[(b,0),(d:Int)] w (qk b V tj w (pS (n+1) d r) (gX w.heap.size)):=by
 obtain⟨_,_⟩:=ak;have c:=U (xb.start (x:=.ok () r) A);have ao:=A.lt;have ap:¬100<d:=O
 have R:pS (n+1) d r=jT ((PR.ok () r.tail).bind fun _ r=>pI n r) (fun r=>pB n (d+1) r) fun e t=>St.mk 5 0 bE [e] t []:=by rw[pS,Dp O,Dp (by rw[E,C];decide),Dp (by rw[D];decide),Dq F];rfl
 rw[R]at q ⊢;have ab:=C2 (zU (⟨#[105,110,116]⟩:C3).data.toList (PR.ok () r)=false) E;have ad:=C2 (zU (⟨#[98,111,111,108]⟩:C3).data.toList (PR.ok () r)=false) C;have ae:=C2 (zU (⟨#[105,102]⟩:C3).data.toList (PR.ok () r)=false) D;have af:=C2 (zU (⟨#[119,104,105,108,101]⟩:C3).data.toList (PR.ok () r)=true) F;have y:=U (qd q);have Q:=U (qO q);have X:=U S;clear A q R S E C D F;go_enter func103,ntmps103
 go_wp2_with (first
  |(go_at_call 81;(with_reducible refine(jh c.o.st _ false ab.o).mono ?_);rintro e u ⟨rfl,f⟩;replace c:=U (c.o.step f);clear f)
  |(go_at_call 81;(with_reducible refine(jh c.o.st _ false ad.o).mono ?_);rintro e u ⟨rfl,f⟩;replace c:=U (c.o.step f);clear f)
  | (go_at_call 56;(with_reducible refine(zE c.o.st _ ae.o).mono ?_);rintro e u ⟨rfl,f⟩
     replace c:=U (c.o.step f);clear f;obtain⟨⟨c0,c1,c2,c3,c4,c5⟩,z⟩:=c.o.own
     obtain⟨⟨G,H,I,J,K,M⟩,N⟩:=c.o.s)
  | (go_at_call 56;(with_reducible refine(qA c.o.st _ af.o).mono ?_);rintro e u ⟨rfl,f⟩
     replace c:=C2 (xb b V tj w (.ok () r.tail) u _ _ _ _ _ _) (c.o.step f);clear f;obtain⟨⟨c0,c1,c2,c3,c4,c5⟩,z⟩:=c.o.own
     obtain⟨⟨G,H,I,J,K,M⟩,N⟩:=c.o.s)
  | (go_at_call 127;(with_reducible refine(zAf c.o.st Q.o).mono ?_);rintro e an ⟨v,rfl,f,i⟩
     obtain⟨j,k,l,rfl⟩:=mQ i Q.o;have Y:=C2 (ja _ fun a=>je (w.heap.size+2) an [a] (.slice j k l)) (i.imp fun a B=>je.keep B (zL.refl _ _) Ut);replace c:=U (c.o.step f);clear f i;obtain⟨⟨c0,c1,c2,c3,c4,c5⟩,z⟩:=c.o.own
     obtain⟨⟨G,H,I,J,K,M⟩,N⟩:=c.o.s)
  | (go_at_call 82;(with_reducible refine(X.o.call ((c.o.set0 (.int .i64 5)).wk (.slice j k l)).st y.o).mono ?_);rintro e W ⟨v,rfl,f,i⟩
     obtain⟨m,p,q4,rfl⟩:=xa i y.o;have aa:=C2 (ja _ fun a=>xm (w.heap.size+2) W a _) (i.imp fun a B=>xm.keep B (zL.refl _ _) Ut);have Z:=U (((zL.set (L:=w.heap.size+2) (g:=w.heap.size+1) O 0 (.int .i64 5)).trans (zL.set (g:=w.heap.size+1) O 3 (.slice j k l))).trans (zL.did f O));replace c:=U (((c.o.set0 (.int .i64 5)).wk (.slice j k l)).step f);clear f i;obtain⟨⟨c0,c1,c2,c3,c4,c5⟩,z⟩:=c.o.own
     obtain⟨⟨G,H,I,J,K,M⟩,N⟩:=c.o.s))
 have P:=U (c.o.wz (.slice m p q4));obtain⟨ag,f1,ah,f3,ai,aj⟩:=P.o.1.read (.int .i64 5) (.int .i64 0) (.string ⟨#[]⟩) (.slice j k l) (.slice m p q4) (.slice none 0 0);refine bodyPost_ret (v:=.agg #[(5:Int),(0:Int),.string ⟨#[]⟩,(j,k,l),(m,p,q4),()]) (by simp[results,results103,go_sem,ag,f1,ah,f3,ai,aj]) rfl ?_;have T:=(zL.set (L:=w.heap.size+2) (w:=W) (g:=w.heap.size+1) O 4 (.slice m p q4)).trans (zL.wh (g:=w.heap.size) O (.int .i64 5) (.int .i64 0) (.string ⟨#[]⟩) (.slice j k l) (.slice m p q4) (.slice none 0 0));refine P.o.fin (ji _ _ _) (jF Y.o aa.o y.o fun e t al am=>?_);exact⟨_,_,_,rfl,je.keep al (Z.o.trans T) O,xm.keep am T O,qy _ _⟩
theorem sT:((pI n r.tail).bind fun e r=>(pB n (d+1) r).bind fun t r=>q8 n d e t r)=(jT ((PR.ok () r.tail).bind fun _ r=>pI n r) (fun r=>pB n (d+1) r) fun e t=>(e,t)).bind fun p r=>q8 n d p.1 p.2 r:=by
 unfold jT;simp only[zb,mR]
theorem mS{tj:List fH}(W:CB b V tj n (d+1))(C:zc b V tj r false false w)(aq:0<=d/\d<=100)(H:zq k2 r=false)(E:zq xR r=false)(G:zq MQ r=true)(y:zU z4 (jT ((PR.ok () r.tail).bind fun _ r=>pI n r) (fun r=>pB n (d+1) r) fun e t=>(e,t))=false)(j:zI (pS (n+1) d r)):
 Cz 103 #[(b,0),(d:Int)] w (qk b V tj w (pS (n+1) d r) (gX w.heap.size)):=by
 obtain⟨_,_⟩:=aq;have c:=U (xb.start (x:=.ok () r) C);have aw:=C.lt;have ax:¬100<d:=O
 have T:pS (n+1) d r=jT ((PR.ok () r.tail).bind fun _ r=>pI n r) (fun r=>pB n (d+1) r) fun e t=>St.mk 4 0 bE [e] t []:=by
  have ao:pS (n+1) d r=(jT ((PR.ok () r.tail).bind fun _ r=>pI n r) (fun r=>pB n (d+1) r) fun e t=>(e,t)).bind fun p r=>q8 n d p.1 p.2 r:=by rw[pS,Dp O,Dp (by rw[H,E];decide),Dq G,sT]
  rw[ao]at j ⊢
  have ap:(jT ((PR.ok () r.tail).bind fun _ r=>pI n r) (fun r=>pB n (d+1) r) fun e t=>St.mk 4 0 bE [e] t [])=(jT ((PR.ok () r.tail).bind fun _ r=>pI n r) (fun r=>pB n (d+1) r) fun e t=>(e,t)).bind fun p r=>.ok (St.mk 4 0 bE [p.1] p.2 []) r:=by
   unfold jT;simp only[zb,mR]
  rw[ap];cases hx:(jT ((PR.ok () r.tail).bind fun _ r=>pI n r) (fun r=>pB n (d+1) r) fun e t=>(e,t))with
  |ok p z=>
    rw[hx]at j y;cases n with
    |zero=>exact absurd (show zI (q8 0 d p.1 p.2 z)from j) (by rw[q8];exact id)
    |succ n=>
      show q8 (n+1) d p.1 p.2 z=.ok _ z;rw[q8,Dp (by rw[show zq z4 z=false from y];decide)]
  |_=>rfl
 rw[T]at j ⊢;have ah:=C2 (zU (⟨#[105,110,116]⟩:C3).data.toList (PR.ok () r)=false) H;have ai:=C2 (zU (⟨#[98,111,111,108]⟩:C3).data.toList (PR.ok () r)=false) E;have aj:=C2 (zU (⟨#[105,102]⟩:C3).data.toList (PR.ok () r)=true) G;have A:=U (qd j);have S:=U (qO j);have aa:=U W
 have X:zU (⟨#[101,108,115,101]⟩:C3).data.toList (((PR.ok () r.tail).bind fun _ r=>pI n r).un.bind fun _ r=>pB n (d+1) r).un=false:=by
  rw[<-ji (F:=fun e t=>(e,t))];revert y;cases(jT ((PR.ok () r.tail).bind fun _ r=>pI n r) (fun r=>pB n (d+1) r) fun e t=>(e,t))<;>exact id
 have ab:=U X;clear C j T W y X H E G;go_enter func103,ntmps103
 go_wp2_with (first
  |(go_at_call 81;(with_reducible refine(jh c.o.st _ false ah.o).mono ?_);rintro e R ⟨rfl,f⟩;replace c:=U (c.o.step f);clear f)
  |(go_at_call 81;(with_reducible refine(jh c.o.st _ false ai.o).mono ?_);rintro e R ⟨rfl,f⟩;replace c:=U (c.o.step f);clear f)
  | (go_at_call 56;(with_reducible refine(qA c.o.st _ aj.o).mono ?_);rintro e R ⟨rfl,f⟩
     replace c:=C2 (xb b V tj w (.ok () r.tail) R _ _ _ _ _ _) (c.o.step f);clear f;obtain⟨⟨c0,c1,c2,c3,c4,c5⟩,B⟩:=c.o.own
     obtain⟨⟨I,J,K,M,N,P⟩,Q⟩:=c.o.s)
  | (go_at_call 127;(with_reducible refine(zAf c.o.st S.o).mono ?_);rintro e av ⟨v,rfl,f,i⟩
     obtain⟨k,l,m,rfl⟩:=mQ i S.o;have ad:=C2 (ja _ fun a=>je (w.heap.size+2) av [a] (.slice k l m)) (i.imp fun a D=>je.keep D (zL.refl _ _) Ut);replace c:=U (c.o.step f);clear f i;obtain⟨⟨c0,c1,c2,c3,c4,c5⟩,B⟩:=c.o.own
     obtain⟨⟨I,J,K,M,N,P⟩,Q⟩:=c.o.s)
  | (go_at_call 82;(with_reducible refine(aa.o.call ((c.o.set0 (.int .i64 4)).wk (.slice k l m)).st A.o).mono ?_);rintro e Z ⟨v,rfl,f,i⟩
     obtain⟨q,u,q4,rfl⟩:=xa i A.o;have ag:=C2 (ja _ fun a=>xm (w.heap.size+2) Z a _) (i.imp fun a D=>xm.keep D (zL.refl _ _) Ut);have ae:=U (((zL.set (L:=w.heap.size+2) (g:=w.heap.size+1) O 0 (.int .i64 4)).trans (zL.set (g:=w.heap.size+1) O 3 (.slice k l m))).trans (zL.did f O));replace c:=U (((c.o.set0 (.int .i64 4)).wk (.slice k l m)).step f);clear f i;obtain⟨⟨c0,c1,c2,c3,c4,c5⟩,B⟩:=c.o.own
     obtain⟨⟨I,J,K,M,N,P⟩,Q⟩:=c.o.s)
  | (go_at_call 56;(with_reducible refine(zE (c.o.wz (.slice q u q4)).st _ ab.o).mono ?_);rintro e _ ⟨rfl,f⟩
     have af:=U ((zL.set (L:=w.heap.size+2) (w:=Z) (g:=w.heap.size+1) O 4 (.slice q u q4)).trans (zL.did f O));replace c:=U ((c.o.wz (.slice q u q4)).step f);clear f;obtain⟨⟨c0,c1,c2,c3,c4,c5⟩,B⟩:=c.o.own
     obtain⟨⟨I,J,K,M,N,P⟩,Q⟩:=c.o.s))
 obtain⟨ak,f1,al,f3,am,an⟩:=c.o.1.read (.int .i64 4) (.int .i64 0) (.string ⟨#[]⟩) (.slice k l m) (.slice q u q4) (.slice none 0 0);refine bodyPost_ret (v:=.agg #[(4:Int),(0:Int),.string ⟨#[]⟩,(k,l,m),(q,u,q4),()]) (by simp[results,results103,go_sem,ak,f1,al,f3,am,an]) rfl ?_;have Y:=af.o.trans (zL.wh (g:=w.heap.size) O (.int .i64 4) (.int .i64 0) (.string ⟨#[]⟩) (.slice k l m) (.slice q u q4) (.slice none 0 0));refine c.o.fin (ji _ _ _) (jF ad.o ag.o A.o fun e t ar au=>?_);exact⟨_,_,_,rfl,je.keep ar (ae.o.trans Y) O,xm.keep au Y O,qy _ _⟩
theorem NN{tj:List fH}{q:Nat}{p:Ex×List St}{j:List fH}(aO:n=q+1)(an:CB b V tj n (d+1))(ao:CB b V tj q (d+1))(T:zc b V tj r false false w)(aN:0<=d/\d<=100)(ab:zq k2 r=false)(X:zq xR r=false)(aa:zq MQ r=true)(A:(jT ((PR.ok () r.tail).bind fun _ r=>pI n r) (fun r=>pB n (d+1) r) fun e t=>(e,t))=.ok p j)(Z:zq z4 j=true)(ae:zI (pS (n+1) d r)):
 Cz 103 #[(b,0),(d:Int)] w (qk b V tj w (pS (n+1) d r) (gX w.heap.size)):=by
 obtain⟨_,_⟩:=aN;have c:=U (xb.start (x:=.ok () r) T);have aQ:=T.lt;have aR:¬100<d:=O
 have al:pS (n+1) d r=(pB q (d+1) j.tail).bind fun P r=>.ok (St.mk 4 0 bE [p.1] p.2 P) r:=by
  have aM:pS (n+1) d r=(jT ((PR.ok () r.tail).bind fun _ r=>pI n r) (fun r=>pB n (d+1) r) fun e t=>(e,t)).bind fun p r=>q8 n d p.1 p.2 r:=by rw[pS,Dp O,Dp (by rw[ab,X];decide),Dq aa,sT]
  rw[aM,A,aO];show q8 (q+1) d p.1 p.2 j=_;rw[q8,Dq Z]
 rw[al]at ae ⊢;have aF:=C2 (zU (⟨#[105,110,116]⟩:C3).data.toList (PR.ok () r)=false) ab;have aG:=C2 (zU (⟨#[98,111,111,108]⟩:C3).data.toList (PR.ok () r)=false) X;have aH:=C2 (zU (⟨#[105,102]⟩:C3).data.toList (PR.ok () r)=true) aa;have W:zI (jT ((PR.ok () r.tail).bind fun _ r=>pI n r) (fun r=>pB n (d+1) r) fun e t=>(e,t)):=by rw[A];trivial
 have S:=U (qd W);have aj:=U (qO W);have ak:=C2 (zI ((PR.ok () j.tail).bind fun _ r=>pB q (d+1) r)) (qM ae);have aw:=U an;have ax:=U ao;have av:=U A;have az:=U (show(((PR.ok () r.tail).bind fun _ r=>pI n r).un.bind fun _ r=>pB n (d+1) r).un=.ok () j by rw[<-ji (F:=fun e t=>(e,t)),A];rfl);have ay:=C2 (zU (⟨#[101,108,115,101]⟩:C3).data.toList (PR.ok () j)=true) Z;clear T ae al an ao Z A W ab X aa;go_enter func103,ntmps103
 go_wp2_with (first
  |(go_at_call 81;(with_reducible refine(jh c.o.st _ false aF.o).mono ?_);rintro e ag ⟨rfl,f⟩;replace c:=U (c.o.step f);clear f)
  |(go_at_call 81;(with_reducible refine(jh c.o.st _ false aG.o).mono ?_);rintro e ag ⟨rfl,f⟩;replace c:=U (c.o.step f);clear f)
  | (go_at_call 56;(with_reducible refine(qA c.o.st _ aH.o).mono ?_);rintro e ag ⟨rfl,f⟩
     replace c:=C2 (xb b V tj w (.ok () r.tail) ag _ _ _ _ _ _) (c.o.step f);clear f;obtain⟨⟨c0,c1,c2,c3,c4,c5⟩,E⟩:=c.o.own
     obtain⟨⟨G,H,I,J,K,M⟩,N⟩:=c.o.s)
  | (go_at_call 127;(with_reducible refine(zAf c.o.st aj.o).mono ?_);rintro e ar ⟨v,rfl,f,i⟩
     obtain⟨k,l,m,rfl⟩:=mQ i aj.o;have aA:=C2 (ja _ fun a=>je (w.heap.size+2) ar [a] (.slice k l m)) (i.imp fun a B=>je.keep B (zL.refl _ _) Ut);replace c:=U (c.o.step f);clear f i;obtain⟨⟨c0,c1,c2,c3,c4,c5⟩,E⟩:=c.o.own
     obtain⟨⟨G,H,I,J,K,M⟩,N⟩:=c.o.s)
  | (go_at_call 82;(with_reducible refine(aw.o.call ((c.o.set0 (.int .i64 4)).wk (.slice k l m)).st S.o).mono ?_);rintro e R ⟨v,rfl,f,i⟩
     obtain⟨u,y,q4,rfl⟩:=xa i S.o;have aD:=C2 (ja _ fun a=>xm (w.heap.size+2) R a _) (i.imp fun a B=>xm.keep B (zL.refl _ _) Ut);have aB:=U (((zL.set (L:=w.heap.size+2) (g:=w.heap.size+1) O 0 (.int .i64 4)).trans (zL.set (g:=w.heap.size+1) O 3 (.slice k l m))).trans (zL.did f O));replace c:=U (show xb b V tj w (.ok () j) R _ _ _ _ _ _ by have am:=((c.o.set0 (.int .i64 4)).wk (.slice k l m)).step f;rw[az.o]at am;exact am);clear f i;obtain⟨⟨c0,c1,c2,c3,c4,c5⟩,E⟩:=c.o.own
     obtain⟨⟨G,H,I,J,K,M⟩,N⟩:=c.o.s)
  | (go_at_call 56;(with_reducible refine(qA (c.o.wz (.slice u y q4)).st _ ay.o).mono ?_);rintro e aP ⟨rfl,f⟩
     have aC:=U ((zL.set (L:=w.heap.size+2) (w:=R) (g:=w.heap.size+1) O 4 (.slice u y q4)).trans (zL.did f O));replace c:=C2 (xb b V tj w (.ok () j.tail) aP _ _ _ _ _ _) ((c.o.wz (.slice u y q4)).step f);clear f;obtain⟨⟨c0,c1,c2,c3,c4,c5⟩,E⟩:=c.o.own
     obtain⟨⟨G,H,I,J,K,M⟩,N⟩:=c.o.s)
  | (go_at_call 82;(with_reducible refine(ax.o.call c.o.st ak.o).mono ?_);rintro e au ⟨v,rfl,f,i⟩
     obtain⟨z,C,D,rfl⟩:=xa i ak.o;have aE:=C2 (ja _ fun a=>xm (w.heap.size+2) au a _) (i.imp fun a B=>xm.keep B (zL.refl _ _) Ut);have ai:=U (aC.o.trans (zL.did f O));replace c:=U (c.o.step f);clear f i;obtain⟨⟨c0,c1,c2,c3,c4,c5⟩,E⟩:=c.o.own
     obtain⟨⟨G,H,I,J,K,M⟩,N⟩:=c.o.s))
 have ah:=U (c.o.set5 (.slice z C D));obtain⟨aI,f1,aJ,f3,aK,aL⟩:=ah.o.1.read (.int .i64 4) (.int .i64 0) (.string ⟨#[]⟩) (.slice k l m) (.slice u y q4) (.slice z C D);refine bodyPost_ret (v:=.agg #[(4:Int),(0:Int),.string ⟨#[]⟩,(k,l,m),(u,y,q4),(z,C,D)]) (by simp[results,results103,go_sem,aI,f1,aJ,f3,aK,aL]) rfl ?_;have ad:=(zL.set (L:=w.heap.size+2) (w:=au) (g:=w.heap.size+1) O 5 (.slice z C D)).trans (zL.wh (g:=w.heap.size) O (.int .i64 4) (.int .i64 0) (.string ⟨#[]⟩) (.slice k l m) (.slice u y q4) (.slice z C D));have ap:=jF (F:=fun e t=>(e,t)) (Q:=fun p:Ex×List St=>je (w.heap.size+2) ar [p.1] (.slice k l m)/\xm (w.heap.size+2) R p.2 (.slice u y q4)) aA.o aD.o S.o fun e t Y af=>⟨Y,af⟩
 rw[av.o]at ap;obtain⟨Y,af⟩:=ap;refine ah.o.fin Kt (ja.bind aE.o (fun P r _ aq=>?_) fun P aq=>⟨St.mk 4 0 bE [p.1] p.2 P,?_⟩)
 all_goals exact⟨_,_,_,rfl,je.keep Y (aB.o.trans (ai.o.trans ad)) O,xm.keep af (ai.o.trans ad) O,xm.keep aq ad O⟩
theorem xb.deepen{tj:List fH}(a:zc b V tj r false false w):xb b V tj w (.deep r) (((w.setCell (b,3) true).alloc ue).alloc ue) (.int .i64 0) (.int .i64 0) (.string ⟨#[]⟩) (.slice none 0 0) (.slice none 0 0) (.slice none 0 0):=by
 have c:jK b V tj w (.deep r) (w.setCell (b,3) true):=⟨a.deepen,(fI.refl b _ _).wt a.lt 3 _⟩
 refine⟨⟨(c.alloc _).alloc _,?_,a.2.1,a.lt⟩,?_⟩
 .refine zu ?_ _
  have:=Ds (w.setCell (b,3) true) ue;rw[xC]at this;exact this
 .have:=Ds ((w.setCell (b,3) true).alloc ue) ue
  rw[zA,xC]at this;exact this
theorem NO{tj:List fH}(A:zc b V tj r false false w)(_:0<=d/\d<=1000)(ah:100<d)(ai:zI (pS (n+1) d r)):
 Cz 103 #[(b,0),(d:Int)] w (qk b V tj w (pS (n+1) d r) (gX w.heap.size)):=by
 have N:pS (n+1) d r=.deep r:=by rw[pS,Dq ah]
 rw[N];have f3:=A.1.frozen 3;obtain⟨_,_,_,_⟩:=A.cells;have aj:=A.lt;have c:=U (xb.deepen A);clear A ai N;have S:=C2 (zU (⟨#[105,110,116]⟩:C3).data.toList (PR.deep r:PR Unit)=false) rfl;have T:=C2 (zU (⟨#[98,111,111,108]⟩:C3).data.toList (PR.deep r:PR Unit)=false) rfl;have W:=C2 (zU (⟨#[105,102]⟩:C3).data.toList (PR.deep r:PR Unit)=false) rfl;have X:=C2 (zU (⟨#[119,104,105,108,101]⟩:C3).data.toList (PR.deep r:PR Unit)=false) rfl;have Y:=C2 (zU (⟨#[98,114,101,97,107]⟩:C3).data.toList (PR.deep r:PR Unit)=false) rfl;have Z:=C2 (zU (⟨#[99,111,110,116,105,110,117,101]⟩:C3).data.toList (PR.deep r:PR Unit)=false) rfl;have aa:=C2 (zU (⟨#[114,101,116,117,114,110]⟩:C3).data.toList (PR.deep r:PR Unit)=false) rfl;have ab:=C2 (zU (⟨#[112,114,105,110,116]⟩:C3).data.toList (PR.deep r:PR Unit)=false) rfl;have M:=C2 (zI ((PR.deep r:PR Unit).bind fun _ r=>q7 0 r)) trivial;go_enter func103,ntmps103
 go_wp2_with (first
  |(go_at_call 81;(with_reducible refine(jh c.o.st _ false S.o).mono ?_);rintro e u ⟨rfl,f⟩;replace c:=U (c.o.step f);clear f)
  |(go_at_call 81;(with_reducible refine(jh c.o.st _ false T.o).mono ?_);rintro e u ⟨rfl,f⟩;replace c:=U (c.o.step f);clear f)
  | (go_at_call 56;(with_reducible refine(zE c.o.st _ W.o).mono ?_);rintro e u ⟨rfl,f⟩
     replace c:=U (c.o.step f);clear f;obtain⟨⟨c0,c1,c2,c3,c4,c5⟩,i⟩:=c.o.own
     obtain⟨⟨j,k,l,m,p,q⟩,t⟩:=c.o.s)
  | (go_at_call 56;(with_reducible refine(zE c.o.st _ X.o).mono ?_);rintro e u ⟨rfl,f⟩
     replace c:=U (c.o.step f);clear f;obtain⟨⟨c0,c1,c2,c3,c4,c5⟩,i⟩:=c.o.own
     obtain⟨⟨j,k,l,m,p,q⟩,t⟩:=c.o.s)
  | (go_at_call 56;(with_reducible refine(zE c.o.st _ Y.o).mono ?_);rintro e u ⟨rfl,f⟩
     replace c:=U (c.o.step f);clear f;obtain⟨⟨c0,c1,c2,c3,c4,c5⟩,i⟩:=c.o.own
     obtain⟨⟨j,k,l,m,p,q⟩,t⟩:=c.o.s)
  | (go_at_call 56;(with_reducible refine(zE c.o.st _ Z.o).mono ?_);rintro e u ⟨rfl,f⟩
     replace c:=U (c.o.step f);clear f;obtain⟨⟨c0,c1,c2,c3,c4,c5⟩,i⟩:=c.o.own
     obtain⟨⟨j,k,l,m,p,q⟩,t⟩:=c.o.s)
  | (go_at_call 56;(with_reducible refine(zE c.o.st _ aa.o).mono ?_);rintro e u ⟨rfl,f⟩
     replace c:=U (c.o.step f);clear f;obtain⟨⟨c0,c1,c2,c3,c4,c5⟩,i⟩:=c.o.own
     obtain⟨⟨j,k,l,m,p,q⟩,t⟩:=c.o.s)
  | (go_at_call 56;(with_reducible refine(zE c.o.st _ ab.o).mono ?_);rintro e u ⟨rfl,f⟩
     replace c:=U (c.o.step f);clear f;obtain⟨⟨c0,c1,c2,c3,c4,c5⟩,i⟩:=c.o.own
     obtain⟨⟨j,k,l,m,p,q⟩,t⟩:=c.o.s)
  | (go_at_call 128;(with_reducible refine(AU c.o.st M.o).mono ?_);rintro e P ⟨v,rfl,f,J⟩
     obtain⟨B,C,D,x,E,H,y,F,q4,z,G,I,rfl⟩:=oL J M.o;have Q:=U (show ∃a,gX (w.heap.size+2) P a _ by obtain⟨a,K⟩:=J;exact⟨a,gX.keep K (zL.refl _ _) Ut⟩);replace c:=C2 (xb b V tj w (.deep r) P _ _ _ _ _ _) (c.o.step f);clear f J;obtain⟨⟨c0,c1,c2,c3,c4,c5⟩,i⟩:=c.o.own
     obtain⟨⟨j,k,l,m,p,q⟩,t⟩:=c.o.s)
  | (go_at_call 58;(with_reducible refine(zg ((((((c.o.set0 (.int .i64 B)).ww (.int .i64 C)).set2 (.string D)).wk (.slice x E H)).wz (.slice y F q4)).set5 (.slice z G I)).st ⟨#[59]⟩).mono ?_);rintro e w9 ⟨rfl,f⟩
     have R:=U ((zL.wh (L:=w.heap.size+2) (g:=w.heap.size+1) O (.int .i64 B) (.int .i64 C) (.string D) (.slice x E H) (.slice y F q4) (.slice z G I)).trans (zL.did f O));replace c:=U (((((((c.o.set0 (.int .i64 B)).ww (.int .i64 C)).set2 (.string D)).wk (.slice x E H)).wz (.slice y F q4)).set5 (.slice z G I)).step f);have ak:=c.o.size;clear f;obtain⟨⟨c0,c1,c2,c3,c4,c5⟩,i⟩:=c.o.own
     obtain⟨⟨j,k,l,m,p,q⟩,t⟩:=c.o.s))
 obtain⟨ad,f1,ae,f3,af,ag⟩:=c.o.1.read (.int .i64 B) (.int .i64 C) (.string D) (.slice x E H) (.slice y F q4) (.slice z G I);refine bodyPost_ret (v:=.agg #[(B:Int),(C:Int),D,(x,E,H),(y,F,q4),(z,G,I)]) (by simp[results,results103,go_sem,ad,f1,ae,f3,af,ag]) rfl ?_;refine c.o.fin rfl ?_;obtain⟨a,K⟩:=Q.o;exact⟨a,gX.keep K (R.o.trans (zL.wh O _ _ _ _ _ _)) O⟩
theorem NP{tj:List fH}(k:d<=100->∀m,m<=n->CB b V tj m (d+1))(c:zc b V tj r false false w)(l:0<=d/\d<=1000)(a:zI (pS (n+1) d r)):
 Cz 103 #[(b,0),(d:Int)] w (qk b V tj w (pS (n+1) d r) (gX w.heap.size)):=by
 by_cases j:d<=100
 .have f:0<=d/\d<=100:=⟨l.1,j⟩
  have g:=k j n Zr;cases h0:zq k2 r with
  |true=>exact R4 c f h0 a
  |false=>
    cases h1:zq xR r with
    |true=>exact NM c f h0 h1 a
    |false=>
      cases h2:zq MQ r with
      |true=>
        cases hA:(jT ((PR.ok () r.tail).bind fun _ r=>pI n r) (fun r=>pB n (d+1) r) fun e t=>(e,t))with
        |ok p i=>
          cases hel:zq z4 i with
          |true=>
            cases n with
            |zero=>
              rw[pS,Dp O,Dp (by rw[h0,h1];decide),Dq h2,sT,hA]at a;exact absurd (show zI (q8 0 d p.1 p.2 i)from a) (by rw[q8];exact id)
            |succ q=>exact NN rfl g (k j q O) c f h0 h1 h2 hA hel a
          |false=>exact mS g c f h0 h1 h2 (by rw[hA];exact hel) a
        |bad i=>exact mS g c f h0 h1 h2 (by rw[hA];rfl) a
        |deep i=>exact mS g c f h0 h1 h2 (by rw[hA];rfl) a
        |o=>exact mS g c f h0 h1 h2 (by rw[hA];rfl) a
      |false=>
        cases h3:zq vJ r with
        |true=>exact FSq g c f h0 h1 h2 h3 a
        |false=>
          cases h4:zq hM r with
          |true=>exact FQ c f h0 h1 h2 h3 h4 a
          |false=>
            cases h5:zq rZ r with
            |true=>exact w4 c f h0 h1 h2 h3 h4 h5 a
            |false=>
              cases h6:zq ES r with
              |true=>exact C7 c f h0 h1 h2 h3 h4 h5 h6 a
              |false=>
                cases h7:zq lK r with
                |true=>exact FR c f h0 h1 h2 h3 h4 h5 h6 h7 a
                |false=>exact NL c f h0 h1 h2 h3 h4 h5 h6 h7 a
 .exact NO c l O a
