import Derived.Test.YthcmenajdcbnnaaGreatDoorAmParEx
set_option linter.unusedSimpArgs false
set_option linter.unusedVariables false
set_option maxRecDepth 100000
namespace Go.Proofs.YthcmenajdcbnnaaGreatDoor
open Go.RowKit Tryz
variable{w:C3}{b n:Nat}{V:C4}{d:Int}{r:List fH}
def jS{α β γ:Type}(A:PR α)(k:List fH->PR β)(F:α->β->γ):PR γ:=A.bind fun a r=>(k r).bind fun b r=>.ok (F a b) r
theorem jg{α β γ:Type}(A:PR α)(k:List fH->PR β)(F:α->β->γ):(jS A k F).un=(A.un.bind fun _ r=>k r).un:=by
 cases A with
 |ok a r=>
   show((k r).bind fun b r=>PR.ok (F a b) r).un=(k r).un;rw[jh];rfl
 |_=>rfl
theorem jE{α β γ:Type}{c:PR α}{k:List fH->PR β}{F:α->β->γ}{P1:α->Prop}{P2:β->Prop}{Q:γ->Prop}(d:j9 c P1)(j:j9 (c.un.bind fun _ r=>k r) P2)(n:zI (c.un.bind fun _ r=>k r))(e:∀a b,P1 a->P2 b->Q (F a b)):j9 (jS c k F) Q:=by
 obtain⟨i,l⟩:=j.some n;cases c with
 |ok a r=>
   have m:j9 ((k r).bind fun b r=>PR.ok (F a b) r) Q:=j9.bind (show j9 (k r) P2 from j) (fun b r _ g=>e a b d g) fun b g=>⟨_,e a b d g⟩
   exact m
 |bad r=>obtain⟨a,f⟩:=d;exact⟨_,e a i f l⟩
 |deep r=>obtain⟨a,f⟩:=d;exact⟨_,e a i f l⟩
 |o=>trivial
theorem qb{α β γ:Type}{A:PR α}{k:List fH->PR β}{F:α->β->γ}(h:zI (jS A k F)):zI (A.un.bind fun _ r=>k r):=by
 cases A with
 |ok a r=>exact qM (show zI ((k r).bind fun b r=>PR.ok (F a b) r)from h)
 |bad r=>trivial
 |deep r=>trivial
 |o=>exact h
theorem qO{α β γ:Type}{A:PR α}{k:List fH->PR β}{F:α->β->γ}(h:zI (jS A k F)):zI A:=qM h
theorem jy{α γ:Type}(A:PR α)(t:List UInt8)(F:α->Unit->γ):(jS A (fun r=>zN t r) F).un=A.un.bind fun _ r=>zN t r:=by rw[jg,q8]
theorem mP{L:Nat}{x:PR Ex}{v:C4}(d:j9 x fun a=>zbp L w a v)(f:zI x):∃b m c,v=.slice b m c:=by
 obtain⟨a,e⟩:=d.some f;obtain⟨b,c,g,_⟩:=jc.form e;exact⟨b,_,c,g⟩
theorem FC{x:PR Int}{v:C4}(b:j9 x fun a=>WC w a v)(d:zI x):∃t,v=.int .i64 t:=by
 obtain⟨a,c⟩:=b.some d;exact⟨a,c⟩
theorem mQ{α β:Type}(a:α)(r:List fH)(f:α->List fH->PR β):(PR.ok a r).bind f=f a r:=rfl
theorem vR{x:PR Unit}{s:List UInt8}(_:zI (x.bind fun _ r=>zN s r)):j9 (x.bind fun _ r=>zN s r) fun _=>True:=by
 cases hx:(x.bind fun _ r=>zN s r)with
 |ok a r=>trivial
 |bad r=>exact⟨(),trivial⟩
 |deep r=>exact⟨(),trivial⟩
 |o=>trivial
def CB(b:Nat)(V:C4)(tj:List fH)(n:Nat)(d:Int):Prop:=∀(w:C3) (x:PR Unit),jk b V tj x w->zI (x.bind fun _ r=>pB n d r)->
 Cy 82 #[(b,0),(d:Int)] w (qk b V tj w (x.bind fun _ r=>pB n d r) (xk w.heap.size))
theorem CB.call{tj:List fH}(a:CB b V tj n d){x:PR Unit}(e:jk b V tj x w)(c:zI (x.bind fun _ r=>pB n d r)):
 Cy 82 #[(b,0),(d:Int)] w (qk b V tj w (x.bind fun _ r=>pB n d r) (xk w.heap.size)):=a w x e c
def x9(b:Nat)(V:C4)(tj:List fH)(w:C3)(x:PR Unit)(W:C3)(c0 c1 c2 c3 c4 c5:C4):Prop:=jt b V tj w x W/\W.heap[w.heap.size+1]?=some (.cells #[c0,c1,c2,c3,c4,c5] 139 (0,0))
section
variable {b:Nat}{V:C4}{tj:List fH} {w W W':C3}{x y:PR Unit}{c0 c1 c2 c3 c4 c5:C4}
theorem x9.start(h:jk b V tj x w):x9 b V tj w x ((w.alloc uY).alloc uY) (.int .i64 0) (.int .i64 0) (.string ⟨#[]⟩) (.slice none 0 0) (.slice none 0 0) (.slice none 0 0):=
 ⟨(jt.start h).alloc uY,by have:=Ds (w.alloc uY) uY;rw[zA]at this;exact this⟩
theorem x9.st(h:x9 b V tj w x W c0 c1 c2 c3 c4 c5):jk b V tj x W:=h.1.st
theorem x9.size(h:x9 b V tj w x W c0 c1 c2 c3 c4 c5):w.heap.size+1<W.heap.size:=(Array.getElem?_eq_some_iff.1 h.2).1
theorem x9.ne(h:x9 b V tj w x W c0 c1 c2 c3 c4 c5):w.heap.size+1≠b:=by have:=h.1.lt;omega
theorem x9.step(h:x9 b V tj w x W c0 c1 c2 c3 c4 c5)(g:jJ b V tj W y W'):x9 b V tj w y W' c0 c1 c2 c3 c4 c5:=⟨h.1.step g,jH g.off h.size h.ne h.2⟩
theorem x9.alloc(h:x9 b V tj w x W c0 c1 c2 c3 c4 c5)(o:Obj):x9 b V tj w x (W.alloc o) c0 c1 c2 c3 c4 c5:=⟨h.1.alloc o,zu h.2 o⟩
theorem x9.own(h:x9 b V tj w x W c0 c1 c2 c3 c4 c5):(W.cell? (w.heap.size,0)=some (.int .i64 0)/\W.cell? (w.heap.size,1)=some (.int .i64 0)/\W.cell? (w.heap.size,2)=some (.string ⟨#[]⟩)/\
 W.cell? (w.heap.size,3)=some (.slice none 0 0)/\W.cell? (w.heap.size,4)=some (.slice none 0 0)/\W.cell? (w.heap.size,5)=some (.slice none 0 0))/\∀o,W.frozen? ⟨w.heap.size,o,none⟩=false:=h.1.own
theorem x9.s(h:x9 b V tj w x W c0 c1 c2 c3 c4 c5):(W.cell? (w.heap.size+1,0)=some c0/\W.cell? (w.heap.size+1,1)=some c1/\W.cell? (w.heap.size+1,2)=some c2/\W.cell? (w.heap.size+1,3)=some c3/\W.cell? (w.heap.size+1,4)=some c4/\W.cell? (w.heap.size+1,5)=some c5)/\∀o,W.frozen? ⟨w.heap.size+1,o,none⟩=false:=qT h.2
theorem x9.set0(h:x9 b V tj w x W c0 c1 c2 c3 c4 c5)(u:C4):x9 b V tj w x (W.setCell (w.heap.size+1,0) u) u c1 c2 c3 c4 c5:=⟨h.1.set O 0 u,D3 h.2 u⟩
theorem x9.ww(h:x9 b V tj w x W c0 c1 c2 c3 c4 c5)(u:C4):x9 b V tj w x (W.setCell (w.heap.size+1,1) u) c0 u c2 c3 c4 c5:=⟨h.1.set O 1 u,D3 h.2 u⟩
theorem x9.set2(h:x9 b V tj w x W c0 c1 c2 c3 c4 c5)(u:C4):x9 b V tj w x (W.setCell (w.heap.size+1,2) u) c0 c1 u c3 c4 c5:=⟨h.1.set O 2 u,D3 h.2 u⟩
theorem x9.wk(h:x9 b V tj w x W c0 c1 c2 c3 c4 c5)(u:C4):x9 b V tj w x (W.setCell (w.heap.size+1,3) u) c0 c1 c2 u c4 c5:=⟨h.1.set O 3 u,D3 h.2 u⟩
theorem x9.wz(h:x9 b V tj w x W c0 c1 c2 c3 c4 c5)(u:C4):x9 b V tj w x (W.setCell (w.heap.size+1,4) u) c0 c1 c2 c3 u c5:=⟨h.1.set O 4 u,D3 h.2 u⟩
theorem x9.set5(h:x9 b V tj w x W c0 c1 c2 c3 c4 c5)(u:C4):x9 b V tj w x (W.setCell (w.heap.size+1,5) u) c0 c1 c2 c3 c4 u:=⟨h.1.set O 5 u,D3 h.2 u⟩
theorem x9.fin(c:x9 b V tj w y W c0 c1 c2 c3 c4 c5){X:PR St}(e:X.un=y)(d:j9 X fun a=>gW w.heap.size (gX W w.heap.size c0 c1 c2 c3 c4 c5) a (.agg #[c0,c1,c2,c3,c4,c5])):
 qk b V tj w X (gW w.heap.size) (.returned (.agg #[c0,c1,c2,c3,c4,c5])) (gX W w.heap.size c0 c1 c2 c3 c4 c5):=c.1.fin e d
end
theorem FD{tj:List fH}(j:zc b V tj r false false w)(R:0<=d/\d<=100)(p:zq k0 r=false)(k:zq xP r=false)(m:zq ML r=false)(t:zq vH r=false)(l:zq hK r=true)(q:zI (pS (n+1) d r)):
 Cy 103 #[(b,0),(d:Int)] w (qk b V tj w (pS (n+1) d r) (gW w.heap.size)):=by
 obtain⟨_,_⟩:=R;have c:=U (x9.start (x:=.ok () r) j);have S:=j.lt;have T:¬100<d:=O
 have F:pS (n+1) d r=jS (PR.ok (St.mk 6 0 bE [] [] []) r.tail) (fun r=>zN [59] r) fun a _=>a:=by rw[pS,Dp O,Dp (by rw[p,k];decide),Dp (by rw[m];decide),Dp (by rw[t];decide),Dq l];rfl
 rw[F]at q ⊢;have G:=C0 (zU (⟨#[105,110,116]⟩:C2).data.toList (PR.ok () r)=false) p;have H:=C0 (zU (⟨#[98,111,111,108]⟩:C2).data.toList (PR.ok () r)=false) k;have I:=C0 (zU (⟨#[105,102]⟩:C2).data.toList (PR.ok () r)=false) m;have J:=C0 (zU (⟨#[119,104,105,108,101]⟩:C2).data.toList (PR.ok () r)=false) t;have K:=C0 (zU (⟨#[98,114,101,97,107]⟩:C2).data.toList (PR.ok () r)=true) l;have E:=U (qb q);clear j q F p k m t l;go_enter func103,ntmps103
 go_wp2_with (first
  |(go_at_call 81;(with_reducible refine(jf c.o.st _ false G.o).mono ?_);rintro e g ⟨rfl,f⟩;replace c:=U (c.o.step f);clear f)
  |(go_at_call 81;(with_reducible refine(jf c.o.st _ false H.o).mono ?_);rintro e g ⟨rfl,f⟩;replace c:=U (c.o.step f);clear f)
  | (go_at_call 56;(with_reducible refine(zE c.o.st _ I.o).mono ?_);rintro e g ⟨rfl,f⟩
     replace c:=U (c.o.step f);clear f;obtain⟨⟨c0,c1,c2,c3,c4,c5⟩,i⟩:=c.o.own
     obtain⟨⟨u,y,z,A,B,C⟩,D⟩:=c.o.s)
  | (go_at_call 56;(with_reducible refine(zE c.o.st _ J.o).mono ?_);rintro e g ⟨rfl,f⟩
     replace c:=U (c.o.step f);clear f;obtain⟨⟨c0,c1,c2,c3,c4,c5⟩,i⟩:=c.o.own
     obtain⟨⟨u,y,z,A,B,C⟩,D⟩:=c.o.s)
  | (go_at_call 56;(with_reducible refine(qA c.o.st _ K.o).mono ?_);rintro e g ⟨rfl,f⟩
     replace c:=C0 (x9 b V tj w (.ok () r.tail) g _ _ _ _ _ _) (c.o.step f);clear f;obtain⟨⟨c0,c1,c2,c3,c4,c5⟩,i⟩:=c.o.own
     obtain⟨⟨u,y,z,A,B,C⟩,D⟩:=c.o.s)
  | (go_at_call 58;(with_reducible refine(zg (c.o.set0 (.int .i64 6)).st ⟨#[59]⟩).mono ?_);rintro e w9 ⟨rfl,f⟩
     replace c:=U ((c.o.set0 (.int .i64 6)).step f);have W:=c.o.size;clear f;obtain⟨⟨c0,c1,c2,c3,c4,c5⟩,i⟩:=c.o.own
     obtain⟨⟨u,y,z,A,B,C⟩,D⟩:=c.o.s))
 obtain⟨L,f1,M,f3,N,P⟩:=c.o.1.read (.int .i64 6) (.int .i64 0) (.string ⟨#[]⟩) (.slice none 0 0) (.slice none 0 0) (.slice none 0 0);refine bodyPost_ret (v:=.agg #[(6:Int),(0:Int),.string ⟨#[]⟩,(),(),()]) (by simp[results,results103,go_sem,L,f1,M,f3,N,P]) rfl ?_;refine c.o.fin (jy _ _ _) ?_;exact jE (P1:=fun a=>a=St.mk 6 0 bE [] [] []) rfl (vR (x:=.ok () r.tail) E.o) E.o fun a _ Q _=>by subst Q;exact⟨_,_,_,rfl,E9 _ _,qx _ _,qx _ _⟩
theorem wU{tj:List fH}(u:zc b V tj r false false w)(T:0<=d/\d<=100)(C:zq k0 r=false)(y:zq xP r=false)(B:zq ML r=false)(E:zq vH r=false)(z:zq hK r=false)(A:zq rT r=true)(D:zI (pS (n+1) d r)):
 Cy 103 #[(b,0),(d:Int)] w (qk b V tj w (pS (n+1) d r) (gW w.heap.size)):=by
 obtain⟨_,_⟩:=T;have c:=U (x9.start (x:=.ok () r) u);have W:=u.lt;have X:¬100<d:=O
 have G:pS (n+1) d r=jS (PR.ok (St.mk 7 0 bE [] [] []) r.tail) (fun r=>zN [59] r) fun a _=>a:=by rw[pS,Dp O,Dp (by rw[C,y];decide),Dp (by rw[B];decide),Dp (by rw[E];decide),Dp (by rw[z];decide),Dq A];rfl
 rw[G]at D ⊢;have H:=C0 (zU (⟨#[105,110,116]⟩:C2).data.toList (PR.ok () r)=false) C;have I:=C0 (zU (⟨#[98,111,111,108]⟩:C2).data.toList (PR.ok () r)=false) y;have J:=C0 (zU (⟨#[105,102]⟩:C2).data.toList (PR.ok () r)=false) B;have K:=C0 (zU (⟨#[119,104,105,108,101]⟩:C2).data.toList (PR.ok () r)=false) E;have L:=C0 (zU (⟨#[98,114,101,97,107]⟩:C2).data.toList (PR.ok () r)=false) z;have M:=C0 (zU (⟨#[99,111,110,116,105,110,117,101]⟩:C2).data.toList (PR.ok () r)=true) A;have F:=U (qb D);clear u D G C y B E z A;go_enter func103,ntmps103
 go_wp2_with (first
  |(go_at_call 81;(with_reducible refine(jf c.o.st _ false H.o).mono ?_);rintro e g ⟨rfl,f⟩;replace c:=U (c.o.step f);clear f)
  |(go_at_call 81;(with_reducible refine(jf c.o.st _ false I.o).mono ?_);rintro e g ⟨rfl,f⟩;replace c:=U (c.o.step f);clear f)
  | (go_at_call 56;(with_reducible refine(zE c.o.st _ J.o).mono ?_);rintro e g ⟨rfl,f⟩
     replace c:=U (c.o.step f);clear f;obtain⟨⟨c0,c1,c2,c3,c4,c5⟩,i⟩:=c.o.own
     obtain⟨⟨j,k,l,m,p,q⟩,t⟩:=c.o.s)
  | (go_at_call 56;(with_reducible refine(zE c.o.st _ K.o).mono ?_);rintro e g ⟨rfl,f⟩
     replace c:=U (c.o.step f);clear f;obtain⟨⟨c0,c1,c2,c3,c4,c5⟩,i⟩:=c.o.own
     obtain⟨⟨j,k,l,m,p,q⟩,t⟩:=c.o.s)
  | (go_at_call 56;(with_reducible refine(zE c.o.st _ L.o).mono ?_);rintro e g ⟨rfl,f⟩
     replace c:=U (c.o.step f);clear f;obtain⟨⟨c0,c1,c2,c3,c4,c5⟩,i⟩:=c.o.own
     obtain⟨⟨j,k,l,m,p,q⟩,t⟩:=c.o.s)
  | (go_at_call 56;(with_reducible refine(qA c.o.st _ M.o).mono ?_);rintro e g ⟨rfl,f⟩
     replace c:=C0 (x9 b V tj w (.ok () r.tail) g _ _ _ _ _ _) (c.o.step f);clear f;obtain⟨⟨c0,c1,c2,c3,c4,c5⟩,i⟩:=c.o.own
     obtain⟨⟨j,k,l,m,p,q⟩,t⟩:=c.o.s)
  | (go_at_call 58;(with_reducible refine(zg (c.o.set0 (.int .i64 7)).st ⟨#[59]⟩).mono ?_);rintro e w9 ⟨rfl,f⟩
     replace c:=U ((c.o.set0 (.int .i64 7)).step f);have Y:=c.o.size;clear f;obtain⟨⟨c0,c1,c2,c3,c4,c5⟩,i⟩:=c.o.own
     obtain⟨⟨j,k,l,m,p,q⟩,t⟩:=c.o.s))
 obtain⟨N,f1,P,f3,Q,R⟩:=c.o.1.read (.int .i64 7) (.int .i64 0) (.string ⟨#[]⟩) (.slice none 0 0) (.slice none 0 0) (.slice none 0 0);refine bodyPost_ret (v:=.agg #[(7:Int),(0:Int),.string ⟨#[]⟩,(),(),()]) (by simp[results,results103,go_sem,N,f1,P,f3,Q,R]) rfl ?_;refine c.o.fin (jy _ _ _) ?_;exact jE (P1:=fun a=>a=St.mk 7 0 bE [] [] []) rfl (vR (x:=.ok () r.tail) F.o) F.o fun a _ S _=>by subst S;exact⟨_,_,_,rfl,E9 _ _,qx _ _,qx _ _⟩
theorem CQ{tj:List fH}(C:zc b V tj r false false w)(ar:0<=d/\d<=100)(J:zq k0 r=false)(E:zq xP r=false)(I:zq ML r=false)(M:zq vH r=false)(F:zq hK r=false)(G:zq rT r=false)(K:zq EF r=true)(A:zI (pS (n+1) d r)):
 Cy 103 #[(b,0),(d:Int)] w (qk b V tj w (pS (n+1) d r) (gW w.heap.size)):=by
 obtain⟨_,_⟩:=ar;have c:=U (x9.start (x:=.ok () r) C);have au:=C.lt;have av:¬100<d:=O
 have P:pS (n+1) d r=jS (jS (PR.ok () r.tail) (fun r=>pE n 1 1 r) fun _ e=>St.mk 8 0 bE [e] [] []) (fun r=>zN [59] r) fun a _=>a:=by rw[pS,Dp O,Dp (by rw[J,E];decide),Dp (by rw[I];decide),Dp (by rw[M];decide),Dp (by rw[F];decide),Dp (by rw[G];decide),Dq K];rfl
 rw[P]at A ⊢;have ag:=C0 (zU (⟨#[105,110,116]⟩:C2).data.toList (PR.ok () r)=false) J;have ah:=C0 (zU (⟨#[98,111,111,108]⟩:C2).data.toList (PR.ok () r)=false) E;have ai:=C0 (zU (⟨#[105,102]⟩:C2).data.toList (PR.ok () r)=false) I;have aj:=C0 (zU (⟨#[119,104,105,108,101]⟩:C2).data.toList (PR.ok () r)=false) M;have ak:=C0 (zU (⟨#[98,114,101,97,107]⟩:C2).data.toList (PR.ok () r)=false) F;have al:=C0 (zU (⟨#[99,111,110,116,105,110,117,101]⟩:C2).data.toList (PR.ok () r)=false) G;have am:=C0 (zU (⟨#[114,101,116,117,114,110]⟩:C2).data.toList (PR.ok () r)=true) K;have N:=U (qb A);have B:=C0 (zI ((PR.ok () r.tail).bind fun _ r=>pE n 1 1 r)) (qb (qO A));have ab:=U (vA (b:=b) (V:=V) (tj:=tj) (n:=n) (d:=1) Uf Uf);clear C A P J E I M F G K;go_enter func103,ntmps103
 go_wp2_with (first
  |(go_at_call 81;(with_reducible refine(jf c.o.st _ false ag.o).mono ?_);rintro e i ⟨rfl,f⟩;replace c:=U (c.o.step f);clear f)
  |(go_at_call 81;(with_reducible refine(jf c.o.st _ false ah.o).mono ?_);rintro e i ⟨rfl,f⟩;replace c:=U (c.o.step f);clear f)
  | (go_at_call 56;(with_reducible refine(zE c.o.st _ ai.o).mono ?_);rintro e i ⟨rfl,f⟩
     replace c:=U (c.o.step f);clear f;obtain⟨⟨c0,c1,c2,c3,c4,c5⟩,k⟩:=c.o.own
     obtain⟨⟨l,m,p,q,t,u⟩,y⟩:=c.o.s)
  | (go_at_call 56;(with_reducible refine(zE c.o.st _ aj.o).mono ?_);rintro e i ⟨rfl,f⟩
     replace c:=U (c.o.step f);clear f;obtain⟨⟨c0,c1,c2,c3,c4,c5⟩,k⟩:=c.o.own
     obtain⟨⟨l,m,p,q,t,u⟩,y⟩:=c.o.s)
  | (go_at_call 56;(with_reducible refine(zE c.o.st _ ak.o).mono ?_);rintro e i ⟨rfl,f⟩
     replace c:=U (c.o.step f);clear f;obtain⟨⟨c0,c1,c2,c3,c4,c5⟩,k⟩:=c.o.own
     obtain⟨⟨l,m,p,q,t,u⟩,y⟩:=c.o.s)
  | (go_at_call 56;(with_reducible refine(zE c.o.st _ al.o).mono ?_);rintro e i ⟨rfl,f⟩
     replace c:=U (c.o.step f);clear f;obtain⟨⟨c0,c1,c2,c3,c4,c5⟩,k⟩:=c.o.own
     obtain⟨⟨l,m,p,q,t,u⟩,y⟩:=c.o.s)
  | (go_at_call 56;(with_reducible refine(qA c.o.st _ am.o).mono ?_);rintro e i ⟨rfl,f⟩
     replace c:=C0 (x9 b V tj w (.ok () r.tail) i _ _ _ _ _ _) (c.o.step f);clear f;obtain⟨⟨c0,c1,c2,c3,c4,c5⟩,k⟩:=c.o.own
     obtain⟨⟨l,m,p,q,t,u⟩,y⟩:=c.o.s)
  | (go_at_call 126;(with_reducible refine(ab.o.call c.o.st B.o).mono ?_);rintro e j ⟨v,rfl,f,D⟩
     obtain⟨R,S,W,X,Y,Z,aa,rfl⟩:=jC D B.o;have ae:=C0 (j9 _ fun a=>kn (w.heap.size+2) j a _) (D.imp fun a z=>kn.keep z (zM.refl _ _) Us);replace c:=U (c.o.step f);have ax:=c.o.size;clear f D;obtain⟨⟨c0,c1,c2,c3,c4,c5⟩,k⟩:=c.o.own
     obtain⟨⟨l,m,p,q,t,u⟩,y⟩:=c.o.s)
  | (go_at_call 58;(with_reducible refine(zg (((c.o.set0 (.int .i64 8)).wk (.slice (some ⟨j.heap.size,0,none⟩) 1 1)).alloc (.cells #[.int .i64 R,.int .i64 S,.int .i64 W,.string X,.slice Y Z aa] 147)).st ⟨#[59]⟩).mono ?_);rintro e w9 ⟨rfl,f⟩
     have ad:=C0 (j9 _ fun a=>jc (w.heap.size+2) _ [a] _) (ae.o.imp fun a z=>uG (T:=147) (kn.keep z ((zM.set (g:=w.heap.size+1) O 0 (.int .i64 8)).trans (zM.set (g:=w.heap.size+1) O 3 (.slice (some ⟨j.heap.size,0,none⟩) 1 1))) Zr) Zr Ug (g:=j.heap.size) Uh);have af:=U (zM.did (L:=w.heap.size+2) f O);replace c:=U ((((c.o.set0 (.int .i64 8)).wk (.slice (some ⟨j.heap.size,0,none⟩) 1 1)).alloc (.cells #[(R:Int),(S:Int),(W:Int),X,(Y,Z,aa)] 147)).step f);have aw:=c.o.size;clear f;obtain⟨⟨c0,c1,c2,c3,c4,c5⟩,k⟩:=c.o.own
     obtain⟨⟨l,m,p,q,t,u⟩,y⟩:=c.o.s))
 obtain⟨an,f1,ao,f3,ap,aq⟩:=c.o.1.read (.int .i64 8) (.int .i64 0) (.string ⟨#[]⟩) (.slice (some ⟨j.heap.size,0,none⟩) 1 1) (.slice none 0 0) (.slice none 0 0);refine bodyPost_ret (v:=.agg #[(8:Int),(0:Int),.string ⟨#[]⟩,.slice (some ⟨j.heap.size,0,none⟩) 1 1,(),()]) (by simp[results,results103,go_sem,an,f1,ao,f3,ap,aq]) rfl ?_;refine c.o.fin (by rw[jy,jg];rfl) ?_;refine jE (jE (P1:=fun _=>True) (P2:=_) (Q:=fun a=>∃e,a=St.mk 8 0 bE [e] [] []/\jc (w.heap.size+2) _ [e] _) trivial ad.o B.o (fun _ e _ H=>⟨e,rfl,H⟩)) (vR N.o) N.o fun a _ z _=>?_
 obtain⟨e,rfl,H⟩:=z;exact⟨_,_,_,rfl,jc.keep H (af.o.trans (zM.wh O _ _ _ _ _ _)) O,qx _ _,qx _ _⟩
theorem FE{tj:List fH}(D:zc b V tj r false false w)(al:0<=d/\d<=100)(M:zq k0 r=false)(G:zq xP r=false)(K:zq ML r=false)(R:zq vH r=false)(H:zq hK r=false)(I:zq rT r=false)(P:zq EF r=false)(N:zq lJ r=true)(B:zI (pS (n+1) d r)):
 Cy 103 #[(b,0),(d:Int)] w (qk b V tj w (pS (n+1) d r) (gW w.heap.size)):=by
 obtain⟨_,_⟩:=al;have c:=U (x9.start (x:=.ok () r) D);have an:=D.lt;have ao:¬100<d:=O
 have T:pS (n+1) d r=jS (jS (PR.ok () r.tail) (fun r=>pI n r) fun _ e=>St.mk 9 0 bE [e] [] []) (fun r=>zN [59] r) fun a _=>a:=by rw[pS,Dp O,Dp (by rw[M,G];decide),Dp (by rw[K];decide),Dp (by rw[R];decide),Dp (by rw[H];decide),Dp (by rw[I];decide),Dp (by rw[P];decide),Dq N];rfl
 rw[T]at B ⊢;have Y:=C0 (zU (⟨#[105,110,116]⟩:C2).data.toList (PR.ok () r)=false) M;have Z:=C0 (zU (⟨#[98,111,111,108]⟩:C2).data.toList (PR.ok () r)=false) G;have aa:=C0 (zU (⟨#[105,102]⟩:C2).data.toList (PR.ok () r)=false) K;have ab:=C0 (zU (⟨#[119,104,105,108,101]⟩:C2).data.toList (PR.ok () r)=false) R;have ad:=C0 (zU (⟨#[98,114,101,97,107]⟩:C2).data.toList (PR.ok () r)=false) H;have ae:=C0 (zU (⟨#[99,111,110,116,105,110,117,101]⟩:C2).data.toList (PR.ok () r)=false) I;have af:=C0 (zU (⟨#[114,101,116,117,114,110]⟩:C2).data.toList (PR.ok () r)=false) P;have ag:=C0 (zU (⟨#[112,114,105,110,116]⟩:C2).data.toList (PR.ok () r)=true) N;have S:=U (qb B);have C:=C0 (zI ((PR.ok () r.tail).bind fun _ r=>pI n r)) (qb (qO B));clear D B T M G K R H I P N;go_enter func103,ntmps103
 go_wp2_with (first
  |(go_at_call 81;(with_reducible refine(jf c.o.st _ false Y.o).mono ?_);rintro e i ⟨rfl,f⟩;replace c:=U (c.o.step f);clear f)
  |(go_at_call 81;(with_reducible refine(jf c.o.st _ false Z.o).mono ?_);rintro e i ⟨rfl,f⟩;replace c:=U (c.o.step f);clear f)
  | (go_at_call 56;(with_reducible refine(zE c.o.st _ aa.o).mono ?_);rintro e i ⟨rfl,f⟩
     replace c:=U (c.o.step f);clear f;obtain⟨⟨c0,c1,c2,c3,c4,c5⟩,j⟩:=c.o.own
     obtain⟨⟨k,l,m,p,q,t⟩,u⟩:=c.o.s)
  | (go_at_call 56;(with_reducible refine(zE c.o.st _ ab.o).mono ?_);rintro e i ⟨rfl,f⟩
     replace c:=U (c.o.step f);clear f;obtain⟨⟨c0,c1,c2,c3,c4,c5⟩,j⟩:=c.o.own
     obtain⟨⟨k,l,m,p,q,t⟩,u⟩:=c.o.s)
  | (go_at_call 56;(with_reducible refine(zE c.o.st _ ad.o).mono ?_);rintro e i ⟨rfl,f⟩
     replace c:=U (c.o.step f);clear f;obtain⟨⟨c0,c1,c2,c3,c4,c5⟩,j⟩:=c.o.own
     obtain⟨⟨k,l,m,p,q,t⟩,u⟩:=c.o.s)
  | (go_at_call 56;(with_reducible refine(zE c.o.st _ ae.o).mono ?_);rintro e i ⟨rfl,f⟩
     replace c:=U (c.o.step f);clear f;obtain⟨⟨c0,c1,c2,c3,c4,c5⟩,j⟩:=c.o.own
     obtain⟨⟨k,l,m,p,q,t⟩,u⟩:=c.o.s)
  | (go_at_call 56;(with_reducible refine(zE c.o.st _ af.o).mono ?_);rintro e i ⟨rfl,f⟩
     replace c:=U (c.o.step f);clear f;obtain⟨⟨c0,c1,c2,c3,c4,c5⟩,j⟩:=c.o.own
     obtain⟨⟨k,l,m,p,q,t⟩,u⟩:=c.o.s)
  | (go_at_call 56;(with_reducible refine(qA c.o.st _ ag.o).mono ?_);rintro e i ⟨rfl,f⟩
     replace c:=C0 (x9 b V tj w (.ok () r.tail) i _ _ _ _ _ _) (c.o.step f);clear f;obtain⟨⟨c0,c1,c2,c3,c4,c5⟩,j⟩:=c.o.own
     obtain⟨⟨k,l,m,p,q,t⟩,u⟩:=c.o.s)
  | (go_at_call 127;(with_reducible refine(uy c.o.st C.o).mono ?_);rintro e am ⟨v,rfl,f,E⟩
     obtain⟨y,z,A,rfl⟩:=mP E C.o;have W:=C0 (j9 _ fun a=>jc (w.heap.size+2) am [a] (.slice y z A)) (E.imp fun a F=>jc.keep F (zM.refl _ _) Us);replace c:=U (c.o.step f);clear f E;obtain⟨⟨c0,c1,c2,c3,c4,c5⟩,j⟩:=c.o.own
     obtain⟨⟨k,l,m,p,q,t⟩,u⟩:=c.o.s)
  | (go_at_call 58;(with_reducible refine(zg ((c.o.set0 (.int .i64 9)).wk (.slice y z A)).st ⟨#[59]⟩).mono ?_);rintro e w9 ⟨rfl,f⟩
     have X:=U (((zM.set (L:=w.heap.size+2) (g:=w.heap.size+1) O 0 (.int .i64 9)).trans (zM.set (g:=w.heap.size+1) O 3 (.slice y z A))).trans (zM.did f O));replace c:=U (((c.o.set0 (.int .i64 9)).wk (.slice y z A)).step f);have ap:=c.o.size;clear f;obtain⟨⟨c0,c1,c2,c3,c4,c5⟩,j⟩:=c.o.own
     obtain⟨⟨k,l,m,p,q,t⟩,u⟩:=c.o.s))
 obtain⟨ah,f1,ai,f3,aj,ak⟩:=c.o.1.read (.int .i64 9) (.int .i64 0) (.string ⟨#[]⟩) (.slice y z A) (.slice none 0 0) (.slice none 0 0);refine bodyPost_ret (v:=.agg #[(9:Int),(0:Int),.string ⟨#[]⟩,(y,z,A),(),()]) (by simp[results,results103,go_sem,ah,f1,ai,f3,aj,ak]) rfl ?_;refine c.o.fin (by rw[jy,jg];rfl) ?_;refine jE (jE (P1:=fun _=>True) (P2:=_) (Q:=fun a=>∃e,a=St.mk 9 0 bE [e] [] []/\jc (w.heap.size+2) _ [e] _) trivial W.o C.o (fun _ e _ J=>⟨e,rfl,J⟩)) (vR S.o) S.o fun a _ F _=>?_
 obtain⟨e,rfl,J⟩:=F;exact⟨_,_,_,rfl,jc.keep J (X.o.trans (zM.wh O _ _ _ _ _ _)) O,qx _ _,qx _ _⟩
theorem NG{tj:List fH}(K:zc b V tj r false false w)(ar:0<=d/\d<=100)(T:zq k0 r=false)(P:zq xP r=false)(S:zq ML r=false)(Y:zq vH r=false)(Q:zq hK r=false)(R:zq rT r=false)(X:zq EF r=false)(W:zq lJ r=false)(J:zI (pS (n+1) d r)):
 Cy 103 #[(b,0),(d:Int)] w (qk b V tj w (pS (n+1) d r) (gW w.heap.size)):=by
 obtain⟨_,_⟩:=ar;have c:=U (x9.start (x:=.ok () r) K);have av:=K.lt;have aw:¬100<d:=O
 have ab:pS (n+1) d r=jS ((PR.ok () r).bind fun _ r=>q2 n r) (fun r=>zN [59] r) fun a _=>a:=by rw[pS,Dp O,Dp (by rw[T,P];decide),Dp (by rw[S];decide),Dp (by rw[Y];decide),Dp (by rw[Q];decide),Dp (by rw[R];decide),Dp (by rw[X];decide),Dp (by rw[W];decide)];rfl
 rw[ab]at J ⊢;have af:=C0 (zU (⟨#[105,110,116]⟩:C2).data.toList (PR.ok () r)=false) T;have ag:=C0 (zU (⟨#[98,111,111,108]⟩:C2).data.toList (PR.ok () r)=false) P;have ah:=C0 (zU (⟨#[105,102]⟩:C2).data.toList (PR.ok () r)=false) S;have ai:=C0 (zU (⟨#[119,104,105,108,101]⟩:C2).data.toList (PR.ok () r)=false) Y;have aj:=C0 (zU (⟨#[98,114,101,97,107]⟩:C2).data.toList (PR.ok () r)=false) Q;have ak:=C0 (zU (⟨#[99,111,110,116,105,110,117,101]⟩:C2).data.toList (PR.ok () r)=false) R;have al:=C0 (zU (⟨#[114,101,116,117,114,110]⟩:C2).data.toList (PR.ok () r)=false) X;have am:=C0 (zU (⟨#[112,114,105,110,116]⟩:C2).data.toList (PR.ok () r)=false) W;have Z:=U (qb J);have aa:=C0 (zI ((PR.ok () r).bind fun _ r=>q2 n r)) (qO J);clear K J ab T P S Y Q R X W;go_enter func103,ntmps103
 go_wp2_with (first
  |(go_at_call 81;(with_reducible refine(jf c.o.st _ false af.o).mono ?_);rintro e u ⟨rfl,f⟩;replace c:=U (c.o.step f);clear f)
  |(go_at_call 81;(with_reducible refine(jf c.o.st _ false ag.o).mono ?_);rintro e u ⟨rfl,f⟩;replace c:=U (c.o.step f);clear f)
  | (go_at_call 56;(with_reducible refine(zE c.o.st _ ah.o).mono ?_);rintro e u ⟨rfl,f⟩
     replace c:=U (c.o.step f);clear f;obtain⟨⟨c0,c1,c2,c3,c4,c5⟩,i⟩:=c.o.own
     obtain⟨⟨j,k,l,m,p,q⟩,t⟩:=c.o.s)
  | (go_at_call 56;(with_reducible refine(zE c.o.st _ ai.o).mono ?_);rintro e u ⟨rfl,f⟩
     replace c:=U (c.o.step f);clear f;obtain⟨⟨c0,c1,c2,c3,c4,c5⟩,i⟩:=c.o.own
     obtain⟨⟨j,k,l,m,p,q⟩,t⟩:=c.o.s)
  | (go_at_call 56;(with_reducible refine(zE c.o.st _ aj.o).mono ?_);rintro e u ⟨rfl,f⟩
     replace c:=U (c.o.step f);clear f;obtain⟨⟨c0,c1,c2,c3,c4,c5⟩,i⟩:=c.o.own
     obtain⟨⟨j,k,l,m,p,q⟩,t⟩:=c.o.s)
  | (go_at_call 56;(with_reducible refine(zE c.o.st _ ak.o).mono ?_);rintro e u ⟨rfl,f⟩
     replace c:=U (c.o.step f);clear f;obtain⟨⟨c0,c1,c2,c3,c4,c5⟩,i⟩:=c.o.own
     obtain⟨⟨j,k,l,m,p,q⟩,t⟩:=c.o.s)
  | (go_at_call 56;(with_reducible refine(zE c.o.st _ al.o).mono ?_);rintro e u ⟨rfl,f⟩
     replace c:=U (c.o.step f);clear f;obtain⟨⟨c0,c1,c2,c3,c4,c5⟩,i⟩:=c.o.own
     obtain⟨⟨j,k,l,m,p,q⟩,t⟩:=c.o.s)
  | (go_at_call 56;(with_reducible refine(zE c.o.st _ am.o).mono ?_);rintro e u ⟨rfl,f⟩
     replace c:=U (c.o.step f);clear f;obtain⟨⟨c0,c1,c2,c3,c4,c5⟩,i⟩:=c.o.own
     obtain⟨⟨j,k,l,m,p,q⟩,t⟩:=c.o.s)
  | (go_at_call 128;(with_reducible refine(AM c.o.st aa.o).mono ?_);rintro e au ⟨v,rfl,f,M⟩
     obtain⟨B,C,D,y,E,H,z,F,q4,A,G,I,rfl⟩:=oH M aa.o;have ad:=C0 (j9 _ fun a=>gW (w.heap.size+2) au a _) (M.imp fun a N=>gW.keep N (zM.refl _ _) Us);replace c:=U (c.o.step f);clear f M;obtain⟨⟨c0,c1,c2,c3,c4,c5⟩,i⟩:=c.o.own
     obtain⟨⟨j,k,l,m,p,q⟩,t⟩:=c.o.s)
  | (go_at_call 58;(with_reducible refine(zg ((((((c.o.set0 (.int .i64 B)).ww (.int .i64 C)).set2 (.string D)).wk (.slice y E H)).wz (.slice z F q4)).set5 (.slice A G I)).st ⟨#[59]⟩).mono ?_);rintro e w9 ⟨rfl,f⟩
     have ae:=U ((zM.wh (L:=w.heap.size+2) (g:=w.heap.size+1) O (.int .i64 B) (.int .i64 C) (.string D) (.slice y E H) (.slice z F q4) (.slice A G I)).trans (zM.did f O));replace c:=U (((((((c.o.set0 (.int .i64 B)).ww (.int .i64 C)).set2 (.string D)).wk (.slice y E H)).wz (.slice z F q4)).set5 (.slice A G I)).step f);have ax:=c.o.size;clear f;obtain⟨⟨c0,c1,c2,c3,c4,c5⟩,i⟩:=c.o.own
     obtain⟨⟨j,k,l,m,p,q⟩,t⟩:=c.o.s))
 obtain⟨an,f1,ao,f3,ap,aq⟩:=c.o.1.read (.int .i64 B) (.int .i64 C) (.string D) (.slice y E H) (.slice z F q4) (.slice A G I);refine bodyPost_ret (v:=.agg #[(B:Int),(C:Int),D,(y,E,H),(z,F,q4),(A,G,I)]) (by simp[results,results103,go_sem,an,f1,ao,f3,ap,aq]) rfl ?_;refine c.o.fin (jy _ _ _) ?_;exact jE ad.o (vR Z.o) Z.o fun a _ N _=>gW.keep N (ae.o.trans (zM.wh O _ _ _ _ _ _)) O
theorem RZ{tj:List fH}(m:zc b V tj r false false w)(ap:0<=d/\d<=100)(H:zq k0 r=true)(l:zI (pS (n+1) d r)):
 Cy 103 #[(b,0),(d:Int)] w (qk b V tj w (pS (n+1) d r) (gW w.heap.size)):=by
 obtain⟨_,_⟩:=ap;have c:=U (x9.start (x:=.ok () r) m);have au:=m.lt;have av:¬100<d:=O
 have K:pS (n+1) d r=jS (jS (jS ((PR.ok () r).bind fun _ r=>k1 r) (fun r=>qr 1 r) fun t s=>(t,s)) (fun r=>(zN [61] r).bind fun _ r=>pE n 1 1 r) fun p e=>St.mk 1 p.1 p.2 [e] [] []) (fun r=>zN [59] r) fun a _=>a:=by
  rw[pS,Dp O,Dq (.inl H)];unfold vI jS;simp only[zb,mQ]
 rw[K]at l ⊢;have aj:=C0 (zU (⟨#[105,110,116]⟩:C2).data.toList (PR.ok () r)=true) H;have I:=U (qb l);have u:=qb (qO l);have ah:=U u;have M:=qO (qO (qO l));have ag:=U M;have ai:=U (qb (qO (qO l)));rw[jg,<-zb]at u;have J:=U u;clear m l K u M H;have Z:=U (vA (b:=b) (V:=V) (tj:=tj) (n:=n) (d:=1) Uf Uf);go_enter func103,ntmps103
 go_wp2_with (first
  |(go_at_call 81;(with_reducible refine(jf c.o.st _ true aj.o).mono ?_);rintro e _ ⟨rfl,f⟩;replace c:=U (c.o.step f);clear f)
  | (go_at_call 54;(with_reducible refine(uO c.o.st).mono ?_);rintro e _ ⟨v,rfl,f,i⟩
     obtain⟨t,rfl⟩:=FC i ag.o;have ae:=C0 (j9 _ fun a=>a=t) (i.imp fun a j=>Gi);replace c:=U (c.o.step f);clear f i;obtain⟨⟨c0,c1,c2,c3,c4,c5⟩,q⟩:=c.o.own
     obtain⟨⟨y,z,A,B,C,D⟩,E⟩:=c.o.s)
  | (go_at_call 55;(with_reducible refine(y7 ((c.o.set0 (.int .i64 1)).ww (.int .i64 t)).st 1 Uf).mono ?_);rintro e _ ⟨s,rfl,f,i⟩
     have ad:=U i;replace c:=U (((c.o.set0 (.int .i64 1)).ww (.int .i64 t)).step f);clear f i;obtain⟨⟨c0,c1,c2,c3,c4,c5⟩,q⟩:=c.o.own
     obtain⟨⟨y,z,A,B,C,D⟩,E⟩:=c.o.s)
  | (go_at_call 58;(with_reducible refine(zg (c.o.set2 (.string s)).st ⟨#[61]⟩).mono ?_);rintro e ar ⟨rfl,f⟩
     replace c:=C0 (x9 b V tj w ((((PR.ok () r).bind fun _ r=>k1 r).un.bind fun _ r=>qr 1 r).un.bind fun _ r=>zN [61] r) ar _ _ _ _ _ _) ((c.o.set2 (.string s)).step f);clear f;obtain⟨⟨c0,c1,c2,c3,c4,c5⟩,q⟩:=c.o.own
     obtain⟨⟨y,z,A,B,C,D⟩,E⟩:=c.o.s)
  | (go_at_call 126;(with_reducible refine(Z.o.call c.o.st J.o).mono ?_);rintro e k ⟨v,rfl,f,i⟩
     obtain⟨N,P,R,S,W,X,Y,rfl⟩:=jC i J.o;have ab:=C0 (j9 _ fun a=>kn (w.heap.size+2) k a _) (i.imp fun a j=>kn.keep j (zM.refl _ _) Us);replace c:=U (c.o.step f);have ax:=c.o.size;clear f i;obtain⟨⟨c0,c1,c2,c3,c4,c5⟩,q⟩:=c.o.own
     obtain⟨⟨y,z,A,B,C,D⟩,E⟩:=c.o.s)
  | (go_at_call 58;(with_reducible refine(zg ((c.o.wk (.slice (some ⟨k.heap.size,0,none⟩) 1 1)).alloc (.cells #[.int .i64 N,.int .i64 P,.int .i64 R,.string S,.slice W X Y] 147)).st ⟨#[59]⟩).mono ?_);rintro e w9 ⟨rfl,f⟩
     have aa:=C0 (j9 _ fun a=>jc (w.heap.size+2) _ [a] _) (ab.o.imp fun a j=>uG (T:=147) (kn.keep j (zM.set (g:=w.heap.size+1) O 3 (.slice (some ⟨k.heap.size,0,none⟩) 1 1)) Zr) Zr Ug (g:=k.heap.size) Uh);have af:=U (zM.did (L:=w.heap.size+2) f O);replace c:=U (((c.o.wk (.slice (some ⟨k.heap.size,0,none⟩) 1 1)).alloc (.cells #[(N:Int),(P:Int),(R:Int),S,(W,X,Y)] 147)).step f);have aw:=c.o.size;clear f;obtain⟨⟨c0,c1,c2,c3,c4,c5⟩,q⟩:=c.o.own
     obtain⟨⟨y,z,A,B,C,D⟩,E⟩:=c.o.s))
 obtain⟨ak,f1,al,f3,am,an⟩:=c.o.1.read (.int .i64 1) (.int .i64 t) (.string s) (.slice (some ⟨k.heap.size,0,none⟩) 1 1) (.slice none 0 0) (.slice none 0 0);refine bodyPost_ret (v:=.agg #[(1:Int),(t:Int),s,.slice (some ⟨k.heap.size,0,none⟩) 1 1,(),()]) (by simp[results,results103,go_sem,ak,f1,al,f3,am,an]) rfl ?_;refine c.o.fin (by rw[jy,jg,jg,<-zb]) ?_;have hF:=aa.o;rw[zb,<-jg (F:=fun(a:Int) (s:C2)=>(a,s))]at hF;refine jE (jE (Q:=fun a=>∃e,a=St.mk 1 t s [e] [] []/\jc (w.heap.size+2) _ [e] _) (jE (Q:=fun p=>p=(t,s)) ae.o ad.o ai.o (fun a b j ao=>by rw[j,ao])) hF ah.o (fun p e aq G=>⟨e,by rw[aq],G⟩)) (vR I.o) I.o fun a _ j _=>?_
 obtain⟨e,rfl,G⟩:=j;exact⟨_,_,_,rfl,jc.keep G (af.o.trans (zM.wh O _ _ _ _ _ _)) O,qx _ _,qx _ _⟩
theorem NH{tj:List fH}(m:zc b V tj r false false w)(ar:0<=d/\d<=100)(N:zq k0 r=false)(G:zq xP r=true)(l:zI (pS (n+1) d r)):
 Cy 103 #[(b,0),(d:Int)] w (qk b V tj w (pS (n+1) d r) (gW w.heap.size)):=by
 obtain⟨_,_⟩:=ar;have c:=U (x9.start (x:=.ok () r) m);have ax:=m.lt;have ay:¬100<d:=O
 have K:pS (n+1) d r=jS (jS (jS ((PR.ok () r).bind fun _ r=>k1 r) (fun r=>qr 1 r) fun t s=>(t,s)) (fun r=>(zN [61] r).bind fun _ r=>pE n 1 1 r) fun p e=>St.mk 1 p.1 p.2 [e] [] []) (fun r=>zN [59] r) fun a _=>a:=by
  rw[pS,Dp O,Dq (.inr G)];unfold vI jS;simp only[zb,mQ]
 rw[K]at l ⊢;have ak:=C0 (zU (⟨#[105,110,116]⟩:C2).data.toList (PR.ok () r)=false) N;have al:=C0 (zU (⟨#[98,111,111,108]⟩:C2).data.toList (PR.ok () r)=true) G;have I:=U (qb l);have u:=qb (qO l);have ai:=U u;have M:=qO (qO (qO l));have ah:=U M;have aj:=U (qb (qO (qO l)));rw[jg,<-zb]at u;have J:=U u;clear m l K u M N G;have aa:=U (vA (b:=b) (V:=V) (tj:=tj) (n:=n) (d:=1) Uf Uf);go_enter func103,ntmps103
 go_wp2_with (first
  |(go_at_call 81;(with_reducible refine(jf c.o.st _ false ak.o).mono ?_);rintro e av ⟨rfl,f⟩;replace c:=U (c.o.step f);clear f)
  |(go_at_call 81;(with_reducible refine(jf c.o.st _ true al.o).mono ?_);rintro e av ⟨rfl,f⟩;replace c:=U (c.o.step f);clear f)
  | (go_at_call 54;(with_reducible refine(uO c.o.st).mono ?_);rintro e _ ⟨v,rfl,f,i⟩
     obtain⟨t,rfl⟩:=FC i ah.o;have af:=C0 (j9 _ fun a=>a=t) (i.imp fun a j=>Gi);replace c:=U (c.o.step f);clear f i;obtain⟨⟨c0,c1,c2,c3,c4,c5⟩,q⟩:=c.o.own
     obtain⟨⟨y,z,A,B,C,D⟩,E⟩:=c.o.s)
  | (go_at_call 55;(with_reducible refine(y7 ((c.o.set0 (.int .i64 1)).ww (.int .i64 t)).st 1 Uf).mono ?_);rintro e _ ⟨s,rfl,f,i⟩
     have ae:=U i;replace c:=U (((c.o.set0 (.int .i64 1)).ww (.int .i64 t)).step f);clear f i;obtain⟨⟨c0,c1,c2,c3,c4,c5⟩,q⟩:=c.o.own
     obtain⟨⟨y,z,A,B,C,D⟩,E⟩:=c.o.s)
  | (go_at_call 58;(with_reducible refine(zg (c.o.set2 (.string s)).st ⟨#[61]⟩).mono ?_);rintro e aw ⟨rfl,f⟩
     replace c:=C0 (x9 b V tj w ((((PR.ok () r).bind fun _ r=>k1 r).un.bind fun _ r=>qr 1 r).un.bind fun _ r=>zN [61] r) aw _ _ _ _ _ _) ((c.o.set2 (.string s)).step f);clear f;obtain⟨⟨c0,c1,c2,c3,c4,c5⟩,q⟩:=c.o.own
     obtain⟨⟨y,z,A,B,C,D⟩,E⟩:=c.o.s)
  | (go_at_call 126;(with_reducible refine(aa.o.call c.o.st J.o).mono ?_);rintro e k ⟨v,rfl,f,i⟩
     obtain⟨P,R,S,W,X,Y,Z,rfl⟩:=jC i J.o;have ad:=C0 (j9 _ fun a=>kn (w.heap.size+2) k a _) (i.imp fun a j=>kn.keep j (zM.refl _ _) Us);replace c:=U (c.o.step f);have aA:=c.o.size;clear f i;obtain⟨⟨c0,c1,c2,c3,c4,c5⟩,q⟩:=c.o.own
     obtain⟨⟨y,z,A,B,C,D⟩,E⟩:=c.o.s)
  | (go_at_call 58;(with_reducible refine(zg ((c.o.wk (.slice (some ⟨k.heap.size,0,none⟩) 1 1)).alloc (.cells #[.int .i64 P,.int .i64 R,.int .i64 S,.string W,.slice X Y Z] 147)).st ⟨#[59]⟩).mono ?_);rintro e w9 ⟨rfl,f⟩
     have ab:=C0 (j9 _ fun a=>jc (w.heap.size+2) _ [a] _) (ad.o.imp fun a j=>uG (T:=147) (kn.keep j (zM.set (g:=w.heap.size+1) O 3 (.slice (some ⟨k.heap.size,0,none⟩) 1 1)) Zr) Zr Ug (g:=k.heap.size) Uh);have ag:=U (zM.did (L:=w.heap.size+2) f O);replace c:=U (((c.o.wk (.slice (some ⟨k.heap.size,0,none⟩) 1 1)).alloc (.cells #[(P:Int),(R:Int),(S:Int),W,(X,Y,Z)] 147)).step f);have az:=c.o.size;clear f;obtain⟨⟨c0,c1,c2,c3,c4,c5⟩,q⟩:=c.o.own
     obtain⟨⟨y,z,A,B,C,D⟩,E⟩:=c.o.s))
 obtain⟨am,f1,an,f3,ao,ap⟩:=c.o.1.read (.int .i64 1) (.int .i64 t) (.string s) (.slice (some ⟨k.heap.size,0,none⟩) 1 1) (.slice none 0 0) (.slice none 0 0);refine bodyPost_ret (v:=.agg #[(1:Int),(t:Int),s,.slice (some ⟨k.heap.size,0,none⟩) 1 1,(),()]) (by simp[results,results103,go_sem,am,f1,an,f3,ao,ap]) rfl ?_;refine c.o.fin (by rw[jy,jg,jg,<-zb]) ?_;have hF:=ab.o;rw[zb,<-jg (F:=fun(a:Int) (s:C2)=>(a,s))]at hF;refine jE (jE (Q:=fun a=>∃e,a=St.mk 1 t s [e] [] []/\jc (w.heap.size+2) _ [e] _) (jE (Q:=fun p=>p=(t,s)) af.o ae.o aj.o (fun a b j aq=>by rw[j,aq])) hF ai.o (fun p e au H=>⟨e,by rw[au],H⟩)) (vR I.o) I.o fun a _ j _=>?_
 obtain⟨e,rfl,H⟩:=j;exact⟨_,_,_,rfl,jc.keep H (ag.o.trans (zM.wh O _ _ _ _ _ _)) O,qx _ _,qx _ _⟩
theorem FF{tj:List fH}(S:CB b V tj n (d+1))(A:zc b V tj r false false w)(ak:0<=d/\d<=100)(E:zq k0 r=false)(C:zq xP r=false)(D:zq ML r=false)(F:zq vH r=true)(q:zI (pS (n+1) d r)):
 Cy 103 #[(b,0),(d:Int)] w (qk b V tj w (pS (n+1) d r) (gW w.heap.size)):=by
 obtain⟨_,_⟩:=ak;have c:=U (x9.start (x:=.ok () r) A);have ao:=A.lt;have ap:¬100<d:=O
 have R:pS (n+1) d r=jS ((PR.ok () r.tail).bind fun _ r=>pI n r) (fun r=>pB n (d+1) r) fun e t=>St.mk 5 0 bE [e] t []:=by rw[pS,Dp O,Dp (by rw[E,C];decide),Dp (by rw[D];decide),Dq F];rfl
 rw[R]at q ⊢;have ab:=C0 (zU (⟨#[105,110,116]⟩:C2).data.toList (PR.ok () r)=false) E;have ad:=C0 (zU (⟨#[98,111,111,108]⟩:C2).data.toList (PR.ok () r)=false) C;have ae:=C0 (zU (⟨#[105,102]⟩:C2).data.toList (PR.ok () r)=false) D;have af:=C0 (zU (⟨#[119,104,105,108,101]⟩:C2).data.toList (PR.ok () r)=true) F;have y:=U (qb q);have Q:=U (qO q);have X:=U S;clear A q R S E C D F;go_enter func103,ntmps103
 go_wp2_with (first
  |(go_at_call 81;(with_reducible refine(jf c.o.st _ false ab.o).mono ?_);rintro e u ⟨rfl,f⟩;replace c:=U (c.o.step f);clear f)
  |(go_at_call 81;(with_reducible refine(jf c.o.st _ false ad.o).mono ?_);rintro e u ⟨rfl,f⟩;replace c:=U (c.o.step f);clear f)
  | (go_at_call 56;(with_reducible refine(zE c.o.st _ ae.o).mono ?_);rintro e u ⟨rfl,f⟩
     replace c:=U (c.o.step f);clear f;obtain⟨⟨c0,c1,c2,c3,c4,c5⟩,z⟩:=c.o.own
     obtain⟨⟨G,H,I,J,K,M⟩,N⟩:=c.o.s)
  | (go_at_call 56;(with_reducible refine(qA c.o.st _ af.o).mono ?_);rintro e u ⟨rfl,f⟩
     replace c:=C0 (x9 b V tj w (.ok () r.tail) u _ _ _ _ _ _) (c.o.step f);clear f;obtain⟨⟨c0,c1,c2,c3,c4,c5⟩,z⟩:=c.o.own
     obtain⟨⟨G,H,I,J,K,M⟩,N⟩:=c.o.s)
  | (go_at_call 127;(with_reducible refine(uy c.o.st Q.o).mono ?_);rintro e an ⟨v,rfl,f,i⟩
     obtain⟨j,k,l,rfl⟩:=mP i Q.o;have Y:=C0 (j9 _ fun a=>jc (w.heap.size+2) an [a] (.slice j k l)) (i.imp fun a B=>jc.keep B (zM.refl _ _) Us);replace c:=U (c.o.step f);clear f i;obtain⟨⟨c0,c1,c2,c3,c4,c5⟩,z⟩:=c.o.own
     obtain⟨⟨G,H,I,J,K,M⟩,N⟩:=c.o.s)
  | (go_at_call 82;(with_reducible refine(X.o.call ((c.o.set0 (.int .i64 5)).wk (.slice j k l)).st y.o).mono ?_);rintro e W ⟨v,rfl,f,i⟩
     obtain⟨m,p,q4,rfl⟩:=xZ i y.o;have aa:=C0 (j9 _ fun a=>xk (w.heap.size+2) W a _) (i.imp fun a B=>xk.keep B (zM.refl _ _) Us);have Z:=U (((zM.set (L:=w.heap.size+2) (g:=w.heap.size+1) O 0 (.int .i64 5)).trans (zM.set (g:=w.heap.size+1) O 3 (.slice j k l))).trans (zM.did f O));replace c:=U (((c.o.set0 (.int .i64 5)).wk (.slice j k l)).step f);clear f i;obtain⟨⟨c0,c1,c2,c3,c4,c5⟩,z⟩:=c.o.own
     obtain⟨⟨G,H,I,J,K,M⟩,N⟩:=c.o.s))
 have P:=U (c.o.wz (.slice m p q4));obtain⟨ag,f1,ah,f3,ai,aj⟩:=P.o.1.read (.int .i64 5) (.int .i64 0) (.string ⟨#[]⟩) (.slice j k l) (.slice m p q4) (.slice none 0 0);refine bodyPost_ret (v:=.agg #[(5:Int),(0:Int),.string ⟨#[]⟩,(j,k,l),(m,p,q4),()]) (by simp[results,results103,go_sem,ag,f1,ah,f3,ai,aj]) rfl ?_;have T:=(zM.set (L:=w.heap.size+2) (w:=W) (g:=w.heap.size+1) O 4 (.slice m p q4)).trans (zM.wh (g:=w.heap.size) O (.int .i64 5) (.int .i64 0) (.string ⟨#[]⟩) (.slice j k l) (.slice m p q4) (.slice none 0 0));refine P.o.fin (jg _ _ _) (jE Y.o aa.o y.o fun e t al am=>?_);exact⟨_,_,_,rfl,jc.keep al (Z.o.trans T) O,xk.keep am T O,qx _ _⟩
theorem sN:((pI n r.tail).bind fun e r=>(pB n (d+1) r).bind fun t r=>q3 n d e t r)=(jS ((PR.ok () r.tail).bind fun _ r=>pI n r) (fun r=>pB n (d+1) r) fun e t=>(e,t)).bind fun p r=>q3 n d p.1 p.2 r:=by
 unfold jS;simp only[zb,mQ]
theorem mR{tj:List fH}(W:CB b V tj n (d+1))(C:zc b V tj r false false w)(aq:0<=d/\d<=100)(H:zq k0 r=false)(E:zq xP r=false)(G:zq ML r=true)(y:zU y2 (jS ((PR.ok () r.tail).bind fun _ r=>pI n r) (fun r=>pB n (d+1) r) fun e t=>(e,t))=false)(j:zI (pS (n+1) d r)):
 Cy 103 #[(b,0),(d:Int)] w (qk b V tj w (pS (n+1) d r) (gW w.heap.size)):=by
 obtain⟨_,_⟩:=aq;have c:=U (x9.start (x:=.ok () r) C);have aw:=C.lt;have ax:¬100<d:=O
 have T:pS (n+1) d r=jS ((PR.ok () r.tail).bind fun _ r=>pI n r) (fun r=>pB n (d+1) r) fun e t=>St.mk 4 0 bE [e] t []:=by
  have ao:pS (n+1) d r=(jS ((PR.ok () r.tail).bind fun _ r=>pI n r) (fun r=>pB n (d+1) r) fun e t=>(e,t)).bind fun p r=>q3 n d p.1 p.2 r:=by rw[pS,Dp O,Dp (by rw[H,E];decide),Dq G,sN]
  rw[ao]at j ⊢
  have ap:(jS ((PR.ok () r.tail).bind fun _ r=>pI n r) (fun r=>pB n (d+1) r) fun e t=>St.mk 4 0 bE [e] t [])=(jS ((PR.ok () r.tail).bind fun _ r=>pI n r) (fun r=>pB n (d+1) r) fun e t=>(e,t)).bind fun p r=>.ok (St.mk 4 0 bE [p.1] p.2 []) r:=by
   unfold jS;simp only[zb,mQ]
  rw[ap];cases hx:(jS ((PR.ok () r.tail).bind fun _ r=>pI n r) (fun r=>pB n (d+1) r) fun e t=>(e,t))with
  |ok p z=>
    rw[hx]at j y;cases n with
    |zero=>exact absurd (show zI (q3 0 d p.1 p.2 z)from j) (by rw[q3];exact id)
    |succ n=>
      show q3 (n+1) d p.1 p.2 z=.ok _ z;rw[q3,Dp (by rw[show zq y2 z=false from y];decide)]
  |_=>rfl
 rw[T]at j ⊢;have ah:=C0 (zU (⟨#[105,110,116]⟩:C2).data.toList (PR.ok () r)=false) H;have ai:=C0 (zU (⟨#[98,111,111,108]⟩:C2).data.toList (PR.ok () r)=false) E;have aj:=C0 (zU (⟨#[105,102]⟩:C2).data.toList (PR.ok () r)=true) G;have A:=U (qb j);have S:=U (qO j);have aa:=U W
 have X:zU (⟨#[101,108,115,101]⟩:C2).data.toList (((PR.ok () r.tail).bind fun _ r=>pI n r).un.bind fun _ r=>pB n (d+1) r).un=false:=by
  rw[<-jg (F:=fun e t=>(e,t))];revert y;cases(jS ((PR.ok () r.tail).bind fun _ r=>pI n r) (fun r=>pB n (d+1) r) fun e t=>(e,t))<;>exact id
 have ab:=U X;clear C j T W y X H E G;go_enter func103,ntmps103
 go_wp2_with (first
  |(go_at_call 81;(with_reducible refine(jf c.o.st _ false ah.o).mono ?_);rintro e R ⟨rfl,f⟩;replace c:=U (c.o.step f);clear f)
  |(go_at_call 81;(with_reducible refine(jf c.o.st _ false ai.o).mono ?_);rintro e R ⟨rfl,f⟩;replace c:=U (c.o.step f);clear f)
  | (go_at_call 56;(with_reducible refine(qA c.o.st _ aj.o).mono ?_);rintro e R ⟨rfl,f⟩
     replace c:=C0 (x9 b V tj w (.ok () r.tail) R _ _ _ _ _ _) (c.o.step f);clear f;obtain⟨⟨c0,c1,c2,c3,c4,c5⟩,B⟩:=c.o.own
     obtain⟨⟨I,J,K,M,N,P⟩,Q⟩:=c.o.s)
  | (go_at_call 127;(with_reducible refine(uy c.o.st S.o).mono ?_);rintro e av ⟨v,rfl,f,i⟩
     obtain⟨k,l,m,rfl⟩:=mP i S.o;have ad:=C0 (j9 _ fun a=>jc (w.heap.size+2) av [a] (.slice k l m)) (i.imp fun a D=>jc.keep D (zM.refl _ _) Us);replace c:=U (c.o.step f);clear f i;obtain⟨⟨c0,c1,c2,c3,c4,c5⟩,B⟩:=c.o.own
     obtain⟨⟨I,J,K,M,N,P⟩,Q⟩:=c.o.s)
  | (go_at_call 82;(with_reducible refine(aa.o.call ((c.o.set0 (.int .i64 4)).wk (.slice k l m)).st A.o).mono ?_);rintro e Z ⟨v,rfl,f,i⟩
     obtain⟨q,u,q4,rfl⟩:=xZ i A.o;have ag:=C0 (j9 _ fun a=>xk (w.heap.size+2) Z a _) (i.imp fun a D=>xk.keep D (zM.refl _ _) Us);have ae:=U (((zM.set (L:=w.heap.size+2) (g:=w.heap.size+1) O 0 (.int .i64 4)).trans (zM.set (g:=w.heap.size+1) O 3 (.slice k l m))).trans (zM.did f O));replace c:=U (((c.o.set0 (.int .i64 4)).wk (.slice k l m)).step f);clear f i;obtain⟨⟨c0,c1,c2,c3,c4,c5⟩,B⟩:=c.o.own
     obtain⟨⟨I,J,K,M,N,P⟩,Q⟩:=c.o.s)
  | (go_at_call 56;(with_reducible refine(zE (c.o.wz (.slice q u q4)).st _ ab.o).mono ?_);rintro e _ ⟨rfl,f⟩
     have af:=U ((zM.set (L:=w.heap.size+2) (w:=Z) (g:=w.heap.size+1) O 4 (.slice q u q4)).trans (zM.did f O));replace c:=U ((c.o.wz (.slice q u q4)).step f);clear f;obtain⟨⟨c0,c1,c2,c3,c4,c5⟩,B⟩:=c.o.own
     obtain⟨⟨I,J,K,M,N,P⟩,Q⟩:=c.o.s))
 obtain⟨ak,f1,al,f3,am,an⟩:=c.o.1.read (.int .i64 4) (.int .i64 0) (.string ⟨#[]⟩) (.slice k l m) (.slice q u q4) (.slice none 0 0);refine bodyPost_ret (v:=.agg #[(4:Int),(0:Int),.string ⟨#[]⟩,(k,l,m),(q,u,q4),()]) (by simp[results,results103,go_sem,ak,f1,al,f3,am,an]) rfl ?_;have Y:=af.o.trans (zM.wh (g:=w.heap.size) O (.int .i64 4) (.int .i64 0) (.string ⟨#[]⟩) (.slice k l m) (.slice q u q4) (.slice none 0 0));refine c.o.fin (jg _ _ _) (jE ad.o ag.o A.o fun e t ar au=>?_);exact⟨_,_,_,rfl,jc.keep ar (ae.o.trans Y) O,xk.keep au Y O,qx _ _⟩
theorem NI{tj:List fH}{q:Nat}{p:Ex×List St}{j:List fH}(aO:n=q+1)(an:CB b V tj n (d+1))(ao:CB b V tj q (d+1))(T:zc b V tj r false false w)(aN:0<=d/\d<=100)(ab:zq k0 r=false)(X:zq xP r=false)(aa:zq ML r=true)(A:(jS ((PR.ok () r.tail).bind fun _ r=>pI n r) (fun r=>pB n (d+1) r) fun e t=>(e,t))=.ok p j)(Z:zq y2 j=true)(ae:zI (pS (n+1) d r)):
 Cy 103 #[(b,0),(d:Int)] w (qk b V tj w (pS (n+1) d r) (gW w.heap.size)):=by
 obtain⟨_,_⟩:=aN;have c:=U (x9.start (x:=.ok () r) T);have aQ:=T.lt;have aR:¬100<d:=O
 have al:pS (n+1) d r=(pB q (d+1) j.tail).bind fun P r=>.ok (St.mk 4 0 bE [p.1] p.2 P) r:=by
  have aM:pS (n+1) d r=(jS ((PR.ok () r.tail).bind fun _ r=>pI n r) (fun r=>pB n (d+1) r) fun e t=>(e,t)).bind fun p r=>q3 n d p.1 p.2 r:=by rw[pS,Dp O,Dp (by rw[ab,X];decide),Dq aa,sN]
  rw[aM,A,aO];show q3 (q+1) d p.1 p.2 j=_;rw[q3,Dq Z]
 rw[al]at ae ⊢;have aF:=C0 (zU (⟨#[105,110,116]⟩:C2).data.toList (PR.ok () r)=false) ab;have aG:=C0 (zU (⟨#[98,111,111,108]⟩:C2).data.toList (PR.ok () r)=false) X;have aH:=C0 (zU (⟨#[105,102]⟩:C2).data.toList (PR.ok () r)=true) aa;have W:zI (jS ((PR.ok () r.tail).bind fun _ r=>pI n r) (fun r=>pB n (d+1) r) fun e t=>(e,t)):=by rw[A];trivial
 have S:=U (qb W);have aj:=U (qO W);have ak:=C0 (zI ((PR.ok () j.tail).bind fun _ r=>pB q (d+1) r)) (qM ae);have aw:=U an;have ax:=U ao;have av:=U A;have az:=U (show(((PR.ok () r.tail).bind fun _ r=>pI n r).un.bind fun _ r=>pB n (d+1) r).un=.ok () j by rw[<-jg (F:=fun e t=>(e,t)),A];rfl);have ay:=C0 (zU (⟨#[101,108,115,101]⟩:C2).data.toList (PR.ok () j)=true) Z;clear T ae al an ao Z A W ab X aa;go_enter func103,ntmps103
 go_wp2_with (first
  |(go_at_call 81;(with_reducible refine(jf c.o.st _ false aF.o).mono ?_);rintro e ag ⟨rfl,f⟩;replace c:=U (c.o.step f);clear f)
  |(go_at_call 81;(with_reducible refine(jf c.o.st _ false aG.o).mono ?_);rintro e ag ⟨rfl,f⟩;replace c:=U (c.o.step f);clear f)
  | (go_at_call 56;(with_reducible refine(qA c.o.st _ aH.o).mono ?_);rintro e ag ⟨rfl,f⟩
     replace c:=C0 (x9 b V tj w (.ok () r.tail) ag _ _ _ _ _ _) (c.o.step f);clear f;obtain⟨⟨c0,c1,c2,c3,c4,c5⟩,E⟩:=c.o.own
     obtain⟨⟨G,H,I,J,K,M⟩,N⟩:=c.o.s)
  | (go_at_call 127;(with_reducible refine(uy c.o.st aj.o).mono ?_);rintro e ar ⟨v,rfl,f,i⟩
     obtain⟨k,l,m,rfl⟩:=mP i aj.o;have aA:=C0 (j9 _ fun a=>jc (w.heap.size+2) ar [a] (.slice k l m)) (i.imp fun a B=>jc.keep B (zM.refl _ _) Us);replace c:=U (c.o.step f);clear f i;obtain⟨⟨c0,c1,c2,c3,c4,c5⟩,E⟩:=c.o.own
     obtain⟨⟨G,H,I,J,K,M⟩,N⟩:=c.o.s)
  | (go_at_call 82;(with_reducible refine(aw.o.call ((c.o.set0 (.int .i64 4)).wk (.slice k l m)).st S.o).mono ?_);rintro e R ⟨v,rfl,f,i⟩
     obtain⟨u,y,q4,rfl⟩:=xZ i S.o;have aD:=C0 (j9 _ fun a=>xk (w.heap.size+2) R a _) (i.imp fun a B=>xk.keep B (zM.refl _ _) Us);have aB:=U (((zM.set (L:=w.heap.size+2) (g:=w.heap.size+1) O 0 (.int .i64 4)).trans (zM.set (g:=w.heap.size+1) O 3 (.slice k l m))).trans (zM.did f O));replace c:=U (show x9 b V tj w (.ok () j) R _ _ _ _ _ _ by have am:=((c.o.set0 (.int .i64 4)).wk (.slice k l m)).step f;rw[az.o]at am;exact am);clear f i;obtain⟨⟨c0,c1,c2,c3,c4,c5⟩,E⟩:=c.o.own
     obtain⟨⟨G,H,I,J,K,M⟩,N⟩:=c.o.s)
  | (go_at_call 56;(with_reducible refine(qA (c.o.wz (.slice u y q4)).st _ ay.o).mono ?_);rintro e aP ⟨rfl,f⟩
     have aC:=U ((zM.set (L:=w.heap.size+2) (w:=R) (g:=w.heap.size+1) O 4 (.slice u y q4)).trans (zM.did f O));replace c:=C0 (x9 b V tj w (.ok () j.tail) aP _ _ _ _ _ _) ((c.o.wz (.slice u y q4)).step f);clear f;obtain⟨⟨c0,c1,c2,c3,c4,c5⟩,E⟩:=c.o.own
     obtain⟨⟨G,H,I,J,K,M⟩,N⟩:=c.o.s)
  | (go_at_call 82;(with_reducible refine(ax.o.call c.o.st ak.o).mono ?_);rintro e au ⟨v,rfl,f,i⟩
     obtain⟨z,C,D,rfl⟩:=xZ i ak.o;have aE:=C0 (j9 _ fun a=>xk (w.heap.size+2) au a _) (i.imp fun a B=>xk.keep B (zM.refl _ _) Us);have ai:=U (aC.o.trans (zM.did f O));replace c:=U (c.o.step f);clear f i;obtain⟨⟨c0,c1,c2,c3,c4,c5⟩,E⟩:=c.o.own
     obtain⟨⟨G,H,I,J,K,M⟩,N⟩:=c.o.s))
 have ah:=U (c.o.set5 (.slice z C D));obtain⟨aI,f1,aJ,f3,aK,aL⟩:=ah.o.1.read (.int .i64 4) (.int .i64 0) (.string ⟨#[]⟩) (.slice k l m) (.slice u y q4) (.slice z C D);refine bodyPost_ret (v:=.agg #[(4:Int),(0:Int),.string ⟨#[]⟩,(k,l,m),(u,y,q4),(z,C,D)]) (by simp[results,results103,go_sem,aI,f1,aJ,f3,aK,aL]) rfl ?_;have ad:=(zM.set (L:=w.heap.size+2) (w:=au) (g:=w.heap.size+1) O 5 (.slice z C D)).trans (zM.wh (g:=w.heap.size) O (.int .i64 4) (.int .i64 0) (.string ⟨#[]⟩) (.slice k l m) (.slice u y q4) (.slice z C D));have ap:=jE (F:=fun e t=>(e,t)) (Q:=fun p:Ex×List St=>jc (w.heap.size+2) ar [p.1] (.slice k l m)/\xk (w.heap.size+2) R p.2 (.slice u y q4)) aA.o aD.o S.o fun e t Y af=>⟨Y,af⟩
 rw[av.o]at ap;obtain⟨Y,af⟩:=ap;refine ah.o.fin Kn (j9.bind aE.o (fun P r _ aq=>?_) fun P aq=>⟨St.mk 4 0 bE [p.1] p.2 P,?_⟩)
 all_goals exact⟨_,_,_,rfl,jc.keep Y (aB.o.trans (ai.o.trans ad)) O,xk.keep af (ai.o.trans ad) O,xk.keep aq ad O⟩
theorem x9.deepen{tj:List fH}(a:zc b V tj r false false w):x9 b V tj w (.deep r) (((w.setCell (b,3) true).alloc uY).alloc uY) (.int .i64 0) (.int .i64 0) (.string ⟨#[]⟩) (.slice none 0 0) (.slice none 0 0) (.slice none 0 0):=by
 have c:jJ b V tj w (.deep r) (w.setCell (b,3) true):=⟨a.deepen,(fI.refl b _ _).wt a.lt 3 _⟩
 refine⟨⟨(c.alloc _).alloc _,?_,a.2.1,a.lt⟩,?_⟩
 .refine zu ?_ _
  have:=Ds (w.setCell (b,3) true) uY;rw[xA]at this;exact this
 .have:=Ds ((w.setCell (b,3) true).alloc uY) uY
  rw[zA,xA]at this;exact this
theorem NJ{tj:List fH}(A:zc b V tj r false false w)(_:0<=d/\d<=1000)(ah:100<d)(ai:zI (pS (n+1) d r)):
 Cy 103 #[(b,0),(d:Int)] w (qk b V tj w (pS (n+1) d r) (gW w.heap.size)):=by
 have N:pS (n+1) d r=.deep r:=by rw[pS,Dq ah]
 rw[N];have f3:=A.1.frozen 3;obtain⟨_,_,_,_⟩:=A.cells;have aj:=A.lt;have c:=U (x9.deepen A);clear A ai N;have S:=C0 (zU (⟨#[105,110,116]⟩:C2).data.toList (PR.deep r:PR Unit)=false) rfl;have T:=C0 (zU (⟨#[98,111,111,108]⟩:C2).data.toList (PR.deep r:PR Unit)=false) rfl;have W:=C0 (zU (⟨#[105,102]⟩:C2).data.toList (PR.deep r:PR Unit)=false) rfl;have X:=C0 (zU (⟨#[119,104,105,108,101]⟩:C2).data.toList (PR.deep r:PR Unit)=false) rfl;have Y:=C0 (zU (⟨#[98,114,101,97,107]⟩:C2).data.toList (PR.deep r:PR Unit)=false) rfl;have Z:=C0 (zU (⟨#[99,111,110,116,105,110,117,101]⟩:C2).data.toList (PR.deep r:PR Unit)=false) rfl;have aa:=C0 (zU (⟨#[114,101,116,117,114,110]⟩:C2).data.toList (PR.deep r:PR Unit)=false) rfl;have ab:=C0 (zU (⟨#[112,114,105,110,116]⟩:C2).data.toList (PR.deep r:PR Unit)=false) rfl;have M:=C0 (zI ((PR.deep r:PR Unit).bind fun _ r=>q2 0 r)) trivial;go_enter func103,ntmps103
 go_wp2_with (first
  |(go_at_call 81;(with_reducible refine(jf c.o.st _ false S.o).mono ?_);rintro e u ⟨rfl,f⟩;replace c:=U (c.o.step f);clear f)
  |(go_at_call 81;(with_reducible refine(jf c.o.st _ false T.o).mono ?_);rintro e u ⟨rfl,f⟩;replace c:=U (c.o.step f);clear f)
  | (go_at_call 56;(with_reducible refine(zE c.o.st _ W.o).mono ?_);rintro e u ⟨rfl,f⟩
     replace c:=U (c.o.step f);clear f;obtain⟨⟨c0,c1,c2,c3,c4,c5⟩,i⟩:=c.o.own
     obtain⟨⟨j,k,l,m,p,q⟩,t⟩:=c.o.s)
  | (go_at_call 56;(with_reducible refine(zE c.o.st _ X.o).mono ?_);rintro e u ⟨rfl,f⟩
     replace c:=U (c.o.step f);clear f;obtain⟨⟨c0,c1,c2,c3,c4,c5⟩,i⟩:=c.o.own
     obtain⟨⟨j,k,l,m,p,q⟩,t⟩:=c.o.s)
  | (go_at_call 56;(with_reducible refine(zE c.o.st _ Y.o).mono ?_);rintro e u ⟨rfl,f⟩
     replace c:=U (c.o.step f);clear f;obtain⟨⟨c0,c1,c2,c3,c4,c5⟩,i⟩:=c.o.own
     obtain⟨⟨j,k,l,m,p,q⟩,t⟩:=c.o.s)
  | (go_at_call 56;(with_reducible refine(zE c.o.st _ Z.o).mono ?_);rintro e u ⟨rfl,f⟩
     replace c:=U (c.o.step f);clear f;obtain⟨⟨c0,c1,c2,c3,c4,c5⟩,i⟩:=c.o.own
     obtain⟨⟨j,k,l,m,p,q⟩,t⟩:=c.o.s)
  | (go_at_call 56;(with_reducible refine(zE c.o.st _ aa.o).mono ?_);rintro e u ⟨rfl,f⟩
     replace c:=U (c.o.step f);clear f;obtain⟨⟨c0,c1,c2,c3,c4,c5⟩,i⟩:=c.o.own
     obtain⟨⟨j,k,l,m,p,q⟩,t⟩:=c.o.s)
  | (go_at_call 56;(with_reducible refine(zE c.o.st _ ab.o).mono ?_);rintro e u ⟨rfl,f⟩
     replace c:=U (c.o.step f);clear f;obtain⟨⟨c0,c1,c2,c3,c4,c5⟩,i⟩:=c.o.own
     obtain⟨⟨j,k,l,m,p,q⟩,t⟩:=c.o.s)
  | (go_at_call 128;(with_reducible refine(AM c.o.st M.o).mono ?_);rintro e P ⟨v,rfl,f,J⟩
     obtain⟨B,C,D,x,E,H,y,F,q4,z,G,I,rfl⟩:=oH J M.o;have Q:=U (show ∃a,gW (w.heap.size+2) P a _ by obtain⟨a,K⟩:=J;exact⟨a,gW.keep K (zM.refl _ _) Us⟩);replace c:=C0 (x9 b V tj w (.deep r) P _ _ _ _ _ _) (c.o.step f);clear f J;obtain⟨⟨c0,c1,c2,c3,c4,c5⟩,i⟩:=c.o.own
     obtain⟨⟨j,k,l,m,p,q⟩,t⟩:=c.o.s)
  | (go_at_call 58;(with_reducible refine(zg ((((((c.o.set0 (.int .i64 B)).ww (.int .i64 C)).set2 (.string D)).wk (.slice x E H)).wz (.slice y F q4)).set5 (.slice z G I)).st ⟨#[59]⟩).mono ?_);rintro e w9 ⟨rfl,f⟩
     have R:=U ((zM.wh (L:=w.heap.size+2) (g:=w.heap.size+1) O (.int .i64 B) (.int .i64 C) (.string D) (.slice x E H) (.slice y F q4) (.slice z G I)).trans (zM.did f O));replace c:=U (((((((c.o.set0 (.int .i64 B)).ww (.int .i64 C)).set2 (.string D)).wk (.slice x E H)).wz (.slice y F q4)).set5 (.slice z G I)).step f);have ak:=c.o.size;clear f;obtain⟨⟨c0,c1,c2,c3,c4,c5⟩,i⟩:=c.o.own
     obtain⟨⟨j,k,l,m,p,q⟩,t⟩:=c.o.s))
 obtain⟨ad,f1,ae,f3,af,ag⟩:=c.o.1.read (.int .i64 B) (.int .i64 C) (.string D) (.slice x E H) (.slice y F q4) (.slice z G I);refine bodyPost_ret (v:=.agg #[(B:Int),(C:Int),D,(x,E,H),(y,F,q4),(z,G,I)]) (by simp[results,results103,go_sem,ad,f1,ae,f3,af,ag]) rfl ?_;refine c.o.fin rfl ?_;obtain⟨a,K⟩:=Q.o;exact⟨a,gW.keep K (R.o.trans (zM.wh O _ _ _ _ _ _)) O⟩
theorem NK{tj:List fH}(k:d<=100->∀m,m<=n->CB b V tj m (d+1))(c:zc b V tj r false false w)(l:0<=d/\d<=1000)(a:zI (pS (n+1) d r)):
 Cy 103 #[(b,0),(d:Int)] w (qk b V tj w (pS (n+1) d r) (gW w.heap.size)):=by
 by_cases j:d<=100
 .have f:0<=d/\d<=100:=⟨l.1,j⟩
  have g:=k j n Zr;cases h0:zq k0 r with
  |true=>exact RZ c f h0 a
  |false=>
    cases h1:zq xP r with
    |true=>exact NH c f h0 h1 a
    |false=>
      cases h2:zq ML r with
      |true=>
        cases hA:(jS ((PR.ok () r.tail).bind fun _ r=>pI n r) (fun r=>pB n (d+1) r) fun e t=>(e,t))with
        |ok p i=>
          cases hel:zq y2 i with
          |true=>
            cases n with
            |zero=>
              rw[pS,Dp O,Dp (by rw[h0,h1];decide),Dq h2,sN,hA]at a;exact absurd (show zI (q3 0 d p.1 p.2 i)from a) (by rw[q3];exact id)
            |succ q=>exact NI rfl g (k j q O) c f h0 h1 h2 hA hel a
          |false=>exact mR g c f h0 h1 h2 (by rw[hA];exact hel) a
        |bad i=>exact mR g c f h0 h1 h2 (by rw[hA];rfl) a
        |deep i=>exact mR g c f h0 h1 h2 (by rw[hA];rfl) a
        |o=>exact mR g c f h0 h1 h2 (by rw[hA];rfl) a
      |false=>
        cases h3:zq vH r with
        |true=>exact FF g c f h0 h1 h2 h3 a
        |false=>
          cases h4:zq hK r with
          |true=>exact FD c f h0 h1 h2 h3 h4 a
          |false=>
            cases h5:zq rT r with
            |true=>exact wU c f h0 h1 h2 h3 h4 h5 a
            |false=>
              cases h6:zq EF r with
              |true=>exact CQ c f h0 h1 h2 h3 h4 h5 h6 a
              |false=>
                cases h7:zq lJ r with
                |true=>exact FE c f h0 h1 h2 h3 h4 h5 h6 h7 a
                |false=>exact NG c f h0 h1 h2 h3 h4 h5 h6 h7 a
 .exact NJ c l O a
