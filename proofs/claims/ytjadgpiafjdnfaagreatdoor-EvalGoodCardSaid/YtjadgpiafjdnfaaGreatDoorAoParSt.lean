import Derived.Test.YtjadgpiafjdnfaaGreatDoorAoParEx
set_option linter.unusedSimpArgs false
set_option linter.unusedVariables false
set_option maxRecDepth 100000
namespace Go.Proofs.YtjadgpiafjdnfaaGreatDoor
open Go.RowKit Tryz
variable{w:C7}{b n:Nat}{V:C8}{d:Int}{r:List fH}
def jT{α β γ:Type}(A:PR α)(k:List fH->PR β)(F:α->β->γ):PR γ:=A.bind fun a r=>(k r).bind fun b r=>.ok (F a b) r
theorem ji{α β γ:Type}(A:PR α)(k:List fH->PR β)(F:α->β->γ):(jT A k F).un=(A.un.bind fun _ r=>k r).un:=by
 cases A with
 |ok a r=>
   show((k r).bind fun b r=>PR.ok (F a b) r).un=(k r).un;rw[jj];rfl
 |_=>rfl
theorem jF{α β γ:Type}{c:PR α}{k:List fH->PR β}{F:α->β->γ}{P1:α->Prop}{P2:β->Prop}{Q:γ->Prop}(d:ja c P1)(j:ja (c.un.bind fun _ r=>k r) P2)(n:zI (c.un.bind fun _ r=>k r))(e:∀a b,P1 a->P2 b->Q (F a b)):ja (jT c k F) Q:=by
 obtain⟨i,l⟩:=j.some n;cases c with
 |ok a r=>
   have m:ja ((k r).bind fun b r=>PR.ok (F a b) r) Q:=ja.bind (show ja (k r) P2 from j) (fun b r _ g=>e a b d g) fun b g=>⟨_,e a b d g⟩
   exact m
 |bad r=>obtain⟨a,f⟩:=d;exact⟨_,e a i f l⟩
 |deep r=>obtain⟨a,f⟩:=d;exact⟨_,e a i f l⟩
 |o=>trivial
theorem qe{α β γ:Type}{A:PR α}{k:List fH->PR β}{F:α->β->γ}(h:zI (jT A k F)):zI (A.un.bind fun _ r=>k r):=by
 cases A with
 |ok a r=>exact qN (show zI ((k r).bind fun b r=>PR.ok (F a b) r)from h)
 |bad r=>trivial
 |deep r=>trivial
 |o=>exact h
theorem qP{α β γ:Type}{A:PR α}{k:List fH->PR β}{F:α->β->γ}(h:zI (jT A k F)):zI A:=qN h
theorem kB{α γ:Type}(A:PR α)(t:List UInt8)(F:α->Unit->γ):(jT A (fun r=>zO t r) F).un=A.un.bind fun _ r=>zO t r:=by rw[ji,rE]
theorem mS{L:Nat}{x:PR Ex}{v:C8}(d:ja x fun a=>zcl L w a v)(f:zI x):∃b m c,v=.slice b m c:=by
 obtain⟨a,e⟩:=d.some f;obtain⟨b,c,g,_⟩:=je.form e;exact⟨b,_,c,g⟩
theorem FZ{x:PR Int}{v:C8}(b:ja x fun a=>XJ w a v)(d:zI x):∃t,v=.int .i64 t:=by
 obtain⟨a,c⟩:=b.some d;exact⟨a,c⟩
theorem mT{α β:Type}(a:α)(r:List fH)(f:α->List fH->PR β):(PR.ok a r).bind f=f a r:=rfl
theorem vW{x:PR Unit}{s:List UInt8}(_:zI (x.bind fun _ r=>zO s r)):ja (x.bind fun _ r=>zO s r) fun _=>True:=by
 cases hx:(x.bind fun _ r=>zO s r)with
 |ok a r=>trivial
 |bad r=>exact⟨(),trivial⟩
 |deep r=>exact⟨(),trivial⟩
 |o=>trivial
def CB(b:Nat)(V:C8)(tj:List fH)(n:Nat)(d:Int):Prop:=∀(w:C7) (x:PR Unit),jm b V tj x w->zI (x.bind fun _ r=>pB n d r)->
 C3 75 #[(b,0),(d:Int)] w (qn b V tj w (x.bind fun _ r=>pB n d r) (xo w.heap.size))
theorem CB.call{tj:List fH}(a:CB b V tj n d){x:PR Unit}(e:jm b V tj x w)(c:zI (x.bind fun _ r=>pB n d r)):
 C3 75 #[(b,0),(d:Int)] w (qn b V tj w (x.bind fun _ r=>pB n d r) (xo w.heap.size)):=a w x e c
def xc(b:Nat)(V:C8)(tj:List fH)(w:C7)(x:PR Unit)(W:C7)(c0 c1 c2 c3 c4 c5:C8):Prop:=jv b V tj w x W/\W.heap[w.heap.size+1]?=some (.cells #[c0,c1,c2,c3,c4,c5] 149 (0,0))
section
variable {b:Nat}{V:C8}{tj:List fH} {w W W':C7}{x y:PR Unit}{c0 c1 c2 c3 c4 c5:C8}
theorem xc.start(h:jm b V tj x w):xc b V tj w x ((w.alloc uf).alloc uf) (.int .i64 0) (.int .i64 0) (.string ⟨#[]⟩) (.slice none 0 0) (.slice none 0 0) (.slice none 0 0):=
 ⟨(jv.start h).alloc uf,by have:=Ds (w.alloc uf) uf;rw[zA]at this;exact this⟩
theorem xc.st(h:xc b V tj w x W c0 c1 c2 c3 c4 c5):jm b V tj x W:=h.1.st
theorem xc.size(h:xc b V tj w x W c0 c1 c2 c3 c4 c5):w.heap.size+1<W.heap.size:=(Array.getElem?_eq_some_iff.1 h.2).1
theorem xc.ne(h:xc b V tj w x W c0 c1 c2 c3 c4 c5):w.heap.size+1≠b:=by have:=h.1.lt;omega
theorem xc.step(h:xc b V tj w x W c0 c1 c2 c3 c4 c5)(g:jK b V tj W y W'):xc b V tj w y W' c0 c1 c2 c3 c4 c5:=⟨h.1.step g,jI g.off h.size h.ne h.2⟩
theorem xc.alloc(h:xc b V tj w x W c0 c1 c2 c3 c4 c5)(o:Obj):xc b V tj w x (W.alloc o) c0 c1 c2 c3 c4 c5:=⟨h.1.alloc o,zv h.2 o⟩
theorem xc.own(h:xc b V tj w x W c0 c1 c2 c3 c4 c5):(W.cell? (w.heap.size,0)=some (.int .i64 0)/\W.cell? (w.heap.size,1)=some (.int .i64 0)/\W.cell? (w.heap.size,2)=some (.string ⟨#[]⟩)/\
 W.cell? (w.heap.size,3)=some (.slice none 0 0)/\W.cell? (w.heap.size,4)=some (.slice none 0 0)/\W.cell? (w.heap.size,5)=some (.slice none 0 0))/\∀o,W.frozen? ⟨w.heap.size,o,none⟩=false:=h.1.own
theorem xc.s(h:xc b V tj w x W c0 c1 c2 c3 c4 c5):(W.cell? (w.heap.size+1,0)=some c0/\W.cell? (w.heap.size+1,1)=some c1/\W.cell? (w.heap.size+1,2)=some c2/\W.cell? (w.heap.size+1,3)=some c3/\W.cell? (w.heap.size+1,4)=some c4/\W.cell? (w.heap.size+1,5)=some c5)/\∀o,W.frozen? ⟨w.heap.size+1,o,none⟩=false:=qU h.2
theorem xc.set0(h:xc b V tj w x W c0 c1 c2 c3 c4 c5)(u:C8):xc b V tj w x (W.setCell (w.heap.size+1,0) u) u c1 c2 c3 c4 c5:=⟨h.1.set O 0 u,D4 h.2 u⟩
theorem xc.ww(h:xc b V tj w x W c0 c1 c2 c3 c4 c5)(u:C8):xc b V tj w x (W.setCell (w.heap.size+1,1) u) c0 u c2 c3 c4 c5:=⟨h.1.set O 1 u,D4 h.2 u⟩
theorem xc.set2(h:xc b V tj w x W c0 c1 c2 c3 c4 c5)(u:C8):xc b V tj w x (W.setCell (w.heap.size+1,2) u) c0 c1 u c3 c4 c5:=⟨h.1.set O 2 u,D4 h.2 u⟩
theorem xc.wk(h:xc b V tj w x W c0 c1 c2 c3 c4 c5)(u:C8):xc b V tj w x (W.setCell (w.heap.size+1,3) u) c0 c1 c2 u c4 c5:=⟨h.1.set O 3 u,D4 h.2 u⟩
theorem xc.wz(h:xc b V tj w x W c0 c1 c2 c3 c4 c5)(u:C8):xc b V tj w x (W.setCell (w.heap.size+1,4) u) c0 c1 c2 c3 u c5:=⟨h.1.set O 4 u,D4 h.2 u⟩
theorem xc.set5(h:xc b V tj w x W c0 c1 c2 c3 c4 c5)(u:C8):xc b V tj w x (W.setCell (w.heap.size+1,5) u) c0 c1 c2 c3 c4 u:=⟨h.1.set O 5 u,D4 h.2 u⟩
theorem xc.fin(c:xc b V tj w y W c0 c1 c2 c3 c4 c5){X:PR St}(e:X.un=y)(d:ja X fun a=>gX w.heap.size (gY W w.heap.size c0 c1 c2 c3 c4 c5) a (.agg #[c0,c1,c2,c3,c4,c5])):
 qn b V tj w X (gX w.heap.size) (.returned (.agg #[c0,c1,c2,c3,c4,c5])) (gY W w.heap.size c0 c1 c2 c3 c4 c5):=c.1.fin e d
end
theorem F0{tj:List fH}(j:ze b V tj r false false w)(R:0<=d/\d<=100)(p:zr k3 r=false)(k:zr xR r=false)(m:zr M8 r=false)(t:zr vO r=false)(l:zr hK r=true)(q:zI (pS (n+1) d r)):
 C3 98 #[(b,0),(d:Int)] w (qn b V tj w (pS (n+1) d r) (gX w.heap.size)):=by
 obtain⟨_,_⟩:=R;have c:=U (xc.start (x:=.ok () r) j);have S:=j.lt;have T:¬100<d:=O
 have F:pS (n+1) d r=jT (PR.ok (St.mk 6 0 bE [] [] []) r.tail) (fun r=>zO [59] r) fun a _=>a:=by rw[pS,Dp O,Dp (by rw[p,k];decide),Dp (by rw[m];decide),Dp (by rw[t];decide),Dq l];rfl
 rw[F]at q ⊢;have G:=C5 (zV (⟨#[105,110,116]⟩:C6).data.toList (PR.ok () r)=false) p;have H:=C5 (zV (⟨#[98,111,111,108]⟩:C6).data.toList (PR.ok () r)=false) k;have I:=C5 (zV (⟨#[105,102]⟩:C6).data.toList (PR.ok () r)=false) m;have J:=C5 (zV (⟨#[119,104,105,108,101]⟩:C6).data.toList (PR.ok () r)=false) t;have K:=C5 (zV (⟨#[98,114,101,97,107]⟩:C6).data.toList (PR.ok () r)=true) l;have E:=U (qe q);clear j q F p k m t l;go_enter func98,ntmps98
 go_wp2_with (first
  |(go_at_call 74;(with_reducible refine(jh c.o.st _ false G.o).mono ?_);rintro e g ⟨rfl,f⟩;replace c:=U (c.o.step f);clear f)
  |(go_at_call 74;(with_reducible refine(jh c.o.st _ false H.o).mono ?_);rintro e g ⟨rfl,f⟩;replace c:=U (c.o.step f);clear f)
  | (go_at_call 50;(with_reducible refine(zE c.o.st _ I.o).mono ?_);rintro e g ⟨rfl,f⟩
     replace c:=U (c.o.step f);clear f;obtain⟨⟨c0,c1,c2,c3,c4,c5⟩,i⟩:=c.o.own
     obtain⟨⟨u,y,z,A,B,C⟩,D⟩:=c.o.s)
  | (go_at_call 50;(with_reducible refine(zE c.o.st _ J.o).mono ?_);rintro e g ⟨rfl,f⟩
     replace c:=U (c.o.step f);clear f;obtain⟨⟨c0,c1,c2,c3,c4,c5⟩,i⟩:=c.o.own
     obtain⟨⟨u,y,z,A,B,C⟩,D⟩:=c.o.s)
  | (go_at_call 50;(with_reducible refine(qB c.o.st _ K.o).mono ?_);rintro e g ⟨rfl,f⟩
     replace c:=C5 (xc b V tj w (.ok () r.tail) g _ _ _ _ _ _) (c.o.step f);clear f;obtain⟨⟨c0,c1,c2,c3,c4,c5⟩,i⟩:=c.o.own
     obtain⟨⟨u,y,z,A,B,C⟩,D⟩:=c.o.s)
  | (go_at_call 52;(with_reducible refine(zh (c.o.set0 (.int .i64 6)).st ⟨#[59]⟩).mono ?_);rintro e w9 ⟨rfl,f⟩
     replace c:=U ((c.o.set0 (.int .i64 6)).step f);have W:=c.o.size;clear f;obtain⟨⟨c0,c1,c2,c3,c4,c5⟩,i⟩:=c.o.own
     obtain⟨⟨u,y,z,A,B,C⟩,D⟩:=c.o.s))
 obtain⟨L,f1,M,f3,N,P⟩:=c.o.1.read (.int .i64 6) (.int .i64 0) (.string ⟨#[]⟩) (.slice none 0 0) (.slice none 0 0) (.slice none 0 0);refine bodyPost_ret (v:=.agg #[(6:Int),(0:Int),.string ⟨#[]⟩,(),(),()]) (by simp[results,results98,go_sem,L,f1,M,f3,N,P]) rfl ?_;refine c.o.fin (kB _ _ _) ?_;exact jF (P1:=fun a=>a=St.mk 6 0 bE [] [] []) rfl (vW (x:=.ok () r.tail) E.o) E.o fun a _ Q _=>by subst Q;exact⟨_,_,_,rfl,FW _ _,qy _ _,qy _ _⟩
theorem x2{tj:List fH}(u:ze b V tj r false false w)(T:0<=d/\d<=100)(C:zr k3 r=false)(y:zr xR r=false)(B:zr M8 r=false)(E:zr vO r=false)(z:zr hK r=false)(A:zr rY r=true)(D:zI (pS (n+1) d r)):
 C3 98 #[(b,0),(d:Int)] w (qn b V tj w (pS (n+1) d r) (gX w.heap.size)):=by
 obtain⟨_,_⟩:=T;have c:=U (xc.start (x:=.ok () r) u);have W:=u.lt;have X:¬100<d:=O
 have G:pS (n+1) d r=jT (PR.ok (St.mk 7 0 bE [] [] []) r.tail) (fun r=>zO [59] r) fun a _=>a:=by rw[pS,Dp O,Dp (by rw[C,y];decide),Dp (by rw[B];decide),Dp (by rw[E];decide),Dp (by rw[z];decide),Dq A];rfl
 rw[G]at D ⊢;have H:=C5 (zV (⟨#[105,110,116]⟩:C6).data.toList (PR.ok () r)=false) C;have I:=C5 (zV (⟨#[98,111,111,108]⟩:C6).data.toList (PR.ok () r)=false) y;have J:=C5 (zV (⟨#[105,102]⟩:C6).data.toList (PR.ok () r)=false) B;have K:=C5 (zV (⟨#[119,104,105,108,101]⟩:C6).data.toList (PR.ok () r)=false) E;have L:=C5 (zV (⟨#[98,114,101,97,107]⟩:C6).data.toList (PR.ok () r)=false) z;have M:=C5 (zV (⟨#[99,111,110,116,105,110,117,101]⟩:C6).data.toList (PR.ok () r)=true) A;have F:=U (qe D);clear u D G C y B E z A;go_enter func98,ntmps98
 go_wp2_with (first
  |(go_at_call 74;(with_reducible refine(jh c.o.st _ false H.o).mono ?_);rintro e g ⟨rfl,f⟩;replace c:=U (c.o.step f);clear f)
  |(go_at_call 74;(with_reducible refine(jh c.o.st _ false I.o).mono ?_);rintro e g ⟨rfl,f⟩;replace c:=U (c.o.step f);clear f)
  | (go_at_call 50;(with_reducible refine(zE c.o.st _ J.o).mono ?_);rintro e g ⟨rfl,f⟩
     replace c:=U (c.o.step f);clear f;obtain⟨⟨c0,c1,c2,c3,c4,c5⟩,i⟩:=c.o.own
     obtain⟨⟨j,k,l,m,p,q⟩,t⟩:=c.o.s)
  | (go_at_call 50;(with_reducible refine(zE c.o.st _ K.o).mono ?_);rintro e g ⟨rfl,f⟩
     replace c:=U (c.o.step f);clear f;obtain⟨⟨c0,c1,c2,c3,c4,c5⟩,i⟩:=c.o.own
     obtain⟨⟨j,k,l,m,p,q⟩,t⟩:=c.o.s)
  | (go_at_call 50;(with_reducible refine(zE c.o.st _ L.o).mono ?_);rintro e g ⟨rfl,f⟩
     replace c:=U (c.o.step f);clear f;obtain⟨⟨c0,c1,c2,c3,c4,c5⟩,i⟩:=c.o.own
     obtain⟨⟨j,k,l,m,p,q⟩,t⟩:=c.o.s)
  | (go_at_call 50;(with_reducible refine(qB c.o.st _ M.o).mono ?_);rintro e g ⟨rfl,f⟩
     replace c:=C5 (xc b V tj w (.ok () r.tail) g _ _ _ _ _ _) (c.o.step f);clear f;obtain⟨⟨c0,c1,c2,c3,c4,c5⟩,i⟩:=c.o.own
     obtain⟨⟨j,k,l,m,p,q⟩,t⟩:=c.o.s)
  | (go_at_call 52;(with_reducible refine(zh (c.o.set0 (.int .i64 7)).st ⟨#[59]⟩).mono ?_);rintro e w9 ⟨rfl,f⟩
     replace c:=U ((c.o.set0 (.int .i64 7)).step f);have Y:=c.o.size;clear f;obtain⟨⟨c0,c1,c2,c3,c4,c5⟩,i⟩:=c.o.own
     obtain⟨⟨j,k,l,m,p,q⟩,t⟩:=c.o.s))
 obtain⟨N,f1,P,f3,Q,R⟩:=c.o.1.read (.int .i64 7) (.int .i64 0) (.string ⟨#[]⟩) (.slice none 0 0) (.slice none 0 0) (.slice none 0 0);refine bodyPost_ret (v:=.agg #[(7:Int),(0:Int),.string ⟨#[]⟩,(),(),()]) (by simp[results,results98,go_sem,N,f1,P,f3,Q,R]) rfl ?_;refine c.o.fin (kB _ _ _) ?_;exact jF (P1:=fun a=>a=St.mk 7 0 bE [] [] []) rfl (vW (x:=.ok () r.tail) F.o) F.o fun a _ S _=>by subst S;exact⟨_,_,_,rfl,FW _ _,qy _ _,qy _ _⟩
theorem DI{tj:List fH}(C:ze b V tj r false false w)(ar:0<=d/\d<=100)(J:zr k3 r=false)(E:zr xR r=false)(I:zr M8 r=false)(M:zr vO r=false)(F:zr hK r=false)(G:zr rY r=false)(K:zr E5 r=true)(A:zI (pS (n+1) d r)):
 C3 98 #[(b,0),(d:Int)] w (qn b V tj w (pS (n+1) d r) (gX w.heap.size)):=by
 obtain⟨_,_⟩:=ar;have c:=U (xc.start (x:=.ok () r) C);have au:=C.lt;have av:¬100<d:=O
 have P:pS (n+1) d r=jT (jT (PR.ok () r.tail) (fun r=>pE n 1 1 r) fun _ e=>St.mk 8 0 bE [e] [] []) (fun r=>zO [59] r) fun a _=>a:=by rw[pS,Dp O,Dp (by rw[J,E];decide),Dp (by rw[I];decide),Dp (by rw[M];decide),Dp (by rw[F];decide),Dp (by rw[G];decide),Dq K];rfl
 rw[P]at A ⊢;have ag:=C5 (zV (⟨#[105,110,116]⟩:C6).data.toList (PR.ok () r)=false) J;have ah:=C5 (zV (⟨#[98,111,111,108]⟩:C6).data.toList (PR.ok () r)=false) E;have ai:=C5 (zV (⟨#[105,102]⟩:C6).data.toList (PR.ok () r)=false) I;have aj:=C5 (zV (⟨#[119,104,105,108,101]⟩:C6).data.toList (PR.ok () r)=false) M;have ak:=C5 (zV (⟨#[98,114,101,97,107]⟩:C6).data.toList (PR.ok () r)=false) F;have al:=C5 (zV (⟨#[99,111,110,116,105,110,117,101]⟩:C6).data.toList (PR.ok () r)=false) G;have am:=C5 (zV (⟨#[114,101,116,117,114,110]⟩:C6).data.toList (PR.ok () r)=true) K;have N:=U (qe A);have B:=C5 (zI ((PR.ok () r.tail).bind fun _ r=>pE n 1 1 r)) (qe (qP A));have ab:=U (vH (b:=b) (V:=V) (tj:=tj) (n:=n) (d:=1) Us Us);clear C A P J E I M F G K;go_enter func98,ntmps98
 go_wp2_with (first
  |(go_at_call 74;(with_reducible refine(jh c.o.st _ false ag.o).mono ?_);rintro e i ⟨rfl,f⟩;replace c:=U (c.o.step f);clear f)
  |(go_at_call 74;(with_reducible refine(jh c.o.st _ false ah.o).mono ?_);rintro e i ⟨rfl,f⟩;replace c:=U (c.o.step f);clear f)
  | (go_at_call 50;(with_reducible refine(zE c.o.st _ ai.o).mono ?_);rintro e i ⟨rfl,f⟩
     replace c:=U (c.o.step f);clear f;obtain⟨⟨c0,c1,c2,c3,c4,c5⟩,k⟩:=c.o.own
     obtain⟨⟨l,m,p,q,t,u⟩,y⟩:=c.o.s)
  | (go_at_call 50;(with_reducible refine(zE c.o.st _ aj.o).mono ?_);rintro e i ⟨rfl,f⟩
     replace c:=U (c.o.step f);clear f;obtain⟨⟨c0,c1,c2,c3,c4,c5⟩,k⟩:=c.o.own
     obtain⟨⟨l,m,p,q,t,u⟩,y⟩:=c.o.s)
  | (go_at_call 50;(with_reducible refine(zE c.o.st _ ak.o).mono ?_);rintro e i ⟨rfl,f⟩
     replace c:=U (c.o.step f);clear f;obtain⟨⟨c0,c1,c2,c3,c4,c5⟩,k⟩:=c.o.own
     obtain⟨⟨l,m,p,q,t,u⟩,y⟩:=c.o.s)
  | (go_at_call 50;(with_reducible refine(zE c.o.st _ al.o).mono ?_);rintro e i ⟨rfl,f⟩
     replace c:=U (c.o.step f);clear f;obtain⟨⟨c0,c1,c2,c3,c4,c5⟩,k⟩:=c.o.own
     obtain⟨⟨l,m,p,q,t,u⟩,y⟩:=c.o.s)
  | (go_at_call 50;(with_reducible refine(qB c.o.st _ am.o).mono ?_);rintro e i ⟨rfl,f⟩
     replace c:=C5 (xc b V tj w (.ok () r.tail) i _ _ _ _ _ _) (c.o.step f);clear f;obtain⟨⟨c0,c1,c2,c3,c4,c5⟩,k⟩:=c.o.own
     obtain⟨⟨l,m,p,q,t,u⟩,y⟩:=c.o.s)
  | (go_at_call 121;(with_reducible refine(ab.o.call c.o.st B.o).mono ?_);rintro e j ⟨v,rfl,f,D⟩
     obtain⟨R,S,W,X,Y,Z,aa,rfl⟩:=jD D B.o;have ae:=C5 (ja _ fun a=>kr (w.heap.size+2) j a _) (D.imp fun a z=>kr.keep z (zL.refl _ _) Xf);replace c:=U (c.o.step f);have ax:=c.o.size;clear f D;obtain⟨⟨c0,c1,c2,c3,c4,c5⟩,k⟩:=c.o.own
     obtain⟨⟨l,m,p,q,t,u⟩,y⟩:=c.o.s)
  | (go_at_call 52;(with_reducible refine(zh (((c.o.set0 (.int .i64 8)).wk (.slice (some ⟨j.heap.size,0,none⟩) 1 1)).alloc (.cells #[.int .i64 R,.int .i64 S,.int .i64 W,.string X,.slice Y Z aa] 152)).st ⟨#[59]⟩).mono ?_);rintro e w9 ⟨rfl,f⟩
     have ad:=C5 (ja _ fun a=>je (w.heap.size+2) _ [a] _) (ae.o.imp fun a z=>uM (T:=152) (kr.keep z ((zL.set (g:=w.heap.size+1) O 0 (.int .i64 8)).trans (zL.set (g:=w.heap.size+1) O 3 (.slice (some ⟨j.heap.size,0,none⟩) 1 1))) Zr) Zr Ut (g:=j.heap.size) Uu);have af:=U (zL.did (L:=w.heap.size+2) f O);replace c:=U ((((c.o.set0 (.int .i64 8)).wk (.slice (some ⟨j.heap.size,0,none⟩) 1 1)).alloc (.cells #[(R:Int),(S:Int),(W:Int),X,(Y,Z,aa)] 152)).step f);have aw:=c.o.size;clear f;obtain⟨⟨c0,c1,c2,c3,c4,c5⟩,k⟩:=c.o.own
     obtain⟨⟨l,m,p,q,t,u⟩,y⟩:=c.o.s))
 obtain⟨an,f1,ao,f3,ap,aq⟩:=c.o.1.read (.int .i64 8) (.int .i64 0) (.string ⟨#[]⟩) (.slice (some ⟨j.heap.size,0,none⟩) 1 1) (.slice none 0 0) (.slice none 0 0);refine bodyPost_ret (v:=.agg #[(8:Int),(0:Int),.string ⟨#[]⟩,.slice (some ⟨j.heap.size,0,none⟩) 1 1,(),()]) (by simp[results,results98,go_sem,an,f1,ao,f3,ap,aq]) rfl ?_;refine c.o.fin (by rw[kB,ji];rfl) ?_;refine jF (jF (P1:=fun _=>True) (P2:=_) (Q:=fun a=>∃e,a=St.mk 8 0 bE [e] [] []/\je (w.heap.size+2) _ [e] _) trivial ad.o B.o (fun _ e _ H=>⟨e,rfl,H⟩)) (vW N.o) N.o fun a _ z _=>?_;obtain⟨e,rfl,H⟩:=z;exact⟨_,_,_,rfl,je.keep H (af.o.trans (zL.wh O _ _ _ _ _ _)) O,qy _ _,qy _ _⟩
theorem F1{tj:List fH}(D:ze b V tj r false false w)(al:0<=d/\d<=100)(M:zr k3 r=false)(G:zr xR r=false)(K:zr M8 r=false)(R:zr vO r=false)(H:zr hK r=false)(I:zr rY r=false)(P:zr E5 r=false)(N:zr lM r=true)(B:zI (pS (n+1) d r)):
 C3 98 #[(b,0),(d:Int)] w (qn b V tj w (pS (n+1) d r) (gX w.heap.size)):=by
 obtain⟨_,_⟩:=al;have c:=U (xc.start (x:=.ok () r) D);have an:=D.lt;have ao:¬100<d:=O
 have T:pS (n+1) d r=jT (jT (PR.ok () r.tail) (fun r=>pI n r) fun _ e=>St.mk 9 0 bE [e] [] []) (fun r=>zO [59] r) fun a _=>a:=by rw[pS,Dp O,Dp (by rw[M,G];decide),Dp (by rw[K];decide),Dp (by rw[R];decide),Dp (by rw[H];decide),Dp (by rw[I];decide),Dp (by rw[P];decide),Dq N];rfl
 rw[T]at B ⊢;have Y:=C5 (zV (⟨#[105,110,116]⟩:C6).data.toList (PR.ok () r)=false) M;have Z:=C5 (zV (⟨#[98,111,111,108]⟩:C6).data.toList (PR.ok () r)=false) G;have aa:=C5 (zV (⟨#[105,102]⟩:C6).data.toList (PR.ok () r)=false) K;have ab:=C5 (zV (⟨#[119,104,105,108,101]⟩:C6).data.toList (PR.ok () r)=false) R;have ad:=C5 (zV (⟨#[98,114,101,97,107]⟩:C6).data.toList (PR.ok () r)=false) H;have ae:=C5 (zV (⟨#[99,111,110,116,105,110,117,101]⟩:C6).data.toList (PR.ok () r)=false) I;have af:=C5 (zV (⟨#[114,101,116,117,114,110]⟩:C6).data.toList (PR.ok () r)=false) P;have ag:=C5 (zV (⟨#[112,114,105,110,116]⟩:C6).data.toList (PR.ok () r)=true) N;have S:=U (qe B);have C:=C5 (zI ((PR.ok () r.tail).bind fun _ r=>pI n r)) (qe (qP B));clear D B T M G K R H I P N;go_enter func98,ntmps98
 go_wp2_with (first
  |(go_at_call 74;(with_reducible refine(jh c.o.st _ false Y.o).mono ?_);rintro e i ⟨rfl,f⟩;replace c:=U (c.o.step f);clear f)
  |(go_at_call 74;(with_reducible refine(jh c.o.st _ false Z.o).mono ?_);rintro e i ⟨rfl,f⟩;replace c:=U (c.o.step f);clear f)
  | (go_at_call 50;(with_reducible refine(zE c.o.st _ aa.o).mono ?_);rintro e i ⟨rfl,f⟩
     replace c:=U (c.o.step f);clear f;obtain⟨⟨c0,c1,c2,c3,c4,c5⟩,j⟩:=c.o.own
     obtain⟨⟨k,l,m,p,q,t⟩,u⟩:=c.o.s)
  | (go_at_call 50;(with_reducible refine(zE c.o.st _ ab.o).mono ?_);rintro e i ⟨rfl,f⟩
     replace c:=U (c.o.step f);clear f;obtain⟨⟨c0,c1,c2,c3,c4,c5⟩,j⟩:=c.o.own
     obtain⟨⟨k,l,m,p,q,t⟩,u⟩:=c.o.s)
  | (go_at_call 50;(with_reducible refine(zE c.o.st _ ad.o).mono ?_);rintro e i ⟨rfl,f⟩
     replace c:=U (c.o.step f);clear f;obtain⟨⟨c0,c1,c2,c3,c4,c5⟩,j⟩:=c.o.own
     obtain⟨⟨k,l,m,p,q,t⟩,u⟩:=c.o.s)
  | (go_at_call 50;(with_reducible refine(zE c.o.st _ ae.o).mono ?_);rintro e i ⟨rfl,f⟩
     replace c:=U (c.o.step f);clear f;obtain⟨⟨c0,c1,c2,c3,c4,c5⟩,j⟩:=c.o.own
     obtain⟨⟨k,l,m,p,q,t⟩,u⟩:=c.o.s)
  | (go_at_call 50;(with_reducible refine(zE c.o.st _ af.o).mono ?_);rintro e i ⟨rfl,f⟩
     replace c:=U (c.o.step f);clear f;obtain⟨⟨c0,c1,c2,c3,c4,c5⟩,j⟩:=c.o.own
     obtain⟨⟨k,l,m,p,q,t⟩,u⟩:=c.o.s)
  | (go_at_call 50;(with_reducible refine(qB c.o.st _ ag.o).mono ?_);rintro e i ⟨rfl,f⟩
     replace c:=C5 (xc b V tj w (.ok () r.tail) i _ _ _ _ _ _) (c.o.step f);clear f;obtain⟨⟨c0,c1,c2,c3,c4,c5⟩,j⟩:=c.o.own
     obtain⟨⟨k,l,m,p,q,t⟩,u⟩:=c.o.s)
  | (go_at_call 122;(with_reducible refine(zAf c.o.st C.o).mono ?_);rintro e am ⟨v,rfl,f,E⟩
     obtain⟨y,z,A,rfl⟩:=mS E C.o;have W:=C5 (ja _ fun a=>je (w.heap.size+2) am [a] (.slice y z A)) (E.imp fun a F=>je.keep F (zL.refl _ _) Xf);replace c:=U (c.o.step f);clear f E;obtain⟨⟨c0,c1,c2,c3,c4,c5⟩,j⟩:=c.o.own
     obtain⟨⟨k,l,m,p,q,t⟩,u⟩:=c.o.s)
  | (go_at_call 52;(with_reducible refine(zh ((c.o.set0 (.int .i64 9)).wk (.slice y z A)).st ⟨#[59]⟩).mono ?_);rintro e w9 ⟨rfl,f⟩
     have X:=U (((zL.set (L:=w.heap.size+2) (g:=w.heap.size+1) O 0 (.int .i64 9)).trans (zL.set (g:=w.heap.size+1) O 3 (.slice y z A))).trans (zL.did f O));replace c:=U (((c.o.set0 (.int .i64 9)).wk (.slice y z A)).step f);have ap:=c.o.size;clear f;obtain⟨⟨c0,c1,c2,c3,c4,c5⟩,j⟩:=c.o.own
     obtain⟨⟨k,l,m,p,q,t⟩,u⟩:=c.o.s))
 obtain⟨ah,f1,ai,f3,aj,ak⟩:=c.o.1.read (.int .i64 9) (.int .i64 0) (.string ⟨#[]⟩) (.slice y z A) (.slice none 0 0) (.slice none 0 0);refine bodyPost_ret (v:=.agg #[(9:Int),(0:Int),.string ⟨#[]⟩,(y,z,A),(),()]) (by simp[results,results98,go_sem,ah,f1,ai,f3,aj,ak]) rfl ?_;refine c.o.fin (by rw[kB,ji];rfl) ?_;refine jF (jF (P1:=fun _=>True) (P2:=_) (Q:=fun a=>∃e,a=St.mk 9 0 bE [e] [] []/\je (w.heap.size+2) _ [e] _) trivial W.o C.o (fun _ e _ J=>⟨e,rfl,J⟩)) (vW S.o) S.o fun a _ F _=>?_;obtain⟨e,rfl,J⟩:=F;exact⟨_,_,_,rfl,je.keep J (X.o.trans (zL.wh O _ _ _ _ _ _)) O,qy _ _,qy _ _⟩
theorem N2{tj:List fH}(K:ze b V tj r false false w)(ar:0<=d/\d<=100)(T:zr k3 r=false)(P:zr xR r=false)(S:zr M8 r=false)(Y:zr vO r=false)(Q:zr hK r=false)(R:zr rY r=false)(X:zr E5 r=false)(W:zr lM r=false)(J:zI (pS (n+1) d r)):
 C3 98 #[(b,0),(d:Int)] w (qn b V tj w (pS (n+1) d r) (gX w.heap.size)):=by
 obtain⟨_,_⟩:=ar;have c:=U (xc.start (x:=.ok () r) K);have av:=K.lt;have aw:¬100<d:=O
 have ab:pS (n+1) d r=jT ((PR.ok () r).bind fun _ r=>q8 n r) (fun r=>zO [59] r) fun a _=>a:=by rw[pS,Dp O,Dp (by rw[T,P];decide),Dp (by rw[S];decide),Dp (by rw[Y];decide),Dp (by rw[Q];decide),Dp (by rw[R];decide),Dp (by rw[X];decide),Dp (by rw[W];decide)];rfl
 rw[ab]at J ⊢;have af:=C5 (zV (⟨#[105,110,116]⟩:C6).data.toList (PR.ok () r)=false) T;have ag:=C5 (zV (⟨#[98,111,111,108]⟩:C6).data.toList (PR.ok () r)=false) P;have ah:=C5 (zV (⟨#[105,102]⟩:C6).data.toList (PR.ok () r)=false) S;have ai:=C5 (zV (⟨#[119,104,105,108,101]⟩:C6).data.toList (PR.ok () r)=false) Y;have aj:=C5 (zV (⟨#[98,114,101,97,107]⟩:C6).data.toList (PR.ok () r)=false) Q;have ak:=C5 (zV (⟨#[99,111,110,116,105,110,117,101]⟩:C6).data.toList (PR.ok () r)=false) R;have al:=C5 (zV (⟨#[114,101,116,117,114,110]⟩:C6).data.toList (PR.ok () r)=false) X;have am:=C5 (zV (⟨#[112,114,105,110,116]⟩:C6).data.toList (PR.ok () r)=false) W;have Z:=U (qe J);have aa:=C5 (zI ((PR.ok () r).bind fun _ r=>q8 n r)) (qP J);clear K J ab T P S Y Q R X W;go_enter func98,ntmps98
 go_wp2_with (first
  |(go_at_call 74;(with_reducible refine(jh c.o.st _ false af.o).mono ?_);rintro e u ⟨rfl,f⟩;replace c:=U (c.o.step f);clear f)
  |(go_at_call 74;(with_reducible refine(jh c.o.st _ false ag.o).mono ?_);rintro e u ⟨rfl,f⟩;replace c:=U (c.o.step f);clear f)
  | (go_at_call 50;(with_reducible refine(zE c.o.st _ ah.o).mono ?_);rintro e u ⟨rfl,f⟩
     replace c:=U (c.o.step f);clear f;obtain⟨⟨c0,c1,c2,c3,c4,c5⟩,i⟩:=c.o.own
     obtain⟨⟨j,k,l,m,p,q⟩,t⟩:=c.o.s)
  | (go_at_call 50;(with_reducible refine(zE c.o.st _ ai.o).mono ?_);rintro e u ⟨rfl,f⟩
     replace c:=U (c.o.step f);clear f;obtain⟨⟨c0,c1,c2,c3,c4,c5⟩,i⟩:=c.o.own
     obtain⟨⟨j,k,l,m,p,q⟩,t⟩:=c.o.s)
  | (go_at_call 50;(with_reducible refine(zE c.o.st _ aj.o).mono ?_);rintro e u ⟨rfl,f⟩
     replace c:=U (c.o.step f);clear f;obtain⟨⟨c0,c1,c2,c3,c4,c5⟩,i⟩:=c.o.own
     obtain⟨⟨j,k,l,m,p,q⟩,t⟩:=c.o.s)
  | (go_at_call 50;(with_reducible refine(zE c.o.st _ ak.o).mono ?_);rintro e u ⟨rfl,f⟩
     replace c:=U (c.o.step f);clear f;obtain⟨⟨c0,c1,c2,c3,c4,c5⟩,i⟩:=c.o.own
     obtain⟨⟨j,k,l,m,p,q⟩,t⟩:=c.o.s)
  | (go_at_call 50;(with_reducible refine(zE c.o.st _ al.o).mono ?_);rintro e u ⟨rfl,f⟩
     replace c:=U (c.o.step f);clear f;obtain⟨⟨c0,c1,c2,c3,c4,c5⟩,i⟩:=c.o.own
     obtain⟨⟨j,k,l,m,p,q⟩,t⟩:=c.o.s)
  | (go_at_call 50;(with_reducible refine(zE c.o.st _ am.o).mono ?_);rintro e u ⟨rfl,f⟩
     replace c:=U (c.o.step f);clear f;obtain⟨⟨c0,c1,c2,c3,c4,c5⟩,i⟩:=c.o.own
     obtain⟨⟨j,k,l,m,p,q⟩,t⟩:=c.o.s)
  | (go_at_call 123;(with_reducible refine(A6 c.o.st aa.o).mono ?_);rintro e au ⟨v,rfl,f,M⟩
     obtain⟨B,C,D,y,E,H,z,F,q4,A,G,I,rfl⟩:=oJ M aa.o;have ad:=C5 (ja _ fun a=>gX (w.heap.size+2) au a _) (M.imp fun a N=>gX.keep N (zL.refl _ _) Xf);replace c:=U (c.o.step f);clear f M;obtain⟨⟨c0,c1,c2,c3,c4,c5⟩,i⟩:=c.o.own
     obtain⟨⟨j,k,l,m,p,q⟩,t⟩:=c.o.s)
  | (go_at_call 52;(with_reducible refine(zh ((((((c.o.set0 (.int .i64 B)).ww (.int .i64 C)).set2 (.string D)).wk (.slice y E H)).wz (.slice z F q4)).set5 (.slice A G I)).st ⟨#[59]⟩).mono ?_);rintro e w9 ⟨rfl,f⟩
     have ae:=U ((zL.wh (L:=w.heap.size+2) (g:=w.heap.size+1) O (.int .i64 B) (.int .i64 C) (.string D) (.slice y E H) (.slice z F q4) (.slice A G I)).trans (zL.did f O));replace c:=U (((((((c.o.set0 (.int .i64 B)).ww (.int .i64 C)).set2 (.string D)).wk (.slice y E H)).wz (.slice z F q4)).set5 (.slice A G I)).step f);have ax:=c.o.size;clear f;obtain⟨⟨c0,c1,c2,c3,c4,c5⟩,i⟩:=c.o.own
     obtain⟨⟨j,k,l,m,p,q⟩,t⟩:=c.o.s))
 obtain⟨an,f1,ao,f3,ap,aq⟩:=c.o.1.read (.int .i64 B) (.int .i64 C) (.string D) (.slice y E H) (.slice z F q4) (.slice A G I);refine bodyPost_ret (v:=.agg #[(B:Int),(C:Int),D,(y,E,H),(z,F,q4),(A,G,I)]) (by simp[results,results98,go_sem,an,f1,ao,f3,ap,aq]) rfl ?_;refine c.o.fin (kB _ _ _) ?_;exact jF ad.o (vW Z.o) Z.o fun a _ N _=>gX.keep N (ae.o.trans (zL.wh O _ _ _ _ _ _)) O
theorem SN{tj:List fH}(m:ze b V tj r false false w)(ap:0<=d/\d<=100)(H:zr k3 r=true)(l:zI (pS (n+1) d r)):
 C3 98 #[(b,0),(d:Int)] w (qn b V tj w (pS (n+1) d r) (gX w.heap.size)):=by
 obtain⟨_,_⟩:=ap;have c:=U (xc.start (x:=.ok () r) m);have au:=m.lt;have av:¬100<d:=O
 have K:pS (n+1) d r=jT (jT (jT ((PR.ok () r).bind fun _ r=>k4 r) (fun r=>qt 1 r) fun t s=>(t,s)) (fun r=>(zO [61] r).bind fun _ r=>pE n 1 1 r) fun p e=>St.mk 1 p.1 p.2 [e] [] []) (fun r=>zO [59] r) fun a _=>a:=by
  rw[pS,Dp O,Dq (.inl H)];unfold vP jT;simp only[zc,mT]
 rw[K]at l ⊢;have aj:=C5 (zV (⟨#[105,110,116]⟩:C6).data.toList (PR.ok () r)=true) H;have I:=U (qe l);have u:=qe (qP l);have ah:=U u;have M:=qP (qP (qP l));have ag:=U M;have ai:=U (qe (qP (qP l)));rw[ji,<-zc]at u;have J:=U u;clear m l K u M H;have Z:=U (vH (b:=b) (V:=V) (tj:=tj) (n:=n) (d:=1) Us Us);go_enter func98,ntmps98
 go_wp2_with (first
  |(go_at_call 74;(with_reducible refine(jh c.o.st _ true aj.o).mono ?_);rintro e _ ⟨rfl,f⟩;replace c:=U (c.o.step f);clear f)
  | (go_at_call 48;(with_reducible refine(uU c.o.st).mono ?_);rintro e _ ⟨v,rfl,f,i⟩
     obtain⟨t,rfl⟩:=FZ i ag.o;have ae:=C5 (ja _ fun a=>a=t) (i.imp fun a j=>He);replace c:=U (c.o.step f);clear f i;obtain⟨⟨c0,c1,c2,c3,c4,c5⟩,q⟩:=c.o.own
     obtain⟨⟨y,z,A,B,C,D⟩,E⟩:=c.o.s)
  | (go_at_call 49;(with_reducible refine(ye ((c.o.set0 (.int .i64 1)).ww (.int .i64 t)).st 1 Us).mono ?_);rintro e _ ⟨s,rfl,f,i⟩
     have ad:=U i;replace c:=U (((c.o.set0 (.int .i64 1)).ww (.int .i64 t)).step f);clear f i;obtain⟨⟨c0,c1,c2,c3,c4,c5⟩,q⟩:=c.o.own
     obtain⟨⟨y,z,A,B,C,D⟩,E⟩:=c.o.s)
  | (go_at_call 52;(with_reducible refine(zh (c.o.set2 (.string s)).st ⟨#[61]⟩).mono ?_);rintro e ar ⟨rfl,f⟩
     replace c:=C5 (xc b V tj w ((((PR.ok () r).bind fun _ r=>k4 r).un.bind fun _ r=>qt 1 r).un.bind fun _ r=>zO [61] r) ar _ _ _ _ _ _) ((c.o.set2 (.string s)).step f);clear f;obtain⟨⟨c0,c1,c2,c3,c4,c5⟩,q⟩:=c.o.own
     obtain⟨⟨y,z,A,B,C,D⟩,E⟩:=c.o.s)
  | (go_at_call 121;(with_reducible refine(Z.o.call c.o.st J.o).mono ?_);rintro e k ⟨v,rfl,f,i⟩
     obtain⟨N,P,R,S,W,X,Y,rfl⟩:=jD i J.o;have ab:=C5 (ja _ fun a=>kr (w.heap.size+2) k a _) (i.imp fun a j=>kr.keep j (zL.refl _ _) Xf);replace c:=U (c.o.step f);have ax:=c.o.size;clear f i;obtain⟨⟨c0,c1,c2,c3,c4,c5⟩,q⟩:=c.o.own
     obtain⟨⟨y,z,A,B,C,D⟩,E⟩:=c.o.s)
  | (go_at_call 52;(with_reducible refine(zh ((c.o.wk (.slice (some ⟨k.heap.size,0,none⟩) 1 1)).alloc (.cells #[.int .i64 N,.int .i64 P,.int .i64 R,.string S,.slice W X Y] 152)).st ⟨#[59]⟩).mono ?_);rintro e w9 ⟨rfl,f⟩
     have aa:=C5 (ja _ fun a=>je (w.heap.size+2) _ [a] _) (ab.o.imp fun a j=>uM (T:=152) (kr.keep j (zL.set (g:=w.heap.size+1) O 3 (.slice (some ⟨k.heap.size,0,none⟩) 1 1)) Zr) Zr Ut (g:=k.heap.size) Uu);have af:=U (zL.did (L:=w.heap.size+2) f O);replace c:=U (((c.o.wk (.slice (some ⟨k.heap.size,0,none⟩) 1 1)).alloc (.cells #[(N:Int),(P:Int),(R:Int),S,(W,X,Y)] 152)).step f);have aw:=c.o.size;clear f;obtain⟨⟨c0,c1,c2,c3,c4,c5⟩,q⟩:=c.o.own
     obtain⟨⟨y,z,A,B,C,D⟩,E⟩:=c.o.s))
 obtain⟨ak,f1,al,f3,am,an⟩:=c.o.1.read (.int .i64 1) (.int .i64 t) (.string s) (.slice (some ⟨k.heap.size,0,none⟩) 1 1) (.slice none 0 0) (.slice none 0 0);refine bodyPost_ret (v:=.agg #[(1:Int),(t:Int),s,.slice (some ⟨k.heap.size,0,none⟩) 1 1,(),()]) (by simp[results,results98,go_sem,ak,f1,al,f3,am,an]) rfl ?_;refine c.o.fin (by rw[kB,ji,ji,<-zc]) ?_;have hF:=aa.o;rw[zc,<-ji (F:=fun(a:Int) (s:C6)=>(a,s))]at hF;refine jF (jF (Q:=fun a=>∃e,a=St.mk 1 t s [e] [] []/\je (w.heap.size+2) _ [e] _) (jF (Q:=fun p=>p=(t,s)) ae.o ad.o ai.o (fun a b j ao=>by rw[j,ao])) hF ah.o (fun p e aq G=>⟨e,by rw[aq],G⟩)) (vW I.o) I.o fun a _ j _=>?_;obtain⟨e,rfl,G⟩:=j;exact⟨_,_,_,rfl,je.keep G (af.o.trans (zL.wh O _ _ _ _ _ _)) O,qy _ _,qy _ _⟩
theorem N3{tj:List fH}(m:ze b V tj r false false w)(ar:0<=d/\d<=100)(N:zr k3 r=false)(G:zr xR r=true)(l:zI (pS (n+1) d r)):
 C3 98 #[(b,0),(d:Int)] w (qn b V tj w (pS (n+1) d r) (gX w.heap.size)):=by
 obtain⟨_,_⟩:=ar;have c:=U (xc.start (x:=.ok () r) m);have ax:=m.lt;have ay:¬100<d:=O
 have K:pS (n+1) d r=jT (jT (jT ((PR.ok () r).bind fun _ r=>k4 r) (fun r=>qt 1 r) fun t s=>(t,s)) (fun r=>(zO [61] r).bind fun _ r=>pE n 1 1 r) fun p e=>St.mk 1 p.1 p.2 [e] [] []) (fun r=>zO [59] r) fun a _=>a:=by
  rw[pS,Dp O,Dq (.inr G)];unfold vP jT;simp only[zc,mT]
 rw[K]at l ⊢;have ak:=C5 (zV (⟨#[105,110,116]⟩:C6).data.toList (PR.ok () r)=false) N;have al:=C5 (zV (⟨#[98,111,111,108]⟩:C6).data.toList (PR.ok () r)=true) G;have I:=U (qe l);have u:=qe (qP l);have ai:=U u;have M:=qP (qP (qP l));have ah:=U M;have aj:=U (qe (qP (qP l)));rw[ji,<-zc]at u;have J:=U u;clear m l K u M N G;have aa:=U (vH (b:=b) (V:=V) (tj:=tj) (n:=n) (d:=1) Us Us);go_enter func98,ntmps98
 go_wp2_with (first
  |(go_at_call 74;(with_reducible refine(jh c.o.st _ false ak.o).mono ?_);rintro e av ⟨rfl,f⟩;replace c:=U (c.o.step f);clear f)
  |(go_at_call 74;(with_reducible refine(jh c.o.st _ true al.o).mono ?_);rintro e av ⟨rfl,f⟩;replace c:=U (c.o.step f);clear f)
  | (go_at_call 48;(with_reducible refine(uU c.o.st).mono ?_);rintro e _ ⟨v,rfl,f,i⟩
     obtain⟨t,rfl⟩:=FZ i ah.o;have af:=C5 (ja _ fun a=>a=t) (i.imp fun a j=>He);replace c:=U (c.o.step f);clear f i;obtain⟨⟨c0,c1,c2,c3,c4,c5⟩,q⟩:=c.o.own
     obtain⟨⟨y,z,A,B,C,D⟩,E⟩:=c.o.s)
  | (go_at_call 49;(with_reducible refine(ye ((c.o.set0 (.int .i64 1)).ww (.int .i64 t)).st 1 Us).mono ?_);rintro e _ ⟨s,rfl,f,i⟩
     have ae:=U i;replace c:=U (((c.o.set0 (.int .i64 1)).ww (.int .i64 t)).step f);clear f i;obtain⟨⟨c0,c1,c2,c3,c4,c5⟩,q⟩:=c.o.own
     obtain⟨⟨y,z,A,B,C,D⟩,E⟩:=c.o.s)
  | (go_at_call 52;(with_reducible refine(zh (c.o.set2 (.string s)).st ⟨#[61]⟩).mono ?_);rintro e aw ⟨rfl,f⟩
     replace c:=C5 (xc b V tj w ((((PR.ok () r).bind fun _ r=>k4 r).un.bind fun _ r=>qt 1 r).un.bind fun _ r=>zO [61] r) aw _ _ _ _ _ _) ((c.o.set2 (.string s)).step f);clear f;obtain⟨⟨c0,c1,c2,c3,c4,c5⟩,q⟩:=c.o.own
     obtain⟨⟨y,z,A,B,C,D⟩,E⟩:=c.o.s)
  | (go_at_call 121;(with_reducible refine(aa.o.call c.o.st J.o).mono ?_);rintro e k ⟨v,rfl,f,i⟩
     obtain⟨P,R,S,W,X,Y,Z,rfl⟩:=jD i J.o;have ad:=C5 (ja _ fun a=>kr (w.heap.size+2) k a _) (i.imp fun a j=>kr.keep j (zL.refl _ _) Xf);replace c:=U (c.o.step f);have aA:=c.o.size;clear f i;obtain⟨⟨c0,c1,c2,c3,c4,c5⟩,q⟩:=c.o.own
     obtain⟨⟨y,z,A,B,C,D⟩,E⟩:=c.o.s)
  | (go_at_call 52;(with_reducible refine(zh ((c.o.wk (.slice (some ⟨k.heap.size,0,none⟩) 1 1)).alloc (.cells #[.int .i64 P,.int .i64 R,.int .i64 S,.string W,.slice X Y Z] 152)).st ⟨#[59]⟩).mono ?_);rintro e w9 ⟨rfl,f⟩
     have ab:=C5 (ja _ fun a=>je (w.heap.size+2) _ [a] _) (ad.o.imp fun a j=>uM (T:=152) (kr.keep j (zL.set (g:=w.heap.size+1) O 3 (.slice (some ⟨k.heap.size,0,none⟩) 1 1)) Zr) Zr Ut (g:=k.heap.size) Uu);have ag:=U (zL.did (L:=w.heap.size+2) f O);replace c:=U (((c.o.wk (.slice (some ⟨k.heap.size,0,none⟩) 1 1)).alloc (.cells #[(P:Int),(R:Int),(S:Int),W,(X,Y,Z)] 152)).step f);have az:=c.o.size;clear f;obtain⟨⟨c0,c1,c2,c3,c4,c5⟩,q⟩:=c.o.own
     obtain⟨⟨y,z,A,B,C,D⟩,E⟩:=c.o.s))
 obtain⟨am,f1,an,f3,ao,ap⟩:=c.o.1.read (.int .i64 1) (.int .i64 t) (.string s) (.slice (some ⟨k.heap.size,0,none⟩) 1 1) (.slice none 0 0) (.slice none 0 0);refine bodyPost_ret (v:=.agg #[(1:Int),(t:Int),s,.slice (some ⟨k.heap.size,0,none⟩) 1 1,(),()]) (by simp[results,results98,go_sem,am,f1,an,f3,ao,ap]) rfl ?_;refine c.o.fin (by rw[kB,ji,ji,<-zc]) ?_;have hF:=ab.o;rw[zc,<-ji (F:=fun(a:Int) (s:C6)=>(a,s))]at hF;refine jF (jF (Q:=fun a=>∃e,a=St.mk 1 t s [e] [] []/\je (w.heap.size+2) _ [e] _) (jF (Q:=fun p=>p=(t,s)) af.o ae.o aj.o (fun a b j aq=>by rw[j,aq])) hF ai.o (fun p e au H=>⟨e,by rw[au],H⟩)) (vW I.o) I.o fun a _ j _=>?_;obtain⟨e,rfl,H⟩:=j;exact⟨_,_,_,rfl,je.keep H (ag.o.trans (zL.wh O _ _ _ _ _ _)) O,qy _ _,qy _ _⟩
theorem F2{tj:List fH}(S:CB b V tj n (d+1))(A:ze b V tj r false false w)(ak:0<=d/\d<=100)(E:zr k3 r=false)(C:zr xR r=false)(D:zr M8 r=false)(F:zr vO r=true)(q:zI (pS (n+1) d r)):
 C3 98 #[(b,0),(d:Int)] w (qn b V tj w (pS (n+1) d r) (gX w.heap.size)):=by
 obtain⟨_,_⟩:=ak;have c:=U (xc.start (x:=.ok () r) A);have ao:=A.lt;have ap:¬100<d:=O
 have R:pS (n+1) d r=jT ((PR.ok () r.tail).bind fun _ r=>pI n r) (fun r=>pB n (d+1) r) fun e t=>St.mk 5 0 bE [e] t []:=by rw[pS,Dp O,Dp (by rw[E,C];decide),Dp (by rw[D];decide),Dq F];rfl
 rw[R]at q ⊢;have ab:=C5 (zV (⟨#[105,110,116]⟩:C6).data.toList (PR.ok () r)=false) E;have ad:=C5 (zV (⟨#[98,111,111,108]⟩:C6).data.toList (PR.ok () r)=false) C;have ae:=C5 (zV (⟨#[105,102]⟩:C6).data.toList (PR.ok () r)=false) D;have af:=C5 (zV (⟨#[119,104,105,108,101]⟩:C6).data.toList (PR.ok () r)=true) F;have y:=U (qe q);have Q:=U (qP q);have X:=U S;clear A q R S E C D F;go_enter func98,ntmps98
 go_wp2_with (first
  |(go_at_call 74;(with_reducible refine(jh c.o.st _ false ab.o).mono ?_);rintro e u ⟨rfl,f⟩;replace c:=U (c.o.step f);clear f)
  |(go_at_call 74;(with_reducible refine(jh c.o.st _ false ad.o).mono ?_);rintro e u ⟨rfl,f⟩;replace c:=U (c.o.step f);clear f)
  | (go_at_call 50;(with_reducible refine(zE c.o.st _ ae.o).mono ?_);rintro e u ⟨rfl,f⟩
     replace c:=U (c.o.step f);clear f;obtain⟨⟨c0,c1,c2,c3,c4,c5⟩,z⟩:=c.o.own
     obtain⟨⟨G,H,I,J,K,M⟩,N⟩:=c.o.s)
  | (go_at_call 50;(with_reducible refine(qB c.o.st _ af.o).mono ?_);rintro e u ⟨rfl,f⟩
     replace c:=C5 (xc b V tj w (.ok () r.tail) u _ _ _ _ _ _) (c.o.step f);clear f;obtain⟨⟨c0,c1,c2,c3,c4,c5⟩,z⟩:=c.o.own
     obtain⟨⟨G,H,I,J,K,M⟩,N⟩:=c.o.s)
  | (go_at_call 122;(with_reducible refine(zAf c.o.st Q.o).mono ?_);rintro e an ⟨v,rfl,f,i⟩
     obtain⟨j,k,l,rfl⟩:=mS i Q.o;have Y:=C5 (ja _ fun a=>je (w.heap.size+2) an [a] (.slice j k l)) (i.imp fun a B=>je.keep B (zL.refl _ _) Xf);replace c:=U (c.o.step f);clear f i;obtain⟨⟨c0,c1,c2,c3,c4,c5⟩,z⟩:=c.o.own
     obtain⟨⟨G,H,I,J,K,M⟩,N⟩:=c.o.s)
  | (go_at_call 75;(with_reducible refine(X.o.call ((c.o.set0 (.int .i64 5)).wk (.slice j k l)).st y.o).mono ?_);rintro e W ⟨v,rfl,f,i⟩
     obtain⟨m,p,q4,rfl⟩:=xb i y.o;have aa:=C5 (ja _ fun a=>xo (w.heap.size+2) W a _) (i.imp fun a B=>xo.keep B (zL.refl _ _) Xf);have Z:=U (((zL.set (L:=w.heap.size+2) (g:=w.heap.size+1) O 0 (.int .i64 5)).trans (zL.set (g:=w.heap.size+1) O 3 (.slice j k l))).trans (zL.did f O));replace c:=U (((c.o.set0 (.int .i64 5)).wk (.slice j k l)).step f);clear f i;obtain⟨⟨c0,c1,c2,c3,c4,c5⟩,z⟩:=c.o.own
     obtain⟨⟨G,H,I,J,K,M⟩,N⟩:=c.o.s))
 have P:=U (c.o.wz (.slice m p q4));obtain⟨ag,f1,ah,f3,ai,aj⟩:=P.o.1.read (.int .i64 5) (.int .i64 0) (.string ⟨#[]⟩) (.slice j k l) (.slice m p q4) (.slice none 0 0);refine bodyPost_ret (v:=.agg #[(5:Int),(0:Int),.string ⟨#[]⟩,(j,k,l),(m,p,q4),()]) (by simp[results,results98,go_sem,ag,f1,ah,f3,ai,aj]) rfl ?_;have T:=(zL.set (L:=w.heap.size+2) (w:=W) (g:=w.heap.size+1) O 4 (.slice m p q4)).trans (zL.wh (g:=w.heap.size) O (.int .i64 5) (.int .i64 0) (.string ⟨#[]⟩) (.slice j k l) (.slice m p q4) (.slice none 0 0));refine P.o.fin (ji _ _ _) (jF Y.o aa.o y.o fun e t al am=>?_);exact⟨_,_,_,rfl,je.keep al (Z.o.trans T) O,xo.keep am T O,qy _ _⟩
theorem sS:((pI n r.tail).bind fun e r=>(pB n (d+1) r).bind fun t r=>rA n d e t r)=(jT ((PR.ok () r.tail).bind fun _ r=>pI n r) (fun r=>pB n (d+1) r) fun e t=>(e,t)).bind fun p r=>rA n d p.1 p.2 r:=by
 unfold jT;simp only[zc,mT]
theorem mU{tj:List fH}(W:CB b V tj n (d+1))(C:ze b V tj r false false w)(aq:0<=d/\d<=100)(H:zr k3 r=false)(E:zr xR r=false)(G:zr M8 r=true)(y:zV AA (jT ((PR.ok () r.tail).bind fun _ r=>pI n r) (fun r=>pB n (d+1) r) fun e t=>(e,t))=false)(j:zI (pS (n+1) d r)):
 C3 98 #[(b,0),(d:Int)] w (qn b V tj w (pS (n+1) d r) (gX w.heap.size)):=by
 obtain⟨_,_⟩:=aq;have c:=U (xc.start (x:=.ok () r) C);have aw:=C.lt;have ax:¬100<d:=O
 have T:pS (n+1) d r=jT ((PR.ok () r.tail).bind fun _ r=>pI n r) (fun r=>pB n (d+1) r) fun e t=>St.mk 4 0 bE [e] t []:=by
  have ao:pS (n+1) d r=(jT ((PR.ok () r.tail).bind fun _ r=>pI n r) (fun r=>pB n (d+1) r) fun e t=>(e,t)).bind fun p r=>rA n d p.1 p.2 r:=by rw[pS,Dp O,Dp (by rw[H,E];decide),Dq G,sS]
  rw[ao]at j ⊢
  have ap:(jT ((PR.ok () r.tail).bind fun _ r=>pI n r) (fun r=>pB n (d+1) r) fun e t=>St.mk 4 0 bE [e] t [])=(jT ((PR.ok () r.tail).bind fun _ r=>pI n r) (fun r=>pB n (d+1) r) fun e t=>(e,t)).bind fun p r=>.ok (St.mk 4 0 bE [p.1] p.2 []) r:=by
   unfold jT;simp only[zc,mT]
  rw[ap];cases hx:(jT ((PR.ok () r.tail).bind fun _ r=>pI n r) (fun r=>pB n (d+1) r) fun e t=>(e,t))with
  |ok p z=>
    rw[hx]at j y;cases n with
    |zero=>exact absurd (show zI (rA 0 d p.1 p.2 z)from j) (by rw[rA];exact id)
    |succ n=>
      show rA (n+1) d p.1 p.2 z=.ok _ z;rw[rA,Dp (by rw[show zr AA z=false from y];decide)]
  |_=>rfl
 rw[T]at j ⊢;have ah:=C5 (zV (⟨#[105,110,116]⟩:C6).data.toList (PR.ok () r)=false) H;have ai:=C5 (zV (⟨#[98,111,111,108]⟩:C6).data.toList (PR.ok () r)=false) E;have aj:=C5 (zV (⟨#[105,102]⟩:C6).data.toList (PR.ok () r)=true) G;have A:=U (qe j);have S:=U (qP j);have aa:=U W
 have X:zV (⟨#[101,108,115,101]⟩:C6).data.toList (((PR.ok () r.tail).bind fun _ r=>pI n r).un.bind fun _ r=>pB n (d+1) r).un=false:=by
  rw[<-ji (F:=fun e t=>(e,t))];revert y;cases(jT ((PR.ok () r.tail).bind fun _ r=>pI n r) (fun r=>pB n (d+1) r) fun e t=>(e,t))<;>exact id
 have ab:=U X;clear C j T W y X H E G;go_enter func98,ntmps98
 go_wp2_with (first
  |(go_at_call 74;(with_reducible refine(jh c.o.st _ false ah.o).mono ?_);rintro e R ⟨rfl,f⟩;replace c:=U (c.o.step f);clear f)
  |(go_at_call 74;(with_reducible refine(jh c.o.st _ false ai.o).mono ?_);rintro e R ⟨rfl,f⟩;replace c:=U (c.o.step f);clear f)
  | (go_at_call 50;(with_reducible refine(qB c.o.st _ aj.o).mono ?_);rintro e R ⟨rfl,f⟩
     replace c:=C5 (xc b V tj w (.ok () r.tail) R _ _ _ _ _ _) (c.o.step f);clear f;obtain⟨⟨c0,c1,c2,c3,c4,c5⟩,B⟩:=c.o.own
     obtain⟨⟨I,J,K,M,N,P⟩,Q⟩:=c.o.s)
  | (go_at_call 122;(with_reducible refine(zAf c.o.st S.o).mono ?_);rintro e av ⟨v,rfl,f,i⟩
     obtain⟨k,l,m,rfl⟩:=mS i S.o;have ad:=C5 (ja _ fun a=>je (w.heap.size+2) av [a] (.slice k l m)) (i.imp fun a D=>je.keep D (zL.refl _ _) Xf);replace c:=U (c.o.step f);clear f i;obtain⟨⟨c0,c1,c2,c3,c4,c5⟩,B⟩:=c.o.own
     obtain⟨⟨I,J,K,M,N,P⟩,Q⟩:=c.o.s)
  | (go_at_call 75;(with_reducible refine(aa.o.call ((c.o.set0 (.int .i64 4)).wk (.slice k l m)).st A.o).mono ?_);rintro e Z ⟨v,rfl,f,i⟩
     obtain⟨q,u,q4,rfl⟩:=xb i A.o;have ag:=C5 (ja _ fun a=>xo (w.heap.size+2) Z a _) (i.imp fun a D=>xo.keep D (zL.refl _ _) Xf);have ae:=U (((zL.set (L:=w.heap.size+2) (g:=w.heap.size+1) O 0 (.int .i64 4)).trans (zL.set (g:=w.heap.size+1) O 3 (.slice k l m))).trans (zL.did f O));replace c:=U (((c.o.set0 (.int .i64 4)).wk (.slice k l m)).step f);clear f i;obtain⟨⟨c0,c1,c2,c3,c4,c5⟩,B⟩:=c.o.own
     obtain⟨⟨I,J,K,M,N,P⟩,Q⟩:=c.o.s)
  | (go_at_call 50;(with_reducible refine(zE (c.o.wz (.slice q u q4)).st _ ab.o).mono ?_);rintro e _ ⟨rfl,f⟩
     have af:=U ((zL.set (L:=w.heap.size+2) (w:=Z) (g:=w.heap.size+1) O 4 (.slice q u q4)).trans (zL.did f O));replace c:=U ((c.o.wz (.slice q u q4)).step f);clear f;obtain⟨⟨c0,c1,c2,c3,c4,c5⟩,B⟩:=c.o.own
     obtain⟨⟨I,J,K,M,N,P⟩,Q⟩:=c.o.s))
 obtain⟨ak,f1,al,f3,am,an⟩:=c.o.1.read (.int .i64 4) (.int .i64 0) (.string ⟨#[]⟩) (.slice k l m) (.slice q u q4) (.slice none 0 0);refine bodyPost_ret (v:=.agg #[(4:Int),(0:Int),.string ⟨#[]⟩,(k,l,m),(q,u,q4),()]) (by simp[results,results98,go_sem,ak,f1,al,f3,am,an]) rfl ?_;have Y:=af.o.trans (zL.wh (g:=w.heap.size) O (.int .i64 4) (.int .i64 0) (.string ⟨#[]⟩) (.slice k l m) (.slice q u q4) (.slice none 0 0));refine c.o.fin (ji _ _ _) (jF ad.o ag.o A.o fun e t ar au=>?_);exact⟨_,_,_,rfl,je.keep ar (ae.o.trans Y) O,xo.keep au Y O,qy _ _⟩
theorem N4{tj:List fH}{q:Nat}{p:Ex×List St}{j:List fH}(aO:n=q+1)(an:CB b V tj n (d+1))(ao:CB b V tj q (d+1))(T:ze b V tj r false false w)(aN:0<=d/\d<=100)(ab:zr k3 r=false)(X:zr xR r=false)(aa:zr M8 r=true)(A:(jT ((PR.ok () r.tail).bind fun _ r=>pI n r) (fun r=>pB n (d+1) r) fun e t=>(e,t))=.ok p j)(Z:zr AA j=true)(ae:zI (pS (n+1) d r)):
 C3 98 #[(b,0),(d:Int)] w (qn b V tj w (pS (n+1) d r) (gX w.heap.size)):=by
 obtain⟨_,_⟩:=aN;have c:=U (xc.start (x:=.ok () r) T);have aQ:=T.lt;have aR:¬100<d:=O
 have al:pS (n+1) d r=(pB q (d+1) j.tail).bind fun P r=>.ok (St.mk 4 0 bE [p.1] p.2 P) r:=by
  have aM:pS (n+1) d r=(jT ((PR.ok () r.tail).bind fun _ r=>pI n r) (fun r=>pB n (d+1) r) fun e t=>(e,t)).bind fun p r=>rA n d p.1 p.2 r:=by rw[pS,Dp O,Dp (by rw[ab,X];decide),Dq aa,sS]
  rw[aM,A,aO];show rA (q+1) d p.1 p.2 j=_;rw[rA,Dq Z]
 rw[al]at ae ⊢;have aF:=C5 (zV (⟨#[105,110,116]⟩:C6).data.toList (PR.ok () r)=false) ab;have aG:=C5 (zV (⟨#[98,111,111,108]⟩:C6).data.toList (PR.ok () r)=false) X;have aH:=C5 (zV (⟨#[105,102]⟩:C6).data.toList (PR.ok () r)=true) aa;have W:zI (jT ((PR.ok () r.tail).bind fun _ r=>pI n r) (fun r=>pB n (d+1) r) fun e t=>(e,t)):=by rw[A];trivial
 have S:=U (qe W);have aj:=U (qP W);have ak:=C5 (zI ((PR.ok () j.tail).bind fun _ r=>pB q (d+1) r)) (qN ae);have aw:=U an;have ax:=U ao;have av:=U A;have az:=U (show(((PR.ok () r.tail).bind fun _ r=>pI n r).un.bind fun _ r=>pB n (d+1) r).un=.ok () j by rw[<-ji (F:=fun e t=>(e,t)),A];rfl);have ay:=C5 (zV (⟨#[101,108,115,101]⟩:C6).data.toList (PR.ok () j)=true) Z;clear T ae al an ao Z A W ab X aa;go_enter func98,ntmps98
 go_wp2_with (first
  |(go_at_call 74;(with_reducible refine(jh c.o.st _ false aF.o).mono ?_);rintro e ag ⟨rfl,f⟩;replace c:=U (c.o.step f);clear f)
  |(go_at_call 74;(with_reducible refine(jh c.o.st _ false aG.o).mono ?_);rintro e ag ⟨rfl,f⟩;replace c:=U (c.o.step f);clear f)
  | (go_at_call 50;(with_reducible refine(qB c.o.st _ aH.o).mono ?_);rintro e ag ⟨rfl,f⟩
     replace c:=C5 (xc b V tj w (.ok () r.tail) ag _ _ _ _ _ _) (c.o.step f);clear f;obtain⟨⟨c0,c1,c2,c3,c4,c5⟩,E⟩:=c.o.own
     obtain⟨⟨G,H,I,J,K,M⟩,N⟩:=c.o.s)
  | (go_at_call 122;(with_reducible refine(zAf c.o.st aj.o).mono ?_);rintro e ar ⟨v,rfl,f,i⟩
     obtain⟨k,l,m,rfl⟩:=mS i aj.o;have aA:=C5 (ja _ fun a=>je (w.heap.size+2) ar [a] (.slice k l m)) (i.imp fun a B=>je.keep B (zL.refl _ _) Xf);replace c:=U (c.o.step f);clear f i;obtain⟨⟨c0,c1,c2,c3,c4,c5⟩,E⟩:=c.o.own
     obtain⟨⟨G,H,I,J,K,M⟩,N⟩:=c.o.s)
  | (go_at_call 75;(with_reducible refine(aw.o.call ((c.o.set0 (.int .i64 4)).wk (.slice k l m)).st S.o).mono ?_);rintro e R ⟨v,rfl,f,i⟩
     obtain⟨u,y,q4,rfl⟩:=xb i S.o;have aD:=C5 (ja _ fun a=>xo (w.heap.size+2) R a _) (i.imp fun a B=>xo.keep B (zL.refl _ _) Xf);have aB:=U (((zL.set (L:=w.heap.size+2) (g:=w.heap.size+1) O 0 (.int .i64 4)).trans (zL.set (g:=w.heap.size+1) O 3 (.slice k l m))).trans (zL.did f O));replace c:=U (show xc b V tj w (.ok () j) R _ _ _ _ _ _ by have am:=((c.o.set0 (.int .i64 4)).wk (.slice k l m)).step f;rw[az.o]at am;exact am);clear f i;obtain⟨⟨c0,c1,c2,c3,c4,c5⟩,E⟩:=c.o.own
     obtain⟨⟨G,H,I,J,K,M⟩,N⟩:=c.o.s)
  | (go_at_call 50;(with_reducible refine(qB (c.o.wz (.slice u y q4)).st _ ay.o).mono ?_);rintro e aP ⟨rfl,f⟩
     have aC:=U ((zL.set (L:=w.heap.size+2) (w:=R) (g:=w.heap.size+1) O 4 (.slice u y q4)).trans (zL.did f O));replace c:=C5 (xc b V tj w (.ok () j.tail) aP _ _ _ _ _ _) ((c.o.wz (.slice u y q4)).step f);clear f;obtain⟨⟨c0,c1,c2,c3,c4,c5⟩,E⟩:=c.o.own
     obtain⟨⟨G,H,I,J,K,M⟩,N⟩:=c.o.s)
  | (go_at_call 75;(with_reducible refine(ax.o.call c.o.st ak.o).mono ?_);rintro e au ⟨v,rfl,f,i⟩
     obtain⟨z,C,D,rfl⟩:=xb i ak.o;have aE:=C5 (ja _ fun a=>xo (w.heap.size+2) au a _) (i.imp fun a B=>xo.keep B (zL.refl _ _) Xf);have ai:=U (aC.o.trans (zL.did f O));replace c:=U (c.o.step f);clear f i;obtain⟨⟨c0,c1,c2,c3,c4,c5⟩,E⟩:=c.o.own
     obtain⟨⟨G,H,I,J,K,M⟩,N⟩:=c.o.s))
 have ah:=U (c.o.set5 (.slice z C D));obtain⟨aI,f1,aJ,f3,aK,aL⟩:=ah.o.1.read (.int .i64 4) (.int .i64 0) (.string ⟨#[]⟩) (.slice k l m) (.slice u y q4) (.slice z C D);refine bodyPost_ret (v:=.agg #[(4:Int),(0:Int),.string ⟨#[]⟩,(k,l,m),(u,y,q4),(z,C,D)]) (by simp[results,results98,go_sem,aI,f1,aJ,f3,aK,aL]) rfl ?_;have ad:=(zL.set (L:=w.heap.size+2) (w:=au) (g:=w.heap.size+1) O 5 (.slice z C D)).trans (zL.wh (g:=w.heap.size) O (.int .i64 4) (.int .i64 0) (.string ⟨#[]⟩) (.slice k l m) (.slice u y q4) (.slice z C D));have ap:=jF (F:=fun e t=>(e,t)) (Q:=fun p:Ex×List St=>je (w.heap.size+2) ar [p.1] (.slice k l m)/\xo (w.heap.size+2) R p.2 (.slice u y q4)) aA.o aD.o S.o fun e t Y af=>⟨Y,af⟩
 rw[av.o]at ap;obtain⟨Y,af⟩:=ap;refine ah.o.fin Jc (ja.bind aE.o (fun P r _ aq=>?_) fun P aq=>⟨St.mk 4 0 bE [p.1] p.2 P,?_⟩)
 all_goals exact⟨_,_,_,rfl,je.keep Y (aB.o.trans (ai.o.trans ad)) O,xo.keep af (ai.o.trans ad) O,xo.keep aq ad O⟩
theorem xc.deepen{tj:List fH}(a:ze b V tj r false false w):xc b V tj w (.deep r) (((w.setCell (b,3) true).alloc uf).alloc uf) (.int .i64 0) (.int .i64 0) (.string ⟨#[]⟩) (.slice none 0 0) (.slice none 0 0) (.slice none 0 0):=by
 have c:jK b V tj w (.deep r) (w.setCell (b,3) true):=⟨a.deepen,(fI.refl b _ _).wt a.lt 3 _⟩
 refine⟨⟨(c.alloc _).alloc _,?_,a.2.1,a.lt⟩,?_⟩
 .refine zv ?_ _
  have:=Ds (w.setCell (b,3) true) uf;rw[xC]at this;exact this
 .have:=Ds ((w.setCell (b,3) true).alloc uf) uf
  rw[zA,xC]at this;exact this
theorem N5{tj:List fH}(A:ze b V tj r false false w)(_:0<=d/\d<=1000)(ah:100<d)(ai:zI (pS (n+1) d r)):
 C3 98 #[(b,0),(d:Int)] w (qn b V tj w (pS (n+1) d r) (gX w.heap.size)):=by
 have N:pS (n+1) d r=.deep r:=by rw[pS,Dq ah]
 rw[N];have f3:=A.1.frozen 3;obtain⟨_,_,_,_⟩:=A.cells;have aj:=A.lt;have c:=U (xc.deepen A);clear A ai N;have S:=C5 (zV (⟨#[105,110,116]⟩:C6).data.toList (PR.deep r:PR Unit)=false) rfl;have T:=C5 (zV (⟨#[98,111,111,108]⟩:C6).data.toList (PR.deep r:PR Unit)=false) rfl;have W:=C5 (zV (⟨#[105,102]⟩:C6).data.toList (PR.deep r:PR Unit)=false) rfl;have X:=C5 (zV (⟨#[119,104,105,108,101]⟩:C6).data.toList (PR.deep r:PR Unit)=false) rfl;have Y:=C5 (zV (⟨#[98,114,101,97,107]⟩:C6).data.toList (PR.deep r:PR Unit)=false) rfl;have Z:=C5 (zV (⟨#[99,111,110,116,105,110,117,101]⟩:C6).data.toList (PR.deep r:PR Unit)=false) rfl;have aa:=C5 (zV (⟨#[114,101,116,117,114,110]⟩:C6).data.toList (PR.deep r:PR Unit)=false) rfl;have ab:=C5 (zV (⟨#[112,114,105,110,116]⟩:C6).data.toList (PR.deep r:PR Unit)=false) rfl;have M:=C5 (zI ((PR.deep r:PR Unit).bind fun _ r=>q8 0 r)) trivial;go_enter func98,ntmps98
 go_wp2_with (first
  |(go_at_call 74;(with_reducible refine(jh c.o.st _ false S.o).mono ?_);rintro e u ⟨rfl,f⟩;replace c:=U (c.o.step f);clear f)
  |(go_at_call 74;(with_reducible refine(jh c.o.st _ false T.o).mono ?_);rintro e u ⟨rfl,f⟩;replace c:=U (c.o.step f);clear f)
  | (go_at_call 50;(with_reducible refine(zE c.o.st _ W.o).mono ?_);rintro e u ⟨rfl,f⟩
     replace c:=U (c.o.step f);clear f;obtain⟨⟨c0,c1,c2,c3,c4,c5⟩,i⟩:=c.o.own
     obtain⟨⟨j,k,l,m,p,q⟩,t⟩:=c.o.s)
  | (go_at_call 50;(with_reducible refine(zE c.o.st _ X.o).mono ?_);rintro e u ⟨rfl,f⟩
     replace c:=U (c.o.step f);clear f;obtain⟨⟨c0,c1,c2,c3,c4,c5⟩,i⟩:=c.o.own
     obtain⟨⟨j,k,l,m,p,q⟩,t⟩:=c.o.s)
  | (go_at_call 50;(with_reducible refine(zE c.o.st _ Y.o).mono ?_);rintro e u ⟨rfl,f⟩
     replace c:=U (c.o.step f);clear f;obtain⟨⟨c0,c1,c2,c3,c4,c5⟩,i⟩:=c.o.own
     obtain⟨⟨j,k,l,m,p,q⟩,t⟩:=c.o.s)
  | (go_at_call 50;(with_reducible refine(zE c.o.st _ Z.o).mono ?_);rintro e u ⟨rfl,f⟩
     replace c:=U (c.o.step f);clear f;obtain⟨⟨c0,c1,c2,c3,c4,c5⟩,i⟩:=c.o.own
     obtain⟨⟨j,k,l,m,p,q⟩,t⟩:=c.o.s)
  | (go_at_call 50;(with_reducible refine(zE c.o.st _ aa.o).mono ?_);rintro e u ⟨rfl,f⟩
     replace c:=U (c.o.step f);clear f;obtain⟨⟨c0,c1,c2,c3,c4,c5⟩,i⟩:=c.o.own
     obtain⟨⟨j,k,l,m,p,q⟩,t⟩:=c.o.s)
  | (go_at_call 50;(with_reducible refine(zE c.o.st _ ab.o).mono ?_);rintro e u ⟨rfl,f⟩
     replace c:=U (c.o.step f);clear f;obtain⟨⟨c0,c1,c2,c3,c4,c5⟩,i⟩:=c.o.own
     obtain⟨⟨j,k,l,m,p,q⟩,t⟩:=c.o.s)
  | (go_at_call 123;(with_reducible refine(A6 c.o.st M.o).mono ?_);rintro e P ⟨v,rfl,f,J⟩
     obtain⟨B,C,D,x,E,H,y,F,q4,z,G,I,rfl⟩:=oJ J M.o;have Q:=U (show ∃a,gX (w.heap.size+2) P a _ by obtain⟨a,K⟩:=J;exact⟨a,gX.keep K (zL.refl _ _) Xf⟩);replace c:=C5 (xc b V tj w (.deep r) P _ _ _ _ _ _) (c.o.step f);clear f J;obtain⟨⟨c0,c1,c2,c3,c4,c5⟩,i⟩:=c.o.own
     obtain⟨⟨j,k,l,m,p,q⟩,t⟩:=c.o.s)
  | (go_at_call 52;(with_reducible refine(zh ((((((c.o.set0 (.int .i64 B)).ww (.int .i64 C)).set2 (.string D)).wk (.slice x E H)).wz (.slice y F q4)).set5 (.slice z G I)).st ⟨#[59]⟩).mono ?_);rintro e w9 ⟨rfl,f⟩
     have R:=U ((zL.wh (L:=w.heap.size+2) (g:=w.heap.size+1) O (.int .i64 B) (.int .i64 C) (.string D) (.slice x E H) (.slice y F q4) (.slice z G I)).trans (zL.did f O));replace c:=U (((((((c.o.set0 (.int .i64 B)).ww (.int .i64 C)).set2 (.string D)).wk (.slice x E H)).wz (.slice y F q4)).set5 (.slice z G I)).step f);have ak:=c.o.size;clear f;obtain⟨⟨c0,c1,c2,c3,c4,c5⟩,i⟩:=c.o.own
     obtain⟨⟨j,k,l,m,p,q⟩,t⟩:=c.o.s))
 obtain⟨ad,f1,ae,f3,af,ag⟩:=c.o.1.read (.int .i64 B) (.int .i64 C) (.string D) (.slice x E H) (.slice y F q4) (.slice z G I);refine bodyPost_ret (v:=.agg #[(B:Int),(C:Int),D,(x,E,H),(y,F,q4),(z,G,I)]) (by simp[results,results98,go_sem,ad,f1,ae,f3,af,ag]) rfl ?_;refine c.o.fin rfl ?_;obtain⟨a,K⟩:=Q.o;exact⟨a,gX.keep K (R.o.trans (zL.wh O _ _ _ _ _ _)) O⟩
theorem N6{tj:List fH}(k:d<=100->∀m,m<=n->CB b V tj m (d+1))(c:ze b V tj r false false w)(l:0<=d/\d<=1000)(a:zI (pS (n+1) d r)):
 C3 98 #[(b,0),(d:Int)] w (qn b V tj w (pS (n+1) d r) (gX w.heap.size)):=by
 by_cases j:d<=100
 .have f:0<=d/\d<=100:=⟨l.1,j⟩
  have g:=k j n Zr;cases h0:zr k3 r with
  |true=>exact SN c f h0 a
  |false=>
    cases h1:zr xR r with
    |true=>exact N3 c f h0 h1 a
    |false=>
      cases h2:zr M8 r with
      |true=>
        cases hA:(jT ((PR.ok () r.tail).bind fun _ r=>pI n r) (fun r=>pB n (d+1) r) fun e t=>(e,t))with
        |ok p i=>
          cases hel:zr AA i with
          |true=>
            cases n with
            |zero=>
              rw[pS,Dp O,Dp (by rw[h0,h1];decide),Dq h2,sS,hA]at a;exact absurd (show zI (rA 0 d p.1 p.2 i)from a) (by rw[rA];exact id)
            |succ q=>exact N4 rfl g (k j q O) c f h0 h1 h2 hA hel a
          |false=>exact mU g c f h0 h1 h2 (by rw[hA];exact hel) a
        |bad i=>exact mU g c f h0 h1 h2 (by rw[hA];rfl) a
        |deep i=>exact mU g c f h0 h1 h2 (by rw[hA];rfl) a
        |o=>exact mU g c f h0 h1 h2 (by rw[hA];rfl) a
      |false=>
        cases h3:zr vO r with
        |true=>exact F2 g c f h0 h1 h2 h3 a
        |false=>
          cases h4:zr hK r with
          |true=>exact F0 c f h0 h1 h2 h3 h4 a
          |false=>
            cases h5:zr rY r with
            |true=>exact x2 c f h0 h1 h2 h3 h4 h5 a
            |false=>
              cases h6:zr E5 r with
              |true=>exact DI c f h0 h1 h2 h3 h4 h5 h6 a
              |false=>
                cases h7:zr lM r with
                |true=>exact F1 c f h0 h1 h2 h3 h4 h5 h6 h7 a
                |false=>exact N2 c f h0 h1 h2 h3 h4 h5 h6 h7 a
 .exact N5 c l O a
