import Derived.Test.YthcmenajdcbnnaaGreatDoorAtParNm
set_option linter.unusedSimpArgs false
set_option linter.unusedVariables false
set_option maxRecDepth 100000
/- The document's parser: statements. (By tools/gen_parst.py.) -/
namespace Go.Proofs.YthcmenajdcbnnaaGreatDoor
open Lib (hid)
open Go.RowKit
def qn{α β γ:Type}(c:PR α)(k:List Tok->PR β)(F:α->β->γ):PR γ:=c.bind fun a r=>(k r).bind fun b r=>.ok (F a b) r
theorem jD{α β γ:Type}(c:PR α)(k:List Tok->PR β)(F:α->β->γ):(qn c k F).un=(c.un.bind fun _ r=>k r).un:=by
 cases c with
 | ok a r=>
   show((k r).bind fun b r=>PR.ok (F a b) r).un=(k r).un;rw[jE];rfl
 | _=>rfl
theorem qY{α β γ:Type}{c:PR α}{k:List Tok->PR β}{F:α->β->γ}{P1:α->Prop}{P2:β->Prop}{Q:γ->Prop}(d:qy c P1)(j:qy (c.un.bind fun _ r=>k r) P2)(o:zG (c.un.bind fun _ r=>k r))(e:∀a b,P1 a->P2 b->Q (F a b)):qy (qn c k F) Q:=by
 obtain⟨i,l⟩:=j.some o;cases c with
 | ok a r=>
   have m:qy ((k r).bind fun b r=>PR.ok (F a b) r) Q:=qy.bind (show qy (k r) P2 from j) (fun b r _ h=>e a b d h) fun b h=>⟨_,e a b d h⟩
   exact m
 | bad r=>obtain⟨a,g⟩:=d;exact⟨_,e a i g l⟩
 | deep r=>obtain⟨a,g⟩:=d;exact⟨_,e a i g l⟩
 | out=>trivial
theorem qF{α β γ:Type}{c:PR α}{k:List Tok->PR β}{F:α->β->γ}(d:zG (qn c k F)):zG (c.un.bind fun _ r=>k r):=by
 cases c with
 | ok a r=>exact zu (show zG ((k r).bind fun b r=>PR.ok (F a b) r)from d)
 | bad r=>trivial
 | deep r=>trivial
 | out=>exact d
theorem zx{α β γ:Type}{A:PR α}{k:List Tok->PR β}{F:α->β->γ}(a:zG (qn A k F)):zG A:=zu a
theorem jV{α γ:Type}(a:PR α)(t:List UInt8)(F:α->Unit->γ):(qn a (fun r=>zN t r) F).un=a.un.bind fun _ r=>zN t r:=by rw[jD,un_unit]
theorem one_form{L:Nat}{w:World}{x:PR Ex}{v:Value}(d:qy x fun a=>OneF L w a v)(g:zG x):∃b m c,v=.slice b m c:=by
 obtain⟨a,e⟩:=d.some g;obtain⟨b,c,h,_⟩:=jA.form e;exact⟨b,_,c,h⟩
theorem int_form{w:World}{x:PR Int}{v:Value}(b:qy x fun a=>IntV w a v)(d:zG x):∃t,v=.int .i64 t:=by
 obtain⟨a,c⟩:=b.some d;exact⟨a,c⟩
theorem bind_ok'{α β:Type}(a:α)(r:List Tok)(f:α->List Tok->PR β):(PR.ok a r).bind f=f a r:=rfl
theorem yf{x:PR Unit}{s:List UInt8}(b:zG (x.bind fun _ r=>zN s r)):qy (x.bind fun _ r=>zN s r) fun _=>True:=by
 cases hx:(x.bind fun _ r=>zN s r)with
 | ok a r=>trivial
 | bad r=>exact⟨(),trivial⟩
 | deep r=>exact⟨(),trivial⟩
 | out=>trivial
def CB(b:Nat)(V:Value)(all:List Tok)(n:Nat)(d:Int):Prop:=∀(w:World) (x:PR Unit),jI b V all x w->zG (x.bind fun _ r=>pB n d r)->
 Calls Tryz.prog 82 #[.pointer (some ⟨b,0,none⟩),.int .i64 d] w (qM b V all w (x.bind fun _ r=>pB n d r) (ky w.heap.size))
theorem CB.call{b:Nat}{V:Value}{all:List Tok}{n:Nat}{d:Int}(a:CB b V all n d){w:World}{x:PR Unit}(e:jI b V all x w)(c:zG (x.bind fun _ r=>pB n d r)):
 Calls Tryz.prog 82 #[.pointer (some ⟨b,0,none⟩),.int .i64 d] w (qM b V all w (x.bind fun _ r=>pB n d r) (ky w.heap.size)):=a w x e c
def km(b:Nat)(V:Value)(all:List Tok)(w:World)(x:PR Unit)(W:World)(c0 c1 c2 c3 c4 c5:Value):Prop:=jR b V all w x W/\W.heap[w.heap.size+1]? =some (.cells #[c0,c1,c2,c3,c4,c5] 139 (0,0))
section
variable {b:Nat} {V:Value} {all:List Tok} {w W W':World} {x y:PR Unit} {c0 c1 c2 c3 c4 c5:Value}
theorem km.start(a:jI b V all x w):km b V all w x ((w.alloc vU).alloc vU) (.int .i64 0) (.int .i64 0) (.string ⟨#[]⟩) (.slice none 0 0) (.slice none 0 0) (.slice none 0 0):=
 ⟨(jR.start a).alloc vU,by have:=heap_alloc_new (w.alloc vU) vU;rw[zA]at this;exact this⟩
theorem km.st(a:km b V all w x W c0 c1 c2 c3 c4 c5):jI b V all x W:=a.1.st
theorem km.size(a:km b V all w x W c0 c1 c2 c3 c4 c5):w.heap.size+1<W.heap.size:=(Array.getElem?_eq_some_iff.1 a.2).1
theorem km.ne(a:km b V all w x W c0 c1 c2 c3 c4 c5):w.heap.size+1≠b:=by have:=a.1.lt;omega
theorem km.step(a:km b V all w x W c0 c1 c2 c3 c4 c5)(g:qd b V all W y W'):km b V all w y W' c0 c1 c2 c3 c4 c5:=⟨a.1.step g,q9 g.off a.size a.ne a.2⟩
theorem km.alloc(a:km b V all w x W c0 c1 c2 c3 c4 c5)(o:Obj):km b V all w x (W.alloc o) c0 c1 c2 c3 c4 c5:=⟨a.1.alloc o,qE a.2 o⟩
theorem km.own(a:km b V all w x W c0 c1 c2 c3 c4 c5):(W.cell? ⟨w.heap.size,0,none⟩=some (.int .i64 0)/\W.cell? ⟨w.heap.size,1,none⟩=some (.int .i64 0)/\W.cell? ⟨w.heap.size,2,none⟩=some (.string ⟨#[]⟩)/\
 W.cell? ⟨w.heap.size,3,none⟩=some (.slice none 0 0)/\W.cell? ⟨w.heap.size,4,none⟩=some (.slice none 0 0)/\W.cell? ⟨w.heap.size,5,none⟩=some (.slice none 0 0))/\∀o,W.frozen? ⟨w.heap.size,o,none⟩=false:=a.1.own
theorem km.s(a:km b V all w x W c0 c1 c2 c3 c4 c5):(W.cell? ⟨w.heap.size+1,0,none⟩=some c0/\W.cell? ⟨w.heap.size+1,1,none⟩=some c1/\W.cell? ⟨w.heap.size+1,2,none⟩=some c2/\W.cell? ⟨w.heap.size+1,3,none⟩=some c3/\W.cell? ⟨w.heap.size+1,4,none⟩=some c4/\W.cell? ⟨w.heap.size+1,5,none⟩=some c5)/\∀o,W.frozen? ⟨w.heap.size+1,o,none⟩=false:=six_cells a.2
theorem km.set0(a:km b V all w x W c0 c1 c2 c3 c4 c5)(u:Value):km b V all w x (W.setCell ⟨w.heap.size+1,0,none⟩ u) u c1 c2 c3 c4 c5:=⟨a.1.set I7 0 u,Lib.heap_setCell_same a.2 u⟩
theorem km.set1(a:km b V all w x W c0 c1 c2 c3 c4 c5)(u:Value):km b V all w x (W.setCell ⟨w.heap.size+1,1,none⟩ u) c0 u c2 c3 c4 c5:=⟨a.1.set I7 1 u,Lib.heap_setCell_same a.2 u⟩
theorem km.set2(a:km b V all w x W c0 c1 c2 c3 c4 c5)(u:Value):km b V all w x (W.setCell ⟨w.heap.size+1,2,none⟩ u) c0 c1 u c3 c4 c5:=⟨a.1.set I7 2 u,Lib.heap_setCell_same a.2 u⟩
theorem km.set3(a:km b V all w x W c0 c1 c2 c3 c4 c5)(u:Value):km b V all w x (W.setCell ⟨w.heap.size+1,3,none⟩ u) c0 c1 c2 u c4 c5:=⟨a.1.set I7 3 u,Lib.heap_setCell_same a.2 u⟩
theorem km.set4(a:km b V all w x W c0 c1 c2 c3 c4 c5)(u:Value):km b V all w x (W.setCell ⟨w.heap.size+1,4,none⟩ u) c0 c1 c2 c3 u c5:=⟨a.1.set I7 4 u,Lib.heap_setCell_same a.2 u⟩
theorem km.set5(a:km b V all w x W c0 c1 c2 c3 c4 c5)(u:Value):km b V all w x (W.setCell ⟨w.heap.size+1,5,none⟩ u) c0 c1 c2 c3 c4 u:=⟨a.1.set I7 5 u,Lib.heap_setCell_same a.2 u⟩
theorem km.fin(c:km b V all w y W c0 c1 c2 c3 c4 c5){X:PR St}(e:X.un=y)(d:qy X fun a=>uP w.heap.size (uQ W w.heap.size c0 c1 c2 c3 c4 c5) a (.agg #[c0,c1,c2,c3,c4,c5])):
 qM b V all w X (uP w.heap.size) (.returned (.agg #[c0,c1,c2,c3,c4,c5])) (uQ W w.heap.size c0 c1 c2 c3 c4 c5):=c.1.fin e d
end
theorem pstmt_break{b:Nat}{V:Value}{all r:List Tok}{w:World}{n:Nat}{d:Int}(j:zW b V all r false false w)(P:0<=d/\d<=100)(o:ze sInt r=false)(k:ze kZ r=false)(m:ze sIf r=false)(q:ze y9 r=false)(l:ze ui r=true)(p:zG (pS (n+1) d r)):
 Calls Tryz.prog 103 #[.pointer (some ⟨b,0,none⟩),.int .i64 d] w (qM b V all w (pS (n+1) d r) (uP w.heap.size)):=by
 obtain⟨R,S⟩:=P;have c:=hid (km.start (x:=.ok () r) j);have Q:=j.lt;have T:¬100<d:=I7
 have E:pS (n+1) d r=qn (PR.ok (St.mk 6 0 bE [] [] []) r.tail) (fun r=>zN [59] r) fun a _=>a:=by rw[pS,if_neg I7,if_neg (by rw[o,k];decide),if_neg (by rw[m];decide),if_neg (by rw[q];decide),if_pos l];rfl
 rw[E]at p ⊢;have F:=hid (show zS (⟨#[105,110,116]⟩:ByteArray).data.toList (PR.ok () r)=false from o);have G:=hid (show zS (⟨#[98,111,111,108]⟩:ByteArray).data.toList (PR.ok () r)=false from k);have H:=hid (show zS (⟨#[105,102]⟩:ByteArray).data.toList (PR.ok () r)=false from m);have I:=hid (show zS (⟨#[119,104,105,108,101]⟩:ByteArray).data.toList (PR.ok () r)=false from q);have J:=hid (show zS (⟨#[98,114,101,97,107]⟩:ByteArray).data.toList (PR.ok () r)=true from l);have D:=hid (qF p);clear j p E o k m q l;go_enter Tryz.func103,Tryz.ntmps103
 go_wp2_with (first
  | (go_at_call 81;(with_reducible refine(jB c.out.st _ false F.out).mono ?_);rintro e h ⟨rfl,g⟩;replace c:=hid (c.out.step g);clear g)
  | (go_at_call 81;(with_reducible refine(jB c.out.st _ false G.out).mono ?_);rintro e h ⟨rfl,g⟩;replace c:=hid (c.out.step g);clear g)
  | (go_at_call 56;(with_reducible refine(zD c.out.st _ H.out).mono ?_);rintro e h ⟨rfl,g⟩
     replace c:=hid (c.out.step g);clear g;obtain⟨⟨c0,c1,c2,c3,c4,c5⟩,i⟩:=c.out.own
     obtain⟨⟨t,u,y,z,A,B⟩,C⟩:=c.out.s)
  | (go_at_call 56;(with_reducible refine(zD c.out.st _ I.out).mono ?_);rintro e h ⟨rfl,g⟩
     replace c:=hid (c.out.step g);clear g;obtain⟨⟨c0,c1,c2,c3,c4,c5⟩,i⟩:=c.out.own
     obtain⟨⟨t,u,y,z,A,B⟩,C⟩:=c.out.s)
  | (go_at_call 56;(with_reducible refine(zi c.out.st _ J.out).mono ?_);rintro e h ⟨rfl,g⟩
     replace c:=hid (show km b V all w (.ok () r.tail) h _ _ _ _ _ _ from c.out.step g);clear g;obtain⟨⟨c0,c1,c2,c3,c4,c5⟩,i⟩:=c.out.own
     obtain⟨⟨t,u,y,z,A,B⟩,C⟩:=c.out.s)
  | (go_at_call 58;(with_reducible refine(zY (c.out.set0 (.int .i64 6)).st ⟨#[59]⟩).mono ?_);rintro e w9 ⟨rfl,g⟩
     replace c:=hid ((c.out.set0 (.int .i64 6)).step g);have U:=c.out.size;clear g;obtain⟨⟨c0,c1,c2,c3,c4,c5⟩,i⟩:=c.out.own
     obtain⟨⟨t,u,y,z,A,B⟩,C⟩:=c.out.s))
 obtain⟨K,f1,L,f3,M,N⟩:=c.out.1.read (.int .i64 6) (.int .i64 0) (.string ⟨#[]⟩) (.slice none 0 0) (.slice none 0 0) (.slice none 0 0);refine bodyPost_ret (v:=.agg #[.int .i64 6,.int .i64 0,.string ⟨#[]⟩,.slice none 0 0,.slice none 0 0,.slice none 0 0]) (by simp[results,Tryz.results103,go_sem,K,f1,L,f3,M,N]) rfl ?_;refine c.out.fin (jV _ _ _) ?_;exact qY (P1:=fun a=>a=St.mk 6 0 bE [] [] []) rfl (yf (x:=.ok () r.tail) D.out) D.out fun a _ O _=>by subst O;exact⟨_,_,_,rfl,frEs_nil _ _,qT _ _,qT _ _⟩
theorem stmt_continue{b:Nat}{V:Value}{all r:List Tok}{w:World}{n:Nat}{d:Int}(t:zW b V all r false false w)(R:0<=d/\d<=100)(B:ze sInt r=false)(u:ze kZ r=false)(A:ze sIf r=false)(D:ze y9 r=false)(y:ze ui r=false)(z:ze sCont r=true)(C:zG (pS (n+1) d r)):
 Calls Tryz.prog 103 #[.pointer (some ⟨b,0,none⟩),.int .i64 d] w (qM b V all w (pS (n+1) d r) (uP w.heap.size)):=by
 obtain⟨T,U⟩:=R;have c:=hid (km.start (x:=.ok () r) t);have S:=t.lt;have W:¬100<d:=I7
 have F:pS (n+1) d r=qn (PR.ok (St.mk 7 0 bE [] [] []) r.tail) (fun r=>zN [59] r) fun a _=>a:=by rw[pS,if_neg I7,if_neg (by rw[B,u];decide),if_neg (by rw[A];decide),if_neg (by rw[D];decide),if_neg (by rw[y];decide),if_pos z];rfl
 rw[F]at C ⊢;have G:=hid (show zS (⟨#[105,110,116]⟩:ByteArray).data.toList (PR.ok () r)=false from B);have H:=hid (show zS (⟨#[98,111,111,108]⟩:ByteArray).data.toList (PR.ok () r)=false from u);have I:=hid (show zS (⟨#[105,102]⟩:ByteArray).data.toList (PR.ok () r)=false from A);have J:=hid (show zS (⟨#[119,104,105,108,101]⟩:ByteArray).data.toList (PR.ok () r)=false from D);have K:=hid (show zS (⟨#[98,114,101,97,107]⟩:ByteArray).data.toList (PR.ok () r)=false from y);have L:=hid (show zS (⟨#[99,111,110,116,105,110,117,101]⟩:ByteArray).data.toList (PR.ok () r)=true from z);have E:=hid (qF C);clear t C F B u A D y z;go_enter Tryz.func103,Tryz.ntmps103
 go_wp2_with (first
  | (go_at_call 81;(with_reducible refine(jB c.out.st _ false G.out).mono ?_);rintro e h ⟨rfl,g⟩;replace c:=hid (c.out.step g);clear g)
  | (go_at_call 81;(with_reducible refine(jB c.out.st _ false H.out).mono ?_);rintro e h ⟨rfl,g⟩;replace c:=hid (c.out.step g);clear g)
  | (go_at_call 56;(with_reducible refine(zD c.out.st _ I.out).mono ?_);rintro e h ⟨rfl,g⟩
     replace c:=hid (c.out.step g);clear g;obtain⟨⟨c0,c1,c2,c3,c4,c5⟩,i⟩:=c.out.own
     obtain⟨⟨j,k,l,m,o,p⟩,q⟩:=c.out.s)
  | (go_at_call 56;(with_reducible refine(zD c.out.st _ J.out).mono ?_);rintro e h ⟨rfl,g⟩
     replace c:=hid (c.out.step g);clear g;obtain⟨⟨c0,c1,c2,c3,c4,c5⟩,i⟩:=c.out.own
     obtain⟨⟨j,k,l,m,o,p⟩,q⟩:=c.out.s)
  | (go_at_call 56;(with_reducible refine(zD c.out.st _ K.out).mono ?_);rintro e h ⟨rfl,g⟩
     replace c:=hid (c.out.step g);clear g;obtain⟨⟨c0,c1,c2,c3,c4,c5⟩,i⟩:=c.out.own
     obtain⟨⟨j,k,l,m,o,p⟩,q⟩:=c.out.s)
  | (go_at_call 56;(with_reducible refine(zi c.out.st _ L.out).mono ?_);rintro e h ⟨rfl,g⟩
     replace c:=hid (show km b V all w (.ok () r.tail) h _ _ _ _ _ _ from c.out.step g);clear g;obtain⟨⟨c0,c1,c2,c3,c4,c5⟩,i⟩:=c.out.own
     obtain⟨⟨j,k,l,m,o,p⟩,q⟩:=c.out.s)
  | (go_at_call 58;(with_reducible refine(zY (c.out.set0 (.int .i64 7)).st ⟨#[59]⟩).mono ?_);rintro e w9 ⟨rfl,g⟩
     replace c:=hid ((c.out.set0 (.int .i64 7)).step g);have X:=c.out.size;clear g;obtain⟨⟨c0,c1,c2,c3,c4,c5⟩,i⟩:=c.out.own
     obtain⟨⟨j,k,l,m,o,p⟩,q⟩:=c.out.s))
 obtain⟨M,f1,N,f3,O,P⟩:=c.out.1.read (.int .i64 7) (.int .i64 0) (.string ⟨#[]⟩) (.slice none 0 0) (.slice none 0 0) (.slice none 0 0);refine bodyPost_ret (v:=.agg #[.int .i64 7,.int .i64 0,.string ⟨#[]⟩,.slice none 0 0,.slice none 0 0,.slice none 0 0]) (by simp[results,Tryz.results103,go_sem,M,f1,N,f3,O,P]) rfl ?_;refine c.out.fin (jV _ _ _) ?_;exact qY (P1:=fun a=>a=St.mk 7 0 bE [] [] []) rfl (yf (x:=.ok () r.tail) E.out) E.out fun a _ Q _=>by subst Q;exact⟨_,_,_,rfl,frEs_nil _ _,qT _ _,qT _ _⟩
theorem pstmt_return{b:Nat}{V:Value}{all r:List Tok}{w:World}{n:Nat}{d:Int}(B:zW b V all r false false w)(ao:0<=d/\d<=100)(I:ze sInt r=false)(D:ze kZ r=false)(H:ze sIf r=false)(K:ze y9 r=false)(E:ze ui r=false)(F:ze sCont r=false)(J:ze sRet r=true)(z:zG (pS (n+1) d r)):
 Calls Tryz.prog 103 #[.pointer (some ⟨b,0,none⟩),.int .i64 d] w (qM b V all w (pS (n+1) d r) (uP w.heap.size)):=by
 obtain⟨aq,ar⟩:=ao;have c:=hid (km.start (x:=.ok () r) B);have ap:=B.lt;have au:¬100<d:=I7
 have N:pS (n+1) d r=qn (qn (PR.ok () r.tail) (fun r=>pE n 1 1 r) fun _ e=>St.mk 8 0 bE [e] [] []) (fun r=>zN [59] r) fun a _=>a:=by rw[pS,if_neg I7,if_neg (by rw[I,D];decide),if_neg (by rw[H];decide),if_neg (by rw[K];decide),if_neg (by rw[E];decide),if_neg (by rw[F];decide),if_pos J];rfl
 rw[N]at z ⊢;have ad:=hid (show zS (⟨#[105,110,116]⟩:ByteArray).data.toList (PR.ok () r)=false from I);have ae:=hid (show zS (⟨#[98,111,111,108]⟩:ByteArray).data.toList (PR.ok () r)=false from D);have af:=hid (show zS (⟨#[105,102]⟩:ByteArray).data.toList (PR.ok () r)=false from H);have ag:=hid (show zS (⟨#[119,104,105,108,101]⟩:ByteArray).data.toList (PR.ok () r)=false from K);have ah:=hid (show zS (⟨#[98,114,101,97,107]⟩:ByteArray).data.toList (PR.ok () r)=false from E);have ai:=hid (show zS (⟨#[99,111,110,116,105,110,117,101]⟩:ByteArray).data.toList (PR.ok () r)=false from F);have aj:=hid (show zS (⟨#[114,101,116,117,114,110]⟩:ByteArray).data.toList (PR.ok () r)=true from J);have M:=hid (qF z);have A:=hid (show zG ((PR.ok () r.tail).bind fun _ r=>pE n 1 1 r)from qF (zx z));have Y:=hid (yQ (b:=b) (V:=V) (all:=all) (n:=n) (d:=1) I8 I8);clear B z N I D H K E F J;go_enter Tryz.func103,Tryz.ntmps103
 go_wp2_with (first
  | (go_at_call 81;(with_reducible refine(jB c.out.st _ false ad.out).mono ?_);rintro e i ⟨rfl,h⟩;replace c:=hid (c.out.step h);clear h)
  | (go_at_call 81;(with_reducible refine(jB c.out.st _ false ae.out).mono ?_);rintro e i ⟨rfl,h⟩;replace c:=hid (c.out.step h);clear h)
  | (go_at_call 56;(with_reducible refine(zD c.out.st _ af.out).mono ?_);rintro e i ⟨rfl,h⟩
     replace c:=hid (c.out.step h);clear h;obtain⟨⟨c0,c1,c2,c3,c4,c5⟩,k⟩:=c.out.own
     obtain⟨⟨l,m,o,p,q,t⟩,u⟩:=c.out.s)
  | (go_at_call 56;(with_reducible refine(zD c.out.st _ ag.out).mono ?_);rintro e i ⟨rfl,h⟩
     replace c:=hid (c.out.step h);clear h;obtain⟨⟨c0,c1,c2,c3,c4,c5⟩,k⟩:=c.out.own
     obtain⟨⟨l,m,o,p,q,t⟩,u⟩:=c.out.s)
  | (go_at_call 56;(with_reducible refine(zD c.out.st _ ah.out).mono ?_);rintro e i ⟨rfl,h⟩
     replace c:=hid (c.out.step h);clear h;obtain⟨⟨c0,c1,c2,c3,c4,c5⟩,k⟩:=c.out.own
     obtain⟨⟨l,m,o,p,q,t⟩,u⟩:=c.out.s)
  | (go_at_call 56;(with_reducible refine(zD c.out.st _ ai.out).mono ?_);rintro e i ⟨rfl,h⟩
     replace c:=hid (c.out.step h);clear h;obtain⟨⟨c0,c1,c2,c3,c4,c5⟩,k⟩:=c.out.own
     obtain⟨⟨l,m,o,p,q,t⟩,u⟩:=c.out.s)
  | (go_at_call 56;(with_reducible refine(zi c.out.st _ aj.out).mono ?_);rintro e i ⟨rfl,h⟩
     replace c:=hid (show km b V all w (.ok () r.tail) i _ _ _ _ _ _ from c.out.step h);clear h;obtain⟨⟨c0,c1,c2,c3,c4,c5⟩,k⟩:=c.out.own
     obtain⟨⟨l,m,o,p,q,t⟩,u⟩:=c.out.s)
  | (go_at_call 126;(with_reducible refine(Y.out.call c.out.st A.out).mono ?_);rintro e j ⟨v,rfl,h,C⟩
     obtain⟨O,P,R,S,U,W,X,rfl⟩:=qX C A.out;have aa:=hid (show qy _ fun a=>jx (w.heap.size+2) j a _ from C.imp fun a y=>jx.keep y (zK.refl _ _) Ij);replace c:=hid (c.out.step h);have aw:=c.out.size;clear h C;obtain⟨⟨c0,c1,c2,c3,c4,c5⟩,k⟩:=c.out.own
     obtain⟨⟨l,m,o,p,q,t⟩,u⟩:=c.out.s)
  | (go_at_call 58;(with_reducible refine(zY (((c.out.set0 (.int .i64 8)).set3 (.slice (some ⟨j.heap.size,0,none⟩) 1 1)).alloc (.cells #[.int .i64 O,.int .i64 P,.int .i64 R,.string S,.slice U W X] 147)).st ⟨#[59]⟩).mono ?_);rintro e w9 ⟨rfl,h⟩
     have Z:=hid (show qy _ fun a=>jA (w.heap.size+2) _ [a] _ from aa.out.imp fun a y=>vG (T:=147) (jx.keep y ((zK.set (g:=w.heap.size+1) I7 0 (.int .i64 8)).trans (zK.set (g:=w.heap.size+1) I7 3 (.slice (some ⟨j.heap.size,0,none⟩) 1 1))) Zr) Zr I9 (g:=j.heap.size) Ia);have ab:=hid (zK.did (L:=w.heap.size+2) h I7);replace c:=hid ((((c.out.set0 (.int .i64 8)).set3 (.slice (some ⟨j.heap.size,0,none⟩) 1 1)).alloc (.cells #[.int .i64 O,.int .i64 P,.int .i64 R,.string S,.slice U W X] 147)).step h);have av:=c.out.size;clear h;obtain⟨⟨c0,c1,c2,c3,c4,c5⟩,k⟩:=c.out.own
     obtain⟨⟨l,m,o,p,q,t⟩,u⟩:=c.out.s))
 obtain⟨ak,f1,al,f3,am,an⟩:=c.out.1.read (.int .i64 8) (.int .i64 0) (.string ⟨#[]⟩) (.slice (some ⟨j.heap.size,0,none⟩) 1 1) (.slice none 0 0) (.slice none 0 0);refine bodyPost_ret (v:=.agg #[.int .i64 8,.int .i64 0,.string ⟨#[]⟩,.slice (some ⟨j.heap.size,0,none⟩) 1 1,.slice none 0 0,.slice none 0 0]) (by simp[results,Tryz.results103,go_sem,ak,f1,al,f3,am,an]) rfl ?_;refine c.out.fin (by rw[jV,jD];rfl) ?_;refine qY (qY (P1:=fun _=>True) (P2:=_) (Q:=fun a=>∃e,a=St.mk 8 0 bE [e] [] []/\jA (w.heap.size+2) _ [e] _) trivial Z.out A.out (fun _ e _ G=>⟨e,rfl,G⟩)) (yf M.out) M.out fun a _ y _=>?_
 obtain⟨e,rfl,G⟩:=y;exact⟨_,_,_,rfl,jA.keep G (ab.out.trans (zK.nest6 I7 _ _ _ _ _ _)) I7,qT _ _,qT _ _⟩
theorem pstmt_print{b:Nat}{V:Value}{all r:List Tok}{w:World}{n:Nat}{d:Int}(C:zW b V all r false false w)(ai:0<=d/\d<=100)(K:ze sInt r=false)(F:ze kZ r=false)(J:ze sIf r=false)(O:ze y9 r=false)(G:ze ui r=false)(H:ze sCont r=false)(N:ze sRet r=false)(M:ze sPrint r=true)(A:zG (pS (n+1) d r)):
 Calls Tryz.prog 103 #[.pointer (some ⟨b,0,none⟩),.int .i64 d] w (qM b V all w (pS (n+1) d r) (uP w.heap.size)):=by
 obtain⟨al,am⟩:=ai;have c:=hid (km.start (x:=.ok () r) C);have ak:=C.lt;have an:¬100<d:=I7
 have R:pS (n+1) d r=qn (qn (PR.ok () r.tail) (fun r=>pI n r) fun _ e=>St.mk 9 0 bE [e] [] []) (fun r=>zN [59] r) fun a _=>a:=by rw[pS,if_neg I7,if_neg (by rw[K,F];decide),if_neg (by rw[J];decide),if_neg (by rw[O];decide),if_neg (by rw[G];decide),if_neg (by rw[H];decide),if_neg (by rw[N];decide),if_pos M];rfl
 rw[R]at A ⊢;have U:=hid (show zS (⟨#[105,110,116]⟩:ByteArray).data.toList (PR.ok () r)=false from K);have W:=hid (show zS (⟨#[98,111,111,108]⟩:ByteArray).data.toList (PR.ok () r)=false from F);have X:=hid (show zS (⟨#[105,102]⟩:ByteArray).data.toList (PR.ok () r)=false from J);have Y:=hid (show zS (⟨#[119,104,105,108,101]⟩:ByteArray).data.toList (PR.ok () r)=false from O);have Z:=hid (show zS (⟨#[98,114,101,97,107]⟩:ByteArray).data.toList (PR.ok () r)=false from G);have aa:=hid (show zS (⟨#[99,111,110,116,105,110,117,101]⟩:ByteArray).data.toList (PR.ok () r)=false from H);have ab:=hid (show zS (⟨#[114,101,116,117,114,110]⟩:ByteArray).data.toList (PR.ok () r)=false from N);have ad:=hid (show zS (⟨#[112,114,105,110,116]⟩:ByteArray).data.toList (PR.ok () r)=true from M);have P:=hid (qF A);have B:=hid (show zG ((PR.ok () r.tail).bind fun _ r=>pI n r)from qF (zx A));clear C A R K F J O G H N M;go_enter Tryz.func103,Tryz.ntmps103
 go_wp2_with (first
  | (go_at_call 81;(with_reducible refine(jB c.out.st _ false U.out).mono ?_);rintro e i ⟨rfl,h⟩;replace c:=hid (c.out.step h);clear h)
  | (go_at_call 81;(with_reducible refine(jB c.out.st _ false W.out).mono ?_);rintro e i ⟨rfl,h⟩;replace c:=hid (c.out.step h);clear h)
  | (go_at_call 56;(with_reducible refine(zD c.out.st _ X.out).mono ?_);rintro e i ⟨rfl,h⟩
     replace c:=hid (c.out.step h);clear h;obtain⟨⟨c0,c1,c2,c3,c4,c5⟩,j⟩:=c.out.own
     obtain⟨⟨k,l,m,o,p,q⟩,t⟩:=c.out.s)
  | (go_at_call 56;(with_reducible refine(zD c.out.st _ Y.out).mono ?_);rintro e i ⟨rfl,h⟩
     replace c:=hid (c.out.step h);clear h;obtain⟨⟨c0,c1,c2,c3,c4,c5⟩,j⟩:=c.out.own
     obtain⟨⟨k,l,m,o,p,q⟩,t⟩:=c.out.s)
  | (go_at_call 56;(with_reducible refine(zD c.out.st _ Z.out).mono ?_);rintro e i ⟨rfl,h⟩
     replace c:=hid (c.out.step h);clear h;obtain⟨⟨c0,c1,c2,c3,c4,c5⟩,j⟩:=c.out.own
     obtain⟨⟨k,l,m,o,p,q⟩,t⟩:=c.out.s)
  | (go_at_call 56;(with_reducible refine(zD c.out.st _ aa.out).mono ?_);rintro e i ⟨rfl,h⟩
     replace c:=hid (c.out.step h);clear h;obtain⟨⟨c0,c1,c2,c3,c4,c5⟩,j⟩:=c.out.own
     obtain⟨⟨k,l,m,o,p,q⟩,t⟩:=c.out.s)
  | (go_at_call 56;(with_reducible refine(zD c.out.st _ ab.out).mono ?_);rintro e i ⟨rfl,h⟩
     replace c:=hid (c.out.step h);clear h;obtain⟨⟨c0,c1,c2,c3,c4,c5⟩,j⟩:=c.out.own
     obtain⟨⟨k,l,m,o,p,q⟩,t⟩:=c.out.s)
  | (go_at_call 56;(with_reducible refine(zi c.out.st _ ad.out).mono ?_);rintro e i ⟨rfl,h⟩
     replace c:=hid (show km b V all w (.ok () r.tail) i _ _ _ _ _ _ from c.out.step h);clear h;obtain⟨⟨c0,c1,c2,c3,c4,c5⟩,j⟩:=c.out.own
     obtain⟨⟨k,l,m,o,p,q⟩,t⟩:=c.out.s)
  | (go_at_call 127;(with_reducible refine(uB c.out.st B.out).mono ?_);rintro e aj ⟨v,rfl,h,D⟩
     obtain⟨u,y,z,rfl⟩:=one_form D B.out;have S:=hid (show qy _ fun a=>jA (w.heap.size+2) aj [a] (.slice u y z)from D.imp fun a E=>jA.keep E (zK.refl _ _) Ij);replace c:=hid (c.out.step h);clear h D;obtain⟨⟨c0,c1,c2,c3,c4,c5⟩,j⟩:=c.out.own
     obtain⟨⟨k,l,m,o,p,q⟩,t⟩:=c.out.s)
  | (go_at_call 58;(with_reducible refine(zY ((c.out.set0 (.int .i64 9)).set3 (.slice u y z)).st ⟨#[59]⟩).mono ?_);rintro e w9 ⟨rfl,h⟩
     have T:=hid (((zK.set (L:=w.heap.size+2) (g:=w.heap.size+1) I7 0 (.int .i64 9)).trans (zK.set (g:=w.heap.size+1) I7 3 (.slice u y z))).trans (zK.did h I7));replace c:=hid (((c.out.set0 (.int .i64 9)).set3 (.slice u y z)).step h);have ao:=c.out.size;clear h;obtain⟨⟨c0,c1,c2,c3,c4,c5⟩,j⟩:=c.out.own
     obtain⟨⟨k,l,m,o,p,q⟩,t⟩:=c.out.s))
 obtain⟨ae,f1,af,f3,ag,ah⟩:=c.out.1.read (.int .i64 9) (.int .i64 0) (.string ⟨#[]⟩) (.slice u y z) (.slice none 0 0) (.slice none 0 0);refine bodyPost_ret (v:=.agg #[.int .i64 9,.int .i64 0,.string ⟨#[]⟩,.slice u y z,.slice none 0 0,.slice none 0 0]) (by simp[results,Tryz.results103,go_sem,ae,f1,af,f3,ag,ah]) rfl ?_;refine c.out.fin (by rw[jV,jD];rfl) ?_;refine qY (qY (P1:=fun _=>True) (P2:=_) (Q:=fun a=>∃e,a=St.mk 9 0 bE [e] [] []/\jA (w.heap.size+2) _ [e] _) trivial S.out B.out (fun _ e _ I=>⟨e,rfl,I⟩)) (yf P.out) P.out fun a _ E _=>?_
 obtain⟨e,rfl,I⟩:=E;exact⟨_,_,_,rfl,jA.keep I (T.out.trans (zK.nest6 I7 _ _ _ _ _ _)) I7,qT _ _,qT _ _⟩
theorem stmt_name{b:Nat}{V:Value}{all r:List Tok}{w:World}{n:Nat}{d:Int}(J:zW b V all r false false w)(ao:0<=d/\d<=100)(R:ze sInt r=false)(N:ze kZ r=false)(Q:ze sIf r=false)(U:ze y9 r=false)(O:ze ui r=false)(P:ze sCont r=false)(T:ze sRet r=false)(S:ze sPrint r=false)(I:zG (pS (n+1) d r)):
 Calls Tryz.prog 103 #[.pointer (some ⟨b,0,none⟩),.int .i64 d] w (qM b V all w (pS (n+1) d r) (uP w.heap.size)):=by
 obtain⟨ar,au⟩:=ao;have c:=hid (km.start (x:=.ok () r) J);have aq:=J.lt;have av:¬100<d:=I7
 have Y:pS (n+1) d r=qn ((PR.ok () r).bind fun _ r=>pNm n r) (fun r=>zN [59] r) fun a _=>a:=by rw[pS,if_neg I7,if_neg (by rw[R,N];decide),if_neg (by rw[Q];decide),if_neg (by rw[U];decide),if_neg (by rw[O];decide),if_neg (by rw[P];decide),if_neg (by rw[T];decide),if_neg (by rw[S];decide)];rfl
 rw[Y]at I ⊢;have ab:=hid (show zS (⟨#[105,110,116]⟩:ByteArray).data.toList (PR.ok () r)=false from R);have ad:=hid (show zS (⟨#[98,111,111,108]⟩:ByteArray).data.toList (PR.ok () r)=false from N);have ae:=hid (show zS (⟨#[105,102]⟩:ByteArray).data.toList (PR.ok () r)=false from Q);have af:=hid (show zS (⟨#[119,104,105,108,101]⟩:ByteArray).data.toList (PR.ok () r)=false from U);have ag:=hid (show zS (⟨#[98,114,101,97,107]⟩:ByteArray).data.toList (PR.ok () r)=false from O);have ah:=hid (show zS (⟨#[99,111,110,116,105,110,117,101]⟩:ByteArray).data.toList (PR.ok () r)=false from P);have ai:=hid (show zS (⟨#[114,101,116,117,114,110]⟩:ByteArray).data.toList (PR.ok () r)=false from T);have aj:=hid (show zS (⟨#[112,114,105,110,116]⟩:ByteArray).data.toList (PR.ok () r)=false from S);have W:=hid (qF I);have X:=hid (show zG ((PR.ok () r).bind fun _ r=>pNm n r)from zx I);clear J I Y R N Q U O P T S;go_enter Tryz.func103,Tryz.ntmps103
 go_wp2_with (first
  | (go_at_call 81;(with_reducible refine(jB c.out.st _ false ab.out).mono ?_);rintro e t ⟨rfl,h⟩;replace c:=hid (c.out.step h);clear h)
  | (go_at_call 81;(with_reducible refine(jB c.out.st _ false ad.out).mono ?_);rintro e t ⟨rfl,h⟩;replace c:=hid (c.out.step h);clear h)
  | (go_at_call 56;(with_reducible refine(zD c.out.st _ ae.out).mono ?_);rintro e t ⟨rfl,h⟩
     replace c:=hid (c.out.step h);clear h;obtain⟨⟨c0,c1,c2,c3,c4,c5⟩,i⟩:=c.out.own
     obtain⟨⟨j,k,l,m,o,p⟩,q⟩:=c.out.s)
  | (go_at_call 56;(with_reducible refine(zD c.out.st _ af.out).mono ?_);rintro e t ⟨rfl,h⟩
     replace c:=hid (c.out.step h);clear h;obtain⟨⟨c0,c1,c2,c3,c4,c5⟩,i⟩:=c.out.own
     obtain⟨⟨j,k,l,m,o,p⟩,q⟩:=c.out.s)
  | (go_at_call 56;(with_reducible refine(zD c.out.st _ ag.out).mono ?_);rintro e t ⟨rfl,h⟩
     replace c:=hid (c.out.step h);clear h;obtain⟨⟨c0,c1,c2,c3,c4,c5⟩,i⟩:=c.out.own
     obtain⟨⟨j,k,l,m,o,p⟩,q⟩:=c.out.s)
  | (go_at_call 56;(with_reducible refine(zD c.out.st _ ah.out).mono ?_);rintro e t ⟨rfl,h⟩
     replace c:=hid (c.out.step h);clear h;obtain⟨⟨c0,c1,c2,c3,c4,c5⟩,i⟩:=c.out.own
     obtain⟨⟨j,k,l,m,o,p⟩,q⟩:=c.out.s)
  | (go_at_call 56;(with_reducible refine(zD c.out.st _ ai.out).mono ?_);rintro e t ⟨rfl,h⟩
     replace c:=hid (c.out.step h);clear h;obtain⟨⟨c0,c1,c2,c3,c4,c5⟩,i⟩:=c.out.own
     obtain⟨⟨j,k,l,m,o,p⟩,q⟩:=c.out.s)
  | (go_at_call 56;(with_reducible refine(zD c.out.st _ aj.out).mono ?_);rintro e t ⟨rfl,h⟩
     replace c:=hid (c.out.step h);clear h;obtain⟨⟨c0,c1,c2,c3,c4,c5⟩,i⟩:=c.out.own
     obtain⟨⟨j,k,l,m,o,p⟩,q⟩:=c.out.s)
  | (go_at_call 128;(with_reducible refine(named_any c.out.st X.out).mono ?_);rintro e ap ⟨v,rfl,h,K⟩
     obtain⟨A,B,C,u,D,G,y,E,q4,z,F,H,rfl⟩:=gots_form K X.out;have Z:=hid (show qy _ fun a=>uP (w.heap.size+2) ap a _ from K.imp fun a M=>uP.keep M (zK.refl _ _) Ij);replace c:=hid (c.out.step h);clear h K;obtain⟨⟨c0,c1,c2,c3,c4,c5⟩,i⟩:=c.out.own
     obtain⟨⟨j,k,l,m,o,p⟩,q⟩:=c.out.s)
  | (go_at_call 58;(with_reducible refine(zY ((((((c.out.set0 (.int .i64 A)).set1 (.int .i64 B)).set2 (.string C)).set3 (.slice u D G)).set4 (.slice y E q4)).set5 (.slice z F H)).st ⟨#[59]⟩).mono ?_);rintro e w9 ⟨rfl,h⟩
     have aa:=hid ((zK.nest6 (L:=w.heap.size+2) (g:=w.heap.size+1) I7 (.int .i64 A) (.int .i64 B) (.string C) (.slice u D G) (.slice y E q4) (.slice z F H)).trans (zK.did h I7));replace c:=hid (((((((c.out.set0 (.int .i64 A)).set1 (.int .i64 B)).set2 (.string C)).set3 (.slice u D G)).set4 (.slice y E q4)).set5 (.slice z F H)).step h);have aw:=c.out.size;clear h;obtain⟨⟨c0,c1,c2,c3,c4,c5⟩,i⟩:=c.out.own
     obtain⟨⟨j,k,l,m,o,p⟩,q⟩:=c.out.s))
 obtain⟨ak,f1,al,f3,am,an⟩:=c.out.1.read (.int .i64 A) (.int .i64 B) (.string C) (.slice u D G) (.slice y E q4) (.slice z F H);refine bodyPost_ret (v:=.agg #[.int .i64 A,.int .i64 B,.string C,.slice u D G,.slice y E q4,.slice z F H]) (by simp[results,Tryz.results103,go_sem,ak,f1,al,f3,am,an]) rfl ?_;refine c.out.fin (jV _ _ _) ?_;exact qY Z.out (yf W.out) W.out fun a _ M _=>uP.keep M (aa.out.trans (zK.nest6 I7 _ _ _ _ _ _)) I7
theorem stmt_int{b:Nat}{V:Value}{all r:List Tok}{w:World}{n:Nat}{d:Int}(m:zW b V all r false false w)(am:0<=d/\d<=100)(G:ze sInt r=true)(l:zG (pS (n+1) d r)):
 Calls Tryz.prog 103 #[.pointer (some ⟨b,0,none⟩),.int .i64 d] w (qM b V all w (pS (n+1) d r) (uP w.heap.size)):=by
 obtain⟨aq,ar⟩:=am;have c:=hid (km.start (x:=.ok () r) m);have ap:=m.lt;have au:¬100<d:=I7
 have J:pS (n+1) d r=qn (qn (qn ((PR.ok () r).bind fun _ r=>pTy r) (fun r=>want 1 r) fun t s=>(t,s)) (fun r=>(zN [61] r).bind fun _ r=>pE n 1 1 r) fun p e=>St.mk 1 p.1 p.2 [e] [] []) (fun r=>zN [59] r) fun a _=>a:=by
  rw[pS,if_neg I7,if_pos (.inl G)];unfold ya qn;simp only[zV,bind_ok']
 rw[J]at l ⊢;have ag:=hid (show zS (⟨#[105,110,116]⟩:ByteArray).data.toList (PR.ok () r)=true from G);have H:=hid (qF l);have q:=qF (zx l);have ae:=hid q;have K:=zx (zx (zx l));have ad:=hid K;have af:=hid (qF (zx (zx l)));rw[jD,<-zV]at q;have I:=hid q;clear m l J q K G;have W:=hid (yQ (b:=b) (V:=V) (all:=all) (n:=n) (d:=1) I8 I8);go_enter Tryz.func103,Tryz.ntmps103
 go_wp2_with (first
  | (go_at_call 81;(with_reducible refine(jB c.out.st _ true ag.out).mono ?_);rintro e ax ⟨rfl,h⟩;replace c:=hid (c.out.step h);clear h)
  | (go_at_call 54;(with_reducible refine(vP c.out.st).mono ?_);rintro e ay ⟨v,rfl,h,i⟩
     obtain⟨t,rfl⟩:=int_form i ad.out;have aa:=hid (show qy _ fun a=>a=t from i.imp fun a j=>U6);replace c:=hid (c.out.step h);clear h i;obtain⟨⟨c0,c1,c2,c3,c4,c5⟩,o⟩:=c.out.own
     obtain⟨⟨u,y,z,A,B,C⟩,D⟩:=c.out.s)
  | (go_at_call 55;(with_reducible refine(xo ((c.out.set0 (.int .i64 1)).set1 (.int .i64 t)).st 1 I8).mono ?_);rintro e az ⟨s,rfl,h,i⟩
     have Z:=hid i;replace c:=hid (((c.out.set0 (.int .i64 1)).set1 (.int .i64 t)).step h);clear h i;obtain⟨⟨c0,c1,c2,c3,c4,c5⟩,o⟩:=c.out.own
     obtain⟨⟨u,y,z,A,B,C⟩,D⟩:=c.out.s)
  | (go_at_call 58;(with_reducible refine(zY (c.out.set2 (.string s)).st ⟨#[61]⟩).mono ?_);rintro e ao ⟨rfl,h⟩
     replace c:=hid (show km b V all w ((((PR.ok () r).bind fun _ r=>pTy r).un.bind fun _ r=>want 1 r).un.bind fun _ r=>zN [61] r) ao _ _ _ _ _ _ from(c.out.set2 (.string s)).step h);clear h;obtain⟨⟨c0,c1,c2,c3,c4,c5⟩,o⟩:=c.out.own
     obtain⟨⟨u,y,z,A,B,C⟩,D⟩:=c.out.s)
  | (go_at_call 126;(with_reducible refine(W.out.call c.out.st I.out).mono ?_);rintro e k ⟨v,rfl,h,i⟩
     obtain⟨M,N,O,P,R,S,U,rfl⟩:=qX i I.out;have Y:=hid (show qy _ fun a=>jx (w.heap.size+2) k a _ from i.imp fun a j=>jx.keep j (zK.refl _ _) Ij);replace c:=hid (c.out.step h);have aw:=c.out.size;clear h i;obtain⟨⟨c0,c1,c2,c3,c4,c5⟩,o⟩:=c.out.own
     obtain⟨⟨u,y,z,A,B,C⟩,D⟩:=c.out.s)
  | (go_at_call 58;(with_reducible refine(zY ((c.out.set3 (.slice (some ⟨k.heap.size,0,none⟩) 1 1)).alloc (.cells #[.int .i64 M,.int .i64 N,.int .i64 O,.string P,.slice R S U] 147)).st ⟨#[59]⟩).mono ?_);rintro e w9 ⟨rfl,h⟩
     have X:=hid (show qy _ fun a=>jA (w.heap.size+2) _ [a] _ from Y.out.imp fun a j=>vG (T:=147) (jx.keep j (zK.set (g:=w.heap.size+1) I7 3 (.slice (some ⟨k.heap.size,0,none⟩) 1 1)) Zr) Zr I9 (g:=k.heap.size) Ia);have ab:=hid (zK.did (L:=w.heap.size+2) h I7);replace c:=hid (((c.out.set3 (.slice (some ⟨k.heap.size,0,none⟩) 1 1)).alloc (.cells #[.int .i64 M,.int .i64 N,.int .i64 O,.string P,.slice R S U] 147)).step h);have av:=c.out.size;clear h;obtain⟨⟨c0,c1,c2,c3,c4,c5⟩,o⟩:=c.out.own
     obtain⟨⟨u,y,z,A,B,C⟩,D⟩:=c.out.s))
 obtain⟨ah,f1,ai,f3,aj,ak⟩:=c.out.1.read (.int .i64 1) (.int .i64 t) (.string s) (.slice (some ⟨k.heap.size,0,none⟩) 1 1) (.slice none 0 0) (.slice none 0 0);refine bodyPost_ret (v:=.agg #[.int .i64 1,.int .i64 t,.string s,.slice (some ⟨k.heap.size,0,none⟩) 1 1,.slice none 0 0,.slice none 0 0]) (by simp[results,Tryz.results103,go_sem,ah,f1,ai,f3,aj,ak]) rfl ?_;refine c.out.fin (by rw[jV,jD,jD,<-zV]) ?_;have hF:=X.out;rw[zV,<-jD (F:=fun(a:Int) (s:ByteArray)=>(a,s))]at hF;refine qY (qY (Q:=fun a=>∃e,a=St.mk 1 t s [e] [] []/\jA (w.heap.size+2) _ [e] _) (qY (Q:=fun p=>p=(t,s)) aa.out Z.out af.out (fun a b j al=>by rw[j,al])) hF ae.out (fun p e an E=>⟨e,by rw[an],E⟩)) (yf H.out) H.out fun a _ j _=>?_
 obtain⟨e,rfl,E⟩:=j;exact⟨_,_,_,rfl,jA.keep E (ab.out.trans (zK.nest6 I7 _ _ _ _ _ _)) I7,qT _ _,qT _ _⟩
theorem stmt_bool{b:Nat}{V:Value}{all r:List Tok}{w:World}{n:Nat}{d:Int}(m:zW b V all r false false w)(ao:0<=d/\d<=100)(M:ze sInt r=false)(E:ze kZ r=true)(l:zG (pS (n+1) d r)):
 Calls Tryz.prog 103 #[.pointer (some ⟨b,0,none⟩),.int .i64 d] w (qM b V all w (pS (n+1) d r) (uP w.heap.size)):=by
 obtain⟨av,aw⟩:=ao;have c:=hid (km.start (x:=.ok () r) m);have au:=m.lt;have ax:¬100<d:=I7
 have J:pS (n+1) d r=qn (qn (qn ((PR.ok () r).bind fun _ r=>pTy r) (fun r=>want 1 r) fun t s=>(t,s)) (fun r=>(zN [61] r).bind fun _ r=>pE n 1 1 r) fun p e=>St.mk 1 p.1 p.2 [e] [] []) (fun r=>zN [59] r) fun a _=>a:=by
  rw[pS,if_neg I7,if_pos (.inr E)];unfold ya qn;simp only[zV,bind_ok']
 rw[J]at l ⊢;have ah:=hid (show zS (⟨#[105,110,116]⟩:ByteArray).data.toList (PR.ok () r)=false from M);have ai:=hid (show zS (⟨#[98,111,111,108]⟩:ByteArray).data.toList (PR.ok () r)=true from E);have H:=hid (qF l);have q:=qF (zx l);have af:=hid q;have K:=zx (zx (zx l));have ae:=hid K;have ag:=hid (qF (zx (zx l)));rw[jD,<-zV]at q;have I:=hid q;clear m l J q K M E;have X:=hid (yQ (b:=b) (V:=V) (all:=all) (n:=n) (d:=1) I8 I8);go_enter Tryz.func103,Tryz.ntmps103
 go_wp2_with (first
  | (go_at_call 81;(with_reducible refine(jB c.out.st _ false ah.out).mono ?_);rintro e aq ⟨rfl,h⟩;replace c:=hid (c.out.step h);clear h)
  | (go_at_call 81;(with_reducible refine(jB c.out.st _ true ai.out).mono ?_);rintro e aq ⟨rfl,h⟩;replace c:=hid (c.out.step h);clear h)
  | (go_at_call 54;(with_reducible refine(vP c.out.st).mono ?_);rintro e aA ⟨v,rfl,h,i⟩
     obtain⟨t,rfl⟩:=int_form i ae.out;have ab:=hid (show qy _ fun a=>a=t from i.imp fun a j=>U6);replace c:=hid (c.out.step h);clear h i;obtain⟨⟨c0,c1,c2,c3,c4,c5⟩,o⟩:=c.out.own
     obtain⟨⟨u,y,z,A,B,C⟩,D⟩:=c.out.s)
  | (go_at_call 55;(with_reducible refine(xo ((c.out.set0 (.int .i64 1)).set1 (.int .i64 t)).st 1 I8).mono ?_);rintro e aB ⟨s,rfl,h,i⟩
     have aa:=hid i;replace c:=hid (((c.out.set0 (.int .i64 1)).set1 (.int .i64 t)).step h);clear h i;obtain⟨⟨c0,c1,c2,c3,c4,c5⟩,o⟩:=c.out.own
     obtain⟨⟨u,y,z,A,B,C⟩,D⟩:=c.out.s)
  | (go_at_call 58;(with_reducible refine(zY (c.out.set2 (.string s)).st ⟨#[61]⟩).mono ?_);rintro e ar ⟨rfl,h⟩
     replace c:=hid (show km b V all w ((((PR.ok () r).bind fun _ r=>pTy r).un.bind fun _ r=>want 1 r).un.bind fun _ r=>zN [61] r) ar _ _ _ _ _ _ from(c.out.set2 (.string s)).step h);clear h;obtain⟨⟨c0,c1,c2,c3,c4,c5⟩,o⟩:=c.out.own
     obtain⟨⟨u,y,z,A,B,C⟩,D⟩:=c.out.s)
  | (go_at_call 126;(with_reducible refine(X.out.call c.out.st I.out).mono ?_);rintro e k ⟨v,rfl,h,i⟩
     obtain⟨N,O,P,R,S,U,W,rfl⟩:=qX i I.out;have Z:=hid (show qy _ fun a=>jx (w.heap.size+2) k a _ from i.imp fun a j=>jx.keep j (zK.refl _ _) Ij);replace c:=hid (c.out.step h);have az:=c.out.size;clear h i;obtain⟨⟨c0,c1,c2,c3,c4,c5⟩,o⟩:=c.out.own
     obtain⟨⟨u,y,z,A,B,C⟩,D⟩:=c.out.s)
  | (go_at_call 58;(with_reducible refine(zY ((c.out.set3 (.slice (some ⟨k.heap.size,0,none⟩) 1 1)).alloc (.cells #[.int .i64 N,.int .i64 O,.int .i64 P,.string R,.slice S U W] 147)).st ⟨#[59]⟩).mono ?_);rintro e w9 ⟨rfl,h⟩
     have Y:=hid (show qy _ fun a=>jA (w.heap.size+2) _ [a] _ from Z.out.imp fun a j=>vG (T:=147) (jx.keep j (zK.set (g:=w.heap.size+1) I7 3 (.slice (some ⟨k.heap.size,0,none⟩) 1 1)) Zr) Zr I9 (g:=k.heap.size) Ia);have ad:=hid (zK.did (L:=w.heap.size+2) h I7);replace c:=hid (((c.out.set3 (.slice (some ⟨k.heap.size,0,none⟩) 1 1)).alloc (.cells #[.int .i64 N,.int .i64 O,.int .i64 P,.string R,.slice S U W] 147)).step h);have ay:=c.out.size;clear h;obtain⟨⟨c0,c1,c2,c3,c4,c5⟩,o⟩:=c.out.own
     obtain⟨⟨u,y,z,A,B,C⟩,D⟩:=c.out.s))
 obtain⟨aj,f1,ak,f3,al,am⟩:=c.out.1.read (.int .i64 1) (.int .i64 t) (.string s) (.slice (some ⟨k.heap.size,0,none⟩) 1 1) (.slice none 0 0) (.slice none 0 0);refine bodyPost_ret (v:=.agg #[.int .i64 1,.int .i64 t,.string s,.slice (some ⟨k.heap.size,0,none⟩) 1 1,.slice none 0 0,.slice none 0 0]) (by simp[results,Tryz.results103,go_sem,aj,f1,ak,f3,al,am]) rfl ?_;refine c.out.fin (by rw[jV,jD,jD,<-zV]) ?_;have hF:=Y.out;rw[zV,<-jD (F:=fun(a:Int) (s:ByteArray)=>(a,s))]at hF;refine qY (qY (Q:=fun a=>∃e,a=St.mk 1 t s [e] [] []/\jA (w.heap.size+2) _ [e] _) (qY (Q:=fun p=>p=(t,s)) ab.out aa.out ag.out (fun a b j an=>by rw[j,an])) hF af.out (fun p e ap G=>⟨e,by rw[ap],G⟩)) (yf H.out) H.out fun a _ j _=>?_
 obtain⟨e,rfl,G⟩:=j;exact⟨_,_,_,rfl,jA.keep G (ad.out.trans (zK.nest6 I7 _ _ _ _ _ _)) I7,qT _ _,qT _ _⟩
theorem pstmt_while{b:Nat}{V:Value}{all r:List Tok}{w:World}{n:Nat}{d:Int}(Q:CB b V all n (d+1))(z:zW b V all r false false w)(ah:0<=d/\d<=100)(D:ze sInt r=false)(B:ze kZ r=false)(C:ze sIf r=false)(E:ze y9 r=true)(p:zG (pS (n+1) d r)):
 Calls Tryz.prog 103 #[.pointer (some ⟨b,0,none⟩),.int .i64 d] w (qM b V all w (pS (n+1) d r) (uP w.heap.size)):=by
 obtain⟨am,an⟩:=ah;have c:=hid (km.start (x:=.ok () r) z);have al:=z.lt;have ao:¬100<d:=I7
 have P:pS (n+1) d r=qn ((PR.ok () r.tail).bind fun _ r=>pI n r) (fun r=>pB n (d+1) r) fun e t=>St.mk 5 0 bE [e] t []:=by rw[pS,if_neg I7,if_neg (by rw[D,B];decide),if_neg (by rw[C];decide),if_pos E];rfl
 rw[P]at p ⊢;have Y:=hid (show zS (⟨#[105,110,116]⟩:ByteArray).data.toList (PR.ok () r)=false from D);have Z:=hid (show zS (⟨#[98,111,111,108]⟩:ByteArray).data.toList (PR.ok () r)=false from B);have aa:=hid (show zS (⟨#[105,102]⟩:ByteArray).data.toList (PR.ok () r)=false from C);have ab:=hid (show zS (⟨#[119,104,105,108,101]⟩:ByteArray).data.toList (PR.ok () r)=true from E);have u:=hid (qF p);have O:=hid (zx p);have T:=hid Q;clear z p P Q D B C E;go_enter Tryz.func103,Tryz.ntmps103
 go_wp2_with (first
  | (go_at_call 81;(with_reducible refine(jB c.out.st _ false Y.out).mono ?_);rintro e q ⟨rfl,h⟩;replace c:=hid (c.out.step h);clear h)
  | (go_at_call 81;(with_reducible refine(jB c.out.st _ false Z.out).mono ?_);rintro e q ⟨rfl,h⟩;replace c:=hid (c.out.step h);clear h)
  | (go_at_call 56;(with_reducible refine(zD c.out.st _ aa.out).mono ?_);rintro e q ⟨rfl,h⟩
     replace c:=hid (c.out.step h);clear h;obtain⟨⟨c0,c1,c2,c3,c4,c5⟩,y⟩:=c.out.own
     obtain⟨⟨F,G,H,I,J,K⟩,M⟩:=c.out.s)
  | (go_at_call 56;(with_reducible refine(zi c.out.st _ ab.out).mono ?_);rintro e q ⟨rfl,h⟩
     replace c:=hid (show km b V all w (.ok () r.tail) q _ _ _ _ _ _ from c.out.step h);clear h;obtain⟨⟨c0,c1,c2,c3,c4,c5⟩,y⟩:=c.out.own
     obtain⟨⟨F,G,H,I,J,K⟩,M⟩:=c.out.s)
  | (go_at_call 127;(with_reducible refine(uB c.out.st O.out).mono ?_);rintro e ak ⟨v,rfl,h,i⟩
     obtain⟨j,k,l,rfl⟩:=one_form i O.out;have U:=hid (show qy _ fun a=>jA (w.heap.size+2) ak [a] (.slice j k l)from i.imp fun a A=>jA.keep A (zK.refl _ _) Ij);replace c:=hid (c.out.step h);clear h i;obtain⟨⟨c0,c1,c2,c3,c4,c5⟩,y⟩:=c.out.own
     obtain⟨⟨F,G,H,I,J,K⟩,M⟩:=c.out.s)
  | (go_at_call 82;(with_reducible refine(T.out.call ((c.out.set0 (.int .i64 5)).set3 (.slice j k l)).st u.out).mono ?_);rintro e S ⟨v,rfl,h,i⟩
     obtain⟨m,o,q4,rfl⟩:=kl i u.out;have X:=hid (show qy _ fun a=>ky (w.heap.size+2) S a _ from i.imp fun a A=>ky.keep A (zK.refl _ _) Ij);have W:=hid (((zK.set (L:=w.heap.size+2) (g:=w.heap.size+1) I7 0 (.int .i64 5)).trans (zK.set (g:=w.heap.size+1) I7 3 (.slice j k l))).trans (zK.did h I7));replace c:=hid (((c.out.set0 (.int .i64 5)).set3 (.slice j k l)).step h);clear h i;obtain⟨⟨c0,c1,c2,c3,c4,c5⟩,y⟩:=c.out.own
     obtain⟨⟨F,G,H,I,J,K⟩,M⟩:=c.out.s))
 have N:=hid (c.out.set4 (.slice m o q4));obtain⟨ad,f1,ae,f3,af,ag⟩:=N.out.1.read (.int .i64 5) (.int .i64 0) (.string ⟨#[]⟩) (.slice j k l) (.slice m o q4) (.slice none 0 0);refine bodyPost_ret (v:=.agg #[.int .i64 5,.int .i64 0,.string ⟨#[]⟩,.slice j k l,.slice m o q4,.slice none 0 0]) (by simp[results,Tryz.results103,go_sem,ad,f1,ae,f3,af,ag]) rfl ?_;have R:=(zK.set (L:=w.heap.size+2) (w:=S) (g:=w.heap.size+1) I7 4 (.slice m o q4)).trans (zK.nest6 (g:=w.heap.size) I7 (.int .i64 5) (.int .i64 0) (.string ⟨#[]⟩) (.slice j k l) (.slice m o q4) (.slice none 0 0));refine N.out.fin (jD _ _ _) (qY U.out X.out u.out fun e t ai aj=>?_);exact⟨_,_,_,rfl,jA.keep ai (W.out.trans R) I7,ky.keep aj R I7,qT _ _⟩
theorem if_split{n:Nat}{d:Int}{r:List Tok}:((pI n r.tail).bind fun e r=>(pB n (d+1) r).bind fun t r=>pEl n d e t r)=(qn ((PR.ok () r.tail).bind fun _ r=>pI n r) (fun r=>pB n (d+1) r) fun e t=>(e,t)).bind fun p r=>pEl n d p.1 p.2 r:=by
 unfold qn;simp only[zV,bind_ok']
theorem pstmt_if{b:Nat}{V:Value}{all r:List Tok}{w:World}{n:Nat}{d:Int}(S:CB b V all n (d+1))(B:zW b V all r false false w)(an:0<=d/\d<=100)(G:ze sInt r=false)(D:ze kZ r=false)(E:ze sIf r=true)(u:zS sElse (qn ((PR.ok () r.tail).bind fun _ r=>pI n r) (fun r=>pB n (d+1) r) fun e t=>(e,t))=false)(j:zG (pS (n+1) d r)):
 Calls Tryz.prog 103 #[.pointer (some ⟨b,0,none⟩),.int .i64 d] w (qM b V all w (pS (n+1) d r) (uP w.heap.size)):=by
 obtain⟨au,av⟩:=an;have c:=hid (km.start (x:=.ok () r) B);have ar:=B.lt;have aw:¬100<d:=I7
 have R:pS (n+1) d r=qn ((PR.ok () r.tail).bind fun _ r=>pI n r) (fun r=>pB n (d+1) r) fun e t=>St.mk 4 0 bE [e] t []:=by
  have al:pS (n+1) d r=(qn ((PR.ok () r.tail).bind fun _ r=>pI n r) (fun r=>pB n (d+1) r) fun e t=>(e,t)).bind fun p r=>pEl n d p.1 p.2 r:=by rw[pS,if_neg I7,if_neg (by rw[G,D];decide),if_pos E,if_split]
  rw[al]at j ⊢
  have am:(qn ((PR.ok () r.tail).bind fun _ r=>pI n r) (fun r=>pB n (d+1) r) fun e t=>St.mk 4 0 bE [e] t [])=(qn ((PR.ok () r.tail).bind fun _ r=>pI n r) (fun r=>pB n (d+1) r) fun e t=>(e,t)).bind fun p r=>.ok (St.mk 4 0 bE [p.1] p.2 []) r:=by
   unfold qn;simp only[zV,bind_ok']
  rw[am];cases hx:(qn ((PR.ok () r.tail).bind fun _ r=>pI n r) (fun r=>pB n (d+1) r) fun e t=>(e,t))with
  | ok p y=>
    rw[hx]at j u;cases n with
    | zero=>exact absurd (show zG (pEl 0 d p.1 p.2 y)from j) (by rw[pEl];exact id)
    | succ n=>
      show pEl (n+1) d p.1 p.2 y=.ok _ y;rw[pEl,if_neg (by rw[show ze sElse y=false from u];decide)]
  | _=>rfl
 rw[R]at j ⊢;have ae:=hid (show zS (⟨#[105,110,116]⟩:ByteArray).data.toList (PR.ok () r)=false from G);have af:=hid (show zS (⟨#[98,111,111,108]⟩:ByteArray).data.toList (PR.ok () r)=false from D);have ag:=hid (show zS (⟨#[105,102]⟩:ByteArray).data.toList (PR.ok () r)=true from E);have z:=hid (qF j);have Q:=hid (zx j);have X:=hid S
 have T:zS (⟨#[101,108,115,101]⟩:ByteArray).data.toList (((PR.ok () r.tail).bind fun _ r=>pI n r).un.bind fun _ r=>pB n (d+1) r).un=false:=by
  rw[<-jD (F:=fun e t=>(e,t))];revert u;cases(qn ((PR.ok () r.tail).bind fun _ r=>pI n r) (fun r=>pB n (d+1) r) fun e t=>(e,t)) <;> exact id
 have Y:=hid T;clear B j R S u T G D E;go_enter Tryz.func103,Tryz.ntmps103
 go_wp2_with (first
  | (go_at_call 81;(with_reducible refine(jB c.out.st _ false ae.out).mono ?_);rintro e P ⟨rfl,h⟩;replace c:=hid (c.out.step h);clear h)
  | (go_at_call 81;(with_reducible refine(jB c.out.st _ false af.out).mono ?_);rintro e P ⟨rfl,h⟩;replace c:=hid (c.out.step h);clear h)
  | (go_at_call 56;(with_reducible refine(zi c.out.st _ ag.out).mono ?_);rintro e P ⟨rfl,h⟩
     replace c:=hid (show km b V all w (.ok () r.tail) P _ _ _ _ _ _ from c.out.step h);clear h;obtain⟨⟨c0,c1,c2,c3,c4,c5⟩,A⟩:=c.out.own
     obtain⟨⟨H,I,J,K,M,N⟩,O⟩:=c.out.s)
  | (go_at_call 127;(with_reducible refine(uB c.out.st Q.out).mono ?_);rintro e aq ⟨v,rfl,h,i⟩
     obtain⟨k,l,m,rfl⟩:=one_form i Q.out;have Z:=hid (show qy _ fun a=>jA (w.heap.size+2) aq [a] (.slice k l m)from i.imp fun a C=>jA.keep C (zK.refl _ _) Ij);replace c:=hid (c.out.step h);clear h i;obtain⟨⟨c0,c1,c2,c3,c4,c5⟩,A⟩:=c.out.own
     obtain⟨⟨H,I,J,K,M,N⟩,O⟩:=c.out.s)
  | (go_at_call 82;(with_reducible refine(X.out.call ((c.out.set0 (.int .i64 4)).set3 (.slice k l m)).st z.out).mono ?_);rintro e W ⟨v,rfl,h,i⟩
     obtain⟨o,q,q4,rfl⟩:=kl i z.out;have ad:=hid (show qy _ fun a=>ky (w.heap.size+2) W a _ from i.imp fun a C=>ky.keep C (zK.refl _ _) Ij);have aa:=hid (((zK.set (L:=w.heap.size+2) (g:=w.heap.size+1) I7 0 (.int .i64 4)).trans (zK.set (g:=w.heap.size+1) I7 3 (.slice k l m))).trans (zK.did h I7));replace c:=hid (((c.out.set0 (.int .i64 4)).set3 (.slice k l m)).step h);clear h i;obtain⟨⟨c0,c1,c2,c3,c4,c5⟩,A⟩:=c.out.own
     obtain⟨⟨H,I,J,K,M,N⟩,O⟩:=c.out.s)
  | (go_at_call 56;(with_reducible refine(zD (c.out.set4 (.slice o q q4)).st _ Y.out).mono ?_);rintro e ax ⟨rfl,h⟩
     have ab:=hid ((zK.set (L:=w.heap.size+2) (w:=W) (g:=w.heap.size+1) I7 4 (.slice o q q4)).trans (zK.did h I7));replace c:=hid ((c.out.set4 (.slice o q q4)).step h);clear h;obtain⟨⟨c0,c1,c2,c3,c4,c5⟩,A⟩:=c.out.own
     obtain⟨⟨H,I,J,K,M,N⟩,O⟩:=c.out.s))
 obtain⟨ah,f1,ai,f3,aj,ak⟩:=c.out.1.read (.int .i64 4) (.int .i64 0) (.string ⟨#[]⟩) (.slice k l m) (.slice o q q4) (.slice none 0 0);refine bodyPost_ret (v:=.agg #[.int .i64 4,.int .i64 0,.string ⟨#[]⟩,.slice k l m,.slice o q q4,.slice none 0 0]) (by simp[results,Tryz.results103,go_sem,ah,f1,ai,f3,aj,ak]) rfl ?_;have U:=ab.out.trans (zK.nest6 (g:=w.heap.size) I7 (.int .i64 4) (.int .i64 0) (.string ⟨#[]⟩) (.slice k l m) (.slice o q q4) (.slice none 0 0));refine c.out.fin (jD _ _ _) (qY Z.out ad.out z.out fun e t ao ap=>?_);exact⟨_,_,_,rfl,jA.keep ao (aa.out.trans U) I7,ky.keep ap U I7,qT _ _⟩
theorem stmt_else{b:Nat}{V:Value}{all r:List Tok}{w:World}{n:Nat}{d:Int}{q:Nat}{p:Ex × List St}{j:List Tok}(aL:n=q+1)(ak:CB b V all n (d+1))(al:CB b V all q (d+1))(R:zW b V all r false false w)(aK:0<=d/\d<=100)(Y:ze sInt r=false)(T:ze kZ r=false)(X:ze sIf r=true)(A:(qn ((PR.ok () r.tail).bind fun _ r=>pI n r) (fun r=>pB n (d+1) r) fun e t=>(e,t))=.ok p j)(W:ze sElse j=true)(aa:zG (pS (n+1) d r)):
 Calls Tryz.prog 103 #[.pointer (some ⟨b,0,none⟩),.int .i64 d] w (qM b V all w (pS (n+1) d r) (uP w.heap.size)):=by
 obtain⟨aO,aP⟩:=aK;have c:=hid (km.start (x:=.ok () r) R);have aN:=R.lt;have aQ:¬100<d:=I7
 have ai:pS (n+1) d r=(pB q (d+1) j.tail).bind fun u r=>.ok (St.mk 4 0 bE [p.1] p.2 u) r:=by
  have aJ:pS (n+1) d r=(qn ((PR.ok () r.tail).bind fun _ r=>pI n r) (fun r=>pB n (d+1) r) fun e t=>(e,t)).bind fun p r=>pEl n d p.1 p.2 r:=by rw[pS,if_neg I7,if_neg (by rw[Y,T];decide),if_pos X,if_split]
  rw[aJ,A,aL];show pEl (q+1) d p.1 p.2 j=_;rw[pEl,if_pos W]
 rw[ai]at aa ⊢;have aC:=hid (show zS (⟨#[105,110,116]⟩:ByteArray).data.toList (PR.ok () r)=false from Y);have aD:=hid (show zS (⟨#[98,111,111,108]⟩:ByteArray).data.toList (PR.ok () r)=false from T);have aE:=hid (show zS (⟨#[105,102]⟩:ByteArray).data.toList (PR.ok () r)=true from X);have S:zG (qn ((PR.ok () r.tail).bind fun _ r=>pI n r) (fun r=>pB n (d+1) r) fun e t=>(e,t)):=by rw[A];trivial
 have P:=hid (qF S);have ag:=hid (zx S);have ah:=hid (show zG ((PR.ok () j.tail).bind fun _ r=>pB q (d+1) r)from zu aa);have ar:=hid ak;have au:=hid al;have aq:=hid A;have aw:=hid (show(((PR.ok () r.tail).bind fun _ r=>pI n r).un.bind fun _ r=>pB n (d+1) r).un=.ok () j by rw[<-jD (F:=fun e t=>(e,t)),A];rfl);have av:=hid (show zS (⟨#[101,108,115,101]⟩:ByteArray).data.toList (PR.ok () j)=true from W);clear R aa ai ak al W A S Y T X;go_enter Tryz.func103,Tryz.ntmps103
 go_wp2_with (first
  | (go_at_call 81;(with_reducible refine(jB c.out.st _ false aC.out).mono ?_);rintro e ad ⟨rfl,h⟩;replace c:=hid (c.out.step h);clear h)
  | (go_at_call 81;(with_reducible refine(jB c.out.st _ false aD.out).mono ?_);rintro e ad ⟨rfl,h⟩;replace c:=hid (c.out.step h);clear h)
  | (go_at_call 56;(with_reducible refine(zi c.out.st _ aE.out).mono ?_);rintro e ad ⟨rfl,h⟩
     replace c:=hid (show km b V all w (.ok () r.tail) ad _ _ _ _ _ _ from c.out.step h);clear h;obtain⟨⟨c0,c1,c2,c3,c4,c5⟩,E⟩:=c.out.own
     obtain⟨⟨G,H,I,J,K,M⟩,N⟩:=c.out.s)
  | (go_at_call 127;(with_reducible refine(uB c.out.st ag.out).mono ?_);rintro e ao ⟨v,rfl,h,i⟩
     obtain⟨k,l,m,rfl⟩:=one_form i ag.out;have ax:=hid (show qy _ fun a=>jA (w.heap.size+2) ao [a] (.slice k l m)from i.imp fun a B=>jA.keep B (zK.refl _ _) Ij);replace c:=hid (c.out.step h);clear h i;obtain⟨⟨c0,c1,c2,c3,c4,c5⟩,E⟩:=c.out.own
     obtain⟨⟨G,H,I,J,K,M⟩,N⟩:=c.out.s)
  | (go_at_call 82;(with_reducible refine(ar.out.call ((c.out.set0 (.int .i64 4)).set3 (.slice k l m)).st P.out).mono ?_);rintro e O ⟨v,rfl,h,i⟩
     obtain⟨o,y,q4,rfl⟩:=kl i P.out;have aA:=hid (show qy _ fun a=>ky (w.heap.size+2) O a _ from i.imp fun a B=>ky.keep B (zK.refl _ _) Ij);have ay:=hid (((zK.set (L:=w.heap.size+2) (g:=w.heap.size+1) I7 0 (.int .i64 4)).trans (zK.set (g:=w.heap.size+1) I7 3 (.slice k l m))).trans (zK.did h I7));replace c:=hid (show km b V all w (.ok () j) O _ _ _ _ _ _ by have aj:=((c.out.set0 (.int .i64 4)).set3 (.slice k l m)).step h;rw[aw.out]at aj;exact aj);clear h i;obtain⟨⟨c0,c1,c2,c3,c4,c5⟩,E⟩:=c.out.own
     obtain⟨⟨G,H,I,J,K,M⟩,N⟩:=c.out.s)
  | (go_at_call 56;(with_reducible refine(zi (c.out.set4 (.slice o y q4)).st _ av.out).mono ?_);rintro e aM ⟨rfl,h⟩
     have az:=hid ((zK.set (L:=w.heap.size+2) (w:=O) (g:=w.heap.size+1) I7 4 (.slice o y q4)).trans (zK.did h I7));replace c:=hid (show km b V all w (.ok () j.tail) aM _ _ _ _ _ _ from(c.out.set4 (.slice o y q4)).step h);clear h;obtain⟨⟨c0,c1,c2,c3,c4,c5⟩,E⟩:=c.out.own
     obtain⟨⟨G,H,I,J,K,M⟩,N⟩:=c.out.s)
  | (go_at_call 82;(with_reducible refine(au.out.call c.out.st ah.out).mono ?_);rintro e ap ⟨v,rfl,h,i⟩
     obtain⟨z,C,D,rfl⟩:=kl i ah.out;have aB:=hid (show qy _ fun a=>ky (w.heap.size+2) ap a _ from i.imp fun a B=>ky.keep B (zK.refl _ _) Ij);have af:=hid (az.out.trans (zK.did h I7));replace c:=hid (c.out.step h);clear h i;obtain⟨⟨c0,c1,c2,c3,c4,c5⟩,E⟩:=c.out.own
     obtain⟨⟨G,H,I,J,K,M⟩,N⟩:=c.out.s))
 have ae:=hid (c.out.set5 (.slice z C D));obtain⟨aF,f1,aG,f3,aH,aI⟩:=ae.out.1.read (.int .i64 4) (.int .i64 0) (.string ⟨#[]⟩) (.slice k l m) (.slice o y q4) (.slice z C D);refine bodyPost_ret (v:=.agg #[.int .i64 4,.int .i64 0,.string ⟨#[]⟩,.slice k l m,.slice o y q4,.slice z C D]) (by simp[results,Tryz.results103,go_sem,aF,f1,aG,f3,aH,aI]) rfl ?_;have Z:=(zK.set (L:=w.heap.size+2) (w:=ap) (g:=w.heap.size+1) I7 5 (.slice z C D)).trans (zK.nest6 (g:=w.heap.size) I7 (.int .i64 4) (.int .i64 0) (.string ⟨#[]⟩) (.slice k l m) (.slice o y q4) (.slice z C D));have am:=qY (F:=fun e t=>(e,t)) (Q:=fun p:Ex × List St=>jA (w.heap.size+2) ao [p.1] (.slice k l m)/\ky (w.heap.size+2) O p.2 (.slice o y q4)) ax.out aA.out P.out fun e t U ab=>⟨U,ab⟩
 rw[aq.out]at am;obtain⟨U,ab⟩:=am;refine ae.out.fin Qo (qy.bind aB.out (fun u r _ an=>?_) fun u an=>⟨St.mk 4 0 bE [p.1] p.2 u,?_⟩)
 all_goals exact⟨_,_,_,rfl,jA.keep U (ay.out.trans (af.out.trans Z)) I7,ky.keep ab (af.out.trans Z) I7,ky.keep an Z I7⟩
theorem km.deepen{b:Nat}{V:Value}{all r:List Tok}{w:World}(a:zW b V all r false false w):km b V all w (.deep r) (((w.setCell ⟨b,3,none⟩ (.bool true)).alloc vU).alloc vU) (.int .i64 0) (.int .i64 0) (.string ⟨#[]⟩) (.slice none 0 0) (.slice none 0 0) (.slice none 0 0):=by
 have c:qd b V all w (.deep r) (w.setCell ⟨b,3,none⟩ (.bool true)):=⟨a.deepen,(OffB.refl b _ _).setb a.lt 3 _⟩
 refine⟨⟨(c.alloc _).alloc _,?_,a.2.1,a.lt⟩,?_⟩
 .refine qE ?_ _
  have:=heap_alloc_new (w.setCell ⟨b,3,none⟩ (.bool true)) vU;rw[kL]at this;exact this
 .have:=heap_alloc_new ((w.setCell ⟨b,3,none⟩ (.bool true)).alloc vU) vU
  rw[zA,kL]at this;exact this
theorem stmt_deep{b:Nat}{V:Value}{all r:List Tok}{w:World}{n:Nat}{d:Int}(z:zW b V all r false false w)(aj:0<=d/\d<=1000)(ae:100<d)(af:zG (pS (n+1) d r)):
 Calls Tryz.prog 103 #[.pointer (some ⟨b,0,none⟩),.int .i64 d] w (qM b V all w (pS (n+1) d r) (uP w.heap.size)):=by
 have M:pS (n+1) d r=.deep r:=by rw[pS,if_pos ae]
 rw[M];have f3:=z.1.frozen 3;obtain⟨_,_,ag,ah⟩:=z.cells;have ai:=z.lt;have c:=hid (km.deepen z);clear z af M;have Q:=hid (show zS (⟨#[105,110,116]⟩:ByteArray).data.toList (PR.deep r:PR Unit)=false from rfl);have R:=hid (show zS (⟨#[98,111,111,108]⟩:ByteArray).data.toList (PR.deep r:PR Unit)=false from rfl);have S:=hid (show zS (⟨#[105,102]⟩:ByteArray).data.toList (PR.deep r:PR Unit)=false from rfl);have T:=hid (show zS (⟨#[119,104,105,108,101]⟩:ByteArray).data.toList (PR.deep r:PR Unit)=false from rfl);have U:=hid (show zS (⟨#[98,114,101,97,107]⟩:ByteArray).data.toList (PR.deep r:PR Unit)=false from rfl);have W:=hid (show zS (⟨#[99,111,110,116,105,110,117,101]⟩:ByteArray).data.toList (PR.deep r:PR Unit)=false from rfl);have X:=hid (show zS (⟨#[114,101,116,117,114,110]⟩:ByteArray).data.toList (PR.deep r:PR Unit)=false from rfl);have Y:=hid (show zS (⟨#[112,114,105,110,116]⟩:ByteArray).data.toList (PR.deep r:PR Unit)=false from rfl);have K:=hid (show zG ((PR.deep r:PR Unit).bind fun _ r=>pNm 0 r)from trivial);go_enter Tryz.func103,Tryz.ntmps103
 go_wp2_with (first
  | (go_at_call 81;(with_reducible refine(jB c.out.st _ false Q.out).mono ?_);rintro e t ⟨rfl,h⟩;replace c:=hid (c.out.step h);clear h)
  | (go_at_call 81;(with_reducible refine(jB c.out.st _ false R.out).mono ?_);rintro e t ⟨rfl,h⟩;replace c:=hid (c.out.step h);clear h)
  | (go_at_call 56;(with_reducible refine(zD c.out.st _ S.out).mono ?_);rintro e t ⟨rfl,h⟩
     replace c:=hid (c.out.step h);clear h;obtain⟨⟨c0,c1,c2,c3,c4,c5⟩,i⟩:=c.out.own
     obtain⟨⟨j,k,l,m,o,p⟩,q⟩:=c.out.s)
  | (go_at_call 56;(with_reducible refine(zD c.out.st _ T.out).mono ?_);rintro e t ⟨rfl,h⟩
     replace c:=hid (c.out.step h);clear h;obtain⟨⟨c0,c1,c2,c3,c4,c5⟩,i⟩:=c.out.own
     obtain⟨⟨j,k,l,m,o,p⟩,q⟩:=c.out.s)
  | (go_at_call 56;(with_reducible refine(zD c.out.st _ U.out).mono ?_);rintro e t ⟨rfl,h⟩
     replace c:=hid (c.out.step h);clear h;obtain⟨⟨c0,c1,c2,c3,c4,c5⟩,i⟩:=c.out.own
     obtain⟨⟨j,k,l,m,o,p⟩,q⟩:=c.out.s)
  | (go_at_call 56;(with_reducible refine(zD c.out.st _ W.out).mono ?_);rintro e t ⟨rfl,h⟩
     replace c:=hid (c.out.step h);clear h;obtain⟨⟨c0,c1,c2,c3,c4,c5⟩,i⟩:=c.out.own
     obtain⟨⟨j,k,l,m,o,p⟩,q⟩:=c.out.s)
  | (go_at_call 56;(with_reducible refine(zD c.out.st _ X.out).mono ?_);rintro e t ⟨rfl,h⟩
     replace c:=hid (c.out.step h);clear h;obtain⟨⟨c0,c1,c2,c3,c4,c5⟩,i⟩:=c.out.own
     obtain⟨⟨j,k,l,m,o,p⟩,q⟩:=c.out.s)
  | (go_at_call 56;(with_reducible refine(zD c.out.st _ Y.out).mono ?_);rintro e t ⟨rfl,h⟩
     replace c:=hid (c.out.step h);clear h;obtain⟨⟨c0,c1,c2,c3,c4,c5⟩,i⟩:=c.out.own
     obtain⟨⟨j,k,l,m,o,p⟩,q⟩:=c.out.s)
  | (go_at_call 128;(with_reducible refine(named_any c.out.st K.out).mono ?_);rintro e N ⟨v,rfl,h,I⟩
     obtain⟨A,B,C,u,D,G,x,E,q4,y,F,H,rfl⟩:=gots_form I K.out;have O:=hid (show ∃a,uP (w.heap.size+2) N a _ by obtain⟨a,J⟩:=I;exact⟨a,uP.keep J (zK.refl _ _) Ij⟩);replace c:=hid (show km b V all w (.deep r) N _ _ _ _ _ _ from c.out.step h);clear h I;obtain⟨⟨c0,c1,c2,c3,c4,c5⟩,i⟩:=c.out.own
     obtain⟨⟨j,k,l,m,o,p⟩,q⟩:=c.out.s)
  | (go_at_call 58;(with_reducible refine(zY ((((((c.out.set0 (.int .i64 A)).set1 (.int .i64 B)).set2 (.string C)).set3 (.slice u D G)).set4 (.slice x E q4)).set5 (.slice y F H)).st ⟨#[59]⟩).mono ?_);rintro e w9 ⟨rfl,h⟩
     have P:=hid ((zK.nest6 (L:=w.heap.size+2) (g:=w.heap.size+1) I7 (.int .i64 A) (.int .i64 B) (.string C) (.slice u D G) (.slice x E q4) (.slice y F H)).trans (zK.did h I7));replace c:=hid (((((((c.out.set0 (.int .i64 A)).set1 (.int .i64 B)).set2 (.string C)).set3 (.slice u D G)).set4 (.slice x E q4)).set5 (.slice y F H)).step h);have ak:=c.out.size;clear h;obtain⟨⟨c0,c1,c2,c3,c4,c5⟩,i⟩:=c.out.own
     obtain⟨⟨j,k,l,m,o,p⟩,q⟩:=c.out.s))
 obtain⟨Z,f1,aa,f3,ab,ad⟩:=c.out.1.read (.int .i64 A) (.int .i64 B) (.string C) (.slice u D G) (.slice x E q4) (.slice y F H);refine bodyPost_ret (v:=.agg #[.int .i64 A,.int .i64 B,.string C,.slice u D G,.slice x E q4,.slice y F H]) (by simp[results,Tryz.results103,go_sem,Z,f1,aa,f3,ab,ad]) rfl ?_;refine c.out.fin rfl ?_;obtain⟨a,J⟩:=O.out;exact⟨a,uP.keep J (P.out.trans (zK.nest6 I7 _ _ _ _ _ _)) I7⟩
theorem pstmt_any{b:Nat}{V:Value}{all r:List Tok}{w:World}{n:Nat}{d:Int}(k:d<=100->∀m,m<=n->CB b V all m (d+1))(c:zW b V all r false false w)(l:0<=d/\d<=1000)(a:zG (pS (n+1) d r)):
 Calls Tryz.prog 103 #[.pointer (some ⟨b,0,none⟩),.int .i64 d] w (qM b V all w (pS (n+1) d r) (uP w.heap.size)):=by
 by_cases j:d<=100
 .have g:0<=d/\d<=100:=⟨l.1,j⟩
  have h:=k j n Zr;cases h0:ze sInt r with
  | true=>exact stmt_int c g h0 a
  | false=>
    cases h1:ze kZ r with
    | true=>exact stmt_bool c g h0 h1 a
    | false=>
      cases h2:ze sIf r with
      | true=>
        cases hA:(qn ((PR.ok () r.tail).bind fun _ r=>pI n r) (fun r=>pB n (d+1) r) fun e t=>(e,t))with
        | ok p i=>
          cases hel:ze sElse i with
          | true=>
            cases n with
            | zero=>
              rw[pS,if_neg I7,if_neg (by rw[h0,h1];decide),if_pos h2,if_split,hA]at a;exact absurd (show zG (pEl 0 d p.1 p.2 i)from a) (by rw[pEl];exact id)
            | succ q=>exact stmt_else rfl h (k j q I7) c g h0 h1 h2 hA hel a
          | false=>exact pstmt_if h c g h0 h1 h2 (by rw[hA];exact hel) a
        | bad i=>exact pstmt_if h c g h0 h1 h2 (by rw[hA];rfl) a
        | deep i=>exact pstmt_if h c g h0 h1 h2 (by rw[hA];rfl) a
        | out=>exact pstmt_if h c g h0 h1 h2 (by rw[hA];rfl) a
      | false=>
        cases h3:ze y9 r with
        | true=>exact pstmt_while h c g h0 h1 h2 h3 a
        | false=>
          cases h4:ze ui r with
          | true=>exact pstmt_break c g h0 h1 h2 h3 h4 a
          | false=>
            cases h5:ze sCont r with
            | true=>exact stmt_continue c g h0 h1 h2 h3 h4 h5 a
            | false=>
              cases h6:ze sRet r with
              | true=>exact pstmt_return c g h0 h1 h2 h3 h4 h5 h6 a
              | false=>
                cases h7:ze sPrint r with
                | true=>exact pstmt_print c g h0 h1 h2 h3 h4 h5 h6 h7 a
                | false=>exact stmt_name c g h0 h1 h2 h3 h4 h5 h6 h7 a
 .exact stmt_deep c l I7 a
end Go.Proofs.YthcmenajdcbnnaaGreatDoor
