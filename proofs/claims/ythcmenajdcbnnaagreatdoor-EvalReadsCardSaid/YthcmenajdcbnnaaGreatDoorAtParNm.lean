import Derived.Test.YthcmenajdcbnnaaGreatDoorAtParArgs
set_option linter.unusedSimpArgs false
set_option linter.unusedVariables false
set_option maxRecDepth 100000
/- The document's parser: statements that begin with a name. -/
namespace Go.Proofs.YthcmenajdcbnnaaGreatDoor
open Lib (hid)
open Go.RowKit
theorem pNm_split(n:Nat)(x:PR Unit):(x.bind fun _ r=>pNm n r)=(x.bind fun _ r=>want 1 r).bind fun s r=>
 if ze [40] r=true then(pA n 2 r.tail).bind fun a r=>.ok (.mk 10 0 bE [.mk 7 0 0 s a] [] []) r
 else if ze [91] r=true then(pE n 1 1 r.tail).bind fun e r=>(zN [93] r).bind fun _ r=>(zN [61] r).bind fun _ r=>(pE n 1 1 r).bind fun f r=>.ok (.mk 3 0 s [e,f] [] []) r
 else(zN [61] r).bind fun _ r=>(pE n 1 1 r).bind fun e r=>.ok (.mk 2 0 s [e] [] []) r:=by
 rw[zV];rfl
theorem un_ok{α:Type}{x:PR α}{r:List Tok}(b:x.un=.ok () r):∃a,x=.ok a r:=by
 cases x with
 | ok a q=>
   have:q=r:=by injection b
   exact⟨a,by rw[this]⟩
 | bad q=>cases b
 | deep q=>cases b
 | out=>cases b
theorem frEs_one_leaf{L:Nat}{W:World}{g:Nat}{k o n:Int}{s:ByteArray}{a:List Ex}{u:Value}{T:TypeId}(b:jA L W a u)(e:i64R n)(c:L<=W.heap.size)(d:g=W.heap.size):
 jA L (W.alloc (.cells #[.int .i64 k,.int .i64 o,.int .i64 n,.string s,u] T)) [.mk k o n s a] (.slice (some ⟨g,0,none⟩) 1 1):=
 vG (L:=L) (show jx L W (.mk k o n s a) _ from⟨u,rfl,e,b⟩) Zr c d
theorem r64:i64R 0:=⟨I8,I8⟩
theorem named_call{b:Nat}{V:Value}{all:List Tok}{n:Nat}{x:PR Unit}{w:World}{s:ByteArray}{r:List Tok}(i:jI b V all x w)(l:(x.bind fun _ r=>want 1 r)=.ok s r)(j:ze [40] r=true)(k:zG (x.bind fun _ r=>pNm n r)):
 Calls Tryz.prog 128 #[.pointer (some ⟨b,0,none⟩)] w (qM b V all w (x.bind fun _ r=>pNm n r) (uP w.heap.size)):=by
 have o:(x.bind fun _ r=>pNm n r)=(pA n 2 r.tail).bind fun h r=>.ok (.mk 10 0 bE [.mk 7 0 0 s h] [] []) r:=by
  rw[pNm_split,l];show(if ze [40] r=true then _ else _)=_;rw[if_pos j]
 rw[o]at k ⊢;have m:=hid (show zG ((PR.ok () r.tail).bind fun _ r=>pA n 2 r)from zu k);have a:=hid (jR.start i);have y:=hid l;have z:=hid (show zS (⟨#[40]⟩:ByteArray).data.toList (PR.ok () r)=true from j);have t:=hid (args_all (b:=b) (V:=V) (all:=all) (n:=n) (d:=2) I8 I8);have R:=i.lt;clear i l j k o;go_enter Tryz.func128,Tryz.ntmps128
 go_wp2_with (first
  | (go_at_call 55;(with_reducible refine(xo a.out.st 1 I8).mono ?_);rintro e I ⟨s',rfl,c,g⟩
     rw[y.out]at c g;obtain rfl:s=s':=g;replace a:=hid (show jR b V all w (.ok () r) I from a.out.step c)
     clear c)
  | (go_at_call 56;(with_reducible refine(zi a.out.st _ z.out).mono ?_);rintro e J ⟨rfl,c⟩
     replace a:=hid (show jR b V all w (.ok () r.tail) J from a.out.step c);have E:=a.out.size
     clear c)
  | (go_at_call 150;(with_reducible refine(t.out.call a.out.st m.out).mono ?_);rintro e q ⟨v,rfl,c,g⟩
     obtain⟨F,G,H,rfl⟩:=got_forms g m.out;have u:=hid g;replace a:=hid (a.out.step c);have S:=a.out.size;obtain⟨⟨K,L,M,N,O,P⟩,Q⟩:=a.out.own
     clear c g))
 obtain⟨A,f1,B,f3,C,D⟩:=a.out.reada (.cells #[.int .i64 7,.int .i64 0,.int .i64 0,.string s,.slice F G H] 147) (.int .i64 10) (.int .i64 0) (.string ⟨#[]⟩) (.slice (some ⟨q.heap.size,0,none⟩) 1 1) (.slice none 0 0) (.slice none 0 0);refine bodyPost_ret (v:=.agg #[.int .i64 10,.int .i64 0,.string ⟨#[]⟩,.slice (some ⟨q.heap.size,0,none⟩) 1 1,.slice none 0 0,.slice none 0 0]) (by simp[results,Tryz.results128,go_sem,A,f1,B,f3,C,D]) rfl ?_;refine a.out.fina Qo (qy.bind u.out (fun h r _ p=>?_) fun h p=>⟨.mk 10 0 bE [.mk 7 0 0 s h] [] [],?_⟩)
 all_goals exact⟨_,_,_,rfl,frEs_one_leaf (jA.keep p (zK.nest6 E _ _ _ _ _ _) I7) r64 QZ (x9 _ _ _ _ _ _ _ _).symm,qT _ _,qT _ _⟩
theorem named_set{b:Nat}{V:Value}{all:List Tok}{n:Nat}{x:PR Unit}{w:World}(E:jI b V all x w)(k:zS [40] (x.bind fun _ r=>want 1 r)=false)(l:zS [91] (x.bind fun _ r=>want 1 r)=false)(m:zG (x.bind fun _ r=>pNm n r)):
 Calls Tryz.prog 128 #[.pointer (some ⟨b,0,none⟩)] w (qM b V all w (x.bind fun _ r=>pNm n r) (uP w.heap.size)):=by
 have D:(x.bind fun _ r=>pNm n r)=(x.bind fun _ r=>want 1 r).bind fun s r=>(zN [61] r).bind fun _ r=>(pE n 1 1 r).bind fun e r=>.ok (.mk 2 0 s [e] [] []) r:=by
  rw[pNm_split];cases hx:(x.bind fun _ r=>want 1 r)with
  | ok s r=>
    rw[hx]at k l;show(if ze [40] r=true then _ else _)=_;rw[if_neg (by rw[show ze [40] r=false from k];decide),if_neg (by rw[show ze [91] r=false from l];decide)];rfl
  | _=>rfl
 obtain⟨x1,G⟩:∃x1,(x.bind fun _ r=>want 1 r)=x1:=⟨_,rfl⟩
 rw[G]at D k l;rw[D]at m ⊢
 have K:(x1.bind fun s r=>(zN [61] r).bind fun _ r=>(pE n 1 1 r).bind fun e r=>PR.ok (St.mk 2 0 s [e] [] []) r)=x1.bind fun s r=>((zN [61] r).bind fun _ r=>pE n 1 1 r).bind fun e r=>PR.ok (St.mk 2 0 s [e] [] []) r:=by
  simp only[zV]
 have J:zG ((x1.un.bind fun _ r=>zN [61] r).bind fun _ r=>pE n 1 1 r):=by
  rw[K]at m;cases x1 with
  | ok s r=>exact zu m
  | _=>exact m
 have I:=hid J;have c:=hid (jR.start E);have O:=hid G;have F:∀t,zS t x1.un=zS t x1:=fun t=>by cases x1 <;> rfl
 have P:=hid (show zS (⟨#[40]⟩:ByteArray).data.toList x1.un=false from(F _).trans k);have Q:=hid (show zS (⟨#[91]⟩:ByteArray).data.toList x1.un=false from(F _).trans l);have L:=hid (yQ (b:=b) (V:=V) (all:=all) (n:=n) (d:=1) I8 I8);have ah:=E.lt;clear E G k l m D K J F;go_enter Tryz.func128,Tryz.ntmps128
 go_wp2_with (first
  | (go_at_call 55;(with_reducible refine(xo c.out.st 1 I8).mono ?_);rintro e aj ⟨s,rfl,g,h⟩
     rw[O.out]at g h;have N:=hid h;replace c:=hid (c.out.step g)
     clear g h)
  | (go_at_call 56;(with_reducible refine(zD c.out.st _ P.out).mono ?_);rintro e ak ⟨rfl,g⟩;replace c:=hid (c.out.step g);clear g)
  | (go_at_call 56;(with_reducible refine(zD c.out.st _ Q.out).mono ?_);rintro e al ⟨rfl,g⟩;replace c:=hid (c.out.step g);clear g)
  | (go_at_call 58;(with_reducible refine(zY c.out.st ⟨#[61]⟩).mono ?_);rintro e H ⟨rfl,g⟩
     replace c:=hid (show jR b V all w (x1.un.bind fun _ r=>zN [61] r) H from c.out.step g);have Y:=c.out.size
     clear g)
  | (go_at_call 126;(with_reducible refine(L.out.call c.out.st I.out).mono ?_);rintro e j ⟨v,rfl,g,h⟩
     obtain⟨p,q,u,y,z,A,B,rfl⟩:=qX h I.out;have M:=hid h;replace c:=hid (c.out.step g);have ai:=c.out.size;obtain⟨⟨Z,aa,ab,ad,ae,af⟩,ag⟩:=c.out.own
     clear g h))
 obtain⟨R,f1,S,f3,T,U⟩:=c.out.reada (.cells #[.int .i64 p,.int .i64 q,.int .i64 u,.string y,.slice z A B] 147) (.int .i64 2) (.int .i64 0) (.string s) (.slice (some ⟨j.heap.size,0,none⟩) 1 1) (.slice none 0 0) (.slice none 0 0);refine bodyPost_ret (v:=.agg #[.int .i64 2,.int .i64 0,.string s,.slice (some ⟨j.heap.size,0,none⟩) 1 1,.slice none 0 0,.slice none 0 0]) (by simp[results,Tryz.results128,go_sem,R,f1,S,f3,T,U]) rfl ?_
 have o:∀e,jx H.heap.size j e (.agg #[.int .i64 p,.int .i64 q,.int .i64 u,.string y,.slice z A B])->uP w.heap.size ((uQ j w.heap.size (.int .i64 2) (.int .i64 0) (.string s) (.slice (some ⟨j.heap.size,0,none⟩) 1 1) (.slice none 0 0) (.slice none 0 0)).alloc (.cells #[.int .i64 p,.int .i64 q,.int .i64 u,.string y,.slice z A B] 147)) (.mk 2 0 s [e] [] []) (.agg #[.int .i64 2,.int .i64 0,.string s,.slice (some ⟨j.heap.size,0,none⟩) 1 1,.slice none 0 0,.slice none 0 0]):=fun e i=>
  ⟨_,_,_,rfl,vG (jx.keep i (zK.nest6 Y _ _ _ _ _ _) Zr) I7 QZ (x9 _ _ _ _ _ _ _ _).symm,qT _ _,qT _ _⟩
 have h:=M.out;have X:=N.out;refine c.out.fina ?_ ?_
 .cases x1 with
  | ok C r=>
    show((zN [61] r).bind fun _ r=>(pE n 1 1 r).bind fun e r=>PR.ok (St.mk 2 0 C [e] [] []) r).un=((zN [61] r).bind fun _ r=>pE n 1 1 r).un;rw[<-zV,jE];rfl
  | _=>rfl
 .cases x1 with
  | ok C r=>
    obtain rfl:C=s:=X;have W:qy (((zN [61] r).bind fun _ r=>pE n 1 1 r)) fun a=>jx H.heap.size j a (.agg #[.int .i64 p,.int .i64 q,.int .i64 u,.string y,.slice z A B]):=h
    show qy ((zN [61] r).bind fun _ r=>(pE n 1 1 r).bind fun e r=>PR.ok (St.mk 2 0 C [e] [] []) r) _;rw[<-zV];exact W.bind (fun e r _ i=>o e i) fun e i=>⟨_,o e i⟩
  | bad r=>obtain⟨e,i⟩:=h;exact⟨_,o e i⟩
  | deep r=>obtain⟨e,i⟩:=h;exact⟨_,o e i⟩
  | out=>trivial
theorem qd.drew0{b:Nat}{V:Value}{all:List Tok}{w w':World}{x:PR Unit}(a:qd b V all w.drew x w')(c:b<w.heap.size):qd b V all w x w':=⟨a.1,(OffB.of_below (Below.refl w.heap.size w).drew c).trans a.2⟩
theorem jR.drew{b:Nat}{V:Value}{all:List Tok}{w W:World}{x:PR Unit}(a:jR b V all w x W):jR b V all w x W.drew:=a.step ⟨a.st.below Zb.drew,OffB.of_below Zb.drew a.st.lt⟩
def putX(n:Nat)(s:ByteArray)(r:List Tok):PR St:=(pE n 1 1 r).bind fun e r=>(zN [93] r).bind fun _ r=>(zN [61] r).bind fun _ r=>(pE n 1 1 r).bind fun f r=>.ok (.mk 3 0 s [e,f] [] []) r
def putA(n:Nat)(r:List Tok):PR Unit:=(((PR.ok () r).bind fun _ r=>pE n 1 1 r).un.bind fun _ r=>zN [93] r).bind fun _ r=>zN [61] r
theorem put_ends{n:Nat}{s:ByteArray}{r:List Tok}(a:zG (putX n s r)):zG ((putA n r).bind fun _ r=>pE n 1 1 r):=by
 unfold putX at a;unfold putA;show zG ((((pE n 1 1 r).un.bind fun _ r=>zN [93] r).bind fun _ r=>zN [61] r).bind fun _ r=>pE n 1 1 r);cases hx:pE n 1 1 r with
 | ok e r=>
   rw[hx]at a;have b:zG ((zN [93] r).bind fun _ r=>(zN [61] r).bind fun _ r=>(pE n 1 1 r).bind fun f r=>.ok (St.mk 3 0 s [e,f] [] []) r):=a;show zG ((((zN [93] r)).bind fun _ r=>zN [61] r).bind fun _ r=>pE n 1 1 r);rw[<-zV,<-zV]at b;exact zu b
 | bad r=>trivial
 | deep r=>trivial
 | out=>rw[hx]at a;exact a
theorem put_un{n:Nat}{s:ByteArray}{r:List Tok}:(putX n s r).un=((putA n r).bind fun _ r=>pE n 1 1 r).un:=by
 unfold putX putA;show _=((((pE n 1 1 r).un.bind fun _ r=>zN [93] r).bind fun _ r=>zN [61] r).bind fun _ r=>pE n 1 1 r).un;cases pE n 1 1 r with
 | ok e r=>
   show((zN [93] r).bind fun _ r=>(zN [61] r).bind fun _ r=>(pE n 1 1 r).bind fun f r=>PR.ok (St.mk 3 0 s [e,f] [] []) r).un=((((zN [93] r)).bind fun _ r=>zN [61] r).bind fun _ r=>pE n 1 1 r).un;rw[<-zV,<-zV,jE];rfl
 | _=>rfl
theorem put_got{n:Nat}{s:ByteArray}{r:List Tok}{P1 P2:Ex->Prop}{Q:St->Prop}(a:qy ((PR.ok () r).bind fun _ r=>pE n 1 1 r) P1)(d:qy ((putA n r).bind fun _ r=>pE n 1 1 r) P2)(b:zG ((putA n r).bind fun _ r=>pE n 1 1 r))(g:∀e f,P1 e->P2 f->Q (.mk 3 0 s [e,f] [] [])):qy (putX n s r) Q:=by
 obtain⟨i,j⟩:=d.some b;unfold putX;unfold putA at d;cases hx:pE n 1 1 r with
 | ok e r1=>
   have c:((PR.ok () r).bind fun _ r=>pE n 1 1 r)=.ok e r1:=hx;rw[c]at a d;show qy ((zN [93] r1).bind fun _ r=>(zN [61] r).bind fun _ r=>(pE n 1 1 r).bind fun f r=>PR.ok (St.mk 3 0 s [e,f] [] []) r) Q;have k:qy ((((zN [93] r1)).bind fun _ r=>zN [61] r).bind fun _ r=>pE n 1 1 r) P2:=d;rw[<-zV,<-zV];exact k.bind (fun f r _ h=>g e f a h) fun f h=>⟨_,g e f a h⟩
 | bad r1=>
   have c:((PR.ok () r).bind fun _ r=>pE n 1 1 r)=.bad r1:=hx;rw[c]at a;obtain⟨e,b⟩:=a;exact⟨_,g e i b j⟩
 | deep r1=>
   have c:((PR.ok () r).bind fun _ r=>pE n 1 1 r)=.deep r1:=hx;rw[c]at a;obtain⟨e,b⟩:=a;exact⟨_,g e i b j⟩
 | out=>trivial
theorem fr_two{L a g:Nat}{W:World}{e l:Ex}{k op n c h d:Int}{s i:ByteArray}{u j:Value}{T:TypeId}(p:jx L W e (.agg #[.int .i64 k,.int .i64 op,.int .i64 n,.string s,u]))(q:jx L W l (.agg #[.int .i64 c,.int .i64 h,.int .i64 d,.string i,j]))(m:a<=L)(r:a<=W.heap.size)(t:g=W.heap.size):
 jA a (W.alloc (.cells #[.int .i64 k,.int .i64 op,.int .i64 n,.string s,u,.int .i64 c,.int .i64 h,.int .i64 d,.string i,j] T)) [e,l] (.slice (some ⟨g,0,none⟩) 2 2):=by
 subst t;have o:=zK.of_below (L:=L) ((Below.refl W.heap.size W).alloc Zr (.cells #[.int .i64 k,.int .i64 op,.int .i64 n,.string s,u,.int .i64 c,.int .i64 h,.int .i64 d,.string i,j] T));obtain⟨args,rfl,v,y⟩:=exV_at (p.keep o m);obtain⟨A,rfl,x,z⟩:=exV_at (q.keep o m);exact slE_at2 (w:=mask (low a) _) (b:=W.heap.size) ((mask_in (kR.2 r)).trans (heap_alloc_new W _)) Ia v y x z
theorem named_put{b:Nat}{V:Value}{all:List Tok}{n:Nat}{x:PR Unit}{w:World}{s:ByteArray}{r:List Tok}(E:jI b V all x w)(I:(x.bind fun _ r=>want 1 r)=.ok s r)(F:ze [40] r=false)(G:ze [91] r=true)(z:zG (x.bind fun _ r=>pNm n r)):
 Calls Tryz.prog 128 #[.pointer (some ⟨b,0,none⟩)] w (qM b V all w (x.bind fun _ r=>pNm n r) (uP w.heap.size)):=by
 have X:(x.bind fun _ r=>pNm n r)=putX n s r.tail:=by
  rw[pNm_split,I];show(if ze [40] r=true then _ else _)=_;rw[if_neg (by rw[F];decide),if_pos G];rfl
 rw[X]at z ⊢;have Y:=put_ends z;have T:=hid (show zG ((PR.ok () r.tail).bind fun _ r=>pE n 1 1 r)from zu z);have D:=hid Y;have a:=hid (jR.start E);have ah:=hid I;have ai:=hid (show zS (⟨#[40]⟩:ByteArray).data.toList (PR.ok () r)=false from F);have aj:=hid (show zS (⟨#[91]⟩:ByteArray).data.toList (PR.ok () r)=true from G);have S:=hid (yQ (b:=b) (V:=V) (all:=all) (n:=n) (d:=1) I8 I8);have aI:=E.lt;clear E I F G z X Y;go_enter Tryz.func128,Tryz.ntmps128
 go_wp2_with (first
  | (go_at_call 55;(with_reducible refine(xo a.out.st 1 I8).mono ?_);rintro e aE ⟨s',rfl,c,h⟩
     rw[ah.out]at c h;obtain rfl:s=s':=h;replace a:=hid (show jR b V all w (.ok () r) aE from a.out.step c)
     clear c)
  | (go_at_call 56;(with_reducible refine(zD a.out.st _ ai.out).mono ?_);rintro e aR ⟨rfl,c⟩;replace a:=hid (a.out.step c);clear c)
  | (go_at_call 56;(with_reducible refine(zi a.out.st _ aj.out).mono ?_);rintro e B ⟨rfl,c⟩
     replace a:=hid (show jR b V all w (.ok () r.tail) B from a.out.step c);have av:=a.out.size
     clear c)
  | (go_at_call 126;(with_reducible refine(S.out.call a.out.st T.out).mono ?_);rintro e g ⟨v,rfl,c,h⟩
     obtain⟨J,K,M,N,O,P,Q,rfl⟩:=qX h T.out;have ab:=hid h;have H:=a.out.st.lt;replace a:=hid (a.out.step c);have aJ:=a.out.size;have y:g.heap.size≠b:=by have:=a.out.st.lt;omega
     have aG:=c.off.size
     clear c h)
  | (go_at_call 58;(with_reducible refine(zY (a.out.alloc (.cells #[.int .i64 J,.int .i64 K,.int .i64 M,.string N,.slice O P Q] 147)).st ⟨#[93]⟩).mono ?_);rintro e aa ⟨rfl,c⟩
     have ae:=hid ((zK.of_below (L:=B.heap.size) (Zb.alloc Zr _)).trans (zK.did c H));have U:=hid (q9 c.off (k:=g.heap.size) Ia y (heap_alloc_new g _));replace a:=hid (show jR b V all w (((PR.ok () r.tail).bind fun _ r=>pE n 1 1 r).un.bind fun _ r=>zN [93] r) aa from(a.out.alloc _).step c);have aw:g.heap.size<aa.heap.size:=(Array.getElem?_eq_some_iff.1 U.out).1
     clear c)
  | (go_at_call 58;(with_reducible refine(zY a.out.st ⟨#[61]⟩).mono ?_);rintro e i ⟨rfl,c⟩
     have af:=hid (ae.out.trans (zK.did c H));have A:=q9 c.off (k:=g.heap.size) aw y U.out;have W:=hid A;obtain⟨⟨aL,aM,aN,aO,aP⟩,aQ⟩:=zP A;replace a:=hid (show jR b V all w (putA n r.tail) i from a.out.step c);have Z:g.heap.size<i.heap.size:=(Array.getElem?_eq_some_iff.1 A).1
     clear c A))
 go_region_held3 (fun w'=>w'.cell? ⟨g.heap.size,0,none⟩=some (.int .i64 J)/\w'.cell? ⟨g.heap.size,1,none⟩=some (.int .i64 K)/\w'.cell? ⟨g.heap.size,2,none⟩=some (.int .i64 M)/\w'.cell? ⟨g.heap.size,3,none⟩=some (.string N)/\w'.cell? ⟨g.heap.size,4,none⟩=some (.slice O P Q))
  (first
    | (go_split_ands;refine⟨?_,?_,?_,?_,?_⟩ <;>(rw[aq];assumption))
    | (go_split_ands;refine⟨?_,?_,?_,?_,?_⟩ <;>(rw[ar];assumption))
    | go_keep)
  (first
    | (go_at_call 126;(refine(S.out.call (a.out.drew).st D.out).mono ?_);rintro e C ⟨v,rfl,c,h⟩
       obtain⟨ax,ay,az,aA,aB,aC,aD,rfl⟩:=qX h D.out;have ad:=hid h;have aq:∀o,C.cell? ⟨g.heap.size,o,none⟩=i.cell? ⟨g.heap.size,o,none⟩:=(off_own c.off (k:=g.heap.size) Z y).1;have ag:=hid (af.out.trans (zK.did (c.drew0 a.out.st.lt) H));have aH:=c.off.size;have au:=q9 c.off (k:=g.heap.size) Z y W.out
       have ar:∀(l m p q t u:Value) (R:Obj) (j:Nat),((uQ C w.heap.size l m p q t u).alloc R).cell? ⟨g.heap.size,j,none⟩=i.cell? ⟨g.heap.size,j,none⟩:=fun l m p q t u R j=>
        (Lib.cell_of_heap (qE ((nest6_other (show g.heap.size≠w.heap.size by omega) l m p q t u).trans au) R) j).trans (Lib.cell_of_heap W.out j).symm
       replace a:=hid (a.out.drew.step c);have aK:=a.out.size;obtain⟨⟨l,m,p,q,t,u⟩,aF⟩:=a.out.own
       clear c h))
 go_wp2_with (fail);obtain⟨ak,f1,al,f3,am,an⟩:=a.out.reada (.cells #[.int .i64 J,.int .i64 K,.int .i64 M,.string N,.slice O P Q,.int .i64 ax,.int .i64 ay,.int .i64 az,.string aA,.slice aB aC aD] 147) (.int .i64 3) (.int .i64 0) (.string s) (.slice (some ⟨C.heap.size,0,none⟩) 2 2) (.slice none 0 0) (.slice none 0 0);refine bodyPost_ret (v:=.agg #[.int .i64 3,.int .i64 0,.string s,.slice (some ⟨C.heap.size,0,none⟩) 2 2,.slice none 0 0,.slice none 0 0]) (by simp[results,Tryz.results128,go_sem,ak,f1,al,f3,am,an]) rfl ?_;refine a.out.fina put_un (put_got ab.out ad.out D.out fun e f ao ap=>?_);refine⟨_,_,_,rfl,?_,qT _ _,qT _ _⟩;refine fr_two (L:=B.heap.size) (jx.keep ao (ag.out.trans (zK.nest6 av _ _ _ _ _ _)) Zr) (jx.keep ap (zK.nest6 (by show w.heap.size<i.heap.size;omega) _ _ _ _ _ _) (by show B.heap.size<=i.heap.size;omega)) I7 QZ (x9 _ _ _ _ _ _ _ _).symm
theorem named_any{b:Nat}{V:Value}{all:List Tok}{n:Nat}{x:PR Unit}{w:World}(a:jI b V all x w)(c:zG (x.bind fun _ r=>pNm n r)):
 Calls Tryz.prog 128 #[.pointer (some ⟨b,0,none⟩)] w (qM b V all w (x.bind fun _ r=>pNm n r) (uP w.heap.size)):=by
 cases hx:(x.bind fun _ r=>want 1 r)with
 | ok s r=>
   cases h7:ze [40] r with
   | true=>exact named_call a hx h7 c
   | false=>
     cases h8:ze [91] r with
     | true=>exact named_put a hx h7 h8 c
     | false=>exact named_set a (by rw[hx];exact h7) (by rw[hx];exact h8) c
 | bad r=>exact named_set a IN IN c
 | deep r=>exact named_set a IN IN c
 | out=>exact named_set a IN IN c
end Go.Proofs.YthcmenajdcbnnaaGreatDoor
