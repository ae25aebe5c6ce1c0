import Derived.Test.YthcmenajdcbnnaaGreatDoorAmParPrim
set_option linter.unusedSimpArgs false
set_option linter.unusedVariables false
set_option maxRecDepth 100000
namespace Go.Proofs.YthcmenajdcbnnaaGreatDoor
open Go.RowKit Tryz
variable{b n L g m:Nat}{V v:C4}{d k o kk:Int}{a:Ex}{s:C2}{w W:C3}{x:PR Unit}{r:List fH}{T:TypeId}
theorem RN{tj:List fH}(g:∀m,m<=n->CE b V tj m 1 d):CA b V tj (n+1) d:=by
 intro w x a i;cases x with
 |ok _ r=>exact MS g a i
 |bad r=>exact(nZ a rfl d).mono fun e w' ⟨f,c⟩=>⟨_,f,c,[],vg _ _⟩
 |deep r=>exact(nZ a rfl d).mono fun e w' ⟨f,c⟩=>⟨_,f,c,[],vg _ _⟩
 |o=>exact absurd a id
theorem RO{tj:List fH}(m:CU b V tj n d):CE b V tj (n+1) 11 d:=by
 intro w x k g
 have j:(x.bind fun _ r=>pE (n+1) 11 d r)=x.bind fun _ r=>pU n d r:=by
  cases x with
  |ok _ r=>show pE (n+1) 11 d r=pU n d r;rw[pE,Dq Uf]
  |_=>rfl
 rw[j]at g ⊢;have c:=U (kM.start k);have i:=U g;have C:=U m;clear k g m j;go_enter func126,ntmps126
 go_wp2_with (first
  | (go_at_call 148;(with_reducible refine(C.o.call c.o.st i.o).mono ?_);rintro e _ ⟨v,rfl,l,f⟩
     obtain⟨p,q,s,t,y,z,A,rfl⟩:=jC f i.o;have H:=c.o.size;have B:=U f;replace c:=U (c.o.step l);clear l f
     obtain⟨⟨_,_,_,_,_⟩,_⟩:=c.o.own))
 obtain⟨D,f1,E,f3,F⟩:=c.o.read (.int .i64 p) (.int .i64 q) (.int .i64 s) (.string t) (.slice y z A);refine bodyPost_ret (v:=.agg #[(p:Int),(q:Int),(s:Int),t,(y,z,A)]) (by simp[results,results126,go_sem,D,f1,E,f3,F]) rfl ?_;exact c.o.fin rfl (B.o.imp fun a G=>kn.wj G H _ _ _ _ _)
def AH(L g:Nat):Nat->Bool:=fun k=>decide (k<L) || k == g
theorem hY{k:Nat}:AH L g k=false↔L<=k/\k≠g:=by
 unfold AH;simp[Cc]
def E7(L g:Nat)(w:C3)(a:Ex):Prop:=
 ∃k o n s A m c,w.heap[g]?=some (.cells #[(k:Int),(o:Int),(n:Int),.string s,.slice A m c] 147 (0,0))/\j7 w.heap.size (fW (AH L g) w) a (.agg #[(k:Int),(o:Int),(n:Int),.string s,.slice A m c])
def CM(b:Nat)(V:C4)(tj:List fH)(w:C3)(T:PR Ex)(n:Nat)(lev d:Int)(g:Nat)(wr:C3):Prop:=
 ∃(m:Nat) (a:Ex) (y:PR Unit),m<=n/\kM b V tj w y wr/\E7 (w.heap.size+1) g wr a/\T=y.bind fun _ r=>pL m lev d a r
theorem vx{b:C3}{n:Int}{e:Option Addr}{c:Nat}(f:kn L b a (.agg #[(k:Int),(o:Int),(n:Int),s,(e,m,c)])):
 E7 L b.heap.size (b.alloc (.cells #[(k:Int),(o:Int),(n:Int),s,(e,m,c)] 147)) a:=by
 refine⟨k,o,n,s,e,m,c,Ds b _,?_⟩;refine f.imp fun g o _ d=>?_
 obtain⟨j,d⟩:=kE d;have i:=d.1;refine jl (hY.2 ⟨kr.1 j,O⟩) ⟨Ug,?_⟩;exact(D6 (w:=b) (D7 b _ g i)).trans d.2
theorem IM{tj:List fH}{g:C3}{X:PR Ex}{n:Nat}{lev d:Int}{k o q:Int}{s:C2}{j:Option Addr}{m c:Nat}(e:kM b V tj w X.un g)
 (f:j9 X fun a=>kn (w.alloc yl).heap.size g a (.agg #[(k:Int),(o:Int),(q:Int),s,(j,m,c)])):
 CM b V tj w (X.bind fun a r=>pL n lev d a r) n lev d g.heap.size (g.alloc (.cells #[(k:Int),(o:Int),(q:Int),s,(j,m,c)] 147)):=by
 have l:(w.alloc yl).heap.size=w.heap.size+1:=zA _ _;rw[l]at f;cases X with
 |ok a r=>exact⟨n,a,.ok () r,D0 _,e.alloc _,vx f,rfl⟩
 |bad r=>
   obtain⟨a,i⟩:=f;exact⟨n,a,.bad r,D0 _,e.alloc _,vx i,rfl⟩
 |deep r=>
   obtain⟨a,i⟩:=f;exact⟨n,a,.deep r,D0 _,e.alloc _,vx i,rfl⟩
 |o=>exact absurd e.st id
theorem RP{lev:Int}{y:PR Unit}{T:PR Ex}(i:ZH lev y=0)(g:T=y.bind fun _ r=>pL m lev d a r)(c:zI T):T.un=y/\∀P:Ex->Prop,P a->j9 T P:=by
 subst g;cases y with
 |ok j r=>
   cases m with
   |zero=>exact absurd (show zI (pL 0 lev d a r)from c) (by rw[pL];exact id)
   |succ m=>
     have e:pL (m+1) lev d a r=.ok a r:=by rw[pL,Dq (show EE lev r=0 from i)]
     show(pL (m+1) lev d a r).un=_/\_;have f:((PR.ok j r).bind fun _ r=>pL (m+1) lev d a r)=.ok a r:=e;rw[f,e];exact⟨rfl,fun P b=>b⟩
 |bad r=>exact⟨rfl,fun P b=>⟨a,b⟩⟩
 |deep r=>exact⟨rfl,fun P b=>⟨a,b⟩⟩
 |o=>exact absurd c id
theorem AI{tj:List fH}{wr e:C3}{f i j l m:C4}(n:j7 wr.heap.size (fW (AH (w.heap.size+1) g) wr) a v)(d:jJ b V tj wr x e)(_:b<wr.heap.size)(_:b<=w.heap.size):
 kn w.heap.size (g2 e w.heap.size f i j l m) a v:=by
 refine n.imp fun k o _ c=>?_
 obtain⟨p,c⟩:=kE c;obtain⟨_,_⟩:=hY.1 p;refine jl (kr.2 O) ⟨?_,?_⟩
 .rw[xd]
  exact Yb c.1 d.off.size
 .refine(D6 (w:=wr) ?_).trans c.2
  exact(lO (show k≠w.heap.size by omega) _ _ _ _ _).trans (d.off.block c.1 O)
theorem Z4{lev:Int}{y:PR Unit}(a:ZH lev y=o)(b:¬o=0):∃r,y=.ok () r/\EE lev r=o:=by
 cases y with
 |ok _ r=>exact⟨r,rfl,a⟩
 |bad r=>exact absurd a.symm b
 |deep r=>exact absurd a.symm b
 |o=>exact absurd a.symm b
theorem RQ{tj:List fH}(a:kM b V tj w (.ok () r) W)(e:gV r≠3)(f:((tj.length-r.length:Nat):Int)=kk):kM b V tj w (.ok () r.tail) (W.setCell (b,1) (kk+1:Int)):=by
 have d:zc b V tj r false false W:=a.st;have c:=d.next e;rw[f]at c;exact a.step ⟨c,(fI.refl b _ W).wt d.lt 1 _⟩
theorem Z5{tj:List fH}(c:kM b V tj w (.ok () r) W)(d:((tj.length-r.length:Nat):Int)=kk):W.cell? (b,1)=some (.int .i64 kk)/\W.frozen? (b,1)=false:=by
 have a:zc b V tj r false false W:=c.st;exact⟨d▸a.cells.2.1,a.1.frozen 1⟩
theorem WQ{o:Obj}(c:W.heap[g]?=some o)(d:g≠b)(a:C4):(W.setCell (b,1) a).heap[g]?=some o:=(Dw W _ a g (by show g≠b;exact d)).trans c
theorem IN{b g:Nat}{V:C4}{tj r:List fH}{w wr I c:C3}{x:PR Unit}{a:Ex}{T:PR Ex}{q:Nat}{lev d o kk:Int}{A B C i j l:Int}{D m:C2}{v f:Option Addr}{E F p s:Nat}
 (af:j7 wr.heap.size (fW (AH (w.heap.size+1) g) wr) a (.agg #[(A:Int),(B:Int),(C:Int),D,(v,E,F)])) (S:jJ b V tj wr x I)
 (X:jJ b V tj (I.setCell (b,1) (kk+1:Int)) ((PR.ok () r).bind fun _ r=>pE q (lev+1) d r).un c) (ae:kM b V tj w ((PR.ok () r).bind fun _ r=>pE q (lev+1) d r).un c) (Z:c.heap[g]?=some (.cells #[(A:Int),(B:Int),(C:Int),D,(v,E,F)] 147 (0,0)))
 (G:j9 ((PR.ok () r).bind fun _ r=>pE q (lev+1) d r) fun e=>kn (I.setCell (b,1) (kk+1:Int)).heap.size c e (.agg #[(i:Int),(j:Int),(l:Int),m,(f,p,s)]))
 (N:T=(pE q (lev+1) d r).bind fun e r=>pL q lev d (.mk 5 o 0 bE [a,e]) r) (_:g<wr.heap.size) (_:w.heap.size<wr.heap.size) (_:g≠b) (_:b<w.heap.size) (aj:w.heap.size<g):
 (∀n,q<=n->CM b V tj w T n lev d g (((ND c g (.int .i64 5) (.int .i64 o) (.int .i64 0) (.string ⟨#[]⟩) (.slice (some ⟨c.heap.size+1,0,none⟩) 2 2)).alloc (.cells #[(i:Int),(j:Int),(l:Int),m,(f,p,s)] 147)).alloc (.cells #[(A:Int),(B:Int),(C:Int),D,(v,E,F),(i:Int),(j:Int),(l:Int),m,(f,p,s)] 147)))/\
 jJ b V tj w ((PR.ok () r).bind fun _ r=>pE q (lev+1) d r).un (((ND c g (.int .i64 5) (.int .i64 o) (.int .i64 0) (.string ⟨#[]⟩) (.slice (some ⟨c.heap.size+1,0,none⟩) 2 2)).alloc (.cells #[(i:Int),(j:Int),(l:Int),m,(f,p,s)] 147)).alloc (.cells #[(A:Int),(B:Int),(C:Int),D,(v,E,F),(i:Int),(j:Int),(l:Int),m,(f,p,s)] 147)):=by
 obtain⟨W,H⟩:∃W,W=(((ND c g (.int .i64 5) (.int .i64 o) (.int .i64 0) (.string ⟨#[]⟩) (.slice (some ⟨c.heap.size+1,0,none⟩) 2 2)).alloc (.cells #[(i:Int),(j:Int),(l:Int),m,(f,p,s)] 147)).alloc (.cells #[(A:Int),(B:Int),(C:Int),D,(v,E,F),(i:Int),(j:Int),(l:Int),m,(f,p,s)] 147)):=⟨_,rfl⟩
 rw[<-H];have t:kM b V tj w ((PR.ok () r).bind fun _ r=>pE q (lev+1) d r).un W:=H▸(((ae.nest aj _ _ _ _ _).alloc _).alloc _);have L:(ND c g (.int .i64 5) (.int .i64 o) (.int .i64 0) (.string ⟨#[]⟩) (.slice (some ⟨c.heap.size+1,0,none⟩) 2 2)).heap.size=c.heap.size:=xd _ _ _ _ _ _ _;have ai:W.heap.size=c.heap.size+2:=by rw[H,zA,zA,L]
 have ao:g<c.heap.size:=(Array.getElem?_eq_some_iff.1 Z).1;have an:I.heap.size<=c.heap.size:=by have:=X.off.size;rw[xA]at this;exact this
 have ap:wr.heap.size<=I.heap.size:=S.off.size
 have Y:∀k,k<c.heap.size->k≠g->W.heap[k]?=c.heap[k]?:=fun k y R=>by
  rw[H,D7 _ _ _ (by rw[zA,L];omega),D7 _ _ _ (by rw[L];exact y)];exact lO R _ _ _ _ _
 have al:∀k,k<wr.heap.size->k≠g->k≠b->W.heap[k]?=wr.heap[k]?:=fun k y R Q=>by
  rw[Y k O R,X.off.block (by rw[xA];omega) Q,Dw _ _ _ _ (by show k≠b;exact Q),S.off.block y Q]
 have ag:W.heap[g]?=some (.cells #[(5:Int),(o:Int),(0:Int),.string ⟨#[]⟩,.slice (some ⟨c.heap.size+1,0,none⟩) 2 2] 147 (0,0)):=by
  rw[H];exact zu (zu (l6 Z _ _ _ _ _) _) _
 have ah:W.heap[c.heap.size+1]?=some (.cells #[(A:Int),(B:Int),(C:Int),D,(v,E,F),(i:Int),(j:Int),(l:Int),m,(f,p,s)] 147 (0,0)):=by
  have:=Ds ((ND c g (.int .i64 5) (.int .i64 o) (.int .i64 0) (.string ⟨#[]⟩) (.slice (some ⟨c.heap.size+1,0,none⟩) 2 2)).alloc (.cells #[(i:Int),(j:Int),(l:Int),m,(f,p,s)] 147)) (.cells #[(A:Int),(B:Int),(C:Int),D,(v,E,F),(i:Int),(j:Int),(l:Int),m,(f,p,s)] 147);rw[zA,L]at this;rw[H];exact this
 have P:∀e,kn (I.setCell (b,1) (kk+1:Int)).heap.size c e (.agg #[(i:Int),(j:Int),(l:Int),m,(f,p,s)])->E7 (w.heap.size+1) g W (.mk 5 o 0 bE [a,e]):=fun e J=>by
  obtain⟨tc,rfl,K,am⟩:=nX af;obtain⟨_,rfl,ak,aa⟩:=nX J;rw[xA]at aa;refine⟨5,o,0,⟨#[]⟩,some ⟨c.heap.size+1,0,none⟩,2,2,ag,_,rfl,⟨Vl,Vj⟩,?_⟩;refine KJ (w:=fW (AH (w.heap.size+1) g) W) ((l8 (hY.2 ⟨O,O⟩)).trans ah) (by rw[ai];omega) K ?_ ak ?_
  .refine kU.mask (w':=W) am O fun k y M=>⟨M,?_⟩
   obtain⟨ab,ad⟩:=hY.1 M;exact al k y ad O
  .refine kU.mask (w':=W) aa O fun k y M=>?_
   have ab:=kr.1 M;exact⟨hY.2 ⟨O,O⟩,Y k y O⟩
 refine⟨fun n K=>?_,t.did⟩;cases hx:pE q (lev+1) d r with
 |ok e u=>
   have z:((PR.ok () r).bind fun _ r=>pE q (lev+1) d r)=.ok e u:=hx;rw[z]at G t;exact⟨q,_,.ok () u,K,t,P e G,by rw[N,hx];rfl⟩
 |bad u=>
   have z:((PR.ok () r).bind fun _ r=>pE q (lev+1) d r)=.bad u:=hx;rw[z]at G t;obtain⟨e,J⟩:=G;exact⟨q,_,.bad u,K,t,P e J,by rw[N,hx];rfl⟩
 |deep u=>
   have z:((PR.ok () r).bind fun _ r=>pE q (lev+1) d r)=.deep u:=hx;rw[z]at G t;obtain⟨e,J⟩:=G;exact⟨q,_,.deep u,K,t,P e J,by rw[N,hx];rfl⟩
 |o=>
   have z:((PR.ok () r).bind fun _ r=>pE q (lev+1) d r)=.o:=hx;rw[z]at t;exact absurd t.st id
theorem WR{N A X B:Nat}(_:A<=X)(_:N-A<N-B):N-X<N-B:=O
theorem WS{tj:List fH}{q:Nat}{lev:Int}(c:jJ b V tj w ((PR.ok () r).bind fun _ r=>pE q lev d r).un W)(hF:zm 1 r (pE q lev d r))(_:qC r):tj.length-r.length<=yi b W:=by
 cases hx:pE q lev d r with
 |ok e a=>
   have f:((PR.ok () r).bind fun _ r=>pE q lev d r)=.ok e a:=hx;rw[f]at c;rw[hx]at hF;have g:zc b V tj a false false W:=c.st;have i:=(show zJ 1 r a from hF).2.2;rw[jX g];omega
 |bad a=>
   have f:((PR.ok () r).bind fun _ r=>pE q lev d r)=.bad a:=hx;rw[f]at c;rw[hx]at hF;have g:zc b V tj a true false W:=c.st;have i:=(show zJ 0 r a from hF).2.2;rw[jX g];omega
 |deep a=>
   have f:((PR.ok () r).bind fun _ r=>pE q lev d r)=.deep a:=hx;rw[f]at c;rw[hx]at hF;have g:zc b V tj a false true W:=c.st;have i:=(show zJ 0 r a from hF).2.2;rw[jX g];omega
 |o=>
   have f:((PR.ok () r).bind fun _ r=>pE q lev d r)=.o:=hx;rw[f]at c;exact absurd c.st id
theorem RR{tj:List fH}{lev:Int}(_:1<=lev)(_:lev<=10)(aj:∀m,m<=n->CE b V tj m (lev+1) d):CE b V tj (n+1) lev d:=by
 intro w x I D
 have ai:(x.bind fun _ r=>pE (n+1) lev d r)=(x.bind fun _ r=>pE n (lev+1) d r).bind fun a r=>pL n lev d a r:=by
  cases x with
  |ok _ r=>show pE (n+1) lev d r=_;rw[pE,Dp O];rfl
  |_=>rfl
 rw[ai]at D ⊢;have c:=U (kM.start I);have A:=U D;have ab:=U (qM D);have Y:=U aj;have aH:=I.lt;clear I D aj ai;go_enter func126,ntmps126
 go_wp2_with (first
  | (go_at_call 126;(with_reducible refine((Y.o n Zr).call c.o.st ab.o).mono ?_);rintro e k ⟨v,rfl,f,i⟩
     obtain⟨Q,R,S,W,_,_,_,rfl⟩:=jC i ab.o;have aX:=c.o.size;have G:=U i;replace c:=U (c.o.step f);have aY:=c.o.size
     clear f i))
 have ag:=U (IM (n:=n) (lev:=lev) (d:=d) c.o G.o);have aU:b<k.heap.size:=c.o.st.lt;obtain⟨T,K⟩:=Cz (((x.bind fun _ r=>pE n (lev+1) d r).bind fun a r=>pL n lev d a r));rw[K]at ag A;have aD:=U K;clear K
 go_loopw [8] (fun _ wr=>CM b V tj w T n lev d k.heap.size wr) (fun _ wr=>tj.length-yi b wr)
 case atStart=>exact ag.o
 case round=>
  obtain⟨m,a,y,_,J,⟨Q,R,S,W,X,aw,ax,P,am⟩,al⟩:=hrel;replace c:=U J;have ah:=U am;have ae:=U P;have l:=U al;have aK:=J.st.lt;obtain⟨o,au⟩:=Cz (ZH lev y);have B:=U au;have t:k.heap.size≠b:=O
  have aZ:=c.o.size;have aq:k.heap.size<wr.heap.size:=(Array.getElem?_eq_some_iff.1 P).1;clear J am al au P;by_cases j:o=0
  .subst j
   go_wp2_with (first
    | (go_at_call 149;(with_reducible refine(IK c.o.st lev 0 B.o).mono ?_);rintro e ay ⟨rfl,f⟩
       have F:=U f;have z:=jH f.off aq t ae.o;obtain⟨⟨aM,aN,aO,aP,aQ⟩,aR⟩:=zh z;replace c:=U (c.o.step f);clear f z
       obtain⟨⟨_,_,_,_,_⟩,_⟩:=c.o.own))
   obtain⟨aE,f1,aF,f3,aG⟩:=c.o.read (.int .i64 Q) (.int .i64 R) (.int .i64 S) (.string W) (.slice X aw ax);refine bodyPost_ret (v:=.agg #[(Q:Int),(R:Int),(S:Int),W,(X,aw,ax)]) (by simp[results,results126,go_sem,aE,f1,aF,f3,aG]) rfl ?_;rw[aD.o];obtain⟨p,g⟩:=RP B.o l.o A.o;exact c.o.fin p (g _ (AI ah.o F.o aK O))
  .obtain⟨r,rfl,N⟩:=Z4 B.o j
   obtain⟨q,rfl⟩:∃q,m=q+1:=by
    cases m with
    |zero=>have p:=l.o;have g:=A.o;rw[p]at g;exact absurd (show zI (pL 0 lev d a r)from g) (by rw[pL];exact id)
    |succ q=>exact⟨q,rfl⟩
   have L:T=(pE q (lev+1) d r.tail).bind fun e r=>pL q lev d (.mk 5 o 0 bE [a,e]) r:=by
    rw[l.o];show pL (q+1) lev d a r=_;rw[pL,N,Dp j]
   obtain⟨an,_,_,ao,_⟩:=yG c.o.did;have av:∃s,zq s r=true:=vh (lev:=lev) (ops:=H0) (by show EE lev r≠0;rw[N];exact j);have M:gV r≠3:=by obtain⟨s,aL⟩:=av;rw[(uM aL).1];decide
   have az:=U an;have Z:=U (ao.tail M);have aB:=U M;replace l:=U L;have ad:=U (show zI ((PR.ok () r.tail).bind fun _ r=>pE q (lev+1) d r)by have g:=A.o;rw[L]at g;exact qM g);obtain⟨kk,ar⟩:∃kk:Int,((tj.length-r.length:Nat):Int)=kk:=⟨_,rfl⟩
   have aJ:0<=kk/\kk<=1000000:=O
   obtain⟨_,_⟩:=aJ;have aa:=U ar;have aW:(o == 0)=false:=by simpa using j
   clear N L an ao av M j ar
   go_wp2_with (first
    | (go_at_call 149;(with_reducible refine(IK c.o.st lev o B.o).mono ?_);rintro e ay ⟨rfl,f⟩
       have F:=U f;have z:=jH f.off aq t ae.o;replace c:=U (c.o.step f);have ak:=U (RQ c.o aB.o aa.o);have af:=U (WQ z t (.int .i64 (kk+1)));obtain⟨_,_⟩:=Z5 c.o aa.o
       clear f z)
    | (go_at_call 126;(with_reducible refine((Y.o q O).call ak.o.st ad.o).mono ?_);rintro e aS ⟨v,rfl,C,i⟩
       obtain⟨_,_,_,_,_,_,_,rfl⟩:=jC i ad.o;have G:=U i;have aI:k.heap.size<(ay.setCell (b,1) (kk+1:Int)).heap.size:=(Array.getElem?_eq_some_iff.1 af.o).1;have E:=jH C.off aI t af.o;have aC:=U E;obtain⟨⟨aM,aN,aO,aP,aQ⟩,aR⟩:=zh E;have aA:=U C;replace c:=U (ak.o.step C);have aV:k.heap.size<aS.heap.size:=(Array.getElem?_eq_some_iff.1 E).1
       clear C i E))
   have H:=U (IN (lev:=lev) (d:=d) ah.o F.o aA.o c.o aC.o G.o l.o O O t aH O);have ap:=jB (n:=q) (lev:=lev+1) (d:=d) Z.o;go_roundw
   case rel=>exact(H.o.1 n O)
   case measure=>
    have p:=WS (H.o.2) ap Z.o;have g:=az.o;have aT:r.tail.length+1=r.length:=by rw[List.length_tail];omega
    clear H ap;exact WR p O
def CO(b:Nat)(V:C4)(tj:List fH)(lev d:Int):Prop:=∀(w:C3) (x:PR Unit),jk b V tj x w->qD x=true->
 Cy 126 #[(b,0),(lev:Int),(d:Int)] w (qk b V tj w (x.bind fun _ _=>(.o:PR Ex)) (kn w.heap.size))
theorem CO.call{tj:List fH}{lev:Int}(a:CO b V tj lev d)(e:jk b V tj x w)(c:qD x=true):
 Cy 126 #[(b,0),(lev:Int),(d:Int)] w (qk b V tj w (x.bind fun _ _=>(.o:PR Ex)) (kn w.heap.size)):=a w x e c
theorem i4{α:Type}(a:qD x=true)(f g:Unit->List fH->PR α):x.bind f=x.bind g:=by
 cases x with
 |ok _ r=>cases a
 |_=>rfl
theorem AJ{α:Type}{tj:List fH}(a:jk b V tj x w)(c:qD x=true)(f:Unit->List fH->PR α):zI (x.bind f):=by
 cases x with
 |ok _ r=>cases c
 |bad r=>trivial
 |deep r=>trivial
 |o=>exact absurd a id
theorem CN{α:Type}(a:qD x=true)(f:Unit->List fH->PR α):(x.bind f).un=x:=by
 cases x with
 |ok _ r=>cases a
 |_=>rfl
theorem RT{lev:Int}(a:qD x=true):ZH lev x=0:=by
 cases x with
 |ok _ r=>cases a
 |_=>rfl
theorem E8{α:Type}(c:qD x=true)(f:Unit->List fH->PR α){P:α->Prop}{a:α}(b:P a):j9 (x.bind f) P:=by
 cases x with
 |ok _ r=>cases c
 |bad r=>exact⟨a,b⟩
 |deep r=>exact⟨a,b⟩
 |o=>trivial
theorem sL{tj:List fH}(g:jk b V tj x w)(i:qD x=true)(j:0<=d/\d<=1000)(f:Unit->List fH->PR Ex):
 Cy 148 #[(b,0),(d:Int)] w (qk b V tj w (x.bind f) (kn w.heap.size)):=by
 have k:∀w',jJ b V tj w x w'->qk b V tj w (x.bind f) (kn w.heap.size) (.returned p0) w':=fun w' a=>⟨_,rfl,(CN i f).symm▸a,E8 i f (lK _ _)⟩
 by_cases l:d<=100
 .exact(sK g j i l).mono fun e w' ⟨c,a⟩=>c▸k w' a
 .cases x with
  |ok _ r=>cases i
  |bad r=>exact(AG (r:=r) rfl g j rfl O).mono fun e w' ⟨c,a⟩=>c▸k w' a
  |deep r=>exact(lN (dp:=true) g j O).mono fun e w' ⟨c,a⟩=>c▸k w' a
  |o=>exact absurd g id
theorem RU{tj:List fH}(k:0<=d/\d<=1000):CO b V tj 11 d:=by
 intro w x f i;have c:=U (kM.start f);have z:=U i;have u:=U (AJ f i fun _ _=>(.o:PR Ex));have t:=U k;clear f i k;go_enter func126,ntmps126
 go_wp2_with (first
  | (go_at_call 148;(with_reducible refine(sL c.o.st z.o t.o fun _ _=>(.o:PR Ex)).mono ?_);rintro e _ ⟨v,rfl,j,g⟩
     obtain⟨l,m,n,p,q,r,s,rfl⟩:=jC g u.o;have E:=c.o.size;have y:=U g;replace c:=U (c.o.step j);clear j g
     obtain⟨⟨_,_,_,_,_⟩,_⟩:=c.o.own))
 obtain⟨A,f1,B,f3,C⟩:=c.o.read (.int .i64 l) (.int .i64 m) (.int .i64 n) (.string p) (.slice q r s);refine bodyPost_ret (v:=.agg #[(l:Int),(m:Int),(n:Int),p,(q,r,s)]) (by simp[results,results126,go_sem,A,f1,B,f3,C]) rfl ?_;exact c.o.fin rfl (y.o.imp fun a D=>kn.wj D E _ _ _ _ _)
theorem RV{tj:List fH}{lev:Int}(_:1<=lev)(_:lev<=10)(y:CO b V tj (lev+1) d):CO b V tj lev d:=by
 intro w x n r;have c:=U (kM.start n);have i:=U r;have u:=U (AJ n r fun _ _=>(.o:PR Ex));have I:=U y;have X:=n.lt;clear n r y;go_enter func126,ntmps126
 go_wp2_with (first
  | (go_at_call 126;(with_reducible refine(I.o.call c.o.st i.o).mono ?_);rintro e g ⟨v,rfl,f,q⟩
     obtain⟨j,k,l,m,C,D,E,rfl⟩:=jC q u.o;have Y:=c.o.size;have J:=U q;rw[CN i.o]at f;replace c:=U (c.o.step f);have Z:=c.o.size
     clear f q))
 have W:b<g.heap.size:=c.o.st.lt
 have K:=U (show ∃a,kM b V tj w x (g.alloc (.cells #[(j:Int),(k:Int),(l:Int),m,(C,D,E)] 147))/\E7 (w.heap.size+1) g.heap.size (g.alloc (.cells #[(j:Int),(k:Int),(l:Int),m,(C,D,E)] 147)) a by
  obtain⟨a,A⟩:=J.o.some u.o;rw[zA]at A
  exact⟨a,c.o.alloc _,vx A⟩)
 go_loopw [8] (fun _ wr=>∃a,kM b V tj w x wr/\E7 (w.heap.size+1) g.heap.size wr a) (fun _ wr=>0)
 case atStart=>exact K.o
 case round=>
  obtain⟨a,p,⟨j,k,l,m,t,F,G,s,z⟩⟩:=hrel;replace c:=U p;have M:=U z;have L:=U s;have S:=p.st.lt;have T:g.heap.size≠b:=O
  have aa:=c.o.size;have R:g.heap.size<wr.heap.size:=(Array.getElem?_eq_some_iff.1 s).1;clear p z s
  go_wp2_with (first
   | (go_at_call 149;(with_reducible refine(IK c.o.st lev 0 (RT i.o)).mono ?_);rintro e _ ⟨rfl,f⟩
      have H:=U f;have B:=jH f.off R T L.o;obtain⟨⟨_,_,_,_,_⟩,_⟩:=zh B;replace c:=U (c.o.step f);clear f B
      obtain⟨⟨_,_,_,_,_⟩,_⟩:=c.o.own))
  obtain⟨N,f1,P,f3,Q⟩:=c.o.read (.int .i64 j) (.int .i64 k) (.int .i64 l) (.string m) (.slice t F G);refine bodyPost_ret (v:=.agg #[(j:Int),(k:Int),(l:Int),m,(t,F,G)]) (by simp[results,results126,go_sem,N,f1,P,f3,Q]) rfl ?_;exact c.o.fin (CN i.o _) (E8 i.o _ (AI M.o H.o S O))
theorem AK{tj:List fH}(a:0<=d/\d<=1000):∀(k:Nat) (lev:Int),lev=11-k->1<=lev->CO b V tj lev d
 | 0,lev,e,_=>by
   obtain rfl:lev=11:=O
   exact RU a
 |k+1,lev,e,h1=>RV h1 O (AK a k (lev+1) O O)
theorem WU{tj:List fH}{n:Nat}{lev:Int}(f:0<=d/\d<=1000)(e:1<=lev)(_:lev<=11)(c:jk b V tj x w)(a:qD x=true):
 Cy 126 #[(b,0),(lev:Int),(d:Int)] w (qk b V tj w (x.bind fun _ r=>pE n lev d r) (kn w.heap.size)):=by
 rw[i4 a (fun _ r=>pE n lev d r) fun _ _=>.o];exact AK f (11-lev).toNat lev O e w x c a
theorem sM(b:Nat)(V:C4)(tj:List fH):∀(n:Nat),∀m,m<=n->(∀lev d:Int,1<=lev->lev<=11->0<=d->d<=101->CE b V tj m lev d)/\(∀d:Int,0<=d->d<=101->CU b V tj m d)/\(∀d:Int,0<=d->d<=100->CP b V tj m d)/\(∀d:Int,0<=d->d<=101->CA b V tj m d)
 | 0,m,hm=>by
   obtain rfl:m=0:=O
   refine⟨fun lev d l u c g w x a i=>?_,fun d c g w x a i=>?_,fun d c g w x a i=>?_,fun d c g w x a i=>?_⟩
   .cases ho:qD x with
    |true=>exact WU ⟨c,O⟩ l u a ho
    |false=>
      cases x with
      |ok t r=>exact absurd (show zI (pE 0 lev d r)from i) (by rw[pE];exact id)
      |bad r=>cases ho
      |deep r=>cases ho
      |o=>exact absurd a id
   .cases ho:qD x with
    |true=>exact sL a ho ⟨c,O⟩ _
    |false=>
      cases x with
      |ok t r=>exact absurd (show zI (pU 0 d r)from i) (by rw[pU];exact id)
      |bad r=>cases ho
      |deep r=>cases ho
      |o=>exact absurd a id
   .cases ho:qD x with
    |true=>exact(uX a ho d).mono fun e w' ⟨s,p⟩=>s▸mO ho p Z2 (lK _ _)
    |false=>
      cases x with
      |ok t r=>exact absurd (show zI (pP 0 d r)from i) (by rw[pP];exact id)
      |bad r=>cases ho
      |deep r=>cases ho
      |o=>exact absurd a id
   .cases ho:qD x with
    |true=>exact(nZ a ho d).mono fun e w' ⟨s,p⟩=>s▸mO ho p [] (vg _ _)
    |false=>
      cases x with
      |ok t r=>exact absurd (show zI (pA 0 d r)from i) (by rw[pA];exact id)
      |bad r=>cases ho
      |deep r=>cases ho
      |o=>exact absurd a id
 | n+1,m,hm=>by
   have j:=sM b V tj n;by_cases B:m<=n
   .exact j m B
   .obtain rfl:m=n+1:=by omega
    have k:∀q,q<=n->∀lev d:Int,1<=lev->lev<=11->0<=d->d<=101->CE b V tj q lev d:=fun q f=>(j q f).1
    have v:∀q,q<=n->∀d:Int,0<=d->d<=101->CU b V tj q d:=fun q f=>(j q f).2.1
    have A:∀q,q<=n->∀d:Int,0<=d->d<=100->CP b V tj q d:=fun q f=>(j q f).2.2.1
    have z:∀q,q<=n->∀d:Int,0<=d->d<=101->CA b V tj q d:=fun q f=>(j q f).2.2.2
    refine⟨fun lev d l u c g=>?_,fun d c g=>?_,fun d c g=>?_,fun d c g=>?_⟩
    .by_cases y:lev=11
     .subst y
      exact RO (v n Zr d c g)
     .exact RR l O fun q f=>k q f (lev+1) d O O c g
    .exact NE (fun a=>k n Zr 1 (d+1) O O O O) (fun a=>v n Zr (d+1) O O) (fun a=>A n Zr d c a) ⟨c,O⟩
    .exact RL (fun q f=>k q f 1 (d+1) O O O O) (fun q f=>z q f (d+1) O O) ⟨c,O⟩
    .exact RN fun q f=>k q f 1 d O O c g
theorem vA{tj:List fH}(a:0<=d)(c:d<=101):CE b V tj n 1 d:=(sM b V tj n n Zr).1 1 d Uf Uf a c
theorem RW{tj:List fH}(a:0<=d)(c:d<=101):CA b V tj n d:=(sM b V tj n n Zr).2.2.2 d a c
abbrev uY:Obj:=.cells #[(0:Int),(0:Int),.string ⟨#[]⟩,(),(),()] 139
abbrev zcl:C4:=.agg #[(0:Int),(0:Int),.string ⟨#[]⟩,(),(),()]
def gW(L:Nat)(w:C3)(a:St)(v:C4):Prop:=
 match a with
 |.mk k ty td tc tg th=>∃b c d,v=.agg #[.int .i64 k,.int .i64 ty,.string td,b,c,d]/\jc L w tc b/\xk L w tg c/\xk L w th d
theorem gW.keep{c:Nat}{w':C3}{a:St}(d:gW L w a v)(k:zM L w w')(b:c<=L):gW c w' a v:=by
 obtain⟨kk,_,td,tc,tg,th⟩:=a;obtain⟨j,l,m,i,e,f,g⟩:=d;exact⟨j,l,m,i,e.keep k b,f.keep k b,g.keep k b⟩
theorem gW.form{a:St}(i:gW L w a v):∃k t s b o e c p f d q g,v=.agg #[(k:Int),(t:Int),.string s,.slice b o e,.slice c p f,.slice d q g]:=by
 obtain⟨kk,_,td,tc,tg,th⟩:=a;obtain⟨_,_,_,n,j,l,m⟩:=i;obtain⟨b,e,rfl,_⟩:=j.form;obtain⟨c,f,rfl,_⟩:=l.form;obtain⟨d,g,rfl,_⟩:=m.form;exact⟨_,_,_,_,_,_,_,_,_,_,_,_,n⟩
theorem oH{x:PR St}(i:j9 x fun a=>gW L w a v)(l:zI x):∃k t s b m e c n f d o g,v=.agg #[(k:Int),(t:Int),.string s,.slice b m e,.slice c n f,.slice d o g]:=by
 obtain⟨a,j⟩:=i.some l;exact j.form
theorem xZ{x:PR (List St)}(d:j9 x fun a=>xk L w a v)(f:zI x):∃b m c,v=.slice b m c:=by
 obtain⟨a,e⟩:=d.some f;obtain⟨b,c,g,_⟩:=e.form;exact⟨b,_,c,g⟩
theorem E9(L:Nat)(w:C3):jc L w [] (.slice none 0 0):=vg _ _
theorem qx(L:Nat)(w:C3):xk L w [] (.slice none 0 0):=B4 _ _
theorem y7{tj:List fH}(g:jk b V tj x w)(k:Int)(l:k≠3):
 Cy 55 #[(b,0),(k:Int)] w fun e w'=>∃s,e=.returned (.string s)/\jJ b V tj w (x.bind fun _ r=>qr k r).un w'/\j9 (x.bind fun _ r=>qr k r) fun a=>a=s:=by
 cases x with
 |ok _ r=>
   refine(nW g k l).mono fun e w' ⟨v,d,c,f⟩=>?_
   show ∃s,_/\jJ b V tj w (qr k r).un w'/\j9 (qr k r) _;unfold qr at c f ⊢;by_cases i:gV r=k
   .rw[Dq i]at c f ⊢
    exact⟨_,by rw[d,show v=_ from f],c,rfl⟩
   .rw[Dp i]at c f ⊢
    obtain⟨a,j⟩:=f;exact⟨a,by rw[d,show v=_ from j],c,a,rfl⟩
 |bad r=>exact(y5 g rfl k).mono fun e w' ⟨d,c⟩=>⟨_,d,c,_,rfl⟩
 |deep r=>exact(y5 g rfl k).mono fun e w' ⟨d,c⟩=>⟨_,d,c,_,rfl⟩
 |o=>exact absurd g id
def zbp(L:Nat)(w:C3)(a:Ex)(v:C4):Prop:=jc L w [a] v
theorem RX(n:Nat)(x:PR Unit):(x.bind fun _ r=>pI n r)=((x.bind fun _ r=>zN [40] r).bind fun _ r=>pE n 1 1 r).bind fun e r=>(zN [41] r).bind fun _ r=>.ok e r:=by
 rw[zb,zb];rfl
theorem uy{tj:List fH}(g:jk b V tj x w)(l:zI (x.bind fun _ r=>pI n r)):
 Cy 127 #[(b,0)] w (qk b V tj w (x.bind fun _ r=>pI n r) (zbp w.heap.size)):=by
 rw[RX]at l ⊢;have p:=U (qM l);have c:=C0 (jJ b V tj w x w) ⟨g,fI.refl _ _ _⟩;have C:=g.lt;have y:=U (vA (b:=b) (V:=V) (tj:=tj) (n:=n) (d:=1) Uf Uf);clear g l;go_enter func127,ntmps127
 go_wp2_with (first
  | (go_at_call 58;(with_reducible refine(zg c.o.st ⟨#[40]⟩).mono ?_);rintro e t ⟨rfl,f⟩
     replace c:=C0 (jJ b V tj w (x.bind fun _ r=>zN [40] r) t) (c.o.after f);have q:=c.o.off.size
     clear f)
  | (go_at_call 126;(with_reducible refine(y.o.call c.o.st p.o).mono ?_);rintro e u ⟨v,rfl,f,i⟩
     obtain⟨_,_,_,_,_,_,_,rfl⟩:=jC i p.o;have z:=U i;have A:=c.o.st.lt;replace c:=U (c.o.after f);have B:u.heap.size≠b:=by have:=c.o.st.lt;omega
     have D:=c.o.off.size
     clear f i)
  | (go_at_call 58;(with_reducible refine(zg (c.o.alloc _).st ⟨#[41]⟩).mono ?_);rintro e _ ⟨rfl,f⟩
     have m:=U ((zM.wb (L:=t.heap.size) (Zb.alloc Zr _)).trans (zM.did f A));obtain⟨_,_⟩:=rA f.off (k:=u.heap.size) Uh B;replace c:=U ((c.o.alloc _).after f);have s:=c.o.off.size
     clear f))
 go_ret;refine⟨_,rfl,?_,j9.bind z.o (fun a r _ j=>vJ (uG (kn.keep j m.o Zr) q s rfl)) fun a j=>⟨a,uG (kn.keep j m.o Zr) q s rfl⟩⟩;rw[jh];simp only[xW];rw[<-q7];exact c.o.alloc _
abbrev gX(W:C3)(g:Nat)(a b c d e f:C4):C3:=((((((W.setCell (g,0) a).setCell (g,1) b).setCell (g,2) c).setCell (g,3) d).setCell (g,4) e).setCell (g,5) f)
theorem yK(W:C3)(g:Nat)(a b c d e f:C4):(gX W g a b c d e f).heap.size=W.heap.size:=by simp[gX]
theorem AL{i j k l m n:C4}{fr:Nat×Nat}(o:W.heap[g]?=some (.cells #[i,j,k,l,m,n] T fr))(a b c d e f:C4):(gX W g a b c d e f).heap[g]?=some (.cells #[a,b,c,d,e,f] T fr):=
 D3 (D3 (D3 (D3 (D3 (D3 o a) b) c) d) e) f
theorem FA{k:Nat}(a:k≠g)(b c d e f i:C4):(gX W g b c d e f i).heap[k]?=W.heap[k]?:=by
 rw[Dw _ _ _ _ Ut,Dw _ _ _ _ Ut,Dw _ _ _ _ Ut,Dw _ _ _ _ Ut,Dw _ _ _ _ Ut,Dw _ _ _ _ Ut]
theorem zM.wh(a:g<L)(b c d e f i:C4):zM L w (gX w g b c d e f i):=
 (((((zM.set a 0 b).trans (zM.set a 1 c)).trans (zM.set a 2 d)).trans (zM.set a 3 e)).trans (zM.set a 4 f)).trans (zM.set a 5 i)
theorem qT{b c d e f i:C4}(a:W.heap[g]?=some (.cells #[b,c,d,e,f,i] T (0,0))):
 (W.cell? (g,0)=some b/\W.cell? (g,1)=some c/\W.cell? (g,2)=some d/\W.cell? (g,3)=some e/\W.cell? (g,4)=some f/\W.cell? (g,5)=some i)/\∀o,W.frozen? ⟨g,o,none⟩=false:=by
 refine⟨⟨(Du a 0).trans rfl,(Du a 1).trans rfl,(Du a 2).trans rfl,(Du a 3).trans rfl,(Du a 4).trans rfl,(Du a 5).trans rfl⟩,fun o=>?_⟩;simp[World.frozen?,a]
def jt(b:Nat)(V:C4)(tj:List fH)(w:C3)(x:PR Unit)(W:C3):Prop:=jJ b V tj w x W/\W.heap[w.heap.size]?=some uY/\k3 b V tj w/\b<w.heap.size
section
variable {b:Nat}{V:C4}{tj:List fH} {w W W':C3}{x y:PR Unit}
theorem jt.start(h:jk b V tj x w):jt b V tj w x (w.alloc uY):=
 ⟨⟨h.below (Zb.alloc Zr _),fI.wb (Zb.alloc Zr _) h.lt⟩,Ds w uY,h.tok,h.lt⟩
theorem jt.st(h:jt b V tj w x W):jk b V tj x W:=h.1.1
theorem jt.size(h:jt b V tj w x W):w.heap.size<W.heap.size:=(Array.getElem?_eq_some_iff.1 h.2.1).1
theorem jt.ne(h:jt b V tj w x W):w.heap.size≠b:=Jp
theorem jt.lt(h:jt b V tj w x W):b<w.heap.size:=h.2.2.2
theorem jt.step(h:jt b V tj w x W)(g:jJ b V tj W y W'):jt b V tj w y W':=⟨h.1.after g,jH g.off h.size h.ne h.2.1,h.2.2⟩
theorem jt.alloc(h:jt b V tj w x W)(o:Obj):jt b V tj w x (W.alloc o):=⟨h.1.alloc o,zu h.2.1 o,h.2.2⟩
theorem jt.own(h:jt b V tj w x W):(W.cell? (w.heap.size,0)=some (.int .i64 0)/\W.cell? (w.heap.size,1)=some (.int .i64 0)/\W.cell? (w.heap.size,2)=some (.string ⟨#[]⟩)/\
 W.cell? (w.heap.size,3)=some (.slice none 0 0)/\W.cell? (w.heap.size,4)=some (.slice none 0 0)/\W.cell? (w.heap.size,5)=some (.slice none 0 0))/\∀o,W.frozen? ⟨w.heap.size,o,none⟩=false:=qT h.2.1
theorem jt.set(h:jt b V tj w x W){g:Nat}(_:w.heap.size<g)(i:Nat)(u:C4):jt b V tj w x (W.setCell (g,i) u):=
 ⟨h.1.set h.2.2.1 O Jp i u,(Dw W _ u _ (by show w.heap.size≠g;omega)).trans h.2.1,h.2.2⟩
theorem jJ.wh(m:jJ b V tj w x W)(d:k3 b V tj w){g:Nat}(c:w.heap.size<=g)(a:g≠b)(e f i j k l:C4):jJ b V tj w x (gX W g e f i j k l):=
 (((((m.set d c a 0 e).set d c a 1 f).set d c a 2 i).set d c a 3 j).set d c a 4 k).set d c a 5 l
theorem jt.fin(j:jt b V tj w y W){X:PR St}(l:X.un=y){c d e f g i:C4}(k:j9 X fun a=>gW w.heap.size (gX W w.heap.size c d e f g i) a (.agg #[c,d,e,f,g,i])):
 qk b V tj w X (gW w.heap.size) (.returned (.agg #[c,d,e,f,g,i])) (gX W w.heap.size c d e f g i):=
 ⟨_,rfl,l▸j.1.wh j.2.2.1 Zr j.ne _ _ _ _ _ _,k⟩
theorem jt.de(j:jt b V tj w y W){X:PR St}(l:X.un=y){o:Obj}{c d e f g i:C4}(k:j9 X fun a=>gW w.heap.size ((_root_.Go.Proofs.YthcmenajdcbnnaaGreatDoor.gX W w.heap.size c d e f g i).alloc o) a (.agg #[c,d,e,f,g,i])):
 qk b V tj w X (gW w.heap.size) (.returned (.agg #[c,d,e,f,g,i])) ((_root_.Go.Proofs.YthcmenajdcbnnaaGreatDoor.gX W w.heap.size c d e f g i).alloc o):=
 ⟨_,rfl,l▸(j.1.wh j.2.2.1 Zr j.ne _ _ _ _ _ _).alloc o,k⟩
theorem jt.read(i:jt b V tj w x W)(a c d e f g:C4):(((((((W.setCell (w.heap.size,0) a).setCell (w.heap.size,1) c).setCell (w.heap.size,2) d).setCell (w.heap.size,3) e).setCell (w.heap.size,4) f).setCell (w.heap.size,5) g)).cell? (w.heap.size,0)=some a/\(((((((W.setCell (w.heap.size,0) a).setCell (w.heap.size,1) c).setCell (w.heap.size,2) d).setCell (w.heap.size,3) e).setCell (w.heap.size,4) f).setCell (w.heap.size,5) g)).cell? (w.heap.size,1)=some c/\(((((((W.setCell (w.heap.size,0) a).setCell (w.heap.size,1) c).setCell (w.heap.size,2) d).setCell (w.heap.size,3) e).setCell (w.heap.size,4) f).setCell (w.heap.size,5) g)).cell? (w.heap.size,2)=some d/\(((((((W.setCell (w.heap.size,0) a).setCell (w.heap.size,1) c).setCell (w.heap.size,2) d).setCell (w.heap.size,3) e).setCell (w.heap.size,4) f).setCell (w.heap.size,5) g)).cell? (w.heap.size,3)=some e/\(((((((W.setCell (w.heap.size,0) a).setCell (w.heap.size,1) c).setCell (w.heap.size,2) d).setCell (w.heap.size,3) e).setCell (w.heap.size,4) f).setCell (w.heap.size,5) g)).cell? (w.heap.size,4)=some f/\(((((((W.setCell (w.heap.size,0) a).setCell (w.heap.size,1) c).setCell (w.heap.size,2) d).setCell (w.heap.size,3) e).setCell (w.heap.size,4) f).setCell (w.heap.size,5) g)).cell? (w.heap.size,5)=some g:=(qT (AL i.2.1 a c d e f g)).1
theorem jt.wv(i:jt b V tj w x W)(o:Obj)(a c d e f g:C4):((((((((W.setCell (w.heap.size,0) a).setCell (w.heap.size,1) c).setCell (w.heap.size,2) d).setCell (w.heap.size,3) e).setCell (w.heap.size,4) f).setCell (w.heap.size,5) g)).alloc o).cell? (w.heap.size,0)=some a/\((((((((W.setCell (w.heap.size,0) a).setCell (w.heap.size,1) c).setCell (w.heap.size,2) d).setCell (w.heap.size,3) e).setCell (w.heap.size,4) f).setCell (w.heap.size,5) g)).alloc o).cell? (w.heap.size,1)=some c/\((((((((W.setCell (w.heap.size,0) a).setCell (w.heap.size,1) c).setCell (w.heap.size,2) d).setCell (w.heap.size,3) e).setCell (w.heap.size,4) f).setCell (w.heap.size,5) g)).alloc o).cell? (w.heap.size,2)=some d/\((((((((W.setCell (w.heap.size,0) a).setCell (w.heap.size,1) c).setCell (w.heap.size,2) d).setCell (w.heap.size,3) e).setCell (w.heap.size,4) f).setCell (w.heap.size,5) g)).alloc o).cell? (w.heap.size,3)=some e/\((((((((W.setCell (w.heap.size,0) a).setCell (w.heap.size,1) c).setCell (w.heap.size,2) d).setCell (w.heap.size,3) e).setCell (w.heap.size,4) f).setCell (w.heap.size,5) g)).alloc o).cell? (w.heap.size,4)=some f/\((((((((W.setCell (w.heap.size,0) a).setCell (w.heap.size,1) c).setCell (w.heap.size,2) d).setCell (w.heap.size,3) e).setCell (w.heap.size,4) f).setCell (w.heap.size,5) g)).alloc o).cell? (w.heap.size,5)=some g:=(qT (zu (AL i.2.1 a c d e f g) o)).1
end
theorem oI(n:Nat)(x:PR Unit):(x.bind fun _ r=>q2 n r)=(x.bind fun _ r=>qr 1 r).bind fun s r=>
 if zq [40] r=true then(pA n 2 r.tail).bind fun a r=>.ok (.mk 10 0 bE [.mk 7 0 0 s a] [] []) r
 else if zq [91] r=true then(pE n 1 1 r.tail).bind fun e r=>(zN [93] r).bind fun _ r=>(zN [61] r).bind fun _ r=>(pE n 1 1 r).bind fun f r=>.ok (.mk 3 0 s [e,f] [] []) r
 else(zN [61] r).bind fun _ r=>(pE n 1 1 r).bind fun e r=>.ok (.mk 2 0 s [e] [] []) r:=by
 rw[zb];rfl
theorem zbq{α:Type}{x:PR α}(h:x.un=.ok () r):∃a,x=.ok a r:=by
 cases x with
 |ok a q=>
   have:q=r:=by injection h
   exact⟨a,by rw[this]⟩
 |bad q=>cases h
 |deep q=>cases h
 |o=>cases h
theorem wT{k o n:Int}{s:C2}{a:List Ex}{b:C4}{T:TypeId}(c:jc L W a b)(f:fS n)(d:L<=W.heap.size)(e:g=W.heap.size):
 jc L (W.alloc (.cells #[(k:Int),(o:Int),(n:Int),s,b] T)) [.mk k o n s a] (.slice (some ⟨g,0,none⟩) 1 1):=
 uG (L:=L) (show kn L W (.mk k o n s a) _ from⟨b,rfl,f,c⟩) Zr d e
theorem r64:fS 0:=⟨Uf,Uf⟩
theorem IP{tj:List fH}(i:jk b V tj x w)(l:(x.bind fun _ r=>qr 1 r)=.ok s r)(j:zq [40] r=true)(k:zI (x.bind fun _ r=>q2 n r)):
 Cy 128 #[(b,0)] w (qk b V tj w (x.bind fun _ r=>q2 n r) (gW w.heap.size)):=by
 have p:(x.bind fun _ r=>q2 n r)=(pA n 2 r.tail).bind fun g r=>.ok (.mk 10 0 bE [.mk 7 0 0 s g] [] []) r:=by
  rw[oI,l];show(if zq [40] r=true then _ else _)=_;rw[Dq j]
 rw[p]at k ⊢;have m:=C0 (zI ((PR.ok () r.tail).bind fun _ r=>pA n 2 r)) (qM k);have a:=U (jt.start i);have z:=U l;have A:=C0 (zU (⟨#[40]⟩:C2).data.toList (PR.ok () r)=true) j;have u:=U (RW (b:=b) (V:=V) (tj:=tj) (n:=n) (d:=2) Uf Uf);have M:=i.lt;clear i l j k p;go_enter func128,ntmps128
 go_wp2_with (first
  | (go_at_call 55;(with_reducible refine(y7 a.o.st 1 Uf).mono ?_);rintro e K ⟨J,rfl,c,f⟩
     rw[z.o]at c f;obtain rfl:s=J:=f;replace a:=C0 (jt b V tj w (.ok () r) K) (a.o.step c)
     clear c)
  | (go_at_call 56;(with_reducible refine(qA a.o.st _ A.o).mono ?_);rintro e L ⟨rfl,c⟩
     replace a:=C0 (jt b V tj w (.ok () r.tail) L) (a.o.step c);have F:=a.o.size
     clear c)
  | (go_at_call 150;(with_reducible refine(u.o.call a.o.st m.o).mono ?_);rintro e t ⟨v,rfl,c,f⟩
     obtain⟨G,H,I,rfl⟩:=z2 f m.o;have y:=U f;replace a:=U (a.o.step c);have N:=a.o.size;obtain⟨⟨_,_,_,_,_,_⟩,_⟩:=a.o.own
     clear c f))
 obtain⟨B,f1,C,f3,D,E⟩:=a.o.wv (.cells #[(7:Int),(0:Int),(0:Int),s,(G,H,I)] 147) (.int .i64 10) (.int .i64 0) (.string ⟨#[]⟩) (.slice (some ⟨t.heap.size,0,none⟩) 1 1) (.slice none 0 0) (.slice none 0 0);refine bodyPost_ret (v:=.agg #[(10:Int),(0:Int),.string ⟨#[]⟩,.slice (some ⟨t.heap.size,0,none⟩) 1 1,(),()]) (by simp[results,results128,go_sem,B,f1,C,f3,D,E]) rfl ?_;refine a.o.de Kn (j9.bind y.o (fun g r _ q=>?_) fun g q=>⟨.mk 10 0 bE [.mk 7 0 0 s g] [] [],?_⟩)
 all_goals exact⟨_,_,_,rfl,wT (jc.keep q (zM.wh F _ _ _ _ _ _) O) r64 Gd (yK _ _ _ _ _ _ _ _).symm,qx _ _,qx _ _⟩
theorem i5{tj:List fH}(G:jk b V tj x w)(l:zU [40] (x.bind fun _ r=>qr 1 r)=false)(m:zU [91] (x.bind fun _ r=>qr 1 r)=false)(p:zI (x.bind fun _ r=>q2 n r)):
 Cy 128 #[(b,0)] w (qk b V tj w (x.bind fun _ r=>q2 n r) (gW w.heap.size)):=by
 have F:(x.bind fun _ r=>q2 n r)=(x.bind fun _ r=>qr 1 r).bind fun s r=>(zN [61] r).bind fun _ r=>(pE n 1 1 r).bind fun e r=>.ok (.mk 2 0 s [e] [] []) r:=by
  rw[oI];cases hx:(x.bind fun _ r=>qr 1 r)with
  |ok s r=>
    rw[hx]at l m;show(if zq [40] r=true then _ else _)=_;rw[Dp (by rw[show zq [40] r=false from l];decide),Dp (by rw[show zq [91] r=false from m];decide)];rfl
  |_=>rfl
 obtain⟨g,I⟩:=Cz ((x.bind fun _ r=>qr 1 r));rw[I]at F l m;rw[F]at p ⊢
 have M:(g.bind fun s r=>(zN [61] r).bind fun _ r=>(pE n 1 1 r).bind fun e r=>PR.ok (St.mk 2 0 s [e] [] []) r)=g.bind fun s r=>((zN [61] r).bind fun _ r=>pE n 1 1 r).bind fun e r=>PR.ok (St.mk 2 0 s [e] [] []) r:=by
  simp only[zb]
 have L:zI ((g.un.bind fun _ r=>zN [61] r).bind fun _ r=>pE n 1 1 r):=by
  rw[M]at p;cases g with
  |ok s r=>exact qM p
  |_=>exact p
 have K:=U L;have c:=U (jt.start G);have R:=U I;have H:∀t,zU t g.un=zU t g:=fun t=>by cases g<;>rfl
 have S:=C0 (zU (⟨#[40]⟩:C2).data.toList g.un=false) ((H _).trans l);have T:=C0 (zU (⟨#[91]⟩:C2).data.toList g.un=false) ((H _).trans m);have N:=U (vA (b:=b) (V:=V) (tj:=tj) (n:=n) (d:=1) Uf Uf);have ae:=G.lt;clear G I l m p F M L H;go_enter func128,ntmps128
 go_wp2_with (first
  | (go_at_call 55;(with_reducible refine(y7 c.o.st 1 Uf).mono ?_);rintro e _ ⟨s,rfl,f,i⟩
     rw[R.o]at f i;have Q:=U i;replace c:=U (c.o.step f)
     clear f i)
  |(go_at_call 56;(with_reducible refine(zE c.o.st _ S.o).mono ?_);rintro e _ ⟨rfl,f⟩;replace c:=U (c.o.step f);clear f)
  |(go_at_call 56;(with_reducible refine(zE c.o.st _ T.o).mono ?_);rintro e _ ⟨rfl,f⟩;replace c:=U (c.o.step f);clear f)
  | (go_at_call 58;(with_reducible refine(zg c.o.st ⟨#[61]⟩).mono ?_);rintro e J ⟨rfl,f⟩
     replace c:=C0 (jt b V tj w (g.un.bind fun _ r=>zN [61] r) J) (c.o.step f);have ad:=c.o.size
     clear f)
  | (go_at_call 126;(with_reducible refine(N.o.call c.o.st K.o).mono ?_);rintro e k ⟨v,rfl,f,i⟩
     obtain⟨u,y,z,A,B,C,D,rfl⟩:=jC i K.o;have P:=U i;replace c:=U (c.o.step f);have af:=c.o.size;obtain⟨⟨_,_,_,_,_,_⟩,_⟩:=c.o.own
     clear f i))
 obtain⟨W,f1,X,f3,Y,Z⟩:=c.o.wv (.cells #[(u:Int),(y:Int),(z:Int),A,(B,C,D)] 147) (.int .i64 2) (.int .i64 0) (.string s) (.slice (some ⟨k.heap.size,0,none⟩) 1 1) (.slice none 0 0) (.slice none 0 0);refine bodyPost_ret (v:=.agg #[(2:Int),(0:Int),s,.slice (some ⟨k.heap.size,0,none⟩) 1 1,(),()]) (by simp[results,results128,go_sem,W,f1,X,f3,Y,Z]) rfl ?_
 have q:∀e,kn J.heap.size k e (.agg #[(u:Int),(y:Int),(z:Int),A,(B,C,D)])->gW w.heap.size ((gX k w.heap.size (.int .i64 2) (.int .i64 0) (.string s) (.slice (some ⟨k.heap.size,0,none⟩) 1 1) (.slice none 0 0) (.slice none 0 0)).alloc (.cells #[(u:Int),(y:Int),(z:Int),A,(B,C,D)] 147)) (.mk 2 0 s [e] [] []) (.agg #[(2:Int),(0:Int),s,.slice (some ⟨k.heap.size,0,none⟩) 1 1,(),()]):=fun e j=>
  ⟨_,_,_,rfl,uG (kn.keep j (zM.wh ad _ _ _ _ _ _) Zr) O Gd (yK _ _ _ _ _ _ _ _).symm,qx _ _,qx _ _⟩
 have i:=P.o;have ab:=Q.o;refine c.o.de ?_ ?_
 .cases g with
  |ok E r=>
    show((zN [61] r).bind fun _ r=>(pE n 1 1 r).bind fun e r=>PR.ok (St.mk 2 0 E [e] [] []) r).un=((zN [61] r).bind fun _ r=>pE n 1 1 r).un;rw[<-zb,jh];rfl
  |_=>rfl
 .cases g with
  |ok E r=>
    obtain rfl:E=s:=ab;have aa:j9 (((zN [61] r).bind fun _ r=>pE n 1 1 r)) fun a=>kn J.heap.size k a (.agg #[(u:Int),(y:Int),(z:Int),A,(B,C,D)]):=i
    show j9 ((zN [61] r).bind fun _ r=>(pE n 1 1 r).bind fun e r=>PR.ok (St.mk 2 0 E [e] [] []) r) _;rw[<-zb];exact aa.bind (fun e r _ j=>q e j) fun e j=>⟨_,q e j⟩
  |bad r=>obtain⟨e,j⟩:=i;exact⟨_,q e j⟩
  |deep r=>obtain⟨e,j⟩:=i;exact⟨_,q e j⟩
  |o=>trivial
theorem jJ.drew0{tj:List fH}{w':C3}(a:jJ b V tj w.drew x w')(c:b<w.heap.size):jJ b V tj w x w':=⟨a.1,(fI.wb (D4 w.heap.size w).drew c).trans a.2⟩
theorem jt.drew{tj:List fH}(h:jt b V tj w x W):jt b V tj w x W.drew:=h.step ⟨h.st.below Zb.drew,fI.wb Zb.drew h.st.lt⟩
def IQ(n:Nat)(s:C2)(r:List fH):PR St:=(pE n 1 1 r).bind fun e r=>(zN [93] r).bind fun _ r=>(zN [61] r).bind fun _ r=>(pE n 1 1 r).bind fun f r=>.ok (.mk 3 0 s [e,f] [] []) r
def FB(n:Nat)(r:List fH):PR Unit:=(((PR.ok () r).bind fun _ r=>pE n 1 1 r).un.bind fun _ r=>zN [93] r).bind fun _ r=>zN [61] r
theorem RY(a:zI (IQ n s r)):zI ((FB n r).bind fun _ r=>pE n 1 1 r):=by
 unfold IQ at a;unfold FB;show zI ((((pE n 1 1 r).un.bind fun _ r=>zN [93] r).bind fun _ r=>zN [61] r).bind fun _ r=>pE n 1 1 r);cases hx:pE n 1 1 r with
 |ok e r=>
   rw[hx]at a;have b:zI ((zN [93] r).bind fun _ r=>(zN [61] r).bind fun _ r=>(pE n 1 1 r).bind fun f r=>.ok (St.mk 3 0 s [e,f] [] []) r):=a;show zI ((((zN [93] r)).bind fun _ r=>zN [61] r).bind fun _ r=>pE n 1 1 r);rw[<-zb,<-zb]at b;exact qM b
 |bad r=>trivial
 |deep r=>trivial
 |o=>rw[hx]at a;exact a
theorem Z6:(IQ n s r).un=((FB n r).bind fun _ r=>pE n 1 1 r).un:=by
 unfold IQ FB;show _=((((pE n 1 1 r).un.bind fun _ r=>zN [93] r).bind fun _ r=>zN [61] r).bind fun _ r=>pE n 1 1 r).un;cases pE n 1 1 r with
 |ok e r=>
   show((zN [93] r).bind fun _ r=>(zN [61] r).bind fun _ r=>(pE n 1 1 r).bind fun f r=>PR.ok (St.mk 3 0 s [e,f] [] []) r).un=((((zN [93] r)).bind fun _ r=>zN [61] r).bind fun _ r=>pE n 1 1 r).un;rw[<-zb,<-zb,jh];rfl
 |_=>rfl
theorem WV{P1 P2:Ex->Prop}{Q:St->Prop}(a:j9 ((PR.ok () r).bind fun _ r=>pE n 1 1 r) P1)(g:j9 ((FB n r).bind fun _ r=>pE n 1 1 r) P2)(c:zI ((FB n r).bind fun _ r=>pE n 1 1 r))(i:∀e f,P1 e->P2 f->Q (.mk 3 0 s [e,f] [] [])):j9 (IQ n s r) Q:=by
 obtain⟨k,l⟩:=g.some c;unfold IQ;unfold FB at g;cases hx:pE n 1 1 r with
 |ok e b=>
   have d:((PR.ok () r).bind fun _ r=>pE n 1 1 r)=.ok e b:=hx;rw[d]at a g;show j9 ((zN [93] b).bind fun _ r=>(zN [61] r).bind fun _ r=>(pE n 1 1 r).bind fun f r=>PR.ok (St.mk 3 0 s [e,f] [] []) r) Q;have m:j9 ((((zN [93] b)).bind fun _ r=>zN [61] r).bind fun _ r=>pE n 1 1 r) P2:=g;rw[<-zb,<-zb];exact m.bind (fun f r _ j=>i e f a j) fun f j=>⟨_,i e f a j⟩
 |bad b=>
   have d:((PR.ok () r).bind fun _ r=>pE n 1 1 r)=.bad b:=hx;rw[d]at a;obtain⟨e,c⟩:=a;exact⟨_,i e k c l⟩
 |deep b=>
   have d:((PR.ok () r).bind fun _ r=>pE n 1 1 r)=.deep b:=hx;rw[d]at a;obtain⟨e,c⟩:=a;exact⟨_,i e k c l⟩
 |o=>trivial
theorem Z7{a:Nat}{e m:Ex}{op n c f d:Int}{i:C2}{j l:C4}{T:TypeId}(q:kn L W e (.agg #[(k:Int),(op:Int),(n:Int),s,j]))(r:kn L W m (.agg #[(c:Int),(f:Int),(d:Int),i,l]))(o:a<=L)(t:a<=W.heap.size)(u:g=W.heap.size):
 jc a (W.alloc (.cells #[(k:Int),(op:Int),(n:Int),s,j,(c:Int),(f:Int),(d:Int),i,l] T)) [e,m] (.slice (some ⟨g,0,none⟩) 2 2):=by
 subst u;have p:=zM.wb (L:=L) ((D4 W.heap.size W).alloc Zr (.cells #[(k:Int),(op:Int),(n:Int),s,j,(c:Int),(f:Int),(d:Int),i,l] T));obtain⟨tc,rfl,v,y⟩:=nX (q.keep p o);obtain⟨_,rfl,x,z⟩:=nX (r.keep p o);exact KJ (w:=fW (nO a) _) (b:=W.heap.size) ((l8 (kr.2 t)).trans (Ds W _)) Uh v y x z
theorem NF{tj:List fH}(F:jk b V tj x w)(J:(x.bind fun _ r=>qr 1 r)=.ok s r)(G:zq [40] r=false)(H:zq [91] r=true)(A:zI (x.bind fun _ r=>q2 n r)):
 Cy 128 #[(b,0)] w (qk b V tj w (x.bind fun _ r=>q2 n r) (gW w.heap.size)):=by
 have aa:(x.bind fun _ r=>q2 n r)=IQ n s r.tail:=by
  rw[oI,J];show(if zq [40] r=true then _ else _)=_;rw[Dp (by rw[G];decide),Dq H];rfl
 rw[aa]at A ⊢;have ab:=RY A;have X:=C0 (zI ((PR.ok () r.tail).bind fun _ r=>pE n 1 1 r)) (qM A);have E:=U ab;have a:=U (jt.start F);have ak:=U J;have al:=C0 (zU (⟨#[40]⟩:C2).data.toList (PR.ok () r)=false) G;have am:=C0 (zU (⟨#[91]⟩:C2).data.toList (PR.ok () r)=true) H;have W:=U (vA (b:=b) (V:=V) (tj:=tj) (n:=n) (d:=1) Uf Uf);have aL:=F.lt;clear F J G H A aa ab;go_enter func128,ntmps128
 go_wp2_with (first
  | (go_at_call 55;(with_reducible refine(y7 a.o.st 1 Uf).mono ?_);rintro e aI ⟨aH,rfl,c,i⟩
     rw[ak.o]at c i;obtain rfl:s=aH:=i;replace a:=C0 (jt b V tj w (.ok () r) aI) (a.o.step c)
     clear c)
  |(go_at_call 56;(with_reducible refine(zE a.o.st _ al.o).mono ?_);rintro e _ ⟨rfl,c⟩;replace a:=U (a.o.step c);clear c)
  | (go_at_call 56;(with_reducible refine(qA a.o.st _ am.o).mono ?_);rintro e C ⟨rfl,c⟩
     replace a:=C0 (jt b V tj w (.ok () r.tail) C) (a.o.step c);have ay:=a.o.size
     clear c)
  | (go_at_call 126;(with_reducible refine(W.o.call a.o.st X.o).mono ?_);rintro e g ⟨v,rfl,c,i⟩
     obtain⟨K,M,N,P,Q,R,S,rfl⟩:=jC i X.o;have af:=U i;have I:=a.o.st.lt;replace a:=U (a.o.step c);have aM:=a.o.size;have z:g.heap.size≠b:=by have:=a.o.st.lt;omega
     have aJ:=c.off.size
     clear c i)
  | (go_at_call 58;(with_reducible refine(zg (a.o.alloc (.cells #[.int .i64 K,.int .i64 M,.int .i64 N,.string P,.slice Q R S] 147)).st ⟨#[93]⟩).mono ?_);rintro e ae ⟨rfl,c⟩
     have ah:=U ((zM.wb (L:=C.heap.size) (Zb.alloc Zr _)).trans (zM.did c I));have Y:=U (jH c.off (k:=g.heap.size) Uh z (Ds g _));replace a:=C0 (jt b V tj w (((PR.ok () r.tail).bind fun _ r=>pE n 1 1 r).un.bind fun _ r=>zN [93] r) ae) ((a.o.alloc _).step c);have az:g.heap.size<ae.heap.size:=(Array.getElem?_eq_some_iff.1 Y.o).1
     clear c)
  | (go_at_call 58;(with_reducible refine(zg a.o.st ⟨#[61]⟩).mono ?_);rintro e l ⟨rfl,c⟩
     have ai:=U (ah.o.trans (zM.did c I));have B:=jH c.off (k:=g.heap.size) az z Y.o;have Z:=U B;obtain⟨⟨_,_,_,_,_⟩,_⟩:=zh B;replace a:=C0 (jt b V tj w (FB n r.tail) l) (a.o.step c);have ad:g.heap.size<l.heap.size:=(Array.getElem?_eq_some_iff.1 B).1
     clear c B))
 go_region_held3 (fun w'=>w'.cell? (g.heap.size,0)=some (.int .i64 K)/\w'.cell? (g.heap.size,1)=some (.int .i64 M)/\w'.cell? (g.heap.size,2)=some (.int .i64 N)/\w'.cell? (g.heap.size,3)=some (.string P)/\w'.cell? (g.heap.size,4)=some (.slice Q R S))
  (first
    |(go_split_ands;refine⟨?_,?_,?_,?_,?_⟩ <;>(rw[av];assumption))
    |(go_split_ands;refine⟨?_,?_,?_,?_,?_⟩ <;>(rw[aw];assumption))
    |go_keep)
  (first
    | (go_at_call 126;(refine(W.o.call (a.o.drew).st E.o).mono ?_);rintro e D ⟨v,rfl,c,i⟩
       obtain⟨aA,aB,aC,aD,aE,aF,aG,rfl⟩:=jC i E.o;have ag:=U i;have av:∀o,D.cell? ⟨g.heap.size,o,none⟩=l.cell? ⟨g.heap.size,o,none⟩:=(rA c.off (k:=g.heap.size) ad z).1;have aj:=U (ai.o.trans (zM.did (c.drew0 a.o.st.lt) I));have aK:=c.off.size;have ax:=jH c.off (k:=g.heap.size) ad z Z.o
       have aw:∀(m p q t u y:C4) (T:Obj) (j:Nat),((gX D w.heap.size m p q t u y).alloc T).cell? ⟨g.heap.size,j,none⟩=l.cell? ⟨g.heap.size,j,none⟩:=fun m p q t u y T j=>
        (Du (zu ((FA (show g.heap.size≠w.heap.size by omega) m p q t u y).trans ax) T) j).trans (Du Z.o j).symm
       replace a:=U (a.o.drew.step c);have aN:=a.o.size;obtain⟨⟨m,p,q,t,u,y⟩,_⟩:=a.o.own
       clear c i))
 go_wp2_with fail;obtain⟨an,f1,ao,f3,ap,aq⟩:=a.o.wv (.cells #[(K:Int),(M:Int),(N:Int),P,(Q,R,S),(aA:Int),(aB:Int),(aC:Int),aD,(aE,aF,aG)] 147) (.int .i64 3) (.int .i64 0) (.string s) (.slice (some ⟨D.heap.size,0,none⟩) 2 2) (.slice none 0 0) (.slice none 0 0);refine bodyPost_ret (v:=.agg #[(3:Int),(0:Int),s,.slice (some ⟨D.heap.size,0,none⟩) 2 2,(),()]) (by simp[results,results128,go_sem,an,f1,ao,f3,ap,aq]) rfl ?_;refine a.o.de Z6 (WV af.o ag.o E.o fun e f ar au=>?_);refine⟨_,_,_,rfl,?_,qx _ _,qx _ _⟩;refine Z7 (L:=C.heap.size) (kn.keep ar (aj.o.trans (zM.wh ay _ _ _ _ _ _)) Zr) (kn.keep au (zM.wh (by show w.heap.size<l.heap.size;omega) _ _ _ _ _ _) (by show C.heap.size<=l.heap.size;omega)) O Gd (yK _ _ _ _ _ _ _ _).symm
theorem AM{tj:List fH}(a:jk b V tj x w)(c:zI (x.bind fun _ r=>q2 n r)):
 Cy 128 #[(b,0)] w (qk b V tj w (x.bind fun _ r=>q2 n r) (gW w.heap.size)):=by
 cases hx:(x.bind fun _ r=>qr 1 r)with
 |ok s r=>
   cases h7:zq [40] r with
   |true=>exact IP a hx h7 c
   |false=>
     cases h8:zq [91] r with
     |true=>exact NF a hx h7 h8 c
     |false=>exact i5 a (by rw[hx];exact h7) (by rw[hx];exact h8) c
 |bad r=>exact i5 a Vc Vc c
 |deep r=>exact i5 a Vc Vc c
 |o=>exact i5 a Vc Vc c
