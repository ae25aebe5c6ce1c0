import Derived.Test.YthcmenajdcbnnaaGreatDoorAlParPrim
set_option linter.unusedSimpArgs false
set_option linter.unusedVariables false
set_option maxRecDepth 100000
namespace Go.Proofs.YthcmenajdcbnnaaGreatDoor
open Go.RowKit Tryz
variable{b n L g m:Nat}{V v:C5}{d k o kk:Int}{a:Ex}{s:C3}{w W:C4}{x:PR Unit}{r:List fH}{T:TypeId}
theorem RT{tj:List fH}(g:∀m,m<=n->CE b V tj m 1 d):CA b V tj (n+1) d:=by
 intro w x a i;cases x with
 |ok _ r=>exact MY g a i
 |bad r=>exact(n7 a rfl d).mono fun e w' ⟨f,c⟩=>⟨_,f,c,[],vj _ _⟩
 |deep r=>exact(n7 a rfl d).mono fun e w' ⟨f,c⟩=>⟨_,f,c,[],vj _ _⟩
 |o=>exact absurd a id
theorem RU{tj:List fH}(m:CU b V tj n d):CE b V tj (n+1) 11 d:=by
 intro w x k g
 have j:(x.bind fun _ r=>pE (n+1) 11 d r)=x.bind fun _ r=>pU n d r:=by
  cases x with
  |ok _ r=>show pE (n+1) 11 d r=pU n d r;rw[pE,Dq Uf]
  |_=>rfl
 rw[j]at g ⊢;have c:=U (kN.start k);have i:=U g;have C:=U m;clear k g m j;go_enter func126,ntmps126
 go_wp2_with (first
  | (go_at_call 148;(with_reducible refine(C.o.call c.o.st i.o).mono ?_);rintro e _ ⟨v,rfl,l,f⟩
     obtain⟨p,q,s,t,y,z,A,rfl⟩:=jD f i.o;have H:=c.o.size;have B:=U f;replace c:=U (c.o.step l);clear l f
     obtain⟨⟨_,_,_,_,_⟩,_⟩:=c.o.own))
 obtain⟨D,f1,E,f3,F⟩:=c.o.read (.int .i64 p) (.int .i64 q) (.int .i64 s) (.string t) (.slice y z A);refine bodyPost_ret (v:=.agg #[(p:Int),(q:Int),(s:Int),t,(y,z,A)]) (by simp[results,results126,go_sem,D,f1,E,f3,F]) rfl ?_;exact c.o.fin rfl (B.o.imp fun a G=>kr.wj G H _ _ _ _ _)
def AP(L g:Nat):Nat->Bool:=fun k=>decide (k<L) || k == g
theorem hZ{k:Nat}:AP L g k=false↔L<=k/\k≠g:=by
 unfold AP;simp[Cd]
def FK(L g:Nat)(w:C4)(a:Ex):Prop:=
 ∃k o n s A m c,w.heap[g]?=some (.cells #[(k:Int),(o:Int),(n:Int),.string s,.slice A m c] 147 (0,0))/\k1 w.heap.size (fW (AP L g) w) a (.agg #[(k:Int),(o:Int),(n:Int),.string s,.slice A m c])
def CZ(b:Nat)(V:C5)(tj:List fH)(w:C4)(T:PR Ex)(n:Nat)(lev d:Int)(g:Nat)(wr:C4):Prop:=
 ∃(m:Nat) (a:Ex) (y:PR Unit),m<=n/\kN b V tj w y wr/\FK (w.heap.size+1) g wr a/\T=y.bind fun _ r=>pL m lev d a r
theorem vz{b:C4}{n:Int}{e:Option Addr}{c:Nat}(f:kr L b a (.agg #[(k:Int),(o:Int),(n:Int),s,(e,m,c)])):
 FK L b.heap.size (b.alloc (.cells #[(k:Int),(o:Int),(n:Int),s,(e,m,c)] 147)) a:=by
 refine⟨k,o,n,s,e,m,c,Ds b _,?_⟩;refine f.imp fun g o _ d=>?_
 obtain⟨j,d⟩:=jb d;have i:=d.1;refine jn (hZ.2 ⟨kt.1 j,O⟩) ⟨Ug,?_⟩;exact(D6 (w:=b) (D7 b _ g i)).trans d.2
theorem IY{tj:List fH}{g:C4}{X:PR Ex}{n:Nat}{lev d:Int}{k o q:Int}{s:C3}{j:Option Addr}{m c:Nat}(e:kN b V tj w X.un g)
 (f:ja X fun a=>kr (w.alloc ym).heap.size g a (.agg #[(k:Int),(o:Int),(q:Int),s,(j,m,c)])):
 CZ b V tj w (X.bind fun a r=>pL n lev d a r) n lev d g.heap.size (g.alloc (.cells #[(k:Int),(o:Int),(q:Int),s,(j,m,c)] 147)):=by
 have l:(w.alloc ym).heap.size=w.heap.size+1:=zA _ _;rw[l]at f;cases X with
 |ok a r=>exact⟨n,a,.ok () r,D0 _,e.alloc _,vz f,rfl⟩
 |bad r=>
   obtain⟨a,i⟩:=f;exact⟨n,a,.bad r,D0 _,e.alloc _,vz i,rfl⟩
 |deep r=>
   obtain⟨a,i⟩:=f;exact⟨n,a,.deep r,D0 _,e.alloc _,vz i,rfl⟩
 |o=>exact absurd e.st id
theorem RV{lev:Int}{y:PR Unit}{T:PR Ex}(i:ZP lev y=0)(g:T=y.bind fun _ r=>pL m lev d a r)(c:zI T):T.un=y/\∀P:Ex->Prop,P a->ja T P:=by
 subst g;cases y with
 |ok j r=>
   cases m with
   |zero=>exact absurd (show zI (pL 0 lev d a r)from c) (by rw[pL];exact id)
   |succ m=>
     have e:pL (m+1) lev d a r=.ok a r:=by rw[pL,Dq (show ER lev r=0 from i)]
     show(pL (m+1) lev d a r).un=_/\_;have f:((PR.ok j r).bind fun _ r=>pL (m+1) lev d a r)=.ok a r:=e;rw[f,e];exact⟨rfl,fun P b=>b⟩
 |bad r=>exact⟨rfl,fun P b=>⟨a,b⟩⟩
 |deep r=>exact⟨rfl,fun P b=>⟨a,b⟩⟩
 |o=>exact absurd c id
theorem AQ{tj:List fH}{wr e:C4}{f i j l m:C5}(n:k1 wr.heap.size (fW (AP (w.heap.size+1) g) wr) a v)(d:jK b V tj wr x e)(_:b<wr.heap.size)(_:b<=w.heap.size):
 kr w.heap.size (g2 e w.heap.size f i j l m) a v:=by
 refine n.imp fun k o _ c=>?_
 obtain⟨p,c⟩:=jb c;obtain⟨_,_⟩:=hZ.1 p;refine jn (kt.2 O) ⟨?_,?_⟩
 .rw[xf]
  exact Yb c.1 d.off.size
 .refine(D6 (w:=wr) ?_).trans c.2
  exact(lP (show k≠w.heap.size by omega) _ _ _ _ _).trans (d.off.block c.1 O)
theorem zac{lev:Int}{y:PR Unit}(a:ZP lev y=o)(b:¬o=0):∃r,y=.ok () r/\ER lev r=o:=by
 cases y with
 |ok _ r=>exact⟨r,rfl,a⟩
 |bad r=>exact absurd a.symm b
 |deep r=>exact absurd a.symm b
 |o=>exact absurd a.symm b
theorem RW{tj:List fH}(a:kN b V tj w (.ok () r) W)(e:gW r≠3)(f:((tj.length-r.length:Nat):Int)=kk):kN b V tj w (.ok () r.tail) (W.setCell (b,1) (kk+1:Int)):=by
 have d:zc b V tj r false false W:=a.st;have c:=d.next e;rw[f]at c;exact a.step ⟨c,(fI.refl b _ W).wt d.lt 1 _⟩
theorem zad{tj:List fH}(c:kN b V tj w (.ok () r) W)(d:((tj.length-r.length:Nat):Int)=kk):W.cell? (b,1)=some (.int .i64 kk)/\W.frozen? (b,1)=false:=by
 have a:zc b V tj r false false W:=c.st;exact⟨d▸a.cells.2.1,a.1.frozen 1⟩
theorem WU{o:Obj}(c:W.heap[g]?=some o)(d:g≠b)(a:C5):(W.setCell (b,1) a).heap[g]?=some o:=(Dw W _ a g (by show g≠b;exact d)).trans c
theorem IZ{b g:Nat}{V:C5}{tj r:List fH}{w wr I c:C4}{x:PR Unit}{a:Ex}{T:PR Ex}{q:Nat}{lev d o kk:Int}{A B C i j l:Int}{D m:C3}{v f:Option Addr}{E F p s:Nat}
 (af:k1 wr.heap.size (fW (AP (w.heap.size+1) g) wr) a (.agg #[(A:Int),(B:Int),(C:Int),D,(v,E,F)])) (S:jK b V tj wr x I)
 (X:jK b V tj (I.setCell (b,1) (kk+1:Int)) ((PR.ok () r).bind fun _ r=>pE q (lev+1) d r).un c) (ae:kN b V tj w ((PR.ok () r).bind fun _ r=>pE q (lev+1) d r).un c) (Z:c.heap[g]?=some (.cells #[(A:Int),(B:Int),(C:Int),D,(v,E,F)] 147 (0,0)))
 (G:ja ((PR.ok () r).bind fun _ r=>pE q (lev+1) d r) fun e=>kr (I.setCell (b,1) (kk+1:Int)).heap.size c e (.agg #[(i:Int),(j:Int),(l:Int),m,(f,p,s)]))
 (N:T=(pE q (lev+1) d r).bind fun e r=>pL q lev d (.mk 5 o 0 bE [a,e]) r) (_:g<wr.heap.size) (_:w.heap.size<wr.heap.size) (_:g≠b) (_:b<w.heap.size) (aj:w.heap.size<g):
 (∀n,q<=n->CZ b V tj w T n lev d g (((NI c g (.int .i64 5) (.int .i64 o) (.int .i64 0) (.string ⟨#[]⟩) (.slice (some ⟨c.heap.size+1,0,none⟩) 2 2)).alloc (.cells #[(i:Int),(j:Int),(l:Int),m,(f,p,s)] 147)).alloc (.cells #[(A:Int),(B:Int),(C:Int),D,(v,E,F),(i:Int),(j:Int),(l:Int),m,(f,p,s)] 147)))/\
 jK b V tj w ((PR.ok () r).bind fun _ r=>pE q (lev+1) d r).un (((NI c g (.int .i64 5) (.int .i64 o) (.int .i64 0) (.string ⟨#[]⟩) (.slice (some ⟨c.heap.size+1,0,none⟩) 2 2)).alloc (.cells #[(i:Int),(j:Int),(l:Int),m,(f,p,s)] 147)).alloc (.cells #[(A:Int),(B:Int),(C:Int),D,(v,E,F),(i:Int),(j:Int),(l:Int),m,(f,p,s)] 147)):=by
 obtain⟨W,H⟩:∃W,W=(((NI c g (.int .i64 5) (.int .i64 o) (.int .i64 0) (.string ⟨#[]⟩) (.slice (some ⟨c.heap.size+1,0,none⟩) 2 2)).alloc (.cells #[(i:Int),(j:Int),(l:Int),m,(f,p,s)] 147)).alloc (.cells #[(A:Int),(B:Int),(C:Int),D,(v,E,F),(i:Int),(j:Int),(l:Int),m,(f,p,s)] 147)):=⟨_,rfl⟩
 rw[<-H];have t:kN b V tj w ((PR.ok () r).bind fun _ r=>pE q (lev+1) d r).un W:=H▸(((ae.nest aj _ _ _ _ _).alloc _).alloc _);have L:(NI c g (.int .i64 5) (.int .i64 o) (.int .i64 0) (.string ⟨#[]⟩) (.slice (some ⟨c.heap.size+1,0,none⟩) 2 2)).heap.size=c.heap.size:=xf _ _ _ _ _ _ _;have ai:W.heap.size=c.heap.size+2:=by rw[H,zA,zA,L]
 have ao:g<c.heap.size:=(Array.getElem?_eq_some_iff.1 Z).1;have an:I.heap.size<=c.heap.size:=by have:=X.off.size;rw[xC]at this;exact this
 have ap:wr.heap.size<=I.heap.size:=S.off.size
 have Y:∀k,k<c.heap.size->k≠g->W.heap[k]?=c.heap[k]?:=fun k y R=>by
  rw[H,D7 _ _ _ (by rw[zA,L];omega),D7 _ _ _ (by rw[L];exact y)];exact lP R _ _ _ _ _
 have al:∀k,k<wr.heap.size->k≠g->k≠b->W.heap[k]?=wr.heap[k]?:=fun k y R Q=>by
  rw[Y k O R,X.off.block (by rw[xC];omega) Q,Dw _ _ _ _ (by show k≠b;exact Q),S.off.block y Q]
 have ag:W.heap[g]?=some (.cells #[(5:Int),(o:Int),(0:Int),.string ⟨#[]⟩,.slice (some ⟨c.heap.size+1,0,none⟩) 2 2] 147 (0,0)):=by
  rw[H];exact zu (zu (l7 Z _ _ _ _ _) _) _
 have ah:W.heap[c.heap.size+1]?=some (.cells #[(A:Int),(B:Int),(C:Int),D,(v,E,F),(i:Int),(j:Int),(l:Int),m,(f,p,s)] 147 (0,0)):=by
  have:=Ds ((NI c g (.int .i64 5) (.int .i64 o) (.int .i64 0) (.string ⟨#[]⟩) (.slice (some ⟨c.heap.size+1,0,none⟩) 2 2)).alloc (.cells #[(i:Int),(j:Int),(l:Int),m,(f,p,s)] 147)) (.cells #[(A:Int),(B:Int),(C:Int),D,(v,E,F),(i:Int),(j:Int),(l:Int),m,(f,p,s)] 147);rw[zA,L]at this;rw[H];exact this
 have P:∀e,kr (I.setCell (b,1) (kk+1:Int)).heap.size c e (.agg #[(i:Int),(j:Int),(l:Int),m,(f,p,s)])->FK (w.heap.size+1) g W (.mk 5 o 0 bE [a,e]):=fun e J=>by
  obtain⟨tc,rfl,K,am⟩:=n3 af;obtain⟨_,rfl,ak,aa⟩:=n3 J;rw[xC]at aa;refine⟨5,o,0,⟨#[]⟩,some ⟨c.heap.size+1,0,none⟩,2,2,ag,_,rfl,⟨Vn,Vk⟩,?_⟩;refine KQ (w:=fW (AP (w.heap.size+1) g) W) ((l9 (hZ.2 ⟨O,O⟩)).trans ah) (by rw[ai];omega) K ?_ ak ?_
  .refine kW.mask (w':=W) am O fun k y M=>⟨M,?_⟩
   obtain⟨ab,ad⟩:=hZ.1 M;exact al k y ad O
  .refine kW.mask (w':=W) aa O fun k y M=>?_
   have ab:=kt.1 M;exact⟨hZ.2 ⟨O,O⟩,Y k y O⟩
 refine⟨fun n K=>?_,t.did⟩;cases hx:pE q (lev+1) d r with
 |ok e u=>
   have z:((PR.ok () r).bind fun _ r=>pE q (lev+1) d r)=.ok e u:=hx;rw[z]at G t;exact⟨q,_,.ok () u,K,t,P e G,by rw[N,hx];rfl⟩
 |bad u=>
   have z:((PR.ok () r).bind fun _ r=>pE q (lev+1) d r)=.bad u:=hx;rw[z]at G t;obtain⟨e,J⟩:=G;exact⟨q,_,.bad u,K,t,P e J,by rw[N,hx];rfl⟩
 |deep u=>
   have z:((PR.ok () r).bind fun _ r=>pE q (lev+1) d r)=.deep u:=hx;rw[z]at G t;obtain⟨e,J⟩:=G;exact⟨q,_,.deep u,K,t,P e J,by rw[N,hx];rfl⟩
 |o=>
   have z:((PR.ok () r).bind fun _ r=>pE q (lev+1) d r)=.o:=hx;rw[z]at t;exact absurd t.st id
theorem WV{N A X B:Nat}(_:A<=X)(_:N-A<N-B):N-X<N-B:=O
theorem WW{tj:List fH}{q:Nat}{lev:Int}(c:jK b V tj w ((PR.ok () r).bind fun _ r=>pE q lev d r).un W)(hF:zm 1 r (pE q lev d r))(_:qC r):tj.length-r.length<=yk b W:=by
 cases hx:pE q lev d r with
 |ok e a=>
   have f:((PR.ok () r).bind fun _ r=>pE q lev d r)=.ok e a:=hx;rw[f]at c;rw[hx]at hF;have g:zc b V tj a false false W:=c.st;have i:=(show zJ 1 r a from hF).2.2;rw[jY g];omega
 |bad a=>
   have f:((PR.ok () r).bind fun _ r=>pE q lev d r)=.bad a:=hx;rw[f]at c;rw[hx]at hF;have g:zc b V tj a true false W:=c.st;have i:=(show zJ 0 r a from hF).2.2;rw[jY g];omega
 |deep a=>
   have f:((PR.ok () r).bind fun _ r=>pE q lev d r)=.deep a:=hx;rw[f]at c;rw[hx]at hF;have g:zc b V tj a false true W:=c.st;have i:=(show zJ 0 r a from hF).2.2;rw[jY g];omega
 |o=>
   have f:((PR.ok () r).bind fun _ r=>pE q lev d r)=.o:=hx;rw[f]at c;exact absurd c.st id
theorem RX{tj:List fH}{lev:Int}(_:1<=lev)(_:lev<=10)(aj:∀m,m<=n->CE b V tj m (lev+1) d):CE b V tj (n+1) lev d:=by
 intro w x I D
 have ai:(x.bind fun _ r=>pE (n+1) lev d r)=(x.bind fun _ r=>pE n (lev+1) d r).bind fun a r=>pL n lev d a r:=by
  cases x with
  |ok _ r=>show pE (n+1) lev d r=_;rw[pE,Dp O];rfl
  |_=>rfl
 rw[ai]at D ⊢;have c:=U (kN.start I);have A:=U D;have ab:=U (qM D);have Y:=U aj;have aH:=I.lt;clear I D aj ai;go_enter func126,ntmps126
 go_wp2_with (first
  | (go_at_call 126;(with_reducible refine((Y.o n Zr).call c.o.st ab.o).mono ?_);rintro e k ⟨v,rfl,f,i⟩
     obtain⟨Q,R,S,W,_,_,_,rfl⟩:=jD i ab.o;have aX:=c.o.size;have G:=U i;replace c:=U (c.o.step f);have aY:=c.o.size
     clear f i))
 have ag:=U (IY (n:=n) (lev:=lev) (d:=d) c.o G.o);have aU:b<k.heap.size:=c.o.st.lt;obtain⟨T,K⟩:=C0 (((x.bind fun _ r=>pE n (lev+1) d r).bind fun a r=>pL n lev d a r));rw[K]at ag A;have aD:=U K;clear K
 go_loopw [8] (fun _ wr=>CZ b V tj w T n lev d k.heap.size wr) (fun _ wr=>tj.length-yk b wr)
 case atStart=>exact ag.o
 case round=>
  obtain⟨m,a,y,_,J,⟨Q,R,S,W,X,aw,ax,P,am⟩,al⟩:=hrel;replace c:=U J;have ah:=U am;have ae:=U P;have l:=U al;have aK:=J.st.lt;obtain⟨o,au⟩:=C0 (ZP lev y);have B:=U au;have t:k.heap.size≠b:=O
  have aZ:=c.o.size;have aq:k.heap.size<wr.heap.size:=(Array.getElem?_eq_some_iff.1 P).1;clear J am al au P;by_cases j:o=0
  .subst j
   go_wp2_with (first
    | (go_at_call 149;(with_reducible refine(IW c.o.st lev 0 B.o).mono ?_);rintro e ay ⟨rfl,f⟩
       have F:=U f;have z:=jI f.off aq t ae.o;obtain⟨⟨aM,aN,aO,aP,aQ⟩,aR⟩:=zh z;replace c:=U (c.o.step f);clear f z
       obtain⟨⟨_,_,_,_,_⟩,_⟩:=c.o.own))
   obtain⟨aE,f1,aF,f3,aG⟩:=c.o.read (.int .i64 Q) (.int .i64 R) (.int .i64 S) (.string W) (.slice X aw ax);refine bodyPost_ret (v:=.agg #[(Q:Int),(R:Int),(S:Int),W,(X,aw,ax)]) (by simp[results,results126,go_sem,aE,f1,aF,f3,aG]) rfl ?_;rw[aD.o];obtain⟨p,g⟩:=RV B.o l.o A.o;exact c.o.fin p (g _ (AQ ah.o F.o aK O))
  .obtain⟨r,rfl,N⟩:=zac B.o j
   obtain⟨q,rfl⟩:∃q,m=q+1:=by
    cases m with
    |zero=>have p:=l.o;have g:=A.o;rw[p]at g;exact absurd (show zI (pL 0 lev d a r)from g) (by rw[pL];exact id)
    |succ q=>exact⟨q,rfl⟩
   have L:T=(pE q (lev+1) d r.tail).bind fun e r=>pL q lev d (.mk 5 o 0 bE [a,e]) r:=by
    rw[l.o];show pL (q+1) lev d a r=_;rw[pL,N,Dp j]
   obtain⟨an,_,_,ao,_⟩:=yI c.o.did;have av:∃s,zq s r=true:=vk (lev:=lev) (ops:=IB) (by show ER lev r≠0;rw[N];exact j);have M:gW r≠3:=by obtain⟨s,aL⟩:=av;rw[(uR aL).1];decide
   have az:=U an;have Z:=U (ao.tail M);have aB:=U M;replace l:=U L;have ad:=U (show zI ((PR.ok () r.tail).bind fun _ r=>pE q (lev+1) d r)by have g:=A.o;rw[L]at g;exact qM g);obtain⟨kk,ar⟩:∃kk:Int,((tj.length-r.length:Nat):Int)=kk:=⟨_,rfl⟩
   have aJ:0<=kk/\kk<=1000000:=O
   obtain⟨_,_⟩:=aJ;have aa:=U ar;have aW:(o == 0)=false:=by simpa using j
   clear N L an ao av M j ar
   go_wp2_with (first
    | (go_at_call 149;(with_reducible refine(IW c.o.st lev o B.o).mono ?_);rintro e ay ⟨rfl,f⟩
       have F:=U f;have z:=jI f.off aq t ae.o;replace c:=U (c.o.step f);have ak:=U (RW c.o aB.o aa.o);have af:=U (WU z t (.int .i64 (kk+1)));obtain⟨_,_⟩:=zad c.o aa.o
       clear f z)
    | (go_at_call 126;(with_reducible refine((Y.o q O).call ak.o.st ad.o).mono ?_);rintro e aS ⟨v,rfl,C,i⟩
       obtain⟨_,_,_,_,_,_,_,rfl⟩:=jD i ad.o;have G:=U i;have aI:k.heap.size<(ay.setCell (b,1) (kk+1:Int)).heap.size:=(Array.getElem?_eq_some_iff.1 af.o).1;have E:=jI C.off aI t af.o;have aC:=U E;obtain⟨⟨aM,aN,aO,aP,aQ⟩,aR⟩:=zh E;have aA:=U C;replace c:=U (ak.o.step C);have aV:k.heap.size<aS.heap.size:=(Array.getElem?_eq_some_iff.1 E).1
       clear C i E))
   have H:=U (IZ (lev:=lev) (d:=d) ah.o F.o aA.o c.o aC.o G.o l.o O O t aH O);have ap:=jC (n:=q) (lev:=lev+1) (d:=d) Z.o;go_roundw
   case rel=>exact(H.o.1 n O)
   case measure=>
    have p:=WW (H.o.2) ap Z.o;have g:=az.o;have aT:r.tail.length+1=r.length:=by rw[List.length_tail];omega
    clear H ap;exact WV p O
def CO(b:Nat)(V:C5)(tj:List fH)(lev d:Int):Prop:=∀(w:C4) (x:PR Unit),jm b V tj x w->qD x=true->
 Cz 126 #[(b,0),(lev:Int),(d:Int)] w (qk b V tj w (x.bind fun _ _=>(.o:PR Ex)) (kr w.heap.size))
theorem CO.call{tj:List fH}{lev:Int}(a:CO b V tj lev d)(e:jm b V tj x w)(c:qD x=true):
 Cz 126 #[(b,0),(lev:Int),(d:Int)] w (qk b V tj w (x.bind fun _ _=>(.o:PR Ex)) (kr w.heap.size)):=a w x e c
theorem i5{α:Type}(a:qD x=true)(f g:Unit->List fH->PR α):x.bind f=x.bind g:=by
 cases x with
 |ok _ r=>cases a
 |_=>rfl
theorem AR{α:Type}{tj:List fH}(a:jm b V tj x w)(c:qD x=true)(f:Unit->List fH->PR α):zI (x.bind f):=by
 cases x with
 |ok _ r=>cases c
 |bad r=>trivial
 |deep r=>trivial
 |o=>exact absurd a id
theorem C6{α:Type}(a:qD x=true)(f:Unit->List fH->PR α):(x.bind f).un=x:=by
 cases x with
 |ok _ r=>cases a
 |_=>rfl
theorem RY{lev:Int}(a:qD x=true):ZP lev x=0:=by
 cases x with
 |ok _ r=>cases a
 |_=>rfl
theorem FL{α:Type}(c:qD x=true)(f:Unit->List fH->PR α){P:α->Prop}{a:α}(b:P a):ja (x.bind f) P:=by
 cases x with
 |ok _ r=>cases c
 |bad r=>exact⟨a,b⟩
 |deep r=>exact⟨a,b⟩
 |o=>trivial
theorem sR{tj:List fH}(g:jm b V tj x w)(i:qD x=true)(j:0<=d/\d<=1000)(f:Unit->List fH->PR Ex):
 Cz 148 #[(b,0),(d:Int)] w (qk b V tj w (x.bind f) (kr w.heap.size)):=by
 have k:∀w',jK b V tj w x w'->qk b V tj w (x.bind f) (kr w.heap.size) (.returned p4) w':=fun w' a=>⟨_,rfl,(C6 i f).symm▸a,FL i f (lL _ _)⟩
 by_cases l:d<=100
 .exact(sQ g j i l).mono fun e w' ⟨c,a⟩=>c▸k w' a
 .cases x with
  |ok _ r=>cases i
  |bad r=>exact(AO (r:=r) rfl g j rfl O).mono fun e w' ⟨c,a⟩=>c▸k w' a
  |deep r=>exact(lO (dp:=true) g j O).mono fun e w' ⟨c,a⟩=>c▸k w' a
  |o=>exact absurd g id
theorem RZ{tj:List fH}(k:0<=d/\d<=1000):CO b V tj 11 d:=by
 intro w x f i;have c:=U (kN.start f);have z:=U i;have u:=U (AR f i fun _ _=>(.o:PR Ex));have t:=U k;clear f i k;go_enter func126,ntmps126
 go_wp2_with (first
  | (go_at_call 148;(with_reducible refine(sR c.o.st z.o t.o fun _ _=>(.o:PR Ex)).mono ?_);rintro e _ ⟨v,rfl,j,g⟩
     obtain⟨l,m,n,p,q,r,s,rfl⟩:=jD g u.o;have E:=c.o.size;have y:=U g;replace c:=U (c.o.step j);clear j g
     obtain⟨⟨_,_,_,_,_⟩,_⟩:=c.o.own))
 obtain⟨A,f1,B,f3,C⟩:=c.o.read (.int .i64 l) (.int .i64 m) (.int .i64 n) (.string p) (.slice q r s);refine bodyPost_ret (v:=.agg #[(l:Int),(m:Int),(n:Int),p,(q,r,s)]) (by simp[results,results126,go_sem,A,f1,B,f3,C]) rfl ?_;exact c.o.fin rfl (y.o.imp fun a D=>kr.wj D E _ _ _ _ _)
theorem R0{tj:List fH}{lev:Int}(_:1<=lev)(_:lev<=10)(y:CO b V tj (lev+1) d):CO b V tj lev d:=by
 intro w x n r;have c:=U (kN.start n);have i:=U r;have u:=U (AR n r fun _ _=>(.o:PR Ex));have I:=U y;have X:=n.lt;clear n r y;go_enter func126,ntmps126
 go_wp2_with (first
  | (go_at_call 126;(with_reducible refine(I.o.call c.o.st i.o).mono ?_);rintro e g ⟨v,rfl,f,q⟩
     obtain⟨j,k,l,m,C,D,E,rfl⟩:=jD q u.o;have Y:=c.o.size;have J:=U q;rw[C6 i.o]at f;replace c:=U (c.o.step f);have Z:=c.o.size
     clear f q))
 have W:b<g.heap.size:=c.o.st.lt
 have K:=U (show ∃a,kN b V tj w x (g.alloc (.cells #[(j:Int),(k:Int),(l:Int),m,(C,D,E)] 147))/\FK (w.heap.size+1) g.heap.size (g.alloc (.cells #[(j:Int),(k:Int),(l:Int),m,(C,D,E)] 147)) a by
  obtain⟨a,A⟩:=J.o.some u.o;rw[zA]at A
  exact⟨a,c.o.alloc _,vz A⟩)
 go_loopw [8] (fun _ wr=>∃a,kN b V tj w x wr/\FK (w.heap.size+1) g.heap.size wr a) (fun _ wr=>0)
 case atStart=>exact K.o
 case round=>
  obtain⟨a,p,⟨j,k,l,m,t,F,G,s,z⟩⟩:=hrel;replace c:=U p;have M:=U z;have L:=U s;have S:=p.st.lt;have T:g.heap.size≠b:=O
  have aa:=c.o.size;have R:g.heap.size<wr.heap.size:=(Array.getElem?_eq_some_iff.1 s).1;clear p z s
  go_wp2_with (first
   | (go_at_call 149;(with_reducible refine(IW c.o.st lev 0 (RY i.o)).mono ?_);rintro e _ ⟨rfl,f⟩
      have H:=U f;have B:=jI f.off R T L.o;obtain⟨⟨_,_,_,_,_⟩,_⟩:=zh B;replace c:=U (c.o.step f);clear f B
      obtain⟨⟨_,_,_,_,_⟩,_⟩:=c.o.own))
  obtain⟨N,f1,P,f3,Q⟩:=c.o.read (.int .i64 j) (.int .i64 k) (.int .i64 l) (.string m) (.slice t F G);refine bodyPost_ret (v:=.agg #[(j:Int),(k:Int),(l:Int),m,(t,F,G)]) (by simp[results,results126,go_sem,N,f1,P,f3,Q]) rfl ?_;exact c.o.fin (C6 i.o _) (FL i.o _ (AQ M.o H.o S O))
theorem AS{tj:List fH}(a:0<=d/\d<=1000):∀(k:Nat) (lev:Int),lev=11-k->1<=lev->CO b V tj lev d
 | 0,lev,e,_=>by
   obtain rfl:lev=11:=O
   exact RZ a
 |k+1,lev,e,h1=>R0 h1 O (AS a k (lev+1) O O)
theorem WX{tj:List fH}{n:Nat}{lev:Int}(f:0<=d/\d<=1000)(e:1<=lev)(_:lev<=11)(c:jm b V tj x w)(a:qD x=true):
 Cz 126 #[(b,0),(lev:Int),(d:Int)] w (qk b V tj w (x.bind fun _ r=>pE n lev d r) (kr w.heap.size)):=by
 rw[i5 a (fun _ r=>pE n lev d r) fun _ _=>.o];exact AS f (11-lev).toNat lev O e w x c a
theorem sS(b:Nat)(V:C5)(tj:List fH):∀(n:Nat),∀m,m<=n->(∀lev d:Int,1<=lev->lev<=11->0<=d->d<=101->CE b V tj m lev d)/\(∀d:Int,0<=d->d<=101->CU b V tj m d)/\(∀d:Int,0<=d->d<=100->CP b V tj m d)/\(∀d:Int,0<=d->d<=101->CA b V tj m d)
 | 0,m,hm=>by
   obtain rfl:m=0:=O
   refine⟨fun lev d l u c g w x a i=>?_,fun d c g w x a i=>?_,fun d c g w x a i=>?_,fun d c g w x a i=>?_⟩
   .cases ho:qD x with
    |true=>exact WX ⟨c,O⟩ l u a ho
    |false=>
      cases x with
      |ok t r=>exact absurd (show zI (pE 0 lev d r)from i) (by rw[pE];exact id)
      |bad r=>cases ho
      |deep r=>cases ho
      |o=>exact absurd a id
   .cases ho:qD x with
    |true=>exact sR a ho ⟨c,O⟩ _
    |false=>
      cases x with
      |ok t r=>exact absurd (show zI (pU 0 d r)from i) (by rw[pU];exact id)
      |bad r=>cases ho
      |deep r=>cases ho
      |o=>exact absurd a id
   .cases ho:qD x with
    |true=>exact(ud a ho d).mono fun e w' ⟨s,p⟩=>s▸mP ho p ex0 (lL _ _)
    |false=>
      cases x with
      |ok t r=>exact absurd (show zI (pP 0 d r)from i) (by rw[pP];exact id)
      |bad r=>cases ho
      |deep r=>cases ho
      |o=>exact absurd a id
   .cases ho:qD x with
    |true=>exact(n7 a ho d).mono fun e w' ⟨s,p⟩=>s▸mP ho p [] (vj _ _)
    |false=>
      cases x with
      |ok t r=>exact absurd (show zI (pA 0 d r)from i) (by rw[pA];exact id)
      |bad r=>cases ho
      |deep r=>cases ho
      |o=>exact absurd a id
 | n+1,m,hm=>by
   have j:=sS b V tj n;by_cases B:m<=n
   .exact j m B
   .obtain rfl:m=n+1:=by omega
    have k:∀q,q<=n->∀lev d:Int,1<=lev->lev<=11->0<=d->d<=101->CE b V tj q lev d:=fun q f=>(j q f).1
    have v:∀q,q<=n->∀d:Int,0<=d->d<=101->CU b V tj q d:=fun q f=>(j q f).2.1
    have A:∀q,q<=n->∀d:Int,0<=d->d<=100->CP b V tj q d:=fun q f=>(j q f).2.2.1
    have z:∀q,q<=n->∀d:Int,0<=d->d<=101->CA b V tj q d:=fun q f=>(j q f).2.2.2
    refine⟨fun lev d l u c g=>?_,fun d c g=>?_,fun d c g=>?_,fun d c g=>?_⟩
    .by_cases y:lev=11
     .subst y
      exact RU (v n Zr d c g)
     .exact RX l O fun q f=>k q f (lev+1) d O O c g
    .exact NJ (fun a=>k n Zr 1 (d+1) O O O O) (fun a=>v n Zr (d+1) O O) (fun a=>A n Zr d c a) ⟨c,O⟩
    .exact RQ (fun q f=>k q f 1 (d+1) O O O O) (fun q f=>z q f (d+1) O O) ⟨c,O⟩
    .exact RT fun q f=>k q f 1 d O O c g
theorem vB{tj:List fH}(a:0<=d)(c:d<=101):CE b V tj n 1 d:=(sS b V tj n n Zr).1 1 d Uf Uf a c
theorem R1{tj:List fH}(a:0<=d)(c:d<=101):CA b V tj n d:=(sS b V tj n n Zr).2.2.2 d a c
abbrev ue:Obj:=.cells #[(0:Int),(0:Int),.string ⟨#[]⟩,(),(),()] 139
abbrev zcz:C5:=.agg #[(0:Int),(0:Int),.string ⟨#[]⟩,(),(),()]
def gX(L:Nat)(w:C4)(a:St)(v:C5):Prop:=
 match a with
 |.mk k ty td tc tg th=>∃b c d,v=.agg #[.int .i64 k,.int .i64 ty,.string td,b,c,d]/\je L w tc b/\xm L w tg c/\xm L w th d
theorem gX.keep{c:Nat}{w':C4}{a:St}(d:gX L w a v)(k:zL L w w')(b:c<=L):gX c w' a v:=by
 obtain⟨kk,_,td,tc,tg,th⟩:=a;obtain⟨j,l,m,i,e,f,g⟩:=d;exact⟨j,l,m,i,e.keep k b,f.keep k b,g.keep k b⟩
theorem gX.form{a:St}(i:gX L w a v):∃k t s b o e c p f d q g,v=.agg #[(k:Int),(t:Int),.string s,.slice b o e,.slice c p f,.slice d q g]:=by
 obtain⟨kk,_,td,tc,tg,th⟩:=a;obtain⟨_,_,_,n,j,l,m⟩:=i;obtain⟨b,e,rfl,_⟩:=j.form;obtain⟨c,f,rfl,_⟩:=l.form;obtain⟨d,g,rfl,_⟩:=m.form;exact⟨_,_,_,_,_,_,_,_,_,_,_,_,n⟩
theorem oL{x:PR St}(i:ja x fun a=>gX L w a v)(l:zI x):∃k t s b m e c n f d o g,v=.agg #[(k:Int),(t:Int),.string s,.slice b m e,.slice c n f,.slice d o g]:=by
 obtain⟨a,j⟩:=i.some l;exact j.form
theorem xa{x:PR (List St)}(d:ja x fun a=>xm L w a v)(f:zI x):∃b m c,v=.slice b m c:=by
 obtain⟨a,e⟩:=d.some f;obtain⟨b,c,g,_⟩:=e.form;exact⟨b,_,c,g⟩
theorem FM(L:Nat)(w:C4):je L w [] (.slice none 0 0):=vj _ _
theorem qy(L:Nat)(w:C4):xm L w [] (.slice none 0 0):=CF _ _
theorem y9{tj:List fH}(g:jm b V tj x w)(k:Int)(l:k≠3):
 Cz 55 #[(b,0),(k:Int)] w fun e w'=>∃s,e=.returned (.string s)/\jK b V tj w (x.bind fun _ r=>qt k r).un w'/\ja (x.bind fun _ r=>qt k r) fun a=>a=s:=by
 cases x with
 |ok _ r=>
   refine(n0 g k l).mono fun e w' ⟨v,d,c,f⟩=>?_
   show ∃s,_/\jK b V tj w (qt k r).un w'/\ja (qt k r) _;unfold qt at c f ⊢;by_cases i:gW r=k
   .rw[Dq i]at c f ⊢
    exact⟨_,by rw[d,show v=_ from f],c,rfl⟩
   .rw[Dp i]at c f ⊢
    obtain⟨a,j⟩:=f;exact⟨a,by rw[d,show v=_ from j],c,a,rfl⟩
 |bad r=>exact(z7 g rfl k).mono fun e w' ⟨d,c⟩=>⟨_,d,c,_,rfl⟩
 |deep r=>exact(z7 g rfl k).mono fun e w' ⟨d,c⟩=>⟨_,d,c,_,rfl⟩
 |o=>exact absurd g id
def zbx(L:Nat)(w:C4)(a:Ex)(v:C5):Prop:=je L w [a] v
theorem R2(n:Nat)(x:PR Unit):(x.bind fun _ r=>pI n r)=((x.bind fun _ r=>zN [40] r).bind fun _ r=>pE n 1 1 r).bind fun e r=>(zN [41] r).bind fun _ r=>.ok e r:=by
 rw[zb,zb];rfl
theorem zAf{tj:List fH}(g:jm b V tj x w)(l:zI (x.bind fun _ r=>pI n r)):
 Cz 127 #[(b,0)] w (qk b V tj w (x.bind fun _ r=>pI n r) (zbx w.heap.size)):=by
 rw[R2]at l ⊢;have p:=U (qM l);have c:=C2 (jK b V tj w x w) ⟨g,fI.refl _ _ _⟩;have C:=g.lt;have y:=U (vB (b:=b) (V:=V) (tj:=tj) (n:=n) (d:=1) Uf Uf);clear g l;go_enter func127,ntmps127
 go_wp2_with (first
  | (go_at_call 58;(with_reducible refine(zg c.o.st ⟨#[40]⟩).mono ?_);rintro e t ⟨rfl,f⟩
     replace c:=C2 (jK b V tj w (x.bind fun _ r=>zN [40] r) t) (c.o.after f);have q:=c.o.off.size
     clear f)
  | (go_at_call 126;(with_reducible refine(y.o.call c.o.st p.o).mono ?_);rintro e u ⟨v,rfl,f,i⟩
     obtain⟨_,_,_,_,_,_,_,rfl⟩:=jD i p.o;have z:=U i;have A:=c.o.st.lt;replace c:=U (c.o.after f);have B:u.heap.size≠b:=by have:=c.o.st.lt;omega
     have D:=c.o.off.size
     clear f i)
  | (go_at_call 58;(with_reducible refine(zg (c.o.alloc _).st ⟨#[41]⟩).mono ?_);rintro e _ ⟨rfl,f⟩
     have m:=U ((zL.wb (L:=t.heap.size) (Zb.alloc Zr _)).trans (zL.did f A));obtain⟨_,_⟩:=rE f.off (k:=u.heap.size) Uh B;replace c:=U ((c.o.alloc _).after f);have s:=c.o.off.size
     clear f))
 go_ret;refine⟨_,rfl,?_,ja.bind z.o (fun a r _ j=>vL (uL (kr.keep j m.o Zr) q s rfl)) fun a j=>⟨a,uL (kr.keep j m.o Zr) q s rfl⟩⟩;rw[jj];simp only[xY];rw[<-rC];exact c.o.alloc _
abbrev gY(W:C4)(g:Nat)(a b c d e f:C5):C4:=((((((W.setCell (g,0) a).setCell (g,1) b).setCell (g,2) c).setCell (g,3) d).setCell (g,4) e).setCell (g,5) f)
theorem yM(W:C4)(g:Nat)(a b c d e f:C5):(gY W g a b c d e f).heap.size=W.heap.size:=by simp[gY]
theorem AT{i j k l m n:C5}{fr:Nat×Nat}(o:W.heap[g]?=some (.cells #[i,j,k,l,m,n] T fr))(a b c d e f:C5):(gY W g a b c d e f).heap[g]?=some (.cells #[a,b,c,d,e,f] T fr):=
 D3 (D3 (D3 (D3 (D3 (D3 o a) b) c) d) e) f
theorem FN{k:Nat}(a:k≠g)(b c d e f i:C5):(gY W g b c d e f i).heap[k]?=W.heap[k]?:=by
 rw[Dw _ _ _ _ Uu,Dw _ _ _ _ Uu,Dw _ _ _ _ Uu,Dw _ _ _ _ Uu,Dw _ _ _ _ Uu,Dw _ _ _ _ Uu]
theorem zL.wh(a:g<L)(b c d e f i:C5):zL L w (gY w g b c d e f i):=
 (((((zL.set a 0 b).trans (zL.set a 1 c)).trans (zL.set a 2 d)).trans (zL.set a 3 e)).trans (zL.set a 4 f)).trans (zL.set a 5 i)
theorem qU{b c d e f i:C5}(a:W.heap[g]?=some (.cells #[b,c,d,e,f,i] T (0,0))):
 (W.cell? (g,0)=some b/\W.cell? (g,1)=some c/\W.cell? (g,2)=some d/\W.cell? (g,3)=some e/\W.cell? (g,4)=some f/\W.cell? (g,5)=some i)/\∀o,W.frozen? ⟨g,o,none⟩=false:=by
 refine⟨⟨(Du a 0).trans rfl,(Du a 1).trans rfl,(Du a 2).trans rfl,(Du a 3).trans rfl,(Du a 4).trans rfl,(Du a 5).trans rfl⟩,fun o=>?_⟩;simp[World.frozen?,a]
def jv(b:Nat)(V:C5)(tj:List fH)(w:C4)(x:PR Unit)(W:C4):Prop:=jK b V tj w x W/\W.heap[w.heap.size]?=some ue/\k5 b V tj w/\b<w.heap.size
section
variable {b:Nat}{V:C5}{tj:List fH} {w W W':C4}{x y:PR Unit}
theorem jv.start(h:jm b V tj x w):jv b V tj w x (w.alloc ue):=
 ⟨⟨h.below (Zb.alloc Zr _),fI.wb (Zb.alloc Zr _) h.lt⟩,Ds w ue,h.tok,h.lt⟩
theorem jv.st(h:jv b V tj w x W):jm b V tj x W:=h.1.1
theorem jv.size(h:jv b V tj w x W):w.heap.size<W.heap.size:=(Array.getElem?_eq_some_iff.1 h.2.1).1
theorem jv.ne(h:jv b V tj w x W):w.heap.size≠b:=Jv
theorem jv.lt(h:jv b V tj w x W):b<w.heap.size:=h.2.2.2
theorem jv.step(h:jv b V tj w x W)(g:jK b V tj W y W'):jv b V tj w y W':=⟨h.1.after g,jI g.off h.size h.ne h.2.1,h.2.2⟩
theorem jv.alloc(h:jv b V tj w x W)(o:Obj):jv b V tj w x (W.alloc o):=⟨h.1.alloc o,zu h.2.1 o,h.2.2⟩
theorem jv.own(h:jv b V tj w x W):(W.cell? (w.heap.size,0)=some (.int .i64 0)/\W.cell? (w.heap.size,1)=some (.int .i64 0)/\W.cell? (w.heap.size,2)=some (.string ⟨#[]⟩)/\
 W.cell? (w.heap.size,3)=some (.slice none 0 0)/\W.cell? (w.heap.size,4)=some (.slice none 0 0)/\W.cell? (w.heap.size,5)=some (.slice none 0 0))/\∀o,W.frozen? ⟨w.heap.size,o,none⟩=false:=qU h.2.1
theorem jv.set(h:jv b V tj w x W){g:Nat}(_:w.heap.size<g)(i:Nat)(u:C5):jv b V tj w x (W.setCell (g,i) u):=
 ⟨h.1.set h.2.2.1 O Jv i u,(Dw W _ u _ (by show w.heap.size≠g;omega)).trans h.2.1,h.2.2⟩
theorem jK.wh(m:jK b V tj w x W)(d:k5 b V tj w){g:Nat}(c:w.heap.size<=g)(a:g≠b)(e f i j k l:C5):jK b V tj w x (gY W g e f i j k l):=
 (((((m.set d c a 0 e).set d c a 1 f).set d c a 2 i).set d c a 3 j).set d c a 4 k).set d c a 5 l
theorem jv.fin(j:jv b V tj w y W){X:PR St}(l:X.un=y){c d e f g i:C5}(k:ja X fun a=>gX w.heap.size (gY W w.heap.size c d e f g i) a (.agg #[c,d,e,f,g,i])):
 qk b V tj w X (gX w.heap.size) (.returned (.agg #[c,d,e,f,g,i])) (gY W w.heap.size c d e f g i):=
 ⟨_,rfl,l▸j.1.wh j.2.2.1 Zr j.ne _ _ _ _ _ _,k⟩
theorem jv.df(j:jv b V tj w y W){X:PR St}(l:X.un=y){o:Obj}{c d e f g i:C5}(k:ja X fun a=>gX w.heap.size ((_root_.Go.Proofs.YthcmenajdcbnnaaGreatDoor.gY W w.heap.size c d e f g i).alloc o) a (.agg #[c,d,e,f,g,i])):
 qk b V tj w X (gX w.heap.size) (.returned (.agg #[c,d,e,f,g,i])) ((_root_.Go.Proofs.YthcmenajdcbnnaaGreatDoor.gY W w.heap.size c d e f g i).alloc o):=
 ⟨_,rfl,l▸(j.1.wh j.2.2.1 Zr j.ne _ _ _ _ _ _).alloc o,k⟩
theorem jv.read(i:jv b V tj w x W)(a c d e f g:C5):(((((((W.setCell (w.heap.size,0) a).setCell (w.heap.size,1) c).setCell (w.heap.size,2) d).setCell (w.heap.size,3) e).setCell (w.heap.size,4) f).setCell (w.heap.size,5) g)).cell? (w.heap.size,0)=some a/\(((((((W.setCell (w.heap.size,0) a).setCell (w.heap.size,1) c).setCell (w.heap.size,2) d).setCell (w.heap.size,3) e).setCell (w.heap.size,4) f).setCell (w.heap.size,5) g)).cell? (w.heap.size,1)=some c/\(((((((W.setCell (w.heap.size,0) a).setCell (w.heap.size,1) c).setCell (w.heap.size,2) d).setCell (w.heap.size,3) e).setCell (w.heap.size,4) f).setCell (w.heap.size,5) g)).cell? (w.heap.size,2)=some d/\(((((((W.setCell (w.heap.size,0) a).setCell (w.heap.size,1) c).setCell (w.heap.size,2) d).setCell (w.heap.size,3) e).setCell (w.heap.size,4) f).setCell (w.heap.size,5) g)).cell? (w.heap.size,3)=some e/\(((((((W.setCell (w.heap.size,0) a).setCell (w.heap.size,1) c).setCell (w.heap.size,2) d).setCell (w.heap.size,3) e).setCell (w.heap.size,4) f).setCell (w.heap.size,5) g)).cell? (w.heap.size,4)=some f/\(((((((W.setCell (w.heap.size,0) a).setCell (w.heap.size,1) c).setCell (w.heap.size,2) d).setCell (w.heap.size,3) e).setCell (w.heap.size,4) f).setCell (w.heap.size,5) g)).cell? (w.heap.size,5)=some g:=(qU (AT i.2.1 a c d e f g)).1
theorem jv.wv(i:jv b V tj w x W)(o:Obj)(a c d e f g:C5):((((((((W.setCell (w.heap.size,0) a).setCell (w.heap.size,1) c).setCell (w.heap.size,2) d).setCell (w.heap.size,3) e).setCell (w.heap.size,4) f).setCell (w.heap.size,5) g)).alloc o).cell? (w.heap.size,0)=some a/\((((((((W.setCell (w.heap.size,0) a).setCell (w.heap.size,1) c).setCell (w.heap.size,2) d).setCell (w.heap.size,3) e).setCell (w.heap.size,4) f).setCell (w.heap.size,5) g)).alloc o).cell? (w.heap.size,1)=some c/\((((((((W.setCell (w.heap.size,0) a).setCell (w.heap.size,1) c).setCell (w.heap.size,2) d).setCell (w.heap.size,3) e).setCell (w.heap.size,4) f).setCell (w.heap.size,5) g)).alloc o).cell? (w.heap.size,2)=some d/\((((((((W.setCell (w.heap.size,0) a).setCell (w.heap.size,1) c).setCell (w.heap.size,2) d).setCell (w.heap.size,3) e).setCell (w.heap.size,4) f).setCell (w.heap.size,5) g)).alloc o).cell? (w.heap.size,3)=some e/\((((((((W.setCell (w.heap.size,0) a).setCell (w.heap.size,1) c).setCell (w.heap.size,2) d).setCell (w.heap.size,3) e).setCell (w.heap.size,4) f).setCell (w.heap.size,5) g)).alloc o).cell? (w.heap.size,4)=some f/\((((((((W.setCell (w.heap.size,0) a).setCell (w.heap.size,1) c).setCell (w.heap.size,2) d).setCell (w.heap.size,3) e).setCell (w.heap.size,4) f).setCell (w.heap.size,5) g)).alloc o).cell? (w.heap.size,5)=some g:=(qU (zu (AT i.2.1 a c d e f g) o)).1
end
theorem oM(n:Nat)(x:PR Unit):(x.bind fun _ r=>q7 n r)=(x.bind fun _ r=>qt 1 r).bind fun s r=>
 if zq [40] r=true then(pA n 2 r.tail).bind fun a r=>.ok (.mk 10 0 bE [.mk 7 0 0 s a] [] []) r
 else if zq [91] r=true then(pE n 1 1 r.tail).bind fun e r=>(zN [93] r).bind fun _ r=>(zN [61] r).bind fun _ r=>(pE n 1 1 r).bind fun f r=>.ok (.mk 3 0 s [e,f] [] []) r
 else(zN [61] r).bind fun _ r=>(pE n 1 1 r).bind fun e r=>.ok (.mk 2 0 s [e] [] []) r:=by
 rw[zb];rfl
theorem zby{α:Type}{x:PR α}(h:x.un=.ok () r):∃a,x=.ok a r:=by
 cases x with
 |ok a q=>
   have:q=r:=by injection h
   exact⟨a,by rw[this]⟩
 |bad q=>cases h
 |deep q=>cases h
 |o=>cases h
theorem w3{k o n:Int}{s:C3}{a:List Ex}{b:C5}{T:TypeId}(c:je L W a b)(f:fT n)(d:L<=W.heap.size)(e:g=W.heap.size):
 je L (W.alloc (.cells #[(k:Int),(o:Int),(n:Int),s,b] T)) [.mk k o n s a] (.slice (some ⟨g,0,none⟩) 1 1):=
 uL (L:=L) (show kr L W (.mk k o n s a) _ from⟨b,rfl,f,c⟩) Zr d e
theorem r64:fT 0:=⟨Uf,Uf⟩
theorem I0{tj:List fH}(i:jm b V tj x w)(l:(x.bind fun _ r=>qt 1 r)=.ok s r)(j:zq [40] r=true)(k:zI (x.bind fun _ r=>q7 n r)):
 Cz 128 #[(b,0)] w (qk b V tj w (x.bind fun _ r=>q7 n r) (gX w.heap.size)):=by
 have p:(x.bind fun _ r=>q7 n r)=(pA n 2 r.tail).bind fun g r=>.ok (.mk 10 0 bE [.mk 7 0 0 s g] [] []) r:=by
  rw[oM,l];show(if zq [40] r=true then _ else _)=_;rw[Dq j]
 rw[p]at k ⊢;have m:=C2 (zI ((PR.ok () r.tail).bind fun _ r=>pA n 2 r)) (qM k);have a:=U (jv.start i);have z:=U l;have A:=C2 (zU (⟨#[40]⟩:C3).data.toList (PR.ok () r)=true) j;have u:=U (R1 (b:=b) (V:=V) (tj:=tj) (n:=n) (d:=2) Uf Uf);have M:=i.lt;clear i l j k p;go_enter func128,ntmps128
 go_wp2_with (first
  | (go_at_call 55;(with_reducible refine(y9 a.o.st 1 Uf).mono ?_);rintro e K ⟨J,rfl,c,f⟩
     rw[z.o]at c f;obtain rfl:s=J:=f;replace a:=C2 (jv b V tj w (.ok () r) K) (a.o.step c)
     clear c)
  | (go_at_call 56;(with_reducible refine(qA a.o.st _ A.o).mono ?_);rintro e L ⟨rfl,c⟩
     replace a:=C2 (jv b V tj w (.ok () r.tail) L) (a.o.step c);have F:=a.o.size
     clear c)
  | (go_at_call 150;(with_reducible refine(u.o.call a.o.st m.o).mono ?_);rintro e t ⟨v,rfl,c,f⟩
     obtain⟨G,H,I,rfl⟩:=AA f m.o;have y:=U f;replace a:=U (a.o.step c);have N:=a.o.size;obtain⟨⟨_,_,_,_,_,_⟩,_⟩:=a.o.own
     clear c f))
 obtain⟨B,f1,C,f3,D,E⟩:=a.o.wv (.cells #[(7:Int),(0:Int),(0:Int),s,(G,H,I)] 147) (.int .i64 10) (.int .i64 0) (.string ⟨#[]⟩) (.slice (some ⟨t.heap.size,0,none⟩) 1 1) (.slice none 0 0) (.slice none 0 0);refine bodyPost_ret (v:=.agg #[(10:Int),(0:Int),.string ⟨#[]⟩,.slice (some ⟨t.heap.size,0,none⟩) 1 1,(),()]) (by simp[results,results128,go_sem,B,f1,C,f3,D,E]) rfl ?_;refine a.o.df Kt (ja.bind y.o (fun g r _ q=>?_) fun g q=>⟨.mk 10 0 bE [.mk 7 0 0 s g] [] [],?_⟩)
 all_goals exact⟨_,_,_,rfl,w3 (je.keep q (zL.wh F _ _ _ _ _ _) O) r64 Gj (yM _ _ _ _ _ _ _ _).symm,qy _ _,qy _ _⟩
theorem i6{tj:List fH}(G:jm b V tj x w)(l:zU [40] (x.bind fun _ r=>qt 1 r)=false)(m:zU [91] (x.bind fun _ r=>qt 1 r)=false)(p:zI (x.bind fun _ r=>q7 n r)):
 Cz 128 #[(b,0)] w (qk b V tj w (x.bind fun _ r=>q7 n r) (gX w.heap.size)):=by
 have F:(x.bind fun _ r=>q7 n r)=(x.bind fun _ r=>qt 1 r).bind fun s r=>(zN [61] r).bind fun _ r=>(pE n 1 1 r).bind fun e r=>.ok (.mk 2 0 s [e] [] []) r:=by
  rw[oM];cases hx:(x.bind fun _ r=>qt 1 r)with
  |ok s r=>
    rw[hx]at l m;show(if zq [40] r=true then _ else _)=_;rw[Dp (by rw[show zq [40] r=false from l];decide),Dp (by rw[show zq [91] r=false from m];decide)];rfl
  |_=>rfl
 obtain⟨g,I⟩:=C0 ((x.bind fun _ r=>qt 1 r));rw[I]at F l m;rw[F]at p ⊢
 have M:(g.bind fun s r=>(zN [61] r).bind fun _ r=>(pE n 1 1 r).bind fun e r=>PR.ok (St.mk 2 0 s [e] [] []) r)=g.bind fun s r=>((zN [61] r).bind fun _ r=>pE n 1 1 r).bind fun e r=>PR.ok (St.mk 2 0 s [e] [] []) r:=by
  simp only[zb]
 have L:zI ((g.un.bind fun _ r=>zN [61] r).bind fun _ r=>pE n 1 1 r):=by
  rw[M]at p;cases g with
  |ok s r=>exact qM p
  |_=>exact p
 have K:=U L;have c:=U (jv.start G);have R:=U I;have H:∀t,zU t g.un=zU t g:=fun t=>by cases g<;>rfl
 have S:=C2 (zU (⟨#[40]⟩:C3).data.toList g.un=false) ((H _).trans l);have T:=C2 (zU (⟨#[91]⟩:C3).data.toList g.un=false) ((H _).trans m);have N:=U (vB (b:=b) (V:=V) (tj:=tj) (n:=n) (d:=1) Uf Uf);have ae:=G.lt;clear G I l m p F M L H;go_enter func128,ntmps128
 go_wp2_with (first
  | (go_at_call 55;(with_reducible refine(y9 c.o.st 1 Uf).mono ?_);rintro e _ ⟨s,rfl,f,i⟩
     rw[R.o]at f i;have Q:=U i;replace c:=U (c.o.step f)
     clear f i)
  |(go_at_call 56;(with_reducible refine(zE c.o.st _ S.o).mono ?_);rintro e _ ⟨rfl,f⟩;replace c:=U (c.o.step f);clear f)
  |(go_at_call 56;(with_reducible refine(zE c.o.st _ T.o).mono ?_);rintro e _ ⟨rfl,f⟩;replace c:=U (c.o.step f);clear f)
  | (go_at_call 58;(with_reducible refine(zg c.o.st ⟨#[61]⟩).mono ?_);rintro e J ⟨rfl,f⟩
     replace c:=C2 (jv b V tj w (g.un.bind fun _ r=>zN [61] r) J) (c.o.step f);have ad:=c.o.size
     clear f)
  | (go_at_call 126;(with_reducible refine(N.o.call c.o.st K.o).mono ?_);rintro e k ⟨v,rfl,f,i⟩
     obtain⟨u,y,z,A,B,C,D,rfl⟩:=jD i K.o;have P:=U i;replace c:=U (c.o.step f);have af:=c.o.size;obtain⟨⟨_,_,_,_,_,_⟩,_⟩:=c.o.own
     clear f i))
 obtain⟨W,f1,X,f3,Y,Z⟩:=c.o.wv (.cells #[(u:Int),(y:Int),(z:Int),A,(B,C,D)] 147) (.int .i64 2) (.int .i64 0) (.string s) (.slice (some ⟨k.heap.size,0,none⟩) 1 1) (.slice none 0 0) (.slice none 0 0);refine bodyPost_ret (v:=.agg #[(2:Int),(0:Int),s,.slice (some ⟨k.heap.size,0,none⟩) 1 1,(),()]) (by simp[results,results128,go_sem,W,f1,X,f3,Y,Z]) rfl ?_
 have q:∀e,kr J.heap.size k e (.agg #[(u:Int),(y:Int),(z:Int),A,(B,C,D)])->gX w.heap.size ((gY k w.heap.size (.int .i64 2) (.int .i64 0) (.string s) (.slice (some ⟨k.heap.size,0,none⟩) 1 1) (.slice none 0 0) (.slice none 0 0)).alloc (.cells #[(u:Int),(y:Int),(z:Int),A,(B,C,D)] 147)) (.mk 2 0 s [e] [] []) (.agg #[(2:Int),(0:Int),s,.slice (some ⟨k.heap.size,0,none⟩) 1 1,(),()]):=fun e j=>
  ⟨_,_,_,rfl,uL (kr.keep j (zL.wh ad _ _ _ _ _ _) Zr) O Gj (yM _ _ _ _ _ _ _ _).symm,qy _ _,qy _ _⟩
 have i:=P.o;have ab:=Q.o;refine c.o.df ?_ ?_
 .cases g with
  |ok E r=>
    show((zN [61] r).bind fun _ r=>(pE n 1 1 r).bind fun e r=>PR.ok (St.mk 2 0 E [e] [] []) r).un=((zN [61] r).bind fun _ r=>pE n 1 1 r).un;rw[<-zb,jj];rfl
  |_=>rfl
 .cases g with
  |ok E r=>
    obtain rfl:E=s:=ab;have aa:ja (((zN [61] r).bind fun _ r=>pE n 1 1 r)) fun a=>kr J.heap.size k a (.agg #[(u:Int),(y:Int),(z:Int),A,(B,C,D)]):=i
    show ja ((zN [61] r).bind fun _ r=>(pE n 1 1 r).bind fun e r=>PR.ok (St.mk 2 0 E [e] [] []) r) _;rw[<-zb];exact aa.bind (fun e r _ j=>q e j) fun e j=>⟨_,q e j⟩
  |bad r=>obtain⟨e,j⟩:=i;exact⟨_,q e j⟩
  |deep r=>obtain⟨e,j⟩:=i;exact⟨_,q e j⟩
  |o=>trivial
theorem jK.drew0{tj:List fH}{w':C4}(a:jK b V tj w.drew x w')(c:b<w.heap.size):jK b V tj w x w':=⟨a.1,(fI.wb (D4 w.heap.size w).drew c).trans a.2⟩
theorem jv.drew{tj:List fH}(h:jv b V tj w x W):jv b V tj w x W.drew:=h.step ⟨h.st.below Zb.drew,fI.wb Zb.drew h.st.lt⟩
def I1(n:Nat)(s:C3)(r:List fH):PR St:=(pE n 1 1 r).bind fun e r=>(zN [93] r).bind fun _ r=>(zN [61] r).bind fun _ r=>(pE n 1 1 r).bind fun f r=>.ok (.mk 3 0 s [e,f] [] []) r
def FO(n:Nat)(r:List fH):PR Unit:=(((PR.ok () r).bind fun _ r=>pE n 1 1 r).un.bind fun _ r=>zN [93] r).bind fun _ r=>zN [61] r
theorem R3(a:zI (I1 n s r)):zI ((FO n r).bind fun _ r=>pE n 1 1 r):=by
 unfold I1 at a;unfold FO;show zI ((((pE n 1 1 r).un.bind fun _ r=>zN [93] r).bind fun _ r=>zN [61] r).bind fun _ r=>pE n 1 1 r);cases hx:pE n 1 1 r with
 |ok e r=>
   rw[hx]at a;have b:zI ((zN [93] r).bind fun _ r=>(zN [61] r).bind fun _ r=>(pE n 1 1 r).bind fun f r=>.ok (St.mk 3 0 s [e,f] [] []) r):=a;show zI ((((zN [93] r)).bind fun _ r=>zN [61] r).bind fun _ r=>pE n 1 1 r);rw[<-zb,<-zb]at b;exact qM b
 |bad r=>trivial
 |deep r=>trivial
 |o=>rw[hx]at a;exact a
theorem zae:(I1 n s r).un=((FO n r).bind fun _ r=>pE n 1 1 r).un:=by
 unfold I1 FO;show _=((((pE n 1 1 r).un.bind fun _ r=>zN [93] r).bind fun _ r=>zN [61] r).bind fun _ r=>pE n 1 1 r).un;cases pE n 1 1 r with
 |ok e r=>
   show((zN [93] r).bind fun _ r=>(zN [61] r).bind fun _ r=>(pE n 1 1 r).bind fun f r=>PR.ok (St.mk 3 0 s [e,f] [] []) r).un=((((zN [93] r)).bind fun _ r=>zN [61] r).bind fun _ r=>pE n 1 1 r).un;rw[<-zb,<-zb,jj];rfl
 |_=>rfl
theorem WY{P1 P2:Ex->Prop}{Q:St->Prop}(a:ja ((PR.ok () r).bind fun _ r=>pE n 1 1 r) P1)(g:ja ((FO n r).bind fun _ r=>pE n 1 1 r) P2)(c:zI ((FO n r).bind fun _ r=>pE n 1 1 r))(i:∀e f,P1 e->P2 f->Q (.mk 3 0 s [e,f] [] [])):ja (I1 n s r) Q:=by
 obtain⟨k,l⟩:=g.some c;unfold I1;unfold FO at g;cases hx:pE n 1 1 r with
 |ok e b=>
   have d:((PR.ok () r).bind fun _ r=>pE n 1 1 r)=.ok e b:=hx;rw[d]at a g;show ja ((zN [93] b).bind fun _ r=>(zN [61] r).bind fun _ r=>(pE n 1 1 r).bind fun f r=>PR.ok (St.mk 3 0 s [e,f] [] []) r) Q;have m:ja ((((zN [93] b)).bind fun _ r=>zN [61] r).bind fun _ r=>pE n 1 1 r) P2:=g;rw[<-zb,<-zb];exact m.bind (fun f r _ j=>i e f a j) fun f j=>⟨_,i e f a j⟩
 |bad b=>
   have d:((PR.ok () r).bind fun _ r=>pE n 1 1 r)=.bad b:=hx;rw[d]at a;obtain⟨e,c⟩:=a;exact⟨_,i e k c l⟩
 |deep b=>
   have d:((PR.ok () r).bind fun _ r=>pE n 1 1 r)=.deep b:=hx;rw[d]at a;obtain⟨e,c⟩:=a;exact⟨_,i e k c l⟩
 |o=>trivial
theorem zaf{a:Nat}{e m:Ex}{op n c f d:Int}{i:C3}{j l:C5}{T:TypeId}(q:kr L W e (.agg #[(k:Int),(op:Int),(n:Int),s,j]))(r:kr L W m (.agg #[(c:Int),(f:Int),(d:Int),i,l]))(o:a<=L)(t:a<=W.heap.size)(u:g=W.heap.size):
 je a (W.alloc (.cells #[(k:Int),(op:Int),(n:Int),s,j,(c:Int),(f:Int),(d:Int),i,l] T)) [e,m] (.slice (some ⟨g,0,none⟩) 2 2):=by
 subst u;have p:=zL.wb (L:=L) ((D4 W.heap.size W).alloc Zr (.cells #[(k:Int),(op:Int),(n:Int),s,j,(c:Int),(f:Int),(d:Int),i,l] T));obtain⟨tc,rfl,v,y⟩:=n3 (q.keep p o);obtain⟨_,rfl,x,z⟩:=n3 (r.keep p o);exact KQ (w:=fW (nS a) _) (b:=W.heap.size) ((l9 (kt.2 t)).trans (Ds W _)) Uh v y x z
theorem NK{tj:List fH}(F:jm b V tj x w)(J:(x.bind fun _ r=>qt 1 r)=.ok s r)(G:zq [40] r=false)(H:zq [91] r=true)(A:zI (x.bind fun _ r=>q7 n r)):
 Cz 128 #[(b,0)] w (qk b V tj w (x.bind fun _ r=>q7 n r) (gX w.heap.size)):=by
 have aa:(x.bind fun _ r=>q7 n r)=I1 n s r.tail:=by
  rw[oM,J];show(if zq [40] r=true then _ else _)=_;rw[Dp (by rw[G];decide),Dq H];rfl
 rw[aa]at A ⊢;have ab:=R3 A;have X:=C2 (zI ((PR.ok () r.tail).bind fun _ r=>pE n 1 1 r)) (qM A);have E:=U ab;have a:=U (jv.start F);have ak:=U J;have al:=C2 (zU (⟨#[40]⟩:C3).data.toList (PR.ok () r)=false) G;have am:=C2 (zU (⟨#[91]⟩:C3).data.toList (PR.ok () r)=true) H;have W:=U (vB (b:=b) (V:=V) (tj:=tj) (n:=n) (d:=1) Uf Uf);have aL:=F.lt;clear F J G H A aa ab;go_enter func128,ntmps128
 go_wp2_with (first
  | (go_at_call 55;(with_reducible refine(y9 a.o.st 1 Uf).mono ?_);rintro e aI ⟨aH,rfl,c,i⟩
     rw[ak.o]at c i;obtain rfl:s=aH:=i;replace a:=C2 (jv b V tj w (.ok () r) aI) (a.o.step c)
     clear c)
  |(go_at_call 56;(with_reducible refine(zE a.o.st _ al.o).mono ?_);rintro e _ ⟨rfl,c⟩;replace a:=U (a.o.step c);clear c)
  | (go_at_call 56;(with_reducible refine(qA a.o.st _ am.o).mono ?_);rintro e C ⟨rfl,c⟩
     replace a:=C2 (jv b V tj w (.ok () r.tail) C) (a.o.step c);have ay:=a.o.size
     clear c)
  | (go_at_call 126;(with_reducible refine(W.o.call a.o.st X.o).mono ?_);rintro e g ⟨v,rfl,c,i⟩
     obtain⟨K,M,N,P,Q,R,S,rfl⟩:=jD i X.o;have af:=U i;have I:=a.o.st.lt;replace a:=U (a.o.step c);have aM:=a.o.size;have z:g.heap.size≠b:=by have:=a.o.st.lt;omega
     have aJ:=c.off.size
     clear c i)
  | (go_at_call 58;(with_reducible refine(zg (a.o.alloc (.cells #[.int .i64 K,.int .i64 M,.int .i64 N,.string P,.slice Q R S] 147)).st ⟨#[93]⟩).mono ?_);rintro e ae ⟨rfl,c⟩
     have ah:=U ((zL.wb (L:=C.heap.size) (Zb.alloc Zr _)).trans (zL.did c I));have Y:=U (jI c.off (k:=g.heap.size) Uh z (Ds g _));replace a:=C2 (jv b V tj w (((PR.ok () r.tail).bind fun _ r=>pE n 1 1 r).un.bind fun _ r=>zN [93] r) ae) ((a.o.alloc _).step c);have az:g.heap.size<ae.heap.size:=(Array.getElem?_eq_some_iff.1 Y.o).1
     clear c)
  | (go_at_call 58;(with_reducible refine(zg a.o.st ⟨#[61]⟩).mono ?_);rintro e l ⟨rfl,c⟩
     have ai:=U (ah.o.trans (zL.did c I));have B:=jI c.off (k:=g.heap.size) az z Y.o;have Z:=U B;obtain⟨⟨_,_,_,_,_⟩,_⟩:=zh B;replace a:=C2 (jv b V tj w (FO n r.tail) l) (a.o.step c);have ad:g.heap.size<l.heap.size:=(Array.getElem?_eq_some_iff.1 B).1
     clear c B))
 go_region_held3 (fun w'=>w'.cell? (g.heap.size,0)=some (.int .i64 K)/\w'.cell? (g.heap.size,1)=some (.int .i64 M)/\w'.cell? (g.heap.size,2)=some (.int .i64 N)/\w'.cell? (g.heap.size,3)=some (.string P)/\w'.cell? (g.heap.size,4)=some (.slice Q R S))
  (first
    |(go_split_ands;refine⟨?_,?_,?_,?_,?_⟩ <;>(rw[av];assumption))
    |(go_split_ands;refine⟨?_,?_,?_,?_,?_⟩ <;>(rw[aw];assumption))
    |go_keep)
  (first
    | (go_at_call 126;(refine(W.o.call (a.o.drew).st E.o).mono ?_);rintro e D ⟨v,rfl,c,i⟩
       obtain⟨aA,aB,aC,aD,aE,aF,aG,rfl⟩:=jD i E.o;have ag:=U i;have av:∀o,D.cell? ⟨g.heap.size,o,none⟩=l.cell? ⟨g.heap.size,o,none⟩:=(rE c.off (k:=g.heap.size) ad z).1;have aj:=U (ai.o.trans (zL.did (c.drew0 a.o.st.lt) I));have aK:=c.off.size;have ax:=jI c.off (k:=g.heap.size) ad z Z.o
       have aw:∀(m p q t u y:C5) (T:Obj) (j:Nat),((gY D w.heap.size m p q t u y).alloc T).cell? ⟨g.heap.size,j,none⟩=l.cell? ⟨g.heap.size,j,none⟩:=fun m p q t u y T j=>
        (Du (zu ((FN (show g.heap.size≠w.heap.size by omega) m p q t u y).trans ax) T) j).trans (Du Z.o j).symm
       replace a:=U (a.o.drew.step c);have aN:=a.o.size;obtain⟨⟨m,p,q,t,u,y⟩,_⟩:=a.o.own
       clear c i))
 go_wp2_with fail;obtain⟨an,f1,ao,f3,ap,aq⟩:=a.o.wv (.cells #[(K:Int),(M:Int),(N:Int),P,(Q,R,S),(aA:Int),(aB:Int),(aC:Int),aD,(aE,aF,aG)] 147) (.int .i64 3) (.int .i64 0) (.string s) (.slice (some ⟨D.heap.size,0,none⟩) 2 2) (.slice none 0 0) (.slice none 0 0);refine bodyPost_ret (v:=.agg #[(3:Int),(0:Int),s,.slice (some ⟨D.heap.size,0,none⟩) 2 2,(),()]) (by simp[results,results128,go_sem,an,f1,ao,f3,ap,aq]) rfl ?_;refine a.o.df zae (WY af.o ag.o E.o fun e f ar au=>?_);refine⟨_,_,_,rfl,?_,qy _ _,qy _ _⟩;refine zaf (L:=C.heap.size) (kr.keep ar (aj.o.trans (zL.wh ay _ _ _ _ _ _)) Zr) (kr.keep au (zL.wh (by show w.heap.size<l.heap.size;omega) _ _ _ _ _ _) (by show C.heap.size<=l.heap.size;omega)) O Gj (yM _ _ _ _ _ _ _ _).symm
theorem AU{tj:List fH}(a:jm b V tj x w)(c:zI (x.bind fun _ r=>q7 n r)):
 Cz 128 #[(b,0)] w (qk b V tj w (x.bind fun _ r=>q7 n r) (gX w.heap.size)):=by
 cases hx:(x.bind fun _ r=>qt 1 r)with
 |ok s r=>
   cases h7:zq [40] r with
   |true=>exact I0 a hx h7 c
   |false=>
     cases h8:zq [91] r with
     |true=>exact NK a hx h7 h8 c
     |false=>exact i6 a (by rw[hx];exact h7) (by rw[hx];exact h8) c
 |bad r=>exact i6 a Vd Vd c
 |deep r=>exact i6 a Vd Vd c
 |o=>exact i6 a Vd Vd c
