import Derived.Test.YthcmenajdcbnnaaGreatDoorAnEvOff
set_option linter.unusedSimpArgs false
set_option linter.unusedVariables false
set_option maxRecDepth 100000
namespace Go.Proofs.YthcmenajdcbnnaaGreatDoor
open Go.RowKit Tryz
variable{b n L g m:Nat}{V v:C4}{d k o kk:Int}{a:Ex}{s:C2}{w W:C3}{x:PR Unit}{r:List dY}{T:TypeId}
theorem SS{tj:List dY}(g:∀m,m<=n->CE b V tj m 1 d):CA b V tj (n+1) d:=by
 intro w x a i;cases x with
 |ok _ r=>exact NM g a i
 |bad r=>exact(nN a rfl d).mono fun e w' ⟨f,c⟩=>⟨_,f,c,[],uO _ _⟩
 |deep r=>exact(nN a rfl d).mono fun e w' ⟨f,c⟩=>⟨_,f,c,[],uO _ _⟩
 |o=>exact absurd a id
theorem ST{tj:List dY}(m:CU b V tj n d):CE b V tj (n+1) 11 d:=by
 intro w x k g
 have j:(x.bind fun _ r=>pE (n+1) 11 d r)=x.bind fun _ r=>pU n d r:=by
  cases x with
  |ok _ r=>show pE (n+1) 11 d r=pU n d r;rw[pE,Dm Up]
  |_=>rfl
 rw[j]at g ⊢;have c:=U (kX.start k);have i:=U g;have C:=U m;clear k g m j;go_enter func126,ntmps126
 go_wp2_with (first
  | (go_at_call 148;(with_reducible refine(C.o.call c.o.st i.o).mono ?_);rintro e _ ⟨v,rfl,l,f⟩
     obtain⟨p,q,s,t,y,z,A,rfl⟩:=jC f i.o;have H:=c.o.size;have B:=U f;replace c:=U (c.o.step l);clear l f
     obtain⟨⟨_,_,_,_,_⟩,_⟩:=c.o.own))
 obtain⟨D,f1,E,f3,F⟩:=c.o.read (.int .i64 p) (.int .i64 q) (.int .i64 s) (.string t) (.slice y z A);refine bodyPost_ret (v:=.agg #[(p:Int),(q:Int),(s:Int),t,(y,z,A)]) (by simp[results,results126,go_sem,D,f1,E,f3,F]) rfl ?_;exact c.o.fin rfl (B.o.imp fun a G=>ky.wh G H _ _ _ _ _)
def AK(L g:Nat):Nat->Bool:=fun k=>decide (k<L) || k == g
theorem g2{k:Nat}:AK L g k=false↔L<=k/\k≠g:=by
 unfold AK;simp[Cb]
def FC(L g:Nat)(w:C3)(a:Ex):Prop:=
 ∃k o n s A m c,w.heap[g]?=some (.cells #[(k:Int),(o:Int),(n:Int),.string s,.slice A m c] 147 (0,0))/\iY w.heap.size (eE (AK L g) w) a (.agg #[(k:Int),(o:Int),(n:Int),.string s,.slice A m c])
def CM(b:Nat)(V:C4)(tj:List dY)(w:C3)(T:PR Ex)(n:Nat)(lev d:Int)(g:Nat)(wr:C3):Prop:=
 ∃(m:Nat) (a:Ex) (y:PR Unit),m<=n/\kX b V tj w y wr/\FC (w.heap.size+1) g wr a/\T=y.bind fun _ r=>pL m lev d a r
theorem uW{b:C3}{n:Int}{e:Option Addr}{c:Nat}(f:ky L b a (.agg #[(k:Int),(o:Int),(n:Int),s,(e,m,c)])):
 FC L b.heap.size (b.alloc (.cells #[(k:Int),(o:Int),(n:Int),s,(e,m,c)] 147)) a:=by
 refine⟨k,o,n,s,e,m,c,Dq b _,?_⟩;refine f.imp fun g o _ d=>?_
 obtain⟨j,d⟩:=qS d;have i:=d.1;refine qn (g2.2 ⟨jb.1 j,O⟩) ⟨Uq,?_⟩;exact(D4 (w:=b) (D3 b _ g i)).trans d.2
theorem I6{tj:List dY}{g:C3}{X:PR Ex}{n:Nat}{lev d:Int}{k o q:Int}{s:C2}{j:Option Addr}{m c:Nat}(e:kX b V tj w X.un g)
 (f:je X fun a=>ky (w.alloc vC).heap.size g a (.agg #[(k:Int),(o:Int),(q:Int),s,(j,m,c)])):
 CM b V tj w (X.bind fun a r=>pL n lev d a r) n lev d g.heap.size (g.alloc (.cells #[(k:Int),(o:Int),(q:Int),s,(j,m,c)] 147)):=by
 have l:(w.alloc vC).heap.size=w.heap.size+1:=zA _ _;rw[l]at f;cases X with
 |ok a r=>exact⟨n,a,.ok () r,Dy _,e.alloc _,uW f,rfl⟩
 |bad r=>
   obtain⟨a,i⟩:=f;exact⟨n,a,.bad r,Dy _,e.alloc _,uW i,rfl⟩
 |deep r=>
   obtain⟨a,i⟩:=f;exact⟨n,a,.deep r,Dy _,e.alloc _,uW i,rfl⟩
 |o=>exact absurd e.st id
theorem SU{lev:Int}{y:PR Unit}{T:PR Ex}(i:opX lev y=0)(g:T=y.bind fun _ r=>pL m lev d a r)(c:zH T):T.un=y/\∀P:Ex->Prop,P a->je T P:=by
 subst g;cases y with
 |ok j r=>
   cases m with
   |zero=>exact absurd (show zH (pL 0 lev d a r)from c) (by rw[pL];exact id)
   |succ m=>
     have e:pL (m+1) lev d a r=.ok a r:=by rw[pL,Dm (show EF lev r=0 from i)]
     show(pL (m+1) lev d a r).un=_/\_;have f:((PR.ok j r).bind fun _ r=>pL (m+1) lev d a r)=.ok a r:=e;rw[f,e];exact⟨rfl,fun P b=>b⟩
 |bad r=>exact⟨rfl,fun P b=>⟨a,b⟩⟩
 |deep r=>exact⟨rfl,fun P b=>⟨a,b⟩⟩
 |o=>exact absurd c id
theorem AL{tj:List dY}{wr e:C3}{f i j l m:C4}(n:iY wr.heap.size (eE (AK (w.heap.size+1) g) wr) a v)(d:jP b V tj wr x e)(_:b<wr.heap.size)(_:b<=w.heap.size):
 ky w.heap.size (gF e w.heap.size f i j l m) a v:=by
 refine n.imp fun k o _ c=>?_
 obtain⟨p,c⟩:=qS c;obtain⟨_,_⟩:=g2.1 p;refine qn (jb.2 O) ⟨?_,?_⟩
 .rw[xk]
  exact D6 c.1 d.off.size
 .refine(D4 (w:=wr) ?_).trans c.2
  exact(k8 (show k≠w.heap.size by omega) _ _ _ _ _).trans (d.off.block c.1 O)
theorem zbc{lev:Int}{y:PR Unit}(a:opX lev y=o)(b:¬o=0):∃r,y=.ok () r/\EF lev r=o:=by
 cases y with
 |ok _ r=>exact⟨r,rfl,a⟩
 |bad r=>exact absurd a.symm b
 |deep r=>exact absurd a.symm b
 |o=>exact absurd a.symm b
theorem SV{tj:List dY}(a:kX b V tj w (.ok () r) W)(e:f7 r≠3)(f:((tj.length-r.length:Nat):Int)=kk):kX b V tj w (.ok () r.tail) (W.setCell (b,1) (kk+1:Int)):=by
 have d:zc b V tj r false false W:=a.st;have c:=d.next e;rw[f]at c;exact a.step ⟨c,(dX.refl b _ W).setb d.lt 1 _⟩
theorem zbd{tj:List dY}(c:kX b V tj w (.ok () r) W)(d:((tj.length-r.length:Nat):Int)=kk):W.cell? (b,1)=some (.int .i64 kk)/\W.frozen? (b,1)=false:=by
 have a:zc b V tj r false false W:=c.st;exact⟨d▸a.cells.2.1,a.1.frozen 1⟩
theorem YJ{o:Obj}(c:W.heap[g]?=some o)(d:g≠b)(a:C4):(W.setCell (b,1) a).heap[g]?=some o:=(Dx W _ a g (by show g≠b;exact d)).trans c
theorem I7{b g:Nat}{V:C4}{tj r:List dY}{w wr I c:C3}{x:PR Unit}{a:Ex}{T:PR Ex}{q:Nat}{lev d o kk:Int}{A B C i j l:Int}{D m:C2}{v f:Option Addr}{E F p s:Nat}
 (af:iY wr.heap.size (eE (AK (w.heap.size+1) g) wr) a (.agg #[(A:Int),(B:Int),(C:Int),D,(v,E,F)])) (S:jP b V tj wr x I)
 (X:jP b V tj (I.setCell (b,1) (kk+1:Int)) ((PR.ok () r).bind fun _ r=>pE q (lev+1) d r).un c) (ae:kX b V tj w ((PR.ok () r).bind fun _ r=>pE q (lev+1) d r).un c) (Z:c.heap[g]?=some (.cells #[(A:Int),(B:Int),(C:Int),D,(v,E,F)] 147 (0,0)))
 (G:je ((PR.ok () r).bind fun _ r=>pE q (lev+1) d r) fun e=>ky (I.setCell (b,1) (kk+1:Int)).heap.size c e (.agg #[(i:Int),(j:Int),(l:Int),m,(f,p,s)]))
 (N:T=(pE q (lev+1) d r).bind fun e r=>pL q lev d (.mk 5 o 0 bE [a,e]) r) (_:g<wr.heap.size) (_:w.heap.size<wr.heap.size) (_:g≠b) (_:b<w.heap.size) (aj:w.heap.size<g):
 (∀n,q<=n->CM b V tj w T n lev d g (((OB c g (.int .i64 5) (.int .i64 o) (.int .i64 0) (.string ⟨#[]⟩) (.slice (some ⟨c.heap.size+1,0,none⟩) 2 2)).alloc (.cells #[(i:Int),(j:Int),(l:Int),m,(f,p,s)] 147)).alloc (.cells #[(A:Int),(B:Int),(C:Int),D,(v,E,F),(i:Int),(j:Int),(l:Int),m,(f,p,s)] 147)))/\
 jP b V tj w ((PR.ok () r).bind fun _ r=>pE q (lev+1) d r).un (((OB c g (.int .i64 5) (.int .i64 o) (.int .i64 0) (.string ⟨#[]⟩) (.slice (some ⟨c.heap.size+1,0,none⟩) 2 2)).alloc (.cells #[(i:Int),(j:Int),(l:Int),m,(f,p,s)] 147)).alloc (.cells #[(A:Int),(B:Int),(C:Int),D,(v,E,F),(i:Int),(j:Int),(l:Int),m,(f,p,s)] 147)):=by
 obtain⟨W,H⟩:∃W,W=(((OB c g (.int .i64 5) (.int .i64 o) (.int .i64 0) (.string ⟨#[]⟩) (.slice (some ⟨c.heap.size+1,0,none⟩) 2 2)).alloc (.cells #[(i:Int),(j:Int),(l:Int),m,(f,p,s)] 147)).alloc (.cells #[(A:Int),(B:Int),(C:Int),D,(v,E,F),(i:Int),(j:Int),(l:Int),m,(f,p,s)] 147)):=⟨_,rfl⟩
 rw[<-H];have t:kX b V tj w ((PR.ok () r).bind fun _ r=>pE q (lev+1) d r).un W:=H▸(((ae.nest aj _ _ _ _ _).alloc _).alloc _);have L:(OB c g (.int .i64 5) (.int .i64 o) (.int .i64 0) (.string ⟨#[]⟩) (.slice (some ⟨c.heap.size+1,0,none⟩) 2 2)).heap.size=c.heap.size:=xk _ _ _ _ _ _ _;have ai:W.heap.size=c.heap.size+2:=by rw[H,zA,zA,L]
 have ao:g<c.heap.size:=(Array.getElem?_eq_some_iff.1 Z).1;have an:I.heap.size<=c.heap.size:=by have:=X.off.size;rw[xH]at this;exact this
 have ap:wr.heap.size<=I.heap.size:=S.off.size
 have Y:∀k,k<c.heap.size->k≠g->W.heap[k]?=c.heap[k]?:=fun k y R=>by
  rw[H,D3 _ _ _ (by rw[zA,L];omega),D3 _ _ _ (by rw[L];exact y)];exact k8 R _ _ _ _ _
 have al:∀k,k<wr.heap.size->k≠g->k≠b->W.heap[k]?=wr.heap[k]?:=fun k y R Q=>by
  rw[Y k O R,X.off.block (by rw[xH];omega) Q,Dx _ _ _ _ (by show k≠b;exact Q),S.off.block y Q]
 have ag:W.heap[g]?=some (.cells #[(5:Int),(o:Int),(0:Int),.string ⟨#[]⟩,.slice (some ⟨c.heap.size+1,0,none⟩) 2 2] 147 (0,0)):=by
  rw[H];exact qI (qI (lU Z _ _ _ _ _) _) _
 have ah:W.heap[c.heap.size+1]?=some (.cells #[(A:Int),(B:Int),(C:Int),D,(v,E,F),(i:Int),(j:Int),(l:Int),m,(f,p,s)] 147 (0,0)):=by
  have:=Dq ((OB c g (.int .i64 5) (.int .i64 o) (.int .i64 0) (.string ⟨#[]⟩) (.slice (some ⟨c.heap.size+1,0,none⟩) 2 2)).alloc (.cells #[(i:Int),(j:Int),(l:Int),m,(f,p,s)] 147)) (.cells #[(A:Int),(B:Int),(C:Int),D,(v,E,F),(i:Int),(j:Int),(l:Int),m,(f,p,s)] 147);rw[zA,L]at this;rw[H];exact this
 have P:∀e,ky (I.setCell (b,1) (kk+1:Int)).heap.size c e (.agg #[(i:Int),(j:Int),(l:Int),m,(f,p,s)])->FC (w.heap.size+1) g W (.mk 5 o 0 bE [a,e]):=fun e J=>by
  obtain⟨tc,rfl,K,am⟩:=nL af;obtain⟨_,rfl,ak,aa⟩:=nL J;rw[xH]at aa;refine⟨5,o,0,⟨#[]⟩,some ⟨c.heap.size+1,0,none⟩,2,2,ag,_,rfl,⟨Vx,Vu⟩,?_⟩;refine K1 (w:=eE (AK (w.heap.size+1) g) W) ((lW (g2.2 ⟨O,O⟩)).trans ah) (by rw[ai];omega) K ?_ ak ?_
  .refine xA.mask (w':=W) am O fun k y M=>⟨M,?_⟩
   obtain⟨ab,ad⟩:=g2.1 M;exact al k y ad O
  .refine xA.mask (w':=W) aa O fun k y M=>?_
   have ab:=jb.1 M;exact⟨g2.2 ⟨O,O⟩,Y k y O⟩
 refine⟨fun n K=>?_,t.did⟩;cases hx:pE q (lev+1) d r with
 |ok e u=>
   have z:((PR.ok () r).bind fun _ r=>pE q (lev+1) d r)=.ok e u:=hx;rw[z]at G t;exact⟨q,_,.ok () u,K,t,P e G,by rw[N,hx];rfl⟩
 |bad u=>
   have z:((PR.ok () r).bind fun _ r=>pE q (lev+1) d r)=.bad u:=hx;rw[z]at G t;obtain⟨e,J⟩:=G;exact⟨q,_,.bad u,K,t,P e J,by rw[N,hx];rfl⟩
 |deep u=>
   have z:((PR.ok () r).bind fun _ r=>pE q (lev+1) d r)=.deep u:=hx;rw[z]at G t;obtain⟨e,J⟩:=G;exact⟨q,_,.deep u,K,t,P e J,by rw[N,hx];rfl⟩
 |o=>
   have z:((PR.ok () r).bind fun _ r=>pE q (lev+1) d r)=.o:=hx;rw[z]at t;exact absurd t.st id
theorem YK{N A X B:Nat}(_:A<=X)(_:N-A<N-B):N-X<N-B:=O
theorem YL{tj:List dY}{q:Nat}{lev:Int}(c:jP b V tj w ((PR.ok () r).bind fun _ r=>pE q lev d r).un W)(hF:zm 1 r (pE q lev d r))(_:qB r):tj.length-r.length<=vB b W:=by
 cases hx:pE q lev d r with
 |ok e a=>
   have f:((PR.ok () r).bind fun _ r=>pE q lev d r)=.ok e a:=hx;rw[f]at c;rw[hx]at hF;have g:zc b V tj a false false W:=c.st;have i:=(show zI 1 r a from hF).2.2;rw[jY g];omega
 |bad a=>
   have f:((PR.ok () r).bind fun _ r=>pE q lev d r)=.bad a:=hx;rw[f]at c;rw[hx]at hF;have g:zc b V tj a true false W:=c.st;have i:=(show zI 0 r a from hF).2.2;rw[jY g];omega
 |deep a=>
   have f:((PR.ok () r).bind fun _ r=>pE q lev d r)=.deep a:=hx;rw[f]at c;rw[hx]at hF;have g:zc b V tj a false true W:=c.st;have i:=(show zI 0 r a from hF).2.2;rw[jY g];omega
 |o=>
   have f:((PR.ok () r).bind fun _ r=>pE q lev d r)=.o:=hx;rw[f]at c;exact absurd c.st id
theorem SW{tj:List dY}{lev:Int}(_:1<=lev)(_:lev<=10)(aj:∀m,m<=n->CE b V tj m (lev+1) d):CE b V tj (n+1) lev d:=by
 intro w x I D
 have ai:(x.bind fun _ r=>pE (n+1) lev d r)=(x.bind fun _ r=>pE n (lev+1) d r).bind fun a r=>pL n lev d a r:=by
  cases x with
  |ok _ r=>show pE (n+1) lev d r=_;rw[pE,Dl O];rfl
  |_=>rfl
 rw[ai]at D ⊢;have c:=U (kX.start I);have A:=U D;have ab:=U (qM D);have Y:=U aj;have aH:=I.lt;clear I D aj ai;go_enter func126,ntmps126
 go_wp2_with (first
  | (go_at_call 126;(with_reducible refine((Y.o n Zr).call c.o.st ab.o).mono ?_);rintro e k ⟨v,rfl,f,i⟩
     obtain⟨Q,R,S,W,_,_,_,rfl⟩:=jC i ab.o;have aX:=c.o.size;have G:=U i;replace c:=U (c.o.step f);have aY:=c.o.size
     clear f i))
 have ag:=U (I6 (n:=n) (lev:=lev) (d:=d) c.o G.o);have aU:b<k.heap.size:=c.o.st.lt;obtain⟨T,K⟩:=Cz (((x.bind fun _ r=>pE n (lev+1) d r).bind fun a r=>pL n lev d a r));rw[K]at ag A;have aD:=U K;clear K
 go_loopw [8] (fun _ wr=>CM b V tj w T n lev d k.heap.size wr) (fun _ wr=>tj.length-vB b wr)
 case atStart=>exact ag.o
 case round=>
  obtain⟨m,a,y,_,J,⟨Q,R,S,W,X,aw,ax,P,am⟩,al⟩:=hrel;replace c:=U J;have ah:=U am;have ae:=U P;have l:=U al;have aK:=J.st.lt;obtain⟨o,au⟩:=Cz (opX lev y);have B:=U au;have t:k.heap.size≠b:=O
  have aZ:=c.o.size;have aq:k.heap.size<wr.heap.size:=(Array.getElem?_eq_some_iff.1 P).1;clear J am al au P;by_cases j:o=0
  .subst j
   go_wp2_with (first
    | (go_at_call 149;(with_reducible refine(I4 c.o.st lev 0 B.o).mono ?_);rintro e ay ⟨rfl,f⟩
       have F:=U f;have z:=jM f.off aq t ae.o;obtain⟨⟨aM,aN,aO,aP,aQ⟩,aR⟩:=zn z;replace c:=U (c.o.step f);clear f z
       obtain⟨⟨_,_,_,_,_⟩,_⟩:=c.o.own))
   obtain⟨aE,f1,aF,f3,aG⟩:=c.o.read (.int .i64 Q) (.int .i64 R) (.int .i64 S) (.string W) (.slice X aw ax);refine bodyPost_ret (v:=.agg #[(Q:Int),(R:Int),(S:Int),W,(X,aw,ax)]) (by simp[results,results126,go_sem,aE,f1,aF,f3,aG]) rfl ?_;rw[aD.o];obtain⟨p,g⟩:=SU B.o l.o A.o;exact c.o.fin p (g _ (AL ah.o F.o aK O))
  .obtain⟨r,rfl,N⟩:=zbc B.o j
   obtain⟨q,rfl⟩:∃q,m=q+1:=by
    cases m with
    |zero=>have p:=l.o;have g:=A.o;rw[p]at g;exact absurd (show zH (pL 0 lev d a r)from g) (by rw[pL];exact id)
    |succ q=>exact⟨q,rfl⟩
   have L:T=(pE q (lev+1) d r.tail).bind fun e r=>pL q lev d (.mk 5 o 0 bE [a,e]) r:=by
    rw[l.o];show pL (q+1) lev d a r=_;rw[pL,N,Dl j]
   obtain⟨an,_,_,ao,_⟩:=yU c.o.did;have av:∃s,zt s r=true:=uP (lev:=lev) (ops:=IJ) (by show EF lev r≠0;rw[N];exact j);have M:f7 r≠3:=by obtain⟨s,aL⟩:=av;rw[(uq aL).1];decide
   have az:=U an;have Z:=U (ao.tail M);have aB:=U M;replace l:=U L;have ad:=U (show zH ((PR.ok () r.tail).bind fun _ r=>pE q (lev+1) d r)by have g:=A.o;rw[L]at g;exact qM g);obtain⟨kk,ar⟩:∃kk:Int,((tj.length-r.length:Nat):Int)=kk:=⟨_,rfl⟩
   have aJ:0<=kk/\kk<=1000000:=O
   obtain⟨_,_⟩:=aJ;have aa:=U ar;have aW:(o == 0)=false:=by simpa using j
   clear N L an ao av M j ar
   go_wp2_with (first
    | (go_at_call 149;(with_reducible refine(I4 c.o.st lev o B.o).mono ?_);rintro e ay ⟨rfl,f⟩
       have F:=U f;have z:=jM f.off aq t ae.o;replace c:=U (c.o.step f);have ak:=U (SV c.o aB.o aa.o);have af:=U (YJ z t (.int .i64 (kk+1)));obtain⟨_,_⟩:=zbd c.o aa.o
       clear f z)
    | (go_at_call 126;(with_reducible refine((Y.o q O).call ak.o.st ad.o).mono ?_);rintro e aS ⟨v,rfl,C,i⟩
       obtain⟨_,_,_,_,_,_,_,rfl⟩:=jC i ad.o;have G:=U i;have aI:k.heap.size<(ay.setCell (b,1) (kk+1:Int)).heap.size:=(Array.getElem?_eq_some_iff.1 af.o).1;have E:=jM C.off aI t af.o;have aC:=U E;obtain⟨⟨aM,aN,aO,aP,aQ⟩,aR⟩:=zn E;have aA:=U C;replace c:=U (ak.o.step C);have aV:k.heap.size<aS.heap.size:=(Array.getElem?_eq_some_iff.1 E).1
       clear C i E))
   have H:=U (I7 (lev:=lev) (d:=d) ah.o F.o aA.o c.o aC.o G.o l.o O O t aH O);have ap:=jB (n:=q) (lev:=lev+1) (d:=d) Z.o;go_roundw
   case rel=>exact(H.o.1 n O)
   case measure=>
    have p:=YL (H.o.2) ap Z.o;have g:=az.o;have aT:r.tail.length+1=r.length:=by rw[List.length_tail];omega
    clear H ap;exact YK p O
def CO(b:Nat)(V:C4)(tj:List dY)(lev d:Int):Prop:=∀(w:C3) (x:PR Unit),jr b V tj x w->qC x=true->
 Cy 126 #[(b,0),(lev:Int),(d:Int)] w (qp b V tj w (x.bind fun _ _=>(.o:PR Ex)) (ky w.heap.size))
theorem CO.call{tj:List dY}{lev:Int}(a:CO b V tj lev d)(e:jr b V tj x w)(c:qC x=true):
 Cy 126 #[(b,0),(lev:Int),(d:Int)] w (qp b V tj w (x.bind fun _ _=>(.o:PR Ex)) (ky w.heap.size)):=a w x e c
theorem iK{α:Type}(a:qC x=true)(f g:Unit->List dY->PR α):x.bind f=x.bind g:=by
 cases x with
 |ok _ r=>cases a
 |_=>rfl
theorem AM{α:Type}{tj:List dY}(a:jr b V tj x w)(c:qC x=true)(f:Unit->List dY->PR α):zH (x.bind f):=by
 cases x with
 |ok _ r=>cases c
 |bad r=>trivial
 |deep r=>trivial
 |o=>exact absurd a id
theorem CN{α:Type}(a:qC x=true)(f:Unit->List dY->PR α):(x.bind f).un=x:=by
 cases x with
 |ok _ r=>cases a
 |_=>rfl
theorem SX{lev:Int}(a:qC x=true):opX lev x=0:=by
 cases x with
 |ok _ r=>cases a
 |_=>rfl
theorem FD{α:Type}(c:qC x=true)(f:Unit->List dY->PR α){P:α->Prop}{a:α}(b:P a):je (x.bind f) P:=by
 cases x with
 |ok _ r=>cases c
 |bad r=>exact⟨a,b⟩
 |deep r=>exact⟨a,b⟩
 |o=>trivial
theorem sR{tj:List dY}(g:jr b V tj x w)(i:qC x=true)(j:0<=d/\d<=1000)(f:Unit->List dY->PR Ex):
 Cy 148 #[(b,0),(d:Int)] w (qp b V tj w (x.bind f) (ky w.heap.size)):=by
 have k:∀w',jP b V tj w x w'->qp b V tj w (x.bind f) (ky w.heap.size) (.returned pZ) w':=fun w' a=>⟨_,rfl,(CN i f).symm▸a,FD i f (k1 _ _)⟩
 by_cases l:d<=100
 .exact(sQ g j i l).mono fun e w' ⟨c,a⟩=>c▸k w' a
 .cases x with
  |ok _ r=>cases i
  |bad r=>exact(AJ (r:=r) rfl g j rfl O).mono fun e w' ⟨c,a⟩=>c▸k w' a
  |deep r=>exact(k7 (dp:=true) g j O).mono fun e w' ⟨c,a⟩=>c▸k w' a
  |o=>exact absurd g id
theorem SY{tj:List dY}(k:0<=d/\d<=1000):CO b V tj 11 d:=by
 intro w x f i;have c:=U (kX.start f);have z:=U i;have u:=U (AM f i fun _ _=>(.o:PR Ex));have t:=U k;clear f i k;go_enter func126,ntmps126
 go_wp2_with (first
  | (go_at_call 148;(with_reducible refine(sR c.o.st z.o t.o fun _ _=>(.o:PR Ex)).mono ?_);rintro e _ ⟨v,rfl,j,g⟩
     obtain⟨l,m,n,p,q,r,s,rfl⟩:=jC g u.o;have E:=c.o.size;have y:=U g;replace c:=U (c.o.step j);clear j g
     obtain⟨⟨_,_,_,_,_⟩,_⟩:=c.o.own))
 obtain⟨A,f1,B,f3,C⟩:=c.o.read (.int .i64 l) (.int .i64 m) (.int .i64 n) (.string p) (.slice q r s);refine bodyPost_ret (v:=.agg #[(l:Int),(m:Int),(n:Int),p,(q,r,s)]) (by simp[results,results126,go_sem,A,f1,B,f3,C]) rfl ?_;exact c.o.fin rfl (y.o.imp fun a D=>ky.wh D E _ _ _ _ _)
theorem SZ{tj:List dY}{lev:Int}(_:1<=lev)(_:lev<=10)(y:CO b V tj (lev+1) d):CO b V tj lev d:=by
 intro w x n r;have c:=U (kX.start n);have i:=U r;have u:=U (AM n r fun _ _=>(.o:PR Ex));have I:=U y;have X:=n.lt;clear n r y;go_enter func126,ntmps126
 go_wp2_with (first
  | (go_at_call 126;(with_reducible refine(I.o.call c.o.st i.o).mono ?_);rintro e g ⟨v,rfl,f,q⟩
     obtain⟨j,k,l,m,C,D,E,rfl⟩:=jC q u.o;have Y:=c.o.size;have J:=U q;rw[CN i.o]at f;replace c:=U (c.o.step f);have Z:=c.o.size
     clear f q))
 have W:b<g.heap.size:=c.o.st.lt
 have K:=U (show ∃a,kX b V tj w x (g.alloc (.cells #[(j:Int),(k:Int),(l:Int),m,(C,D,E)] 147))/\FC (w.heap.size+1) g.heap.size (g.alloc (.cells #[(j:Int),(k:Int),(l:Int),m,(C,D,E)] 147)) a by
  obtain⟨a,A⟩:=J.o.some u.o;rw[zA]at A
  exact⟨a,c.o.alloc _,uW A⟩)
 go_loopw [8] (fun _ wr=>∃a,kX b V tj w x wr/\FC (w.heap.size+1) g.heap.size wr a) (fun _ wr=>0)
 case atStart=>exact K.o
 case round=>
  obtain⟨a,p,⟨j,k,l,m,t,F,G,s,z⟩⟩:=hrel;replace c:=U p;have M:=U z;have L:=U s;have S:=p.st.lt;have T:g.heap.size≠b:=O
  have aa:=c.o.size;have R:g.heap.size<wr.heap.size:=(Array.getElem?_eq_some_iff.1 s).1;clear p z s
  go_wp2_with (first
   | (go_at_call 149;(with_reducible refine(I4 c.o.st lev 0 (SX i.o)).mono ?_);rintro e _ ⟨rfl,f⟩
      have H:=U f;have B:=jM f.off R T L.o;obtain⟨⟨_,_,_,_,_⟩,_⟩:=zn B;replace c:=U (c.o.step f);clear f B
      obtain⟨⟨_,_,_,_,_⟩,_⟩:=c.o.own))
  obtain⟨N,f1,P,f3,Q⟩:=c.o.read (.int .i64 j) (.int .i64 k) (.int .i64 l) (.string m) (.slice t F G);refine bodyPost_ret (v:=.agg #[(j:Int),(k:Int),(l:Int),m,(t,F,G)]) (by simp[results,results126,go_sem,N,f1,P,f3,Q]) rfl ?_;exact c.o.fin (CN i.o _) (FD i.o _ (AL M.o H.o S O))
theorem AN{tj:List dY}(a:0<=d/\d<=1000):∀(k:Nat) (lev:Int),lev=11-k->1<=lev->CO b V tj lev d
 | 0,lev,e,_=>by
   obtain rfl:lev=11:=O
   exact SY a
 |k+1,lev,e,h1=>SZ h1 O (AN a k (lev+1) O O)
theorem YM{tj:List dY}{n:Nat}{lev:Int}(f:0<=d/\d<=1000)(e:1<=lev)(_:lev<=11)(c:jr b V tj x w)(a:qC x=true):
 Cy 126 #[(b,0),(lev:Int),(d:Int)] w (qp b V tj w (x.bind fun _ r=>pE n lev d r) (ky w.heap.size)):=by
 rw[iK a (fun _ r=>pE n lev d r) fun _ _=>.o];exact AN f (11-lev).toNat lev O e w x c a
theorem sS(b:Nat)(V:C4)(tj:List dY):∀(n:Nat),∀m,m<=n->(∀lev d:Int,1<=lev->lev<=11->0<=d->d<=101->CE b V tj m lev d)/\(∀d:Int,0<=d->d<=101->CU b V tj m d)/\(∀d:Int,0<=d->d<=100->CP b V tj m d)/\(∀d:Int,0<=d->d<=101->CA b V tj m d)
 | 0,m,hm=>by
   obtain rfl:m=0:=O
   refine⟨fun lev d l u c g w x a i=>?_,fun d c g w x a i=>?_,fun d c g w x a i=>?_,fun d c g w x a i=>?_⟩
   .cases ho:qC x with
    |true=>exact YM ⟨c,O⟩ l u a ho
    |false=>
      cases x with
      |ok t r=>exact absurd (show zH (pE 0 lev d r)from i) (by rw[pE];exact id)
      |bad r=>cases ho
      |deep r=>cases ho
      |o=>exact absurd a id
   .cases ho:qC x with
    |true=>exact sR a ho ⟨c,O⟩ _
    |false=>
      cases x with
      |ok t r=>exact absurd (show zH (pU 0 d r)from i) (by rw[pU];exact id)
      |bad r=>cases ho
      |deep r=>cases ho
      |o=>exact absurd a id
   .cases ho:qC x with
    |true=>exact(ux a ho d).mono fun e w' ⟨s,p⟩=>s▸mH ho p ex0 (k1 _ _)
    |false=>
      cases x with
      |ok t r=>exact absurd (show zH (pP 0 d r)from i) (by rw[pP];exact id)
      |bad r=>cases ho
      |deep r=>cases ho
      |o=>exact absurd a id
   .cases ho:qC x with
    |true=>exact(nN a ho d).mono fun e w' ⟨s,p⟩=>s▸mH ho p [] (uO _ _)
    |false=>
      cases x with
      |ok t r=>exact absurd (show zH (pA 0 d r)from i) (by rw[pA];exact id)
      |bad r=>cases ho
      |deep r=>cases ho
      |o=>exact absurd a id
 | n+1,m,hm=>by
   have j:=sS b V tj n;by_cases B:m<=n
   .exact j m B
   .obtain rfl:m=n+1:=by omega
    have k:∀q,q<=n->∀lev d:Int,1<=lev->lev<=11->0<=d->d<=101->CE b V tj q lev d:=fun q f=>(j q f).1
    have v:∀q,q<=n->∀d:Int,0<=d->d<=101->CU b V tj q d:=fun q f=>(j q f).2.1
    have A:∀q,q<=n->∀d:Int,0<=d->d<=100->CP b V tj q d:=fun q f=>(j q f).2.2.1
    have z:∀q,q<=n->∀d:Int,0<=d->d<=101->CA b V tj q d:=fun q f=>(j q f).2.2.2
    refine⟨fun lev d l u c g=>?_,fun d c g=>?_,fun d c g=>?_,fun d c g=>?_⟩
    .by_cases y:lev=11
     .subst y
      exact ST (v n Zr d c g)
     .exact SW l O fun q f=>k q f (lev+1) d O O c g
    .exact OC (fun a=>k n Zr 1 (d+1) O O O O) (fun a=>v n Zr (d+1) O O) (fun a=>A n Zr d c a) ⟨c,O⟩
    .exact SP (fun q f=>k q f 1 (d+1) O O O O) (fun q f=>z q f (d+1) O O) ⟨c,O⟩
    .exact SS fun q f=>k q f 1 d O O c g
theorem vU{tj:List dY}(a:0<=d)(c:d<=101):CE b V tj n 1 d:=(sS b V tj n n Zr).1 1 d Up Up a c
theorem S0{tj:List dY}(a:0<=d)(c:d<=101):CA b V tj n d:=(sS b V tj n n Zr).2.2.2 d a c
abbrev uy:Obj:=.cells #[(0:Int),(0:Int),.string ⟨#[]⟩,(),(),()] 139
abbrev zd3:C4:=.agg #[(0:Int),(0:Int),.string ⟨#[]⟩,(),(),()]
def e6(L:Nat)(w:C3)(a:St)(v:C4):Prop:=
 match a with
 |.mk k ty td tc tg th=>∃b c d,v=.agg #[.int .i64 k,.int .i64 ty,.string td,b,c,d]/\jL L w tc b/\kD L w tg c/\kD L w th d
theorem e6.keep{c:Nat}{w':C3}{a:St}(d:e6 L w a v)(k:zK L w w')(b:c<=L):e6 c w' a v:=by
 obtain⟨kk,_,td,tc,tg,th⟩:=a;obtain⟨j,l,m,i,e,f,g⟩:=d;exact⟨j,l,m,i,e.keep k b,f.keep k b,g.keep k b⟩
theorem e6.form{a:St}(i:e6 L w a v):∃k t s b o e c p f d q g,v=.agg #[(k:Int),(t:Int),.string s,.slice b o e,.slice c p f,.slice d q g]:=by
 obtain⟨kk,_,td,tc,tg,th⟩:=a;obtain⟨_,_,_,n,j,l,m⟩:=i;obtain⟨b,e,rfl,_⟩:=j.form;obtain⟨c,f,rfl,_⟩:=l.form;obtain⟨d,g,rfl,_⟩:=m.form;exact⟨_,_,_,_,_,_,_,_,_,_,_,_,n⟩
theorem n6{x:PR St}(i:je x fun a=>e6 L w a v)(l:zH x):∃k t s b m e c n f d o g,v=.agg #[(k:Int),(t:Int),.string s,.slice b m e,.slice c n f,.slice d o g]:=by
 obtain⟨a,j⟩:=i.some l;exact j.form
theorem xf{x:PR (List St)}(d:je x fun a=>kD L w a v)(f:zH x):∃b m c,v=.slice b m c:=by
 obtain⟨a,e⟩:=d.some f;obtain⟨b,c,g,_⟩:=e.form;exact⟨b,_,c,g⟩
theorem FE(L:Nat)(w:C3):jL L w [] (.slice none 0 0):=uO _ _
theorem qw(L:Nat)(w:C3):kD L w [] (.slice none 0 0):=B2 _ _
theorem yr{tj:List dY}(g:jr b V tj x w)(k:Int)(l:k≠3):
 Cy 55 #[(b,0),(k:Int)] w fun e w'=>∃s,e=.returned (.string s)/\jP b V tj w (x.bind fun _ r=>qt k r).un w'/\je (x.bind fun _ r=>qt k r) fun a=>a=s:=by
 cases x with
 |ok _ r=>
   refine(nK g k l).mono fun e w' ⟨v,d,c,f⟩=>?_
   show ∃s,_/\jP b V tj w (qt k r).un w'/\je (qt k r) _;unfold qt at c f ⊢;by_cases i:f7 r=k
   .rw[Dm i]at c f ⊢
    exact⟨_,by rw[d,show v=_ from f],c,rfl⟩
   .rw[Dl i]at c f ⊢
    obtain⟨a,j⟩:=f;exact⟨a,by rw[d,show v=_ from j],c,a,rfl⟩
 |bad r=>exact(z1 g rfl k).mono fun e w' ⟨d,c⟩=>⟨_,d,c,_,rfl⟩
 |deep r=>exact(z1 g rfl k).mono fun e w' ⟨d,c⟩=>⟨_,d,c,_,rfl⟩
 |o=>exact absurd g id
def zc1(L:Nat)(w:C3)(a:Ex)(v:C4):Prop:=jL L w [a] v
theorem S1(n:Nat)(x:PR Unit):(x.bind fun _ r=>pI n r)=((x.bind fun _ r=>zQ [40] r).bind fun _ r=>pE n 1 1 r).bind fun e r=>(zQ [41] r).bind fun _ r=>.ok e r:=by
 rw[zY,zY];rfl
theorem fQ{tj:List dY}(g:jr b V tj x w)(l:zH (x.bind fun _ r=>pI n r)):
 Cy 127 #[(b,0)] w (qp b V tj w (x.bind fun _ r=>pI n r) (zc1 w.heap.size)):=by
 rw[S1]at l ⊢;have p:=U (qM l);have c:=C0 (jP b V tj w x w) ⟨g,dX.refl _ _ _⟩;have C:=g.lt;have y:=U (vU (b:=b) (V:=V) (tj:=tj) (n:=n) (d:=1) Up Up);clear g l;go_enter func127,ntmps127
 go_wp2_with (first
  | (go_at_call 58;(with_reducible refine(zh c.o.st ⟨#[40]⟩).mono ?_);rintro e t ⟨rfl,f⟩
     replace c:=C0 (jP b V tj w (x.bind fun _ r=>zQ [40] r) t) (c.o.after f);have q:=c.o.off.size
     clear f)
  | (go_at_call 126;(with_reducible refine(y.o.call c.o.st p.o).mono ?_);rintro e u ⟨v,rfl,f,i⟩
     obtain⟨_,_,_,_,_,_,_,rfl⟩:=jC i p.o;have z:=U i;have A:=c.o.st.lt;replace c:=U (c.o.after f);have B:u.heap.size≠b:=by have:=c.o.st.lt;omega
     have D:=c.o.off.size
     clear f i)
  | (go_at_call 58;(with_reducible refine(zh (c.o.alloc _).st ⟨#[41]⟩).mono ?_);rintro e _ ⟨rfl,f⟩
     have m:=U ((zK.wb (L:=t.heap.size) (Zb.alloc Zr _)).trans (zK.did f A));obtain⟨_,_⟩:=rB f.off (k:=u.heap.size) Ur B;replace c:=U ((c.o.alloc _).after f);have s:=c.o.off.size
     clear f))
 go_ret;refine⟨_,rfl,?_,je.bind z.o (fun a r _ j=>vw (ug (ky.keep j m.o Zr) q s rfl)) fun a j=>⟨a,ug (ky.keep j m.o Zr) q s rfl⟩⟩;rw[jo];simp only[xc];rw[<-q8];exact c.o.alloc _
abbrev f9(W:C3)(g:Nat)(a b c d e f:C4):C3:=((((((W.setCell (g,0) a).setCell (g,1) b).setCell (g,2) c).setCell (g,3) d).setCell (g,4) e).setCell (g,5) f)
theorem y7(W:C3)(g:Nat)(a b c d e f:C4):(f9 W g a b c d e f).heap.size=W.heap.size:=by simp[f9]
theorem AO{i j k l m n:C4}{fr:Nat×Nat}(o:W.heap[g]?=some (.cells #[i,j,k,l,m,n] T fr))(a b c d e f:C4):(f9 W g a b c d e f).heap[g]?=some (.cells #[a,b,c,d,e,f] T fr):=
 D0 (D0 (D0 (D0 (D0 (D0 o a) b) c) d) e) f
theorem FF{k:Nat}(a:k≠g)(b c d e f i:C4):(f9 W g b c d e f i).heap[k]?=W.heap[k]?:=by
 rw[Dx _ _ _ _ Xd,Dx _ _ _ _ Xd,Dx _ _ _ _ Xd,Dx _ _ _ _ Xd,Dx _ _ _ _ Xd,Dx _ _ _ _ Xd]
theorem zK.nest6(a:g<L)(b c d e f i:C4):zK L w (f9 w g b c d e f i):=
 (((((zK.set a 0 b).trans (zK.set a 1 c)).trans (zK.set a 2 d)).trans (zK.set a 3 e)).trans (zK.set a 4 f)).trans (zK.set a 5 i)
theorem jh{b c d e f i:C4}(a:W.heap[g]?=some (.cells #[b,c,d,e,f,i] T (0,0))):
 (W.cell? (g,0)=some b/\W.cell? (g,1)=some c/\W.cell? (g,2)=some d/\W.cell? (g,3)=some e/\W.cell? (g,4)=some f/\W.cell? (g,5)=some i)/\∀o,W.frozen? ⟨g,o,none⟩=false:=by
 refine⟨⟨(Ds a 0).trans rfl,(Ds a 1).trans rfl,(Ds a 2).trans rfl,(Ds a 3).trans rfl,(Ds a 4).trans rfl,(Ds a 5).trans rfl⟩,fun o=>?_⟩;simp[World.frozen?,a]
def kB(b:Nat)(V:C4)(tj:List dY)(w:C3)(x:PR Unit)(W:C3):Prop:=jP b V tj w x W/\W.heap[w.heap.size]?=some uy/\i2 b V tj w/\b<w.heap.size
section
variable {b:Nat}{V:C4}{tj:List dY} {w W W':C3}{x y:PR Unit}
theorem kB.start(h:jr b V tj x w):kB b V tj w x (w.alloc uy):=
 ⟨⟨h.below (Zb.alloc Zr _),dX.wb (Zb.alloc Zr _) h.lt⟩,Dq w uy,h.tok,h.lt⟩
theorem kB.st(h:kB b V tj w x W):jr b V tj x W:=h.1.1
theorem kB.size(h:kB b V tj w x W):w.heap.size<W.heap.size:=(Array.getElem?_eq_some_iff.1 h.2.1).1
theorem kB.ne(h:kB b V tj w x W):w.heap.size≠b:=Gb
theorem kB.lt(h:kB b V tj w x W):b<w.heap.size:=h.2.2.2
theorem kB.step(h:kB b V tj w x W)(g:jP b V tj W y W'):kB b V tj w y W':=⟨h.1.after g,jM g.off h.size h.ne h.2.1,h.2.2⟩
theorem kB.alloc(h:kB b V tj w x W)(o:Obj):kB b V tj w x (W.alloc o):=⟨h.1.alloc o,qI h.2.1 o,h.2.2⟩
theorem kB.own(h:kB b V tj w x W):(W.cell? (w.heap.size,0)=some (.int .i64 0)/\W.cell? (w.heap.size,1)=some (.int .i64 0)/\W.cell? (w.heap.size,2)=some (.string ⟨#[]⟩)/\
 W.cell? (w.heap.size,3)=some (.slice none 0 0)/\W.cell? (w.heap.size,4)=some (.slice none 0 0)/\W.cell? (w.heap.size,5)=some (.slice none 0 0))/\∀o,W.frozen? ⟨w.heap.size,o,none⟩=false:=jh h.2.1
theorem kB.set(h:kB b V tj w x W){g:Nat}(_:w.heap.size<g)(i:Nat)(u:C4):kB b V tj w x (W.setCell (g,i) u):=
 ⟨h.1.set h.2.2.1 O Gb i u,(Dx W _ u _ (by show w.heap.size≠g;omega)).trans h.2.1,h.2.2⟩
theorem jP.nest6(m:jP b V tj w x W)(d:i2 b V tj w){g:Nat}(c:w.heap.size<=g)(a:g≠b)(e f i j k l:C4):jP b V tj w x (f9 W g e f i j k l):=
 (((((m.set d c a 0 e).set d c a 1 f).set d c a 2 i).set d c a 3 j).set d c a 4 k).set d c a 5 l
theorem kB.fin(j:kB b V tj w y W){X:PR St}(l:X.un=y){c d e f g i:C4}(k:je X fun a=>e6 w.heap.size (f9 W w.heap.size c d e f g i) a (.agg #[c,d,e,f,g,i])):
 qp b V tj w X (e6 w.heap.size) (.returned (.agg #[c,d,e,f,g,i])) (f9 W w.heap.size c d e f g i):=
 ⟨_,rfl,l▸j.1.nest6 j.2.2.1 Zr j.ne _ _ _ _ _ _,k⟩
theorem kB.dc(j:kB b V tj w y W){X:PR St}(l:X.un=y){o:Obj}{c d e f g i:C4}(k:je X fun a=>e6 w.heap.size ((_root_.Go.Proofs.YthcmenajdcbnnaaGreatDoor.f9 W w.heap.size c d e f g i).alloc o) a (.agg #[c,d,e,f,g,i])):
 qp b V tj w X (e6 w.heap.size) (.returned (.agg #[c,d,e,f,g,i])) ((_root_.Go.Proofs.YthcmenajdcbnnaaGreatDoor.f9 W w.heap.size c d e f g i).alloc o):=
 ⟨_,rfl,l▸(j.1.nest6 j.2.2.1 Zr j.ne _ _ _ _ _ _).alloc o,k⟩
theorem kB.read(i:kB b V tj w x W)(a c d e f g:C4):(((((((W.setCell (w.heap.size,0) a).setCell (w.heap.size,1) c).setCell (w.heap.size,2) d).setCell (w.heap.size,3) e).setCell (w.heap.size,4) f).setCell (w.heap.size,5) g)).cell? (w.heap.size,0)=some a/\(((((((W.setCell (w.heap.size,0) a).setCell (w.heap.size,1) c).setCell (w.heap.size,2) d).setCell (w.heap.size,3) e).setCell (w.heap.size,4) f).setCell (w.heap.size,5) g)).cell? (w.heap.size,1)=some c/\(((((((W.setCell (w.heap.size,0) a).setCell (w.heap.size,1) c).setCell (w.heap.size,2) d).setCell (w.heap.size,3) e).setCell (w.heap.size,4) f).setCell (w.heap.size,5) g)).cell? (w.heap.size,2)=some d/\(((((((W.setCell (w.heap.size,0) a).setCell (w.heap.size,1) c).setCell (w.heap.size,2) d).setCell (w.heap.size,3) e).setCell (w.heap.size,4) f).setCell (w.heap.size,5) g)).cell? (w.heap.size,3)=some e/\(((((((W.setCell (w.heap.size,0) a).setCell (w.heap.size,1) c).setCell (w.heap.size,2) d).setCell (w.heap.size,3) e).setCell (w.heap.size,4) f).setCell (w.heap.size,5) g)).cell? (w.heap.size,4)=some f/\(((((((W.setCell (w.heap.size,0) a).setCell (w.heap.size,1) c).setCell (w.heap.size,2) d).setCell (w.heap.size,3) e).setCell (w.heap.size,4) f).setCell (w.heap.size,5) g)).cell? (w.heap.size,5)=some g:=(jh (AO i.2.1 a c d e f g)).1
theorem kB.wu(i:kB b V tj w x W)(o:Obj)(a c d e f g:C4):((((((((W.setCell (w.heap.size,0) a).setCell (w.heap.size,1) c).setCell (w.heap.size,2) d).setCell (w.heap.size,3) e).setCell (w.heap.size,4) f).setCell (w.heap.size,5) g)).alloc o).cell? (w.heap.size,0)=some a/\((((((((W.setCell (w.heap.size,0) a).setCell (w.heap.size,1) c).setCell (w.heap.size,2) d).setCell (w.heap.size,3) e).setCell (w.heap.size,4) f).setCell (w.heap.size,5) g)).alloc o).cell? (w.heap.size,1)=some c/\((((((((W.setCell (w.heap.size,0) a).setCell (w.heap.size,1) c).setCell (w.heap.size,2) d).setCell (w.heap.size,3) e).setCell (w.heap.size,4) f).setCell (w.heap.size,5) g)).alloc o).cell? (w.heap.size,2)=some d/\((((((((W.setCell (w.heap.size,0) a).setCell (w.heap.size,1) c).setCell (w.heap.size,2) d).setCell (w.heap.size,3) e).setCell (w.heap.size,4) f).setCell (w.heap.size,5) g)).alloc o).cell? (w.heap.size,3)=some e/\((((((((W.setCell (w.heap.size,0) a).setCell (w.heap.size,1) c).setCell (w.heap.size,2) d).setCell (w.heap.size,3) e).setCell (w.heap.size,4) f).setCell (w.heap.size,5) g)).alloc o).cell? (w.heap.size,4)=some f/\((((((((W.setCell (w.heap.size,0) a).setCell (w.heap.size,1) c).setCell (w.heap.size,2) d).setCell (w.heap.size,3) e).setCell (w.heap.size,4) f).setCell (w.heap.size,5) g)).alloc o).cell? (w.heap.size,5)=some g:=(jh (qI (AO i.2.1 a c d e f g) o)).1
end
theorem n7(n:Nat)(x:PR Unit):(x.bind fun _ r=>q3 n r)=(x.bind fun _ r=>qt 1 r).bind fun s r=>
 if zt [40] r=true then(pA n 2 r.tail).bind fun a r=>.ok (.mk 10 0 bE [.mk 7 0 0 s a] [] []) r
 else if zt [91] r=true then(pE n 1 1 r.tail).bind fun e r=>(zQ [93] r).bind fun _ r=>(zQ [61] r).bind fun _ r=>(pE n 1 1 r).bind fun f r=>.ok (.mk 3 0 s [e,f] [] []) r
 else(zQ [61] r).bind fun _ r=>(pE n 1 1 r).bind fun e r=>.ok (.mk 2 0 s [e] [] []) r:=by
 rw[zY];rfl
theorem zc2{α:Type}{x:PR α}(h:x.un=.ok () r):∃a,x=.ok a r:=by
 cases x with
 |ok a q=>
   have:q=r:=by injection h
   exact⟨a,by rw[this]⟩
 |bad q=>cases h
 |deep q=>cases h
 |o=>cases h
theorem wU{k o n:Int}{s:C2}{a:List Ex}{b:C4}{T:TypeId}(c:jL L W a b)(f:eF n)(d:L<=W.heap.size)(e:g=W.heap.size):
 jL L (W.alloc (.cells #[(k:Int),(o:Int),(n:Int),s,b] T)) [.mk k o n s a] (.slice (some ⟨g,0,none⟩) 1 1):=
 ug (L:=L) (show ky L W (.mk k o n s a) _ from⟨b,rfl,f,c⟩) Zr d e
theorem r64:eF 0:=⟨Up,Up⟩
theorem I8{tj:List dY}(i:jr b V tj x w)(l:(x.bind fun _ r=>qt 1 r)=.ok s r)(j:zt [40] r=true)(k:zH (x.bind fun _ r=>q3 n r)):
 Cy 128 #[(b,0)] w (qp b V tj w (x.bind fun _ r=>q3 n r) (e6 w.heap.size)):=by
 have p:(x.bind fun _ r=>q3 n r)=(pA n 2 r.tail).bind fun g r=>.ok (.mk 10 0 bE [.mk 7 0 0 s g] [] []) r:=by
  rw[n7,l];show(if zt [40] r=true then _ else _)=_;rw[Dm j]
 rw[p]at k ⊢;have m:=C0 (zH ((PR.ok () r.tail).bind fun _ r=>pA n 2 r)) (qM k);have a:=U (kB.start i);have z:=U l;have A:=C0 (zU (⟨#[40]⟩:C2).data.toList (PR.ok () r)=true) j;have u:=U (S0 (b:=b) (V:=V) (tj:=tj) (n:=n) (d:=2) Up Up);have M:=i.lt;clear i l j k p;go_enter func128,ntmps128
 go_wp2_with (first
  | (go_at_call 55;(with_reducible refine(yr a.o.st 1 Up).mono ?_);rintro e K ⟨J,rfl,c,f⟩
     rw[z.o]at c f;obtain rfl:s=J:=f;replace a:=C0 (kB b V tj w (.ok () r) K) (a.o.step c)
     clear c)
  | (go_at_call 56;(with_reducible refine(zx a.o.st _ A.o).mono ?_);rintro e L ⟨rfl,c⟩
     replace a:=C0 (kB b V tj w (.ok () r.tail) L) (a.o.step c);have F:=a.o.size
     clear c)
  | (go_at_call 150;(with_reducible refine(u.o.call a.o.st m.o).mono ?_);rintro e t ⟨v,rfl,c,f⟩
     obtain⟨G,H,I,rfl⟩:=z4 f m.o;have y:=U f;replace a:=U (a.o.step c);have N:=a.o.size;obtain⟨⟨_,_,_,_,_,_⟩,_⟩:=a.o.own
     clear c f))
 obtain⟨B,f1,C,f3,D,E⟩:=a.o.wu (.cells #[(7:Int),(0:Int),(0:Int),s,(G,H,I)] 147) (.int .i64 10) (.int .i64 0) (.string ⟨#[]⟩) (.slice (some ⟨t.heap.size,0,none⟩) 1 1) (.slice none 0 0) (.slice none 0 0);refine bodyPost_ret (v:=.agg #[(10:Int),(0:Int),.string ⟨#[]⟩,.slice (some ⟨t.heap.size,0,none⟩) 1 1,(),()]) (by simp[results,results128,go_sem,B,f1,C,f3,D,E]) rfl ?_;refine a.o.dc Kw (je.bind y.o (fun g r _ q=>?_) fun g q=>⟨.mk 10 0 bE [.mk 7 0 0 s g] [] [],?_⟩)
 all_goals exact⟨_,_,_,rfl,wU (jL.keep q (zK.nest6 F _ _ _ _ _ _) O) r64 Gu (y7 _ _ _ _ _ _ _ _).symm,qw _ _,qw _ _⟩
theorem iL{tj:List dY}(G:jr b V tj x w)(l:zU [40] (x.bind fun _ r=>qt 1 r)=false)(m:zU [91] (x.bind fun _ r=>qt 1 r)=false)(p:zH (x.bind fun _ r=>q3 n r)):
 Cy 128 #[(b,0)] w (qp b V tj w (x.bind fun _ r=>q3 n r) (e6 w.heap.size)):=by
 have F:(x.bind fun _ r=>q3 n r)=(x.bind fun _ r=>qt 1 r).bind fun s r=>(zQ [61] r).bind fun _ r=>(pE n 1 1 r).bind fun e r=>.ok (.mk 2 0 s [e] [] []) r:=by
  rw[n7];cases hx:(x.bind fun _ r=>qt 1 r)with
  |ok s r=>
    rw[hx]at l m;show(if zt [40] r=true then _ else _)=_;rw[Dl (by rw[show zt [40] r=false from l];decide),Dl (by rw[show zt [91] r=false from m];decide)];rfl
  |_=>rfl
 obtain⟨g,I⟩:=Cz ((x.bind fun _ r=>qt 1 r));rw[I]at F l m;rw[F]at p ⊢
 have M:(g.bind fun s r=>(zQ [61] r).bind fun _ r=>(pE n 1 1 r).bind fun e r=>PR.ok (St.mk 2 0 s [e] [] []) r)=g.bind fun s r=>((zQ [61] r).bind fun _ r=>pE n 1 1 r).bind fun e r=>PR.ok (St.mk 2 0 s [e] [] []) r:=by
  simp only[zY]
 have L:zH ((g.un.bind fun _ r=>zQ [61] r).bind fun _ r=>pE n 1 1 r):=by
  rw[M]at p;cases g with
  |ok s r=>exact qM p
  |_=>exact p
 have K:=U L;have c:=U (kB.start G);have R:=U I;have H:∀t,zU t g.un=zU t g:=fun t=>by cases g<;>rfl
 have S:=C0 (zU (⟨#[40]⟩:C2).data.toList g.un=false) ((H _).trans l);have T:=C0 (zU (⟨#[91]⟩:C2).data.toList g.un=false) ((H _).trans m);have N:=U (vU (b:=b) (V:=V) (tj:=tj) (n:=n) (d:=1) Up Up);have ae:=G.lt;clear G I l m p F M L H;go_enter func128,ntmps128
 go_wp2_with (first
  | (go_at_call 55;(with_reducible refine(yr c.o.st 1 Up).mono ?_);rintro e _ ⟨s,rfl,f,i⟩
     rw[R.o]at f i;have Q:=U i;replace c:=U (c.o.step f)
     clear f i)
  |(go_at_call 56;(with_reducible refine(zE c.o.st _ S.o).mono ?_);rintro e _ ⟨rfl,f⟩;replace c:=U (c.o.step f);clear f)
  |(go_at_call 56;(with_reducible refine(zE c.o.st _ T.o).mono ?_);rintro e _ ⟨rfl,f⟩;replace c:=U (c.o.step f);clear f)
  | (go_at_call 58;(with_reducible refine(zh c.o.st ⟨#[61]⟩).mono ?_);rintro e J ⟨rfl,f⟩
     replace c:=C0 (kB b V tj w (g.un.bind fun _ r=>zQ [61] r) J) (c.o.step f);have ad:=c.o.size
     clear f)
  | (go_at_call 126;(with_reducible refine(N.o.call c.o.st K.o).mono ?_);rintro e k ⟨v,rfl,f,i⟩
     obtain⟨u,y,z,A,B,C,D,rfl⟩:=jC i K.o;have P:=U i;replace c:=U (c.o.step f);have af:=c.o.size;obtain⟨⟨_,_,_,_,_,_⟩,_⟩:=c.o.own
     clear f i))
 obtain⟨W,f1,X,f3,Y,Z⟩:=c.o.wu (.cells #[(u:Int),(y:Int),(z:Int),A,(B,C,D)] 147) (.int .i64 2) (.int .i64 0) (.string s) (.slice (some ⟨k.heap.size,0,none⟩) 1 1) (.slice none 0 0) (.slice none 0 0);refine bodyPost_ret (v:=.agg #[(2:Int),(0:Int),s,.slice (some ⟨k.heap.size,0,none⟩) 1 1,(),()]) (by simp[results,results128,go_sem,W,f1,X,f3,Y,Z]) rfl ?_
 have q:∀e,ky J.heap.size k e (.agg #[(u:Int),(y:Int),(z:Int),A,(B,C,D)])->e6 w.heap.size ((f9 k w.heap.size (.int .i64 2) (.int .i64 0) (.string s) (.slice (some ⟨k.heap.size,0,none⟩) 1 1) (.slice none 0 0) (.slice none 0 0)).alloc (.cells #[(u:Int),(y:Int),(z:Int),A,(B,C,D)] 147)) (.mk 2 0 s [e] [] []) (.agg #[(2:Int),(0:Int),s,.slice (some ⟨k.heap.size,0,none⟩) 1 1,(),()]):=fun e j=>
  ⟨_,_,_,rfl,ug (ky.keep j (zK.nest6 ad _ _ _ _ _ _) Zr) O Gu (y7 _ _ _ _ _ _ _ _).symm,qw _ _,qw _ _⟩
 have i:=P.o;have ab:=Q.o;refine c.o.dc ?_ ?_
 .cases g with
  |ok E r=>
    show((zQ [61] r).bind fun _ r=>(pE n 1 1 r).bind fun e r=>PR.ok (St.mk 2 0 E [e] [] []) r).un=((zQ [61] r).bind fun _ r=>pE n 1 1 r).un;rw[<-zY,jo];rfl
  |_=>rfl
 .cases g with
  |ok E r=>
    obtain rfl:E=s:=ab;have aa:je (((zQ [61] r).bind fun _ r=>pE n 1 1 r)) fun a=>ky J.heap.size k a (.agg #[(u:Int),(y:Int),(z:Int),A,(B,C,D)]):=i
    show je ((zQ [61] r).bind fun _ r=>(pE n 1 1 r).bind fun e r=>PR.ok (St.mk 2 0 E [e] [] []) r) _;rw[<-zY];exact aa.bind (fun e r _ j=>q e j) fun e j=>⟨_,q e j⟩
  |bad r=>obtain⟨e,j⟩:=i;exact⟨_,q e j⟩
  |deep r=>obtain⟨e,j⟩:=i;exact⟨_,q e j⟩
  |o=>trivial
theorem jP.drew0{tj:List dY}{w':C3}(a:jP b V tj w.drew x w')(c:b<w.heap.size):jP b V tj w x w':=⟨a.1,(dX.wb (D1 w.heap.size w).drew c).trans a.2⟩
theorem kB.drew{tj:List dY}(h:kB b V tj w x W):kB b V tj w x W.drew:=h.step ⟨h.st.below Zb.drew,dX.wb Zb.drew h.st.lt⟩
def I9(n:Nat)(s:C2)(r:List dY):PR St:=(pE n 1 1 r).bind fun e r=>(zQ [93] r).bind fun _ r=>(zQ [61] r).bind fun _ r=>(pE n 1 1 r).bind fun f r=>.ok (.mk 3 0 s [e,f] [] []) r
def FG(n:Nat)(r:List dY):PR Unit:=(((PR.ok () r).bind fun _ r=>pE n 1 1 r).un.bind fun _ r=>zQ [93] r).bind fun _ r=>zQ [61] r
theorem S2(a:zH (I9 n s r)):zH ((FG n r).bind fun _ r=>pE n 1 1 r):=by
 unfold I9 at a;unfold FG;show zH ((((pE n 1 1 r).un.bind fun _ r=>zQ [93] r).bind fun _ r=>zQ [61] r).bind fun _ r=>pE n 1 1 r);cases hx:pE n 1 1 r with
 |ok e r=>
   rw[hx]at a;have b:zH ((zQ [93] r).bind fun _ r=>(zQ [61] r).bind fun _ r=>(pE n 1 1 r).bind fun f r=>.ok (St.mk 3 0 s [e,f] [] []) r):=a;show zH ((((zQ [93] r)).bind fun _ r=>zQ [61] r).bind fun _ r=>pE n 1 1 r);rw[<-zY,<-zY]at b;exact qM b
 |bad r=>trivial
 |deep r=>trivial
 |o=>rw[hx]at a;exact a
theorem zbe:(I9 n s r).un=((FG n r).bind fun _ r=>pE n 1 1 r).un:=by
 unfold I9 FG;show _=((((pE n 1 1 r).un.bind fun _ r=>zQ [93] r).bind fun _ r=>zQ [61] r).bind fun _ r=>pE n 1 1 r).un;cases pE n 1 1 r with
 |ok e r=>
   show((zQ [93] r).bind fun _ r=>(zQ [61] r).bind fun _ r=>(pE n 1 1 r).bind fun f r=>PR.ok (St.mk 3 0 s [e,f] [] []) r).un=((((zQ [93] r)).bind fun _ r=>zQ [61] r).bind fun _ r=>pE n 1 1 r).un;rw[<-zY,<-zY,jo];rfl
 |_=>rfl
theorem YN{P1 P2:Ex->Prop}{Q:St->Prop}(a:je ((PR.ok () r).bind fun _ r=>pE n 1 1 r) P1)(g:je ((FG n r).bind fun _ r=>pE n 1 1 r) P2)(c:zH ((FG n r).bind fun _ r=>pE n 1 1 r))(i:∀e f,P1 e->P2 f->Q (.mk 3 0 s [e,f] [] [])):je (I9 n s r) Q:=by
 obtain⟨k,l⟩:=g.some c;unfold I9;unfold FG at g;cases hx:pE n 1 1 r with
 |ok e b=>
   have d:((PR.ok () r).bind fun _ r=>pE n 1 1 r)=.ok e b:=hx;rw[d]at a g;show je ((zQ [93] b).bind fun _ r=>(zQ [61] r).bind fun _ r=>(pE n 1 1 r).bind fun f r=>PR.ok (St.mk 3 0 s [e,f] [] []) r) Q;have m:je ((((zQ [93] b)).bind fun _ r=>zQ [61] r).bind fun _ r=>pE n 1 1 r) P2:=g;rw[<-zY,<-zY];exact m.bind (fun f r _ j=>i e f a j) fun f j=>⟨_,i e f a j⟩
 |bad b=>
   have d:((PR.ok () r).bind fun _ r=>pE n 1 1 r)=.bad b:=hx;rw[d]at a;obtain⟨e,c⟩:=a;exact⟨_,i e k c l⟩
 |deep b=>
   have d:((PR.ok () r).bind fun _ r=>pE n 1 1 r)=.deep b:=hx;rw[d]at a;obtain⟨e,c⟩:=a;exact⟨_,i e k c l⟩
 |o=>trivial
theorem zbf{a:Nat}{e m:Ex}{op n c f d:Int}{i:C2}{j l:C4}{T:TypeId}(q:ky L W e (.agg #[(k:Int),(op:Int),(n:Int),s,j]))(r:ky L W m (.agg #[(c:Int),(f:Int),(d:Int),i,l]))(o:a<=L)(t:a<=W.heap.size)(u:g=W.heap.size):
 jL a (W.alloc (.cells #[(k:Int),(op:Int),(n:Int),s,j,(c:Int),(f:Int),(d:Int),i,l] T)) [e,m] (.slice (some ⟨g,0,none⟩) 2 2):=by
 subst u;have p:=zK.wb (L:=L) ((D1 W.heap.size W).alloc Zr (.cells #[(k:Int),(op:Int),(n:Int),s,j,(c:Int),(f:Int),(d:Int),i,l] T));obtain⟨tc,rfl,v,y⟩:=nL (q.keep p o);obtain⟨_,rfl,x,z⟩:=nL (r.keep p o);exact K1 (w:=eE (i3 a) _) (b:=W.heap.size) ((lW (jb.2 t)).trans (Dq W _)) Ur v y x z
theorem OD{tj:List dY}(F:jr b V tj x w)(J:(x.bind fun _ r=>qt 1 r)=.ok s r)(G:zt [40] r=false)(H:zt [91] r=true)(A:zH (x.bind fun _ r=>q3 n r)):
 Cy 128 #[(b,0)] w (qp b V tj w (x.bind fun _ r=>q3 n r) (e6 w.heap.size)):=by
 have aa:(x.bind fun _ r=>q3 n r)=I9 n s r.tail:=by
  rw[n7,J];show(if zt [40] r=true then _ else _)=_;rw[Dl (by rw[G];decide),Dm H];rfl
 rw[aa]at A ⊢;have ab:=S2 A;have X:=C0 (zH ((PR.ok () r.tail).bind fun _ r=>pE n 1 1 r)) (qM A);have E:=U ab;have a:=U (kB.start F);have ak:=U J;have al:=C0 (zU (⟨#[40]⟩:C2).data.toList (PR.ok () r)=false) G;have am:=C0 (zU (⟨#[91]⟩:C2).data.toList (PR.ok () r)=true) H;have W:=U (vU (b:=b) (V:=V) (tj:=tj) (n:=n) (d:=1) Up Up);have aL:=F.lt;clear F J G H A aa ab;go_enter func128,ntmps128
 go_wp2_with (first
  | (go_at_call 55;(with_reducible refine(yr a.o.st 1 Up).mono ?_);rintro e aI ⟨aH,rfl,c,i⟩
     rw[ak.o]at c i;obtain rfl:s=aH:=i;replace a:=C0 (kB b V tj w (.ok () r) aI) (a.o.step c)
     clear c)
  |(go_at_call 56;(with_reducible refine(zE a.o.st _ al.o).mono ?_);rintro e _ ⟨rfl,c⟩;replace a:=U (a.o.step c);clear c)
  | (go_at_call 56;(with_reducible refine(zx a.o.st _ am.o).mono ?_);rintro e C ⟨rfl,c⟩
     replace a:=C0 (kB b V tj w (.ok () r.tail) C) (a.o.step c);have ay:=a.o.size
     clear c)
  | (go_at_call 126;(with_reducible refine(W.o.call a.o.st X.o).mono ?_);rintro e g ⟨v,rfl,c,i⟩
     obtain⟨K,M,N,P,Q,R,S,rfl⟩:=jC i X.o;have af:=U i;have I:=a.o.st.lt;replace a:=U (a.o.step c);have aM:=a.o.size;have z:g.heap.size≠b:=by have:=a.o.st.lt;omega
     have aJ:=c.off.size
     clear c i)
  | (go_at_call 58;(with_reducible refine(zh (a.o.alloc (.cells #[.int .i64 K,.int .i64 M,.int .i64 N,.string P,.slice Q R S] 147)).st ⟨#[93]⟩).mono ?_);rintro e ae ⟨rfl,c⟩
     have ah:=U ((zK.wb (L:=C.heap.size) (Zb.alloc Zr _)).trans (zK.did c I));have Y:=U (jM c.off (k:=g.heap.size) Ur z (Dq g _));replace a:=C0 (kB b V tj w (((PR.ok () r.tail).bind fun _ r=>pE n 1 1 r).un.bind fun _ r=>zQ [93] r) ae) ((a.o.alloc _).step c);have az:g.heap.size<ae.heap.size:=(Array.getElem?_eq_some_iff.1 Y.o).1
     clear c)
  | (go_at_call 58;(with_reducible refine(zh a.o.st ⟨#[61]⟩).mono ?_);rintro e l ⟨rfl,c⟩
     have ai:=U (ah.o.trans (zK.did c I));have B:=jM c.off (k:=g.heap.size) az z Y.o;have Z:=U B;obtain⟨⟨_,_,_,_,_⟩,_⟩:=zn B;replace a:=C0 (kB b V tj w (FG n r.tail) l) (a.o.step c);have ad:g.heap.size<l.heap.size:=(Array.getElem?_eq_some_iff.1 B).1
     clear c B))
 go_region_held3 (fun w'=>w'.cell? (g.heap.size,0)=some (.int .i64 K)/\w'.cell? (g.heap.size,1)=some (.int .i64 M)/\w'.cell? (g.heap.size,2)=some (.int .i64 N)/\w'.cell? (g.heap.size,3)=some (.string P)/\w'.cell? (g.heap.size,4)=some (.slice Q R S))
  (first
    |(go_split_ands;refine⟨?_,?_,?_,?_,?_⟩ <;>(rw[av];assumption))
    |(go_split_ands;refine⟨?_,?_,?_,?_,?_⟩ <;>(rw[aw];assumption))
    |go_keep)
  (first
    | (go_at_call 126;(refine(W.o.call (a.o.drew).st E.o).mono ?_);rintro e D ⟨v,rfl,c,i⟩
       obtain⟨aA,aB,aC,aD,aE,aF,aG,rfl⟩:=jC i E.o;have ag:=U i;have av:∀o,D.cell? ⟨g.heap.size,o,none⟩=l.cell? ⟨g.heap.size,o,none⟩:=(rB c.off (k:=g.heap.size) ad z).1;have aj:=U (ai.o.trans (zK.did (c.drew0 a.o.st.lt) I));have aK:=c.off.size;have ax:=jM c.off (k:=g.heap.size) ad z Z.o
       have aw:∀(m p q t u y:C4) (T:Obj) (j:Nat),((f9 D w.heap.size m p q t u y).alloc T).cell? ⟨g.heap.size,j,none⟩=l.cell? ⟨g.heap.size,j,none⟩:=fun m p q t u y T j=>
        (Ds (qI ((FF (show g.heap.size≠w.heap.size by omega) m p q t u y).trans ax) T) j).trans (Ds Z.o j).symm
       replace a:=U (a.o.drew.step c);have aN:=a.o.size;obtain⟨⟨m,p,q,t,u,y⟩,_⟩:=a.o.own
       clear c i))
 go_wp2_with fail;obtain⟨an,f1,ao,f3,ap,aq⟩:=a.o.wu (.cells #[(K:Int),(M:Int),(N:Int),P,(Q,R,S),(aA:Int),(aB:Int),(aC:Int),aD,(aE,aF,aG)] 147) (.int .i64 3) (.int .i64 0) (.string s) (.slice (some ⟨D.heap.size,0,none⟩) 2 2) (.slice none 0 0) (.slice none 0 0);refine bodyPost_ret (v:=.agg #[(3:Int),(0:Int),s,.slice (some ⟨D.heap.size,0,none⟩) 2 2,(),()]) (by simp[results,results128,go_sem,an,f1,ao,f3,ap,aq]) rfl ?_;refine a.o.dc zbe (YN af.o ag.o E.o fun e f ar au=>?_);refine⟨_,_,_,rfl,?_,qw _ _,qw _ _⟩;refine zbf (L:=C.heap.size) (ky.keep ar (aj.o.trans (zK.nest6 ay _ _ _ _ _ _)) Zr) (ky.keep au (zK.nest6 (by show w.heap.size<l.heap.size;omega) _ _ _ _ _ _) (by show C.heap.size<=l.heap.size;omega)) O Gu (y7 _ _ _ _ _ _ _ _).symm
theorem AP{tj:List dY}(a:jr b V tj x w)(c:zH (x.bind fun _ r=>q3 n r)):
 Cy 128 #[(b,0)] w (qp b V tj w (x.bind fun _ r=>q3 n r) (e6 w.heap.size)):=by
 cases hx:(x.bind fun _ r=>qt 1 r)with
 |ok s r=>
   cases h7:zt [40] r with
   |true=>exact I8 a hx h7 c
   |false=>
     cases h8:zt [91] r with
     |true=>exact OD a hx h7 h8 c
     |false=>exact iL a (by rw[hx];exact h7) (by rw[hx];exact h8) c
 |bad r=>exact iL a Vk Vk c
 |deep r=>exact iL a Vk Vk c
 |o=>exact iL a Vk Vk c
