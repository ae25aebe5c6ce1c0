import Derived.Test.YthcmenajdcbnnaaGreatDoorAnParSt
set_option linter.unusedSimpArgs false
set_option linter.unusedVariables false
set_option maxRecDepth 100000
namespace Go.Proofs.YthcmenajdcbnnaaGreatDoor
open Go.RowKit Tryz
variable{w w' W:C3}{v V:C4}{B B' b n:Nat}{r:List dY}{x:PR Unit}{d:Int}
structure CR where
 s:St
 v3:C4
 v4:C4
 v5:C4
def stC(p:CR):List C4:=match p.s with | .mk k t n _ _ _=>[.int .i64 k,.int .i64 t,.string n,p.v3,p.v4,p.v5]
def k9(ps:List CR):List C4:=ps.flatMap stC
theorem OJ(ps:List CR)(p:CR):k9 (ps++[p])=k9 ps++stC p:=by simp[k9]
def OK(N:Nat)(w:C3)(p:CR):Prop:=match p.s with | .mk _ _ _ a t e=>xA N w p.v3 a/\eN N w p.v4 t/\eN N w p.v5 e
theorem eN.mask{p q:Nat->Bool}{l:List St}(b:eN w.heap.size (_root_.Go.Proofs.YthcmenajdcbnnaaGreatDoor.eE p w) v l)(i:w.heap.size<=w'.heap.size)(d:∀k,k<w.heap.size->p k=false->q k=false/\w'.heap[k]?=w.heap[k]?):eN w'.heap.size (_root_.Go.Proofs.YthcmenajdcbnnaaGreatDoor.eE q w') v l:=by
 refine b.imp fun g o _ a=>?_
 obtain⟨e,a⟩:=qS a;obtain⟨f,c⟩:=d g a.1 e;exact qn f ⟨D6 a.1 i,(D4 (w:=w) c).trans a.2⟩
theorem AQ{p q:Nat->Bool}{x:CR}(d:OK w.heap.size (eE p w) x)(f:w.heap.size<=w'.heap.size)(e:∀k,k<w.heap.size->p k=false->q k=false/\w'.heap[k]?=w.heap[k]?):OK w'.heap.size (eE q w') x:=by
 obtain⟨⟨k,t,n,a,b,c⟩,_,_,_⟩:=x;exact⟨xA.mask d.1 f e,eN.mask d.2.1 f e,eN.mask d.2.2 f e⟩
theorem FL(e:∀g o f,dZ B w g o f->dZ B' w' g o f){x:CR}(d:OK B w x):OK B' w' x:=by
 obtain⟨⟨k,t,n,a,b,c⟩,_,_,_⟩:=x;exact⟨d.1.imp e,d.2.1.imp e,d.2.2.imp e⟩
def eU(B:Nat)(w:C3)(v:C4)(tk:List St):Prop:=
 ∃ps:List CR,ps.map (·.s)=tk/\w.ownsRow B 139 6 v ps.length (k9 ps)/\∀p∈ps,OK w.heap.size (eE (vJ B v) w) p
theorem eU.nil(B:Nat)(w:C3):eU B w (.slice none 0 0) []:=⟨[],rfl,Ym w B _ 6,fun p a=>Xb⟩
theorem eU.form{tk:List St}(b:eU B w v tk):∃a c,v=.slice a tk.length c:=by
 obtain⟨ps,rfl,d,_⟩:=b;rw[Yd];exact zb d
theorem eU.own{tk:List St}(a:eU B w v tk):∀k,v.ownBlock=some k->k<w.heap.size/\B<=k:=by
 obtain⟨ps,_,b,_⟩:=a;exact zo b
theorem eU.keep{tk:List St}(b:eU B w v tk)(k:zK B w w'):eU B w' v tk:=by
 have c:=b.own;obtain⟨ps,e,g,i⟩:=b;exact⟨ps,e,zZ g fun j a=>k.2 j (c j a).1 (c j a).2,fun p f=>AQ (i p f) k.1 fun j a d=>⟨d,k.2 j a (qd.1 d).1⟩⟩
theorem eU.app{L:Nat}{W w':C3}{v':C4}{tk:List St}{e:St}{k t:Int}{s:C2}{y z A:C4}(r:eU B w v tk)(K:e6 L w e (.agg #[(k:Int),(t:Int),s,y,z,A]))(_:B<=L)(J:∀k,v.ownBlock=some k->k<L)
 (o:Cx w W) (E:W.grownBy w' v.ownBlock) (P:kn W v v') (M:w'.ownsRow B 139 6 v' (tk.length+1) ((k9 (Classical.choose r))++[.int .i64 k,.int .i64 t,.string s,y,z,A])):eU B w' v' (tk++[e]):=by
 obtain⟨G,_,N⟩:=Co r;generalize Classical.choose r=ps at *;obtain⟨_,_,s',a,b,c⟩:=e;obtain⟨u3,u4,u5,H,l,m,I⟩:=K;simp only[Value.agg.injEq,Array.mk.injEq,Y7,Value.int.injEq,Value.string.injEq,true_and,and_true]at H;obtain⟨rfl,rfl,rfl,rfl,rfl,rfl⟩:=H;have q:w.heap.size<=w'.heap.size:=Dr o.size E.size
 have D:∀j,j<w.heap.size->v.ownBlock≠some j->v'.ownBlock≠some j/\w'.heap[j]?=w.heap[j]?:=fun j f F=>by
  refine⟨fun d=>?_,(E.block j (D6 f o.size) (fun e=>F e.symm)).trans (o.block j f)⟩;rcases P with i|⟨g,i,C⟩
  .exact F (i▸d)
  .rw[i]at d
   injection d with d;have:=o.size;omega
 have u:∀j,j<w.heap.size->i3 L j=false->vJ B v' j=false/\w'.heap[j]?=w.heap[j]?:=fun j f x=>by
  have Q:=jb.1 x;obtain⟨l,m⟩:=D j f (fun d=>by have:=J j d;omega);exact⟨qd.2 ⟨O,l⟩,m⟩
 refine⟨ps++[⟨.mk k t s a b c,y,z,A⟩],by rw[Yf,G];rfl,?_,fun p n=>?_⟩
 .rw[OJ,Dn,show ps.length=tk.length by rw[<-G,Yd]]
  exact M
 .rcases List.mem_append.1 n with n|n
  .refine AQ (N p n) q fun j f x=>?_
   obtain⟨i,C⟩:=qd.1 x;obtain⟨l,m⟩:=D j f C;exact⟨qd.2 ⟨i,l⟩,m⟩
  .obtain rfl:=List.mem_singleton.1 n
   exact⟨xA.mask l q u,eN.mask m q u,eN.mask I q u⟩
theorem LH{d:Nat}{g:Nat}:∀(ps:List CR) (o:Nat),(∀j f,(k9 ps)[j]?=some f->dZ d W g (o+j) f)->(∀p∈ps,OK d W p)->xG d W (ps.map (·.s)) g o
 | [],_,_,_=>by
   show xG d W [] g _;rw[xG];trivial
 | p::r,o,hc,hp=>by
   show xG d W (p.s::r.map (·.s)) g o;have i:=hp p (Y4 ..);obtain⟨⟨k,t,u,a,b,c⟩,l,m,n⟩:=p;have e:k9 (⟨.mk k t u a b c,l,m,n⟩::r)=.int .i64 k :: .int .i64 t :: .string u::l::m::n::k9 r:=by simp[k9,stC]
   rw[e]at hc;rw[xG];refine⟨?_,LH r (o+6) (fun j f v=>?_) fun q w=>hp q (Yz _ w)⟩
   .rw[ED]
    exact⟨hc 0 _ rfl,hc 1 _ rfl,hc 2 _ rfl,⟨l,hc 3 _ rfl,i.1⟩,⟨m,hc 4 _ rfl,i.2.1⟩,⟨n,hc 5 _ rfl,i.2.2⟩⟩
   .have:=hc (j+6) f (by simpa using v)
    rw[show o+6+j=o+(j+6)by omega];exact this
theorem eU.read{tk:List St}(i:eU B w v tk)(r:tk.length<=281474976710656):kD B w tk v:=by
 obtain⟨ps,rfl,s,t⟩:=i
 have x:∀g o b,dZ w.heap.size (eE (vJ B v) w) g o b->dZ w.heap.size (eE (i3 B) w) g o b:=fun g o b c=>by
  obtain⟨u,c⟩:=qS c;exact qn (jb.2 (qd.1 u).1) c
 rcases s.2 with⟨rfl,k⟩|⟨g,e,f,rfl,l,d,_,_,_,m⟩
 .have:ps=[]:=Yj k
  subst this;exact B2 _ _
 .refine⟨_,e,?_,?_,fun _=>⟨g,0,rfl,?_⟩⟩
  .rw[Yd]
  .exact r
  .have n:g<w.heap.size:=(Array.getElem?_eq_some_iff.1 d).1
   refine LH ps 0 (fun j b a=>?_) fun p q=>FL x (t p q)
   refine qn (jb.2 l) ⟨n,?_⟩;rw[Yo,cell_of_row w g j f _ (0,0) d];rw[<-m,Y5]at a;split at a
   .simpa using a
   .cases a
theorem LI:(Tryz.prog.info? 139).map (fun i=>(i.zero,i.size,i.bytes))=some (some zd3,6,104):=by kernel_rfl
theorem YO{tk:List St}(k:eU B w v tk)(a b c d g i:C4)(_:B<=w.heap.size):
 (w.alloc (.cells #[a,b,c,d,g,i] 139)).ownsRow B 139 6 v tk.length (k9 (Classical.choose k))/\
 (∀j l,[a,b,c,d,g,i][j]?=some l->(w.alloc (.cells #[a,b,c,d,g,i] 139)).cell? ((⟨w.heap.size,0,none⟩:Addr).add j)=some l)/\B<=(w.alloc (.cells #[a,b,c,d,g,i] 139)).heap.size:=by
 obtain⟨n,m,_⟩:=Co k;refine⟨?_,fun j l o=>?_,Ut⟩
 .have e:(Classical.choose k).length=tk.length:=by rw[<-Yd (f:=(·.s)),n]
  rw[e]at m;exact qD m ((D1 w.heap.size w).alloc Zr _) Zr
 .rw[show(⟨w.heap.size,0,none⟩:Addr).add j=⟨w.heap.size,j,none⟩by unfold Addr.add;split<;>simp_all]
  exact(cell_of_row _ w.heap.size j _ _ (0,0) (Dq w _)).trans (by simpa using o)
def uX(b:Nat)(w:C3):Nat:=match w.cell? (b,2),w.cell? (b,3)with
 |some (.bool false),some (.bool false)=>1
 |_,_=>0
theorem FM{tj:List dY}(h:zc b V tj r false false w):uX b w=1:=by
 unfold uX;rw[h.cells.2.2.1,h.cells.2.2.2]
theorem fR{tj:List dY}(e:jr b V tj x w)(f:qC x=true):uX b w=0:=by
 unfold uX;obtain⟨r,d,dp,c,a,_⟩:=e.box;rw[f]at a;rw[c.cells.2.2.1,c.cells.2.2.2];cases d<;>cases dp<;>first|rfl|cases a
theorem FN(b:Nat)(w:C3):uX b w<=1:=by
 unfold uX;split<;>omega
def zbg(b:Nat)(V:C4)(tj:List dY)(w:C3)(T:PR (List St))(n:Nat)(d:Int)(c:C4)(wr:C3):Prop:=
 ∃(m:Nat) (tk:List St) (a:PR Unit),m<=n/\eU w.heap.size wr c tk/\jP b V tj w a wr/\T=a.bind (fun _ r=>nB m d tk r)/\(qC a=false->tk.length<=vB b wr)/\tk.length<=2000000
def YP(b:Nat)(V:C4)(tj:List dY)(w w':C3)(q:Nat)(d:Int)(tk:List St)(r:List dY)(v':C4):Prop:=
 (∃(a:List St) (c:PR Unit),eU w.heap.size w' v' a/\jP b V tj w c w'/\nB (q+1) d tk r=c.bind (fun _ r=>nB q d a r)/\(qC c=false->a.length<=vB b w')/\a.length<=2000000)/\2*(tj.length-vB b w')+uX b w'<2*r.length+1
theorem mL{q:Nat}{tk:List St}(h:zt [125] r=false):nB (q+1) d tk r=(pS q d r).bind fun s r=>nB q d (tk++[s]) r:=by rw[nB,Dl (by rw[h];decide)]
theorem S4{b:Nat}{V:C4}{tj:List dY}{w l w':C3}{q:Nat}{d:Int}{tk:List St}{r:List dY}{v v':C4}{L:Nat}{k t:Int}{s:C2}{u y z:C4}
 (n:eU w.heap.size l v tk) (Q:jP b V tj w (pS q d r).un l) (m:je (pS q d r) fun a=>e6 L l a (.agg #[(k:Int),(t:Int),s,u,y,z])) (hF:zm 1 r (pS q d r)) (F:zt [125] r=false)
 (g:(l.alloc (.cells #[(k:Int),(t:Int),s,u,y,z] 139)).grownBy w' v.ownBlock) (M:kn (l.alloc (.cells #[(k:Int),(t:Int),s,u,y,z] 139)) v v')
 (K:w'.ownsRow w.heap.size 139 6 v' (tk.length+1) ((k9 (Classical.choose n))++[.int .i64 k,.int .i64 t,.string s,u,y,z])) (H:∀k,v.ownBlock=some k->k<L) (G:w.heap.size<=L) (_:r.length<=tj.length)
 (_:tk.length<=1000000) (_:tk.length<=tj.length-r.length) (T:i2 b V tj w) (_:b<w.heap.size) (_:0<r.length):YP b V tj w w' q d tk r v':=by
 have I:Cx l (l.alloc (.cells #[(k:Int),(t:Int),s,u,y,z] 139)):=Zb.alloc Zr _
 have R:∀x,jP b V tj w x l->jP b V tj w x w':=fun x i=>by
  have A:=i.alloc (.cells #[(k:Int),(t:Int),s,u,y,z] 139)
  have S:v.ownBlock≠some b:=fun e=>by
   have W:=(n.own b e).2;omega
  have P:dX b w.heap.size w w':=A.off.trans (dX.mk' g.os g.tape g.output g.size A.st.lt fun j _ _=>g.block j (by have:=A.off.size;omega) (fun e=>by
   have:=(n.own j e.symm).2
   omega))
  exact⟨A.st.move T P (g.block b A.st.lt (fun e=>S e.symm)),P⟩
 have c:=R _ Q;cases i:pS q d r with
 |ok e f=>
   rw[i]at m c hF;have B:zI 1 r f:=hF;have C:zc b V tj f false false w':=c.st;have p:=jY C;have N:=B.2.2;have D:=FN b w';refine⟨⟨tk++[e],.ok () f,n.app m G H I g M K,c,by rw[mL F,i];rfl,fun _=>?_,?_⟩,?_⟩
   .rw[p,Dn]
    simp;omega
   .rw[Dn]
    simp;omega
   .rw[p]
    omega
 |bad f=>
   rw[i]at m c hF;have B:zI 0 r f:=hF;have C:zc b V tj f true false w':=c.st;have p:=jY C;have N:=B.2.2;have D:=fR c.st rfl;obtain⟨e,J⟩:=m;refine⟨⟨tk++[e],.bad f,n.app J G H I g M K,c,by rw[mL F,i];rfl,(fun E=>by cases E),?_⟩,?_⟩
   .rw[Dn]
    simp;omega
   .rw[p,D]
    omega
 |deep f=>
   rw[i]at m c hF;have B:zI 0 r f:=hF;have C:zc b V tj f false true w':=c.st;have p:=jY C;have N:=B.2.2;have D:=fR c.st rfl;obtain⟨e,J⟩:=m;refine⟨⟨tk++[e],.deep f,n.app J G H I g M K,c,by rw[mL F,i];rfl,(fun E=>by cases E),?_⟩,?_⟩
   .rw[Dn]
    simp;omega
   .rw[p,D]
    omega
 |o=>
   rw[i]at c;exact absurd c.st id
theorem YQ{tj:List dY}(c:d<=100->∀m,m<=n->CB b V tj m (d+1))(a:jr b V tj (.ok () r) w)(e:0<=d/\d<=1000)(f:zH (pS (n+1) d r)):
 Cy 103 #[(b,0),(d:Int)] w (qp b V tj w (pS (n+1) d r) (e6 w.heap.size)):=OI c a e f
theorem S5{tj:List dY}(g:jr b V tj x w)(f:qC x=true)(d:Int):
 Cy 82 #[(b,0),(d:Int)] w fun e w'=>e=.returned (.slice none 0 0)/\jP b V tj w x w':=by
 have a:=C0 (jP b V tj w x w) ⟨g,dX.refl _ _ _⟩;have j:=U f;have i:=U (show(x.bind fun _ r=>zQ (⟨#[123]⟩:C2).data.toList r)=x by cases x with|ok _ r=>cases f|_=>rfl);clear g f;go_enter func82,ntmps82
 go_wp2_with (first
  |(go_at_call 58;(with_reducible refine(zh a.o.st _).mono ?_);rintro e _ ⟨rfl,c⟩;rw[i.o]at c;replace a:=U (a.o.after c);clear c))
 go_loopw [5] (fun k wr=>k=.slice none 0 0/\jP b V tj w x wr) (fun _ _=>0)
 case atStart=>exact⟨rfl,a.o⟩
 case round=>
  obtain⟨rfl,c⟩:=hrel;replace a:=U c;clear c
  go_wp2_with (first
   |(go_at_call 53;(with_reducible refine(qL a.o.st true j.o).mono ?_);rintro e _ ⟨rfl,rfl⟩))
  go_ret;exact⟨rfl,a.o⟩
theorem LJ{tj:List dY}{T:PR (List St)}{tk:List St}{z:PR Unit}(c:jP b V tj w z W)(f:eU w.heap.size W v tk)(_:tk.length<=2000000)(d:T=z.bind fun _ r=>.ok tk r):qp b V tj w T (kD w.heap.size) (.returned v) W:=by
 have a:=f.read O;subst d;refine⟨v,rfl,?_,?_⟩
 .rw[jo]
  have e:(z.bind fun _ r=>(PR.ok tk r).un)=z:=by cases z<;>rfl
  rw[e];exact c
 .cases z with
  |ok _ r=>exact a
  |bad r=>exact⟨tk,a⟩
  |deep r=>exact⟨tk,a⟩
  |o=>trivial
theorem YR{tj:List dY}(W:d<=100->∀m,m<=n->CB b V tj m (d+1))(p:jr b V tj x w)(aa:0<=d/\d<=1000)(T:PR (List St))(X:T=(x.bind fun _ r=>zQ [123] r).bind fun _ r=>nB n d [] r)(ae:zH T):
 Cy 82 #[(b,0),(d:Int)] w (qp b V tj w T (kD w.heap.size)):=by
 have a:=C0 (jP b V tj w x w) ⟨p,dX.refl _ _ _⟩;have B:=p.lt;have aL:=U p.tok;have ax:=U W;have z:=U ae;have aK:=U X;have aA:=U aa;clear p ae X W aa;go_enter func82,ntmps82
 go_wp2_with (first
  | (go_at_call 58;(with_reducible refine(zh a.o.st ⟨#[123]⟩).mono ?_);rintro e aU ⟨rfl,c⟩
     replace a:=C0 (jP b V tj w (x.bind fun _ r=>zQ [123] r) aU) (a.o.after c)
     clear c))
 go_loopw [5] (fun aT wr=>zbg b V tj w T n d aT wr) (fun _ wr=>2*(tj.length-vB b wr)+uX b wr)
 case atStart=>exact⟨n,[],_,Dy _,eU.nil _ _,a.o,aK.o,fun _=>Dw _,Ur⟩
 case round=>
  obtain⟨aS,ad,ah,ai,aj⟩:=info_parts LI;have y:=U (Do ad (Do ah (Do ai aj)));clear ad ah ai aj;obtain⟨m,tk,s,_,i,c,l,J,Y⟩:=hrel;cases ho:qC s with
  |true=>
    have j:T=s.bind fun _ r=>.ok tk r:=l.trans (iK ho _ _)
    have t:=U j;have g:=U i;replace a:=U c;have aH:=U ho;obtain⟨C,F,rfl⟩:=i.form;clear c i l j J ho
    go_wp2_with (first
     |(go_at_call 53;(with_reducible refine(qL a.o.st true aH.o).mono ?_);rintro e au ⟨rfl,rfl⟩))
    go_ret;exact LJ a.o g.o Y t.o
  |false=>
    obtain⟨r,rfl⟩:∃r,s=.ok () r:=by
     cases s with
     |ok _ r=>exact⟨r,rfl⟩
     |bad r=>cases ho
     |deep r=>cases ho
     |o=>exact absurd c.st id
    have Z:=J rfl;clear J;obtain⟨A,aQ,_,K,aR⟩:=yU c;rw[A]at Z;have L:=FM (show zc b V tj r false false wr from c.st);cases hs:zt [125] r with
    |true=>
      have j:T=(PR.ok () r.tail).bind fun _ r=>.ok tk r:=by
       rw[l];show nB m d tk r=.ok tk r.tail;cases m with
       |zero=>have f:=z.o;rw[l]at f;exact absurd (show zH (nB 0 d tk r)from f) (by rw[nB];exact id)
       |succ m=>rw[nB,Dm hs]
      have t:=U j;have E:=C0 (zU (⟨#[125]⟩:C2).data.toList (PR.ok () r)=true) hs;have g:=U i;replace a:=U c;obtain⟨C,F,rfl⟩:=i.form;clear c i l j A K hs ho L
      go_wp2_with (first
       |(go_at_call 53;(with_reducible refine(qL a.o.st false rfl).mono ?_);rintro e au ⟨rfl,rfl⟩)
       | (go_at_call 56;(with_reducible refine(zx a.o.st _ E.o).mono ?_);rintro e av ⟨rfl,c⟩
          replace g:=U (g.o.keep (zK.did c B));replace a:=C0 (jP b V tj w (.ok () r.tail) av) (a.o.after c)
          clear c))
      go_ret;exact LJ a.o g.o Y t.o
    |false=>
      obtain⟨q,rfl⟩:∃q,m=q+2:=by
       match m with
       |0=>have f:=z.o;rw[l]at f;exact absurd (show zH (nB 0 d tk r)from f) (by rw[nB];exact id)
       |1=>have f:=z.o;rw[l]at f;exact absurd (show zH (nB 1 d tk r)from f) (by rw[mL hs,pS];exact id)
       |q+2=>exact⟨q,rfl⟩
      have j:T=nB (q+2) d tk r:=l;have t:=U j;have E:=C0 (zU (⟨#[125]⟩:C2).data.toList (PR.ok () r)=false) hs;have aJ:=U hs;have Q:=U (show zH (pS (q+1) d r)by have f:=z.o;rw[j,mL hs]at f;exact qM f);have aB:=U (q6 (n:=q+1) (d:=d) K);have ay:=C0 (d<=100->∀m,m<=q->CB b V tj m (d+1)) (fun p m _=>ax.o p m O);have g:=U i;have aw:=U A;have aF:=U L;replace a:=U c;obtain⟨C,F,rfl⟩:=i.form;clear c i l j A K hs ho L
      go_wp2_with (first
       |(go_at_call 53;(with_reducible refine(qL a.o.st false rfl).mono ?_);rintro e au ⟨rfl,rfl⟩)
       | (go_at_call 56;(with_reducible refine(zE a.o.st _ E.o).mono ?_);rintro e av ⟨rfl,c⟩
          replace g:=U (g.o.keep (zK.did c B));replace a:=U (a.o.after c);have az:=a
          clear c)
       | (go_at_call 103;(with_reducible refine(YQ ay.o a.o.st aA.o Q.o).mono ?_);rintro e aV ⟨v,rfl,c,I⟩
          obtain⟨ak,al,am,M,an,aq,N,ao,q4,P,ap,ar,rfl⟩:=n6 I Q.o;have aC:=U I;have R:=U (g.o.keep (zK.did c B));have aE:=U g.o.own;replace a:=U (a.o.after c);have D:=U (YO R.o (.int .i64 ak) (.int .i64 al) (.string am) (.slice M an aq) (.slice N ao q4) (.slice P ap ar) Jr)
          clear c I)
       |(at_builtin;refine zy rfl (.tmp 16) (.tmp 20) _ rfl w.heap.size 139 aS _ 6 104 underlying91 y.o.1 y.o.2.1 y.o.2.2.1 y.o.2.2.2 rfl O (.slice C tk.length F) tk.length _ rfl (by exact D.o.1) ⟨aV.heap.size,0,none⟩ 1 1 [.int .i64 ak,.int .i64 al,.string am,.slice M an aq,.slice N ao q4,.slice P ap ar] rfl rfl (by exact D.o.2.1) Uw Uv O (by exact D.o.2.2) O ?_;intro _ _ af ab ag;have aG:=U af;have aD:=U ab;have aI:=U ag;clear af ab ag))
      have S:=U (S4 (d:=d) (q:=q+1) R.o a.o aC.o aB.o aJ.o aD.o aI.o aG.o (fun k aP=>(aE.o k aP).1) (by have:=az.o.off.size;omega) aQ O Z aL.o B aR);go_roundw
      case rel=>
       obtain⟨aM,s,f,G,H,aN,aO⟩:=S.o.1;exact⟨q+1,aM,s,O,f,G,t.o.trans H,aN,aO⟩
      case measure=>
       have f:=S.o.2;have G:=aw.o;have H:=aF.o;simp only[G,H]at *;omega
theorem AR(b:Nat)(V:C4)(tj:List dY):∀(n:Nat),∀m,m<=n->∀d:Int,0<=d->d<=101->CB b V tj m d
 | 0,m,hm,d,h1,h2=>by
   obtain rfl:m=0:=O
   intro w x a c;cases ho:qC x with
   |true=>exact(S5 a ho d).mono fun e w' ⟨i,g⟩=>i▸mH ho g [] (B2 _ _)
   |false=>
     cases x with
     |ok l r=>exact absurd (show zH (pB 0 d r)from c) (by rw[pB];exact id)
     |bad r=>cases ho
     |deep r=>cases ho
     |o=>exact absurd a id
 | n+1,m,hm,d,h1,h2=>by
   have f:=AR b V tj n;by_cases j:m<=n
   .exact f m j d h1 h2
   .obtain rfl:m=n+1:=by omega
    intro w x a c
    exact YR (n:=n) (fun _ q k=>f q k (d+1) O O) a ⟨h1,O⟩ _ (by
     cases x with
     |ok l r=>show pB (n+1) d r=_;rw[pB];rfl
     |_=>rfl) c
theorem sU{tj:List dY}(a:0<=d)(c:d<=101):CB b V tj n d:=AR b V tj n n Zr d a c
structure FO (β:Type) where
 T:TypeId
 n:Nat
 cs:β->List C4
 inn:Nat->C3->β->Prop
 len:∀p,(cs p).length=n
 mono:∀{B B':Nat} {w w':C3} (p:β),(∀g o u,dZ B w g o u->dZ B' w' g o u)->inn B w p->inn B' w' p
def eC{β:Type}(K:FO β)(B:Nat)(w:C3)(v:C4)(ps:List β):Prop:=
 w.ownsRow B K.T K.n v ps.length (ps.flatMap K.cs)/\∀p∈ps,K.inn w.heap.size (eE (vJ B v) w) p
def FrK{β:Type}(K:FO β)(L:Nat)(w:C3)(p:β):Prop:=K.inn w.heap.size (eE (i3 L) w) p
section
variable {β:Type}{K:FO β}{B:Nat} {w w':C3}{v:C4}{ps:List β}
theorem eC.nil(K:FO β)(B:Nat)(w:C3):eC K B w (.slice none 0 0) []:=⟨Ym w B _ _,fun p a=>Xb⟩
theorem eC.form(h:eC K B w v ps):∃A c,v=.slice A ps.length c:=zb h.1
theorem eC.own(h:eC K B w v ps):∀k,v.ownBlock=some k->k<w.heap.size/\B<=k:=zo h.1
theorem sV{p q:Nat->Bool}{x:β}(b:K.inn w.heap.size (eE p w) x)(i:w.heap.size<=w'.heap.size)(d:∀k,k<w.heap.size->p k=false->q k=false/\w'.heap[k]?=w.heap[k]?):K.inn w'.heap.size (eE q w') x:=
 K.mono x (fun g o _ a=>by
  obtain⟨e,a⟩:=qS a;obtain⟨f,c⟩:=d g a.1 e
  exact qn f ⟨D6 a.1 i,(D4 (w:=w) c).trans a.2⟩) b
theorem eC.keep(a:eC K B w v ps)(k:zK B w w'):eC K B w' v ps:=
 ⟨zZ a.1 fun j b=>k.2 j (a.own j b).1 (a.own j b).2,fun p d=>sV (a.2 p d) k.1 fun j b c=>⟨c,k.2 j b (qd.1 c).1⟩⟩
theorem eC.app{L:Nat}{W:C3}{v':C4}{p:β}(x:eC K B w v ps)(z:FrK K L w p)(_:B<=L)(y:∀k,v.ownBlock=some k->k<L)
 (f:Cx w W) (s:W.grownBy w' v.ownBlock) (C:kn W v v') (A:w'.ownsRow B K.T K.n v' (ps.length+1) (ps.flatMap K.cs++K.cs p)):eC K B w' v' (ps++[p]):=by
 have u:w.heap.size<=w'.heap.size:=Dr f.size s.size
 have r:∀j,j<w.heap.size->v.ownBlock≠some j->v'.ownBlock≠some j/\w'.heap[j]?=w.heap[j]?:=fun j b t=>by
  refine⟨fun a=>?_,(s.block j (D6 b f.size) (fun e=>t e.symm)).trans (f.block j b)⟩;rcases C with c|⟨g,c,o⟩
  .exact t (c▸a)
  .rw[c]at a
   injection a with a;have:=f.size;omega
 refine⟨?_,fun q d=>?_⟩
 .rw[Cq,Dn]
  simpa using A
 .rcases List.mem_append.1 d with d|d
  .refine sV (x.2 q d) u fun j b m=>?_
   obtain⟨c,o⟩:=qd.1 m;obtain⟨i,l⟩:=r j b o;exact⟨qd.2 ⟨c,i⟩,l⟩
  .obtain rfl:=List.mem_singleton.1 d
   refine sV z u fun j b m=>?_
   have D:=jb.1 m;obtain⟨i,l⟩:=r j b (fun a=>by have:=y j a;omega);exact⟨qd.2 ⟨O,i⟩,l⟩
theorem eC.pre(b:eC K B w v ps)(cs:List C4)(_:B<=w.heap.size):
 (w.alloc (.cells cs.toArray K.T)).ownsRow B K.T K.n v ps.length (ps.flatMap K.cs)/\
 (∀j a,cs[j]?=some a->(w.alloc (.cells cs.toArray K.T)).cell? ((⟨w.heap.size,0,none⟩:Addr).add j)=some a)/\B<=(w.alloc (.cells cs.toArray K.T)).heap.size:=by
 refine⟨qD b.1 ((D1 w.heap.size w).alloc Zr _) Zr,fun j a c=>?_,Ut⟩;rw[show(⟨w.heap.size,0,none⟩:Addr).add j=⟨w.heap.size,j,none⟩by unfold Addr.add;split<;>simp_all];exact(cell_of_row _ w.heap.size j _ _ (0,0) (Dq w _)).trans Xe
theorem S6{α:Type}(K:FO β)(f:β->α){b:Nat}{W:C3}{g:Nat}{F:α->Nat->Nat->Prop}(hF:∀p o,(∀j a,(K.cs p)[j]?=some a->dZ b W g (o+j) a)->K.inn b W p->F (f p) g o):
 ∀(ps:List β) (o:Nat),(∀j a,(ps.flatMap K.cs)[j]?=some a->dZ b W g (o+j) a)->(∀p∈ps,K.inn b W p)->uI K.n F (ps.map f) g o
 |[],_,_,_=>trivial
 | p::r,o,hc,hp=>by
   rw[Y2]at hc;refine⟨hF p o (fun j a c=>hc j a ?_) (hp p (Y4 ..)),S6 K f hF r (o+K.n) (fun j a c=>?_) fun q d=>hp q (Yz _ d)⟩
   .rw[Yn (List.getElem?_eq_some_iff.1 c).1]
    exact c
   .have:=hc (j+K.n) a (by rw[Yi (by rw[K.len];omega),K.len,Yt];exact c)
    rw[show o+K.n+j=o+(j+K.n)by omega];exact this
theorem eC.read{α:Type}(f:β->α){F:Nat->C3->α->Nat->Nat->Prop}(hF:∀c W p g o,(∀j a,(K.cs p)[j]?=some a->dZ c W g (o+j) a)->K.inn c W p->F c W (f p) g o)(d:eC K B w v ps)(u:ps.length<=281474976710656):
 vR v (ps.map f).length (uI K.n (F w.heap.size (eE (i3 B) w)) (ps.map f)):=by
 have A:∀g o a,dZ w.heap.size (eE (vJ B v) w) g o a->dZ w.heap.size (eE (i3 B) w) g o a:=fun g o a e=>by
  obtain⟨z,e⟩:=qS e;exact qn (jb.2 (qd.1 z).1) e
 obtain⟨x,y⟩:=d;rcases x.2 with⟨rfl,m⟩|⟨g,k,l,rfl,q,i,_,_,_,r⟩
 .have:ps=[]:=Yj m
  subst this;exact⟨none,0,rfl,Dw _,fun d=>absurd d Ur⟩
 .refine⟨_,k,?_,?_,fun _=>⟨g,0,rfl,?_⟩⟩
  .rw[Yd]
  .rw[Yd];exact u
  .have s:g<w.heap.size:=(Array.getElem?_eq_some_iff.1 i).1
   refine S6 K f (fun p o=>hF _ _ p g o) ps 0 (fun j a b=>?_) fun p t=>K.mono p A (y p t)
   refine qn (jb.2 q) ⟨s,?_⟩;rw[Yo,cell_of_row w g j l _ (0,0) i];rw[<-r,Y5]at b;split at b
   .simpa using b
   .cases b
end
def kP:FO Pa where
 T:=100
 n:=2
 cs p:=[.string p.name,.int .i64 p.type]
 inn _ _ _:=True
 len _:=rfl
 mono _ _ h:=h
def kA:FO Ar where
 T:=80
 n:=2
 cs p:=[.string p.name,.int .i64 p.size]
 inn _ _ _:=True
 len _:=rfl
 mono _ _ h:=h
theorem RG.imp(c:∀g o d,dZ B w g o d->dZ B' w' g o d)(a:Pa)(g o:Nat)(b:RG B w a g o):RG B' w' a g o:=⟨c _ _ _ b.1,c _ _ _ b.2⟩
theorem e5.imp(d:∀g o c,dZ B w g o c->dZ B' w' g o c){l:List Pa}(b:e5 B w v l):e5 B' w' v l:=⟨vR.imp b.1 fun g o=>uI.imp (fun a g o=>RG.imp d a g o) l g o,b.2⟩
structure DU where
 f:Fu
 v2:C4
 v3:C4
def kF:FO DU where
 T:=93
 n:=4
 cs p:=[.string p.f.name,.int .i64 p.f.type,p.v2,p.v3]
 inn N w p:=e5 N w p.v2 p.f.params/\eN N w p.v3 p.f.body
 len _:=rfl
 mono _ hc h:=⟨h.1.imp hc,h.2.imp hc⟩
theorem eC.params{ps:List Pa}(d:eC kP B w v ps)(k:ps.length<=281474976710656):e5 w.heap.size (eE (i3 B) w) v ps:=by
 have:=d.read (fun p=>p) (F:=fun b W a g o=>RG b W a g o) (fun b W p g o e _=>⟨e 0 _ rfl,e 1 _ rfl⟩) k;rw[List.map_id']at this;refine⟨this,fun _ n c f=>?_⟩;rcases d.1.2 with⟨rfl,_⟩|⟨g,_,_,rfl,_,_,_,_,_,_⟩
 .injection f with _ i j
  omega
 .injection f with _ i j
  omega
theorem eC.wa{ps:List Ar}(d:eC kA B w v ps)(e:ps.length<=281474976710656):eZ w.heap.size (eE (i3 B) w) v ps:=by
 have:=d.read (fun p=>p) (F:=fun b W a g o=>RF b W a g o) (fun b W p g o c _=>⟨c 0 _ rfl,c 1 _ rfl⟩) e;rwa [List.map_id']at this
theorem eC.funcs{ps:List DU}(e:eC kF B w v ps)(i:ps.length<=281474976710656):e0 w.heap.size (eE (i3 B) w) v (ps.map (·.f)):=
 eC.read (β:=DU) (α:=Fu) (K:=kF) DU.f (F:=fun b W a g o=>WY b W a g o) (fun b W p g o c (d:e5 b W p.v2 p.f.params/\eN b W p.v3 p.f.body)=>⟨c 0 _ rfl,c 1 _ rfl,⟨_,c 2 _ rfl,d.1⟩,⟨_,c 3 _ rfl,d.2⟩⟩) e i
theorem LK:(Tryz.prog.info? 100).map (fun i=>(i.zero,i.size,i.bytes))=some (some (.agg #[.string ⟨#[]⟩,(0:Int)]),2,24):=by kernel_rfl
theorem LL:(Tryz.prog.info? 80).map (fun i=>(i.zero,i.size,i.bytes))=some (some (.agg #[.string ⟨#[]⟩,(0:Int)]),2,24):=by kernel_rfl
theorem LM:(Tryz.prog.info? 93).map (fun i=>(i.zero,i.size,i.bytes))=some (some (.agg #[.string ⟨#[]⟩,(0:Int),(),()]),4,72):=by kernel_rfl
theorem jF{P:Program}{ops:Array Oper}{o:Oper}{a:Act}{w:C3}{K:Act->C3->Prop}{Q:Exit->Act->C3->Prop}{J:Prop}(T:o.guard=none)(s x:Operand)(t:TypeId)
 (X:o.op=.call { callee:=.builtin .append,args:=#[s,x],argTypes:=#[t,t] })
 (base:Nat) (e:TypeId) (i:TypeInfo) (z:C4) (b k:Nat) (G:P.underlying t=some (.slice e)) (y:P.info? e=some i) (H:i.zero=some z)
 (E:i.size=b) (r:i.bytes=k) (I:z.cells.size=b) (F:0<b)
 (v:C4) (n:Nat) (l:List C4) (Y:a.eval s=v) (C:w.ownsRow base e b v n l)
 (g:Addr) (m c:Nat) (d:List C4) (aa:a.eval x=.slice (some g) m c) (A:d.length=m*b) (B:∀j f,d[j]?=some f->w.cell? (g.add j)=some f) (p:∀f∈d,f.oneCell'=true)
 (q:n+m<=maxLen) (u:(n+m)*k<=140737488355328) (S:base<=w.heap.size) (W:0<m)
 (L:∀v' w',w'.ownsRow base e b v' (n+m) (l++d)->w.grownBy w' v.ownBlock->kn w v v'->K (a.put o.dst v') w'):
 if Region.wanted o (yielded ops a.tmps)=true then Oper.wp P o a w K Q else J:=by
 have Z:Region.wanted o (yielded ops a.tmps)=true:=by simp[Region.wanted,T]
 rw[Dm Z];obtain⟨v',w',D,M,N,_⟩:=run_append_own (P:=P) w base t o.type e i z b k G y H E r I F v n l C g m c d A B p q u S;have R:=z5 G y H E r I F C A B p q u W D;have V:=L v' w' M N R;unfold Oper.wp execOp;simp only[X,resolve,invoke,builtin,Sem.run_bind,Sem.run_pure,Result.andThen_ok,List.map_toArray,Yb,Cj,Y,aa,D];exact V
structure Cfg where
 b:Nat
 L:Nat
 B:Nat
 va:C4
 vf:C4
 vr:C4
 p:Pr
 rows:List Nat
def arV(x:Nat×List Int):C4:=.slice (some ⟨x.1,0,none⟩) x.2.length x.2.length
abbrev FP(l:List Int):Obj:=.cells (l.map (Value.int .i64)).toArray 3
def eJ(l:List Int):Prop:=∀n∈l,eF n
def lQ(B:Nat)(w:C3)(v:C4)(l:List Int):Prop:=wJ B w v l/\∀A n c,v=.slice A n c->n<=c
theorem lQ.below{l:List Int}(a:lQ B w v l)(c:Below B w w')(b:B<=B'):lQ B' w' v l:=⟨a.1.below c b,a.2⟩
section
variable {c:Cfg} {w w':C3} {vo vo':C4} {s s':RS}
end
section
variable {L:Nat} {w w':C3}{f:Nat}{vv:C4}{vs:d2}{how n:Int}
end
theorem YS{C:Nat}{e t:TypeId}{m k l:Nat}{d:C4}{r s:List C4}(o:w.ownsRow B e n v k r)(g:w.ownsRow C t m d l s)(q:e≠t):∀j,v.ownBlock=some j->d.ownBlock≠some j:=by
 intro j c a;rcases o.2 with⟨rfl,_⟩|⟨f,_,_,rfl,_,p,_⟩
 .cases c
 rcases g.2 with⟨rfl,_⟩|⟨i,_,_,rfl,_,b,_⟩
 .cases a
 injection c with c;injection a with a;subst c;have a:i=f:=a;subst a;rw[p]at b;injection b with b;injection b with _ b;exact q b
