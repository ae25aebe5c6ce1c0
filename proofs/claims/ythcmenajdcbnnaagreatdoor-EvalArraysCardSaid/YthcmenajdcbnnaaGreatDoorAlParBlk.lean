import Derived.Test.YthcmenajdcbnnaaGreatDoorAlParSt
set_option linter.unusedSimpArgs false
set_option linter.unusedVariables false
set_option maxRecDepth 100000
namespace Go.Proofs.YthcmenajdcbnnaaGreatDoor
open Go.RowKit Tryz
variable{w w' W:C4}{v V:C5}{B B' L k b n:Nat}{r:List fH}{x:PR Unit}{d:Int}
structure C8 where
 s:St
 v3:C5
 v4:C5
 v5:C5
def stC(p:C8):List C5:=match p.s with | .mk k t n _ _ _=>[.int .i64 k,.int .i64 t,.string n,p.v3,p.v4,p.v5]
def sU(ps:List C8):List C5:=ps.flatMap stC
theorem NQ(ps:List C8)(p:C8):sU (ps++[p])=sU ps++stC p:=by simp[sU]
def NR(N:Nat)(w:C4)(p:C8):Prop:=match p.s with | .mk _ _ _ a t e=>kW N w p.v3 a/\f6 N w p.v4 t/\f6 N w p.v5 e
theorem f6.mask{p q:Nat->Bool}{l:List St}(b:f6 w.heap.size (_root_.Go.Proofs.YthcmenajdcbnnaaGreatDoor.fW p w) v l)(i:w.heap.size<=w'.heap.size)(d:∀k,k<w.heap.size->p k=false->q k=false/\w'.heap[k]?=w.heap[k]?):f6 w'.heap.size (_root_.Go.Proofs.YthcmenajdcbnnaaGreatDoor.fW q w') v l:=by
 refine b.imp fun g o _ a=>?_
 obtain⟨e,a⟩:=jb a;obtain⟨f,c⟩:=d g a.1 e;exact jn f ⟨Yb a.1 i,(D6 (w:=w) c).trans a.2⟩
theorem AV{p q:Nat->Bool}{x:C8}(d:NR w.heap.size (fW p w) x)(f:w.heap.size<=w'.heap.size)(e:∀k,k<w.heap.size->p k=false->q k=false/\w'.heap[k]?=w.heap[k]?):NR w'.heap.size (fW q w') x:=by
 obtain⟨⟨k,t,n,a,b,c⟩,_,_,_⟩:=x;exact⟨kW.mask d.1 f e,f6.mask d.2.1 f e,f6.mask d.2.2 f e⟩
theorem R5(e:∀g o f,fK B w g o f->fK B' w' g o f){x:C8}(d:NR B w x):NR B' w' x:=by
 obtain⟨⟨k,t,n,a,b,c⟩,_,_,_⟩:=x;exact⟨d.1.imp e,d.2.1.imp e,d.2.2.imp e⟩
def uf(B:Nat)(w:C4)(v:C5)(tk:List St):Prop:=
 ∃ps:List C8,ps.map (·.s)=tk/\w.ownsRow B 139 6 v ps.length (sU ps)/\∀p∈ps,NR w.heap.size (fW (yr B v) w) p
theorem uf.nil(B:Nat)(w:C4):uf B w (.slice none 0 0) []:=⟨[],rfl,Yp w B _ 6,fun p a=>Uo⟩
theorem uf.form{tk:List St}(b:uf B w v tk):∃a c,v=.slice a tk.length c:=by
 obtain⟨ps,rfl,d,_⟩:=b;rw[Yh];exact zY d
theorem uf.own{tk:List St}(a:uf B w v tk):∀k,v.ownBlock=some k->k<w.heap.size/\B<=k:=by
 obtain⟨ps,_,b,_⟩:=a;exact zT b
theorem uf.keep{tk:List St}(b:uf B w v tk)(k:zL B w w'):uf B w' v tk:=by
 have c:=b.own;obtain⟨ps,e,g,i⟩:=b;exact⟨ps,e,zQ g fun j a=>k.2 j (c j a).1 (c j a).2,fun p f=>AV (i p f) k.1 fun j a d=>⟨d,k.2 j a (qu.1 d).1⟩⟩
theorem uf.app{W w':C4}{v':C5}{tk:List St}{e:St}{k t:Int}{s:C3}{y z A:C5}(r:uf B w v tk)(K:gX L w e (.agg #[(k:Int),(t:Int),s,y,z,A]))(_:B<=L)(J:∀k,v.ownBlock=some k->k<L)
 (o:Cy w W) (E:W.grownBy w' v.ownBlock) (P:kn W v v') (M:w'.ownsRow B 139 6 v' (tk.length+1) ((sU (Classical.choose r))++[.int .i64 k,.int .i64 t,.string s,y,z,A])):uf B w' v' (tk++[e]):=by
 obtain⟨G,_,N⟩:=Cq r;generalize Classical.choose r=ps at *;obtain⟨_,_,s',a,b,c⟩:=e;obtain⟨u3,u4,u5,H,l,m,I⟩:=K;simp only[Value.agg.injEq,Array.mk.injEq,Cb,Value.int.injEq,Value.string.injEq,true_and,and_true]at H;obtain⟨rfl,rfl,rfl,rfl,rfl,rfl⟩:=H;have q:w.heap.size<=w'.heap.size:=Dy o.size E.size
 have D:∀j,j<w.heap.size->v.ownBlock≠some j->v'.ownBlock≠some j/\w'.heap[j]?=w.heap[j]?:=fun j f F=>by
  refine⟨fun d=>?_,(E.block j (Yb f o.size) (fun e=>F e.symm)).trans (o.block j f)⟩;rcases P with i|⟨g,i,C⟩
  .exact F (i▸d)
  .rw[i]at d
   injection d with d;have:=o.size;omega
 have u:∀j,j<w.heap.size->nS L j=false->yr B v' j=false/\w'.heap[j]?=w.heap[j]?:=fun j f x=>by
  have Q:=kt.1 x;obtain⟨l,m⟩:=D j f (fun d=>by have:=J j d;omega);exact⟨qu.2 ⟨O,l⟩,m⟩
 refine⟨ps++[⟨.mk k t s a b c,y,z,A⟩],by rw[Yj,G];rfl,?_,fun p n=>?_⟩
 .rw[NQ,Dr,show ps.length=tk.length by rw[<-G,Yh]]
  exact M
 .rcases List.mem_append.1 n with n|n
  .refine AV (N p n) q fun j f x=>?_
   obtain⟨i,C⟩:=qu.1 x;obtain⟨l,m⟩:=D j f C;exact⟨qu.2 ⟨i,l⟩,m⟩
  .obtain rfl:=List.mem_singleton.1 n
   exact⟨kW.mask l q u,f6.mask m q u,f6.mask I q u⟩
theorem K2{d:Nat}{g:Nat}:∀(ps:List C8) (o:Nat),(∀j f,(sU ps)[j]?=some f->fK d W g (o+j) f)->(∀p∈ps,NR d W p)->xB d W (ps.map (·.s)) g o
 | [],_,_,_=>by
   show xB d W [] g _;rw[xB];trivial
 | p::r,o,hc,hp=>by
   show xB d W (p.s::r.map (·.s)) g o;have i:=hp p (Y4 ..);obtain⟨⟨k,t,u,a,b,c⟩,l,m,n⟩:=p;have e:sU (⟨.mk k t u a b c,l,m,n⟩::r)=.int .i64 k :: .int .i64 t :: .string u::l::m::n::sU r:=by simp[sU,stC]
   rw[e]at hc;rw[xB];refine⟨?_,K2 r (o+6) (fun j f v=>?_) fun q w=>hp q (Y7 _ w)⟩
   .rw[EP]
    exact⟨hc 0 _ rfl,hc 1 _ rfl,hc 2 _ rfl,⟨l,hc 3 _ rfl,i.1⟩,⟨m,hc 4 _ rfl,i.2.1⟩,⟨n,hc 5 _ rfl,i.2.2⟩⟩
   .have:=hc (j+6) f (by simpa using v)
    rw[show o+6+j=o+(j+6)by omega];exact this
theorem uf.read{tk:List St}(i:uf B w v tk)(r:tk.length<=281474976710656):xm B w tk v:=by
 obtain⟨ps,rfl,s,t⟩:=i
 have x:∀g o b,fK w.heap.size (fW (yr B v) w) g o b->fK w.heap.size (fW (nS B) w) g o b:=fun g o b c=>by
  obtain⟨u,c⟩:=jb c;exact jn (kt.2 (qu.1 u).1) c
 rcases s.2 with⟨rfl,k⟩|⟨g,e,f,rfl,l,d,_,_,_,m⟩
 .have:ps=[]:=Yq k
  subst this;exact CF _ _
 .refine⟨_,e,?_,?_,fun _=>⟨g,0,rfl,?_⟩⟩
  .rw[Yh]
  .exact r
  .have n:g<w.heap.size:=(Array.getElem?_eq_some_iff.1 d).1
   refine K2 ps 0 (fun j b a=>?_) fun p q=>R5 x (t p q)
   refine jn (kt.2 l) ⟨n,?_⟩;rw[Yz,cell_of_row w g j f _ (0,0) d];rw[<-m,Y8]at a;split at a
   .simpa using a
   .cases a
theorem WZ:(Tryz.prog.info? 139).map (fun i=>(i.zero,i.size,i.bytes))=some (some zcz,6,104):=by kernel_rfl
theorem W6{tk:List St}(k:uf B w v tk)(a b c d g i:C5)(_:B<=w.heap.size):
 (w.alloc (.cells #[a,b,c,d,g,i] 139)).ownsRow B 139 6 v tk.length (sU (Classical.choose k))/\
 (∀j l,[a,b,c,d,g,i][j]?=some l->(w.alloc (.cells #[a,b,c,d,g,i] 139)).cell? ((⟨w.heap.size,0,none⟩:Addr).add j)=some l)/\B<=(w.alloc (.cells #[a,b,c,d,g,i] 139)).heap.size:=by
 obtain⟨n,m,_⟩:=Cq k;refine⟨?_,fun j l o=>?_,Uj⟩
 .have e:(Classical.choose k).length=tk.length:=by rw[<-Yh (f:=(·.s)),n]
  rw[e]at m;exact qS m ((D4 w.heap.size w).alloc Zr _) Zr
 .rw[show(⟨w.heap.size,0,none⟩:Addr).add j=⟨w.heap.size,j,none⟩by unfold Addr.add;split<;>simp_all]
  exact(cell_of_row _ w.heap.size j _ _ (0,0) (Ds w _)).trans (by simpa using o)
def uA(b:Nat)(w:C4):Nat:=match w.cell? (b,2),w.cell? (b,3)with
 |some (.bool false),some (.bool false)=>1
 |_,_=>0
theorem FT{tj:List fH}(h:zc b V tj r false false w):uA b w=1:=by
 unfold uA;rw[h.cells.2.2.1,h.cells.2.2.2]
theorem zAg{tj:List fH}(e:jm b V tj x w)(f:qD x=true):uA b w=0:=by
 unfold uA;obtain⟨r,d,dp,c,a,_⟩:=e.box;rw[f]at a;rw[c.cells.2.2.1,c.cells.2.2.2];cases d<;>cases dp<;>first|rfl|cases a
theorem FU(b:Nat)(w:C4):uA b w<=1:=by
 unfold uA;split<;>omega
def zag(b:Nat)(V:C5)(tj:List fH)(w:C4)(T:PR (List St))(n:Nat)(d:Int)(c:C5)(wr:C4):Prop:=
 ∃(m:Nat) (tk:List St) (a:PR Unit),m<=n/\uf w.heap.size wr c tk/\jK b V tj w a wr/\T=a.bind (fun _ r=>nR m d tk r)/\(qD a=false->tk.length<=yk b wr)/\tk.length<=2000000
def XA(b:Nat)(V:C5)(tj:List fH)(w w':C4)(q:Nat)(d:Int)(tk:List St)(r:List fH)(v':C5):Prop:=
 (∃(a:List St) (c:PR Unit),uf w.heap.size w' v' a/\jK b V tj w c w'/\nR (q+1) d tk r=c.bind (fun _ r=>nR q d a r)/\(qD c=false->a.length<=yk b w')/\a.length<=2000000)/\2*(tj.length-yk b w')+uA b w'<2*r.length+1
theorem mT{q:Nat}{tk:List St}(h:zq [125] r=false):nR (q+1) d tk r=(pS q d r).bind fun s r=>nR q d (tk++[s]) r:=by rw[nR,Dp (by rw[h];decide)]
theorem R6{b:Nat}{V:C5}{tj:List fH}{w l w':C4}{q:Nat}{d:Int}{tk:List St}{r:List fH}{v v':C5}{L:Nat}{k t:Int}{s:C3}{u y z:C5}
 (n:uf w.heap.size l v tk) (Q:jK b V tj w (pS q d r).un l) (m:ja (pS q d r) fun a=>gX L l a (.agg #[(k:Int),(t:Int),s,u,y,z])) (hF:zm 1 r (pS q d r)) (F:zq [125] r=false)
 (g:(l.alloc (.cells #[(k:Int),(t:Int),s,u,y,z] 139)).grownBy w' v.ownBlock) (M:kn (l.alloc (.cells #[(k:Int),(t:Int),s,u,y,z] 139)) v v')
 (K:w'.ownsRow w.heap.size 139 6 v' (tk.length+1) ((sU (Classical.choose n))++[.int .i64 k,.int .i64 t,.string s,u,y,z])) (H:∀k,v.ownBlock=some k->k<L) (G:w.heap.size<=L) (_:r.length<=tj.length)
 (_:tk.length<=1000000) (_:tk.length<=tj.length-r.length) (T:k5 b V tj w) (_:b<w.heap.size) (_:0<r.length):XA b V tj w w' q d tk r v':=by
 have I:Cy l (l.alloc (.cells #[(k:Int),(t:Int),s,u,y,z] 139)):=Zb.alloc Zr _
 have R:∀x,jK b V tj w x l->jK b V tj w x w':=fun x i=>by
  have A:=i.alloc (.cells #[(k:Int),(t:Int),s,u,y,z] 139)
  have S:v.ownBlock≠some b:=fun e=>by
   have W:=(n.own b e).2;omega
  have P:fI b w.heap.size w w':=A.off.trans (fI.mk' g.os g.tape g.output g.size A.st.lt fun j _ _=>g.block j (by have:=A.off.size;omega) (fun e=>by
   have:=(n.own j e.symm).2
   omega))
  exact⟨A.st.move T P (g.block b A.st.lt (fun e=>S e.symm)),P⟩
 have c:=R _ Q;cases i:pS q d r with
 |ok e f=>
   rw[i]at m c hF;have B:zJ 1 r f:=hF;have C:zc b V tj f false false w':=c.st;have p:=jY C;have N:=B.2.2;have D:=FU b w';refine⟨⟨tk++[e],.ok () f,n.app m G H I g M K,c,by rw[mT F,i];rfl,fun _=>?_,?_⟩,?_⟩
   .rw[p,Dr]
    simp;omega
   .rw[Dr]
    simp;omega
   .rw[p]
    omega
 |bad f=>
   rw[i]at m c hF;have B:zJ 0 r f:=hF;have C:zc b V tj f true false w':=c.st;have p:=jY C;have N:=B.2.2;have D:=zAg c.st rfl;obtain⟨e,J⟩:=m;refine⟨⟨tk++[e],.bad f,n.app J G H I g M K,c,by rw[mT F,i];rfl,(fun E=>by cases E),?_⟩,?_⟩
   .rw[Dr]
    simp;omega
   .rw[p,D]
    omega
 |deep f=>
   rw[i]at m c hF;have B:zJ 0 r f:=hF;have C:zc b V tj f false true w':=c.st;have p:=jY C;have N:=B.2.2;have D:=zAg c.st rfl;obtain⟨e,J⟩:=m;refine⟨⟨tk++[e],.deep f,n.app J G H I g M K,c,by rw[mT F,i];rfl,(fun E=>by cases E),?_⟩,?_⟩
   .rw[Dr]
    simp;omega
   .rw[p,D]
    omega
 |o=>
   rw[i]at c;exact absurd c.st id
theorem XC{tj:List fH}(c:d<=100->∀m,m<=n->CB b V tj m (d+1))(a:jm b V tj (.ok () r) w)(e:0<=d/\d<=1000)(f:zI (pS (n+1) d r)):
 Cz 103 #[(b,0),(d:Int)] w (qk b V tj w (pS (n+1) d r) (gX w.heap.size)):=NP c a e f
theorem R7{tj:List fH}(g:jm b V tj x w)(f:qD x=true)(d:Int):
 Cz 82 #[(b,0),(d:Int)] w fun e w'=>e=.returned (.slice none 0 0)/\jK b V tj w x w':=by
 have a:=C2 (jK b V tj w x w) ⟨g,fI.refl _ _ _⟩;have j:=U f;have i:=U (show(x.bind fun _ r=>zN (⟨#[123]⟩:C3).data.toList r)=x by cases x with|ok _ r=>cases f|_=>rfl);clear g f;go_enter func82,ntmps82
 go_wp2_with (first
  |(go_at_call 58;(with_reducible refine(zg a.o.st _).mono ?_);rintro e _ ⟨rfl,c⟩;rw[i.o]at c;replace a:=U (a.o.after c);clear c))
 go_loopw [5] (fun k wr=>k=.slice none 0 0/\jK b V tj w x wr) (fun _ _=>0)
 case atStart=>exact⟨rfl,a.o⟩
 case round=>
  obtain⟨rfl,c⟩:=hrel;replace a:=U c;clear c
  go_wp2_with (first
   |(go_at_call 53;(with_reducible refine(qL a.o.st true j.o).mono ?_);rintro e _ ⟨rfl,rfl⟩))
  go_ret;exact⟨rfl,a.o⟩
theorem K3{tj:List fH}{T:PR (List St)}{tk:List St}{z:PR Unit}(c:jK b V tj w z W)(f:uf w.heap.size W v tk)(_:tk.length<=2000000)(d:T=z.bind fun _ r=>.ok tk r):qk b V tj w T (xm w.heap.size) (.returned v) W:=by
 have a:=f.read O;subst d;refine⟨v,rfl,?_,?_⟩
 .rw[jj]
  have e:(z.bind fun _ r=>(PR.ok tk r).un)=z:=by cases z<;>rfl
  rw[e];exact c
 .cases z with
  |ok _ r=>exact a
  |bad r=>exact⟨tk,a⟩
  |deep r=>exact⟨tk,a⟩
  |o=>trivial
theorem XF{tj:List fH}(W:d<=100->∀m,m<=n->CB b V tj m (d+1))(p:jm b V tj x w)(aa:0<=d/\d<=1000)(T:PR (List St))(X:T=(x.bind fun _ r=>zN [123] r).bind fun _ r=>nR n d [] r)(ae:zI T):
 Cz 82 #[(b,0),(d:Int)] w (qk b V tj w T (xm w.heap.size)):=by
 have a:=C2 (jK b V tj w x w) ⟨p,fI.refl _ _ _⟩;have B:=p.lt;have aL:=U p.tok;have ax:=U W;have z:=U ae;have aK:=U X;have aA:=U aa;clear p ae X W aa;go_enter func82,ntmps82
 go_wp2_with (first
  | (go_at_call 58;(with_reducible refine(zg a.o.st ⟨#[123]⟩).mono ?_);rintro e aU ⟨rfl,c⟩
     replace a:=C2 (jK b V tj w (x.bind fun _ r=>zN [123] r) aU) (a.o.after c)
     clear c))
 go_loopw [5] (fun aT wr=>zag b V tj w T n d aT wr) (fun _ wr=>2*(tj.length-yk b wr)+uA b wr)
 case atStart=>exact⟨n,[],_,D0 _,uf.nil _ _,a.o,aK.o,fun _=>Dx _,Uh⟩
 case round=>
  obtain⟨aS,ad,ah,ai,aj⟩:=info_parts WZ;have y:=U (Dt ad (Dt ah (Dt ai aj)));clear ad ah ai aj;obtain⟨m,tk,s,_,i,c,l,J,Y⟩:=hrel;cases ho:qD s with
  |true=>
    have j:T=s.bind fun _ r=>.ok tk r:=l.trans (i5 ho _ _)
    have t:=U j;have g:=U i;replace a:=U c;have aH:=U ho;obtain⟨C,F,rfl⟩:=i.form;clear c i l j J ho
    go_wp2_with (first
     |(go_at_call 53;(with_reducible refine(qL a.o.st true aH.o).mono ?_);rintro e au ⟨rfl,rfl⟩))
    go_ret;exact K3 a.o g.o Y t.o
  |false=>
    obtain⟨r,rfl⟩:∃r,s=.ok () r:=by
     cases s with
     |ok _ r=>exact⟨r,rfl⟩
     |bad r=>cases ho
     |deep r=>cases ho
     |o=>exact absurd c.st id
    have Z:=J rfl;clear J;obtain⟨A,aQ,_,K,aR⟩:=yI c;rw[A]at Z;have L:=FT (show zc b V tj r false false wr from c.st);cases hs:zq [125] r with
    |true=>
      have j:T=(PR.ok () r.tail).bind fun _ r=>.ok tk r:=by
       rw[l];show nR m d tk r=.ok tk r.tail;cases m with
       |zero=>have f:=z.o;rw[l]at f;exact absurd (show zI (nR 0 d tk r)from f) (by rw[nR];exact id)
       |succ m=>rw[nR,Dq hs]
      have t:=U j;have E:=C2 (zU (⟨#[125]⟩:C3).data.toList (PR.ok () r)=true) hs;have g:=U i;replace a:=U c;obtain⟨C,F,rfl⟩:=i.form;clear c i l j A K hs ho L
      go_wp2_with (first
       |(go_at_call 53;(with_reducible refine(qL a.o.st false rfl).mono ?_);rintro e au ⟨rfl,rfl⟩)
       | (go_at_call 56;(with_reducible refine(qA a.o.st _ E.o).mono ?_);rintro e av ⟨rfl,c⟩
          replace g:=U (g.o.keep (zL.did c B));replace a:=C2 (jK b V tj w (.ok () r.tail) av) (a.o.after c)
          clear c))
      go_ret;exact K3 a.o g.o Y t.o
    |false=>
      obtain⟨q,rfl⟩:∃q,m=q+2:=by
       match m with
       |0=>have f:=z.o;rw[l]at f;exact absurd (show zI (nR 0 d tk r)from f) (by rw[nR];exact id)
       |1=>have f:=z.o;rw[l]at f;exact absurd (show zI (nR 1 d tk r)from f) (by rw[mT hs,pS];exact id)
       |q+2=>exact⟨q,rfl⟩
      have j:T=nR (q+2) d tk r:=l;have t:=U j;have E:=C2 (zU (⟨#[125]⟩:C3).data.toList (PR.ok () r)=false) hs;have aJ:=U hs;have Q:=U (show zI (pS (q+1) d r)by have f:=z.o;rw[j,mT hs]at f;exact qM f);have aB:=U (rA (n:=q+1) (d:=d) K);have ay:=C2 (d<=100->∀m,m<=q->CB b V tj m (d+1)) (fun p m _=>ax.o p m O);have g:=U i;have aw:=U A;have aF:=U L;replace a:=U c;obtain⟨C,F,rfl⟩:=i.form;clear c i l j A K hs ho L
      go_wp2_with (first
       |(go_at_call 53;(with_reducible refine(qL a.o.st false rfl).mono ?_);rintro e au ⟨rfl,rfl⟩)
       | (go_at_call 56;(with_reducible refine(zE a.o.st _ E.o).mono ?_);rintro e av ⟨rfl,c⟩
          replace g:=U (g.o.keep (zL.did c B));replace a:=U (a.o.after c);have az:=a
          clear c)
       | (go_at_call 103;(with_reducible refine(XC ay.o a.o.st aA.o Q.o).mono ?_);rintro e aV ⟨v,rfl,c,I⟩
          obtain⟨ak,al,am,M,an,aq,N,ao,q4,P,ap,ar,rfl⟩:=oL I Q.o;have aC:=U I;have R:=U (g.o.keep (zL.did c B));have aE:=U g.o.own;replace a:=U (a.o.after c);have D:=U (W6 R.o (.int .i64 ak) (.int .i64 al) (.string am) (.slice M an aq) (.slice N ao q4) (.slice P ap ar) Jn)
          clear c I)
       |(at_builtin;refine qJ rfl (.tmp 16) (.tmp 20) _ rfl w.heap.size 139 aS _ 6 104 underlying91 y.o.1 y.o.2.1 y.o.2.2.1 y.o.2.2.2 rfl O (.slice C tk.length F) tk.length _ rfl (by exact D.o.1) ⟨aV.heap.size,0,none⟩ 1 1 [.int .i64 ak,.int .i64 al,.string am,.slice M an aq,.slice N ao q4,.slice P ap ar] rfl rfl (by exact D.o.2.1) Um Ul O (by exact D.o.2.2) O ?_;intro _ _ af ab ag;have aG:=U af;have aD:=U ab;have aI:=U ag;clear af ab ag))
      have S:=U (R6 (d:=d) (q:=q+1) R.o a.o aC.o aB.o aJ.o aD.o aI.o aG.o (fun k aP=>(aE.o k aP).1) (by have:=az.o.off.size;omega) aQ O Z aL.o B aR);go_roundw
      case rel=>
       obtain⟨aM,s,f,G,H,aN,aO⟩:=S.o.1;exact⟨q+1,aM,s,O,f,G,t.o.trans H,aN,aO⟩
      case measure=>
       have f:=S.o.2;have G:=aw.o;have H:=aF.o;simp only[G,H]at *;omega
theorem AW(b:Nat)(V:C5)(tj:List fH):∀(n:Nat),∀m,m<=n->∀d:Int,0<=d->d<=101->CB b V tj m d
 | 0,m,hm,d,h1,h2=>by
   obtain rfl:m=0:=O
   intro w x a c;cases ho:qD x with
   |true=>exact(R7 a ho d).mono fun e w' ⟨i,g⟩=>i▸mP ho g [] (CF _ _)
   |false=>
     cases x with
     |ok l r=>exact absurd (show zI (pB 0 d r)from c) (by rw[pB];exact id)
     |bad r=>cases ho
     |deep r=>cases ho
     |o=>exact absurd a id
 | n+1,m,hm,d,h1,h2=>by
   have f:=AW b V tj n;by_cases j:m<=n
   .exact f m j d h1 h2
   .obtain rfl:m=n+1:=by omega
    intro w x a c
    exact XF (n:=n) (fun _ q k=>f q k (d+1) O O) a ⟨h1,O⟩ _ (by
     cases x with
     |ok l r=>show pB (n+1) d r=_;rw[pB];rfl
     |_=>rfl) c
theorem sV{tj:List fH}(a:0<=d)(c:d<=101):CB b V tj n d:=AW b V tj n n Zr d a c
structure XG (β:Type) where
 T:TypeId
 n:Nat
 cs:β->List C5
 inn:Nat->C4->β->Prop
 len:∀p,(cs p).length=n
 mono:∀{B B':Nat} {w w':C4} (p:β),(∀g o u,fK B w g o u->fK B' w' g o u)->inn B w p->inn B' w' p
def f4{β:Type}(K:XG β)(B:Nat)(w:C4)(v:C5)(ps:List β):Prop:=
 w.ownsRow B K.T K.n v ps.length (ps.flatMap K.cs)/\∀p∈ps,K.inn w.heap.size (fW (yr B v) w) p
def FrK{β:Type}(K:XG β)(L:Nat)(w:C4)(p:β):Prop:=K.inn w.heap.size (fW (nS L) w) p
section
variable {β:Type}{K:XG β}{B:Nat} {w w':C4}{v:C5}{ps:List β}
theorem f4.nil(K:XG β)(B:Nat)(w:C4):f4 K B w (.slice none 0 0) []:=⟨Yp w B _ _,fun p a=>Uo⟩
theorem f4.form(h:f4 K B w v ps):∃A c,v=.slice A ps.length c:=zY h.1
theorem f4.own(h:f4 K B w v ps):∀k,v.ownBlock=some k->k<w.heap.size/\B<=k:=zT h.1
theorem sW{p q:Nat->Bool}{x:β}(b:K.inn w.heap.size (fW p w) x)(i:w.heap.size<=w'.heap.size)(d:∀k,k<w.heap.size->p k=false->q k=false/\w'.heap[k]?=w.heap[k]?):K.inn w'.heap.size (fW q w') x:=
 K.mono x (fun g o _ a=>by
  obtain⟨e,a⟩:=jb a;obtain⟨f,c⟩:=d g a.1 e
  exact jn f ⟨Yb a.1 i,(D6 (w:=w) c).trans a.2⟩) b
theorem f4.keep(a:f4 K B w v ps)(k:zL B w w'):f4 K B w' v ps:=
 ⟨zQ a.1 fun j b=>k.2 j (a.own j b).1 (a.own j b).2,fun p d=>sW (a.2 p d) k.1 fun j b c=>⟨c,k.2 j b (qu.1 c).1⟩⟩
theorem f4.app{L:Nat}{W:C4}{v':C5}{p:β}(x:f4 K B w v ps)(z:FrK K L w p)(_:B<=L)(y:∀k,v.ownBlock=some k->k<L)
 (f:Cy w W) (s:W.grownBy w' v.ownBlock) (C:kn W v v') (A:w'.ownsRow B K.T K.n v' (ps.length+1) (ps.flatMap K.cs++K.cs p)):f4 K B w' v' (ps++[p]):=by
 have u:w.heap.size<=w'.heap.size:=Dy f.size s.size
 have r:∀j,j<w.heap.size->v.ownBlock≠some j->v'.ownBlock≠some j/\w'.heap[j]?=w.heap[j]?:=fun j b t=>by
  refine⟨fun a=>?_,(s.block j (Yb b f.size) (fun e=>t e.symm)).trans (f.block j b)⟩;rcases C with c|⟨g,c,o⟩
  .exact t (c▸a)
  .rw[c]at a
   injection a with a;have:=f.size;omega
 refine⟨?_,fun q d=>?_⟩
 .rw[List.flatMap_append,Dr]
  simpa using A
 .rcases List.mem_append.1 d with d|d
  .refine sW (x.2 q d) u fun j b m=>?_
   obtain⟨c,o⟩:=qu.1 m;obtain⟨i,l⟩:=r j b o;exact⟨qu.2 ⟨c,i⟩,l⟩
  .obtain rfl:=List.mem_singleton.1 d
   refine sW z u fun j b m=>?_
   have D:=kt.1 m;obtain⟨i,l⟩:=r j b (fun a=>by have:=y j a;omega);exact⟨qu.2 ⟨O,i⟩,l⟩
theorem f4.pre(c:f4 K B w v ps)(a:List C5)(_:B<=w.heap.size):
 (w.alloc (.cells a.toArray K.T)).ownsRow B K.T K.n v ps.length (ps.flatMap K.cs)/\
 (∀j b,a[j]?=some b->(w.alloc (.cells a.toArray K.T)).cell? ((⟨w.heap.size,0,none⟩:Addr).add j)=some b)/\B<=(w.alloc (.cells a.toArray K.T)).heap.size:=by
 refine⟨qS c.1 ((D4 w.heap.size w).alloc Zr _) Zr,fun j b d=>?_,Uj⟩;rw[show(⟨w.heap.size,0,none⟩:Addr).add j=⟨w.heap.size,j,none⟩by unfold Addr.add;split<;>simp_all];exact(cell_of_row _ w.heap.size j _ _ (0,0) (Ds w _)).trans Uz
theorem R8{α:Type}(K:XG β)(f:β->α){b:Nat}{W:C4}{g:Nat}{F:α->Nat->Nat->Prop}(hF:∀p o,(∀j a,(K.cs p)[j]?=some a->fK b W g (o+j) a)->K.inn b W p->F (f p) g o):
 ∀(ps:List β) (o:Nat),(∀j a,(ps.flatMap K.cs)[j]?=some a->fK b W g (o+j) a)->(∀p∈ps,K.inn b W p)->uv K.n F (ps.map f) g o
 |[],_,_,_=>trivial
 | p::r,o,hc,hp=>by
   rw[Y2]at hc;refine⟨hF p o (fun j a c=>hc j a ?_) (hp p (Y4 ..)),R8 K f hF r (o+K.n) (fun j a c=>?_) fun q d=>hp q (Y7 _ d)⟩
   .rw[Yo (List.getElem?_eq_some_iff.1 c).1]
    exact c
   .have:=hc (j+K.n) a (by rw[Yi (by rw[K.len];omega),K.len,Yu];exact c)
    rw[show o+K.n+j=o+(j+K.n)by omega];exact this
theorem f4.read{α:Type}(f:β->α){F:Nat->C4->α->Nat->Nat->Prop}(hF:∀c W p g o,(∀j a,(K.cs p)[j]?=some a->fK c W g (o+j) a)->K.inn c W p->F c W (f p) g o)(d:f4 K B w v ps)(u:ps.length<=281474976710656):
 vh v (ps.map f).length (uv K.n (F w.heap.size (fW (nS B) w)) (ps.map f)):=by
 have A:∀g o a,fK w.heap.size (fW (yr B v) w) g o a->fK w.heap.size (fW (nS B) w) g o a:=fun g o a e=>by
  obtain⟨z,e⟩:=jb e;exact jn (kt.2 (qu.1 z).1) e
 obtain⟨x,y⟩:=d;rcases x.2 with⟨rfl,m⟩|⟨g,k,l,rfl,q,i,_,_,_,r⟩
 .have:ps=[]:=Yq m
  subst this;exact⟨none,0,rfl,Dx _,fun d=>absurd d Uh⟩
 .refine⟨_,k,?_,?_,fun _=>⟨g,0,rfl,?_⟩⟩
  .rw[Yh]
  .rw[Yh];exact u
  .have s:g<w.heap.size:=(Array.getElem?_eq_some_iff.1 i).1
   refine R8 K f (fun p o=>hF _ _ p g o) ps 0 (fun j a b=>?_) fun p t=>K.mono p A (y p t)
   refine jn (kt.2 q) ⟨s,?_⟩;rw[Yz,cell_of_row w g j l _ (0,0) i];rw[<-r,Y8]at b;split at b
   .simpa using b
   .cases b
end
def kP:XG Pa where
 T:=100
 n:=2
 cs p:=[.string p.name,.int .i64 p.type]
 inn _ _ _:=True
 len _:=rfl
 mono _ _ h:=h
def kA:XG Ar where
 T:=80
 n:=2
 cs p:=[.string p.name,.int .i64 p.size]
 inn _ _ _:=True
 len _:=rfl
 mono _ _ h:=h
theorem QT.imp(c:∀g o d,fK B w g o d->fK B' w' g o d)(a:Pa)(g o:Nat)(b:QT B w a g o):QT B' w' a g o:=⟨c _ _ _ b.1,c _ _ _ b.2⟩
theorem gU.imp(d:∀g o c,fK B w g o c->fK B' w' g o c){l:List Pa}(b:gU B w v l):gU B' w' v l:=⟨vh.imp b.1 fun g o=>uv.imp (fun a g o=>QT.imp d a g o) l g o,b.2⟩
structure K4 where
 f:Fu
 v2:C5
 v3:C5
def kF:XG K4 where
 T:=93
 n:=4
 cs p:=[.string p.f.name,.int .i64 p.f.type,p.v2,p.v3]
 inn N w p:=gU N w p.v2 p.f.params/\f6 N w p.v3 p.f.body
 len _:=rfl
 mono _ hc h:=⟨h.1.imp hc,h.2.imp hc⟩
theorem f4.params{ps:List Pa}(d:f4 kP B w v ps)(k:ps.length<=281474976710656):gU w.heap.size (fW (nS B) w) v ps:=by
 have:=d.read (fun p=>p) (F:=fun b W a g o=>QT b W a g o) (fun b W p g o e _=>⟨e 0 _ rfl,e 1 _ rfl⟩) k;rw[List.map_id']at this;refine⟨this,fun _ n c f=>?_⟩;rcases d.1.2 with⟨rfl,_⟩|⟨g,_,_,rfl,_,_,_,_,_,_⟩
 .injection f with _ i j
  omega
 .injection f with _ i j
  omega
theorem f4.wa{ps:List Ar}(d:f4 kA B w v ps)(e:ps.length<=281474976710656):gN w.heap.size (fW (nS B) w) v ps:=by
 have:=d.read (fun p=>p) (F:=fun b W a g o=>VK b W a g o) (fun b W p g o c _=>⟨c 0 _ rfl,c 1 _ rfl⟩) e;rwa [List.map_id']at this
theorem f4.funcs{ps:List K4}(e:f4 kF B w v ps)(i:ps.length<=281474976710656):gO w.heap.size (fW (nS B) w) v (ps.map (·.f)):=
 f4.read (β:=K4) (α:=Fu) (K:=kF) K4.f (F:=fun b W a g o=>VL b W a g o) (fun b W p g o c (d:gU b W p.v2 p.f.params/\f6 b W p.v3 p.f.body)=>⟨c 0 _ rfl,c 1 _ rfl,⟨_,c 2 _ rfl,d.1⟩,⟨_,c 3 _ rfl,d.2⟩⟩) e i
theorem XH:(Tryz.prog.info? 100).map (fun i=>(i.zero,i.size,i.bytes))=some (some (.agg #[.string ⟨#[]⟩,(0:Int)]),2,24):=by kernel_rfl
theorem XI:(Tryz.prog.info? 80).map (fun i=>(i.zero,i.size,i.bytes))=some (some (.agg #[.string ⟨#[]⟩,(0:Int)]),2,24):=by kernel_rfl
theorem XJ:(Tryz.prog.info? 93).map (fun i=>(i.zero,i.size,i.bytes))=some (some (.agg #[.string ⟨#[]⟩,(0:Int),(),()]),4,72):=by kernel_rfl
theorem qY{P:Program}{ops:Array Oper}{o:Oper}{a:Act}{w:C4}{K:Act->C4->Prop}{Q:Exit->Act->C4->Prop}{L:Prop}(V:o.guard=none)(s x:Operand)(t:TypeId)
 (Y:o.op=.call { callee:=.builtin .append,args:=#[s,x],argTypes:=#[t,t] })
 (f:Nat) (e:TypeId) (i:TypeInfo) (z:C5) (b l:Nat) (H:P.underlying t=some (.slice e)) (A:P.info? e=some i) (I:i.zero=some z)
 (F:i.size=b) (u:i.bytes=l) (J:z.cells.size=b) (G:0<b)
 (v:C5) (n:Nat) (p:List C5) (Z:a.eval s=v) (D:w.ownsRow f e b v n p)
 (k:Addr) (m c:Nat) (d:List C5) (ab:a.eval x=.slice (some k) m c) (B:d.length=m*b) (C:∀j g,d[j]?=some g->w.cell? (k.add j)=some g) (q:∀g∈d,g.oneCell'=true)
 (r:n+m<=maxLen) (y:(n+m)*l<=140737488355328) (T:f<=w.heap.size) (X:0<m)
 (M:∀v' w',w'.ownsRow f e b v' (n+m) (p++d)->w.grownBy w' v.ownBlock->kn w v v'->K (a.put o.dst v') w'):
 if Region.wanted o (yielded ops a.tmps)=true then Oper.wp P o a w K Q else L:=by
 have aa:Region.wanted o (yielded ops a.tmps)=true:=by simp[Region.wanted,V]
 rw[Dq aa];obtain⟨v',w',E,N,R,_⟩:=run_append_own (P:=P) w f t o.type e i z b l H A I F u J G v n p D k m c d B C q r y T;have S:=AB H A I F u J G D B C q r y X E;have W:=M v' w' N R S;unfold Oper.wp execOp;simp only[Y,resolve,invoke,builtin,Sem.run_bind,Sem.run_pure,Result.andThen_ok,List.map_toArray,Y5,Cm,Z,ab,E];exact W
structure gK where
 b:Nat
 L:Nat
 B:Nat
 va:C5
 vf:C5
 vr:C5
 p:Pr
 rows:List Nat
abbrev rnO(c:gK)(a vo:C5)(s:RS):Obj:=.cells #[c.va,c.vf,a,c.vr,(s.stat:Int),(0:Int),vo,((s.cost:Int):Int),((s.fuel:Int):Int),.bool s.spent] 78
def AY(x:Nat×List Int):C5:=.slice (some ⟨x.1,0,none⟩) x.2.length x.2.length
abbrev oN(l:List Int):Obj:=.cells (l.map (Value.int .i64)).toArray 3
def fR(l:List Int):Prop:=∀n∈l,fT n
def g5(B:Nat)(w:C4)(v:C5)(l:List Int):Prop:=rF B w v l/\∀A n c,v=.slice A n c->n<=c
theorem g5.below{l:List Int}(a:g5 B w v l)(c:Below B w w')(b:B<=B'):g5 B' w' v l:=⟨a.1.below c b,a.2⟩
structure fQ (c:gK) (w:C4) (vo:C5) (s:RS):Prop where
 box:∃vi,g5 c.B w vi s.inp/\w.heap[c.b]?=some (rnO c vi vo s)
 pa:gN c.B w c.va c.p.wa
 pf:gO c.B w c.vf c.p.funcs
 o:w.ownsRow c.L 3 1 vo s.o.length (s.o.map (Value.int .i64))
 row:w.ownsRow (c.b+1) 23 1 c.vr s.arr.length ((c.rows.zip s.arr).map AY)
 rol:∀k,c.vr.ownBlock=some k->k<c.L/\k ∉ c.rows
 len:c.rows.length=s.arr.length
 arr:∀(j g:Nat) (l:List Int),c.rows[j]?=some g->s.arr[j]?=some l->w.heap[g]?=some (oN l)
 lim:∀g∈c.rows,c.b<g/\g<c.L
 nod:c.rows.Nodup
 inn:fR s.inp
 arn:∀l∈s.arr,fR l/\l.length<=1000
 num:s.arr.length<=1000000
 alen:s.arr.length=c.p.wa.length
 oc:s.o.length<=s.cost
 fc:s.cost+s.fuel<=1000000000
 ord:c.B<=c.b/\c.b<c.L/\c.L<=w.heap.size
def f8(c:gK)(vo:C5)(k:Nat):Prop:=(c.b<=k/\k<c.L)\/vo.ownBlock=some k
theorem f8.to{c:gK}{vo vo':C5}(b:fM L vo vo')(d:k<L)(e:f8 c vo' k):f8 c vo k:=by
 rcases e with a|a
 .exact .inl a
 .exact .inr (b.old d a)
section
variable {c:gK} {w w':C4} {vo vo':C5} {s s':RS}
theorem fQ.lt(h:fQ c w vo s):c.b<w.heap.size:=by have:=h.ord;omega
theorem fQ.dl(a:fQ c w vo s){k:Nat}(b:vo.ownBlock=some k):c.L<=k/\k<w.heap.size:=⟨(zT a.o k b).2,(zT a.o k b).1⟩
theorem fQ.tch(a:fQ c w vo s){k:Nat}(e:f8 c vo k):c.B<=k/\c.b<=k/\k<w.heap.size:=by
 have:=a.ord;rcases e with d|d
 .omega
 .have:=a.dl d;omega
theorem fQ.below(a:fQ c w vo s){X:Nat->Prop}(d:fF X w w')(b:∀k,k<w.heap.size->X k->c.B<=k):Below c.B w w':=
 d.below (by have:=a.ord;omega) fun k _ e=>by have:=b k (by have:=a.ord;omega) e;omega
theorem fQ.keep(a:fQ c w vo s){X:Nat->Prop}(f:fF X w w')(n:∀k,k<w.heap.size->X k->c.B<=k/\¬f8 c vo k):fQ c w' vo s:=by
 have e:=a.below f fun k b i=>(n k b i).1
 have d:∀k,k<w.heap.size->f8 c vo k->w'.heap[k]?=w.heap[k]?:=fun k b u=>f.block k b fun i=>(n k b i).2 u
 obtain⟨v,q,r⟩:=a.box;have m:=a.ord;refine⟨⟨v,q.below e Zr,(d _ O (.inl ⟨D0 _,O⟩)).trans r⟩,a.pa.below e Zr,a.pf.below e Zr,?_,?_,a.rol,a.len,?_,a.lim,a.nod,a.inn,a.arn,a.num,a.alen,a.oc,a.fc,⟨m.1,m.2.1,by have:=f.size;omega⟩⟩
 .exact zQ a.o fun k b=>d k (a.dl b).2 (.inr b)
 .exact zQ a.row fun k b=>d k (zT a.row k b).1 (.inl ⟨by have:=(zT a.row k b).2;omega,(a.rol k b).1⟩)
 .intro j g l p t
  have:=a.lim g (Yc p);exact(d g O (.inl ⟨O,O⟩)).trans (a.arr j g l p t)
theorem fQ.we(a:fQ c w vo s)(b:Cy w w'):fQ c w' vo s:=a.keep (X:=fun _=>False) (fF.wb _ b) fun _ _ d=>d.elim
theorem fQ.boxed(a:fQ c w vo s){m:C5}(e:∀k,k≠c.b->w'.heap[k]?=w.heap[k]?)(D:w.heap.size=w'.heap.size)(z:w'.os=w.os)(C:w'.tape=w.tape)(y:w'.output=w.output)(t:w'.heap[c.b]?=some (rnO c m vo s'))(x:g5 c.B w m s'.inp)(A:fR s'.inp)(d:s'.arr=s.arr)(r:s'.o=s.o)(u:s.cost<=s'.cost)(v:s'.cost+s'.fuel<=1000000000):fQ c w' vo s':=by
 have n:=a.ord;have i:Below c.B w w':=⟨z,C,y,Dv D,fun k f=>e k O⟩
 refine⟨⟨m,x.below i Zr,t⟩,a.pa.below i Zr,a.pf.below i Zr,?_,?_,a.rol,d▸a.len,?_,a.lim,a.nod,A,d▸a.arn,d▸a.num,d▸a.alen,by rw[r];exact Dy a.oc u,v,⟨n.1,n.2.1,O⟩⟩
 .rw[r];exact zQ a.o fun k f=>e k (by have:=a.dl f;omega)
 .rw[d];exact zQ a.row fun k f=>e k (by have:=(zT a.row k f).2;omega)
 .intro j g l p q
  rw[d]at q;have:=a.lim g (Yc p);exact(e g O).trans (a.arr j g l p q)
theorem fQ.set(e:fQ c w vo s){r d:C5}(_:w.heap[c.b]?=some (rnO c r vo s))(i:Nat)(a:C5)(g:(w.setCell (c.b,i) a).heap[c.b]?=some (rnO c d vo s'))(m:g5 c.B w d s'.inp)(q:fR s'.inp)(f:s'.arr=s.arr)(p:s'.o=s.o)(j:s.cost<=s'.cost)(l:s'.cost+s'.fuel<=1000000000):fQ c (w.setCell (c.b,i) a) vo s':=
 e.boxed (fun k n=>Dw w _ a k n) Uk rfl rfl rfl g m q f p j l
end
def kV:XG (C3×Int) where
 T:=131
 n:=2
 cs x:=[.string x.1,.int .i64 x.2]
 inn _ _ _:=True
 len _:=rfl
 mono _ _ h:=h
abbrev K5:C3×Int:=(⟨#[]⟩,0)
abbrev P8(vv:C5)(how n:Int):Obj:=.cells #[vv,(how:Int),(n:Int)] 134
structure gS (L:Nat) (w:C4) (f:Nat) (vv:C5) (vs:fG) (how n:Int):Prop where
 box:w.heap[f]?=some (P8 vv how n)
 row:w.ownsRow L 131 2 vv (vs.length+1) ((K5::vs).flatMap kV.cs)
 hL:L<=f
 wf:∀x∈vs,fT x.2
 nr:fT n
def gI(f:Nat)(vv:C5)(k:Nat):Prop:=k=f\/vv.ownBlock=some k
section
variable {L:Nat} {w w':C4}{f:Nat}{vv:C5}{vs:fG}{how n:Int}
theorem gS.lt(h:gS L w f vv vs how n):f<w.heap.size:=zB h.box
theorem gS.keep(a:gS L w f vv vs how n){X:Nat->Prop}(e:fF X w w')(d:∀k,k<w.heap.size->X k->¬gI f vv k):gS L w' f vv vs how n:=
 ⟨(e.block f a.lt fun c=>d f a.lt c (.inl rfl)).trans a.box,zQ a.row fun k b=>e.block k (zT a.row k b).1 fun c=>d k (zT a.row k b).1 c (.inr b),a.hL,a.wf,a.nr⟩
theorem gS.apart(h:gS L w f vv vs how n):vv.ownBlock≠some f:=uJ h.row (show Is w f 134 #[vv,(how:Int),(n:Int)]from h.box) Uf
end
theorem C9{C:Nat}{e t:TypeId}{m l:Nat}{d:C5}{r s:List C5}(o:w.ownsRow B e n v k r)(g:w.ownsRow C t m d l s)(q:e≠t):∀j,v.ownBlock=some j->d.ownBlock≠some j:=by
 intro j c a;rcases o.2 with⟨rfl,_⟩|⟨f,_,_,rfl,_,p,_⟩
 .cases c
 rcases g.2 with⟨rfl,_⟩|⟨i,_,_,rfl,_,b,_⟩
 .cases a
 injection c with c;injection a with a;subst c;have a:i=f:=a;subst a;rw[p]at b;injection b with b;injection b with _ b;exact q b
theorem i7{c:gK}{vo:C5}{s:RS}{f:Nat}{vv:C5}{vs:fG}{how n:Int}(d:fQ c w vo s)(g:gS c.L w f vv vs how n)(i:f8 c vo k):¬gI f vv k:=by
 have j:=g.hL;intro e;rcases i with b|b
 .rcases e with a|a
  .omega
  .have:=(zT g.row k a).2;omega
 .rcases e with a|a
  .subst a
   exact uJ d.o (show Is w k 134 #[vv,(how:Int),(n:Int)]from g.box) Uf b
  .exact C9 d.o g.row Uf k b a
