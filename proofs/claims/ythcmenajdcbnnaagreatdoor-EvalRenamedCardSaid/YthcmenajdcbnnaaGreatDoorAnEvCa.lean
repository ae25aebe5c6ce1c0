import Derived.Test.YthcmenajdcbnnaaGreatDoorAnParNums
set_option linter.unusedSimpArgs false
set_option linter.unusedVariables false
set_option maxRecDepth 100000
set_option maxHeartbeats 99000000
namespace Go.Proofs.YthcmenajdcbnnaaGreatDoor
open Go.RowKit Tryz
theorem Qj{p:Prop}(h:p:=by
 .have Q:j=l.length:=by omega
  subst Q;go_wp2_with fail
  go_end0
  have:=a.o;rw[Y9]at this
  exact this.post _):p:=h
variable{n i b c L B m:Nat}{l:List St}{vc vb v:C4}{w:C3}
def PC:d5->Bool
 |.jmp _=>true
 |.unl _=>true
 |.lzy _ _=>true
 |_=>false
def mY(n:Nat):d5->d5
 |.jmp _=>.jmp n
 |.unl _=>.unl n
 |.lzy z _=>.lzy z n
 |x=>x
def yR(n:Nat)(C:List d5)(i:Nat):List d5:=match C[i]? with
 |some x=>C.set i (mY n x)
 |none=>C
def jq(n:Nat)(C:List d5)(ps:List Nat):List d5:=ps.foldl (yR n) C
theorem oK(n:Nat)(C:List d5)(i:Nat):(yR n C i).length=C.length:=by
 unfold yR;split
 .rw[Ce]
 .rfl
theorem fA(n:Nat):∀(ps:List Nat) (C:List d5),(jq n C ps).length=C.length
 |[],_=>rfl
 | i::r,C=>by
   show(jq n (yR n C i) r).length=_;rw[fA n r,oK]
theorem J0(n:Nat)(C:List d5)(ps:List Nat)(i:Nat):jq n C (ps++[i])=yR n (jq n C ps) i:=by unfold jq;rw[List.foldl_append];rfl
theorem PD(n:Nat)(C:List d5)(ps qs:List Nat):jq n C (ps++qs)=jq n (jq n C ps) qs:=by unfold jq;rw[List.foldl_append]
theorem zbs(n:Nat)(x:d5):PC (mY n x)=PC x:=Ka
def L4(C:List d5)(ps:List Nat):Prop:=∀i∈ps,∃x,C[i]?=some x/\PC x=true
theorem PE{C:List d5}{j:Nat}{x:d5}(a:C[j]?=some x)(b:PC x=true):∃e,(yR n C i)[j]?=some e/\PC e=true:=by
 unfold yR;split
 .rename_i z d
  rw[Cf];by_cases c:i=j
  .subst c
   rw[d]at a;injection a with a;subst a;rw[Dm rfl,Dm (List.getElem?_eq_some_iff.1 d).1];exact⟨_,rfl,(zbs n z).trans b⟩
  .rw[Dl c]
   exact⟨x,a,b⟩
 .exact⟨x,a,b⟩
theorem BC{n:Nat}:∀{ps:List Nat}{C:List d5}{j:Nat}{x:d5},C[j]?=some x->PC x=true->∃a,(jq n C ps)[j]?=some a/\PC a=true
 |[],C,j,x,h,hx=>⟨x,h,hx⟩
 | i::r,C,j,x,h,hx=>by
   obtain⟨a,b,c⟩:=PE (n:=n) (i:=i) h hx;exact BC (ps:=r) b c
theorem BD(n:Nat)(a C D:List d5)(b:i<C.length):yR n (a++C++D) (a.length+i)=a++yR n C i++D:=by
 unfold yR
 have c:(a++C++D)[a.length+i]?=C[i]?:=by
  rw[D7,Yi O,show a.length+i-a.length=i by omega,Yn b]
 rw[c];cases hc:C[i]? with
 |none=>rfl
 |some x=>
   dsimp only;rw[D7,List.set_append_right _ _ O,show a.length+i-a.length=i by omega,List.set_append_left _ _ b,D7]
theorem oL:∀(a c:List Ex),zG (a++c)=zG a+zG c
 |[],c=>by simp[zG]
 |x::r,c=>by rw[Ys,zG,zG,oL r c,Cl]
theorem BE:∀(a c:List Ex) (b:Nat),qP (a++c) b=qP a b++qP c (b+zG a)
 |[],c,b=>by simp[qP,zG]
 |x::r,c,b=>by rw[Ys,qP,qP,zG,BE r c,D7,Cl]
theorem oM(d:Nat):∀(a c:List St),d0 (a++c) d=d0 a d+d0 c d
 |[],c=>by simp[d0]
 |x::r,c=>by rw[Ys,d0,d0,oM d r c,Cl]
theorem BF(d st e:Nat):∀(a c:List St) (b:Nat),qh (a++c) b d st e=qh a b d st e++qh c (b+d0 a d) d st e
 |[],c,b=>by simp[qh,d0]
 |x::r,c,b=>by rw[Ys,qh,qh,d0,BF d st e r c,D7,Cl]
def bB(l:List St)(f:Nat->Nat->List Nat)(b d:Nat):List Nat:=if xZ l then f (b+1) (d+1)else f b d
mutual
def wN:St->Nat->Nat->List Nat
 |.mk k _ _ tc tg th,b,d=>
   if k=4 then bB tg (fun b d=>xu tg b d) (b+zG tc+2) d++bB th (fun b d=>xu th b d) (b+zG tc+3+lB tg (d0 tg) d) d
   else if k=6 then[b+1+d]
   else[]
def xu:List St->Nat->Nat->List Nat
 |[],_,_=>[]
 |t::r,b,d=>wN t b d++xu r (b+xF t d) d
end
def wO(l:List St)(b d:Nat):List Nat:=bB l (fun b d=>xu l b d) b d
def Pt(n:Nat)(g c:List d5)(b:Nat)(ps:List Nat):Prop:=c.length=g.length/\∀a D:List d5,a.length=b->jq n (a++g++D) ps=a++c++D/\∀i∈ps,∃x,(a++g++D)[i]?=some x/\PC x=true
theorem Pt.nil(n:Nat)(g:List d5)(b:Nat):Pt n g g b []:=⟨rfl,fun _ D _=>⟨rfl,fun i a=>Xb⟩⟩
theorem Pt.app{g e d l:List d5}{ps qs:List Nat}(x:Pt n g e b ps)(k:Pt n d l c qs)(m:c=b+g.length):Pt n (g++d) (e++l) b (ps++qs):=by
 refine⟨by rw[Dn,Dn,x.1,k.1],fun a D j=>?_⟩;obtain⟨o,p⟩:=x.2 a (d++D) j;obtain⟨q,_⟩:=k.2 (a++e) D (by rw[Dn,j,x.1,m]);obtain⟨_,r⟩:=k.2 (a++g) D (by rw[Dn,j,m]);rw[PD,show a++(g++d)++D=a++g++(d++D)by simp,o];refine⟨?_,fun i f=>?_⟩
 .rw[show a++e++(d++D)=a++e++d++D by simp,q]
  simp
 .rcases List.mem_append.1 f with f|f
  .exact p i f
  .have:=r i f
   rwa [show a++g++(d++D)=a++g++d++D by simp]
theorem Pt.left{g d:List d5}{ps:List Nat}(x:Pt n g d c ps)(a:List d5)(e:c=b+a.length):Pt n (a++g) (a++d) b ps:=by
 have:=(Pt.nil n a b).app x e;rwa [Yy]at this
theorem Pt.cons{g c:List d5}{ps:List Nat}(x:Pt n g c (b+1) ps)(a:d5):Pt n (a::g) (a::c) b ps:=x.left [a] rfl
theorem Pt.right{g c:List d5}{ps:List Nat}(x:Pt n g c b ps)(a:List d5):Pt n (g++a) (c++a) b ps:=by
 have:=x.app (Pt.nil n a (b+g.length)) rfl;rwa [D8]at this
theorem Pt.one(n:Nat)(x:d5)(f:PC x=true)(b:Nat):Pt n [x] [mY n x] b [b]:=by
 refine⟨rfl,fun a D c=>?_⟩
 have d:(a++[x]++D)[b]?=some x:=by
  rw[D7,Yi O,<-c,Yx];rfl
 refine⟨?_,fun i e=>?_⟩
 .have:=BD n a [x] D (i:=0) Ur
  rw[Nat.add_zero,c]at this;show yR n (a++[x]++D) b=_;rw[this];rfl
 .rw[List.mem_singleton.1 e]
  exact⟨x,d,f⟩
theorem Pt.cast{g a:List d5}{ps:List Nat}(x:Pt n g a b ps)(e:b=c):Pt n g a c ps:=e▸x
theorem UO{f a:Nat->Nat->List d5}{ps:Nat->Nat->List Nat}(c:∀b d,Pt n (f b d) (a b d) b (ps b d))(b d:Nat):Pt n (gB l f b d) (gB l a b d) b (bB l ps b d):=by
 unfold gB bB;split
 .exact((c (b+1) (d+1)).right [.lve]).cons .ent
 .exact c b d
mutual
theorem ZO(n:Nat):∀(t:St) (b d st:Nat),Pt n (xL t b d st 0) (xL t b d st n) b (wN t b d)
 | .mk k ty td tc tg th,b,d,st=>by
   rw[xL,xL,wN];by_cases a:k=4
   .rw[Dm a,Dm a,Dm a]
    have g:=UO (l:=tg) (fun b d=>mZ n tg b d st) (b+zG tc+2) d;have i:=UO (l:=th) (fun b d=>mZ n th b d st) (b+zG tc+3+lB tg (d0 tg) d) d;have j:(gB tg (fun b d=>qh tg b d st 0) (b+zG tc+2) d).length=lB tg (d0 tg) d:=lC (fun b d=>jt tg b d st 0) _ _;exact Pt.cons (Pt.left (Pt.cons (g.app (Pt.cons (i.cast O) _) (c:=b+zG tc+2+lB tg (d0 tg) d) (by rw[j])) _) _ (by rw[jI];omega)) _
   rw[Dl a,Dl a,Dl a];by_cases f:k=5
   .rw[Dm f,Dm f,Dl O]
    exact Pt.nil _ _ _
   rw[Dl f,Dl f];by_cases e:k=6
   .rw[Dm e,Dm e,Dm e]
    exact Pt.cons ((Pt.one n (.jmp 0) rfl (b+1+d)).left (List.replicate d .lve) (by rw[Cm])) _
   rw[Dl e,Dl e,Dl e];exact Pt.nil _ _ _
theorem mZ(n:Nat):∀(l:List St) (b d st:Nat),Pt n (qh l b d st 0) (qh l b d st n) b (xu l b d)
 |[],_,_,_=>Pt.nil _ _ _
 | t::r,b,d,st=>by
   rw[qh,qh,xu];exact(ZO n t b d st).app (mZ n r (b+xF t d) d st) (by rw[sY])
end
theorem GT(d:Nat):∀(a c:List St) (b:Nat),xu (a++c) b d=xu a b d++xu c (b+d0 a d) d
 |[],c,b=>by simp[xu,d0]
 |x::r,c,b=>by rw[Ys,xu,xu,d0,GT d r c,D7,Cl]
end Go.Proofs.YthcmenajdcbnnaaGreatDoor
namespace Go.Proofs.YthcmenajdcbnnaaGreatDoor
open Go.RowKit Tryz Go.Maps
variable{n i b c L B m:Nat}{l:List St}{vc vb v:C4}{w:C3}
structure eO where
 C:List d5
 sc:Nat
 lst:Nat
 lsc:Nat
 bk:List Nat
abbrev Q4:=C4×C4×C4×C4
def q4(q:Q4):List C4:=[q.1,q.2.1,q.2.2.1,q.2.2.2]
abbrev L5(vc vb:C4)(s:eO):Obj:=.cells #[vc,((s.sc:Int):Int),((s.lst:Int):Int),((s.lsc:Int):Int),vb] 160
abbrev bkV(l:List Nat):List C4:=l.map fun(n:Nat)=>Value.int .i64 (n:Int)
structure eQ (L B b:Nat) (w:C3) (vc vb:C4) (s:eO) (qs:List Q4):Prop where
 hB:B<=L
 hL:L<=b
 box:w.heap[b]?=some (L5 vc vb s)
 row:w.ownsRow L 172 4 vc s.C.length (qs.flatMap q4)
 ql:qs.length=s.C.length
 qi:∀(i:Nat) (x:d5) (q:Q4),s.C[i]?=some x->qs[i]?=some q->oE B w x q.1 q.2.1 q.2.2.1 q.2.2.2
 wn:w.ownsRow L 3 1 vb s.bk.length (bkV s.bk)
def WT(b:Nat)(vc vb:C4)(k:Nat):Prop:=k=b\/vc.ownBlock=some k\/vb.ownBlock=some k
theorem WT.old{e d:C4}(f:eA L vc e)(g:eA L vb d){k:Nat}(c:k<L)(a:WT b e d k):WT b vc vb k:=by
 rcases a with a|a|a
 .exact .inl a
 .exact .inr (.inl (f.old c a))
 .exact .inr (.inr (g.old c a))
section
variable {L B b:Nat} {w w':C3}{vc vb:C4}{s:eO}{qs:List Q4}
theorem eQ.lt(h:eQ L B b w vc vb s qs):b<w.heap.size:=zB h.box
theorem eQ.tl(c:eQ L B b w vc vb s qs){k:Nat}(a:WT b vc vb k):L<=k/\k<w.heap.size:=by
 rcases a with rfl|a|a
 .exact⟨c.hL,c.lt⟩
 .exact⟨(zo c.row k a).2,(zo c.row k a).1⟩
 .exact⟨(zo c.wn k a).2,(zo c.wn k a).1⟩
theorem eQ.below(a:eQ L B b w vc vb s qs)(c:d1 (WT b vc vb) w w'):Below L w w':=c.below (by have:=a.hL;have:=a.lt;omega) fun k _ d=>by have:=(a.tl d).1;omega
theorem eQ.cb(h:eQ L B b w vc vb s qs):vc.ownBlock≠some b:=nH h.row (show Is w b 160 #[vc,((s.sc:Int):Int),((s.lst:Int):Int),((s.lsc:Int):Int),vb]from h.box) Up
theorem eQ.bb(h:eQ L B b w vc vb s qs):vb.ownBlock≠some b:=nH h.wn (show Is w b 160 #[vc,((s.sc:Int):Int),((s.lst:Int):Int),((s.lsc:Int):Int),vb]from h.box) Up
theorem eQ.bc(a:eQ L B b w vc vb s qs):∀k,vc.ownBlock=some k->vb.ownBlock≠some k:=fun k c=>YS a.row a.wn Up k c
theorem eQ.keepB(a:eQ L B b w vc vb s qs)(c:Cx w w'):eQ L B b w' vc vb s qs:=
 ⟨a.hB,a.hL,(c.block b a.lt).trans a.box,qD a.row c Zr,a.ql,fun i x q e d=>(a.qi i x q e d).below (c.mono Kk) Zr,qD a.wn c Zr⟩
end
theorem zaz:∀(l:List Q4) (i:Nat) (q:Q4),l[i]?=some q->∀j u,(q4 q)[j]?=some u->(l.flatMap q4)[i*4+j]?=some u
 |[],_,_,h,_,_,_=>Xs
 | y::r,0,x,h,j,u,hu=>by
   simp at h;subst h;rw[Y2,Nat.zero_mul,Yo,Yn (List.getElem?_eq_some_iff.1 hu).1];exact hu
 | y::r,i+1,x,h,j,u,hu=>by
   have:=zaz r i x Vj j u hu;rw[Y2,Yi (by show 4<=_;omega),show(i+1)*4+j-(q4 y).length=i*4+j by show(i+1)*4+j-4=_;omega];exact this
theorem BG:∀(l:List Q4) (i:Nat) (q:Q4) (v:C4),l[i]?=some q->(l.flatMap q4).set (i*4+1) v=(l.set i (q.1,v,q.2.2.1,q.2.2.2)).flatMap q4
 |[],_,_,_,h=>Xs
 | y::r,0,x,v,h=>by
   simp at h;subst h;rfl
 | y::r,i+1,x,v,h=>by
   have a:=BG r i x v Vj;rw[Y2,List.set_cons_succ,Y2,<-a,List.set_append_right _ _ (by show 4<=_;omega)];show _++List.set _ ((i+1)*4+1-4) _=_;rw[show(i+1)*4+1-4=i*4+1 by omega]
theorem PF(l:List Q4):(l.flatMap q4).length=l.length*4:=by
 induction l with
 |nil=>rfl
 |cons x r a=>rw[Y2,Dn,a,Dp];show 4+_=_;omega
def uF(L B b:Nat)(w:C3)(vc vb:C4)(s:eO)(v:C4)(e:Ending)(w':C3):Prop:=
 ∃c a qs,e=.returned v/\eQ L B b w' c a s qs/\d1 (WT b vc vb) w w'/\eA w.heap.size vc c/\eA w.heap.size vb a
theorem UP:(Tryz.prog.info? 172).map (fun i=>(i.zero,i.size,i.bytes))=some (some (.agg #[(0:Int),(0:Int),.pointer none,.pointer none]),4,32):=by kernel_rfl
theorem eQ.emit{W w8:C3}{c:C4}{s:eO}{qs:List Q4}(a:eQ L B b w vc vb s qs)(m:Cx w W)(o:W.grownBy w8 vc.ownBlock)(F:kn W vc c){q:Q4}(u:w8.ownsRow L 172 4 c (s.C.length+1) (qs.flatMap q4++q4 q)){x:d5}(l:oE B w x q.1 q.2.1 q.2.2.1 q.2.2.2):
 w8.heap[b]?=some (L5 vc vb s)/\eQ L B b (w8.setCell (b,0) c) c vb { s with C:=s.C++[x] } (qs++[q])/\d1 (WT b vc vb) w (w8.setCell (b,0) c)/\eA w.heap.size vc c:=by
 have v:=m.size;have n:w8.heap[b]?=some (L5 vc vb s):=((o.block b (D6 a.lt v) fun e=>a.cb e.symm).trans (m.block b a.lt)).trans a.box;have A:c.ownBlock≠some b:=nH u (show Is w8 b 160 #[vc,((s.sc:Int):Int),((s.lst:Int):Int),((s.lsc:Int):Int),vb]from n) Up
 have t:d1 (WT b vc vb) w (w8.setCell (b,0) c):=
  ((d1.wb (WT b vc vb) m).trans (d1.grown (X:=WT b vc vb) o fun k f=>.inr (.inl f)) fun _ _ l=>l).trans (d1.set (X:=WT b vc vb) w8 (.inl rfl) 0 c) fun _ _ l=>l
 have r:=(a.below t).mono a.hB;refine⟨n,⟨a.hB,a.hL,D0 n _,?_,by simp[a.ql],fun i y p d g=>?_,?_⟩,t,eA.of_at F v⟩
 .show(w8.setCell _ _).ownsRow L _ 4 c (s.C++[x]).length ((qs++[q]).flatMap q4)
  rw[Dn,Cq];have e:[q].flatMap q4=q4 q:=Ur
  rw[e];exact zZ u fun k f=>Dx w8 _ _ k (fun e=>A (by have e:k=b:=e;rw[<-e];exact f))
 .have d:(s.C++[x])[i]?=some y:=d
  rcases Cc i s.C.length with j|j
  .rw[Yn j]at d
   rw[Yn (by rw[a.ql];exact j)]at g;exact(a.qi i y p d g).below r Zr
  .rw[Yi j]at d
   rw[Yi (by rw[a.ql];exact j),a.ql]at g
   have z:i-s.C.length=0:=by
    have:=(List.getElem?_eq_some_iff.1 d).1;simp at this;omega
   rw[z]at d g;simp at d g;subst d g;exact l.below r Zr
 .refine zZ a.wn fun k f=>?_
  have E:=(zo a.wn k f).1;have D:k≠b:=fun e=>a.bb (e▸f)
  exact(Dx w8 _ _ k D).trans ((o.block k O fun e=>a.bc k e.symm f).trans (m.block k E))
def zd8(L B b:Nat)(w:C3)(vc vb:C4)(s:eO)(v:C4)(e:Ending)(w':C3):Prop:=
 ∃a qs,e=.returned v/\eQ L B b w' a vb s qs/\d1 (WT b vc vb) w w'/\eA w.heap.size vc a
theorem GU{s:eO}{qs:List Q4}(e:eQ L B b w vc vb s qs)(k t:Int)(a d:Option Addr){x:d5}(D:oE B w x (.int .i64 k) (.int .i64 t) (.pointer a) (.pointer d))(_:s.C.length<=2000000000):
 Cy 138 #[(b,0),.agg #[(k:Int),(t:Int),.pointer a,.pointer d]] w (zd8 L B b w vc vb { s with C:=s.C++[x] } (.int .i64 (s.C.length:Int))):=by
 obtain⟨S,z,F,G,H⟩:=info_parts UP;obtain⟨u,c,l⟩:=zb e.row;have m:Cx w (w.alloc (.cells #[(k:Int),(t:Int),.pointer a,.pointer d] 172)):=Zb.alloc Zr _;have r:(w.alloc (.cells #[(k:Int),(t:Int),.pointer a,.pointer d] 172)).heap.size=w.heap.size+1:=zA _ _;have f:=Dq w (.cells #[(k:Int),(t:Int),.pointer a,.pointer d] 172);have i:=e.keepB m;have X:=e.lt;have E:=D.below (m.mono (show B<=w.heap.size by have:=e.hB;have:=e.hL;omega)) (Dy B);have N:=U m;clear m
 have R:((w.alloc (.cells #[(k:Int),(t:Int),.pointer a,.pointer d] 172)).cell? (w.heap.size,0)=some (.int .i64 k)/\(w.alloc (.cells #[(k:Int),(t:Int),.pointer a,.pointer d] 172)).cell? (w.heap.size,1)=some (.int .i64 t)/\(w.alloc (.cells #[(k:Int),(t:Int),.pointer a,.pointer d] 172)).cell? (w.heap.size,2)=some (.pointer a)/\(w.alloc (.cells #[(k:Int),(t:Int),.pointer a,.pointer d] 172)).cell? (w.heap.size,3)=some (.pointer d)):=
  ⟨(Ds f 0).trans rfl,(Ds f 1).trans rfl,(Ds f 2).trans rfl,(Ds f 3).trans rfl⟩
 go_enter func138,ntmps138;go_upto_region 1 with fail;generalize w.alloc (.cells #[(k:Int),(t:Int),.pointer a,.pointer d] 172)=W at *;obtain⟨⟨Q,_,_,_,_⟩,_⟩:=zT i.box;rw[l]at Q;have Y:b<W.heap.size:=O
 have Z:w.heap.size<W.heap.size:=O
 obtain⟨_,n1,n2,_⟩:=R;have ad:=Dt r;have ae:=Dt r.symm;clear r;have M:=C0 ((W.alloc (.cells #[(k:Int),(t:Int),.pointer a,.pointer d] 172)).ownsRow L 172 4 (.slice u s.C.length c) s.C.length (qs.flatMap q4)) (l▸qD i.row ((D1 W.heap.size W).alloc Zr _) Zr);have K:=U (xJ W [.int .i64 k,.int .i64 t,.pointer a,.pointer d] 172);have g:=U (Do z (Do F (Do G H)));have I:=U i;have v:=U l;have P:=U E;have T:L<=W.heap.size:=by have:=e.hL;omega
 have J:=C0 (Cx W (W.alloc (.cells #[(k:Int),(t:Int),.pointer a,.pointer d] 172)).drew) (((D1 W.heap.size W).alloc Zr _).drew);have ab:(W.alloc (.cells #[(k:Int),(t:Int),.pointer a,.pointer d] 172)).heap.size=W.heap.size+1:=zA _ _;clear e i z F G H l D E f
 go_region_law (first
  | (refine jF rfl (.tmp 9) (.tmp 11) _ rfl L 172 S _ 4 32 underlying118 g.o.1 g.o.2.1 g.o.2.2.1 g.o.2.2.2 rfl O (.slice u s.C.length c) s.C.length _ rfl (by exact qD M.o Zb.drew Zr) ⟨W.heap.size,0,none⟩ 1 1 [.int .i64 k,.int .i64 t,.pointer a,.pointer d] rfl rfl (by exact K.o) Uw Uv O (by show L<=(W.alloc _).heap.size;omega) O ?_
     intro _ w8 p y A;obtain⟨_,_,rfl⟩:=zb p;have j:=I.o.emit (q:=(.int .i64 k,.int .i64 t,.pointer a,.pointer d)) J.o (by rw[v.o];exact y) (by rw[v.o];exact A) p P.o;obtain⟨⟨_,_,_,_,_⟩,_⟩:=zT j.1;have V:b<w8.heap.size:=zB j.1;have n:=U j.2
     clear p y A j))
 all_goals
  have aa:IntKind.i64.wrap (((s.C.length+1 :Nat):Int)-1)=(s.C.length:Int):=Ux
  go_wp2_with fail;go_ret;exact⟨_,_,rfl,n.o.1,(d1.wb (WT b vc vb) N.o).trans n.o.2.1 fun _ _ e=>e,n.o.2.2.mono O⟩
theorem qZ{s:eO}{qs:List Q4}(d:eQ L B b w vc vb s qs)(k t:Int)(a c:Option Addr){x:d5}(m:oE B w x (.int .i64 k) (.int .i64 t) (.pointer a) (.pointer c))(l:s.C.length<=2000000000):
 Cy 138 #[(b,0),.agg #[(k:Int),(t:Int),.pointer a,.pointer c]] w (uF L B b w vc vb { s with C:=s.C++[x] } (.int .i64 (s.C.length:Int))):=by
 refine(GU d k t a c m l).mono ?_;rintro e w' ⟨o,n,f,g,i,j⟩;exact⟨o,vb,n,f,g,i,j,eA.refl _ _⟩
theorem oE.set{x:d5}{a b c d:C4}(f:oE B w x a b c d)(g:PC x=true)(n:Nat):oE B w (mY n x) a (.int .i64 (n:Int)) c d:=by
 cases x with
 |jmp t=>exact⟨f.1,rfl,f.2.2.1,f.2.2.2⟩
 |unl t=>exact⟨f.1,rfl,f.2.2.1,f.2.2.2⟩
 |lzy z t=>exact⟨f.1,rfl,f.2.2.1,f.2.2.2⟩
 |beg=>cases g
 |app e=>cases g
 |fin t=>cases g
 |ent=>cases g
 |lve=>cases g
theorem eQ.setp{s:eO}{qs:List Q4}{g:Nat}(a:eQ L B b w (.slice (some ⟨g,0,none⟩) s.C.length c) vb s qs){n:Nat}{x:d5}(o:s.C[i]?=some x)(H:PC x=true):
 ∃I,eQ L B b (w.setCell (g,i*4+1) ((n:Int):Int)) (.slice (some ⟨g,0,none⟩) s.C.length c) vb { s with C:=yR n s.C i } I/\d1 (fun k=>k=g) w (w.setCell (g,i*4+1) ((n:Int):Int)):=by
 have r:=(List.getElem?_eq_some_iff.1 o).1;obtain⟨q,y⟩:∃q,qs[i]?=some q:=⟨_,Dz (by rw[a.ql];exact r)⟩
 have F:b≠g:=fun e=>a.cb (by rw[e];rfl)
 have m:d1 (fun k=>k=g) w (w.setCell (g,i*4+1) ((n:Int):Int)):=d1.set (X:=fun k=>k=g) w rfl _ _;have R:=a.tl (k:=g) (.inr (.inl rfl));have u:Below B w (w.setCell (g,i*4+1) ((n:Int):Int)):=m.below Kk fun k t (e:k=g)=>Xk
 have E:yR n s.C i=s.C.set i (mY n x):=by unfold yR;rw[o]
 refine⟨qs.set i (q.1,.int .i64 (n:Int),q.2.2.1,q.2.2.2),⟨a.hB,a.hL,(m.block b a.lt F).trans a.box,?_,?_,fun j z p d f=>?_,zZ a.wn fun k t=>m.block k (zo a.wn k t).1 fun(e:k=g)=>a.bc g rfl (e▸t)⟩,m⟩
 .show(w.setCell _ _).ownsRow L _ 4 _ (yR n s.C i).length _
  rw[oK,<-BG qs i q _ y];rcases a.row.2 with⟨_,_⟩|⟨_,_,A,G,J,K,M,N,P,Q⟩
  .omega
  .injection G with l _ D
   injection l with l;injection l with l _ _;subst l D;refine⟨by rw[Ce];exact a.row.1,.inr ⟨g,c,A.setIfInBounds (i*4+1) (.int .i64 (n:Int)),rfl,J,D0 K _,M,N,by simpa using P,?_⟩⟩;rw[<-Q,Array.toList_setIfInBounds,List.take_set]
 .show(qs.set i _).length=(yR n s.C i).length
  rw[Ce,oK];exact a.ql
 .have d:(yR n s.C i)[j]?=some z:=d
  rw[E,Cf]at d;rw[Cf]at f;by_cases v:i=j
  .subst v
   rw[Dm rfl,Dm r]at d;rw[Dm rfl,Dm (by rw[a.ql];exact r)]at f;injection d with d;injection f with f;subst d f;exact((a.qi i x q o y).set H n).below u Zr
  .rw[Dl v]at d f
   exact(a.qi j z p d f).below u Zr
def za0(L B b:Nat)(w:C3)(vc vb:C4)(s:eO)(e:Ending)(w':C3):Prop:=∃qs,e=.returned (.tuple #[])/\eQ L B b w' vc vb s qs/\d1 (fun k=>vc.ownBlock=some k) w w'
theorem fB{s:eO}{qs:List Q4}(f:eQ L B b w vc vb s qs){ps:List Nat}{A:Option Addr}{ab:Nat}(Q:∀(j p:Nat),ps[j]?=some p->∃g o,A=some ⟨g,o,none⟩/\g<w.heap.size/\vc.ownBlock≠some g/\w.cell? ⟨g,o+j,none⟩=some (.int .i64 (p:Int)))(u:L4 s.C ps)(_:s.C.length<=2000000000)(_:ps.length<=2000000000):
 Cy 155 #[(b,0),(A,ps.length,ab)] w (za0 L B b w vc vb { s with C:=jq s.C.length s.C ps }):=by
 obtain⟨D,c,ak⟩:=zb f.row;subst ak;have H:=U f;have Z:=U Q;have X:=U u;clear f Q u;go_enter func155,ntmps155;go_wp2_with fail
 go_loopw [8] (fun iv wr=>∃(j:Nat) (r:List Q4),j<=ps.length/\iv=.int .i64 (j:Int)/\eQ L B b wr (.slice D s.C.length c) vb { s with C:=jq s.C.length s.C (ps.take j) } r/\d1 (fun k=>(Value.slice D s.C.length c).ownBlock=some k) w wr) (fun iv _=>ps.length-(intOf iv).toNat)
 case atStart=>exact⟨0,qs,Dw _,rfl,H.o,d1.refl _ _⟩
 case round=>
  obtain⟨j,r,u,rfl,q,P⟩:=hrel;have d:=U q;have l:=U P;obtain⟨⟨_,_,_,_,_⟩,_⟩:=zT q.box;have au:=q.lt;clear q P;by_cases af:j<ps.length
  .obtain⟨p,m⟩:∃p,ps[j]?=some p:=⟨_,Dz af⟩
   obtain⟨t,op,rfl,N,ag,M⟩:=Z.o j p m;have ar:t<wr.heap.size:=D6 N l.o.size;have aq:wr.cell? (t,op+j)=some (.int .i64 (p:Int)):=(D4 (l.o.block t N ag)).trans M;obtain⟨_,z,am⟩:=X.o p (Ye m);obtain⟨x,V,al⟩:=BC (n:=s.C.length) (ps:=ps.take j) z am;have av:=(List.getElem?_eq_some_iff.1 z).1;obtain⟨g,_,a,_,_,_,_,_⟩:=vV d.o.row (by show 0<(jq _ _ _).length;rw[fA];omega);injection a with a F G;subst a G;have v:(jq s.C.length s.C (ps.take j)).length=s.C.length:=fA _ _ _;have y:(Value.slice (some ⟨g,0,none⟩) s.C.length c)=.slice (some ⟨g,0,none⟩) (jq s.C.length s.C (ps.take j)).length c:=by rw[v]
   have T:eQ L B b wr (.slice (some ⟨g,0,none⟩) (eO.C { s with C:=jq s.C.length s.C (ps.take j) }).length c) vb { s with C:=jq s.C.length s.C (ps.take j) } r:=by
    show eQ L B b wr (.slice (some ⟨g,0,none⟩) (jq s.C.length s.C (ps.take j)).length c) vb _ r;rw[<-y];exact d.o
   obtain⟨qs2,R,S⟩:=T.setp (n:=s.C.length) (i:=p) (x:=x) V al;have E:=U (Do R S)
   obtain⟨W,_⟩:∃W,wr.cell? (g,p*4+1)=some W:=by
    rcases d.o.row.2 with⟨_,I⟩|⟨_,_,ad,aj,_,an,_,_,_,ao⟩
    .exfalso;have I:(jq s.C.length s.C (ps.take j)).length=0:=I;omega
    .injection aj with a F G
     injection a with a;injection a with a _ _;subst a
     have ah:p*4+1<ad.size:=by
      have K:=congrArg List.length ao;rw[PF,d.o.ql]at K;simp at K;have ap:(jq s.C.length s.C (ps.take j)).length=s.C.length:=v;omega
     exact⟨_,(Ds an _).trans (Array.getElem?_eq_getElem ah)⟩
   have aw:(p:Int)<(s.C.length:Int):=O
   have Y:=U m;have aa:=U y;clear T R S z V m M y v F;go_wp2_with fail
   go_still_tail 12,(by kernel_rfl)
   repeat still_step
   change wpList _ _ _ _ _ wr.drew;go_wp2_with fail;go_roundw
   case rel=>
    refine⟨j+1,qs2,O,by go_num,?_,?_⟩
    .have ai:ps.take (j+1)=ps.take j++[p]:=by rw[Yr,Y.o];rfl
     rw[ai,J0];have J:=E.o.1.keepB Zb.drew;rw[<-aa.o]at J;exact J
    .exact(l.o.trans E.o.2 fun k _ (e:k=g)=>by rw[e];rfl).trans (d1.drew (fun _=>False) _) fun _ _ f=>f.elim
   case measure=>simp[intOf];omega
  .have ae:j=ps.length:=by omega
   subst ae;go_wp2_with fail
   go_end0
   exact⟨_,rfl,by have:=d.o;rw[Y9]at this;exact this,l.o⟩
structure e1 (L B b:Nat) (w:C3) (vc vb:C4) (w1:C3) (vc1 vb1:C4) (s1:eO) (qs1:List Q4):Prop where
 wr:eQ L B b w1 vc1 vb1 s1 qs1
 off:d1 (WT b vc vb) w w1
 rc:eA w.heap.size vc vc1
 rb:eA w.heap.size vb vb1
section
variable {L B b:Nat}{w w1 w2:C3}{vc vb vc1 vb1 vc2 vb2:C4}{s s1 s2:eO}{qs qs1 qs2:List Q4}
theorem e1.start(h:eQ L B b w vc vb s qs):e1 L B b w vc vb w vc vb s qs:=⟨h,d1.refl _ _,eA.refl _ _,eA.refl _ _⟩
theorem e1.next(a:e1 L B b w vc vb w1 vc1 vb1 s1 qs1)(g:e1 L B b w1 vc1 vb1 w2 vc2 vb2 s2 qs2):e1 L B b w vc vb w2 vc2 vb2 s2 qs2:=
 ⟨g.wr,a.off.trans g.off fun k c d=>WT.old a.rc a.rb c d,a.rc.trans g.rc a.off.size,a.rb.trans g.rb a.off.size⟩
theorem e1.below(a:eQ L B b w vc vb s qs)(c:e1 L B b w vc vb w1 vc1 vb1 s1 qs1):Below B w w1:=(a.below c.off).mono a.hB
theorem e1.mono(c:eQ L B b w vc vb s qs)(a:Cx w w1):e1 L B b w vc vb w1 vc vb s qs:=⟨c.keepB a,d1.wb _ a,eA.refl _ _,eA.refl _ _⟩
theorem uF.cum{v:C4}{e:Ending}{w':C3}(d:uF L B b w vc vb s v e w'):∃c a qs,e=.returned v/\e1 L B b w vc vb w' c a s qs:=by
 obtain⟨c,a,qs,f,g,i,j,k⟩:=d;exact⟨c,a,qs,f,g,i,j,k⟩
theorem e1.post(h:e1 L B b w vc vb w1 vc1 vb1 s1 qs1)(v:C4):uF L B b w vc vb s1 v (.returned v) w1:=⟨vc1,vb1,qs1,rfl,h.wr,h.off,h.rc,h.rb⟩
theorem e1.land{w':C3}{e:Ending}(a:za0 L B b w vc vb s e w'):∃qs,e=.returned (.tuple #[])/\e1 L B b w vc vb w' vc vb s qs:=by
 obtain⟨qs,c,d,f⟩:=a;exact⟨qs,c,d,f.mono fun k _ g=>.inr (.inl g),eA.refl _ _,eA.refl _ _⟩
end
def WEx(L B b:Nat)(m:Nat):Prop:=∀(e:Ex) (w:C3) (v vc vb:C4) (s:eO) (qs:List Q4),eQ L B b w vc vb s qs->pG B w v e->vA e m=true->s.C.length+zu e<=1000000000->
 Cy 156 #[(b,0),v] w (uF L B b w vc vb { s with C:=s.C++yt e s.C.length } (.tuple #[]))
theorem xA.ptr{a:Option Addr}{l:List Ex}(f:xA B w (.slice a n c) l){e:Ex}(b:l[i]?=some e):∃g o,a=some ⟨g,o,none⟩/\pG B w (.pointer (some ⟨g,o+i*5,none⟩)) e:=by
 obtain⟨_,_,m,_,hF⟩:=f;injection m with d _ _;subst d;obtain⟨g,o,j,k⟩:=hF Kj;exact⟨g,o,j,g,_,rfl,kW.at l g o i e k b⟩
theorem fY(P:WEx L B b m){s:eO}{qs:List Q4}(p:eQ L B b w vc vb s qs){l:List Ex}(i:xA B w v l)(t:zr l m=true)(_:s.C.length+zG l<=1000000000):
 Cy 142 #[(b,0),v] w (uF L B b w vc vb { s with C:=s.C++qP l s.C.length } (.tuple #[])):=by
 obtain⟨_,c,rfl,_⟩:=i.form;have H:=U p;have J:=U i;have G:=U t;clear p i t;go_enter func142,ntmps142;go_wp2_with fail
 go_loopw [7] (fun iv wr=>∃(j:Nat) (vc1 vb1:C4) (qs1:List Q4),j<=l.length/\iv=.int .i64 (j:Int)/\e1 L B b w vc vb wr vc1 vb1 { s with C:=s.C++qP (l.take j) s.C.length } qs1) (fun iv _=>l.length-(intOf iv).toNat)
 case atStart=>exact⟨0,vc,vb,qs,Dw _,rfl,by have:=e1.start H.o;simpa[qP]using this⟩
 case round=>
  obtain⟨j,vc1,vb1,qs1,_,rfl,r⟩:=hrel;have a:=U r;clear r;by_cases R:j<l.length
  .obtain⟨x,d⟩:∃x,l[j]?=some x:=⟨_,Dz R⟩
   obtain⟨g,o,rfl,u⟩:=(J.o.below (a.o.below H.o) Zr).ptr d;have k:l.take (j+1)=l.take j++[x]:=by rw[Yr,d];rfl
   have f:(s.C++qP (l.take j) s.C.length).length=s.C.length+zG (l.take j):=by rw[Dn,jI]
   have S:zG (l.take j)+zu x<=zG l:=by
    have M:l=l.take (j+1)++l.drop (j+1):=(Ct _ _).symm;have N:=congrArg zG M;rw[oL,k,oL,zG,zG]at N;omega
   have I:=U u;have y:=jK G.o d;have K:=U y;have F:=U (show s.C++qP (l.take (j+1)) s.C.length=s.C++qP (l.take j) s.C.length++yt x (s.C++qP (l.take j) s.C.length).length by rw[k,BE,qP,qP,D8,f,D7]);have q:(s.C++qP (l.take j) s.C.length).length+zu x<=1000000000:=by rw[f];omega
   have D:=U q;clear u y d k f q
   go_wp2_with (first
    | (go_at_call 156;(refine(P x wr _ _ _ _ _ a.o.wr I.o K.o D.o).mono ?_);rintro e w2 z
       obtain⟨vc2,vb2,qs2,rfl,n⟩:=z.cum;have E:=U (a.o.next n)
       clear z n))
   go_roundw
   case rel=>exact⟨j+1,vc2,vb2,qs2,O,by go_num,by rw[F.o];exact E.o⟩
   case measure=>simp[intOf];omega
  exact Qj
theorem GV(C D:List d5)(x:d5)(n:Nat):jq n (C++[x]++D) [C.length]=C++[mY n x]++D:=by
 have h:=BD n C [x] D (i:=0) Ur;rw[Nat.add_zero]at h;show yR n (C++[x]++D) C.length=_;rw[h];rfl
theorem L6(C D:List d5)(x:d5)(b:PC x=true):L4 (C++[x]++D) [C.length]:=fun i a=>by
 rw[List.mem_singleton.1 a];refine⟨x,?_,b⟩;rw[D7,Yi Zr,Yx];rfl
theorem iO(w:C3)(n:Nat)(vc:C4)(c:∀k,vc.ownBlock=some k->k<w.heap.size):∀(j p:Nat),[n][j]?=some p->∃g o,(some ⟨w.heap.size,0,none⟩:Option Addr)=some ⟨g,o,none⟩/\g<(w.alloc (.cells #[((n:Int):Int)] 3)).heap.size/\vc.ownBlock≠some g/\(w.alloc (.cells #[((n:Int):Int)] 3)).cell? ⟨g,o+j,none⟩=some (.int .i64 (p:Int)):=fun j p a=>by
 have b:j=0:=by have:=(List.getElem?_eq_some_iff.1 a).1;simp at this;exact this
 subst b;simp at a;subst a;exact⟨w.heap.size,0,rfl,Ut,fun e=>by have:=c _ e;omega,(Ds (Dq w _) 0).trans rfl⟩
def WLz(L B b:Nat)(m:Nat):Prop:=∀(z:Bool) (a op n:Int) (td:C2) (tc:List Ex) (w:C3) (v vc vb:C4) (s:eO) (qs:List Q4),(Value.int .i64 a=.int .i64 (if z then 5 else 6))->eQ L B b w vc vb s qs->pG B w v (.mk 5 op n td tc)->tc.length=2->zr tc m=true->s.C.length+zG tc+1<=1000000000->
 Cy 166 #[(b,0),v,(a:Int)] w (uF L B b w vc vb { s with C:=s.C++wX tc s.C.length z } (.tuple #[]))
theorem BH(T:WEx L B b m):WLz L B b m:=by
 intro z aC op n td tc w v vc vb s qs X j Z V D av
 obtain⟨a,d,rfl⟩:∃a d,tc=[a,d]:=by
  match tc,V with
  |[a,d],_=>exact⟨a,d,rfl⟩
 obtain⟨g,o,rfl,aq,_,_,_,_,_,_,R,r⟩:=Z.cells;obtain⟨_,c,rfl,_⟩:=r.form;obtain⟨_,_,rfl,E⟩:=r.ptr (i:=0) (e:=a) rfl;obtain⟨_,_,f,F⟩:=r.ptr (i:=1) (e:=d) rfl;injection f with f;injection f with f ao _;subst f ao;rw[qr,qr,Dv,Dv]at D;rw[zG,zG,zG]at av;have aF:B<=w.heap.size:=by have:=j.hB;have:=j.hL;have:=j.lt;omega
 have ar:g<w.heap.size:=O
 have K:=U j;rw[Nat.zero_mul,Nat.add_zero]at E;rw[Nat.one_mul]at F;have aj:=U E;have ak:=U F;have M:=U D;have ai:=U X;have Y:([a,d]:List Ex).length=2:=rfl;rw[Y]at R;have ag:=U R;have aw:s.C.length+zu a<=1000000000:=O
 clear j Z E F D r Y V X;go_enter func166,ntmps166
 go_upto_region 1 with(first
  | (go_at_call 156;(refine(T a w _ _ _ _ _ K.o aj.o M.o.1 aw).mono ?_);rintro e w1 aa
     obtain⟨vc1,vb1,qs1,rfl,N⟩:=aa.cum;have l:=U N
     clear aa N))
 have W:(s.C++yt a s.C.length).length=s.C.length+zu a:=by rw[Dn,yE]
 generalize hC1:s.C++yt a s.C.length=C1 at *;have J:=U (Do hC1 W);have ax:C1.length<=2000000000:=O
 clear hC1 W
 go_upto_region 2 with(first
  | (go_at_call 138;(refine(qZ l.o.wr aC 0 none none (x:=.lzy z 0) ⟨ai.o,rfl,rfl,rfl⟩ ax).mono ?_);rintro e w2 ab
     obtain⟨vc2,vb2,qs2,rfl,q⟩:=ab.cum;have H:=U (l.o.next q);have u:=(l.o.next q).below K.o;have aE:=(u.cell (p:=(g,o+4)) aq).trans ag.o;have aG:g<w2.heap.size:=D6 ar (l.o.next q).off.size;have al:=U (ak.o.below u Zr)
     clear ab q u))
 have ay:(C1++[d5.lzy z 0]).length+zu d<=1000000000:=by rw[Dn,D2];have:=J.o.2;omega
 go_upto_region 3 with(first
  | (go_at_call 156;(refine(T d w2 _ _ _ _ _ H.o.wr al.o M.o.2.1 ay).mono ?_);rintro e G ad
     obtain⟨aD,_,_,rfl,P⟩:=ad.cum;have t:=U (H.o.next P)
     clear ad P))
 have S:=t.o.wr;have I:=U (t.o.next (e1.mono t.o.wr ((D1 G.heap.size G).alloc Zr (.cells #[((C1.length:Int):Int)] 3))));have am:=U (iO G C1.length aD fun k au=>(S.tl (.inr (.inl au))).2);have ah:=U (L6 C1 (yt d (C1++[d5.lzy z 0]).length) (.lzy z 0) rfl);have az:(C1++[d5.lzy z 0]++yt d (C1++[d5.lzy z 0]).length).length<=2000000000:=by rw[Dn,yE];omega
 clear S
 go_wp2_with (first
  | (go_at_call 155;(refine(fB (ps:=[C1.length]) I.o.wr am.o ah.o az Ur).mono ?_);rintro e _ ae
     obtain⟨_,rfl,Q⟩:=e1.land ae;have af:=U (I.o.next Q)
     clear ae Q))
 go_end0
 have y:=af.o;rw[GV]at y
 have an:C1++[mY (C1++[d5.lzy z 0]++yt d (C1++[d5.lzy z 0]).length).length (d5.lzy z 0)]++yt d (C1++[d5.lzy z 0]).length=s.C++wX [a,d] s.C.length z:=by
  obtain⟨ap,_⟩:=J.o;subst ap
  have aB:(s.C++yt a s.C.length++[d5.lzy z 0]++yt d (s.C++yt a s.C.length++[d5.lzy z 0]).length).length=s.C.length+zu a+1+zG [d]:=by
   simp only[Dn,yE,D2,zG];omega
  have aA:(s.C++yt a s.C.length++[d5.lzy z 0]).length=s.C.length+zu a+1:=by simp only[Dn,yE,D2]
  rw[aB,aA,wX,qP,qP,D8];simp only[mY,D7,Cu]
 rw[an]at y;exact y.post _
theorem J1(N:WEx L B b m)(n:Int)(td:C2)(tc:List Ex)(w:C3)(v vc vb:C4)(s:eO)(qs:List Q4)(c:eQ L B b w vc vb s qs)(f:pG B w v (.mk 5 18 n td tc))(r:tc.length=2)(u:zr tc m=true)(Q:s.C.length+zG tc+2<=1000000000):
 Cy 156 #[(b,0),v] w (uF L B b w vc vb { s with C:=s.C++[d5.beg]++wX tc (s.C++[d5.beg]).length true } (.tuple #[])):=by
 obtain⟨g,o,rfl,t,l,q,J,K,_,_,M,S⟩:=f.cells;have V:B<=w.heap.size:=Hn
 have P:g<w.heap.size:=O
 have j:=U c;have I:=U f;have i:=U (Do l q);have F:=U (show(s.C++[d5.beg]).length+zG tc+1<=1000000000 by rw[Dn,D2];omega);have A:=U r;have H:=U u;have R:s.C.length<=2000000000:=O
 clear c f l q J K M S Q r u;go_enter func156,ntmps156
 go_wp2_with (first
  | (go_at_call 138;(refine(qZ j.o 0 0 none none (x:=.beg) ⟨rfl,rfl,rfl,rfl⟩ R).mono ?_);rintro e w1 y
     obtain⟨vc1,vb1,qs1,rfl,a⟩:=y.cum;have D:=U a;have d:=a.below j.o;have W:g<w1.heap.size:=D6 P a.off.size;have T:=(d.cell (p:=(g,o)) t).trans i.o.1;have f1:=(d.cell (p:=(g,o+1)) t).trans i.o.2;have G:=U (BH N true 5 18 n td tc w1 (.pointer (some ⟨g,o,none⟩)) vc1 vb1 { s with C:=s.C++[d5.beg] } qs1 rfl a.wr (I.o.below d Zr) A.o H.o F.o)
     clear y a d)
  | (go_at_call 166;(refine G.o.mono ?_);rintro e w2 z
     obtain⟨vc2,vb2,qs2,rfl,k⟩:=z.cum;have E:=U (D.o.next k)
     clear z k))
 all_goals
  go_end0
  exact E.o.post _
theorem DE(N:WEx L B b m)(n:Int)(td:C2)(tc:List Ex)(w:C3)(v vc vb:C4)(s:eO)(qs:List Q4)(c:eQ L B b w vc vb s qs)(f:pG B w v (.mk 5 19 n td tc))(r:tc.length=2)(u:zr tc m=true)(Q:s.C.length+zG tc+2<=1000000000):
 Cy 156 #[(b,0),v] w (uF L B b w vc vb { s with C:=s.C++[d5.beg]++wX tc (s.C++[d5.beg]).length false } (.tuple #[])):=by
 obtain⟨g,o,rfl,t,l,q,J,K,_,_,M,S⟩:=f.cells;have V:B<=w.heap.size:=Hn
 have P:g<w.heap.size:=O
 have j:=U c;have I:=U f;have i:=U (Do l q);have F:=U (show(s.C++[d5.beg]).length+zG tc+1<=1000000000 by rw[Dn,D2];omega);have A:=U r;have H:=U u;have R:s.C.length<=2000000000:=O
 clear c f l q J K M S Q r u;go_enter func156,ntmps156
 go_wp2_with (first
  | (go_at_call 138;(refine(qZ j.o 0 0 none none (x:=.beg) ⟨rfl,rfl,rfl,rfl⟩ R).mono ?_);rintro e w1 y
     obtain⟨vc1,vb1,qs1,rfl,a⟩:=y.cum;have D:=U a;have d:=a.below j.o;have W:g<w1.heap.size:=D6 P a.off.size;have T:=(d.cell (p:=(g,o)) t).trans i.o.1;have f1:=(d.cell (p:=(g,o+1)) t).trans i.o.2;have G:=U (BH N false 6 19 n td tc w1 (.pointer (some ⟨g,o,none⟩)) vc1 vb1 { s with C:=s.C++[d5.beg] } qs1 rfl a.wr (I.o.below d Zr) A.o H.o F.o)
     clear y a d)
  | (go_at_call 166;(refine G.o.mono ?_);rintro e w2 z
     obtain⟨vc2,vb2,qs2,rfl,k⟩:=z.cum;have E:=U (D.o.next k)
     clear z k))
 all_goals
  go_end0
  exact E.o.post _
theorem GW(ab:WEx L B b m)(k op n:Int)(td:C2)(tc:List Ex)(w:C3)(v vc vb:C4)(s:eO)(qs:List Q4)(d:eQ L B b w vc vb s qs)(t:pG B w v (.mk k op n td tc))(H:zr tc m=true)(ae:s.C.length+zG tc+2<=1000000000)(M N P:Bool)(_:(k == 5)=M)(_:(op == 18)=N)(_:(op == 19)=P)(i:M=false\/N=false/\P=false):
 Cy 156 #[(b,0),v] w (uF L B b w vc vb { s with C:=s.C++[d5.beg]++qP tc (s.C++[d5.beg]).length++[.app (.mk k op n td tc)] } (.tuple #[])):=by
 obtain⟨g,o,rfl,r,E,F,Z,aa,_,_,G,u⟩:=t.cells;obtain⟨_,c,rfl,_⟩:=u.form;have aj:B<=w.heap.size:=by have:=d.hB;have:=d.hL;have:=d.lt;omega
 have ad:g<w.heap.size:=O
 have l:=U d;have W:=U t;have j:=U (Do E (Do F G));have Y:=U u;have S:=U (show(s.C++[d5.beg]).length+zG tc<=1000000000 by rw[Dn,D2];omega);have T:=U (show(s.C++[d5.beg]++qP tc (s.C++[d5.beg]).length).length<=2000000000 by rw[Dn,jI,Dn,D2];omega);have V:=U H;have af:s.C.length<=2000000000:=O
 clear d t E F Z aa G u ae H;go_enter func156,ntmps156;rcases i with i|⟨i,ag⟩
 all_goals
  (try subst i)
  (try subst ag)
  go_upto_region 3 with(first
   | (go_at_call 138;(refine(qZ l.o 0 0 none none (x:=.beg) ⟨rfl,rfl,rfl,rfl⟩ af).mono ?_);rintro e w1 I
      obtain⟨vc1,vb1,qs1,rfl,a⟩:=I.cum;have y:=U a;have f:=a.below l.o;have ak:g<w1.heap.size:=D6 ad a.off.size;have ah:=(f.cell (p:=(g,o)) r).trans j.o.1;have f1:=(f.cell (p:=(g,o+1)) r).trans j.o.2.1;have ai:=(f.cell (p:=(g,o+4)) r).trans j.o.2.2;have R:=U (fY ab a.wr (Y.o.below f Zr) V.o S.o)
      clear I a f))
  go_upto_region 2 with(first
   | (go_at_call 142;(refine R.o.mono ?_);rintro e w2 J
      obtain⟨vc2,vb2,qs2,rfl,q⟩:=J.cum;have z:=U (y.o.next q);have X:=U (W.o.below ((y.o.next q).below l.o) Zr)
      clear J q))
  go_wp2_with (first
   | (go_at_call 138;(refine(qZ z.o.wr 1 0 (some ⟨g,o,none⟩) none (x:=.app (.mk k op n td tc)) ⟨rfl,rfl,X.o,rfl⟩ T.o).mono ?_);rintro e _ K
      obtain⟨_,_,_,rfl,D⟩:=K.cum;have Q:=U (z.o.next D)
      clear K D))
 all_goals
  go_end0
  exact Q.o.post _
theorem J2(i:WEx L B b m):WEx L B b (m+1):=by
 intro e w v vc vb s qs d l c q;obtain⟨k,op,n,td,tc⟩:=e;rw[ju,Dv,Dv,decide_eq_true_eq,Yt]at c;rw[zu]at q;by_cases a:k=5/\(op=18\/op=19)
 .have o:tc.length=2:=by have:=c.1.2;rw[a.1]at this;exact AY this
  have hF:∀z:Bool,decide (op=18)=z->s.C++[d5.beg]++wX tc (s.C++[d5.beg]).length z=s.C++yt (.mk k op n td tc) s.C.length:=fun z r=>by
   rw[yt,Dm a,Dn,D2,D7,Cu,r]
  obtain⟨p,j|j⟩:=a
  .subst p j
   rw[<-hF true rfl];exact J1 i n td tc w v vc vb s qs d l o c.2 O
  .subst p j
   rw[<-hF false rfl];exact DE i n td tc w v vc vb s qs d l o c.2 O
 .have hF:s.C++[d5.beg]++qP tc (s.C++[d5.beg]).length++[.app (.mk k op n td tc)]=s.C++yt (.mk k op n td tc) s.C.length:=by
   rw[yt,Dl a,Dn,D2,D7,D7,Cu]
  rw[<-hF];refine GW i k op n td tc w v vc vb s qs d l c.2 O _ _ _ rfl rfl rfl ?_;by_cases f:k=5
  .exact .inr ⟨by simpa using fun g=>a ⟨f,.inl g⟩,by simpa using fun g=>a ⟨f,.inr g⟩⟩
  .exact .inl (by simpa using f)
theorem iP(L B b:Nat):∀m,WEx L B b m
 | 0=>fun e w v vc vb s qs _ _ a _=>by
   obtain⟨k,op,n,td,tc⟩:=e;rw[ju]at a;simp at a
 |m+1=>J2 (iP L B b m)
theorem PG(k a:Int)(b c d e:C4)(w:C3):
 Cy 165 #[.agg #[(k:Int),(a:Int),b,c,d,e]] w (Cv (decide (k=1)) w):=by
 have f:=Dq w (.cells #[(k:Int),(a:Int),b,c,d,e] 139);have i:(w.alloc (.cells #[(k:Int),(a:Int),b,c,d,e] 139)).cell? (w.heap.size,0)=some (.int .i64 k):=(Ds f 0).trans rfl;clear f;by_cases g:k=1
 all_goals
  go_enter func165,ntmps165;go_wp2_with fail;go_ret;exact⟨by simp[g],Zb.alloc Zr _⟩
theorem UQ{t:St}(a:l[i]?=some t)(b:FU t=true):xZ l=true:=List.any_eq_true.2 ⟨t,Ye a,b⟩
theorem UR(b:∀(i:Nat) (t:St),i<l.length->l[i]?=some t->FU t=false):xZ l=false:=by
 unfold xZ;rw[Ch];intro t c;obtain⟨i,a⟩:=List.mem_iff_getElem?.1 c;rw[b i t (List.getElem?_eq_some_iff.1 a).1 a];decide
theorem PH(y:B<=w.heap.size)(m:eN B w v l):
 Cy 168 #[v,.func (.func 165) #[] #[]] w fun e w'=>∃n:Int,e=.returned (n:Int)/\decide (0<=n)=xZ l/\-1<=n/\n<=281474976710656/\Cx w w':=by
 obtain⟨_,c,rfl,_⟩:=m.form;have x:=U m;clear m;go_enter func168,ntmps168;go_wp2_with fail
 go_loopw [8] (fun iv wr=>∃j:Nat,j<=l.length/\iv=.int .i64 (j:Int)/\(∀(i:Nat) (t:St),i<j->l[i]?=some t->FU t=false)/\Cx w wr) (fun iv _=>l.length-(intOf iv).toNat)
 case atStart=>exact⟨0,Dw _,rfl,fun i t z=>O,D1 _ _⟩
 case round=>
  obtain⟨j,_,rfl,u,d⟩:=hrel;have b:=U d;have q:=U u;by_cases E:j<l.length
  .obtain⟨t,a⟩:∃t,l[j]?=some t:=⟨_,Dz E⟩
   obtain⟨k,F,td,tc,tg,th⟩:=t;obtain⟨g,o,G,H,I,rfl,_,_,_,_,_,q4,_,_⟩:=(x.o.below (d.mono y) Zr).cells a;have J:g<wr.heap.size:=by have:=d.size;omega
   have r:=U a;clear d u a;cases hk:(decide (k=1))
   all_goals
    have f:=U hk;clear hk
    go_wp2_with (first
     | (go_at_call 165;(refine(PG k F (.string td) G H I wr).mono ?_);rintro e w2 ⟨rfl,s⟩
        have p:=U s;rw[f.o]
        clear s))
   .go_roundw
    case rel=>
     refine⟨j+1,O,by go_num,fun i t z a=>?_,b.o.trans (p.o.mono b.o.size)⟩;by_cases C:i=j
     .subst C
      rw[r.o]at a;injection a with a;rw[<-a];exact f.o
     .exact q.o i t O a
    case measure=>simp[intOf];omega
   .go_ret
    exact⟨j,rfl,by rw[UQ r.o f.o];simp,O,O,b.o.trans (p.o.mono b.o.size)⟩
  .have D:j=l.length:=by omega
   subst D;go_wp2_with fail;go_ret;exact⟨-1,rfl,by rw[UR q.o];rfl,O,O,b.o⟩
theorem GX(j:B<=w.heap.size)(a:eN B w v l):
 Cy 164 #[v,.func (.func 165) #[] #[]] w (Cv (xZ l) w):=by
 obtain⟨_,c,rfl,_⟩:=a.form;have i:=U a;clear a;go_enter func164,ntmps164
 go_wp2_with (first
  | (go_at_call 168;(refine(PH j i.o).mono ?_);rintro e w2 ⟨n,rfl,d,_,_,b⟩
     have f:=U b;have g:=U d
     clear b d))
 go_ret;exact⟨by rw[g.o];rfl,f.o⟩
abbrev kZ(s:eO)(C:List d5)(bk:List Nat):eO:={ s with C:=s.C++C,bk:=s.bk++bk }
theorem US(s:eO):kZ s [] []=s:=by cases s;simp[kZ]
theorem PI(s:eO)(C a:List d5)(k b:List Nat):kZ (kZ s C k) a b=kZ s (C++a) (k++b):=by cases s;simp[kZ]
structure fZ (s:eO) (n m:Nat):Prop where
 d:s.lsc<=s.sc
 sc:s.sc+m<=1000
 len:s.C.length+n<=1000000000
 bk:s.bk.length+n<=1000000000
abbrev dS(s:eO):Nat:=s.sc-s.lsc
def UT(L B b m:Nat):Prop:=∀(l:List St) (w:C3) (v vc vb:C4) (s:eO) (qs:List Q4),eQ L B b w vc vb s qs->eN B w v l->d3 l m=true->fZ s (d0 l (dS s)) m->
 Cy 91 #[(b,0),v] w (uF L B b w vc vb (kZ s (qh l s.C.length (dS s) s.lst 0) (xu l s.C.length (dS s))) (.tuple #[]))
def PJ(L B b m:Nat):Prop:=∀(l:List St) (w:C3) (v vc vb:C4) (s:eO) (qs:List Q4),eQ L B b w vc vb s qs->eN B w v l->d3 l m=true->fZ s (qV l (dS s)) (m+1)->
 Cy 154 #[(b,0),v] w (uF L B b w vc vb (kZ s (xB l s.C.length (dS s) s.lst 0) (wO l s.C.length (dS s))) (.tuple #[]))
def zbt(L B b m:Nat):Prop:=∀(t:St) (w:C3) (v vc vb:C4) (s:eO) (qs:List Q4),eQ L B b w vc vb s qs->oD B w v t->fG t m=true->fZ s (xF t (dS s)) m->
 Cy 112 #[(b,0),v] w (uF L B b w vc vb (kZ s (xL t s.C.length (dS s) s.lst 0) (wN t s.C.length (dS s))) (.tuple #[]))
theorem DF{f:Nat->Nat->List Nat}{g:Nat->Nat}(h:∀b d,(f b d).length<=g d)(b d:Nat):(bB l f b d).length<=lB l g d:=by
 unfold bB lB;split
 .exact Nat.le_succ_of_le (Nat.le_succ_of_le (h (b+1) (d+1)))
 .exact h b d
mutual
theorem ZP:∀(t:St) (b d:Nat),(wN t b d).length<=xF t d
 | .mk k ty td tc tg th,b,d=>by
   rw[wN,xF];by_cases a:k=4
   .rw[Dm a,Dm a,Dn]
    have e:(bB tg (fun b d=>xu tg b d) (b+zG tc+2) d).length<=lB tg (d0 tg) d:=DF (fun b d=>fC tg b d) _ _;have f:(bB th (fun b d=>xu th b d) (b+zG tc+3+lB tg (d0 tg) d) d).length<=lB th (d0 th) d:=DF (fun b d=>fC th b d) _ _;omega
   rw[Dl a,Dl a];by_cases c:k=6
   .rw[Dm c,Dl O,Dm (Or.inl c)]
    show 1<=_;omega
   .rw[Dl c]
    exact Dw _
theorem fC:∀(l:List St) (b d:Nat),(xu l b d).length<=d0 l d
 |[],_,_=>Dw _
 | t::r,b,d=>by
   rw[xu,d0,Dn];have:=ZP t b d;have:=fC r (b+xF t d) d;omega
end
section
variable {L B b:Nat} {w w':C3}{vc vb:C4}{s:eO}{qs:List Q4}
theorem eQ.db(a:eQ L B b w vc vb s qs){g:C4}{c:eO}(j:d1 (fun k=>k=b) w w')(m:w'.heap[b]?=some (L5 vc g c))(d:c.C=s.C)(n:w'.ownsRow L 3 1 g c.bk.length (bkV c.bk)):eQ L B b w' vc g c qs:=by
 have l:Below B w w':=j.below Kk fun k f (e:k=b)=>by have:=a.hB;have:=a.hL;omega
 refine⟨a.hB,a.hL,m,?_,by rw[d];exact a.ql,fun i x q p o=>(a.qi i x q (by rw[<-d];exact p) o).below l Zr,n⟩;rw[d];exact zZ a.row fun k f=>j.block k (zo a.row k f).1 fun(e:k=b)=>a.cb (e▸f)
theorem eQ.dh(a:eQ L B b w vc vb s qs)(d:d1 (fun k=>k=b) w w'):w'.ownsRow L 3 1 vb s.bk.length (bkV s.bk):=zZ a.wn fun k c=>d.block k (zo a.wn k c).1 fun(e:k=b)=>a.bb (e▸c)
theorem e1.db(d:eQ L B b w vc vb s qs){a:eO}(c:d1 (fun k=>k=b) w w')(g:w'.heap[b]?=some (L5 vc vb a))(e:a.C=s.C)(f:a.bk=s.bk):e1 L B b w vc vb w' vc vb a qs:=
 ⟨d.db c g e (by rw[f];exact d.dh c),c.mono fun k _ i=>.inl i,eA.refl _ _,eA.refl _ _⟩
theorem e1.scopes(a:eQ L B b w vc vb s qs)(n:Nat){i:Int}(c:i=(n:Int)):e1 L B b w vc vb (w.setCell (b,1) (i:Int)) vc vb { s with sc:=n } qs:=by
 subst c;exact e1.db a (d1.set (X:=fun k=>k=b) w rfl 1 _) (D0 a.box _) rfl rfl
theorem e1.cast{d c:C4}{a:eO}(f:e1 L B b w d c w' vc vb s qs)(e:s=a):e1 L B b w d c w' vc vb a qs:=e▸f
end
theorem eN.ptr{a:Option Addr}(f:eN B w (.slice a n c) l){e:St}(b:l[i]?=some e):∃g o,a=some ⟨g,o,none⟩/\oD B w (.pointer (some ⟨g,o+i*6,none⟩)) e:=by
 obtain⟨_,_,m,_,hF⟩:=f;injection m with d _ _;subst d;obtain⟨g,o,j,k⟩:=hF Kj;exact⟨g,o,j,g,_,rfl,xG.at l g o i e k b⟩
theorem tZ(N:zbt L B b m):UT L B b m:=by
 intro l w v vc vb s qs r n y u;obtain⟨_,c,rfl,_⟩:=n.form;have H:=U r;have K:=U n;have I:=U y;have f:=U u;clear r n y u;go_enter func91,ntmps91;go_wp2_with fail
 go_loopw [7] (fun iv wr=>∃(j:Nat) (vc1 vb1:C4) (qs1:List Q4),j<=l.length/\iv=.int .i64 (j:Int)/\e1 L B b w vc vb wr vc1 vb1 (kZ s (qh (l.take j) s.C.length (dS s) s.lst 0) (xu (l.take j) s.C.length (dS s))) qs1) (fun iv _=>l.length-(intOf iv).toNat)
 case atStart=>exact⟨0,vc,vb,qs,Dw _,rfl,by rw[Yu,qh,xu,US];exact e1.start H.o⟩
 case round=>
  obtain⟨j,vc1,vb1,qs1,_,rfl,t⟩:=hrel;have a:=U t;clear t;by_cases R:j<l.length
  .obtain⟨x,i⟩:∃x,l[j]?=some x:=⟨_,Dz R⟩
   obtain⟨g,o,rfl,z⟩:=(K.o.below (a.o.below H.o) Zr).ptr i;have p:l.take (j+1)=l.take j++[x]:=by rw[Yr,i];rfl
   have k:(s.C++qh (l.take j) s.C.length (dS s) s.lst 0).length=s.C.length+d0 (l.take j) (dS s):=by rw[Dn,jt]
   have S:d0 (l.take j) (dS s)+xF x (dS s)<=d0 l (dS s):=by
    have M:d0 l (dS s)=d0 (l.take (j+1)++l.drop (j+1)) (dS s):=by rw[Ct]
    rw[oM,p,oM,d0,d0]at M;omega
   have P:=fC (l.take j) s.C.length (dS s)
   have D:fZ (kZ s (qh (l.take j) s.C.length (dS s) s.lst 0) (xu (l.take j) s.C.length (dS s))) (xF x (dS s)) m:=
    ⟨f.o.d,f.o.sc,by have:=f.o.len;show(s.C++_).length+_<=_;rw[k];omega,by have:=f.o.bk;show(s.bk++_).length+_<=_;rw[Dn];omega⟩
   have J:=U (N x wr _ _ _ _ _ a.o.wr z (rS I.o i) D)
   have G:=U (show kZ s (qh (l.take (j+1)) s.C.length (dS s) s.lst 0) (xu (l.take (j+1)) s.C.length (dS s))=kZ (kZ s (qh (l.take j) s.C.length (dS s) s.lst 0) (xu (l.take j) s.C.length (dS s))) (xL x (s.C++qh (l.take j) s.C.length (dS s) s.lst 0).length (dS s) s.lst 0) (wN x (s.C++qh (l.take j) s.C.length (dS s) s.lst 0).length (dS s))by
    rw[p,BF,qh,qh,D8,GT,xu,xu,D8,k]
    exact(PI _ _ _ _ _).symm)
   clear z i p k S P D
   go_wp2_with (first
    | (go_at_call 112;(refine J.o.mono ?_);rintro e w2 E
       obtain⟨vc2,vb2,qs2,rfl,q⟩:=E.cum;have F:=U (a.o.next q)
       clear E q))
   go_roundw
   case rel=>exact⟨j+1,vc2,vb2,qs2,O,by go_num,by rw[G.o];exact F.o⟩
   case measure=>simp[intOf];omega
  exact Qj
theorem UU(z:UT L B b m)(l:List St)(j:xZ l=false)(w:C3)(v vc vb:C4)(s:eO)(qs:List Q4)(a:eQ L B b w vc vb s qs)(n:eN B w v l)(k:d3 l m=true)(i:fZ s (d0 l (dS s)) m):
 Cy 154 #[(b,0),v] w (uF L B b w vc vb (kZ s (qh l s.C.length (dS s) s.lst 0) (xu l s.C.length (dS s))) (.tuple #[])):=by
 have g:B<=w.heap.size:=Kk
 have H:=U a;have d:=U n;have x:=U k;have t:=U i;have u:=U j;clear a n k i j;go_enter func154,ntmps154
 go_upto_region 1 with(first
  | (go_at_call 164;(refine(GX g d.o).mono ?_);rintro e w1 ⟨rfl,c⟩
     rw[u.o];have q:=U (e1.mono H.o c);have y:=U (z l w1 _ _ _ _ _ (H.o.keepB c) (d.o.below (c.mono g) Zr) x.o t.o)
     clear c))
 go_wp2_with (first
  | (go_at_call 91;(refine y.o.mono ?_);rintro e w2 p
     obtain⟨vc2,vb2,qs2,rfl,f⟩:=p.cum;have r:=U (q.o.next f)
     clear p f))
 go_end0
 exact r.o.post _
theorem PK(ah:UT L B b m)(l:List St)(P:xZ l=true)(w:C3)(v vc vb:C4)(s:eO)(qs:List Q4)(g:eQ L B b w vc vb s qs)(S:eN B w v l)(Q:d3 l m=true)(a:fZ s (d0 l (dS s+1)+2) (m+1)):
 Cy 154 #[(b,0),v] w (uF L B b w vc vb (kZ s (.ent::(qh l (s.C.length+1) (dS s+1) s.lst 0++[.lve])) (xu l (s.C.length+1) (dS s+1))) (.tuple #[])):=by
 have ag:B<=w.heap.size:=by have:=g.hB;have:=g.hL;have:=g.lt;omega
 have aj:s.C.length<=2000000000:=by have:=a.len;omega
 have f:(s.C++[d5.ent]).length=s.C.length+1:=by rw[Dn,D2]
 have c:s.sc+1-s.lsc=dS s+1:=by have:=a.d;show s.sc+1-s.lsc=s.sc-s.lsc+1;omega
 have R:fZ { s with C:=s.C++[d5.ent],sc:=s.sc+1 } (d0 l (dS { s with C:=s.C++[d5.ent],sc:=s.sc+1 })) m:=
  ⟨by have:=a.d;show s.lsc<=s.sc+1;omega,by have:=a.sc;show s.sc+1+m<=1000;omega,by show(s.C++[d5.ent]).length+d0 l (s.sc+1-s.lsc)<=_;rw[f,c];have:=a.len;omega,by show s.bk.length+d0 l (s.sc+1-s.lsc)<=_;rw[c];have:=a.bk;omega⟩
 have al:s.sc<=1000:=by have:=a.sc;omega
 have N:((s.C++[d5.ent])++qh l (s.C++[d5.ent]).length (dS { s with C:=s.C++[d5.ent],sc:=s.sc+1 }) s.lst 0).length<=2000000000:=by
  rw[Dn,jt,f];show _+d0 l (s.sc+1-s.lsc)<=_;rw[c];have:=a.len;omega
 have H:=U g;have I:=U S;have ad:=U Q;have af:=U R;have ab:=U P;have Z:=U (Do f c);have aa:=U N;clear g S Q a P R f c N;go_enter func154,ntmps154
 go_upto_region 2 with(first
  | (go_at_call 164;(refine(GX ag I.o).mono ?_);rintro e w1 ⟨rfl,M⟩
     rw[ab.o];have E:=U (e1.mono H.o M)
     clear M))
 go_upto_region 3 with(first
  | (go_at_call 138;(refine(qZ E.o.wr 7 0 none none (x:=.ent) ⟨rfl,rfl,rfl,rfl⟩ aj).mono ?_);rintro e w2 T
     obtain⟨vc2,vb2,qs2,rfl,j⟩:=T.cum;have p:=U (E.o.next j);obtain⟨⟨q,r,t,u,y⟩,z⟩:=zT j.wr.box;have A:=j.wr.lt
     clear T j))
 have D:IntKind.i64.wrap ((s.sc:Int)+1)=((s.sc+1 :Nat):Int):=Ux
 go_upto_region 4 with fail;have k:=e1.scopes p.o.wr (s.sc+1) (i:=(s.sc:Int)+1) O;have X:=U (p.o.next k);have ae:=U (ah l _ _ _ _ _ _ k.wr (I.o.below ((p.o.next k).below H.o) Zr) ad.o af.o);clear k q r t u y z D A;generalize w2.setCell (b,1) (((s.sc:Int)+1):Int)=W2 at *
 go_upto_region 5 with(first
  | (go_at_call 91;(refine ae.o.mono ?_);rintro e ak V
     obtain⟨_,_,_,rfl,n⟩:=V.cum;have F:=U (X.o.next n);obtain⟨⟨q,r,t,u,y⟩,z⟩:=zT n.wr.box;have A:=n.wr.lt
     clear V n))
 have D:IntKind.i64.wrap (((s.sc+1 :Nat):Int)-1)=(s.sc:Int):=Ux
 go_upto_region 6 with fail;have J:=e1.scopes F.o.wr s.sc (i:=(s.sc:Int)) rfl;have G:=U (F.o.next J);clear J q r t u y z D A;generalize ak.setCell (b,1) ((s.sc:Int):Int)=W3 at *
 go_wp2_with (first
  | (go_at_call 138;(refine(qZ G.o.wr 8 0 none none (x:=.lve) ⟨rfl,rfl,rfl,rfl⟩ aa.o).mono ?_);rintro e _ W
     obtain⟨_,_,_,rfl,K⟩:=W.cum;have Y:=U (G.o.next K)
     clear W K))
 go_end0
 have ai:=Y.o;obtain⟨f,c⟩:=Z.o;refine(ai.cast ?_).post _;rw[f,show dS { s with C:=s.C++[d5.ent],sc:=s.sc+1 }=dS s+1 from c];simp
theorem PL(e:UT L B b m):PJ L B b m:=by
 intro l w v vc vb s qs c g f a;cases hno:xZ l with
 |false=>
   rw[show xB l s.C.length (dS s) s.lst 0=qh l s.C.length (dS s) s.lst 0 by unfold xB gB;rw[Dl Gq],show wO l s.C.length (dS s)=xu l s.C.length (dS s)by unfold wO bB;rw[Dl Gq]];rw[show qV l (dS s)=d0 l (dS s)by unfold qV lB;rw[Dl Gq]]at a;exact UU e l hno w v vc vb s qs c g f ⟨a.d,by have:=a.sc;omega,a.len,a.bk⟩
 |true=>
   rw[show xB l s.C.length (dS s) s.lst 0=.ent::(qh l (s.C.length+1) (dS s+1) s.lst 0++[.lve])by unfold xB gB;rw[Dm hno],show wO l s.C.length (dS s)=xu l (s.C.length+1) (dS s+1)by unfold wO bB;rw[Dm hno]];rw[show qV l (dS s)=d0 l (dS s+1)+2 by unfold qV lB;rw[Dm hno]]at a;exact PK e l hno w v vc vb s qs c g f a
theorem t1(w:C3)(vc vb:C4)(s:eO)(qs:List Q4)(a:eQ L B b w vc vb s qs)(_:s.lsc<=s.sc)(t:s.sc<=1000)(g:s.C.length+dS s<=1000000000):
 Cy 141 #[(b,0)] w (uF L B b w vc vb { s with C:=s.C++List.replicate (dS s) .lve } (.tuple #[])):=by
 obtain⟨⟨_,_,_,_,_⟩,_⟩:=zT a.box;have r:=a.lt;have H:=U a;have m:=U g
 have v:IntKind.i64.wrap ((s.sc:Int)-(s.lsc:Int))=((dS s:Nat):Int):=by
  have p:dS s=s.sc-s.lsc:=rfl;rw[IntWalk.i64_in]<;>omega
 have p:dS s=s.sc-s.lsc:=rfl;clear a g;go_enter func141,ntmps141;go_wp2_with fail
 go_region
 go_wp2_with fail
 go_loopw [12] (fun iv wr=>∃(j:Nat) (vc1 vb1:C4) (qs1:List Q4),j<=dS s/\iv=.int .i64 (j:Int)/\e1 L B b w.drew vc vb wr vc1 vb1 { s with C:=s.C++List.replicate j .lve } qs1) (fun iv _=>dS s-(intOf iv).toNat)
 case atStart=>exact⟨0,vc,vb,qs,Dw _,rfl,by have:=e1.start (H.o.keepB Zb.drew);simpa using this⟩
 case round=>
  obtain⟨j,vc1,vb1,qs1,_,rfl,f⟩:=hrel;have c:=U f;clear f;have u:dS s<=1000:=Dr (Nat.sub_le _ _) t;by_cases r:j<dS s
  .have i:(s.C++List.replicate j d5.lve).length<=2000000000:=by rw[Dn,Cm];have:=m.o;omega
   have n:=U i;clear i
   go_wp2_with (first
    | (go_at_call 138;(refine(qZ c.o.wr 8 0 none none (x:=.lve) ⟨rfl,rfl,rfl,rfl⟩ n.o).mono ?_);rintro e w2 k
       obtain⟨vc2,vb2,qs2,rfl,d⟩:=k.cum;have l:=U (c.o.next d)
       clear k d))
   go_roundw
   case rel=>exact⟨j+1,vc2,vb2,qs2,O,by go_num,by have:=l.o;rw[show s.C++List.replicate (j+1) d5.lve=s.C++List.replicate j d5.lve++[d5.lve]by rw[List.replicate_succ',D7]];exact this⟩
   case measure=>simp[intOf];omega
  .have q:j=dS s:=by omega
   subst q;go_wp2_with fail
   go_end0
   exact((e1.mono H.o Zb.drew).next c.o).post _
theorem t2(l:List St)(d:Nat):qV l d=lB l (d0 l) d:=rfl
theorem oN{C a D:List d5}{x:d5}(b:a=C++[x]++D)(c:i=C.length):jq n a [i]=C++[mY n x]++D:=by
 subst b c;exact GV C D x n
theorem t3{C a D:List d5}{x:d5}(b:a=C++[x]++D)(c:i=C.length)(d:PC x=true):L4 a [i]:=by
 subst b c;exact L6 C D x d
theorem GY(am:PJ L B b m)(k bf:Int)(td:C2)(tc:List Ex)(tg th:List St)(w:C3)(v vc vb:C4)(s:eO)(qs:List Q4)(I:eQ L B b w vc vb s qs)(ar:oD B w v (.mk k bf td tc tg th))(aA:zr tc 100=true)(az:d3 tg m=true)(an:d3 th m=true)(z:fZ s (zG tc+2+qV tg (dS s)+qV th (dS s)) (m+1)):
 Cy 139 #[(b,0),v] w (uF L B b w vc vb (kZ s
  (qP tc s.C.length++.unl (s.C.length+zG tc+2+qV tg (dS s))::(xB tg (s.C.length+zG tc+1) (dS s) s.lst 0++.jmp (s.C.length+zG tc+2+qV tg (dS s)+qV th (dS s))::xB th (s.C.length+zG tc+2+qV tg (dS s)) (dS s) s.lst 0))
  (wO tg (s.C.length+zG tc+1) (dS s)++wO th (s.C.length+zG tc+2+qV tg (dS s)) (dS s))) (.tuple #[])):=by
 obtain⟨g,o,rfl,ap,_,_,_,⟨_,f3,aw⟩,⟨bg,X,ax⟩,bh,Y,ay⟩:=ar.cells;have bl:B<=w.heap.size:=by have:=I.hB;have:=I.hL;have:=I.lt;omega
 have aq:g<w.heap.size:=O
 obtain⟨s1,c⟩:∃x:eO,x={ s with C:=s.C++qP tc s.C.length }:=⟨_,rfl⟩
 obtain⟨s2,f⟩:∃x:eO,x={ s1 with C:=s1.C++[d5.unl 0] }:=⟨_,rfl⟩
 obtain⟨j,l⟩:∃x:eO,x=kZ s2 (xB tg s2.C.length (dS s2) s2.lst 0) (wO tg s2.C.length (dS s2)):=⟨_,rfl⟩
 obtain⟨i,n⟩:∃x:eO,x={ j with C:=j.C++[d5.jmp 0] }:=⟨_,rfl⟩
 obtain⟨a,q⟩:∃x:eO,x={ i with C:=jq i.C.length i.C [s1.C.length] }:=⟨_,rfl⟩
 obtain⟨A,G⟩:∃x:eO,x=kZ a (xB th a.C.length (dS a) a.lst 0) (wO th a.C.length (dS a)):=⟨_,rfl⟩
 obtain⟨R,N⟩:∃x:eO,x={ A with C:=jq A.C.length A.C [j.C.length] }:=⟨_,rfl⟩
 have y:dS s2=dS s:=by rw[f,c]
 have F:dS a=dS s:=by rw[q,n,l,f,c]
 have ae:s1.C.length=s.C.length+zG tc:=by rw[c];show(s.C++_).length=_;rw[Dn,jI]
 have P:s2.C.length=s.C.length+zG tc+1:=by rw[f];show(s1.C++_).length=_;rw[Dn,ae];rfl
 have af:j.C.length=s.C.length+zG tc+1+qV tg (dS s):=by rw[l];show(s2.C++_).length=_;rw[Dn,P,mM,y]
 have ag:i.C.length=s.C.length+zG tc+2+qV tg (dS s):=by rw[n];show(j.C++[_]).length=_;rw[Dn,af,D2];omega
 have Q:a.C.length=s.C.length+zG tc+2+qV tg (dS s):=by rw[q];show(jq _ i.C _).length=_;rw[fA,ag]
 have aH:A.C.length=s.C.length+zG tc+2+qV tg (dS s)+qV th (dS s):=by rw[G];show(a.C++_).length=_;rw[Dn,Q,mM,F]
 have a2:(wO tg s2.C.length (dS s2)).length<=qV tg (dS s):=by rw[y];exact DF (fun b d=>fC tg b d) _ _
 have bb:=z.len;have a5:=z.bk;have au:fZ s2 (qV tg (dS s2)) (m+1):=⟨by rw[f,c];exact z.d,by rw[f,c];exact z.sc,by rw[P,y];omega,by rw[y,f,c];show s.bk.length+_<=_;omega⟩
 have av:fZ a (qV th (dS a)) (m+1):=⟨by rw[q,n,l,f,c];exact z.d,by rw[q,n,l,f,c];exact z.sc,by rw[Q,F];omega,by
  have a4:a.bk=s.bk++wO tg s2.C.length (dS s2):=by
   rw[q,n,l];show s2.bk++_=_;rw[show s2.bk=s.bk by rw[f,c]]
  rw[a4,F,Dn]
  omega⟩
 have r:i.C=s1.C++[d5.unl 0]++(xB tg s2.C.length (dS s2) s2.lst 0++[d5.jmp 0]):=by
  rw[n];show j.C++[d5.jmp 0]=_;rw[l];show s2.C++_++[d5.jmp 0]=_;rw[<-D7,show s2.C=s1.C++[d5.unl 0]by rw[f]]
 have t:a.C=s1.C++[d5.unl i.C.length]++(xB tg s2.C.length (dS s2) s2.lst 0++[d5.jmp 0]):=by
  rw[q];exact oN r rfl
 have J:a.C=s1.C++[d5.unl i.C.length]++xB tg s2.C.length (dS s2) s2.lst 0++[d5.jmp 0]:=by rw[t,D7,D7,D7]
 have u:A.C=(s1.C++[d5.unl i.C.length]++xB tg s2.C.length (dS s2) s2.lst 0)++[d5.jmp 0]++xB th a.C.length (dS a) a.lst 0:=by
  rw[G];show a.C++_=_;rw[J]
 have ab:j.C.length=(s1.C++[d5.unl i.C.length]++xB tg s2.C.length (dS s2) s2.lst 0).length:=by rw[af,Dn,Dn,ae,D2,mM,y]
 have E:R.C=(s1.C++[d5.unl i.C.length]++xB tg s2.C.length (dS s2) s2.lst 0)++[d5.jmp A.C.length]++xB th a.C.length (dS a) a.lst 0:=by
  rw[N];exact oN u ab
 have aU:=U (t3 r rfl rfl);have aV:=U (t3 u ab rfl)
 have ao:R=kZ s (qP tc s.C.length++.unl (s.C.length+zG tc+2+qV tg (dS s))::(xB tg (s.C.length+zG tc+1) (dS s) s.lst 0++.jmp (s.C.length+zG tc+2+qV tg (dS s)+qV th (dS s))::xB th (s.C.length+zG tc+2+qV tg (dS s)) (dS s) s.lst 0))
  (wO tg (s.C.length+zG tc+1) (dS s)++wO th (s.C.length+zG tc+2+qV tg (dS s)) (dS s)):=by
  have a3:R={ s with C:=R.C,bk:=s.bk++wO tg s2.C.length (dS s2)++wO th a.C.length (dS a) }:=by
   rw[N,G,q,n,l,f,c]
  have bd:s2.lst=s.lst:=by rw[f,c]
  have be:a.lst=s.lst:=by rw[q,n,l,f,c]
  rw[a3,E,bd,be,y,F,P,Q,ag,aH,show s1.C=s.C++qP tc s.C.length by rw[c]];simp[kZ]
 have aT:=U ao;have a6:s.C.length+zG tc<=1000000000:=O
 have a7:s1.C.length<=2000000000:=O
 have a8:j.C.length<=2000000000:=O
 have a9:i.C.length<=2000000000:=O
 have ba:A.C.length<=2000000000:=O
 have a0:=U au;have a1:=U av;have T:=U (Do aw (Do ax ay));have S:=U (Do aA (Do az an));have H:=U I;have al:=U (Do X Y);clear ar aw ax ay aA az an z y F ae P af ag Q aH a2 bb a5 au av r t J u ab E ao I X Y;have aJ:=U c;have aK:=U f;have aL:=U l;have aM:=U n;have aN:=U q;have aO:=U G;have aP:=U N;clear c f l n q G N;go_enter func139,ntmps139
 go_upto_region 1 with(first
  | (go_at_call 142;(refine(fY (iP L B b 100) H.o T.o.1 S.o.1 a6).mono ?_);rintro e w1 aB
     obtain⟨vc1,vb1,qs1,rfl,V⟩:=aB.cum;rw[<-aJ.o]at V;have K:=U V
     clear aB V))
 go_upto_region 2 with(first
  | (go_at_call 138;(refine(qZ K.o.wr 4 0 none none (x:=.unl 0) ⟨rfl,rfl,rfl,rfl⟩ a7).mono ?_);rintro e w2 aC
     obtain⟨vc2,vb2,qs2,rfl,D⟩:=aC.cum;rw[<-aK.o]at D;have aQ:=U (K.o.next D);have Z:=(K.o.next D).below H.o;have X:=(Z.cell (p:=(g,o+4)) ap).trans al.o.1;have bm:g<w2.heap.size:=D6 aq (K.o.next D).off.size;have aW:=U (am tg w2 bg vc2 vb2 s2 qs2 D.wr (T.o.2.1.below Z Zr) S.o.2.1 a0.o)
     clear aC D Z))
 go_upto_region 3 with(first
  | (go_at_call 154;(refine aW.o.mono ?_);rintro e _ aD
     obtain⟨_,_,_,rfl,W⟩:=aD.cum;rw[<-aL.o]at W;have aj:=U (aQ.o.next W)
     clear aD W))
 go_upto_region 4 with(first
  | (go_at_call 138;(refine(qZ aj.o.wr 3 0 none none (x:=.jmp 0) ⟨rfl,rfl,rfl,rfl⟩ a8).mono ?_);rintro e ah aE
     obtain⟨bi,_,_,rfl,r⟩:=aE.cum;rw[<-aM.o]at r;have M:=U ((aj.o.next r).next (e1.mono r.wr ((D1 ah.heap.size ah).alloc Zr (.cells #[((s1.C.length:Int):Int)] 3))));have aY:=U (iO ah s1.C.length bi fun k ad=>(r.wr.tl (.inr (.inl ad))).2)
     clear aE r))
 go_upto_region 5 with(first
  | (go_at_call 155;(refine(fB (ps:=[s1.C.length]) M.o.wr aY.o aU.o a9 Ur).mono ?_);rintro e aI J
     obtain⟨bc,rfl,t⟩:=e1.land J;rw[<-aN.o]at t;have aR:=U (M.o.next t);have aa:=(M.o.next t).below H.o;have Y:=(aa.cell (p:=(g,o+5)) ap).trans al.o.2;have bn:g<aI.heap.size:=D6 aq (M.o.next t).off.size;have aX:=U (am th aI bh _ _ a bc t.wr (T.o.2.2.below aa Zr) S.o.2.2 a1.o)
     clear J t aa))
 go_upto_region 6 with(first
  | (go_at_call 154;(refine aX.o.mono ?_);rintro e ai aF
     obtain⟨bj,_,_,rfl,u⟩:=aF.cum;rw[<-aO.o]at u;have ak:=U ((aR.o.next u).next (e1.mono u.wr ((D1 ai.heap.size ai).alloc Zr (.cells #[((j.C.length:Int):Int)] 3))));have aZ:=U (iO ai j.C.length bj fun k ad=>(u.wr.tl (.inr (.inl ad))).2)
     clear aF u))
 go_wp2_with (first
  | (go_at_call 155;(refine(fB (ps:=[j.C.length]) ak.o.wr aZ.o aV.o ba Ur).mono ?_);rintro e _ aG
     obtain⟨_,rfl,E⟩:=e1.land aG;rw[<-aP.o]at E;have aS:=U (ak.o.next E)
     clear aG E))
 go_end0
 exact(aS.o.cast aT.o).post _
