import Derived.Test.YthcmenajdcbnnaaGreatDoorAlEvLn
set_option linter.unusedSimpArgs false
set_option linter.unusedVariables false
set_option maxRecDepth 100000
set_option maxHeartbeats 99000000
namespace Go.Proofs.YthcmenajdcbnnaaGreatDoor
open Go.RowKit Tryz
theorem Qm{p:Prop}(h:p:=by
 .have Q:j=l.length:=by omega
  subst Q;go_wp2_with fail
  go_end0
  have:=a.o;rw[Ck]at this
  exact this.post _):p:=h
variable{n i b c L B m:Nat}{l:List St}{vc vb v:C5}{w:C4}
def OR:fP->Bool
 |.jmp _=>true
 |.unl _=>true
 |.lzy _ _=>true
 |_=>false
def nD(n:Nat):fP->fP
 |.jmp _=>.jmp n
 |.unl _=>.unl n
 |.lzy z _=>.lzy z n
 |x=>x
def yF(n:Nat)(C:List fP)(i:Nat):List fP:=match C[i]? with
 |some x=>C.set i (nD n x)
 |none=>C
def jl(n:Nat)(C:List fP)(ps:List Nat):List fP:=ps.foldl (yF n) C
theorem o0(n:Nat)(C:List fP)(i:Nat):(yF n C i).length=C.length:=by
 unfold yF;split
 .rw[Yw]
 .rfl
theorem uk(n:Nat):∀(ps:List Nat) (C:List fP),(jl n C ps).length=C.length
 |[],_=>rfl
 | i::r,C=>by
   show(jl n (yF n C i) r).length=_;rw[uk n r,o0]
theorem JO(n:Nat)(C:List fP)(ps:List Nat)(i:Nat):jl n C (ps++[i])=yF n (jl n C ps) i:=by unfold jl;rw[List.foldl_append];rfl
theorem OS(n:Nat)(C:List fP)(ps qs:List Nat):jl n C (ps++qs)=jl n (jl n C ps) qs:=by unfold jl;rw[List.foldl_append]
theorem zau(n:Nat)(x:fP):OR (nD n x)=OR x:=Vc
def LN(C:List fP)(ps:List Nat):Prop:=∀i∈ps,∃x,C[i]?=some x/\OR x=true
theorem OT{C:List fP}{j:Nat}{x:fP}(a:C[j]?=some x)(b:OR x=true):∃e,(yF n C i)[j]?=some e/\OR e=true:=by
 unfold yF;split
 .rename_i z d
  rw[Ch];by_cases c:i=j
  .subst c
   rw[d]at a;injection a with a;subst a;rw[Dq rfl,Dq (List.getElem?_eq_some_iff.1 d).1];exact⟨_,rfl,(zau n z).trans b⟩
  .rw[Dp c]
   exact⟨x,a,b⟩
 .exact⟨x,a,b⟩
theorem BP{n:Nat}:∀{ps:List Nat}{C:List fP}{j:Nat}{x:fP},C[j]?=some x->OR x=true->∃a,(jl n C ps)[j]?=some a/\OR a=true
 |[],C,j,x,h,hx=>⟨x,h,hx⟩
 | i::r,C,j,x,h,hx=>by
   obtain⟨a,b,c⟩:=OT (n:=n) (i:=i) h hx;exact BP (ps:=r) b c
theorem BQ(n:Nat)(a C b:List fP)(c:i<C.length):yF n (a++C++b) (a.length+i)=a++yF n C i++b:=by
 unfold yF
 have d:(a++C++b)[a.length+i]?=C[i]?:=by
  rw[Ya,Yi O,show a.length+i-a.length=i by omega,Yo c]
 rw[d];cases hc:C[i]? with
 |none=>rfl
 |some x=>
   dsimp only;rw[Ya,List.set_append_right _ _ O,show a.length+i-a.length=i by omega,List.set_append_left _ _ c,Ya]
theorem o1:∀(a c:List Ex),zH (a++c)=zH a+zH c
 |[],c=>by simp[zH]
 |x::r,c=>by rw[Yv,zH,zH,o1 r c,Co]
theorem BR:∀(a c:List Ex) (b:Nat),qN (a++c) b=qN a b++qN c (b+zH a)
 |[],c,b=>by simp[qN,zH]
 |x::r,c,b=>by rw[Yv,qN,qN,zH,BR r c,Ya,Co]
theorem o2(d:Nat):∀(a c:List St),fJ (a++c) d=fJ a d+fJ c d
 |[],c=>by simp[fJ]
 |x::r,c=>by rw[Yv,fJ,fJ,o2 d r c,Co]
theorem BS(d st e:Nat):∀(a c:List St) (b:Nat),qg (a++c) b d st e=qg a b d st e++qg c (b+fJ a d) d st e
 |[],c,b=>by simp[qg,fJ]
 |x::r,c,b=>by rw[Yv,qg,qg,fJ,BS d st e r c,Ya,Co]
def bB(l:List St)(f:Nat->Nat->List Nat)(b d:Nat):List Nat:=if yb l then f (b+1) (d+1)else f b d
mutual
def wT:St->Nat->Nat->List Nat
 |.mk k _ _ tc tg th,b,d=>
   if k=4 then bB tg (fun b d=>xn tg b d) (b+zH tc+2) d++bB th (fun b d=>xn th b d) (b+zH tc+3+lB tg (fJ tg) d) d
   else if k=6 then[b+1+d]
   else[]
def xn:List St->Nat->Nat->List Nat
 |[],_,_=>[]
 |t::r,b,d=>wT t b d++xn r (b+xc t d) d
end
def wU(l:List St)(b d:Nat):List Nat:=bB l (fun b d=>xn l b d) b d
def Pt(n:Nat)(g d:List fP)(b:Nat)(ps:List Nat):Prop:=d.length=g.length/\∀a c:List fP,a.length=b->jl n (a++g++c) ps=a++d++c/\∀i∈ps,∃x,(a++g++c)[i]?=some x/\OR x=true
theorem Pt.nil(n:Nat)(g:List fP)(b:Nat):Pt n g g b []:=⟨rfl,fun _ _ _=>⟨rfl,fun i a=>Uo⟩⟩
theorem Pt.app{g f e m:List fP}{ps qs:List Nat}(x:Pt n g f b ps)(l:Pt n e m c qs)(o:c=b+g.length):Pt n (g++e) (f++m) b (ps++qs):=by
 refine⟨by rw[Dr,Dr,x.1,l.1],fun a d k=>?_⟩;obtain⟨p,q⟩:=x.2 a (e++d) k;obtain⟨r,_⟩:=l.2 (a++f) d (by rw[Dr,k,x.1,o]);obtain⟨_,s⟩:=l.2 (a++g) d (by rw[Dr,k,o]);rw[OS,show a++(g++e)++d=a++g++(e++d)by simp,p];refine⟨?_,fun i j=>?_⟩
 .rw[show a++f++(e++d)=a++f++e++d by simp,r]
  simp
 .rcases List.mem_append.1 j with j|j
  .exact q i j
  .have:=s i j
   rwa [show a++g++(e++d)=a++g++e++d by simp]
theorem Pt.left{g d:List fP}{ps:List Nat}(x:Pt n g d c ps)(a:List fP)(e:c=b+a.length):Pt n (a++g) (a++d) b ps:=by
 have:=(Pt.nil n a b).app x e;rwa [Cn]at this
theorem Pt.cons{g c:List fP}{ps:List Nat}(x:Pt n g c (b+1) ps)(a:fP):Pt n (a::g) (a::c) b ps:=x.left [a] rfl
theorem Pt.right{g c:List fP}{ps:List Nat}(x:Pt n g c b ps)(a:List fP):Pt n (g++a) (c++a) b ps:=by
 have:=x.app (Pt.nil n a (b+g.length)) rfl;rwa [Yd]at this
theorem Pt.one(n:Nat)(x:fP)(g:OR x=true)(b:Nat):Pt n [x] [nD n x] b [b]:=by
 refine⟨rfl,fun a c d=>?_⟩
 have e:(a++[x]++c)[b]?=some x:=by
  rw[Ya,Yi O,<-d,Yy];rfl
 refine⟨?_,fun i f=>?_⟩
 .have:=BQ n a [x] c (i:=0) Uh
  rw[Nat.add_zero,d]at this;show yF n (a++[x]++c) b=_;rw[this];rfl
 .rw[List.mem_singleton.1 f]
  exact⟨x,e,g⟩
theorem Pt.cast{g a:List fP}{ps:List Nat}(x:Pt n g a b ps)(e:b=c):Pt n g a c ps:=e▸x
theorem TW{f a:Nat->Nat->List fP}{ps:Nat->Nat->List Nat}(c:∀b d,Pt n (f b d) (a b d) b (ps b d))(b d:Nat):Pt n (gB l f b d) (gB l a b d) b (bB l ps b d):=by
 unfold gB bB;split
 .exact((c (b+1) (d+1)).right [.lve]).cons .ent
 .exact c b d
mutual
theorem YB(n:Nat):∀(t:St) (b d st:Nat),Pt n (xF t b d st 0) (xF t b d st n) b (wT t b d)
 | .mk k ty td tc tg th,b,d,st=>by
   rw[xF,xF,wT];by_cases a:k=4
   .rw[Dq a,Dq a,Dq a]
    have g:=TW (l:=tg) (fun b d=>nE n tg b d st) (b+zH tc+2) d;have i:=TW (l:=th) (fun b d=>nE n th b d st) (b+zH tc+3+lB tg (fJ tg) d) d;have j:(gB tg (fun b d=>qg tg b d st 0) (b+zH tc+2) d).length=lB tg (fJ tg) d:=lR (fun b d=>jo tg b d st 0) _ _;exact Pt.cons (Pt.left (Pt.cons (g.app (Pt.cons (i.cast O) _) (c:=b+zH tc+2+lB tg (fJ tg) d) (by rw[j])) _) _ (by rw[jG];omega)) _
   rw[Dp a,Dp a,Dp a];by_cases f:k=5
   .rw[Dq f,Dq f,Dp O]
    exact Pt.nil _ _ _
   rw[Dp f,Dp f];by_cases e:k=6
   .rw[Dq e,Dq e,Dq e]
    exact Pt.cons ((Pt.one n (.jmp 0) rfl (b+1+d)).left (List.replicate d .lve) (by rw[Cg])) _
   rw[Dp e,Dp e,Dp e];exact Pt.nil _ _ _
theorem nE(n:Nat):∀(l:List St) (b d st:Nat),Pt n (qg l b d st 0) (qg l b d st n) b (xn l b d)
 |[],_,_,_=>Pt.nil _ _ _
 | t::r,b,d,st=>by
   rw[qg,qg,xn];exact(YB n t b d st).app (nE n r (b+xc t d) d st) (by rw[tE])
end
theorem GY(d:Nat):∀(a c:List St) (b:Nat),xn (a++c) b d=xn a b d++xn c (b+fJ a d) d
 |[],c,b=>by simp[xn,fJ]
 |x::r,c,b=>by rw[Yv,xn,xn,fJ,GY d r c,Ya,Co]
end Go.Proofs.YthcmenajdcbnnaaGreatDoor
namespace Go.Proofs.YthcmenajdcbnnaaGreatDoor
open Go.RowKit Tryz Go.Maps
variable{n i b c L B m:Nat}{l:List St}{vc vb v:C5}{w:C4}
structure f7 where
 C:List fP
 sc:Nat
 lst:Nat
 lsc:Nat
 bk:List Nat
abbrev Q4:=C5×C5×C5×C5
def q4(q:Q4):List C5:=[q.1,q.2.1,q.2.2.1,q.2.2.2]
abbrev LO(vc vb:C5)(s:f7):Obj:=.cells #[vc,((s.sc:Int):Int),((s.lst:Int):Int),((s.lsc:Int):Int),vb] 160
abbrev ZY(l:List Nat):List C5:=l.map fun(n:Nat)=>Value.int .i64 (n:Int)
structure gC (L B b:Nat) (w:C4) (vc vb:C5) (s:f7) (qs:List Q4):Prop where
 hB:B<=L
 hL:L<=b
 box:w.heap[b]?=some (LO vc vb s)
 row:w.ownsRow L 172 4 vc s.C.length (qs.flatMap q4)
 ql:qs.length=s.C.length
 qi:∀(i:Nat) (x:fP) (q:Q4),s.C[i]?=some x->qs[i]?=some q->oU B w x q.1 q.2.1 q.2.2.1 q.2.2.2
 brow:w.ownsRow L 3 1 vb s.bk.length (ZY s.bk)
def WT(b:Nat)(vc vb:C5)(k:Nat):Prop:=k=b\/vc.ownBlock=some k\/vb.ownBlock=some k
theorem WT.old{e d:C5}(f:fM L vc e)(g:fM L vb d){k:Nat}(c:k<L)(a:WT b e d k):WT b vc vb k:=by
 rcases a with a|a|a
 .exact .inl a
 .exact .inr (.inl (f.old c a))
 .exact .inr (.inr (g.old c a))
section
variable {L B b:Nat} {w w':C4}{vc vb:C5}{s:f7}{qs:List Q4}
theorem gC.lt(h:gC L B b w vc vb s qs):b<w.heap.size:=zB h.box
theorem gC.tl(c:gC L B b w vc vb s qs){k:Nat}(a:WT b vc vb k):L<=k/\k<w.heap.size:=by
 rcases a with rfl|a|a
 .exact⟨c.hL,c.lt⟩
 .exact⟨(zT c.row k a).2,(zT c.row k a).1⟩
 .exact⟨(zT c.brow k a).2,(zT c.brow k a).1⟩
theorem gC.below(a:gC L B b w vc vb s qs)(c:fF (WT b vc vb) w w'):Below L w w':=c.below (by have:=a.hL;have:=a.lt;omega) fun k _ d=>by have:=(a.tl d).1;omega
theorem gC.cb(h:gC L B b w vc vb s qs):vc.ownBlock≠some b:=uJ h.row (show Is w b 160 #[vc,((s.sc:Int):Int),((s.lst:Int):Int),((s.lsc:Int):Int),vb]from h.box) Uf
theorem gC.bb(h:gC L B b w vc vb s qs):vb.ownBlock≠some b:=uJ h.brow (show Is w b 160 #[vc,((s.sc:Int):Int),((s.lst:Int):Int),((s.lsc:Int):Int),vb]from h.box) Uf
theorem gC.bc(a:gC L B b w vc vb s qs):∀k,vc.ownBlock=some k->vb.ownBlock≠some k:=fun k c=>C9 a.row a.brow Uf k c
theorem gC.we(a:gC L B b w vc vb s qs)(c:Cy w w'):gC L B b w' vc vb s qs:=
 ⟨a.hB,a.hL,(c.block b a.lt).trans a.box,qS a.row c Zr,a.ql,fun i x q e d=>(a.qi i x q e d).below (c.mono Kd) Zr,qS a.brow c Zr⟩
end
theorem ZZ:∀(l:List Q4) (i:Nat) (q:Q4),l[i]?=some q->∀j u,(q4 q)[j]?=some u->(l.flatMap q4)[i*4+j]?=some u
 |[],_,_,h,_,_,_=>Xb
 | y::r,0,x,h,j,u,hu=>by
   simp at h;subst h;rw[Y2,Nat.zero_mul,Yz,Yo (List.getElem?_eq_some_iff.1 hu).1];exact hu
 | y::r,i+1,x,h,j,u,hu=>by
   have:=ZZ r i x Xs j u hu;rw[Y2,Yi (by show 4<=_;omega),show(i+1)*4+j-(q4 y).length=i*4+j by show(i+1)*4+j-4=_;omega];exact this
theorem BT:∀(l:List Q4) (i:Nat) (q:Q4) (v:C5),l[i]?=some q->(l.flatMap q4).set (i*4+1) v=(l.set i (q.1,v,q.2.2.1,q.2.2.2)).flatMap q4
 |[],_,_,_,h=>Xb
 | y::r,0,x,v,h=>by
   simp at h;subst h;rfl
 | y::r,i+1,x,v,h=>by
   have a:=BT r i x v Xs;rw[Y2,List.set_cons_succ,Y2,<-a,List.set_append_right _ _ (by show 4<=_;omega)];show _++List.set _ ((i+1)*4+1-4) _=_;rw[show(i+1)*4+1-4=i*4+1 by omega]
theorem OU(l:List Q4):(l.flatMap q4).length=l.length*4:=by
 induction l with
 |nil=>rfl
 |cons x r a=>rw[Y2,Dr,a,D1];show 4+_=_;omega
def vY(L B b:Nat)(w:C4)(vc vb:C5)(s:f7)(v:C5)(e:Ending)(w':C4):Prop:=
 ∃c a qs,e=.returned v/\gC L B b w' c a s qs/\fF (WT b vc vb) w w'/\fM w.heap.size vc c/\fM w.heap.size vb a
theorem TX:(Tryz.prog.info? 172).map (fun i=>(i.zero,i.size,i.bytes))=some (some (.agg #[(0:Int),(0:Int),.pointer none,.pointer none]),4,32):=by kernel_rfl
theorem gC.emit{W w8:C4}{c:C5}{s:f7}{qs:List Q4}(a:gC L B b w vc vb s qs)(m:Cy w W)(o:W.grownBy w8 vc.ownBlock)(F:kn W vc c){q:Q4}(u:w8.ownsRow L 172 4 c (s.C.length+1) (qs.flatMap q4++q4 q)){x:fP}(l:oU B w x q.1 q.2.1 q.2.2.1 q.2.2.2):
 w8.heap[b]?=some (LO vc vb s)/\gC L B b (w8.setCell (b,0) c) c vb { s with C:=s.C++[x] } (qs++[q])/\fF (WT b vc vb) w (w8.setCell (b,0) c)/\fM w.heap.size vc c:=by
 have v:=m.size;have n:w8.heap[b]?=some (LO vc vb s):=((o.block b (Yb a.lt v) fun e=>a.cb e.symm).trans (m.block b a.lt)).trans a.box;have A:c.ownBlock≠some b:=uJ u (show Is w8 b 160 #[vc,((s.sc:Int):Int),((s.lst:Int):Int),((s.lsc:Int):Int),vb]from n) Uf
 have t:fF (WT b vc vb) w (w8.setCell (b,0) c):=
  ((fF.wb (WT b vc vb) m).trans (fF.grown (X:=WT b vc vb) o fun k f=>.inr (.inl f)) fun _ _ l=>l).trans (fF.set (X:=WT b vc vb) w8 (.inl rfl) 0 c) fun _ _ l=>l
 have r:=(a.below t).mono a.hB;refine⟨n,⟨a.hB,a.hL,D3 n _,?_,by simp[a.ql],fun i y p d g=>?_,?_⟩,t,fM.dj F v⟩
 .show(w8.setCell _ _).ownsRow L _ 4 c (s.C++[x]).length ((qs++[q]).flatMap q4)
  rw[Dr,List.flatMap_append];have e:[q].flatMap q4=q4 q:=Uh
  rw[e];exact zQ u fun k f=>Dw w8 _ _ k (fun e=>A (by have e:k=b:=e;rw[<-e];exact f))
 .have d:(s.C++[x])[i]?=some y:=d
  rcases Cf i s.C.length with j|j
  .rw[Yo j]at d
   rw[Yo (by rw[a.ql];exact j)]at g;exact(a.qi i y p d g).below r Zr
  .rw[Yi j]at d
   rw[Yi (by rw[a.ql];exact j),a.ql]at g
   have z:i-s.C.length=0:=by
    have:=(List.getElem?_eq_some_iff.1 d).1;simp at this;omega
   rw[z]at d g;simp at d g;subst d g;exact l.below r Zr
 .refine zQ a.brow fun k f=>?_
  have E:=(zT a.brow k f).1;have D:k≠b:=fun e=>a.bb (e▸f)
  exact(Dw w8 _ _ k D).trans ((o.block k O fun e=>a.bc k e.symm f).trans (m.block k E))
def zc2(L B b:Nat)(w:C4)(vc vb:C5)(s:f7)(v:C5)(e:Ending)(w':C4):Prop:=
 ∃a qs,e=.returned v/\gC L B b w' a vb s qs/\fF (WT b vc vb) w w'/\fM w.heap.size vc a
theorem GZ{s:f7}{qs:List Q4}(e:gC L B b w vc vb s qs)(k t:Int)(a d:Option Addr){x:fP}(D:oU B w x (.int .i64 k) (.int .i64 t) (.pointer a) (.pointer d))(_:s.C.length<=2000000000):
 Cz 138 #[(b,0),.agg #[(k:Int),(t:Int),.pointer a,.pointer d]] w (zc2 L B b w vc vb { s with C:=s.C++[x] } (.int .i64 (s.C.length:Int))):=by
 obtain⟨S,z,F,G,H⟩:=info_parts TX;obtain⟨u,c,l⟩:=zY e.row;have m:Cy w (w.alloc (.cells #[(k:Int),(t:Int),.pointer a,.pointer d] 172)):=Zb.alloc Zr _;have r:(w.alloc (.cells #[(k:Int),(t:Int),.pointer a,.pointer d] 172)).heap.size=w.heap.size+1:=zA _ _;have f:=Ds w (.cells #[(k:Int),(t:Int),.pointer a,.pointer d] 172);have i:=e.we m;have X:=e.lt;have E:=D.below (m.mono (show B<=w.heap.size by have:=e.hB;have:=e.hL;omega)) (D0 B);have N:=U m;clear m
 have R:((w.alloc (.cells #[(k:Int),(t:Int),.pointer a,.pointer d] 172)).cell? (w.heap.size,0)=some (.int .i64 k)/\(w.alloc (.cells #[(k:Int),(t:Int),.pointer a,.pointer d] 172)).cell? (w.heap.size,1)=some (.int .i64 t)/\(w.alloc (.cells #[(k:Int),(t:Int),.pointer a,.pointer d] 172)).cell? (w.heap.size,2)=some (.pointer a)/\(w.alloc (.cells #[(k:Int),(t:Int),.pointer a,.pointer d] 172)).cell? (w.heap.size,3)=some (.pointer d)):=
  ⟨(Du f 0).trans rfl,(Du f 1).trans rfl,(Du f 2).trans rfl,(Du f 3).trans rfl⟩
 go_enter func138,ntmps138;go_upto_region 1 with fail;generalize w.alloc (.cells #[(k:Int),(t:Int),.pointer a,.pointer d] 172)=W at *;obtain⟨⟨Q,_,_,_,_⟩,_⟩:=zS i.box;rw[l]at Q;have Y:b<W.heap.size:=O
 have Z:w.heap.size<W.heap.size:=O
 obtain⟨_,n1,n2,_⟩:=R;have ad:=Dv r;have ae:=Dv r.symm;clear r;have M:=C2 ((W.alloc (.cells #[(k:Int),(t:Int),.pointer a,.pointer d] 172)).ownsRow L 172 4 (.slice u s.C.length c) s.C.length (qs.flatMap q4)) (l▸qS i.row ((D4 W.heap.size W).alloc Zr _) Zr);have K:=U (jV W [.int .i64 k,.int .i64 t,.pointer a,.pointer d] 172);have g:=U (Dt z (Dt F (Dt G H)));have I:=U i;have v:=U l;have P:=U E;have T:L<=W.heap.size:=by have:=e.hL;omega
 have J:=C2 (Cy W (W.alloc (.cells #[(k:Int),(t:Int),.pointer a,.pointer d] 172)).drew) (((D4 W.heap.size W).alloc Zr _).drew);have ab:(W.alloc (.cells #[(k:Int),(t:Int),.pointer a,.pointer d] 172)).heap.size=W.heap.size+1:=zA _ _;clear e i z F G H l D E f
 go_region_law (first
  | (refine qY rfl (.tmp 9) (.tmp 11) _ rfl L 172 S _ 4 32 underlying118 g.o.1 g.o.2.1 g.o.2.2.1 g.o.2.2.2 rfl O (.slice u s.C.length c) s.C.length _ rfl (by exact qS M.o Zb.drew Zr) ⟨W.heap.size,0,none⟩ 1 1 [.int .i64 k,.int .i64 t,.pointer a,.pointer d] rfl rfl (by exact K.o) Um Ul O (by show L<=(W.alloc _).heap.size;omega) O ?_
     intro _ w8 p y A;obtain⟨_,_,rfl⟩:=zY p;have j:=I.o.emit (q:=(.int .i64 k,.int .i64 t,.pointer a,.pointer d)) J.o (by rw[v.o];exact y) (by rw[v.o];exact A) p P.o;obtain⟨⟨_,_,_,_,_⟩,_⟩:=zS j.1;have V:b<w8.heap.size:=zB j.1;have n:=U j.2
     clear p y A j))
 all_goals
  have aa:IntKind.i64.wrap (((s.C.length+1 :Nat):Int)-1)=(s.C.length:Int):=Un
  go_wp2_with fail;go_ret;exact⟨_,_,rfl,n.o.1,(fF.wb (WT b vc vb) N.o).trans n.o.2.1 fun _ _ e=>e,n.o.2.2.mono O⟩
theorem q9{s:f7}{qs:List Q4}(d:gC L B b w vc vb s qs)(k t:Int)(a c:Option Addr){x:fP}(m:oU B w x (.int .i64 k) (.int .i64 t) (.pointer a) (.pointer c))(l:s.C.length<=2000000000):
 Cz 138 #[(b,0),.agg #[(k:Int),(t:Int),.pointer a,.pointer c]] w (vY L B b w vc vb { s with C:=s.C++[x] } (.int .i64 (s.C.length:Int))):=by
 refine(GZ d k t a c m l).mono ?_;rintro e w' ⟨o,n,f,g,i,j⟩;exact⟨o,vb,n,f,g,i,j,fM.refl _ _⟩
theorem oU.set{x:fP}{a b c d:C5}(f:oU B w x a b c d)(g:OR x=true)(n:Nat):oU B w (nD n x) a (.int .i64 (n:Int)) c d:=by
 cases x with
 |jmp t=>exact⟨f.1,rfl,f.2.2.1,f.2.2.2⟩
 |unl t=>exact⟨f.1,rfl,f.2.2.1,f.2.2.2⟩
 |lzy z t=>exact⟨f.1,rfl,f.2.2.1,f.2.2.2⟩
 |beg=>cases g
 |app e=>cases g
 |fin t=>cases g
 |ent=>cases g
 |lve=>cases g
theorem gC.setp{s:f7}{qs:List Q4}{g:Nat}(a:gC L B b w (.slice (some ⟨g,0,none⟩) s.C.length c) vb s qs){n:Nat}{x:fP}(o:s.C[i]?=some x)(H:OR x=true):
 ∃I,gC L B b (w.setCell (g,i*4+1) ((n:Int):Int)) (.slice (some ⟨g,0,none⟩) s.C.length c) vb { s with C:=yF n s.C i } I/\fF (fun k=>k=g) w (w.setCell (g,i*4+1) ((n:Int):Int)):=by
 have r:=(List.getElem?_eq_some_iff.1 o).1;obtain⟨q,y⟩:∃q,qs[i]?=some q:=⟨_,Dz (by rw[a.ql];exact r)⟩
 have F:b≠g:=fun e=>a.cb (by rw[e];rfl)
 have m:fF (fun k=>k=g) w (w.setCell (g,i*4+1) ((n:Int):Int)):=fF.set (X:=fun k=>k=g) w rfl _ _;have R:=a.tl (k:=g) (.inr (.inl rfl));have u:Below B w (w.setCell (g,i*4+1) ((n:Int):Int)):=m.below Kd fun k t (e:k=g)=>Xa
 have E:yF n s.C i=s.C.set i (nD n x):=by unfold yF;rw[o]
 refine⟨qs.set i (q.1,.int .i64 (n:Int),q.2.2.1,q.2.2.2),⟨a.hB,a.hL,(m.block b a.lt F).trans a.box,?_,?_,fun j z p d f=>?_,zQ a.brow fun k t=>m.block k (zT a.brow k t).1 fun(e:k=g)=>a.bc g rfl (e▸t)⟩,m⟩
 .show(w.setCell _ _).ownsRow L _ 4 _ (yF n s.C i).length _
  rw[o0,<-BT qs i q _ y];rcases a.row.2 with⟨_,_⟩|⟨_,_,A,G,J,K,M,N,P,Q⟩
  .omega
  .injection G with l _ D
   injection l with l;injection l with l _ _;subst l D;refine⟨by rw[Yw];exact a.row.1,.inr ⟨g,c,A.setIfInBounds (i*4+1) (.int .i64 (n:Int)),rfl,J,D3 K _,M,N,by simpa using P,?_⟩⟩;rw[<-Q,Array.toList_setIfInBounds,List.take_set]
 .show(qs.set i _).length=(yF n s.C i).length
  rw[Yw,o0];exact a.ql
 .have d:(yF n s.C i)[j]?=some z:=d
  rw[E,Ch]at d;rw[Ch]at f;by_cases v:i=j
  .subst v
   rw[Dq rfl,Dq r]at d;rw[Dq rfl,Dq (by rw[a.ql];exact r)]at f;injection d with d;injection f with f;subst d f;exact((a.qi i x q o y).set H n).below u Zr
  .rw[Dp v]at d f
   exact(a.qi j z p d f).below u Zr
def Z0(L B b:Nat)(w:C4)(vc vb:C5)(s:f7)(e:Ending)(w':C4):Prop:=∃qs,e=.returned (.tuple #[])/\gC L B b w' vc vb s qs/\fF (fun k=>vc.ownBlock=some k) w w'
theorem ul{s:f7}{qs:List Q4}(f:gC L B b w vc vb s qs){ps:List Nat}{A:Option Addr}{ab:Nat}(Q:∀(j p:Nat),ps[j]?=some p->∃g o,A=some ⟨g,o,none⟩/\g<w.heap.size/\vc.ownBlock≠some g/\w.cell? ⟨g,o+j,none⟩=some (.int .i64 (p:Int)))(u:LN s.C ps)(_:s.C.length<=2000000000)(_:ps.length<=2000000000):
 Cz 155 #[(b,0),(A,ps.length,ab)] w (Z0 L B b w vc vb { s with C:=jl s.C.length s.C ps }):=by
 obtain⟨D,c,ak⟩:=zY f.row;subst ak;have H:=U f;have Z:=U Q;have X:=U u;clear f Q u;go_enter func155,ntmps155;go_wp2_with fail
 go_loopw [8] (fun iv wr=>∃(j:Nat) (r:List Q4),j<=ps.length/\iv=.int .i64 (j:Int)/\gC L B b wr (.slice D s.C.length c) vb { s with C:=jl s.C.length s.C (ps.take j) } r/\fF (fun k=>(Value.slice D s.C.length c).ownBlock=some k) w wr) (fun iv _=>ps.length-(intOf iv).toNat)
 case atStart=>exact⟨0,qs,Dx _,rfl,H.o,fF.refl _ _⟩
 case round=>
  obtain⟨j,r,u,rfl,q,P⟩:=hrel;have d:=U q;have l:=U P;obtain⟨⟨_,_,_,_,_⟩,_⟩:=zS q.box;have au:=q.lt;clear q P;by_cases af:j<ps.length
  .obtain⟨p,m⟩:∃p,ps[j]?=some p:=⟨_,Dz af⟩
   obtain⟨t,op,rfl,N,ag,M⟩:=Z.o j p m;have ar:t<wr.heap.size:=Yb N l.o.size;have aq:wr.cell? (t,op+j)=some (.int .i64 (p:Int)):=(D6 (l.o.block t N ag)).trans M;obtain⟨_,z,am⟩:=X.o p (Yc m);obtain⟨x,V,al⟩:=BP (n:=s.C.length) (ps:=ps.take j) z am;have av:=(List.getElem?_eq_some_iff.1 z).1;obtain⟨g,_,a,_,_,_,_,_⟩:=xE d.o.row (by show 0<(jl _ _ _).length;rw[uk];omega);injection a with a F G;subst a G;have v:(jl s.C.length s.C (ps.take j)).length=s.C.length:=uk _ _ _;have y:(Value.slice (some ⟨g,0,none⟩) s.C.length c)=.slice (some ⟨g,0,none⟩) (jl s.C.length s.C (ps.take j)).length c:=by rw[v]
   have T:gC L B b wr (.slice (some ⟨g,0,none⟩) (f7.C { s with C:=jl s.C.length s.C (ps.take j) }).length c) vb { s with C:=jl s.C.length s.C (ps.take j) } r:=by
    show gC L B b wr (.slice (some ⟨g,0,none⟩) (jl s.C.length s.C (ps.take j)).length c) vb _ r;rw[<-y];exact d.o
   obtain⟨qs2,R,S⟩:=T.setp (n:=s.C.length) (i:=p) (x:=x) V al;have E:=U (Dt R S)
   obtain⟨W,_⟩:∃W,wr.cell? (g,p*4+1)=some W:=by
    rcases d.o.row.2 with⟨_,I⟩|⟨_,_,ad,aj,_,an,_,_,_,ao⟩
    .exfalso;have I:(jl s.C.length s.C (ps.take j)).length=0:=I;omega
    .injection aj with a F G
     injection a with a;injection a with a _ _;subst a
     have ah:p*4+1<ad.size:=by
      have K:=congrArg List.length ao;rw[OU,d.o.ql]at K;simp at K;have ap:(jl s.C.length s.C (ps.take j)).length=s.C.length:=v;omega
     exact⟨_,(Du an _).trans (Array.getElem?_eq_getElem ah)⟩
   have aw:(p:Int)<(s.C.length:Int):=O
   have Y:=U m;have aa:=U y;clear T R S z V m M y v F;go_wp2_with fail
   go_still_tail 12,(by kernel_rfl)
   repeat still_step
   change wpList _ _ _ _ _ wr.drew;go_wp2_with fail;go_roundw
   case rel=>
    refine⟨j+1,qs2,O,by go_num,?_,?_⟩
    .have ai:ps.take (j+1)=ps.take j++[p]:=by rw[Yt,Y.o];rfl
     rw[ai,JO];have J:=E.o.1.we Zb.drew;rw[<-aa.o]at J;exact J
    .exact(l.o.trans E.o.2 fun k _ (e:k=g)=>by rw[e];rfl).trans (fF.drew (fun _=>False) _) fun _ _ f=>f.elim
   case measure=>simp[intOf];omega
  .have ae:j=ps.length:=by omega
   subst ae;go_wp2_with fail
   go_end0
   exact⟨_,rfl,by have:=d.o;rw[Ck]at this;exact this,l.o⟩
structure gM (L B b:Nat) (w:C4) (vc vb:C5) (w1:C4) (vc1 vb1:C5) (s1:f7) (qs1:List Q4):Prop where
 wr:gC L B b w1 vc1 vb1 s1 qs1
 off:fF (WT b vc vb) w w1
 rc:fM w.heap.size vc vc1
 rb:fM w.heap.size vb vb1
section
variable {L B b:Nat}{w w1 w2:C4}{vc vb vc1 vb1 vc2 vb2:C5}{s s1 s2:f7}{qs qs1 qs2:List Q4}
theorem gM.start(h:gC L B b w vc vb s qs):gM L B b w vc vb w vc vb s qs:=⟨h,fF.refl _ _,fM.refl _ _,fM.refl _ _⟩
theorem gM.next(a:gM L B b w vc vb w1 vc1 vb1 s1 qs1)(g:gM L B b w1 vc1 vb1 w2 vc2 vb2 s2 qs2):gM L B b w vc vb w2 vc2 vb2 s2 qs2:=
 ⟨g.wr,a.off.trans g.off fun k c d=>WT.old a.rc a.rb c d,a.rc.trans g.rc a.off.size,a.rb.trans g.rb a.off.size⟩
theorem gM.below(a:gC L B b w vc vb s qs)(c:gM L B b w vc vb w1 vc1 vb1 s1 qs1):Below B w w1:=(a.below c.off).mono a.hB
theorem gM.mono(c:gC L B b w vc vb s qs)(a:Cy w w1):gM L B b w vc vb w1 vc vb s qs:=⟨c.we a,fF.wb _ a,fM.refl _ _,fM.refl _ _⟩
theorem vY.cum{v:C5}{e:Ending}{w':C4}(d:vY L B b w vc vb s v e w'):∃c a qs,e=.returned v/\gM L B b w vc vb w' c a s qs:=by
 obtain⟨c,a,qs,f,g,i,j,k⟩:=d;exact⟨c,a,qs,f,g,i,j,k⟩
theorem gM.post(h:gM L B b w vc vb w1 vc1 vb1 s1 qs1)(v:C5):vY L B b w vc vb s1 v (.returned v) w1:=⟨vc1,vb1,qs1,rfl,h.wr,h.off,h.rc,h.rb⟩
theorem gM.land{w':C4}{e:Ending}(a:Z0 L B b w vc vb s e w'):∃qs,e=.returned (.tuple #[])/\gM L B b w vc vb w' vc vb s qs:=by
 obtain⟨qs,c,d,f⟩:=a;exact⟨qs,c,d,f.mono fun k _ g=>.inr (.inl g),fM.refl _ _,fM.refl _ _⟩
end
def Z1(L B b:Nat)(m:Nat):Prop:=∀(e:Ex) (w:C4) (v vc vb:C5) (s:f7) (qs:List Q4),gC L B b w vc vb s qs->pR B w v e->xx e m=true->s.C.length+zy e<=1000000000->
 Cz 156 #[(b,0),v] w (vY L B b w vc vb { s with C:=s.C++ya e s.C.length } (.tuple #[]))
theorem kW.ptr{a:Option Addr}{l:List Ex}(f:kW B w (.slice a n c) l){e:Ex}(b:l[i]?=some e):∃g o,a=some ⟨g,o,none⟩/\pR B w (.pointer (some ⟨g,o+i*5,none⟩)) e:=by
 obtain⟨_,_,m,_,hF⟩:=f;injection m with d _ _;subst d;obtain⟨g,o,j,k⟩:=hF Kx;exact⟨g,o,j,g,_,rfl,kM.at l g o i e k b⟩
theorem zAn(P:Z1 L B b m){s:f7}{qs:List Q4}(p:gC L B b w vc vb s qs){l:List Ex}(i:kW B w v l)(t:zx l m=true)(_:s.C.length+zH l<=1000000000):
 Cz 142 #[(b,0),v] w (vY L B b w vc vb { s with C:=s.C++qN l s.C.length } (.tuple #[])):=by
 obtain⟨_,c,rfl,_⟩:=i.form;have H:=U p;have J:=U i;have G:=U t;clear p i t;go_enter func142,ntmps142;go_wp2_with fail
 go_loopw [7] (fun iv wr=>∃(j:Nat) (vc1 vb1:C5) (qs1:List Q4),j<=l.length/\iv=.int .i64 (j:Int)/\gM L B b w vc vb wr vc1 vb1 { s with C:=s.C++qN (l.take j) s.C.length } qs1) (fun iv _=>l.length-(intOf iv).toNat)
 case atStart=>exact⟨0,vc,vb,qs,Dx _,rfl,by have:=gM.start H.o;simpa[qN]using this⟩
 case round=>
  obtain⟨j,vc1,vb1,qs1,_,rfl,r⟩:=hrel;have a:=U r;clear r;by_cases R:j<l.length
  .obtain⟨x,d⟩:∃x,l[j]?=some x:=⟨_,Dz R⟩
   obtain⟨g,o,rfl,u⟩:=(J.o.below (a.o.below H.o) Zr).ptr d;have k:l.take (j+1)=l.take j++[x]:=by rw[Yt,d];rfl
   have f:(s.C++qN (l.take j) s.C.length).length=s.C.length+zH (l.take j):=by rw[Dr,jG]
   have S:zH (l.take j)+zy x<=zH l:=by
    have M:l=l.take (j+1)++l.drop (j+1):=(Ct _ _).symm;have N:=congrArg zH M;rw[o1,k,o1,zH,zH]at N;omega
   have I:=U u;have y:=qb G.o d;have K:=U y;have F:=U (show s.C++qN (l.take (j+1)) s.C.length=s.C++qN (l.take j) s.C.length++ya x (s.C++qN (l.take j) s.C.length).length by rw[k,BR,qN,qN,Yd,f,Ya]);have q:(s.C++qN (l.take j) s.C.length).length+zy x<=1000000000:=by rw[f];omega
   have D:=U q;clear u y d k f q
   go_wp2_with (first
    | (go_at_call 156;(refine(P x wr _ _ _ _ _ a.o.wr I.o K.o D.o).mono ?_);rintro e w2 z
       obtain⟨vc2,vb2,qs2,rfl,n⟩:=z.cum;have E:=U (a.o.next n)
       clear z n))
   go_roundw
   case rel=>exact⟨j+1,vc2,vb2,qs2,O,by go_num,by rw[F.o];exact E.o⟩
   case measure=>simp[intOf];omega
  exact Qm
theorem G0(C D:List fP)(x:fP)(n:Nat):jl n (C++[x]++D) [C.length]=C++[nD n x]++D:=by
 have h:=BQ n C [x] D (i:=0) Uh;rw[Nat.add_zero]at h;show yF n (C++[x]++D) C.length=_;rw[h];rfl
theorem LP(C a:List fP)(x:fP)(c:OR x=true):LN (C++[x]++a) [C.length]:=fun i b=>by
 rw[List.mem_singleton.1 b];refine⟨x,?_,c⟩;rw[Ya,Yi Zr,Yy];rfl
theorem j3(w:C4)(n:Nat)(vc:C5)(c:∀k,vc.ownBlock=some k->k<w.heap.size):∀(j p:Nat),[n][j]?=some p->∃g o,(some ⟨w.heap.size,0,none⟩:Option Addr)=some ⟨g,o,none⟩/\g<(w.alloc (.cells #[((n:Int):Int)] 3)).heap.size/\vc.ownBlock≠some g/\(w.alloc (.cells #[((n:Int):Int)] 3)).cell? ⟨g,o+j,none⟩=some (.int .i64 (p:Int)):=fun j p a=>by
 have b:j=0:=by have:=(List.getElem?_eq_some_iff.1 a).1;simp at this;exact this
 subst b;simp at a;subst a;exact⟨w.heap.size,0,rfl,Uj,fun e=>by have:=c _ e;omega,(Du (Ds w _) 0).trans rfl⟩
def WLz(L B b:Nat)(m:Nat):Prop:=∀(z:Bool) (a op n:Int) (td:C3) (tc:List Ex) (w:C4) (v vc vb:C5) (s:f7) (qs:List Q4),(Value.int .i64 a=.int .i64 (if z then 5 else 6))->gC L B b w vc vb s qs->pR B w v (.mk 5 op n td tc)->tc.length=2->zx tc m=true->s.C.length+zH tc+1<=1000000000->
 Cz 166 #[(b,0),v,(a:Int)] w (vY L B b w vc vb { s with C:=s.C++xT tc s.C.length z } (.tuple #[]))
theorem BU(T:Z1 L B b m):WLz L B b m:=by
 intro z aC op n td tc w v vc vb s qs X j Z V D av
 obtain⟨a,d,rfl⟩:∃a d,tc=[a,d]:=by
  match tc,V with
  |[a,d],_=>exact⟨a,d,rfl⟩
 obtain⟨g,o,rfl,aq,_,_,_,_,_,_,R,r⟩:=Z.cells;obtain⟨_,c,rfl,_⟩:=r.form;obtain⟨_,_,rfl,E⟩:=r.ptr (i:=0) (e:=a) rfl;obtain⟨_,_,f,F⟩:=r.ptr (i:=1) (e:=d) rfl;injection f with f;injection f with f ao _;subst f ao;rw[qr,qr,D2,D2]at D;rw[zH,zH,zH]at av;have aF:B<=w.heap.size:=by have:=j.hB;have:=j.hL;have:=j.lt;omega
 have ar:g<w.heap.size:=O
 have K:=U j;rw[Nat.zero_mul,Nat.add_zero]at E;rw[Nat.one_mul]at F;have aj:=U E;have ak:=U F;have M:=U D;have ai:=U X;have Y:([a,d]:List Ex).length=2:=rfl;rw[Y]at R;have ag:=U R;have aw:s.C.length+zy a<=1000000000:=O
 clear j Z E F D r Y V X;go_enter func166,ntmps166
 go_upto_region 1 with(first
  | (go_at_call 156;(refine(T a w _ _ _ _ _ K.o aj.o M.o.1 aw).mono ?_);rintro e w1 aa
     obtain⟨vc1,vb1,qs1,rfl,N⟩:=aa.cum;have l:=U N
     clear aa N))
 have W:(s.C++ya a s.C.length).length=s.C.length+zy a:=by rw[Dr,xu]
 generalize hC1:s.C++ya a s.C.length=C1 at *;have J:=U (Dt hC1 W);have ax:C1.length<=2000000000:=O
 clear hC1 W
 go_upto_region 2 with(first
  | (go_at_call 138;(refine(q9 l.o.wr aC 0 none none (x:=.lzy z 0) ⟨ai.o,rfl,rfl,rfl⟩ ax).mono ?_);rintro e w2 ab
     obtain⟨vc2,vb2,qs2,rfl,q⟩:=ab.cum;have H:=U (l.o.next q);have u:=(l.o.next q).below K.o;have aE:=(u.cell (p:=(g,o+4)) aq).trans ag.o;have aG:g<w2.heap.size:=Yb ar (l.o.next q).off.size;have al:=U (ak.o.below u Zr)
     clear ab q u))
 have ay:(C1++[fP.lzy z 0]).length+zy d<=1000000000:=by rw[Dr,D8];have:=J.o.2;omega
 go_upto_region 3 with(first
  | (go_at_call 156;(refine(T d w2 _ _ _ _ _ H.o.wr al.o M.o.2.1 ay).mono ?_);rintro e G ad
     obtain⟨aD,_,_,rfl,P⟩:=ad.cum;have t:=U (H.o.next P)
     clear ad P))
 have S:=t.o.wr;have I:=U (t.o.next (gM.mono t.o.wr ((D4 G.heap.size G).alloc Zr (.cells #[((C1.length:Int):Int)] 3))));have am:=U (j3 G C1.length aD fun k au=>(S.tl (.inr (.inl au))).2);have ah:=U (LP C1 (ya d (C1++[fP.lzy z 0]).length) (.lzy z 0) rfl);have az:(C1++[fP.lzy z 0]++ya d (C1++[fP.lzy z 0]).length).length<=2000000000:=by rw[Dr,xu];omega
 clear S
 go_wp2_with (first
  | (go_at_call 155;(refine(ul (ps:=[C1.length]) I.o.wr am.o ah.o az Uh).mono ?_);rintro e _ ae
     obtain⟨_,rfl,Q⟩:=gM.land ae;have af:=U (I.o.next Q)
     clear ae Q))
 go_end0
 have y:=af.o;rw[G0]at y
 have an:C1++[nD (C1++[fP.lzy z 0]++ya d (C1++[fP.lzy z 0]).length).length (fP.lzy z 0)]++ya d (C1++[fP.lzy z 0]).length=s.C++xT [a,d] s.C.length z:=by
  obtain⟨ap,_⟩:=J.o;subst ap
  have aB:(s.C++ya a s.C.length++[fP.lzy z 0]++ya d (s.C++ya a s.C.length++[fP.lzy z 0]).length).length=s.C.length+zy a+1+zH [d]:=by
   simp only[Dr,xu,D8,zH];omega
  have aA:(s.C++ya a s.C.length++[fP.lzy z 0]).length=s.C.length+zy a+1:=by simp only[Dr,xu,D8]
  rw[aB,aA,xT,qN,qN,Yd];simp only[nD,Ya,Cu]
 rw[an]at y;exact y.post _
theorem JP(N:Z1 L B b m)(n:Int)(td:C3)(tc:List Ex)(w:C4)(v vc vb:C5)(s:f7)(qs:List Q4)(c:gC L B b w vc vb s qs)(f:pR B w v (.mk 5 18 n td tc))(r:tc.length=2)(u:zx tc m=true)(Q:s.C.length+zH tc+2<=1000000000):
 Cz 156 #[(b,0),v] w (vY L B b w vc vb { s with C:=s.C++[fP.beg]++xT tc (s.C++[fP.beg]).length true } (.tuple #[])):=by
 obtain⟨g,o,rfl,t,l,q,J,K,_,_,M,S⟩:=f.cells;have V:B<=w.heap.size:=Hd
 have P:g<w.heap.size:=O
 have j:=U c;have I:=U f;have i:=U (Dt l q);have F:=U (show(s.C++[fP.beg]).length+zH tc+1<=1000000000 by rw[Dr,D8];omega);have A:=U r;have H:=U u;have R:s.C.length<=2000000000:=O
 clear c f l q J K M S Q r u;go_enter func156,ntmps156
 go_wp2_with (first
  | (go_at_call 138;(refine(q9 j.o 0 0 none none (x:=.beg) ⟨rfl,rfl,rfl,rfl⟩ R).mono ?_);rintro e w1 y
     obtain⟨vc1,vb1,qs1,rfl,a⟩:=y.cum;have D:=U a;have d:=a.below j.o;have W:g<w1.heap.size:=Yb P a.off.size;have T:=(d.cell (p:=(g,o)) t).trans i.o.1;have f1:=(d.cell (p:=(g,o+1)) t).trans i.o.2;have G:=U (BU N true 5 18 n td tc w1 (.pointer (some ⟨g,o,none⟩)) vc1 vb1 { s with C:=s.C++[fP.beg] } qs1 rfl a.wr (I.o.below d Zr) A.o H.o F.o)
     clear y a d)
  | (go_at_call 166;(refine G.o.mono ?_);rintro e w2 z
     obtain⟨vc2,vb2,qs2,rfl,k⟩:=z.cum;have E:=U (D.o.next k)
     clear z k))
 all_goals
  go_end0
  exact E.o.post _
theorem DP(N:Z1 L B b m)(n:Int)(td:C3)(tc:List Ex)(w:C4)(v vc vb:C5)(s:f7)(qs:List Q4)(c:gC L B b w vc vb s qs)(f:pR B w v (.mk 5 19 n td tc))(r:tc.length=2)(u:zx tc m=true)(Q:s.C.length+zH tc+2<=1000000000):
 Cz 156 #[(b,0),v] w (vY L B b w vc vb { s with C:=s.C++[fP.beg]++xT tc (s.C++[fP.beg]).length false } (.tuple #[])):=by
 obtain⟨g,o,rfl,t,l,q,J,K,_,_,M,S⟩:=f.cells;have V:B<=w.heap.size:=Hd
 have P:g<w.heap.size:=O
 have j:=U c;have I:=U f;have i:=U (Dt l q);have F:=U (show(s.C++[fP.beg]).length+zH tc+1<=1000000000 by rw[Dr,D8];omega);have A:=U r;have H:=U u;have R:s.C.length<=2000000000:=O
 clear c f l q J K M S Q r u;go_enter func156,ntmps156
 go_wp2_with (first
  | (go_at_call 138;(refine(q9 j.o 0 0 none none (x:=.beg) ⟨rfl,rfl,rfl,rfl⟩ R).mono ?_);rintro e w1 y
     obtain⟨vc1,vb1,qs1,rfl,a⟩:=y.cum;have D:=U a;have d:=a.below j.o;have W:g<w1.heap.size:=Yb P a.off.size;have T:=(d.cell (p:=(g,o)) t).trans i.o.1;have f1:=(d.cell (p:=(g,o+1)) t).trans i.o.2;have G:=U (BU N false 6 19 n td tc w1 (.pointer (some ⟨g,o,none⟩)) vc1 vb1 { s with C:=s.C++[fP.beg] } qs1 rfl a.wr (I.o.below d Zr) A.o H.o F.o)
     clear y a d)
  | (go_at_call 166;(refine G.o.mono ?_);rintro e w2 z
     obtain⟨vc2,vb2,qs2,rfl,k⟩:=z.cum;have E:=U (D.o.next k)
     clear z k))
 all_goals
  go_end0
  exact E.o.post _
theorem G1(ab:Z1 L B b m)(k op n:Int)(td:C3)(tc:List Ex)(w:C4)(v vc vb:C5)(s:f7)(qs:List Q4)(d:gC L B b w vc vb s qs)(t:pR B w v (.mk k op n td tc))(H:zx tc m=true)(ae:s.C.length+zH tc+2<=1000000000)(M N P:Bool)(_:(k == 5)=M)(_:(op == 18)=N)(_:(op == 19)=P)(i:M=false\/N=false/\P=false):
 Cz 156 #[(b,0),v] w (vY L B b w vc vb { s with C:=s.C++[fP.beg]++qN tc (s.C++[fP.beg]).length++[.app (.mk k op n td tc)] } (.tuple #[])):=by
 obtain⟨g,o,rfl,r,E,F,Z,aa,_,_,G,u⟩:=t.cells;obtain⟨_,c,rfl,_⟩:=u.form;have aj:B<=w.heap.size:=by have:=d.hB;have:=d.hL;have:=d.lt;omega
 have ad:g<w.heap.size:=O
 have l:=U d;have W:=U t;have j:=U (Dt E (Dt F G));have Y:=U u;have S:=U (show(s.C++[fP.beg]).length+zH tc<=1000000000 by rw[Dr,D8];omega);have T:=U (show(s.C++[fP.beg]++qN tc (s.C++[fP.beg]).length).length<=2000000000 by rw[Dr,jG,Dr,D8];omega);have V:=U H;have af:s.C.length<=2000000000:=O
 clear d t E F Z aa G u ae H;go_enter func156,ntmps156;rcases i with i|⟨i,ag⟩
 all_goals
  (try subst i)
  (try subst ag)
  go_upto_region 3 with(first
   | (go_at_call 138;(refine(q9 l.o 0 0 none none (x:=.beg) ⟨rfl,rfl,rfl,rfl⟩ af).mono ?_);rintro e w1 I
      obtain⟨vc1,vb1,qs1,rfl,a⟩:=I.cum;have y:=U a;have f:=a.below l.o;have ak:g<w1.heap.size:=Yb ad a.off.size;have ah:=(f.cell (p:=(g,o)) r).trans j.o.1;have f1:=(f.cell (p:=(g,o+1)) r).trans j.o.2.1;have ai:=(f.cell (p:=(g,o+4)) r).trans j.o.2.2;have R:=U (zAn ab a.wr (Y.o.below f Zr) V.o S.o)
      clear I a f))
  go_upto_region 2 with(first
   | (go_at_call 142;(refine R.o.mono ?_);rintro e w2 J
      obtain⟨vc2,vb2,qs2,rfl,q⟩:=J.cum;have z:=U (y.o.next q);have X:=U (W.o.below ((y.o.next q).below l.o) Zr)
      clear J q))
  go_wp2_with (first
   | (go_at_call 138;(refine(q9 z.o.wr 1 0 (some ⟨g,o,none⟩) none (x:=.app (.mk k op n td tc)) ⟨rfl,rfl,X.o,rfl⟩ T.o).mono ?_);rintro e _ K
      obtain⟨_,_,_,rfl,D⟩:=K.cum;have Q:=U (z.o.next D)
      clear K D))
 all_goals
  go_end0
  exact Q.o.post _
theorem JQ(i:Z1 L B b m):Z1 L B b (m+1):=by
 intro e w v vc vb s qs d l c q;obtain⟨k,op,n,td,tc⟩:=e;rw[kD,D2,D2,decide_eq_true_eq,Yu]at c;rw[zy]at q;by_cases a:k=5/\(op=18\/op=19)
 .have o:tc.length=2:=by have:=c.1.2;rw[a.1]at this;exact BH this
  have hF:∀z:Bool,decide (op=18)=z->s.C++[fP.beg]++xT tc (s.C++[fP.beg]).length z=s.C++ya (.mk k op n td tc) s.C.length:=fun z r=>by
   rw[ya,Dq a,Dr,D8,Ya,Cu,r]
  obtain⟨p,j|j⟩:=a
  .subst p j
   rw[<-hF true rfl];exact JP i n td tc w v vc vb s qs d l o c.2 O
  .subst p j
   rw[<-hF false rfl];exact DP i n td tc w v vc vb s qs d l o c.2 O
 .have hF:s.C++[fP.beg]++qN tc (s.C++[fP.beg]).length++[.app (.mk k op n td tc)]=s.C++ya (.mk k op n td tc) s.C.length:=by
   rw[ya,Dp a,Dr,D8,Ya,Ya,Cu]
  rw[<-hF];refine G1 i k op n td tc w v vc vb s qs d l c.2 O _ _ _ rfl rfl rfl ?_;by_cases f:k=5
  .exact .inr ⟨by simpa using fun g=>a ⟨f,.inl g⟩,by simpa using fun g=>a ⟨f,.inr g⟩⟩
  .exact .inl (by simpa using f)
theorem j4(L B b:Nat):∀m,Z1 L B b m
 | 0=>fun e w v vc vb s qs _ _ a _=>by
   obtain⟨k,op,n,td,tc⟩:=e;rw[kD]at a;simp at a
 |m+1=>JQ (j4 L B b m)
theorem OV(k a:Int)(b c d e:C5)(w:C4):
 Cz 165 #[.agg #[(k:Int),(a:Int),b,c,d,e]] w (Cw (decide (k=1)) w):=by
 have f:=Ds w (.cells #[(k:Int),(a:Int),b,c,d,e] 139);have i:(w.alloc (.cells #[(k:Int),(a:Int),b,c,d,e] 139)).cell? (w.heap.size,0)=some (.int .i64 k):=(Du f 0).trans rfl;clear f;by_cases g:k=1
 all_goals
  go_enter func165,ntmps165;go_wp2_with fail;go_ret;exact⟨by simp[g],Zb.alloc Zr _⟩
theorem TY{t:St}(a:l[i]?=some t)(b:NX t=true):yb l=true:=List.any_eq_true.2 ⟨t,Yc a,b⟩
theorem TZ(b:∀(i:Nat) (t:St),i<l.length->l[i]?=some t->NX t=false):yb l=false:=by
 unfold yb;rw[Ci];intro t c;obtain⟨i,a⟩:=List.mem_iff_getElem?.1 c;rw[b i t (List.getElem?_eq_some_iff.1 a).1 a];decide
theorem OW(y:B<=w.heap.size)(m:f6 B w v l):
 Cz 168 #[v,.func (.func 165) #[] #[]] w fun e w'=>∃n:Int,e=.returned (n:Int)/\decide (0<=n)=yb l/\-1<=n/\n<=281474976710656/\Cy w w':=by
 obtain⟨_,c,rfl,_⟩:=m.form;have x:=U m;clear m;go_enter func168,ntmps168;go_wp2_with fail
 go_loopw [8] (fun iv wr=>∃j:Nat,j<=l.length/\iv=.int .i64 (j:Int)/\(∀(i:Nat) (t:St),i<j->l[i]?=some t->NX t=false)/\Cy w wr) (fun iv _=>l.length-(intOf iv).toNat)
 case atStart=>exact⟨0,Dx _,rfl,fun i t z=>O,D4 _ _⟩
 case round=>
  obtain⟨j,_,rfl,u,d⟩:=hrel;have b:=U d;have q:=U u;by_cases E:j<l.length
  .obtain⟨t,a⟩:∃t,l[j]?=some t:=⟨_,Dz E⟩
   obtain⟨k,F,td,tc,tg,th⟩:=t;obtain⟨g,o,G,H,I,rfl,_,_,_,_,_,q4,_,_⟩:=(x.o.below (d.mono y) Zr).cells a;have J:g<wr.heap.size:=by have:=d.size;omega
   have r:=U a;clear d u a;cases hk:(decide (k=1))
   all_goals
    have f:=U hk;clear hk
    go_wp2_with (first
     | (go_at_call 165;(refine(OV k F (.string td) G H I wr).mono ?_);rintro e w2 ⟨rfl,s⟩
        have p:=U s;rw[f.o]
        clear s))
   .go_roundw
    case rel=>
     refine⟨j+1,O,by go_num,fun i t z a=>?_,b.o.trans (p.o.mono b.o.size)⟩;by_cases C:i=j
     .subst C
      rw[r.o]at a;injection a with a;rw[<-a];exact f.o
     .exact q.o i t O a
    case measure=>simp[intOf];omega
   .go_ret
    exact⟨j,rfl,by rw[TY r.o f.o];simp,O,O,b.o.trans (p.o.mono b.o.size)⟩
  .have D:j=l.length:=by omega
   subst D;go_wp2_with fail;go_ret;exact⟨-1,rfl,by rw[TZ q.o];rfl,O,O,b.o⟩
theorem G2(j:B<=w.heap.size)(a:f6 B w v l):
 Cz 164 #[v,.func (.func 165) #[] #[]] w (Cw (yb l) w):=by
 obtain⟨_,c,rfl,_⟩:=a.form;have i:=U a;clear a;go_enter func164,ntmps164
 go_wp2_with (first
  | (go_at_call 168;(refine(OW j i.o).mono ?_);rintro e w2 ⟨n,rfl,d,_,_,b⟩
     have f:=U b;have g:=U d
     clear b d))
 go_ret;exact⟨by rw[g.o];rfl,f.o⟩
abbrev kQ(s:f7)(C:List fP)(bk:List Nat):f7:={ s with C:=s.C++C,bk:=s.bk++bk }
theorem T0(s:f7):kQ s [] []=s:=by cases s;simp[kQ]
theorem OX(s:f7)(C a:List fP)(k b:List Nat):kQ (kQ s C k) a b=kQ s (C++a) (k++b):=by cases s;simp[kQ]
structure gV (s:f7) (n m:Nat):Prop where
 d:s.lsc<=s.sc
 sc:s.sc+m<=1000
 len:s.C.length+n<=1000000000
 bk:s.bk.length+n<=1000000000
abbrev dS(s:f7):Nat:=s.sc-s.lsc
def T1(L B b m:Nat):Prop:=∀(l:List St) (w:C4) (v vc vb:C5) (s:f7) (qs:List Q4),gC L B b w vc vb s qs->f6 B w v l->fL l m=true->gV s (fJ l (dS s)) m->
 Cz 91 #[(b,0),v] w (vY L B b w vc vb (kQ s (qg l s.C.length (dS s) s.lst 0) (xn l s.C.length (dS s))) (.tuple #[]))
def OY(L B b m:Nat):Prop:=∀(l:List St) (w:C4) (v vc vb:C5) (s:f7) (qs:List Q4),gC L B b w vc vb s qs->f6 B w v l->fL l m=true->gV s (qZ l (dS s)) (m+1)->
 Cz 154 #[(b,0),v] w (vY L B b w vc vb (kQ s (ko l s.C.length (dS s) s.lst 0) (wU l s.C.length (dS s))) (.tuple #[]))
def zav(L B b m:Nat):Prop:=∀(t:St) (w:C4) (v vc vb:C5) (s:f7) (qs:List Q4),gC L B b w vc vb s qs->oT B w v t->uP t m=true->gV s (xc t (dS s)) m->
 Cz 112 #[(b,0),v] w (vY L B b w vc vb (kQ s (xF t s.C.length (dS s) s.lst 0) (wT t s.C.length (dS s))) (.tuple #[]))
theorem DQ{f:Nat->Nat->List Nat}{g:Nat->Nat}(h:∀b d,(f b d).length<=g d)(b d:Nat):(bB l f b d).length<=lB l g d:=by
 unfold bB lB;split
 .exact Nat.le_succ_of_le (Nat.le_succ_of_le (h (b+1) (d+1)))
 .exact h b d
mutual
theorem YC:∀(t:St) (b d:Nat),(wT t b d).length<=xc t d
 | .mk k ty td tc tg th,b,d=>by
   rw[wT,xc];by_cases a:k=4
   .rw[Dq a,Dq a,Dr]
    have e:(bB tg (fun b d=>xn tg b d) (b+zH tc+2) d).length<=lB tg (fJ tg) d:=DQ (fun b d=>um tg b d) _ _;have f:(bB th (fun b d=>xn th b d) (b+zH tc+3+lB tg (fJ tg) d) d).length<=lB th (fJ th) d:=DQ (fun b d=>um th b d) _ _;omega
   rw[Dp a,Dp a];by_cases c:k=6
   .rw[Dq c,Dp O,Dq (Or.inl c)]
    show 1<=_;omega
   .rw[Dp c]
    exact Dx _
theorem um:∀(l:List St) (b d:Nat),(xn l b d).length<=fJ l d
 |[],_,_=>Dx _
 | t::r,b,d=>by
   rw[xn,fJ,Dr];have:=YC t b d;have:=um r (b+xc t d) d;omega
end
section
variable {L B b:Nat} {w w':C4}{vc vb:C5}{s:f7}{qs:List Q4}
theorem gC.dd(a:gC L B b w vc vb s qs){g:C5}{c:f7}(j:fF (fun k=>k=b) w w')(m:w'.heap[b]?=some (LO vc g c))(d:c.C=s.C)(n:w'.ownsRow L 3 1 g c.bk.length (ZY c.bk)):gC L B b w' vc g c qs:=by
 have l:Below B w w':=j.below Kd fun k f (e:k=b)=>by have:=a.hB;have:=a.hL;omega
 refine⟨a.hB,a.hL,m,?_,by rw[d];exact a.ql,fun i x q p o=>(a.qi i x q (by rw[<-d];exact p) o).below l Zr,n⟩;rw[d];exact zQ a.row fun k f=>j.block k (zT a.row k f).1 fun(e:k=b)=>a.cb (e▸f)
theorem gC.dm(a:gC L B b w vc vb s qs)(d:fF (fun k=>k=b) w w'):w'.ownsRow L 3 1 vb s.bk.length (ZY s.bk):=zQ a.brow fun k c=>d.block k (zT a.brow k c).1 fun(e:k=b)=>a.bb (e▸c)
theorem gM.dd(d:gC L B b w vc vb s qs){a:f7}(c:fF (fun k=>k=b) w w')(g:w'.heap[b]?=some (LO vc vb a))(e:a.C=s.C)(f:a.bk=s.bk):gM L B b w vc vb w' vc vb a qs:=
 ⟨d.dd c g e (by rw[f];exact d.dm c),c.mono fun k _ i=>.inl i,fM.refl _ _,fM.refl _ _⟩
theorem gM.scopes(a:gC L B b w vc vb s qs)(n:Nat){i:Int}(c:i=(n:Int)):gM L B b w vc vb (w.setCell (b,1) (i:Int)) vc vb { s with sc:=n } qs:=by
 subst c;exact gM.dd a (fF.set (X:=fun k=>k=b) w rfl 1 _) (D3 a.box _) rfl rfl
theorem gM.cast{d c:C5}{a:f7}(f:gM L B b w d c w' vc vb s qs)(e:s=a):gM L B b w d c w' vc vb a qs:=e▸f
end
theorem f6.ptr{a:Option Addr}(f:f6 B w (.slice a n c) l){e:St}(b:l[i]?=some e):∃g o,a=some ⟨g,o,none⟩/\oT B w (.pointer (some ⟨g,o+i*6,none⟩)) e:=by
 obtain⟨_,_,m,_,hF⟩:=f;injection m with d _ _;subst d;obtain⟨g,o,j,k⟩:=hF Kx;exact⟨g,o,j,g,_,rfl,xB.at l g o i e k b⟩
theorem v6(N:zav L B b m):T1 L B b m:=by
 intro l w v vc vb s qs r n y u;obtain⟨_,c,rfl,_⟩:=n.form;have H:=U r;have K:=U n;have I:=U y;have f:=U u;clear r n y u;go_enter func91,ntmps91;go_wp2_with fail
 go_loopw [7] (fun iv wr=>∃(j:Nat) (vc1 vb1:C5) (qs1:List Q4),j<=l.length/\iv=.int .i64 (j:Int)/\gM L B b w vc vb wr vc1 vb1 (kQ s (qg (l.take j) s.C.length (dS s) s.lst 0) (xn (l.take j) s.C.length (dS s))) qs1) (fun iv _=>l.length-(intOf iv).toNat)
 case atStart=>exact⟨0,vc,vb,qs,Dx _,rfl,by rw[Yx,qg,xn,T0];exact gM.start H.o⟩
 case round=>
  obtain⟨j,vc1,vb1,qs1,_,rfl,t⟩:=hrel;have a:=U t;clear t;by_cases R:j<l.length
  .obtain⟨x,i⟩:∃x,l[j]?=some x:=⟨_,Dz R⟩
   obtain⟨g,o,rfl,z⟩:=(K.o.below (a.o.below H.o) Zr).ptr i;have p:l.take (j+1)=l.take j++[x]:=by rw[Yt,i];rfl
   have k:(s.C++qg (l.take j) s.C.length (dS s) s.lst 0).length=s.C.length+fJ (l.take j) (dS s):=by rw[Dr,jo]
   have S:fJ (l.take j) (dS s)+xc x (dS s)<=fJ l (dS s):=by
    have M:fJ l (dS s)=fJ (l.take (j+1)++l.drop (j+1)) (dS s):=by rw[Ct]
    rw[o2,p,o2,fJ,fJ]at M;omega
   have P:=um (l.take j) s.C.length (dS s)
   have D:gV (kQ s (qg (l.take j) s.C.length (dS s) s.lst 0) (xn (l.take j) s.C.length (dS s))) (xc x (dS s)) m:=
    ⟨f.o.d,f.o.sc,by have:=f.o.len;show(s.C++_).length+_<=_;rw[k];omega,by have:=f.o.bk;show(s.bk++_).length+_<=_;rw[Dr];omega⟩
   have J:=U (N x wr _ _ _ _ _ a.o.wr z (l5 I.o i) D)
   have G:=U (show kQ s (qg (l.take (j+1)) s.C.length (dS s) s.lst 0) (xn (l.take (j+1)) s.C.length (dS s))=kQ (kQ s (qg (l.take j) s.C.length (dS s) s.lst 0) (xn (l.take j) s.C.length (dS s))) (xF x (s.C++qg (l.take j) s.C.length (dS s) s.lst 0).length (dS s) s.lst 0) (wT x (s.C++qg (l.take j) s.C.length (dS s) s.lst 0).length (dS s))by
    rw[p,BS,qg,qg,Yd,GY,xn,xn,Yd,k]
    exact(OX _ _ _ _ _).symm)
   clear z i p k S P D
   go_wp2_with (first
    | (go_at_call 112;(refine J.o.mono ?_);rintro e w2 E
       obtain⟨vc2,vb2,qs2,rfl,q⟩:=E.cum;have F:=U (a.o.next q)
       clear E q))
   go_roundw
   case rel=>exact⟨j+1,vc2,vb2,qs2,O,by go_num,by rw[G.o];exact F.o⟩
   case measure=>simp[intOf];omega
  exact Qm
theorem T2(z:T1 L B b m)(l:List St)(j:yb l=false)(w:C4)(v vc vb:C5)(s:f7)(qs:List Q4)(a:gC L B b w vc vb s qs)(n:f6 B w v l)(k:fL l m=true)(i:gV s (fJ l (dS s)) m):
 Cz 154 #[(b,0),v] w (vY L B b w vc vb (kQ s (qg l s.C.length (dS s) s.lst 0) (xn l s.C.length (dS s))) (.tuple #[])):=by
 have g:B<=w.heap.size:=Kd
 have H:=U a;have d:=U n;have x:=U k;have t:=U i;have u:=U j;clear a n k i j;go_enter func154,ntmps154
 go_upto_region 1 with(first
  | (go_at_call 164;(refine(G2 g d.o).mono ?_);rintro e w1 ⟨rfl,c⟩
     rw[u.o];have q:=U (gM.mono H.o c);have y:=U (z l w1 _ _ _ _ _ (H.o.we c) (d.o.below (c.mono g) Zr) x.o t.o)
     clear c))
 go_wp2_with (first
  | (go_at_call 91;(refine y.o.mono ?_);rintro e w2 p
     obtain⟨vc2,vb2,qs2,rfl,f⟩:=p.cum;have r:=U (q.o.next f)
     clear p f))
 go_end0
 exact r.o.post _
theorem OZ(ah:T1 L B b m)(l:List St)(P:yb l=true)(w:C4)(v vc vb:C5)(s:f7)(qs:List Q4)(g:gC L B b w vc vb s qs)(S:f6 B w v l)(Q:fL l m=true)(a:gV s (fJ l (dS s+1)+2) (m+1)):
 Cz 154 #[(b,0),v] w (vY L B b w vc vb (kQ s (.ent::(qg l (s.C.length+1) (dS s+1) s.lst 0++[.lve])) (xn l (s.C.length+1) (dS s+1))) (.tuple #[])):=by
 have ag:B<=w.heap.size:=by have:=g.hB;have:=g.hL;have:=g.lt;omega
 have aj:s.C.length<=2000000000:=by have:=a.len;omega
 have f:(s.C++[fP.ent]).length=s.C.length+1:=by rw[Dr,D8]
 have c:s.sc+1-s.lsc=dS s+1:=by have:=a.d;show s.sc+1-s.lsc=s.sc-s.lsc+1;omega
 have R:gV { s with C:=s.C++[fP.ent],sc:=s.sc+1 } (fJ l (dS { s with C:=s.C++[fP.ent],sc:=s.sc+1 })) m:=
  ⟨by have:=a.d;show s.lsc<=s.sc+1;omega,by have:=a.sc;show s.sc+1+m<=1000;omega,by show(s.C++[fP.ent]).length+fJ l (s.sc+1-s.lsc)<=_;rw[f,c];have:=a.len;omega,by show s.bk.length+fJ l (s.sc+1-s.lsc)<=_;rw[c];have:=a.bk;omega⟩
 have al:s.sc<=1000:=by have:=a.sc;omega
 have N:((s.C++[fP.ent])++qg l (s.C++[fP.ent]).length (dS { s with C:=s.C++[fP.ent],sc:=s.sc+1 }) s.lst 0).length<=2000000000:=by
  rw[Dr,jo,f];show _+fJ l (s.sc+1-s.lsc)<=_;rw[c];have:=a.len;omega
 have H:=U g;have I:=U S;have ad:=U Q;have af:=U R;have ab:=U P;have Z:=U (Dt f c);have aa:=U N;clear g S Q a P R f c N;go_enter func154,ntmps154
 go_upto_region 2 with(first
  | (go_at_call 164;(refine(G2 ag I.o).mono ?_);rintro e w1 ⟨rfl,M⟩
     rw[ab.o];have E:=U (gM.mono H.o M)
     clear M))
 go_upto_region 3 with(first
  | (go_at_call 138;(refine(q9 E.o.wr 7 0 none none (x:=.ent) ⟨rfl,rfl,rfl,rfl⟩ aj).mono ?_);rintro e w2 T
     obtain⟨vc2,vb2,qs2,rfl,j⟩:=T.cum;have p:=U (E.o.next j);obtain⟨⟨q,r,t,u,y⟩,z⟩:=zS j.wr.box;have A:=j.wr.lt
     clear T j))
 have D:IntKind.i64.wrap ((s.sc:Int)+1)=((s.sc+1 :Nat):Int):=Un
 go_upto_region 4 with fail;have k:=gM.scopes p.o.wr (s.sc+1) (i:=(s.sc:Int)+1) O;have X:=U (p.o.next k);have ae:=U (ah l _ _ _ _ _ _ k.wr (I.o.below ((p.o.next k).below H.o) Zr) ad.o af.o);clear k q r t u y z D A;generalize w2.setCell (b,1) (((s.sc:Int)+1):Int)=W2 at *
 go_upto_region 5 with(first
  | (go_at_call 91;(refine ae.o.mono ?_);rintro e ak V
     obtain⟨_,_,_,rfl,n⟩:=V.cum;have F:=U (X.o.next n);obtain⟨⟨q,r,t,u,y⟩,z⟩:=zS n.wr.box;have A:=n.wr.lt
     clear V n))
 have D:IntKind.i64.wrap (((s.sc+1 :Nat):Int)-1)=(s.sc:Int):=Un
 go_upto_region 6 with fail;have J:=gM.scopes F.o.wr s.sc (i:=(s.sc:Int)) rfl;have G:=U (F.o.next J);clear J q r t u y z D A;generalize ak.setCell (b,1) ((s.sc:Int):Int)=W3 at *
 go_wp2_with (first
  | (go_at_call 138;(refine(q9 G.o.wr 8 0 none none (x:=.lve) ⟨rfl,rfl,rfl,rfl⟩ aa.o).mono ?_);rintro e _ W
     obtain⟨_,_,_,rfl,K⟩:=W.cum;have Y:=U (G.o.next K)
     clear W K))
 go_end0
 have ai:=Y.o;obtain⟨f,c⟩:=Z.o;refine(ai.cast ?_).post _;rw[f,show dS { s with C:=s.C++[fP.ent],sc:=s.sc+1 }=dS s+1 from c];simp
theorem O0(e:T1 L B b m):OY L B b m:=by
 intro l w v vc vb s qs c g f a;cases hno:yb l with
 |false=>
   rw[show ko l s.C.length (dS s) s.lst 0=qg l s.C.length (dS s) s.lst 0 by unfold ko gB;rw[Dp Ge],show wU l s.C.length (dS s)=xn l s.C.length (dS s)by unfold wU bB;rw[Dp Ge]];rw[show qZ l (dS s)=fJ l (dS s)by unfold qZ lB;rw[Dp Ge]]at a;exact T2 e l hno w v vc vb s qs c g f ⟨a.d,by have:=a.sc;omega,a.len,a.bk⟩
 |true=>
   rw[show ko l s.C.length (dS s) s.lst 0=.ent::(qg l (s.C.length+1) (dS s+1) s.lst 0++[.lve])by unfold ko gB;rw[Dq hno],show wU l s.C.length (dS s)=xn l (s.C.length+1) (dS s+1)by unfold wU bB;rw[Dq hno]];rw[show qZ l (dS s)=fJ l (dS s+1)+2 by unfold qZ lB;rw[Dq hno]]at a;exact OZ e l hno w v vc vb s qs c g f a
theorem v7(w:C4)(vc vb:C5)(s:f7)(qs:List Q4)(a:gC L B b w vc vb s qs)(_:s.lsc<=s.sc)(t:s.sc<=1000)(g:s.C.length+dS s<=1000000000):
 Cz 141 #[(b,0)] w (vY L B b w vc vb { s with C:=s.C++List.replicate (dS s) .lve } (.tuple #[])):=by
 obtain⟨⟨_,_,_,_,_⟩,_⟩:=zS a.box;have r:=a.lt;have H:=U a;have m:=U g
 have v:IntKind.i64.wrap ((s.sc:Int)-(s.lsc:Int))=((dS s:Nat):Int):=by
  have p:dS s=s.sc-s.lsc:=rfl;rw[IntWalk.i64_in]<;>omega
 have p:dS s=s.sc-s.lsc:=rfl;clear a g;go_enter func141,ntmps141;go_wp2_with fail
 go_region
 go_wp2_with fail
 go_loopw [12] (fun iv wr=>∃(j:Nat) (vc1 vb1:C5) (qs1:List Q4),j<=dS s/\iv=.int .i64 (j:Int)/\gM L B b w.drew vc vb wr vc1 vb1 { s with C:=s.C++List.replicate j .lve } qs1) (fun iv _=>dS s-(intOf iv).toNat)
 case atStart=>exact⟨0,vc,vb,qs,Dx _,rfl,by have:=gM.start (H.o.we Zb.drew);simpa using this⟩
 case round=>
  obtain⟨j,vc1,vb1,qs1,_,rfl,f⟩:=hrel;have c:=U f;clear f;have u:dS s<=1000:=Dy (Nat.sub_le _ _) t;by_cases r:j<dS s
  .have i:(s.C++List.replicate j fP.lve).length<=2000000000:=by rw[Dr,Cg];have:=m.o;omega
   have n:=U i;clear i
   go_wp2_with (first
    | (go_at_call 138;(refine(q9 c.o.wr 8 0 none none (x:=.lve) ⟨rfl,rfl,rfl,rfl⟩ n.o).mono ?_);rintro e w2 k
       obtain⟨vc2,vb2,qs2,rfl,d⟩:=k.cum;have l:=U (c.o.next d)
       clear k d))
   go_roundw
   case rel=>exact⟨j+1,vc2,vb2,qs2,O,by go_num,by have:=l.o;rw[show s.C++List.replicate (j+1) fP.lve=s.C++List.replicate j fP.lve++[fP.lve]by rw[List.replicate_succ',Ya]];exact this⟩
   case measure=>simp[intOf];omega
  .have q:j=dS s:=by omega
   subst q;go_wp2_with fail
   go_end0
   exact((gM.mono H.o Zb.drew).next c.o).post _
theorem v8(l:List St)(d:Nat):qZ l d=lB l (fJ l) d:=rfl
theorem o3{C b a:List fP}{x:fP}(c:b=C++[x]++a)(d:i=C.length):jl n b [i]=C++[nD n x]++a:=by
 subst c d;exact G0 C a x n
theorem wA{C b a:List fP}{x:fP}(c:b=C++[x]++a)(d:i=C.length)(e:OR x=true):LN b [i]:=by
 subst c d;exact LP C a x e
theorem G3(am:OY L B b m)(k bf:Int)(td:C3)(tc:List Ex)(tg th:List St)(w:C4)(v vc vb:C5)(s:f7)(qs:List Q4)(I:gC L B b w vc vb s qs)(ar:oT B w v (.mk k bf td tc tg th))(aA:zx tc 100=true)(az:fL tg m=true)(an:fL th m=true)(z:gV s (zH tc+2+qZ tg (dS s)+qZ th (dS s)) (m+1)):
 Cz 139 #[(b,0),v] w (vY L B b w vc vb (kQ s
  (qN tc s.C.length++.unl (s.C.length+zH tc+2+qZ tg (dS s))::(ko tg (s.C.length+zH tc+1) (dS s) s.lst 0++.jmp (s.C.length+zH tc+2+qZ tg (dS s)+qZ th (dS s))::ko th (s.C.length+zH tc+2+qZ tg (dS s)) (dS s) s.lst 0))
  (wU tg (s.C.length+zH tc+1) (dS s)++wU th (s.C.length+zH tc+2+qZ tg (dS s)) (dS s))) (.tuple #[])):=by
 obtain⟨g,o,rfl,ap,_,_,_,⟨_,f3,aw⟩,⟨bg,X,ax⟩,bh,Y,ay⟩:=ar.cells;have bl:B<=w.heap.size:=by have:=I.hB;have:=I.hL;have:=I.lt;omega
 have aq:g<w.heap.size:=O
 obtain⟨s1,c⟩:∃x:f7,x={ s with C:=s.C++qN tc s.C.length }:=⟨_,rfl⟩
 obtain⟨s2,f⟩:∃x:f7,x={ s1 with C:=s1.C++[fP.unl 0] }:=⟨_,rfl⟩
 obtain⟨j,l⟩:∃x:f7,x=kQ s2 (ko tg s2.C.length (dS s2) s2.lst 0) (wU tg s2.C.length (dS s2)):=⟨_,rfl⟩
 obtain⟨i,n⟩:∃x:f7,x={ j with C:=j.C++[fP.jmp 0] }:=⟨_,rfl⟩
 obtain⟨a,q⟩:∃x:f7,x={ i with C:=jl i.C.length i.C [s1.C.length] }:=⟨_,rfl⟩
 obtain⟨A,G⟩:∃x:f7,x=kQ a (ko th a.C.length (dS a) a.lst 0) (wU th a.C.length (dS a)):=⟨_,rfl⟩
 obtain⟨R,N⟩:∃x:f7,x={ A with C:=jl A.C.length A.C [j.C.length] }:=⟨_,rfl⟩
 have y:dS s2=dS s:=by rw[f,c]
 have F:dS a=dS s:=by rw[q,n,l,f,c]
 have ae:s1.C.length=s.C.length+zH tc:=by rw[c];show(s.C++_).length=_;rw[Dr,jG]
 have P:s2.C.length=s.C.length+zH tc+1:=by rw[f];show(s1.C++_).length=_;rw[Dr,ae];rfl
 have af:j.C.length=s.C.length+zH tc+1+qZ tg (dS s):=by rw[l];show(s2.C++_).length=_;rw[Dr,P,mX,y]
 have ag:i.C.length=s.C.length+zH tc+2+qZ tg (dS s):=by rw[n];show(j.C++[_]).length=_;rw[Dr,af,D8];omega
 have Q:a.C.length=s.C.length+zH tc+2+qZ tg (dS s):=by rw[q];show(jl _ i.C _).length=_;rw[uk,ag]
 have aH:A.C.length=s.C.length+zH tc+2+qZ tg (dS s)+qZ th (dS s):=by rw[G];show(a.C++_).length=_;rw[Dr,Q,mX,F]
 have a2:(wU tg s2.C.length (dS s2)).length<=qZ tg (dS s):=by rw[y];exact DQ (fun b d=>um tg b d) _ _
 have bb:=z.len;have a5:=z.bk;have au:gV s2 (qZ tg (dS s2)) (m+1):=⟨by rw[f,c];exact z.d,by rw[f,c];exact z.sc,by rw[P,y];omega,by rw[y,f,c];show s.bk.length+_<=_;omega⟩
 have av:gV a (qZ th (dS a)) (m+1):=⟨by rw[q,n,l,f,c];exact z.d,by rw[q,n,l,f,c];exact z.sc,by rw[Q,F];omega,by
  have a4:a.bk=s.bk++wU tg s2.C.length (dS s2):=by
   rw[q,n,l];show s2.bk++_=_;rw[show s2.bk=s.bk by rw[f,c]]
  rw[a4,F,Dr]
  omega⟩
 have r:i.C=s1.C++[fP.unl 0]++(ko tg s2.C.length (dS s2) s2.lst 0++[fP.jmp 0]):=by
  rw[n];show j.C++[fP.jmp 0]=_;rw[l];show s2.C++_++[fP.jmp 0]=_;rw[<-Ya,show s2.C=s1.C++[fP.unl 0]by rw[f]]
 have t:a.C=s1.C++[fP.unl i.C.length]++(ko tg s2.C.length (dS s2) s2.lst 0++[fP.jmp 0]):=by
  rw[q];exact o3 r rfl
 have J:a.C=s1.C++[fP.unl i.C.length]++ko tg s2.C.length (dS s2) s2.lst 0++[fP.jmp 0]:=by rw[t,Ya,Ya,Ya]
 have u:A.C=(s1.C++[fP.unl i.C.length]++ko tg s2.C.length (dS s2) s2.lst 0)++[fP.jmp 0]++ko th a.C.length (dS a) a.lst 0:=by
  rw[G];show a.C++_=_;rw[J]
 have ab:j.C.length=(s1.C++[fP.unl i.C.length]++ko tg s2.C.length (dS s2) s2.lst 0).length:=by rw[af,Dr,Dr,ae,D8,mX,y]
 have E:R.C=(s1.C++[fP.unl i.C.length]++ko tg s2.C.length (dS s2) s2.lst 0)++[fP.jmp A.C.length]++ko th a.C.length (dS a) a.lst 0:=by
  rw[N];exact o3 u ab
 have aU:=U (wA r rfl rfl);have aV:=U (wA u ab rfl)
 have ao:R=kQ s (qN tc s.C.length++.unl (s.C.length+zH tc+2+qZ tg (dS s))::(ko tg (s.C.length+zH tc+1) (dS s) s.lst 0++.jmp (s.C.length+zH tc+2+qZ tg (dS s)+qZ th (dS s))::ko th (s.C.length+zH tc+2+qZ tg (dS s)) (dS s) s.lst 0))
  (wU tg (s.C.length+zH tc+1) (dS s)++wU th (s.C.length+zH tc+2+qZ tg (dS s)) (dS s)):=by
  have a3:R={ s with C:=R.C,bk:=s.bk++wU tg s2.C.length (dS s2)++wU th a.C.length (dS a) }:=by
   rw[N,G,q,n,l,f,c]
  have bd:s2.lst=s.lst:=by rw[f,c]
  have be:a.lst=s.lst:=by rw[q,n,l,f,c]
  rw[a3,E,bd,be,y,F,P,Q,ag,aH,show s1.C=s.C++qN tc s.C.length by rw[c]];simp[kQ]
 have aT:=U ao;have a6:s.C.length+zH tc<=1000000000:=O
 have a7:s1.C.length<=2000000000:=O
 have a8:j.C.length<=2000000000:=O
 have a9:i.C.length<=2000000000:=O
 have ba:A.C.length<=2000000000:=O
 have a0:=U au;have a1:=U av;have T:=U (Dt aw (Dt ax ay));have S:=U (Dt aA (Dt az an));have H:=U I;have al:=U (Dt X Y);clear ar aw ax ay aA az an z y F ae P af ag Q aH a2 bb a5 au av r t J u ab E ao I X Y;have aJ:=U c;have aK:=U f;have aL:=U l;have aM:=U n;have aN:=U q;have aO:=U G;have aP:=U N;clear c f l n q G N;go_enter func139,ntmps139
 go_upto_region 1 with(first
  | (go_at_call 142;(refine(zAn (j4 L B b 100) H.o T.o.1 S.o.1 a6).mono ?_);rintro e w1 aB
     obtain⟨vc1,vb1,qs1,rfl,V⟩:=aB.cum;rw[<-aJ.o]at V;have K:=U V
     clear aB V))
 go_upto_region 2 with(first
  | (go_at_call 138;(refine(q9 K.o.wr 4 0 none none (x:=.unl 0) ⟨rfl,rfl,rfl,rfl⟩ a7).mono ?_);rintro e w2 aC
     obtain⟨vc2,vb2,qs2,rfl,D⟩:=aC.cum;rw[<-aK.o]at D;have aQ:=U (K.o.next D);have Z:=(K.o.next D).below H.o;have X:=(Z.cell (p:=(g,o+4)) ap).trans al.o.1;have bm:g<w2.heap.size:=Yb aq (K.o.next D).off.size;have aW:=U (am tg w2 bg vc2 vb2 s2 qs2 D.wr (T.o.2.1.below Z Zr) S.o.2.1 a0.o)
     clear aC D Z))
 go_upto_region 3 with(first
  | (go_at_call 154;(refine aW.o.mono ?_);rintro e _ aD
     obtain⟨_,_,_,rfl,W⟩:=aD.cum;rw[<-aL.o]at W;have aj:=U (aQ.o.next W)
     clear aD W))
 go_upto_region 4 with(first
  | (go_at_call 138;(refine(q9 aj.o.wr 3 0 none none (x:=.jmp 0) ⟨rfl,rfl,rfl,rfl⟩ a8).mono ?_);rintro e ah aE
     obtain⟨bi,_,_,rfl,r⟩:=aE.cum;rw[<-aM.o]at r;have M:=U ((aj.o.next r).next (gM.mono r.wr ((D4 ah.heap.size ah).alloc Zr (.cells #[((s1.C.length:Int):Int)] 3))));have aY:=U (j3 ah s1.C.length bi fun k ad=>(r.wr.tl (.inr (.inl ad))).2)
     clear aE r))
 go_upto_region 5 with(first
  | (go_at_call 155;(refine(ul (ps:=[s1.C.length]) M.o.wr aY.o aU.o a9 Uh).mono ?_);rintro e aI J
     obtain⟨bc,rfl,t⟩:=gM.land J;rw[<-aN.o]at t;have aR:=U (M.o.next t);have aa:=(M.o.next t).below H.o;have Y:=(aa.cell (p:=(g,o+5)) ap).trans al.o.2;have bn:g<aI.heap.size:=Yb aq (M.o.next t).off.size;have aX:=U (am th aI bh _ _ a bc t.wr (T.o.2.2.below aa Zr) S.o.2.2 a1.o)
     clear J t aa))
 go_upto_region 6 with(first
  | (go_at_call 154;(refine aX.o.mono ?_);rintro e ai aF
     obtain⟨bj,_,_,rfl,u⟩:=aF.cum;rw[<-aO.o]at u;have ak:=U ((aR.o.next u).next (gM.mono u.wr ((D4 ai.heap.size ai).alloc Zr (.cells #[((j.C.length:Int):Int)] 3))));have aZ:=U (j3 ai j.C.length bj fun k ad=>(u.wr.tl (.inr (.inl ad))).2)
     clear aF u))
 go_wp2_with (first
  | (go_at_call 155;(refine(ul (ps:=[j.C.length]) ak.o.wr aZ.o aV.o ba Uh).mono ?_);rintro e _ aG
     obtain⟨_,rfl,E⟩:=gM.land aG;rw[<-aP.o]at E;have aS:=U (ak.o.next E)
     clear aG E))
 go_end0
 exact(aS.o.cast aT.o).post _
