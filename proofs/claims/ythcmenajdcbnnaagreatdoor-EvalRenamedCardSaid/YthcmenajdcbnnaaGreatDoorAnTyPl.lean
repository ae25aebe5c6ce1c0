import Derived.Test.YthcmenajdcbnnaaGreatDoorAnRnMath
set_option linter.unusedSimpArgs false
set_option linter.unusedVariables false
set_option maxRecDepth 100000
set_option maxHeartbeats 99000000
namespace Go.Proofs.YthcmenajdcbnnaaGreatDoor
open Go.RowKit Tryz
theorem Ou{p:Prop}(h:p:=by
 go_roundw
 case rel=>exact⟨j+1,O,by go_num,Jv,i.o.trans (q.o.mono O)⟩
 case measure=>simp[intOf];omega):p:=h
theorem Ov{p:Prop}(h:p:=by
 go_wp2_with fail;go_roundw
 case rel=>exact⟨j+1,O,by go_num,Jv,i.o.alloc S _⟩
 case measure=>simp[intOf];omega):p:=h
theorem Ow{p:Prop}(h:p:=by
 cases j with
 |zero=>simp at b;subst b;rw[c];rfl
 |succ j=>rw[d Uz,Bool.or_true]):p:=h
theorem Ox{p:Prop}(h:p:=by
 go_ret
 exact⟨zC Vq,d.o.trans (r.o.mono O)⟩):p:=h
variable{op n:Int}{m j B C:Nat}{l:List St}{x:St}{p:Pr}{e:Ex}{v0 v1 v:C4}{w:C3}
theorem CF{td:C2}{tc:List Ex}(h:zk 4 op n td tc.length=true):∃a,tc=[a]:=by
 simp[zk]at h;exact List.length_eq_one_iff.1 h.2
theorem CG{td:C2}{tc:List Ex}(h:zk 5 op n td tc.length=true):∃a c,tc=[a,c]:=by
 simp[zk]at h
 match tc,h.2 with
 |[a,c],_=>exact⟨a,c,rfl⟩
theorem mA{td:C2}{tc:List Ex}(h:zk 6 op n td tc.length=true):∃a,tc=[a]:=by
 simp[zk]at h;exact List.length_eq_one_iff.1 h.2
theorem vM{k:Int}{td:C2}(a:zk k op n td m=true):k=1\/k=2\/k=3\/k=4\/k=5\/k=6\/k=7\/k=8:=by
 by_cases b:k=1\/k=2\/k=3\/k=4\/k=5\/k=6\/k=7\/k=8
 .exact b
 .exfalso
  unfold zk at a;rw[Dl O,Dl O,Dl O,Dl O,Dl O,Dl O,Dl O,Dl O]at a;cases a
def r8(a l:List Int)(j:Nat):Prop:=∀(i:Nat) t x,i<j->a[i]?=some t->l[i]?=some x->x=if t=0 then l.headD 0 else t
theorem r8.zero(b l:List Int):r8 b l 0:=fun i t x a=>absurd a O
theorem r8.succ{c l:List Int}{t x:Int}(d:r8 c l j)(g:c[j]?=some t)(k:l[j]?=some x)(e:x=if t=0 then l.headD 0 else t):r8 c l (j+1):=fun i m n _ a b=>by
 by_cases f:i=j
 .subst f
  rw[g]at a;rw[k]at b;injection a with a;injection b with b;rw[<-a,<-b];exact e
 .exact d i m n O a b
theorem AB{tf:List Pa}:∀{tc:List Ex}{l:List Int},zq p tf tc=.inr l->l.length=tc.length
 | [],l,h=>by
   rw[zq]at h;injection h with h;subst h;rfl
 | e::r,l,h=>by
   rw[zq]at h;split at h
   .cases h
   .cases hr:zq p tf r with
    |inl x=>rw[hr]at h;cases h
    |inr _=>
      rw[hr]at h;injection h with h;subst h;rw[Dp,Dp,AB hr]
theorem nV{tf:List Pa}:∀(a b:List Ex) {l:List Int},zq p tf a=.inr l->zq p tf (a++b)=match zq p tf b with | .inl x=>.inl x | .inr d=>.inr (l++d)
 | [],b,l,c=>by
   rw[zq]at c;injection c with c;subst c;rw[Yy];cases zq p tf b<;>rfl
 | e::r,b,l,c=>by
   rw[zq]at c;split at c
   .cases c
   .rename_i f
    cases hr:zq p tf r with
    |inl x=>rw[hr]at c;cases c
    |inr d=>
      rw[hr]at c;injection c with c;subst c;rw[Ys,zq,Dl f,nV r b hr];cases zq p tf b<;>rfl
theorem NT{tf:List Pa}(e:Ex):zq p tf [e]=if(qF p tf e).2≠0 then .inl (qF p tf e).2 else .inr [(qF p tf e).1]:=by
 rw[zq,zq]
theorem fK{tf:List Pa}{tc:List Ex}{l:List Int}(a:zq p tf (tc.take j)=.inr l)(c:tc[j]?=some e)(b:(qF p tf e).2=0):zq p tf (tc.take (j+1))=.inr (l++[(qF p tf e).1]):=by
 rw[Yr,c,Option.toList_some,nV _ _ a,NT,Dl Uz]
theorem iE{tf:List Pa}{tc:List Ex}{l:List Int}(b:zq p tf (tc.take j)=.inr l)(f:tc[j]?=some e)(c:(qF p tf e).2≠0):zq p tf tc=.inl (qF p tf e).2:=by
 obtain⟨i,g⟩:=List.getElem?_eq_some_iff.1 f;have d:tc.drop j=e::tc.drop (j+1):=by rw[List.drop_eq_getElem_cons i,g]
 have a:tc=tc.take j++(e::tc.drop (j+1)):=by rw[<-d,Ct]
 rw[a,nV _ _ b,zq,Dm c]
section
variable {p:Pr}{tf:List Pa}{k op n:Int}{s:C2}{tc:List Ex}
theorem yf:qF p tf (.mk k op n s tc)=if jp p tf k s=false then(0,50)else if kb p k s tc.length=false then(0,51)else match zq p tf tc with | .inl e=>(0,e) | .inr l=>j8 p tf k op s l:=by
 rw[qF]<;>cases zq p tf tc<;>rfl
theorem jg(hf:zk k op n s tc.length=true)(a:k=1\/k=2\/k=3\/k=8):tc=[]:=by
 refine Yj ?_;rcases a with rfl|rfl|rfl|rfl <;>(simp[zk]at hf;first|exact hf.2|(simp_all))
theorem R1(hf:zk k op n s tc.length=true)(a:(qA p tf k op s).2.2≠0):qF p tf (.mk k op n s tc)=(0,(qA p tf k op s).2.2):=by
 rw[yf];rcases vM hf with rfl|rfl|rfl|rfl|rfl|rfl|rfl|rfl
 .simp[qA]at a
 .simp[qA]at a
 .cases hv:zX tf s with
  |none=>simp[qA,jp,hv]
  |some t=>simp[qA,hv]at a
 .simp[qA]at a
 .simp[qA]at a
 .cases hv:ze p.wa s with
  |none=>simp[qA,jp,hv]
  |some t=>simp[qA,hv]at a
 .cases hv:qN p.funcs s with
  |none=>simp[qA,jp,AA,jN,hv]
  |some j=>
    obtain⟨f,b,_⟩:=ye hv;simp[qA,AA,jN,hv,b]at a
 .simp[qA]at a
theorem NU(hf:zk k op n s tc.length=true)(d:(qA p tf k op s).2.2=0)(b:(qA p tf k op s).1.length≠tc.length):qF p tf (.mk k op n s tc)=(0,51):=by
 rw[yf];rcases vM hf with rfl|rfl|rfl|rfl|rfl|rfl|rfl|rfl
 .have:=jg hf Up;subst this;simp[qA]at b
 .have:=jg hf Up;subst this;simp[qA]at b
 .have:=jg hf Up
  subst this;cases hv:zX tf s with
  |none=>simp[qA,hv]at d
  |some t=>simp[qA,hv]at b
 .obtain⟨a,rfl⟩:=CF hf;simp[qA]at b
 .obtain⟨a,c,rfl⟩:=CG hf;simp[qA]at b
 .obtain⟨a,rfl⟩:=mA hf
  cases hv:ze p.wa s with
  |none=>simp[qA,hv]at d
  |some t=>simp[qA,hv]at b
 .cases hv:qN p.funcs s with
  |none=>simp[qA,AA,jN,hv]at d
  |some j=>
    obtain⟨f,e,_⟩:=ye hv;simp[qA,AA,jN,hv,e]at b;simp[jp,kb,jN,hv,e];intro g;exact absurd g.symm b
 .have:=jg hf Up;subst this;simp[qA]at b
theorem K9(hf:zk k op n s tc.length=true)(a:(qA p tf k op s).2.2=0)(b:(qA p tf k op s).1.length=tc.length):qF p tf (.mk k op n s tc)=match zq p tf tc with | .inl e=>(0,e) | .inr l=>j8 p tf k op s l:=by
 rw[yf];rcases vM hf with rfl|rfl|rfl|rfl|rfl|rfl|rfl|rfl
 .simp[jp,kb]
 .simp[jp,kb]
 .cases hv:zX tf s with
  |none=>simp[qA,hv]at a
  |some t=>simp[jp,kb,hv]
 .simp[jp,kb]
 .simp[jp,kb]
 .cases hv:ze p.wa s with
  |none=>simp[qA,hv]at a
  |some t=>simp[jp,kb,hv]
 .cases hv:qN p.funcs s with
  |none=>simp[qA,AA,jN,hv]at a
  |some j=>
    obtain⟨f,c,_⟩:=ye hv;simp[qA,AA,jN,hv,c]at b;simp[jp,kb,jN,hv,c,b]
 .simp[jp,kb]
theorem X8(hf:zk k op n s tc.length=true)(a:(qA p tf k op s).2.2=0)(b:(qA p tf k op s).1.length=tc.length){e:Int}(ha:zq p tf tc=.inl e):qF p tf (.mk k op n s tc)=(0,e):=by
 rw[K9 hf a b,ha]
theorem R2{b l:List Int}(f:l.length=b.length)(d:∀t∈b,t≠0):r8 b l b.length↔l=b:=by
 constructor
 .intro e
  refine List.ext_getElem f fun i c a=>?_
  have:=e i b[i] l[i] a (Dz a) (Dz c);rwa [Dl (d _ (List.getElem_mem a))]at this
 .rintro rfl i t x _ c a
  rw[c]at a;injection a with a;rw[<-a,Dl (d t (Ye c))]
theorem R3(hp:l7 p)(hf:zk k op n s tc.length=true)(w:(qA p tf k op s).2.2=0)(B:(qA p tf k op s).1.length=tc.length){l:List Int}(ha:zq p tf tc=.inr l):
 (r8 (qA p tf k op s).1 l (qA p tf k op s).1.length->qF p tf (.mk k op n s tc)=((qA p tf k op s).2.1,0))/\(¬r8 (qA p tf k op s).1 l (qA p tf k op s).1.length->qF p tf (.mk k op n s tc)=(0,51)):=by
 have A:=AB ha;rw[K9 hf w B,ha];dsimp only;rcases vM hf with rfl|rfl|rfl|rfl|rfl|rfl|rfl|rfl
 .refine⟨fun _=>by simp[qA,j8],fun o=>absurd (fun i t x m=>?_) o⟩
  simp[qA]at m
 .refine⟨fun _=>by simp[qA,j8],fun o=>absurd (fun i t x m=>?_) o⟩
  simp[qA]at m
 .cases hv:zX tf s with
  |none=>simp[qA,hv]at w
  |some t=>
    refine⟨fun _=>by simp[qA,j8,hv],fun o=>absurd (fun i t x m=>?_) o⟩;simp[qA,hv]at m
 .obtain⟨a,rfl⟩:=CF hf
  match l,A with
  |[x],_=>
    refine⟨fun r=>?_,fun o=>?_⟩
    .have:=r 0 (jZ op) x Vn Vn rfl
     simp only[Cn]at this;simp only[qA,j8,Ca,List.all_nil];by_cases b:jZ op=0
     .simp[b]
     .rw[Dl b]at this
      simp[this]
    .by_cases b:jZ op=0\/x=jZ op
     .exfalso
      refine o fun i t v m d g=>?_
      simp[qA]at m d;subst m;simp at d g;subst d g;split
      .rfl
      .rename_i u;exact b.resolve_left u
     .simp[qA,j8,b]
 .obtain⟨a,c,rfl⟩:=CG hf
  match l,A with
  |[x,v],_=>
    refine⟨fun r=>?_,fun o=>?_⟩
    .have d:=r 0 (jZ op) x Vn Vn rfl
     have g:=r 1 (jZ op) v Vn Vn rfl;simp only[Cn]at d g;simp only[qA,j8,Ca,List.all_nil];by_cases b:jZ op=0
     .rw[Dm b]at g
      simp[b,g]
     .rw[Dl b]at d g
      simp[d,g]
    .by_cases b:(jZ op=0\/x=jZ op)/\(jZ op=0\/v=jZ op)/\v=x
     .exfalso
      refine o fun i t z m d g=>?_
      simp[qA]at m d
      match i,m with
      |0,_=>
        simp at d g;subst d g;split
        .rfl
        .rename_i u;exact b.1.resolve_left u
      |1,_=>
        simp at d g;subst d g;split
        .simpa using b.2.2
        .rename_i u;exact b.2.1.resolve_left u
     .simp only[qA,j8,Ca,List.all_nil,Cn]
      simp;intro D
      first
      |exact L fun y=>b ⟨D,y.1,y.2⟩
      |exact fun y G=>b ⟨D,y,G⟩
 .obtain⟨a,rfl⟩:=mA hf
  cases hv:ze p.wa s with
  |none=>simp[qA,hv]at w
  |some q=>
    match l,A with
    |[x],_=>
      refine⟨fun r=>?_,fun o=>?_⟩
      .have:=r 0 1 x Vl Vl rfl
       simp at this;simp[qA,j8,hv,this]
      .by_cases b:x=1
       .exfalso
        refine o fun i t v m d g=>?_
        simp[qA,hv]at m d;subst m;simp at d g;subst d g;simpa using b
       .simp[j8,b]
 .cases hv:qN p.funcs s with
  |none=>simp[qA,AA,jN,hv]at w
  |some j=>
    obtain⟨f,C,_⟩:=ye hv;have E:qA p tf 7 op s=(f.params.map (·.type),f.type,0):=by simp[qA,AA,jN,hv,C]
    have H:j8 p tf 7 op s l=if l=f.params.map (·.type)then(f.type,0)else(0,51):=by simp[j8,jN,hv,C]
    rw[E]at B
    have I:∀t∈f.params.map (·.type),t≠0:=fun t J=>by
     obtain⟨x,K,rfl⟩:=List.mem_map.1 J;rcases(hp f (Ye C)).2 x K with e|e<;>rw[e]<;>decide
    have F:=R2 (A.trans B.symm) I;rw[E,H];exact⟨fun r=>by rw[Dm (F.1 r)],fun o=>by rw[Dl fun e=>o (F.2 e)]⟩
 .refine⟨fun _=>by simp[qA,j8],fun o=>absurd (fun i t x m=>?_) o⟩
  simp[qA]at m
end
section
variable (B C D:Nat)(p:Pr)(tf:List Pa)(op n:Int)(s:C2)(A:Option Addr)(m c:Nat)(v0 v1 v:C4)(w:C3)
variable (hB:B<=w.heap.size)(hC:C<=w.heap.size)(hD:D<=w.heap.size)(ha:eZ B w v0 p.wa)(hf:e0 B w v1 p.funcs)(hS:gW w C (.pointer none) D v tf.reverse)(hp:l7 p)
include hB hC hD ha hf hS hp in
theorem k4(k:Int)(a:k=1\/k=2\/k=3\/k=4\/k=5\/k=6\/k=7\/k=8):Cy 153 #[.agg #[v0,v1],v,.agg #[(k:Int),(op:Int),(n:Int),s,(A,m,c)]] w (jw w (qA p tf k op s)):=by
 rcases a with rfl|rfl|rfl|rfl|rfl|rfl|rfl|rfl
 .exact IQ B C D p tf op n s A m c v0 v1 v w hB hC hD ha hf hS hp
 .exact CD B C D p tf op n s A m c v0 v1 v w hB hC hD ha hf hS hp
 .cases hv:zX tf s with
  |none=>
    have e:qA p tf 3 op s=([],0,50):=Vl
    rw[e];exact wQ B C D p tf op n s A m c v0 v1 v w hB hC hD ha hf hS hp hv
  |some t=>
    have e:qA p tf 3 op s=([],t,0):=Vl
    rw[e];exact r7 B C D p tf op n s A m c v0 v1 v w hB hC hD ha hf hS hp t hv
 .exact IR B C D p tf op n s A m c v0 v1 v w hB hC hD ha hf hS hp
 .exact IS B C D p tf op n s A m c v0 v1 v w hB hC hD ha hf hS hp
 .cases hv:ze p.wa s with
  |none=>
    have e:qA p tf 6 op s=([],0,50):=Vl
    rw[e];exact p0 B C D p tf op n s A m c v0 v1 v w hB hC hD ha hf hS hp hv
  |some t=>
    have e:qA p tf 6 op s=([1],1,0):=Vl
    rw[e];exact nU B C D p tf op n s A m c v0 v1 v w hB hC hD ha hf hS hp t hv
 .exact ES B C D p tf op n s A m c v0 v1 v w hB hC hD ha hf hS hp
 .exact ER B C D p tf op n s A m c v0 v1 v w hB hC hD ha hf hS hp
end
structure wK (B C:Nat) (p:Pr) (vars:List Pa) (v0 v1 v:C4) (w:C3):Prop where
 hB:B<=w.heap.size
 hC:C<=w.heap.size
 ha:eZ B w v0 p.wa
 hf:e0 B w v1 p.funcs
 hs:gW w C (.pointer none) w.heap.size v vars.reverse
theorem wK.below{tf:List Pa}{w':C3}(a:wK B C p tf v0 v1 v w)(b:Cx w w'):wK B C p tf v0 v1 v w' where
 hB:=Dr a.hB b.size
 hC:=Dr a.hC b.size
 ha:=a.ha.below (b.mono a.hB) Zr
 hf:=a.hf.below (b.mono a.hB) Zr
 hs:=(a.hs.below b).up b.size
theorem wK.form{tf:List Pa}(e:wK B C p tf v0 v1 v w):∃a c b d q,v0=.slice a p.wa.length c/\v1=.slice b p.funcs.length d/\v=.pointer q:=by
 obtain⟨a,c,f,_⟩:=e.ha.form;obtain⟨b,d,g,_⟩:=e.hf.form;obtain⟨q,i⟩:=(e.hs.fin (iD.nil _ _)).form;exact⟨a,c,b,d,q,f,g,i⟩
def TyC(m:Nat):Prop:=∀(B C:Nat) (p:Pr) (tf:List Pa) (e:Ex) (r:Int×Int) (x v0 v1 v:C4) (w:C3),vA e m=true->l7 p->qF p tf e=r->wK B C p tf v0 v1 v w->iY B w e x->
 Cy 136 #[.agg #[v0,v1],v,x] w (Cv (.tuple #[(r.1:Int),(r.2:Int)]) w)
theorem TyC.call(a:TyC m){tf:List Pa}{r:Int×Int}{x:C4}(b:vA e m=true)(c:l7 p)(d:qF p tf e=r)(f:wK B C p tf v0 v1 v w)(g:iY B w e x):
 Cy 136 #[.agg #[v0,v1],v,x] w (Cv (.tuple #[(r.1:Int),(r.2:Int)]) w):=a B C p tf e r x v0 v1 v w b c d f g
theorem rC{g:Nat}{b c d e f:C4}{T:TypeId}(a:w.heap[g]?=some (.cells #[b,c,d,e,f] T (0,0))):w.cell? (g,0)=some b/\w.cell? (g,1)=some c/\w.cell? (g,2)=some d/\w.cell? (g,3)=some e/\w.cell? (g,4)=some f:=
 ⟨(Ds a 0).trans rfl,(Ds a 1).trans rfl,(Ds a 2).trans rfl,(Ds a 3).trans rfl,(Ds a 4).trans rfl⟩
theorem ET(B C:Nat)(p:Pr)(tf:List Pa)(k op n:Int)(s:C2)(tc:List Ex)(r:Int×Int)(F v0 v1 v:C4)(w:C3)(f:zk k op n s tc.length=true)(hp:l7 p)(d:wK B C p tf v0 v1 v w)(E:xA B w F tc)
 (N:List Int) (K t:Int) (b:qA p tf k op s=(N,K,t)) (L:t≠0) (D:qF p tf (.mk k op n s tc)=r):
 Cy 136 #[.agg #[v0,v1],v,.agg #[(k:Int),(op:Int),(n:Int),s,F]] w (Cv (.tuple #[(r.1:Int),(r.2:Int)]) w):=by
 have z:=R1 f (p:=p) (tf:=tf) (by rw[b];exact L);rw[D,b]at z;subst z;obtain⟨g,l,i,m,q,rfl,rfl,rfl⟩:=d.form;obtain⟨A,c,rfl,_⟩:=E.form;have G:=U d;have J:=U hp;have I:=U (vM f);have H:=U b;clear d hp f b E D;go_enter func136,ntmps136
 go_wp2_with (go_at_call 153
              have a:=(G.o.below ((D1 w.heap.size w).alloc Zr (qW g p.wa.length l i p.funcs.length m))).below ((D1 (w.alloc (qW g p.wa.length l i p.funcs.length m)).heap.size _).alloc Zr (yy k op n s A tc.length c))
              (with_reducible refine(k4 B C _ p tf op n s A tc.length c _ _ _ _ a.hB a.hC Zr a.ha a.hf a.hs J.o k I.o).mono ?_)
              rw[H.o];rintro e P ⟨y,_,rfl,x,M⟩;obtain⟨_,_,rfl,_⟩:=x.form;have j:=C0 (Cx w P) (((Zb.alloc Zr _).alloc Ur _).trans (y.mono Uq))
              clear y x M a)
 go_ret2
 exact⟨rfl,j.o.alloc (by have:=j.o.size;omega) _⟩
theorem CH(B C:Nat)(p:Pr)(tf:List Pa)(k op n:Int)(s:C2)(tc:List Ex)(r:Int×Int)(H v0 v1 v:C4)(w:C3)(m:zk k op n s tc.length=true)(hp:l7 p)(j:wK B C p tf v0 v1 v w)(G:xA B w H tc)
 (x:List Int) (N:Int) (b:qA p tf k op s=(x,N,0)) (z:x.length≠tc.length) (F:qF p tf (.mk k op n s tc)=r):
 Cy 136 #[.agg #[v0,v1],v,.agg #[(k:Int),(op:Int),(n:Int),s,H]] w (Cv (.tuple #[(r.1:Int),(r.2:Int)]) w):=by
 have E:=NU m (p:=p) (tf:=tf) (by rw[b]) (by rw[b];exact z);rw[F]at E;subst E;obtain⟨d,g,f,i,q,rfl,rfl,rfl⟩:=j.form;obtain⟨A,c,rfl,_⟩:=G.form;have J:=U j;have M:=U hp;have L:=U (vM m);have K:=U b;have Q:(x.length:Int)≠(tc.length:Int):=O
 clear j hp m b G F z;go_enter func136,ntmps136
 go_wp2_with (go_at_call 153
              have a:=(J.o.below ((D1 w.heap.size w).alloc Zr (qW d p.wa.length g f p.funcs.length i))).below ((D1 (w.alloc (qW d p.wa.length g f p.funcs.length i)).heap.size _).alloc Zr (yy k op n s A tc.length c))
              (with_reducible refine(k4 B C _ p tf op n s A tc.length c _ _ _ _ a.hB a.hC Zr a.ha a.hf a.hs M.o k L.o).mono ?_)
              rw[K.o];rintro e y ⟨l,_,rfl,D,P⟩;obtain⟨_,_,rfl,_⟩:=D.form;have t:y.heap[w.heap.size+1]?=some (yy k op n s A tc.length c):=(l.block (w.heap.size+1) Ur).trans (by simpa using Dq (w.alloc (qW d p.wa.length g f p.funcs.length i)) (yy k op n s A tc.length c));obtain⟨_,_,_,_,_⟩:=rC t;have R:w.heap.size+1<y.heap.size:=zB t;have I:=C0 (Cx w y) (((Zb.alloc Zr _).alloc Ur _).trans (l.mono Uq))
              clear l D P a t)
 go_ret2
 exact⟨rfl,I.o.alloc O _⟩
theorem EU(m:Nat)(bf:TyC m)(B C:Nat)(p:Pr)(tf:List Pa)(k op n:Int)(s:C2)(tc:List Ex)(r:Int×Int)(bg v0 v1 v:C4)(w:C3)(u:zk k op n s tc.length=true)(a1:zr tc m=true)(hp:l7 p)(aD:wK B C p tf v0 v1 v w)(J:xA B w bg tc)
 (F:List Int) (W:Int) (M:qA p tf k op s=(F,W,0)) (ao:F.length=tc.length) (_:tc.length<=8) (a3:qF p tf (.mk k op n s tc)=r):
 Cy 136 #[.agg #[v0,v1],v,.agg #[(k:Int),(op:Int),(n:Int),s,bg]] w (Cv (.tuple #[(r.1:Int),(r.2:Int)]) w):=by
 have bi:=U (fun e=>X8 (p:=p) (tf:=tf) u (by rw[M]) (by rw[M];exact ao) (e:=e));have aw:=U (fun l=>R3 (p:=p) (tf:=tf) hp u (by rw[M]) (by rw[M];exact ao) (l:=l));obtain⟨ah,am,ai,an,q,rfl,rfl,rfl⟩:=aD.form;obtain⟨A,c,rfl,ap⟩:=J.form;obtain⟨bK,z,bc,bd,be⟩:=info_parts xK;have aj:=U (Do z (Do bc (Do bd be)));have K:=U aD;have ay:=U hp;have bk:=U (vM u);have Q:=U M;have ak:=U a3;have bl:=U a1;have aT:=U J;have aR:=U bf;clear aD hp u M J a3 z bc bd be a1 bf;go_enter func136,ntmps136
 go_wp2_with (first
  | (go_at_call 153
     have L:=(K.o.below ((D1 w.heap.size w).alloc Zr (qW ah p.wa.length am ai p.funcs.length an))).below ((D1 (w.alloc (qW ah p.wa.length am ai p.funcs.length an)).heap.size _).alloc Zr (yy k op n s A tc.length c))
     (with_reducible refine(k4 B C _ p tf op n s A tc.length c _ _ _ _ L.hB L.hC Zr L.ha L.hf L.hs ay.o k bk.o).mono ?_)
     rw[Q.o];rintro e b ⟨d,af,rfl,aE,bC⟩;obtain⟨P,V,rfl,_⟩:=aE.form;have N:b.heap[w.heap.size+1]?=some (yy k op n s A tc.length c):=(d.block (w.heap.size+1) Ur).trans (by simpa using Dq (w.alloc (qW ah p.wa.length am ai p.funcs.length an)) (yy k op n s A tc.length c));have aJ:b.heap[w.heap.size]?=some (qW ah p.wa.length am ai p.funcs.length an):=(d.block w.heap.size Uq).trans ((D3 _ _ _ Ur).trans (Dq w _));obtain⟨bt,bu,bv,bw,bx⟩:=rC N;have bT:w.heap.size+1<b.heap.size:=zB N;have bq:=U aJ;have br:=U N;have bp:=U (show wJ b.heap.size b (.slice P tc.length V) F by rw[<-ao];exact aE);have bh:=C0 (Cx w b) (((Zb.alloc Zr _).alloc Ur _).trans (d.mono Uq))
     clear d aE bC L N aJ)
  | (at_make;refine wpList_make_full _ rfl _ _ 23 rfl (b.heap.size+1) 3 bK (.int .i64 0) 1 underlying23 aj.o.1 aj.o.2.1 aj.o.2.2.1 .i64 .i64 _ _ tc.length rfl rfl rfl rfl (by rw[aj.o.2.2.2];omega) Vw Ur ?_
     intro ag aq Y;rw[zA]at aq;have aK:=(Y.block (w.heap.size+1) Uq Ur).trans ((D3 b (K8 (.slice P tc.length V) W) _ O).trans br.o);have a9:=(Y.block w.heap.size Uq Ur).trans ((D3 b (K8 (.slice P tc.length V) W) _ O).trans bq.o);have ba:=(Y.block b.heap.size Ur Ur).trans (Dq b (K8 (.slice P tc.length V) W));have bU:b.heap.size+1<ag.heap.size:=(zR aq _ rfl).2;obtain⟨_,_,_,_,_⟩:=rC aK;have bP:=U aK;have aU:=U a9;have bs:=U ba;have bm:=U aq;have aM:=C0 (Cx b ag) ((Zb.alloc Zr (K8 (.slice P tc.length V) W)).grown Y Ur fun k u=>by cases u)
     clear aq Y aK a9 ba))
 have bV:w.heap.size+1<ag.heap.size:=O
 clear bt bu bv bw bx
 go_loopw [39] (fun iv wr=>∃(j:Nat) (l:List Int) (ar:List C4),j<=tc.length/\iv=.int .i64 j/\l.length=j/\zq p tf (tc.take j)=.inr l/\Below (b.heap.size+1) ag wr/\wr.ownsRow (b.heap.size+1) 3 1 (.slice (some ⟨b.heap.size+1,0,none⟩) tc.length tc.length) tc.length ar/\∀(i:Nat) (t:Int),l[i]?=some t->ar[i]?=some (Value.int .i64 t)) (fun iv _=>tc.length-(intOf iv).toNat)
 case atStart=>exact⟨0,[],_,Dw _,rfl,rfl,by rw[Yu,zq],D1 _ _,bm.o,fun i t bA=>by cases bA⟩
 case round=>
  obtain⟨j,l,ar,bG,rfl,a0,a5,I,a2,bb⟩:=hrel;have bY:=I.size;have a8:Cx w wr:=bh.o.trans ((aM.o.mono O).trans (I.mono O));obtain⟨_,_⟩:=(zD ((I.block w.heap.size O).trans aU.o)).1;obtain⟨_,f1⟩:=(zD ((I.block b.heap.size O).trans bs.o)).1;have bQ:=U ((I.block (w.heap.size) O).trans aU.o);have aN:=U I;have H:=U a8;have R:=U a2;have al:=U a5;have aB:=U bb;have a4:b.heap.size+1<wr.heap.size:=O
  have bW:w.heap.size<wr.heap.size:=O
  have bX:b.heap.size<wr.heap.size:=O
  clear I a8 a2 a5 bb;by_cases aF:j<tc.length
  .obtain⟨⟨aa,ad,ab,ae,T⟩,X⟩:∃e,tc[j]?=some e:=⟨_,Dz aF⟩
   obtain⟨g,o,v',rfl,_,_,_,_,_,_,aG⟩:=(aT.o.below (H.o.mono K.o.hB) Zr).cells X;obtain⟨au,aC,rfl,_⟩:=aG.form;have bj:=C0 (iY B wr (.mk aa ad ab ae T) (.agg #[(aa:Int),(ad:Int),(ab:Int),ae,(au,T.length,aC)])) ⟨_,rfl,(aT.o.below (H.o.mono K.o.hB) Zr).range X,aG⟩;have bR:g<wr.heap.size:=by have:=K.o.hB;omega
   obtain⟨⟨t,f⟩,a6⟩:=Cz (qF p tf (.mk aa ad ab ae T));have y:=U a6;have aS:=U (jK bl.o X);have aO:=U X;obtain⟨af,a7⟩:∃af,ar[j]?=some af:=⟨_,Dz (by have:=R.o.1;omega)⟩
   have aA:=U a7;have aP:=U ((K.o.below H.o).below ((D1 wr.heap.size wr).alloc Zr (yy aa ad ab ae au T.length aC)));have aQ:=U (bj.o.below ((D1 B wr).alloc (by have:=K.o.hB;omega) (yy aa ad ab ae au T.length aC)) Zr);clear aG a6 X a7;by_cases aW:f=0
   .subst aW
    go_wp2_with (go_at_call 136
                 (with_reducible refine(aR.o.call aS.o ay.o y.o aP.o aQ.o).mono ?_)
                 rintro e E ⟨rfl,d⟩;have G:=zv (w':=E) R.o fun k u=>Gx
                 have bN:E.cell? (b.heap.size+1,j)=some af:=(G.cellAt j O).trans aA.o;have bO:E.frozen? (b.heap.size+1,j)=false:=G.frozenAt j;have bn:=U G;have bI:wr.heap.size+1<=E.heap.size:=by have:=d.size;simpa using this
                 have av:=U d
                 clear d G)
    go_roundw
    case rel=>
     have bD:Below (b.heap.size+1) ag E:=(aN.o.alloc O _).trans (av.o.mono Uq);have bJ:=(bn.o.stored j (.int .i64 t)).1;refine⟨j+1,l++[t],_,O,by go_num,by simp[a0],?_,bD.setCell (p:=(b.heap.size+1,j)) Zr _,bJ,fun i x z=>?_⟩
     .have:=fK al.o aO.o (by rw[y.o])
      rwa [y.o]at this
     .by_cases aZ:i=j
      .subst aZ
       rw[<-a0,List.getElem?_concat_length]at z;injection z with z;subst z;rw[List.getElem?_set_self (by have:=(List.getElem?_eq_some_iff.1 aA.o).1;exact this)]
      .rw[List.getElem?_set_ne (Ne.symm aZ)]
       refine aB.o i x ?_;rw[Yn]at z
       .exact z
       .have:=(List.getElem?_eq_some_iff.1 z).1
        simp at this;omega
    case measure=>simp[intOf];omega
   .go_wp2_with (go_at_call 136
                 (with_reducible refine(aR.o.call aS.o ay.o y.o aP.o aQ.o).mono ?_)
                 rintro e E ⟨rfl,d⟩;have G:=zv (w':=E) R.o fun k u=>Gx
                 have bN:E.cell? (b.heap.size+1,j)=some af:=(G.cellAt j O).trans aA.o;have bO:E.frozen? (b.heap.size+1,j)=false:=G.frozenAt j;have bI:wr.heap.size+1<=E.heap.size:=by have:=d.size;simpa using this
                 have av:=U d
                 clear d G)
    go_ret2
    have D:=bi.o f (by have:=iE al.o aO.o (by rw[y.o];exact aW);rwa [y.o]at this);rw[ak.o]at D;subst D;exact⟨rfl,(((H.o.alloc O _).trans (av.o.mono Uq))).setCell (p:=(b.heap.size+1,j)) (by show w.heap.size<=b.heap.size+1;omega) _⟩
  .have bH:j=tc.length:=by omega
   subst bH;have az:=U (show zq p tf tc=.inr l by have:=al.o;rwa [D9 Zr]at this);have bo:=U (bp.o.below ((aM.o.mono Zr).trans (aN.o.mono O)) Zr);clear al bG aF;go_wp2_with fail
   go_loopw [61] (fun iv bL=>∃i:Nat,i<=tc.length/\iv=.int .i64 i/\r8 F l i/\bL=wr) (fun iv _=>tc.length-(intOf iv).toNat)
   case atStart=>exact⟨0,Dw _,rfl,r8.zero _ _,rfl⟩
   case round=>
    obtain⟨i,z,rfl,aX,rfl⟩:=hrel;have ax:=U aX;clear aX;by_cases aF:i<tc.length
    .obtain⟨t,aH⟩:∃e,F[i]?=some e:=⟨_,Dz O⟩
     obtain⟨x,J⟩:∃e,l[i]?=some e:=⟨_,Dz O⟩
     obtain⟨bz,_,rfl,_,_⟩:=bo.o.cells aH;have aJ:wr.cell? (b.heap.size+1,i)=some (.int .i64 x):=(R.o.cellAt i O).trans (aB.o i x J);have bS:bz<wr.heap.size:=O
     have y:=U aH;have S:=U J;clear aH J;by_cases aI:t=0
     .subst aI
      have aY:l[0]?=some (l.headD 0):=by
       cases l with
       |nil=>have:=S.o;simp at this
       |cons a r=>rfl
      have N:wr.cell? (b.heap.size+1,0)=some (.int .i64 (l.headD 0)):=(R.o.cellAt 0 O).trans (aB.o 0 _ aY);obtain⟨bM,aL⟩:=Cz (l.headD 0);rw[aL]at N;have aV:=U aL;clear aY aL;by_cases Z:x=bM
      .subst Z
       go_wp2_with fail;go_roundw
       case rel=>exact⟨i+1,O,by go_num,ax.o.succ y.o S.o (by rw[Dm rfl,aV.o]),trivial⟩
       case measure=>simp[intOf];omega
      .go_wp2_with fail
       go_ret2
       have D:=(aw.o l az.o).2 (by rw[Q.o];intro ap;exact Z (by have:=ap i 0 x (by show i<F.length;omega) y.o S.o;rwa [Dm rfl,aV.o]at this));rw[ak.o]at D;subst D;exact⟨rfl,H.o⟩
     .by_cases Z:x=t
      .subst Z
       go_wp2_with fail;go_roundw
       case rel=>exact⟨i+1,O,by go_num,ax.o.succ y.o S.o (by rw[Dl aI]),trivial⟩
       case measure=>simp[intOf];omega
      .go_wp2_with fail
       go_ret2
       have D:=(aw.o l az.o).2 (by rw[Q.o];intro ap;exact Z (by have:=ap i t x (by show i<F.length;omega) y.o S.o;rwa [Dl aI]at this));rw[ak.o]at D;subst D;exact⟨rfl,H.o⟩
    .have bF:i=tc.length:=by omega
     subst bF;go_wp2_with fail
     go_ret2
     have D:=(aw.o l az.o).1 (by rw[Q.o];show r8 F l F.length;rw[ao];exact ax.o);rw[ak.o,Q.o]at D;subst D;exact⟨rfl,H.o⟩
theorem vz:∀m,TyC m
 | 0=>fun _ _ _ _ e _ _ _ _ _ _ b=>by
   obtain⟨k,op,n,s,tc⟩:=e;rw[ju]at b;simp at b
 | m+1=>fun B C p tf e r x v0 v1 v w b hp j g A=>by
   obtain⟨k,op,n,s,tc⟩:=e;rw[ju,Dv,Dv]at b;obtain⟨⟨_,hf⟩,y⟩:=b;rw[Yt]at y;obtain⟨o,rfl,_,l⟩:=A;obtain⟨⟨d,f,q⟩,i⟩:=Cz (qA p tf k op s);by_cases t:q=0
   .subst t
    by_cases u:d.length=tc.length
    .have z:tc.length<=8:=by
      rcases vM hf with rfl|rfl|rfl|rfl|rfl|rfl|rfl|rfl
      .rw[jg hf Up];decide
      .rw[jg hf Up];decide
      .rw[jg hf Up];decide
      .obtain⟨a,rfl⟩:=CF hf;simp
      .obtain⟨a,c,rfl⟩:=CG hf;simp
      .obtain⟨a,rfl⟩:=mA hf;simp
      .simp[zk]at hf;exact hf.2
      .rw[jg hf Up];decide
     exact EU m (vz m) B C p tf k op n s tc r o v0 v1 v w hf y hp g l d f i u z j
    .exact CH B C p tf k op n s tc r o v0 v1 v w hf hp g l d f i u j
   .exact ET B C p tf k op n s tc r o v0 v1 v w hf hp g l d f q i t j
def xE(p:Pr)(tf:List Pa):List Ex->Int->Int
 |[],_=>0
 |e::r,t=>if qu p tf e t≠0 then qu p tf e t else xE p tf r t
abbrev EV(v0 v1:C4)(g n:Int):Obj:=.cells #[v0,v1,(g:Int),(n:Int)] 153
theorem zM{g:Nat}{b c d e:C4}{T:TypeId}(a:w.heap[g]?=some (.cells #[b,c,d,e] T (0,0))):(w.cell? (g,0)=some b/\w.cell? (g,1)=some c/\w.cell? (g,2)=some d/\w.cell? (g,3)=some e)/\∀o,w.frozen? ⟨g,o,none⟩=false:=
 ⟨⟨(Ds a 0).trans rfl,(Ds a 1).trans rfl,(Ds a 2).trans rfl,(Ds a 3).trans rfl⟩,fun o=>Vv⟩
theorem fL{α:Type}{l:List α}{e:α}(a:l[j]?=some e):l.drop j=e::l.drop (j+1):=by
 obtain⟨c,b⟩:=List.getElem?_eq_some_iff.1 a;rw[List.drop_eq_getElem_cons c,b]
theorem yZ(B C b:Nat)(p:Pr)(tf:List Pa)(l:List Ex)(qt r:Int)(ar v0 v1 v:C4)(ax n:Int)(w:C3)(Y:wK B C p tf v0 v1 v w)(Z:w.heap[b]?=some (EV v0 v1 ax n))(ad:xA B w ar l)(am:zr l 100=true)(hp:l7 p)(an:xE p tf l qt=r):
 Cy 134 #[(b,0),ar,v,(qt:Int)] w (Cv (r:Int) w):=by
 obtain⟨L,W,M,X,q,rfl,rfl,rfl⟩:=Y.form;obtain⟨A,c,rfl,_⟩:=ad.form;have ay:=zB Z;have F:=U Y;have au:=U Z;have ah:=U ad;have av:=U am;have S:=U hp;have aw:=U an;clear Y Z ad am hp an;go_enter func134,ntmps134;go_wp2_with fail
 go_loopw [15] (fun iv wr=>∃j:Nat,j<=l.length/\iv=.int .i64 j/\xE p tf (l.drop j) qt=r/\Cx w wr) (fun iv _=>l.length-(intOf iv).toNat)
 case atStart=>exact⟨0,Dw _,rfl,aw.o,D1 _ _⟩
 case round=>
  obtain⟨j,_,rfl,ao,D⟩:=hrel;have ai:=U ao;have J:=U D;have af:=D.size;clear ao;by_cases az:j<l.length
  .obtain⟨⟨d,k,i,m,a⟩,G⟩:∃e,l[j]?=some e:=⟨_,Dz az⟩
   obtain⟨g,o,v',rfl,E,_,_,_,_,_,ae⟩:=(ah.o.below (D.mono F.o.hB) Zr).cells G;obtain⟨s,u,rfl,_⟩:=ae.form;have aF:g<wr.heap.size:=by have:=F.o.hB;omega
   have aa:b<wr.heap.size:=O
   obtain⟨⟨_,_,_,_⟩,_⟩:=zM ((D.block b ay).trans au.o);have aj:iY B wr (.mk d k i m a) (.agg #[(d:Int),(k:Int),(i:Int),m,(s,a.length,u)]):=⟨_,rfl,(ah.o.below (D.mono F.o.hB) Zr).range G,ae⟩
   have K:Cx wr (wr.alloc (yy d k i m s a.length u)).drew:=(Zb.alloc Zr _).drew;have Q:=U (aj.below (K.mono (by have:=F.o.hB;omega)) Zr);have P:=U ((F.o.below D).below K);have V:=U K;obtain⟨aA,aB,aC,aD,aE⟩:=rC (Dq wr (yy d k i m s a.length u));obtain⟨⟨t,f⟩,ag⟩:=Cz (qF p tf (.mk d k i m a));have T:=U ag;have R:=U (jK av.o G);have aq:qu p tf (.mk d k i m a) qt=if f=0 then(if t=qt then 0 else 51)else f:=by unfold qu;rw[ag]
   have ab:=ai.o;rw[fL G,xE,aq]at ab;have N:=U ab;clear ae ag G aj K aq ab D aA aB aC aD aE;by_cases al:f=0
   case pos=>
    subst al;by_cases ap:t=qt
    .subst ap
     go_wp2_with fail
     go_region_held3 (fun w'=>w'.cell? (b,0)=some (.slice L p.wa.length W)/\w'.cell? (b,1)=some (.slice M p.funcs.length X)/\w'.cell? (wr.heap.size,0)=some (.int .i64 d)/\w'.cell? (wr.heap.size,1)=some (.int .i64 k)/\w'.cell? (wr.heap.size,2)=some (.int .i64 i)/\w'.cell? (wr.heap.size,3)=some (.string m)/\w'.cell? (wr.heap.size,4)=some (.slice s a.length u))
      (first
        |(go_split_ands;refine⟨?_,?_,?_,?_,?_,?_,?_⟩ <;>(first|(rw[I];assumption)|(rw[H _ _ O];simp[*];done)|(simp[*];done)))
        |go_keep)
      (first
        | (go_at_call 136
           (refine((vz 100).call (w:=(wr.alloc (yy d k i m s a.length u)).drew) R.o S.o T.o P.o Q.o).mono ?_)
           rintro e y ⟨rfl,x⟩;have H:∀g o,g<wr.heap.size+1->y.cell? ⟨g,o,none⟩=(wr.alloc (yy d k i m s a.length u)).cell? ⟨g,o,none⟩:=fun g o E=>x.cell (p:=⟨g,o,none⟩) Jb
           have z:=C0 (Cx wr y) (V.o.trans (x.mono Kz));have I:∀o,y.cell? ⟨b,o,none⟩=wr.cell? ⟨b,o,none⟩:=fun o=>z.o.cell (p:=⟨b,o,none⟩) aa
           clear x))
     go_wp2_with fail;go_roundw
     case rel=>exact⟨j+1,O,by go_num,by have:=N.o;simpa using this,J.o.trans (z.o.mono af)⟩
     case measure=>simp[intOf];omega
    .go_wp2_with fail
     go_region_held3 (fun w'=>w'.cell? (b,0)=some (.slice L p.wa.length W)/\w'.cell? (b,1)=some (.slice M p.funcs.length X)/\w'.cell? (wr.heap.size,0)=some (.int .i64 d)/\w'.cell? (wr.heap.size,1)=some (.int .i64 k)/\w'.cell? (wr.heap.size,2)=some (.int .i64 i)/\w'.cell? (wr.heap.size,3)=some (.string m)/\w'.cell? (wr.heap.size,4)=some (.slice s a.length u))
      (first
        |(go_split_ands;refine⟨?_,?_,?_,?_,?_,?_,?_⟩ <;>(first|(rw[I];assumption)|(rw[H _ _ O];simp[*];done)|(simp[*];done)))
        |go_keep)
      (first
        | (go_at_call 136
           (refine((vz 100).call (w:=(wr.alloc (yy d k i m s a.length u)).drew) R.o S.o T.o P.o Q.o).mono ?_)
           rintro e y ⟨rfl,x⟩;have H:∀g o,g<wr.heap.size+1->y.cell? ⟨g,o,none⟩=(wr.alloc (yy d k i m s a.length u)).cell? ⟨g,o,none⟩:=fun g o E=>x.cell (p:=⟨g,o,none⟩) Jb
           have z:=C0 (Cx wr y) (V.o.trans (x.mono Kz));have I:∀o,y.cell? ⟨b,o,none⟩=wr.cell? ⟨b,o,none⟩:=fun o=>z.o.cell (p:=⟨b,o,none⟩) aa
           clear x))
     go_wp2_with fail;go_ret;exact⟨qK (by have:=N.o;simpa[ap]using this),J.o.trans (z.o.mono af)⟩
   case neg=>
    go_wp2_with fail
    go_region_held3 (fun w'=>w'.cell? (b,0)=some (.slice L p.wa.length W)/\w'.cell? (b,1)=some (.slice M p.funcs.length X)/\w'.cell? (wr.heap.size,0)=some (.int .i64 d)/\w'.cell? (wr.heap.size,1)=some (.int .i64 k)/\w'.cell? (wr.heap.size,2)=some (.int .i64 i)/\w'.cell? (wr.heap.size,3)=some (.string m)/\w'.cell? (wr.heap.size,4)=some (.slice s a.length u))
     (first
       |(go_split_ands;refine⟨?_,?_,?_,?_,?_,?_,?_⟩ <;>(first|(rw[I];assumption)|(rw[H _ _ O];simp[*];done)|(simp[*];done)))
       |go_keep)
     (first
       | (go_at_call 136
          (refine((vz 100).call (w:=(wr.alloc (yy d k i m s a.length u)).drew) R.o S.o T.o P.o Q.o).mono ?_)
          rintro e y ⟨rfl,x⟩;have H:∀g o,g<wr.heap.size+1->y.cell? ⟨g,o,none⟩=(wr.alloc (yy d k i m s a.length u)).cell? ⟨g,o,none⟩:=fun g o E=>x.cell (p:=⟨g,o,none⟩) Jb
          have z:=C0 (Cx wr y) (V.o.trans (x.mono Kz));have I:∀o,y.cell? ⟨b,o,none⟩=wr.cell? ⟨b,o,none⟩:=fun o=>z.o.cell (p:=⟨b,o,none⟩) aa
          clear x))
    go_wp2_with fail;go_ret;exact⟨qK (by have:=N.o;simpa[al]using this),J.o.trans (z.o.mono af)⟩
  .go_wp2_with fail
   go_ret;have ak:=ai.o;rw[List.drop_of_length_le O,xE]at ak;exact⟨qK ak,J.o⟩
theorem fM(b:l[j]?=some x):jD (l.take (j+1))=(jD (l.take j) || l0 x):=by
 induction l generalizing j with
 |nil=>simp at b
 |cons a r c=>
   cases j with
   |zero=>simp at b;subst b;rw[Y3,Yu,Yu,jD,jD];simp[jD]
   |succ j=>rw[Y3,Y3,jD,jD,c Uz,Bool.or_assoc]
theorem kG(b:l[j]?=some x):d9 (l.take (j+1))=(d9 (l.take j) || l1 x):=by
 induction l generalizing j with
 |nil=>simp at b
 |cons a r c=>
   cases j with
   |zero=>simp at b;subst b;rw[Y3,Yu,Yu,d9,d9];simp[d9]
   |succ j=>rw[Y3,Y3,d9,d9,c Uz,Bool.or_assoc]
theorem us(b:l[j]?=some x)(c:l0 x=true):jD l=true:=by
 induction l generalizing j with
 |nil=>simp at b
 |cons a r d=>
   rw[jD];exact Ow
theorem ut(b:l[j]?=some x)(c:l1 x=true):d9 l=true:=by
 induction l generalizing j with
 |nil=>simp at b
 |cons a r d=>
   rw[d9];exact Ow
def BkC(f:FuncId)(m:Nat):Prop:=∀(B:Nat) (l:List St) (b:Bool) (v:C4) (w:C3),d3 l m=true->jD l=b->B<=w.heap.size->eN B w v l->Cy f #[v] w (Cv b w)
theorem BkC.call{f:FuncId}(a:BkC f m){b:Bool}(c:d3 l m=true)(d:jD l=b)(e:B<=w.heap.size)(g:eN B w v l):Cy f #[v] w (Cv b w):=a B l b v w c d e g
def W6(f:FuncId)(m:Nat):Prop:=∀(B:Nat) (l:List St) (b:Bool) (v:C4) (w:C3),d3 l m=true->d9 l=b->B<=w.heap.size->eN B w v l->Cy f #[v] w (Cv b w)
theorem W6.call{f:FuncId}(a:W6 f m){b:Bool}(c:d3 l m=true)(d:d9 l=b)(e:B<=w.heap.size)(g:eN B w v l):Cy f #[v] w (Cv b w):=a B l b v w c d e g
theorem uu(c:d3 l m=true)(b:l[j]?=some x):fG x m=true:=by
 induction l generalizing j with
 |nil=>simp at b
 |cons a r d=>
   rw[d3,Dv]at c;cases j with
   |zero=>simp at b;subst b;exact c.1
   |succ j=>exact d c.2 Uz
abbrev qj(k a:Int)(s:C2)(b c d:C4):Obj:=.cells #[(k:Int),(a:Int),s,b,c,d] 139
theorem o6(m:Nat)(ae:∀m',m'+1=m->BkC 137 m'):BkC 137 m:=by
 intro B l b v w aa V hB L;obtain⟨A,c,rfl,_⟩:=L.form;have ah:=U L;have q:=U V;have aj:=U aa;have ag:=U ae;clear L V aa ae;go_enter func137,ntmps137;go_wp2_with fail
 go_loopw [7] (fun iv wr=>∃j:Nat,j<=l.length/\iv=.int .i64 j/\jD (l.take j)=false/\Cx w wr) (fun iv _=>l.length-(intOf iv).toNat)
 case atStart=>exact⟨0,Dw _,rfl,by rw[Yu,jD],D1 _ _⟩
 case round=>
  obtain⟨j,_,rfl,Z,s⟩:=hrel;have E:=U Z;have d:=U s;have ad:=s.size;clear Z;by_cases am:j<l.length
  .obtain⟨⟨k,u,td,tc,tg,th⟩,t⟩:∃e,l[j]?=some e:=⟨_,Dz am⟩
   obtain⟨g,o,_,_,_,rfl,_,_,_,_,_,_,_,ab,M,N⟩:=(ah.o.below (s.mono hB) Zr).cells t;obtain⟨x,F,rfl,_⟩:=ab.form;obtain⟨y,G,rfl,_⟩:=M.form;obtain⟨z,H,rfl,_⟩:=N.form;have n:=U t;have an:g<wr.heap.size:=O
   have f:=uu aj.o t;rw[jW]at f;simp only[Dv,decide_eq_true_eq]at f;obtain⟨m',rfl⟩:∃m',m=m'+1:=⟨m-1,O⟩
   rw[Yt]at f;have D:=U (ag.o m' rfl);have Q:=U f.1.2;have ai:=U f.2;have I:Below B wr (wr.alloc (qj k u td (.slice x tc.length F) (.slice y tg.length G) (.slice z th.length H))):=Zb.alloc O _;have R:=U (M.below I Zr);have ak:=U (N.below I Zr);obtain⟨S,W⟩:=Cz (jD tg);obtain⟨T,X⟩:=Cz (jD th);have C:=U W;have P:=U X;clear t ab M N f I W X s;have i:=U (show l0 (.mk k u td tc tg th)=(decide (k=6) || (decide (k=4)&&(S || T)))by rw[l0,C.o,P.o]);by_cases K:k=6
   .subst K
    go_wp2_with fail;go_ret;exact⟨zC Vq,d.o.alloc ad _⟩
   .have aq:(k == 6)=false:=by simp[K]
    by_cases J:k=4
    .subst J
     cases S
     .cases T
      all_goals
       go_wp2_with (first
        |(go_at_call 137;(with_reducible refine(D.o.call Q.o C.o Uq R.o).mono ?_);rintro e af ⟨rfl,a⟩;have p:=(D1 wr.heap.size wr).alloc Zr (qj 4 u td (.slice x tc.length F) (.slice y tg.length G) (.slice z th.length H)) |>.trans (a.mono Ur);obtain⟨_,_⟩:=qT a;have ao:wr.heap.size<af.heap.size:=Kl;have al:=U (ak.o.below (a.mono Uq) Zr);have r:=U p;clear a p)
        |(go_at_call 137;(with_reducible refine(D.o.call ai.o P.o O al.o).mono ?_);rintro e _ ⟨rfl,Y⟩))
      .go_roundw
       case rel=>exact⟨j+1,O,by go_num,by rw[fM n.o,E.o,i.o];rfl,d.o.trans ((r.o.trans (Y.mono O)).mono O)⟩
       case measure=>simp[intOf];omega
      .go_ret
       exact⟨zC Vq,d.o.trans ((r.o.trans (Y.mono O)).mono O)⟩
     .go_wp2_with (go_at_call 137;(with_reducible refine(D.o.call Q.o C.o Uq R.o).mono ?_);rintro e af ⟨rfl,a⟩;have p:=(D1 wr.heap.size wr).alloc Zr (qj 4 u td (.slice x tc.length F) (.slice y tg.length G) (.slice z th.length H)) |>.trans (a.mono Ur);have r:=U p;clear a p)
      exact Ox
    .have ap:(k == 4)=false:=by simp[J]
     go_wp2_with fail;go_roundw
     case rel=>exact⟨j+1,O,by go_num,by rw[fM n.o,E.o,i.o];simp[K,J],d.o.alloc ad _⟩
     case measure=>simp[intOf];omega
  .go_wp2_with fail
   go_ret;exact⟨zC (by rw[<-q.o,<-E.o,D9 O]),d.o⟩
theorem mB(m:Nat)(V:∀m',m'+1=m->BkC 101 m'):BkC 101 m:=by
 intro B l b v w S M hB D;obtain⟨A,c,rfl,_⟩:=D.form;have X:=U D;have q:=U M;have Z:=U S;have W:=U V;clear D M S V;go_enter func101,ntmps101;go_wp2_with fail
 go_loopw [3] (fun iv wr=>∃j:Nat,j<=l.length/\iv=.int .i64 j/\jD (l.take j)=false/\Cx w wr) (fun iv _=>l.length-(intOf iv).toNat)
 case atStart=>exact⟨0,Dw _,rfl,by rw[Yu,jD],D1 _ _⟩
 case round=>
  obtain⟨j,_,rfl,R,s⟩:=hrel;have y:=U R;have d:=U s;have ah:=s.size;clear R;by_cases ad:j<l.length
  .obtain⟨⟨k,ae,td,tc,tg,th⟩,t⟩:∃e,l[j]?=some e:=⟨_,Dz ad⟩
   obtain⟨g,o,_,_,_,rfl,_,_,_,_,_,_,_,T,E,F⟩:=(X.o.below (s.mono hB) Zr).cells t;obtain⟨_,_,rfl,_⟩:=T.form;obtain⟨_,_,rfl,_⟩:=E.form;obtain⟨_,_,rfl,_⟩:=F.form;have n:=U t;have af:g<wr.heap.size:=O
   have f:=uu Z.o t;rw[jW]at f;simp only[Dv,decide_eq_true_eq]at f;obtain⟨m',rfl⟩:∃m',m=m'+1:=⟨m-1,O⟩
   rw[Yt]at f;have x:=U (W.o m' rfl);have I:=U f.1.2;have Y:=U f.2;have J:=U E;have aa:=U F;obtain⟨K,N⟩:=Cz (jD tg);obtain⟨L,P⟩:=Cz (jD th);have u:=U N;have H:=U P;clear t T E F f N P s;have i:=U (show l0 (.mk k ae td tc tg th)=(decide (k=6) || (decide (k=4)&&(K || L)))by rw[l0,u.o,H.o]);by_cases C:k=6
   .subst C
    go_wp2_with fail;go_ret;exact⟨zC Vq,d.o⟩
   .have ak:(k == 6)=false:=by simp[C]
    by_cases z:k=4
    .subst z
     cases K
     .cases L
      all_goals
       go_wp2_with (first
        |(go_at_call 101;(with_reducible refine(x.o.call I.o u.o O J.o).mono ?_);rintro e G ⟨rfl,a⟩;have p:=a;obtain⟨_,_⟩:=qT a;have ag:g<G.heap.size:=Xh;have ai:wr.heap.size<=G.heap.size:=a.size;have ab:=U (aa.o.below (a.mono O) Zr);have r:=U p;clear a p)
        |(go_at_call 101;(with_reducible refine(x.o.call Y.o H.o O ab.o).mono ?_);rintro e _ ⟨rfl,Q⟩))
      .go_roundw
       case rel=>exact⟨j+1,O,by go_num,by rw[fM n.o,y.o,i.o];rfl,d.o.trans ((r.o.trans (Q.mono O)).mono O)⟩
       case measure=>simp[intOf];omega
      .go_ret
       exact⟨zC Vq,d.o.trans ((r.o.trans (Q.mono O)).mono O)⟩
     .go_wp2_with (go_at_call 101;(with_reducible refine(x.o.call I.o u.o O J.o).mono ?_);rintro e G ⟨rfl,a⟩;have p:=a;have r:=U p;clear a p)
      exact Ox
    .have aj:(k == 4)=false:=by simp[z]
     go_wp2_with fail;go_roundw
     case rel=>exact⟨j+1,O,by go_num,by rw[fM n.o,y.o,i.o];simp[C,z],d.o⟩
     case measure=>simp[intOf];omega
  .go_wp2_with fail
   go_ret;exact⟨zC (by rw[<-q.o,<-y.o,D9 O]),d.o⟩
theorem r9:∀m,BkC 137 m
 |0=>o6 0 fun _ h=>O
 | m+1=>o6 (m+1) fun m' h=>by
   obtain rfl:m'=m:=O
   exact r9 m'
theorem gX:∀m,BkC 101 m
 |0=>mB 0 fun _ h=>O
 | m+1=>mB (m+1) fun m' h=>by
   obtain rfl:m'=m:=O
   exact gX m'
abbrev nW(k a:Int)(s:C2)(b c d:C4):C4:=.agg #[(k:Int),(a:Int),s,b,c,d]
theorem EW(B:Nat)(A:Int)(td:C2)(tc:List Ex)(t:tc.length=1)(tg:List St)(m:Nat)(u:d3 tg m=true)(C D:C4)(q:Option Addr)(z s:Nat)(w:C3)(hB:B<=w.heap.size)(j:xA B w C tc)(k:eN B w D tg)(r:Bool)(x:(i9 tc&&!jD tg)=r):
 Cy 111 #[nW 5 A td C D (.slice q z s)] w (Cv r w):=by
 obtain⟨a,rfl⟩:=List.length_eq_one_iff.1 t;obtain⟨_,J,rfl,_⟩:=j.form;obtain⟨E,K,rfl,_⟩:=k.form;obtain⟨c,M,d,N,I⟩:=a;obtain⟨g,o,v',rfl,_,P,Q,R,S,T,_⟩:=j.cells (i:=0) rfl;rw[show o+0*5=o by omega]at P Q R S T;obtain⟨b,l⟩:=Cz (jD tg);have y:(decide (c=2)&&decide (d=1)&&!b)=r:=by rw[<-x,i9,l]
 have f:=U y;have G:=U l;have H:=U u;have F:=U (k.below ((D1 B w).alloc hB (qj 5 A td (.slice (some ⟨g,o,none⟩) 1 J) (.slice E tg.length K) (.slice q z s))) Zr);have V:g<w.heap.size:=O
 have v:([Ex.mk c M d N I]:List Ex).length=1:=rfl;rw[v];clear x y l u j k v t;by_cases n:c=2
 .subst n
  by_cases p:d=1
  .subst p
   go_enter func111,ntmps111;go_wp2_with (go_at_call 137;(with_reducible refine((r9 m).call H.o G.o Uq F.o).mono ?_);rintro e _ ⟨rfl,L⟩);go_ret;exact⟨zC (by rw[<-f.o];simp),(Zb.alloc Zr _).trans (L.mono Ur)⟩
  .have n1:(d == 1)=false:=by simp[p]
   go_enter func111,ntmps111;go_wp2_with fail;go_ret;exact⟨zC (by rw[<-f.o];simp[p]),Zb.alloc Zr _⟩
 .have n2:(c == 2)=false:=by simp[n]
  go_enter func111,ntmps111;go_wp2_with fail;go_ret;exact⟨zC (by rw[<-f.o];simp[n]),Zb.alloc Zr _⟩
theorem gY{f:Int}{td:C2}{a b c:Nat}{e:Bool}(d:zj 5 f td a b c e=true):a=1:=by
 simp[zj]at d;exact d.1.2
theorem AC(m:Nat)(aj:∀m',m'+1=m->W6 90 m'):W6 90 m:=by
 intro B l b v w ah aa hB P;obtain⟨A,c,rfl,_⟩:=P.form;have am:=U P;have y:=U aa;have ao:=U ah;have al:=U aj;clear P aa ah aj;go_enter func90,ntmps90;go_wp2_with fail
 go_loopw [7] (fun iv wr=>∃j:Nat,j<=l.length/\iv=.int .i64 j/\d9 (l.take j)=false/\Cx w wr) (fun iv _=>l.length-(intOf iv).toNat)
 case atStart=>exact⟨0,Dw _,rfl,by rw[Yu,d9],D1 _ _⟩
 case round=>
  obtain⟨j,_,rfl,ag,F⟩:=hrel;have s:=U ag;have d:=U F;have ai:=F.size;clear ag;by_cases au:j<l.length
  .obtain⟨⟨k,r,td,tc,tg,th⟩,G⟩:∃e,l[j]?=some e:=⟨_,Dz au⟩
   obtain⟨g,o,_,_,_,rfl,_,_,_,_,_,_,_,Q,R,S⟩:=(am.o.below (F.mono hB) Zr).cells G;obtain⟨t,z,rfl,_⟩:=Q.form;obtain⟨u,C,rfl,_⟩:=R.form;obtain⟨x,D,rfl,_⟩:=S.form;have n:=U G;have av:g<wr.heap.size:=O
   have q:=uu ao.o G;rw[jW]at q;simp only[Dv,decide_eq_true_eq]at q;obtain⟨m',rfl⟩:∃m',m=m'+1:=⟨m-1,O⟩
   rw[Yt]at q;have I:=U (al.o m' rfl);have J:=U q.1.2;have an:=U q.2;have ak:=U q.1.1.1.2;have E:Below B wr (wr.alloc (qj k r td (.slice t tc.length z) (.slice u tg.length C) (.slice x th.length D))):=Zb.alloc O _;have ap:=U (Q.below E Zr);have K:=U (R.below E Zr);have aq:=U (S.below E Zr);obtain⟨X,ab⟩:=Cz (d9 tg);obtain⟨Y,ad⟩:=Cz (d9 th);obtain⟨Z,af⟩:=Cz ((i9 tc&&!jD tg));have H:=U ab;have V:=U ad;have W:=U af;clear G Q R S q E ab ad af F;have i:=U (show l1 (.mk k r td tc tg th)=(decide (k=8) || (decide (k=4)&&(X&&Y)) || (decide (k=5)&&Z))by rw[l1,H.o,V.o,W.o]);by_cases N:k=8
   .subst N
    go_wp2_with fail;go_ret;exact⟨zC Je,d.o.alloc ai _⟩
   .have az:(k == 8)=false:=by simp[N]
    by_cases L:k=4
    .subst L
     cases X
     .go_wp2_with (go_at_call 90;(with_reducible refine(I.o.call J.o H.o Uq K.o).mono ?_);rintro e T ⟨rfl,a⟩;have f:=(D1 wr.heap.size wr).alloc Zr (qj 4 r td (.slice t tc.length z) (.slice u tg.length C) (.slice x th.length D)) |>.trans (a.mono Ur);have p:=U f;clear a f)
      go_roundw
      case rel=>exact⟨j+1,O,by go_num,Jw,d.o.trans (p.o.mono O)⟩
      case measure=>simp[intOf];omega
     .cases Y
      all_goals
       go_wp2_with (first
        |(go_at_call 90;(with_reducible refine(I.o.call J.o H.o Uq K.o).mono ?_);rintro e T ⟨rfl,a⟩;have f:=(D1 wr.heap.size wr).alloc Zr (qj 4 r td (.slice t tc.length z) (.slice u tg.length C) (.slice x th.length D)) |>.trans (a.mono Ur);obtain⟨_,_⟩:=qT a;have aw:wr.heap.size<T.heap.size:=Kl;have ar:=U (aq.o.below (a.mono Uq) Zr);have p:=U f;clear a f)
        |(go_at_call 90;(with_reducible refine(I.o.call an.o V.o O ar.o).mono ?_);rintro e _ ⟨rfl,ae⟩))
      .go_roundw
       case rel=>exact⟨j+1,O,by go_num,Jw,d.o.trans ((p.o.trans (ae.mono O)).mono O)⟩
       case measure=>simp[intOf];omega
      .go_ret
       exact⟨zC Je,d.o.trans ((p.o.trans (ae.mono O)).mono O)⟩
    .have ax:(k == 4)=false:=by simp[L]
     by_cases M:k=5
     .subst M
      cases Z
      all_goals
       go_wp2_with (go_at_call 111;(with_reducible refine(EW B r td tc (gY ak.o) tg m' J.o _ _ _ _ _ _ Uq ap.o K.o _ W.o).mono ?_);rintro e T ⟨rfl,a⟩;have f:=(D1 wr.heap.size wr).alloc Zr (qj 5 r td (.slice t tc.length z) (.slice u tg.length C) (.slice x th.length D)) |>.trans (a.mono Ur);have p:=U f;clear a f)
      .go_roundw
       case rel=>exact⟨j+1,O,by go_num,Jw,d.o.trans (p.o.mono O)⟩
       case measure=>simp[intOf];omega
      .go_ret
       exact⟨zC Je,d.o.trans (p.o.mono O)⟩
     .have ay:(k == 5)=false:=by simp[M]
      go_wp2_with fail;go_roundw
      case rel=>exact⟨j+1,O,by go_num,by rw[kG n.o,s.o,i.o];simp[N,L,M],d.o.alloc ai _⟩
      case measure=>simp[intOf];omega
  .go_wp2_with fail
   go_ret;exact⟨zC (by rw[<-y.o,<-s.o,D9 O]),d.o⟩
theorem sA:∀m,W6 90 m
 |0=>AC 0 fun _ h=>O
 | m+1=>AC (m+1) fun m' h=>by
   obtain rfl:m'=m:=O
   exact sA m'
theorem sB(m:Nat)(aA:∀m',m'+1=m->W6 74 m'):W6 74 m:=by
 intro B l b v w az au hB af;obtain⟨A,c,rfl,_⟩:=af.form;have aC:=U af;have J:=U au;have aE:=U az;have aB:=U aA;clear af au az aA;go_enter func74,ntmps74;go_wp2_with fail
 go_loopw [3] (fun iv wr=>∃j:Nat,j<=l.length/\iv=.int .i64 j/\d9 (l.take j)=false/\Cx w wr) (fun iv _=>l.length-(intOf iv).toNat)
 case atStart=>exact⟨0,Dw _,rfl,by rw[Yu,d9],D1 _ _⟩
 case round=>
  obtain⟨j,_,rfl,ay,P⟩:=hrel;have s:=U ay;have i:=U P;have S:=P.size;clear ay;by_cases aK:j<l.length
  .obtain⟨⟨k,z,td,tc,tg,th⟩,Q⟩:∃e,l[j]?=some e:=⟨_,Dz aK⟩
   obtain⟨g,o,_,_,_,rfl,_,_,_,_,_,_,_,R,ah,ai⟩:=(aC.o.below (P.mono hB) Zr).cells Q;obtain⟨V,E,rfl,_⟩:=R.form;obtain⟨C,F,rfl,_⟩:=ah.form;obtain⟨D,G,rfl,_⟩:=ai.form;have p:=U Q;have aT:g<wr.heap.size:=O
   have u:=uu aE.o Q;rw[jW]at u;simp only[Dv,decide_eq_true_eq]at u;obtain⟨m',rfl⟩:∃m',m=m'+1:=⟨m-1,O⟩
   rw[Yt]at u;have X:=U (aB.o m' rfl);have L:=U u.1.2;have aD:=U u.2;have ao:=U u.1.1.1.2;have N:Below B wr (wr.alloc (qj k z td (.slice V tc.length E) (.slice C tg.length F) (.slice D th.length G))):=Zb.alloc O _;have aF:=U R;have aS:=U (R.below N Zr);have M:=U (ah.below N Zr);have aG:=U (ai.below N Zr);obtain⟨ap,av⟩:=Cz (d9 tg);obtain⟨aq,aw⟩:=Cz (d9 th);obtain⟨y,ax⟩:=Cz ((i9 tc&&!jD tg));have W:=U av;have al:=U aw;have am:=U ax;clear Q R ah ai u N av aw ax P;have n:=U (show l1 (.mk k z td tc tg th)=(decide (k=8) || (decide (k=4)&&(ap&&aq)) || (decide (k=5)&&y))by rw[l1,W.o,al.o,am.o]);by_cases ad:k=8
   .subst ad
    go_wp2_with fail;go_ret;exact⟨zC Jf,i.o.alloc S _⟩
   .have a1:(k == 8)=false:=by simp[ad]
    by_cases aa:k=4
    .subst aa
     cases ap
     .go_wp2_with (go_at_call 74;(with_reducible refine(X.o.call L.o W.o Uq M.o).mono ?_);rintro e I ⟨rfl,d⟩;have f:=(D1 wr.heap.size wr).alloc Zr (qj 4 z td (.slice V tc.length E) (.slice C tg.length F) (.slice D th.length G)) |>.trans (d.mono Ur);obtain⟨aI,aJ⟩:=qT d;have aL:wr.heap.size<I.heap.size:=Km;have q:=U f;clear d f)
      exact Ou
     .cases aq
      all_goals
       go_wp2_with (first
        |(go_at_call 74;(with_reducible refine(X.o.call L.o W.o Uq M.o).mono ?_);rintro e I ⟨rfl,d⟩;have f:=(D1 wr.heap.size wr).alloc Zr (qj 4 z td (.slice V tc.length E) (.slice C tg.length F) (.slice D th.length G)) |>.trans (d.mono Ur);obtain⟨aI,aJ⟩:=qT d;have aL:wr.heap.size<I.heap.size:=Km;have aH:=U (aG.o.below (d.mono Uq) Zr);have q:=U f;clear d f)
        |(go_at_call 74;(with_reducible refine(X.o.call aD.o al.o O aH.o).mono ?_);rintro e aM ⟨rfl,t⟩;obtain⟨_,_⟩:=qT t;have aW:wr.heap.size<aM.heap.size:=(by have:=t.size;omega)))
      .go_roundw
       case rel=>exact⟨j+1,O,by go_num,Jv,i.o.trans ((q.o.trans (t.mono O)).mono O)⟩
       case measure=>simp[intOf];omega
      .go_ret
       exact⟨zC Jf,i.o.trans ((q.o.trans (t.mono O)).mono O)⟩
    .have aZ:(k == 4)=false:=by simp[aa]
     by_cases ab:k=5
     .subst ab
      obtain⟨⟨aj,_,ak,_,_⟩,H⟩:∃a,tc[0]?=some a:=⟨_,Dz (by rw[gY ao.o];omega)⟩
      obtain⟨Y,T,v',rfl,_,aN,aO,aP,aQ,aR,_⟩:=aF.o.cells H;rw[show T+0*5=T by omega]at aN aO aP aQ aR;have aU:Y<wr.heap.size:=O
      have aV:0<tc.length:=by rw[gY ao.o];omega
      obtain⟨b,Z⟩:=Cz (jD tg)
      have t:(decide (aj=2)&&decide (ak=1)&&!b)=y:=by
       rw[<-am.o,Z];cases tc with
       |nil=>simp at H
       |cons x r=>simp at H;subst H;rfl
      have an:=U Z;have K:=U t;clear Z t H;by_cases ae:aj=2
      .subst ae
       by_cases ag:ak=1
       .subst ag
        cases b
        .obtain rfl:y=true:=by rw[<-K.o];rfl
         go_wp2_with (go_at_call 101;(with_reducible refine((gX m').call L.o an.o Uq M.o).mono ?_);rintro e I ⟨rfl,d⟩;have f:=(D1 wr.heap.size wr).alloc Zr (qj 5 z td (.slice (some ⟨Y,T,none⟩) tc.length E) (.slice C tg.length F) (.slice D th.length G)) |>.trans (d.mono Ur);have q:=U f;clear d f);go_ret;exact⟨zC Jf,i.o.trans (q.o.mono O)⟩
        .obtain rfl:y=false:=by rw[<-K.o];rfl
         go_wp2_with (go_at_call 101;(with_reducible refine((gX m').call L.o an.o Uq M.o).mono ?_);rintro e I ⟨rfl,d⟩;have f:=(D1 wr.heap.size wr).alloc Zr (qj 5 z td (.slice (some ⟨Y,T,none⟩) tc.length E) (.slice C tg.length F) (.slice D th.length G)) |>.trans (d.mono Ur);have q:=U f;clear d f);exact Ou
       .obtain rfl:y=false:=by rw[<-K.o];simp[ag]
        have aX:(ak == 1)=false:=by simp[ag]
        exact Ov
      .obtain rfl:y=false:=by rw[<-K.o];simp[ae]
       have aY:(aj == 2)=false:=by simp[ae]
       exact Ov
     .have a0:(k == 5)=false:=by simp[ab]
      go_wp2_with fail;go_roundw
      case rel=>exact⟨j+1,O,by go_num,by rw[kG p.o,s.o,n.o];simp[ad,aa,ab],i.o.alloc S _⟩
      case measure=>simp[intOf];omega
  .go_wp2_with fail
   go_ret;exact⟨zC (by rw[<-J.o,<-s.o,D9 O]),i.o⟩
theorem nX:∀m,W6 74 m
 |0=>sB 0 fun _ h=>O
 | m+1=>sB (m+1) fun m' h=>by
   obtain rfl:m'=m:=O
   exact nX m'
