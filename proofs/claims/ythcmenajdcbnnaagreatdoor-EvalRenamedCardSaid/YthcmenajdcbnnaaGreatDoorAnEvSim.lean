import Derived.Test.YthcmenajdcbnnaaGreatDoorAnEvVm
set_option linter.unusedSimpArgs false
set_option linter.unusedVariables false
set_option maxRecDepth 100000
set_option maxHeartbeats 99000000
namespace Go.Proofs.YthcmenajdcbnnaaGreatDoor
open Go.RowKit Tryz
theorem Il{p:Prop}(h:p:=by
 show To p K _ (kJ _ _ _ _ _ _ (0,0,_) u);unfold kJ;rw[Dm rfl]
 exact To.one f):p:=h
theorem Im{p:Prop}(h:p:=by
 obtain⟨k,ty,td,tc,tg,th⟩:=t
 exact⟨_,oB p g vs k ty td tc tg th s⟩):p:=h
variable{p:Pr}{K g m a d c b:Nat}{vs ws:d2}{k ft ty:Int}{v l:List Int}{f:Fu}
section
variable {p:Pr}{K:Nat}{s t:RS}{v:List Int}{vs:d2}{o:List Nat}
theorem Lm.mono(h:Lm K s v vs o)(_:t.fuel<=s.fuel)(_:t.cost+t.fuel<=s.cost+s.fuel):Lm K t v vs o:=⟨by have:=h.v;omega,by have:=h.c;omega,by have:=h.vs;omega,h.o⟩
theorem Lm.mv(h:Lm K s v vs o)(m:Mv s t):Lm K t v vs o:=h.mono m.fuel m.pay
theorem Lm.push(h:Lm K s v vs o)(m:Mv s t)(_:t.fuel+1<=s.fuel)(a:Int):Lm K t (v++[a]) vs o:=⟨by have:=h.v;rw[Dn,D2];omega,(h.mv m).c,(h.mv m).vs,h.o⟩
end
theorem F4{f:Ex->RS->eD Int}(i:∀e s,zw s 1 (f e s)):∀{l:List Ex}{s t:RS}{q:List Int},j0 f l s=.ok q t->t.fuel+l.length<=s.fuel
 |[],s,t,q,c=>by rw[j0]at c;injection c with _ c;subst c;exact Dy _
 | e::r,s,t,q,c=>by
   rw[j0]at c;have g:=i e s;cases hx:f e s with
   |fin d=>rw[hx]at c;cases c
   |ok a d=>
     rw[hx]at c g;have c:(j0 f r d).bind (fun l s=>eD.ok (a::l) s)=.ok q t:=c;cases hy:j0 f r d with
     |fin v=>rw[hy]at c;cases c
     |ok b v=>
       rw[hy]at c;injection c with _ c;have:=F4 i hy;have:=g.2.1;rw[Dp];subst c;omega
structure Lp where
 st:Nat
 br:Nat
 n:Nat
 o:List Nat
structure InL (lp:Lp) (vs:d2) (o:List Nat) (d:Nat):Prop where
 ex:∃q,o=lp.o++q/\q.length=d/\(∀x∈q,lp.n<=x)/\(q=[]->vs.length=lp.n)/\(∀x y,q=x::y->x=lp.n)
def kJ(lp:Lp)(tn:List d5)(b:Nat)(o:List Nat)(v:List Int)(r:List Fr)(a:uK)(t:RS):VR:=
 if a.1=0 then .go ⟨t,v,⟨tn,b,a.2.2,o⟩::r⟩
 else if a.1=1 then .go ⟨t,v,⟨tn,lp.br,a.2.2.take lp.n,lp.o⟩::r⟩
 else if a.1=2 then .go ⟨t,v,⟨tn,lp.st,a.2.2.take lp.n,lp.o⟩::r⟩
 else YW v r a.2.1 t
def OT(p:Pr)(K g:Nat):Prop:=∀(x:Ex) (tf:List Pa) (vs:d2) (s:RS) (m:Nat) (v:List Int) (tn:List d5) (b:Nat) (o:List Nat) (r:List Fr),
 s.fuel<=g->g1 p s->(qF p tf x).2=0->vA x m=true->vW vs=tf.map (·.name)->wL tn b (yt x b)->Lm K s v vs o->
 Sm p K ⟨s,v,⟨tn,b,vs,o⟩::r⟩ (uL p g vs x s) (fun a t=>.go ⟨t,v++[a],⟨tn,b+zu x,vs,o⟩::r⟩)
def F5(p:Pr)(K g:Nat):Prop:=∀(st:St) (ft:Int) (tf:List Pa) (vs:d2) (frm:Nat) (ti:Bool) (n:Nat) (s:RS) (m:Nat) (v:List Int) (tn:List d5) (b:Nat) (o:List Nat) (r:List Fr) (d:Nat) (lp:Lp),
 s.fuel<=g->g1 p s->fG st m=true->(yn p ft st tf frm ti n).1=0->vW vs=tf.map (·.name)->wL tn b (xL st b d lp.st lp.br)->Lm K s v vs o->o.length+m<=100->lp.n<=vs.length->(ti=true->InL lp vs o d)->
 Sm p K ⟨s,v,⟨tn,b,vs,o⟩::r⟩ (kM p g vs st s) (kJ lp tn (b+xF st d) o v r)
theorem zat(f:wR p)(e:OT p K g){tf:List Pa}(i:vW vs=tf.map (·.name)){tn:List d5}{o:List Nat}{r:List Fr}{m:Nat}:∀(l:List Ex) (s:RS) (v:List Int) (b:Nat),
 s.fuel<=g->g1 p s->(∀x∈l,(qF p tf x).2=0)->zr l m=true->wL tn b (qP l b)->Lm K s v vs o->
 Sm p K ⟨s,v,⟨tn,b,vs,o⟩::r⟩ (j0 (uL p g vs) l s) (fun q t=>.go ⟨t,v++q,⟨tn,b+zG l,vs,o⟩::r⟩)
 | [],s,v,b,_,_,_,_,_,_=>by
   rw[j0];show To p K _ (.go ⟨s,v++[],⟨tn,b+0,vs,o⟩::r⟩);rw[D8];exact To.refl
 | x::q,s,v,b,hg,hs,ht,hok,hsub,hL=>by
   rw[qP]at hsub;rw[qr,Dv]at hok;have k:=ht x (Y4 ..);rw[j0];refine(e x tf vs s m v tn b o r hg hs k hok.1 i hsub.left hL).bind fun a t n u=>?_
   have c:=jk p g vs x s;have d:=(xm p f g).1 tf vs x s hg hs k;rw[n]at c d;refine Sm.go u ((zat f e i q t (v++[a]) (b+zu x) (by have:=c.2.1;omega) d (fun z w=>ht z (Yz _ w)) hok.2 (hsub.right (by rw[yE])) (hL.push c.1 c.2.1 a)).bind fun l y _ j=>?_);show To p K _ (.go ⟨y,v++(a::l),⟨tn,b+zG (x::q),vs,o⟩::r⟩);rw[D7,Cu]at j;rw[zG,<-Cl,<-Cu (l:=l),<-D7]at *;exact j
theorem JM(p:Pr)(c c':Fu->List Int->RS->eD Int)(vs:d2)(op n:Int)(td:C2)(l:List Int)(s:RS)(h:k≠7):qX p c vs k op n td l s=qX p c' vs k op n td l s:=by
 unfold qX;simp only[Dl h]
theorem AY{op n:Int}{td:C2}(h:zk 5 op n td a=true):a=2:=by
 unfold zk at h;rw[Dl Up,Dl Up,Dl Up,Dl Up,Dm rfl]at h;simp only[Dv,decide_eq_true_eq]at h;exact h.2
theorem TP(v l:List Int):(v++l).drop ((v++l).length-l.length)=l/\(v++l).take ((v++l).length-l.length)=v:=by
 rw[show(v++l).length-l.length=v.length by simp];exact⟨List.drop_left' rfl,List.take_left' rfl⟩
theorem jS{α:Type}(v:List α)(a:α):(v++[a]).getLast? =some a:=Ur
theorem jA{α:Type}(v:List α)(a:α):(v++[a]).dropLast=v:=Ur
structure TQ (p:Pr):Prop where
 r:wR p
 e:∀f∈p.funcs,d9 f.body=true
theorem fU(h:vW ws=vW vs):ws.length=vs.length:=by have:=congrArg List.length h;simpa[vW]using this
theorem InL.let{lp:Lp}{o:List Nat}(a:InL lp vs o d)(_:ws.length=vs.length\/d≠0):InL lp ws o d:=by
 obtain⟨⟨q,c,b,e,f,g⟩⟩:=a;refine⟨⟨q,c,b,e,fun a=>?_,g⟩⟩;have:=f a;subst a;have b:0=d:=b;omega
theorem C5(B:wR p)(C:F5 p K g){ft:Int}{tn:List d5}{o:List Nat}{r:List Fr}{d:Nat}{lp:Lp}{v:List Int}{m:Nat}{ti:Bool}{frm:Nat}:∀(l:List St) (tf:List Pa) (vs:d2) (n:Nat) (s:RS) (b:Nat),
 s.fuel<=g->g1 p s->d3 l m=true->(zW p ft l tf frm ti n).1=0->vW vs=tf.map (·.name)->wL tn b (qh l b d lp.st lp.br)->Lm K s v vs o->o.length+m<=100->lp.n<=vs.length->(ti=true->InL lp vs o d)->(ti=true->xZ l=true->d≠0)->
 Sm p K ⟨s,v,⟨tn,b,vs,o⟩::r⟩ (kw (kM p g) vs l s) (kJ lp tn (b+d0 l d) o v r)
 | [],tf,vs,n,s,b,_,_,_,_,_,_,_,_,_,_,_=>by
   rw[kw];show To p K _ (if(0 :Int)=0 then _ else _);rw[Dm rfl];exact To.refl
 | st::q,tf,vs,n,s,b,hg,hs,hok,hc,hn,hsub,hL,hom,F,hin,hlet=>by
   rw[qh]at hsub;rw[ji,Dv]at hok;obtain⟨z,n1,J⟩:=uU hc;rw[kw];refine(C st ft tf vs frm ti n s m v tn b o r d lp hg hs hok.1 z hn hsub.left hL hom F hin).bind fun a t D i=>?_
   have j:=yA p g vs st s;have x:=(xm p B g).2 ft st tf vs frm ti n s m hg hs hok.1 z;rw[D]at j x;have Q:=i;by_cases f:a.1=0
   .rw[Dm f]
    unfold kJ at i;rw[Dm f]at i;obtain⟨k,ty,td,tc,tg,th⟩:=st;have y:=oB p g vs k ty td tc tg th s;rw[D]at y;obtain⟨e,A,w⟩:=y;have w:=w f;subst w;have M:a.2.2.length=vs.length+(gA k td).length:=by have:=congrArg List.length A;simpa[vW]using this
    have P:=j.2.1;have F:(gA k td).length<=1:=by unfold gA;split<;>simp
    have L:Lm K t v a.2.2 o:=⟨(hL.mv j.1).v,(hL.mv j.1).c,by have:=hL.vs;omega,hL.o⟩
    refine Sm.go i ((C5 B C q (B5 (.mk k ty td tc tg th) tf) a.2.2 n1 t (b+xF (.mk k ty td tc tg th) d) O x hok.2 J ?_ (hsub.right (by rw[sY])) L hom O (fun u=>(hin u).let ?_) fun u G=>hlet u ?_).imp fun I N _=>?_)
    .rw[A,hn,B5,jE,gA]
     split<;>simp
    .by_cases E:k=1
     .exact .inr (hlet u (by unfold xZ;rw[Y8];simp[FU,E]))
     .refine .inl ?_
      rw[M,gA,Dl E];rfl
    .unfold xZ at G ⊢
     rw[Y8,G,Bool.or_true]
    .rw[d0,Cl]
   .rw[Dl f]
    refine(show Sm p K _ (eD.ok a t) (kJ lp tn (b+xF st d) o v r)from i).imp fun I N e=>?_
    injection e with H _;subst H;unfold kJ;rw[Dl f,Dl f]
theorem tB{p:Pr}{K:Nat}{s:RS}{v:List Int}{tn:List d5}{lo:List Nat}{n:Nat}{r:List Fr}:∀(d:Nat) (q:List Nat) (vs:d2) (b:Nat),wL tn b (List.replicate d .lve)->Lm K s v vs (lo++q)->q.length=d->(∀x∈q,n<=x)->(q=[]->vs.length<=n)->(∀x e,q=x::e->x=n)->
 To p K ⟨s,v,⟨tn,b,vs,lo++q⟩::r⟩ (.go ⟨s,v,⟨tn,b+d,vs.take n,lo⟩::r⟩)
 | 0,q,vs,b,_,_,hd,_,h0,_=>by
   have a:=Yj hd;subst a;rw[D8,D9 (h0 rfl)];exact To.refl
 | d+1,q,vs,b,hsub,hL,hd,hx,h0,hh=>by
   rcases List.eq_nil_or_concat q with rfl|⟨f,x,rfl⟩
   .cases hd
   rw[List.concat_eq_append]at *;rw[List.replicate_succ]at hsub;have i:n<=x:=hx x Ur;refine To.go (To.one (p:=p) (K:=K) (x:=.go ⟨s,v,⟨tn,b+1,vs.take x,lo++f⟩::r⟩) ?_) ?_
   .rw[vF hL hsub.head]
    show(match (lo++(f++[x])).getLast? with|none=>VR.bad|some n=>_)=_;rw[<-D7,jS];dsimp only;rw[jA]
   .have g:=tB (p:=p) (r:=r) (lo:=lo) d f (vs.take x) (b+1) hsub.tail ⟨hL.v,hL.c,by have:=hL.vs;rw[Yc];omega,by have:=hL.o;simp at this ⊢;omega⟩ (by simpa using hd) (fun e j=>hx e (by simp[j])) (fun a=>?_) (fun e z a=>hh e (z++[x]) (by rw[a];rfl))
    .rw[List.take_take,Y6 i,show b+1+d=b+(d+1)by omega]at g
     exact g
    .subst a
     have:=hh x [] rfl;rw[Yc];omega
theorem LS{p:Pr}{g:Nat}:∀(l:List St) (vs:d2) (s:RS),xZ l=false->uh vs [] (kw (kM p g) vs l s)
 |[],vs,s,_=>by rw[kw];exact uh.same rfl
 | .mk k ty td tc tg th::r,vs,s,c=>by
   unfold xZ at c;rw[Y8,Cb]at c;have u:k≠1:=by simpa[FU]using c.1
   rw[kw];have f:=oB p g vs k ty td tc tg th s;rw[gA,Dl u]at f;cases e:kM p g vs (.mk k ty td tc tg th) s with
   |fin i=>trivial
   |ok a i=>
     rw[e]at f;obtain⟨q,j,n⟩:=f;show uh vs [] (if a.1=0 then _ else _);by_cases d:a.1=0
     .rw[Dm d]
      have m:=LS (p:=p) (g:=g) r a.2.2 i c.2;cases e2:kw (kM p g) a.2.2 r i with
      |fin x=>trivial
      |ok b x=>
        rw[e2]at m;obtain⟨v,o,t⟩:=m;refine⟨v,?_,t⟩;rw[o,j,n d,D8]
     .rw[Dl d]
      exact⟨q,j,fun c=>absurd c d⟩
theorem F6{lp:Lp}{tn:List d5}{x e n:Nat}{o d:List Nat}{r:List Fr}{a:uK}{t:RS}(b:a.1≠0)(c:lp.n<=n):kJ lp tn x o v r (a.1,a.2.1,a.2.2.take n) t=kJ lp tn e d v r a t:=by
 unfold kJ;simp only[Dl b,List.take_take,Y6 c]
def mQ(vs:d2):eD uK->Prop
 |.ok h _=>h.2.2.length<=vs.length+1
 |.fin _=>True
theorem mQ.bind{α:Type}{x:eD α}{f:α->RS->eD uK}(h:∀a t,mQ vs (f a t)):mQ vs (x.bind f):=by
 cases x with
 |fin t=>trivial
 |ok a t=>exact h a t
theorem mQ.ite{c:Prop}[Decidable c]{x b:eD uK}(d:mQ vs x)(e:mQ vs b):mQ vs (if c then x else b):=by
 by_cases a:c
 .rw[Dm a];exact d
 .rw[Dl a];exact e
theorem TA.wid{x:eD uK}(h:TA vs x):mQ vs x:=by
 cases x with
 |fin t=>trivial
 |ok a t=>exact Nat.le_succ_of_le (Dt (fU h))
theorem mQ.same{h n:Int}{s:RS}(e:ws.length<=vs.length+1):mQ vs (.ok (h,n,ws) s):=e
theorem Y1(p:Pr):∀(g:Nat) (vs:d2) (st:St) (s:RS),mQ vs (kM p g vs st s)
 |0,_,_,_=>by rw[kM];trivial
 | g+1,vs,.mk k ty td tc tg th,s=>by
   have i:∀vs t s,∃d,uh vs d (kM p g vs t s):=fun vs t s=>by
    exact Im
   have c:∀vs l s,TA vs (j9 (kM p g) vs l s):=fun vs l s=>rG i vs l s
   have b:∀{e n:Int}{s:RS},mQ vs (.ok (e,n,vs) s):=fun {e n s}=>mQ.same (Cd _)
   rw[kM];exact mQ.bind fun _ t=>mQ.ite (JG (fun vs s=>c vs tg s) _ vs t).wid (mQ.ite b (mQ.ite b (mQ.bind fun a f=>mQ.ite (mQ.same Ur) (mQ.ite (mQ.same (by rw[fU (sX vs td a)];omega)) (mQ.ite (mQ.bind fun n w=>mQ.bind fun _ x=>b) (mQ.ite (mQ.ite (c vs tg f).wid (c vs th f).wid) (mQ.ite b (mQ.ite b b))))))))
theorem AZ(p:Pr)(g:Nat):∀(l:List St) (vs:d2) (s t:RS) (a:uK),kw (kM p g) vs l s=.ok a t->a.2.2.length+t.fuel<=vs.length+s.fuel
 |[],vs,s,t,a,c=>by rw[kw]at c;injection c with f d;subst f d;exact Dy _
 | st::r,vs,s,t,a,c=>by
   rw[kw]at c;have f:=yA p g vs st s;have d:=Y1 p g vs st s;cases e:kM p g vs st s with
   |fin i=>rw[e]at c;cases c
   |ok b i=>
     rw[e]at c f d;have c:(if b.1=0 then kw (kM p g) b.2.2 r i else .ok b i)=.ok a t:=c;have n:=f.2.1;have d:b.2.2.length<=vs.length+1:=d;by_cases j:b.1=0
     .rw[Dm j]at c
      have:=AZ p g r b.2.2 i t a c;omega
     .rw[Dl j]at c
      injection c with k m;subst k m;omega
theorem TR(J:wR p)(L:F5 p K g){ft:Int}{tn:List d5}{o:List Nat}{r:List Fr}{d:Nat}{lp:Lp}{v:List Int}{m:Nat}{ti:Bool}{frm:Nat}(l:List St)(tf:List Pa)(vs:d2)(n:Nat)(s:RS)(b:Nat)
 (N:s.fuel<=g) (T:g1 p s) (S:d3 l (m-1)=true) (M:(zW p ft l tf frm ti n).1=0) (Q:vW vs=tf.map (·.name)) (f:wL tn b (xB l b d lp.st lp.br)) (j:Lm K s v vs o) (_:1<=m) (_:o.length+m<=100) (u:lp.n<=vs.length) (P:ti=true->InL lp vs o d):
 Sm p K ⟨s,v,⟨tn,b,vs,o⟩::r⟩ (j9 (kM p g) vs l s) (kJ lp tn (b+qV l d) o v r):=by
 unfold j9;unfold xB gB at f;unfold qV lB;have I:=nO (fun vs t s=>(yA p g vs t s).le (Dw _)) l vs s;by_cases D:xZ l=true
 .rw[Dm D]at f ⊢
  have B:Lm K s v vs (o++[vs.length]):=⟨j.v,j.c,j.vs,by rw[Dn,D2];omega⟩
  refine Sm.one (m':=⟨s,v,⟨tn,b+1,vs,o++[vs.length]⟩::r⟩) (by rw[vF j f.head];rfl) ?_;refine(C5 J L l tf vs n s (b+1) (m:=m-1) N T S M Q f.tail.left B (by rw[Dn,D2];omega) u (fun E=>?_) (fun _ _=>Nat.succ_ne_zero d)).bind fun a t C e=>?_
  .obtain⟨⟨q,A,F,G,H,V⟩⟩:=P E
   refine⟨⟨q++[vs.length],by rw[A,D7],by rw[Dn,D2,F],fun x w=>?_,fun k=>by simp at k,fun x _ k=>?_⟩⟩
   .rcases List.mem_append.1 w with w|w
    .exact G x w
    .rw[List.mem_singleton.1 w];exact u
   .cases q with
    |nil=>simp at k;rw[<-k.1];exact H rfl
    |cons z q=>simp at k;rw[<-k.1];exact V z q rfl
  rw[C]at I;have X:=AZ p g l vs s t a C;by_cases i:a.1=0
  .unfold kJ at e
   rw[Dm i]at e;refine Sm.go e ?_;show To p K _ (kJ _ _ _ _ _ _ (a.1,a.2.1,a.2.2.take vs.length) t);unfold kJ;dsimp only;rw[Dm i];refine To.one ?_;have W:Lm K t v a.2.2 (o++[vs.length]):=⟨(B.mv I.1).v,(B.mv I.1).c,by have:=j.vs;omega,B.o⟩
   rw[vF W ((f.tail.right (by rw[jt])).head)];show(match (o++[vs.length]).getLast? with|none=>VR.bad|some n=>_)=_;rw[jS];dsimp only;rw[jA,show b+1+d0 l (d+1)+1=b+(d0 l (d+1)+2)by omega]
  .rw[<-F6 (x:=b+(d0 l (d+1)+2)) (o:=o) i u]at e
   exact e
 .rw[Dl D]at f ⊢
  have R:=LS (p:=p) (g:=g) l vs s (by simpa using D);refine(C5 J L l tf vs n s b (m:=m-1) N T S M Q f j O u P (fun _ E=>absurd E D)).bind fun a t C e=>?_
  rw[C]at R;obtain⟨q,A,F⟩:=R;by_cases i:a.1=0
  .have G:=F i
   subst G;rw[D8]at A;have H:a.2.2.take vs.length=a.2.2:=D9 (Dt (fU A));rw[H];exact e
  .rw[<-F6 (x:=b+d0 l d) (o:=o) i u]at e
   exact e
theorem zau(C:wR p)(N:OT p K g)(Q:F5 p K g){ft:Int}{tf:List Pa}{e:Ex}{tg:List St}{tn:List d5}{st c j:Nat}{o:List Nat}{r:List Fr}{lp:Lp}{v:List Int}{m n1 frm l:Nat}
 (H:(qF p tf e).2=0) (W:vA e 100=true) (Y:wL tn st (yt e st)) (ad:c=st+zu e) (y:tn[c]?=some (.unl (j+1))) (R:wL tn (c+1) (xB tg (c+1) 0 st (j+1))) (S:j=c+1+qV tg 0) (A:tn[j]?=some (.jmp st))
 (E:d3 tg (m-1)=true) (D:(zW p ft tg tf frm true n1).1=0) (V:1<=m) (X:o.length+m<=100) (ai:tf.length=l):
 ∀(k:Nat) (vs:d2) (s:RS),s.fuel<k->s.fuel<=g->g1 p s->vW vs=tf.map (·.name)->Lm K s v vs o->
   Sm p K ⟨s,v,⟨tn,st,vs,o⟩::r⟩ (EL (fun vs s=>uL p g vs e s) (fun vs s=>j9 (kM p g) vs tg s) k vs s) (kJ lp tn (j+1) o v r)
 |0,_,_,b,_,_,_,_=>absurd b (Nat.not_lt_zero _)
 | k+1,vs,s,hk,hg,hs,hn,hL=>by
   have T:vs.length=l:=by have:=congrArg List.length hn;simp[vW]at this;omega
   rw[EL];refine(N e tf vs s 100 v tn st o r hg hs H W hn Y hL).bind fun a t aa q=>?_
   have w:=jk p g vs e s;have G:=(xm p C g).1 tf vs e s hg hs H;rw[aa]at w G;have B:=hL.mv w.1;have Z:=hL.push w.1 w.2.1 a;subst ad
   have ak:To p K ⟨t,v++[a],⟨tn,st+zu e,vs,o⟩::r⟩ (.go ⟨t,v,⟨tn,if a=0 then j+1 else st+zu e+1,vs,o⟩::r⟩):=To.one (by
    rw[vF Z y];show(match (v++[a]).getLast? with|none=>VR.bad|some n=>_)=_;rw[jS];dsimp only;rw[jA];by_cases i:a=0
    .rw[Dm i,Dm i]
    .rw[Dl i,Dl i])
   have q:=To.go q ak;by_cases i:a=0
   .rw[Dm i]at q ⊢
    show To p K _ (kJ _ _ _ _ _ _ (0,0,vs) t);unfold kJ;rw[Dm rfl];exact q
   rw[Dl i]at q ⊢;have am:=w.2.1;have ah:(Lp.mk st (j+1) l o).n<=vs.length:=by show l<=_;omega
   refine(Sm.go q (TR C Q (ft:=ft) (lp:=⟨st,j+1,l,o⟩) (m:=m) (ti:=true) (d:=0) (frm:=frm) tg tf vs n1 t (st+zu e+1) O G E D hn R B V X ah (fun _=>⟨⟨[],Ur,rfl,Ur,fun _=>T,Ur⟩⟩))).bind fun b x af f=>?_
   have u:=yW (fun vs t s=>(yA p g vs t s).le (Dw _)) vs tg t;have I:=uw (xm p C g).2 ft tg tf vs frm true n1 t (m-1) O G E D
   have ae:∀vs t s,∃d,uh vs d (kM p g vs t s):=fun vs t s=>by
    exact Im
   have F:=rG ae vs tg t;have J:=tA (mP (fun st vs s v frm n m y A=>CZ p ft g st vs s v frm true n m y A) tg vs t tf frm n1 (m-1) E D);rw[af]at u I F J;have ag:b.2.2.length=l:=(fU F).trans T;have al:b.2.2.take l=b.2.2:=D9 (Dt ag);have P:Lm K x v b.2.2 o:=⟨(B.mv u.1).v,(B.mv u.1).c,by have:=(B.mv u.1).vs;omega,hL.o⟩
   have ab:vW b.2.2=tf.map (·.name):=Eq.trans F hn;have an:=u.1.fuel;unfold kJ at f;dsimp only at f;rw[al]at f;by_cases M:b.1=3
   .rw[Dm M]
    rw[Dl O,Dl O,Dl O]at f;show To p K _ (kJ _ _ _ _ _ _ b x);unfold kJ;rw[Dl O,Dl O,Dl O];exact f
   rw[Dl M];by_cases z:b.1=1
   .rw[Dm z]
    rw[Dl O,Dm z]at f;show To p K _ (kJ _ _ _ _ _ _ (0,0,b.2.2) x);unfold kJ;rw[Dm rfl];exact f
   rw[Dl z]
   have aj:To p K ⟨s,v,⟨tn,st,vs,o⟩::r⟩ (.go ⟨x,v,⟨tn,st,b.2.2,o⟩::r⟩):=by
    by_cases L:b.1=0
    .rw[Dm L]at f
     refine To.go f (To.one ?_);rw[<-S,vF P A];rfl
    .rw[Dl L,Dl z,Dm (by have:=J.1;omega)]at f
     exact f
   exact Sm.go aj (zau C N Q H W Y rfl y R S A E D V X ai k b.2.2 x O O I ab P)
theorem F7(t:St)(b d st a:Nat):(xL t b d st a)[0]?=some .beg:=by
 obtain⟨k,ty,td,tc,tg,th⟩:=t;rw[xL];split
 .rfl
 split
 .rfl
 split
 .rfl
 split
 .rfl
 .rfl
theorem F8(e:Ex)(b:Nat):(yt e b)[0]?=some .beg:=by
 obtain⟨k,op,n,td,tc⟩:=e;rw[yt];split<;>rfl
theorem TS{td:C2}(a:(qN p.funcs td).isSome=true):∃f,jN p td=some f:=by
 obtain⟨j,b⟩:=Option.isSome_iff_exists.1 a;cases hg:jN p td with
 |some g=>exact⟨g,rfl⟩
 |none=>
   exfalso;unfold jN at hg;rw[b]at hg
   have d:∀(l:List Fu) (k:Nat),qN l td=some k->k<l.length:=by
    intro l
    induction l with
    |nil=>intro k a;cases a
    |cons x r c=>
      intro k a;rw[qN]at a;split at a
      .injection a with a;subst a;exact Ck _
      .cases hr:qN r td with
       |none=>rw[hr]at a;cases a
       |some j=>rw[hr]at a;injection a with a;have a:j+1=k:=a;have:=c j hr;rw[Dp];omega
   have:=d _ _ b;rw[show(some j).bind (fun k=>p.funcs[k]?)=p.funcs[j]? from rfl,List.getElem?_eq_none_iff]at hg;omega
theorem TT(h:l.length=f.params.length):vW (d7 f l)=f.params.map (·.name):=by
 unfold d7 vW;exact List.map_fst_zip (by simp[h])
theorem TU:(d7 f l).length<=l.length:=by
 unfold d7;rw[List.length_zip];exact Nat.min_le_right _ _
theorem F9(j:TQ p)(w:F5 p K g)(o:f∈p.funcs)(A:l.length=f.params.length){t:RS}{r:List Fr}(z:t.fuel<=g)(B:g1 p t)(u:Lm K t v (d7 f l) []):
 Sm p K ⟨t,v,⟨eW f,0,d7 f l,[]⟩::r⟩ (j9 (kM p g) (d7 f l) f.body t) (fun b c=>YW v r b.2.1 c):=by
 obtain⟨q,s⟩:=j.r f o;have n:∀b c,j9 (kM p g) (d7 f l) f.body t=.ok b c->b.1=3:=fun b c e=>JL s q (j.e f o) e
 unfold j9 at n ⊢;refine(C5 j.r w (lp:=⟨0,0,0,[]⟩) (d:=0) (m:=100) (ti:=false) (frm:=f.params.length) (ft:=f.type) f.body f.params (d7 f l) 0 t 0 z B s q (TT A) (fun i x b=>by rw[Yo];exact b) u Ur (Dw _) (fun b=>Vo) (fun b=>Vo)).bind fun a c y k=>?_
 have C:a.1=3:=n (a.1,a.2.1,a.2.2.take (d7 f l).length) c (by rw[y];rfl);unfold kJ at k;rw[Dl O,Dl O,Dl O]at k;exact k
theorem TV{tf:List Pa}{td:C2}(d:vW vs=tf.map (·.name))(b:jp p tf k td=true):¬((k=3/\jf vs td=none)\/(k=6/\ze p.wa td=none)):=by
 rintro(⟨rfl,c⟩|⟨rfl,c⟩)
 .unfold jp at b
  have a:(zX tf td).isSome=true:=Uz
  rw[<-CW d,c]at a;cases a
 .unfold jp at b
  have a:(ze p.wa td).isSome=true:=Uz
  rw[c]at a;cases a
theorem OU(E:TQ p)(Q:OT p K g)(ap:F5 p K g):OT p K (g+1):=by
 intro x tf vs s m v tn b o r _ ay az C L A F;have ar:tn[b]?=some .beg:=A 0 _ (F8 x b);obtain⟨k,op,n,td,tc⟩:=x;obtain⟨T,S,_,aB⟩:=k6 az;have J:=iJ aB;rw[ju,Dv,Dv,decide_eq_true_eq]at C;rw[uL];have D:=vF (p:=p) (r:=r) F ar;have aC:yQ p .beg s v ⟨tn,b+1,vs,o⟩ r=match jJ s with | .ok _ t=>.go ⟨t,v,⟨tn,b+1,vs,o⟩::r⟩ | .fin t=>.stop none t:=rfl
 rw[aC]at D;have ad:=uV ay;cases hst:jJ s with
 |fin t=>
   rw[hst]at D;exact To.one D
 |ok _ t=>
   rw[hst]at D ad;have W:=vT hst;have G:g1 p t:=ad;have z:Lm K t v vs o:=F.mv W.mv;have I:t.fuel<=g:=by have:=W.fuel;omega
   refine Sm.one D ?_;show Sm p K _ (if k=5/\(op=18\/op=19)then(uL p g vs (tc.getD 0 jj) t).bind _ else(j0 (uL p g vs) tc t).bind _) _;rw[yt]at A;by_cases R:k=5/\(op=18\/op=19)
   .rw[Dm R]at A ⊢
    obtain⟨rfl,ax⟩:=R;have aw:tc.length=2:=AY C.1.2
    obtain⟨d,q,rfl⟩:∃d q,tc=[d,q]:=by
     match tc,aw with
     |[d,q],_=>exact⟨d,q,rfl⟩
    rw[wX,qP,qP,D8]at A;rw[qr,qr,Dv,Dv]at C;have ak:([d,q]:List Ex).getD 0 jj=d:=rfl;have al:([d,q]:List Ex).getD 1 jj=q:=rfl;rw[ak,al];have ai:=J d Ur;have aE:=J q Ur;refine(Q d tf vs t (m-1) v tn (b+1) o r I G ai C.2.1 L A.tail.left z).bind fun a j aq N=>?_
    have u:=jk p g vs d t;have B:=(xm p E.r g).1 tf vs d t I G ai;rw[aq]at u B;have ah:=(A.tail.right (c:=b+1+zu d) (by rw[yE]))
    have i:=vF (p:=p) (r:=r) (z.push u.1 u.2.1 a) ah.head
    have Y:yQ p (.lzy (decide (op=18)) (b+1+zu d+1+zG [q])) j (v++[a]) ⟨tn,b+1+zu d+1,vs,o⟩ r=if decide (a=0)=decide (op=18)then .go ⟨j,v++[a],⟨tn,b+1+zu d+1+zG [q],vs,o⟩::r⟩else .go ⟨j,v,⟨tn,b+1+zu d+1,vs,o⟩::r⟩:=by
     show(match (v++[a]).getLast? with|none=>VR.bad|some n=>_)=_;rw[jS];dsimp only;rw[jA]
    rw[Y]at i;have X:b+1+zu d+1+zG [q]=b+zu (.mk 5 op n td [d,q]):=by simp only[zu,zG];omega
    have ae:(decide (a≠0)=decide (op=19))↔(decide (a=0)=decide (op=18)):=by
     rcases ax with rfl|rfl<;>by_cases am:a=0<;>simp[am]
    by_cases M:decide (a=0)=decide (op=18)
    .rw[Dm (ae.2 M)]
     rw[Dm M,X]at i;exact To.go N (To.one i)
    .rw[Dl (fun y=>M (ae.1 y))]
     rw[Dl M]at i;refine Sm.go (To.go N (To.one i)) ((Q q tf vs j (m-1) v tn (b+1+zu d+1) o r (by have:=u.2.1;omega) B aE C.2.2.1 L ah.tail (z.mv u.1)).imp fun c w _=>?_);rw[show b+1+zu d+1+zu q=b+zu (.mk 5 op n td [d,q])by simp only[zu,zG];omega]
   .rw[Dl R]at A ⊢
    refine(zat E.r Q L tc t v (b+1) I G J C.2 A.tail.left z).bind fun l j V N=>?_
    have af:=CL V;have aH:=F4 (fun e s=>jk p g vs e s) V;have u:=l4 (fun e s=>(jk p g vs e s).le (Dw _)) tc t;have B:=sK (p:=p) (g:=g) (fun x s=>(jk p g vs x s).le (Dw _)) tc t I G fun aj aD s ab an=>(xm p E.r g).1 tf vs aj s ab an (J aj aD)
    rw[V]at u B;have B:g1 p j:=B;have ao:Lm K j (v++l) vs o:=⟨by have:=z.v;rw[Dn];omega,(z.mv u.1).c,(z.mv u.1).vs,F.o⟩
    have av:=(A.tail.right (c:=b+1+zG tc) (by rw[jI])).head;have i:=vF (p:=p) (r:=r) ao av;obtain⟨Z,aa⟩:=TP v l;rw[af]at Z aa;have X:b+1+zG tc+1=b+zu (.mk k op n td tc):=by rw[zu];omega
    have Y:yQ p (.app (.mk k op n td tc)) j (v++l) ⟨tn,b+1+zG tc+1,vs,o⟩ r=pF p k op n td tc.length j (v++l) ⟨tn,b+1+zG tc+1,vs,o⟩ r:=rfl;rw[Y]at i;unfold pF at i;rw[Dl (fun y=>y.elim (fun y=>by rw[Dn]at y;omega) (fun y=>by rw[C.1.2]at y;cases y)),Z,aa,X]at i;refine Sm.go N ?_;by_cases P:k=7
    .subst P
     rw[Dm rfl]at i;obtain⟨f,H⟩:=TS (p:=p) (td:=td) (by unfold jp at T;simpa using T)
     have ag:f.params.length=tc.length:=by
      unfold kb at S;rw[Dm rfl,H]at S;exact(of_decide_eq_true S).symm
     rw[H]at i;dsimp only at i;rw[Dm ag]at i
     have au:(zl j).cost+(zl j).fuel<=K:=by
      have aF:=W.pay;have aG:=u.1.pay;have ab:=F.c;show j.cost+1+j.fuel<=K;omega
     refine Sm.one i ?_;rw[JF _ _ _ _ _ _ _ _ H];refine(F9 E ap (uv H) (af.trans ag.symm) (t:=zl j) (v:=v) (r:=⟨tn,b+zu (.mk 7 op n td tc),vs,o⟩::r) (by show j.fuel<=g;omega) B.pay ⟨by have:=z.v;show v.length+j.fuel<=K;omega,au,?_,Ur⟩).bind fun y w _ aA=>aA
     have:=TU (f:=f) (l:=l);have:=z.v;show(d7 f l).length+j.fuel<=K;omega
    .rw[Dl P,Dl (TV L T)]at i
     rw[JM p _ (fun _ _ s=>.fin s) vs op n td l j P];cases he:qX p (fun _ _ s=>.fin s) vs k op n td l j with
     |ok a w=>rw[he]at i;exact To.one i
     |fin w=>rw[he]at i;exact To.one i
theorem iM{td:C2}{d:Bool}(h:zj k ty td a b c d=true)(_:k≠3/\k≠6/\k≠7):a=1:=by
 unfold zj at h;split at h
 .simp at h;omega
 split at h
 .simp at h;omega
 split at h
 .omega
 split at h
 .simp at h;omega
 split at h
 .simp at h;omega
 split at h
 .omega
 split at h
 .simp at h;omega
 split at h
 .simp at h;omega
 .cases h
theorem A0{td:C2}{d:Bool}(h:zj 3 ty td a b c d=true):a=2:=by
 unfold zj at h;rw[Dl Up,Dl Up,Dm rfl]at h;simp at h;omega
theorem zbl{td:C2}{d:Bool}(e:zj k ty td a b c d=true)(f:k=1\/k=2\/k=3):uH td=true:=by
 unfold zj at e;rcases f with rfl|rfl|rfl<;>simp at e<;>simp[e]
theorem Sm.jmp{m:Vm}{x:eD uK}{lp:Lp}{tn:List d5}{j e:Nat}{o:List Nat}{r:List Fr}(b:Sm p K m x (kJ lp tn j o v r))(f:tn[j]?=some (.jmp e))(d:∀a t,x=.ok a t->Lm K t v a.2.2 o):Sm p K m x (kJ lp tn e o v r):=by
 cases x with
 |fin t=>exact b
 |ok a t=>
   have b:To p K m (kJ lp tn j o v r a t):=b;show To p K m (kJ lp tn e o v r a t);unfold kJ at b ⊢;by_cases c:a.1=0
   .rw[Dm c]at b ⊢
    refine To.go b (To.one ?_);rw[vF (d a t rfl) f];rfl
   .rw[Dl c]at b ⊢
    exact b
theorem OV(ad:TQ p)(ag:OT p K g)(ai:F5 p K g):F5 p K (g+1):=by
 intro st ft tf vs frm ti n s m v tn b o r d lp _ a7 i aZ F l ah ap aH am;have aY:tn[b]?=some .beg:=l 0 _ (F7 st b d lp.st lp.br);obtain⟨k,ty,td,tc,tg,th⟩:=st;obtain⟨G,⟨n1,L⟩,n2,aG⟩:=s6 aZ;rw[jW]at i;simp only[Dv,decide_eq_true_eq]at i;have bf:=CK i.1.1.1.2;have an:=i.1.1.1.1;rw[kM];have X:=vF (p:=p) (r:=r) ah aY;have bb:yQ p .beg s v ⟨tn,b+1,vs,o⟩ r=match jJ s with | .ok _ t=>.go ⟨t,v,⟨tn,b+1,vs,o⟩::r⟩ | .fin t=>.stop none t:=rfl
 rw[bb]at X;have aB:=uV a7;cases hst:jJ s with
 |fin t=>
   rw[hst]at X;exact To.one X
 |ok _ t=>
   rw[hst]at X aB;have aJ:=vT hst;have aj:g1 p t:=aB;have C:Lm K t v vs o:=ah.mv aJ.mv;have ak:t.fuel<=g:=by have:=aJ.fuel;omega
   refine Sm.one X ?_;show Sm p K _ (if k=5 then _ else if k=6 then _ else if k=7 then _ else _) _;have a5:tf.length=vs.length:=by have:=congrArg List.length F;simp[vW]at this;omega
   have aI:k≠1->jE k ty td tf=tf:=fun A=>by unfold jE;rw[Dl A]
   by_cases P:k=5
   .subst P
    obtain⟨e,rfl⟩:∃e,tc=[e]:=by
     have:=iM i.1.1.1.2 Up
     match tc,this with
     |[e],_=>exact⟨e,rfl⟩
    rw[Dm rfl];have R:=mG G Up Up Up;rw[xL,Dl Up,Dm rfl]at l;rw[xF,Dl Up,Dm rfl];rw[aI Up]at L;rw[show(ti || decide ((5 :Int)=5))=true by simp]at L;rw[qr,Dv]at i
    have ar:wL tn (b+1) (yt e (b+1)):=by
     have:=l.tail.left;rw[qP,qP,D8]at this;exact this
    have T:zG [e]=zu e:=by rw[zG,zG];rfl
    rw[T]at l ⊢;have W:=l.tail.right (c:=b+1+zu e) (by rw[jI,T]);have J:=W.tail
    have aL:=zau (lp:=lp) ad.r ag ai (tf:=tf) (e:=e) (tg:=tg) (tn:=tn) (st:=b+1) (c:=b+1+zu e) (j:=b+zu e+2+qV tg 0) (o:=o) (r:=r) (v:=v) (m:=m) (frm:=tf.length) (ft:=ft) R.1 i.1.1.2.1 ar rfl
     (by rw[show b+zu e+2+qV tg 0+1=b+zu e+3+lB tg (d0 tg) 0 by unfold qV;omega];exact W.head)
     (by rw[show b+zu e+2+qV tg 0+1=b+zu e+3+lB tg (d0 tg) 0 by unfold qV;omega,show b+1+zu e+1=b+zu e+2 by omega];have Q:=J.left;rw[show b+1+zu e+1=b+zu e+2 by omega]at Q;exact Q) O
     ((J.right (c:=b+zu e+2+qV tg 0) Hc).head) i.1.2 L an ap a5 (t.fuel+1) vs t (Nat.lt_succ_self _) ak aj F C
    rw[show b+zu e+2+qV tg 0+1=b+(zu e+3+lB tg (d0 tg) 0)by unfold qV;omega]at aL;exact aL
   rw[Dl P];by_cases az:k=6\/k=7
   .have a4:=s9 G az
    subst a4;obtain⟨⟨q,aw,bc,bd,q4,be⟩⟩:=am rfl
    have aP:∀z,wL tn b (d5.beg::(List.replicate d d5.lve++[d5.jmp z]))->To p K ⟨t,v,⟨tn,b+1,vs,o⟩::r⟩ (.go ⟨t,v,⟨tn,z,vs.take lp.n,lp.o⟩::r⟩):=fun z aN=>by
     have aa:=tB (p:=p) (K:=K) (s:=t) (v:=v) (r:=r) (lo:=lp.o) (n:=lp.n) d q vs (b+1) aN.tail.left (aw▸C) bc bd (fun A=>Dt (q4 A)) be;rw[<-aw]at aa;have aU:Lm K t v (vs.take lp.n) lp.o:=⟨C.v,C.c,by have:=C.vs;rw[Yc];omega,by have:=C.o;rw[aw,Dn]at this;omega⟩
     refine To.go aa (To.one ?_);rw[vF aU ((aN.tail.right (c:=b+1+d) (by rw[Cm])).head)];rfl
    by_cases aR:k=6
    .subst aR
     rw[Dm rfl];rw[xL,Dl Up,Dl Up,Dm rfl]at l;show To p K _ (kJ _ _ _ _ _ _ (1,0,vs) t);unfold kJ;rw[Dl (show ¬(1 :Int)=0 by decide),Dm rfl];exact aP _ l
    .have aS:k=7:=by omega
     subst aS;rw[Dl Up,Dm rfl];rw[xL,Dl Up,Dl Up,Dl Up,Dm rfl]at l;show To p K _ (kJ _ _ _ _ _ _ (2,0,vs) t);unfold kJ;rw[Dl (show ¬(2 :Int)=0 by decide),Dl (show ¬(2 :Int)=1 by decide),Dm rfl];exact aP _ l
   rw[Dl O,Dl O];have R:=mG G O O O
   have aX:∃e q,tc=e::q:=by
    cases tc with
    |nil=>
      have Q:zj k ty td 0 tg.length th.length (uN [])=true:=i.1.1.1.2;by_cases D:k=3
      .subst D;have:=A0 Q;omega
      .have:=iM Q ⟨D,O,O⟩;omega
    |cons e q=>exact⟨e,q,rfl⟩
   obtain⟨e,q,rfl⟩:=aX;have aA:(qF p tf e).2=0:=R.1;rw[qr,Dv]at i
   have au:wL tn (b+1) (qP (e::q) (b+1)):=by
    by_cases E:k=4
    .rw[xL,Dm E]at l
     exact l.tail.left
    .rw[xL,Dl E,Dl P,Dl O,Dl O]at l
     exact l.tail.left
   show Sm p K _ ((uL p g vs e t).bind _) _;rw[qP]at au;refine(ag e tf vs t 100 v tn (b+1) o r ak aj aA i.1.1.2.1 F au.left C).bind fun a u aW V=>?_
   have N:=jk p g vs e t;have I:=(xm p ad.r g).1 tf vs e t ak aj aA;rw[aW]at N I;have I:g1 p u:=I;have S:=C.mv N.1;have ae:=C.push N.1 N.2.1 a;have al:u.fuel<=g:=by have:=N.2.1;omega
   have ao:k=1\/k=2\/k=3->¬(k<=3/\uH td=false):=fun A ab=>by rw[zbl i.1.1.1.2 A]at ab;cases ab.2
   by_cases E:k=4
   .subst E
    have aq:q=[]:=by have:=iM i.1.1.1.2 Up;exact Yj Gk
    subst aq;rw[Dl Up,Dl Up,Dl Up,Dm rfl];rw[xL,Dm rfl]at l;rw[xF,Dm rfl];rw[aI Up]at L aG;rw[show(ti || decide ((4 :Int)=5))=ti by simp]at L;have T:zG [e]=zu e:=by rw[zG,zG];rfl
    rw[T]at l ⊢;have W:=l.tail.right (c:=b+1+zu e) (by rw[jI,T]);have aK:=vF (p:=p) (r:=r) ae W.head
    have Y:yQ p (.unl (b+zu e+3+lB tg (d0 tg) d)) u (v++[a]) ⟨tn,b+1+zu e+1,vs,o⟩ r=.go ⟨u,v,⟨tn,if a=0 then b+zu e+3+lB tg (d0 tg) d else b+zu e+2,vs,o⟩::r⟩:=by
     show(match (v++[a]).getLast? with|none=>VR.bad|some n=>_)=_;rw[jS];dsimp only;rw[jA];by_cases B:a=0
     .rw[Dm B,Dm B]
     .rw[Dl B,Dl B,show b+1+zu e+1=b+zu e+2 by omega]
    rw[Y]at aK;have V:=To.go V (To.one aK);have J:=W.tail;rw[show b+1+zu e+1=b+zu e+2 by omega]at J;have aE:=J.right (c:=b+zu e+2+qV tg d) Hc;refine Sm.go V ?_;by_cases B:a=0
    .rw[Dm B,Dl (by simpa using B)]
     refine(TR ad.r ai (ft:=ft) (lp:=lp) (m:=m) (ti:=ti) (d:=d) (frm:=tf.length) th tf vs n2 u (b+zu e+3+lB tg (d0 tg) d) al I i.2 aG F ?_ S an ap aH am).imp fun A w _=>?_
     .have:=aE.tail
      rw[show b+zu e+2+qV tg d+1=b+zu e+3+lB tg (d0 tg) d by unfold qV;omega]at this;exact this
     .rw[show b+zu e+3+lB tg (d0 tg) d+qV th d=b+(zu e+3+lB tg (d0 tg) d+lB th (d0 th) d)by unfold qV;omega]
    .rw[Dl B,Dm (by simpa using B)]
     have aT:=TR ad.r ai (ft:=ft) (lp:=lp) (m:=m) (ti:=ti) (d:=d) (frm:=tf.length) (r:=r) tg tf vs n1 u (b+zu e+2) al I i.1.2 L F J.left S an ap aH am;have aF:=aE.head;rw[show b+zu e+3+lB tg (d0 tg) d+lB th (d0 th) d=b+(zu e+3+lB tg (d0 tg) d+lB th (d0 th) d)by omega]at aF;refine aT.jmp aF fun A w a1=>?_
     have Z:=yW (fun vs t s=>(yA p g vs t s).le (Dw _)) vs tg u
     have ay:=rG (fun vs t s=>by
      obtain⟨k,ty,td,tc,tg,th⟩:=t
      exact⟨_,oB p g vs k ty td tc tg th s⟩) vs tg u
     rw[a1]at Z ay;have bg:A.2.2.length=vs.length:=fU ay;exact⟨(S.mv Z.1).v,(S.mv Z.1).c,by have:=(S.mv Z.1).vs;omega,ah.o⟩
   rw[xL,Dl E,Dl P,Dl O,Dl O]at l;have a3:xF (.mk k ty td (e::q) tg th) d=zG (e::q)+2:=by rw[xF,Dl E,Dl P,Dl az]
   rw[a3];have af:=(l.tail.right (c:=b+1+zG (e::q)) (by rw[jI])).head;rw[show b+(zG (e::q)+2)=b+1+zG (e::q)+1 by omega];by_cases D:k=3
   .subst D
    have ab:q.length=1:=by have:=A0 i.1.1.1.2;simpa using this
    obtain⟨y,rfl⟩:∃y,q=[y]:=by
     match q,ab with
     |[y],_=>exact⟨y,rfl⟩
    rw[Dl Up,Dl Up,Dm rfl];have aM:=au.right (c:=b+1+zu e) (by rw[yE]);rw[qP,qP,D8]at aM;have a8:(qF p tf y).2=0:=R.2.1 rfl
    have a6:vA y 100=true:=by
     have:=i.1.1.2.2;rw[qr,Dv]at this;exact this.1
    refine Sm.go V ?_;show Sm p K _ ((uL p g vs y u).bind _) _;refine(ag y tf vs u 100 (v++[a]) tn (b+1+zu e) o r al I a8 a6 F aM ae).bind fun x w ar a9=>?_
    have ax:=jk p g vs y u;rw[ar]at ax;have aV:=ae.push ax.1 ax.2.1 x;refine Sm.go a9 ?_;rw[show b+1+zG [e,y]=b+1+zu e+zu y by simp only[zG];omega]at af ⊢;have f:=vF (p:=p) (r:=r) aV af
    have aD:(ze p.wa td).isSome=true:=by
     unfold qy at G;rw[Dl Up,Dl Up,Dm rfl]at G;by_cases aC:(ze p.wa td).isSome=true
     .exact aC
     .rw[Dl aC]at G;exact absurd G Up
    have a2:ze p.wa td≠none:=fun A=>by rw[A]at aD;cases aD
    have Y:yQ p (.fin (.mk 3 ty td [e,y] tg th)) w (v++[a]++[x]) ⟨tn,b+1+zu e+zu y+1,vs,o⟩ r=match vD p td a x (zl w)with | .ok _ t=>.go ⟨t,v,⟨tn,b+1+zu e+zu y+1,vs,o⟩::r⟩ | .fin t=>.stop none t:=by
     show j3 p 3 td w (v++[a]++[x]) _ r=_;unfold j3;rw[jS];dsimp only;rw[Dl (ao (.inr (.inr rfl))),Dl Up,Dl Up,Dm rfl,jA,jS];dsimp only;rw[Dl a2,jA];cases vD p td a x (zl w)<;>rfl
    rw[Y]at f;cases hput:vD p td a x (zl w)with
    |fin aQ=>rw[hput]at f;exact To.one f
    |ok _ aQ=>
      rw[hput]at f;show To p K _ (kJ _ _ _ _ _ _ (0,0,vs) aQ);unfold kJ;rw[Dm rfl];exact To.one f
   have aa:(e::q).length=1:=iM i.1.1.1.2 ⟨D,O,O⟩;have aq:q=[]:=Yj Gt;subst aq;refine Sm.go V ?_;rw[show b+1+zG [e]=b+1+zu e by rw[zG,zG];rfl]at af ⊢;have f:=vF (p:=p) (r:=r) ae af;have Y:yQ p (.fin (.mk k ty td [e] tg th)) u (v++[a]) ⟨tn,b+1+zu e+1,vs,o⟩ r=j3 p k td u (v++[a]) ⟨tn,b+1+zu e+1,vs,o⟩ r:=rfl;rw[Y]at f;unfold j3 at f;rw[jS]at f;dsimp only at f;rw[jA]at f;by_cases H:k=1
   .rw[Dl (ao (.inl H)),Dm H]at f
    rw[Dm H];exact Il
   by_cases M:k=2
   .obtain⟨_,ba⟩:=R.2.2 M
    have a0:jf vs td≠none:=fun A=>by
     have:=CW F td;rw[A,ba]at this;cases this
    rw[Dl (ao (.inr (.inl M))),Dl H,Dm M,Dl a0]at f;rw[Dl H,Dm M];exact Il
   rw[Dl O,Dl H,Dl M,Dl D]at f;rw[Dl H,Dl M,Dl D,Dl E];by_cases av:k=8
   .rw[Dm av]at f ⊢
    show To p K _ (kJ _ _ _ _ _ _ (3,a,_) u);unfold kJ;rw[Dl (by show ¬(3 :Int)=0;decide),Dl (by show ¬(3 :Int)=1;decide),Dl (by show ¬(3 :Int)=2;decide)];exact To.one f
   by_cases aO:k=9
   .rw[Dl av,Dm aO]at f ⊢
    show To p K _ (kJ _ _ _ _ _ _ (0,0,_) _);unfold kJ;rw[Dm rfl];exact To.one f
   .rw[Dl av,Dl aO]at f ⊢
    rw[Dm O]at f;exact Il
theorem LT(a:TQ p)(K:Nat):∀g,OT p K g/\F5 p K g
 | 0=>⟨fun x tf vs s m v tn b o r l q _ _ _ f c=>by
    rw[uL];have e:s.fuel=0:=O
    have i:=vF (p:=p) (r:=r) c (f 0 _ (F8 x b));refine To.one (i.trans ?_);show(match jJ s with | .ok _ t=>VR.go _ | .fin t=>.stop none t)=_;unfold jJ;rw[e],fun st ft tf vs frm ti n s m v tn b o r d lp l q _ _ _ f c _ _ _=>by
    rw[kM];have e:s.fuel=0:=O
    have i:=vF (p:=p) (r:=r) c (f 0 _ (F7 st b d lp.st lp.br));refine To.one (i.trans ?_);show(match jJ s with | .ok _ t=>VR.go _ | .fin t=>.stop none t)=_;unfold jJ
    rw[e]⟩
 | g+1=>by
   obtain⟨j,k⟩:=LT a K g;exact⟨OU a j k,OV a j k⟩
abbrev lD(a b:C4)(s:C2)(t:Int)(c d:C4)(n:Int):Obj:=.cells #[a,b,s,(t:Int),c,d,(n:Int)] 126
theorem zS{w:C3}{b c d e f i j:C4}{T:TypeId}(a:w.heap[g]?=some (.cells #[b,c,d,e,f,i,j] T (0,0))):(w.cell? (g,0)=some b/\w.cell? (g,1)=some c/\w.cell? (g,2)=some d/\w.cell? (g,3)=some e/\w.cell? (g,4)=some f/\w.cell? (g,5)=some i/\w.cell? (g,6)=some j)/\∀o,w.frozen? ⟨g,o,none⟩=false:=
 ⟨⟨(Ds a 0).trans rfl,(Ds a 1).trans rfl,(Ds a 2).trans rfl,(Ds a 3).trans rfl,(Ds a 4).trans rfl,(Ds a 5).trans rfl,(Ds a 6).trans rfl⟩,fun o=>Vv⟩
theorem xM(B b:Nat)(p:Pr)(tf:List Pa)(e:Ex)(t r:Int)(x J K v ag ah:C4)(Z:C2)(ft n:Int)(w:C3)(l:gG B p tf J K v w)(u:w.heap[b]?=some (lD J K Z ft ag ah n))(af:iY B w e x)(F:vA e 100=true)(G:l7 p)(H:qu p tf e t=r):
 Cy 119 #[(b,0),v,x,(t:Int)] w (Cv (r:Int) w):=by
 obtain⟨L,X,M,Y,_,_,rfl,rfl,rfl⟩:=l.form;obtain⟨c,g,d,i,a⟩:=e;obtain⟨_,rfl,A,q⟩:=af;dsimp only[Ex.kind,Ex.op,Ex.n,Ex.name,Ex.args]at q A ⊢;obtain⟨j,k,rfl,_⟩:=q.form;have aa:=zB u;obtain⟨⟨_,_,_,_,_,_,_⟩,_⟩:=zS u;obtain⟨⟨ty,f⟩,C⟩:=Cz (qF p tf (.mk c g d i a));have I:(if f=0 then(if ty=t then 0 else 51)else f)=r:=by rw[<-H];unfold qu;rw[C]
 have s:Cx w (w.alloc (ki c g d i j a.length k)).drew:=(Zb.alloc Zr _).drew;have S:=U s;have N:=U (l.below (s.mono l.hB));have W:=C0 (iY B (w.alloc (ki c g d i j a.length k)).drew (.mk c g d i a) (.agg #[(c:Int),(g:Int),(d:Int),i,(j,a.length,k)])) ⟨_,rfl,A,q.below (s.mono l.hB) Zr⟩;have R:=U C;have V:=U I;have P:=U F;have Q:=U G;have ae:f=0/\ty=t\/f=0/\ty≠t\/f≠0:=O
 clear l u q F G H C I s A;rcases ae with⟨m,E⟩|⟨m,E⟩|m
 all_goals
  first
   |(subst m;subst E)
   |(subst m)
   |skip
  go_enter func119,ntmps119;go_wp2_with fail
  go_region_held3 (fun w'=>w'.cell? (b,0)=some (.slice L p.wa.length X)/\w'.cell? (b,1)=some (.slice M p.funcs.length Y)/\w'.cell? (w.heap.size,0)=some (.int .i64 c)/\w'.cell? (w.heap.size,1)=some (.int .i64 g)/\w'.cell? (w.heap.size,2)=some (.int .i64 d)/\w'.cell? (w.heap.size,3)=some (.string i)/\w'.cell? (w.heap.size,4)=some (.slice j a.length k))
   (first
     |(go_split_ands;refine⟨?_,?_,?_,?_,?_,?_,?_⟩ <;>(first|(rw[ad];assumption)|(rw[ab];simp;done)))
     |go_keep)
   (first
     | (go_at_call 120
        (refine((oA 100).call (w:=(w.alloc (ki c g d i j a.length k)).drew) P.o Q.o R.o N.o W.o).mono ?_)
        rintro e D ⟨rfl,y⟩;have z:Cx w D:=S.o.trans (y.mono Xa);have ad:∀o,D.cell? ⟨b,o,none⟩=w.cell? ⟨b,o,none⟩:=fun o=>z.cell (p:=⟨b,o,none⟩) aa
        have ab:∀o,D.cell? ⟨w.heap.size,o,none⟩=(w.alloc (ki c g d i j a.length k)).cell? ⟨w.heap.size,o,none⟩:=fun o=>y.cell (p:=⟨w.heap.size,o,none⟩) Xf
        have T:=U z
        clear y z))
  go_wp2_with fail
  all_goals go_ret
  all_goals refine⟨qK ?_,T.o⟩
  all_goals
   have ai:=V.o
   simp_all
