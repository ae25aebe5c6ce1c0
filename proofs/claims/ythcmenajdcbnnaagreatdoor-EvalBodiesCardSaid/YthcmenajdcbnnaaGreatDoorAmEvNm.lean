import Derived.Test.YthcmenajdcbnnaaGreatDoorAmTyRt
set_option linter.unusedSimpArgs false
set_option linter.unusedVariables false
set_option maxRecDepth 100000
set_option maxHeartbeats 99000000
namespace Go.Proofs.YthcmenajdcbnnaaGreatDoor
open Go.RowKit Tryz
abbrev xi(vs:fG):List C2:=vs.map (·.1)
theorem rE:∀{vs:fG}{s:C2}{k:Nat},ja vs s=some k->(xi vs)[k]?=some s
 |[],_,_,a=>Ur
 | x::r,s,k,a=>by
   rw[ja]at a;cases hr:ja r s with
   |some j=>
     rw[hr]at a;injection a with a;subst a;have c:=rE hr;simpa[xi]using c
   |none=>
     rw[hr]at a;dsimp only at a;by_cases b:x.1=s
     .rw[Dq b]at a
      injection a with a;subst a;exact congrArg some b
     .rw[Dp b]at a;cases a
theorem sX(vs:fG)(s:C2)(n:Int):xi (xH vs s n)=xi vs:=by
 unfold xH;cases h:ja vs s with
 |none=>rfl
 |some k=>
   dsimp only;rw[xi,List.map_set];have a:=rE h;refine List.ext_getElem? fun i=>?_
   rw[Cg];by_cases e:k=i
   .subst e
    rw[Dq rfl];have b:=(List.getElem?_eq_some_iff.1 a).1;rw[Dq b];exact a.symm
   .rw[Dp e]
theorem rF:∀{v:List Pa}{vs:fG},xi vs=v.map (·.name)->∀(s:C2),(ja vs s).isSome=(zv v s).isSome
 |[],[],_,_=>rfl
 |x::r,[],h,_=>Vy
 |[],x::r,h,_=>Vy
 | x::r,y::q,h,s=>by
   simp only[xi,Y5,Cb]at h;have a:=rF h.2 s;rw[ja,zv];cases h1:ja q s with
   |some j=>
     cases h2:zv r s with
     |some t=>rfl
     |none=>rw[h1,h2]at a;cases a
   |none=>
     cases h2:zv r s with
     |some t=>rw[h1,h2]at a;cases a
     |none=>
       dsimp only;rw[h.1];split<;>rfl
def uH(vs:fG)(d:List C2):fR xx->Prop
 |.ok h _=>∃q,xi h.2.2=xi vs++q/\(h.1=0->q=d)
 |.fin _=>True
def ua(k:Int)(td:C2):List C2:=if k=1 then[td]else[]
theorem uH.bind{α:Type}{vs:fG}{d:List C2}{x:fR α}{f:α->RS->fR xx}(h:∀a t,uH vs d (f a t)):uH vs d (x.bind f):=by
 cases x with
 |fin t=>trivial
 |ok a t=>exact h a t
theorem uH.ite{vs:fG}{d:List C2}{c:Prop}[Decidable c]{x b:fR xx}(e:c->uH vs d x)(f:¬c->uH vs d b):uH vs d (if c then x else b):=by
 by_cases a:c
 .rw[Dq a];exact e a
 .rw[Dp a];exact f a
theorem uH.same{vs a:fG}{b n:Int}{s:RS}(e:xi a=xi vs):uH vs [] (.ok (b,n,a) s):=⟨[],by rw[Yd];exact e,fun _=>rfl⟩
def P4(vs:fG):fR xx->Prop
 |.ok h _=>xi h.2.2=xi vs
 |.fin _=>True
theorem P4.row{vs:fG}{x:fR xx}(h:P4 vs x):uH vs [] x:=by
 cases x with
 |fin t=>trivial
 |ok a t=>exact⟨[],by rw[Yd];exact h,fun _=>rfl⟩
theorem K1{f:fG->St->RS->fR xx}(m:∀vs t s,∃d,uH vs d (f vs t s)):∀(l:List St) (vs:fG) (s:RS),∃d,uH vs d (kG f vs l s)
 |[],vs,s=>⟨[],uH.same rfl⟩
 | t::r,vs,s=>by
   rw[kG];obtain⟨d,c⟩:=m vs t s;cases e:f vs t s with
   |fin i=>exact⟨[],trivial⟩
   |ok a i=>
     rw[e]at c;obtain⟨q,j,_⟩:=c;show ∃d,uH vs d (if a.1=0 then _ else _);by_cases g:a.1=0
     .rw[Dq g]
      obtain⟨_,k⟩:=K1 m r a.2.2 i;cases e2:kG f a.2.2 r i with
      |fin x=>exact⟨[],trivial⟩
      |ok b x=>
        rw[e2]at k;obtain⟨n,o,_⟩:=k;exact⟨q++n,q++n,by rw[o,j,Ya],fun _=>rfl⟩
     .rw[Dp g]
      exact⟨[],q,j,fun c=>absurd c g⟩
theorem mU{f:fG->St->RS->fR xx}(g:∀vs t s,∃d,uH vs d (f vs t s))(vs:fG)(l:List St)(s:RS):P4 vs (qG f vs l s):=by
 unfold qG;obtain⟨d,b⟩:=K1 g l vs s;cases e:kG f vs l s with
 |fin i=>trivial
 |ok a i=>
   rw[e]at b;obtain⟨q,c,_⟩:=b;show xi (a.2.2.take vs.length)=xi vs;rw[xi,List.map_take];show(xi a.2.2).take _=_;rw[c,List.take_left' Uh]
theorem IS{e:fG->RS->fR Int}{b:fG->RS->fR xx}(m:∀vs s,P4 vs (b vs s)):∀(k:Nat) (vs:fG) (s:RS),P4 vs (k4 e b k vs s)
 |0,_,_=>trivial
 | k+1,vs,s=>by
   rw[k4];cases he:e vs s with
   |fin g=>trivial
   |ok a t=>
     show P4 vs (if a=0 then _ else _);by_cases i:a=0
     .rw[Dq i];rfl
     .rw[Dp i]
      have f:=m vs t;cases hx:b vs t with
      |fin g=>trivial
      |ok c g=>
        rw[hx]at f;show P4 vs (if c.1=3 then _ else if c.1=1 then _ else _);by_cases l:c.1=3
        .rw[Dq l];exact f
        .rw[Dp l]
         by_cases j:c.1=1
         .rw[Dq j];exact f
         .rw[Dp j]
          have n:=IS (e:=e) m k c.2.2 g;cases hy:k4 e b k c.2.2 g with
          |fin x=>trivial
          |ok d x=>rw[hy]at n;exact Eq.trans n f
theorem iD(p:Pr):∀(g:Nat) (vs:fG) (k b:Int) (td:C2) (tc:List Ex) (tg th:List St) (s:RS),uH vs (ua k td) (qn p g vs (.mk k b td tc tg th) s)
 |0,_,_,_,_,_,_,_,_=>Kl
 | g+1,vs,k,b,td,tc,tg,th,s=>by
   have o:∀vs t s,∃d,uH vs d (qn p g vs t s):=fun vs t s=>by
    obtain⟨k,b,td,tc,tg,th⟩:=t;exact⟨_,iD p g vs k b td tc tg th s⟩
   have e:∀vs l s,P4 vs (qG (qn p g) vs l s):=fun vs l s=>mU o vs l s
   rw[qn];refine uH.bind fun _ t=>uH.ite (fun i=>?_) fun i=>uH.ite (fun j=>?_) fun j=>uH.ite (fun m=>?_) fun m=>uH.bind fun a f=>uH.ite (fun c=>?_) fun c=>?_
   .rw[ua,Dp O]
    exact(IS (fun vs s=>e vs tg s) _ vs t).row
   .rw[ua,Dp O];exact uH.same rfl
   .rw[ua,Dp O];exact uH.same rfl
   .rw[ua,Dq c]
    exact⟨[td],by simp[xi],fun _=>rfl⟩
   .rw[ua,Dp c]
    refine uH.ite (fun _=>uH.same (sX ..)) fun _=>uH.ite (fun _=>uH.bind fun n w=>uH.bind fun _ x=>uH.same rfl) fun _=>uH.ite (fun _=>uH.ite (fun _=>(e vs tg f).row) fun _=>(e vs th f).row) fun _=>uH.ite (fun _=>uH.same rfl) fun _=>uH.ite (fun _=>uH.same rfl) fun _=>uH.same rfl
def vZ:fR xx->Prop
 |.ok h _=>h.1≠3->h.2.1=0
 |.fin _=>True
theorem vZ.bind{α:Type}{x:fR α}{f:α->RS->fR xx}(h:∀a t,vZ (f a t)):vZ (x.bind f):=by
 cases x with
 |fin t=>trivial
 |ok a t=>exact h a t
theorem vZ.ite{c:Prop}[Decidable c]{x b:fR xx}(d:vZ x)(e:vZ b):vZ (if c then x else b):=by
 by_cases a:c
 .rw[Dq a];exact d
 .rw[Dp a];exact e
theorem vZ.zero{vs:fG}{s:RS}{h:Int}:vZ (.ok (h,0,vs) s):=fun _=>rfl
theorem AV{f:fG->St->RS->fR xx}(c:∀vs t s,vZ (f vs t s)):∀(l:List St) (vs:fG) (s:RS),vZ (kG f vs l s)
 |[],_,_=>vZ.zero
 | t::r,vs,s=>by
   rw[kG];have b:=c vs t s;cases e:f vs t s with
   |fin d=>trivial
   |ok a d=>
     rw[e]at b;exact vZ.ite (AV c r _ d) b
theorem i7{f:fG->St->RS->fR xx}(c:∀vs t s,vZ (f vs t s))(vs:fG)(l:List St)(s:RS):vZ (qG f vs l s):=by
 unfold qG;have b:=AV c l vs s;cases e:kG f vs l s with
 |fin d=>trivial
 |ok a d=>rw[e]at b;exact b
theorem FM{e:fG->RS->fR Int}{b:fG->RS->fR xx}(f:∀vs s,vZ (b vs s)):∀(k:Nat) (vs:fG) (s:RS),vZ (k4 e b k vs s)
 |0,_,_=>trivial
 | k+1,vs,s=>by
   rw[k4];refine vZ.bind fun a t=>vZ.ite vZ.zero ?_
   have d:=f vs t;cases hx:b vs t with
   |fin g=>trivial
   |ok c g=>
     rw[hx]at d;exact vZ.ite d (vZ.ite vZ.zero (FM f k _ g))
theorem IT(p:Pr):∀(g:Nat) (vs:fG) (t:St) (s:RS),vZ (qn p g vs t s)
 |0,_,_,_=>Kl
 | g+1,vs,.mk k ty td tc tg th,s=>by
   have b:=IT p g;rw[qn];refine vZ.bind fun _ t=>vZ.ite (FM (fun vs s=>i7 b vs tg s) _ vs t) (vZ.ite vZ.zero (vZ.ite vZ.zero (vZ.bind fun a c=>vZ.ite vZ.zero (vZ.ite vZ.zero (vZ.ite (vZ.bind fun n w=>vZ.bind fun _ x=>vZ.zero) (vZ.ite (vZ.ite (i7 b vs tg c) (i7 b vs th c)) (vZ.ite (fun d=>absurd rfl d) (vZ.ite vZ.zero vZ.zero))))))))
theorem SA(p:Pr)(g:Nat)(vs:fG)(st:St)(s:RS){a:xx}{t:RS}(e:qn p g vs st s=.ok a t)(b:a.1≠3):a.2.1=0:=by
 have:=IT p g vs st s;rw[e]at this;exact this b
theorem SB(p:Pr)(g:Nat)(vs:fG)(st:St){s:RS}(h:s.fuel=0):qn p (g+1) vs st s=.fin (zj s).st:=by
 obtain⟨k,_,td,tc,tg,th⟩:=st;obtain⟨_,_,out,_,_,_,_⟩:=s;cases h;rw[qn];rfl
def AW(p:Pr)(g:Nat)(vs:fG)(k:Int)(td:C2)(tc:List Ex)(tg th:List St)(a:Int)(s:RS):fR xx:=
 if k=1 then .ok (0,0,vs++[(td,a)]) s
 else if k=2 then .ok (0,0,xH vs td a) s
 else if k=3 then(f0 p g vs (tc.getD 1 jZ) s).bind fun n s=>(yZ p td a n (zV s)).bind fun _ s=>.ok (0,0,vs) s
 else if k=4 then(if a≠0 then qG (qn p g) vs tg s else qG (qn p g) vs th s)
 else if k=8 then .ok (3,a,vs) s
 else if k=9 then .ok (0,0,vs) { zV s with o:=s.o++[a] }
 else .ok (0,0,vs) s
theorem SC(p:Pr)(g:Nat)(vs:fG)(k d:Int)(td:C2)(tc:List Ex)(tg th:List St){s:RS}(c:0<s.fuel):
 qn p (g+1) vs (.mk k d td tc tg th) s=
  if k=5 then k4 (fun vs s=>f0 p g vs (tc.getD 0 jZ) s) (fun vs s=>qG (qn p g) vs tg s) ((zj s).st.fuel+1) vs (zj s).st
  else if k=6 then .ok (1,0,vs) (zj s).st
  else if k=7 then .ok (2,0,vs) (zj s).st
  else(f0 p g vs (tc.getD 0 jZ) (zj s).st).bind fun a s=>AW p g vs k td tc tg th a s:=by
 obtain⟨_,_,out,_,b,_,_⟩:=s;obtain⟨f,rfl⟩:∃f,b=f+1:=⟨b-1,by dsimp only at c;omega⟩
 rw[qn];rfl
theorem sY{p:Pr}{td:C2}{i n:Int}{s:RS}{k:Nat}{l:List Int}(a:zZ p.wa td=some k)(b:s.arr[k]?=some l):yZ p td i n s=if 0<=i/\i<l.length then .ok () { s with arr:=s.arr.set k (l.set i.toNat n) } else .fin (kQ s 3):=by
 unfold yZ;rw[a];dsimp only;rw[b]
def fR.isFin{α:Type}:fR α->Bool
 |.ok _ _=>false
 |.fin _=>true
theorem kC{α:Type}{p:Pr}{r:fR α}(b:zr p r):(r.st.spent || decide (r.st.stat≠0))=r.isFin:=by
 cases r with
 |ok a t=>show(t.spent || decide (t.stat≠0))=false;rw[b.sp,b.st];rfl
 |fin t=>
   show(t.spent || decide (t.stat≠0))=true;rcases b with⟨c,_⟩|⟨_,c,_⟩
   .rw[c];rfl
   .rw[decide_eq_true (show t.stat≠0 by omega),Bool.or_true]
def vT(c:gJ)(vo:C4)(w:C3)(r:fR Int)(e:Ending)(w':C3):Prop:=
 ∃n vo',e=.returned (n:Int)/\fP c w' vo' r.st/\fF (f8 c vo) w w'/\fM w.heap.size vo vo'/\∀a t,r=.ok a t->n=a/\fS a
structure wW (c:gJ) (g:Nat) (w:C3) (vo:C4) (s:RS):Prop where
 run:fP c w vo s
 fu:s.fuel<=g
 sp:s.spent=false
 st:s.stat=0
theorem wW.shp{c:gJ}{g:Nat}{w:C3}{vo:C4}{s:RS}(h:wW c g w vo s):gP c.p s:=⟨h.run.alen,h.sp,h.st⟩
structure fY (c:gJ) (g:Nat) (w:C3) (vo:C4) (s:RS) (f:Nat) (vv:C4) (vs:fG) (how n:Int):Prop where
 l:wW c g w vo s
 frm:gR c.L w f vv vs how n
 ln:vs.length+s.fuel<=2000000000
section
variable {c:gJ}{g f:Nat} {w w':C3} {vo vo' vv:C4} {s s':RS}{vs:fG}{how n:Int}
theorem fY.we(a:fY c g w vo s f vv vs how n)(b:Cx w w'):fY c g w' vo s f vv vs how n:=
 ⟨⟨a.l.run.we b,a.l.fu,a.l.sp,a.l.st⟩,a.frm.keep (X:=fun _=>False) (fF.wb _ b) fun _ _ d=>d.elim,a.ln⟩
theorem fY.step(a:fY c g w vo s f vv vs how n){X:Nat->Prop}(m:fF X w w')(e:∀k,k<w.heap.size->X k->f8 c vo k)(o:fP c w' vo' s'){b:Nat}(i:s'.fuel<=b)(_:s'.fuel<=s.fuel)(d:gP c.p s'):fY c b w' vo' s' f vv vs how n:=
 ⟨⟨o,i,d.sp,d.st⟩,a.frm.keep m fun k j q=>i6 a.l.run a.frm (e k j q),by have:=a.ln;omega⟩
end
def p2(c:gJ)(g:Nat):Prop:=∀(w:C3) (vo:C4) (s:RS) (f:Nat) (vv:C4) (vs:fG) (how n:Int) (v:List Pa) (k op m:Int) (td:C2) (tc:List Ex) (d:Nat) (a:C4),
 fY c g w vo s f vv vs how n->(qE c.p v (.mk k op m td tc)).2=0->xw (.mk k op m td tc) d=true->fS m->kU c.B w a tc->
 Cy 123 #[(c.b,0),(f,0),.agg #[(k:Int),(op:Int),(m:Int),td,a]] w (vT c vo w (f0 c.p g vs (.mk k op m td tc) s))
theorem p2.call{c:gJ}{g:Nat}(e:p2 c g){w:C3}{vo:C4}{s:RS}{f:Nat}{vv:C4}{vs:fG}{how n:Int}{v:List Pa}{k op m:Int}{td:C2}{tc:List Ex}{d:Nat}{a:C4}
 (i:fY c g w vo s f vv vs how n) (j:(qE c.p v (.mk k op m td tc)).2=0) (l:xw (.mk k op m td tc) d=true) (o:fS m) (q:kU c.B w a tc):
 Cy 123 #[(c.b,0),(f,0),.agg #[(k:Int),(op:Int),(m:Int),td,a]] w (vT c vo w (f0 c.p g vs (.mk k op m td tc) s)):=
 e w vo s f vv vs how n v k op m td tc d a i j l o q
theorem i9{c:gJ}(b:gK c.p){g f:Nat}{w:C3}{vo vv:C4}{s:RS}{vs:fG}{how n:Int}(a:fY c g w vo s f vv vs how n){v:List Pa}{x:Ex}(d:(qE c.p v x).2=0):zr c.p (f0 c.p g vs x s):=
 (jV c.p b g).1 v vs x s a.l.fu a.l.shp d
theorem fY.ex{c:gJ}(i:gK c.p){g f:Nat}{w w':C3}{vo vo' vv:C4}{s t:RS}{vs:fG}{how n a:Int}(b:fY c g w vo s f vv vs how n){v:List Pa}{x:Ex}(m:(qE c.p v x).2=0)(e:f0 c.p g vs x s=.ok a t)(j:fF (f8 c vo) w w')(k:fP c w' vo' t):fY c g w' vo' t f vv vs how n:=by
 have d:=i9 i b m;have q:=((qu c.p g vs x s).at e).1;rw[e]at d;exact b.step j (fun _ _ o=>o) k (by have:=b.l.fu;omega) O d
theorem fP.pay{c:gJ}{w:C3}{vo:C4}{s:RS}(a:fP c w vo s)(e:s.cost+1+s.fuel<=1000000000):fP c (w.setCell (c.b,7) (((s.cost:Int)+1):Int)) vo (zV s):=by
 obtain⟨vi,f,d⟩:=a.box;exact a.set d 7 (.int .i64 ((s.cost:Int)+1)) (D3 d _) f a.inn rfl rfl (Nat.le_succ _) e
theorem fP.end{c:gJ}{w:C3}{vo:C4}{s:RS}(a:fP c w vo s)(k:Int):fP c (w.setCell (c.b,4) (k:Int)) vo (kQ s k):=by
 obtain⟨vi,e,d⟩:=a.box;exact a.set d 4 (.int .i64 k) (D3 d _) e a.inn rfl rfl Zr a.fc
theorem fP.wm{c:gJ}{w:C3}{vo:C4}{s:RS}(h:fP c w vo s)(i:Nat)(u:C4):fF (f8 c vo) w (w.setCell (c.b,i) u):=fF.set (X:=f8 c vo) w (.inl ⟨D0 _,h.ord.2.1⟩) i u
theorem CX{vs:fG}{s:C2}{k:Nat}(h:ja vs s=some k):k<vs.length:=by
 have:=(List.getElem?_eq_some_iff.1 (rE h)).1;simpa[xi]using this
theorem gR.get{L:Nat}{w:C3}{f:Nat}{vv:C4}{vs:fG}{how n:Int}(d:gR L w f vv vs how n)(s:C2)(z:Nat)(c:Int)(o:XG (ja vs s)=z)(m:o8 vs s=c):
 ∃g a,vv=.slice (some ⟨g,0,none⟩) (vs.length+1) a/\g<w.heap.size/\z<vs.length+1/\w.cell? ⟨g,z*2+1,none⟩=some (.int .i64 c)/\fS c:=by
 obtain⟨g,a,e,_,i,_,j,_⟩:=d.cells;subst o m;unfold o8;cases he:ja vs s with
 |none=>exact⟨g,a,e,i,Cd _,(j 0 KY rfl).2,show fS 0 from⟨Uf,Uf⟩⟩
 |some k=>
   have l:=CX he;have b:vs[k]?=some vs[k]:=Dy l;refine⟨g,a,e,i,Nat.succ_lt_succ l,?_,?_⟩
   .have:=(j (k+1) vs[k] (List.getElem?_cons_succ.trans b)).2
    dsimp only;rw[b];exact this
   .dsimp only
    rw[b];exact d.wf _ (Yc b)
theorem kw{c:gJ}{w:C3}{vo:C4}{s:RS}(a:fP c w vo s)(j:s.spent=false)(l:s.stat=0)(i:0<s.fuel):
 Cy 121 #[(c.b,0)] w fun e w'=>e=.returned (.bool true)/\fP c w' vo (zj s).st/\fF (fun k=>k=c.b) w w':=
 (AR a j l).mono fun e w' ⟨d,f,g⟩=>⟨by rw[d,decide_eq_true i],f,g⟩
theorem sZ{c:gJ}{w:C3}{vo:C4}{s:RS}(a:fP c w vo s)(i:s.spent=false)(j:s.stat=0)(_:s.fuel=0):
 Cy 121 #[(c.b,0)] w fun e w'=>e=.returned (.bool false)/\fP c w' vo (zj s).st/\fF (fun k=>k=c.b) w w':=
 (AR a i j).mono fun e w' ⟨d,f,g⟩=>⟨by rw[d,decide_eq_false O],f,g⟩
theorem fY.wl{c:gJ}{g f:Nat}{w w':C3}{vo vv:C4}{s:RS}{vs:fG}{how n:Int}(a:fY c (g+1) w vo s f vv vs how n)(j:0<s.fuel)(m:fP c w' vo (zj s).st)(i:fF (fun k=>k=c.b) w w'):
 fY c g w' vo (zj s).st f vv vs how n/\fF (f8 c vo) w w'/\(zj s).st.cost+(zj s).st.fuel+1<=1000000000:=by
 have d:∀k,k<w.heap.size->k=c.b->f8 c vo k:=fun k _ e=>.inl (by have:=a.l.run.ord;omega)
 have e:=iB j;have o:=a.l.fu;have p:=a.l.run.fc;refine⟨a.step i d m ?_ ?_ ⟨?_,?_,?_⟩,i.mono d,?_⟩
 .rw[e];show s.fuel-1<=g;omega
 .rw[e];show s.fuel-1<=s.fuel;omega
 .rw[e];exact a.l.run.alen
 .rw[e];exact a.l.sp
 .rw[e];exact a.l.st
 .rw[e];show s.cost+(s.fuel-1)+1<=_;omega
def AY(c:gJ)(g:Nat):Prop:=∀(w:C3) (vo:C4) (s:RS) (k:Nat) (d:Fu) (a:List Int) (e:C4),wW c g w vo s->c.p.funcs[k]?=some d->a.length=d.params.length->rB w.heap.size w e a->fT a->
 Cy 35 #[(c.b,0),((k:Int):Int),e] w (vT c vo w (xI c.p g d a s))
theorem AY.call{c:gJ}{g:Nat}(f:AY c g){w:C3}{vo:C4}{s:RS}{k:Nat}{d:Fu}{a:List Int}{e:C4}(i:wW c g w vo s)(j:c.p.funcs[k]?=some d)(l:a.length=d.params.length)(m:rB w.heap.size w e a)(n:fT a):
 Cy 35 #[(c.b,0),((k:Int):Int),e] w (vT c vo w (xI c.p g d a s)):=f w vo s k d a e i j l m n
theorem NQ{c:gJ}(ax:gK c.p){g:Nat}(aJ:p2 c g){w:C3}{vo:C4}{s:RS}{f:Nat}{vv:C4}{vs:fG}{how n:Int}{v:List Pa}{op m:Int}{td:C2}{ab ad:Ex}{d:Nat}{a3:C4}(aP:op=18\/op=19)
 (I:fY c g w vo s f vv vs how n) (am:(qE c.p v ab).2=0) (aI:(qE c.p v ad).2=0) (an:zx [ab,ad] d=true) (aw:kU c.B w a3 [ab,ad]):
 Cy 146 #[(c.b,0),(f,0),.agg #[(5:Int),(op:Int),(m:Int),td,a3]] w
  (vT c vo w ((f0 c.p g vs ab s).bind fun a s=>if decide (a≠0)=decide (op=19)then .ok a s else f0 c.p g vs ad s)):=by
 obtain⟨P,T,R,W,L⟩:=ab;obtain⟨Q,V,S,X,M⟩:=ad;obtain⟨ah,aa,rfl,_⟩:=aw.form;have bu:=I.l.run.ord;have bx:=I.l.run.lt;have z:=C0 (Cx w (w.alloc (jL 5 op m td ah 2 aa))) (Zb.alloc Zr _);have bz:(w.alloc (jL 5 op m td ah 2 aa)).heap.size=w.heap.size+1:=zA _ _;have az:(w.alloc (jL 5 op m td ah 2 aa)).heap[w.heap.size]?=some (jL 5 op m td ah 2 aa):=Ds w _;obtain⟨_,_,_,_,_⟩:=qU az;have G:=U (I.we z.o);have Z:=U (aw.below (z.o.mono (show c.B<=w.heap.size by omega)) Zr);obtain⟨E,y,_,rfl,ae,bo,bp,bq,br,bs,aW⟩:=Z.o.cells (i:=0) (k:=P) (op:=T) (m:=R) (td:=W) (tc:=L) rfl;obtain⟨_,_,_,aM,_,aA,aB,aC,aD,aE,ag⟩:=Z.o.cells (i:=1) (k:=Q) (op:=V) (m:=S) (td:=X) (tc:=M) rfl;simp only[Option.some.injEq,Addr.mk.injEq,and_true]at aM;obtain⟨rfl,rfl⟩:=aM;rw[show y+0*5=y by omega]at bo bp bq br bs;rw[show y+1*5=y+5 by omega]at aA aB aC aD aE;have aT:=Z.o.range (i:=0) (k:=P) (op:=T) (m:=R) (td:=W) (tc:=L) rfl;have aU:=Z.o.range (i:=1) (k:=Q) (op:=V) (m:=S) (td:=X) (tc:=M) rfl;rw[qq,qq,D2,D2]at an;obtain⟨bl,aS⟩:=Cz (f0 c.p g vs (.mk P T R W L) s);have aF:=U (i9 ax G.o am);have A:=U aS;have ai:=U am;have a6:=U aI;have aq:=U an.1;have a7:=U an.2.1;have aj:=U aJ;have bt:=U aP;have ar:=U aT;have bc:=U aU;have au:=U aW;have be:=U ag;have av:=U az;have bv:E<w.heap.size:=O
 have a8:=U ax;have a9:=U I;clear I am aI an aw aS aJ aP aT aU aW ag az Z ax;have ay:¬f8 c vo w.heap.size:=fun C=>by have:=(a9.o.l.run.tch C).2.2;omega
 rcases bl with⟨a,t⟩|t
 .have ao:(t.spent || decide (t.stat≠0))=false:=by have:=kC aF.o;rw[A.o]at this;exact this
  obtain⟨ak,bh⟩:∃x:Bool,(a != 0)=x:=⟨_,rfl⟩
  obtain⟨al,bi⟩:∃x:Bool,(op == 19)=x:=⟨_,rfl⟩
  have aK:decide (a≠0)=ak:=by rw[<-bh];by_cases C:a=0<;>simp[C]
  have aL:decide (op=19)=al:=by rw[<-bi];by_cases C:op=19<;>simp[C]
  by_cases ap:ak=al
  .have Y:=U (show((f0 c.p g vs (.mk P T R W L) s).bind fun a s=>if decide (a≠0)=decide (op=19)then .ok a s else f0 c.p g vs (.mk Q V S X M) s)=.ok a t by
    rw[A.o];show(if _ then _ else _)=_
    rw[aK,aL,Dq ap])
   have bj:(ak == al)=true:=by simp[ap]
   go_enter func146,ntmps146
   go_upto_region 3 with(first
    | (go_at_call 123
       (with_reducible refine(aj.o.call G.o ai.o aq.o ar.o au.o).mono ?_)
       rintro e w1 ⟨n1,vo1,rfl,r,q,F,u⟩;rw[A.o]at r u;have D:=C0 (fP c w1 vo1 t) r;have H:=U q;have K:=U F;obtain⟨rfl,af⟩:=u a t rfl;have aG:=U af;clear af;have j:=q.at ay av.o;obtain⟨aY,aZ,a0,a1,a2⟩:=qU j;have ag:w.heap.size<w1.heap.size:=zB j;have aH:=U j
       clear r q F u j)
    | (go_at_call 37
       (with_reducible refine(zk D.o false ao).mono ?_);rintro e a4 ⟨rfl,rfl⟩))
   go_wp2_with fail;go_ret;rw[Y.o];exact⟨n1,vo1,rfl,D.o,(fF.wb _ z.o).trans H.o fun _ _ J=>J,K.o.mono z.o.size,fun b bm C=>by injection C with I am;subst I;exact⟨rfl,aG.o⟩⟩
  .have Y:=U (show((f0 c.p g vs (.mk P T R W L) s).bind fun a s=>if decide (a≠0)=decide (op=19)then .ok a s else f0 c.p g vs (.mk Q V S X M) s)=f0 c.p g vs (.mk Q V S X M) t by
    rw[A.o];show(if _ then _ else _)=_
    rw[aK,aL,Dp ap])
   have bj:(ak == al)=false:=by simp[ap]
   go_enter func146,ntmps146
   go_upto_region 4 with(first
    | (go_at_call 123
       (with_reducible refine(aj.o.call G.o ai.o aq.o ar.o au.o).mono ?_)
       rintro e w1 ⟨n1,vo1,rfl,r,q,F,u⟩;rw[A.o]at r u;have D:=C0 (fP c w1 vo1 t) r;have H:=U q;have K:=U F;obtain⟨rfl,af⟩:=u a t rfl;have aG:=U af;clear af;have j:=q.at ay av.o;obtain⟨aY,aZ,a0,a1,a2⟩:=qU j;have ag:w.heap.size<w1.heap.size:=zB j;have aH:=U j
       clear r q F u j)
    | (go_at_call 37
       (with_reducible refine(zk D.o false ao).mono ?_);rintro e a4 ⟨rfl,rfl⟩))
   have a5:=U (G.o.ex a8.o ai.o A.o H.o D.o);have N:Below c.B (w.alloc (jL 5 op m td (some ⟨E,y,none⟩) 2 aa)) w1:=G.o.l.run.below H.o fun k _ aN=>(G.o.l.run.tch aN).1
   have aA:=(N.cell (p:=(E,y+5)) ae).trans aA;have aB:=(N.cell (p:=(E,y+5+1)) ae).trans aB;have aC:=(N.cell (p:=(E,y+5+2)) ae).trans aC;have aD:=(N.cell (p:=(E,y+5+3)) ae).trans aD;have aE:=(N.cell (p:=(E,y+5+4)) ae).trans aE;have bf:=U (be.o.below N Zr);have bw:E<w1.heap.size:=O
   go_wp2_with (go_at_call 123
                (with_reducible refine(aj.o.call a5.o a6.o a7.o bc.o bf.o).mono ?_)
                rintro e _ ⟨bk,bn,rfl,aV,aR,aX,aO⟩;have bd:=U aV;have bb:=U aR;have bg:=U aX;have ba:=U aO
                clear aV aR aX aO)
   go_ret;rw[Y.o];have aQ:=(fF.wb (f8 c vo) z.o).trans H.o fun _ _ J=>J
   exact⟨bk,bn,rfl,bd.o,aQ.trans bb.o fun k aN J=>f8.to K.o (by have:=z.o.size;omega) J,(K.o.mono z.o.size).trans bg.o (by have:=aQ.size;exact this),ba.o⟩
 .have ao:(t.spent || decide (t.stat≠0))=true:=by have:=kC aF.o;rw[A.o]at this;exact this
  have Y:=U (show((f0 c.p g vs (.mk P T R W L) s).bind fun a s=>if decide (a≠0)=decide (op=19)then .ok a s else f0 c.p g vs (.mk Q V S X M) s)=.fin t by
   rw[A.o]
   rfl)
  go_enter func146,ntmps146
  go_upto_region 3 with(first
   | (go_at_call 123
      (with_reducible refine(aj.o.call G.o ai.o aq.o ar.o au.o).mono ?_)
      rintro e w1 ⟨n1,vo1,rfl,r,q,F,u⟩;rw[A.o]at r u;have D:=C0 (fP c w1 vo1 t) r;have H:=U q;have K:=U F;have j:=q.at ay av.o;obtain⟨aY,aZ,a0,a1,a2⟩:=qU j;have ag:w.heap.size<w1.heap.size:=zB j;have aH:=U j
      clear r q F u j)
   | (go_at_call 37
      (with_reducible refine(zk D.o true ao).mono ?_);rintro e a4 ⟨rfl,rfl⟩))
  go_wp2_with fail;go_ret;rw[Y.o];exact⟨n1,vo1,rfl,D.o,(fF.wb _ z.o).trans H.o fun _ _ J=>J,K.o.mono z.o.size,fun b bm C=>by cases C⟩
theorem zbr{l:List Int}(h:l.length=2):∃a b,l=[a,b]:=by
 match l,h with
 |[a,b],_=>exact⟨a,b,rfl⟩
theorem XJ{l:List Int}(h:l.length=1):∃a,l=[a]:=by
 match l,h with
 |[a],_=>exact⟨a,rfl⟩
theorem s0{B:Nat}{w:C3}{g o c:Nat}{x:Int}{l:List Int}(f:k5 B w (.slice (some ⟨g,o,none⟩) (l.length+1) c) (x::l)):k5 B w (.slice (some ⟨g,o+1,none⟩) l.length (c-1)) l:=by
 obtain⟨⟨b,_,q,p,hF⟩,m⟩:=f;have r:=m _ _ _ rfl;injection q with d _ _;refine⟨⟨_,_,rfl,by rw[D1]at p;omega,fun _=>?_⟩,fun b n _ e=>?_⟩
 .obtain⟨_,_,a,i⟩:=hF (by rw[D1];omega)
  rw[<-d]at a;injection a with a;injection a with j k _;subst j k;exact⟨g,o+1,rfl,i.2⟩
 .injection e with _ _ _
  omega
theorem s3{B:Nat}{w:C3}{a:Option Addr}{l:List Int}(b:l.length=0)(c:Nat):k5 B w (.slice a l.length c) l:=by
 obtain rfl:=Yq b;exact⟨⟨a,c,rfl,Dx _,fun b=>absurd b Uh⟩,fun a n _ e=>by injection e with _ d _;subst d;exact Dx _⟩
theorem NR{k op n:Int}{s:C2}{b:Nat}(a:zl k op n s b=true):b<=8:=by
 unfold zl at a
 repeat' split at a
 all_goals(simp at a;try omega)
theorem FN{k op n:Int}{s:C2}{b:Nat}(a:zl k op n s b=true):k=1\/k=2\/k=3\/k=4\/k=5\/k=6\/k=7\/k=8:=by
 unfold zl at a
 repeat' split at a
 all_goals(first|omega|cases a)
theorem mV{k op n:Int}{s:C2}{b:Nat}(a:zl k op n s b=true):(k=4\/k=6->b=1)/\(k=5->b=2):=by
 unfold zl at a
 repeat' split at a
 all_goals(first|(exfalso;cases a;done)|(simp at a;exact⟨fun _=>O,fun _=>O⟩))
theorem AZ{c:gJ}{w:C3}{vo:C4}{s:RS}(f:fP c w vo s)(td:C2)(n:Int){k:Nat}{l:List Int}(j:zZ c.p.wa td=some k)(m:s.arr[k]?=some l)(d:0<=n/\n<(l.length:Int)):
 Cy 125 #[(c.b,0),td,(n:Int)] w fun e w'=>e=.returned (.bool true)/\fP c w' vo s/\fF (fun k=>k=c.b) w w':=
 (AU f td n j m).mono fun e w' ⟨g,a,i⟩=>⟨by rw[g,decide_eq_true d],by rw[Dq d]at a;exact a,i⟩
theorem FO{c:gJ}{w:C3}{vo:C4}{s:RS}(f:fP c w vo s)(td:C2)(n:Int){k:Nat}{l:List Int}(j:zZ c.p.wa td=some k)(m:s.arr[k]?=some l)(d:¬(0<=n/\n<(l.length:Int))):
 Cy 125 #[(c.b,0),td,(n:Int)] w fun e w'=>e=.returned (.bool false)/\fP c w' vo (kQ s 3)/\fF (fun k=>k=c.b) w w':=
 (AU f td n j m).mono fun e w' ⟨g,a,i⟩=>⟨by rw[g,decide_eq_false d],by rw[Dp d]at a;exact a,i⟩
theorem XK{p:Pr}{v:List Pa}{td:C2}(c:kN p v 7 td=true):∃i b,qP p.funcs td=some i/\p.funcs[i]?=some b/\jT p td=some b:=by
 unfold kN at c;obtain⟨i,a⟩:=Option.isSome_iff_exists.1 (show(qP p.funcs td).isSome=true by simpa using c);obtain⟨f,d,_⟩:=xq a;exact⟨i,f,a,d,by unfold jT;rw[a];exact d⟩
structure gH (c:gJ) (g:Nat) (vs:fG) (args:List Ex) (w1:C3) (vo:C4) (t0:RS) (f:Nat) (vv:C4) (how n:Int) (av:C4) (wr:C3) (j:Nat) (q:List Int) (t:RS) (vo1:C4):Prop where
 len:q.length=j
 ev:iZ (f0 c.p g vs) args t0=fR.app q (iZ (f0 c.p g vs) (args.drop j) t)
 live:fY c g wr vo1 t f vv vs how n
 off:fF (f8 c vo) w1 wr
 to:fM w1.heap.size vo vo1
 row:wr.ownsRow w1.heap.size 3 1 av j (q.map (Value.int .i64))
 apart:∀k,av.ownBlock=some k->vo1.ownBlock≠some k
 inn:fT q
 pay:t.cost+t.fuel<=t0.cost+t0.fuel
 ord:c.L<=w1.heap.size
section
variable {c:gJ}{g:Nat}{vs:fG}{tc:List Ex}{w1:C3}{vo:C4}{t0:RS}{f:Nat}{vv:C4}{how n:Int}{av:C4}{wr:C3}{j:Nat}{q:List Int}{t:RS}{vo1:C4}
theorem gH.start(a:fY c g w1 vo t0 f vv vs how n):gH c g vs tc w1 vo t0 f vv how n (.slice none 0 0) w1 0 [] t0 vo:=
 ⟨rfl,by rw[List.drop_zero,XH],a,fF.refl _ _,fM.refl _ _,Yp _ _ _ _,fun k b=>Xt,fun n d=>(by cases d),D0 _,a.l.run.ord.2.2⟩
theorem gH.rowk(a:gH c g vs tc w1 vo t0 f vv how n av wr j q t vo1){e:C3}(i:fF (f8 c vo1) wr e):e.ownsRow w1.heap.size 3 1 av j (q.map (Value.int .i64)):=
 zQ a.row fun k b=>i.block k (zT a.row k b).1 fun l=>by
  have m:=(zT a.row k b).2;have o:=a.ord;rcases l with d|d
  .omega
  .exact a.apart k b d
theorem gH.lt(h:gH c g vs tc w1 vo t0 f vv how n av wr j q t vo1):w1.heap.size<=wr.heap.size:=h.off.size
theorem gH.next(Q:gK c.p)(d:gH c g vs tc w1 vo t0 f vv how n av wr j q t vo1){v:List Pa}{x:Ex}{a:Int}{G:RS}{e z:C3}{w A:C4}{o:Obj}(R:tc[j]?=some x)(F:f0 c.p g vs x t=.ok a G)(aa:(qE c.p v x).2=0)
 (E:fP c e w G) (y:fF (f8 c vo1) wr e) (M:fM wr.heap.size vo1 w) (W:fS a) (V:(e.alloc o).grownBy z av.ownBlock) (X:kj (e.alloc o) av A) (Z:z.ownsRow w1.heap.size 3 1 A (j+1) (q.map (Value.int .i64)++[.int .i64 a])):
 gH c g vs tc w1 vo t0 f vv how n A z (j+1) (q++[a]) G w:=by
 have P:=d.live.ex Q aa F y E;have ad:(e.alloc o).heap.size=e.heap.size+1:=zA _ _;have ae:wr.heap.size<=e.heap.size:=y.size;have C:Cx e (e.alloc o):=Zb.alloc Zr _;have s:=P.we C;have K:=d.rowk y;have I:∀k,av.ownBlock=some k->w.ownBlock≠some k:=fun k b=>M.not (zT d.row k b).1 (d.apart k b)
 have D:fF (fun k=>av.ownBlock=some k) (e.alloc o) z:=fF.grown V fun k b=>b
 have T:∀k,k<(e.alloc o).heap.size->av.ownBlock=some k->¬gG f vv k:=fun k _ b S=>by
  have L:(e.alloc o).ownsRow w1.heap.size 3 1 av j (q.map (Value.int .i64)):=zQ K fun k b=>C.block k (zT K k b).1
  rcases S with r|r
  .subst r
   exact uE L (show Is (e.alloc o) k 134 #[vv,(how:Int),(n:Int)]from s.frm.box) Uf b
  .exact CS L s.frm.row Uf k b r
 have Y:∀k,k<(e.alloc o).heap.size->av.ownBlock=some k->c.B<=k/\¬f8 c w k:=fun k _ b=>by
  have r:=(zT d.row k b).2;have N:=d.ord;have ab:=E.ord;refine⟨O,fun i=>?_⟩;rcases i with H|H
  .omega
  .exact I k b H
 have J:=qu c.p g vs x t;rw[F]at J;refine⟨by rw[Dr,d.len];rfl,?_,⟨⟨s.l.run.keep D Y,s.l.fu,s.l.sp,s.l.st⟩,s.frm.keep D T,s.ln⟩,?_,?_,?_,?_,?_,?_,d.ord⟩
 .rw[d.ev,xB R]
  exact R6 F q
 .refine((d.off.trans y fun k b i=>f8.to d.to b i).trans (fF.wb (f8 c vo) C) fun _ _ i=>i).trans D fun k b i=>?_
  have:=(zT d.row k i).2;omega
 .exact d.to.trans M d.off.size
 .rw[Yj];exact Z
 .intro k b
  rcases X with r|⟨_,r,N⟩
  .exact I k (r▸b)
  .rw[r]at b
   injection b with b;intro i;have:=(E.dl i).2;omega
 .intro m u
  rcases List.mem_append.1 u with u|u
  .exact d.inn m u
  .rw[List.mem_singleton.1 u];exact W
 .exact Dz J.1.pay d.pay
theorem gH.cells(e:gH c g vs tc w1 vo t0 f vv how n av wr j q t vo1)(r:0<j):∃b d,av=.slice (some ⟨b,0,none⟩) j d/\c.L<=b/\b<wr.heap.size/\(∀i a,q[i]?=some a->wr.cell? ⟨b,i,none⟩=some (.int .i64 a))/\¬f8 c vo1 b:=by
 obtain⟨b,d,k,_,m,_,o,_⟩:=xC e.row r;have u:=e.ord;refine⟨b,d,k,O,m,fun i a p=>o i _ (ZJ _ _ _ p),fun s=>?_⟩;rcases s with l|l
 .omega
 .exact e.apart b (by rw[k];rfl) l
theorem gH.stop(b:gH c g vs tc w1 vo t0 f vv how n av wr j q t vo1){u:RS}{e l:C3}{i:C4}{o:Obj}(s:fP c e i u)(x:fF (f8 c vo1) wr e)(y:fM wr.heap.size vo1 i)(v:(e.alloc o).grownBy l av.ownBlock):
 fP c l i u/\fF (f8 c vo) w1 l:=by
 have p:Cx e (e.alloc o):=Zb.alloc Zr _;have w:∀k,av.ownBlock=some k->i.ownBlock≠some k:=fun k a=>y.not (zT b.row k a).1 (b.apart k a)
 have r:fF (fun k=>av.ownBlock=some k) (e.alloc o) l:=fF.grown v fun k a=>a
 refine⟨(s.we p).keep r fun k _ a=>?_,?_⟩
 .have z:=(zT b.row k a).2
  have A:=b.ord;have B:=s.ord;refine⟨O,fun d=>?_⟩;rcases d with m|m
  .omega
  .exact w k a m
 .refine((b.off.trans x fun k a d=>f8.to b.to a d).trans (fF.wb (f8 c vo) p) fun _ _ d=>d).trans r fun k a d=>?_
  have:=(zT b.row k d).2;omega
end
inductive fO where
 |beg
 |app (e:Ex)
 |fin (t:St)
 |jmp (to:Nat)
 |unl (to:Nat)
 |lzy (z:Bool) (to:Nat)
 |ent
 |lve
mutual
def zy:Ex->Nat
 |.mk _ _ _ _ tc=>zH tc+2
def zH:List Ex->Nat
 |[]=>0
 |e::r=>zy e+zH r
end
mutual
def y8:Ex->Nat->List fO
 |.mk k op n td tc,b=>
   if k=5/\(op=18\/op=19)then .beg::wX tc (b+1) (decide (op=18))
   else .beg::(qN tc (b+1)++[.app (.mk k op n td tc)])
def qN:List Ex->Nat->List fO
 |[],_=>[]
 |e::r,b=>y8 e b++qN r (b+zy e)
def wX:List Ex->Nat->Bool->List fO
 |[],_,z=>[.lzy z 0]
 |e::r,b,z=>y8 e b++.lzy z (b+zy e+1+zH r)::qN r (b+zy e+1)
end
mutual
theorem xr:∀(e:Ex) (b:Nat),(y8 e b).length=zy e
 | .mk k op n td tc,b=>by
   rw[y8,zy];split
   .rw[D1,SD]
   .rw[D1,Dr,jF];rfl
theorem jF:∀(l:List Ex) (b:Nat),(qN l b).length=zH l
 |[],_=>rfl
 |e::r,b=>by rw[qN,zH,Dr,xr,jF]
theorem SD:∀(l:List Ex) (b:Nat) (z:Bool),(wX l b z).length=zH l+1
 |[],_,_=>rfl
 |e::r,b,z=>by rw[wX,zH,Dr,D1,xr,jF];omega
end
def NS:St->Bool
 |.mk k _ _ _ _ _=>decide (k=1)
def y9(l:List St):Bool:=l.any NS
def lB(l:List St)(f:Nat->Nat)(d:Nat):Nat:=if y9 l then f (d+1)+2 else f d
def gB(l:List St)(f:Nat->Nat->List fO)(b d:Nat):List fO:=if y9 l then .ent::(f (b+1) (d+1)++[.lve])else f b d
mutual
def xa:St->Nat->Nat
 |.mk k _ _ tc tg th,d=>
   if k=4 then zH tc+3+lB tg (fJ tg) d+lB th (fJ th) d
   else if k=5 then zH tc+3+lB tg (fJ tg) 0
   else if k=6\/k=7 then d+2
   else zH tc+2
def fJ:List St->Nat->Nat
 |[],_=>0
 |t::r,d=>xa t d+fJ r d
end
mutual
def xD:St->Nat->Nat->Nat->Nat->List fO
 |.mk k ty td tc tg th,b,d,st,br=>
   if k=4 then .beg::(qN tc (b+1)++.unl (b+zH tc+3+lB tg (fJ tg) d)::(gB tg (fun b d=>qe tg b d st br) (b+zH tc+2) d++
    .jmp (b+zH tc+3+lB tg (fJ tg) d+lB th (fJ th) d)::gB th (fun b d=>qe th b d st br) (b+zH tc+3+lB tg (fJ tg) d) d))
   else if k=5 then .beg::(qN tc (b+1)++.unl (b+zH tc+3+lB tg (fJ tg) 0)::(gB tg (fun c d=>qe tg c d (b+1) (b+zH tc+3+lB tg (fJ tg) 0)) (b+zH tc+2) 0++[.jmp (b+1)]))
   else if k=6 then .beg::(List.replicate d .lve++[.jmp br])
   else if k=7 then .beg::(List.replicate d .lve++[.jmp st])
   else .beg::(qN tc (b+1)++[.fin (.mk k ty td tc tg th)])
def qe:List St->Nat->Nat->Nat->Nat->List fO
 |[],_,_,_,_=>[]
 |t::r,b,d,st,br=>xD t b d st br++qe r (b+xa t d) d st br
end
def qY(l:List St)(d:Nat):Nat:=lB l (fJ l) d
def kl(l:List St)(b d st a:Nat):List fO:=gB l (fun b d=>qe l b d st a) b d
theorem lQ{l:List St}{f:Nat->Nat->List fO}{g:Nat->Nat}(h:∀b d,(f b d).length=g d)(b d:Nat):(gB l f b d).length=lB l g d:=by
 unfold gB lB;split
 .simp[h]
 .exact h b d
mutual
theorem s6:∀(t:St) (b d st a:Nat),(xD t b d st a).length=xa t d
 | .mk k ty td tc tg th,b,d,st,a=>by
   rw[xD,xa];split
   .simp only[D1,Dr,jF,lQ (fun b d=>jm tg b d st a),lQ (fun b d=>jm th b d st a)];omega
   split
   .simp only[D1,Dr,jF,lQ (fun c d=>jm tg c d _ _),D5];omega
   split
   .rw[Dq O];simp
   split
   .rw[Dq O];simp
   .rw[Dp O];simp[jF]
theorem jm:∀(l:List St) (b d st a:Nat),(qe l b d st a).length=fJ l d
 |[],_,_,_,_=>rfl
 |t::r,b,d,st,a=>by rw[qe,fJ,Dr,s6,jm]
end
theorem mW(l:List St)(b d st a:Nat):(kl l b d st a).length=qY l d:=lQ (fun b d=>jm l b d st a) b d
def gE(f:Fu):List fO:=qe f.body 0 0 0 0
structure Fr where
 code:List fO
 pl:Nat
 vs:fG
 o:List Nat
structure Vm where
 s:RS
 v:List Int
 cs:List Fr
inductive VR where
 |go (m:Vm)
 |stop (c:Option Int) (s:RS)
 |bad
def pJ(p:Pr)(k op n:Int)(td:C2)(a:Nat)(s:RS)(v:List Int)(c:Fr)(r:List Fr):VR:=
 if v.length<a\/zl k op n td a=false then .bad
 else if k=7 then(match jT p td with
  |some f=>if f.params.length=a then .go ⟨zV s,v.take (v.length-a),⟨gE f,0,fN f (v.drop (v.length-a)),[]⟩::c::r⟩else .bad
  |none=>.bad)
 else if(k=3/\ja c.vs td=none)\/(k=6/\zZ p.wa td=none)then .bad
 else match qQ p (fun _ _ s=>.fin s) c.vs k op n td (v.drop (v.length-a)) s with
  |.ok x t=>.go ⟨t,v.take (v.length-a)++[x],c::r⟩
  |.fin t=>.stop none t
def XL(v:List Int)(r:List Fr)(n:Int)(t:RS):VR:=match r with
 |[]=>.stop (some n) t
 |c::q=>.go ⟨t,v++[n],c::q⟩
def lF(p:Pr)(k:Int)(td:C2)(s:RS)(v:List Int)(c:Fr)(r:List Fr):VR:=
 match v.getLast? with
 |none=>.bad
 |some x=>
   if k<=3/\uk td=false then .bad
   else if k=1 then .go ⟨s,v.dropLast,{ c with vs:=c.vs++[(td,x)] } :: r⟩
   else if k=2 then(if ja c.vs td=none then .bad else .go ⟨s,v.dropLast,{ c with vs:=xH c.vs td x } :: r⟩)
   else if k=3 then(match v.dropLast.getLast? with
    |none=>.bad
    | some i=>if zZ p.wa td=none then .bad else match yZ p td i x (zV s)with
      |.ok _ t=>.go ⟨t,v.dropLast.dropLast,c::r⟩
      |.fin t=>.stop none t)
   else if k=8 then XL v.dropLast r x s
   else if k=9 then .go ⟨{ zV s with o:=s.o++[x] },v.dropLast,c::r⟩
   else if k=10 then .go ⟨s,v.dropLast,c::r⟩
   else .bad
def yC(p:Pr)(x:fO)(s:RS)(v:List Int)(c:Fr)(r:List Fr):VR:=match x with
 | .beg=>match zj s with
   |.ok _ t=>.go ⟨t,v,c::r⟩
   |.fin t=>.stop none t
 |.app (.mk k op n td tc)=>pJ p k op n td tc.length s v c r
 |.fin (.mk k _ td _ _ _)=>lF p k td s v c r
 |.jmp t=>.go ⟨s,v,{ c with pl:=t } :: r⟩
 | .unl t=>match v.getLast? with
   |none=>.bad
   |some n=>.go ⟨s,v.dropLast,(if n=0 then { c with pl:=t } else c)::r⟩
 | .lzy z t=>match v.getLast? with
   |none=>.bad
   |some n=>if decide (n=0)=z then .go ⟨s,v,{ c with pl:=t } :: r⟩else .go ⟨s,v.dropLast,c::r⟩
 |.ent=>.go ⟨s,v,{ c with o:=c.o++[c.vs.length] } :: r⟩
 | .lve=>match c.o.getLast? with
   |none=>.bad
   |some n=>.go ⟨s,v,{ c with vs:=c.vs.take n,o:=c.o.dropLast } :: r⟩
structure Lm (K:Nat) (s:RS) (v:List Int) (vs:fG) (o:List Nat):Prop where
 v:v.length+s.fuel<=K
 c:s.cost+s.fuel<=K
 vs:vs.length+s.fuel<=K
 o:o.length<=100
instance (K:Nat) (s:RS) (v:List Int) (vs:fG) (o:List Nat):Decidable (Lm K s v vs o):=
 decidable_of_iff (v.length+s.fuel<=K/\s.cost+s.fuel<=K/\vs.length+s.fuel<=K/\o.length<=100) ⟨fun h=>⟨h.1,h.2.1,h.2.2.1,h.2.2.2⟩,fun h=>⟨h.v,h.c,h.vs,h.o⟩⟩
def xJ(p:Pr)(K:Nat)(m:Vm):VR:=match m.cs with
 |[]=>.bad
 | c::r=>if Lm K m.s m.v c.vs c.o then(match c.code[c.pl]? with
   |none=>.bad
   |some x=>yC p x m.s m.v { c with pl:=c.pl+1 } r)else .bad
def K2(p:Pr)(K:Nat):Nat->Vm->VR
 |0,m=>.go m
 | k+1,m=>match xJ p K m with
   |.go m'=>K2 p K k m'
   |x=>x
theorem K3{p:Pr}{K:Nat}:∀(k j:Nat) (m m':Vm),K2 p K k m=.go m'->K2 p K (k+j) m=K2 p K j m'
 |0,j,m,m',a=>by injection a with a;rw[a,Yz]
 | k+1,j,m,m',a=>by
   rw[show k+1+j=(k+j)+1 by omega,K2];rw[K2]at a;cases hs:xJ p K m with
   |go b=>rw[hs]at a;exact K3 k j b m' a
   |stop c s=>rw[hs]at a;cases a
   |bad=>rw[hs]at a;cases a
def To(p:Pr)(K:Nat)(m:Vm)(x:VR):Prop:=∃k,K2 p K k m=x
theorem To.go{p:Pr}{K:Nat}{m m':Vm}{x:VR}(a:To p K m (.go m'))(g:To p K m' x):To p K m x:=by
 obtain⟨k,c⟩:=a;obtain⟨j,b⟩:=g;exact⟨k+j,(K3 k j m m' c).trans b⟩
theorem To.refl{p:Pr}{K:Nat}{m:Vm}:To p K m (.go m):=⟨0,rfl⟩
theorem To.one{p:Pr}{K:Nat}{m:Vm}{x:VR}(h:xJ p K m=x):To p K m x:=⟨1,by
 rw[K2,h]
 cases x<;>rfl⟩
def Sm{α:Type}(p:Pr)(K:Nat)(m:Vm)(x:fR α)(F:α->RS->VR):Prop:=To p K m (match x with | .ok a s=>F a s | .fin s=>.stop none s)
theorem Sm.go{α:Type}{p:Pr}{K:Nat}{m m':Vm}{x:fR α}{F:α->RS->VR}(h:To p K m (.go m'))(g:Sm p K m' x F):Sm p K m x F:=To.go h g
theorem Sm.one{α:Type}{p:Pr}{K:Nat}{m m':Vm}{x:fR α}{F:α->RS->VR}(h:xJ p K m=.go m')(g:Sm p K m' x F):Sm p K m x F:=To.go (To.one h) g
theorem Sm.bind{α β:Type}{p:Pr}{K:Nat}{m:Vm}{x:fR α}{F:α->RS->VR}{f:α->RS->fR β}{H:β->RS->VR}(h:Sm p K m x F)(g:∀a t,x=.ok a t->To p K m (F a t)->Sm p K m (f a t) H):Sm p K m (x.bind f) H:=by
 cases x with
 |fin t=>exact h
 |ok a t=>exact g a t rfl h
theorem Sm.imp{α:Type}{p:Pr}{K:Nat}{m:Vm}{x:fR α}{F G:α->RS->VR}(h:Sm p K m x F)(g:∀a t,x=.ok a t->F a t=G a t):Sm p K m x G:=by
 cases x with
 |fin t=>exact h
 |ok a t=>unfold Sm at *;dsimp only at *;rw[<-g a t rfl];exact h
def wJ(tn:List fO)(b:Nat)(l:List fO):Prop:=∀i x,l[i]?=some x->tn[b+i]?=some x
theorem wJ.head{tn:List fO}{b:Nat}{x:fO}{l:List fO}(h:wJ tn b (x::l)):tn[b]?=some x:=h 0 x rfl
theorem wJ.tail{tn:List fO}{b:Nat}{x:fO}{l:List fO}(a:wJ tn b (x::l)):wJ tn (b+1) l:=fun i d c=>by
 rw[show b+1+i=b+(i+1)by omega];exact a (i+1) d Ux
theorem wJ.left{tn:List fO}{b:Nat}{k l:List fO}(c:wJ tn b (k++l)):wJ tn b k:=fun i d a=>c i d (by
 rw[Yo (List.getElem?_eq_some_iff.1 a).1];exact a)
theorem wJ.right{tn:List fO}{b:Nat}{k l:List fO}(a:wJ tn b (k++l)){c:Nat}(d:c=b+k.length):wJ tn c l:=fun i f e=>by
 subst d;rw[show b+k.length+i=b+(k.length+i)by omega];exact a _ f (by rw[Yi O,show k.length+i-k.length=i by omega];exact e)
theorem ym{p:Pr}{K:Nat}{s:RS}{v:List Int}{tn:List fO}{b:Nat}{vs:fG}{o:List Nat}{r:List Fr}{x:fO}(c:Lm K s v vs o)(a:tn[b]?=some x):
 xJ p K ⟨s,v,⟨tn,b,vs,o⟩::r⟩=yC p x s v ⟨tn,b+1,vs,o⟩ r:=by
 unfold xJ;dsimp only;rw[Dq c,a]
end Go.Proofs.YthcmenajdcbnnaaGreatDoor
namespace Go.Proofs.YthcmenajdcbnnaaGreatDoor
open Go.RowKit Tryz Go.Maps
theorem s9:Keyed Tryz.prog 9:=string_keyed underlying9
def mX(s:C2):Lit:=.string s.data.toList
theorem SE{s t:C2}(h:s≠t):mX s≠mX t:=fun e=>h (by
 unfold mX at e;injection e with e;cases s;cases t
 simpa[Array.toList_inj]using e)
theorem CY{s:C2}(a:s.size<=maxLen):keyOf Tryz.prog 9 (.string s)=some (mX s):=WideMaps.keyOf_string_mk underlying9 a
abbrev SF:C4->Option (DataW C4×List MemPlace):=fun v=>some (.held v,[])
def fZ(w:C3)(m n:Nat)(z:C4)(f:C2->C4):Prop:=
 ∃D:DataW C4,w.ownsMap Tryz.prog 9 SF m n D/\∀s:C2,D.atKey (mX s) (.held z)=.held (f s)
section
variable {w w':C3}{m n:Nat}{z:C4}{f:C2->C4}
theorem fZ.lt(h:fZ w m n z f):m<w.heap.size:=by obtain⟨_,h,_⟩:=h;exact h.lt
theorem fZ.wd(d:fZ w m n z f)(j:w'.heap[m]?=w.heap[m]?):fZ w' m n z f:=by
 obtain⟨a,⟨c,b,i,e⟩,g⟩:=d;exact⟨a,⟨c,b,j.trans i,e⟩,g⟩
theorem fZ.congr(a:fZ w m n z f){g:C2->C4}(e:∀s,g s=f s):fZ w m n z g:=by
 obtain⟨b,a,c⟩:=a;exact⟨b,a,fun s=>(c s).trans (by rw[e])⟩
theorem oO(w:C3)(z:C4):fZ (w.alloc (.map #[] 0)) w.heap.size 0 z fun _=>z:=⟨_,World.ownsMap_made _ _ _ _,fun s=>rfl⟩
def NT(f:C2->C4)(s:C2)(v:C4)(t:C2):C4:=if t=s then v else f t
theorem A0{a:DataW C4}(b:w.ownsMap Tryz.prog 9 SF m n a):IsMap a:=by
 obtain⟨_,_,_,_,_,c⟩:=b;exact⟨_,c⟩
theorem FP{a:DataW C4}(c:IsMap a)(b:∀s:C2,a.atKey (mX s) (.held z)=.held (f s))(s:C2)(v:C4):
 ∀t:C2,(a.put (mX s) (.held v)).atKey (mX t) (.held z)=.held (NT f s v t):=fun t=>by
 unfold NT;by_cases e:t=s
 .subst e
  rw[Dq rfl];exact atKey_put_same c (show WideAt.IsKeyLit (.string _)from trivial) _ _
 .rw[Dp e,<-b t]
  exact atKey_put_other (SE e) _ _
theorem fZ.look(c:fZ w m n z f){t e:TypeId}(k:Tryz.prog.underlying t=some (.map 9 e))(l:(zeroValue e).run Tryz.prog w=.ok z w){s:C2}(j:s.size<=maxLen):
 (Instr.lookup t (.map (some m)) (.string s) false).run Tryz.prog w=.ok (f s) w:=by
 obtain⟨_,g,d⟩:=c;obtain⟨v,ps,i,a⟩:=g.lookup s9 k l (zd:=.held z) (zp:=[]) rfl (CY j);rw[d s]at a;injection a with a;injection a with b _;injection b with b;rw[i,b]
theorem g4{ops:Array Oper}{d:List Oper}{o:Oper}{a:Act}{Q:Exit->Act->C3->Prop}(q:o.guard=none)(b x vv:Operand)(t:TypeId)(v:o.op=Op.mapUpdate t b x vv)
 (e:TypeId) (A:Tryz.prog.underlying t=some (.map 9 e)) (r:a.eval b=.map (some m)) (i:fZ w m n z f) (u:n<maxLen) (s:C2) (C:a.eval x=.string s) (y:s.size<=maxLen) (val:C4) (B:a.eval vv=val)
 (l:∀w',fZ w' m (n+1) z (NT f s val)->w.grownBy w' (some m)->wpList Tryz.prog ops Q d (a.put o.dst undef) w'):wpList Tryz.prog ops Q (o::d) a w:=by
 obtain⟨g,c,p⟩:=i;exact wpList_mapUpdate_own w q b x vv t v 9 e s9 A SF m n g r c u (.string s) val (mX s) C B (CY y) (.held val) [] rfl fun w' j k=>l w' ⟨_,j,FP (A0 c) p s val⟩ k
theorem fZ.upd(b:fZ w m n z f){t e:TypeId}(o:Tryz.prog.underlying t=some (.map 9 e))(j:n<maxLen){s:C2}(l:s.size<=maxLen)(val:C4):
 ∃w',(Instr.mapUpdate t (.map (some m)) (.string s) val).run Tryz.prog w=.ok () w'/\fZ w' m (n+1) z (NT f s val)/\w.grownBy w' (some m):=by
 obtain⟨_,a,i⟩:=b;obtain⟨w',k,c,g⟩:=a.update s9 o j (CY l) (val:=val) (d:=.held val) (ps:=[]) rfl;exact⟨w',k,⟨_,c,FP (A0 a) i s val⟩,g⟩
end
inductive Lb where
 |gl
 |mach
 |funs
 |arrs
 |code
 |arr (k:Nat)
 |vals
 |outs
 |frm (d:Nat)
 |vmap (d i:Nat)
 |outr (d:Nat)
 |cel (d i:Nat)
structure Gm where
 B:Nat
 b:Nat
 p:Pr
 fm:Nat
 am:Nat
 fv:C2->C4
 kp:Nat->Obj->Prop
def pK(B:Nat)(w:C3)(v:C4)(e:Ex):Prop:=∃g o,v=.pointer (some ⟨g,o,none⟩)/\y1 B w e g o
def oP(B:Nat)(w:C3)(v:C4)(t:St):Prop:=∃g o,v=.pointer (some ⟨g,o,none⟩)/\EC B w t g o
theorem pK.below{B a:Nat}{w w':C3}{v:C4}{e:Ex}(b:pK B w v e)(i:Below B w w')(f:B<=a):pK a w' v e:=by
 obtain⟨g,o,c,d⟩:=b;exact⟨g,o,c,y1.below i f e g o d⟩
theorem oP.below{B a:Nat}{w w':C3}{v:C4}{e:St}(b:oP B w v e)(i:Below B w w')(f:B<=a):oP a w' v e:=by
 obtain⟨g,o,c,d⟩:=b;exact⟨g,o,c,EC.below i f e g o d⟩
def oQ(B:Nat)(w:C3):fO->C4->C4->C4->C4->Prop
 |.beg,a,b,c,d=>a=.int .i64 0/\b=.int .i64 0/\c=.pointer none/\d=.pointer none
 |.app e,a,b,c,d=>a=.int .i64 1/\b=.int .i64 0/\pK B w c e/\d=.pointer none
 |.fin t,a,b,c,d=>a=.int .i64 2/\b=.int .i64 0/\c=.pointer none/\oP B w d t
 |.jmp t,a,b,c,d=>a=.int .i64 3/\b=.int .i64 (t:Int)/\c=.pointer none/\d=.pointer none
 |.unl t,a,b,c,d=>a=.int .i64 4/\b=.int .i64 (t:Int)/\c=.pointer none/\d=.pointer none
 |.lzy z t,a,b,c,d=>a=.int .i64 (if z then 5 else 6)/\b=.int .i64 (t:Int)/\c=.pointer none/\d=.pointer none
 |.ent,a,b,c,d=>a=.int .i64 7/\b=.int .i64 0/\c=.pointer none/\d=.pointer none
 |.lve,a,b,c,d=>a=.int .i64 8/\b=.int .i64 0/\c=.pointer none/\d=.pointer none
theorem oQ.below{B e:Nat}{w w':C3}(g:Below B w w')(f:B<=e):∀{x:fO}{a b c d:C4},oQ B w x a b c d->oQ e w' x a b c d
 |.beg,_,_,_,_,h=>h
 |.app _,_,_,_,_,h=>⟨h.1,h.2.1,h.2.2.1.below g f,h.2.2.2⟩
 |.fin _,_,_,_,_,h=>⟨h.1,h.2.1,h.2.2.1,h.2.2.2.below g f⟩
 |.jmp _,_,_,_,_,h=>h
 |.unl _,_,_,_,_,h=>h
 |.lzy _ _,_,_,_,_,h=>h
 |.ent,_,_,_,_,h=>h
 |.lve,_,_,_,_,h=>h
def FQ(B:Nat)(τ:Nat->Lb)(w:C3)(v:C4)(l:List fO):Prop:=
 ∃(e:Option Addr) (f:Nat),v=.slice e l.length f/\l.length<=281474976710656/\(0<l.length->∃g,e=some ⟨g,0,none⟩/\τ g=.code/\g<w.heap.size/\
   ∀i x,l[i]?=some x->∃a b c d,oQ B w x a b c d/\w.cell? ⟨g,i*4,none⟩=some a/\w.cell? ⟨g,i*4+1,none⟩=some b/\w.cell? ⟨g,i*4+2,none⟩=some c/\w.cell? ⟨g,i*4+3,none⟩=some d)
def iE(B:Nat)(τ:Nat->Lb)(l:Lb)(w:C3)(v:C4)(a:List Int):Prop:=w.ownsRow B 3 1 v a.length (a.map (Value.int .i64))/\∀b,v.ownBlock=some b->τ b=l
def gD(vs:fG)(tm:List Nat)(s:C2):C4:=match ja vs s with
 | some k=>match tm[k]? with
   |some l=>.pointer (some ⟨l,0,none⟩)
   |none=>.pointer none
 |none=>.pointer none
def FR(τ:Nat->Lb)(w:C3)(d i m:Nat)(vs:fG)(tm:List Nat):Prop:=τ m=.vmap d i/\fZ w m vs.length (.pointer none) (gD vs tm)
abbrev FSq(b:C4)(a mp:Nat)(vo pa:C4):Obj:=.cells #[b,((a:Int):Int),.map (some mp),vo,pa] 167
structure rG (B:Nat) (τ:Nat->Lb) (w:C3) (d a:Nat) (pa:C4) (c:Fr) (vc:C4) (mp:Nat) (vo:C4) (locs ms:List Nat):Prop where
 box:w.heap[a]?=some (FSq vc c.pl mp vo pa)
 lab:τ a=.frm d
 code:FQ B τ w vc c.code
 ll:locs.length=c.vs.length
 cell:∀i l x,locs[i]?=some l->c.vs[i]?=some x->τ l=.cel d i/\w.heap[l]?=some (.cells #[(x.2:Int)] 3)/\fS x.2
 map:FR τ w d c.o.length mp c.vs locs
 ml:ms.length=c.o.length
 row:w.ownsRow B 163 1 vo c.o.length (ms.map fun m=>.map (some m))
 rol:∀b,vo.ownBlock=some b->τ b=.outr d
 o:∀i m k,ms[i]?=some m->c.o[i]?=some k->FR τ w d i m (c.vs.take k) locs
 ord:(c.o++[c.vs.length]).Pairwise (·<=·)
def HM(B:Nat)(τ:Nat->Lb)(w:C3):C4->List Fr->Prop
 |v,[]=>v=.pointer none
 |v,c::r=>∃a pa d mp vo tm b,v=.pointer (some ⟨a,0,none⟩)/\rG B τ w r.length a pa c d mp vo tm b/\HM B τ w pa r
def XM(G:Gm)(τ:Nat->Lb)(w:C3):Prop:=
 τ G.fm=.funs/\(∃n,fZ w G.fm n (.agg #[(),()]) G.fv)/\∀s f,jT G.p s=some f->∃b a,G.fv s=.agg #[b,a]/\gT G.B w b f.params/\FQ G.B τ w a (gE f)
def IU(p:Pr)(b:List Nat)(a:List (List Int))(s:C2):C4:=match zZ p.wa s with
 |some k=>AP (b.getD k 0,a.getD k [])
 |none=>.slice none 0 0
structure tA (G:Gm) (τ:Nat->Lb) (w:C3) (arr:List (List Int)) (rows:List Nat):Prop where
 lab:τ G.am=.arrs
 len:arr.length=G.p.wa.length
 rl:rows.length=arr.length
 map:∃n,fZ w G.am n (.slice none 0 0) (IU G.p rows arr)
 row:∀k g l,rows[k]?=some g->arr[k]?=some l->τ g=.arr k/\w.heap[g]?=some (oJ l)/\fT l/\l.length<=1000
def SG(G:Gm)(τ:Nat->Lb)(w:C3)(a:List (List Int)):Prop:=∃b,tA G τ w a b
abbrev XO(G:Gm)(vi vv pa vo:C4)(s:RS):Obj:=.cells #[.map (some G.fm),.map (some G.am),vi,vv,pa,(0:Int),(0:Int),vo,((s.cost:Int):Int),((s.fuel:Int):Int)] 74
structure gC (G:Gm) (τ:Nat->Lb) (w:C3) (m:Vm) (vi vv pa vo:C4):Prop where
 hB:G.B<=w.heap.size
 old:∀k,k<G.B->τ k=.gl
 tab:fQ G.B w
 pok:f5 G.p=true
 box:w.heap[G.b]?=some (XO G vi vv pa vo m.s)
 lab:τ G.b=.mach
 inp:k5 G.B w vi m.s.inp
 val:iE G.B τ .vals w vv m.v
 o:iE G.B τ .outs w vo m.s.o
 frs:HM G.B τ w pa m.cs
 da:XM G τ w
 arr:SG G τ w m.s.arr
 nv:fT m.v
 ni:fT m.s.inp
 no:m.s.o.length<=m.s.cost
 lim:m.s.cost+m.s.fuel<=1000000000
 kp:∀k o,G.kp k o->τ k=.gl/\w.heap[k]?=some o
def MW(G:Gm)(τ:Nat->Lb)(w:C3)(m:Vm):Prop:=∃vi vv pa vo,gC G τ w m vi vv pa vo
def gO(τ τ':Nat->Lb)(w:C3):Prop:=∀k,k<w.heap.size->τ' k=τ k
theorem gO.refl(τ:Nat->Lb)(w:C3):gO τ τ w:=fun _ _=>rfl
def SH(τ:Nat->Lb)(b:Nat)(l:Lb)(k:Nat):Lb:=if k=b then l else τ k
theorem zAb(τ:Nat->Lb)(b:Nat)(l:Lb):SH τ b l b=l:=Dq rfl
theorem zAc(τ:Nat->Lb){b k:Nat}(l:Lb)(h:k≠b):SH τ b l k=τ k:=Dp h
theorem gO.lbl(τ:Nat->Lb)(w:C3){b:Nat}(l:Lb)(_:w.heap.size<=b):gO τ (SH τ b l) w:=fun k _=>Dp O
section
variable {B:Nat} {τ τ':Nat->Lb}{X:Lb->Prop} {w w':C3}
theorem kb(e:fF (fun k=>X (τ k)) w w')(d:gO τ τ' w){k:Nat}{l:Lb}{o:Obj}(b:τ k=l)(c:¬X l)(a:w.heap[k]?=some o):τ' k=l/\w'.heap[k]?=some o:=
 ⟨(d k (zB a)).trans b,(e.block k (zB a) (by rw[b];exact c)).trans a⟩
theorem FQ.keep{v:C4}{l:List fO}(r:FQ B τ w v l)(m:fF (fun k=>X (τ k)) w w')(D:gO τ τ' w)(C:Below B w w')(A:¬X .code):FQ B τ' w' v l:=by
 obtain⟨n,p,s,t,u⟩:=r;refine⟨n,p,s,t,fun F=>?_⟩;obtain⟨g,y,j,f,z⟩:=u F;have E:w'.heap[g]?=w.heap[g]?:=m.block g f (by rw[j];exact A);refine⟨g,y,(D g f).trans j,Yb f m.size,fun i x G=>?_⟩;obtain⟨a,b,c,d,q,H,I,J,K⟩:=z i x G;have e:∀o,w'.cell? ⟨g,o,none⟩=w.cell? ⟨g,o,none⟩:=fun o=>D6 E
 exact⟨a,b,c,d,q.below C Zr,(e _).trans H,(e _).trans I,(e _).trans J,(e _).trans K⟩
theorem iE.keep{l:Lb}{v:C4}{e:List Int}(a:iE B τ l w v e)(i:fF (fun k=>X (τ k)) w w')(g:gO τ τ' w)(f:¬X l):iE B τ' l w' v e:=
 ⟨zQ a.1 fun k d=>i.block k (zT a.1 k d).1 (by rw[a.2 k d];exact f),fun b c=>(g b (zT a.1 b c).1).trans (a.2 b c)⟩
theorem FR.keep{d i m:Nat}{vs:fG}{tm:List Nat}(a:FR τ w d i m vs tm)(e:fF (fun k=>X (τ k)) w w')(c:gO τ τ' w)(b:¬X (.vmap d i)):FR τ' w' d i m vs tm:=
 ⟨(c m a.2.lt).trans a.1,a.2.wd (e.block m a.2.lt (by rw[a.1];exact b))⟩
def SI(X:Lb->Prop)(n:Nat):Prop:=¬X .code/\∀d,d<n->¬X (.frm d)/\¬X (.outr d)/\∀i,¬X (.vmap d i)/\¬X (.cel d i)
theorem rG.keep{d a:Nat}{pa:C4}{c:Fr}{u:C4}{mp:Nat}{vo:C4}{tm t:List Nat}(e:rG B τ w d a pa c u mp vo tm t)(g:fF (fun k=>X (τ k)) w w')(f:gO τ τ' w)(j:Below B w w'){n:Nat}(C:SI X n)(D:d<n):rG B τ' w' d a pa c u mp vo tm t:=by
 obtain⟨v,y⟩:=C;obtain⟨z,A,q⟩:=y d D;have r:=kb g f e.lab z e.box;refine⟨r.2,r.1,e.code.keep g f j v,e.ll,fun i l x E G=>?_,e.map.keep g f (q _).1,e.ml,?_,fun b j=>?_,fun i m k F p=>(e.o i m k F p).keep g f (q i).1,e.ord⟩
 .obtain⟨H,I,J⟩:=e.cell i l x E G
  have s:=kb g f H (q i).2 I;exact⟨s.1,s.2,J⟩
 .exact zQ e.row fun k p=>g.block k (zT e.row k p).1 (by rw[e.rol k p];exact A)
 .exact(f b (zT e.row b j).1).trans (e.rol b j)
theorem HM.keep(e:fF (fun k=>X (τ k)) w w')(d:gO τ τ' w)(b:Below B w w'):∀{l:List Fr}{v:C4},HM B τ w v l->∀{n:Nat},SI X n->l.length<=n->HM B τ' w' v l
 |[],_,h,_,_,_=>h
 | c::r,v,h,n,hX,hn=>by
   obtain⟨a,pa,m,mp,vo,tm,j,f,g,i⟩:=h;rw[D1]at hn;exact⟨a,pa,m,mp,vo,tm,j,f,g.keep e d b hX O,HM.keep e d b i hX O⟩
theorem XM.keep{G:Gm}(i:XM G τ w)(g:fF (fun k=>X (τ k)) w w')(e:gO τ τ' w)(d:Below G.B w w')(c:¬X .funs/\¬X .code):XM G τ' w':=by
 obtain⟨b,⟨n,a⟩,j⟩:=i;refine⟨(e _ a.lt).trans b,⟨n,a.wd (g.block _ a.lt (by rw[b];exact c.1))⟩,fun s f l=>?_⟩;obtain⟨r,q,m,o,p⟩:=j s f l;exact⟨r,q,m,o.below d Zr,p.keep g e d c.2⟩
theorem tA.keep{G:Gm}{b:List (List Int)}{j:List Nat}(m:tA G τ w b j)(f:fF (fun k=>X (τ k)) w w')(e:gO τ τ' w)(d:¬X .arrs/\∀k,¬X (.arr k)):tA G τ' w' b j:=by
 obtain⟨c,o,p,⟨n,a⟩,q⟩:=m;refine⟨(e _ a.lt).trans c,o,p,⟨n,a.wd (f.block _ a.lt (by rw[c];exact d.1))⟩,fun k g l r s=>?_⟩;obtain⟨t,u,v⟩:=q k g l r s;have i:=kb f e t (d.2 k) u;exact⟨i.1,i.2,v⟩
theorem SG.keep{G:Gm}{b:List (List Int)}(a:SG G τ w b)(e:fF (fun k=>X (τ k)) w w')(d:gO τ τ' w)(c:¬X .arrs/\∀k,¬X (.arr k)):SG G τ' w' b:=by
 obtain⟨f,a⟩:=a;exact⟨f,a.keep e d c⟩
theorem gC.below{G:Gm}{m:Vm}{vi vv pa vo:C4}(a:gC G τ w m vi vv pa vo)(d:fF (fun k=>X (τ k)) w w')(b:¬X .gl):Below G.B w w':=
 d.below a.hB fun k c=>by rw[a.old k c];exact b
end
abbrev zac(a b:Int):PanicEntry:={ v:=.iface 68 (.agg #[(a:Int),(b:Int)]),recovered:=false }
def ZK(c:Option Int)(t:RS):PanicEntry:=match c with
 |some n=>zac 1 n
 |none=>zac t.stat 0
def g5(G:Gm)(w:C3)(m:Vm)(v:C4)(e:Ending)(w':C3):Prop:=e=.returned v/\(∃τ,MW G τ w' m)/\Below G.B w w'
def ya(G:Gm)(w:C3)(c:Option Int)(t:RS)(e:Ending)(w':C3):Prop:=e=.panicked [ZK c t]/\(∃τ v cs,MW G τ w' ⟨t,v,cs⟩)/\Below G.B w w'
section
variable {G:Gm}{τ:Nat->Lb} {w w':C3} {m m':Vm} {vi vv pa vo vi' vv' pa' vo':C4}
abbrev XB:Lb->Prop:=fun l=>l=Lb.mach
abbrev XN:Lb->Prop:=fun _=>False
theorem gC.lt(h:gC G τ w m vi vv pa vo):G.b<w.heap.size:=zB h.box
theorem gC.hBb(c:gC G τ w m vi vv pa vo):G.B<=G.b:=by
 rcases Ce G.b G.B with a|a
 .have:=c.old _ a
  rw[c.lab]at this;cases this
 .exact a
theorem gC.boxed(a:gC G τ w m vi vv pa vo)(j:∀k,k≠G.b->w'.heap[k]?=w.heap[k]?)(z:w.heap.size=w'.heap.size)(u:w'.os=w.os)(x:w'.tape=w.tape)(t:w'.output=w.output)
 (r:w'.heap[G.b]?=some (XO G vi' vv' pa' vo' m'.s)) (A:k5 G.B w vi' m'.s.inp) (val:iE G.B τ .vals w vv' m'.v) (out:iE G.B τ .outs w vo' m'.s.o) (l:HM G.B τ w pa' m'.cs) (q:m'.s.arr=m.s.arr)
 (F:fT m'.v) (D:fT m'.s.inp) (E:m'.s.o.length<=m'.s.cost) (C:m'.s.cost+m'.s.fuel<=1000000000):gC G τ w' m' vi' vv' pa' vo'/\Below G.B w w':=by
 have c:fF (fun k=>XB (τ k)) w w':=⟨u,x,t,Dv z,fun k _ y=>j k fun e=>y (by rw[e];exact a.lab)⟩
 have f:=gO.refl τ w;have g:Below G.B w w':=a.below (X:=XB) c (Ui);have p:∀n,SI XB n:=fun n=>⟨Ui,fun d _=>⟨Ui,Ui,fun i=>⟨Ui,Ui⟩⟩⟩
 refine⟨⟨Uz,a.old,a.tab.below g,a.pok,r,a.lab,A.below g Zr,val.keep (X:=XB) c f (Ui),out.keep (X:=XB) c f (Ui),l.keep (X:=XB) c f g (p _) Zr,a.da.keep (X:=XB) c f g ⟨Ui,Ui⟩,?_,F,D,E,C,fun k o j=>⟨(a.kp k o j).1,(kb (X:=XB) c f (a.kp k o j).1 Ui (a.kp k o j).2).2⟩⟩,g⟩;rw[q];exact a.arr.keep (X:=XB) c f ⟨Ui,fun k=>Ui⟩
theorem gC.we(a:gC G τ w m vi vv pa vo)(c:Cx w w'):gC G τ w' m vi vv pa vo:=by
 have b:fF (fun k=>XN (τ k)) w w':=fF.wb _ c;have e:=gO.refl τ w;have f:=c.mono a.hB;exact⟨Dz a.hB c.size,a.old,a.tab.below f,a.pok,(c.block _ a.lt).trans a.box,a.lab,a.inp.below f Zr,a.val.keep (X:=XN) b e id,a.o.keep (X:=XN) b e id,a.frs.keep (X:=XN) b e f ⟨id,fun d _=>⟨id,id,fun i=>⟨id,id⟩⟩⟩ Zr,a.da.keep (X:=XN) b e f ⟨id,id⟩,a.arr.keep (X:=XN) b e ⟨id,fun _=>id⟩,a.nv,a.ni,a.no,a.lim,fun k o g=>⟨(a.kp k o g).1,(c.block k (zB (a.kp k o g).2)).trans (a.kp k o g).2⟩⟩
theorem gC.wu(d:gC G τ w m vi vv pa vo)(i:Nat)(a:C4)(f:(w.setCell (G.b,i) a).heap[G.b]?=some (XO G vi' vv' pa' vo' m'.s))(j:k5 G.B w vi' m'.s.inp)(val:iE G.B τ .vals w vv' m'.v)(out:iE G.B τ .outs w vo' m'.s.o)(c:HM G.B τ w pa' m'.cs)(e:m'.s.arr=m.s.arr)
 (q:fT m'.v) (n:fT m'.s.inp) (p:m'.s.o.length<=m'.s.cost) (l:m'.s.cost+m'.s.fuel<=1000000000):gC G τ (w.setCell (G.b,i) a) m' vi' vv' pa' vo'/\Below G.B w (w.setCell (G.b,i) a):=
 d.boxed (fun k g=>Dw w _ a k g) Uk rfl rfl rfl f j val out c e q n p l
theorem iE.form{B:Nat}{l:Lb}{v:C4}{a:List Int}(d:iE B τ l w v a):∃b c,v=.slice b a.length c:=zY d.1
theorem iE.cut{B:Nat}{l:Lb}{d:Option Addr}{c:Nat}{q x:List Int}(e:iE B τ l w (.slice d (q++x).length c) (q++x)):iE B τ l w (.slice d q.length c) q:=by
 have f:=CL e.1 (m:=q.length) (by rw[Dr];omega);rw[Nat.mul_one,Yj,List.take_left' Uh]at f
 exact⟨f,fun b g=>e.2 b (by
  cases d with
  |none=>exact g
  |some a=>exact g)⟩
end
theorem zad(q:List Int)(x:Int)(l:List Int):((q++x::l).map (Value.int .i64))[q.length]?=some (.int .i64 x):=by
 rw[Yn,Yi Zr,Yy];rfl
theorem gC.wn{G:Gm}{τ:Nat->Lb}{w:C3}{m:Vm}{vi vv pa vo:C4}(a:gC G τ w m vi vv pa vo){q:List Int}{x:Int}(j:m.v=q++[x]):
 ∃g c,vv=.slice (some ⟨g,0,none⟩) (q.length+1) c/\q.length<c/\g<w.heap.size/\w.cell? ⟨g,q.length,none⟩=some (.int .i64 x)/\fS x/\
   gC G τ (w.setCell (G.b,3) (.slice (some ⟨g,0,none⟩) q.length c)) ⟨m.s,q,m.cs⟩ vi (.slice (some ⟨g,0,none⟩) q.length c) pa vo/\Below G.B w (w.setCell (G.b,3) (.slice (some ⟨g,0,none⟩) q.length c)):=by
 obtain⟨s,v,k⟩:=m;dsimp only at j;subst j;have e:=a.val;obtain⟨_,c,y⟩:=e.form;subst y;obtain⟨g,_,d,_,p,i,r,_⟩:=xC e.1 Uh;injection d with d _ l;subst d l;have t:(q++[x]).length=q.length+1:=Uh
 have i:(q++[x]).length<=c:=i;have f:=a.wu (m':=⟨s,q,k⟩) (vv':=.slice (some ⟨g,0,none⟩) q.length c) 3 (.slice (some ⟨g,0,none⟩) q.length c) (D3 a.box _) a.inp e.cut a.o a.frs rfl (fun n u=>a.nv n (List.mem_append_left _ u)) a.ni a.no a.lim;exact⟨g,c,by rw[t],O,p,r _ _ (zad q x []),a.nv x (Y3 _ (List.mem_singleton.2 rfl)),f.1,f.2⟩
theorem xt{b g n c:Nat}{x:Int}{w:C3}{d f i j k l m o p:C4}{T:TypeId}(a:w.heap[b]?=some (.cells #[d,f,i,.slice (some ⟨g,0,none⟩) (n+1) c,j,k,l,m,o,p] T (0,0)))(_:n<c)(_:g<w.heap.size)(_:w.cell? (g,n)=some (.int .i64 x))(_:n<=2000000000):
 Cy 96 #[(b,0)] w fun e w'=>e=.returned (x:Int)/\w.setCell (b,3) (.slice (some ⟨g,0,none⟩) n c)=w':=by
 obtain⟨⟨_,_,_,_,_,_,_,_,_,_⟩,_⟩:=zD a;have r:=zB a;have q:n<=n+1:=Nat.le_succ _
 have s:IntKind.i64.wrap (((n+1 :Nat):Int)-1)=(n:Int):=by
  rw[IntWalk.i64_in]<;>omega
 clear a;go_enter func96,ntmps96;go_wp2_with fail;go_ret;exact⟨rfl,rfl⟩
theorem ke{G:Gm}{τ:Nat->Lb}{w:C3}{m:Vm}(n:MW G τ w m){q:List Int}{x:Int}(o:m.v=q++[x])(l:q.length<=2000000000):
 Cy 96 #[(G.b,0)] w (g5 G w ⟨m.s,q,m.cs⟩ (.int .i64 x)):=by
 obtain⟨vi,vv,pa,vo,a⟩:=n;obtain⟨g,c,rfl,d,f,i,_,j,k⟩:=a.wn o;refine(xt a.box d f i l).mono ?_;rintro e w' ⟨rfl,rfl⟩;exact⟨rfl,⟨τ,_,_,_,_,j⟩,k⟩
section
variable {G:Gm} {τ τ':Nat->Lb} {w w':C3} {m m':Vm} {vi vv pa vo vi' vv' pa' vo':C4}{X:Lb->Prop}
theorem gC.step(a:gC G τ w m vi vv pa vo)(c:fF (fun k=>X (τ k)) w w')(d:gO τ τ' w)(g:¬X .gl)(n:¬X .funs/\¬X .code)(l:w'.heap[G.b]?=some (XO G vi' vv' pa' vo' m'.s))(p:k5 G.B w' vi' m'.s.inp)(val:iE G.B τ' .vals w' vv' m'.v)(out:iE G.B τ' .outs w' vo' m'.s.o)
 (j:HM G.B τ' w' pa' m'.cs) (i:SG G τ' w' m'.s.arr) (u:fT m'.v) (r:fT m'.s.inp) (t:m'.s.o.length<=m'.s.cost) (q:m'.s.cost+m'.s.fuel<=1000000000):gC G τ' w' m' vi' vv' pa' vo'/\Below G.B w w':=by
 have f:=a.below c g;exact⟨⟨Dz a.hB c.size,fun k e=>(d k Uz).trans (a.old k e),a.tab.below f,a.pok,l,(d _ a.lt).trans a.lab,p,val,out,j,a.da.keep c d f n,i,u,r,t,q,fun k o e=>kb c d (a.kp k o e).1 g (a.kp k o e).2⟩,f⟩
theorem FT{W:C3}{v v':C4}{l:Lb}(_:w.heap.size<=W.heap.size)(e:kj W v v')(d:∀b,v.ownBlock=some b->τ b=l):∃τ',gO τ τ' w/\∀b,v'.ownBlock=some b->τ' b=l:=by
 rcases e with c|⟨g,c,_⟩
 .exact⟨τ,gO.refl _ _,fun b a=>d b (c▸a)⟩
 .refine⟨SH τ g l,gO.lbl τ w l O,fun b a=>?_⟩
  rw[c]at a;injection a with a;subst a;exact zAb τ g l
abbrev XV(l:Lb):Lb->Prop:=fun x=>x=.mach\/x=l
theorem kR{l x:Lb}(b:x≠.mach)(c:x≠l):¬XV l x:=fun a=>a.elim b c
theorem NU(n:Nat):SI (XV .vals) n:=⟨kR Ui Ui,fun d _=>⟨kR Ui Ui,kR Ui Ui,fun i=>⟨kR Ui Ui,kR Ui Ui⟩⟩⟩
theorem NV(n:Nat):SI (XV .outs) n:=⟨kR Ui Ui,fun d _=>⟨kR Ui Ui,kR Ui Ui,fun i=>⟨kR Ui Ui,kR Ui Ui⟩⟩⟩
theorem gC.db(c:gC G τ w m vi vv pa vo){W w8:C3}{v v':C4}{l:Lb}{j:List Int}(f:∀b,v.ownBlock=some b->τ b=l)(q:l≠.mach)(d:Cx w W)(p:W.grownBy w8 v.ownBlock)(r:kj W v v')(t:w8.ownsRow G.B 3 1 v' j.length (j.map (Value.int .i64)))(i:Nat)(g:C4):
 (∃τ',gO τ τ' w/\iE G.B τ' l (w8.setCell (G.b,i) g) v' j)/\fF (fun k=>XV l (τ k)) w (w8.setCell (G.b,i) g)/\w8.heap[G.b]?=some (XO G vi vv pa vo m.s):=by
 obtain⟨τ',o,n⟩:=FT d.size r f;have u:v.ownBlock≠some G.b:=fun e=>by have:=f _ e;rw[c.lab]at this;exact q this.symm
 have x:v'.ownBlock≠some G.b:=fun e=>by
  have:=n _ e;rw[o _ c.lt,c.lab]at this;exact q this.symm
 refine⟨⟨τ',o,zQ t fun k a=>Dw w8 _ _ k (fun e=>x (by have e:k=G.b:=e;rw[<-e];exact a)),n⟩,?_,?_⟩
 .refine((fF.wb (fun k=>XV l (τ k)) d).trans (fF.grown (X:=fun k=>v.ownBlock=some k) p fun k a=>a) fun k _ a=>.inr (f k a)).trans (fF.set (X:=fun k=>k=G.b) w8 rfl i g) fun k _ a=>.inl (by have a:k=G.b:=a;rw[a];exact c.lab)
 .exact((p.block _ (Yb c.lt d.size) fun e=>u e.symm).trans (d.block _ c.lt)).trans c.box
theorem gC.push(a:gC G τ w m vi vv pa vo){W w8:C3}{v':C4}{n:Int}(r:Cx w W)(t:W.grownBy w8 vv.ownBlock)(y:kj W vv v')(g:w8.ownsRow G.B 3 1 v' (m.v.length+1) (m.v.map (Value.int .i64)++[.int .i64 n]))(u:fS n):
 w8.heap[G.b]?=some (XO G vi vv pa vo m.s)/\(∃τ vv,gC G τ (w8.setCell (G.b,3) v') ⟨m.s,m.v++[n],m.cs⟩ vi vv pa vo)/\Below G.B w (w8.setCell (G.b,3) v')/\fF (fun k=>XV .vals (τ k)) w (w8.setCell (G.b,3) v'):=by
 have g:w8.ownsRow G.B 3 1 v' (m.v++[n]).length ((m.v++[n]).map (Value.int .i64)):=by rw[Dr,Yj];exact g
 obtain⟨⟨τ',f,q⟩,c,i⟩:=a.db (l:=.vals) a.val.2 Ui r t y g 3 v';have j:=a.below (X:=XV .vals) c (kR Ui Ui)
 have p:=a.step (X:=XV .vals) (m':=⟨m.s,m.v++[n],m.cs⟩) c f (kR Ui Ui) ⟨kR Ui Ui,kR Ui Ui⟩ (D3 i _) (a.inp.below j Zr) q (a.o.keep (X:=XV .vals) c f (kR Ui Ui))
  (a.frs.keep (X:=XV .vals) c f j (NU _) Zr) (a.arr.keep (X:=XV .vals) c f ⟨kR Ui Ui,fun k=>kR Ui Ui⟩) (fun x d=>by
    rcases List.mem_append.1 d with d|d
    .exact a.nv x d
    .rw[List.mem_singleton.1 d];exact u) a.ni a.no a.lim
 exact⟨i,⟨τ',_,p.1⟩,p.2,c⟩
theorem gC.print(a:gC G τ w m vi vv pa vo){W w8:C3}{v':C4}{n:Int}(q:Cx w W)(t:W.grownBy w8 vo.ownBlock)(u:kj W vo v')(f:w8.ownsRow G.B 3 1 v' (m.s.o.length+1) (m.s.o.map (Value.int .i64)++[.int .i64 n]))(r:m.s.o.length+1<=m.s.cost):
 w8.heap[G.b]?=some (XO G vi vv pa vo m.s)/\(∃τ,MW G τ (w8.setCell (G.b,7) v') ⟨{ m.s with o:=m.s.o++[n] },m.v,m.cs⟩)/\Below G.B w (w8.setCell (G.b,7) v'):=by
 have f:w8.ownsRow G.B 3 1 v' (m.s.o++[n]).length ((m.s.o++[n]).map (Value.int .i64)):=by rw[Dr,Yj];exact f
 obtain⟨⟨τ',d,p⟩,c,g⟩:=a.db (l:=.outs) a.o.2 Ui q t u f 7 v';have i:=a.below (X:=XV .outs) c (kR Ui Ui)
 have j:=a.step (X:=XV .outs) (m':=⟨{ m.s with o:=m.s.o++[n] },m.v,m.cs⟩) c d (kR Ui Ui) ⟨kR Ui Ui,kR Ui Ui⟩ (D3 g _) (a.inp.below i Zr) (a.val.keep (X:=XV .outs) c d (kR Ui Ui)) p
  (a.frs.keep (X:=XV .outs) c d i (NV _) Zr) (a.arr.keep (X:=XV .outs) c d ⟨kR Ui Ui,fun k=>kR Ui Ui⟩) a.nv a.ni (by rw[Dr];exact r) a.lim
 exact⟨g,⟨τ',_,_,_,_,j.1⟩,j.2⟩
end
theorem tB{G:Gm}{τ:Nat->Lb}{w:C3}{m:Vm}{vi vv pa vo:C4}(a:gC G τ w m vi vv pa vo)(n:Int)(r:fS n)(_:m.v.length<=2000000000):
 Cy 97 #[(G.b,0),(n:Int)] w fun e w'=>e=.returned (.tuple #[])/\(∃τ vv,gC G τ w' ⟨m.s,m.v++[n],m.cs⟩ vi vv pa vo)/\Below G.B w w'/\fF (fun k=>XV .vals (τ k)) w w':=by
 obtain⟨H,q,u,x,y⟩:=info_parts kX;obtain⟨j,c,g⟩:=a.val.form;obtain⟨⟨_,_,_,F,_,_,_,_,_,_⟩,_⟩:=zD a.box;have K:=a.lt;have I:=a.hB;rw[g]at F;have l:=U g;have E:=C0 ((w.alloc (.cells #[(n:Int)] 3)).ownsRow G.B 3 1 (.slice j m.v.length c) m.v.length (m.v.map (Value.int .i64))) (g▸qR a.val.1 ((D4 w.heap.size w).alloc Zr _) Zr);have A:=U (jU w [.int .i64 n] 3);have f:=U (Dt q (Dt u (Dt x y)));have z:=U a;have C:=U r;clear a g q u x y r;go_enter func97,ntmps97
 go_wp2_with (at_builtin;refine qJ rfl (.tmp 8) (.tmp 10) _ rfl G.B 3 H _ 1 8 underlying23 f.o.1 f.o.2.1 f.o.2.2.1 f.o.2.2.2 rfl O (.slice j m.v.length c) m.v.length _ rfl (by exact E.o) ⟨w.heap.size,0,none⟩ 1 1 [.int .i64 n] rfl rfl (by exact A.o) Um Ul O Ug O ?_
              intro _ w8 i p t;obtain⟨_,_,rfl⟩:=zY i;have d:=z.o.push (n:=n) ((D4 w.heap.size w).alloc Zr (.cells #[(n:Int)] 3)) (by rw[l.o];exact p) (by rw[l.o];exact t) i C.o;have D:=U (Dt d.2.1 d.2.2);obtain⟨⟨_,_,_,_,_,_,_,_,_,_⟩,_⟩:=zD d.1;have J:G.b<w8.heap.size:=zB d.1
              clear i p t d)
 go_end0
 exact⟨rfl,D.o⟩
theorem yN{G:Gm}{τ:Nat->Lb}{w:C3}{m:Vm}(g:MW G τ w m)(n:Int)(i:fS n)(f:m.v.length<=2000000000):
 Cy 97 #[(G.b,0),(n:Int)] w (g5 G w ⟨m.s,m.v++[n],m.cs⟩ (.tuple #[])):=by
 obtain⟨vi,vv,pa,vo,a⟩:=g;refine(tB a n i f).mono ?_;rintro e w' ⟨rfl,⟨τ1,_,c⟩,d,_⟩;exact⟨rfl,⟨τ1,_,_,_,_,c⟩,d⟩
theorem NW{G:Gm}{τ:Nat->Lb}{w:C3}{m:Vm}(n:MW G τ w m)(k:m.s.stat=0):
 Cy 93 #[(G.b,0)] w fun e w'=>match zj m.s with
  |.ok _ t=>g5 G w ⟨t,m.v,m.cs⟩ (.tuple #[]) e w'
  |.fin t=>ya G w none t e w':=by
 obtain⟨vi,vv,pa,vo,a⟩:=n;obtain⟨⟨g,j,out,d,c,_,l⟩,v,i⟩:=m;dsimp only at k;subst k;obtain⟨⟨_,_,_,_,_,_,_,_,_,_⟩,_⟩:=zD a.box;have q:=a.lt;have p:d+c<=1000000000:=a.lim;rcases c with _|c
 .have f:=C0 (gC G τ w ⟨⟨g,j,out,d,0,0,true⟩,v,i⟩ vi vv pa vo) ⟨a.hB,a.old,a.tab,a.pok,a.box,a.lab,a.inp,a.val,a.o,a.frs,a.da,a.arr,a.nv,a.ni,a.no,a.lim,a.kp⟩
  clear a;show Calls _ _ _ _ (fun e w'=>ya G w none ⟨g,j,out,d,0,0,true⟩ e w');go_enter func93,ntmps93;go_wp2;exact⟨rfl,rfl,⟨τ,v,i,_,_,_,_,f.o⟩,D4 _ _⟩
 .have f:=U (a.wu (m':=⟨⟨g,j,out,d,c,0,l⟩,v,i⟩) 9 (.int .i64 (c:Int)) (D3 a.box _) a.inp a.val a.o a.frs rfl a.nv a.ni a.no (by show d+c<=_;omega))
  have r:(((c+1 :Nat):Int) == 0)=false:=Ug
  have u:IntKind.i64.wrap (((c+1 :Nat):Int)-1)=(c:Int):=Un
  clear a;show Calls _ _ _ _ (fun e w'=>g5 G w ⟨⟨g,j,out,d,c,0,l⟩,v,i⟩ (.tuple #[]) e w');go_enter func93,ntmps93;go_wp2_with fail
  go_end0
  exact⟨rfl,⟨τ,_,_,_,_,f.o.1⟩,f.o.2⟩
