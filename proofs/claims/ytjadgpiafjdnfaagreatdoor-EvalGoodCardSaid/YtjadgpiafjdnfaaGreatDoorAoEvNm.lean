import Derived.Test.YtjadgpiafjdnfaaGreatDoorAoTyRt
set_option linter.unusedSimpArgs false
set_option linter.unusedVariables false
set_option maxRecDepth 100000
set_option maxHeartbeats 99000000
namespace Go.Proofs.YtjadgpiafjdnfaaGreatDoor
open Go.RowKit Tryz
abbrev xl(vs:fG):List C6:=vs.map (·.1)
theorem rJ:∀{vs:fG}{s:C6}{k:Nat},jc vs s=some k->(xl vs)[k]?=some s
 |[],_,_,a=>Xe
 | x::r,s,k,a=>by
   rw[jc]at a;cases hr:jc r s with
   |some j=>
     rw[hr]at a;injection a with a;subst a;have c:=rJ hr;simpa[xl]using c
   |none=>
     rw[hr]at a;dsimp only at a;by_cases b:x.1=s
     .rw[Dq b]at a
      injection a with a;subst a;exact congrArg some b
     .rw[Dp b]at a;cases a
theorem s6(vs:fG)(s:C6)(n:Int):xl (xJ vs s n)=xl vs:=by
 unfold xJ;cases h:jc vs s with
 |none=>rfl
 |some k=>
   dsimp only;rw[xl,List.map_set];have a:=rJ h;refine List.ext_getElem? fun i=>?_;rw[Ch];by_cases e:k=i
   .subst e
    rw[Dq rfl];have b:=(List.getElem?_eq_some_iff.1 a).1;rw[Dq b];exact a.symm
   .rw[Dp e]
theorem rK:∀{v:List Pa}{vs:fG},xl vs=v.map (·.name)->∀(s:C6),(jc vs s).isSome=(zw v s).isSome
 |[],[],_,_=>rfl
 |x::r,[],h,_=>Kn
 |[],x::r,h,_=>Kn
 | x::r,y::q,h,s=>by
   simp only[xl,Y5,Ca]at h;have a:=rK h.2 s;rw[jc,zw];cases h1:jc q s with
   |some j=>
     cases h2:zw r s with
     |some t=>rfl
     |none=>rw[h1,h2]at a;cases a
   |none=>
     cases h2:zw r s with
     |some t=>rw[h1,h2]at a;cases a
     |none=>
       dsimp only;rw[h.1];split<;>rfl
def uN(vs:fG)(d:List C6):fR yF->Prop
 |.ok h _=>∃q,xl h.2.2=xl vs++q/\(h.1=0->q=d)
 |.fin _=>True
def uh(k:Int)(td:C6):List C6:=if k=1 then[td]else[]
theorem uN.bind{α:Type}{vs:fG}{d:List C6}{x:fR α}{f:α->RS->fR yF}(h:∀a t,uN vs d (f a t)):uN vs d (x.bind f):=by
 cases x with
 |fin t=>trivial
 |ok a t=>exact h a t
theorem uN.ite{vs:fG}{d:List C6}{c:Prop}[Decidable c]{x b:fR yF}(e:c->uN vs d x)(f:¬c->uN vs d b):uN vs d (if c then x else b):=by
 by_cases a:c
 .rw[Dq a];exact e a
 .rw[Dp a];exact f a
theorem uN.same{vs a:fG}{b n:Int}{s:RS}(e:xl a=xl vs):uN vs [] (.ok (b,n,a) s):=⟨[],by rw[Yd];exact e,fun _=>rfl⟩
def QS(vs:fG):fR yF->Prop
 |.ok h _=>xl h.2.2=xl vs
 |.fin _=>True
theorem QS.row{vs:fG}{x:fR yF}(h:QS vs x):uN vs [] x:=by
 cases x with
 |fin t=>trivial
 |ok a t=>exact⟨[],by rw[Yd];exact h,fun _=>rfl⟩
theorem LK{f:fG->St->RS->fR yF}(m:∀vs t s,∃d,uN vs d (f vs t s)):∀(l:List St) (vs:fG) (s:RS),∃d,uN vs d (kH f vs l s)
 |[],vs,s=>⟨[],uN.same rfl⟩
 | t::r,vs,s=>by
   rw[kH];obtain⟨d,c⟩:=m vs t s;cases e:f vs t s with
   |fin i=>exact⟨[],trivial⟩
   |ok a i=>
     rw[e]at c;obtain⟨q,j,_⟩:=c;show ∃d,uN vs d (if a.1=0 then _ else _);by_cases g:a.1=0
     .rw[Dq g]
      obtain⟨_,k⟩:=LK m r a.2.2 i;cases e2:kH f a.2.2 r i with
      |fin x=>exact⟨[],trivial⟩
      |ok b x=>
        rw[e2]at k;obtain⟨n,o,_⟩:=k;exact⟨q++n,q++n,by rw[o,j,Ya],fun _=>rfl⟩
     .rw[Dp g]
      exact⟨[],q,j,fun c=>absurd c g⟩
theorem mX{f:fG->St->RS->fR yF}(g:∀vs t s,∃d,uN vs d (f vs t s))(vs:fG)(l:List St)(s:RS):QS vs (qH f vs l s):=by
 unfold qH;obtain⟨d,b⟩:=LK g l vs s;cases e:kH f vs l s with
 |fin i=>trivial
 |ok a i=>
   rw[e]at b;obtain⟨q,c,_⟩:=b;show xl (a.2.2.take vs.length)=xl vs;rw[xl,List.map_take];show(xl a.2.2).take _=_;rw[c,List.take_left' Uu]
theorem JD{e:fG->RS->fR Int}{b:fG->RS->fR yF}(m:∀vs s,QS vs (b vs s)):∀(k:Nat) (vs:fG) (s:RS),QS vs (k7 e b k vs s)
 |0,_,_=>trivial
 | k+1,vs,s=>by
   rw[k7];cases he:e vs s with
   |fin g=>trivial
   |ok a t=>
     show QS vs (if a=0 then _ else _);by_cases i:a=0
     .rw[Dq i];rfl
     .rw[Dp i]
      have f:=m vs t;cases hx:b vs t with
      |fin g=>trivial
      |ok c g=>
        rw[hx]at f;show QS vs (if c.1=3 then _ else if c.1=1 then _ else _);by_cases l:c.1=3
        .rw[Dq l];exact f
        .rw[Dp l]
         by_cases j:c.1=1
         .rw[Dq j];exact f
         .rw[Dp j]
          have n:=JD (e:=e) m k c.2.2 g;cases hy:k7 e b k c.2.2 g with
          |fin x=>trivial
          |ok d x=>rw[hy]at n;exact Eq.trans n f
theorem iD(p:Pr):∀(g:Nat) (vs:fG) (k b:Int) (td:C6) (tc:List Ex) (tg th:List St) (s:RS),uN vs (uh k td) (qo p g vs (.mk k b td tc tg th) s)
 |0,_,_,_,_,_,_,_,_=>Jb
 | g+1,vs,k,b,td,tc,tg,th,s=>by
   have o:∀vs t s,∃d,uN vs d (qo p g vs t s):=fun vs t s=>by
    obtain⟨k,b,td,tc,tg,th⟩:=t;exact⟨_,iD p g vs k b td tc tg th s⟩
   have e:∀vs l s,QS vs (qH (qo p g) vs l s):=fun vs l s=>mX o vs l s;rw[qo];refine uN.bind fun _ t=>uN.ite (fun i=>?_) fun i=>uN.ite (fun j=>?_) fun j=>uN.ite (fun m=>?_) fun m=>uN.bind fun a f=>uN.ite (fun c=>?_) fun c=>?_
   .rw[uh,Dp O]
    exact(JD (fun vs s=>e vs tg s) _ vs t).row
   .rw[uh,Dp O];exact uN.same rfl
   .rw[uh,Dp O];exact uN.same rfl
   .rw[uh,Dq c]
    exact⟨[td],by simp[xl],fun _=>rfl⟩
   .rw[uh,Dp c]
    refine uN.ite (fun _=>uN.same (s6 ..)) fun _=>uN.ite (fun _=>uN.bind fun n w=>uN.bind fun _ x=>uN.same rfl) fun _=>uN.ite (fun _=>uN.ite (fun _=>(e vs tg f).row) fun _=>(e vs th f).row) fun _=>uN.ite (fun _=>uN.same rfl) fun _=>uN.ite (fun _=>uN.same rfl) fun _=>uN.same rfl
def vk:fR yF->Prop
 |.ok h _=>h.1≠3->h.2.1=0
 |.fin _=>True
theorem vk.bind{α:Type}{x:fR α}{f:α->RS->fR yF}(h:∀a t,vk (f a t)):vk (x.bind f):=by
 cases x with
 |fin t=>trivial
 |ok a t=>exact h a t
theorem vk.ite{c:Prop}[Decidable c]{x b:fR yF}(d:vk x)(e:vk b):vk (if c then x else b):=by
 by_cases a:c
 .rw[Dq a];exact d
 .rw[Dp a];exact e
theorem vk.zero{vs:fG}{s:RS}{h:Int}:vk (.ok (h,0,vs) s):=fun _=>rfl
theorem BF{f:fG->St->RS->fR yF}(c:∀vs t s,vk (f vs t s)):∀(l:List St) (vs:fG) (s:RS),vk (kH f vs l s)
 |[],_,_=>vk.zero
 | t::r,vs,s=>by
   rw[kH];have b:=c vs t s;cases e:f vs t s with
   |fin d=>trivial
   |ok a d=>
     rw[e]at b;exact vk.ite (BF c r _ d) b
theorem i9{f:fG->St->RS->fR yF}(c:∀vs t s,vk (f vs t s))(vs:fG)(l:List St)(s:RS):vk (qH f vs l s):=by
 unfold qH;have b:=BF c l vs s;cases e:kH f vs l s with
 |fin d=>trivial
 |ok a d=>rw[e]at b;exact b
theorem F9{e:fG->RS->fR Int}{b:fG->RS->fR yF}(f:∀vs s,vk (b vs s)):∀(k:Nat) (vs:fG) (s:RS),vk (k7 e b k vs s)
 |0,_,_=>trivial
 | k+1,vs,s=>by
   rw[k7];refine vk.bind fun a t=>vk.ite vk.zero ?_;have d:=f vs t;cases hx:b vs t with
   |fin g=>trivial
   |ok c g=>
     rw[hx]at d;exact vk.ite d (vk.ite vk.zero (F9 f k _ g))
theorem JE(p:Pr):∀(g:Nat) (vs:fG) (t:St) (s:RS),vk (qo p g vs t s)
 |0,_,_,_=>Jb
 | g+1,vs,.mk k ty td tc tg th,s=>by
   have b:=JE p g;rw[qo];refine vk.bind fun _ t=>vk.ite (F9 (fun vs s=>i9 b vs tg s) _ vs t) (vk.ite vk.zero (vk.ite vk.zero (vk.bind fun a c=>vk.ite vk.zero (vk.ite vk.zero (vk.ite (vk.bind fun n w=>vk.bind fun _ x=>vk.zero) (vk.ite (vk.ite (i9 b vs tg c) (i9 b vs th c)) (vk.ite (fun d=>absurd rfl d) (vk.ite vk.zero vk.zero))))))))
theorem SY(p:Pr)(g:Nat)(vs:fG)(st:St)(s:RS){a:yF}{t:RS}(e:qo p g vs st s=.ok a t)(b:a.1≠3):a.2.1=0:=by
 have:=JE p g vs st s;rw[e]at this;exact this b
theorem SZ(p:Pr)(g:Nat)(vs:fG)(st:St){s:RS}(h:s.fuel=0):qo p (g+1) vs st s=.fin (zk s).st:=by
 obtain⟨k,_,td,tc,tg,th⟩:=st;obtain⟨_,_,out,_,_,_,_⟩:=s;cases h;rw[qo];rfl
def BG(p:Pr)(g:Nat)(vs:fG)(k:Int)(td:C6)(tc:List Ex)(tg th:List St)(a:Int)(s:RS):fR yF:=
 if k=1 then .ok (0,0,vs++[(td,a)]) s
 else if k=2 then .ok (0,0,xJ vs td a) s
 else if k=3 then(f0 p g vs (tc.getD 1 j8) s).bind fun n s=>(yc p td a n (zW s)).bind fun _ s=>.ok (0,0,vs) s
 else if k=4 then(if a≠0 then qH (qo p g) vs tg s else qH (qo p g) vs th s)
 else if k=8 then .ok (3,a,vs) s
 else if k=9 then .ok (0,0,vs) { zW s with o:=s.o++[a] }
 else .ok (0,0,vs) s
theorem S0(p:Pr)(g:Nat)(vs:fG)(k d:Int)(td:C6)(tc:List Ex)(tg th:List St){s:RS}(c:0<s.fuel):
 qo p (g+1) vs (.mk k d td tc tg th) s=
  if k=5 then k7 (fun vs s=>f0 p g vs (tc.getD 0 j8) s) (fun vs s=>qH (qo p g) vs tg s) ((zk s).st.fuel+1) vs (zk s).st
  else if k=6 then .ok (1,0,vs) (zk s).st
  else if k=7 then .ok (2,0,vs) (zk s).st
  else(f0 p g vs (tc.getD 0 j8) (zk s).st).bind fun a s=>BG p g vs k td tc tg th a s:=by
 obtain⟨_,_,out,_,b,_,_⟩:=s;obtain⟨f,rfl⟩:∃f,b=f+1:=⟨b-1,by dsimp only at c;omega⟩
 rw[qo];rfl
theorem s9{p:Pr}{td:C6}{i n:Int}{s:RS}{k:Nat}{l:List Int}(a:zb p.wa td=some k)(b:s.arr[k]?=some l):yc p td i n s=if 0<=i/\i<l.length then .ok () { s with arr:=s.arr.set k (l.set i.toNat n) } else .fin (kR s 3):=by
 unfold yc;rw[a];dsimp only;rw[b]
def fR.isFin{α:Type}:fR α->Bool
 |.ok _ _=>false
 |.fin _=>true
theorem kE{α:Type}{p:Pr}{r:fR α}(b:zt p r):(r.st.spent || decide (r.st.stat≠0))=r.isFin:=by
 cases r with
 |ok a t=>show(t.spent || decide (t.stat≠0))=false;rw[b.sp,b.st];rfl
 |fin t=>
   show(t.spent || decide (t.stat≠0))=true;rcases b with⟨c,_⟩|⟨_,c,_⟩
   .rw[c];rfl
   .rw[decide_eq_true (show t.stat≠0 by omega),Bool.or_true]
def vZ(c:gK)(vo:C8)(w:C7)(r:fR Int)(e:Ending)(w':C7):Prop:=
 ∃n vo',e=.returned (n:Int)/\fP c w' vo' r.st/\fF (f8 c vo) w w'/\fM w.heap.size vo vo'/\∀a t,r=.ok a t->n=a/\fS a
structure x4 (c:gK) (g:Nat) (w:C7) (vo:C8) (s:RS):Prop where
 run:fP c w vo s
 fu:s.fuel<=g
 sp:s.spent=false
 st:s.stat=0
theorem x4.shp{c:gK}{g:Nat}{w:C7}{vo:C8}{s:RS}(h:x4 c g w vo s):gQ c.p s:=⟨h.run.alen,h.sp,h.st⟩
structure fY (c:gK) (g:Nat) (w:C7) (vo:C8) (s:RS) (f:Nat) (vv:C8) (vs:fG) (how n:Int):Prop where
 l:x4 c g w vo s
 frm:gS c.L w f vv vs how n
 ln:vs.length+s.fuel<=2000000000
section
variable {c:gK}{g f:Nat} {w w':C7} {vo vo' vv:C8} {s s':RS}{vs:fG}{how n:Int}
theorem fY.we(a:fY c g w vo s f vv vs how n)(b:C2 w w'):fY c g w' vo s f vv vs how n:=
 ⟨⟨a.l.run.we b,a.l.fu,a.l.sp,a.l.st⟩,a.frm.keep (X:=fun _=>False) (fF.wb _ b) fun _ _ d=>d.elim,a.ln⟩
theorem fY.step(a:fY c g w vo s f vv vs how n){X:Nat->Prop}(m:fF X w w')(e:∀k,k<w.heap.size->X k->f8 c vo k)(o:fP c w' vo' s'){b:Nat}(i:s'.fuel<=b)(_:s'.fuel<=s.fuel)(d:gQ c.p s'):fY c b w' vo' s' f vv vs how n:=
 ⟨⟨o,i,d.sp,d.st⟩,a.frm.keep m fun k j q=>i7 a.l.run a.frm (e k j q),by have:=a.ln;omega⟩
end
def p6(c:gK)(g:Nat):Prop:=∀(w:C7) (vo:C8) (s:RS) (f:Nat) (vv:C8) (vs:fG) (how n:Int) (v:List Pa) (k op m:Int) (td:C6) (tc:List Ex) (d:Nat) (a:C8),
 fY c g w vo s f vv vs how n->(qF c.p v (.mk k op m td tc)).2=0->yE (.mk k op m td tc) d=true->fS m->kW c.B w a tc->
 C3 95 #[(c.b,0),(f,0),.agg #[(k:Int),(op:Int),(m:Int),td,a]] w (vZ c vo w (f0 c.p g vs (.mk k op m td tc) s))
theorem p6.call{c:gK}{g:Nat}(e:p6 c g){w:C7}{vo:C8}{s:RS}{f:Nat}{vv:C8}{vs:fG}{how n:Int}{v:List Pa}{k op m:Int}{td:C6}{tc:List Ex}{d:Nat}{a:C8}
 (i:fY c g w vo s f vv vs how n) (j:(qF c.p v (.mk k op m td tc)).2=0) (l:yE (.mk k op m td tc) d=true) (o:fS m) (q:kW c.B w a tc):
 C3 95 #[(c.b,0),(f,0),.agg #[(k:Int),(op:Int),(m:Int),td,a]] w (vZ c vo w (f0 c.p g vs (.mk k op m td tc) s)):=
 e w vo s f vv vs how n v k op m td tc d a i j l o q
theorem j0{c:gK}(b:gL c.p){g f:Nat}{w:C7}{vo vv:C8}{s:RS}{vs:fG}{how n:Int}(a:fY c g w vo s f vv vs how n){v:List Pa}{x:Ex}(d:(qF c.p v x).2=0):zt c.p (f0 c.p g vs x s):=
 (jW c.p b g).1 v vs x s a.l.fu a.l.shp d
theorem fY.ex{c:gK}(i:gL c.p){g f:Nat}{w w':C7}{vo vo' vv:C8}{s t:RS}{vs:fG}{how n a:Int}(b:fY c g w vo s f vv vs how n){v:List Pa}{x:Ex}(m:(qF c.p v x).2=0)(e:f0 c.p g vs x s=.ok a t)(j:fF (f8 c vo) w w')(k:fP c w' vo' t):fY c g w' vo' t f vv vs how n:=by
 have d:=j0 i b m;have q:=((qw c.p g vs x s).at e).1;rw[e]at d;exact b.step j (fun _ _ o=>o) k (by have:=b.l.fu;omega) O d
theorem fP.pay{c:gK}{w:C7}{vo:C8}{s:RS}(a:fP c w vo s)(e:s.cost+1+s.fuel<=1000000000):fP c (w.setCell (c.b,7) (((s.cost:Int)+1):Int)) vo (zW s):=by
 obtain⟨vi,f,d⟩:=a.box;exact a.set d 7 (.int .i64 ((s.cost:Int)+1)) (D4 d _) f a.inn rfl rfl (Cc _) e
theorem fP.end{c:gK}{w:C7}{vo:C8}{s:RS}(a:fP c w vo s)(k:Int):fP c (w.setCell (c.b,4) (k:Int)) vo (kR s k):=by
 obtain⟨vi,e,d⟩:=a.box;exact a.set d 4 (.int .i64 k) (D4 d _) e a.inn rfl rfl Zr a.fc
theorem fP.wm{c:gK}{w:C7}{vo:C8}{s:RS}(h:fP c w vo s)(i:Nat)(u:C8):fF (f8 c vo) w (w.setCell (c.b,i) u):=fF.set (X:=f8 c vo) w (.inl ⟨Dz _,h.ord.2.1⟩) i u
theorem DO{vs:fG}{s:C6}{k:Nat}(h:jc vs s=some k):k<vs.length:=by
 have:=(List.getElem?_eq_some_iff.1 (rJ h)).1;simpa[xl]using this
theorem gS.get{L:Nat}{w:C7}{f:Nat}{vv:C8}{vs:fG}{how n:Int}(d:gS L w f vv vs how n)(s:C6)(z:Nat)(c:Int)(o:YD (jc vs s)=z)(m:pF vs s=c):
 ∃g a,vv=.slice (some ⟨g,0,none⟩) (vs.length+1) a/\g<w.heap.size/\z<vs.length+1/\w.cell? ⟨g,z*2+1,none⟩=some (.int .i64 c)/\fS c:=by
 obtain⟨g,a,e,_,i,_,j,_⟩:=d.cells;subst o m;unfold pF;cases he:jc vs s with
 |none=>exact⟨g,a,e,i,Ce _,(j 0 LH rfl).2,show fS 0 from⟨Us,Us⟩⟩
 |some k=>
   have l:=DO he;have b:vs[k]?=some vs[k]:=D2 l;refine⟨g,a,e,i,Nat.succ_lt_succ l,?_,?_⟩
   .have:=(j (k+1) vs[k] (List.getElem?_cons_succ.trans b)).2
    dsimp only;rw[b];exact this
   .dsimp only
    rw[b];exact d.wf _ (Yc b)
theorem ky{c:gK}{w:C7}{vo:C8}{s:RS}(a:fP c w vo s)(j:s.spent=false)(l:s.stat=0)(i:0<s.fuel):
 C3 93 #[(c.b,0)] w fun e w'=>e=.returned (.bool true)/\fP c w' vo (zk s).st/\fF (fun k=>k=c.b) w w':=
 (BB a j l).mono fun e w' ⟨d,f,g⟩=>⟨by rw[d,decide_eq_true i],f,g⟩
theorem tA{c:gK}{w:C7}{vo:C8}{s:RS}(a:fP c w vo s)(i:s.spent=false)(j:s.stat=0)(_:s.fuel=0):
 C3 93 #[(c.b,0)] w fun e w'=>e=.returned (.bool false)/\fP c w' vo (zk s).st/\fF (fun k=>k=c.b) w w':=
 (BB a i j).mono fun e w' ⟨d,f,g⟩=>⟨by rw[d,decide_eq_false O],f,g⟩
theorem fY.wl{c:gK}{g f:Nat}{w w':C7}{vo vv:C8}{s:RS}{vs:fG}{how n:Int}(a:fY c (g+1) w vo s f vv vs how n)(j:0<s.fuel)(m:fP c w' vo (zk s).st)(i:fF (fun k=>k=c.b) w w'):
 fY c g w' vo (zk s).st f vv vs how n/\fF (f8 c vo) w w'/\(zk s).st.cost+(zk s).st.fuel+1<=1000000000:=by
 have d:∀k,k<w.heap.size->k=c.b->f8 c vo k:=fun k _ e=>.inl (by have:=a.l.run.ord;omega);have e:=iB j;have o:=a.l.fu;have p:=a.l.run.fc;refine⟨a.step i d m ?_ ?_ ⟨?_,?_,?_⟩,i.mono d,?_⟩
 .rw[e];show s.fuel-1<=g;omega
 .rw[e];show s.fuel-1<=s.fuel;omega
 .rw[e];exact a.l.run.alen
 .rw[e];exact a.l.sp
 .rw[e];exact a.l.st
 .rw[e];show s.cost+(s.fuel-1)+1<=_;omega
def BH(c:gK)(g:Nat):Prop:=∀(w:C7) (vo:C8) (s:RS) (k:Nat) (d:Fu) (a:List Int) (e:C8),x4 c g w vo s->c.p.funcs[k]?=some d->a.length=d.params.length->rG w.heap.size w e a->fT a->
 C3 19 #[(c.b,0),((k:Int):Int),e] w (vZ c vo w (xK c.p g d a s))
theorem BH.call{c:gK}{g:Nat}(f:BH c g){w:C7}{vo:C8}{s:RS}{k:Nat}{d:Fu}{a:List Int}{e:C8}(i:x4 c g w vo s)(j:c.p.funcs[k]?=some d)(l:a.length=d.params.length)(m:rG w.heap.size w e a)(n:fT a):
 C3 19 #[(c.b,0),((k:Int):Int),e] w (vZ c vo w (xK c.p g d a s)):=f w vo s k d a e i j l m n
theorem OC{c:gK}(ax:gL c.p){g:Nat}(aJ:p6 c g){w:C7}{vo:C8}{s:RS}{f:Nat}{vv:C8}{vs:fG}{how n:Int}{v:List Pa}{op m:Int}{td:C6}{ab ad:Ex}{d:Nat}{a3:C8}(aP:op=18\/op=19)
 (I:fY c g w vo s f vv vs how n) (am:(qF c.p v ab).2=0) (aI:(qF c.p v ad).2=0) (an:zy [ab,ad] d=true) (aw:kW c.B w a3 [ab,ad]):
 C3 118 #[(c.b,0),(f,0),.agg #[(5:Int),(op:Int),(m:Int),td,a3]] w
  (vZ c vo w ((f0 c.p g vs ab s).bind fun a s=>if decide (a≠0)=decide (op=19)then .ok a s else f0 c.p g vs ad s)):=by
 obtain⟨P,T,R,W,L⟩:=ab;obtain⟨Q,V,S,X,M⟩:=ad;obtain⟨ah,aa,rfl,_⟩:=aw.form;have bu:=I.l.run.ord;have bx:=I.l.run.lt;have z:=C5 (C2 w (w.alloc (jM 5 op m td ah 2 aa))) (Zb.alloc Zr _);have bz:(w.alloc (jM 5 op m td ah 2 aa)).heap.size=w.heap.size+1:=zA _ _;have az:(w.alloc (jM 5 op m td ah 2 aa)).heap[w.heap.size]?=some (jM 5 op m td ah 2 aa):=Ds w _;obtain⟨_,_,_,_,_⟩:=qV az;have G:=U (I.we z.o);have Z:=U (aw.below (z.o.mono (show c.B<=w.heap.size by omega)) Zr);obtain⟨E,y,_,rfl,ae,bo,bp,bq,br,bs,aW⟩:=Z.o.cells (i:=0) (k:=P) (op:=T) (m:=R) (td:=W) (tc:=L) rfl;obtain⟨_,_,_,aM,_,aA,aB,aC,aD,aE,ag⟩:=Z.o.cells (i:=1) (k:=Q) (op:=V) (m:=S) (td:=X) (tc:=M) rfl;simp only[Option.some.injEq,Addr.mk.injEq,and_true]at aM;obtain⟨rfl,rfl⟩:=aM;rw[show y+0*5=y by omega]at bo bp bq br bs;rw[show y+1*5=y+5 by omega]at aA aB aC aD aE;have aT:=Z.o.range (i:=0) (k:=P) (op:=T) (m:=R) (td:=W) (tc:=L) rfl;have aU:=Z.o.range (i:=1) (k:=Q) (op:=V) (m:=S) (td:=X) (tc:=M) rfl;rw[qr,qr,D3,D3]at an;obtain⟨bl,aS⟩:=C4 (f0 c.p g vs (.mk P T R W L) s);have aF:=U (j0 ax G.o am);have A:=U aS;have ai:=U am;have a6:=U aI;have aq:=U an.1;have a7:=U an.2.1;have aj:=U aJ;have bt:=U aP;have ar:=U aT;have bc:=U aU;have au:=U aW;have be:=U ag;have av:=U az;have bv:E<w.heap.size:=O
 have a8:=U ax;have a9:=U I;clear I am aI an aw aS aJ aP aT aU aW ag az Z ax;have ay:¬f8 c vo w.heap.size:=fun C=>by have:=(a9.o.l.run.tch C).2.2;omega
 rcases bl with⟨a,t⟩|t
 .have ao:(t.spent || decide (t.stat≠0))=false:=by have:=kE aF.o;rw[A.o]at this;exact this
  obtain⟨ak,bh⟩:∃x:Bool,(a != 0)=x:=⟨_,rfl⟩
  obtain⟨al,bi⟩:∃x:Bool,(op == 19)=x:=⟨_,rfl⟩
  have aK:decide (a≠0)=ak:=by rw[<-bh];by_cases C:a=0<;>simp[C]
  have aL:decide (op=19)=al:=by rw[<-bi];by_cases C:op=19<;>simp[C]
  by_cases ap:ak=al
  .have Y:=U (show((f0 c.p g vs (.mk P T R W L) s).bind fun a s=>if decide (a≠0)=decide (op=19)then .ok a s else f0 c.p g vs (.mk Q V S X M) s)=.ok a t by
    rw[A.o];show(if _ then _ else _)=_
    rw[aK,aL,Dq ap])
   have bj:(ak == al)=true:=by simp[ap]
   go_enter func118,ntmps118
   go_upto_region 3 with(first
    | (go_at_call 95
       (with_reducible refine(aj.o.call G.o ai.o aq.o ar.o au.o).mono ?_)
       rintro e w1 ⟨n1,vo1,rfl,r,q,F,u⟩;rw[A.o]at r u;have D:=C5 (fP c w1 vo1 t) r;have H:=U q;have K:=U F;obtain⟨rfl,af⟩:=u a t rfl;have aG:=U af;clear af;have j:=q.at ay av.o;obtain⟨aY,aZ,a0,a1,a2⟩:=qV j;have ag:w.heap.size<w1.heap.size:=zB j;have aH:=U j
       clear r q F u j)
    | (go_at_call 21
       (with_reducible refine(zl D.o false ao).mono ?_);rintro e a4 ⟨rfl,rfl⟩))
   go_wp2_with fail;go_ret;rw[Y.o];exact⟨n1,vo1,rfl,D.o,(fF.wb _ z.o).trans H.o fun _ _ J=>J,K.o.mono z.o.size,fun b bm C=>by injection C with I am;subst I;exact⟨rfl,aG.o⟩⟩
  .have Y:=U (show((f0 c.p g vs (.mk P T R W L) s).bind fun a s=>if decide (a≠0)=decide (op=19)then .ok a s else f0 c.p g vs (.mk Q V S X M) s)=f0 c.p g vs (.mk Q V S X M) t by
    rw[A.o];show(if _ then _ else _)=_
    rw[aK,aL,Dp ap])
   have bj:(ak == al)=false:=by simp[ap]
   go_enter func118,ntmps118
   go_upto_region 4 with(first
    | (go_at_call 95
       (with_reducible refine(aj.o.call G.o ai.o aq.o ar.o au.o).mono ?_)
       rintro e w1 ⟨n1,vo1,rfl,r,q,F,u⟩;rw[A.o]at r u;have D:=C5 (fP c w1 vo1 t) r;have H:=U q;have K:=U F;obtain⟨rfl,af⟩:=u a t rfl;have aG:=U af;clear af;have j:=q.at ay av.o;obtain⟨aY,aZ,a0,a1,a2⟩:=qV j;have ag:w.heap.size<w1.heap.size:=zB j;have aH:=U j
       clear r q F u j)
    | (go_at_call 21
       (with_reducible refine(zl D.o false ao).mono ?_);rintro e a4 ⟨rfl,rfl⟩))
   have a5:=U (G.o.ex a8.o ai.o A.o H.o D.o);have N:Below c.B (w.alloc (jM 5 op m td (some ⟨E,y,none⟩) 2 aa)) w1:=G.o.l.run.below H.o fun k _ aN=>(G.o.l.run.tch aN).1;have aA:=(N.cell (p:=(E,y+5)) ae).trans aA;have aB:=(N.cell (p:=(E,y+5+1)) ae).trans aB;have aC:=(N.cell (p:=(E,y+5+2)) ae).trans aC;have aD:=(N.cell (p:=(E,y+5+3)) ae).trans aD;have aE:=(N.cell (p:=(E,y+5+4)) ae).trans aE;have bf:=U (be.o.below N Zr);have bw:E<w1.heap.size:=O
   go_wp2_with (go_at_call 95
                (with_reducible refine(aj.o.call a5.o a6.o a7.o bc.o bf.o).mono ?_)
                rintro e _ ⟨bk,bn,rfl,aV,aR,aX,aO⟩;have bd:=U aV;have bb:=U aR;have bg:=U aX;have ba:=U aO
                clear aV aR aX aO)
   go_ret;rw[Y.o];have aQ:=(fF.wb (f8 c vo) z.o).trans H.o fun _ _ J=>J;exact⟨bk,bn,rfl,bd.o,aQ.trans bb.o fun k aN J=>f8.to K.o (by have:=z.o.size;omega) J,(K.o.mono z.o.size).trans bg.o (by have:=aQ.size;exact this),ba.o⟩
 .have ao:(t.spent || decide (t.stat≠0))=true:=by have:=kE aF.o;rw[A.o]at this;exact this
  have Y:=U (show((f0 c.p g vs (.mk P T R W L) s).bind fun a s=>if decide (a≠0)=decide (op=19)then .ok a s else f0 c.p g vs (.mk Q V S X M) s)=.fin t by
   rw[A.o]
   rfl)
  go_enter func118,ntmps118
  go_upto_region 3 with(first
   | (go_at_call 95
      (with_reducible refine(aj.o.call G.o ai.o aq.o ar.o au.o).mono ?_)
      rintro e w1 ⟨n1,vo1,rfl,r,q,F,u⟩;rw[A.o]at r u;have D:=C5 (fP c w1 vo1 t) r;have H:=U q;have K:=U F;have j:=q.at ay av.o;obtain⟨aY,aZ,a0,a1,a2⟩:=qV j;have ag:w.heap.size<w1.heap.size:=zB j;have aH:=U j
      clear r q F u j)
   | (go_at_call 21
      (with_reducible refine(zl D.o true ao).mono ?_);rintro e a4 ⟨rfl,rfl⟩))
  go_wp2_with fail;go_ret;rw[Y.o];exact⟨n1,vo1,rfl,D.o,(fF.wb _ z.o).trans H.o fun _ _ J=>J,K.o.mono z.o.size,fun b bm C=>by cases C⟩
theorem zcn{l:List Int}(h:l.length=2):∃a b,l=[a,b]:=by
 match l,h with
 |[a,b],_=>exact⟨a,b,rfl⟩
theorem YG{l:List Int}(h:l.length=1):∃a,l=[a]:=by
 match l,h with
 |[a],_=>exact⟨a,rfl⟩
theorem tB{B:Nat}{w:C7}{g o c:Nat}{x:Int}{l:List Int}(f:k8 B w (.slice (some ⟨g,o,none⟩) (l.length+1) c) (x::l)):k8 B w (.slice (some ⟨g,o+1,none⟩) l.length (c-1)) l:=by
 obtain⟨⟨b,_,q,p,hF⟩,m⟩:=f;have r:=m _ _ _ rfl;injection q with d _ _;refine⟨⟨_,_,rfl,by rw[Du]at p;omega,fun _=>?_⟩,fun b n _ e=>?_⟩
 .obtain⟨_,_,a,i⟩:=hF (by rw[Du];omega)
  rw[<-d]at a;injection a with a;injection a with j k _;subst j k;exact⟨g,o+1,rfl,i.2⟩
 .injection e with _ _ _
  omega
theorem tC{B:Nat}{w:C7}{a:Option Addr}{l:List Int}(b:l.length=0)(c:Nat):k8 B w (.slice a l.length c) l:=by
 obtain rfl:=Yq b;exact⟨⟨a,c,rfl,D1 _,fun b=>absurd b Uu⟩,fun a n _ e=>by injection e with _ d _;subst d;exact D1 _⟩
theorem OD{k op n:Int}{s:C6}{b:Nat}(a:zm k op n s b=true):b<=8:=by
 unfold zm at a
 repeat' split at a
 all_goals(simp at a;try omega)
theorem GA{k op n:Int}{s:C6}{b:Nat}(a:zm k op n s b=true):k=1\/k=2\/k=3\/k=4\/k=5\/k=6\/k=7\/k=8:=by
 unfold zm at a
 repeat' split at a
 all_goals(first|omega|cases a)
theorem mY{k op n:Int}{s:C6}{b:Nat}(a:zm k op n s b=true):(k=4\/k=6->b=1)/\(k=5->b=2):=by
 unfold zm at a
 repeat' split at a
 all_goals(first|(exfalso;cases a;done)|(simp at a;exact⟨fun _=>O,fun _=>O⟩))
theorem BI{c:gK}{w:C7}{vo:C8}{s:RS}(f:fP c w vo s)(td:C6)(n:Int){k:Nat}{l:List Int}(j:zb c.p.wa td=some k)(m:s.arr[k]?=some l)(d:0<=n/\n<(l.length:Int)):
 C3 97 #[(c.b,0),td,(n:Int)] w fun e w'=>e=.returned (.bool true)/\fP c w' vo s/\fF (fun k=>k=c.b) w w':=
 (BE f td n j m).mono fun e w' ⟨g,a,i⟩=>⟨by rw[g,decide_eq_true d],by rw[Dq d]at a;exact a,i⟩
theorem GB{c:gK}{w:C7}{vo:C8}{s:RS}(f:fP c w vo s)(td:C6)(n:Int){k:Nat}{l:List Int}(j:zb c.p.wa td=some k)(m:s.arr[k]?=some l)(d:¬(0<=n/\n<(l.length:Int))):
 C3 97 #[(c.b,0),td,(n:Int)] w fun e w'=>e=.returned (.bool false)/\fP c w' vo (kR s 3)/\fF (fun k=>k=c.b) w w':=
 (BE f td n j m).mono fun e w' ⟨g,a,i⟩=>⟨by rw[g,decide_eq_false d],by rw[Dp d]at a;exact a,i⟩
theorem YH{p:Pr}{v:List Pa}{td:C6}(c:kO p v 7 td=true):∃i b,qQ p.funcs td=some i/\p.funcs[i]?=some b/\jU p td=some b:=by
 unfold kO at c;obtain⟨i,a⟩:=Option.isSome_iff_exists.1 (show(qQ p.funcs td).isSome=true by simpa using c);obtain⟨f,d,_⟩:=xv a;exact⟨i,f,a,d,by unfold jU;rw[a];exact d⟩
structure gJ (c:gK) (g:Nat) (vs:fG) (args:List Ex) (w1:C7) (vo:C8) (t0:RS) (f:Nat) (vv:C8) (how n:Int) (av:C8) (wr:C7) (j:Nat) (q:List Int) (t:RS) (vo1:C8):Prop where
 len:q.length=j
 ev:i0 (f0 c.p g vs) args t0=fR.app q (i0 (f0 c.p g vs) (args.drop j) t)
 live:fY c g wr vo1 t f vv vs how n
 off:fF (f8 c vo) w1 wr
 to:fM w1.heap.size vo vo1
 row:wr.ownsRow w1.heap.size 3 1 av j (q.map (Value.int .i64))
 apart:∀k,av.ownBlock=some k->vo1.ownBlock≠some k
 inn:fT q
 pay:t.cost+t.fuel<=t0.cost+t0.fuel
 ord:c.L<=w1.heap.size
section
variable {c:gK}{g:Nat}{vs:fG}{tc:List Ex}{w1:C7}{vo:C8}{t0:RS}{f:Nat}{vv:C8}{how n:Int}{av:C8}{wr:C7}{j:Nat}{q:List Int}{t:RS}{vo1:C8}
theorem gJ.start(a:fY c g w1 vo t0 f vv vs how n):gJ c g vs tc w1 vo t0 f vv how n (.slice none 0 0) w1 0 [] t0 vo:=
 ⟨rfl,by rw[List.drop_zero,YE],a,fF.refl _ _,fM.refl _ _,Yp _ _ _ _,fun k b=>Vh,fun n d=>(by cases d),Dz _,a.l.run.ord.2.2⟩
theorem gJ.da(a:gJ c g vs tc w1 vo t0 f vv how n av wr j q t vo1){e:C7}(i:fF (f8 c vo1) wr e):e.ownsRow w1.heap.size 3 1 av j (q.map (Value.int .i64)):=
 zR a.row fun k b=>i.block k (zU a.row k b).1 fun l=>by
  have m:=(zU a.row k b).2;have o:=a.ord;rcases l with d|d
  .omega
  .exact a.apart k b d
theorem gJ.lt(h:gJ c g vs tc w1 vo t0 f vv how n av wr j q t vo1):w1.heap.size<=wr.heap.size:=h.off.size
theorem gJ.next(Q:gL c.p)(d:gJ c g vs tc w1 vo t0 f vv how n av wr j q t vo1){v:List Pa}{x:Ex}{a:Int}{G:RS}{e z:C7}{w A:C8}{o:Obj}(R:tc[j]?=some x)(F:f0 c.p g vs x t=.ok a G)(aa:(qF c.p v x).2=0)
 (E:fP c e w G) (y:fF (f8 c vo1) wr e) (M:fM wr.heap.size vo1 w) (W:fS a) (V:(e.alloc o).grownBy z av.ownBlock) (X:kn (e.alloc o) av A) (Z:z.ownsRow w1.heap.size 3 1 A (j+1) (q.map (Value.int .i64)++[.int .i64 a])):
 gJ c g vs tc w1 vo t0 f vv how n A z (j+1) (q++[a]) G w:=by
 have P:=d.live.ex Q aa F y E;have ad:(e.alloc o).heap.size=e.heap.size+1:=zA _ _;have ae:wr.heap.size<=e.heap.size:=y.size;have C:C2 e (e.alloc o):=Zb.alloc Zr _;have s:=P.we C;have K:=d.da y;have I:∀k,av.ownBlock=some k->w.ownBlock≠some k:=fun k b=>M.not (zU d.row k b).1 (d.apart k b);have D:fF (fun k=>av.ownBlock=some k) (e.alloc o) z:=fF.grown V fun k b=>b
 have T:∀k,k<(e.alloc o).heap.size->av.ownBlock=some k->¬gI f vv k:=fun k _ b S=>by
  have L:(e.alloc o).ownsRow w1.heap.size 3 1 av j (q.map (Value.int .i64)):=zR K fun k b=>C.block k (zU K k b).1;rcases S with r|r
  .subst r
   exact uK L (show Is (e.alloc o) k 106 #[vv,(how:Int),(n:Int)]from s.frm.box) Us b
  .exact DK L s.frm.row Us k b r
 have Y:∀k,k<(e.alloc o).heap.size->av.ownBlock=some k->c.B<=k/\¬f8 c w k:=fun k _ b=>by
  have r:=(zU d.row k b).2;have N:=d.ord;have ab:=E.ord;refine⟨O,fun i=>?_⟩;rcases i with H|H
  .omega
  .exact I k b H
 have J:=qw c.p g vs x t;rw[F]at J;refine⟨by rw[Dr,d.len];rfl,?_,⟨⟨s.l.run.keep D Y,s.l.fu,s.l.sp,s.l.st⟩,s.frm.keep D T,s.ln⟩,?_,?_,?_,?_,?_,?_,d.ord⟩
 .rw[d.ev,xD R]
  exact SU F q
 .refine((d.off.trans y fun k b i=>f8.to d.to b i).trans (fF.wb (f8 c vo) C) fun _ _ i=>i).trans D fun k b i=>?_
  have:=(zU d.row k i).2;omega
 .exact d.to.trans M d.off.size
 .rw[Yj];exact Z
 .intro k b
  rcases X with r|⟨_,r,N⟩
  .exact I k (r▸b)
  .rw[r]at b
   injection b with b;intro i;have:=(E.dl i).2;omega
 .intro m u
  rcases List.mem_append.1 u with u|u
  .exact d.inn m u
  .rw[List.mem_singleton.1 u];exact W
 .exact Dw J.1.pay d.pay
theorem gJ.cells(e:gJ c g vs tc w1 vo t0 f vv how n av wr j q t vo1)(r:0<j):∃b d,av=.slice (some ⟨b,0,none⟩) j d/\c.L<=b/\b<wr.heap.size/\(∀i a,q[i]?=some a->wr.cell? ⟨b,i,none⟩=some (.int .i64 a))/\¬f8 c vo1 b:=by
 obtain⟨b,d,k,_,m,_,o,_⟩:=xE e.row r;have u:=e.ord;refine⟨b,d,k,O,m,fun i a p=>o i _ (zae _ _ _ p),fun s=>?_⟩;rcases s with l|l
 .omega
 .exact e.apart b (by rw[k];rfl) l
theorem gJ.stop(b:gJ c g vs tc w1 vo t0 f vv how n av wr j q t vo1){u:RS}{e l:C7}{i:C8}{o:Obj}(s:fP c e i u)(x:fF (f8 c vo1) wr e)(y:fM wr.heap.size vo1 i)(v:(e.alloc o).grownBy l av.ownBlock):
 fP c l i u/\fF (f8 c vo) w1 l:=by
 have p:C2 e (e.alloc o):=Zb.alloc Zr _;have w:∀k,av.ownBlock=some k->i.ownBlock≠some k:=fun k a=>y.not (zU b.row k a).1 (b.apart k a);have r:fF (fun k=>av.ownBlock=some k) (e.alloc o) l:=fF.grown v fun k a=>a;refine⟨(s.we p).keep r fun k _ a=>?_,?_⟩
 .have z:=(zU b.row k a).2
  have A:=b.ord;have B:=s.ord;refine⟨O,fun d=>?_⟩;rcases d with m|m
  .omega
  .exact w k a m
 .refine((b.off.trans x fun k a d=>f8.to b.to a d).trans (fF.wb (f8 c vo) p) fun _ _ d=>d).trans r fun k a d=>?_
  have:=(zU b.row k d).2;omega
end
inductive fO where
 |beg
 |app (e:Ex)
 |fin (t:St)
 |jmp (to:Nat)
 |unl (to:Nat)
 |lzy (z:Bool) (to:Nat)
 |ent
 |lve
mutual
def qA:Ex->Nat
 |.mk _ _ _ _ tc=>zH tc+2
def zH:List Ex->Nat
 |[]=>0
 |e::r=>qA e+zH r
end
mutual
def yf:Ex->Nat->List fO
 |.mk k op n td tc,b=>
   if k=5/\(op=18\/op=19)then .beg::x5 tc (b+1) (decide (op=18))
   else .beg::(qO tc (b+1)++[.app (.mk k op n td tc)])
def qO:List Ex->Nat->List fO
 |[],_=>[]
 |e::r,b=>yf e b++qO r (b+qA e)
def x5:List Ex->Nat->Bool->List fO
 |[],_,z=>[.lzy z 0]
 |e::r,b,z=>yf e b++.lzy z (b+qA e+1+zH r)::qO r (b+qA e+1)
end
mutual
theorem xy:∀(e:Ex) (b:Nat),(yf e b).length=qA e
 | .mk k op n td tc,b=>by
   rw[yf,qA];split
   .rw[Du,S1]
   .rw[Du,Dr,jG];rfl
theorem jG:∀(l:List Ex) (b:Nat),(qO l b).length=zH l
 |[],_=>rfl
 |e::r,b=>by rw[qO,zH,Dr,xy,jG]
theorem S1:∀(l:List Ex) (b:Nat) (z:Bool),(x5 l b z).length=zH l+1
 |[],_,_=>rfl
 |e::r,b,z=>by rw[x5,zH,Dr,Du,xy,jG];omega
end
def OE:St->Bool
 |.mk k _ _ _ _ _=>decide (k=1)
def yg(l:List St):Bool:=l.any OE
def lB(l:List St)(f:Nat->Nat)(d:Nat):Nat:=if yg l then f (d+1)+2 else f d
def gB(l:List St)(f:Nat->Nat->List fO)(b d:Nat):List fO:=if yg l then .ent::(f (b+1) (d+1)++[.lve])else f b d
mutual
def xd:St->Nat->Nat
 |.mk k _ _ tc tg th,d=>
   if k=4 then zH tc+3+lB tg (fJ tg) d+lB th (fJ th) d
   else if k=5 then zH tc+3+lB tg (fJ tg) 0
   else if k=6\/k=7 then d+2
   else zH tc+2
def fJ:List St->Nat->Nat
 |[],_=>0
 |t::r,d=>xd t d+fJ r d
end
mutual
def xF:St->Nat->Nat->Nat->Nat->List fO
 |.mk k ty td tc tg th,b,d,st,br=>
   if k=4 then .beg::(qO tc (b+1)++.unl (b+zH tc+3+lB tg (fJ tg) d)::(gB tg (fun b d=>qh tg b d st br) (b+zH tc+2) d++
    .jmp (b+zH tc+3+lB tg (fJ tg) d+lB th (fJ th) d)::gB th (fun b d=>qh th b d st br) (b+zH tc+3+lB tg (fJ tg) d) d))
   else if k=5 then .beg::(qO tc (b+1)++.unl (b+zH tc+3+lB tg (fJ tg) 0)::(gB tg (fun c d=>qh tg c d (b+1) (b+zH tc+3+lB tg (fJ tg) 0)) (b+zH tc+2) 0++[.jmp (b+1)]))
   else if k=6 then .beg::(List.replicate d .lve++[.jmp br])
   else if k=7 then .beg::(List.replicate d .lve++[.jmp st])
   else .beg::(qO tc (b+1)++[.fin (.mk k ty td tc tg th)])
def qh:List St->Nat->Nat->Nat->Nat->List fO
 |[],_,_,_,_=>[]
 |t::r,b,d,st,br=>xF t b d st br++qh r (b+xd t d) d st br
end
def qZ(l:List St)(d:Nat):Nat:=lB l (fJ l) d
def ko(l:List St)(b d st a:Nat):List fO:=gB l (fun b d=>qh l b d st a) b d
theorem lT{l:List St}{f:Nat->Nat->List fO}{g:Nat->Nat}(h:∀b d,(f b d).length=g d)(b d:Nat):(gB l f b d).length=lB l g d:=by
 unfold gB lB;split
 .simp[h]
 .exact h b d
mutual
theorem tD:∀(t:St) (b d st a:Nat),(xF t b d st a).length=xd t d
 | .mk k ty td tc tg th,b,d,st,a=>by
   rw[xF,xd];split
   .simp only[Du,Dr,jG,lT (fun b d=>jo tg b d st a),lT (fun b d=>jo th b d st a)];omega
   split
   .simp only[Du,Dr,jG,lT (fun c d=>jo tg c d _ _),Dy];omega
   split
   .rw[Dq O];simp
   split
   .rw[Dq O];simp
   .rw[Dp O];simp[jG]
theorem jo:∀(l:List St) (b d st a:Nat),(qh l b d st a).length=fJ l d
 |[],_,_,_,_=>rfl
 |t::r,b,d,st,a=>by rw[qh,fJ,Dr,tD,jo]
end
theorem mZ(l:List St)(b d st a:Nat):(ko l b d st a).length=qZ l d:=lT (fun b d=>jo l b d st a) b d
def gE(f:Fu):List fO:=qh f.body 0 0 0 0
structure Fr where
 code:List fO
 pl:Nat
 vs:fG
 o:List Nat
structure Vm where
 s:RS
 v:List Int
 cs:List Fr
inductive VR where
 |go (m:Vm)
 |stop (c:Option Int) (s:RS)
 |bad
def pQ(p:Pr)(k op n:Int)(td:C6)(a:Nat)(s:RS)(v:List Int)(c:Fr)(r:List Fr):VR:=
 if v.length<a\/zm k op n td a=false then .bad
 else if k=7 then(match jU p td with
  |some f=>if f.params.length=a then .go ⟨zW s,v.take (v.length-a),⟨gE f,0,fN f (v.drop (v.length-a)),[]⟩::c::r⟩else .bad
  |none=>.bad)
 else if(k=3/\jc c.vs td=none)\/(k=6/\zb p.wa td=none)then .bad
 else match qR p (fun _ _ s=>.fin s) c.vs k op n td (v.drop (v.length-a)) s with
  |.ok x t=>.go ⟨t,v.take (v.length-a)++[x],c::r⟩
  |.fin t=>.stop none t
def YI(v:List Int)(r:List Fr)(n:Int)(t:RS):VR:=match r with
 |[]=>.stop (some n) t
 |c::q=>.go ⟨t,v++[n],c::q⟩
def lI(p:Pr)(k:Int)(td:C6)(s:RS)(v:List Int)(c:Fr)(r:List Fr):VR:=
 match v.getLast? with
 |none=>.bad
 |some x=>
   if k<=3/\us td=false then .bad
   else if k=1 then .go ⟨s,v.dropLast,{ c with vs:=c.vs++[(td,x)] } :: r⟩
   else if k=2 then(if jc c.vs td=none then .bad else .go ⟨s,v.dropLast,{ c with vs:=xJ c.vs td x } :: r⟩)
   else if k=3 then(match v.dropLast.getLast? with
    |none=>.bad
    | some i=>if zb p.wa td=none then .bad else match yc p td i x (zW s)with
      |.ok _ t=>.go ⟨t,v.dropLast.dropLast,c::r⟩
      |.fin t=>.stop none t)
   else if k=8 then YI v.dropLast r x s
   else if k=9 then .go ⟨{ zW s with o:=s.o++[x] },v.dropLast,c::r⟩
   else if k=10 then .go ⟨s,v.dropLast,c::r⟩
   else .bad
def yJ(p:Pr)(x:fO)(s:RS)(v:List Int)(c:Fr)(r:List Fr):VR:=match x with
 | .beg=>match zk s with
   |.ok _ t=>.go ⟨t,v,c::r⟩
   |.fin t=>.stop none t
 |.app (.mk k op n td tc)=>pQ p k op n td tc.length s v c r
 |.fin (.mk k _ td _ _ _)=>lI p k td s v c r
 |.jmp t=>.go ⟨s,v,{ c with pl:=t } :: r⟩
 | .unl t=>match v.getLast? with
   |none=>.bad
   |some n=>.go ⟨s,v.dropLast,(if n=0 then { c with pl:=t } else c)::r⟩
 | .lzy z t=>match v.getLast? with
   |none=>.bad
   |some n=>if decide (n=0)=z then .go ⟨s,v,{ c with pl:=t } :: r⟩else .go ⟨s,v.dropLast,c::r⟩
 |.ent=>.go ⟨s,v,{ c with o:=c.o++[c.vs.length] } :: r⟩
 | .lve=>match c.o.getLast? with
   |none=>.bad
   |some n=>.go ⟨s,v,{ c with vs:=c.vs.take n,o:=c.o.dropLast } :: r⟩
structure Lm (K:Nat) (s:RS) (v:List Int) (vs:fG) (o:List Nat):Prop where
 v:v.length+s.fuel<=K
 c:s.cost+s.fuel<=K
 vs:vs.length+s.fuel<=K
 o:o.length<=100
instance (K:Nat) (s:RS) (v:List Int) (vs:fG) (o:List Nat):Decidable (Lm K s v vs o):=
 decidable_of_iff (v.length+s.fuel<=K/\s.cost+s.fuel<=K/\vs.length+s.fuel<=K/\o.length<=100) ⟨fun h=>⟨h.1,h.2.1,h.2.2.1,h.2.2.2⟩,fun h=>⟨h.v,h.c,h.vs,h.o⟩⟩
def xL(p:Pr)(K:Nat)(m:Vm):VR:=match m.cs with
 |[]=>.bad
 | c::r=>if Lm K m.s m.v c.vs c.o then(match c.code[c.pl]? with
   |none=>.bad
   |some x=>yJ p x m.s m.v { c with pl:=c.pl+1 } r)else .bad
def LL(p:Pr)(K:Nat):Nat->Vm->VR
 |0,m=>.go m
 | k+1,m=>match xL p K m with
   |.go m'=>LL p K k m'
   |x=>x
theorem LM{p:Pr}{K:Nat}:∀(k j:Nat) (m m':Vm),LL p K k m=.go m'->LL p K (k+j) m=LL p K j m'
 |0,j,m,m',a=>by injection a with a;rw[a,Yz]
 | k+1,j,m,m',a=>by
   rw[show k+1+j=(k+j)+1 by omega,LL];rw[LL]at a;cases hs:xL p K m with
   |go b=>rw[hs]at a;exact LM k j b m' a
   |stop c s=>rw[hs]at a;cases a
   |bad=>rw[hs]at a;cases a
def To(p:Pr)(K:Nat)(m:Vm)(x:VR):Prop:=∃k,LL p K k m=x
theorem To.go{p:Pr}{K:Nat}{m m':Vm}{x:VR}(a:To p K m (.go m'))(g:To p K m' x):To p K m x:=by
 obtain⟨k,c⟩:=a;obtain⟨j,b⟩:=g;exact⟨k+j,(LM k j m m' c).trans b⟩
theorem To.refl{p:Pr}{K:Nat}{m:Vm}:To p K m (.go m):=⟨0,rfl⟩
theorem To.one{p:Pr}{K:Nat}{m:Vm}{x:VR}(h:xL p K m=x):To p K m x:=⟨1,by
 rw[LL,h]
 cases x<;>rfl⟩
def Sm{α:Type}(p:Pr)(K:Nat)(m:Vm)(x:fR α)(F:α->RS->VR):Prop:=To p K m (match x with | .ok a s=>F a s | .fin s=>.stop none s)
theorem Sm.go{α:Type}{p:Pr}{K:Nat}{m m':Vm}{x:fR α}{F:α->RS->VR}(h:To p K m (.go m'))(g:Sm p K m' x F):Sm p K m x F:=To.go h g
theorem Sm.one{α:Type}{p:Pr}{K:Nat}{m m':Vm}{x:fR α}{F:α->RS->VR}(h:xL p K m=.go m')(g:Sm p K m' x F):Sm p K m x F:=To.go (To.one h) g
theorem Sm.bind{α β:Type}{p:Pr}{K:Nat}{m:Vm}{x:fR α}{F:α->RS->VR}{f:α->RS->fR β}{H:β->RS->VR}(h:Sm p K m x F)(g:∀a t,x=.ok a t->To p K m (F a t)->Sm p K m (f a t) H):Sm p K m (x.bind f) H:=by
 cases x with
 |fin t=>exact h
 |ok a t=>exact g a t rfl h
theorem Sm.imp{α:Type}{p:Pr}{K:Nat}{m:Vm}{x:fR α}{F G:α->RS->VR}(h:Sm p K m x F)(g:∀a t,x=.ok a t->F a t=G a t):Sm p K m x G:=by
 cases x with
 |fin t=>exact h
 |ok a t=>unfold Sm at *;dsimp only at *;rw[<-g a t rfl];exact h
def wY(tn:List fO)(b:Nat)(l:List fO):Prop:=∀i x,l[i]?=some x->tn[b+i]?=some x
theorem wY.head{tn:List fO}{b:Nat}{x:fO}{l:List fO}(h:wY tn b (x::l)):tn[b]?=some x:=h 0 x rfl
theorem wY.tail{tn:List fO}{b:Nat}{x:fO}{l:List fO}(a:wY tn b (x::l)):wY tn (b+1) l:=fun i d c=>by
 rw[show b+1+i=b+(i+1)by omega];exact a (i+1) d Xk
theorem wY.left{tn:List fO}{b:Nat}{k l:List fO}(c:wY tn b (k++l)):wY tn b k:=fun i d a=>c i d (by
 rw[Yo (List.getElem?_eq_some_iff.1 a).1];exact a)
theorem wY.right{tn:List fO}{b:Nat}{k l:List fO}(a:wY tn b (k++l)){c:Nat}(d:c=b+k.length):wY tn c l:=fun i f e=>by
 subst d;rw[show b+k.length+i=b+(k.length+i)by omega];exact a _ f (by rw[Yi O,show k.length+i-k.length=i by omega];exact e)
theorem yt{p:Pr}{K:Nat}{s:RS}{v:List Int}{tn:List fO}{b:Nat}{vs:fG}{o:List Nat}{r:List Fr}{x:fO}(c:Lm K s v vs o)(a:tn[b]?=some x):
 xL p K ⟨s,v,⟨tn,b,vs,o⟩::r⟩=yJ p x s v ⟨tn,b+1,vs,o⟩ r:=by
 unfold xL;dsimp only;rw[Dq c,a]
end Go.Proofs.YtjadgpiafjdnfaaGreatDoor
namespace Go.Proofs.YtjadgpiafjdnfaaGreatDoor
open Go.RowKit Tryz Go.Maps
theorem tE:Keyed Tryz.prog 9:=string_keyed underlying9
def m0(s:C6):Lit:=.string s.data.toList
theorem S2{s t:C6}(h:s≠t):m0 s≠m0 t:=fun e=>h (by
 unfold m0 at e;injection e with e;cases s;cases t
 simpa[Array.toList_inj]using e)
theorem DP{s:C6}(a:s.size<=maxLen):keyOf Tryz.prog 9 (.string s)=some (m0 s):=WideMaps.keyOf_string_mk underlying9 a
abbrev S3:C8->Option (DataW C8×List MemPlace):=fun v=>some (.held v,[])
def fZ(w:C7)(m n:Nat)(z:C8)(f:C6->C8):Prop:=
 ∃D:DataW C8,w.ownsMap Tryz.prog 9 S3 m n D/\∀s:C6,D.atKey (m0 s) (.held z)=.held (f s)
section
variable {w w':C7}{m n:Nat}{z:C8}{f:C6->C8}
theorem fZ.lt(h:fZ w m n z f):m<w.heap.size:=by obtain⟨D,h,_⟩:=h;exact h.lt
theorem fZ.wd(c:fZ w m n z f)(i:w'.heap[m]?=w.heap[m]?):fZ w' m n z f:=by
 obtain⟨D,⟨b,a,g,d⟩,e⟩:=c;exact⟨D,⟨b,a,i.trans g,d⟩,e⟩
theorem fZ.congr(a:fZ w m n z f){g:C6->C8}(e:∀s,g s=f s):fZ w m n z g:=by
 obtain⟨D,a,b⟩:=a;exact⟨D,a,fun s=>(b s).trans (by rw[e])⟩
theorem oQ(w:C7)(z:C8):fZ (w.alloc (.map #[] 0)) w.heap.size 0 z fun _=>z:=⟨_,World.ownsMap_made _ _ _ _,fun s=>rfl⟩
def OF(f:C6->C8)(s:C6)(v:C8)(t:C6):C8:=if t=s then v else f t
theorem BJ{D:DataW C8}(a:w.ownsMap Tryz.prog 9 S3 m n D):IsMap D:=by
 obtain⟨_,_,_,_,_,b⟩:=a;exact⟨_,b⟩
theorem GC{D:DataW C8}(b:IsMap D)(a:∀s:C6,D.atKey (m0 s) (.held z)=.held (f s))(s:C6)(v:C8):
 ∀t:C6,(D.put (m0 s) (.held v)).atKey (m0 t) (.held z)=.held (OF f s v t):=fun t=>by
 unfold OF;by_cases e:t=s
 .subst e
  rw[Dq rfl];exact atKey_put_same b (show WideAt.IsKeyLit (.string _)from trivial) _ _
 .rw[Dp e,<-a t]
  exact atKey_put_other (S2 e) _ _
theorem fZ.look(c:fZ w m n z f){t e:TypeId}(k:Tryz.prog.underlying t=some (.map 9 e))(l:(zeroValue e).run Tryz.prog w=.ok z w){s:C6}(j:s.size<=maxLen):
 (Instr.lookup t (.map (some m)) (.string s) false).run Tryz.prog w=.ok (f s) w:=by
 obtain⟨D,g,d⟩:=c;obtain⟨v,ps,i,a⟩:=g.lookup tE k l (zd:=.held z) (zp:=[]) rfl (DP j);rw[d s]at a;injection a with a;injection a with b _;injection b with b;rw[i,b]
theorem g4{ops:Array Oper}{d:List Oper}{o:Oper}{a:Act}{Q:Exit->Act->C7->Prop}(p:o.guard=none)(b x vv:Operand)(t:TypeId)(u:o.op=Op.mapUpdate t b x vv)
 (e:TypeId) (y:Tryz.prog.underlying t=some (.map 9 e)) (q:a.eval b=.map (some m)) (g:fZ w m n z f) (r:n<maxLen) (s:C6) (B:a.eval x=.string s) (v:s.size<=maxLen) (val:C8) (A:a.eval vv=val)
 (k:∀w',fZ w' m (n+1) z (OF f s val)->w.grownBy w' (some m)->wpList Tryz.prog ops Q d (a.put o.dst undef) w'):wpList Tryz.prog ops Q (o::d) a w:=by
 obtain⟨D,c,l⟩:=g;exact wpList_mapUpdate_own w p b x vv t u 9 e tE y S3 m n D q c r (.string s) val (m0 s) B A (DP v) (.held val) [] rfl fun w' i j=>k w' ⟨_,i,GC (BJ c) l s val⟩ j
theorem fZ.upd(b:fZ w m n z f){t e:TypeId}(o:Tryz.prog.underlying t=some (.map 9 e))(j:n<maxLen){s:C6}(l:s.size<=maxLen)(val:C8):
 ∃w',(Instr.mapUpdate t (.map (some m)) (.string s) val).run Tryz.prog w=.ok () w'/\fZ w' m (n+1) z (OF f s val)/\w.grownBy w' (some m):=by
 obtain⟨D,a,i⟩:=b;obtain⟨w',k,c,g⟩:=a.update tE o j (DP l) (val:=val) (d:=.held val) (ps:=[]) rfl;exact⟨w',k,⟨_,c,GC (BJ a) i s val⟩,g⟩
end
inductive Lb where
 |gl
 |mach
 |funs
 |arrs
 |code
 |arr (k:Nat)
 |vals
 |outs
 |frm (d:Nat)
 |vmap (d i:Nat)
 |outr (d:Nat)
 |cel (d i:Nat)
structure Gm where
 B:Nat
 b:Nat
 p:Pr
 fm:Nat
 am:Nat
 fv:C6->C8
 kp:Nat->Obj->Prop
def pR(B:Nat)(w:C7)(v:C8)(e:Ex):Prop:=∃g o,v=.pointer (some ⟨g,o,none⟩)/\z9 B w e g o
def oR(B:Nat)(w:C7)(v:C8)(t:St):Prop:=∃g o,v=.pointer (some ⟨g,o,none⟩)/\E0 B w t g o
theorem pR.below{B a:Nat}{w w':C7}{v:C8}{e:Ex}(b:pR B w v e)(i:Below B w w')(f:B<=a):pR a w' v e:=by
 obtain⟨g,o,c,d⟩:=b;exact⟨g,o,c,z9.below i f e g o d⟩
theorem oR.below{B a:Nat}{w w':C7}{v:C8}{e:St}(b:oR B w v e)(i:Below B w w')(f:B<=a):oR a w' v e:=by
 obtain⟨g,o,c,d⟩:=b;exact⟨g,o,c,E0.below i f e g o d⟩
def oS(B:Nat)(w:C7):fO->C8->C8->C8->C8->Prop
 |.beg,a,b,c,d=>a=.int .i64 0/\b=.int .i64 0/\c=.pointer none/\d=.pointer none
 |.app e,a,b,c,d=>a=.int .i64 1/\b=.int .i64 0/\pR B w c e/\d=.pointer none
 |.fin t,a,b,c,d=>a=.int .i64 2/\b=.int .i64 0/\c=.pointer none/\oR B w d t
 |.jmp t,a,b,c,d=>a=.int .i64 3/\b=.int .i64 (t:Int)/\c=.pointer none/\d=.pointer none
 |.unl t,a,b,c,d=>a=.int .i64 4/\b=.int .i64 (t:Int)/\c=.pointer none/\d=.pointer none
 |.lzy z t,a,b,c,d=>a=.int .i64 (if z then 5 else 6)/\b=.int .i64 (t:Int)/\c=.pointer none/\d=.pointer none
 |.ent,a,b,c,d=>a=.int .i64 7/\b=.int .i64 0/\c=.pointer none/\d=.pointer none
 |.lve,a,b,c,d=>a=.int .i64 8/\b=.int .i64 0/\c=.pointer none/\d=.pointer none
theorem oS.below{B e:Nat}{w w':C7}(g:Below B w w')(f:B<=e):∀{x:fO}{a b c d:C8},oS B w x a b c d->oS e w' x a b c d
 |.beg,_,_,_,_,h=>h
 |.app _,_,_,_,_,h=>⟨h.1,h.2.1,h.2.2.1.below g f,h.2.2.2⟩
 |.fin _,_,_,_,_,h=>⟨h.1,h.2.1,h.2.2.1,h.2.2.2.below g f⟩
 |.jmp _,_,_,_,_,h=>h
 |.unl _,_,_,_,_,h=>h
 |.lzy _ _,_,_,_,_,h=>h
 |.ent,_,_,_,_,h=>h
 |.lve,_,_,_,_,h=>h
def GD(B:Nat)(τ:Nat->Lb)(w:C7)(v:C8)(l:List fO):Prop:=
 ∃(e:Option Addr) (f:Nat),v=.slice e l.length f/\l.length<=281474976710656/\(0<l.length->∃g,e=some ⟨g,0,none⟩/\τ g=.code/\g<w.heap.size/\
   ∀i x,l[i]?=some x->∃a b c d,oS B w x a b c d/\w.cell? ⟨g,i*4,none⟩=some a/\w.cell? ⟨g,i*4+1,none⟩=some b/\w.cell? ⟨g,i*4+2,none⟩=some c/\w.cell? ⟨g,i*4+3,none⟩=some d)
def iE(B:Nat)(τ:Nat->Lb)(l:Lb)(w:C7)(v:C8)(a:List Int):Prop:=w.ownsRow B 3 1 v a.length (a.map (Value.int .i64))/\∀b,v.ownBlock=some b->τ b=l
def gD(vs:fG)(tm:List Nat)(s:C6):C8:=match jc vs s with
 | some k=>match tm[k]? with
   |some l=>.pointer (some ⟨l,0,none⟩)
   |none=>.pointer none
 |none=>.pointer none
def GE(τ:Nat->Lb)(w:C7)(d i m:Nat)(vs:fG)(tm:List Nat):Prop:=τ m=.vmap d i/\fZ w m vs.length (.pointer none) (gD vs tm)
abbrev GF(b:C8)(a mp:Nat)(vo pa:C8):Obj:=.cells #[b,((a:Int):Int),.map (some mp),vo,pa] 136
structure rL (B:Nat) (τ:Nat->Lb) (w:C7) (d a:Nat) (pa:C8) (c:Fr) (vc:C8) (mp:Nat) (vo:C8) (locs ms:List Nat):Prop where
 box:w.heap[a]?=some (GF vc c.pl mp vo pa)
 lab:τ a=.frm d
 code:GD B τ w vc c.code
 ll:locs.length=c.vs.length
 cell:∀i l x,locs[i]?=some l->c.vs[i]?=some x->τ l=.cel d i/\w.heap[l]?=some (.cells #[(x.2:Int)] 3)/\fS x.2
 map:GE τ w d c.o.length mp c.vs locs
 ml:ms.length=c.o.length
 row:w.ownsRow B 132 1 vo c.o.length (ms.map fun m=>.map (some m))
 rol:∀b,vo.ownBlock=some b->τ b=.outr d
 o:∀i m k,ms[i]?=some m->c.o[i]?=some k->GE τ w d i m (c.vs.take k) locs
 ord:(c.o++[c.vs.length]).Pairwise (·<=·)
def H8(B:Nat)(τ:Nat->Lb)(w:C7):C8->List Fr->Prop
 |v,[]=>v=.pointer none
 |v,c::r=>∃a pa d mp vo tm b,v=.pointer (some ⟨a,0,none⟩)/\rL B τ w r.length a pa c d mp vo tm b/\H8 B τ w pa r
def YJ(G:Gm)(τ:Nat->Lb)(w:C7):Prop:=
 τ G.fm=.funs/\(∃n,fZ w G.fm n (.agg #[(),()]) G.fv)/\∀s f,jU G.p s=some f->∃b a,G.fv s=.agg #[b,a]/\gU G.B w b f.params/\GD G.B τ w a (gE f)
def JF(p:Pr)(b:List Nat)(a:List (List Int))(s:C6):C8:=match zb p.wa s with
 |some k=>A9 (b.getD k 0,a.getD k [])
 |none=>.slice none 0 0
structure tF (G:Gm) (τ:Nat->Lb) (w:C7) (arr:List (List Int)) (rows:List Nat):Prop where
 lab:τ G.am=.arrs
 len:arr.length=G.p.wa.length
 rl:rows.length=arr.length
 map:∃n,fZ w G.am n (.slice none 0 0) (JF G.p rows arr)
 row:∀k g l,rows[k]?=some g->arr[k]?=some l->τ g=.arr k/\w.heap[g]?=some (oL l)/\fT l/\l.length<=1000
def S4(G:Gm)(τ:Nat->Lb)(w:C7)(a:List (List Int)):Prop:=∃b,tF G τ w a b
abbrev YK(G:Gm)(vi vv pa vo:C8)(s:RS):Obj:=.cells #[.map (some G.fm),.map (some G.am),vi,vv,pa,(0:Int),(0:Int),vo,((s.cost:Int):Int),((s.fuel:Int):Int)] 57
structure gC (G:Gm) (τ:Nat->Lb) (w:C7) (m:Vm) (vi vv pa vo:C8):Prop where
 hB:G.B<=w.heap.size
 old:∀k,k<G.B->τ k=.gl
 tab:fQ G.B w
 pok:f5 G.p=true
 box:w.heap[G.b]?=some (YK G vi vv pa vo m.s)
 lab:τ G.b=.mach
 inp:k8 G.B w vi m.s.inp
 val:iE G.B τ .vals w vv m.v
 o:iE G.B τ .outs w vo m.s.o
 frs:H8 G.B τ w pa m.cs
 db:YJ G τ w
 arr:S4 G τ w m.s.arr
 nv:fT m.v
 ni:fT m.s.inp
 no:m.s.o.length<=m.s.cost
 lim:m.s.cost+m.s.fuel<=1000000000
 kp:∀k o,G.kp k o->τ k=.gl/\w.heap[k]?=some o
def MW(G:Gm)(τ:Nat->Lb)(w:C7)(m:Vm):Prop:=∃vi vv pa vo,gC G τ w m vi vv pa vo
def gP(τ τ':Nat->Lb)(w:C7):Prop:=∀k,k<w.heap.size->τ' k=τ k
theorem gP.refl(τ:Nat->Lb)(w:C7):gP τ τ w:=fun _ _=>rfl
def S5(τ:Nat->Lb)(b:Nat)(l:Lb)(k:Nat):Lb:=if k=b then l else τ k
theorem zAh(τ:Nat->Lb)(b:Nat)(l:Lb):S5 τ b l b=l:=Dq rfl
theorem zAi(τ:Nat->Lb){b k:Nat}(l:Lb)(h:k≠b):S5 τ b l k=τ k:=Dp h
theorem gP.lbl(τ:Nat->Lb)(w:C7){b:Nat}(l:Lb)(_:w.heap.size<=b):gP τ (S5 τ b l) w:=fun k _=>Dp O
section
variable {B:Nat} {τ τ':Nat->Lb}{X:Lb->Prop} {w w':C7}
theorem kd(e:fF (fun k=>X (τ k)) w w')(d:gP τ τ' w){k:Nat}{l:Lb}{o:Obj}(b:τ k=l)(c:¬X l)(a:w.heap[k]?=some o):τ' k=l/\w'.heap[k]?=some o:=
 ⟨(d k (zB a)).trans b,(e.block k (zB a) (by rw[b];exact c)).trans a⟩
theorem GD.keep{v:C8}{l:List fO}(r:GD B τ w v l)(m:fF (fun k=>X (τ k)) w w')(D:gP τ τ' w)(C:Below B w w')(A:¬X .code):GD B τ' w' v l:=by
 obtain⟨n,p,s,t,u⟩:=r;refine⟨n,p,s,t,fun F=>?_⟩;obtain⟨g,y,j,f,z⟩:=u F;have E:w'.heap[g]?=w.heap[g]?:=m.block g f (by rw[j];exact A);refine⟨g,y,(D g f).trans j,Yb f m.size,fun i x G=>?_⟩;obtain⟨a,b,c,d,q,H,I,J,K⟩:=z i x G;have e:∀o,w'.cell? ⟨g,o,none⟩=w.cell? ⟨g,o,none⟩:=fun o=>D6 E;exact⟨a,b,c,d,q.below C Zr,(e _).trans H,(e _).trans I,(e _).trans J,(e _).trans K⟩
theorem iE.keep{l:Lb}{v:C8}{e:List Int}(a:iE B τ l w v e)(i:fF (fun k=>X (τ k)) w w')(g:gP τ τ' w)(f:¬X l):iE B τ' l w' v e:=
 ⟨zR a.1 fun k d=>i.block k (zU a.1 k d).1 (by rw[a.2 k d];exact f),fun b c=>(g b (zU a.1 b c).1).trans (a.2 b c)⟩
theorem GE.keep{d i m:Nat}{vs:fG}{tm:List Nat}(a:GE τ w d i m vs tm)(e:fF (fun k=>X (τ k)) w w')(c:gP τ τ' w)(b:¬X (.vmap d i)):GE τ' w' d i m vs tm:=
 ⟨(c m a.2.lt).trans a.1,a.2.wd (e.block m a.2.lt (by rw[a.1];exact b))⟩
def S6(X:Lb->Prop)(n:Nat):Prop:=¬X .code/\∀d,d<n->¬X (.frm d)/\¬X (.outr d)/\∀i,¬X (.vmap d i)/\¬X (.cel d i)
theorem rL.keep{d a:Nat}{pa:C8}{c:Fr}{u:C8}{mp:Nat}{vo:C8}{tm t:List Nat}(e:rL B τ w d a pa c u mp vo tm t)(g:fF (fun k=>X (τ k)) w w')(f:gP τ τ' w)(j:Below B w w'){n:Nat}(C:S6 X n)(D:d<n):rL B τ' w' d a pa c u mp vo tm t:=by
 obtain⟨v,y⟩:=C;obtain⟨z,A,q⟩:=y d D;have r:=kd g f e.lab z e.box;refine⟨r.2,r.1,e.code.keep g f j v,e.ll,fun i l x E G=>?_,e.map.keep g f (q _).1,e.ml,?_,fun b j=>?_,fun i m k F p=>(e.o i m k F p).keep g f (q i).1,e.ord⟩
 .obtain⟨H,I,J⟩:=e.cell i l x E G
  have s:=kd g f H (q i).2 I;exact⟨s.1,s.2,J⟩
 .exact zR e.row fun k p=>g.block k (zU e.row k p).1 (by rw[e.rol k p];exact A)
 .exact(f b (zU e.row b j).1).trans (e.rol b j)
theorem H8.keep(e:fF (fun k=>X (τ k)) w w')(d:gP τ τ' w)(b:Below B w w'):∀{l:List Fr}{v:C8},H8 B τ w v l->∀{n:Nat},S6 X n->l.length<=n->H8 B τ' w' v l
 |[],_,h,_,_,_=>h
 | c::r,v,h,n,hX,hn=>by
   obtain⟨a,pa,m,mp,vo,tm,j,f,g,i⟩:=h;rw[Du]at hn;exact⟨a,pa,m,mp,vo,tm,j,f,g.keep e d b hX O,H8.keep e d b i hX O⟩
theorem YJ.keep{G:Gm}(i:YJ G τ w)(g:fF (fun k=>X (τ k)) w w')(e:gP τ τ' w)(d:Below G.B w w')(c:¬X .funs/\¬X .code):YJ G τ' w':=by
 obtain⟨b,⟨n,a⟩,j⟩:=i;refine⟨(e _ a.lt).trans b,⟨n,a.wd (g.block _ a.lt (by rw[b];exact c.1))⟩,fun s f l=>?_⟩;obtain⟨r,q,m,o,p⟩:=j s f l;exact⟨r,q,m,o.below d Zr,p.keep g e d c.2⟩
theorem tF.keep{G:Gm}{b:List (List Int)}{j:List Nat}(m:tF G τ w b j)(f:fF (fun k=>X (τ k)) w w')(e:gP τ τ' w)(d:¬X .arrs/\∀k,¬X (.arr k)):tF G τ' w' b j:=by
 obtain⟨c,o,p,⟨n,a⟩,q⟩:=m;refine⟨(e _ a.lt).trans c,o,p,⟨n,a.wd (f.block _ a.lt (by rw[c];exact d.1))⟩,fun k g l r s=>?_⟩;obtain⟨t,u,v⟩:=q k g l r s;have i:=kd f e t (d.2 k) u;exact⟨i.1,i.2,v⟩
theorem S4.keep{G:Gm}{b:List (List Int)}(a:S4 G τ w b)(e:fF (fun k=>X (τ k)) w w')(d:gP τ τ' w)(c:¬X .arrs/\∀k,¬X (.arr k)):S4 G τ' w' b:=by
 obtain⟨f,a⟩:=a;exact⟨f,a.keep e d c⟩
theorem gC.below{G:Gm}{m:Vm}{vi vv pa vo:C8}(a:gC G τ w m vi vv pa vo)(d:fF (fun k=>X (τ k)) w w')(b:¬X .gl):Below G.B w w':=
 d.below a.hB fun k c=>by rw[a.old k c];exact b
end
abbrev za7(a b:Int):PanicEntry:={ v:=.iface 51 (.agg #[(a:Int),(b:Int)]),recovered:=false }
def zaf(c:Option Int)(t:RS):PanicEntry:=match c with
 |some n=>za7 1 n
 |none=>za7 t.stat 0
def g5(G:Gm)(w:C7)(m:Vm)(v:C8)(e:Ending)(w':C7):Prop:=e=.returned v/\(∃τ,MW G τ w' m)/\Below G.B w w'
def yh(G:Gm)(w:C7)(c:Option Int)(t:RS)(e:Ending)(w':C7):Prop:=e=.panicked [zaf c t]/\(∃τ v cs,MW G τ w' ⟨t,v,cs⟩)/\Below G.B w w'
section
variable {G:Gm}{τ:Nat->Lb} {w w':C7} {m m':Vm} {vi vv pa vo vi' vv' pa' vo':C8}
abbrev XB:Lb->Prop:=fun l=>l=Lb.mach
abbrev XN:Lb->Prop:=fun _=>False
theorem gC.lt(h:gC G τ w m vi vv pa vo):G.b<w.heap.size:=zB h.box
theorem gC.hBb(c:gC G τ w m vi vv pa vo):G.B<=G.b:=by
 rcases Cf G.b G.B with a|a
 .have:=c.old _ a
  rw[c.lab]at this;cases this
 .exact a
theorem gC.boxed(a:gC G τ w m vi vv pa vo)(j:∀k,k≠G.b->w'.heap[k]?=w.heap[k]?)(z:w.heap.size=w'.heap.size)(u:w'.os=w.os)(x:w'.tape=w.tape)(t:w'.output=w.output)
 (r:w'.heap[G.b]?=some (YK G vi' vv' pa' vo' m'.s)) (A:k8 G.B w vi' m'.s.inp) (val:iE G.B τ .vals w vv' m'.v) (out:iE G.B τ .outs w vo' m'.s.o) (l:H8 G.B τ w pa' m'.cs) (q:m'.s.arr=m.s.arr)
 (F:fT m'.v) (D:fT m'.s.inp) (E:m'.s.o.length<=m'.s.cost) (C:m'.s.cost+m'.s.fuel<=1000000000):gC G τ w' m' vi' vv' pa' vo'/\Below G.B w w':=by
 have c:fF (fun k=>XB (τ k)) w w':=⟨u,x,t,Dx z,fun k _ y=>j k fun e=>y (by rw[e];exact a.lab)⟩
 have f:=gP.refl τ w;have g:Below G.B w w':=a.below (X:=XB) c (Uv);have p:∀n,S6 XB n:=fun n=>⟨Uv,fun d _=>⟨Uv,Uv,fun i=>⟨Uv,Uv⟩⟩⟩
 refine⟨⟨Xn,a.old,a.tab.below g,a.pok,r,a.lab,A.below g Zr,val.keep (X:=XB) c f (Uv),out.keep (X:=XB) c f (Uv),l.keep (X:=XB) c f g (p _) Zr,a.db.keep (X:=XB) c f g ⟨Uv,Uv⟩,?_,F,D,E,C,fun k o j=>⟨(a.kp k o j).1,(kd (X:=XB) c f (a.kp k o j).1 Uv (a.kp k o j).2).2⟩⟩,g⟩;rw[q];exact a.arr.keep (X:=XB) c f ⟨Uv,fun k=>Uv⟩
theorem gC.we(a:gC G τ w m vi vv pa vo)(c:C2 w w'):gC G τ w' m vi vv pa vo:=by
 have b:fF (fun k=>XN (τ k)) w w':=fF.wb _ c;have e:=gP.refl τ w;have f:=c.mono a.hB;exact⟨Dw a.hB c.size,a.old,a.tab.below f,a.pok,(c.block _ a.lt).trans a.box,a.lab,a.inp.below f Zr,a.val.keep (X:=XN) b e id,a.o.keep (X:=XN) b e id,a.frs.keep (X:=XN) b e f ⟨id,fun d _=>⟨id,id,fun i=>⟨id,id⟩⟩⟩ Zr,a.db.keep (X:=XN) b e f ⟨id,id⟩,a.arr.keep (X:=XN) b e ⟨id,fun _=>id⟩,a.nv,a.ni,a.no,a.lim,fun k o g=>⟨(a.kp k o g).1,(c.block k (zB (a.kp k o g).2)).trans (a.kp k o g).2⟩⟩
theorem gC.wu(d:gC G τ w m vi vv pa vo)(i:Nat)(a:C8)(f:(w.setCell (G.b,i) a).heap[G.b]?=some (YK G vi' vv' pa' vo' m'.s))(j:k8 G.B w vi' m'.s.inp)(val:iE G.B τ .vals w vv' m'.v)(out:iE G.B τ .outs w vo' m'.s.o)(c:H8 G.B τ w pa' m'.cs)(e:m'.s.arr=m.s.arr)
 (q:fT m'.v) (n:fT m'.s.inp) (p:m'.s.o.length<=m'.s.cost) (l:m'.s.cost+m'.s.fuel<=1000000000):gC G τ (w.setCell (G.b,i) a) m' vi' vv' pa' vo'/\Below G.B w (w.setCell (G.b,i) a):=
 d.boxed (fun k g=>D0 w _ a k g) Ux rfl rfl rfl f j val out c e q n p l
theorem iE.form{B:Nat}{l:Lb}{v:C8}{a:List Int}(d:iE B τ l w v a):∃b c,v=.slice b a.length c:=zZ d.1
theorem iE.cut{B:Nat}{l:Lb}{d:Option Addr}{c:Nat}{q x:List Int}(e:iE B τ l w (.slice d (q++x).length c) (q++x)):iE B τ l w (.slice d q.length c) q:=by
 have f:=DF e.1 (m:=q.length) (by rw[Dr];omega);rw[Nat.mul_one,Yj,List.take_left' Uu]at f
 exact⟨f,fun b g=>e.2 b (by
  cases d with
  |none=>exact g
  |some a=>exact g)⟩
end
theorem za8(q:List Int)(x:Int)(l:List Int):((q++x::l).map (Value.int .i64))[q.length]?=some (.int .i64 x):=by
 rw[Yn,Yi Zr,Yy];rfl
theorem gC.wn{G:Gm}{τ:Nat->Lb}{w:C7}{m:Vm}{vi vv pa vo:C8}(a:gC G τ w m vi vv pa vo){q:List Int}{x:Int}(j:m.v=q++[x]):
 ∃g c,vv=.slice (some ⟨g,0,none⟩) (q.length+1) c/\q.length<c/\g<w.heap.size/\w.cell? ⟨g,q.length,none⟩=some (.int .i64 x)/\fS x/\
   gC G τ (w.setCell (G.b,3) (.slice (some ⟨g,0,none⟩) q.length c)) ⟨m.s,q,m.cs⟩ vi (.slice (some ⟨g,0,none⟩) q.length c) pa vo/\Below G.B w (w.setCell (G.b,3) (.slice (some ⟨g,0,none⟩) q.length c)):=by
 obtain⟨s,v,k⟩:=m;dsimp only at j;subst j;have e:=a.val;obtain⟨_,c,y⟩:=e.form;subst y;obtain⟨g,_,d,_,p,i,r,_⟩:=xE e.1 Uu;injection d with d _ l;subst d l;have t:(q++[x]).length=q.length+1:=Uu
 have i:(q++[x]).length<=c:=i;have f:=a.wu (m':=⟨s,q,k⟩) (vv':=.slice (some ⟨g,0,none⟩) q.length c) 3 (.slice (some ⟨g,0,none⟩) q.length c) (D4 a.box _) a.inp e.cut a.o a.frs rfl (fun n u=>a.nv n (List.mem_append_left _ u)) a.ni a.no a.lim;exact⟨g,c,by rw[t],O,p,r _ _ (za8 q x []),a.nv x (Y3 _ (List.mem_singleton.2 rfl)),f.1,f.2⟩
theorem yA{b g n c:Nat}{x:Int}{w:C7}{d f i j k l m o p:C8}{T:TypeId}(a:w.heap[b]?=some (.cells #[d,f,i,.slice (some ⟨g,0,none⟩) (n+1) c,j,k,l,m,o,p] T (0,0)))(_:n<c)(_:g<w.heap.size)(_:w.cell? (g,n)=some (.int .i64 x))(_:n<=2000000000):
 C3 67 #[(b,0)] w fun e w'=>e=.returned (x:Int)/\w.setCell (b,3) (.slice (some ⟨g,0,none⟩) n c)=w':=by
 obtain⟨⟨_,_,_,_,_,_,_,_,_,_⟩,_⟩:=zD a;have r:=zB a;have q:n<=n+1:=Cc _
 have s:IntKind.i64.wrap (((n+1 :Nat):Int)-1)=(n:Int):=by
  rw[IntWalk.i64_in]<;>omega
 clear a;go_enter func67,ntmps67;go_wp2_with fail;go_ret;exact⟨rfl,rfl⟩
theorem kg{G:Gm}{τ:Nat->Lb}{w:C7}{m:Vm}(n:MW G τ w m){q:List Int}{x:Int}(o:m.v=q++[x])(l:q.length<=2000000000):
 C3 67 #[(G.b,0)] w (g5 G w ⟨m.s,q,m.cs⟩ (.int .i64 x)):=by
 obtain⟨vi,vv,pa,vo,a⟩:=n;obtain⟨g,c,rfl,d,f,i,_,j,k⟩:=a.wn o;refine(yA a.box d f i l).mono ?_;rintro e w' ⟨rfl,rfl⟩;exact⟨rfl,⟨τ,_,_,_,_,j⟩,k⟩
section
variable {G:Gm} {τ τ':Nat->Lb} {w w':C7} {m m':Vm} {vi vv pa vo vi' vv' pa' vo':C8}{X:Lb->Prop}
theorem gC.step(a:gC G τ w m vi vv pa vo)(c:fF (fun k=>X (τ k)) w w')(d:gP τ τ' w)(g:¬X .gl)(n:¬X .funs/\¬X .code)(l:w'.heap[G.b]?=some (YK G vi' vv' pa' vo' m'.s))(p:k8 G.B w' vi' m'.s.inp)(val:iE G.B τ' .vals w' vv' m'.v)(out:iE G.B τ' .outs w' vo' m'.s.o)
 (j:H8 G.B τ' w' pa' m'.cs) (i:S4 G τ' w' m'.s.arr) (u:fT m'.v) (r:fT m'.s.inp) (t:m'.s.o.length<=m'.s.cost) (q:m'.s.cost+m'.s.fuel<=1000000000):gC G τ' w' m' vi' vv' pa' vo'/\Below G.B w w':=by
 have f:=a.below c g;exact⟨⟨Dw a.hB c.size,fun k e=>(d k Xn).trans (a.old k e),a.tab.below f,a.pok,l,(d _ a.lt).trans a.lab,p,val,out,j,a.db.keep c d f n,i,u,r,t,q,fun k o e=>kd c d (a.kp k o e).1 g (a.kp k o e).2⟩,f⟩
theorem GG{W:C7}{v v':C8}{l:Lb}(_:w.heap.size<=W.heap.size)(e:kn W v v')(d:∀b,v.ownBlock=some b->τ b=l):∃τ',gP τ τ' w/\∀b,v'.ownBlock=some b->τ' b=l:=by
 rcases e with c|⟨g,c,_⟩
 .exact⟨τ,gP.refl _ _,fun b a=>d b (c▸a)⟩
 .refine⟨S5 τ g l,gP.lbl τ w l O,fun b a=>?_⟩
  rw[c]at a;injection a with a;subst a;exact zAh τ g l
abbrev XV(l:Lb):Lb->Prop:=fun x=>x=.mach\/x=l
theorem kS{l x:Lb}(b:x≠.mach)(c:x≠l):¬XV l x:=fun a=>a.elim b c
theorem OG(n:Nat):S6 (XV .vals) n:=⟨kS Uv Uv,fun d _=>⟨kS Uv Uv,kS Uv Uv,fun i=>⟨kS Uv Uv,kS Uv Uv⟩⟩⟩
theorem OH(n:Nat):S6 (XV .outs) n:=⟨kS Uv Uv,fun d _=>⟨kS Uv Uv,kS Uv Uv,fun i=>⟨kS Uv Uv,kS Uv Uv⟩⟩⟩
theorem gC.dc(c:gC G τ w m vi vv pa vo){W w8:C7}{v v':C8}{l:Lb}{j:List Int}(f:∀b,v.ownBlock=some b->τ b=l)(q:l≠.mach)(d:C2 w W)(p:W.grownBy w8 v.ownBlock)(r:kn W v v')(t:w8.ownsRow G.B 3 1 v' j.length (j.map (Value.int .i64)))(i:Nat)(g:C8):
 (∃τ',gP τ τ' w/\iE G.B τ' l (w8.setCell (G.b,i) g) v' j)/\fF (fun k=>XV l (τ k)) w (w8.setCell (G.b,i) g)/\w8.heap[G.b]?=some (YK G vi vv pa vo m.s):=by
 obtain⟨τ',o,n⟩:=GG d.size r f;have u:v.ownBlock≠some G.b:=fun e=>by have:=f _ e;rw[c.lab]at this;exact q this.symm
 have x:v'.ownBlock≠some G.b:=fun e=>by
  have:=n _ e;rw[o _ c.lt,c.lab]at this;exact q this.symm
 refine⟨⟨τ',o,zR t fun k a=>D0 w8 _ _ k (fun e=>x (by have e:k=G.b:=e;rw[<-e];exact a)),n⟩,?_,?_⟩
 .refine((fF.wb (fun k=>XV l (τ k)) d).trans (fF.grown (X:=fun k=>v.ownBlock=some k) p fun k a=>a) fun k _ a=>.inr (f k a)).trans (fF.set (X:=fun k=>k=G.b) w8 rfl i g) fun k _ a=>.inl (by have a:k=G.b:=a;rw[a];exact c.lab)
 .exact((p.block _ (Yb c.lt d.size) fun e=>u e.symm).trans (d.block _ c.lt)).trans c.box
theorem gC.push(a:gC G τ w m vi vv pa vo){W w8:C7}{v':C8}{n:Int}(r:C2 w W)(t:W.grownBy w8 vv.ownBlock)(y:kn W vv v')(g:w8.ownsRow G.B 3 1 v' (m.v.length+1) (m.v.map (Value.int .i64)++[.int .i64 n]))(u:fS n):
 w8.heap[G.b]?=some (YK G vi vv pa vo m.s)/\(∃τ vv,gC G τ (w8.setCell (G.b,3) v') ⟨m.s,m.v++[n],m.cs⟩ vi vv pa vo)/\Below G.B w (w8.setCell (G.b,3) v')/\fF (fun k=>XV .vals (τ k)) w (w8.setCell (G.b,3) v'):=by
 have g:w8.ownsRow G.B 3 1 v' (m.v++[n]).length ((m.v++[n]).map (Value.int .i64)):=by rw[Dr,Yj];exact g
 obtain⟨⟨τ',f,q⟩,c,i⟩:=a.dc (l:=.vals) a.val.2 Uv r t y g 3 v';have j:=a.below (X:=XV .vals) c (kS Uv Uv)
 have p:=a.step (X:=XV .vals) (m':=⟨m.s,m.v++[n],m.cs⟩) c f (kS Uv Uv) ⟨kS Uv Uv,kS Uv Uv⟩ (D4 i _) (a.inp.below j Zr) q (a.o.keep (X:=XV .vals) c f (kS Uv Uv))
  (a.frs.keep (X:=XV .vals) c f j (OG _) Zr) (a.arr.keep (X:=XV .vals) c f ⟨kS Uv Uv,fun k=>kS Uv Uv⟩) (fun x d=>by
    rcases List.mem_append.1 d with d|d
    .exact a.nv x d
    .rw[List.mem_singleton.1 d];exact u) a.ni a.no a.lim
 exact⟨i,⟨τ',_,p.1⟩,p.2,c⟩
theorem gC.print(a:gC G τ w m vi vv pa vo){W w8:C7}{v':C8}{n:Int}(q:C2 w W)(t:W.grownBy w8 vo.ownBlock)(u:kn W vo v')(f:w8.ownsRow G.B 3 1 v' (m.s.o.length+1) (m.s.o.map (Value.int .i64)++[.int .i64 n]))(r:m.s.o.length+1<=m.s.cost):
 w8.heap[G.b]?=some (YK G vi vv pa vo m.s)/\(∃τ,MW G τ (w8.setCell (G.b,7) v') ⟨{ m.s with o:=m.s.o++[n] },m.v,m.cs⟩)/\Below G.B w (w8.setCell (G.b,7) v'):=by
 have f:w8.ownsRow G.B 3 1 v' (m.s.o++[n]).length ((m.s.o++[n]).map (Value.int .i64)):=by rw[Dr,Yj];exact f
 obtain⟨⟨τ',d,p⟩,c,g⟩:=a.dc (l:=.outs) a.o.2 Uv q t u f 7 v';have i:=a.below (X:=XV .outs) c (kS Uv Uv)
 have j:=a.step (X:=XV .outs) (m':=⟨{ m.s with o:=m.s.o++[n] },m.v,m.cs⟩) c d (kS Uv Uv) ⟨kS Uv Uv,kS Uv Uv⟩ (D4 g _) (a.inp.below i Zr) (a.val.keep (X:=XV .outs) c d (kS Uv Uv)) p
  (a.frs.keep (X:=XV .outs) c d i (OH _) Zr) (a.arr.keep (X:=XV .outs) c d ⟨kS Uv Uv,fun k=>kS Uv Uv⟩) a.nv a.ni (by rw[Dr];exact r) a.lim
 exact⟨g,⟨τ',_,_,_,_,j.1⟩,j.2⟩
end
theorem tG{G:Gm}{τ:Nat->Lb}{w:C7}{m:Vm}{vi vv pa vo:C8}(a:gC G τ w m vi vv pa vo)(n:Int)(r:fS n)(_:m.v.length<=2000000000):
 C3 68 #[(G.b,0),(n:Int)] w fun e w'=>e=.returned (.tuple #[])/\(∃τ vv,gC G τ w' ⟨m.s,m.v++[n],m.cs⟩ vi vv pa vo)/\Below G.B w w'/\fF (fun k=>XV .vals (τ k)) w w':=by
 obtain⟨H,q,u,x,y⟩:=info_parts kY;obtain⟨j,c,g⟩:=a.val.form;obtain⟨⟨_,_,_,F,_,_,_,_,_,_⟩,_⟩:=zD a.box;have K:=a.lt;have I:=a.hB;rw[g]at F;have l:=U g;have E:=C5 ((w.alloc (.cells #[(n:Int)] 3)).ownsRow G.B 3 1 (.slice j m.v.length c) m.v.length (m.v.map (Value.int .i64))) (g▸qS a.val.1 ((D5 w.heap.size w).alloc Zr _) Zr);have A:=U (jV w [.int .i64 n] 3);have f:=U (Dt q (Dt u (Dt x y)));have z:=U a;have C:=U r;clear a g q u x y r;go_enter func68,ntmps68
 go_wp2_with (at_builtin;refine qK rfl (.tmp 8) (.tmp 10) _ rfl G.B 3 H _ 1 8 underlying23 f.o.1 f.o.2.1 f.o.2.2.1 f.o.2.2.2 rfl O (.slice j m.v.length c) m.v.length _ rfl (by exact E.o) ⟨w.heap.size,0,none⟩ 1 1 [.int .i64 n] rfl rfl (by exact A.o) Uz Uy O Ut O ?_
              intro _ w8 i p t;obtain⟨_,_,rfl⟩:=zZ i;have d:=z.o.push (n:=n) ((D5 w.heap.size w).alloc Zr (.cells #[(n:Int)] 3)) (by rw[l.o];exact p) (by rw[l.o];exact t) i C.o;have D:=U (Dt d.2.1 d.2.2);obtain⟨⟨_,_,_,_,_,_,_,_,_,_⟩,_⟩:=zD d.1;have J:G.b<w8.heap.size:=zB d.1
              clear i p t d)
 go_end0
 exact⟨rfl,D.o⟩
theorem yU{G:Gm}{τ:Nat->Lb}{w:C7}{m:Vm}(g:MW G τ w m)(n:Int)(i:fS n)(f:m.v.length<=2000000000):
 C3 68 #[(G.b,0),(n:Int)] w (g5 G w ⟨m.s,m.v++[n],m.cs⟩ (.tuple #[])):=by
 obtain⟨vi,vv,pa,vo,a⟩:=g;refine(tG a n i f).mono ?_;rintro e w' ⟨rfl,⟨τ1,_,c⟩,d,_⟩;exact⟨rfl,⟨τ1,_,_,_,_,c⟩,d⟩
theorem OI{G:Gm}{τ:Nat->Lb}{w:C7}{m:Vm}(n:MW G τ w m)(k:m.s.stat=0):
 C3 64 #[(G.b,0)] w fun e w'=>match zk m.s with
  |.ok _ t=>g5 G w ⟨t,m.v,m.cs⟩ (.tuple #[]) e w'
  |.fin t=>yh G w none t e w':=by
 obtain⟨vi,vv,pa,vo,a⟩:=n;obtain⟨⟨g,j,out,d,c,_,l⟩,v,i⟩:=m;dsimp only at k;subst k;obtain⟨⟨_,_,_,_,_,_,_,_,_,_⟩,_⟩:=zD a.box;have q:=a.lt;have p:d+c<=1000000000:=a.lim;rcases c with _|c
 .have f:=C5 (gC G τ w ⟨⟨g,j,out,d,0,0,true⟩,v,i⟩ vi vv pa vo) ⟨a.hB,a.old,a.tab,a.pok,a.box,a.lab,a.inp,a.val,a.o,a.frs,a.db,a.arr,a.nv,a.ni,a.no,a.lim,a.kp⟩
  clear a;show Calls _ _ _ _ (fun e w'=>yh G w none ⟨g,j,out,d,0,0,true⟩ e w');go_enter func64,ntmps64;go_wp2;exact⟨rfl,rfl,⟨τ,v,i,_,_,_,_,f.o⟩,D5 _ _⟩
 .have f:=U (a.wu (m':=⟨⟨g,j,out,d,c,0,l⟩,v,i⟩) 9 (.int .i64 (c:Int)) (D4 a.box _) a.inp a.val a.o a.frs rfl a.nv a.ni a.no (by show d+c<=_;omega))
  have r:(((c+1 :Nat):Int) == 0)=false:=Ut
  have u:IntKind.i64.wrap (((c+1 :Nat):Int)-1)=(c:Int):=Xa
  clear a;show Calls _ _ _ _ (fun e w'=>g5 G w ⟨⟨g,j,out,d,c,0,l⟩,v,i⟩ (.tuple #[]) e w');go_enter func64,ntmps64;go_wp2_with fail
  go_end0
  exact⟨rfl,⟨τ,_,_,_,_,f.o.1⟩,f.o.2⟩
