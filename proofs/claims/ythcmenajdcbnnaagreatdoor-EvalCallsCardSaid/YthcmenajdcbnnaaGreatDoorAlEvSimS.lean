import Derived.Test.YthcmenajdcbnnaaGreatDoorAlEvOpr
set_option linter.unusedSimpArgs false
set_option linter.unusedVariables false
set_option maxRecDepth 100000
set_option maxHeartbeats 99000000
namespace Go.Proofs.YthcmenajdcbnnaaGreatDoor
open Go.RowKit Tryz
theorem Ip{p:Prop}(h:p:=by
 have E:=U a;have S:=U hE;have z:=U (hE.below (a.mono hE.hB));have T:=U (hE.below (a.drew.mono hE.hB));have y:=U ((a.block b s).trans hb);have R:=U ((a.drew.block b s).trans hb);have F:=U (k.below (a.mono hE.hB) Zr);have V:=U (k.below (a.drew.mono hE.hB) Zr);have C:=U hp;obtain⟨⟨_,_,_,_,_,_,_⟩,_⟩:=zR hb;clear hE hb hl hok hp u a c t l k;go_enter func100,ntmps100;go_wp2_with (go_at_call 119;(with_reducible refine(xG B b p tf _ _ _ _ _ _ _ _ _ fs ft n _ z.o y.o F.o A.o C.o D.o).mono ?_);rintro e _ ⟨rfl,J⟩);go_ret
 exact⟨rfl,E.o.trans (J.mono Uj)⟩):p:=h
theorem Iq{p:Prop}(h:p:=by
 have i:=U a;have m:=U hE;have n:=U (hE.below (a.mono hE.hB));have q:=U (hE.below (a.drew.mono hE.hB));have k:=U ((a.block b d).trans hb);have l:=U ((a.drew.block b d).trans hb);have s:=U hp;obtain⟨⟨_,_,_,_,_,_,_⟩,_⟩:=zR hb;clear hE hb hl hok hp e a;go_enter func100,ntmps100;cases ti
 all_goals
  go_wp2_with fail;go_ret
  exact⟨qK (by rw[<-g.o];rfl),i.o⟩):p:=h
theorem Ir{p:Prop}(h:p:=by
 show To p K _ (kC _ _ _ _ _ _ (0,0,_) l);unfold kC;rw[Dq rfl]
 exact To.one f):p:=h
variable{p:Pr}{f:Fu}{l:List Int}{K g a b c B:Nat}{v v0 v1:C5}{k ty:Int}{d:Bool}{w:C4}
theorem GD(t:St)(b d st a:Nat):(xF t b d st a)[0]?=some .beg:=by
 obtain⟨k,ty,td,tc,tg,th⟩:=t;rw[xF];split
 .rfl
 split
 .rfl
 split
 .rfl
 split
 .rfl
 .rfl
theorem GE(e:Ex)(b:Nat):(ya e b)[0]?=some .beg:=by
 obtain⟨k,op,n,td,tc⟩:=e;rw[ya];split<;>rfl
theorem SY{td:C3}(a:(qP p.funcs td).isSome=true):∃f,jU p td=some f:=by
 obtain⟨j,b⟩:=Option.isSome_iff_exists.1 a;cases hg:jU p td with
 |some g=>exact⟨g,rfl⟩
 |none=>
   exfalso;unfold jU at hg;rw[b]at hg
   have d:∀(l:List Fu) (k:Nat),qP l td=some k->k<l.length:=by
    intro l
    induction l with
    |nil=>intro k a;cases a
    |cons x r c=>
      intro k a;rw[qP]at a;split at a
      .injection a with a;subst a;exact Ce _
      .cases hr:qP r td with
       |none=>rw[hr]at a;cases a
       |some j=>rw[hr]at a;injection a with a;have a:j+1=k:=a;have:=c j hr;rw[D1];omega
   have:=d _ _ b;rw[show(some j).bind (fun k=>p.funcs[k]?)=p.funcs[j]? from rfl,List.getElem?_eq_none_iff]at hg;omega
theorem SZ(h:l.length=f.params.length):xk (fN f l)=f.params.map (·.name):=by
 unfold fN xk;exact List.map_fst_zip (by simp[h])
theorem S0:(fN f l).length<=l.length:=by
 unfold fN;rw[List.length_zip];exact Nat.min_le_right _ _
theorem GF(j:SW p)(w:GB p K g)(o:f∈p.funcs)(hl:l.length=f.params.length){t:RS}{v:List Int}{r:List Fr}(z:t.fuel<=g)(A:gQ p t)(u:Lm K t v (fN f l) []):
 Sm p K ⟨t,v,⟨gF f,0,fN f l,[]⟩::r⟩ (qG (qn p g) (fN f l) f.body t) (fun b c=>XQ v r b.2.1 c):=by
 obtain⟨q,s⟩:=j.r f o;have n:∀b c,qG (qn p g) (fN f l) f.body t=.ok b c->b.1=3:=fun b c e=>I9 s q (j.e f o) e
 unfold qG at n ⊢;refine(DG j.r w (lp:=⟨0,0,0,[]⟩) (d:=0) (m:=100) (ti:=false) (frm:=f.params.length) (ft:=f.type) f.body f.params (fN f l) 0 t 0 z A s q (SZ hl) (fun i x b=>by rw[Yz];exact b) u Uh (Dx _) (fun b=>Xu) (fun b=>Xu)).bind fun a c y k=>?_
 have B:a.1=3:=n (a.1,a.2.1,a.2.2.take (fN f l).length) c (by rw[y];rfl);unfold kC at k;rw[Dp O,Dp O,Dp O]at k;exact k
theorem S1{tf:List Pa}{vs:fG}{td:C3}(d:xk vs=tf.map (·.name))(b:kO p tf k td=true):¬((k=3/\jc vs td=none)\/(k=6/\zZ p.wa td=none)):=by
 rintro(⟨rfl,c⟩|⟨rfl,c⟩)
 .unfold kO at b
  have a:(zv tf td).isSome=true:=Up
  rw[<-rJ d,c]at a;cases a
 .unfold kO at b
  have a:(zZ p.wa td).isSome=true:=Up
  rw[c]at a;cases a
theorem N9(D:SW p)(hE:N8 p K g)(ak:GB p K g):N8 p K (g+1):=by
 intro x tf vs s m v tn b o r _ ar au hok J A E;have am:tn[b]?=some .beg:=A 0 _ (GE x b);obtain⟨k,op,n,td,tc⟩:=x;obtain⟨Q,P,_,aw⟩:=zAe au;have I:=ub aw;rw[kD,D2,D2,decide_eq_true_eq]at hok;rw[f0];have C:=yn (p:=p) (r:=r) E am;have ax:yE p .beg s v ⟨tn,b+1,vs,o⟩ r=match zj s with | .ok _ t=>.go ⟨t,v,⟨tn,b+1,vs,o⟩::r⟩ | .fin t=>.stop none t:=rfl
 rw[ax]at C;have X:=vy ar;cases hst:zj s with
 |fin t=>
   rw[hst]at C;exact To.one C
 |ok _ t=>
   rw[hst]at C X;have hp:=vA hst;have F:gQ p t:=X;have z:Lm K t v vs o:=E.mv hp.mv;have H:t.fuel<=g:=by have:=hp.fuel;omega
   refine Sm.one C ?_;show Sm p K _ (if k=5/\(op=18\/op=19)then(f0 p g vs (tc.getD 0 j8) t).bind _ else(i0 (f0 p g vs) tc t).bind _) _;rw[ya]at A;by_cases hb:k=5/\(op=18\/op=19)
   .rw[Dq hb]at A ⊢
    obtain⟨rfl,aq⟩:=hb;have ap:tc.length=2:=BH hok.1.2
    obtain⟨d,q,rfl⟩:∃d q,tc=[d,q]:=by
     match tc,ap with
     |[d,q],_=>exact⟨d,q,rfl⟩
    rw[xT,qN,qN,Yd]at A;rw[qr,qr,D2,D2]at hok;have af:([d,q]:List Ex).getD 0 j8=d:=rfl;have ag:([d,q]:List Ex).getD 1 j8=q:=rfl;rw[af,ag];have ad:=I d Uh;have az:=I q Uh;refine(hE d tf vs t (m-1) v tn (b+1) o r H F ad hok.2.1 J A.tail.left z).bind fun a j al M=>?_
    have u:=qw p g vs d t;have B:=(jW p D.r g).1 tf vs d t H F ad;rw[al]at u B;have ab:=(A.tail.right (c:=b+1+zy d) (by rw[xu]))
    have i:=yn (p:=p) (r:=r) (z.push u.1 u.2.1 a) ab.head
    have S:yE p (.lzy (decide (op=18)) (b+1+zy d+1+zH [q])) j (v++[a]) ⟨tn,b+1+zy d+1,vs,o⟩ r=if decide (a=0)=decide (op=18)then .go ⟨j,v++[a],⟨tn,b+1+zy d+1+zH [q],vs,o⟩::r⟩else .go ⟨j,v,⟨tn,b+1+zy d+1,vs,o⟩::r⟩:=by
     show(match (v++[a]).getLast? with|none=>VR.bad|some n=>_)=_;rw[jQ];dsimp only;rw[jB]
    rw[S]at i;have R:b+1+zy d+1+zH [q]=b+zy (.mk 5 op n td [d,q]):=by simp only[zy,zH];omega
    have Y:(decide (a≠0)=decide (op=19))↔(decide (a=0)=decide (op=18)):=by
     rcases aq with rfl|rfl<;>by_cases ah:a=0<;>simp[ah]
    by_cases L:decide (a=0)=decide (op=18)
    .rw[Dq (Y.2 L)]
     rw[Dq L,R]at i;exact To.go M (To.one i)
    .rw[Dp (fun y=>L (Y.1 y))]
     rw[Dp L]at i;refine Sm.go (To.go M (To.one i)) ((hE q tf vs j (m-1) v tn (b+1+zy d+1) o r (by have:=u.2.1;omega) B az hok.2.2.1 J ab.tail (z.mv u.1)).imp fun c w _=>?_);rw[show b+1+zy d+1+zy q=b+zy (.mk 5 op n td [d,q])by simp only[zy,zH];omega]
   .rw[Dp hb]at A ⊢
    refine(ZT D.r hE J tc t v (b+1) H F I hok.2 A.tail.left z).bind fun l j hl M=>?_
    have Z:=K1 hl;have aC:=GA (fun e s=>qw p g vs e s) hl;have u:=mE (fun e s=>(qw p g vs e s).le (Dx _)) tc t;have B:=sK (p:=p) (g:=g) (fun x s=>(qw p g vs x s).le (Dx _)) tc t H F fun ae ay s W ai=>(jW p D.r g).1 tf vs ae s W ai (I ae ay)
    rw[hl]at u B;have B:gQ p j:=B;have aj:Lm K j (v++l) vs o:=⟨by have:=z.v;rw[Dr];omega,(z.mv u.1).c,(z.mv u.1).vs,E.o⟩
    have ao:=(A.tail.right (c:=b+1+zH tc) (by rw[jG])).head;have i:=yn (p:=p) (r:=r) aj ao;obtain⟨T,V⟩:=SV v l;rw[Z]at T V;have R:b+1+zH tc+1=b+zy (.mk k op n td tc):=by rw[zy];omega
    have S:yE p (.app (.mk k op n td tc)) j (v++l) ⟨tn,b+1+zH tc+1,vs,o⟩ r=pQ p k op n td tc.length j (v++l) ⟨tn,b+1+zH tc+1,vs,o⟩ r:=rfl;rw[S]at i;unfold pQ at i;rw[Dp (fun y=>y.elim (fun y=>by rw[Dr]at y;omega) (fun y=>by rw[hok.1.2]at y;cases y)),T,V,R]at i;refine Sm.go M ?_;by_cases N:k=7
    .subst N
     rw[Dq rfl]at i;obtain⟨f,G⟩:=SY (p:=p) (td:=td) (by unfold kO at Q;simpa using Q)
     have aa:f.params.length=tc.length:=by
      unfold xS at P;rw[Dq rfl,G]at P;exact(of_decide_eq_true P).symm
     rw[G]at i;dsimp only at i;rw[Dq aa]at i
     have an:(zV j).cost+(zV j).fuel<=K:=by
      have aA:=hp.pay;have aB:=u.1.pay;have W:=E.c;show j.cost+1+j.fuel<=K;omega
     refine Sm.one i ?_;rw[s3 _ _ _ _ _ _ _ _ G];refine(GF D ak (hY G) (Z.trans aa.symm) (t:=zV j) (v:=v) (r:=⟨tn,b+zy (.mk 7 op n td tc),vs,o⟩::r) (by show j.fuel<=g;omega) B.pay ⟨by have:=z.v;show v.length+j.fuel<=K;omega,an,?_,Uh⟩).bind fun y w _ av=>av
     have:=S0 (f:=f) (l:=l);have:=z.v;show(fN f l).length+j.fuel<=K;omega
    .rw[Dp N,Dp (S1 J Q)]at i
     rw[JA p _ (fun _ _ s=>.fin s) vs op n td l j N];cases he:qR p (fun _ _ s=>.fin s) vs k op n td l j with
     |ok a w=>rw[he]at i;exact To.one i
     |fin w=>rw[he]at i;exact To.one i
theorem j1{td:C3}(h:zn k ty td a b c d=true)(_:k≠3/\k≠6/\k≠7):a=1:=by
 unfold zn at h;split at h
 .simp at h;omega
 split at h
 .simp at h;omega
 split at h
 .omega
 split at h
 .simp at h;omega
 split at h
 .simp at h;omega
 split at h
 .omega
 split at h
 .simp at h;omega
 split at h
 .simp at h;omega
 .cases h
theorem BJ{td:C3}(h:zn 3 ty td a b c d=true):a=2:=by
 unfold zn at h;rw[Dp Uf,Dp Uf,Dq rfl]at h;simp at h;omega
theorem zan{td:C3}(e:zn k ty td a b c d=true)(f:k=1\/k=2\/k=3):us td=true:=by
 unfold zn at e;rcases f with rfl|rfl|rfl<;>simp at e<;>simp[e]
theorem Sm.jmp{m:Vm}{x:fS xy}{lp:Lp}{tn:List fP}{j e:Nat}{o:List Nat}{v:List Int}{r:List Fr}(b:Sm p K m x (kC lp tn j o v r))(f:tn[j]?=some (.jmp e))(d:∀a t,x=.ok a t->Lm K t v a.2.2 o):Sm p K m x (kC lp tn e o v r):=by
 cases x with
 |fin t=>exact b
 |ok a t=>
   have b:To p K m (kC lp tn j o v r a t):=b;show To p K m (kC lp tn e o v r a t);unfold kC at b ⊢;by_cases c:a.1=0
   .rw[Dq c]at b ⊢
    refine To.go b (To.one ?_);rw[yn (d a t rfl) f];rfl
   .rw[Dp c]at b ⊢
    exact b
theorem OA(ab:SW p)(hE:N8 p K g)(ag:GB p K g):GB p K (g+1):=by
 intro st ft tf vs frm ti n s m v tn b o r d lp _ a3 hok aV E i af an aE ak;have aU:tn[b]?=some .beg:=i 0 _ (GD st b d lp.st lp.br);obtain⟨k,ty,td,tc,tg,th⟩:=st;obtain⟨F,⟨n1,J⟩,n2,hl⟩:=tK aV;rw[jp]at hok;simp only[D2,decide_eq_true_eq]at hok;have bb:=CX hok.1.1.1.2;have al:=hok.1.1.1.1;rw[qn];have W:=yn (p:=p) (r:=r) af aU;have a7:yE p .beg s v ⟨tn,b+1,vs,o⟩ r=match zj s with | .ok _ t=>.go ⟨t,v,⟨tn,b+1,vs,o⟩::r⟩ | .fin t=>.stop none t:=rfl
 rw[a7]at W;have az:=vy a3;cases hst:zj s with
 |fin t=>
   rw[hst]at W;exact To.one W
 |ok _ t=>
   rw[hst]at W az;have hp:=vA hst;have ah:gQ p t:=az;have B:Lm K t v vs o:=af.mv hp.mv;have ai:t.fuel<=g:=by have:=hp.fuel;omega
   refine Sm.one W ?_;show Sm p K _ (if k=5 then _ else if k=6 then _ else if k=7 then _ else _) _;have a1:tf.length=vs.length:=by have:=congrArg List.length E;simp[xk]at this;omega
   have aF:k≠1->jf k ty td tf=tf:=fun y=>by unfold jf;rw[Dp y]
   by_cases N:k=5
   .subst N
    obtain⟨e,rfl⟩:∃e,tc=[e]:=by
     have:=j1 hok.1.1.1.2 Uf
     match tc,this with
     |[e],_=>exact⟨e,rfl⟩
    rw[Dq rfl];have Q:=i4 F Uf Uf Uf;rw[xF,Dp Uf,Dq rfl]at i;rw[xc,Dp Uf,Dq rfl];rw[aF Uf]at J;rw[show(ti || decide ((5 :Int)=5))=true by simp]at J;rw[qr,D2]at hok
    have ap:wS tn (b+1) (ya e (b+1)):=by
     have:=i.tail.left;rw[qN,qN,Yd]at this;exact this
    have S:zH [e]=zy e:=by rw[zH,zH];rfl
    rw[S]at i ⊢;have V:=i.tail.right (c:=b+1+zy e) (by rw[jG,S]);have I:=V.tail
    have aH:=ZU (lp:=lp) ab.r hE ag (tf:=tf) (e:=e) (tg:=tg) (tn:=tn) (st:=b+1) (c:=b+1+zy e) (j:=b+zy e+2+qZ tg 0) (o:=o) (r:=r) (v:=v) (m:=m) (frm:=tf.length) (ft:=ft) Q.1 hok.1.1.2.1 ap rfl
     (by rw[show b+zy e+2+qZ tg 0+1=b+zy e+3+lB tg (fJ tg) 0 by unfold qZ;omega];exact V.head)
     (by rw[show b+zy e+2+qZ tg 0+1=b+zy e+3+lB tg (fJ tg) 0 by unfold qZ;omega,show b+1+zy e+1=b+zy e+2 by omega];have P:=I.left;rw[show b+1+zy e+1=b+zy e+2 by omega]at P;exact P) O
     ((I.right (c:=b+zy e+2+qZ tg 0) Gt).head) hok.1.2 J al an a1 (t.fuel+1) vs t (Nat.lt_succ_self _) ai ah E B
    rw[show b+zy e+2+qZ tg 0+1=b+(zy e+3+lB tg (fJ tg) 0)by unfold qZ;omega]at aH;exact aH
   rw[Dp N];by_cases ax:k=6\/k=7
   .have a0:=tL F ax
    subst a0;obtain⟨⟨q,au,a8,a9,q4,ba⟩⟩:=ak rfl
    have aL:∀z,wS tn b (fP.beg::(List.replicate d fP.lve++[fP.jmp z]))->To p K ⟨t,v,⟨tn,b+1,vs,o⟩::r⟩ (.go ⟨t,v,⟨tn,z,vs.take lp.n,lp.o⟩::r⟩):=fun z aJ=>by
     have Z:=tN (p:=p) (K:=K) (s:=t) (v:=v) (r:=r) (lo:=lp.o) (n:=lp.n) d q vs (b+1) aJ.tail.left (au▸B) a8 a9 (fun y=>Dv (q4 y)) ba;rw[<-au]at Z;have aQ:Lm K t v (vs.take lp.n) lp.o:=⟨B.v,B.c,by have:=B.vs;rw[Yg];omega,by have:=B.o;rw[au,Dr]at this;omega⟩
     refine To.go Z (To.one ?_);rw[yn aQ ((aJ.tail.right (c:=b+1+d) (by rw[Cg])).head)];rfl
    by_cases aN:k=6
    .subst aN
     rw[Dq rfl];rw[xF,Dp Uf,Dp Uf,Dq rfl]at i;show To p K _ (kC _ _ _ _ _ _ (1,0,vs) t);unfold kC;rw[Dp (show ¬(1 :Int)=0 by decide),Dq rfl];exact aL _ i
    .have aO:k=7:=by omega
     subst aO;rw[Dp Uf,Dq rfl];rw[xF,Dp Uf,Dp Uf,Dp Uf,Dq rfl]at i;show To p K _ (kC _ _ _ _ _ _ (2,0,vs) t);unfold kC;rw[Dp (show ¬(2 :Int)=0 by decide),Dp (show ¬(2 :Int)=1 by decide),Dq rfl];exact aL _ i
   rw[Dp O,Dp O];have Q:=i4 F O O O
   have aT:∃e q,tc=e::q:=by
    cases tc with
    |nil=>
      have P:zn k ty td 0 tg.length th.length (P6 [])=true:=hok.1.1.1.2;by_cases C:k=3
      .subst C;have:=BJ P;omega
      .have:=j1 P ⟨C,O,O⟩;omega
    |cons e q=>exact⟨e,q,rfl⟩
   obtain⟨e,q,rfl⟩:=aT;have ay:(qE p tf e).2=0:=Q.1;rw[qr,D2]at hok
   have aq:wS tn (b+1) (qN (e::q) (b+1)):=by
    by_cases D:k=4
    .rw[xF,Dq D]at i
     exact i.tail.left
    .rw[xF,Dp D,Dp N,Dp O,Dp O]at i
     exact i.tail.left
   show Sm p K _ ((f0 p g vs e t).bind _) _;rw[qN]at aq;refine(hE e tf vs t 100 v tn (b+1) o r ai ah ay hok.1.1.2.1 E aq.left B).bind fun a l aS T=>?_
   have M:=qw p g vs e t;have H:=(jW p ab.r g).1 tf vs e t ai ah ay;rw[aS]at M H;have H:gQ p l:=H;have R:=B.mv M.1;have ad:=B.push M.1 M.2.1 a;have aj:l.fuel<=g:=by have:=M.2.1;omega
   have am:k=1\/k=2\/k=3->¬(k<=3/\us td=false):=fun y aa=>by rw[zan hok.1.1.1.2 y]at aa;cases aa.2
   by_cases D:k=4
   .subst D
    have ao:q=[]:=by have:=j1 hok.1.1.1.2 Uf;exact Yq Gc
    subst ao;rw[Dp Uf,Dp Uf,Dp Uf,Dq rfl];rw[xF,Dq rfl]at i;rw[xc,Dq rfl];rw[aF Uf]at J hl;rw[show(ti || decide ((4 :Int)=5))=ti by simp]at J;have S:zH [e]=zy e:=by rw[zH,zH];rfl
    rw[S]at i ⊢;have V:=i.tail.right (c:=b+1+zy e) (by rw[jG,S]);have aG:=yn (p:=p) (r:=r) ad V.head
    have X:yE p (.unl (b+zy e+3+lB tg (fJ tg) d)) l (v++[a]) ⟨tn,b+1+zy e+1,vs,o⟩ r=.go ⟨l,v,⟨tn,if a=0 then b+zy e+3+lB tg (fJ tg) d else b+zy e+2,vs,o⟩::r⟩:=by
     show(match (v++[a]).getLast? with|none=>VR.bad|some n=>_)=_;rw[jQ];dsimp only;rw[jB];by_cases A:a=0
     .rw[Dq A,Dq A]
     .rw[Dp A,Dp A,show b+1+zy e+1=b+zy e+2 by omega]
    rw[X]at aG;have T:=To.go T (To.one aG);have I:=V.tail;rw[show b+1+zy e+1=b+zy e+2 by omega]at I;have aC:=I.right (c:=b+zy e+2+qZ tg d) Gt;refine Sm.go T ?_;by_cases A:a=0
    .rw[Dq A,Dp Gh]
     refine(SX ab.r ag (ft:=ft) (lp:=lp) (m:=m) (ti:=ti) (d:=d) (frm:=tf.length) th tf vs n2 l (b+zy e+3+lB tg (fJ tg) d) aj H hok.2 hl E ?_ R al an aE ak).imp fun y w _=>?_
     .have:=aC.tail
      rw[show b+zy e+2+qZ tg d+1=b+zy e+3+lB tg (fJ tg) d by unfold qZ;omega]at this;exact this
     .rw[show b+zy e+3+lB tg (fJ tg) d+qZ th d=b+(zy e+3+lB tg (fJ tg) d+lB th (fJ th) d)by unfold qZ;omega]
    .rw[Dp A,Dq Gh]
     have aP:=SX ab.r ag (ft:=ft) (lp:=lp) (m:=m) (ti:=ti) (d:=d) (frm:=tf.length) (r:=r) tg tf vs n1 l (b+zy e+2) aj H hok.1.2 J E I.left R al an aE ak;have aD:=aC.head;rw[show b+zy e+3+lB tg (fJ tg) d+lB th (fJ th) d=b+(zy e+3+lB tg (fJ tg) d+lB th (fJ th) d)by omega]at aD;refine aP.jmp aD fun y w aX=>?_
     have Y:=xh (fun vs t s=>(ku p g vs t s).le (Dx _)) vs tg l
     have aw:=mV (fun vs t s=>by
      obtain⟨k,ty,td,tc,tg,th⟩:=t
      exact⟨_,iE p g vs k ty td tc tg th s⟩) vs tg l
     rw[aX]at Y aw;have bc:y.2.2.length=vs.length:=zAj aw;exact⟨(R.mv Y.1).v,(R.mv Y.1).c,by have:=(R.mv Y.1).vs;omega,af.o⟩
   rw[xF,Dp D,Dp N,Dp O,Dp O]at i;have aZ:xc (.mk k ty td (e::q) tg th) d=zH (e::q)+2:=by rw[xc,Dp D,Dp N,Dp ax]
   rw[aZ];have ae:=(i.tail.right (c:=b+1+zH (e::q)) (by rw[jG])).head;rw[show b+(zH (e::q)+2)=b+1+zH (e::q)+1 by omega];by_cases C:k=3
   .subst C
    have aa:q.length=1:=by have:=BJ hok.1.1.1.2;simpa using this
    obtain⟨u,rfl⟩:∃u,q=[u]:=by
     match q,aa with
     |[u],_=>exact⟨u,rfl⟩
    rw[Dp Uf,Dp Uf,Dq rfl];have aI:=aq.right (c:=b+1+zy e) (by rw[xu]);rw[qN,qN,Yd]at aI;have a4:(qE p tf u).2=0:=Q.2.1 rfl
    have a2:xx u 100=true:=by
     have:=hok.1.1.2.2;rw[qr,D2]at this;exact this.1
    refine Sm.go T ?_;show Sm p K _ ((f0 p g vs u l).bind _) _;refine(hE u tf vs l 100 (v++[a]) tn (b+1+zy e) o r aj H a4 a2 E aI ad).bind fun x w ap a5=>?_
    have av:=qw p g vs u l;rw[ap]at av;have aR:=ad.push av.1 av.2.1 x;refine Sm.go a5 ?_;rw[show b+1+zH [e,u]=b+1+zy e+zy u by simp only[zH];omega]at ae ⊢;have f:=yn (p:=p) (r:=r) aR ae
    have aB:(zZ p.wa td).isSome=true:=by
     unfold jH at F;rw[Dp Uf,Dp Uf,Dq rfl]at F;by_cases aA:(zZ p.wa td).isSome=true
     .exact aA
     .rw[Dp aA]at F;exact absurd F Uf
    have aY:zZ p.wa td≠none:=fun y=>by rw[y]at aB;cases aB
    have X:yE p (.fin (.mk 3 ty td [e,u] tg th)) w (v++[a]++[x]) ⟨tn,b+1+zy e+zy u+1,vs,o⟩ r=match y7 p td a x (zV w)with | .ok _ t=>.go ⟨t,v,⟨tn,b+1+zy e+zy u+1,vs,o⟩::r⟩ | .fin t=>.stop none t:=by
     show lG p 3 td w (v++[a]++[x]) _ r=_;unfold lG;rw[jQ];dsimp only;rw[Dp (am (.inr (.inr rfl))),Dp Uf,Dp Uf,Dq rfl,jB,jQ];dsimp only;rw[Dp aY,jB];cases y7 p td a x (zV w)<;>rfl
    rw[X]at f;cases hput:y7 p td a x (zV w)with
    |fin aM=>rw[hput]at f;exact To.one f
    |ok _ aM=>
      rw[hput]at f;show To p K _ (kC _ _ _ _ _ _ (0,0,vs) aM);unfold kC;rw[Dq rfl];exact To.one f
   have Z:(e::q).length=1:=j1 hok.1.1.1.2 ⟨C,O,O⟩;have ao:q=[]:=Yq (by simpa using Z);subst ao;refine Sm.go T ?_;rw[show b+1+zH [e]=b+1+zy e by rw[zH,zH];rfl]at ae ⊢;have f:=yn (p:=p) (r:=r) ad ae;have X:yE p (.fin (.mk k ty td [e] tg th)) l (v++[a]) ⟨tn,b+1+zy e+1,vs,o⟩ r=lG p k td l (v++[a]) ⟨tn,b+1+zy e+1,vs,o⟩ r:=rfl;rw[X]at f;unfold lG at f;rw[jQ]at f;dsimp only at f;rw[jB]at f;by_cases G:k=1
   .rw[Dp (am (.inl G)),Dq G]at f
    rw[Dq G];exact Ir
   by_cases L:k=2
   .obtain⟨_,a6⟩:=Q.2.2 L
    have aW:jc vs td≠none:=fun y=>by
     have:=rJ E td;rw[y,a6]at this;cases this
    rw[Dp (am (.inr (.inl L))),Dp G,Dq L,Dp aW]at f;rw[Dp G,Dq L];exact Ir
   rw[Dp O,Dp G,Dp L,Dp C]at f;rw[Dp G,Dp L,Dp C,Dp D];by_cases ar:k=8
   .rw[Dq ar]at f ⊢
    show To p K _ (kC _ _ _ _ _ _ (3,a,_) l);unfold kC;rw[Dp (by show ¬(3 :Int)=0;decide),Dp (by show ¬(3 :Int)=1;decide),Dp (by show ¬(3 :Int)=2;decide)];exact To.one f
   by_cases aK:k=9
   .rw[Dp ar,Dq aK]at f ⊢
    show To p K _ (kC _ _ _ _ _ _ (0,0,_) _);unfold kC;rw[Dq rfl];exact To.one f
   .rw[Dp ar,Dp aK]at f ⊢
    rw[Dq O]at f;exact Ir
theorem LD(a:SW p)(K:Nat):∀g,N8 p K g/\GB p K g
 | 0=>⟨fun x tf vs s m v tn b o r k l _ _ _ f c=>by
    rw[f0];have e:s.fuel=0:=O
    have i:=yn (p:=p) (r:=r) c (f 0 _ (GE x b));refine To.one (i.trans ?_);show(match zj s with | .ok _ t=>VR.go _ | .fin t=>.stop none t)=_;unfold zj;rw[e],fun st ft tf vs frm ti n s m v tn b o r d lp k l _ _ _ f c _ _ _=>by
    rw[qn];have e:s.fuel=0:=O
    have i:=yn (p:=p) (r:=r) c (f 0 _ (GD st b d lp.st lp.br));refine To.one (i.trans ?_);show(match zj s with | .ok _ t=>VR.go _ | .fin t=>.stop none t)=_;unfold zj
    rw[e]⟩
 | g+1=>by
   obtain⟨hE,j⟩:=LD a K g;exact⟨N9 a hE j,OA a hE j⟩
abbrev lS(v0 v1:C5)(s:C3)(t:Int)(v2 v3:C5)(n:Int):Obj:=.cells #[v0,v1,s,(t:Int),v2,v3,(n:Int)] 126
theorem zR{b c d e c4 c5 f:C5}{T:TypeId}(a:w.heap[g]?=some (.cells #[b,c,d,e,c4,c5,f] T (0,0))):(w.cell? (g,0)=some b/\w.cell? (g,1)=some c/\w.cell? (g,2)=some d/\w.cell? (g,3)=some e/\w.cell? (g,4)=some c4/\w.cell? (g,5)=some c5/\w.cell? (g,6)=some f)/\∀o,w.frozen? ⟨g,o,none⟩=false:=
 ⟨⟨(Du a 0).trans rfl,(Du a 1).trans rfl,(Du a 2).trans rfl,(Du a 3).trans rfl,(Du a 4).trans rfl,(Du a 5).trans rfl,(Du a 6).trans rfl⟩,fun o=>Kn⟩
theorem xG(B b:Nat)(p:Pr)(tf:List Pa)(e:Ex)(t r:Int)(x v0 v1 v v2 v3:C5)(fs:C3)(ft n:Int)(w:C4)(hE:g3 B p tf v0 v1 v w)(hb:w.heap[b]?=some (lS v0 v1 fs ft v2 v3 n))(V:k1 B w e x)(hok:xx e 100=true)(hp:mH p)(A:jP p tf e t=r):
 Cz 119 #[(b,0),v,x,(t:Int)] w (Cw (r:Int) w):=by
 obtain⟨D,N,E,P,_,_,rfl,rfl,rfl⟩:=hE.form;obtain⟨c,g,d,i,a⟩:=e;obtain⟨_,rfl,s,k⟩:=V;dsimp only[Ex.kind,Ex.op,Ex.n,Ex.name,Ex.args]at k s ⊢;obtain⟨A5,c5,rfl,_⟩:=k.form;have Q:=zB hb;obtain⟨⟨_,_,_,_,_,_,_⟩,_⟩:=zR hb;obtain⟨⟨ty,f⟩,u⟩:=C0 (qE p tf (.mk c g d i a));have C:(if f=0 then(if ty=t then 0 else 51)else f)=r:=by rw[<-A];unfold jP;rw[u]
 have l:Cy w (w.alloc (jM c g d i A5 a.length c5)).drew:=(Zb.alloc Zr _).drew;have J:=U l;have F:=U (hE.below (l.mono hE.hB));have M:=C2 (k1 B (w.alloc (jM c g d i A5 a.length c5)).drew (.mk c g d i a) (.agg #[(c:Int),(g:Int),(d:Int),i,(A5,a.length,c5)])) ⟨_,rfl,s,k.below (l.mono hE.hB) Zr⟩;have I:=U u;have L:=U C;have G:=U hok;have H:=U hp;have T:f=0/\ty=t\/f=0/\ty≠t\/f≠0:=O
 clear hE hb k hok hp A u C l s;rcases T with⟨j,z⟩|⟨j,z⟩|j
 all_goals
  first
   |(subst j;subst z)
   |(subst j)
   |skip
  go_enter func119,ntmps119;go_wp2_with fail
  go_region_held3 (fun w'=>w'.cell? (b,0)=some (.slice D p.wa.length N)/\w'.cell? (b,1)=some (.slice E p.funcs.length P)/\w'.cell? (w.heap.size,0)=some (.int .i64 c)/\w'.cell? (w.heap.size,1)=some (.int .i64 g)/\w'.cell? (w.heap.size,2)=some (.int .i64 d)/\w'.cell? (w.heap.size,3)=some (.string i)/\w'.cell? (w.heap.size,4)=some (.slice A5 a.length c5))
   (first
     |(go_split_ands;refine⟨?_,?_,?_,?_,?_,?_,?_⟩ <;>(first|(rw[S];assumption)|(rw[R];simp;done)))
     |go_keep)
   (first
     | (go_at_call 120
        (refine((oQ 100).call (w:=(w.alloc (jM c g d i A5 a.length c5)).drew) G.o H.o I.o F.o M.o).mono ?_)
        rintro e y ⟨rfl,m⟩;have q:Cy w y:=J.o.trans (m.mono Uq);have S:∀o,y.cell? ⟨b,o,none⟩=w.cell? ⟨b,o,none⟩:=fun o=>q.cell (p:=⟨b,o,none⟩) Q
        have R:∀o,y.cell? ⟨w.heap.size,o,none⟩=(w.alloc (jM c g d i A5 a.length c5)).cell? ⟨w.heap.size,o,none⟩:=fun o=>m.cell (p:=⟨w.heap.size,o,none⟩) Uw
        have K:=U q
        clear m q))
  go_wp2_with fail
  all_goals go_ret
  all_goals refine⟨qK ?_,K.o⟩
  all_goals
   have W:=L.o
   simp_all
theorem GG{α:Type}{b:Nat}{F:α->Nat->Nat->Prop}:∀(k:Nat) (l:List α) (g o:Nat),uv b F l g o->uv b F (l.drop k) g (o+k*b)
 |0,l,g,o,h=>Xs
 |k+1,[],g,o,h=>trivial
 | k+1,a::r,g,o,h=>by
   have:=GG k r g (o+b) h.2;rw[List.drop_succ_cons,show o+(k+1)*b=o+b+k*b by rw[Nat.add_mul,Nat.one_mul];omega];exact this
theorem GH(g o k:Nat):(⟨g,o,none⟩:Addr).add k=⟨g,o+k,none⟩:=Je
theorem gU.dropS{a:Option Addr}{l:List Pa}(b:gU B w (.slice a l.length c) l)(k:Nat)(_:k<=l.length):gU B w (.slice (if c=k then a else Option.map (fun x=>x.add (k*2)) a) (l.length-k) (c-k)) (l.drop k):=by
 have f:=b.2 a l.length c rfl;refine⟨⟨_,c-k,by rw[Ys],?_,fun hp=>?_⟩,fun _ _ _ e=>Kk⟩
 .obtain⟨_,_,_,_⟩:=b.form
  rw[Ys];omega
 .rw[Ys]at hp
  obtain⟨g,o,rfl,d⟩:=vh.elem b.1 rfl O;refine⟨g,o+k*2,?_,GG k l g o d⟩;rw[Dp O,Option.map_some,GH]
theorem GI{α:Type}{b:Nat}{F:α->Nat->Nat->Prop}:∀(k:Nat) (l:List α) (g o:Nat),uv b F l g o->uv b F (l.take k) g o
 |0,l,g,o,h=>trivial
 |k+1,[],g,o,h=>trivial
 |k+1,a::r,g,o,h=>⟨h.1,GI k r g (o+b) h.2⟩
set_option linter.unusedSectionVars false
section
variable (B b:Nat)(p:Pr)(tf:List Pa)(ty:Int)(td:C3)(tc:List Ex)(frm:Nat)(ti:Bool)(A4:Option Addr)(n4 c4:Nat)(A5:Option Addr)(n5 c5:Nat)(r:Int)(v3 v0 v1 v v2 vb:C5)(fs:C3)(ft n:Int)(w:C4)
variable (hE:g3 B p tf v0 v1 v w)(hb:w.heap[b]?=some (lS v0 v1 fs ft v2 vb n))(hl:kW B w v3 tc)(hok:zx tc 100=true)(hp:mH p)(hfr:frm<=tf.length)
include hE hb hl hok hp hfr in
theorem XX(H:tc.length=1)(u:jH p ft 4 ty td tc tf frm ti=r):Cz 100 #[(b,0),oF 4 ty td v3 (.slice A4 n4 c4) (.slice A5 n5 c5),v,((frm:Int):Int),.bool ti] w (Cw (r:Int) w):=by
 have X:0<tc.length:=O
 obtain⟨⟨f,i,g,j,d⟩,c⟩:∃e,tc[0]?=some e:=⟨_,Dz O⟩
 have t:tc.getD 0 j8=.mk f i g j d:=by
  rw[Yl,c];rfl
 have A:=U (qb hok c);have D:=U (show jP p tf (.mk f i g j d) 2=r by rw[<-u,jH];rw[Dp Uf,Dp Uf,Dp Uf,Dq Uf,t]);clear H;obtain⟨_,_,_,_,_,_,rfl,rfl,rfl⟩:=hE.form;obtain⟨_,G,rfl,_⟩:=hl.form;obtain⟨q,m,_,I,_,L,M,N,P,Q,l⟩:=hl.cells c;subst I;rw[show m+0*5=m by omega]at L M N P Q;obtain⟨x,K,rfl,_⟩:=l.form;have k:k1 B w (.mk f i g j d) (.agg #[(f:Int),(i:Int),(g:Int),j,(x,d.length,K)]):=⟨_,rfl,hl.range c,l⟩
 have W:q<w.heap.size:=Xj
 have s:=zB hb;have a:Cy w (w.alloc (qh 4 ty td (.slice (some ⟨q,m,none⟩) tc.length G) (.slice A4 n4 c4) (.slice A5 n5 c5))):=Zb.alloc Zr _;exact Ip
include hE hb hl hok hp hfr in
theorem JB(H:tc.length=1)(u:jH p ft 5 ty td tc tf frm ti=r):Cz 100 #[(b,0),oF 5 ty td v3 (.slice A4 n4 c4) (.slice A5 n5 c5),v,((frm:Int):Int),.bool ti] w (Cw (r:Int) w):=by
 have X:0<tc.length:=O
 obtain⟨⟨f,i,g,j,d⟩,c⟩:∃e,tc[0]?=some e:=⟨_,Dz O⟩
 have t:tc.getD 0 j8=.mk f i g j d:=by
  rw[Yl,c];rfl
 have A:=U (qb hok c);have D:=U (show jP p tf (.mk f i g j d) 2=r by rw[<-u,jH];rw[Dp Uf,Dp Uf,Dp Uf,Dq Uf,t]);clear H;obtain⟨_,_,_,_,_,_,rfl,rfl,rfl⟩:=hE.form;obtain⟨_,G,rfl,_⟩:=hl.form;obtain⟨q,m,_,I,_,L,M,N,P,Q,l⟩:=hl.cells c;subst I;rw[show m+0*5=m by omega]at L M N P Q;obtain⟨x,K,rfl,_⟩:=l.form;have k:k1 B w (.mk f i g j d) (.agg #[(f:Int),(i:Int),(g:Int),j,(x,d.length,K)]):=⟨_,rfl,hl.range c,l⟩
 have W:q<w.heap.size:=Xj
 have s:=zB hb;have a:Cy w (w.alloc (qh 5 ty td (.slice (some ⟨q,m,none⟩) tc.length G) (.slice A4 n4 c4) (.slice A5 n5 c5))):=Zb.alloc Zr _;exact Ip
include hE hb hl hok hp hfr in
theorem JC(H:tc.length=1)(u:jH p ft 9 ty td tc tf frm ti=r):Cz 100 #[(b,0),oF 9 ty td v3 (.slice A4 n4 c4) (.slice A5 n5 c5),v,((frm:Int):Int),.bool ti] w (Cw (r:Int) w):=by
 have X:0<tc.length:=O
 obtain⟨⟨f,i,g,j,d⟩,c⟩:∃e,tc[0]?=some e:=⟨_,Dz O⟩
 have t:tc.getD 0 j8=.mk f i g j d:=by
  rw[Yl,c];rfl
 have A:=U (qb hok c);have D:=U (show jP p tf (.mk f i g j d) 1=r by rw[<-u,jH];rw[Dp Uf,Dp Uf,Dp Uf,Dp Uf,Dp Uf,Dq Uf,t]);clear H;obtain⟨_,_,_,_,_,_,rfl,rfl,rfl⟩:=hE.form;obtain⟨_,G,rfl,_⟩:=hl.form;obtain⟨q,m,_,I,_,L,M,N,P,Q,l⟩:=hl.cells c;subst I;rw[show m+0*5=m by omega]at L M N P Q;obtain⟨x,K,rfl,_⟩:=l.form;have k:k1 B w (.mk f i g j d) (.agg #[(f:Int),(i:Int),(g:Int),j,(x,d.length,K)]):=⟨_,rfl,hl.range c,l⟩
 have W:q<w.heap.size:=Xj
 have s:=zB hb;have a:Cy w (w.alloc (qh 9 ty td (.slice (some ⟨q,m,none⟩) tc.length G) (.slice A4 n4 c4) (.slice A5 n5 c5))):=Zb.alloc Zr _;exact Ip
include hE hb hl hok hp hfr in
theorem GJ(N:tc.length=1)(D:jH p ft 8 ty td tc tf frm ti=r):Cz 100 #[(b,0),oF 8 ty td v3 (.slice A4 n4 c4) (.slice A5 n5 c5),v,((frm:Int):Int),.bool ti] w (Cw (r:Int) w):=by
 have af:0<tc.length:=O
 obtain⟨⟨i,k,j,l,f⟩,g⟩:∃e,tc[0]?=some e:=⟨_,Dz O⟩
 have C:tc.getD 0 j8=.mk i k j l f:=by
  rw[Yl,g];rfl
 have H:=U (qb hok g);have J:=U (show jP p tf (.mk i k j l f) ft=r by rw[<-D,jH];rw[Dp Uf,Dp Uf,Dp Uf,Dp Uf,Dq Uf,C]);clear N;obtain⟨_,_,_,_,_,_,rfl,rfl,rfl⟩:=hE.form;obtain⟨_,m,rfl,_⟩:=hl.form;obtain⟨a,c,_,P,_,V,W,X,Y,Z,z⟩:=hl.cells g;subst P;rw[show c+0*5=c by omega]at V W X Y Z;obtain⟨A,E,rfl,_⟩:=z.form;have t:k1 B w (.mk i k j l f) (.agg #[(i:Int),(k:Int),(j:Int),l,(A,f.length,E)]):=⟨_,rfl,hl.range g,z⟩
 have R:a<w.heap.size:=Xj
 have y:=zB hb;have d:Cy w (w.alloc (qh 8 ty td (.slice (some ⟨a,c,none⟩) tc.length m) (.slice A4 n4 c4) (.slice A5 n5 c5))):=Zb.alloc Zr _;have K:=U d;have ab:=U hE;have ad:=U (hE.below (d.mono hE.hB));have G:=U (hE.below (d.drew.mono hE.hB));have aa:=U ((d.block b y).trans hb);have F:=U ((d.drew.block b y).trans hb);have ae:=U (t.below (d.mono hE.hB) Zr);have M:=U (t.below (d.drew.mono hE.hB) Zr);have I:=U hp;obtain⟨⟨_,_,_,_,_,_,_⟩,_⟩:=zR hb;clear hE hb hl hok hp D d g C z t;go_enter func100,ntmps100;go_wp2_with fail
 go_region_held3 (fun w'=>w'.cell? (b,3)=some (.int .i64 ft)/\w'.cell? (w.heap.size,3)=some (.slice (some ⟨a,c,none⟩) tc.length m)/\w'.cell? (a,c)=some (.int .i64 i)/\w'.cell? (a,c+1)=some (.int .i64 k)/\w'.cell? (a,c+2)=some (.int .i64 j)/\w'.cell? (a,c+3)=some (.string l)/\w'.cell? (a,c+4)=some (.slice A f.length E))
  (first
    |(go_split_ands;refine⟨?_,?_,?_,?_,?_,?_,?_⟩ <;>(first|(rw[T];assumption)|(rw[S];simp;done)|(rw[Q];assumption)))
    |go_keep)
  (first
    | (go_at_call 119
       (refine(xG B b p tf _ _ _ _ _ _ _ _ _ fs ft n (w.alloc (qh 8 ty td (.slice (some ⟨a,c,none⟩) tc.length m) (.slice A4 n4 c4) (.slice A5 n5 c5))).drew G.o F.o M.o H.o I.o J.o).mono ?_)
       rintro e s ⟨rfl,u⟩;have q:Cy w s:=K.o.trans (Zb.drew.trans (u.mono Uq));have T:∀x,s.cell? ⟨b,x,none⟩=w.cell? ⟨b,x,none⟩:=fun x=>q.cell (p:=⟨b,x,none⟩) y
       have S:∀x,s.cell? ⟨w.heap.size,x,none⟩=(w.alloc (qh 8 ty td (.slice (some ⟨a,c,none⟩) tc.length m) (.slice A4 n4 c4) (.slice A5 n5 c5))).cell? ⟨w.heap.size,x,none⟩:=fun x=>u.cell (p:=⟨w.heap.size,x,none⟩) Uw
       have Q:∀x,s.cell? ⟨a,x,none⟩=w.cell? ⟨a,x,none⟩:=fun x=>q.cell (p:=⟨a,x,none⟩) R
       have L:=U q
       clear u q))
 go_wp2_with fail;go_ret;exact⟨rfl,L.o⟩
include hE hb hl hok hp hfr in
theorem GK(c:zv tf td=none)(g:jH p ft 2 ty td tc tf frm ti=r):Cz 100 #[(b,0),oF 2 ty td v3 (.slice A4 n4 c4) (.slice A5 n5 c5),v,((frm:Int):Int),.bool ti] w (Cw (r:Int) w):=by
 have j:=U (show(50 :Int)=r by rw[<-g,jH];rw[Dp Uf,Dq Uf,c]);have k:=U (show(zv tf td).getD 0=0 by rw[c];rfl);have l:=U (show(zv tf td).isSome=false by rw[c];rfl);clear c;obtain⟨_,_,_,_,_,_,rfl,rfl,rfl⟩:=hE.form;obtain⟨i,n,rfl,_⟩:=hl.form;have f:=zB hb;have a:Cy w (w.alloc (qh 2 ty td (.slice i tc.length n) (.slice A4 n4 c4) (.slice A5 n5 c5))):=Zb.alloc Zr _;have m:=U a;have t:=U hE;have d:=U (hE.below (a.mono hE.hB));have u:=U (hE.below (a.drew.mono hE.hB));have q:=U ((a.block b f).trans hb);have s:=U ((a.drew.block b f).trans hb);have x:=U hp;obtain⟨⟨_,_,_,_,_,_,_⟩,_⟩:=zR hb;clear hE hb hl hok hp g a;go_enter func100,ntmps100;go_wp2_with (go_at_call 72;(with_reducible refine(kI B tf td _ _ k.o l.o _ _ d.o.hB d.o.hv).mono ?_);rintro e w9 ⟨rfl,rfl⟩);go_ret;exact⟨qK j.o,m.o⟩
include hE hb hl hok hp hfr in
theorem S2(t:Int)(f:zv tf td=some t)(L:tc.length=1)(z:jH p ft 2 ty td tc tf frm ti=r):Cz 100 #[(b,0),oF 2 ty td v3 (.slice A4 n4 c4) (.slice A5 n5 c5),v,((frm:Int):Int),.bool ti] w (Cw (r:Int) w):=by
 have ab:0<tc.length:=O
 obtain⟨⟨g,j,i,k,d⟩,c⟩:∃e,tc[0]?=some e:=⟨_,Dz O⟩
 have y:tc.getD 0 j8=.mk g j i k d:=by
  rw[Yl,c];rfl
 have D:=U (qb hok c);have F:=U (show jP p tf (.mk g j i k d) t=r by rw[<-z,jH];rw[Dp Uf,Dq Uf,f,y]);have G:=U (show(zv tf td).getD 0=t by rw[f];rfl);have H:=U (show(zv tf td).isSome=true by rw[f];rfl);clear f L;obtain⟨_,_,_,_,_,_,rfl,rfl,rfl⟩:=hE.form;obtain⟨_,K,rfl,_⟩:=hl.form;obtain⟨u,s,_,M,_,Q,R,S,T,V,q⟩:=hl.cells c;subst M;rw[show s+0*5=s by omega]at Q R S T V;obtain⟨A,P,rfl,_⟩:=q.form;have m:k1 B w (.mk g j i k d) (.agg #[(g:Int),(j:Int),(i:Int),k,(A,d.length,P)]):=⟨_,rfl,hl.range c,q⟩
 have aa:u<w.heap.size:=Xj
 have x:=zB hb;have a:Cy w (w.alloc (qh 2 ty td (.slice (some ⟨u,s,none⟩) tc.length K) (.slice A4 n4 c4) (.slice A5 n5 c5))):=Zb.alloc Zr _;have I:=U a;have X:=U hE;have l:=U (hE.below (a.mono hE.hB));have Y:=U (hE.below (a.drew.mono hE.hB));have C:=U ((a.block b x).trans hb);have W:=U ((a.drew.block b x).trans hb);have J:=U (m.below (a.mono hE.hB) Zr);have Z:=U (m.below (a.drew.mono hE.hB) Zr);have E:=U hp;obtain⟨⟨_,_,_,_,_,_,_⟩,_⟩:=zR hb;clear hE hb hl hok hp z a c y q m;go_enter func100,ntmps100
 go_wp2_with (first
  |(go_at_call 72;(with_reducible refine(kI B tf td _ _ G.o H.o _ _ l.o.hB l.o.hv).mono ?_);rintro e w9 ⟨rfl,rfl⟩)
  |(go_at_call 119;(with_reducible refine(xG B b p tf _ _ _ _ _ _ _ _ _ fs ft n _ l.o C.o J.o D.o E.o F.o).mono ?_);rintro e _ ⟨rfl,N⟩))
 go_ret;exact⟨rfl,I.o.trans (N.mono Uj)⟩
include hE hb hl hok hp hfr in
theorem GL(j:zZ p.wa td=none)(m:jH p ft 3 ty td tc tf frm ti=r):Cz 100 #[(b,0),oF 3 ty td v3 (.slice A4 n4 c4) (.slice A5 n5 c5),v,((frm:Int):Int),.bool ti] w (Cw (r:Int) w):=by
 have t:=U (show(50 :Int)=r by rw[<-m,jH];rw[Dp Uf,Dp Uf,Dq Uf,j];rfl);have s:=U (show jy (zZ p.wa td)= -1 by rw[j];rfl);clear j;obtain⟨n,z,q,A,_,_,rfl,rfl,rfl⟩:=hE.form;obtain⟨c,f,rfl,_⟩:=hl.form;have i:=zB hb;have a:Cy w (w.alloc (qh 3 ty td (.slice c tc.length f) (.slice A4 n4 c4) (.slice A5 n5 c5))):=Zb.alloc Zr _;have u:=U a;have G:=U hE;have H:=U (hE.below (a.mono hE.hB));have d:=U (hE.below (a.drew.mono hE.hB));have E:=U ((a.block b i).trans hb);have F:=U ((a.drew.block b i).trans hb);have I:=U hp;obtain⟨⟨_,_,_,_,_,_,_⟩,_⟩:=zR hb;clear hE hb hl hok hp m a;go_enter func100,ntmps100;go_wp2_with fail
 go_region_held3 (fun w'=>w'.cell? (b,0)=some (.slice n p.wa.length z)/\w'.cell? (b,1)=some (.slice q p.funcs.length A)/\w'.cell? (w.heap.size,2)=some (.string td))
  (first
    |(go_split_ands;refine⟨?_,?_,?_⟩ <;>(first|(rw[D];assumption)|(rw[C];simp;done)))
    |go_keep)
  (first
    | (go_at_call 99
       (refine(kh B p td _ s.o _ _ (w.alloc (qh 3 ty td (.slice c tc.length f) (.slice A4 n4 c4) (.slice A5 n5 c5))).drew d.o.hB d.o.ha d.o.hf).mono ?_)
       rintro e l ⟨rfl,g⟩;have k:Cy w l:=u.o.trans (Zb.drew.trans (g.mono Uq));have D:∀x,l.cell? ⟨b,x,none⟩=w.cell? ⟨b,x,none⟩:=fun x=>k.cell (p:=⟨b,x,none⟩) i
       have C:∀x,l.cell? ⟨w.heap.size,x,none⟩=(w.alloc (qh 3 ty td (.slice c tc.length f) (.slice A4 n4 c4) (.slice A5 n5 c5))).cell? ⟨w.heap.size,x,none⟩:=fun x=>g.cell (p:=⟨w.heap.size,x,none⟩) Uw
       have y:=U k
       clear g k))
 go_wp2_with fail;go_ret;exact⟨qK t.o,y.o⟩
include hE hb hl hok hp hfr in
theorem S3(k:Nat)(Y:zZ p.wa td=some k)(T:tc.length=2)(av:jH p ft 3 ty td tc tf frm ti=r):Cz 100 #[(b,0),oF 3 ty td v3 (.slice A4 n4 c4) (.slice A5 n5 c5),v,((frm:Int):Int),.bool ti] w (Cw (r:Int) w):=by
 have bm:0<tc.length:=O
 have bn:1<tc.length:=O
 obtain⟨⟨u,z,y,A,t⟩,G⟩:∃e,tc[0]?=some e:=⟨_,Dz O⟩
 have ap:tc.getD 0 j8=.mk u z y A t:=by
  rw[Yl,G];rfl
 have ah:=U (qb hok G);obtain⟨⟨J,L,K,M,D⟩,H⟩:∃e,tc[1]?=some e:=⟨_,Dz O⟩
 have aq:tc.getD 1 j8=.mk J L K M D:=by
  rw[Yl,H];rfl
 have aT:=U (qb hok H);have aU:=U (show(if jP p tf (.mk u z y A t) 1=0 then jP p tf (.mk J L K M D) 1 else jP p tf (.mk u z y A t) 1)=r by have ao:=av;rw[jH,Dp Uf,Dp Uf,Dq Uf,Y,Dq Xm,ap,aq]at ao;exact ao);have aS:=U (show jy (zZ p.wa td)=(k:Int)by rw[Y];rfl);clear Y T;obtain⟨aN,aY,aO,aZ,_,_,rfl,rfl,rfl⟩:=hE.form;obtain⟨_,m,rfl,_⟩:=hl.form;obtain⟨c,d,_,a2,_,aD,aE,aF,aG,aH,ab⟩:=hl.cells G;subst a2;rw[show d+0*5=d by omega]at aD aE aF aG aH;obtain⟨aP,ba,rfl,_⟩:=ab.form;have W:k1 B w (.mk u z y A t) (.agg #[(u:Int),(z:Int),(y:Int),A,(aP,t.length,ba)]):=⟨_,rfl,hl.range G,ab⟩
 have a5:c<w.heap.size:=Xj
 obtain⟨a0,a9,_,V,_,aI,aJ,aK,aL,aM,ad⟩:=hl.cells H;obtain⟨rfl,rfl⟩:c=a0/\d=a9:=by injection V with V;injection V with T a1 _;exact⟨T,a1⟩
 rw[show d+1*5=d+5 by omega]at aI aJ aK aL aM;obtain⟨aQ,bb,rfl,_⟩:=ad.form;have X:k1 B w (.mk J L K M D) (.agg #[(J:Int),(L:Int),(K:Int),M,(aQ,D.length,bb)]):=⟨_,rfl,hl.range H,ad⟩
 have F:=zB hb;have i:Cy w (w.alloc (qh 3 ty td (.slice (some ⟨c,d,none⟩) tc.length m) (.slice A4 n4 c4) (.slice A5 n5 c5))):=Zb.alloc Zr _;have ak:=U i;have Q:=U hE;have bj:=U (hE.below (i.mono hE.hB));have N:=U (hE.below (i.drew.mono hE.hB));have aR:=U ((i.block b F).trans hb);have bi:=U ((i.drew.block b F).trans hb);have bk:=U (W.below (i.mono hE.hB) Zr);have aW:=U (W.below (i.drew.mono hE.hB) Zr);have bl:=U (X.below (i.mono hE.hB) Zr);have aX:=U (X.below (i.drew.mono hE.hB) Zr);have R:=U hp;obtain⟨⟨_,_,_,_,_,_,_⟩,_⟩:=zR hb;clear hE hb hl hok hp av i G ap ab W H aq ad X;go_enter func100,ntmps100;obtain⟨ae,Z⟩:=C0 (jP p tf (.mk u z y A t) 1);obtain⟨bc,aa⟩:=C0 (jP p tf (.mk J L K M D) 1);have ai:=U Z;have aV:=U aa;have aj:=U (show(if ae=0 then bc else ae)=r by rw[<-Z,<-aa];exact aU.o);clear Z aa;go_wp2_with fail
 go_region_held3 (fun w'=>w'.cell? (b,0)=some (.slice aN p.wa.length aY)/\w'.cell? (b,1)=some (.slice aO p.funcs.length aZ)/\w'.cell? (w.heap.size,2)=some (.string td))
  (first
    |(go_split_ands;refine⟨?_,?_,?_⟩ <;>(first|(rw[a7];assumption)|(rw[au];simp;done)))
    |go_keep)
  (first
    | (go_at_call 99
       (refine(kh B p td _ aS.o _ _ (w.alloc (qh 3 ty td (.slice (some ⟨c,d,none⟩) tc.length m) (.slice A4 n4 c4) (.slice A5 n5 c5))).drew N.o.hB N.o.ha N.o.hf).mono ?_)
       rintro e l ⟨rfl,E⟩;have I:Cy w l:=ak.o.trans (Zb.drew.trans (E.mono Uq));have a7:∀x,l.cell? ⟨b,x,none⟩=w.cell? ⟨b,x,none⟩:=fun x=>I.cell (p:=⟨b,x,none⟩) F
       have au:∀x,l.cell? ⟨w.heap.size,x,none⟩=(w.alloc (qh 3 ty td (.slice (some ⟨c,d,none⟩) tc.length m) (.slice A4 n4 c4) (.slice A5 n5 c5))).cell? ⟨w.heap.size,x,none⟩:=fun x=>E.cell (p:=⟨w.heap.size,x,none⟩) Uw
       have ar:l.cell? (w.heap.size,3)=some (.slice (some ⟨c,d,none⟩) tc.length m):=by rw[au];simp
       have ax:w.heap.size<l.heap.size:=by have:=E.size;simp at this;omega
       have S:=C2 (Below w.heap.size ((w.alloc (qh 3 ty td (.slice (some ⟨c,d,none⟩) tc.length m) (.slice A4 n4 c4) (.slice A5 n5 c5))).drew) l) (E.mono Uq);have s:=U ((I.block b F).trans ((ak.o.block b F).symm.trans aR.o));have f:∀x,l.cell? ⟨c,x,none⟩=w.cell? ⟨c,x,none⟩:=fun x=>I.cell (p:=⟨c,x,none⟩) a5
       have C:=U I
       clear E I))
 have j:=U (N.o.below (S.o.mono Q.o.hB));have al:=U (aW.o.below (S.o.mono Q.o.hB) Zr);have am:=U (aX.o.below (S.o.mono Q.o.hB) Zr);have bo:=(f _).trans aD;have bp:=(f _).trans aE;have bq:=(f _).trans aF;have br:=(f _).trans aG;have bs:=(f _).trans aH;have ay:=(f _).trans aI;have az:=(f _).trans aJ;have aA:=(f _).trans aK;have aB:=(f _).trans aL;have aC:=(f _).trans aM;have g:c<l.heap.size:=by have:=C.o.size;omega
 by_cases aw:ae=0
 .subst aw
  go_wp2_with (first
   | (go_at_call 119;(with_reducible refine(xG B b p tf _ _ _ _ _ _ _ _ _ fs ft n _ j.o s.o al.o ah.o R.o ai.o).mono ?_);rintro e q ⟨rfl,a⟩
      have a6:q.cell? (w.heap.size,3)=some (.slice (some ⟨c,d,none⟩) tc.length m):=(a.cell (p:=(w.heap.size,3)) ax).trans ar;have a8:w.heap.size<q.heap.size:=Xg
      have a4:c<q.heap.size:=Xg
      have bd:=(a.cell (p:=⟨c,_,none⟩) g).trans ay;have be:=(a.cell (p:=⟨c,_,none⟩) g).trans az;have bf:=(a.cell (p:=⟨c,_,none⟩) g).trans aA;have bg:=(a.cell (p:=⟨c,_,none⟩) g).trans aB;have bh:=(a.cell (p:=⟨c,_,none⟩) g).trans aC;have ag:=U (j.o.below (a.mono j.o.hB));have af:=U ((a.block b (zB s.o)).trans s.o);have an:=U (am.o.below (a.mono j.o.hB) Zr);have P:=U (C.o.trans (a.mono C.o.size))
      clear a)
   |(go_at_call 119;(with_reducible refine(xG B b p tf _ _ _ _ _ _ _ _ _ fs ft n _ ag.o af.o an.o aT.o R.o aV.o).mono ?_);rintro e _ ⟨rfl,a3⟩))
  go_ret;exact⟨qK (by rw[<-aj.o];rfl),P.o.trans (a3.mono P.o.size)⟩
 .go_wp2_with (first
   | (go_at_call 119;(with_reducible refine(xG B b p tf _ _ _ _ _ _ _ _ _ fs ft n _ j.o s.o al.o ah.o R.o ai.o).mono ?_);rintro e q ⟨rfl,a⟩
      have a6:q.cell? (w.heap.size,3)=some (.slice (some ⟨c,d,none⟩) tc.length m):=(a.cell (p:=(w.heap.size,3)) ax).trans ar;have a8:w.heap.size<q.heap.size:=Xg
      have a4:c<q.heap.size:=Xg
      have bd:=(a.cell (p:=⟨c,_,none⟩) g).trans ay;have be:=(a.cell (p:=⟨c,_,none⟩) g).trans az;have bf:=(a.cell (p:=⟨c,_,none⟩) g).trans aA;have bg:=(a.cell (p:=⟨c,_,none⟩) g).trans aB;have bh:=(a.cell (p:=⟨c,_,none⟩) g).trans aC;have ag:=U (j.o.below (a.mono j.o.hB));have af:=U ((a.block b (zB s.o)).trans s.o);have an:=U (am.o.below (a.mono j.o.hB) Zr);have P:=U (C.o.trans (a.mono C.o.size))
      clear a))
  go_ret;exact⟨qK (by rw[<-aj.o,Dp aw]),P.o⟩
include hE hb hl hok hp hfr in
theorem XY(W:tc.length=1)(F:jH p ft 10 ty td tc tf frm ti=r):Cz 100 #[(b,0),oF 10 ty td v3 (.slice A4 n4 c4) (.slice A5 n5 c5),v,((frm:Int):Int),.bool ti] w (Cw (r:Int) w):=by
 have an:0<tc.length:=O
 obtain⟨⟨i,k,j,l,g⟩,m⟩:∃e,tc[0]?=some e:=⟨_,Dz O⟩
 have E:tc.getD 0 j8=.mk i k j l g:=by
  rw[Yl,m];rfl
 have K:=U (qb hok m);have M:=U (show(qE p tf (.mk i k j l g)).2=r by rw[<-F,jH];rw[Dp Uf,Dp Uf,Dp Uf,Dp Uf,Dp Uf,Dp Uf,Dq Uf,E]);clear W;obtain⟨H,T,I,V,_,_,rfl,rfl,rfl⟩:=hE.form;obtain⟨_,n,rfl,_⟩:=hl.form;obtain⟨a,c,_,X,_,ad,ae,af,ag,ah,A⟩:=hl.cells m;subst X;rw[show c+0*5=c by omega]at ad ae af ag ah;obtain⟨D,G,rfl,_⟩:=A.form;have u:k1 B w (.mk i k j l g) (.agg #[(i:Int),(k:Int),(j:Int),l,(D,g.length,G)]):=⟨_,rfl,hl.range m,A⟩
 have Z:a<w.heap.size:=Xj
 have z:=zB hb;have d:Cy w (w.alloc (qh 10 ty td (.slice (some ⟨a,c,none⟩) tc.length n) (.slice A4 n4 c4) (.slice A5 n5 c5))):=Zb.alloc Zr _;have Q:=U d;have ak:=U hE;have al:=U (hE.below (d.mono hE.hB));have J:=U (hE.below (d.drew.mono hE.hB));have ai:=U ((d.block b z).trans hb);have aj:=U ((d.drew.block b z).trans hb);have am:=U (u.below (d.mono hE.hB) Zr);have S:=U (u.below (d.drew.mono hE.hB) Zr);have L:=U hp;obtain⟨⟨_,_,_,_,_,_,_⟩,_⟩:=zR hb;clear hE hb hl hok hp F d m E A u;go_enter func100,ntmps100;obtain⟨⟨t,f⟩,C⟩:=C0 (qE p tf (.mk i k j l g));have P:=U C;have N:=U (show f=r by rw[<-M.o,C]);clear C;go_wp2_with fail
 go_region_held3 (fun w'=>w'.cell? (b,0)=some (.slice H p.wa.length T)/\w'.cell? (b,1)=some (.slice I p.funcs.length V)/\w'.cell? (w.heap.size,3)=some (.slice (some ⟨a,c,none⟩) tc.length n)/\w'.cell? (a,c)=some (.int .i64 i)/\w'.cell? (a,c+1)=some (.int .i64 k)/\w'.cell? (a,c+2)=some (.int .i64 j)/\w'.cell? (a,c+3)=some (.string l)/\w'.cell? (a,c+4)=some (.slice D g.length G))
  (first
    |(go_split_ands;refine⟨?_,?_,?_,?_,?_,?_,?_,?_⟩ <;>(first|(rw[ab];assumption)|(rw[aa];simp;done)|(rw[Y];assumption)))
    |go_keep)
  (first
    | (go_at_call 120
       (refine((oQ 100).call (w:=(w.alloc (qh 10 ty td (.slice (some ⟨a,c,none⟩) tc.length n) (.slice A4 n4 c4) (.slice A5 n5 c5))).drew) K.o L.o P.o J.o S.o).mono ?_)
       rintro e s ⟨rfl,y⟩;have q:Cy w s:=Q.o.trans (Zb.drew.trans (y.mono Uq));have ab:∀x,s.cell? ⟨b,x,none⟩=w.cell? ⟨b,x,none⟩:=fun x=>q.cell (p:=⟨b,x,none⟩) z
       have aa:∀x,s.cell? ⟨w.heap.size,x,none⟩=(w.alloc (qh 10 ty td (.slice (some ⟨a,c,none⟩) tc.length n) (.slice A4 n4 c4) (.slice A5 n5 c5))).cell? ⟨w.heap.size,x,none⟩:=fun x=>y.cell (p:=⟨w.heap.size,x,none⟩) Uw
       have Y:∀x,s.cell? ⟨a,x,none⟩=w.cell? ⟨a,x,none⟩:=fun x=>q.cell (p:=⟨a,x,none⟩) Z
       have R:=U q
       clear y q))
 go_wp2_with fail;go_ret;exact⟨qK N.o,R.o⟩
include hE hb hl hok hp hfr in
theorem JD(e:jH p ft 6 ty td tc tf frm ti=r):Cz 100 #[(b,0),oF 6 ty td v3 (.slice A4 n4 c4) (.slice A5 n5 c5),v,((frm:Int):Int),.bool ti] w (Cw (r:Int) w):=by
 have g:=U (show(if ti=true then 0 else 53 :Int)=r by have c:=e;rw[jH,Dp Uf,Dp Uf,Dp Uf,Dp Uf,Dp Uf,Dp Uf,Dp Uf]at c;exact c);obtain⟨_,_,_,_,_,_,rfl,rfl,rfl⟩:=hE.form;obtain⟨f,j,rfl,_⟩:=hl.form;have d:=zB hb;have a:Cy w (w.alloc (qh 6 ty td (.slice f tc.length j) (.slice A4 n4 c4) (.slice A5 n5 c5))):=Zb.alloc Zr _;exact Iq
include hE hb hl hok hp hfr in
theorem x0(e:jH p ft 7 ty td tc tf frm ti=r):Cz 100 #[(b,0),oF 7 ty td v3 (.slice A4 n4 c4) (.slice A5 n5 c5),v,((frm:Int):Int),.bool ti] w (Cw (r:Int) w):=by
 have g:=U (show(if ti=true then 0 else 53 :Int)=r by have c:=e;rw[jH,Dp Uf,Dp Uf,Dp Uf,Dp Uf,Dp Uf,Dp Uf,Dp Uf]at c;exact c);obtain⟨_,_,_,_,_,_,rfl,rfl,rfl⟩:=hE.form;obtain⟨f,j,rfl,_⟩:=hl.form;have d:=zB hb;have a:Cy w (w.alloc (qh 7 ty td (.slice f tc.length j) (.slice A4 n4 c4) (.slice A5 n5 c5))):=Zb.alloc Zr _;exact Iq
include hE hb hl hok hp hfr in
theorem S4(ai:tc.length=1)(T:jH p ft 1 ty td tc tf frm ti=r):Cz 100 #[(b,0),oF 1 ty td v3 (.slice A4 n4 c4) (.slice A5 n5 c5),v,((frm:Int):Int),.bool ti] w (Cw (r:Int) w):=by
 have az:0<tc.length:=O
 obtain⟨⟨j,l,k,m,i⟩,t⟩:∃e,tc[0]?=some e:=⟨_,Dz O⟩
 have R:tc.getD 0 j8=.mk j l k m i:=by
  rw[Yl,t];rfl
 have aa:=U (qb hok t);have ad:=U (show(if jP p tf (.mk j l k m i) ty=0 then(if(zv (tf.drop frm) td).isSome then 50 else 0)else jP p tf (.mk j l k m i) ty)=r by have f:=T;rw[jH,Dq Uf,R]at f;exact f);clear ai;obtain⟨_,_,_,_,_,_,rfl,rfl,rfl⟩:=hE.form;obtain⟨_,q,rfl,_⟩:=hl.form;obtain⟨a,c,_,aj,_,ao,ap,aq,ar,au,I⟩:=hl.cells t;subst aj;rw[show c+0*5=c by omega]at ao ap aq ar au;obtain⟨J,X,rfl,_⟩:=I.form;have D:k1 B w (.mk j l k m i) (.agg #[(j:Int),(l:Int),(k:Int),m,(J,i.length,X)]):=⟨_,rfl,hl.range t,I⟩
 have al:a<w.heap.size:=Xj
 have F:=zB hb;have g:Cy w (w.alloc (qh 1 ty td (.slice (some ⟨a,c,none⟩) tc.length q) (.slice A4 n4 c4) (.slice A5 n5 c5))):=Zb.alloc Zr _;have af:=U g;have z:=U hE;have aw:=U (hE.below (g.mono hE.hB));have L:=U (hE.below (g.drew.mono hE.hB));have av:=U ((g.block b F).trans hb);have Z:=U ((g.drew.block b F).trans hb);have ax:=U (D.below (g.mono hE.hB) Zr);have ah:=U (D.below (g.drew.mono hE.hB) Zr);have ab:=U hp;obtain⟨⟨_,_,_,_,_,_,_⟩,_⟩:=zR hb;clear hE hb hl hok hp T g t R I D;go_enter func100,ntmps100;obtain⟨y,G⟩:=C0 (jP p tf (.mk j l k m i) ty);have ae:=U G;obtain⟨Y,V⟩:=C0 ((zv (tf.drop frm) td).getD 0);obtain⟨C,E⟩:=C0 ((zv (tf.drop frm) td).isSome);have N:=U V;have K:=U E;have M:=U (show(if y=0 then(if C=true then 50 else 0)else y)=r by rw[<-G,<-E];exact ad.o);clear G V E;have an:=z.o.hv;go_wp2_with fail
 go_region_held3 (fun w'=>w'.cell? (w.heap.size,3)=some (.slice (some ⟨a,c,none⟩) tc.length q)/\w'.cell? (w.heap.size,1)=some (.int .i64 ty)/\w'.cell? (a,c)=some (.int .i64 j)/\w'.cell? (a,c+1)=some (.int .i64 l)/\w'.cell? (a,c+2)=some (.int .i64 k)/\w'.cell? (a,c+3)=some (.string m)/\w'.cell? (a,c+4)=some (.slice J i.length X))
  (first
    |(go_split_ands;refine⟨?_,?_,?_,?_,?_,?_,?_⟩ <;>(first|(rw[am];assumption)|(rw[S];simp;done)|(rw[ak];assumption)))
    |go_keep)
  (first
    | (go_at_call 119
       (refine(xG B b p tf _ _ _ _ _ _ _ _ _ fs ft n (w.alloc (qh 1 ty td (.slice (some ⟨a,c,none⟩) tc.length q) (.slice A4 n4 c4) (.slice A5 n5 c5))).drew L.o Z.o ah.o aa.o ab.o ae.o).mono ?_)
       rintro e d ⟨rfl,s⟩;have u:Cy w d:=af.o.trans (Zb.drew.trans (s.mono Uq));have am:∀x,d.cell? ⟨b,x,none⟩=w.cell? ⟨b,x,none⟩:=fun x=>u.cell (p:=⟨b,x,none⟩) F
       have S:∀x,d.cell? ⟨w.heap.size,x,none⟩=(w.alloc (qh 1 ty td (.slice (some ⟨a,c,none⟩) tc.length q) (.slice A4 n4 c4) (.slice A5 n5 c5))).cell? ⟨w.heap.size,x,none⟩:=fun x=>s.cell (p:=⟨w.heap.size,x,none⟩) Uw
       have ay:d.cell? (w.heap.size,2)=some (.string td):=by rw[S];simp
       have aA:w.heap.size<d.heap.size:=by have:=s.size;simp at this;omega
       have ag:=C2 (Below w.heap.size ((w.alloc (qh 1 ty td (.slice (some ⟨a,c,none⟩) tc.length q) (.slice A4 n4 c4) (.slice A5 n5 c5))).drew) d) (s.mono Uq);have ak:∀x,d.cell? ⟨a,x,none⟩=w.cell? ⟨a,x,none⟩:=fun x=>u.cell (p:=⟨a,x,none⟩) al
       have A:=U u
       clear s u))
 have W:=L.o.hv.below (ag.o.mono z.o.hB) Zr;have P:=U (fun n=>(W.dropS frm hfr).below (show Below B d (d.drewN n)from Zb.trans ⟨rfl,rfl,rfl,D0 _,fun _ _=>rfl⟩) Zr);have Q:B<=d.heap.size:=Dy z.o.hB A.o.size;clear W an;by_cases H:y=0
 .subst H
  cases C
  all_goals
   go_wp2_with fail
   go_quiet ((go_at_call 72;exact(kI B (tf.drop frm) td Y _ N.o K.o _ _ (by exact Q) (P.o _)).mono fun e w' f=>⟨f.1,_,f.2.symm⟩))
   go_wp2_with fail
   all_goals go_ret
   all_goals exact⟨qK (by rw[<-M.o];rfl),mU A.o _⟩
 .cases C
  all_goals
   go_wp2_with fail
   go_quiet ((go_at_call 72;exact(kI B (tf.drop frm) td Y _ N.o K.o _ _ (by exact Q) (P.o _)).mono fun e w' f=>⟨f.1,_,f.2.symm⟩))
   have aB:(y == 0)=false:=by simp[H]
   go_wp2_with fail
   all_goals go_ret
   all_goals exact⟨qK (by rw[<-M.o,Dp H]),mU A.o _⟩
theorem kJ(k:Int)(d:Bool)(a:zn k ty td tc.length n4 n5 d=true)(c:jH p ft k ty td tc tf frm ti=r)(hE:g3 B p tf v0 v1 v w)(hb:w.heap[b]?=some (lS v0 v1 fs ft v2 vb n))(hl:kW B w v3 tc)(hok:zx tc 100=true)(hp:mH p)(hfr:frm<=tf.length):
 Cz 100 #[(b,0),oF k ty td v3 (.slice A4 n4 c4) (.slice A5 n5 c5),v,((frm:Int):Int),.bool ti] w (Cw (r:Int) w):=by
 rcases AJ a with rfl|rfl|rfl|rfl|rfl|rfl|rfl|rfl|rfl|rfl
 .exact S4 B b p tf ty td tc frm ti A4 n4 c4 A5 n5 c5 r v3 v0 v1 v v2 vb fs ft n w hE hb hl hok hp hfr Vj c
 .cases hv:zv tf td with
  |none=>exact GK B b p tf ty td tc frm ti A4 n4 c4 A5 n5 c5 r v3 v0 v1 v v2 vb fs ft n w hE hb hl hok hp hfr hv c
  |some t=>exact S2 B b p tf ty td tc frm ti A4 n4 c4 A5 n5 c5 r v3 v0 v1 v v2 vb fs ft n w hE hb hl hok hp hfr t hv Vj c
 .cases hv:zZ p.wa td with
  |none=>exact GL B b p tf ty td tc frm ti A4 n4 c4 A5 n5 c5 r v3 v0 v1 v v2 vb fs ft n w hE hb hl hok hp hfr hv c
  |some t=>exact S3 B b p tf ty td tc frm ti A4 n4 c4 A5 n5 c5 r v3 v0 v1 v v2 vb fs ft n w hE hb hl hok hp hfr t hv Vj c
 .exact XX B b p tf ty td tc frm ti A4 n4 c4 A5 n5 c5 r v3 v0 v1 v v2 vb fs ft n w hE hb hl hok hp hfr (by simp[zn]at a;exact a.2) c
 .exact JB B b p tf ty td tc frm ti A4 n4 c4 A5 n5 c5 r v3 v0 v1 v v2 vb fs ft n w hE hb hl hok hp hfr (by simp[zn]at a;exact a.1.2) c
 .exact JD B b p tf ty td tc frm ti A4 n4 c4 A5 n5 c5 r v3 v0 v1 v v2 vb fs ft n w hE hb hl hok hp hfr c
 .exact x0 B b p tf ty td tc frm ti A4 n4 c4 A5 n5 c5 r v3 v0 v1 v v2 vb fs ft n w hE hb hl hok hp hfr c
 .exact GJ B b p tf ty td tc frm ti A4 n4 c4 A5 n5 c5 r v3 v0 v1 v v2 vb fs ft n w hE hb hl hok hp hfr Vj c
 .exact JC B b p tf ty td tc frm ti A4 n4 c4 A5 n5 c5 r v3 v0 v1 v v2 vb fs ft n w hE hb hl hok hp hfr Vj c
 .exact XY B b p tf ty td tc frm ti A4 n4 c4 A5 n5 c5 r v3 v0 v1 v v2 vb fs ft n w hE hb hl hok hp hfr (by simp[zn]at a;omega) c
end
mutual
def k7:St->Nat
 |.mk _ _ _ _ tg th=>1+fU tg+fU th
def fU:List St->Nat
 |[]=>0
 |s::r=>k7 s+fU r
end
theorem JE{l:List St}{j:Nat}{td:C3}{tc:List Ex}{tg th:List St}(h:l[j]?=some (.mk k ty td tc tg th)):fU (l.drop j)=1+fU tg+fU th+fU (l.drop (j+1)):=by
 rw[xD h,fU,k7]
theorem m4{P:Program}{w:C4}(d:Nat)(t ty e:TypeId)(i:TypeInfo)(k:Nat)(b:P.underlying t=some (.slice e))(a:P.info? e=some i)
 (v:C5) (n:Nat) (l:List C5) (j:w.ownsRow d e k v n l) (c:Nat):
 (Builtin.append_ #[t,t] ty #[v,.slice none 0 c]).run P w=.ok v w:=by
 rcases j.2 with⟨rfl,rfl⟩|⟨g,_,_,rfl,_,_,f,_⟩
 .simp[Builtin.append_,run_underlying b,sizeOf,typeInfo,a,Builtin.lenOf,Builtin.firstCells]
 .simp[Builtin.append_,run_underlying b,sizeOf,typeInfo,a,Builtin.lenOf,Builtin.firstCells,f,storeCells]
theorem iG{P:Program}{w:C4}{ops:Array Oper}{d:List Oper}{o:Oper}{a:Act}{Q:Exit->Act->C4->Prop}(l:o.guard=none)(s x:Operand)(t:TypeId)
 (p:o.op=.call { callee:=.builtin .append,args:=#[s,x],argTypes:=#[t,t] })
 (b:Nat) (e:TypeId) (i:TypeInfo) (f:Nat) (y:P.underlying t=some (.slice e)) (m:P.info? e=some i)
 (v:C5) (n:Nat) (g:List C5) (u:a.eval s=v) (q:w.ownsRow b e f v n g) (c:Nat) (z:a.eval x=.slice none 0 c)
 (j:wpList P ops Q d (a.put o.dst v) w):wpList P ops Q (o::d) a w:=by
 refine wpList_plain l fun K k=>?_
 have r:=m4 (P:=P) (w:=w) b t o.type e i f y m v n g q c;unfold Oper.wp;simp[execOp,p,resolve,invoke,builtin,u,z,r,Result.andThen];exact k _ _ j
theorem m5{P:Program}{w:C4}{ops:Array Oper}{F:List Oper}{o:Oper}{a:Act}{Q:Exit->Act->C4->Prop}(y:o.guard=none)(s x:Operand)(t:TypeId)
 (B:o.op=.call { callee:=.builtin .append,args:=#[s,x],argTypes:=#[t,t] })
 (g:Nat) (e:TypeId) (i:TypeInfo) (z:C5) (b q:Nat) (D:P.underlying t=some (.slice e)) (A:P.info? e=some i) (V:i.zero=some z)
 (S:i.size=b) (M:i.bytes=q) (W:z.cells.size=b) (T:0<b)
 (v:C5) (n:Nat) (p:List C5) (C:a.eval s=v) (r:w.ownsRow g e b v n p)
 (k:Option Addr) (m c:Nat) (d:List C5) (E:a.eval x=.slice k m c) (hl:d.length=m*b) (K:k=none->m=0) (R:∀f,k=some f->∀j l,d[j]?=some l->w.cell? (f.add j)=some l) (G:∀l∈d,l.oneCell'=true)
 (J:n+m<=maxLen) (N:(n+m)*q<=140737488355328) (L:g<=w.heap.size)
 (u:∀v' w',w'.ownsRow g e b v' (n+m) (p++d)->w.grownBy w' v.ownBlock->wpList P ops Q F (a.put o.dst v') w'):wpList P ops Q (o::F) a w:=by
 cases k with
 |none=>
   obtain rfl:=K rfl;obtain rfl:d=[]:=Yq (by rw[hl];omega);refine iG y s x t B g e i b D A v n p C r c E (u v w ?_ (World.grownBy.refl w _));rw[Yd];exact r
 |some f=>exact wpList_append_own _ y s x t B g e i z b q D A V S M W T v n p C r f m c d E hl (R f rfl) G J N L fun v' w' H I _=>u v' w' H I
structure lT (B b:Nat) (p:Pr) (vars:List Pa) (v0 v1 v:C5) (w:C4):Prop where
 hB:B<=w.heap.size
 hBb:B<=b
 hb:b<w.heap.size
 ha:gN B w v0 p.wa
 hf:gO B w v1 p.funcs
 hv:gU w.heap.size (gR b w) v vars
theorem lT.off{tf:List Pa}{w':C4}(a:lT B b p tf v0 v1 v w)(c:fI b w.heap.size w w'):lT B b p tf v0 v1 v w' where
 hB:=Dy a.hB c.size
 hBb:=a.hBb
 hb:=Yb a.hb c.size
 ha:=a.ha.below (kZ c a.hB a.hBb) Zr
 hf:=a.hf.below (kZ c a.hB a.hBb) Zr
 hv:=a.hv.below c c.size
theorem lT.below{tf:List Pa}{w':C4}(a:lT B b p tf v0 v1 v w)(c:Cy w w'):lT B b p tf v0 v1 v w':=a.off (fI.wb c a.hb)
theorem lT.renv{tf:List Pa}(a:lT B b p tf v0 v1 v w):g3 w.heap.size p tf v0 v1 v w where
 hB:=D0 _
 ha:=a.ha.below Zb a.hB
 hf:=a.hf.below Zb a.hB
 hv:=a.hv.imp fun _ _ _ c=>fK.unhole c
theorem lT.form{tf:List Pa}(i:lT B b p tf v0 v1 v w):∃a e c f d g,v0=.slice a p.wa.length e/\v1=.slice c p.funcs.length f/\v=.slice d tf.length g:=i.renv.form
theorem xd{a:Nat}{l:List Pa}(d:w.ownsRow a 100 2 v l.length (l.flatMap kP.cs))(hb:b<a)(hl:l.length<=281474976710656):gU w.heap.size (gR b w) v l:=by
 have e:gU w.heap.size (fW (nS a) w) v l:=f4.params (B:=a) ⟨d,fun _ _=>trivial⟩ hl;refine e.imp fun g o _ c=>?_
 obtain⟨i,c⟩:=jb c;have f:g≠b:=by have:=kt.1 i;omega
 exact⟨c.1,(D6 (w:=w) (w':=gR b w) (uw w f)).trans c.2⟩
theorem tO:∀(l:List Pa) (g o:Nat),uv 2 (QT B w) l g o->∀j u,(l.flatMap kP.cs)[j]?=some u->w.cell? ⟨g,o+j,none⟩=some u
 |[],_,_,_,j,u,h=>Xb
 | x::r,g,o,hr,j,u,h=>by
   rw[Y2]at h
   match j with
   |0=>simp[kP]at h;subst h;exact hr.1.1.2
   |1=>simp[kP]at h;subst h;exact hr.1.2.2
   |j+2=>
     have:=tO r g (o+2) hr.2 j u (by simpa[kP]using h);rw[show o+(j+2)=o+2+j by omega];exact this
theorem XZ(l:List Pa):∀b∈l.flatMap kP.cs,b.oneCell'=true:=fun b c=>by
 obtain⟨x,_,a⟩:=List.mem_flatMap.1 c;simp[kP]at a;rcases a with rfl|rfl<;>rfl
theorem S5(l:List Pa):(l.flatMap kP.cs).length=l.length*2:=by
 induction l with
 |nil=>rfl
 |cons x r a=>rw[Y2,Dr,a,D1];show 2+_=_;omega
theorem vC(l:List Pa)(s:C3)(t:Int):(l++[(⟨s,t⟩:Pa)]).flatMap kP.cs=l.flatMap kP.cs++[.string s,.int .i64 t]:=by
 rw[List.flatMap_append];rfl
structure p7 (B b:Nat) (p:Pr) (vX:List Pa) (v0 v1 v:C5) (fs:C3) (ft:Int) (v2 v3:C5) (n:Nat) (w:C4) (m:Nat) (so:Obj) (thn els:List St) (v4 v5:C5) (W:C4):Prop where
 off:fI b w.heap.size w W
 row:W.heap[b]?=some (lS v0 v1 fs ft v2 v3 (fX n))
 env:lT B b p vX v0 v1 v W
 box:W.heap[m]?=some so
 s4:f6 B W v4 thn
 s5:f6 B W v5 els
 own:W.ownsRow w.heap.size 100 2 v vX.length (vX.flatMap kP.cs)
 ne:m≠b
 hb:b<w.heap.size
section
variable {B b:Nat}{p:Pr}{vX:List Pa}{v0 v1 v:C5}{fs:C3}{ft:Int}{v2 v3:C5}{n:Nat}{w:C4}{m:Nat}{so:Obj}{tg th:List St}{v4 v5:C5} {W W':C4}
theorem p7.step(a:p7 B b p vX v0 v1 v fs ft v2 v3 n w m so tg th v4 v5 W)(c:fI b W.heap.size W W'){e:Nat}(hb:W'.heap[b]?=some (lS v0 v1 fs ft v2 v3 (fX e))):p7 B b p vX v0 v1 v fs ft v2 v3 e w m so tg th v4 v5 W' where
 off:=a.off.trans (c.mono a.off.size)
 row:=hb
 env:=a.env.off c
 box:=(c.block (zB a.box) a.ne).trans a.box
 s4:=a.s4.below (kZ c a.env.hB a.env.hBb) Zr
 s5:=a.s5.below (kZ c a.env.hB a.env.hBb) Zr
 own:=zt a.own fun g d=>c.block (zP a.own g d).2 (by have:=(zP a.own g d).1;have:=a.hb;omega)
 ne:=a.ne
 hb:=a.hb
theorem p7.set(h:p7 B b p vX v0 v1 v fs ft v2 v3 n w m so tg th v4 v5 W):p7 B b p vX v0 v1 v fs ft v2 v3 (n+1) w m so tg th v4 v5 (W.setCell (b,6) ((fX (n+1)):Int)):=
 h.step ((fI.refl b _ W).wt (zB h.row) 6 _) (D3 h.row _)
end
theorem S6:(Tryz.prog.info? 100).map (fun i=>(i.zero,i.size,i.bytes))=some (some (.agg #[.string ⟨#[]⟩,(0:Int)]),2,24):=by kernel_rfl
def S7(b:Nat)(w:C4)(v0 v1:C5)(fs:C3)(ft:Int)(v2 v3:C5)(R:Int×Nat)(e:Ending)(w':C4):Prop:=
 e=.returned (R.1:Int)/\fI b w.heap.size w w'/\w'.heap[b]?=some (lS v0 v1 fs ft v2 v3 (fX R.2))
def ZV(m:Nat):Prop:=∀(B b:Nat) (p:Pr) (tf:List Pa) (l:List St) (ti:Bool) (n:Nat) (R:Int×Nat) (a v0 v1 v:C5) (fs:C3) (ft:Int) (v2 v3:C5) (w:C4),
 fL l m=true->mH p->zX p ft l tf tf.length ti n=R->lT B b p tf v0 v1 v w->w.heap[b]?=some (lS v0 v1 fs ft v2 v3 (fX n))->f6 B w a l->tf.length+fU l<=1000000000->
 Cz 73 #[(b,0),a,v,.bool ti] w (S7 b w v0 v1 fs ft v2 v3 R)
theorem ZV.call{m:Nat}(c:ZV m){B b:Nat}{p:Pr}{tf:List Pa}{l:List St}{ti:Bool}{n:Nat}{R:Int×Nat}{a v0 v1 v:C5}{fs:C3}{ft:Int}{v2 v3:C5}{w:C4}
 (d:fL l m=true) (e:mH p) (f:zX p ft l tf tf.length ti n=R) (g:lT B b p tf v0 v1 v w) (i:w.heap[b]?=some (lS v0 v1 fs ft v2 v3 (fX n))) (j:f6 B w a l) (k:tf.length+fU l<=1000000000):
 Cz 73 #[(b,0),a,v,.bool ti] w (S7 b w v0 v1 fs ft v2 v3 R):=c B b p tf l ti n R a v0 v1 v fs ft v2 v3 w d e f g i j k
