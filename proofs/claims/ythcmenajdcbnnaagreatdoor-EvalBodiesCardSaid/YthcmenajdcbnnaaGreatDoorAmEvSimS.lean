import Derived.Test.YthcmenajdcbnnaaGreatDoorAmEvOpr
set_option linter.unusedSimpArgs false
set_option linter.unusedVariables false
set_option maxRecDepth 100000
set_option maxHeartbeats 99000000
namespace Go.Proofs.YthcmenajdcbnnaaGreatDoor
open Go.RowKit Tryz
theorem Ip{p:Prop}(h:p:=by
 have E:=U a;have S:=U hE;have z:=U (hE.below (a.mono hE.hB));have T:=U (hE.below (a.drew.mono hE.hB));have y:=U ((a.block b s).trans hb);have R:=U ((a.drew.block b s).trans hb);have F:=U (k.below (a.mono hE.hB) Zr);have V:=U (k.below (a.drew.mono hE.hB) Zr);have C:=U hp;obtain⟨⟨_,_,_,_,_,_,_⟩,_⟩:=zR hb;clear hE hb hl hok hp u a c t l k;go_enter func100,ntmps100;go_wp2_with (go_at_call 119;(with_reducible refine(xE B b p tf _ _ _ _ _ _ _ _ _ fs ft n _ z.o y.o F.o A.o C.o D.o).mono ?_);rintro e _ ⟨rfl,J⟩);go_ret
 exact⟨rfl,E.o.trans (J.mono Uj)⟩):p:=h
theorem Iq{p:Prop}(h:p:=by
 have i:=U a;have m:=U hE;have n:=U (hE.below (a.mono hE.hB));have q:=U (hE.below (a.drew.mono hE.hB));have k:=U ((a.block b d).trans hb);have l:=U ((a.drew.block b d).trans hb);have s:=U hp;obtain⟨⟨_,_,_,_,_,_,_⟩,_⟩:=zR hb;clear hE hb hl hok hp e a;go_enter func100,ntmps100;cases ti
 all_goals
  go_wp2_with fail;go_ret
  exact⟨qK (by rw[<-g.o];rfl),i.o⟩):p:=h
theorem Ir{p:Prop}(h:p:=by
 show To p K _ (jz _ _ _ _ _ _ (0,0,_) l);unfold jz;rw[Dq rfl]
 exact To.one f):p:=h
variable{p:Pr}{f:Fu}{l:List Int}{K g a b c B:Nat}{v v0 v1:C4}{k ty:Int}{d:Bool}{w:C3}
theorem F0(t:St)(b d st a:Nat):(xD t b d st a)[0]?=some .beg:=by
 obtain⟨k,ty,td,tc,tg,th⟩:=t;rw[xD];split
 .rfl
 split
 .rfl
 split
 .rfl
 split
 .rfl
 .rfl
theorem F1(e:Ex)(b:Nat):(y8 e b)[0]?=some .beg:=by
 obtain⟨k,op,n,td,tc⟩:=e;rw[y8];split<;>rfl
theorem ST{td:C2}(a:(qP p.funcs td).isSome=true):∃f,jT p td=some f:=by
 obtain⟨j,b⟩:=Option.isSome_iff_exists.1 a;cases hg:jT p td with
 |some g=>exact⟨g,rfl⟩
 |none=>
   exfalso;unfold jT at hg;rw[b]at hg
   have d:∀(l:List Fu) (k:Nat),qP l td=some k->k<l.length:=by
    intro l
    induction l with
    |nil=>intro k a;cases a
    |cons x r c=>
      intro k a;rw[qP]at a;split at a
      .injection a with a;subst a;exact Cd _
      .cases hr:qP r td with
       |none=>rw[hr]at a;cases a
       |some j=>rw[hr]at a;injection a with a;have a:j+1=k:=a;have:=c j hr;rw[D1];omega
   have:=d _ _ b;rw[show(some j).bind (fun k=>p.funcs[k]?)=p.funcs[j]? from rfl,List.getElem?_eq_none_iff]at hg;omega
theorem SU(h:l.length=f.params.length):xi (fN f l)=f.params.map (·.name):=by
 unfold fN xi;exact List.map_fst_zip (by simp[h])
theorem SV:(fN f l).length<=l.length:=by
 unfold fN;rw[List.length_zip];exact Nat.min_le_right _ _
theorem F2(j:SR p)(w:FY p K g)(o:f∈p.funcs)(hl:l.length=f.params.length){t:RS}{v:List Int}{r:List Fr}(z:t.fuel<=g)(A:gP p t)(u:Lm K t v (fN f l) []):
 Sm p K ⟨t,v,⟨gE f,0,fN f l,[]⟩::r⟩ (qG (qn p g) (fN f l) f.body t) (fun b c=>XL v r b.2.1 c):=by
 obtain⟨q,s⟩:=j.r f o;have n:∀b c,qG (qn p g) (fN f l) f.body t=.ok b c->b.1=3:=fun b c e=>IY s q (j.e f o) e
 unfold qG at n ⊢;refine(C5 j.r w (lp:=⟨0,0,0,[]⟩) (d:=0) (m:=100) (ti:=false) (frm:=f.params.length) (ft:=f.type) f.body f.params (fN f l) 0 t 0 z A s q (SU hl) (fun i x b=>by rw[Yz];exact b) u Uh (Dx _) (fun b=>Xt) (fun b=>Xt)).bind fun a c y k=>?_
 have B:a.1=3:=n (a.1,a.2.1,a.2.2.take (fN f l).length) c (by rw[y];rfl);unfold jz at k;rw[Dp O,Dp O,Dp O]at k;exact k
theorem SW{tf:List Pa}{vs:fG}{td:C2}(d:xi vs=tf.map (·.name))(b:kN p tf k td=true):¬((k=3/\ja vs td=none)\/(k=6/\zZ p.wa td=none)):=by
 rintro(⟨rfl,c⟩|⟨rfl,c⟩)
 .unfold kN at b
  have a:(zv tf td).isSome=true:=Uo
  rw[<-rF d,c]at a;cases a
 .unfold kN at b
  have a:(zZ p.wa td).isSome=true:=Uo
  rw[c]at a;cases a
theorem N4(D:SR p)(hE:N3 p K g)(ak:FY p K g):N3 p K (g+1):=by
 intro x tf vs s m v tn b o r _ ar au hok J A E;have am:tn[b]?=some .beg:=A 0 _ (F1 x b);obtain⟨k,op,n,td,tc⟩:=x;obtain⟨Q,P,_,aw⟩:=ux au;have I:=uW aw;rw[kB,D2,D2,decide_eq_true_eq]at hok;rw[f0];have C:=ym (p:=p) (r:=r) E am;have ax:yC p .beg s v ⟨tn,b+1,vs,o⟩ r=match zj s with | .ok _ t=>.go ⟨t,v,⟨tn,b+1,vs,o⟩::r⟩ | .fin t=>.stop none t:=rfl
 rw[ax]at C;have X:=vw ar;cases hst:zj s with
 |fin t=>
   rw[hst]at C;exact To.one C
 |ok _ t=>
   rw[hst]at C X;have hp:=yy hst;have F:gP p t:=X;have z:Lm K t v vs o:=E.mv hp.mv;have H:t.fuel<=g:=by have:=hp.fuel;omega
   refine Sm.one C ?_;show Sm p K _ (if k=5/\(op=18\/op=19)then(f0 p g vs (tc.getD 0 jZ) t).bind _ else(iZ (f0 p g vs) tc t).bind _) _;rw[y8]at A;by_cases hb:k=5/\(op=18\/op=19)
   .rw[Dq hb]at A ⊢
    obtain⟨rfl,aq⟩:=hb;have ap:tc.length=2:=A9 hok.1.2
    obtain⟨d,q,rfl⟩:∃d q,tc=[d,q]:=by
     match tc,ap with
     |[d,q],_=>exact⟨d,q,rfl⟩
    rw[wX,qN,qN,Yd]at A;rw[qq,qq,D2,D2]at hok;have af:([d,q]:List Ex).getD 0 jZ=d:=rfl;have ag:([d,q]:List Ex).getD 1 jZ=q:=rfl;rw[af,ag];have ad:=I d Uh;have az:=I q Uh;refine(hE d tf vs t (m-1) v tn (b+1) o r H F ad hok.2.1 J A.tail.left z).bind fun a j al M=>?_
    have u:=qu p g vs d t;have B:=(jV p D.r g).1 tf vs d t H F ad;rw[al]at u B;have ab:=(A.tail.right (c:=b+1+zy d) (by rw[xr]))
    have i:=ym (p:=p) (r:=r) (z.push u.1 u.2.1 a) ab.head
    have S:yC p (.lzy (decide (op=18)) (b+1+zy d+1+zH [q])) j (v++[a]) ⟨tn,b+1+zy d+1,vs,o⟩ r=if decide (a=0)=decide (op=18)then .go ⟨j,v++[a],⟨tn,b+1+zy d+1+zH [q],vs,o⟩::r⟩else .go ⟨j,v,⟨tn,b+1+zy d+1,vs,o⟩::r⟩:=by
     show(match (v++[a]).getLast? with|none=>VR.bad|some n=>_)=_;rw[jP];dsimp only;rw[jA]
    rw[S]at i;have R:b+1+zy d+1+zH [q]=b+zy (.mk 5 op n td [d,q]):=by simp only[zy,zH];omega
    have Y:(decide (a≠0)=decide (op=19))↔(decide (a=0)=decide (op=18)):=by
     rcases aq with rfl|rfl<;>by_cases ah:a=0<;>simp[ah]
    by_cases L:decide (a=0)=decide (op=18)
    .rw[Dq (Y.2 L)]
     rw[Dq L,R]at i;exact To.go M (To.one i)
    .rw[Dp (fun y=>L (Y.1 y))]
     rw[Dp L]at i;refine Sm.go (To.go M (To.one i)) ((hE q tf vs j (m-1) v tn (b+1+zy d+1) o r (by have:=u.2.1;omega) B az hok.2.2.1 J ab.tail (z.mv u.1)).imp fun c w _=>?_);rw[show b+1+zy d+1+zy q=b+zy (.mk 5 op n td [d,q])by simp only[zy,zH];omega]
   .rw[Dp hb]at A ⊢
    refine(ZL D.r hE J tc t v (b+1) H F I hok.2 A.tail.left z).bind fun l j hl M=>?_
    have Z:=KU hl;have aC:=FX (fun e s=>qu p g vs e s) hl;have u:=mD (fun e s=>(qu p g vs e s).le (Dx _)) tc t;have B:=sE (p:=p) (g:=g) (fun x s=>(qu p g vs x s).le (Dx _)) tc t H F fun ae ay s W ai=>(jV p D.r g).1 tf vs ae s W ai (I ae ay)
    rw[hl]at u B;have B:gP p j:=B;have aj:Lm K j (v++l) vs o:=⟨by have:=z.v;rw[Dr];omega,(z.mv u.1).c,(z.mv u.1).vs,E.o⟩
    have ao:=(A.tail.right (c:=b+1+zH tc) (by rw[jF])).head;have i:=ym (p:=p) (r:=r) aj ao;obtain⟨T,V⟩:=SQ v l;rw[Z]at T V;have R:b+1+zH tc+1=b+zy (.mk k op n td tc):=by rw[zy];omega
    have S:yC p (.app (.mk k op n td tc)) j (v++l) ⟨tn,b+1+zH tc+1,vs,o⟩ r=pJ p k op n td tc.length j (v++l) ⟨tn,b+1+zH tc+1,vs,o⟩ r:=rfl;rw[S]at i;unfold pJ at i;rw[Dp (fun y=>y.elim (fun y=>by rw[Dr]at y;omega) (fun y=>by rw[hok.1.2]at y;cases y)),T,V,R]at i;refine Sm.go M ?_;by_cases N:k=7
    .subst N
     rw[Dq rfl]at i;obtain⟨f,G⟩:=ST (p:=p) (td:=td) (by unfold kN at Q;simpa using Q)
     have aa:f.params.length=tc.length:=by
      unfold xQ at P;rw[Dq rfl,G]at P;exact(of_decide_eq_true P).symm
     rw[G]at i;dsimp only at i;rw[Dq aa]at i
     have an:(zV j).cost+(zV j).fuel<=K:=by
      have aA:=hp.pay;have aB:=u.1.pay;have W:=E.c;show j.cost+1+j.fuel<=K;omega
     refine Sm.one i ?_;rw[sV _ _ _ _ _ _ _ _ G];refine(F2 D ak (hV G) (Z.trans aa.symm) (t:=zV j) (v:=v) (r:=⟨tn,b+zy (.mk 7 op n td tc),vs,o⟩::r) (by show j.fuel<=g;omega) B.pay ⟨by have:=z.v;show v.length+j.fuel<=K;omega,an,?_,Uh⟩).bind fun y w _ av=>av
     have:=SV (f:=f) (l:=l);have:=z.v;show(fN f l).length+j.fuel<=K;omega
    .rw[Dp N,Dp (SW J Q)]at i
     rw[IZ p _ (fun _ _ s=>.fin s) vs op n td l j N];cases he:qQ p (fun _ _ s=>.fin s) vs k op n td l j with
     |ok a w=>rw[he]at i;exact To.one i
     |fin w=>rw[he]at i;exact To.one i
theorem j0{td:C2}(h:zn k ty td a b c d=true)(_:k≠3/\k≠6/\k≠7):a=1:=by
 unfold zn at h;split at h
 .simp at h;omega
 split at h
 .simp at h;omega
 split at h
 .omega
 split at h
 .simp at h;omega
 split at h
 .simp at h;omega
 split at h
 .omega
 split at h
 .simp at h;omega
 split at h
 .simp at h;omega
 .cases h
theorem BB{td:C2}(h:zn 3 ty td a b c d=true):a=2:=by
 unfold zn at h;rw[Dp Uf,Dp Uf,Dq rfl]at h;simp at h;omega
theorem zaf{td:C2}(e:zn k ty td a b c d=true)(f:k=1\/k=2\/k=3):uk td=true:=by
 unfold zn at e;rcases f with rfl|rfl|rfl<;>simp at e<;>simp[e]
theorem Sm.jmp{m:Vm}{x:fR xx}{lp:Lp}{tn:List fO}{j e:Nat}{o:List Nat}{v:List Int}{r:List Fr}(b:Sm p K m x (jz lp tn j o v r))(f:tn[j]?=some (.jmp e))(d:∀a t,x=.ok a t->Lm K t v a.2.2 o):Sm p K m x (jz lp tn e o v r):=by
 cases x with
 |fin t=>exact b
 |ok a t=>
   have b:To p K m (jz lp tn j o v r a t):=b;show To p K m (jz lp tn e o v r a t);unfold jz at b ⊢;by_cases c:a.1=0
   .rw[Dq c]at b ⊢
    refine To.go b (To.one ?_);rw[ym (d a t rfl) f];rfl
   .rw[Dp c]at b ⊢
    exact b
theorem N5(ab:SR p)(hE:N3 p K g)(ag:FY p K g):FY p K (g+1):=by
 intro st ft tf vs frm ti n s m v tn b o r d lp _ a3 hok aV E i af an aE ak;have aU:tn[b]?=some .beg:=i 0 _ (F0 st b d lp.st lp.br);obtain⟨k,ty,td,tc,tg,th⟩:=st;obtain⟨F,⟨n1,J⟩,n2,hl⟩:=tE aV;rw[jn]at hok;simp only[D2,decide_eq_true_eq]at hok;have bb:=CK hok.1.1.1.2;have al:=hok.1.1.1.1;rw[qn];have W:=ym (p:=p) (r:=r) af aU;have a7:yC p .beg s v ⟨tn,b+1,vs,o⟩ r=match zj s with | .ok _ t=>.go ⟨t,v,⟨tn,b+1,vs,o⟩::r⟩ | .fin t=>.stop none t:=rfl
 rw[a7]at W;have az:=vw a3;cases hst:zj s with
 |fin t=>
   rw[hst]at W;exact To.one W
 |ok _ t=>
   rw[hst]at W az;have hp:=yy hst;have ah:gP p t:=az;have B:Lm K t v vs o:=af.mv hp.mv;have ai:t.fuel<=g:=by have:=hp.fuel;omega
   refine Sm.one W ?_;show Sm p K _ (if k=5 then _ else if k=6 then _ else if k=7 then _ else _) _;have a1:tf.length=vs.length:=by have:=congrArg List.length E;simp[xi]at this;omega
   have aF:k≠1->jd k ty td tf=tf:=fun y=>by unfold jd;rw[Dp y]
   by_cases N:k=5
   .subst N
    obtain⟨e,rfl⟩:∃e,tc=[e]:=by
     have:=j0 hok.1.1.1.2 Uf
     match tc,this with
     |[e],_=>exact⟨e,rfl⟩
    rw[Dq rfl];have Q:=i3 F Uf Uf Uf;rw[xD,Dp Uf,Dq rfl]at i;rw[xa,Dp Uf,Dq rfl];rw[aF Uf]at J;rw[show(ti || decide ((5 :Int)=5))=true by simp]at J;rw[qq,D2]at hok
    have ap:wJ tn (b+1) (y8 e (b+1)):=by
     have:=i.tail.left;rw[qN,qN,Yd]at this;exact this
    have S:zH [e]=zy e:=by rw[zH,zH];rfl
    rw[S]at i ⊢;have V:=i.tail.right (c:=b+1+zy e) (by rw[jF,S]);have I:=V.tail
    have aH:=ZM (lp:=lp) ab.r hE ag (tf:=tf) (e:=e) (tg:=tg) (tn:=tn) (st:=b+1) (c:=b+1+zy e) (j:=b+zy e+2+qY tg 0) (o:=o) (r:=r) (v:=v) (m:=m) (frm:=tf.length) (ft:=ft) Q.1 hok.1.1.2.1 ap rfl
     (by rw[show b+zy e+2+qY tg 0+1=b+zy e+3+lB tg (fJ tg) 0 by unfold qY;omega];exact V.head)
     (by rw[show b+zy e+2+qY tg 0+1=b+zy e+3+lB tg (fJ tg) 0 by unfold qY;omega,show b+1+zy e+1=b+zy e+2 by omega];have P:=I.left;rw[show b+1+zy e+1=b+zy e+2 by omega]at P;exact P) O
     ((I.right (c:=b+zy e+2+qY tg 0) Gl).head) hok.1.2 J al an a1 (t.fuel+1) vs t (Nat.lt_succ_self _) ai ah E B
    rw[show b+zy e+2+qY tg 0+1=b+(zy e+3+lB tg (fJ tg) 0)by unfold qY;omega]at aH;exact aH
   rw[Dp N];by_cases ax:k=6\/k=7
   .have a0:=tF F ax
    subst a0;obtain⟨⟨q,au,a8,a9,q4,ba⟩⟩:=ak rfl
    have aL:∀z,wJ tn b (fO.beg::(List.replicate d fO.lve++[fO.jmp z]))->To p K ⟨t,v,⟨tn,b+1,vs,o⟩::r⟩ (.go ⟨t,v,⟨tn,z,vs.take lp.n,lp.o⟩::r⟩):=fun z aJ=>by
     have Z:=tH (p:=p) (K:=K) (s:=t) (v:=v) (r:=r) (lo:=lp.o) (n:=lp.n) d q vs (b+1) aJ.tail.left (au▸B) a8 a9 (fun y=>Dv (q4 y)) ba;rw[<-au]at Z;have aQ:Lm K t v (vs.take lp.n) lp.o:=⟨B.v,B.c,by have:=B.vs;rw[Yg];omega,by have:=B.o;rw[au,Dr]at this;omega⟩
     refine To.go Z (To.one ?_);rw[ym aQ ((aJ.tail.right (c:=b+1+d) (by rw[Cf])).head)];rfl
    by_cases aN:k=6
    .subst aN
     rw[Dq rfl];rw[xD,Dp Uf,Dp Uf,Dq rfl]at i;show To p K _ (jz _ _ _ _ _ _ (1,0,vs) t);unfold jz;rw[Dp (show ¬(1 :Int)=0 by decide),Dq rfl];exact aL _ i
    .have aO:k=7:=by omega
     subst aO;rw[Dp Uf,Dq rfl];rw[xD,Dp Uf,Dp Uf,Dp Uf,Dq rfl]at i;show To p K _ (jz _ _ _ _ _ _ (2,0,vs) t);unfold jz;rw[Dp (show ¬(2 :Int)=0 by decide),Dp (show ¬(2 :Int)=1 by decide),Dq rfl];exact aL _ i
   rw[Dp O,Dp O];have Q:=i3 F O O O
   have aT:∃e q,tc=e::q:=by
    cases tc with
    |nil=>
      have P:zn k ty td 0 tg.length th.length (PZ [])=true:=hok.1.1.1.2;by_cases C:k=3
      .subst C;have:=BB P;omega
      .have:=j0 P ⟨C,O,O⟩;omega
    |cons e q=>exact⟨e,q,rfl⟩
   obtain⟨e,q,rfl⟩:=aT;have ay:(qE p tf e).2=0:=Q.1;rw[qq,D2]at hok
   have aq:wJ tn (b+1) (qN (e::q) (b+1)):=by
    by_cases D:k=4
    .rw[xD,Dq D]at i
     exact i.tail.left
    .rw[xD,Dp D,Dp N,Dp O,Dp O]at i
     exact i.tail.left
   show Sm p K _ ((f0 p g vs e t).bind _) _;rw[qN]at aq;refine(hE e tf vs t 100 v tn (b+1) o r ai ah ay hok.1.1.2.1 E aq.left B).bind fun a l aS T=>?_
   have M:=qu p g vs e t;have H:=(jV p ab.r g).1 tf vs e t ai ah ay;rw[aS]at M H;have H:gP p l:=H;have R:=B.mv M.1;have ad:=B.push M.1 M.2.1 a;have aj:l.fuel<=g:=by have:=M.2.1;omega
   have am:k=1\/k=2\/k=3->¬(k<=3/\uk td=false):=fun y aa=>by rw[zaf hok.1.1.1.2 y]at aa;cases aa.2
   by_cases D:k=4
   .subst D
    have ao:q=[]:=by have:=j0 hok.1.1.1.2 Uf;exact Yq Jw
    subst ao;rw[Dp Uf,Dp Uf,Dp Uf,Dq rfl];rw[xD,Dq rfl]at i;rw[xa,Dq rfl];rw[aF Uf]at J hl;rw[show(ti || decide ((4 :Int)=5))=ti by simp]at J;have S:zH [e]=zy e:=by rw[zH,zH];rfl
    rw[S]at i ⊢;have V:=i.tail.right (c:=b+1+zy e) (by rw[jF,S]);have aG:=ym (p:=p) (r:=r) ad V.head
    have X:yC p (.unl (b+zy e+3+lB tg (fJ tg) d)) l (v++[a]) ⟨tn,b+1+zy e+1,vs,o⟩ r=.go ⟨l,v,⟨tn,if a=0 then b+zy e+3+lB tg (fJ tg) d else b+zy e+2,vs,o⟩::r⟩:=by
     show(match (v++[a]).getLast? with|none=>VR.bad|some n=>_)=_;rw[jP];dsimp only;rw[jA];by_cases A:a=0
     .rw[Dq A,Dq A]
     .rw[Dp A,Dp A,show b+1+zy e+1=b+zy e+2 by omega]
    rw[X]at aG;have T:=To.go T (To.one aG);have I:=V.tail;rw[show b+1+zy e+1=b+zy e+2 by omega]at I;have aC:=I.right (c:=b+zy e+2+qY tg d) Gl;refine Sm.go T ?_;by_cases A:a=0
    .rw[Dq A,Dp Gb]
     refine(SS ab.r ag (ft:=ft) (lp:=lp) (m:=m) (ti:=ti) (d:=d) (frm:=tf.length) th tf vs n2 l (b+zy e+3+lB tg (fJ tg) d) aj H hok.2 hl E ?_ R al an aE ak).imp fun y w _=>?_
     .have:=aC.tail
      rw[show b+zy e+2+qY tg d+1=b+zy e+3+lB tg (fJ tg) d by unfold qY;omega]at this;exact this
     .rw[show b+zy e+3+lB tg (fJ tg) d+qY th d=b+(zy e+3+lB tg (fJ tg) d+lB th (fJ th) d)by unfold qY;omega]
    .rw[Dp A,Dq Gb]
     have aP:=SS ab.r ag (ft:=ft) (lp:=lp) (m:=m) (ti:=ti) (d:=d) (frm:=tf.length) (r:=r) tg tf vs n1 l (b+zy e+2) aj H hok.1.2 J E I.left R al an aE ak;have aD:=aC.head;rw[show b+zy e+3+lB tg (fJ tg) d+lB th (fJ th) d=b+(zy e+3+lB tg (fJ tg) d+lB th (fJ th) d)by omega]at aD;refine aP.jmp aD fun y w aX=>?_
     have Y:=xf (fun vs t s=>(ks p g vs t s).le (Dx _)) vs tg l
     have aw:=mU (fun vs t s=>by
      obtain⟨k,ty,td,tc,tg,th⟩:=t
      exact⟨_,iD p g vs k ty td tc tg th s⟩) vs tg l
     rw[aX]at Y aw;have bc:y.2.2.length=vs.length:=zAd aw;exact⟨(R.mv Y.1).v,(R.mv Y.1).c,by have:=(R.mv Y.1).vs;omega,af.o⟩
   rw[xD,Dp D,Dp N,Dp O,Dp O]at i;have aZ:xa (.mk k ty td (e::q) tg th) d=zH (e::q)+2:=by rw[xa,Dp D,Dp N,Dp ax]
   rw[aZ];have ae:=(i.tail.right (c:=b+1+zH (e::q)) (by rw[jF])).head;rw[show b+(zH (e::q)+2)=b+1+zH (e::q)+1 by omega];by_cases C:k=3
   .subst C
    have aa:q.length=1:=by have:=BB hok.1.1.1.2;simpa using this
    obtain⟨u,rfl⟩:∃u,q=[u]:=by
     match q,aa with
     |[u],_=>exact⟨u,rfl⟩
    rw[Dp Uf,Dp Uf,Dq rfl];have aI:=aq.right (c:=b+1+zy e) (by rw[xr]);rw[qN,qN,Yd]at aI;have a4:(qE p tf u).2=0:=Q.2.1 rfl
    have a2:xw u 100=true:=by
     have:=hok.1.1.2.2;rw[qq,D2]at this;exact this.1
    refine Sm.go T ?_;show Sm p K _ ((f0 p g vs u l).bind _) _;refine(hE u tf vs l 100 (v++[a]) tn (b+1+zy e) o r aj H a4 a2 E aI ad).bind fun x w ap a5=>?_
    have av:=qu p g vs u l;rw[ap]at av;have aR:=ad.push av.1 av.2.1 x;refine Sm.go a5 ?_;rw[show b+1+zH [e,u]=b+1+zy e+zy u by simp only[zH];omega]at ae ⊢;have f:=ym (p:=p) (r:=r) aR ae
    have aB:(zZ p.wa td).isSome=true:=by
     unfold jG at F;rw[Dp Uf,Dp Uf,Dq rfl]at F;by_cases aA:(zZ p.wa td).isSome=true
     .exact aA
     .rw[Dp aA]at F;exact absurd F Uf
    have aY:zZ p.wa td≠none:=fun y=>by rw[y]at aB;cases aB
    have X:yC p (.fin (.mk 3 ty td [e,u] tg th)) w (v++[a]++[x]) ⟨tn,b+1+zy e+zy u+1,vs,o⟩ r=match yZ p td a x (zV w)with | .ok _ t=>.go ⟨t,v,⟨tn,b+1+zy e+zy u+1,vs,o⟩::r⟩ | .fin t=>.stop none t:=by
     show lF p 3 td w (v++[a]++[x]) _ r=_;unfold lF;rw[jP];dsimp only;rw[Dp (am (.inr (.inr rfl))),Dp Uf,Dp Uf,Dq rfl,jA,jP];dsimp only;rw[Dp aY,jA];cases yZ p td a x (zV w)<;>rfl
    rw[X]at f;cases hput:yZ p td a x (zV w)with
    |fin aM=>rw[hput]at f;exact To.one f
    |ok _ aM=>
      rw[hput]at f;show To p K _ (jz _ _ _ _ _ _ (0,0,vs) aM);unfold jz;rw[Dq rfl];exact To.one f
   have Z:(e::q).length=1:=j0 hok.1.1.1.2 ⟨C,O,O⟩;have ao:q=[]:=Yq (by simpa using Z);subst ao;refine Sm.go T ?_;rw[show b+1+zH [e]=b+1+zy e by rw[zH,zH];rfl]at ae ⊢;have f:=ym (p:=p) (r:=r) ad ae;have X:yC p (.fin (.mk k ty td [e] tg th)) l (v++[a]) ⟨tn,b+1+zy e+1,vs,o⟩ r=lF p k td l (v++[a]) ⟨tn,b+1+zy e+1,vs,o⟩ r:=rfl;rw[X]at f;unfold lF at f;rw[jP]at f;dsimp only at f;rw[jA]at f;by_cases G:k=1
   .rw[Dp (am (.inl G)),Dq G]at f
    rw[Dq G];exact Ir
   by_cases L:k=2
   .obtain⟨_,a6⟩:=Q.2.2 L
    have aW:ja vs td≠none:=fun y=>by
     have:=rF E td;rw[y,a6]at this;cases this
    rw[Dp (am (.inr (.inl L))),Dp G,Dq L,Dp aW]at f;rw[Dp G,Dq L];exact Ir
   rw[Dp O,Dp G,Dp L,Dp C]at f;rw[Dp G,Dp L,Dp C,Dp D];by_cases ar:k=8
   .rw[Dq ar]at f ⊢
    show To p K _ (jz _ _ _ _ _ _ (3,a,_) l);unfold jz;rw[Dp (by show ¬(3 :Int)=0;decide),Dp (by show ¬(3 :Int)=1;decide),Dp (by show ¬(3 :Int)=2;decide)];exact To.one f
   by_cases aK:k=9
   .rw[Dp ar,Dq aK]at f ⊢
    show To p K _ (jz _ _ _ _ _ _ (0,0,_) _);unfold jz;rw[Dq rfl];exact To.one f
   .rw[Dp ar,Dp aK]at f ⊢
    rw[Dq O]at f;exact Ir
theorem K6(a:SR p)(K:Nat):∀g,N3 p K g/\FY p K g
 | 0=>⟨fun x tf vs s m v tn b o r k l _ _ _ f c=>by
    rw[f0];have e:s.fuel=0:=O
    have i:=ym (p:=p) (r:=r) c (f 0 _ (F1 x b));refine To.one (i.trans ?_);show(match zj s with | .ok _ t=>VR.go _ | .fin t=>.stop none t)=_;unfold zj;rw[e],fun st ft tf vs frm ti n s m v tn b o r d lp k l _ _ _ f c _ _ _=>by
    rw[qn];have e:s.fuel=0:=O
    have i:=ym (p:=p) (r:=r) c (f 0 _ (F0 st b d lp.st lp.br));refine To.one (i.trans ?_);show(match zj s with | .ok _ t=>VR.go _ | .fin t=>.stop none t)=_;unfold zj
    rw[e]⟩
 | g+1=>by
   obtain⟨hE,j⟩:=K6 a K g;exact⟨N4 a hE j,N5 a hE j⟩
abbrev lR(v0 v1:C4)(s:C2)(t:Int)(v2 v3:C4)(n:Int):Obj:=.cells #[v0,v1,s,(t:Int),v2,v3,(n:Int)] 126
theorem zR{b c d e c4 c5 f:C4}{T:TypeId}(a:w.heap[g]?=some (.cells #[b,c,d,e,c4,c5,f] T (0,0))):(w.cell? (g,0)=some b/\w.cell? (g,1)=some c/\w.cell? (g,2)=some d/\w.cell? (g,3)=some e/\w.cell? (g,4)=some c4/\w.cell? (g,5)=some c5/\w.cell? (g,6)=some f)/\∀o,w.frozen? ⟨g,o,none⟩=false:=
 ⟨⟨(Du a 0).trans rfl,(Du a 1).trans rfl,(Du a 2).trans rfl,(Du a 3).trans rfl,(Du a 4).trans rfl,(Du a 5).trans rfl,(Du a 6).trans rfl⟩,fun o=>Ki⟩
theorem xE(B b:Nat)(p:Pr)(tf:List Pa)(e:Ex)(t r:Int)(x v0 v1 v v2 v3:C4)(fs:C2)(ft n:Int)(w:C3)(hE:g3 B p tf v0 v1 v w)(hb:w.heap[b]?=some (lR v0 v1 fs ft v2 v3 n))(V:j7 B w e x)(hok:xw e 100=true)(hp:mG p)(A:jO p tf e t=r):
 Cy 119 #[(b,0),v,x,(t:Int)] w (Cv (r:Int) w):=by
 obtain⟨D,N,E,P,_,_,rfl,rfl,rfl⟩:=hE.form;obtain⟨c,g,d,i,a⟩:=e;obtain⟨_,rfl,s,k⟩:=V;dsimp only[Ex.kind,Ex.op,Ex.n,Ex.name,Ex.args]at k s ⊢;obtain⟨A5,c5,rfl,_⟩:=k.form;have Q:=zB hb;obtain⟨⟨_,_,_,_,_,_,_⟩,_⟩:=zR hb;obtain⟨⟨ty,f⟩,u⟩:=Cz (qE p tf (.mk c g d i a));have C:(if f=0 then(if ty=t then 0 else 51)else f)=r:=by rw[<-A];unfold jO;rw[u]
 have l:Cx w (w.alloc (jL c g d i A5 a.length c5)).drew:=(Zb.alloc Zr _).drew;have J:=U l;have F:=U (hE.below (l.mono hE.hB));have M:=C0 (j7 B (w.alloc (jL c g d i A5 a.length c5)).drew (.mk c g d i a) (.agg #[(c:Int),(g:Int),(d:Int),i,(A5,a.length,c5)])) ⟨_,rfl,s,k.below (l.mono hE.hB) Zr⟩;have I:=U u;have L:=U C;have G:=U hok;have H:=U hp;have T:f=0/\ty=t\/f=0/\ty≠t\/f≠0:=O
 clear hE hb k hok hp A u C l s;rcases T with⟨j,z⟩|⟨j,z⟩|j
 all_goals
  first
   |(subst j;subst z)
   |(subst j)
   |skip
  go_enter func119,ntmps119;go_wp2_with fail
  go_region_held3 (fun w'=>w'.cell? (b,0)=some (.slice D p.wa.length N)/\w'.cell? (b,1)=some (.slice E p.funcs.length P)/\w'.cell? (w.heap.size,0)=some (.int .i64 c)/\w'.cell? (w.heap.size,1)=some (.int .i64 g)/\w'.cell? (w.heap.size,2)=some (.int .i64 d)/\w'.cell? (w.heap.size,3)=some (.string i)/\w'.cell? (w.heap.size,4)=some (.slice A5 a.length c5))
   (first
     |(go_split_ands;refine⟨?_,?_,?_,?_,?_,?_,?_⟩ <;>(first|(rw[S];assumption)|(rw[R];simp;done)))
     |go_keep)
   (first
     | (go_at_call 120
        (refine((oM 100).call (w:=(w.alloc (jL c g d i A5 a.length c5)).drew) G.o H.o I.o F.o M.o).mono ?_)
        rintro e y ⟨rfl,m⟩;have q:Cx w y:=J.o.trans (m.mono Up);have S:∀o,y.cell? ⟨b,o,none⟩=w.cell? ⟨b,o,none⟩:=fun o=>q.cell (p:=⟨b,o,none⟩) Q
        have R:∀o,y.cell? ⟨w.heap.size,o,none⟩=(w.alloc (jL c g d i A5 a.length c5)).cell? ⟨w.heap.size,o,none⟩:=fun o=>m.cell (p:=⟨w.heap.size,o,none⟩) Uv
        have K:=U q
        clear m q))
  go_wp2_with fail
  all_goals go_ret
  all_goals refine⟨qK ?_,K.o⟩
  all_goals
   have W:=L.o
   simp_all
theorem F3{α:Type}{b:Nat}{F:α->Nat->Nat->Prop}:∀(k:Nat) (l:List α) (g o:Nat),um b F l g o->um b F (l.drop k) g (o+k*b)
 |0,l,g,o,h=>Xq
 |k+1,[],g,o,h=>trivial
 | k+1,a::r,g,o,h=>by
   have:=F3 k r g (o+b) h.2;rw[List.drop_succ_cons,show o+(k+1)*b=o+b+k*b by rw[Nat.add_mul,Nat.one_mul];omega];exact this
theorem F4(g o k:Nat):(⟨g,o,none⟩:Addr).add k=⟨g,o+k,none⟩:=Ky
theorem gT.dropS{a:Option Addr}{l:List Pa}(b:gT B w (.slice a l.length c) l)(k:Nat)(_:k<=l.length):gT B w (.slice (if c=k then a else Option.map (fun x=>x.add (k*2)) a) (l.length-k) (c-k)) (l.drop k):=by
 have f:=b.2 a l.length c rfl;refine⟨⟨_,c-k,by rw[Ys],?_,fun hp=>?_⟩,fun _ _ _ e=>Kg⟩
 .obtain⟨_,_,_,_⟩:=b.form
  rw[Ys];omega
 .rw[Ys]at hp
  obtain⟨g,o,rfl,d⟩:=vd.elem b.1 rfl O;refine⟨g,o+k*2,?_,F3 k l g o d⟩;rw[Dp O,Option.map_some,F4]
theorem F5{α:Type}{b:Nat}{F:α->Nat->Nat->Prop}:∀(k:Nat) (l:List α) (g o:Nat),um b F l g o->um b F (l.take k) g o
 |0,l,g,o,h=>trivial
 |k+1,[],g,o,h=>trivial
 |k+1,a::r,g,o,h=>⟨h.1,F5 k r g (o+b) h.2⟩
set_option linter.unusedSectionVars false
section
variable (B b:Nat)(p:Pr)(tf:List Pa)(ty:Int)(td:C2)(tc:List Ex)(frm:Nat)(ti:Bool)(A4:Option Addr)(n4 c4:Nat)(A5:Option Addr)(n5 c5:Nat)(r:Int)(v3 v0 v1 v v2 vb:C4)(fs:C2)(ft n:Int)(w:C3)
variable (hE:g3 B p tf v0 v1 v w)(hb:w.heap[b]?=some (lR v0 v1 fs ft v2 vb n))(hl:kU B w v3 tc)(hok:zx tc 100=true)(hp:mG p)(hfr:frm<=tf.length)
include hE hb hl hok hp hfr in
theorem XS(H:tc.length=1)(u:jG p ft 4 ty td tc tf frm ti=r):Cy 100 #[(b,0),oB 4 ty td v3 (.slice A4 n4 c4) (.slice A5 n5 c5),v,((frm:Int):Int),.bool ti] w (Cv (r:Int) w):=by
 have X:0<tc.length:=O
 obtain⟨⟨f,i,g,j,d⟩,c⟩:∃e,tc[0]?=some e:=⟨_,Dy O⟩
 have t:tc.getD 0 jZ=.mk f i g j d:=by
  rw[Yl,c];rfl
 have A:=U (q9 hok c);have D:=U (show jO p tf (.mk f i g j d) 2=r by rw[<-u,jG];rw[Dp Uf,Dp Uf,Dp Uf,Dq Uf,t]);clear H;obtain⟨_,_,_,_,_,_,rfl,rfl,rfl⟩:=hE.form;obtain⟨_,G,rfl,_⟩:=hl.form;obtain⟨q,m,_,I,_,L,M,N,P,Q,l⟩:=hl.cells c;subst I;rw[show m+0*5=m by omega]at L M N P Q;obtain⟨x,K,rfl,_⟩:=l.form;have k:j7 B w (.mk f i g j d) (.agg #[(f:Int),(i:Int),(g:Int),j,(x,d.length,K)]):=⟨_,rfl,hl.range c,l⟩
 have W:q<w.heap.size:=Xi
 have s:=zB hb;have a:Cx w (w.alloc (qh 4 ty td (.slice (some ⟨q,m,none⟩) tc.length G) (.slice A4 n4 c4) (.slice A5 n5 c5))):=Zb.alloc Zr _;exact Ip
include hE hb hl hok hp hfr in
theorem I0(H:tc.length=1)(u:jG p ft 5 ty td tc tf frm ti=r):Cy 100 #[(b,0),oB 5 ty td v3 (.slice A4 n4 c4) (.slice A5 n5 c5),v,((frm:Int):Int),.bool ti] w (Cv (r:Int) w):=by
 have X:0<tc.length:=O
 obtain⟨⟨f,i,g,j,d⟩,c⟩:∃e,tc[0]?=some e:=⟨_,Dy O⟩
 have t:tc.getD 0 jZ=.mk f i g j d:=by
  rw[Yl,c];rfl
 have A:=U (q9 hok c);have D:=U (show jO p tf (.mk f i g j d) 2=r by rw[<-u,jG];rw[Dp Uf,Dp Uf,Dp Uf,Dq Uf,t]);clear H;obtain⟨_,_,_,_,_,_,rfl,rfl,rfl⟩:=hE.form;obtain⟨_,G,rfl,_⟩:=hl.form;obtain⟨q,m,_,I,_,L,M,N,P,Q,l⟩:=hl.cells c;subst I;rw[show m+0*5=m by omega]at L M N P Q;obtain⟨x,K,rfl,_⟩:=l.form;have k:j7 B w (.mk f i g j d) (.agg #[(f:Int),(i:Int),(g:Int),j,(x,d.length,K)]):=⟨_,rfl,hl.range c,l⟩
 have W:q<w.heap.size:=Xi
 have s:=zB hb;have a:Cx w (w.alloc (qh 5 ty td (.slice (some ⟨q,m,none⟩) tc.length G) (.slice A4 n4 c4) (.slice A5 n5 c5))):=Zb.alloc Zr _;exact Ip
include hE hb hl hok hp hfr in
theorem I1(H:tc.length=1)(u:jG p ft 9 ty td tc tf frm ti=r):Cy 100 #[(b,0),oB 9 ty td v3 (.slice A4 n4 c4) (.slice A5 n5 c5),v,((frm:Int):Int),.bool ti] w (Cv (r:Int) w):=by
 have X:0<tc.length:=O
 obtain⟨⟨f,i,g,j,d⟩,c⟩:∃e,tc[0]?=some e:=⟨_,Dy O⟩
 have t:tc.getD 0 jZ=.mk f i g j d:=by
  rw[Yl,c];rfl
 have A:=U (q9 hok c);have D:=U (show jO p tf (.mk f i g j d) 1=r by rw[<-u,jG];rw[Dp Uf,Dp Uf,Dp Uf,Dp Uf,Dp Uf,Dq Uf,t]);clear H;obtain⟨_,_,_,_,_,_,rfl,rfl,rfl⟩:=hE.form;obtain⟨_,G,rfl,_⟩:=hl.form;obtain⟨q,m,_,I,_,L,M,N,P,Q,l⟩:=hl.cells c;subst I;rw[show m+0*5=m by omega]at L M N P Q;obtain⟨x,K,rfl,_⟩:=l.form;have k:j7 B w (.mk f i g j d) (.agg #[(f:Int),(i:Int),(g:Int),j,(x,d.length,K)]):=⟨_,rfl,hl.range c,l⟩
 have W:q<w.heap.size:=Xi
 have s:=zB hb;have a:Cx w (w.alloc (qh 9 ty td (.slice (some ⟨q,m,none⟩) tc.length G) (.slice A4 n4 c4) (.slice A5 n5 c5))):=Zb.alloc Zr _;exact Ip
include hE hb hl hok hp hfr in
theorem F6(N:tc.length=1)(D:jG p ft 8 ty td tc tf frm ti=r):Cy 100 #[(b,0),oB 8 ty td v3 (.slice A4 n4 c4) (.slice A5 n5 c5),v,((frm:Int):Int),.bool ti] w (Cv (r:Int) w):=by
 have af:0<tc.length:=O
 obtain⟨⟨i,k,j,l,f⟩,g⟩:∃e,tc[0]?=some e:=⟨_,Dy O⟩
 have C:tc.getD 0 jZ=.mk i k j l f:=by
  rw[Yl,g];rfl
 have H:=U (q9 hok g);have J:=U (show jO p tf (.mk i k j l f) ft=r by rw[<-D,jG];rw[Dp Uf,Dp Uf,Dp Uf,Dp Uf,Dq Uf,C]);clear N;obtain⟨_,_,_,_,_,_,rfl,rfl,rfl⟩:=hE.form;obtain⟨_,m,rfl,_⟩:=hl.form;obtain⟨a,c,_,P,_,V,W,X,Y,Z,z⟩:=hl.cells g;subst P;rw[show c+0*5=c by omega]at V W X Y Z;obtain⟨A,E,rfl,_⟩:=z.form;have t:j7 B w (.mk i k j l f) (.agg #[(i:Int),(k:Int),(j:Int),l,(A,f.length,E)]):=⟨_,rfl,hl.range g,z⟩
 have R:a<w.heap.size:=Xi
 have y:=zB hb;have d:Cx w (w.alloc (qh 8 ty td (.slice (some ⟨a,c,none⟩) tc.length m) (.slice A4 n4 c4) (.slice A5 n5 c5))):=Zb.alloc Zr _;have K:=U d;have ab:=U hE;have ad:=U (hE.below (d.mono hE.hB));have G:=U (hE.below (d.drew.mono hE.hB));have aa:=U ((d.block b y).trans hb);have F:=U ((d.drew.block b y).trans hb);have ae:=U (t.below (d.mono hE.hB) Zr);have M:=U (t.below (d.drew.mono hE.hB) Zr);have I:=U hp;obtain⟨⟨_,_,_,_,_,_,_⟩,_⟩:=zR hb;clear hE hb hl hok hp D d g C z t;go_enter func100,ntmps100;go_wp2_with fail
 go_region_held3 (fun w'=>w'.cell? (b,3)=some (.int .i64 ft)/\w'.cell? (w.heap.size,3)=some (.slice (some ⟨a,c,none⟩) tc.length m)/\w'.cell? (a,c)=some (.int .i64 i)/\w'.cell? (a,c+1)=some (.int .i64 k)/\w'.cell? (a,c+2)=some (.int .i64 j)/\w'.cell? (a,c+3)=some (.string l)/\w'.cell? (a,c+4)=some (.slice A f.length E))
  (first
    |(go_split_ands;refine⟨?_,?_,?_,?_,?_,?_,?_⟩ <;>(first|(rw[T];assumption)|(rw[S];simp;done)|(rw[Q];assumption)))
    |go_keep)
  (first
    | (go_at_call 119
       (refine(xE B b p tf _ _ _ _ _ _ _ _ _ fs ft n (w.alloc (qh 8 ty td (.slice (some ⟨a,c,none⟩) tc.length m) (.slice A4 n4 c4) (.slice A5 n5 c5))).drew G.o F.o M.o H.o I.o J.o).mono ?_)
       rintro e s ⟨rfl,u⟩;have q:Cx w s:=K.o.trans (Zb.drew.trans (u.mono Up));have T:∀x,s.cell? ⟨b,x,none⟩=w.cell? ⟨b,x,none⟩:=fun x=>q.cell (p:=⟨b,x,none⟩) y
       have S:∀x,s.cell? ⟨w.heap.size,x,none⟩=(w.alloc (qh 8 ty td (.slice (some ⟨a,c,none⟩) tc.length m) (.slice A4 n4 c4) (.slice A5 n5 c5))).cell? ⟨w.heap.size,x,none⟩:=fun x=>u.cell (p:=⟨w.heap.size,x,none⟩) Uv
       have Q:∀x,s.cell? ⟨a,x,none⟩=w.cell? ⟨a,x,none⟩:=fun x=>q.cell (p:=⟨a,x,none⟩) R
       have L:=U q
       clear u q))
 go_wp2_with fail;go_ret;exact⟨rfl,L.o⟩
include hE hb hl hok hp hfr in
theorem F7(c:zv tf td=none)(g:jG p ft 2 ty td tc tf frm ti=r):Cy 100 #[(b,0),oB 2 ty td v3 (.slice A4 n4 c4) (.slice A5 n5 c5),v,((frm:Int):Int),.bool ti] w (Cv (r:Int) w):=by
 have j:=U (show(50 :Int)=r by rw[<-g,jG];rw[Dp Uf,Dq Uf,c]);have k:=U (show(zv tf td).getD 0=0 by rw[c];rfl);have l:=U (show(zv tf td).isSome=false by rw[c];rfl);clear c;obtain⟨_,_,_,_,_,_,rfl,rfl,rfl⟩:=hE.form;obtain⟨i,n,rfl,_⟩:=hl.form;have f:=zB hb;have a:Cx w (w.alloc (qh 2 ty td (.slice i tc.length n) (.slice A4 n4 c4) (.slice A5 n5 c5))):=Zb.alloc Zr _;have m:=U a;have t:=U hE;have d:=U (hE.below (a.mono hE.hB));have u:=U (hE.below (a.drew.mono hE.hB));have q:=U ((a.block b f).trans hb);have s:=U ((a.drew.block b f).trans hb);have x:=U hp;obtain⟨⟨_,_,_,_,_,_,_⟩,_⟩:=zR hb;clear hE hb hl hok hp g a;go_enter func100,ntmps100;go_wp2_with (go_at_call 72;(with_reducible refine(kH B tf td _ _ k.o l.o _ _ d.o.hB d.o.hv).mono ?_);rintro e w9 ⟨rfl,rfl⟩);go_ret;exact⟨qK j.o,m.o⟩
include hE hb hl hok hp hfr in
theorem SX(t:Int)(f:zv tf td=some t)(L:tc.length=1)(z:jG p ft 2 ty td tc tf frm ti=r):Cy 100 #[(b,0),oB 2 ty td v3 (.slice A4 n4 c4) (.slice A5 n5 c5),v,((frm:Int):Int),.bool ti] w (Cv (r:Int) w):=by
 have ab:0<tc.length:=O
 obtain⟨⟨g,j,i,k,d⟩,c⟩:∃e,tc[0]?=some e:=⟨_,Dy O⟩
 have y:tc.getD 0 jZ=.mk g j i k d:=by
  rw[Yl,c];rfl
 have D:=U (q9 hok c);have F:=U (show jO p tf (.mk g j i k d) t=r by rw[<-z,jG];rw[Dp Uf,Dq Uf,f,y]);have G:=U (show(zv tf td).getD 0=t by rw[f];rfl);have H:=U (show(zv tf td).isSome=true by rw[f];rfl);clear f L;obtain⟨_,_,_,_,_,_,rfl,rfl,rfl⟩:=hE.form;obtain⟨_,K,rfl,_⟩:=hl.form;obtain⟨u,s,_,M,_,Q,R,S,T,V,q⟩:=hl.cells c;subst M;rw[show s+0*5=s by omega]at Q R S T V;obtain⟨A,P,rfl,_⟩:=q.form;have m:j7 B w (.mk g j i k d) (.agg #[(g:Int),(j:Int),(i:Int),k,(A,d.length,P)]):=⟨_,rfl,hl.range c,q⟩
 have aa:u<w.heap.size:=Xi
 have x:=zB hb;have a:Cx w (w.alloc (qh 2 ty td (.slice (some ⟨u,s,none⟩) tc.length K) (.slice A4 n4 c4) (.slice A5 n5 c5))):=Zb.alloc Zr _;have I:=U a;have X:=U hE;have l:=U (hE.below (a.mono hE.hB));have Y:=U (hE.below (a.drew.mono hE.hB));have C:=U ((a.block b x).trans hb);have W:=U ((a.drew.block b x).trans hb);have J:=U (m.below (a.mono hE.hB) Zr);have Z:=U (m.below (a.drew.mono hE.hB) Zr);have E:=U hp;obtain⟨⟨_,_,_,_,_,_,_⟩,_⟩:=zR hb;clear hE hb hl hok hp z a c y q m;go_enter func100,ntmps100
 go_wp2_with (first
  |(go_at_call 72;(with_reducible refine(kH B tf td _ _ G.o H.o _ _ l.o.hB l.o.hv).mono ?_);rintro e w9 ⟨rfl,rfl⟩)
  |(go_at_call 119;(with_reducible refine(xE B b p tf _ _ _ _ _ _ _ _ _ fs ft n _ l.o C.o J.o D.o E.o F.o).mono ?_);rintro e _ ⟨rfl,N⟩))
 go_ret;exact⟨rfl,I.o.trans (N.mono Uj)⟩
include hE hb hl hok hp hfr in
theorem F8(j:zZ p.wa td=none)(m:jG p ft 3 ty td tc tf frm ti=r):Cy 100 #[(b,0),oB 3 ty td v3 (.slice A4 n4 c4) (.slice A5 n5 c5),v,((frm:Int):Int),.bool ti] w (Cv (r:Int) w):=by
 have t:=U (show(50 :Int)=r by rw[<-m,jG];rw[Dp Uf,Dp Uf,Dq Uf,j];rfl);have s:=U (show jw (zZ p.wa td)= -1 by rw[j];rfl);clear j;obtain⟨n,z,q,A,_,_,rfl,rfl,rfl⟩:=hE.form;obtain⟨c,f,rfl,_⟩:=hl.form;have i:=zB hb;have a:Cx w (w.alloc (qh 3 ty td (.slice c tc.length f) (.slice A4 n4 c4) (.slice A5 n5 c5))):=Zb.alloc Zr _;have u:=U a;have G:=U hE;have H:=U (hE.below (a.mono hE.hB));have d:=U (hE.below (a.drew.mono hE.hB));have E:=U ((a.block b i).trans hb);have F:=U ((a.drew.block b i).trans hb);have I:=U hp;obtain⟨⟨_,_,_,_,_,_,_⟩,_⟩:=zR hb;clear hE hb hl hok hp m a;go_enter func100,ntmps100;go_wp2_with fail
 go_region_held3 (fun w'=>w'.cell? (b,0)=some (.slice n p.wa.length z)/\w'.cell? (b,1)=some (.slice q p.funcs.length A)/\w'.cell? (w.heap.size,2)=some (.string td))
  (first
    |(go_split_ands;refine⟨?_,?_,?_⟩ <;>(first|(rw[D];assumption)|(rw[C];simp;done)))
    |go_keep)
  (first
    | (go_at_call 99
       (refine(kg B p td _ s.o _ _ (w.alloc (qh 3 ty td (.slice c tc.length f) (.slice A4 n4 c4) (.slice A5 n5 c5))).drew d.o.hB d.o.ha d.o.hf).mono ?_)
       rintro e l ⟨rfl,g⟩;have k:Cx w l:=u.o.trans (Zb.drew.trans (g.mono Up));have D:∀x,l.cell? ⟨b,x,none⟩=w.cell? ⟨b,x,none⟩:=fun x=>k.cell (p:=⟨b,x,none⟩) i
       have C:∀x,l.cell? ⟨w.heap.size,x,none⟩=(w.alloc (qh 3 ty td (.slice c tc.length f) (.slice A4 n4 c4) (.slice A5 n5 c5))).cell? ⟨w.heap.size,x,none⟩:=fun x=>g.cell (p:=⟨w.heap.size,x,none⟩) Uv
       have y:=U k
       clear g k))
 go_wp2_with fail;go_ret;exact⟨qK t.o,y.o⟩
include hE hb hl hok hp hfr in
theorem SY(k:Nat)(Y:zZ p.wa td=some k)(T:tc.length=2)(av:jG p ft 3 ty td tc tf frm ti=r):Cy 100 #[(b,0),oB 3 ty td v3 (.slice A4 n4 c4) (.slice A5 n5 c5),v,((frm:Int):Int),.bool ti] w (Cv (r:Int) w):=by
 have bm:0<tc.length:=O
 have bn:1<tc.length:=O
 obtain⟨⟨u,z,y,A,t⟩,G⟩:∃e,tc[0]?=some e:=⟨_,Dy O⟩
 have ap:tc.getD 0 jZ=.mk u z y A t:=by
  rw[Yl,G];rfl
 have ah:=U (q9 hok G);obtain⟨⟨J,L,K,M,D⟩,H⟩:∃e,tc[1]?=some e:=⟨_,Dy O⟩
 have aq:tc.getD 1 jZ=.mk J L K M D:=by
  rw[Yl,H];rfl
 have aT:=U (q9 hok H);have aU:=U (show(if jO p tf (.mk u z y A t) 1=0 then jO p tf (.mk J L K M D) 1 else jO p tf (.mk u z y A t) 1)=r by have ao:=av;rw[jG,Dp Uf,Dp Uf,Dq Uf,Y,Dq Xk,ap,aq]at ao;exact ao);have aS:=U (show jw (zZ p.wa td)=(k:Int)by rw[Y];rfl);clear Y T;obtain⟨aN,aY,aO,aZ,_,_,rfl,rfl,rfl⟩:=hE.form;obtain⟨_,m,rfl,_⟩:=hl.form;obtain⟨c,d,_,a2,_,aD,aE,aF,aG,aH,ab⟩:=hl.cells G;subst a2;rw[show d+0*5=d by omega]at aD aE aF aG aH;obtain⟨aP,ba,rfl,_⟩:=ab.form;have W:j7 B w (.mk u z y A t) (.agg #[(u:Int),(z:Int),(y:Int),A,(aP,t.length,ba)]):=⟨_,rfl,hl.range G,ab⟩
 have a5:c<w.heap.size:=Xi
 obtain⟨a0,a9,_,V,_,aI,aJ,aK,aL,aM,ad⟩:=hl.cells H;obtain⟨rfl,rfl⟩:c=a0/\d=a9:=by injection V with V;injection V with T a1 _;exact⟨T,a1⟩
 rw[show d+1*5=d+5 by omega]at aI aJ aK aL aM;obtain⟨aQ,bb,rfl,_⟩:=ad.form;have X:j7 B w (.mk J L K M D) (.agg #[(J:Int),(L:Int),(K:Int),M,(aQ,D.length,bb)]):=⟨_,rfl,hl.range H,ad⟩
 have F:=zB hb;have i:Cx w (w.alloc (qh 3 ty td (.slice (some ⟨c,d,none⟩) tc.length m) (.slice A4 n4 c4) (.slice A5 n5 c5))):=Zb.alloc Zr _;have ak:=U i;have Q:=U hE;have bj:=U (hE.below (i.mono hE.hB));have N:=U (hE.below (i.drew.mono hE.hB));have aR:=U ((i.block b F).trans hb);have bi:=U ((i.drew.block b F).trans hb);have bk:=U (W.below (i.mono hE.hB) Zr);have aW:=U (W.below (i.drew.mono hE.hB) Zr);have bl:=U (X.below (i.mono hE.hB) Zr);have aX:=U (X.below (i.drew.mono hE.hB) Zr);have R:=U hp;obtain⟨⟨_,_,_,_,_,_,_⟩,_⟩:=zR hb;clear hE hb hl hok hp av i G ap ab W H aq ad X;go_enter func100,ntmps100;obtain⟨ae,Z⟩:=Cz (jO p tf (.mk u z y A t) 1);obtain⟨bc,aa⟩:=Cz (jO p tf (.mk J L K M D) 1);have ai:=U Z;have aV:=U aa;have aj:=U (show(if ae=0 then bc else ae)=r by rw[<-Z,<-aa];exact aU.o);clear Z aa;go_wp2_with fail
 go_region_held3 (fun w'=>w'.cell? (b,0)=some (.slice aN p.wa.length aY)/\w'.cell? (b,1)=some (.slice aO p.funcs.length aZ)/\w'.cell? (w.heap.size,2)=some (.string td))
  (first
    |(go_split_ands;refine⟨?_,?_,?_⟩ <;>(first|(rw[a7];assumption)|(rw[au];simp;done)))
    |go_keep)
  (first
    | (go_at_call 99
       (refine(kg B p td _ aS.o _ _ (w.alloc (qh 3 ty td (.slice (some ⟨c,d,none⟩) tc.length m) (.slice A4 n4 c4) (.slice A5 n5 c5))).drew N.o.hB N.o.ha N.o.hf).mono ?_)
       rintro e l ⟨rfl,E⟩;have I:Cx w l:=ak.o.trans (Zb.drew.trans (E.mono Up));have a7:∀x,l.cell? ⟨b,x,none⟩=w.cell? ⟨b,x,none⟩:=fun x=>I.cell (p:=⟨b,x,none⟩) F
       have au:∀x,l.cell? ⟨w.heap.size,x,none⟩=(w.alloc (qh 3 ty td (.slice (some ⟨c,d,none⟩) tc.length m) (.slice A4 n4 c4) (.slice A5 n5 c5))).cell? ⟨w.heap.size,x,none⟩:=fun x=>E.cell (p:=⟨w.heap.size,x,none⟩) Uv
       have ar:l.cell? (w.heap.size,3)=some (.slice (some ⟨c,d,none⟩) tc.length m):=by rw[au];simp
       have ax:w.heap.size<l.heap.size:=by have:=E.size;simp at this;omega
       have S:=C0 (Below w.heap.size ((w.alloc (qh 3 ty td (.slice (some ⟨c,d,none⟩) tc.length m) (.slice A4 n4 c4) (.slice A5 n5 c5))).drew) l) (E.mono Up);have s:=U ((I.block b F).trans ((ak.o.block b F).symm.trans aR.o));have f:∀x,l.cell? ⟨c,x,none⟩=w.cell? ⟨c,x,none⟩:=fun x=>I.cell (p:=⟨c,x,none⟩) a5
       have C:=U I
       clear E I))
 have j:=U (N.o.below (S.o.mono Q.o.hB));have al:=U (aW.o.below (S.o.mono Q.o.hB) Zr);have am:=U (aX.o.below (S.o.mono Q.o.hB) Zr);have bo:=(f _).trans aD;have bp:=(f _).trans aE;have bq:=(f _).trans aF;have br:=(f _).trans aG;have bs:=(f _).trans aH;have ay:=(f _).trans aI;have az:=(f _).trans aJ;have aA:=(f _).trans aK;have aB:=(f _).trans aL;have aC:=(f _).trans aM;have g:c<l.heap.size:=by have:=C.o.size;omega
 by_cases aw:ae=0
 .subst aw
  go_wp2_with (first
   | (go_at_call 119;(with_reducible refine(xE B b p tf _ _ _ _ _ _ _ _ _ fs ft n _ j.o s.o al.o ah.o R.o ai.o).mono ?_);rintro e q ⟨rfl,a⟩
      have a6:q.cell? (w.heap.size,3)=some (.slice (some ⟨c,d,none⟩) tc.length m):=(a.cell (p:=(w.heap.size,3)) ax).trans ar;have a8:w.heap.size<q.heap.size:=Xf
      have a4:c<q.heap.size:=Xf
      have bd:=(a.cell (p:=⟨c,_,none⟩) g).trans ay;have be:=(a.cell (p:=⟨c,_,none⟩) g).trans az;have bf:=(a.cell (p:=⟨c,_,none⟩) g).trans aA;have bg:=(a.cell (p:=⟨c,_,none⟩) g).trans aB;have bh:=(a.cell (p:=⟨c,_,none⟩) g).trans aC;have ag:=U (j.o.below (a.mono j.o.hB));have af:=U ((a.block b (zB s.o)).trans s.o);have an:=U (am.o.below (a.mono j.o.hB) Zr);have P:=U (C.o.trans (a.mono C.o.size))
      clear a)
   |(go_at_call 119;(with_reducible refine(xE B b p tf _ _ _ _ _ _ _ _ _ fs ft n _ ag.o af.o an.o aT.o R.o aV.o).mono ?_);rintro e _ ⟨rfl,a3⟩))
  go_ret;exact⟨qK (by rw[<-aj.o];rfl),P.o.trans (a3.mono P.o.size)⟩
 .go_wp2_with (first
   | (go_at_call 119;(with_reducible refine(xE B b p tf _ _ _ _ _ _ _ _ _ fs ft n _ j.o s.o al.o ah.o R.o ai.o).mono ?_);rintro e q ⟨rfl,a⟩
      have a6:q.cell? (w.heap.size,3)=some (.slice (some ⟨c,d,none⟩) tc.length m):=(a.cell (p:=(w.heap.size,3)) ax).trans ar;have a8:w.heap.size<q.heap.size:=Xf
      have a4:c<q.heap.size:=Xf
      have bd:=(a.cell (p:=⟨c,_,none⟩) g).trans ay;have be:=(a.cell (p:=⟨c,_,none⟩) g).trans az;have bf:=(a.cell (p:=⟨c,_,none⟩) g).trans aA;have bg:=(a.cell (p:=⟨c,_,none⟩) g).trans aB;have bh:=(a.cell (p:=⟨c,_,none⟩) g).trans aC;have ag:=U (j.o.below (a.mono j.o.hB));have af:=U ((a.block b (zB s.o)).trans s.o);have an:=U (am.o.below (a.mono j.o.hB) Zr);have P:=U (C.o.trans (a.mono C.o.size))
      clear a))
  go_ret;exact⟨qK (by rw[<-aj.o,Dp aw]),P.o⟩
include hE hb hl hok hp hfr in
theorem XT(W:tc.length=1)(F:jG p ft 10 ty td tc tf frm ti=r):Cy 100 #[(b,0),oB 10 ty td v3 (.slice A4 n4 c4) (.slice A5 n5 c5),v,((frm:Int):Int),.bool ti] w (Cv (r:Int) w):=by
 have an:0<tc.length:=O
 obtain⟨⟨i,k,j,l,g⟩,m⟩:∃e,tc[0]?=some e:=⟨_,Dy O⟩
 have E:tc.getD 0 jZ=.mk i k j l g:=by
  rw[Yl,m];rfl
 have K:=U (q9 hok m);have M:=U (show(qE p tf (.mk i k j l g)).2=r by rw[<-F,jG];rw[Dp Uf,Dp Uf,Dp Uf,Dp Uf,Dp Uf,Dp Uf,Dq Uf,E]);clear W;obtain⟨H,T,I,V,_,_,rfl,rfl,rfl⟩:=hE.form;obtain⟨_,n,rfl,_⟩:=hl.form;obtain⟨a,c,_,X,_,ad,ae,af,ag,ah,A⟩:=hl.cells m;subst X;rw[show c+0*5=c by omega]at ad ae af ag ah;obtain⟨D,G,rfl,_⟩:=A.form;have u:j7 B w (.mk i k j l g) (.agg #[(i:Int),(k:Int),(j:Int),l,(D,g.length,G)]):=⟨_,rfl,hl.range m,A⟩
 have Z:a<w.heap.size:=Xi
 have z:=zB hb;have d:Cx w (w.alloc (qh 10 ty td (.slice (some ⟨a,c,none⟩) tc.length n) (.slice A4 n4 c4) (.slice A5 n5 c5))):=Zb.alloc Zr _;have Q:=U d;have ak:=U hE;have al:=U (hE.below (d.mono hE.hB));have J:=U (hE.below (d.drew.mono hE.hB));have ai:=U ((d.block b z).trans hb);have aj:=U ((d.drew.block b z).trans hb);have am:=U (u.below (d.mono hE.hB) Zr);have S:=U (u.below (d.drew.mono hE.hB) Zr);have L:=U hp;obtain⟨⟨_,_,_,_,_,_,_⟩,_⟩:=zR hb;clear hE hb hl hok hp F d m E A u;go_enter func100,ntmps100;obtain⟨⟨t,f⟩,C⟩:=Cz (qE p tf (.mk i k j l g));have P:=U C;have N:=U (show f=r by rw[<-M.o,C]);clear C;go_wp2_with fail
 go_region_held3 (fun w'=>w'.cell? (b,0)=some (.slice H p.wa.length T)/\w'.cell? (b,1)=some (.slice I p.funcs.length V)/\w'.cell? (w.heap.size,3)=some (.slice (some ⟨a,c,none⟩) tc.length n)/\w'.cell? (a,c)=some (.int .i64 i)/\w'.cell? (a,c+1)=some (.int .i64 k)/\w'.cell? (a,c+2)=some (.int .i64 j)/\w'.cell? (a,c+3)=some (.string l)/\w'.cell? (a,c+4)=some (.slice D g.length G))
  (first
    |(go_split_ands;refine⟨?_,?_,?_,?_,?_,?_,?_,?_⟩ <;>(first|(rw[ab];assumption)|(rw[aa];simp;done)|(rw[Y];assumption)))
    |go_keep)
  (first
    | (go_at_call 120
       (refine((oM 100).call (w:=(w.alloc (qh 10 ty td (.slice (some ⟨a,c,none⟩) tc.length n) (.slice A4 n4 c4) (.slice A5 n5 c5))).drew) K.o L.o P.o J.o S.o).mono ?_)
       rintro e s ⟨rfl,y⟩;have q:Cx w s:=Q.o.trans (Zb.drew.trans (y.mono Up));have ab:∀x,s.cell? ⟨b,x,none⟩=w.cell? ⟨b,x,none⟩:=fun x=>q.cell (p:=⟨b,x,none⟩) z
       have aa:∀x,s.cell? ⟨w.heap.size,x,none⟩=(w.alloc (qh 10 ty td (.slice (some ⟨a,c,none⟩) tc.length n) (.slice A4 n4 c4) (.slice A5 n5 c5))).cell? ⟨w.heap.size,x,none⟩:=fun x=>y.cell (p:=⟨w.heap.size,x,none⟩) Uv
       have Y:∀x,s.cell? ⟨a,x,none⟩=w.cell? ⟨a,x,none⟩:=fun x=>q.cell (p:=⟨a,x,none⟩) Z
       have R:=U q
       clear y q))
 go_wp2_with fail;go_ret;exact⟨qK N.o,R.o⟩
include hE hb hl hok hp hfr in
theorem I2(e:jG p ft 6 ty td tc tf frm ti=r):Cy 100 #[(b,0),oB 6 ty td v3 (.slice A4 n4 c4) (.slice A5 n5 c5),v,((frm:Int):Int),.bool ti] w (Cv (r:Int) w):=by
 have g:=U (show(if ti=true then 0 else 53 :Int)=r by have c:=e;rw[jG,Dp Uf,Dp Uf,Dp Uf,Dp Uf,Dp Uf,Dp Uf,Dp Uf]at c;exact c);obtain⟨_,_,_,_,_,_,rfl,rfl,rfl⟩:=hE.form;obtain⟨f,j,rfl,_⟩:=hl.form;have d:=zB hb;have a:Cx w (w.alloc (qh 6 ty td (.slice f tc.length j) (.slice A4 n4 c4) (.slice A5 n5 c5))):=Zb.alloc Zr _;exact Iq
include hE hb hl hok hp hfr in
theorem wY(e:jG p ft 7 ty td tc tf frm ti=r):Cy 100 #[(b,0),oB 7 ty td v3 (.slice A4 n4 c4) (.slice A5 n5 c5),v,((frm:Int):Int),.bool ti] w (Cv (r:Int) w):=by
 have g:=U (show(if ti=true then 0 else 53 :Int)=r by have c:=e;rw[jG,Dp Uf,Dp Uf,Dp Uf,Dp Uf,Dp Uf,Dp Uf,Dp Uf]at c;exact c);obtain⟨_,_,_,_,_,_,rfl,rfl,rfl⟩:=hE.form;obtain⟨f,j,rfl,_⟩:=hl.form;have d:=zB hb;have a:Cx w (w.alloc (qh 7 ty td (.slice f tc.length j) (.slice A4 n4 c4) (.slice A5 n5 c5))):=Zb.alloc Zr _;exact Iq
include hE hb hl hok hp hfr in
theorem SZ(ai:tc.length=1)(T:jG p ft 1 ty td tc tf frm ti=r):Cy 100 #[(b,0),oB 1 ty td v3 (.slice A4 n4 c4) (.slice A5 n5 c5),v,((frm:Int):Int),.bool ti] w (Cv (r:Int) w):=by
 have az:0<tc.length:=O
 obtain⟨⟨j,l,k,m,i⟩,t⟩:∃e,tc[0]?=some e:=⟨_,Dy O⟩
 have R:tc.getD 0 jZ=.mk j l k m i:=by
  rw[Yl,t];rfl
 have aa:=U (q9 hok t);have ad:=U (show(if jO p tf (.mk j l k m i) ty=0 then(if(zv (tf.drop frm) td).isSome then 50 else 0)else jO p tf (.mk j l k m i) ty)=r by have f:=T;rw[jG,Dq Uf,R]at f;exact f);clear ai;obtain⟨_,_,_,_,_,_,rfl,rfl,rfl⟩:=hE.form;obtain⟨_,q,rfl,_⟩:=hl.form;obtain⟨a,c,_,aj,_,ao,ap,aq,ar,au,I⟩:=hl.cells t;subst aj;rw[show c+0*5=c by omega]at ao ap aq ar au;obtain⟨J,X,rfl,_⟩:=I.form;have D:j7 B w (.mk j l k m i) (.agg #[(j:Int),(l:Int),(k:Int),m,(J,i.length,X)]):=⟨_,rfl,hl.range t,I⟩
 have al:a<w.heap.size:=Xi
 have F:=zB hb;have g:Cx w (w.alloc (qh 1 ty td (.slice (some ⟨a,c,none⟩) tc.length q) (.slice A4 n4 c4) (.slice A5 n5 c5))):=Zb.alloc Zr _;have af:=U g;have z:=U hE;have aw:=U (hE.below (g.mono hE.hB));have L:=U (hE.below (g.drew.mono hE.hB));have av:=U ((g.block b F).trans hb);have Z:=U ((g.drew.block b F).trans hb);have ax:=U (D.below (g.mono hE.hB) Zr);have ah:=U (D.below (g.drew.mono hE.hB) Zr);have ab:=U hp;obtain⟨⟨_,_,_,_,_,_,_⟩,_⟩:=zR hb;clear hE hb hl hok hp T g t R I D;go_enter func100,ntmps100;obtain⟨y,G⟩:=Cz (jO p tf (.mk j l k m i) ty);have ae:=U G;obtain⟨Y,V⟩:=Cz ((zv (tf.drop frm) td).getD 0);obtain⟨C,E⟩:=Cz ((zv (tf.drop frm) td).isSome);have N:=U V;have K:=U E;have M:=U (show(if y=0 then(if C=true then 50 else 0)else y)=r by rw[<-G,<-E];exact ad.o);clear G V E;have an:=z.o.hv;go_wp2_with fail
 go_region_held3 (fun w'=>w'.cell? (w.heap.size,3)=some (.slice (some ⟨a,c,none⟩) tc.length q)/\w'.cell? (w.heap.size,1)=some (.int .i64 ty)/\w'.cell? (a,c)=some (.int .i64 j)/\w'.cell? (a,c+1)=some (.int .i64 l)/\w'.cell? (a,c+2)=some (.int .i64 k)/\w'.cell? (a,c+3)=some (.string m)/\w'.cell? (a,c+4)=some (.slice J i.length X))
  (first
    |(go_split_ands;refine⟨?_,?_,?_,?_,?_,?_,?_⟩ <;>(first|(rw[am];assumption)|(rw[S];simp;done)|(rw[ak];assumption)))
    |go_keep)
  (first
    | (go_at_call 119
       (refine(xE B b p tf _ _ _ _ _ _ _ _ _ fs ft n (w.alloc (qh 1 ty td (.slice (some ⟨a,c,none⟩) tc.length q) (.slice A4 n4 c4) (.slice A5 n5 c5))).drew L.o Z.o ah.o aa.o ab.o ae.o).mono ?_)
       rintro e d ⟨rfl,s⟩;have u:Cx w d:=af.o.trans (Zb.drew.trans (s.mono Up));have am:∀x,d.cell? ⟨b,x,none⟩=w.cell? ⟨b,x,none⟩:=fun x=>u.cell (p:=⟨b,x,none⟩) F
       have S:∀x,d.cell? ⟨w.heap.size,x,none⟩=(w.alloc (qh 1 ty td (.slice (some ⟨a,c,none⟩) tc.length q) (.slice A4 n4 c4) (.slice A5 n5 c5))).cell? ⟨w.heap.size,x,none⟩:=fun x=>s.cell (p:=⟨w.heap.size,x,none⟩) Uv
       have ay:d.cell? (w.heap.size,2)=some (.string td):=by rw[S];simp
       have aA:w.heap.size<d.heap.size:=by have:=s.size;simp at this;omega
       have ag:=C0 (Below w.heap.size ((w.alloc (qh 1 ty td (.slice (some ⟨a,c,none⟩) tc.length q) (.slice A4 n4 c4) (.slice A5 n5 c5))).drew) d) (s.mono Up);have ak:∀x,d.cell? ⟨a,x,none⟩=w.cell? ⟨a,x,none⟩:=fun x=>u.cell (p:=⟨a,x,none⟩) al
       have A:=U u
       clear s u))
 have W:=L.o.hv.below (ag.o.mono z.o.hB) Zr;have P:=U (fun n=>(W.dropS frm hfr).below (show Below B d (d.drewN n)from Zb.trans ⟨rfl,rfl,rfl,D0 _,fun _ _=>rfl⟩) Zr);have Q:B<=d.heap.size:=Dz z.o.hB A.o.size;clear W an;by_cases H:y=0
 .subst H
  cases C
  all_goals
   go_wp2_with fail
   go_quiet ((go_at_call 72;exact(kH B (tf.drop frm) td Y _ N.o K.o _ _ (by exact Q) (P.o _)).mono fun e w' f=>⟨f.1,_,f.2.symm⟩))
   go_wp2_with fail
   all_goals go_ret
   all_goals exact⟨qK (by rw[<-M.o];rfl),mT A.o _⟩
 .cases C
  all_goals
   go_wp2_with fail
   go_quiet ((go_at_call 72;exact(kH B (tf.drop frm) td Y _ N.o K.o _ _ (by exact Q) (P.o _)).mono fun e w' f=>⟨f.1,_,f.2.symm⟩))
   have aB:(y == 0)=false:=by simp[H]
   go_wp2_with fail
   all_goals go_ret
   all_goals exact⟨qK (by rw[<-M.o,Dp H]),mT A.o _⟩
theorem kI(k:Int)(d:Bool)(a:zn k ty td tc.length n4 n5 d=true)(c:jG p ft k ty td tc tf frm ti=r)(hE:g3 B p tf v0 v1 v w)(hb:w.heap[b]?=some (lR v0 v1 fs ft v2 vb n))(hl:kU B w v3 tc)(hok:zx tc 100=true)(hp:mG p)(hfr:frm<=tf.length):
 Cy 100 #[(b,0),oB k ty td v3 (.slice A4 n4 c4) (.slice A5 n5 c5),v,((frm:Int):Int),.bool ti] w (Cv (r:Int) w):=by
 rcases AB a with rfl|rfl|rfl|rfl|rfl|rfl|rfl|rfl|rfl|rfl
 .exact SZ B b p tf ty td tc frm ti A4 n4 c4 A5 n5 c5 r v3 v0 v1 v v2 vb fs ft n w hE hb hl hok hp hfr Vi c
 .cases hv:zv tf td with
  |none=>exact F7 B b p tf ty td tc frm ti A4 n4 c4 A5 n5 c5 r v3 v0 v1 v v2 vb fs ft n w hE hb hl hok hp hfr hv c
  |some t=>exact SX B b p tf ty td tc frm ti A4 n4 c4 A5 n5 c5 r v3 v0 v1 v v2 vb fs ft n w hE hb hl hok hp hfr t hv Vi c
 .cases hv:zZ p.wa td with
  |none=>exact F8 B b p tf ty td tc frm ti A4 n4 c4 A5 n5 c5 r v3 v0 v1 v v2 vb fs ft n w hE hb hl hok hp hfr hv c
  |some t=>exact SY B b p tf ty td tc frm ti A4 n4 c4 A5 n5 c5 r v3 v0 v1 v v2 vb fs ft n w hE hb hl hok hp hfr t hv Vi c
 .exact XS B b p tf ty td tc frm ti A4 n4 c4 A5 n5 c5 r v3 v0 v1 v v2 vb fs ft n w hE hb hl hok hp hfr (by simp[zn]at a;exact a.2) c
 .exact I0 B b p tf ty td tc frm ti A4 n4 c4 A5 n5 c5 r v3 v0 v1 v v2 vb fs ft n w hE hb hl hok hp hfr (by simp[zn]at a;exact a.1.2) c
 .exact I2 B b p tf ty td tc frm ti A4 n4 c4 A5 n5 c5 r v3 v0 v1 v v2 vb fs ft n w hE hb hl hok hp hfr c
 .exact wY B b p tf ty td tc frm ti A4 n4 c4 A5 n5 c5 r v3 v0 v1 v v2 vb fs ft n w hE hb hl hok hp hfr c
 .exact F6 B b p tf ty td tc frm ti A4 n4 c4 A5 n5 c5 r v3 v0 v1 v v2 vb fs ft n w hE hb hl hok hp hfr Vi c
 .exact I1 B b p tf ty td tc frm ti A4 n4 c4 A5 n5 c5 r v3 v0 v1 v v2 vb fs ft n w hE hb hl hok hp hfr Vi c
 .exact XT B b p tf ty td tc frm ti A4 n4 c4 A5 n5 c5 r v3 v0 v1 v v2 vb fs ft n w hE hb hl hok hp hfr (by simp[zn]at a;omega) c
end
mutual
def k6:St->Nat
 |.mk _ _ _ _ tg th=>1+fU tg+fU th
def fU:List St->Nat
 |[]=>0
 |s::r=>k6 s+fU r
end
theorem I3{l:List St}{j:Nat}{td:C2}{tc:List Ex}{tg th:List St}(h:l[j]?=some (.mk k ty td tc tg th)):fU (l.drop j)=1+fU tg+fU th+fU (l.drop (j+1)):=by
 rw[xB h,fU,k6]
theorem m0{P:Program}{w:C3}(d:Nat)(t ty e:TypeId)(i:TypeInfo)(k:Nat)(b:P.underlying t=some (.slice e))(a:P.info? e=some i)
 (v:C4) (n:Nat) (l:List C4) (j:w.ownsRow d e k v n l) (c:Nat):
 (Builtin.append_ #[t,t] ty #[v,.slice none 0 c]).run P w=.ok v w:=by
 rcases j.2 with⟨rfl,rfl⟩|⟨g,_,_,rfl,_,_,f,_⟩
 .simp[Builtin.append_,run_underlying b,sizeOf,typeInfo,a,Builtin.lenOf,Builtin.firstCells]
 .simp[Builtin.append_,run_underlying b,sizeOf,typeInfo,a,Builtin.lenOf,Builtin.firstCells,f,storeCells]
theorem iF{P:Program}{w:C3}{ops:Array Oper}{d:List Oper}{o:Oper}{a:Act}{Q:Exit->Act->C3->Prop}(l:o.guard=none)(s x:Operand)(t:TypeId)
 (p:o.op=.call { callee:=.builtin .append,args:=#[s,x],argTypes:=#[t,t] })
 (b:Nat) (e:TypeId) (i:TypeInfo) (f:Nat) (y:P.underlying t=some (.slice e)) (m:P.info? e=some i)
 (v:C4) (n:Nat) (g:List C4) (u:a.eval s=v) (q:w.ownsRow b e f v n g) (c:Nat) (z:a.eval x=.slice none 0 c)
 (j:wpList P ops Q d (a.put o.dst v) w):wpList P ops Q (o::d) a w:=by
 refine wpList_plain l fun K k=>?_
 have r:=m0 (P:=P) (w:=w) b t o.type e i f y m v n g q c;unfold Oper.wp;simp[execOp,p,resolve,invoke,builtin,u,z,r,Result.andThen];exact k _ _ j
theorem m4{P:Program}{w:C3}{ops:Array Oper}{F:List Oper}{o:Oper}{a:Act}{Q:Exit->Act->C3->Prop}(y:o.guard=none)(s x:Operand)(t:TypeId)
 (B:o.op=.call { callee:=.builtin .append,args:=#[s,x],argTypes:=#[t,t] })
 (g:Nat) (e:TypeId) (i:TypeInfo) (z:C4) (b q:Nat) (D:P.underlying t=some (.slice e)) (A:P.info? e=some i) (V:i.zero=some z)
 (S:i.size=b) (M:i.bytes=q) (W:z.cells.size=b) (T:0<b)
 (v:C4) (n:Nat) (p:List C4) (C:a.eval s=v) (r:w.ownsRow g e b v n p)
 (k:Option Addr) (m c:Nat) (d:List C4) (E:a.eval x=.slice k m c) (hl:d.length=m*b) (K:k=none->m=0) (R:∀f,k=some f->∀j l,d[j]?=some l->w.cell? (f.add j)=some l) (G:∀l∈d,l.oneCell'=true)
 (J:n+m<=maxLen) (N:(n+m)*q<=140737488355328) (L:g<=w.heap.size)
 (u:∀v' w',w'.ownsRow g e b v' (n+m) (p++d)->w.grownBy w' v.ownBlock->wpList P ops Q F (a.put o.dst v') w'):wpList P ops Q (o::F) a w:=by
 cases k with
 |none=>
   obtain rfl:=K rfl;obtain rfl:d=[]:=Yq (by rw[hl];omega);refine iF y s x t B g e i b D A v n p C r c E (u v w ?_ (World.grownBy.refl w _));rw[Yd];exact r
 |some f=>exact wpList_append_own _ y s x t B g e i z b q D A V S M W T v n p C r f m c d E hl (R f rfl) G J N L fun v' w' H I _=>u v' w' H I
structure lS (B b:Nat) (p:Pr) (vars:List Pa) (v0 v1 v:C4) (w:C3):Prop where
 hB:B<=w.heap.size
 hBb:B<=b
 hb:b<w.heap.size
 ha:gM B w v0 p.wa
 hf:gN B w v1 p.funcs
 hv:gT w.heap.size (gQ b w) v vars
theorem lS.off{tf:List Pa}{w':C3}(a:lS B b p tf v0 v1 v w)(c:fI b w.heap.size w w'):lS B b p tf v0 v1 v w' where
 hB:=Dz a.hB c.size
 hBb:=a.hBb
 hb:=Yb a.hb c.size
 ha:=a.ha.below (kY c a.hB a.hBb) Zr
 hf:=a.hf.below (kY c a.hB a.hBb) Zr
 hv:=a.hv.below c c.size
theorem lS.below{tf:List Pa}{w':C3}(a:lS B b p tf v0 v1 v w)(c:Cx w w'):lS B b p tf v0 v1 v w':=a.off (fI.wb c a.hb)
theorem lS.renv{tf:List Pa}(a:lS B b p tf v0 v1 v w):g3 w.heap.size p tf v0 v1 v w where
 hB:=D0 _
 ha:=a.ha.below Zb a.hB
 hf:=a.hf.below Zb a.hB
 hv:=a.hv.imp fun _ _ _ c=>fK.unhole c
theorem lS.form{tf:List Pa}(i:lS B b p tf v0 v1 v w):∃a e c f d g,v0=.slice a p.wa.length e/\v1=.slice c p.funcs.length f/\v=.slice d tf.length g:=i.renv.form
theorem xb{a:Nat}{l:List Pa}(d:w.ownsRow a 100 2 v l.length (l.flatMap kP.cs))(hb:b<a)(hl:l.length<=281474976710656):gT w.heap.size (gQ b w) v l:=by
 have e:gT w.heap.size (fW (nO a) w) v l:=f4.params (B:=a) ⟨d,fun _ _=>trivial⟩ hl;refine e.imp fun g o _ c=>?_
 obtain⟨i,c⟩:=kE c;have f:g≠b:=by have:=kr.1 i;omega
 exact⟨c.1,(D6 (w:=w) (w':=gQ b w) (uo w f)).trans c.2⟩
theorem tI:∀(l:List Pa) (g o:Nat),um 2 (QO B w) l g o->∀j u,(l.flatMap kP.cs)[j]?=some u->w.cell? ⟨g,o+j,none⟩=some u
 |[],_,_,_,j,u,h=>Xa
 | x::r,g,o,hr,j,u,h=>by
   rw[Y2]at h
   match j with
   |0=>simp[kP]at h;subst h;exact hr.1.1.2
   |1=>simp[kP]at h;subst h;exact hr.1.2.2
   |j+2=>
     have:=tI r g (o+2) hr.2 j u (by simpa[kP]using h);rw[show o+(j+2)=o+2+j by omega];exact this
theorem XU(l:List Pa):∀b∈l.flatMap kP.cs,b.oneCell'=true:=fun b c=>by
 obtain⟨x,_,a⟩:=List.mem_flatMap.1 c;simp[kP]at a;rcases a with rfl|rfl<;>rfl
theorem S0(l:List Pa):(l.flatMap kP.cs).length=l.length*2:=by
 induction l with
 |nil=>rfl
 |cons x r a=>rw[Y2,Dr,a,D1];show 2+_=_;omega
theorem vB(l:List Pa)(s:C2)(t:Int):(l++[(⟨s,t⟩:Pa)]).flatMap kP.cs=l.flatMap kP.cs++[.string s,.int .i64 t]:=by
 rw[List.flatMap_append];rfl
structure p3 (B b:Nat) (p:Pr) (vX:List Pa) (v0 v1 v:C4) (fs:C2) (ft:Int) (v2 v3:C4) (n:Nat) (w:C3) (m:Nat) (so:Obj) (thn els:List St) (v4 v5:C4) (W:C3):Prop where
 off:fI b w.heap.size w W
 row:W.heap[b]?=some (lR v0 v1 fs ft v2 v3 (fX n))
 env:lS B b p vX v0 v1 v W
 box:W.heap[m]?=some so
 s4:f6 B W v4 thn
 s5:f6 B W v5 els
 own:W.ownsRow w.heap.size 100 2 v vX.length (vX.flatMap kP.cs)
 ne:m≠b
 hb:b<w.heap.size
section
variable {B b:Nat}{p:Pr}{vX:List Pa}{v0 v1 v:C4}{fs:C2}{ft:Int}{v2 v3:C4}{n:Nat}{w:C3}{m:Nat}{so:Obj}{tg th:List St}{v4 v5:C4} {W W':C3}
theorem p3.step(a:p3 B b p vX v0 v1 v fs ft v2 v3 n w m so tg th v4 v5 W)(c:fI b W.heap.size W W'){e:Nat}(hb:W'.heap[b]?=some (lR v0 v1 fs ft v2 v3 (fX e))):p3 B b p vX v0 v1 v fs ft v2 v3 e w m so tg th v4 v5 W' where
 off:=a.off.trans (c.mono a.off.size)
 row:=hb
 env:=a.env.off c
 box:=(c.block (zB a.box) a.ne).trans a.box
 s4:=a.s4.below (kY c a.env.hB a.env.hBb) Zr
 s5:=a.s5.below (kY c a.env.hB a.env.hBb) Zr
 own:=zt a.own fun g d=>c.block (zP a.own g d).2 (by have:=(zP a.own g d).1;have:=a.hb;omega)
 ne:=a.ne
 hb:=a.hb
theorem p3.set(h:p3 B b p vX v0 v1 v fs ft v2 v3 n w m so tg th v4 v5 W):p3 B b p vX v0 v1 v fs ft v2 v3 (n+1) w m so tg th v4 v5 (W.setCell (b,6) ((fX (n+1)):Int)):=
 h.step ((fI.refl b _ W).wt (zB h.row) 6 _) (D3 h.row _)
end
theorem S1:(Tryz.prog.info? 100).map (fun i=>(i.zero,i.size,i.bytes))=some (some (.agg #[.string ⟨#[]⟩,(0:Int)]),2,24):=by kernel_rfl
def S2(b:Nat)(w:C3)(v0 v1:C4)(fs:C2)(ft:Int)(v2 v3:C4)(R:Int×Nat)(e:Ending)(w':C3):Prop:=
 e=.returned (R.1:Int)/\fI b w.heap.size w w'/\w'.heap[b]?=some (lR v0 v1 fs ft v2 v3 (fX R.2))
def ZN(m:Nat):Prop:=∀(B b:Nat) (p:Pr) (tf:List Pa) (l:List St) (ti:Bool) (n:Nat) (R:Int×Nat) (a v0 v1 v:C4) (fs:C2) (ft:Int) (v2 v3:C4) (w:C3),
 fL l m=true->mG p->zX p ft l tf tf.length ti n=R->lS B b p tf v0 v1 v w->w.heap[b]?=some (lR v0 v1 fs ft v2 v3 (fX n))->f6 B w a l->tf.length+fU l<=1000000000->
 Cy 73 #[(b,0),a,v,.bool ti] w (S2 b w v0 v1 fs ft v2 v3 R)
theorem ZN.call{m:Nat}(c:ZN m){B b:Nat}{p:Pr}{tf:List Pa}{l:List St}{ti:Bool}{n:Nat}{R:Int×Nat}{a v0 v1 v:C4}{fs:C2}{ft:Int}{v2 v3:C4}{w:C3}
 (d:fL l m=true) (e:mG p) (f:zX p ft l tf tf.length ti n=R) (g:lS B b p tf v0 v1 v w) (i:w.heap[b]?=some (lR v0 v1 fs ft v2 v3 (fX n))) (j:f6 B w a l) (k:tf.length+fU l<=1000000000):
 Cy 73 #[(b,0),a,v,.bool ti] w (S2 b w v0 v1 fs ft v2 v3 R):=c B b p tf l ti n R a v0 v1 v fs ft v2 v3 w d e f g i j k
