import Derived.Test.YthcmenajdcbnnaaGreatDoorAlEvMh
set_option linter.unusedSimpArgs false
set_option linter.unusedVariables false
set_option maxRecDepth 100000
set_option maxHeartbeats 99000000
namespace Go.Proofs.YthcmenajdcbnnaaGreatDoor
open Go.RowKit Tryz
theorem Qo{p:Prop}(h:p:=by
 go_wp2_with (go_at_call 75
              (with_reducible refine(cm.o.call a7.o bF.o cq.o cF.o cE.o).mono ?_)
              intro e am aA;obtain⟨rfl,aC,ea,d9,dM,aB,av,ay⟩:=j.o.post aA;have R:=U av;have a6:=U ay
              clear aA av ay)
 go_end0
 exact(R.o.fin rfl a6.o).off C.o cz.o.symm):p:=h
theorem Qp{p:Prop}(h:p:=by
 go_end0
 exact b.o.done n.o H.o fun z G e=>by obtain⟨J,K,L,_⟩:=M.o z G e;exact⟨J,K,L⟩):p:=h
variable{c:gK}{vo vv va vt ve:C5}{f g:Nat}{vs:fG}{s t:RS}{w wr:C4}{n1 k ty:Int}
abbrev wF(k ty:Int)(s:C3)(a b c:C5):Obj:=.cells #[(k:Int),(ty:Int),s,a,b,c] 139
theorem yS.off{d:C4}{r b:fS xy}{e:Ending}{w':C4}(g:yS c vo f vv vs s d r e w')(a:Cy w d)(u:r=b):yS c vo f vv vs s w b e w':=by
 subst u;obtain⟨x,z,y,t,n2,i,j,k,l,m,n,o,p,q⟩:=g;exact⟨x,z,y,t,n2,i,j,k,(fF.wb _ a).trans l fun _ _ v=>v,m.mono a.size,n.mono a.size,o,p,q⟩
theorem f2.fin{g i:C5}{d:fG}{b:Int}(a:f2 c w vo s f vv vs wr g i d b n1 t){r:fS xy}(e:r.st=t)(j:∀a t,r=.ok a t->d=a.2.2/\b=a.1/\n1=a.2.1):yS c vo f vv vs s w r (.returned (.tuple #[])) wr:=
 ⟨g,i,d,b,n1,rfl,e▸a.run,a.frm,a.off,a.to1,a.to2,a.le,by rw[e];exact a.sum,j⟩
theorem f2.de{d b:C5}{e:fG}{g:Int}(a:f2 c w vo s f vv vs wr d b e g n1 t)(x:Int):f2 c w vo s f vv vs (wr.setCell (f,1) (x:Int)) d b e x n1 t:=
 ⟨wC a.run a.frm 1 _,a.frm.de x,a.off' (fF.set (X:=gI f b) wr (.inl rfl) 1 _) fun k _ i=>.inr i,a.to1,a.to2,a.le,a.sum⟩
theorem UJ(e:fG->RS->fS Int)(b:fG->RS->fS xy)(k:Nat)(vs:fG)(s:RS):k6 e b (k+1) vs s=(e vs s).bind fun a s=>if a=0 then .ok (0,0,vs) s else(b vs s).bind fun h s=>if h.1=3 then .ok h s else if h.1=1 then .ok (0,0,h.2.2) s else k6 e b k h.2.2 s:=by rw[k6]
theorem PH(bR:gL c.p)(bQ:p6 c g)(bP:J0 c g){w:C4}{vo:C5}{s:RS}{f:Nat}{vv:C5}{vs:fG}{ft:Int}{v:List Pa}{frm:Nat}{ti:Bool}{bZ:Nat}{k ty:Int}{td:C3}{aP:Ex}{tc:List Ex}{tg:List St}{d m:Nat}{va vt ve:C5}
 (ae:fY c g w vo s f vv vs 0 0) (bq:xk vs=v.map (·.name)) (bX:(qE c.p v aP).2=0) (T:xx aP d=true) (bN:fL tg m=true) (bO:(zX c.p ft tg v frm ti bZ).1=0) (be:tc[0]?=some aP) (a8:kW c.B w va tc) (br:f6 c.B w vt tg):
 Cz 122 #[(c.b,0),(f,0),.agg #[(k:Int),(ty:Int),td,va,vt,ve]] w
  (yS c vo f vv vs s w (k6 (fun vs s=>f0 c.p g vs aP s) (fun vs s=>qG (qn c.p g) vs tg s) (s.fuel+1) vs s)):=by
 obtain⟨N,Q,P,R,M⟩:=aP;obtain⟨_,aH,rfl,_⟩:=a8.form;obtain⟨aw,ai,_,rfl,_,_⟩:=a8.cells be;have ck:0<tc.length:=(List.getElem?_eq_some_iff.1 be).1;have bJ:=U be;obtain⟨aI,aO,rfl,_⟩:=br.form;have cj:=ae.l.run.ord;have ci:=ae.l.run.lt;have W:=C2 (Cy w (w.alloc (wF k ty td (.slice (some ⟨aw,ai,none⟩) tc.length aH) (.slice aI tg.length aO) ve))) (Zb.alloc Zr _);have bY:(w.alloc (wF k ty td (.slice (some ⟨aw,ai,none⟩) tc.length aH) (.slice aI tg.length aO) ve)).heap[w.heap.size]?=some (wF k ty td (.slice (some ⟨aw,ai,none⟩) tc.length aH) (.slice aI tg.length aO) ve):=Ds w _;have bC:(w.alloc (wF k ty td (.slice (some ⟨aw,ai,none⟩) tc.length aH) (.slice aI tg.length aO) ve)).heap.size=w.heap.size+1:=zA _ _;have bi:=U (ae.we W.o)
 have ap:=U (show ¬(f8 c vo w.heap.size\/gI f vv w.heap.size)from fun G=>by
  rcases G with G|G
  .have:=(ae.l.run.tch G).2.2;omega
  .rcases G with G|G
   .have:=ae.frm.lt;have G:w.heap.size=f:=G;omega
   .have:=(zT ae.frm.row _ G).1;omega)
 have au:=U bY;have bK:=C2 (kW c.B w (.slice (some ⟨aw,ai,none⟩) tc.length aH) tc) a8;have a7:=U br;have a3:=U ae;have b0:=U bq;have Y:=U bX;have aF:=U T;have aJ:=U bN;have aK:=U bO;have aB:=U bQ;have a4:=U bP;have aC:=U bR;clear ae bq bX T bN bO a8 br bY bQ bP bR be;go_enter func122,ntmps122;go_wp2_with fail;generalize w.alloc (wF k ty td (.slice (some ⟨aw,ai,none⟩) tc.length aH) (.slice aI tg.length aO) ve)=W0 at *;have cm:=Dv bC;have cn:=Dv bC.symm;clear bC
 go_loopw [6] (fun _ wr=>∃(j:Nat) (bD bF:C5) (D:fG) (t:RS),f2 c W0 vo s f vv vs wr bD bF D 0 0 t/\t.fuel<j/\t.fuel<=g/\gQ c.p t/\xk D=v.map (·.name)/\
  k6 (fun vs s=>f0 c.p g vs (.mk N Q P R M) s) (fun vs s=>qG (qn c.p g) vs tg s) (s.fuel+1) vs s=k6 (fun vs s=>f0 c.p g vs (.mk N Q P R M) s) (fun vs s=>qG (qn c.p g) vs tg s) j D t) (fun _ wr=>(intOf ((wr.cell? (c.b,8)).getD undef)).toNat)
 case atStart=>exact⟨s.fuel+1,vo,vv,vs,s,f2.start bi.o,Nat.lt_succ_self _,bi.o.l.fu,bi.o.l.shp,b0.o,rfl⟩
 case round=>
  obtain⟨j,bD,bF,D,t,ah,_,b9,bV,bU,bs⟩:=hrel;obtain⟨j,rfl⟩:∃z,j=z+1:=⟨j-1,O⟩
  rw[UJ _ _ j D t]at bs
  have bu:∀q,q<c.B->¬(f8 c vo q\/gI f vv q):=fun q _ T=>by
   rcases T with T|T
   .have:=(a3.o.l.run.tch T).1;omega
   .rcases T with a9|a9
    .have:=a3.o.frm.hL;have a9:q=f:=a9;omega
    .have:=(zT a3.o.frm.row q a9).2;omega
  have a5:=U bu;have bA:=ah.off.at ap.o au.o;obtain⟨⟨_,_,_,_,_,_⟩,_⟩:=qU bA;have cl:w.heap.size<wr.heap.size:=zB bA;have bS:Below c.B w wr:=(W.o.mono (show c.B<=w.heap.size by omega)).trans (ah.off.below O bu);obtain⟨_,_,v',af,_,cc,cd,ce,cf,cg,bW⟩:=(bK.o.below bS Zr).cells bJ.o;simp only[Option.some.injEq,Addr.mk.injEq,and_true]at af;obtain⟨rfl,rfl⟩:=af;rw[show ai+0*5=ai by omega]at cc cd ce cf cg;have ch:aw<wr.heap.size:=O
  have bv:fY c g wr bD t f bF D 0 0:=⟨⟨ah.run,b9,bV.sp,bV.st⟩,ah.frm,by have:=ah.sum;have:=a3.o.ln;omega⟩
  have bk:=U (j0 aC.o bv Y.o);have ab:=U bv;have aA:=U ah;have bj:=U bs;have aL:=U bU;have aD:=U (bK.o.range bJ.o);have aE:=U bW
  have bT:wr.cell? (c.b,8)=some (.int .i64 (t.fuel:Int)):=by
   obtain⟨cb,_,T⟩:=ah.run.box;exact(zD T).1.2.2.2.2.2.2.2.2.1
  have b2:=U bT;have af:=qw c.p g D (.mk N Q P R M) t;obtain⟨r,bx⟩:=C0 (f0 c.p g D (.mk N Q P R M) t);have L:=U bx;rw[bx]at af;clear bv ah bs bU bW bA bS bu bx bT;rcases r with⟨a,i⟩|i
  .have ad:=C2 (i.fuel<=t.fuel) af.1.fuel
   have bL:=C2 (i.fuel+1<=t.fuel) af.2.1;have aS:(i.spent || decide (i.stat≠0))=false:=Hc
   have aq:=U aS;clear aS af;by_cases ba:a=0
   .have b5:(a == 0)=true:=by simp[ba]
    have X:=U (show k6 (fun vs s=>f0 c.p g vs (.mk N Q P R M) s) (fun vs s=>qG (qn c.p g) vs tg s) (s.fuel+1) vs s=.ok (0,0,D) i by
     rw[bj.o];rw[L.o]
     exact Dq ba)
    go_wp2_with (first
     | (go_at_call 123
        (with_reducible refine(aB.o.call ab.o Y.o aF.o aD.o aE.o).mono ?_)
        rintro e K ⟨n2,aa,rfl,u,H,J,C⟩;rw[L.o]at u C;have F:=C2 (fQ c K aa i) u;have E:=U (aA.o.exo F.o H J ad.o);obtain⟨rfl,bf⟩:=C a i rfl;have y:=E.o.off.at ap.o au.o;obtain⟨⟨aU,aV,aW,aX,aY,aZ⟩,a0⟩:=qU y;have aT:w.heap.size<K.heap.size:=zB y
        clear u H J C y)
     | (go_at_call 37
        (with_reducible refine(zk F.o false aq.o).mono ?_);rintro e a1 ⟨rfl,rfl⟩))
    go_end0
    exact(E.o.fin (r:=.ok (0,0,D) i) rfl fun G x e=>by injection e with aQ bM;subst aQ;exact⟨rfl,rfl,rfl⟩).off W.o X.o.symm
   .have b5:(a == 0)=false:=by simp[ba]
    have a6:=U (show k6 (fun vs s=>f0 c.p g vs (.mk N Q P R M) s) (fun vs s=>qG (qn c.p g) vs tg s) (s.fuel+1) vs s=(qG (qn c.p g) D tg i).bind fun G s=>if G.1=3 then .ok G s else if G.1=1 then .ok (0,0,G.2.2) s else k6 (fun vs s=>f0 c.p g vs (.mk N Q P R M) s) (fun vs s=>qG (qn c.p g) vs tg s) j G.2.2 s by
     rw[bj.o];rw[L.o]
     exact Dp ba)
    have bz:gQ c.p i:=by have:=bk.o;rw[L.o]at this;exact this
    have aR:zr c.p (qG (qn c.p g) D tg i):=xi (jW c.p aC.o g).2 ft tg v D frm ti bZ i m (by have:=ad.o;omega) bz aJ.o aK.o;have bb:zw i 0 (qG (qn c.p g) D tg i):=xh (fun vs t s=>(ku c.p g vs t s).le (Dx _)) D tg i;have bd:vd (qG (qn c.p g) D tg i):=i9 (I4 c.p g) D tg i;have bc:P9 D (qG (qn c.p g) D tg i):=mV (fun vs t s=>by obtain⟨k,ty,td,tc,tg,th⟩:=t;exact⟨_,iE c.p g vs k ty td tc tg th s⟩) D tg i;obtain⟨ca,bw⟩:=C0 (qG (qn c.p g) D tg i);rw[bw]at aR bb bd bc;have ag:=U bw;have bg:=kE aR;clear bw;rcases ca with⟨q,x⟩|x
    .have aM:=C2 ((x.spent || decide (x.stat≠0))=false) bg
     have b4:=C2 (gQ c.p x) aR;have bm:=C2 (x.fuel<=i.fuel) bb.1.fuel;have bI:=C2 (q.1≠3->q.2.1=0) bd;have b1:=C2 (xk q.2.2=xk D) bc;clear aR bb bg bd bc bz;by_cases ay:q.1=3
     .have b8:(q.1 == 3)=true:=by simp[ay]
      have X:=C2 (k6 (fun vs s=>f0 c.p g vs (.mk N Q P R M) s) (fun vs s=>qG (qn c.p g) vs tg s) (s.fuel+1) vs s=.ok q x) (a6.o.trans (by rw[ag.o];exact Dq ay))
      go_wp2_with (first
       | (go_at_call 123
          (with_reducible refine(aB.o.call ab.o Y.o aF.o aD.o aE.o).mono ?_)
          rintro e K ⟨n2,aa,rfl,u,H,J,C⟩;rw[L.o]at u C;have F:=C2 (fQ c K aa i) u;have E:=U (aA.o.exo F.o H J ad.o);obtain⟨rfl,bf⟩:=C a i rfl;have ao:=U (ab.o.ex aC.o Y.o L.o H F.o);have ar:=U (a7.o.below ((W.o.mono (show c.B<=w.heap.size by omega)).trans (E.o.off.below O a5.o)) Zr);have y:=E.o.off.at ap.o au.o;obtain⟨⟨aU,aV,aW,aX,aY,aZ⟩,a0⟩:=qU y;have aT:w.heap.size<K.heap.size:=zB y
          clear u H J C y)
       | (go_at_call 37
          (with_reducible refine(zk F.o false aq.o).mono ?_);rintro e a1 ⟨rfl,rfl⟩)
       | (go_at_call 75
          (with_reducible refine(a4.o.call ao.o aL.o aJ.o aK.o ar.o).mono ?_)
          intro e V Z;obtain⟨rfl,aj,al,ak,ax,az,n,I⟩:=E.o.post Z;rw[ag.o]at n I;have S:=C2 (f2 c W0 vo s f vv vs V aj al ak ax az x) n;obtain⟨am,a2,an⟩:=I q x rfl;have aG:=U am;have aN:=U an;subst a2;have bl:=U I;obtain⟨⟨bn,f1,bo⟩,bp⟩:=zo n.frm.box;have bt:f<V.heap.size:=n.frm.lt
          clear Z n I am an)
       | (go_at_call 37
          (with_reducible refine(zk S.o.run false aM.o).mono ?_);rintro e bG ⟨rfl,rfl⟩))
      go_end0
      exact(S.o.fin (r:=.ok q x) rfl fun G bH e=>by injection e with aQ bM;subst aQ;exact⟨aG.o,rfl,aN.o⟩).off W.o X.o.symm
     .have b8:(q.1 == 3)=false:=by simp[ay]
      by_cases bh:q.1=1
      .have b7:(q.1 == 1)=true:=by simp[bh]
       have X:=C2 (k6 (fun vs s=>f0 c.p g vs (.mk N Q P R M) s) (fun vs s=>qG (qn c.p g) vs tg s) (s.fuel+1) vs s=.ok (0,0,q.2.2) x) (a6.o.trans (by rw[ag.o];exact(Dp ay).trans (Dq bh)))
       go_wp2_with (first
        | (go_at_call 123
           (with_reducible refine(aB.o.call ab.o Y.o aF.o aD.o aE.o).mono ?_)
           rintro e K ⟨n2,aa,rfl,u,H,J,C⟩;rw[L.o]at u C;have F:=C2 (fQ c K aa i) u;have E:=U (aA.o.exo F.o H J ad.o);obtain⟨rfl,bf⟩:=C a i rfl;have ao:=U (ab.o.ex aC.o Y.o L.o H F.o);have ar:=U (a7.o.below ((W.o.mono (show c.B<=w.heap.size by omega)).trans (E.o.off.below O a5.o)) Zr);have y:=E.o.off.at ap.o au.o;obtain⟨⟨aU,aV,aW,aX,aY,aZ⟩,a0⟩:=qU y;have aT:w.heap.size<K.heap.size:=zB y
           clear u H J C y)
        | (go_at_call 37
           (with_reducible refine(zk F.o false aq.o).mono ?_);rintro e a1 ⟨rfl,rfl⟩)
        | (go_at_call 75
           (with_reducible refine(a4.o.call ao.o aL.o aJ.o aK.o ar.o).mono ?_)
           intro e V Z;obtain⟨rfl,aj,al,ak,ax,az,n,I⟩:=E.o.post Z;rw[ag.o]at n I;have S:=C2 (f2 c W0 vo s f vv vs V aj al ak ax az x) n;obtain⟨am,a2,an⟩:=I q x rfl;have aG:=U am;have aN:=U an;subst a2;have bl:=U I;obtain⟨⟨bn,f1,bo⟩,bp⟩:=zo n.frm.box;have bt:f<V.heap.size:=n.frm.lt
           clear Z n I am an)
        | (go_at_call 37
           (with_reducible refine(zk S.o.run false aM.o).mono ?_);rintro e bG ⟨rfl,rfl⟩))
       go_end0
       exact((S.o.de 0).fin (r:=.ok (0,0,q.2.2) x) rfl fun G bH e=>by injection e with aQ bM;subst aQ;exact⟨aG.o,rfl,aN.o.trans (bI.o ay)⟩).off W.o X.o.symm
      .have b7:(q.1 == 1)=false:=by simp[bh]
       have X:=C2 (k6 (fun vs s=>f0 c.p g vs (.mk N Q P R M) s) (fun vs s=>qG (qn c.p g) vs tg s) (s.fuel+1) vs s=k6 (fun vs s=>f0 c.p g vs (.mk N Q P R M) s) (fun vs s=>qG (qn c.p g) vs tg s) j q.2.2 x) (a6.o.trans (by rw[ag.o];exact(Dp ay).trans (Dp bh)))
       go_wp2_with (first
        | (go_at_call 123
           (with_reducible refine(aB.o.call ab.o Y.o aF.o aD.o aE.o).mono ?_)
           rintro e K ⟨n2,aa,rfl,u,H,J,C⟩;rw[L.o]at u C;have F:=C2 (fQ c K aa i) u;have E:=U (aA.o.exo F.o H J ad.o);obtain⟨rfl,bf⟩:=C a i rfl;have ao:=U (ab.o.ex aC.o Y.o L.o H F.o);have ar:=U (a7.o.below ((W.o.mono (show c.B<=w.heap.size by omega)).trans (E.o.off.below O a5.o)) Zr);have y:=E.o.off.at ap.o au.o;obtain⟨⟨aU,aV,aW,aX,aY,aZ⟩,a0⟩:=qU y;have aT:w.heap.size<K.heap.size:=zB y
           clear u H J C y)
        | (go_at_call 37
           (with_reducible refine(zk F.o false aq.o).mono ?_);rintro e a1 ⟨rfl,rfl⟩)
        | (go_at_call 75
           (with_reducible refine(a4.o.call ao.o aL.o aJ.o aK.o ar.o).mono ?_)
           intro e V Z;obtain⟨rfl,aj,al,ak,ax,az,n,I⟩:=E.o.post Z;rw[ag.o]at n I;have S:=C2 (f2 c W0 vo s f vv vs V aj al ak ax az x) n;obtain⟨am,a2,an⟩:=I q x rfl;have aG:=U am;have aN:=U an;subst a2;have bl:=U I;obtain⟨⟨bn,f1,bo⟩,bp⟩:=zo n.frm.box;have bt:f<V.heap.size:=n.frm.lt
           clear Z n I am an)
        | (go_at_call 37
           (with_reducible refine(zk S.o.run false aM.o).mono ?_);rintro e bG ⟨rfl,rfl⟩))
       have b3:=U (aN.o.trans (bI.o ay))
       have b6:(V.setCell (f,1) (0:Int)).cell? (c.b,8)=some (.int .i64 (x.fuel:Int)):=by
        obtain⟨cb,_,T⟩:=(S.o.de 0).run.box;exact(zD T).1.2.2.2.2.2.2.2.2.1
       go_roundw
       case rel=>exact⟨j,aj,al,ak,x,b3.o▸S.o.de 0,by have:=bm.o;have:=bL.o;omega,by have:=bm.o;have:=ad.o;omega,b4.o,by rw[aG.o,b1.o];exact aL.o,by rw[aG.o];exact X.o⟩
       case measure=>
        have ae:=bm.o;have bq:=bL.o;simp[intOf,b6,b2.o];omega
    .have aM:=C2 ((x.spent || decide (x.stat≠0))=true) bg
     have X:=C2 (k6 (fun vs s=>f0 c.p g vs (.mk N Q P R M) s) (fun vs s=>qG (qn c.p g) vs tg s) (s.fuel+1) vs s=.fin x) (a6.o.trans (by rw[ag.o];rfl));clear aR bb bg bd bc bz
     go_wp2_with (first
      | (go_at_call 123
         (with_reducible refine(aB.o.call ab.o Y.o aF.o aD.o aE.o).mono ?_)
         rintro e K ⟨n2,aa,rfl,u,H,J,C⟩;rw[L.o]at u C;have F:=C2 (fQ c K aa i) u;have E:=U (aA.o.exo F.o H J ad.o);obtain⟨rfl,bf⟩:=C a i rfl;have ao:=U (ab.o.ex aC.o Y.o L.o H F.o);have ar:=U (a7.o.below ((W.o.mono (show c.B<=w.heap.size by omega)).trans (E.o.off.below O a5.o)) Zr);have y:=E.o.off.at ap.o au.o;obtain⟨⟨aU,aV,aW,aX,aY,aZ⟩,a0⟩:=qU y;have aT:w.heap.size<K.heap.size:=zB y
         clear u H J C y)
      | (go_at_call 37
         (with_reducible refine(zk F.o false aq.o).mono ?_);rintro e a1 ⟨rfl,rfl⟩)
      | (go_at_call 75
         (with_reducible refine(a4.o.call ao.o aL.o aJ.o aK.o ar.o).mono ?_)
         intro e V Z;obtain⟨rfl,aj,al,ak,ax,az,n,I⟩:=E.o.post Z;rw[ag.o]at n I;have S:=C2 (f2 c W0 vo s f vv vs V aj al ak ax az x) n;have bl:=U I;obtain⟨⟨bn,f1,bo⟩,bp⟩:=zo n.frm.box;have bt:f<V.heap.size:=n.frm.lt
         clear Z n I)
      | (go_at_call 37
         (with_reducible refine(zk S.o.run true aM.o).mono ?_);rintro e bG ⟨rfl,rfl⟩))
     go_end0
     exact(S.o.fin (r:=.fin x) rfl fun G bH e=>Uv).off W.o X.o.symm
  .have ad:=C2 (i.fuel<=t.fuel) af.fuel
   have aS:(i.spent || decide (i.stat≠0))=true:=Hc
   have aq:=U aS
   have X:=U (show k6 (fun vs s=>f0 c.p g vs (.mk N Q P R M) s) (fun vs s=>qG (qn c.p g) vs tg s) (s.fuel+1) vs s=.fin i by
    rw[bj.o];rw[L.o]
    rfl)
   clear aS af
   go_wp2_with (first
    | (go_at_call 123
       (with_reducible refine(aB.o.call ab.o Y.o aF.o aD.o aE.o).mono ?_)
       rintro e K ⟨n2,aa,rfl,u,H,J,C⟩;rw[L.o]at u C;have F:=C2 (fQ c K aa i) u;have E:=U (aA.o.exo F.o H J ad.o);have y:=E.o.off.at ap.o au.o;obtain⟨⟨aU,aV,aW,aX,aY,aZ⟩,a0⟩:=qU y;have aT:w.heap.size<K.heap.size:=zB y
       clear u H J C y)
    | (go_at_call 37
       (with_reducible refine(zk F.o true aq.o).mono ?_);rintro e a1 ⟨rfl,rfl⟩))
   go_end0
   exact(E.o.fin (r:=.fin i) rfl fun G bH e=>Uv).off W.o X.o.symm
theorem UK:(Tryz.prog.info? 131).map (fun i=>(i.zero,i.size,i.bytes))=some (some (.agg #[.string ⟨#[]⟩,(0:Int)]),2,24):=by kernel_rfl
theorem J2{td:C3}{a b d:Nat}{f:Bool}(c:zn k ty td a b d f=true):(k≠6->k≠7->0<a)/\(k=3->a=2)/\(k=5->a=1):=by
 unfold zn at c
 repeat' split at c
 all_goals(first|(exfalso;cases c;done)|(simp at c;exact⟨fun e _=>O,fun e=>O,fun e=>O⟩))
theorem f2.setn{g d:C5}{i:fG}{e:Int}(a:f2 c w vo s f vv vs wr g d i e n1 t){x:Int}(b:fT x):f2 c w vo s f vv vs (wr.setCell (f,2) (x:Int)) g d i e x t:=
 ⟨wC a.run a.frm 2 _,a.frm.setn b,a.off' (fF.set (X:=gI f d) wr (.inl rfl) 2 _) fun k _ b=>.inr b,a.to1,a.to2,a.le,a.sum⟩
theorem f2.we{j:C4}{e i:C5}{g:fG}{d:Int}(a:f2 c w vo s f vv vs wr e i g d n1 t)(b:Cy wr j):f2 c w vo s f vv vs j e i g d n1 t:=
 a.exo (a.run.we b) (fF.wb _ b) (fM.refl _ _) Zr
theorem wG{k ty:Int}{td:C3}{va vt ve:C5}(d:fY c g w vo s f vv vs 0 0)(m:s.fuel=0):
 Cz 102 #[(c.b,0),(f,0),.agg #[(k:Int),(ty:Int),td,va,vt,ve]] w (yS c vo f vv vs s w (.fin (zj s).st)):=by
 have j:=C2 (Cy w (w.alloc (wF k ty td va vt ve))) (Zb.alloc Zr _);have a:=U (d.we j.o);have n:∀q,q<(w.alloc (wF k ty td va vt ve)).heap.size->q=c.b->f8 c vo q:=fun q _ e=>.inl (by have:=d.l.run.ord;omega)
 have x:=U n;have y:=d.l.run.lt;have i:=U m;clear d m n;go_enter func102,ntmps102
 go_wp2_with (go_at_call 121;(with_reducible refine(tB a.o.l.run a.o.l.sp a.o.l.st i.o).mono ?_);rintro e _ ⟨rfl,u,p⟩
              have v:=U ((f2.start a.o).exo u (p.mono x.o) (fM.refl _ _) (by rw[iD i.o];exact D0 _))
              clear u p)
 go_end0
 exact(v.o.fin (r:=.fin (zj s).st) rfl fun _ t e=>Uv).off j.o rfl
theorem J3(dw:gL c.p)(dv:p6 c g)(du:J0 c g){w:C4}{vo:C5}{s:RS}{f:Nat}{vv:C5}{vs:fG}{ft:Int}{v:List Pa}{frm:Nat}{ti:Bool}{eW:Nat}{k ty:Int}{td:C3}{tc:List Ex}{tg th:List St}{m:Nat}{va vt ve:C5}
 (V:fY c (g+1) w vo s f vv vs 0 0) (dq:xk vs=v.map (·.name)) (cM:uP (.mk k ty td tc tg th) m=true) (dr:(yt c.p ft (.mk k ty td tc tg th) v frm ti eW).1=0) (au:kW c.B w va tc) (ab:f6 c.B w vt tg) (M:f6 c.B w ve th) (b3:0<s.fuel):
 Cz 102 #[(c.b,0),(f,0),.agg #[(k:Int),(ty:Int),td,va,vt,ve]] w (yS c vo f vv vs s w (qn c.p (g+1) vs (.mk k ty td tc tg th) s)):=by
 obtain⟨bz,bX,rfl,_⟩:=au.form;obtain⟨bC,bY,rfl,_⟩:=ab.form;obtain⟨bA,bW,rfl,_⟩:=M.form;obtain⟨cL,cI,rfl,_,_,_,_,_⟩:=V.frm.cells;obtain⟨dK,⟨d6,cZ,dQ⟩,eV,d7,dy⟩:=sJ dr;rw[jp]at cM;simp only[D2,decide_eq_true_eq]at cM;obtain⟨⟨⟨⟨_,cQ⟩,dx⟩,dH⟩,dG⟩:=cM;have b5:=CX cQ;have co:=U (J2 cQ);have fs:=V.l.run.ord;have fq:=V.l.run.lt;have fg:=V.frm.lt;obtain⟨eQ,ax,d2,d3,d4⟩:=info_parts kY;have bH:=U (Dt ax (Dt d2 (Dt d3 d4)));obtain⟨eR,dF,dZ,d0,d1⟩:=info_parts UK;have bI:=U (Dt dF (Dt dZ (Dt d0 d1)));obtain⟨E,b9⟩:=C0 ((zj s).st);have aR:=U b9;have aE:=U (show E.fuel+1<=s.fuel by rw[<-b9,iC b3];show s.fuel-1+1<=_;omega);have bG:=C2 (qn c.p (g+1) vs (.mk k ty td tc tg th) s=(if k=5 then k6 (fun vs s=>f0 c.p g vs (tc.getD 0 j8) s) (fun vs s=>qG (qn c.p g) vs tg s) (E.fuel+1) vs E else if k=6 then .ok (1,0,vs) E else if k=7 then .ok (2,0,vs) E else(f0 c.p g vs (tc.getD 0 j8) E).bind fun a s=>BA c.p g vs k td tc tg th a s)) (b9▸SH c.p g vs k ty td tc tg th b3);have C:=C2 (Cy w (w.alloc (wF k ty td (.slice bz tc.length bX) (.slice bC tg.length bY) (.slice bA th.length bW)))) (Zb.alloc Zr _);have dW:(w.alloc (wF k ty td (.slice bz tc.length bX) (.slice bC tg.length bY) (.slice bA th.length bW))).heap[w.heap.size]?=some (wF k ty td (.slice bz tc.length bX) (.slice bC tg.length bY) (.slice bA th.length bW)):=Ds w _;have fC:(w.alloc (wF k ty td (.slice bz tc.length bX) (.slice bC tg.length bY) (.slice bA th.length bW))).heap.size=w.heap.size+1:=zA _ _;have y:=U (V.we C.o)
 have ae:=U (show ¬(f8 c vo w.heap.size\/gI f (.slice (some ⟨cL,0,none⟩) (vs.length+1) cI) w.heap.size)from fun K=>by
  rcases K with K|K
  .have:=(V.l.run.tch K).2.2;omega
  .rcases K with K|K
   .have K:w.heap.size=f:=K;omega
   .have:=(zT V.frm.row _ K).1;omega)
 have aO:=U (show ∀q,q<c.B->¬(f8 c vo q\/gI f (.slice (some ⟨cL,0,none⟩) (vs.length+1) cI) q)from fun q _ bg=>by
  rcases bg with bg|bg
  .have:=(V.l.run.tch bg).1;omega
  .rcases bg with M|M
   .have:=V.frm.hL;have M:q=f:=M;omega
   .have:=(zT V.frm.row q M).2;omega)
 have ah:=U dW;have bD:=U V;have bF:=U dq;have aD:=U au;have dg:=U ab;have ek:=U M;have Z:=U b3;have cs:=U dK;have di:=U dQ;have ed:=U dy;have da:=U dH;have eg:=U dG;have ck:=U dx;have a4:=U dv;have cm:=U du;have bK:=U dw;clear V dq dr au ab M dW b3 dK dQ dy dH dG dx dv du dw cQ ax d2 d3 d4 dF dZ d0 d1 b9;by_cases au:k=5
 .subst au
  clear b5;have cU:0<tc.length:=co.o.1 O O;obtain⟨cJ,ad⟩:∃e,tc[0]?=some e:=⟨_,Dz cU⟩
  have aw:tc.getD 0 j8=cJ:=by rw[Yl,ad];rfl
  have W:=i4 cs.o O O O;rw[aw]at W;have aS:=U W.1;have aM:=U ad;have bJ:=U (qb ck.o ad);have eo:=C2 ((zX c.p ft tg v v.length d6 cZ).1=0) di.o;have I:=C2 (qn c.p (g+1) vs (.mk 5 ty td tc tg th) s=k6 (fun vs s=>f0 c.p g vs cJ s) (fun vs s=>qG (qn c.p g) vs tg s) (E.fuel+1) vs E) (by have K:=bG.o;rw[Dq rfl,aw]at K;exact K);clear W ad aw;go_enter func102,ntmps102
  go_wp2_with (first
   | (go_at_call 121;(with_reducible refine(ky y.o.l.run y.o.l.sp y.o.l.st Z.o).mono ?_);rintro e F ⟨rfl,D,T⟩
      obtain⟨A,S,G⟩:=y.o.wl Z.o D T;rw[aR.o]at A G;have an:=U A;have aP:=U G;have t:=U ((f2.start y.o).exo A.l.run S (fM.refl _ _) Vp);have H:=t.o.off.at ae.o ah.o;obtain⟨⟨bn,bo,bp,bq,br,bs⟩,bt⟩:=qU H;have b8:w.heap.size<F.heap.size:=zB H;have N:Below c.B w F:=(C.o.mono (show c.B<=w.heap.size by omega)).trans (t.o.off.below O aO.o);have b4:f<F.heap.size:=zB t.o.frm.box;obtain⟨⟨ap,f1,aq⟩,ar⟩:=zo t.o.frm.box;have el:=U (aD.o.below N Zr);have em:=U (dg.o.below N Zr)
      clear D T A S G H N)
   | (go_at_call 122
      (with_reducible refine(PH bK.o a4.o cm.o an.o bF.o aS.o bJ.o da.o eo.o aM.o el.o em.o).mono ?_)
      intro e am aA;obtain⟨rfl,aC,ea,d9,dM,aB,av,ay⟩:=t.o.post aA;have R:=U av;have a6:=U ay
      clear aA av ay))
  go_end0
  exact(R.o.fin rfl a6.o).off C.o I.o.symm
 by_cases ab:k=6
 .subst ab
  clear b5;have I:=C2 (qn c.p (g+1) vs (.mk 6 ty td tc tg th) s=.ok (1,0,vs) E) bG.o;go_enter func102,ntmps102
  go_wp2_with (first
   | (go_at_call 121;(with_reducible refine(ky y.o.l.run y.o.l.sp y.o.l.st Z.o).mono ?_);rintro e F ⟨rfl,D,T⟩
      obtain⟨A,S,G⟩:=y.o.wl Z.o D T;rw[aR.o]at A G;have an:=U A;have aP:=U G;have t:=U ((f2.start y.o).exo A.l.run S (fM.refl _ _) Vp);have H:=t.o.off.at ae.o ah.o;obtain⟨⟨bn,bo,bp,bq,br,bs⟩,bt⟩:=qU H;have b8:w.heap.size<F.heap.size:=zB H;have N:Below c.B w F:=(C.o.mono (show c.B<=w.heap.size by omega)).trans (t.o.off.below O aO.o);have b4:f<F.heap.size:=zB t.o.frm.box;obtain⟨⟨ap,f1,aq⟩,ar⟩:=zo t.o.frm.box
      clear D T A S G H N))
  go_end0
  exact((t.o.de 1).fin (r:=.ok (1,0,vs) E) rfl fun q x e=>Xc).off C.o I.o.symm
 by_cases M:k=7
 .subst M
  clear b5;have I:=C2 (qn c.p (g+1) vs (.mk 7 ty td tc tg th) s=.ok (2,0,vs) E) bG.o;go_enter func102,ntmps102
  go_wp2_with (first
   | (go_at_call 121;(with_reducible refine(ky y.o.l.run y.o.l.sp y.o.l.st Z.o).mono ?_);rintro e F ⟨rfl,D,T⟩
      obtain⟨A,S,G⟩:=y.o.wl Z.o D T;rw[aR.o]at A G;have an:=U A;have aP:=U G;have t:=U ((f2.start y.o).exo A.l.run S (fM.refl _ _) Vp);have H:=t.o.off.at ae.o ah.o;obtain⟨⟨bn,bo,bp,bq,br,bs⟩,bt⟩:=qU H;have b8:w.heap.size<F.heap.size:=zB H;have N:Below c.B w F:=(C.o.mono (show c.B<=w.heap.size by omega)).trans (t.o.off.below O aO.o);have b4:f<F.heap.size:=zB t.o.frm.box;obtain⟨⟨ap,f1,aq⟩,ar⟩:=zo t.o.frm.box
      clear D T A S G H N))
  go_end0
  exact((t.o.de 2).fin (r:=.ok (2,0,vs) E) rfl fun q x e=>Xc).off C.o I.o.symm
 have W:=i4 cs.o O ab M;have cU:0<tc.length:=co.o.1 ab M;obtain⟨⟨bi,bl,a1,bu,ba⟩,ad⟩:∃e,tc[0]?=some e:=⟨_,Dz cU⟩
 have aw:tc.getD 0 j8=.mk bi bl a1 bu ba:=by rw[Yl,ad];rfl
 rw[aw]at W;have aM:=U ad;have e7:=U aw;have c3:=U W.2;have aS:=U W.1;have bJ:=U (qb ck.o ad);obtain⟨cK,a2,_,dt,_,_⟩:=aD.o.cells ad;have cp:=U dt;have fl:(k == 5)=false:=by simp[au]
 have fm:(k == 6)=false:=by simp[ab]
 have fn:(k == 7)=false:=by simp[M]
 have eh:=U (show k=1\/k=2\/k=3\/k=4\/k=8\/k=9\/k=10 by omega)
 have c6:=U (show qn c.p (g+1) vs (.mk k ty td tc tg th) s=(f0 c.p g vs (.mk bi bl a1 bu ba) E).bind fun a s=>BA c.p g vs k td tc tg th a s by
  have K:=bG.o;rw[Dp au,Dp ab,Dp M,aw]at K
  exact K)
 obtain⟨r,cV⟩:=C0 (f0 c.p g vs (.mk bi bl a1 bu ba) E);have a8:=U cV;have aW:=qw c.p g vs (.mk bi bl a1 bu ba) E;have aT:zr c.p (f0 c.p g vs (.mk bi bl a1 bu ba) E):=(jW c.p bK.o g).1 v vs _ E (by have:=aE.o;have:=bD.o.l.fu;omega) (by have:=y.o.l.shp;rw[<-aR.o,iC Z.o];exact⟨this.len,this.sp,this.st⟩) aS.o;rw[cV]at aW aT;clear W ad aw dt cV b5 au ab M;rcases r with⟨a,d⟩|d
 .have bL:=C2 (d.fuel<=E.fuel) aW.1.fuel
  have dj:=C2 (d.cost+d.fuel<=E.cost+E.fuel) aW.1.pay;have cu:=C2 ((d.spent || decide (d.stat≠0))=false) (kE aT);have e8:=C2 (gQ c.p d) aT;have I:=U (show qn c.p (g+1) vs (.mk k ty td tc tg th) s=BA c.p g vs k td tc tg th a d by rw[c6.o,a8.o];rfl);clear aW aT;go_enter func102,ntmps102
  go_upto_region 11 with(first
   | (go_at_call 121;(with_reducible refine(ky y.o.l.run y.o.l.sp y.o.l.st Z.o).mono ?_);rintro e F ⟨rfl,D,T⟩
      obtain⟨A,S,G⟩:=y.o.wl Z.o D T;rw[aR.o]at A G;have an:=U A;have aP:=U G;have t:=U ((f2.start y.o).exo A.l.run S (fM.refl _ _) Vp);have H:=t.o.off.at ae.o ah.o;obtain⟨⟨bn,bo,bp,bq,br,bs⟩,bt⟩:=qU H;have b8:w.heap.size<F.heap.size:=zB H;have N:Below c.B w F:=(C.o.mono (show c.B<=w.heap.size by omega)).trans (t.o.off.below O aO.o);have b4:f<F.heap.size:=zB t.o.frm.box;obtain⟨⟨ap,f1,aq⟩,ar⟩:=zo t.o.frm.box;obtain⟨eC,eX,eZ,W,eI,aH,aI,aJ,aK,aL,cW⟩:=(aD.o.below N Zr).cells aM.o;injection cp.o.symm.trans W with aF;injection aF with aF cN;subst aF cN;rw[show a2+0*5=a2 by omega]at aH aI aJ aK aL;have eJ:cK<F.heap.size:=O
      have cC:=U ((aD.o.below N Zr).range aM.o);have cD:=U cW
      clear D T A S G H N)
   | (go_at_call 123
      (with_reducible refine(a4.o.call an.o aS.o bJ.o cC.o cD.o).mono ?_)
      rintro e Q ⟨n2,c1,rfl,P,X,aa,aY⟩;rw[a8.o]at P aY;have aQ:=C2 (fQ c Q c1 d) P;have j:=U (t.o.exo aQ.o X aa bL.o);obtain⟨rfl,eL⟩:=aY a d rfl;have a5:=U eL;have a7:=U (an.o.ex bK.o aS.o a8.o X aQ.o);have cn:=U ((C.o.mono (show c.B<=w.heap.size by omega)).trans (j.o.off.below O aO.o));have ak:=j.o.off.at ae.o ah.o;obtain⟨⟨cd,ce,cf,cg,q4,ch⟩,ci⟩:=qU ak;have eN:w.heap.size<Q.heap.size:=zB ak;have ep:=U ak
      clear P X aa aY ak)
   | (go_at_call 37
      (with_reducible refine(zk aQ.o false cu.o).mono ?_);rintro e e1 ⟨rfl,rfl⟩))
  clear bn bo bp bq br bs bt aH aI aJ aK aL ap f1 aq ar;rcases eh.o with rfl|rfl|rfl|rfl|rfl|rfl|rfl
  .have dz:f<Q.heap.size:=zB j.o.frm.box
   obtain⟨⟨ap,f1,aq⟩,ar⟩:=zo j.o.frm.box;have dJ:vs.length<=2000000000:=Jx
   have dN:=j.o.frm.pre (show c.L<=Q.heap.size by have:=j.o.run.ord;omega) td n2;have cw:=U dN;clear dN;go_wp2_with fail
   go_region_law (first
    | (refine qY rfl (.tmp 46) (.tmp 51) _ rfl c.L 131 eR _ 2 24 underlying132 bI.o.1 bI.o.2.1 bI.o.2.2.1 bI.o.2.2.2 rfl O (.slice (some ⟨cL,0,none⟩) (vs.length+1) cI) (vs.length+1) _ rfl (by exact qS cw.o.1 Zb.drew Zr) ⟨Q.heap.size,0,none⟩ 1 1 [.string td,.int .i64 n2] rfl rfl (by exact cw.o.2.1) Um Ul O (by exact cw.o.2.2) O ?_
       intro eY w8 az aV D;obtain⟨eb,es,rfl⟩:=zY az;have cl:=U (j.o.push ((Zb.alloc Zr _).drew) aV D az a5.o (by have:=bL.o;have:=aE.o;omega));have cP:=(j.o.frm.push ((Zb.alloc Zr _).drew) aV D az a5.o).2.2.2;obtain⟨⟨e3,e4,e5⟩,e6⟩:=zo cP;have ff:f<w8.heap.size:=zB cP
       clear az aV D cP))
   all_goals
    go_wp2_with fail
    go_end0
    exact(cl.o.fin (r:=.ok (0,0,vs++[(td,n2)]) d) rfl fun q x e=>Xc).off C.o (I.o.trans (Dq rfl)).symm
  .have dz:f<Q.heap.size:=zB j.o.frm.box
   obtain⟨⟨ap,f1,aq⟩,ar⟩:=zo j.o.frm.box;have dJ:vs.length<=2000000000:=Jx
   obtain⟨_,dR⟩:=c3.o.2 rfl;obtain⟨cc,b6⟩:=Option.isSome_iff_exists.1 (show(jc vs td).isSome=true by rw[rJ bF.o td,dR];rfl);obtain⟨_,_,dU,_,_,_,⟨u9,_⟩,_,_⟩:=j.o.frm.put b6 a5.o;simp only[Value.slice.injEq,Option.some.injEq,Addr.mk.injEq,and_true,true_and]at dU;obtain⟨rfl,rfl⟩:=dU;have c7:=U (j.o.frm.we Zb.drew);obtain⟨_,_,dV,_,_,_,_,dA,dL⟩:=c7.o.put b6 a5.o;simp only[Value.slice.injEq,Option.some.injEq,Addr.mk.injEq,and_true,true_and]at dV;obtain⟨rfl,rfl⟩:=dV;have cl:=U ((j.o.we Zb.drew).vput dA dL (PE vs td n2));have er:=U (show XK (jc vs td)=cc+1 by rw[b6];rfl);have fp:(0 :Int)<=(cc:Int)+1:=O
   have fo:cc<vs.length:=O
   clear dA dL b6 dR;go_wp2_with fail
   go_region_law (first
    |(go_simp;go_at_call 124;(refine(FW (w:=Q.drew) c7.o td (cc+1) er.o O).mono ?_);rintro e _ ⟨rfl,rfl⟩))
   all_goals
    go_wp2_with fail
    go_end0
    exact(cl.o.fin (r:=.ok (0,0,xJ vs td n2) d) rfl fun q x e=>Xc).off C.o (I.o.trans rfl).symm
  .have fb:tc.length=2:=co.o.2.1 rfl
   have eM:1<tc.length:=O
   have fx:(1 :Int)<(tc.length:Int):=O
   obtain⟨⟨bj,bm,bk,bv,bb⟩,bd⟩:∃e,tc[1]?=some e:=⟨_,Dz eM⟩
   have cS:tc.getD 1 j8=.mk bj bm bk bv bb:=by rw[Yl,bd];rfl
   have cG:=C2 ((qE c.p v (.mk bj bm bk bv bb)).2=0) (cS▸c3.o.1 rfl);have db:=U (qb ck.o bd);have df:=U (aD.o.below cn.o Zr);obtain⟨_,_,_,ds,_,aH,aI,aJ,aK,aL,dO⟩:=df.o.cells bd;have cO:=cp.o.symm.trans ds;injection cO with cO;injection cO with eD eE;subst eD eE;rw[show a2+1*5=a2+5 by omega]at aH aI aJ aK aL;have fi:cK<Q.heap.size:=by have:=j.o.run.ord;omega
   have dc:=U (df.o.range bd);have dh:=U dO
   have dD:(zZ c.p.wa td).isSome=true:=by
    have b0:=cs.o;unfold jH at b0;rw[Dp Uf,Dp Uf,Dq rfl]at b0;by_cases ax:(zZ c.p.wa td).isSome=true
    .exact ax
    .rw[Dp ax]at b0;exact absurd b0 Uf
   obtain⟨i,ax⟩:=Option.isSome_iff_exists.1 dD;have aN:=U ax;obtain⟨d8,b7⟩:=C0 (f0 c.p g vs (.mk bj bm bk bv bb) d);have dd:=U b7;have aX:=qw c.p g vs (.mk bj bm bk bv bb) d;have aU:zr c.p (f0 c.p g vs (.mk bj bm bk bv bb) d):=j0 bK.o a7.o cG.o;rw[b7]at aX aU;have cA:=C2 (qn c.p (g+1) vs (.mk 3 ty td tc tg th) s=d8.bind fun n s=>(y7 c.p td n2 n (zV s)).bind fun _ s=>.ok (0,0,vs) s) (I.o.trans (by show(f0 c.p g vs (tc.getD 1 j8) d).bind _=_;rw[cS,b7]));clear bd cS ds dO dD ax b7;rcases d8 with⟨n,u⟩|u
   .have cH:=C2 (u.fuel<=d.fuel) aX.1.fuel
    have eq:=C2 (u.cost+u.fuel<=d.cost+d.fuel) aX.1.pay;have cv:=C2 ((u.spent || decide (u.stat≠0))=false) (kE aU);have en:=C2 (gQ c.p u) aU;have cT:u.cost+1+u.fuel<=1000000000:=by have:=eq.o;have:=dj.o;have:=aP.o;omega
    clear aX aU
    go_upto_region 19 with(first
     | (go_at_call 123
        (with_reducible refine(a4.o.call a7.o cG.o db.o dc.o dh.o).mono ?_)
        rintro e am ⟨aB,aC,rfl,P,X,aa,aZ⟩;rw[dd.o]at P aZ;have a9:=C2 (fQ c am aC u) P;have R:=U (j.o.exo a9.o X aa cH.o);obtain⟨rfl,dE⟩:=aZ n u rfl;have ef:=U dE
        clear P X aa aZ dE)
     | (go_at_call 37
        (with_reducible refine(zk a9.o false cv.o).mono ?_);rintro e e2 ⟨rfl,rfl⟩))
    clear aH aI aJ aK aL cd ce cf cg q4 ch ci;have ag:=U (R.o.run.pay cT);have a3:=U (R.o.exo ag.o (R.o.run.wm 7 (.int .i64 ((u.cost:Int)+1))) (fM.refl _ _) Zr);obtain⟨e0,_,bh⟩:=R.o.run.box;obtain⟨⟨bM,bN,bO,bP,bQ,bR,bc,bS,bT,bU⟩,bV⟩:=zD bh;have eH:=R.o.run.lt;have fw:=R.o.run.ord;clear bh;go_upto_region 20 with fail;have aG:(am.setCell (c.b,7) (((u.cost:Int)+1):Int)).heap.size=am.heap.size:=Uk
    generalize am.setCell (c.b,7) (((u.cost:Int)+1):Int)=W5 at *;have eO:=Dv aG;have eP:=Dv aG.symm;clear aG bM bN bO bP bQ bR bc bS bT bU bV;have cb:=a3.o.off.at ae.o ah.o;obtain⟨⟨cd,ce,cf,cg,q4,ch⟩,ci⟩:=qU cb;have fz:w.heap.size<W5.heap.size:=zB cb;have fa:=U cb;clear cb;obtain⟨l,dI⟩:=mO en.o aN.o;have ao:=C2 ((zV u).arr[i]?=some l) dI;clear dI;by_cases b2:0<=n2/\n2<(l.length:Int)
    .obtain⟨al,rfl⟩:∃z:Nat,n2=(z:Int):=⟨n2.toNat,O⟩
     have cj:=U b2
     have cB:=U (show qn c.p (g+1) vs (.mk 3 ty td tc tg th) s=.ok (0,0,vs) { zV u with arr:=u.arr.set i (l.set al aB) } from cA.o.trans (by
      show(y7 c.p td (al:Int) aB (zV u)).bind _=_;rw[tA aN.o ao.o,Dq b2]
      rfl))
     go_wp2_with (go_at_call 125
                  (with_reducible refine(BC ag.o td (al:Int) aN.o ao.o cj.o).mono ?_)
                  rintro e bw ⟨rfl,bf,be⟩;have af:=U bf;have ct:=U (be.mono (Y:=f8 c aC) fun k _ e=>.inl O)
                  clear bf be)
     have c4:=U (a3.o.exo af.o ct.o (fM.refl _ _) Zr);obtain⟨bZ,cR⟩:∃g,c.rows[i]?=some g:=⟨_,Dz (by rw[af.o.len];exact(List.getElem?_eq_some_iff.1 ao.o).1)⟩
     obtain⟨dp,_,cX,eK,eS,dB,d5,eU⟩:=af.o.arrs cR ao.o;have dC:al<l.length:=O
     have fj:(al:Int)<(l.length:Int):=O
     obtain⟨c0,dT⟩:∃c0,l[al]?=some c0:=⟨_,Dz dC⟩
     have eT:=d5 al c0 dT;have fk:i<(zV u).arr.length:=(List.getElem?_eq_some_iff.1 ao.o).1;obtain⟨_,_,dY⟩:=af.o.box;obtain⟨⟨cJ,J,ai,dm,et,eu,ev,ew,ey,eA⟩,_⟩:=zD dY;rw[cX]at dm;have cY:=c4.o.off.at ae.o ah.o;obtain⟨⟨cd,ce,cf,cg,q4,ch⟩,ci⟩:=qU cY;have fA:w.heap.size<bw.heap.size:=zB cY;have eG:c.b<bw.heap.size:=af.o.lt;have cy:=U (af.o.we Zb.drew);have ee:=U cR;have e9:=U cX;clear d5 dT dY cY cR cX ai et eu ev ew ey eA;go_wp2_with fail
     go_region_law (first
      | (go_simp;go_at_call 99;(refine(kh c.B c.p td (i:Int) (show jy (zZ c.p.wa td)=(i:Int)by rw[aN.o];rfl) _ _ bw.drew (by have:=cy.o.ord;omega) cy.o.pa cy.o.pf).mono ?_);rintro e bx ⟨rfl,aj⟩
         have aj:Cy bw bx:=Zb.drew.trans aj;have c5:=U aj;have fE:=(aj.cell (p:=(c.b,3)) eG).trans dm;have a1:=(aj.cell (p:=(dp,i)) eK).trans eS;have cZ:=(aj.cell (p:=(bZ,al)) dB).trans eT;have d7:∀o,bx.frozen? ⟨bZ,o,none⟩=false:=fun o=>(aj.frozen (p:=⟨bZ,o,none⟩) dB).trans (eU o)
         have fD:=aj.size;have fc:c.b<bx.heap.size:=O
         have fh:bZ<bx.heap.size:=O
         have fy:dp<bx.heap.size:=O
         clear aj))
     all_goals
      go_wp2_with fail
      go_end0
      have dP:=(af.o.we c5.o).store ee.o ao.o dC ef.o;exact(((c4.o.we c5.o).exo dP.1 dP.2 (fM.refl _ _) Zr).fin (r:=.ok (0,0,vs) { zV u with arr:=u.arr.set i (l.set al aB) }) rfl fun q x e=>Xc).off C.o cB.o.symm
    .have cj:=U b2
     have cB:=U (show qn c.p (g+1) vs (.mk 3 ty td tc tg th) s=.fin (kR (zV u) 3)from cA.o.trans (by
      show(y7 c.p td n2 aB (zV u)).bind _=_;rw[tA aN.o ao.o,Dp b2]
      rfl))
     go_wp2_with (go_at_call 125
                  (with_reducible refine(F1 ag.o td n2 aN.o ao.o cj.o).mono ?_)
                  rintro e bw ⟨rfl,bf,be⟩;have af:=U bf;have ct:=U (be.mono (Y:=f8 c aC) fun k _ e=>.inl O)
                  clear bf be)
     go_end0
     exact((a3.o.exo af.o ct.o (fM.refl _ _) Zr).fin (r:=.fin (kR (zV u) 3)) rfl fun q x e=>Uv).off C.o cB.o.symm
   .have cH:=C2 (u.fuel<=d.fuel) aX.fuel
    have cv:=C2 ((u.spent || decide (u.stat≠0))=true) (kE aU);clear aX aU
    go_wp2_with (first
     | (go_at_call 123
        (with_reducible refine(a4.o.call a7.o cG.o db.o dc.o dh.o).mono ?_)
        rintro e am ⟨aB,aC,rfl,P,X,aa,aZ⟩;rw[dd.o]at P aZ;have a9:=C2 (fQ c am aC u) P;have R:=U (j.o.exo a9.o X aa cH.o)
        clear P X aa aZ)
     | (go_at_call 37
        (with_reducible refine(zk a9.o true cv.o).mono ?_);rintro e e2 ⟨rfl,rfl⟩))
    go_end0
    exact(R.o.fin (r:=.fin u) rfl fun q x e=>Uv).off C.o (cA.o.trans rfl).symm
  .by_cases b1:n2=0
   .have eF:(n2 != 0)=false:=by simp[b1]
    have cq:=U eg.o;have cF:=C2 ((zX c.p ft th v v.length eV d7).1=0) ed.o;have cE:=U (ek.o.below cn.o Zr);have cz:=C2 (qn c.p (g+1) vs (.mk 4 ty td tc tg th) s=qG (qn c.p g) vs th d) (I.o.trans ((show BA c.p g vs 4 td tc tg th n2 d=(if n2≠0 then qG (qn c.p g) vs tg d else qG (qn c.p g) vs th d)from rfl).trans (Dp (by simpa using b1))));exact Qo
   .have eF:(n2 != 0)=true:=by simp[b1]
    have cq:=U da.o;have cF:=C2 ((zX c.p ft tg v v.length d6 cZ).1=0) di.o;have cE:=U (dg.o.below cn.o Zr);have cz:=C2 (qn c.p (g+1) vs (.mk 4 ty td tc tg th) s=qG (qn c.p g) vs tg d) (I.o.trans ((show BA c.p g vs 4 td tc tg th n2 d=(if n2≠0 then qG (qn c.p g) vs tg d else qG (qn c.p g) vs th d)from rfl).trans (Dq (by simpa using b1))));exact Qo
  .have dz:f<Q.heap.size:=zB j.o.frm.box
   obtain⟨⟨ap,f1,aq⟩,ar⟩:=zo j.o.frm.box;have dJ:vs.length<=2000000000:=Jx
   go_wp2_with fail
   go_end0
   exact(((j.o.de 3).setn a5.o).fin (r:=.ok (3,n2,vs) d) rfl fun q x e=>Xc).off C.o (I.o.trans rfl).symm
  .have cT:d.cost+1+d.fuel<=1000000000:=by have:=dj.o;have:=aP.o;omega
   have ag:=U (j.o.run.pay cT);have a3:=U (j.o.exo ag.o (j.o.run.wm 7 (.int .i64 ((d.cost:Int)+1))) (fM.refl _ _) Zr);obtain⟨e0,_,bh⟩:=j.o.run.box;obtain⟨⟨bM,bN,bO,bP,bQ,bR,bc,bS,bT,bU⟩,bV⟩:=zD bh;have eH:=j.o.run.lt;have fr:=j.o.run.oc;have fv:=j.o.run.ord;clear bh;go_upto_region 30 with fail;have aG:(Q.setCell (c.b,7) (((d.cost:Int)+1):Int)).heap.size=Q.heap.size:=Uk
   generalize Q.setCell (c.b,7) (((d.cost:Int)+1):Int)=W5 at *;have eO:=Dv aG;have eP:=Dv aG.symm;clear aG bM bN bO bP bQ bR bc bS bT bU bV;obtain⟨_,_,dX⟩:=ag.o.box;obtain⟨⟨bM,bN,bO,bP,bQ,bR,bc,bS,bT,bU⟩,bV⟩:=zD dX;have fe:c.b<W5.heap.size:=O
   obtain⟨c2,dl,ca⟩:=zY ag.o.o;rw[ca]at bc;have dk:=U ca;have ej:=C2 ((W5.alloc (.cells #[(n2:Int)] 3)).ownsRow c.L 3 1 (.slice c2 d.o.length dl) d.o.length (d.o.map (Value.int .i64))) (ca▸qS ag.o.o ((D4 W5.heap.size W5).alloc Zr _) Zr);have ei:=U (jV W5 [.int .i64 n2] 3);have fB:d.o.length<=1000000000:=O
   clear dX ca
   go_wp2_with (at_builtin;refine qJ rfl (.tmp 151) (.tmp 153) _ rfl c.L 3 eQ _ 1 8 underlying23 bH.o.1 bH.o.2.1 bH.o.2.2.1 bH.o.2.2.2 rfl O (.slice c2 d.o.length dl) d.o.length _ rfl (by exact ej.o) ⟨W5.heap.size,0,none⟩ 1 1 [.int .i64 n2] rfl rfl (by exact ei.o) Um Ul O Ug O ?_
                intro eY w8 az aV D;obtain⟨eb,es,rfl⟩:=zY az;have a0:=ag.o.print (a:=n2) (by rw[dk.o];exact aV) (by rw[dk.o];exact D) az (show d.o.length+1<=d.cost+1 by omega);have cx:=U (Dt a0.1 (Dt a0.2.1 a0.2.2.1));obtain⟨⟨e3,e4,e5,_,_,_,_,_,_,_⟩,e6⟩:=zD a0.2.2.2;have fd:c.b<w8.heap.size:=zB a0.2.2.2
                clear az aV D a0)
   go_end0
   have ec:=a3.o.exo cx.o.1 cx.o.2.1 cx.o.2.2 Zr;exact(ec.fin (r:=.ok (0,0,vs) { zV d with o:=d.o++[n2] }) rfl fun q x e=>Xc).off C.o (I.o.trans rfl).symm
  .go_wp2_with fail
   go_end0
   exact(j.o.fin (r:=.ok (0,0,vs) d) rfl fun q x e=>Xc).off C.o I.o.symm
 .have bL:=C2 (d.fuel<=E.fuel) aW.fuel
  have cu:=C2 ((d.spent || decide (d.stat≠0))=true) (kE aT);have I:=U (show qn c.p (g+1) vs (.mk k ty td tc tg th) s=.fin d by rw[c6.o,a8.o];rfl);clear aW aT;go_enter func102,ntmps102
  go_wp2_with (first
   | (go_at_call 121;(with_reducible refine(ky y.o.l.run y.o.l.sp y.o.l.st Z.o).mono ?_);rintro e F ⟨rfl,D,T⟩
      obtain⟨A,S,G⟩:=y.o.wl Z.o D T;rw[aR.o]at A G;have an:=U A;have aP:=U G;have t:=U ((f2.start y.o).exo A.l.run S (fM.refl _ _) Vp);have H:=t.o.off.at ae.o ah.o;obtain⟨⟨bn,bo,bp,bq,br,bs⟩,bt⟩:=qU H;have b8:w.heap.size<F.heap.size:=zB H;have N:Below c.B w F:=(C.o.mono (show c.B<=w.heap.size by omega)).trans (t.o.off.below O aO.o);have b4:f<F.heap.size:=zB t.o.frm.box;obtain⟨⟨ap,f1,aq⟩,ar⟩:=zo t.o.frm.box;obtain⟨eC,eX,eZ,W,eI,aH,aI,aJ,aK,aL,cW⟩:=(aD.o.below N Zr).cells aM.o;injection cp.o.symm.trans W with aF;injection aF with aF cN;subst aF cN;rw[show a2+0*5=a2 by omega]at aH aI aJ aK aL;have eJ:cK<F.heap.size:=O
      have cC:=U ((aD.o.below N Zr).range aM.o);have cD:=U cW
      clear D T A S G H N)
   | (go_at_call 123
      (with_reducible refine(a4.o.call an.o aS.o bJ.o cC.o cD.o).mono ?_)
      rintro e Q ⟨n2,c1,rfl,P,X,aa,aY⟩;rw[a8.o]at P aY;have aQ:=C2 (fQ c Q c1 d) P;have j:=U (t.o.exo aQ.o X aa bL.o);have ak:=j.o.off.at ae.o ah.o;obtain⟨⟨cd,ce,cf,cg,q4,ch⟩,ci⟩:=qU ak;have eN:w.heap.size<Q.heap.size:=zB ak;have ep:=U ak
      clear P X aa aY ak)
   | (go_at_call 37
      (with_reducible refine(zk aQ.o true cu.o).mono ?_);rintro e e1 ⟨rfl,rfl⟩))
  go_end0
  exact(j.o.fin (r:=.fin d) rfl fun q x e=>Uv).off C.o I.o.symm
theorem J4(u:gL c.p)(t:p6 c g)(r:J0 c g):PC c (g+1):=by
 intro w vo s f vv vs ft v frm ti _ k ty td tc tg th m va vt ve b i j l n o q;by_cases a:s.fuel=0
 .exact(wG b a).mono fun e w' d=>(SG c.p g vs (.mk k ty td tc tg th) a)▸d
 .exact J3 u t r b i j l n o q O
theorem J5(c:gK):PC c 0:=by
 intro w vo s f vv vs ft v frm ti _ k ty td tc tg th m va vt ve b _ _ _ _ _ _;have a:s.fuel=0:=Nat.le_zero.1 b.l.fu;refine(wG b a).mono fun e w' g=>?_
 have d:qn c.p 0 vs (.mk k ty td tc tg th) s=.fin (zj s).st:=by rw[qn,iD a]
 rw[d];exact g
theorem HF(ah:gL c.p)(ai:PC c g):J0 c g:=by
 intro w vo s f vv vs ft v frm ti aX l m _ C ae af ag S;obtain⟨_,_,rfl,_⟩:=S.form;obtain⟨aP,aL,rfl,_,_,_,_,_⟩:=C.frm.cells;obtain⟨⟨_,f1,_⟩,_⟩:=zo C.frm.box;have a4:=C.frm.lt;have a7:=C.l.run.ord;have j:=U C;have aw:=U ae;have Z:=U af;have ax:=U ag;have ay:=U S;have aH:=U ai;have aG:=U ah;clear C ae af ag S ai ah;go_enter func75,ntmps75;go_wp2_with fail
 go_loopw [7] (fun iv wr=>∃(i:Nat) (Y av:C5) (y:fG) (u n1:Int) (t:RS),i<=l.length/\iv=.int .i64 i/\f2 c w vo s f (.slice (some ⟨aP,0,none⟩) (vs.length+1) aL) vs wr Y av y u n1 t/\(BkA c g ft vs l s i y u n1 t\/BkB c g vs l s y u n1 t)) (fun iv _=>l.length-(intOf iv).toNat)
 case atStart=>exact⟨0,vo,_,vs,0,0,s,Dx _,rfl,f2.start j.o,.inl ⟨rfl,rfl,j.o.l.shp,j.o.l.fu,by rw[List.drop_zero],v,frm,ti,aX,aw.o,by rw[List.drop_zero];exact ax.o⟩⟩
 case round=>
  obtain⟨i,Y,av,y,u,n1,t,_,rfl,q,aW⟩:=hrel;obtain⟨aN,ab,rfl,_,_,_,_,_⟩:=q.frm.cells;obtain⟨⟨_,ad,aM⟩,_⟩:=zo q.frm.box;have a3:=q.frm.lt;have a6:=q.le;have a2:vs.length+1<=ab:=O
  have b:=U q;have a8:=q.run.ord;clear q;rcases aW with aR|aS
  .obtain⟨rfl,rfl,F,am,d,_,_,_,_,X,P⟩:=aR
   by_cases ao:i<l.length
   .obtain⟨⟨k,ty,td,tc,tg,th⟩,D⟩:∃e,l[i]?=some e:=⟨_,Dz ao⟩
    have ak:Below c.B w wr:=b.o.off.below O fun k V I=>by
     rcases I with I|I
     .have:=(j.o.l.run.tch I).1;omega
     .rcases I with N|N
      .have:=j.o.frm.hL;have N:k=f:=N;omega
      .have:=(zT j.o.frm.row k N).2;omega
    obtain⟨aO,_,va,vt,ve,rfl,_,_,_,_,_,q4,_,ar,st,au⟩:=(ay.o.below ak Zr).cells D;have a5:aO<wr.heap.size:=O
    rw[xD D]at P;obtain⟨T,_,al⟩:=vx P;have E:(t.spent || decide (t.stat≠0))=false:=by rw[F.sp,F.st];rfl
    have W:fY c g wr Y t f (.slice (some ⟨aN,0,none⟩) (y.length+1) ab) y 0 0:=⟨⟨b.o.run,am,F.sp,F.st⟩,b.o.frm,by have:=b.o.sum;have:=j.o.ln;omega⟩
    have aE:=U W;have Q:=U E;have aC:=U D;have n:=U d;have aa:=U X;have aA:=U T;have aB:=U al;have aF:=U (l5 Z.o D);have aD:=U (YH aG.o W.l (vs:=y) (l5 Z.o D) T);have aI:=U ar;have H:=U st;have aJ:=U au;clear W E D d X T al P ar st au ak F
    go_wp2_with (first
     | (go_at_call 37
        (with_reducible refine(zk b.o.run false Q.o).mono ?_);rintro e a1 ⟨rfl,rfl⟩)
     | (go_at_call 102
        (with_reducible refine(aH.o.call aE.o aa.o aF.o aA.o aI.o H.o aJ.o).mono ?_)
        intro e _ ap;obtain⟨rfl,aY,a0,aZ,aV,n2,aj,an⟩:=b.o.post ap;have az:=U aj;have aK:=U (YJ n.o aC.o am aD.o aa.o aB.o an)
        clear ap aj an))
    go_roundw
    case rel=>exact⟨i+1,aY,a0,aZ,aV,n2,_,O,by go_num,az.o,aK.o⟩
    case measure=>simp[intOf];omega
   .have aU:i=l.length:=by omega
    subst aU;rw[List.drop_length,kH]at d;have n:=U d;clear d F X P;go_wp2_with fail
    go_end0
    exact b.o.done n.o rfl fun z G e=>by injection e with ad aM;subst ad;exact⟨rfl,rfl,rfl⟩
  .obtain⟨r,d,aq,E,V⟩:=aS
   have n:=U d;have H:=U aq;have M:=U V;clear d aq V;by_cases ao:i<l.length
   .by_cases R:u=0
    .have aT:r.isFin=true:=by
      cases r with
      |fin x=>rfl
      |ok a x=>exact absurd R (M.o a x rfl).2.2.2
     rw[aT]at E;have Q:=U E;clear E;have aQ:(u == 0)=true:=by simp[R]
     go_wp2_with (go_at_call 37;(with_reducible refine(zk b.o.run true Q.o).mono ?_);rintro e a1 ⟨rfl,rfl⟩);exact Qp
    .have aQ:(u == 0)=false:=by simp[R]
     go_wp2_with fail;exact Qp
   .go_wp2_with fail
    exact Qp
