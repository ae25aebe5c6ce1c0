import Derived.Test.YthcmenajdcbnnaaGreatDoorAmErLp
set_option linter.unusedSimpArgs false
set_option linter.unusedVariables false
set_option maxRecDepth 100000
set_option maxHeartbeats 99000000
namespace Go.Proofs.YthcmenajdcbnnaaGreatDoor
open Go.RowKit Tryz
theorem Qq{p:Prop}(h:p:=by
 have a6:=U az;clear az
 go_wp2_with (first
  | (go_at_call 123
     (with_reducible refine(bV.o.call u.o.live aK.o bt.o bu.o bw.o).mono ?_)
     rintro e K ⟨n2,aS,rfl,Z,H,aA,ah⟩;rw[af.o]at Z ah;obtain⟨rfl,aZ⟩:=ah a E rfl;have a4:=U aZ;have F:=C0 (fP c K aS E) Z;have N:=U H;have aL:=U aA;have J:wr.heap.size<=K.heap.size:=H.size;have W:=U (zQ (w':=K.alloc (.cells #[(n2:Int)] 3)) (u.o.rowk H) fun k y=>D7 _ _ k (zT (u.o.rowk H) k y).1);have a5:=U (jU K [.int .i64 n2] 3)
     clear Z H aA ah aZ)
  | (at_builtin;refine qJ rfl (.tmp 39) (.tmp 48) _ rfl aa.heap.size 3 cb _ 1 8 underlying23 V.o.1 V.o.2.1 V.o.2.2.1 V.o.2.2.2 rfl O (.slice be j bi) j _ rfl (by exact W.o) ⟨K.heap.size,0,none⟩ 1 1 [.int .i64 n2] rfl rfl (by exact a5.o) Um Ul O Ug O ?_
     intro cL ad aP ay ai;have ae:=U (u.o.next bZ.o bo.o af.o aK.o F.o N.o aL.o a4.o ay ai aP)
     clear aP ay ai)
  | (go_at_call 37
     (with_reducible refine(zk ae.o.live.l.run false a6.o).mono ?_);rintro e cM ⟨rfl,rfl⟩))
 go_roundw
 case rel=>exact⟨j+1,_,_,_,O,by go_num,ae.o⟩
 case measure=>simp[intOf];omega):p:=h
theorem Qr{p:Prop}(h:p:=by
 clear az
 go_wp2_with (first
  | (go_at_call 123
     (with_reducible refine(bV.o.call u.o.live aK.o bt.o bu.o bw.o).mono ?_)
     rintro e K ⟨n2,aS,rfl,Z,H,aA,ah⟩;rw[af.o]at Z ah;have F:=C0 (fP c K aS E) Z;have N:=U H;have aL:=U aA;have J:wr.heap.size<=K.heap.size:=H.size;have W:=U (zQ (w':=K.alloc (.cells #[(n2:Int)] 3)) (u.o.rowk H) fun k y=>D7 _ _ k (zT (u.o.rowk H) k y).1);have a5:=U (jU K [.int .i64 n2] 3)
     clear Z H aA ah)
  | (at_builtin;refine qJ rfl (.tmp 39) (.tmp 48) _ rfl aa.heap.size 3 cb _ 1 8 underlying23 V.o.1 V.o.2.1 V.o.2.2.1 V.o.2.2.2 rfl O (.slice be j bi) j _ rfl (by exact W.o) ⟨K.heap.size,0,none⟩ 1 1 [.int .i64 n2] rfl rfl (by exact a5.o) Um Ul O Ug O ?_
     intro cL ad aP ay ai;have ae:=U (u.o.stop F.o N.o aL.o ay)
     clear aP ay ai)
  | (go_at_call 37
     (with_reducible refine(zk ae.o.1 true a6.o).mono ?_);rintro e cM ⟨rfl,rfl⟩))
 go_ret;rw[aJ.o]
 exact⟨0,aS,rfl,ae.o.1,((fF.wb _ bn.o).trans bs.o fun _ _ D=>D).trans ae.o.2 fun _ _ D=>D,(u.o.to.trans aL.o u.o.off.size).mono O,fun b x A=>Vx⟩):p:=h
theorem Qs{p:Prop}(h:p:=by
 refine⟨_,rfl,?_,ab⟩;rw[aQ.o]
 exact⟨_,rfl,uS (zQ W.o fun k G=>aU k (by have:=(zT W.o k G).2;omega)) rfl (by show t.o.length<=_;have:=H.o.oc;have:=H.o.fc;omega),nB W.o⟩):p:=h
theorem Qt{p:Prop}(h:p:=by
 go_wp2_with fail;go_ret;rw[ak.o,cg.o]
 exact⟨m,T,rfl,F.o,aH.o,G.o,fun b x A=>by injection A with P bk;subst P;exact⟨rfl,cR.o⟩⟩):p:=h
variable{c:gJ}{g f:Nat}{w:C3}{vo vv va:C4}{s:RS}{vs:fG}{n op m:Int}
theorem wA{c:gJ}{g:Nat}{w:C3}{vo:C4}{s:RS}{f:Nat}{vv:C4}{vs:fG}{F n:Int}{k op m:Int}{td:C2}{tc:List Ex}{va:C4}
 (a:fY c g w vo s f vv vs F n) (t:kU c.B w va tc) (j:s.fuel=0):
 Cy 123 #[(c.b,0),(f,0),.agg #[(k:Int),(op:Int),(m:Int),td,va]] w (vT c vo w (.fin (zj s).st)):=by
 obtain⟨u,C,rfl,_⟩:=t.form;have i:=C0 (Cx w (w.alloc (jL k op m td u tc.length C))) (Zb.alloc Zr _);have d:=U (a.we i.o);have p:∀k,k<w.heap.size->k=c.b->f8 c vo k:=fun k _ e=>.inl (by have:=a.l.run.ord;omega)
 have A:=U p;have I:=a.l.run.lt;have v:=U j;clear a t j p;go_enter func123,ntmps123
 go_wp2_with (go_at_call 121;(with_reducible refine(sZ d.o.l.run d.o.l.sp d.o.l.st v.o).mono ?_);rintro e H ⟨rfl,r,q⟩
              have z:=U r;have y:=U q
              clear r q)
 go_ret;have E:fF (f8 c vo) w H:=((fF.wb (fun k=>k=c.b) i.o).trans y.o fun _ _ G=>G).mono A.o;exact⟨0,vo,rfl,z.o,E,fM.refl _ _,fun b x D=>by cases D⟩
theorem JV(c9:gK c.p)(c7:p2 c g)(c6:AY c g){w:C3}{vo:C4}{s:RS}{f:Nat}{vv:C4}{vs:fG}{cA n:Int}{v:List Pa}{k op m:Int}{td:C2}{tc:List Ex}{d:Nat}{va:C4}
 (P:fY c (g+1) w vo s f vv vs cA n) (dt:(qE c.p v (.mk k op m td tc)).2=0) (cy:xw (.mk k op m td tc) d=true) (dm:fS m) (cB:kU c.B w va tc) (ct:0<s.fuel) (bG:¬(k=5/\(op=18\/op=19))):
 Cy 123 #[(c.b,0),(f,0),.agg #[(k:Int),(op:Int),(m:Int),td,va]] w (vT c vo w (f0 c.p (g+1) vs (.mk k op m td tc) s)):=by
 obtain⟨bd,bj,rfl,dp⟩:=cB.form;obtain⟨dh,dc,_,dv⟩:=ux dt;rw[kB]at cy;simp only[D2,decide_eq_true_eq]at cy;obtain⟨⟨_,b2⟩,db⟩:=cy;obtain⟨co,rfl⟩:∃co,d=co+1:=⟨d-1,O⟩
 have eO:=NR b2;have eX:=P.l.run.ord;obtain⟨cb,aN,dA,dB,dC⟩:=info_parts kX;have V:=U (Dt aN (Dt dA (Dt dB dC)));have dO:=U (FN b2);have cf:=U (mV b2);have cS:=U (uW dv);have cN:=C0 (zx tc co=true) db;have cP:=U dh;have dG:=U dc;obtain⟨bR,cC⟩:=Cz ((zj s).st);have cY:=U cC;have bW:=C0 (f0 c.p (g+1) vs (.mk k op m td tc) s=(iZ (f0 c.p g vs) tc bR).bind fun l s=>qQ c.p (xI c.p g) vs k op m td l s) (cC▸FL c.p g vs k op m td tc ct bG);have bZ:=U c9;have bV:=U c7;have dF:=U c6;have cR:=U dm;have cX:=U cB;have bX:=U ct;have bn:=C0 (Cx w (w.alloc (jL k op m td bd tc.length bj))) (Zb.alloc Zr _);have cD:(w.alloc (jL k op m td bd tc.length bj)).heap[w.heap.size]?=some (jL k op m td bd tc.length bj):=Ds w _;obtain⟨_,_,_,_,_⟩:=qU cD;have c3:=U cD;have aT:=U (P.we bn.o);have bT:=U P;have bl:=P.l.run.lt;have e3:(w.alloc (jL k op m td bd tc.length bj)).heap.size=w.heap.size+1:=zA _ _;have ch:=C0 (¬f8 c vo w.heap.size) (fun A=>by have:=(P.l.run.tch A).2.2;omega);clear dt dv db b2 dh dc aN dA dB dC c9 c7 c6 dm cB cD P cC ct;by_cases b5:k=5
 .subst b5
  have e9:(op == 18)=false:=by simp;exact fun A=>bG ⟨rfl,.inl A⟩
  have fa:(op == 19)=false:=by simp;exact fun A=>bG ⟨rfl,.inr A⟩
  clear bG;go_enter func123,ntmps123
  go_upto_region 5 with(go_at_call 121;(with_reducible refine(kw aT.o.l.run aT.o.l.sp aT.o.l.st bX.o).mono ?_);rintro e aa ⟨rfl,bK,aO⟩
                        obtain⟨a8,bC,a9⟩:=aT.o.wl bX.o bK aO;rw[cY.o]at a8 a9;have cc:=U a8;have ci:=U a9;have bs:=U bC;have aQ:=aO.at (show ¬w.heap.size=c.b by omega) c3.o;have cl:=U aQ;obtain⟨eA,eC,eD,eE,eF⟩:=qU aQ;have er:w.heap.size<aa.heap.size:=zB aQ;have ew:(w.alloc (jL 5 op m td bd tc.length bj)).heap.size<=aa.heap.size:=aO.size
                        clear bK aO a8 bC a9 aQ)
  have dy:w.heap.size<aa.heap.size:=O
  go_wp2_with fail
  go_loopw [7,8] (fun cn iv wr=>∃(j:Nat) (q:List Int) (t:RS) (T:C4),j<=tc.length/\iv=.int .i64 j/\gH c g vs tc aa vo bR f vv cA n cn wr j q t T) (fun _ iv _=>tc.length-(intOf iv).toNat)
  case atStart=>exact⟨0,[],bR,vo,Dx _,rfl,gH.start cc.o⟩
  case round=>
   obtain⟨j,q,t,T,cv,rfl,Y⟩:=hrel;obtain⟨be,bi,rfl⟩:=zY Y.row;have et:=Y.lt;have ba:fF (f8 c vo) w wr:=((fF.wb _ bn.o).trans bs.o fun _ _ D=>D).trans Y.off fun _ _ D=>D
   have aR:=Y.off.at ch.o cl.o;obtain⟨aB,aC,aD,aj,aE⟩:=qU aR;have es:w.heap.size<wr.heap.size:=zB aR;have bD:Below c.B w wr:=bT.o.l.run.below ba fun k _ y=>(bT.o.l.run.tch y).1
   have u:=U Y;have bh:=U aR;have aH:=U ba;have bv:=U (cX.o.below bD Zr);have eo:=Y.live.l.run.ord;clear Y aR ba bD;by_cases bl:j<tc.length
   .obtain⟨⟨cH,cJ,cI,cK,cm⟩,ag⟩:∃e,tc[j]?=some e:=⟨_,Dy bl⟩
    obtain⟨cq,ey,v',rfl,eh,eI,eJ,eK,eL,eM,bN⟩:=bv.o.cells ag;have ej:cq<wr.heap.size:=O
    have bu:=U (bv.o.range ag);have bw:=U bN;have bo:=U ag;have aK:=U (cS.o _ (Yc ag));have bt:=U (q9 cN.o ag);have bp:=U (i9 bZ.o u.o.live aK.o);obtain⟨r,bM⟩:=Cz (f0 c.p g vs (.mk cH cJ cI cK cm) t);have af:=U bM;clear bN ag bM;rcases r with⟨a,E⟩|E
    .have az:(E.spent || decide (E.stat≠0))=false:=by have:=kC bp.o;rw[af.o]at this;exact this
     exact Qq
    .have az:(E.spent || decide (E.stat≠0))=true:=by have:=kC bp.o;rw[af.o]at this;exact this
     have a6:=U az
     have aJ:=U (show f0 c.p (g+1) vs (.mk 5 op m td tc) s=.fin E by
      rw[bW.o,u.o.ev,xB bo.o,FK af.o]
      rfl)
     exact Qr
   .have cw:j=tc.length:=by omega
    subst cw
    have ak:=U (show f0 c.p (g+1) vs (.mk 5 op m td tc) s=qQ c.p (xI c.p g) vs 5 op m td q t by
     rw[bW.o,u.o.ev,List.drop_length,KZ]
     rfl)
    have F:=U u.o.live.l.run;have G:=U (u.o.to.mono (show w.heap.size<=aa.heap.size by omega));have bm:t.cost+1+t.fuel<=1000000000:=Hh
    have bJ:=u.o.len;obtain⟨eG,bO,bc⟩:=F.o.box;obtain⟨⟨am,an,al,ao,ap,aq,ar,au,av,aw⟩,ax⟩:=zD bc;have ed:=F.o.lt;have aI:=U bJ;have dX:=U bO;have dY:=U bc;clear bJ bl cv bO bc;have a0:tc.length=2:=cf.o.2 (by first|rfl|trivial);obtain⟨a,b,rfl⟩:∃a b,q=[a,b]:=zbr Vp;have bI:0<tc.length:=O
    obtain⟨C,c4,aW,c8,df,a1,a2⟩:=u.o.cells bI;simp only[Value.slice.injEq,true_and]at aW;obtain⟨rfl,rfl⟩:=aW;have bf:=U a1;have c0:=U a2;have aY:C≠c.b:=O
    have dg:c.b≠C:=O
    clear a1 a2;have eY:1<tc.length:=O
    have eZ:(1 :Int)<(tc.length:Int):=O
    have cQ:=U a0;clear a0;go_upto_region 19 with fail;have M:=U (F.o.pay bm);have N:=U (aH.o.trans (F.o.wm 7 (.int .i64 ((t.cost:Int)+1))) fun k y I=>f8.to G.o y I);have Q:∀k,k≠c.b->(wr.setCell (c.b,7) (((t.cost:Int)+1):Int)).heap[k]?=wr.heap[k]?:=fun k y=>Dw wr _ _ k y
    have J:(wr.setCell (c.b,7) (((t.cost:Int)+1):Int)).heap.size=wr.heap.size:=Uk
    have R:=(Q w.heap.size O).trans bh.o;have aG:=U Q;generalize wr.setCell (c.b,7) (((t.cost:Int)+1):Int)=W2 at *;have b9:=Dv J;have ca:=Dv J.symm;clear J Q am an al ao ap aq ar au av aw ax aB aC aD aj aE;obtain⟨aB,aC,aD,aj,aE⟩:=qU R;have b0:=U R;obtain⟨bS,ab,S⟩:=M.o.box;obtain⟨⟨am,an,al,ao,ap,aq,ar,au,av,aw⟩,ax⟩:=zD S;have bx:=U ab;have bg:=U S;have bF:c.b<W2.heap.size:=O
    have bb:w.heap.size<W2.heap.size:=O
    clear R ab S;have bP:W2.cell? (C,0)=some (.int .i64 a):=(D6 (w:=wr) (aG.o C aY)).trans (bf.o 0 a rfl);have fb:W2.cell? (C,1)=some (.int .i64 b):=(D6 (w:=wr) (aG.o C aY)).trans (bf.o 1 b rfl);have b4:C<W2.heap.size:=O
    have bU:=U (u.o.inn a (Y4 ..));obtain⟨ok,cz⟩:=Cz (uj op b);have cT:=C0 (qQ c.p (xI c.p g) vs 5 op m td [a,b] t=if ok then .ok (uC op a b) (zV t)else .fin (kQ (zV t) 2)) (by rw[sU,<-cz];rfl);have cU:=U cz;clear cz;cases ok with
    |true=>
      go_wp2_with fail
      go_quiet ((go_at_call 22;exact Calls.quiet_of_same ((A6 op a b _).mono fun e w' A=>⟨by rw[A.1,cU.o],A.2.symm⟩)))
      go_wp2_with fail;go_ret;rw[ak.o,cT.o];exact⟨uC op a b,T,rfl,M.o.we (mT Zb _),N.o.trans (fF.wb (f8 c vo) (mT Zb _)) fun _ _ D=>D,G.o,fun b x A=>by injection A with P bk;subst P;exact⟨rfl,CW op _ bU.o⟩⟩
    |false=>
      go_wp2_with fail
      go_quiet ((go_at_call 22;exact Calls.quiet_of_same ((A6 op a b _).mono fun e w' A=>⟨by rw[A.1,cU.o],A.2.symm⟩)))
      go_wp2_with fail;go_ret;rw[ak.o,cT.o];have c5:=M.o.we (mT Zb nq);exact⟨uC op a b,T,rfl,c5.end 2,(N.o.trans (fF.wb (f8 c vo) (mT Zb nq)) fun _ _ D=>D).trans (c5.wm 4 _) fun k y I=>f8.to G.o y I,G.o,fun b x A=>Vx⟩
 .have eU:(k == 5)=false:=by simp[b5]
  have dN:=U b5;clear bG b5;go_enter func123,ntmps123
  go_upto_region 5 with(go_at_call 121;(with_reducible refine(kw aT.o.l.run aT.o.l.sp aT.o.l.st bX.o).mono ?_);rintro e aa ⟨rfl,bK,aO⟩
                        obtain⟨a8,bC,a9⟩:=aT.o.wl bX.o bK aO;rw[cY.o]at a8 a9;have cc:=U a8;have ci:=U a9;have bs:=U bC;have aQ:=aO.at (show ¬w.heap.size=c.b by omega) c3.o;have cl:=U aQ;obtain⟨eA,eC,eD,eE,eF⟩:=qU aQ;have er:w.heap.size<aa.heap.size:=zB aQ;have ew:(w.alloc (jL k op m td bd tc.length bj)).heap.size<=aa.heap.size:=aO.size
                        clear bK aO a8 bC a9 aQ)
  have dy:w.heap.size<aa.heap.size:=O
  go_wp2_with fail
  go_loopw [7,8] (fun cn iv wr=>∃(j:Nat) (q:List Int) (t:RS) (T:C4),j<=tc.length/\iv=.int .i64 j/\gH c g vs tc aa vo bR f vv cA n cn wr j q t T) (fun _ iv _=>tc.length-(intOf iv).toNat)
  case atStart=>exact⟨0,[],bR,vo,Dx _,rfl,gH.start cc.o⟩
  case round=>
   obtain⟨j,q,t,T,cv,rfl,Y⟩:=hrel;obtain⟨be,bi,rfl⟩:=zY Y.row;have et:=Y.lt;have ba:fF (f8 c vo) w wr:=((fF.wb _ bn.o).trans bs.o fun _ _ D=>D).trans Y.off fun _ _ D=>D
   have aR:=Y.off.at ch.o cl.o;obtain⟨aB,aC,aD,aj,aE⟩:=qU aR;have es:w.heap.size<wr.heap.size:=zB aR;have bD:Below c.B w wr:=bT.o.l.run.below ba fun k _ y=>(bT.o.l.run.tch y).1
   have u:=U Y;have bh:=U aR;have aH:=U ba;have bv:=U (cX.o.below bD Zr);have eo:=Y.live.l.run.ord;clear Y aR ba bD;by_cases bl:j<tc.length
   .obtain⟨⟨cH,cJ,cI,cK,cm⟩,ag⟩:∃e,tc[j]?=some e:=⟨_,Dy bl⟩
    obtain⟨cq,ey,v',rfl,eh,eI,eJ,eK,eL,eM,bN⟩:=bv.o.cells ag;have ej:cq<wr.heap.size:=O
    have bu:=U (bv.o.range ag);have bw:=U bN;have bo:=U ag;have aK:=U (cS.o _ (Yc ag));have bt:=U (q9 cN.o ag);have bp:=U (i9 bZ.o u.o.live aK.o);obtain⟨r,bM⟩:=Cz (f0 c.p g vs (.mk cH cJ cI cK cm) t);have af:=U bM;clear bN ag bM;rcases r with⟨a,E⟩|E
    .have az:(E.spent || decide (E.stat≠0))=false:=by have:=kC bp.o;rw[af.o]at this;exact this
     exact Qq
    .have az:(E.spent || decide (E.stat≠0))=true:=by have:=kC bp.o;rw[af.o]at this;exact this
     have a6:=U az
     have aJ:=U (show f0 c.p (g+1) vs (.mk k op m td tc) s=.fin E by
      rw[bW.o,u.o.ev,xB bo.o,FK af.o]
      rfl)
     exact Qr
   .have cw:j=tc.length:=by omega
    subst cw
    have ak:=U (show f0 c.p (g+1) vs (.mk k op m td tc) s=qQ c.p (xI c.p g) vs k op m td q t by
     rw[bW.o,u.o.ev,List.drop_length,KZ]
     rfl)
    have F:=U u.o.live.l.run;have G:=U (u.o.to.mono (show w.heap.size<=aa.heap.size by omega));have bm:t.cost+1+t.fuel<=1000000000:=Hh
    have bJ:=u.o.len;obtain⟨eG,bO,bc⟩:=F.o.box;obtain⟨⟨am,an,al,ao,ap,aq,ar,au,av,aw⟩,ax⟩:=zD bc;have ed:=F.o.lt;have aI:=U bJ;have dX:=U bO;have dY:=U bc;clear bJ bl cv bO bc;rcases dO.o with rfl|rfl|rfl|rfl|ec|rfl|rfl|rfl
    .have cg:=U (vS c.p (xI c.p g) vs op m td q t (.inl rfl))
     exact Qt
    .have cg:=U (vS c.p (xI c.p g) vs op m td q t (.inr rfl))
     exact Qt
    .obtain⟨z,cF⟩:=Cz (XG (ja vs td))
     obtain⟨E,a3⟩:=Cz (o8 vs td);obtain⟨_,_,dx,_,_,_,aZ⟩:=u.o.live.frm.get td z E cF a3;have bY:=U u.o.live;have dZ:=U cF;have c1:=U a3;have a4:=U aZ;have eV:=u.o.live.ln;have eR:=zB u.o.live.frm.box;obtain⟨⟨ea,f1,_⟩,_⟩:=zo u.o.live.frm.box;rw[dx]at ea;have dI:=U (fun m=>(u.o.live.frm.keep (X:=fun _=>False) (fF.wb _ (mT Zb m)) fun _ _ I=>I.elim));clear cF a3 aZ dx;go_wp2_with fail
     go_quiet ((go_at_call 124;exact Calls.quiet_of_same ((FJ (dI.o _) td z dZ.o O).mono fun e w' A=>⟨A.1,A.2.symm⟩)))
     go_wp2_with fail;go_ret;rw[ak.o,sS];exact⟨E,T,rfl,F.o.we (mT Zb _),aH.o.trans (fF.wb (f8 c vo) (mT Zb _)) fun _ _ D=>D,G.o,fun b x A=>by injection A with P bk;subst P;exact⟨c1.o.symm,c1.o▸a4.o⟩⟩
    .have a0:tc.length=1:=cf.o.1 (by first|exact .inl rfl|trivial)
     obtain⟨a,rfl⟩:∃a,q=[a]:=XJ Vp;have bI:0<tc.length:=O
     obtain⟨C,c4,aW,c8,df,a1,a2⟩:=u.o.cells bI;simp only[Value.slice.injEq,true_and]at aW;obtain⟨rfl,rfl⟩:=aW;have bf:=U a1;have c0:=U a2;have aY:C≠c.b:=O
     have dg:c.b≠C:=O
     clear a1 a2;have cQ:=U a0;clear a0;go_upto_region 19 with fail;have M:=U (F.o.pay bm);have N:=U (aH.o.trans (F.o.wm 7 (.int .i64 ((t.cost:Int)+1))) fun k y I=>f8.to G.o y I);have Q:∀k,k≠c.b->(wr.setCell (c.b,7) (((t.cost:Int)+1):Int)).heap[k]?=wr.heap[k]?:=fun k y=>Dw wr _ _ k y
     have J:(wr.setCell (c.b,7) (((t.cost:Int)+1):Int)).heap.size=wr.heap.size:=Uk
     have R:=(Q w.heap.size O).trans bh.o;have aG:=U Q;generalize wr.setCell (c.b,7) (((t.cost:Int)+1):Int)=W2 at *;have b9:=Dv J;have ca:=Dv J.symm;clear J Q am an al ao ap aq ar au av aw ax aB aC aD aj aE;obtain⟨aB,aC,aD,aj,aE⟩:=qU R;have b0:=U R;obtain⟨bS,ab,S⟩:=M.o.box;obtain⟨⟨am,an,al,ao,ap,aq,ar,au,av,aw⟩,ax⟩:=zD S;have bx:=U ab;have bg:=U S;have bF:c.b<W2.heap.size:=O
     have bb:w.heap.size<W2.heap.size:=O
     clear R ab S;have bP:W2.cell? (C,0)=some (.int .i64 a):=(D6 (w:=wr) (aG.o C aY)).trans (bf.o 0 a rfl);have b4:C<W2.heap.size:=O
     have bU:=U (u.o.inn a (Y4 ..));go_wp2_with fail
     go_quiet ((go_at_call 147;exact Calls.quiet_of_same ((NY op a (ZI bU.o) _).mono fun e w' A=>⟨A.1,A.2.symm⟩)))
     go_wp2_with fail;go_ret;rw[ak.o,sT];exact⟨rP op a,T,rfl,M.o.we (mT Zb _),N.o.trans (fF.wb (f8 c vo) (mT Zb _)) fun _ _ D=>D,G.o,fun b x A=>by injection A with P bk;subst P;exact⟨rfl,K0 op bU.o⟩⟩
    .exact absurd ec dN.o
    .obtain⟨i,aN⟩:∃i,zZ c.p.wa td=some i:=by
      have di:=cP.o;unfold kN at di;exact Option.isSome_iff_exists.1 (by simpa using di)
     obtain⟨l,dk⟩:=mN u.o.live.l.shp aN;have bq:=U aN;have aU:=C0 ((zV t).arr[i]?=some l) dk;clear aN dk;have a0:tc.length=1:=cf.o.1 (by first|exact .inr rfl|trivial);obtain⟨a,rfl⟩:∃a,q=[a]:=XJ Vp;have bI:0<tc.length:=O
     obtain⟨C,c4,aW,c8,df,a1,a2⟩:=u.o.cells bI;simp only[Value.slice.injEq,true_and]at aW;obtain⟨rfl,rfl⟩:=aW;have bf:=U a1;have c0:=U a2;have aY:C≠c.b:=O
     have dg:c.b≠C:=O
     clear a1 a2;have cQ:=U a0;clear a0;go_upto_region 19 with fail;have M:=U (F.o.pay bm);have N:=U (aH.o.trans (F.o.wm 7 (.int .i64 ((t.cost:Int)+1))) fun k y I=>f8.to G.o y I);have Q:∀k,k≠c.b->(wr.setCell (c.b,7) (((t.cost:Int)+1):Int)).heap[k]?=wr.heap[k]?:=fun k y=>Dw wr _ _ k y
     have J:(wr.setCell (c.b,7) (((t.cost:Int)+1):Int)).heap.size=wr.heap.size:=Uk
     have R:=(Q w.heap.size O).trans bh.o;have aG:=U Q;generalize wr.setCell (c.b,7) (((t.cost:Int)+1):Int)=W2 at *;have b9:=Dv J;have ca:=Dv J.symm;clear J Q am an al ao ap aq ar au av aw ax aB aC aD aj aE;obtain⟨aB,aC,aD,aj,aE⟩:=qU R;have b0:=U R;obtain⟨bS,ab,S⟩:=M.o.box;obtain⟨⟨am,an,al,ao,ap,aq,ar,au,av,aw⟩,ax⟩:=zD S;have bx:=U ab;have bg:=U S;have bF:c.b<W2.heap.size:=O
     have bb:w.heap.size<W2.heap.size:=O
     clear R ab S;have bP:W2.cell? (C,0)=some (.int .i64 a):=(D6 (w:=wr) (aG.o C aY)).trans (bf.o 0 a rfl);have b4:C<W2.heap.size:=O
     have cZ:=C0 (∀k,k<W2.heap.size->k=c.b->f8 c T k) (fun k _ e=>.inl O);by_cases b1:0<=a/\a<(l.length:Int)
     .obtain⟨aF,rfl⟩:∃z:Nat,a=(z:Int):=⟨a.toNat,O⟩
      have cd:=U b1;have aJ:=U (show qQ c.p (xI c.p g) vs 6 op m td [(aF:Int)] t=.ok (l.getD aF 0) (zV t)by rw[lP,sW bq.o aU.o];exact Dq b1);go_upto_region 28 with fail;have a7:=U (M.o.we Zb.drew)
      go_region_held3 (fun w'=>w'.cell? (w.heap.size,3)=some (.string td)/\w'.cell? (C,0)=some (.int .i64 (aF:Int)))
       (first
         |(go_split_ands;refine⟨?_,?_⟩ <;>(first|(rw[b7];assumption)|(rw[b3];assumption)))
         |go_keep)
       (first
         | (go_at_call 125
            (refine(AZ (w:=W2.drew) a7.o td (aF:Int) bq.o aU.o cd.o).mono ?_)
            rintro e L ⟨rfl,bL,bH⟩;have aV:=U bL;have W:=U ((fF.drew _ _).trans bH fun _ _ D=>D);have b7:∀k,L.cell? ⟨w.heap.size,k,none⟩=W2.cell? ⟨w.heap.size,k,none⟩:=fun k=>D6 (w:=W2) (W.o.block w.heap.size bb O)
            have b3:∀k,L.cell? ⟨C,k,none⟩=W2.cell? ⟨C,k,none⟩:=fun k=>D6 (w:=W2) (W.o.block C b4 aY)
            clear bL bH))
      obtain⟨bz,de⟩:∃g,c.rows[i]?=some g:=⟨_,Dy (by rw[aV.o.len];exact(List.getElem?_eq_some_iff.1 aU.o).1)⟩
      obtain⟨bA,d1,dw,ei,_,eg,dD,_⟩:=aV.o.arrs de aU.o;have em:aF<l.length:=O
      obtain⟨E,a3⟩:∃E,l[aF]?=some E:=⟨_,Dy em⟩
      have e6:=dD aF E a3;have eT:i<(zV t).arr.length:=(List.getElem?_eq_some_iff.1 aU.o).1;obtain⟨_,_,dz⟩:=aV.o.box;obtain⟨⟨_,_,d2,d3,d4,d5,d6,d7,d8,d9⟩,_⟩:=zD dz;rw[dw]at d3;have e7:=(b7 3).trans aj;have e8:=(b3 0).trans bP;have e5:=W.o.size;have eu:w.heap.size<L.heap.size:=O
      have ek:C<L.heap.size:=O
      have ee:c.b<L.heap.size:=O
      have a4:=U ((aV.o.arn l (Yc aU.o)).1 E (Yc a3));have dJ:=U (show l.getD aF 0=E by rw[Yl,a3];rfl);have cj:=U (aV.o.we Zb.drew);clear dD a3 dw dz d2 d4 d5 d6 d7 d8 d9 de;go_wp2_with fail
      go_region_held3 (fun w'=>w'.cell? (c.b,0)=some c.va/\w'.cell? (c.b,1)=some c.vf/\w'.cell? (c.b,3)=some (.slice (some ⟨bA,0,none⟩) (zV t).arr.length d1)/\w'.cell? (w.heap.size,3)=some (.string td)/\w'.cell? (C,0)=some (.int .i64 (aF:Int))/\w'.cell? (bA,i)=some (.slice (some ⟨bz,0,none⟩) l.length l.length)/\w'.cell? (bz,aF)=some (.int .i64 E))
       (first
         |(go_split_ands;refine⟨?_,?_,?_,?_,?_,?_,?_⟩ <;>(first|(rw[cs];assumption)|(rw[b8];assumption)|(rw[el];assumption)|(rw[eq];assumption)|(rw[ep];assumption)))
         |go_keep)
       (first
         | (go_at_call 99
            (refine(kg c.B c.p td (i:Int) (show jw (zZ c.p.wa td)=(i:Int)by rw[bq.o];rfl) _ _ L.drew (by have:=cj.o.ord;omega) cj.o.pa cj.o.pf).mono ?_)
            rintro e ad ⟨rfl,aM⟩;have aM:Cx L ad:=Zb.drew.trans aM;have cO:=U aM;have cs:∀k,ad.cell? ⟨c.b,k,none⟩=L.cell? ⟨c.b,k,none⟩:=fun k=>aM.cell (p:=⟨c.b,k,none⟩) ee
            have b8:∀k,ad.cell? ⟨w.heap.size,k,none⟩=L.cell? ⟨w.heap.size,k,none⟩:=fun k=>aM.cell (p:=⟨w.heap.size,k,none⟩) eu
            have el:∀k,ad.cell? ⟨C,k,none⟩=L.cell? ⟨C,k,none⟩:=fun k=>aM.cell (p:=⟨C,k,none⟩) ek
            have eq:∀k,ad.cell? ⟨bA,k,none⟩=L.cell? ⟨bA,k,none⟩:=fun k=>aM.cell (p:=⟨bA,k,none⟩) ei
            have ep:∀k,ad.cell? ⟨bz,k,none⟩=L.cell? ⟨bz,k,none⟩:=fun k=>aM.cell (p:=⟨bz,k,none⟩) eg
            clear aM))
      go_wp2_with fail;go_ret;rw[ak.o,aJ.o,dJ.o];exact⟨E,T,rfl,aV.o.we cO.o,(N.o.trans (W.o.mono cZ.o) fun k y I=>f8.to G.o O I).trans (fF.wb (f8 c vo) cO.o) fun _ _ D=>D,G.o,fun b x A=>by injection A with P bk;subst P;exact⟨rfl,a4.o⟩⟩
     .have cd:=U b1
      have aJ:=U (show qQ c.p (xI c.p g) vs 6 op m td [a] t=.fin (kQ (zV t) 3)by rw[lP,sW bq.o aU.o];exact Dp b1);go_upto_region 28 with fail;have a7:=U (M.o.we Zb.drew)
      go_region_held3 (fun w'=>w'.cell? (w.heap.size,3)=some (.string td)/\w'.cell? (C,0)=some (.int .i64 a))
       (first
         |(go_split_ands;refine⟨?_,?_⟩ <;>(first|(rw[b7];assumption)|(rw[b3];assumption)))
         |go_keep)
       (first
         | (go_at_call 125
            (refine(FO (w:=W2.drew) a7.o td a bq.o aU.o cd.o).mono ?_)
            rintro e L ⟨rfl,bL,bH⟩;have aV:=U bL;have W:=U ((fF.drew _ _).trans bH fun _ _ D=>D);have b7:∀k,L.cell? ⟨w.heap.size,k,none⟩=W2.cell? ⟨w.heap.size,k,none⟩:=fun k=>D6 (w:=W2) (W.o.block w.heap.size bb O)
            have b3:∀k,L.cell? ⟨C,k,none⟩=W2.cell? ⟨C,k,none⟩:=fun k=>D6 (w:=W2) (W.o.block C b4 aY)
            clear bL bH))
      go_wp2_with fail;go_ret;rw[ak.o,aJ.o];exact⟨0,T,rfl,aV.o,N.o.trans (W.o.mono cZ.o) fun k y I=>f8.to G.o O I,G.o,fun b x A=>Vx⟩
    .obtain⟨i,cp,aN,dd,cu⟩:=XK cP.o
     have da:tc.length=cp.params.length:=by
      have cr:=dG.o;unfold xQ at cr;rw[Dq rfl,cu]at cr;exact of_decide_eq_true cr
     have eN:=U (uS u.o.row aI.o.symm Vp);have dT:=U u.o.inn;have dL:=U (show jw (qP c.p.funcs td)=(i:Int)by rw[aN];rfl);have dH:=U dd;have dE:=C0 (q.length=cp.params.length) (aI.o.trans da);have aJ:=C0 (qQ c.p (xI c.p g) vs 7 op m td q t=xI c.p g cp q (zV t)) (sV c.p (xI c.p g) vs op m td q t cu);have bY:=U u.o.live.l;have dr:∀k,k<wr.heap.size->(Value.slice be tc.length bi).ownBlock=some k->k≠c.b:=fun k _ y=>by have:=(zT u.o.row k y).2;omega
     have dU:=U dr;have cW:=U u.o.row;clear aN dd da cu dr;go_upto_region 19 with fail;have M:=U (F.o.pay bm);have N:=U (aH.o.trans (F.o.wm 7 (.int .i64 ((t.cost:Int)+1))) fun k y I=>f8.to G.o y I);have Q:∀k,k≠c.b->(wr.setCell (c.b,7) (((t.cost:Int)+1):Int)).heap[k]?=wr.heap[k]?:=fun k y=>Dw wr _ _ k y
     have J:(wr.setCell (c.b,7) (((t.cost:Int)+1):Int)).heap.size=wr.heap.size:=Uk
     have R:=(Q w.heap.size O).trans bh.o;have aG:=U Q;generalize wr.setCell (c.b,7) (((t.cost:Int)+1):Int)=W2 at *;have b9:=Dv J;have ca:=Dv J.symm;clear J Q am an al ao ap aq ar au av aw ax aB aC aD aj aE;obtain⟨aB,aC,aD,aj,aE⟩:=qU R;have b0:=U R;obtain⟨bS,ab,S⟩:=M.o.box;obtain⟨⟨am,an,al,ao,ap,aq,ar,au,av,aw⟩,ax⟩:=zD S;have bx:=U ab;have bg:=U S;have bF:c.b<W2.heap.size:=O
     have bb:w.heap.size<W2.heap.size:=O
     clear R ab S;have cV:=U (zQ (w':=W2) cW.o fun k y=>aG.o k (dU.o k (zT cW.o k y).1 y));have a7:=U (M.o.we Zb.drew);go_upto_region 32 with fail
     go_region_held3 (fun w'=>w'.cell? (c.b,0)=some c.va/\w'.cell? (c.b,1)=some c.vf/\w'.cell? (w.heap.size,3)=some (.string td))
      (first
        |(go_split_ands;refine⟨?_,?_,?_⟩ <;>(first|assumption|(rw[cs];assumption)|(rw[b8];assumption)))
        |go_keep)
      (first
        | (go_at_call 36
           (refine(jK c.B c.p td (i:Int) dL.o _ _ W2.drew (by have:=a7.o.ord;omega) a7.o.pa a7.o.pf).mono ?_)
           rintro e L ⟨rfl,aX⟩;have aX:Cx W2 L:=Zb.drew.trans aX;have ce:=U aX;have cs:∀k,L.cell? ⟨c.b,k,none⟩=W2.cell? ⟨c.b,k,none⟩:=fun k=>aX.cell (p:=⟨c.b,k,none⟩) bF
           have b8:∀k,L.cell? ⟨w.heap.size,k,none⟩=W2.cell? ⟨w.heap.size,k,none⟩:=fun k=>aX.cell (p:=⟨w.heap.size,k,none⟩) bb
           have dl:wW c g L T (zV t):=⟨M.o.we aX,bY.o.fu,bY.o.sp,bY.o.st⟩
           have dP:=U dl;have ds:=zQ (w':=L) cV.o fun k y=>aX.block k (zT cV.o k y).1
           have dK:=U (uS ds aI.o.symm Vp)
           clear aX dl ds)
        | (go_at_call 35
           (refine(dF.o.call dP.o dH.o dE.o dK.o dT.o).mono ?_)
           rintro e ad ⟨ex,eH,rfl,ai,cx,du,dq⟩;obtain⟨_,_,cE⟩:=ai.box;have eP:ad.cell? (c.b,0)=some c.va:=(zD cE).1.1;have eQ:ad.cell? (c.b,1)=some c.vf:=(zD cE).1.2.1;have dV:=U ai;have dR:=U cx;have dW:=U du;have dQ:=U dq;have e4:ad.cell? (w.heap.size,3)=some (.string td):=(D6 (w:=L) (cx.block w.heap.size (by have:=ce.o.size;omega) (fun A=>ch.o (f8.to u.o.to dy A)))).trans ((b8 3).trans aj)
           clear cE ai cx du dq))
     go_wp2_with fail;go_ret;rw[ak.o,aJ.o];have e2:=ce.o.size;exact⟨ex,eH,rfl,dV.o,(N.o.trans (fF.wb (f8 c vo) ce.o) fun _ _ D=>D).trans dR.o fun k y I=>f8.to G.o y I,G.o.trans dW.o O,dQ.o⟩
    .obtain⟨cG,dj⟩:=Cz t.inp
     have br:=U dj;clear dj;go_upto_region 19 with fail;have M:=U (F.o.pay bm);have N:=U (aH.o.trans (F.o.wm 7 (.int .i64 ((t.cost:Int)+1))) fun k y I=>f8.to G.o y I);have Q:∀k,k≠c.b->(wr.setCell (c.b,7) (((t.cost:Int)+1):Int)).heap[k]?=wr.heap[k]?:=fun k y=>Dw wr _ _ k y
     have J:(wr.setCell (c.b,7) (((t.cost:Int)+1):Int)).heap.size=wr.heap.size:=Uk
     have R:=(Q w.heap.size O).trans bh.o;have aG:=U Q;generalize wr.setCell (c.b,7) (((t.cost:Int)+1):Int)=W2 at *;have b9:=Dv J;have ca:=Dv J.symm;clear J Q am an al ao ap aq ar au av aw ax aB aC aD aj aE;obtain⟨aB,aC,aD,aj,aE⟩:=qU R;have b0:=U R;obtain⟨bS,ab,S⟩:=M.o.box;obtain⟨⟨am,an,al,ao,ap,aq,ar,au,av,aw⟩,ax⟩:=zD S;have bx:=U ab;have bg:=U S;have bF:c.b<W2.heap.size:=O
     have bb:w.heap.size<W2.heap.size:=O
     clear R ab S;have b6:k5 c.B W2 bS cG:=br.o▸bx.o;obtain⟨_,d0,rfl,_⟩:=b6.1.form;have ef:cG.length<=d0:=b6.2 _ _ _ rfl;have c2:=U b6;clear b6;rcases cG with _|⟨x,bQ⟩
     .have ck:=U (show vL (zV t)=.fin (kQ (zV t) 4)by unfold vL;rw[show(zV t).inp=[]from br.o])
      go_wp2_with fail;go_ret;rw[ak.o,iA,ck.o];exact⟨0,T,rfl,M.o.end 4,N.o.trans (M.o.wm 4 _) fun k y I=>f8.to G.o y I,G.o,fun b x A=>Vx⟩
     .have ck:=U (show vL (zV t)=.ok x { zV t with inp:=bQ } by unfold vL;rw[show(zV t).inp=x::bQ from br.o])
      obtain⟨eb,_,rfl,_,bP⟩:=c2.o.1.cells (i:=0) (t:=x) rfl;rw[Nat.add_zero]at bP;have eS:eb<W2.heap.size:=O
      have en:(x::bQ).length=bQ.length+1:=rfl;rw[en]at al ef;have eW:0<bQ.length+1:=O
      have dM:=U (F.o.inn x (br.o▸Y4 ..));go_wp2_with fail
      all_goals go_ret
      all_goals rw[ak.o,iA,ck.o]
      all_goals refine⟨x,T,rfl,M.o.set bg.o 2 _ (D3 bg.o _) ?_ (fun n dp=>F.o.inn n (br.o▸Y7 _ dp)) rfl rfl Zr M.o.fc,N.o.trans (M.o.wm 2 _) fun k y I=>f8.to G.o y I,G.o,fun b x A=>by injection A with P bk;subst P;exact⟨rfl,dM.o⟩⟩
      all_goals first|exact s0 c2.o|exact s3 O _
theorem vT.off{d:C3}{r b:fR Int}{e:Ending}{w':C3}(f:vT c vo d r e w')(a:fF (f8 c vo) w d)(m:r=b):vT c vo w b e w':=by
 subst m;obtain⟨n,vo',g,i,j,k,l⟩:=f;exact⟨n,vo',g,i,a.trans j fun _ _ o=>o,k.mono a.size,l⟩
theorem PD(N:gK c.p)(M:p2 c g){w:C3}{vo:C4}{s:RS}{f:Nat}{vv:C4}{vs:fG}{ar n:Int}{v:List Pa}{op m:Int}{td:C2}{tc:List Ex}{d:Nat}{va:C4}
 (u:fY c (g+1) w vo s f vv vs ar n) (V:(qE c.p v (.mk 5 op m td tc)).2=0) (E:xw (.mk 5 op m td tc) d=true) (F:kU c.B w va tc) (A:0<s.fuel) (y:op=18\/op=19):
 Cy 123 #[(c.b,0),(f,0),.agg #[(5:Int),(op:Int),(m:Int),td,va]] w (vT c vo w (f0 c.p (g+1) vs (.mk 5 op m td tc) s)):=by
 obtain⟨ao,an,_,W⟩:=ux V;rw[kB]at E;simp only[D2,decide_eq_true_eq]at E;obtain⟨⟨_,Q⟩,P⟩:=E;have C:=uW W
 obtain⟨r,t,rfl⟩:∃r t,tc=[r,t]:=by
  have:=(mV Q).2 rfl
  match tc,this with
  |[a,b],_=>exact⟨a,b,rfl⟩
 obtain⟨j,q,rfl,_⟩:=F.form;have ay:=u.l.run.ord;have z:=C0 (Cx w (w.alloc (jL 5 op m td j 2 q))) (Zb.alloc Zr _);have G:(w.alloc (jL 5 op m td j 2 q)).heap[w.heap.size]?=some (jL 5 op m td j 2 q):=Ds w _;obtain⟨_,_,_,_,_⟩:=qU G;have al:=U G;have i:=U (u.we z.o);have ax:=u.l.run.lt;have aA:(w.alloc (jL 5 op m td j 2 q)).heap.size=w.heap.size+1:=zA _ _;have ad:=U (R7 c.p g vs op m td [r,t] A y);have ah:=C0 (kU c.B w (.slice j 2 q) [r,t]) F;have aj:=U (C r (Y4 ..));have ak:=U (C t (Y7 _ (Y4 ..)));have Z:=U P;have I:=U A;have ag:=U N;have ab:=U M;have aa:=U y;obtain⟨X,R⟩:∃x:Bool,(op == 18)=x:=⟨_,rfl⟩
 obtain⟨av,aq⟩:∃x:Bool,(op == 19)=x:=⟨_,rfl⟩
 have ae:=U (show X=true\/X=false/\av=true by
  rcases y with rfl|rfl
  .left;rw[<-R];rfl
  .right;exact⟨by rw[<-R];rfl,by rw[<-aq];rfl⟩)
 clear V W C Q P ao an F G u N M A y;rcases ae.o with rfl|⟨rfl,rfl⟩
 all_goals
  go_enter func123,ntmps123
  go_wp2_with (first
   | (go_at_call 121;(with_reducible refine(kw i.o.l.run i.o.l.sp i.o.l.st I.o).mono ?_);rintro e aw ⟨rfl,T,D⟩
      obtain⟨K,L,am⟩:=i.o.wl I.o T D;have Y:=U K;have J:=U L;have H:=D.at (show ¬w.heap.size=c.b by omega) al.o;obtain⟨_,_,_,_,_⟩:=qU H;have az:w.heap.size<aw.heap.size:=zB H;have ai:=U (ah.o.below (i.o.l.run.ord |> fun _=>((z.o.mono (show c.B<=w.heap.size by omega)).trans (i.o.l.run.below J.o fun k _ ap=>(i.o.l.run.tch ap).1))) Zr)
      clear T D K L am H)
   | (go_at_call 146
      (with_reducible refine(NQ ag.o ab.o aa.o Y.o aj.o ak.o Z.o ai.o).mono ?_)
      intro e _ S;have af:=U (S.off ((fF.wb _ z.o).trans J.o fun _ _ au=>au) ad.o.symm)
      obtain⟨n2,_,rfl,_⟩:=S))
  go_ret;exact af.o
theorem PE(r:gK c.p)(q:p2 c g)(x:AY c g):p2 c (g+1):=by
 intro w vo s f vv vs _ n v k op m td tc d va b l o u i;by_cases j:s.fuel=0
 .exact(wA b i j).mono fun e w' t=>(AT c.p g vs (.mk k op m td tc) j)▸t
 .by_cases a:k=5/\(op=18\/op=19)
  .obtain⟨rfl,a⟩:=a
   exact PD r q b l o i O a
  .exact JV r q x b l o u i O a
theorem JW(c:gJ):p2 c 0:=by
 intro w vo s f vv vs _ n v k op m td tc d va b _ _ _ j;have a:s.fuel=0:=Nat.le_zero.1 b.l.fu;refine(wA b j a).mono fun e w' i=>?_
 have g:f0 c.p 0 vs (.mk k op m td tc) s=.fin (zj s).st:=by rw[f0,iC a]
 rw[g];exact i
theorem YG:(Tryz.prog.info? 131).map (fun i=>(i.zero,i.size,i.bytes))=some (some (.agg #[.string ⟨#[]⟩,(0:Int)]),2,24):=by kernel_rfl
abbrev PF(td:C2)(a:Int)(b c:C4):Obj:=.cells #[td,(a:Int),b,c] 93
abbrev UG(s:C2)(a:Int):Obj:=.cells #[s,(a:Int)] 131
theorem JX(c:Fu)(b:List Int){i:Nat}{x:Pa}{a:Int}(e:c.params[i]?=some x)(d:b[i]?=some a):(fN c b).take (i+1)=(fN c b).take i++[(x.name,a)]:=by
 rw[Yt]
 have:(fN c b)[i]?=some (x.name,a):=by
  unfold fN;rw[Cq,Yn,e];exact⟨rfl,d⟩
 rw[this];rfl
theorem o1(b:Fu)(a:List Int)(c:a.length=b.params.length):(fN b a).length=a.length:=by
 unfold fN;rw[List.length_zip,Yh,c,Nat.min_self]
theorem PG(a:Fu)(b:List Int)(c:b.length=a.params.length):xi (fN a b)=a.params.map (·.name):=by
 unfold fN xi;rw[List.map_fst_zip];rw[Yh,c];exact D0 _
theorem BR(V:gK c.p)(hF:∀b∈c.p.funcs,b.params.length<=8)(am:JP c g):AY c g:=by
 intro w vo s k b f va d Q ax ae an;obtain⟨_,_,rfl,_⟩:=ae.form;have bI:=d.run.ord;obtain⟨_,_,i⟩:=d.run.box;obtain⟨⟨_,a8,_,_,_,_,_,_,_,_⟩,_⟩:=zD i;have W:=Yc Q;have bu:=hF b W;obtain⟨J,aB⟩:=V b W;obtain⟨_,_,aE,_⟩:=d.run.pf.form;have aa:=d.run.pf;rw[aE]at aa a8;obtain⟨bb,_,_,_,rfl,_,_,_,_,_,af,ad⟩:=aa.cells Q;obtain⟨n,u,rfl,_⟩:=af.form;obtain⟨m,r,rfl,_⟩:=ad.form;have bH:k<c.p.funcs.length:=(List.getElem?_eq_some_iff.1 Q).1;have bF:bb<w.heap.size:=O
 have bv:=d.run.lt;obtain⟨bm,aw,aK,D,E⟩:=info_parts YG;have K:=U (Dt aw (Dt aK (Dt D E)));have F:=U d;have a2:=U ae;have aN:=U an;have ah:=U ax;have ai:=U J;have aj:=U aB;have aO:=U am;have a3:=U af;have a0:=U ad;have aY:=U V;clear d Q ax ae an i W J aB aa aE af ad V hF am aw aK D E;have D:(w.alloc (PF b.name b.type (.slice n b.params.length u) (.slice m b.body.length r))).heap.size=w.heap.size+1:=zA _ _;have E:((w.alloc (PF b.name b.type (.slice n b.params.length u) (.slice m b.body.length r))).alloc (UG ⟨#[]⟩ 0)).heap.size=w.heap.size+2:=by rw[zA,D]
 have ag:(((w.alloc (PF b.name b.type (.slice n b.params.length u) (.slice m b.body.length r))).alloc (UG ⟨#[]⟩ 0)).alloc (P3 (.slice (some ⟨w.heap.size+1,0,none⟩) 1 1) 0 0)).heap.size=w.heap.size+3:=by rw[zA,E]
 have ao:Cx w (w.alloc (PF b.name b.type (.slice n b.params.length u) (.slice m b.body.length r))):=Zb.alloc Zr _;have ap:=ao.alloc O (UG ⟨#[]⟩ 0);have aq:=ap.alloc O (P3 (.slice (some ⟨w.heap.size+1,0,none⟩) 1 1) 0 0);have aG:(w.alloc (PF b.name b.type (.slice n b.params.length u) (.slice m b.body.length r))).heap[w.heap.size]?=some (PF b.name b.type (.slice n b.params.length u) (.slice m b.body.length r)):=Ds w _;have aH:=zu (zu aG (UG ⟨#[]⟩ 0)) (P3 (.slice (some ⟨w.heap.size+1,0,none⟩) 1 1) 0 0);have aI:((w.alloc (PF b.name b.type (.slice n b.params.length u) (.slice m b.body.length r))).alloc (UG ⟨#[]⟩ 0)).heap[w.heap.size+1]?=some (UG ⟨#[]⟩ 0):=by have:=Ds (w.alloc (PF b.name b.type (.slice n b.params.length u) (.slice m b.body.length r))) (UG ⟨#[]⟩ 0);rw[D]at this;exact this
 have aJ:=zu aI (P3 (.slice (some ⟨w.heap.size+1,0,none⟩) 1 1) 0 0);have au:(((w.alloc (PF b.name b.type (.slice n b.params.length u) (.slice m b.body.length r))).alloc (UG ⟨#[]⟩ 0)).alloc (P3 (.slice (some ⟨w.heap.size+1,0,none⟩) 1 1) 0 0)).heap[w.heap.size+2]?=some (P3 (.slice (some ⟨w.heap.size+1,0,none⟩) 1 1) 0 0):=by have:=Ds ((w.alloc (PF b.name b.type (.slice n b.params.length u) (.slice m b.body.length r))).alloc (UG ⟨#[]⟩ 0)) (P3 (.slice (some ⟨w.heap.size+1,0,none⟩) 1 1) 0 0);rw[E]at this;exact this
 have v:gR c.L (((w.alloc (PF b.name b.type (.slice n b.params.length u) (.slice m b.body.length r))).alloc (UG ⟨#[]⟩ 0)).alloc (P3 (.slice (some ⟨w.heap.size+1,0,none⟩) 1 1) 0 0)) (w.heap.size+2) (.slice (some ⟨w.heap.size+1,0,none⟩) 1 1) [] 0 0:=
  ⟨au,⟨rfl,.inr ⟨w.heap.size+1,1,#[.string ⟨#[]⟩,.int .i64 0],rfl,O,aJ,D0 _,Ul,rfl,rfl⟩⟩,O,fun x i=>(by cases i),⟨Uf,Uf⟩⟩
 have aQ:=U v;have aP:=U aq;have a6:=U aH;clear ao ap aq aG aH aI aJ au v D E;go_enter func35,ntmps35;go_wp2_with fail;generalize(((w.alloc (PF b.name b.type (.slice n b.params.length u) (.slice m b.body.length r))).alloc (UG ⟨#[]⟩ 0)).alloc (P3 (.slice (some ⟨w.heap.size+1,0,none⟩) 1 1) 0 0))=W3 at *;have bK:=Dv ag;have bL:=Dv ag.symm;clear ag
 go_loopw [9] (fun iv wr=>∃(j:Nat) (vv:C4),j<=f.length/\iv=.int .i64 j/\gR c.L wr (w.heap.size+2) vv ((fN b f).take j) 0 0/\(∀q,vv.ownBlock=some q->w.heap.size<=q)/\Cx w wr/\wr.heap[w.heap.size]?=some (PF b.name b.type (.slice n b.params.length u) (.slice m b.body.length r))) (fun iv _=>f.length-(intOf iv).toNat)
 case atStart=>exact⟨0,_,Dx _,rfl,aQ.o,(fun q y=>by injection y with y;have y:w.heap.size+1=q:=y;omega),aP.o,a6.o⟩
 case round=>
  obtain⟨j,vv,_,rfl,v,aF,ar,R⟩:=hrel;have X:((fN b f).take j).length=j:=by rw[Yg,o1 b f ah.o];omega
  obtain⟨A,ak,rfl,_,_,_,_,_⟩:=v.cells;obtain⟨⟨a9,f1,_⟩,_⟩:=zo v.box;obtain⟨⟨_,_,_,_⟩,_⟩:=zO R;have bw:w.heap.size+2<wr.heap.size:=zB v.box;have bJ:w.heap.size<wr.heap.size:=O
  have S:=U v;have C:=U ar;have a7:=U R;have bf:w.heap.size<=A:=aF A rfl;have aV:=C0 (A≠w.heap.size) (fun e=>uE v.row (show Is wr w.heap.size 93 #[b.name,(b.type:Int),(n,b.params.length,u),(m,b.body.length,r)]from R) Uf (by rw[<-e];rfl));have aT:=U X;have ay:=ah.o;have G:=U ay;clear v ar R ay aF;by_cases bi:j<f.length
  .obtain⟨x,i⟩:∃x,b.params[j]?=some x:=⟨_,Dy (by have:=G.o;omega)⟩
   obtain⟨a,N⟩:∃a,f[j]?=some a:=⟨_,Dy bi⟩
   obtain⟨bc,op,rfl,_,_,_⟩:=(a3.o.below (C.o.mono (show c.B<=w.heap.size by omega)) Zr).cells i;obtain⟨ba,_,rfl,_,_⟩:=(a2.o.below C.o Zr).cells N;have bD:bc<wr.heap.size:=O
   have bC:ba<wr.heap.size:=O
   have bG:j<b.params.length:=(List.getElem?_eq_some_iff.1 i).1;have a5:=U i;have aM:=U N;have aS:=U (aN.o a (Yc N));have ab:=S.o.pre O x.name a;rw[X]at ab;have T:=U ab;clear ab;clear i N;rw[X]at a9;go_wp2_with fail
   go_region_law (first
    | (refine qX rfl (.tmp 32) (.tmp 44) _ rfl c.L 131 bm _ 2 24 underlying132 K.o.1 K.o.2.1 K.o.2.2.1 K.o.2.2.2 rfl O (.slice (some ⟨A,0,none⟩) (j+1) ak) (j+1) _ rfl (by exact qR T.o.1 Zb.drew Zr) ⟨wr.heap.size,0,none⟩ 1 1 [.string x.name,.int .i64 a] rfl rfl (by exact T.o.2.1) Um Ul O (by exact T.o.2.2) O ?_
       intro _ w8 Z av J;obtain⟨_,_,rfl⟩:=zY Z;have I:=S.o.push ((Zb.alloc Zr _).drew) av J (by rw[aT.o];exact Z) aS.o;rw[<-JX b f a5.o aM.o]at I;have M:=U I;obtain⟨⟨bo,bp,bq⟩,br⟩:=zo I.2.2.2;have bx:w.heap.size+2<w8.heap.size:=zB I.2.2.2
       clear Z av J I))
   all_goals
    go_wp2_with fail;go_roundw
    case rel=>exact⟨j+1,_,O,by go_num,M.o.1,(fun q y=>by have:=bf;rcases M.o.2.2.1 with d|⟨z,d,_⟩ <;> rw[d]at y<;>injection y with y <;>(try(have y:A=q:=y))<;>omega),C.o.trans (M.o.2.1.below O fun q y i=>by rcases i with d|d;(have d:q=w.heap.size+2:=d;omega);(injection d with d;have d:A=q:=d;omega)),M.o.2.1.at (fun i=>by rcases i with d|d;(have d:w.heap.size=w.heap.size+2:=d;omega);(injection d with d;exact aV.o d)) a7.o⟩
    case measure=>simp[intOf];omega
  .have bg:j=f.length:=by omega
   subst bg;have bk:(fN b f).take f.length=fN b f:=Ye (by rw[o1 b f G.o];exact D0 _);have v:=S.o;rw[bk]at v;have Y:fY c g wr vo s (w.heap.size+2) (.slice (some ⟨A,0,none⟩) ((fN b f).length+1) ak) (fN b f) 0 0:=⟨⟨F.o.run.we C.o,F.o.fu,F.o.sp,F.o.st⟩,v,by rw[o1 b f G.o];have:=F.o.run.fc;have:=G.o;omega⟩
   have aU:=U Y;have a1:=U (a0.o.below (C.o.mono (show c.B<=w.heap.size by omega)) Zr);have bt:=U (YE aY.o Y.l (vs:=fN b f) aj.o ai.o);clear v Y
   go_wp2_with (go_at_call 75
                (with_reducible refine(aO.o.call aU.o (PG b f G.o) aj.o ai.o a1.o).mono ?_)
                rintro e w9 ⟨bs,_,_,_,bn,rfl,aC,P,az,aD,bl,bh,bj,aA⟩;obtain⟨⟨bo,bp,bq⟩,br⟩:=zo P.box;have bA:w.heap.size+2<w9.heap.size:=zB P.box;have aZ:=U aC;have aR:=U P;have aW:=U az;have a4:=U aD;have aX:=U aA
                clear aC P az aD bl bh bj aA)
   go_ret;refine⟨bn,bs,rfl,?_,?_,a4.o.mono C.o.size,?_⟩
   .have e:(xI c.p g b f s).st=(qG (qn c.p g) (fN b f) b.body s).st:=by unfold xI;cases qG (qn c.p g) (fN b f) b.body s<;>rfl
    rw[e];exact aZ.o
   .exact(fF.wb (f8 c vo) C.o).trans aW.o fun q y i=>i.resolve_right fun be=>by
     rcases be with d|d
     .have d:q=w.heap.size+2:=d;omega
     .injection d with d;have d:A=q:=d;omega
   .intro a t H
    unfold xI at H;cases he:qG (qn c.p g) (fN b f) b.body s with
    |fin aL=>rw[he]at H;cases H
    |ok q aL=>
      rw[he]at H;injection H with bd _;subst bd;obtain⟨_,_,al⟩:=aX.o q aL he;exact⟨al,al▸aR.o.nr⟩
theorem LL(a:gK c.p)(hF:∀e∈c.p.funcs,e.params.length<=8):∀g,p2 c g/\O7 c g
 |0=>⟨JW c,JU c⟩
 | g+1=>by
   obtain⟨d,i⟩:=LL a hF g;have b:=G3 a i;have f:=BR a hF b;exact⟨PE a d f,JT a d b⟩
theorem UH(a:gK c.p)(hF:∀b∈c.p.funcs,b.params.length<=8)(g:Nat):AY c g:=BR a hF (G3 a (LL a hF g).2)
theorem YH:(Tryz.prog.info? 23).map (fun i=>(i.zero,i.size,i.bytes))=some (some (.slice none 0 0),1,24):=by kernel_rfl
abbrev x1(a b:Int)(v:C4)(d e:Int):Obj:=.cells #[(a:Int),(b:Int),v,(d:Int),(e:Int)] 35
theorem iQ{W:C3}{f i j k l:C4}{T:TypeId}(m:W.heap[g]?=some (.cells #[f,i,j,k,l] T (0,0)))(a b c d e:C4):
 (((((W.setCell (g,0) a).setCell (g,1) b).setCell (g,2) c).setCell (g,3) d).setCell (g,4) e).heap[g]?=some (.cells #[a,b,c,d,e] T (0,0)):=
 D3 (D3 (D3 (D3 (D3 m a) b) c) d) e
theorem lX(W:C3){k:Nat}(a:k≠g)(b c d e f:C4):(((((W.setCell (g,0) b).setCell (g,1) c).setCell (g,2) d).setCell (g,3) e).setCell (g,4) f).heap[k]?=W.heap[k]?:=
 (Dw _ ⟨g,4,none⟩ _ k a).trans ((Dw _ ⟨g,3,none⟩ _ k a).trans ((Dw _ ⟨g,2,none⟩ _ k a).trans ((Dw _ ⟨g,1,none⟩ _ k a).trans (Dw _ ⟨g,0,none⟩ _ k a))))
theorem vY{W:C3}{B:Nat}(i:Below B w W)(a:B<=g)(b c d e f:C4):Below B w (((((W.setCell (g,0) b).setCell (g,1) c).setCell (g,2) d).setCell (g,3) e).setCell (g,4) f):=
 ((((i.setCell (p:=(g,0)) a _).setCell (p:=(g,1)) a _).setCell (p:=(g,2)) a _).setCell (p:=(g,3)) a _).setCell (p:=(g,4)) a _
theorem PH(a:Fu):fN a []=[]:=Hf
theorem YI{p:Pr}{s:C2}{f:Fu}(h:jT p s=some f):∃k:Nat,jw (qP p.funcs s)=(k:Int)/\p.funcs[k]?=some f:=by
 unfold jT at h;cases hi:qP p.funcs s with
 |none=>rw[hi]at h;cases h
 |some k=>rw[hi]at h;exact⟨k,rfl,h⟩
theorem JY(n:Nat):madeCells (Value.int .i64 0).cells (n*1)=((List.replicate n (0 :Int)).map (Value.int .i64)).toArray:=by
 unfold madeCells;rw[Nat.mul_one];apply Array.ext
 .simp
 .intro i _ _
  simp[Value.cells,Nat.mod_one]
theorem BS(n:Nat)(_:n<=1000)(w:C3):(Instr.makeSlice 23 (.int .i64 (n:Int)) (.int .i64 (n:Int))).run Tryz.prog w=.ok (.slice (some ⟨w.heap.size,0,none⟩) n n) (w.alloc (oJ (List.replicate n 0))):=by
 obtain⟨e,a,b,c,d⟩:=info_parts kX;have:=run_make (P:=Tryz.prog) w 23 3 e _ underlying23 a b .i64 .i64 (n:Int) (n:Int) O (Int.le_refl _) (by rw[d];omega) O;rw[this,c,Int.toNat_natCast,JY]
theorem UI(B:Nat)(p:Pr)(b:List Int)(E:Int)(cc a3 cd:C4)(w:C3)(aT:B<=w.heap.size)(L:gM B w cc p.wa)(aW:gN B w a3 p.funcs)(bG:∀f∈p.funcs,f.params.length+fU f.body<=1000000000)(aX:p.wa.length<=1000000)(az:k5 B w cd b)(M:fT b)(_:E<=1000000)(_: -9223372036854775808<=E):
 Cy 19 #[.agg #[cc,a3],cd,(E:Int)] w fun e w'=>∃v,e=.returned v/\GJ w'.heap.size w' v (vM p b E)/\Cx w w':=by
 obtain⟨m,u,rfl,_⟩:=L.form;obtain⟨r,x,rfl,_⟩:=aW.form;obtain⟨ai,al,rfl,_⟩:=az.1.form;have bV:Cx w ((w.alloc (qg m p.wa.length u r p.funcs.length x)).alloc (x1 0 0 (.slice none 0 0) 0 0)):=(Zb.alloc Zr _).alloc Uj _;have c7:((w.alloc (qg m p.wa.length u r p.funcs.length x)).alloc (x1 0 0 (.slice none 0 0) 0 0)).heap.size=w.heap.size+2:=by rw[zA,zA]
 have a0:((w.alloc (qg m p.wa.length u r p.funcs.length x)).alloc (x1 0 0 (.slice none 0 0) 0 0)).heap[w.heap.size]?=some (qg m p.wa.length u r p.funcs.length x):=zu (Ds w _) _;have ah:((w.alloc (qg m p.wa.length u r p.funcs.length x)).alloc (x1 0 0 (.slice none 0 0) 0 0)).heap[w.heap.size+1]?=some (x1 0 0 (.slice none 0 0) 0 0):=by have:=Ds (w.alloc (qg m p.wa.length u r p.funcs.length x)) (x1 0 0 (.slice none 0 0) 0 0);rw[zA]at this;exact this
 obtain⟨⟨cf,cg⟩,ch⟩:=zG a0;obtain⟨⟨ci,aB,cj,ck,cl⟩,cm⟩:=zh ah;obtain⟨cW,bS,bX,bY,bZ⟩:=info_parts YH;have aw:=U (Dt bS (Dt bX (Dt bY bZ)));clear bS bX bY bZ;obtain⟨R,bx⟩:=Cz (yt p);have aR:=U bV;have cB:=U a0;have cy:=U ah;have aC:=U L;have ba:=U aW;have cr:=U bG;have aM:=U bx;have cu:=U az;have cv:=U M;clear L aW bG bx az M bV a0 ah;go_enter func19,ntmps19
 go_upto_region 2 with(go_at_call 34
                       (with_reducible refine(I6 B p R _ _ _ O (aC.o.below (aR.o.mono aT) Zr) (ba.o.below (aR.o.mono aT) Zr) cr.o aM.o).mono ?_)
                       rintro e a5 ⟨rfl,bC⟩;have aj:=U bC
                       clear bC)
 have bD:Cx w (a5.alloc (.cells #[((R.2.1:Int):Int),(fX R.2.2:Int)] 62)):=(aR.o.trans (aj.o.mono O)).alloc (by have:=aj.o.size;omega) _;have bW:=zu ((aj.o.block w.heap.size O).trans cB.o) (.cells #[((R.2.1:Int):Int),(fX R.2.2:Int)] 62);have bQ:=zu ((aj.o.block (w.heap.size+1) O).trans cy.o) (.cells #[((R.2.1:Int):Int),(fX R.2.2:Int)] 62);have ar:=U bD;have bk:=U bW;have av:=U bQ;have c8:w.heap.size+2<=(a5.alloc (.cells #[((R.2.1:Int):Int),(fX R.2.2:Int)] 62)).heap.size:=by rw[zA];have:=aj.o.size;omega
 generalize a5.alloc (.cells #[((R.2.1:Int):Int),(fX R.2.2:Int)] 62)=W3 at *;clear bD bW bQ cf cg ch ci aB cj ck cl cm;obtain⟨⟨cf,cg⟩,ch⟩:=zG bk.o;obtain⟨⟨ci,aB,cj,ck,cl⟩,cm⟩:=zh av.o;have cS:w.heap.size<W3.heap.size:=O
 have bT:w.heap.size+1<W3.heap.size:=O
 by_cases am:R.1=0
 .have cL:(R.1 != 0)=false:=by simp[am]
  have aV:(yt p).1=0:=by rw[aM.o];exact am
  obtain⟨ag,bA,K,bJ,bK⟩:=iP aV;obtain⟨F,hF⟩:∃F:Nat,E.toNat=F:=⟨_,rfl⟩
  have c5:max E 0=(F:Int):=by rw[<-hF];omega
  clear am;have bh:=U ag;have co:=U bA;have aH:=U bJ;have ct:=U bK;have a9:=U aV;have bb:=U hF;clear aV ag bA bJ bK hF
  have bU:JQ W3.heap.size p (.slice m p.wa.length u) (.slice r p.funcs.length x) (.slice ai b.length al) F (W3.alloc (ruO (.slice m p.wa.length u) (.slice r p.funcs.length x) (.slice ai b.length al) (.slice none 0 0) F)) (.slice none 0 0) [] 0:=
   ⟨rfl,Ds W3 _,Yp _ _ _ _,fun k G=>(by cases G),fun j g l d=>(by simp at d),fun g d=>(by cases d),List.nodup_nil⟩
  have cA:=U bU;have cp:=C0 (Cx W3 (W3.alloc (ruO (.slice m p.wa.length u) (.slice r p.funcs.length x) (.slice ai b.length al) (.slice none 0 0) F))) (Zb.alloc Zr _);clear bU;go_upto_region 6 with fail;generalize W3.alloc (ruO (.slice m p.wa.length u) (.slice r p.funcs.length x) (.slice ai b.length al) (.slice none 0 0) F)=W4 at *
  go_loopw [10] (fun iv wr=>∃(i:Nat) (V:List Nat) (ce:C4),i<=p.wa.length/\iv=.int .i64 i/\JQ W3.heap.size p (.slice m p.wa.length u) (.slice r p.funcs.length x) (.slice ai b.length al) F wr ce V i/\Cx W3 wr) (fun iv _=>p.wa.length-(intOf iv).toNat)
  case atStart=>exact⟨0,[],_,Dx _,rfl,cA.o,cp.o⟩
  case round=>
   obtain⟨i,V,ce,az,rfl,M,ay⟩:=hrel;obtain⟨Ar,X,rfl⟩:=zY M.row;obtain⟨⟨_,_,_,_,_,_,_,_,_,_⟩,_⟩:=zD M.box;have c0:W3.heap.size<wr.heap.size:=zB M.box;have a1:=(ay.block w.heap.size cS).trans bk.o;obtain⟨⟨_,_⟩,_⟩:=zG a1;have c6:w.heap.size<wr.heap.size:=O
   have bF:Below B w wr:=(ar.o.mono aT).trans (ay.mono O);have aJ:=U M;have aG:=U ay;have cZ:=U a1;have au:=U bF;clear M ay a1 bF;by_cases cO:i<p.wa.length
   .obtain⟨a,L⟩:∃a,p.wa[i]?=some a:=⟨_,Dy cO⟩
    obtain⟨cI,_,rfl,_,_,aB⟩:=(aC.o.below au.o Zr).cells L;have ag:=List.all_eq_true.1 (show p.wa.all yg=true by have:=bh.o;unfold f5 at this;rw[D2]at this;exact this.1) a (Yc L);unfold yg at ag;simp only[D2,decide_eq_true_eq]at ag;obtain⟨n,bO⟩:∃n:Nat,a.size=(n:Int):=⟨a.size.toNat,O⟩
    have bP:a.size.toNat=n:=O
    have cQ:n<=1000:=O
    rw[bO]at aB;have c4:=BS n cQ;have c3:cI<wr.heap.size:=O
    have cn:=U L;have bf:=U bP;clear L ag bO bP;have ca:(wr.alloc (oJ (List.replicate n 0))).heap.size=wr.heap.size+1:=zA _ _;have cb:((wr.alloc (oJ (List.replicate n 0))).alloc (slO (.slice (some ⟨wr.heap.size,0,none⟩) n n))).heap.size=wr.heap.size+2:=by rw[zA,ca]
    have a7:=C0 (Cx wr ((wr.alloc (oJ (List.replicate n 0))).alloc (slO (.slice (some ⟨wr.heap.size,0,none⟩) n n))).drew) (((Zb.alloc Zr _).alloc O _).drew);have cC:=C0 (((wr.alloc (oJ (List.replicate n 0))).alloc (slO (.slice (some ⟨wr.heap.size,0,none⟩) n n))).drew.heap[wr.heap.size]?=some (oJ (List.replicate n 0))) (zu (Ds wr _) _);have cx:=U (je (wr.alloc (oJ (List.replicate n 0))) [.slice (some ⟨wr.heap.size,0,none⟩) n n] 23 (wr.heap.size+1) ca);have cz:=U (qR aJ.o.row a7.o Zr);go_wp2_with fail
    go_region_law (first
     | (refine qX rfl (.tmp 38) (.tmp 46) _ rfl (W3.heap.size+1) 23 cW _ 1 24 underlying76 aw.o.1 aw.o.2.1 aw.o.2.2.1 aw.o.2.2.2 rfl O (.slice Ar i X) i _ rfl (by exact cz.o) ⟨wr.heap.size+1,0,none⟩ 1 1 [.slice (some ⟨wr.heap.size,0,none⟩) n n] rfl rfl (by exact cx.o) Um Ul O (by show _<=((wr.alloc _).alloc _).heap.size;rw[cb];omega) O ?_
        intro a3 w8 aY bL ah;obtain⟨_,_,rfl⟩:=zY aY;have aA:=aJ.o.next cn.o a7.o cb (by rw[bf.o];exact cC.o) bL ah (by rw[bf.o];exact aY);obtain⟨⟨bl,bm,bn,bo,bp,bq,br,bs,bt,bu⟩,bv⟩:=zD aA.1;have c1:W3.heap.size<w8.heap.size:=zB aA.1;have bg:=U aA.2
        clear aY bL ah aA))
    all_goals
     go_wp2_with fail;go_roundw
     case rel=>exact⟨i+1,_,_,O,by go_num,bg.o.1,aG.o.trans bg.o.2⟩
     case measure=>simp[intOf];omega
   .have cN:i=p.wa.length:=by omega
    subst cN;obtain⟨a2,bN,bM⟩:=YI aH.o;have aq:=bh.o;unfold f5 at aq;rw[D2]at aq;have aD:=U (aC.o.below au.o Zr);have aI:=U (ba.o.below au.o Zr);have cK:F<=1000000000:=by have:=bb.o;omega
    have bj:=U (aJ.o.run (B:=B) O aD.o aI.o (cu.o.below au.o Zr) cv.o aq.1 aX cK)
    have bI:∀aS∈p.funcs,aS.params.length<=8:=fun aS cP=>by
     have ax:=List.all_eq_true.1 aq.2 aS cP;unfold yh at ax;simp only[D2,decide_eq_true_eq]at ax;exact ax.1.1.2
    have a8:=U (UH (c:=⟨W3.heap.size,wr.heap.size,B,.slice m p.wa.length u,.slice r p.funcs.length x,.slice Ar p.wa.length X,p,V⟩) co.o bI F);have bd:=U bN;have bc:=C0 ((gJ.mk W3.heap.size wr.heap.size B (.slice m p.wa.length u) (.slice r p.funcs.length x) (.slice Ar p.wa.length X) p V).p.funcs[a2]?=some K) bM;have bi:=U (show([]:List Int).length=K.params.length by rw[ct.o];rfl);have be:=C0 (fT []) (fun n aX=>by cases aX);have ae:=t9 a9.o aH.o b E;rw[bb.o]at ae;have ao:zr p (qG (qn p F) [] K.body (kx p b F)):=UD a9.o aH.o b F;have an:xI p F K [] (kx p b F)=(qG (qn p F) [] K.body (kx p b F)).bind fun d s=>.ok d.2.1 s:=by unfold xI;rw[PH]
    obtain⟨cV,bR⟩:=Cz (qG (qn p F) [] K.body (kx p b F));rw[bR]at ae ao an;have c2:B<=wr.heap.size:=O
    clear bN bM aq bI bR;rcases cV with⟨d,t⟩|t
    .have aP:=C0 (xI p F K [] (kx p b F)=.ok d.2.1 t) an
     have aQ:=C0 (vM p b E=(1,d.2.1,t.o,t.cost,t.fuel)) ae;have aL:=C0 ((t.spent || decide (t.stat≠0))=false) (kC ao);clear ae ao an
     go_wp2_with (first
      | (go_at_call 36
         (with_reducible refine(jK B p ⟨#[109,97,105,110]⟩ (a2:Int) bd.o _ _ _ O aD.o aI.o).mono ?_)
         rintro e a6 ⟨rfl,Z⟩;have ak:=U Z;have aK:=C0 (wW ⟨W3.heap.size,wr.heap.size,B,.slice m p.wa.length u,.slice r p.funcs.length x,.slice Ar p.wa.length X,p,V⟩ F a6 (.slice none 0 0) (kx p b F)) ⟨bj.o.we Z,D0 _,rfl,rfl⟩
         clear Z)
      | (go_at_call 35
         (with_reducible refine(a8.o.call aK.o bc.o bi.o (xU _ _) be.o).mono ?_)
         rintro e z ⟨cU,a4,rfl,y,ap,_,af⟩;rw[aP.o]at y af;have y:fP ⟨W3.heap.size,wr.heap.size,B,.slice m p.wa.length u,.slice r p.funcs.length x,.slice Ar p.wa.length X,p,V⟩ z a4 t:=y;obtain⟨C,D,rfl⟩:=zY y.o;obtain⟨rfl,_⟩:=af d.2.1 t rfl;obtain⟨cX,_,aa⟩:=y.box;obtain⟨⟨bl,bm,bn,bo,bp,bq,br,bs,bt,bu⟩,bv⟩:=zD aa;have cM:W3.heap.size<z.heap.size:=zB aa
         have Y:Cx W3 z:=(aG.o.trans (ak.o.mono O)).trans (ap.below (by have:=ak.o.size;omega) fun q cR aZ=>by
          rcases aZ with I|I
          .have I:W3.heap.size<=q/\q<wr.heap.size:=I;omega
          .cases I)
         have J:=(Y.block (w.heap.size+1) bT).trans av.o;obtain⟨⟨cD,cE,cF,cG,cH⟩,cJ⟩:=zh J;have cT:w.heap.size+1<z.heap.size:=zB J;have H:=U y;have aN:=U J;have aE:=U Y
         clear y ap af aa Y J)
      | (go_at_call 37
         (with_reducible refine(zk H.o false aL.o).mono ?_);rintro e cY ⟨rfl,rfl⟩))
     have bw:Cx W3 ((z.setCell (W3.heap.size,4) (1:Int)).setCell (W3.heap.size,5) (d.2.1:Int)):=(aE.o.setCell (p:=(W3.heap.size,4)) Zr _).setCell (p:=(W3.heap.size,5)) Zr _;have aF:=U (ar.o.trans (bw.mono O));have aO:=C0 (((z.setCell (W3.heap.size,4) (1:Int)).setCell (W3.heap.size,5) (d.2.1:Int)).heap[w.heap.size+1]?=some (x1 0 0 (.slice none 0 0) 0 0)) ((Dw _ ⟨W3.heap.size,5,none⟩ _ _ (by show _≠W3.heap.size;omega)).trans ((Dw _ ⟨W3.heap.size,4,none⟩ _ _ (by show _≠W3.heap.size;omega)).trans aN.o))
     have W:=U (show((z.setCell (W3.heap.size,4) (1:Int)).setCell (W3.heap.size,5) (d.2.1:Int)).ownsRow wr.heap.size 3 1 (.slice C t.o.length D) t.o.length (t.o.map (Value.int .i64))from zQ H.o.o fun k G=>by
      have ax:wr.heap.size<=k:=(zT H.o.o k G).2
      exact(Dw _ ⟨W3.heap.size,5,none⟩ _ k (by show k≠W3.heap.size;omega)).trans (Dw _ ⟨W3.heap.size,4,none⟩ _ k (by show k≠W3.heap.size;omega)))
     clear bw;generalize((z.setCell (W3.heap.size,4) (1:Int)).setCell (W3.heap.size,5) (d.2.1:Int))=W7 at *;have ad:=iQ aO.o (.int .i64 1) (.int .i64 d.2.1) (.slice C t.o.length D) (.int .i64 (t.cost:Int)) (.int .i64 (t.fuel:Int));have ab:=vY (g:=w.heap.size+1) (show Cx w W7 from aF.o) O (.int .i64 1) (.int .i64 d.2.1) (.slice C t.o.length D) (.int .i64 (t.cost:Int)) (.int .i64 (t.fuel:Int));have aU:=fun k (G:k≠w.heap.size+1)=>lX W7 G (.int .i64 1) (.int .i64 d.2.1) (.slice C t.o.length D) (.int .i64 (t.cost:Int)) (.int .i64 (t.fuel:Int))
     obtain⟨⟨N,P,Q,S,T⟩,_⟩:=zh ad;refine bodyPost_ret (v:=.agg #[(1:Int),(d.2.1:Int),(C,t.o.length,D),((t.cost:Int):Int),((t.fuel:Int):Int)]) (by simp[results,results19,go_sem,N,P,Q,S,T]) rfl ?_;exact Qs
    .have aP:=C0 (xI p F K [] (kx p b F)=.fin t) an
     have aQ:=C0 (vM p b E=(t.stat,0,t.o,t.cost,t.fuel)) ae;have aL:=C0 ((t.spent || decide (t.stat≠0))=true) (kC ao);clear ae ao an
     go_wp2_with (first
      | (go_at_call 36
         (with_reducible refine(jK B p ⟨#[109,97,105,110]⟩ (a2:Int) bd.o _ _ _ O aD.o aI.o).mono ?_)
         rintro e a6 ⟨rfl,Z⟩;have ak:=U Z;have aK:=C0 (wW ⟨W3.heap.size,wr.heap.size,B,.slice m p.wa.length u,.slice r p.funcs.length x,.slice Ar p.wa.length X,p,V⟩ F a6 (.slice none 0 0) (kx p b F)) ⟨bj.o.we Z,D0 _,rfl,rfl⟩
         clear Z)
      | (go_at_call 35
         (with_reducible refine(a8.o.call aK.o bc.o bi.o (xU _ _) be.o).mono ?_)
         rintro e z ⟨cU,a4,rfl,y,ap,_,af⟩;rw[aP.o]at y af;have y:fP ⟨W3.heap.size,wr.heap.size,B,.slice m p.wa.length u,.slice r p.funcs.length x,.slice Ar p.wa.length X,p,V⟩ z a4 t:=y;obtain⟨C,D,rfl⟩:=zY y.o;obtain⟨cX,_,aa⟩:=y.box;obtain⟨⟨bl,bm,bn,bo,bp,bq,br,bs,bt,bu⟩,bv⟩:=zD aa;have cM:W3.heap.size<z.heap.size:=zB aa
         have Y:Cx W3 z:=(aG.o.trans (ak.o.mono O)).trans (ap.below (by have:=ak.o.size;omega) fun q cR aZ=>by
          rcases aZ with I|I
          .have I:W3.heap.size<=q/\q<wr.heap.size:=I;omega
          .cases I)
         have J:=(Y.block (w.heap.size+1) bT).trans av.o;obtain⟨⟨cD,cE,cF,cG,cH⟩,cJ⟩:=zh J;have cT:w.heap.size+1<z.heap.size:=zB J;have H:=U y;have aN:=U J;have aE:=U Y
         clear y ap af aa Y J)
      | (go_at_call 37
         (with_reducible refine(zk H.o true aL.o).mono ?_);rintro e cY ⟨rfl,rfl⟩))
     have aF:=U (ar.o.trans (aE.o.mono O));have aO:=U aN.o;have W:=C0 (z.ownsRow wr.heap.size 3 1 (.slice C t.o.length D) t.o.length (t.o.map (Value.int .i64))) H.o.o;generalize z=W7 at *;have ad:=iQ aO.o (.int .i64 t.stat) (.int .i64 0) (.slice C t.o.length D) (.int .i64 (t.cost:Int)) (.int .i64 (t.fuel:Int));have ab:=vY (g:=w.heap.size+1) (show Cx w W7 from aF.o) O (.int .i64 t.stat) (.int .i64 0) (.slice C t.o.length D) (.int .i64 (t.cost:Int)) (.int .i64 (t.fuel:Int));have aU:=fun k (G:k≠w.heap.size+1)=>lX W7 G (.int .i64 t.stat) (.int .i64 0) (.slice C t.o.length D) (.int .i64 (t.cost:Int)) (.int .i64 (t.fuel:Int))
     obtain⟨⟨N,P,Q,S,T⟩,_⟩:=zh ad;refine bodyPost_ret (v:=.agg #[(t.stat:Int),(0:Int),(C,t.o.length,D),((t.cost:Int):Int),((t.fuel:Int):Int)]) (by simp[results,results19,go_sem,N,P,Q,S,T]) rfl ?_;exact Qs
 .have cL:(R.1 != 0)=true:=by simp[am]
  have bH:vM p b E=(0,0,[],0,0):=BQ (by rw[aM.o];exact am) b E;have cs:=U bH;clear bH;have ad:=iQ av.o (.int .i64 0) (.int .i64 0) (.slice none 0 0) (.int .i64 0) (.int .i64 0);have ab:=vY (g:=w.heap.size+1) ar.o O (.int .i64 0) (.int .i64 0) (.slice none 0 0) (.int .i64 0) (.int .i64 0);obtain⟨⟨N,P,Q,S,T⟩,_⟩:=zh ad;have cw:=U (Dt N (Dt P (Dt Q (Dt S T))));have cq:=U ab;clear ad ab N P Q S T;go_wp2_with fail;obtain⟨N,P,Q,S,T⟩:=cw.o;refine bodyPost_ret (v:=.agg #[(0:Int),(0:Int),(),(0:Int),(0:Int)]) (by simp[results,results19,go_sem,N,P,Q,S,T]) rfl ?_;refine⟨_,rfl,?_,cq.o⟩;rw[cs.o];exact⟨_,rfl,xU _ _,fun _ n c d=>by injection d with _ I _;omega⟩
