import Derived.Test.YthcmenajdcbnnaaGreatDoorAmEvCa
set_option linter.unusedSimpArgs false
set_option linter.unusedVariables false
set_option maxRecDepth 100000
set_option maxHeartbeats 99000000
namespace Go.Proofs.YthcmenajdcbnnaaGreatDoor
open Go.RowKit Tryz Go.Maps
variable{L B b n:Nat}{w:C3}
abbrev lpO(s:f7)(vb:C4):Obj:=.cells #[((s.lst:Int):Int),((s.lsc:Int):Int),vb] 158
def zao(w:C3)(b:Nat)(s:f7)(vb:C4):C3:=
 ((((w.setCell (b,2) ((s.C.length:Int):Int)).setCell (b,3) ((s.sc:Int):Int)).setCell (b,4) ()).alloc (lpO s vb)).drew
section
variable {L B b:Nat}{w w1 w7 w8:C3}{vc vb vc7 vb7:C4}{s s7 s8:f7}{qs qs7:List Q4}
theorem OW(a:gA L B b w vc vb s qs)(j:w1=zao w b s vb):
 gA L B b w1 vc (.slice none 0 0) { s with lst:=s.C.length,lsc:=s.sc,bk:=[] } qs/\fF (fun k=>k=b) w w1/\w1.heap[w.heap.size]?=some (lpO s vb)/\w1.heap.size=w.heap.size+1:=by
 subst j;unfold zao;have l:fF (fun k=>k=b) w (w.setCell (b,2) ((s.C.length:Int):Int)):=fF.set (X:=fun k=>k=b) _ rfl _ _;have m:=fF.set (X:=fun k=>k=b) (w.setCell ⟨b,2,none⟩ ((s.C.length:Int):Int)) rfl 3 (.int .i64 (s.sc:Int));have n:=fF.set (X:=fun k=>k=b) ((w.setCell ⟨b,2,none⟩ ((s.C.length:Int):Int)).setCell ⟨b,3,none⟩ ((s.sc:Int):Int)) rfl 4 (.slice none 0 0);have d:=(l.trans m fun _ _ a=>a).trans n fun _ _ a=>a
 have f:=D3 (i:=4) (D3 (i:=3) (D3 (i:=2) a.box (.int .i64 (s.C.length:Int))) (.int .i64 (s.sc:Int))) (.slice none 0 0);have e:(((w.setCell (b,2) ((s.C.length:Int):Int)).setCell (b,3) ((s.sc:Int):Int)).setCell (b,4) ()).heap.size=w.heap.size:=Uk
 generalize((w.setCell (b,2) ((s.C.length:Int):Int)).setCell (b,3) ((s.sc:Int):Int)).setCell (b,4) ()=W at *;have g:gA L B b W vc (.slice none 0 0) { s with lst:=s.C.length,lsc:=s.sc,bk:=[] } qs:=a.dc d f rfl (Yp _ _ _ _);have c:Cx W (W.alloc (lpO s vb)).drew:=(Zb.alloc Zr _).drew;refine⟨g.we c,d.trans (fF.wb (fun _=>False) c) fun _ _ a=>a.elim,?_,?_⟩
 .rw[<-e]
  exact Ds W _
 .rw[<-e]
  exact zA W _
theorem X9(d:gA L B b w vc vb s qs)(g:fF (fun k=>k=b) w w1)(f:gL L B b w1 vc (.slice none 0 0) w7 vc7 vb7 s7 qs7)(i:fF (fun k=>k=b) w7 w8)(n:w8.heap[b]?=some (LH vc7 vb s8))(l:s8.C=s7.C)(m:s8.bk=s.bk):gL L B b w vc vb w8 vc7 vb s8 qs7:=by
 have u:=d.lt;have q:=g.size;have o:∀k,vb.ownBlock=some k->k<w.heap.size/\k≠b/\vc.ownBlock≠some k:=fun k a=>⟨(zT d.brow k a).1,fun e=>d.bb (e▸a),fun e=>d.bc k e a⟩
 have p:fF (WT b vc vb) w w8:=by
  refine((g.mono (Y:=WT b vc vb) fun k _ a=>.inl a).trans f.off fun k _ a=>?_).trans i fun k _ a=>.inl a
  rcases a with a|a|a
  .exact .inl a
  .exact .inr (.inl a)
  .cases a
 refine⟨f.wr.dc i n l ?_,p,f.rc.mono q,fM.refl _ _⟩;rw[m];refine zQ d.brow fun k a=>?_
 obtain⟨r,j,t⟩:=o k a
 have c:¬WT b vc (.slice none 0 0) k:=fun c=>by
  rcases c with c|c|c
  .exact j c
  .exact t c
  .cases c
 exact(i.block k (by have:=f.off.size;omega) j).trans ((f.off.block k O c).trans (g.block k r j))
theorem gA.breaks(e:gA L B b w vc vb s qs){d:Option Addr}{n c:Nat}(i:vb=.slice d n c):∀(j p:Nat),s.bk[j]?=some p->∃g o,d=some ⟨g,o,none⟩/\g<w.heap.size/\vc.ownBlock≠some g/\w.cell? ⟨g,o+j,none⟩=some (.int .i64 (p:Int)):=by
 intro j p f;obtain⟨g,_,a,_,l,_,k,_⟩:=xC e.brow (by have:=(List.getElem?_eq_some_iff.1 f).1;omega);rw[i]at a;injection a with a _ _;refine⟨g,0,a,l,fun m=>e.bc g m ?_,?_⟩
 .rw[i,a]
  rfl
 .rw[Yz]
  exact k j _ (by rw[Yn,f];rfl)
end
theorem YA(n:Nat)(l:List St)(b d st:Nat):Pt n (kl l b d st 0) (kl l b d st n) b (wL l b d):=TR (fun b d=>nD n l b d st) b d
theorem TY{m:Nat}(br:OT L B b m)(k bM:Int)(td:C2)(tc:List Ex)(tg th:List St)(w:C3)(v vc vb:C4)(s:f7)(qs:List Q4)(l:gA L B b w vc vb s qs)(aK:oP B w v (.mk k bM td tc tg th))(D:zx tc 100=true)(aR:fL tg m=true)(ah:gU s (zH tc+2+qY tg 0) (m+1)):
 Cy 140 #[(b,0),v] w (vW L B b w vc vb { s with C:=s.C++
  (qN tc s.C.length++.unl (s.C.length+zH tc+2+qY tg 0)::(kl tg (s.C.length+zH tc+1) 0 s.C.length (s.C.length+zH tc+2+qY tg 0)++[.jmp s.C.length])) } (.tuple #[])):=by
 obtain⟨g,o,rfl,aJ,_,_,_,⟨_,f3,aO⟩,⟨bN,an,aP⟩,_,bq,bG⟩:=aK.cells;have bT:B<=w.heap.size:=Gy
 have bV:g<w.heap.size:=O
 obtain⟨J,y⟩:∃x:f7,x={ s with lst:=s.C.length,lsc:=s.sc,bk:=[] }:=⟨_,rfl⟩
 obtain⟨j,q⟩:∃x:f7,x={ J with C:=J.C++qN tc J.C.length }:=⟨_,rfl⟩
 obtain⟨a,r⟩:∃x:f7,x={ j with C:=j.C++[fO.unl 0] }:=⟨_,rfl⟩
 obtain⟨F,E⟩:∃x:f7,x=kO a (kl tg a.C.length (dS a) a.lst 0) (wL tg a.C.length (dS a)):=⟨_,rfl⟩
 obtain⟨t,G⟩:∃x:f7,x={ F with C:=F.C++[fO.jmp s.C.length] }:=⟨_,rfl⟩
 obtain⟨f,I⟩:∃x:f7,x={ t with C:=jj t.C.length t.C [j.C.length] }:=⟨_,rfl⟩
 obtain⟨Q,ab⟩:∃x:f7,x={ f with C:=jj f.C.length f.C f.bk }:=⟨_,rfl⟩
 have ak:J.C=s.C:=by rw[y]
 have P:dS a=0:=by rw[r,q,y];exact Yy _
 have ay:a.lst=s.C.length:=by rw[r,q,y]
 have a0:F.lst=s.C.length:=by rw[E];exact ay
 have aw:j.C.length=s.C.length+zH tc:=by rw[q];show(J.C++_).length=_;rw[Dr,jF,ak]
 have ae:a.C.length=s.C.length+zH tc+1:=by rw[r];show(j.C++_).length=_;rw[Dr,aw];rfl
 have aY:F.C.length=s.C.length+zH tc+1+qY tg 0:=by rw[E];show(a.C++_).length=_;rw[Dr,ae,mW,P]
 have ax:t.C.length=s.C.length+zH tc+2+qY tg 0:=by rw[G];show(F.C++[_]).length=_;rw[Dr,aY,D8];omega
 have aZ:f.C.length=s.C.length+zH tc+2+qY tg 0:=by rw[I];show(jj _ t.C _).length=_;rw[uf,ax]
 have ag:f.bk=wL tg a.C.length 0:=by
  rw[I,G,E];show a.bk++_=_;rw[show a.bk=[]by rw[r,q,y],P,Cm]
 have bo:(wL tg a.C.length 0).length<=qY tg 0:=DF (fun b d=>uh tg b d) _ _;have bC:=ah.len;have bs:=ah.bk;have aN:gU a (qY tg (dS a)) (m+1):=⟨by rw[r,q,y];exact D0 _,by rw[r,q,y];exact ah.sc,by rw[ae,P];omega,by rw[P,r,q,y];show 0+_<=_;omega⟩
 have z:t.C=j.C++[fO.unl 0]++(kl tg a.C.length 0 s.C.length 0++[fO.jmp s.C.length]):=by
  rw[G];show F.C++[fO.jmp _]=_;rw[E];show a.C++_++[fO.jmp _]=_;rw[<-Ya,P,ay,show a.C=j.C++[fO.unl 0]by rw[r]]
 have u:f.C=(j.C++[fO.unl t.C.length])++kl tg a.C.length 0 s.C.length 0++[fO.jmp s.C.length]:=by
  rw[I];have:=oZ z rfl (n:=t.C.length);rw[<-Ya]at this;exact this
 have aH:(j.C++[fO.unl t.C.length]).length=a.C.length:=by rw[Dr,D8,aw,ae]
 have au:=(YA f.C.length tg a.C.length 0 s.C.length).2 (j.C++[fO.unl t.C.length]) [fO.jmp s.C.length] aH
 have A:Q.C=(j.C++[fO.unl t.C.length])++kl tg a.C.length 0 s.C.length f.C.length++[fO.jmp s.C.length]:=by
  rw[ab];show jj f.C.length f.C f.bk=_;rw[ag,<-au.1,<-u]
 have bc:=U (t6 z rfl rfl);have bd:=U (show LG f.C f.bk by rw[ag,u];exact au.2)
 have aI:({ Q with lst:=s.lst,lsc:=s.lsc,bk:=s.bk }:f7)={ s with C:=s.C++
  (qN tc s.C.length++.unl (s.C.length+zH tc+2+qY tg 0)::(kl tg (s.C.length+zH tc+1) 0 s.C.length (s.C.length+zH tc+2+qY tg 0)++[.jmp s.C.length])) }:=by
  have bp:({ Q with lst:=s.lst,lsc:=s.lsc,bk:=s.bk }:f7)={ s with C:=Q.C }:=by
   rw[ab,I,G,E,r,q,y]
  rw[bp,A,ae,aZ,ax,show j.C=s.C++qN tc s.C.length by rw[q];show J.C++_=_;rw[ak]];simp
 have bb:=U aI;have bv:J.C.length+zH tc<=1000000000:=by rw[ak];omega
 have bw:j.C.length<=2000000000:=O
 have bx:F.C.length<=2000000000:=O
 have bz:t.C.length<=2000000000:=O
 have bA:f.C.length<=2000000000:=O
 have bu:f.bk.length<=2000000000:=by rw[ag];omega
 have bi:=U aN;have aG:=U (Dt aO aP);have aF:=U (Dt D aR);have aE:=U (Dt f3 an);have bl:=C0 (F.lst=s.C.length) a0;have bS:=U (show Q.sc=s.sc by rw[ab,I,G,E,r,q,y]);obtain⟨aA,c,rfl⟩:=zY l.row;obtain⟨R,aa,rfl⟩:=zY l.brow;obtain⟨⟨S,T,K,V,M⟩,W⟩:=zS l.box;have bW:=l.lt;have H:=U l;clear aK aO aP bG D aR ah P ay a0 aw ae aY ax aZ ag bo bC bs aN z u A aH au aI l f3 an bq ak;have a2:=U y;have a3:=U q;have a4:=U r;have a5:=U E;have a6:=U G;have a7:=U I;have a8:=U ab;clear y q r E G I ab;go_enter func140,ntmps140;go_upto_region 1 with fail;go_wp2_with fail
 go_region
 generalize aj:((((w.setCell (b,2) ((s.C.length:Int):Int)).setCell (b,3) ((s.sc:Int):Int)).setCell (b,4) ()).alloc (.cells #[((s.lst:Int):Int),((s.lsc:Int):Int),(R,s.bk.length,aa)] 158)).drew=w1;replace aj:w1=zao w b s (.slice R s.bk.length aa):=aj.symm;have aQ:=OW H.o aj;rw[<-a2.o]at aQ;clear aj S T K V M W;obtain⟨ai,ar,aL,_⟩:=aQ;have ao:=(H.o.below (ar.mono (Y:=WT b (.slice aA s.C.length c) (.slice R s.bk.length aa)) fun k _ aq=>.inl aq)).mono H.o.hB;have f3:=(ao.cell (p:=(g,o+3)) aJ).trans aE.o.1;have bt:g<w1.heap.size:=O
 have bR:=U (gL.start ai);have bj:=U ai;have bf:=U ar;have bg:=U aL;have bm:=U (zAh (j3 L B b 100) ai (aG.o.1.below ao Zr) aF.o.1 bv);clear ai ar aL
 go_upto_region 3 with(first
  | (go_at_call 142;(refine bm.o.mono ?_);rintro e _ aS
     obtain⟨_,_,_,rfl,am⟩:=aS.cum;rw[<-a3.o]at am;have af:=U am
     clear aS am))
 go_upto_region 4 with(first
  | (go_at_call 138;(refine(qZ af.o.wr 4 0 none none (x:=.unl 0) ⟨rfl,rfl,rfl,rfl⟩ bw).mono ?_);rintro e a1 aT
     obtain⟨bP,bO,bL,rfl,N⟩:=aT.cum;rw[<-a4.o]at N;have ba:=U (af.o.next N);have ap:=ao.trans ((af.o.next N).below bj.o);have an:=(ap.cell (p:=(g,o+4)) aJ).trans aE.o.2;have bU:g<a1.heap.size:=Yb bt (af.o.next N).off.size;have be:=U (br tg a1 bN bP bO a bL N.wr (aG.o.2.below ap Zr) aF.o.2 bi.o)
     clear aT N ap))
 go_upto_region 5 with(first
  | (go_at_call 154;(refine be.o.mono ?_);rintro e _ aU
     obtain⟨_,_,_,rfl,Z⟩:=aU.cum;rw[<-a5.o]at Z;have aB:=U (ba.o.next Z);obtain⟨⟨S,T,K,V,M⟩,W⟩:=zS Z.wr.box;rw[bl.o]at K;have bD:=Z.wr.lt
     clear aU Z))
 go_upto_region 6 with(first
  | (go_at_call 138;(refine(qZ aB.o.wr 3 (s.C.length:Int) none none (x:=.jmp s.C.length) ⟨rfl,rfl,rfl,rfl⟩ bx).mono ?_);rintro e az aV
     obtain⟨bQ,_,_,rfl,z⟩:=aV.cum;rw[<-a6.o]at z;have aC:=U ((aB.o.next z).next (gL.mono z.wr ((D4 az.heap.size az).alloc Zr (.cells #[((j.C.length:Int):Int)] 3))));have bh:=U (j2 az j.C.length bQ fun k aq=>(z.wr.tl (.inr (.inl aq))).2)
     clear aV z S T K V M W bD))
 go_upto_region 7 with(first
  | (go_at_call 155;(refine(ug (ps:=[j.C.length]) aC.o.wr bh.o bc.o bz Uh).mono ?_);rintro e _ aW
     obtain⟨_,rfl,u⟩:=gL.land aW;rw[<-a7.o]at u;obtain⟨_,_,av⟩:=zY u.wr.brow;have al:=U (aC.o.next u);obtain⟨⟨S,T,K,V,M⟩,W⟩:=zS u.wr.box;have bF:=u.wr.lt;rw[av]at M;have a9:=U (u.wr.breaks av)
     clear aW u av))
 go_upto_region 8 with(first
  | (go_at_call 155;(refine(ug (ps:=f.bk) al.o.wr a9.o bd.o bA bu).mono ?_);rintro e w7 aX
     obtain⟨_,rfl,A⟩:=gL.land aX;rw[<-a8.o]at A;have aD:=U (al.o.next A);obtain⟨⟨_,_,_,_,_⟩,_⟩:=zS A.wr.box;have bX:=A.wr.lt
     have aM:¬WT b (.slice aA s.C.length c) (.slice none 0 0) w.heap.size:=fun D=>by
      rcases D with D|D|D
      .omega
      .have:=(H.o.tl (.inr (.inl D))).2
       omega
      .cases D
     have ad:=(al.o.next A).off.at aM bg.o;have bZ:=(Du ad 0).trans rfl;have b0:=(Du ad 1).trans rfl;have b1:=(Du ad 2).trans rfl;have bY:=zB ad
     clear aX A ad aM S T K V M W bF))
 go_wp2_with fail
 go_end0
 have bn:=D3 (i:=4) (D3 (i:=3) (D3 (i:=2) aD.o.wr.box (.int .i64 (s.lst:Int))) (.int .i64 (s.lsc:Int))) (.slice R s.bk.length aa);have bH:fF (fun k=>k=b) w7 (w7.setCell (b,2) ((s.lst:Int):Int)):=fF.set (X:=fun k=>k=b) _ rfl _ _;have bI:=fF.set (X:=fun k=>k=b) (w7.setCell ⟨b,2,none⟩ ((s.lst:Int):Int)) rfl 3 (.int .i64 (s.lsc:Int));have bJ:=fF.set (X:=fun k=>k=b) ((w7.setCell ⟨b,2,none⟩ ((s.lst:Int):Int)).setCell ⟨b,3,none⟩ ((s.lsc:Int):Int)) rfl 4 (.slice R s.bk.length aa);have bK:=(bH.trans bI fun _ _ l=>l).trans bJ fun _ _ l=>l
 exact((X9 H.o bf.o aD.o bK (s8:={ Q with lst:=s.lst,lsc:=s.lsc,bk:=s.bk }) bn rfl rfl).cast bb.o).post _
theorem gA.addbk{W w8:C3}{vc vb c:C4}{s:f7}{qs:List Q4}(a:gA L B b w vc vb s qs)(f:Cx w W)(j:W.grownBy w8 vb.ownBlock)(y:kj W vb c)(o:w8.ownsRow L 3 1 c (s.bk.length+1) (ZQ s.bk++[.int .i64 (n:Int)])):
 w8.heap[b]?=some (LH vc vb s)/\gL L B b w vc vb (w8.setCell (b,4) c) vc c { s with bk:=s.bk++[n] } qs:=by
 have q:=f.size;have g:w8.heap[b]?=some (LH vc vb s):=((j.block b (Yb a.lt q) fun e=>a.bb e.symm).trans (f.block b a.lt)).trans a.box;have t:c.ownBlock≠some b:=uE o (show Is w8 b 160 #[vc,((s.sc:Int):Int),((s.lst:Int):Int),((s.lsc:Int):Int),vb]from g) Uf
 have m:fF (WT b vc vb) w (w8.setCell (b,4) c):=
  ((fF.wb (WT b vc vb) f).trans (fF.grown (X:=WT b vc vb) j fun k d=>.inr (.inr d)) fun _ _ l=>l).trans (fF.set (X:=WT b vc vb) w8 (.inl rfl) 4 c) fun _ _ l=>l
 have r:=(a.below m).mono a.hB;refine⟨g,⟨a.hB,a.hL,D3 g _,?_,a.ql,fun i A p z x=>(a.qi i A p z x).below r Zr,?_⟩,m,fM.refl _ _,fM.di y q⟩
 .refine zQ a.row fun k d=>?_
  have v:=(zT a.row k d).1;have u:k≠b:=fun e=>a.cb (e▸d)
  exact(Dw w8 _ _ k u).trans ((j.block k O fun e=>a.bc k d e.symm).trans (f.block k v))
 .show(w8.setCell _ _).ownsRow L _ 1 c (s.bk++[n]).length (ZQ (s.bk++[n]))
  rw[Dr,show ZQ (s.bk++[n])=ZQ s.bk++[.int .i64 (n:Int)]by simp[ZQ]];exact zQ o fun k d=>Dw w8 _ _ k (fun e=>t (by have e:k=b:=e;rw[<-e];exact d))
section
variable {L B b m:Nat}
theorem TZ(W:OT L B b m)(f:Int)(td:C2)(tc:List Ex)(tg th:List St)(w:C3)(v vc vb:C4)(s:f7)(qs:List Q4)(k:gA L B b w vc vb s qs)(u:oP B w v (.mk 4 f td tc tg th))(F:zx tc 100=true)(E:fL tg m=true)(z:fL th m=true)(j:gU s (xa (.mk 4 f td tc tg th) (dS s)) (m+1)):
 Cy 112 #[(b,0),v] w (vW L B b w vc vb (kO s (xD (.mk 4 f td tc tg th) s.C.length (dS s) s.lst 0) (wK (.mk 4 f td tc tg th) s.C.length (dS s))) (.tuple #[])):=by
 obtain⟨g,o,rfl,Y,r,_⟩:=u.cells;have ag:B<=w.heap.size:=Gz
 have Z:g<w.heap.size:=O
 obtain⟨a,c⟩:∃x:f7,x={ s with C:=s.C++[fO.beg] }:=⟨_,rfl⟩
 have y:a.C.length=s.C.length+1:=Ku
 have l:dS a=dS s:=by rw[c]
 rw[xa,Dq rfl]at j;have ab:=j.len;have X:=j.bk;have V:=t5 tg (dS s);have T:=t5 th (dS s);have D:gU a (zH tc+2+qY tg (dS a)+qY th (dS a)) (m+1):=⟨by rw[c];exact j.d,by rw[c];exact j.sc,by rw[y,l];omega,by rw[l,c];show s.bk.length+_<=_;omega⟩
 have A:kO a
  (qN tc a.C.length++.unl (a.C.length+zH tc+2+qY tg (dS a))::(kl tg (a.C.length+zH tc+1) (dS a) a.lst 0++.jmp (a.C.length+zH tc+2+qY tg (dS a)+qY th (dS a))::kl th (a.C.length+zH tc+2+qY tg (dS a)) (dS a) a.lst 0))
  (wL tg (a.C.length+zH tc+1) (dS a)++wL th (a.C.length+zH tc+2+qY tg (dS a)) (dS a))=kO s (xD (.mk 4 f td tc tg th) s.C.length (dS s) s.lst 0) (wK (.mk 4 f td tc tg th) s.C.length (dS s)):=by
  rw[xD,wK,Dq rfl,Dq rfl,y,l,show s.C.length+1+zH tc+1=s.C.length+zH tc+2 by omega,show s.C.length+1+zH tc+2+qY tg (dS s)=s.C.length+zH tc+3+qY tg (dS s)by omega,c];unfold kl wL qY;simp[kO]
 have P:=U A;have aa:s.C.length<=2000000000:=O
 have H:=U k;have Q:=U u;have n:=U (Dt F (Dt E z));have R:=U D;have N:=U r;have J:=U c;clear k u F E z D r c y l j ab X V T A;go_enter func112,ntmps112
 go_upto_region 1 with(first
  | (go_at_call 138;(refine(qZ H.o 0 0 none none (x:=.beg) ⟨rfl,rfl,rfl,rfl⟩ aa).mono ?_);rintro e w1 G
     obtain⟨af,ae,ad,rfl,i⟩:=G.cum;rw[<-J.o]at i;have K:=U i;have t:=i.below H.o;have r:=(t.cell (p:=(g,o)) Y).trans N.o;have ah:g<w1.heap.size:=Yb Z i.off.size;have S:=U (GR W 4 f td tc tg th w1 _ af ae a ad i.wr (Q.o.below t Zr) n.o.1 n.o.2.1 n.o.2.2 R.o)
     clear G i t))
 go_wp2_with (first
  | (go_at_call 139;(refine S.o.mono ?_);rintro e _ I
     obtain⟨_,_,_,rfl,q⟩:=I.cum;rw[P.o]at q;have M:=U (K.o.next q)
     clear I q))
 go_end0
 exact M.o.post _
theorem GS(S:OT L B b m)(f:Int)(td:C2)(tc:List Ex)(tg th:List St)(w:C3)(v vc vb:C4)(s:f7)(qs:List Q4)(k:gA L B b w vc vb s qs)(r:oP B w v (.mk 5 f td tc tg th))(D:zx tc 100=true)(A:fL tg m=true)(j:gU s (xa (.mk 5 f td tc tg th) (dS s)) (m+1)):
 Cy 112 #[(b,0),v] w (vW L B b w vc vb (kO s (xD (.mk 5 f td tc tg th) s.C.length (dS s) s.lst 0) (wK (.mk 5 f td tc tg th) s.C.length (dS s))) (.tuple #[])):=by
 obtain⟨g,o,rfl,V,n,_⟩:=r.cells;have ad:B<=w.heap.size:=Gz
 have W:g<w.heap.size:=O
 obtain⟨a,c⟩:∃x:f7,x={ s with C:=s.C++[fO.beg] }:=⟨_,rfl⟩
 have t:a.C.length=s.C.length+1:=Ku
 rw[xa,Dp Uf,Dq rfl]at j;have Y:=j.len;have T:=j.bk;have R:=t5 tg 0;have z:gU a (zH tc+2+qY tg 0) (m+1):=⟨by rw[c];exact j.d,by rw[c];exact j.sc,by rw[t];omega,by rw[c];show s.bk.length+_<=_;omega⟩
 have y:({ a with C:=a.C++
  (qN tc a.C.length++.unl (a.C.length+zH tc+2+qY tg 0)::(kl tg (a.C.length+zH tc+1) 0 a.C.length (a.C.length+zH tc+2+qY tg 0)++[.jmp a.C.length])) }:f7)=kO s (xD (.mk 5 f td tc tg th) s.C.length (dS s) s.lst 0) (wK (.mk 5 f td tc tg th) s.C.length (dS s)):=by
  rw[xD,wK,Dp Uf,Dq rfl,Dp Uf,Dp Uf,t,show s.C.length+1+zH tc+1=s.C.length+zH tc+2 by omega,show s.C.length+1+zH tc+2+qY tg 0=s.C.length+zH tc+3+qY tg 0 by omega,c];unfold kl qY;simp[kO]
 have M:=U y;have X:s.C.length<=2000000000:=O
 have H:=U k;have N:=U r;have u:=U (Dt D A);have P:=U z;have K:=U n;have G:=U c;clear k r D A z n c t j Y T R y;go_enter func112,ntmps112
 go_upto_region 1 with(first
  | (go_at_call 138;(refine(qZ H.o 0 0 none none (x:=.beg) ⟨rfl,rfl,rfl,rfl⟩ X).mono ?_);rintro e w1 E
     obtain⟨ab,aa,Z,rfl,i⟩:=E.cum;rw[<-G.o]at i;have I:=U i;have q:=i.below H.o;have n:=(q.cell (p:=(g,o)) V).trans K.o;have ae:g<w1.heap.size:=Yb W i.off.size;have Q:=U (TY S 5 f td tc tg th w1 _ ab aa a Z i.wr (N.o.below q Zr) u.o.1 u.o.2 P.o)
     clear E i q))
 go_wp2_with (first
  | (go_at_call 140;(refine Q.o.mono ?_);rintro e _ F
     obtain⟨_,_,_,rfl,l⟩:=F.cum;rw[M.o]at l;have J:=U (I.o.next l)
     clear F l))
 go_end0
 exact J.o.post _
theorem JG(i:Int)(td:C2)(tc:List Ex)(tg th:List St)(w:C3)(v vc vb:C4)(s:f7)(qs:List Q4)(l:gA L B b w vc vb s qs)(F:oP B w v (.mk 7 i td tc tg th))(n:gU s (xa (.mk 7 i td tc tg th) (dS s)) (m+1)):
 Cy 112 #[(b,0),v] w (vW L B b w vc vb (kO s (xD (.mk 7 i td tc tg th) s.C.length (dS s) s.lst 0) (wK (.mk 7 i td tc tg th) s.C.length (dS s))) (.tuple #[])):=by
 obtain⟨g,o,rfl,W,y,_⟩:=F.cells;have ag:B<=w.heap.size:=Gy
 have X:g<w.heap.size:=O
 obtain⟨a,c⟩:∃x:f7,x={ s with C:=s.C++[fO.beg] }:=⟨_,rfl⟩
 obtain⟨q,k⟩:∃x:f7,x={ a with C:=a.C++List.replicate (dS a) .lve }:=⟨_,rfl⟩
 have z:a.C.length=s.C.length+1:=Ku
 have r:dS a=dS s:=by rw[c]
 have ab:q.C.length=s.C.length+1+dS s:=by rw[k];show(a.C++_).length=_;rw[Dr,Cf,z,r]
 rw[xa,Dp Uf,Dp Uf,Dq (Or.inr rfl)]at n;have aa:=n.len
 have E:({ q with C:=q.C++[fO.jmp s.lst] }:f7)=kO s (xD (.mk 7 i td tc tg th) s.C.length (dS s) s.lst 0) (wK (.mk 7 i td tc tg th) s.C.length (dS s)):=by
  rw[xD,wK,Dp Uf,Dp Uf,Dp Uf,Dq rfl,Dp Uf,Dp Uf,k,r,c];simp[kO]
 have R:=U E;have Y:s.C.length<=2000000000:=O
 have Z:q.C.length<=2000000000:=O
 have t:=U (Dt (show a.lsc<=a.sc by rw[c];exact n.d) (Dt (show a.sc<=1000 by rw[c];show s.sc<=1000;have:=n.sc;omega) (show a.C.length+dS a<=1000000000 by rw[z,r];omega)));have S:=U (show q.lst=s.lst by rw[k,c]);have H:=U l;have Q:=U y;have K:=U c;have M:=U k;clear l F y c k z ab r n aa E;go_enter func112,ntmps112
 go_upto_region 1 with(first
  | (go_at_call 138;(refine(qZ H.o 0 0 none none (x:=.beg) ⟨rfl,rfl,rfl,rfl⟩ Y).mono ?_);rintro e w1 G
     obtain⟨af,ae,ad,rfl,f⟩:=G.cum;rw[<-K.o]at f;have N:=U f;have D:=f.below H.o;have y:=(D.cell (p:=(g,o)) W).trans Q.o;have ah:g<w1.heap.size:=Yb X f.off.size;have T:=U (t4 w1 af ae a ad f.wr t.o.1 t.o.2.1 t.o.2.2)
     clear G f D))
 go_upto_region 13 with(first
  | (go_at_call 141;(refine T.o.mono ?_);rintro e _ I
     obtain⟨_,_,_,rfl,j⟩:=I.cum;rw[<-M.o]at j;have A:=U (N.o.next j);obtain⟨⟨_,_,V,_,_⟩,_⟩:=zS j.wr.box;have ai:=j.wr.lt;rw[S.o]at V
     clear I j))
 go_wp2_with (first
  | (go_at_call 138;(refine(qZ A.o.wr 3 (s.lst:Int) none none (x:=.jmp s.lst) ⟨rfl,rfl,rfl,rfl⟩ Z).mono ?_);rintro e _ J
     obtain⟨_,_,_,rfl,u⟩:=J.cum;rw[R.o]at u;have P:=U (A.o.next u)
     clear J u))
 go_end0
 exact P.o.post _
theorem JH(k a:Int)(td:C2)(tc:List Ex)(tg th:List St)(w:C3)(v vc vb:C4)(s:f7)(qs:List Q4)(f:gA L B b w vc vb s qs)(E:oP B w v (.mk k a td tc tg th))(V:zx tc 100=true)(i:¬k=4)(q:¬k=5)(r:¬k=6)(A:¬k=7)(D:gU s (xa (.mk k a td tc tg th) (dS s)) (m+1)):
 Cy 112 #[(b,0),v] w (vW L B b w vc vb (kO s (xD (.mk k a td tc tg th) s.C.length (dS s) s.lst 0) (wK (.mk k a td tc tg th) s.C.length (dS s))) (.tuple #[])):=by
 obtain⟨g,o,rfl,S,z,_,_,⟨_,f3,T⟩,_⟩:=E.cells;have an:B<=w.heap.size:=by have:=f.hB;have:=f.hL;have:=f.lt;omega
 have ah:g<w.heap.size:=O
 obtain⟨d,l⟩:∃x:f7,x={ s with C:=s.C++[fO.beg] }:=⟨_,rfl⟩
 obtain⟨u,n⟩:∃x:f7,x={ d with C:=d.C++qN tc d.C.length }:=⟨_,rfl⟩
 have F:d.C.length=s.C.length+1:=by rw[l];show(s.C++_).length=_;rw[Dr,D8]
 have am:u.C.length=s.C.length+1+zH tc:=by rw[n];show(d.C++_).length=_;rw[Dr,jF,F]
 rw[xa,Dp i,Dp q,Dp O]at D;have al:=D.len
 have R:({ u with C:=u.C++[fO.fin (.mk k a td tc tg th)] }:f7)=kO s (xD (.mk k a td tc tg th) s.C.length (dS s) s.lst 0) (wK (.mk k a td tc tg th) s.C.length (dS s)):=by
  rw[xD,wK,Dp i,Dp q,Dp r,Dp A,Dp i,Dp r,n,F,l];simp[kO]
 have ad:=U R;have ai:s.C.length<=2000000000:=O
 have aj:d.C.length+zH tc<=1000000000:=O
 have ak:u.C.length<=2000000000:=O
 obtain⟨q4,M⟩:∃x:Bool,(k == 4)=x/\x=false:=⟨_,rfl,by simpa using i⟩
 obtain⟨_,N⟩:∃x:Bool,(k == 5)=x/\x=false:=⟨_,rfl,by simpa using q⟩
 obtain⟨_,P⟩:∃x:Bool,(k == 6)=x/\x=false:=⟨_,rfl,Gc⟩
 obtain⟨_,Q⟩:∃x:Bool,(k == 7)=x/\x=false:=⟨_,rfl,Gb⟩
 obtain⟨M,rfl⟩:=M;obtain⟨N,rfl⟩:=N;obtain⟨P,rfl⟩:=P;obtain⟨Q,rfl⟩:=Q;have H:=U f;have ae:=U E;have K:=U (Dt V T);have J:=U (Dt z f3);have Z:=U l;have aa:=U n;clear f E V z f3 T l n F am D al R i q r A;go_enter func112,ntmps112
 go_upto_region 1 with(first
  | (go_at_call 138;(refine(qZ H.o 0 0 none none (x:=.beg) ⟨rfl,rfl,rfl,rfl⟩ ai).mono ?_);rintro e w1 W
     obtain⟨_,_,_,rfl,c⟩:=W.cum;rw[<-Z.o]at c;have G:=U c;have t:=c.below H.o;have z:=(t.cell (p:=(g,o)) S).trans J.o.1;have f3:=(t.cell (p:=(g,o+3)) S).trans J.o.2;have ao:g<w1.heap.size:=Yb ah c.off.size;have ag:=U (zAh (j3 L B b 100) c.wr (K.o.2.below t Zr) K.o.1 aj)
     clear W c t))
 go_upto_region 3 with(first
  | (go_at_call 142;(refine ag.o.mono ?_);rintro e _ X
     obtain⟨_,_,_,rfl,j⟩:=X.cum;rw[<-aa.o]at j;have I:=U (G.o.next j);have af:=U (ae.o.below ((G.o.next j).below H.o) Zr)
     clear X j))
 go_wp2_with (first
  | (go_at_call 138;(refine(qZ I.o.wr 2 0 none (some ⟨g,o,none⟩) (x:=.fin (.mk k a td tc tg th)) ⟨rfl,rfl,rfl,af.o⟩ ak).mono ?_);rintro e _ Y
     obtain⟨_,_,_,rfl,y⟩:=Y.cum;rw[ad.o]at y;have ab:=U (I.o.next y)
     clear Y y))
 go_end0
 exact ab.o.post _
theorem GT(r:Int)(td:C2)(tc:List Ex)(tg th:List St)(w:C3)(v vc vb:C4)(s:f7)(qs:List Q4)(u:gA L B b w vc vb s qs)(X:oP B w v (.mk 6 r td tc tg th))(q:gU s (xa (.mk 6 r td tc tg th) (dS s)) (m+1)):
 Cy 112 #[(b,0),v] w (vW L B b w vc vb (kO s (xD (.mk 6 r td tc tg th) s.C.length (dS s) s.lst 0) (wK (.mk 6 r td tc tg th) s.C.length (dS s))) (.tuple #[])):=by
 obtain⟨aD,V,aa,ab,ad⟩:=info_parts kX;obtain⟨g,o,rfl,ax,E,_⟩:=X.cells;have aL:B<=w.heap.size:=by have:=u.hB;have:=u.hL;have:=u.lt;omega
 have ay:g<w.heap.size:=O
 obtain⟨c,i⟩:∃x:f7,x={ s with C:=s.C++[fO.beg] }:=⟨_,rfl⟩
 obtain⟨a,t⟩:∃x:f7,x={ c with C:=c.C++List.replicate (dS c) .lve }:=⟨_,rfl⟩
 obtain⟨I,D⟩:∃x:f7,x={ a with C:=a.C++[fO.jmp 0] }:=⟨_,rfl⟩
 have N:c.C.length=s.C.length+1:=by rw[i];show(s.C++_).length=_;rw[Dr,D8]
 have A:dS c=dS s:=by rw[i]
 have ag:a.C.length=s.C.length+1+dS s:=by rw[t];show(c.C++_).length=_;rw[Dr,Cf,N,A]
 rw[xa,Dp Uf,Dp Uf,Dq (Or.inl rfl)]at q;have aC:=q.len
 have y:({ I with bk:=I.bk++[a.C.length] }:f7)=kO s (xD (.mk 6 r td tc tg th) s.C.length (dS s) s.lst 0) (wK (.mk 6 r td tc tg th) s.C.length (dS s)):=by
  rw[xD,wK,Dp Uf,Dp Uf,Dq rfl,Dp Uf,Dq rfl,ag,D,t,A,i];simp[kO]
 have ap:=U y;have aA:s.C.length<=2000000000:=O
 have aB:a.C.length<=2000000000:=O
 have aN:a.bk.length<=1000000000:=by rw[t,i];show s.bk.length<=_;have:=q.bk;omega
 have J:=U (Dt (show c.lsc<=c.sc by rw[i];exact q.d) (Dt (show c.sc<=1000 by rw[i];show s.sc<=1000;have:=q.sc;omega) (show c.C.length+dS c<=1000000000 by rw[N,A];omega)));have P:=U (show I.bk=a.bk by rw[D]);have H:=U u;have ao:=U E;have ai:=U i;have aj:=U t;have ak:=U D;have z:=U (Dt V (Dt aa (Dt ab ad)));clear u X E i t D N ag A q aC y V aa ab ad;go_enter func112,ntmps112
 go_upto_region 1 with(first
  | (go_at_call 138;(refine(qZ H.o 0 0 none none (x:=.beg) ⟨rfl,rfl,rfl,rfl⟩ aA).mono ?_);rintro e w1 ae
     obtain⟨aI,aH,aF,rfl,l⟩:=ae.cum;rw[<-ai.o]at l;have am:=U l;have T:=l.below H.o;have E:=(T.cell (p:=(g,o)) ax).trans ao.o;have F:g<w1.heap.size:=Yb ay l.off.size;have av:=U (t4 w1 aI aH c aF l.wr J.o.1 J.o.2.1 J.o.2.2)
     clear ae l T))
 go_upto_region 10 with(first
  | (go_at_call 141;(refine av.o.mono ?_);rintro e aK af
     obtain⟨_,_,_,rfl,k⟩:=af.cum;rw[<-aj.o]at k;obtain⟨ah,aw,rfl⟩:=zY k.wr.brow;have R:=k.next (gL.mono k.wr Zb.drew);have Q:=U (am.o.next R);obtain⟨⟨_,_,_,_,_⟩,_⟩:=zS k.wr.box;have aP:=k.wr.lt
     clear af k R))
 clear E F;go_wp2_with fail
 go_region_law (first
  | (go_simp;go_at_call 138;(refine(GN Q.o.wr 3 0 none none (x:=.jmp 0) ⟨rfl,rfl,rfl,rfl⟩ aB).mono ?_);rintro e f aE
     obtain⟨aJ,aG,rfl,j,W,Z⟩:=aE;rw[<-ak.o]at j;have S:gL L B b aK.drew _ _ f aJ _ I aG:=⟨j,W,Z,fM.refl _ _⟩
     have an:=U (Q.o.next S);obtain⟨⟨_,_,_,_,_⟩,_⟩:=zS j.box;have aQ:=j.lt;have aM:L<=f.heap.size:=by have:=j.hL;omega
     have M:=j.brow;rw[P.o]at M;have au:=U (qR M ((D4 f.heap.size f).alloc Zr (.cells #[((a.C.length:Int):Int)] 3)) Zr);have aq:=U (jU f [.int .i64 (a.C.length:Int)] 3);have aR:(f.alloc (.cells #[((a.C.length:Int):Int)] 3)).heap.size=f.heap.size+1:=zA _ _;have al:=U j
     clear S j W Z M)
  | (refine qX rfl (.tmp 40) (.tmp 44) _ rfl L 3 aD _ 1 8 underlying23 z.o.1 z.o.2.1 z.o.2.2.1 z.o.2.2.2 rfl O (.slice ah a.bk.length aw) a.bk.length _ rfl (by exact au.o) ⟨f.heap.size,0,none⟩ 1 1 [.int .i64 (a.C.length:Int)] rfl rfl (by exact aq.o) Um Ul O (by show L<=(f.alloc _).heap.size;omega) O ?_
     intro _ w8 K F Y;have G:=al.o.addbk ((D4 f.heap.size f).alloc Zr (.cells #[((a.C.length:Int):Int)] 3)) F Y (n:=a.C.length) (by rw[P.o];exact K);obtain⟨_,_,rfl⟩:=zY K;obtain⟨⟨_,_,_,_,_⟩,_⟩:=zS G.1;have aO:b<w8.heap.size:=zB G.1;have ar:=U G.2
     clear K F Y G))
 all_goals
  go_wp2_with fail
  go_end0
  have y:=an.o.next ar.o;rw[ap.o]at y;exact y.post _
theorem JI(n:OT L B b m):zan L B b (m+1):=by
 intro t w v vc vb s qs c e a d;obtain⟨k,f,td,tc,tg,th⟩:=t;rw[jn,Yu]at a;simp only[D2]at a;by_cases g:k=4
 .subst g
  exact TZ n f td tc tg th w v vc vb s qs c e a.1.1.2 a.1.2 a.2 d
 by_cases i:k=5
 .subst i
  exact GS n f td tc tg th w v vc vb s qs c e a.1.1.2 a.1.2 d
 by_cases j:k=6
 .subst j
  exact GT f td tc tg th w v vc vb s qs c e d
 by_cases l:k=7
 .subst l
  exact JG f td tc tg th w v vc vb s qs c e d
 exact JH k f td tc tg th w v vc vb s qs c e a.1.1.2 g i j l d
end
theorem BN(L B b:Nat):∀m,zan L B b m
 | 0=>fun t w v vc vb s qs _ _ a _=>by
   obtain⟨k,_,td,tc,tg,th⟩:=t;rw[jn]at a;simp at a
 |m+1=>JI (OV (t3 (BN L B b m)))
theorem JJ(L B b m:Nat):TW L B b m:=t3 (BN L B b m)
def iN(B L:Nat)(w:C3)(v:C4)(l:List fO):Prop:=
 ∃(e:Option Addr) (f:Nat),v=.slice e l.length f/\l.length<=281474976710656/\(0<l.length->∃g,e=some ⟨g,0,none⟩/\L<=g/\g<w.heap.size/\
   ∀i x,l[i]?=some x->∃a b c d,oQ B w x a b c d/\w.cell? ⟨g,i*4,none⟩=some a/\w.cell? ⟨g,i*4+1,none⟩=some b/\w.cell? ⟨g,i*4+2,none⟩=some c/\w.cell? ⟨g,i*4+3,none⟩=some d)
theorem iN.keep{w':C3}{v:C4}{l:List fO}(p:iN B L w v l)(z:Below B w w')(D:w.heap.size<=w'.heap.size)(A:∀k,L<=k->k<w.heap.size->w'.heap[k]?=w.heap[k]?):iN B L w' v l:=by
 obtain⟨m,n,r,s,t⟩:=p;refine⟨m,n,r,s,fun C=>?_⟩;obtain⟨g,u,f,j,y⟩:=t C;refine⟨g,u,f,Yb j D,fun i x E=>?_⟩;obtain⟨a,b,c,d,q,F,G,H,I⟩:=y i x E;have e:∀o,w'.cell? ⟨g,o,none⟩=w.cell? ⟨g,o,none⟩:=fun o=>D6 (A g f j)
 exact⟨a,b,c,d,q.below z Zr,(e _).trans F,(e _).trans G,(e _).trans H,(e _).trans I⟩
theorem iN.mono{a:Nat}{v:C4}{l:List fO}(d:iN B L w v l)(o:a<=L):iN B a w v l:=by
 obtain⟨b,c,e,f,i⟩:=d;refine⟨b,c,e,f,fun p=>?_⟩;obtain⟨g,j,k,m,n⟩:=i p;exact⟨g,j,Dz o k,m,n⟩
theorem gA.code{vc vb:C4}{s:f7}{qs:List Q4}(d:gA L B b w vc vb s qs)(p:s.C.length<=281474976710656):iN B L w vc s.C:=by
 obtain⟨m,c,k⟩:=zY d.row;refine⟨m,c,k,p,fun r=>?_⟩;obtain⟨g,_,a,n,o,_,e,_⟩:=xC d.row r;rw[k]at a;injection a with a _ _;refine⟨g,a,n,o,fun i x l=>?_⟩;obtain⟨q,j⟩:∃q,qs[i]?=some q:=⟨_,Dy (by rw[d.ql];exact(List.getElem?_eq_some_iff.1 l).1)⟩
 have f:=ZR qs i q j;exact⟨q.1,q.2.1,q.2.2.1,q.2.2.2,d.qi i x q l j,e _ _ (f 0 _ rfl),e _ _ (f 1 _ rfl),e _ _ (f 2 _ rfl),e _ _ (f 3 _ rfl)⟩
abbrev BO:f7:=⟨[],0,0,0,[]⟩
theorem T0(B:Nat)(w:C3)(L:Nat)(a:B<=L)(b:L<=w.heap.size):gA L B w.heap.size (w.alloc (LH (.slice none 0 0) (.slice none 0 0) BO)) (.slice none 0 0) (.slice none 0 0) BO []:=
 ⟨a,b,Ds w _,Yp _ _ _ _,rfl,fun i x q c=>Vu,Yp _ _ _ _⟩
theorem T1(B:Nat)(f:Fu)(F Q:C4)(w:C3)(aa:B<=w.heap.size)(z:gT B w F f.params)(u:f6 B w Q f.body)(K:fL f.body 100=true)(_:fJ f.body 0<=1000000000):
 Cy 67 #[.agg #[f.name,(f.type:Int),F,Q]] w fun e w'=>∃vc,e=.returned (.agg #[F,vc])/\Cx w w'/\iN B w.heap.size w' vc (gE f):=by
 obtain⟨b,c,rfl,_⟩:=z.form;obtain⟨d,g,rfl,_⟩:=u.form;have ah:=U z;have R:=U u;have S:=U K;clear z u K;have s:Cx w ((w.alloc (E3 f.name f.type (.slice b f.params.length c) (.slice d f.body.length g))).alloc (.cells #[(),()] 120)):=(Zb.alloc Zr _).alloc Uh _;have E:((w.alloc (E3 f.name f.type (.slice b f.params.length c) (.slice d f.body.length g))).alloc (.cells #[(),()] 120)).heap.size=w.heap.size+1+1:=Uh
 have L:((w.alloc (E3 f.name f.type (.slice b f.params.length c) (.slice d f.body.length g))).alloc (.cells #[(),()] 120)).heap[w.heap.size]?=some (E3 f.name f.type (.slice b f.params.length c) (.slice d f.body.length g)):=(D7 _ _ _ Uh).trans (Ds w _);have M:((w.alloc (E3 f.name f.type (.slice b f.params.length c) (.slice d f.body.length g))).alloc (.cells #[(),()] 120)).heap[w.heap.size+1]?=some (.cells #[(),()] 120):=by simpa using Ds (w.alloc (E3 f.name f.type (.slice b f.params.length c) (.slice d f.body.length g))) (.cells #[(),()] 120)
 go_enter func67,ntmps67;go_upto_region 2 with fail;generalize(w.alloc (.cells #[f.name,(f.type:Int),(b,f.params.length,c),(d,f.body.length,g)] 93)).alloc (.cells #[(),()] 120)=W1 at *;have t:Below w.heap.size W1 (W1.alloc (LH (.slice none 0 0) (.slice none 0 0) BO)):=Zb.alloc O _;have q:=T0 B W1 (w.heap.size+1+1) O O;rw[E]at q;have D:=(D7 W1 (LH (.slice none 0 0) (.slice none 0 0) BO) w.heap.size O).trans L;have N:=(D7 W1 (LH (.slice none 0 0) (.slice none 0 0) BO) (w.heap.size+1) O).trans M;have an:(W1.alloc (LH (.slice none 0 0) (.slice none 0 0) BO)).heap.size=w.heap.size+1+1+1:=by rw[zA,E]
 generalize(W1.alloc (LH (.slice none 0 0) (.slice none 0 0) BO))=W2 at *;obtain⟨⟨X,f1,Y,f3⟩,Z⟩:=zO D;have am:w.heap.size<W2.heap.size:=O
 have V:=U (s.trans t);have ai:=U q;have H:=U (Dt D N);have W:=U (JJ (w.heap.size+1+1) B (w.heap.size+1+1) 100 f.body W2 (.slice d f.body.length g) _ _ BO [] q (R.o.below ((s.trans t).mono aa) Zr) S.o ⟨D0 _,by show 0+100<=1000;omega,by show 0+fJ f.body 0<=_;omega,by show 0+fJ f.body 0<=_;omega⟩);clear s E L M t q D N
 go_upto_region 3 with(first
  | (go_at_call 91;(refine W.o.mono ?_);rintro e m P
     obtain⟨_,_,_,rfl,i⟩:=P.cum;have G:=U i;obtain⟨j,l,rfl⟩:=zY i.wr.row;obtain⟨⟨_,_,_,_,_⟩,_⟩:=zS i.wr.box;have al:=i.wr.lt
     have y:∀k,k<w.heap.size+1+1->¬WT (w.heap.size+1+1) (.slice none 0 0) (.slice none 0 0) k:=fun k J a=>by
      rcases a with a|a|a
      .omega
      .cases a
      .cases a
     have A:=i.off.at (y w.heap.size O) H.o.1;have n:=i.off.at (y (w.heap.size+1) O) H.o.2;obtain⟨⟨_,_,_,_⟩,_⟩:=zO A;obtain⟨⟨u0,u1⟩,_⟩:=zG n;have aj:=zB A;have ak:=zB n;have T:=U n
     clear P i y A n))
 clear X f1 Y f3 Z;go_wp2_with fail;obtain⟨af,ag⟩:=jq T.o (.slice b f.params.length c) (.slice j (qe f.body 0 0 0 0).length l);refine bodyPost_ret (v:=.agg #[(b,f.params.length,c),.slice j (qe f.body 0 0 0 0).length l]) (by simp[results,results67,go_sem,af,ag]) rfl ?_;have r:(kO BO (qe f.body BO.C.length (dS BO) BO.lst 0) (xl f.body BO.C.length (dS BO))).C=gE f:=by simp[gE]
 have x:=G.o.wr.code (by rw[r];unfold gE;rw[jm];omega);rw[r]at x
 have ab:=G.o.off.below (B:=w.heap.size) O fun k J a=>by
  rcases a with a|a|a
  .omega
  .cases a
  .cases a
 have I:Below (w.heap.size+1) m ((m.setCell (w.heap.size+1,0) (b,f.params.length,c)).setCell (w.heap.size+1,1) (.slice j (qe f.body 0 0 0 0).length l)):=((D4 _ m).setCell (p:=(w.heap.size+1,0)) Zr _).setCell (p:=(w.heap.size+1,1)) Zr _;have ad:((m.setCell (w.heap.size+1,0) (b,f.params.length,c)).setCell (w.heap.size+1,1) (.slice j (qe f.body 0 0 0 0).length l)).heap.size=m.heap.size:=Uk
 refine⟨_,rfl,(V.o.trans ab).trans (I.mono O),?_⟩;have ae:(Value.slice j ((kO BO (qe f.body BO.C.length (dS BO) BO.lst 0) (xl f.body BO.C.length (dS BO))).C).length l)=.slice j (qe f.body 0 0 0 0).length l:=by rw[r];rfl
 rw[ae]at x;exact(iN.keep (w:=m) x (I.mono O) (Dv ad.symm) fun k J _=>(Dw _ _ _ k Kf).trans (Dw _ _ _ k Kf)).mono O
def XD(d:Nat)(l:Lb):Prop:=l=.frm d\/l=.outr d\/∃i,l=.vmap d i\/l=.cel d i
theorem zbu{d:Nat}{l:Lb}(b:∀d,l≠.frm d)(c:∀d,l≠.outr d)(e:∀d i,l≠.vmap d i)(f:∀d i,l≠.cel d i):¬XD d l:=fun a=>by
 rcases a with a|a|⟨i,a|a⟩
 .exact b _ a
 .exact c _ a
 .exact e _ _ a
 .exact f _ _ a
theorem T2{d e:Nat}(a:e<d):¬XD d (.frm e)/\¬XD d (.outr e)/\∀i,¬XD d (.vmap e i)/\¬XD d (.cel e i):=by
 refine⟨fun b=>?_,fun b=>?_,fun i=>⟨fun b=>?_,fun b=>?_⟩⟩ <;> rcases b with a|a|⟨j,a|a⟩ <;> injection a<;>omega
theorem lG(d:Nat):¬XD d .gl/\¬XD d .mach/\¬XD d .funs/\¬XD d .arrs/\¬XD d .code/\¬XD d .vals/\¬XD d .outs/\∀k,¬XD d (.arr k):=by
 refine⟨?_,?_,?_,?_,?_,?_,?_,fun k=>?_⟩ <;> exact zbu (fun _ e=>Uu) (fun _ e=>Uu) (fun _ _ e=>Uu) (fun _ _ e=>Uu)
section
variable {G:Gm} {τ τ':Nat->Lb} {w w':C3}{m:Vm}{vi vv pa vo:C4}
theorem gC.top(b:gC G τ w m vi vv pa vo){a:Nat}(t:pa=.pointer (some ⟨a,0,none⟩)){f:Fr}{r:List Fr}(c:fF (fun k=>XD r.length (τ k)) w w')(d:gO τ τ' w){g vc j:C4}{mp:Nat}{tm ms:List Nat}
 (u:HM G.B τ w g r) (q:rG G.B τ' w' r.length a g f vc mp j tm ms):gC G τ' w' ⟨m.s,m.v,f::r⟩ vi vv pa vo/\Below G.B w w':=by
 obtain⟨l,x,y,z,n,A,C,D⟩:=lG r.length;have i:=b.below (X:=XD r.length) c l;refine b.step (X:=XD r.length) (m':=⟨m.s,m.v,f::r⟩) c d l ⟨y,n⟩ (kb c d b.lab x b.box).2 (b.inp.below i Zr) (b.val.keep (X:=XD r.length) c d A) (b.o.keep (X:=XD r.length) c d C) ?_ (b.arr.keep (X:=XD r.length) c d ⟨z,D⟩) b.nv b.ni b.no b.lim;exact⟨a,g,vc,mp,j,tm,ms,t,q,HM.keep (X:=XD r.length) c d i u ⟨n,fun e p=>T2 p⟩ Zr⟩
end
theorem T3{vs:fG}{tm:List Nat}(b:Nat)(s:C2)(_:vs.length<=tm.length):gD vs (tm++[b]) s=gD vs tm s:=by
 unfold gD;cases he:ja vs s with
 |none=>rfl
 |some k=>
   dsimp only;rw[Yo (by have:=yO he;omega)]
theorem rH{o:List Nat}(a:(o++[n]).Pairwise (·<=·)):∀k∈o,k<=n:=fun k b=>(List.pairwise_append.1 a).2.2 k b n (List.mem_singleton.2 rfl)
theorem YB{o:List Nat}{b:Nat}(c:(o++[n]).Pairwise (·<=·))(e:n<=b):(o++[b]).Pairwise (·<=·):=by
 have a:=List.pairwise_append.1 c;refine List.pairwise_append.2 ⟨a.1,List.pairwise_singleton _ _,fun k d x f=>?_⟩;rw[List.mem_singleton.1 f];exact Dz (a.2.2 k d n (List.mem_singleton.2 rfl)) e
section
variable {B:Nat}{τ:Nat->Lb} {w w':C3}{d a:Nat}{pa:C4}{c:Fr}{vc:C4}{mp:Nat}{vo:C4}{tm ms:List Nat}
theorem rG.place(b:rG B τ w d a pa c vc mp vo tm ms){p:Nat}(q:Below B w (w.setCell (a,1) ((p:Int):Int))):rG B τ (w.setCell (a,1) ((p:Int):Int)) d a pa { c with pl:=p } vc mp vo tm ms:=by
 have f:fF (fun k=>(fun l=>l=Lb.frm d) (τ k)) w (w.setCell (a,1) ((p:Int):Int)):=fF.set (X:=fun k=>(fun l=>l=Lb.frm d) (τ k)) w b.lab 1 _;have g:=gO.refl τ w;refine⟨D3 b.box _,b.lab,b.code.keep (X:=fun l=>l=Lb.frm d) f g q Ui,b.ll,fun i l x r t=>?_,b.map.keep (X:=fun l=>l=Lb.frm d) f g Ui,b.ml,zQ b.row fun k j=>f.block k (zT b.row k j).1 (by rw[b.rol k j];intro e;cases e),b.rol,fun i m k s j=>(b.o i m k s j).keep (X:=fun l=>l=Lb.frm d) f g Ui,b.ord⟩;obtain⟨u,v,y⟩:=b.cell i l x r t;have n:=kb (X:=fun l=>l=Lb.frm d) f g u Ui v;exact⟨n.1,n.2,y⟩
theorem rG.decl(f:rG B τ w d a pa c vc mp vo tm ms)(F:Below B w w')(M:fF (fun k=>k=mp) w w'){td:C2}{x:Int}(J:fZ w' mp (c.vs.length+1) (.pointer none) (NT (gD c.vs tm) td (.pointer (some ⟨w.heap.size,0,none⟩))))(L:w'.heap[w.heap.size]?=some (.cells #[(x:Int)] 3))(N:fS x):
 rG B (SH τ w.heap.size (.cel d c.vs.length)) w' d a pa { c with vs:=c.vs++[(td,x)] } vc mp vo (tm++[w.heap.size]) ms:=by
 have r:fF (fun k=>(fun l=>l=Lb.vmap d c.o.length) (τ k)) w w':=M.mono fun k _ g=>by
  have g:k=mp:=g;rw[g];exact f.map.1
 have p:=gO.lbl τ w (.cel d c.vs.length) (D0 w.heap.size);have C:=kb (X:=fun l=>l=Lb.vmap d c.o.length) r p f.lab Ui f.box;have K:=f.map.2.lt;refine⟨C.2,C.1,f.code.keep (X:=fun l=>l=Lb.vmap d c.o.length) r p F Ui,by simp[f.ll],fun i l y n j=>?_,⟨(p mp K).trans f.map.1,?_⟩,f.ml,zQ f.row fun k g=>r.block k (zT f.row k g).1 (by rw[f.rol k g];intro e;cases e),fun b A=>(p b (zT f.row b A).1).trans (f.rol b A),fun i m k I g=>?_,?_⟩
 .rcases Ce i tm.length with q|q
  .rw[Yo q]at n
   have j:(c.vs++[(td,x)])[i]?=some y:=j;rw[Yo (by rw[<-f.ll];exact q)]at j;obtain⟨u,v,t⟩:=f.cell i l y n j;have D:=kb (X:=fun l=>l=Lb.vmap d c.o.length) r p u Ui v;exact⟨D.1,D.2,t⟩
  .have j:(c.vs++[(td,x)])[i]?=some y:=j
   rw[Yi q]at n;rw[Yi (by rw[<-f.ll];exact q)]at j
   have z:i-tm.length=0:=by
    have:=(List.getElem?_eq_some_iff.1 n).1;simp at this;omega
   rw[z]at n;rw[<-f.ll,z]at j;simp at n j;subst n j;have G:i=c.vs.length:=by have:=f.ll;omega
   rw[G];exact⟨zAb _ _ _,L,N⟩
 .show fZ w' mp (c.vs++[(td,x)]).length (.pointer none) (gD (c.vs++[(td,x)]) (tm++[w.heap.size]))
  rw[Dr];exact J.congr fun s=>GK _ _ f.ll (td,x) _ s
 .have H:=rH f.ord k (Yc g)
  obtain⟨u,v⟩:=f.o i m k I g;have q:i<c.o.length:=by have:=(List.getElem?_eq_some_iff.1 g).1;exact this
  have t:=FR.keep (X:=fun l=>l=Lb.vmap d c.o.length) (w':=w') ⟨u,v⟩ r p (by intro e;injection e with _ e;omega);have E:(c.vs++[(td,x)]).take k=c.vs.take k:=List.take_append_of_le_length H;show FR _ w' d i m ((c.vs++[(td,x)]).take k) (tm++[w.heap.size]);rw[E];exact⟨t.1,t.2.congr fun s=>T3 _ s (by rw[Yg,f.ll];omega)⟩
 .exact YB f.ord Uh
theorem GU:∀{vs a:fG}(s:C2),xi vs=xi a->ja vs s=ja a s
 |[],[],_,_=>rfl
 |[],_::_,_,h=>Vy
 |_::_,[],_,h=>Vy
 | x::r,y::q,s,h=>by
   simp only[xi,Y5,Cb]at h;rw[ja,ja,GU s h.2,h.1]
theorem LJ{vs a:fG}(tm:List Nat)(s:C2)(b:xi vs=xi a):gD vs tm s=gD a tm s:=by
 unfold gD;rw[GU s b]
theorem GV{vs a:fG}(k:Nat)(b:xi vs=xi a):xi (vs.take k)=xi (a.take k):=by
 unfold xi at *;rw[List.map_take,List.map_take,b]
theorem rG.setv(f:rG B τ w d a pa c vc mp vo tm ms){td:C2}{j b:Nat}{x:Int}(C:ja c.vs td=some j)(A:tm[j]?=some b)(J:Below B w (w.setCell (b,0) (x:Int)))(M:fS x):
 rG B τ (w.setCell (b,0) (x:Int)) d a pa { c with vs:=xH c.vs td x } vc mp vo tm ms:=by
 have D:=yO C;obtain⟨y,N⟩:∃y,c.vs[j]?=some y:=⟨_,Dy D⟩
 obtain⟨H,P,_⟩:=f.cell j b y A N;have n:fF (fun k=>(fun l=>l=Lb.cel d j) (τ k)) w (w.setCell (b,0) (x:Int)):=fF.set (X:=fun k=>(fun l=>l=Lb.cel d j) (τ k)) w H 0 _;have p:=gO.refl τ w;have E:=kb (X:=fun l=>l=Lb.cel d j) n p f.lab Ui f.box;have t:=sX c.vs td x;have L:xH c.vs td x=c.vs.set j (td,x):=by unfold xH;rw[C]
 have v:(xH c.vs td x).length=c.vs.length:=zAd t;have G:=f.map.keep (X:=fun l=>l=Lb.cel d j) n p Ui;refine⟨E.2,E.1,f.code.keep (X:=fun l=>l=Lb.cel d j) n p J Ui,f.ll.trans v.symm,fun i l z q g=>?_,⟨G.1,?_⟩,f.ml,zQ f.row fun k r=>n.block k (zT f.row k r).1 (by rw[f.rol k r];intro e;cases e),f.rol,fun i m k K r=>?_,?_⟩
 .have g:(xH c.vs td x)[i]?=some z:=g
  rw[L,Cg]at g;by_cases u:j=i
  .subst u
   rw[Dq rfl,Dq D]at g;injection g with g;subst g;rw[A]at q;injection q with q;subst q;exact⟨H,D3 P _,M⟩
  .rw[Dp u]at g
   obtain⟨Q,R,S⟩:=f.cell i l z q g;have F:=kb (X:=fun l=>l=Lb.cel d j) n p Q (by intro e;injection e with _ e;exact u e.symm) R;exact⟨F.1,F.2,S⟩
 .show fZ _ mp (xH c.vs td x).length _ (gD (xH c.vs td x) tm)
  rw[v];exact G.2.congr fun s=>LJ tm s t
 .have I:=(f.o i m k K r).keep (X:=fun l=>l=Lb.cel d j) n p Ui
  refine⟨I.1,?_⟩;show fZ _ m ((xH c.vs td x).take k).length _ (gD ((xH c.vs td x).take k) tm);rw[zAd (GV k t)];exact I.2.congr fun s=>LJ tm s (GV k t)
 .show(c.o++[(xH c.vs td x).length]).Pairwise (·<=·)
  rw[v];exact f.ord
def XE(d:Nat)(l:Lb):Prop:=l=.frm d\/l=.outr d
theorem ZU{d:Nat}:¬XE d .code/\(∀i,¬XE d (.vmap d i))/\(∀i,¬XE d (.cel d i)):=by
 refine⟨?_,fun i=>?_,fun i=>?_⟩ <;>(rintro(e|e)<;>cases e)
theorem rG.enter{τ':Nat->Lb}(f:rG B τ w d a pa c vc mp vo tm ms)(t:Below B w w')(p:fF (fun k=>XE d (τ k)) w w')(j:gO τ τ' w){mp':Nat}{vo':C4}(u:w'.heap[a]?=some (FSq vc c.pl mp' vo' pa))(D:w'.ownsRow B 163 1 vo' (c.o.length+1) ((ms++[mp]).map fun m=>.map (some m)))(C:∀b,vo'.ownBlock=some b->τ' b=.outr d)
 (A:τ' mp'=.vmap d (c.o.length+1)) (z:fZ w' mp' c.vs.length (.pointer none) (gD c.vs tm)):rG B τ' w' d a pa { c with o:=c.o++[c.vs.length] } vc mp' vo' tm (ms++[mp]):=by
 obtain⟨J,r,K⟩:=ZU (d:=d);refine⟨u,(j a (zB f.box)).trans f.lab,f.code.keep (X:=XE d) p j t J,f.ll,fun i l L y F=>?_,⟨?_,z⟩,by simp[f.ml],?_,C,fun i m k g e=>?_,?_⟩
 .obtain⟨G,H,I⟩:=f.cell i l L y F
  have q:=kb (X:=XE d) p j G (K i) H;exact⟨q.1,q.2,I⟩
 .show τ' mp'=.vmap d (c.o++[c.vs.length]).length
  rw[Dr];exact A
 .show w'.ownsRow B _ 1 vo' (c.o++[c.vs.length]).length _
  rw[Dr];exact D
 .have e:(c.o++[c.vs.length])[i]?=some k:=e
  rcases Ce i c.o.length with n|n
  .rw[Yo n]at e
   rw[Yo (by rw[f.ml];exact n)]at g;exact(f.o i m k g e).keep (X:=XE d) p j (r i)
  .rw[Yi n]at e
   rw[Yi (by rw[f.ml];exact n),f.ml]at g
   have s:i-c.o.length=0:=by
    have:=(List.getElem?_eq_some_iff.1 e).1;simp at this;omega
   rw[s]at e g;simp at e g;subst e g;have v:i=c.o.length:=O
   subst v;show FR τ' w' d c.o.length mp (c.vs.take c.vs.length) tm;rw[Cj];exact f.map.keep (X:=XE d) p j (r _)
 .show((c.o++[c.vs.length])++[c.vs.length]).Pairwise (·<=·)
  refine List.pairwise_append.2 ⟨f.ord,List.pairwise_singleton _ _,fun k e x E=>?_⟩;rw[List.mem_singleton.1 E];rcases List.mem_append.1 e with e|e
  .exact rH f.ord k e
  .rw[List.mem_singleton.1 e];exact D0 _
theorem rG.leave(e:rG B τ w d a pa c vc mp vo tm ms)(K:Below B w w')(p:fF (fun k=>XE d (τ k)) w w'){q:List Nat}{n:Nat}(g:c.o=q++[n]){x:List Nat}{u:Nat}(y:ms=x++[u]){vo':C4}(L:w'.heap[a]?=some (FSq vc c.pl u vo' pa))(V:w'.ownsRow B 163 1 vo' q.length (x.map fun m=>.map (some m)))(T:∀b,vo'.ownBlock=some b->τ b=.outr d):
 rG B τ w' d a pa { c with vs:=c.vs.take n,o:=q } vc u vo' (tm.take n) x:=by
 obtain⟨Z,G,aa⟩:=ZU (d:=d);have r:=gO.refl τ w;have S:n<=c.vs.length:=rH e.ord n (by rw[g];exact Y3 _ (List.mem_singleton.2 rfl));have A:(q++[n]).Pairwise (·<=·):=g▸(List.pairwise_append.1 e.ord).1;have C:x.length=q.length:=by have:=e.ml;rw[g,y]at this;simp at this;omega
 have D:(c.vs.take n).length=n:=Vt
 have Q:=e.o q.length u n (by rw[y,Yi O,C,Yy];rfl) (by rw[g,Yi Zr,Yy];rfl);have F:=Q.keep (X:=XE d) p r (G _);refine⟨L,e.lab,e.code.keep (X:=XE d) p r K Z,by show(tm.take n).length=(c.vs.take n).length;rw[D,Yg,e.ll];omega,fun i l H t j=>?_,⟨F.1,?_⟩,C,V,T,fun i m k R f=>?_,?_⟩
 .have j:(c.vs.take n)[i]?=some H:=j
  rw[Y8]at t j;split at t
  .rename_i N
   rw[Dq N]at j;obtain⟨W,Y,v⟩:=e.cell i l H t j;have E:=kb (X:=XE d) p r W (aa i) Y;exact⟨E.1,E.2,v⟩
  .cases t
 .exact F.2.congr fun s=>TQ s S
 .have f:q[i]?=some k:=f
  have M:=(List.getElem?_eq_some_iff.1 f).1;have P:k<=n:=rH A k (Yc f);have v:=(e.o i m k (by rw[y,Yo O];exact R) (by rw[g,Yo M];exact f)).keep (X:=XE d) p r (G i);have I:(c.vs.take n).take k=c.vs.take k:=by rw[List.take_take,Ca P]
  refine⟨v.1,?_⟩;show fZ w' m ((c.vs.take n).take k).length _ (gD ((c.vs.take n).take k) (tm.take n));rw[I];refine v.2.congr fun s=>?_
  unfold gD;cases hes:ja (c.vs.take k) s with
  |none=>rfl
  |some z=>
    have J:=yO hes;rw[Yg]at J;dsimp only;rw[Y8,Dq O]
 .show(q++[(c.vs.take n).length]).Pairwise (·<=·)
  rw[D];exact A
end
