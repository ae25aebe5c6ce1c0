import Derived.Test.YthcmenajdcbnnaaGreatDoorAnEvCa
set_option linter.unusedSimpArgs false
set_option linter.unusedVariables false
set_option maxRecDepth 100000
set_option maxHeartbeats 99000000
namespace Go.Proofs.YthcmenajdcbnnaaGreatDoor
open Go.RowKit Tryz Go.Maps
variable{L B b n:Nat}{w:C3}
abbrev lpO(s:eO)(vb:C4):Obj:=.cells #[((s.lst:Int):Int),((s.lsc:Int):Int),vb] 158
def zbu(w:C3)(b:Nat)(s:eO)(vb:C4):C3:=
 ((((w.setCell (b,2) ((s.C.length:Int):Int)).setCell (b,3) ((s.sc:Int):Int)).setCell (b,4) ()).alloc (lpO s vb)).drew
section
variable {L B b:Nat}{w w1 w7 w8:C3}{vc vb vc7 vb7:C4}{s s7 s8:eO}{qs qs7:List Q4}
theorem PM(a:eQ L B b w vc vb s qs)(j:w1=zbu w b s vb):
 eQ L B b w1 vc (.slice none 0 0) { s with lst:=s.C.length,lsc:=s.sc,bk:=[] } qs/\d1 (fun k=>k=b) w w1/\w1.heap[w.heap.size]?=some (lpO s vb)/\w1.heap.size=w.heap.size+1:=by
 subst j;unfold zbu;have l:d1 (fun k=>k=b) w (w.setCell (b,2) ((s.C.length:Int):Int)):=d1.set (X:=fun k=>k=b) _ rfl _ _;have m:=d1.set (X:=fun k=>k=b) (w.setCell ⟨b,2,none⟩ ((s.C.length:Int):Int)) rfl 3 (.int .i64 (s.sc:Int));have n:=d1.set (X:=fun k=>k=b) ((w.setCell ⟨b,2,none⟩ ((s.C.length:Int):Int)).setCell ⟨b,3,none⟩ ((s.sc:Int):Int)) rfl 4 (.slice none 0 0);have d:=(l.trans m fun _ _ a=>a).trans n fun _ _ a=>a
 have f:=D0 (i:=4) (D0 (i:=3) (D0 (i:=2) a.box (.int .i64 (s.C.length:Int))) (.int .i64 (s.sc:Int))) (.slice none 0 0);have e:(((w.setCell (b,2) ((s.C.length:Int):Int)).setCell (b,3) ((s.sc:Int):Int)).setCell (b,4) ()).heap.size=w.heap.size:=Uu
 generalize((w.setCell (b,2) ((s.C.length:Int):Int)).setCell (b,3) ((s.sc:Int):Int)).setCell (b,4) ()=W at *;have g:eQ L B b W vc (.slice none 0 0) { s with lst:=s.C.length,lsc:=s.sc,bk:=[] } qs:=a.db d f rfl (Ym _ _ _ _);have c:Cx W (W.alloc (lpO s vb)).drew:=(Zb.alloc Zr _).drew;refine⟨g.keepB c,d.trans (d1.wb (fun _=>False) c) fun _ _ a=>a.elim,?_,?_⟩
 .rw[<-e]
  exact Dq W _
 .rw[<-e]
  exact zA W _
theorem ZQ(d:eQ L B b w vc vb s qs)(g:d1 (fun k=>k=b) w w1)(f:e1 L B b w1 vc (.slice none 0 0) w7 vc7 vb7 s7 qs7)(i:d1 (fun k=>k=b) w7 w8)(n:w8.heap[b]?=some (L5 vc7 vb s8))(l:s8.C=s7.C)(m:s8.bk=s.bk):e1 L B b w vc vb w8 vc7 vb s8 qs7:=by
 have u:=d.lt;have q:=g.size;have o:∀k,vb.ownBlock=some k->k<w.heap.size/\k≠b/\vc.ownBlock≠some k:=fun k a=>⟨(zo d.wn k a).1,fun e=>d.bb (e▸a),fun e=>d.bc k e a⟩
 have p:d1 (WT b vc vb) w w8:=by
  refine((g.mono (Y:=WT b vc vb) fun k _ a=>.inl a).trans f.off fun k _ a=>?_).trans i fun k _ a=>.inl a
  rcases a with a|a|a
  .exact .inl a
  .exact .inr (.inl a)
  .cases a
 refine⟨f.wr.db i n l ?_,p,f.rc.mono q,eA.refl _ _⟩;rw[m];refine zZ d.wn fun k a=>?_
 obtain⟨r,j,t⟩:=o k a
 have c:¬WT b vc (.slice none 0 0) k:=fun c=>by
  rcases c with c|c|c
  .exact j c
  .exact t c
  .cases c
 exact(i.block k (by have:=f.off.size;omega) j).trans ((f.off.block k O c).trans (g.block k r j))
theorem eQ.breaks(e:eQ L B b w vc vb s qs){d:Option Addr}{n c:Nat}(i:vb=.slice d n c):∀(j p:Nat),s.bk[j]?=some p->∃g o,d=some ⟨g,o,none⟩/\g<w.heap.size/\vc.ownBlock≠some g/\w.cell? ⟨g,o+j,none⟩=some (.int .i64 (p:Int)):=by
 intro j p f;obtain⟨g,_,a,_,l,_,k,_⟩:=vV e.wn (by have:=(List.getElem?_eq_some_iff.1 f).1;omega);rw[i]at a;injection a with a _ _;refine⟨g,0,a,l,fun m=>e.bc g m ?_,?_⟩
 .rw[i,a]
  rfl
 .rw[Yo]
  exact k j _ (by rw[Yl,f];rfl)
end
theorem ZR(n:Nat)(l:List St)(b d st:Nat):Pt n (xB l b d st 0) (xB l b d st n) b (wO l b d):=UO (fun b d=>mZ n l b d st) b d
theorem UV{m:Nat}(br:PJ L B b m)(k bM:Int)(td:C2)(tc:List Ex)(tg th:List St)(w:C3)(v vc vb:C4)(s:eO)(qs:List Q4)(l:eQ L B b w vc vb s qs)(aK:oD B w v (.mk k bM td tc tg th))(D:zr tc 100=true)(aR:d3 tg m=true)(ah:fZ s (zG tc+2+qV tg 0) (m+1)):
 Cy 140 #[(b,0),v] w (uF L B b w vc vb { s with C:=s.C++
  (qP tc s.C.length++.unl (s.C.length+zG tc+2+qV tg 0)::(xB tg (s.C.length+zG tc+1) 0 s.C.length (s.C.length+zG tc+2+qV tg 0)++[.jmp s.C.length])) } (.tuple #[])):=by
 obtain⟨g,o,rfl,aJ,_,_,_,⟨_,f3,aO⟩,⟨bN,an,aP⟩,_,bq,bG⟩:=aK.cells;have bT:B<=w.heap.size:=Ho
 have bV:g<w.heap.size:=O
 obtain⟨J,y⟩:∃x:eO,x={ s with lst:=s.C.length,lsc:=s.sc,bk:=[] }:=⟨_,rfl⟩
 obtain⟨j,q⟩:∃x:eO,x={ J with C:=J.C++qP tc J.C.length }:=⟨_,rfl⟩
 obtain⟨a,r⟩:∃x:eO,x={ j with C:=j.C++[d5.unl 0] }:=⟨_,rfl⟩
 obtain⟨F,E⟩:∃x:eO,x=kZ a (xB tg a.C.length (dS a) a.lst 0) (wO tg a.C.length (dS a)):=⟨_,rfl⟩
 obtain⟨t,G⟩:∃x:eO,x={ F with C:=F.C++[d5.jmp s.C.length] }:=⟨_,rfl⟩
 obtain⟨f,I⟩:∃x:eO,x={ t with C:=jq t.C.length t.C [j.C.length] }:=⟨_,rfl⟩
 obtain⟨Q,ab⟩:∃x:eO,x={ f with C:=jq f.C.length f.C f.bk }:=⟨_,rfl⟩
 have ak:J.C=s.C:=by rw[y]
 have P:dS a=0:=by rw[r,q,y];exact Yx _
 have ay:a.lst=s.C.length:=by rw[r,q,y]
 have a0:F.lst=s.C.length:=by rw[E];exact ay
 have aw:j.C.length=s.C.length+zG tc:=by rw[q];show(J.C++_).length=_;rw[Dn,jI,ak]
 have ae:a.C.length=s.C.length+zG tc+1:=by rw[r];show(j.C++_).length=_;rw[Dn,aw];rfl
 have aY:F.C.length=s.C.length+zG tc+1+qV tg 0:=by rw[E];show(a.C++_).length=_;rw[Dn,ae,mM,P]
 have ax:t.C.length=s.C.length+zG tc+2+qV tg 0:=by rw[G];show(F.C++[_]).length=_;rw[Dn,aY,D2];omega
 have aZ:f.C.length=s.C.length+zG tc+2+qV tg 0:=by rw[I];show(jq _ t.C _).length=_;rw[fA,ax]
 have ag:f.bk=wO tg a.C.length 0:=by
  rw[I,G,E];show a.bk++_=_;rw[show a.bk=[]by rw[r,q,y],P,Yy]
 have bo:(wO tg a.C.length 0).length<=qV tg 0:=DF (fun b d=>fC tg b d) _ _;have bC:=ah.len;have bs:=ah.bk;have aN:fZ a (qV tg (dS a)) (m+1):=⟨by rw[r,q,y];exact Dy _,by rw[r,q,y];exact ah.sc,by rw[ae,P];omega,by rw[P,r,q,y];show 0+_<=_;omega⟩
 have z:t.C=j.C++[d5.unl 0]++(xB tg a.C.length 0 s.C.length 0++[d5.jmp s.C.length]):=by
  rw[G];show F.C++[d5.jmp _]=_;rw[E];show a.C++_++[d5.jmp _]=_;rw[<-D7,P,ay,show a.C=j.C++[d5.unl 0]by rw[r]]
 have u:f.C=(j.C++[d5.unl t.C.length])++xB tg a.C.length 0 s.C.length 0++[d5.jmp s.C.length]:=by
  rw[I];have:=oN z rfl (n:=t.C.length);rw[<-D7]at this;exact this
 have aH:(j.C++[d5.unl t.C.length]).length=a.C.length:=by rw[Dn,D2,aw,ae]
 have au:=(ZR f.C.length tg a.C.length 0 s.C.length).2 (j.C++[d5.unl t.C.length]) [d5.jmp s.C.length] aH
 have A:Q.C=(j.C++[d5.unl t.C.length])++xB tg a.C.length 0 s.C.length f.C.length++[d5.jmp s.C.length]:=by
  rw[ab];show jq f.C.length f.C f.bk=_;rw[ag,<-au.1,<-u]
 have bc:=U (t3 z rfl rfl);have bd:=U (show L4 f.C f.bk by rw[ag,u];exact au.2)
 have aI:({ Q with lst:=s.lst,lsc:=s.lsc,bk:=s.bk }:eO)={ s with C:=s.C++
  (qP tc s.C.length++.unl (s.C.length+zG tc+2+qV tg 0)::(xB tg (s.C.length+zG tc+1) 0 s.C.length (s.C.length+zG tc+2+qV tg 0)++[.jmp s.C.length])) }:=by
  have bp:({ Q with lst:=s.lst,lsc:=s.lsc,bk:=s.bk }:eO)={ s with C:=Q.C }:=by
   rw[ab,I,G,E,r,q,y]
  rw[bp,A,ae,aZ,ax,show j.C=s.C++qP tc s.C.length by rw[q];show J.C++_=_;rw[ak]];simp
 have bb:=U aI;have bv:J.C.length+zG tc<=1000000000:=by rw[ak];omega
 have bw:j.C.length<=2000000000:=O
 have bx:F.C.length<=2000000000:=O
 have bz:t.C.length<=2000000000:=O
 have bA:f.C.length<=2000000000:=O
 have bu:f.bk.length<=2000000000:=by rw[ag];omega
 have bi:=U aN;have aG:=U (Do aO aP);have aF:=U (Do D aR);have aE:=U (Do f3 an);have bl:=C0 (F.lst=s.C.length) a0;have bS:=U (show Q.sc=s.sc by rw[ab,I,G,E,r,q,y]);obtain⟨aA,c,rfl⟩:=zb l.row;obtain⟨R,aa,rfl⟩:=zb l.wn;obtain⟨⟨S,T,K,V,M⟩,W⟩:=zT l.box;have bW:=l.lt;have H:=U l;clear aK aO aP bG D aR ah P ay a0 aw ae aY ax aZ ag bo bC bs aN z u A aH au aI l f3 an bq ak;have a2:=U y;have a3:=U q;have a4:=U r;have a5:=U E;have a6:=U G;have a7:=U I;have a8:=U ab;clear y q r E G I ab;go_enter func140,ntmps140;go_upto_region 1 with fail;go_wp2_with fail
 go_region
 generalize aj:((((w.setCell (b,2) ((s.C.length:Int):Int)).setCell (b,3) ((s.sc:Int):Int)).setCell (b,4) ()).alloc (.cells #[((s.lst:Int):Int),((s.lsc:Int):Int),(R,s.bk.length,aa)] 158)).drew=w1;replace aj:w1=zbu w b s (.slice R s.bk.length aa):=aj.symm;have aQ:=PM H.o aj;rw[<-a2.o]at aQ;clear aj S T K V M W;obtain⟨ai,ar,aL,_⟩:=aQ;have ao:=(H.o.below (ar.mono (Y:=WT b (.slice aA s.C.length c) (.slice R s.bk.length aa)) fun k _ aq=>.inl aq)).mono H.o.hB;have f3:=(ao.cell (p:=(g,o+3)) aJ).trans aE.o.1;have bt:g<w1.heap.size:=O
 have bR:=U (e1.start ai);have bj:=U ai;have bf:=U ar;have bg:=U aL;have bm:=U (fY (iP L B b 100) ai (aG.o.1.below ao Zr) aF.o.1 bv);clear ai ar aL
 go_upto_region 3 with(first
  | (go_at_call 142;(refine bm.o.mono ?_);rintro e _ aS
     obtain⟨_,_,_,rfl,am⟩:=aS.cum;rw[<-a3.o]at am;have af:=U am
     clear aS am))
 go_upto_region 4 with(first
  | (go_at_call 138;(refine(qZ af.o.wr 4 0 none none (x:=.unl 0) ⟨rfl,rfl,rfl,rfl⟩ bw).mono ?_);rintro e a1 aT
     obtain⟨bP,bO,bL,rfl,N⟩:=aT.cum;rw[<-a4.o]at N;have ba:=U (af.o.next N);have ap:=ao.trans ((af.o.next N).below bj.o);have an:=(ap.cell (p:=(g,o+4)) aJ).trans aE.o.2;have bU:g<a1.heap.size:=D6 bt (af.o.next N).off.size;have be:=U (br tg a1 bN bP bO a bL N.wr (aG.o.2.below ap Zr) aF.o.2 bi.o)
     clear aT N ap))
 go_upto_region 5 with(first
  | (go_at_call 154;(refine be.o.mono ?_);rintro e _ aU
     obtain⟨_,_,_,rfl,Z⟩:=aU.cum;rw[<-a5.o]at Z;have aB:=U (ba.o.next Z);obtain⟨⟨S,T,K,V,M⟩,W⟩:=zT Z.wr.box;rw[bl.o]at K;have bD:=Z.wr.lt
     clear aU Z))
 go_upto_region 6 with(first
  | (go_at_call 138;(refine(qZ aB.o.wr 3 (s.C.length:Int) none none (x:=.jmp s.C.length) ⟨rfl,rfl,rfl,rfl⟩ bx).mono ?_);rintro e az aV
     obtain⟨bQ,_,_,rfl,z⟩:=aV.cum;rw[<-a6.o]at z;have aC:=U ((aB.o.next z).next (e1.mono z.wr ((D1 az.heap.size az).alloc Zr (.cells #[((j.C.length:Int):Int)] 3))));have bh:=U (iO az j.C.length bQ fun k aq=>(z.wr.tl (.inr (.inl aq))).2)
     clear aV z S T K V M W bD))
 go_upto_region 7 with(first
  | (go_at_call 155;(refine(fB (ps:=[j.C.length]) aC.o.wr bh.o bc.o bz Ur).mono ?_);rintro e _ aW
     obtain⟨_,rfl,u⟩:=e1.land aW;rw[<-a7.o]at u;obtain⟨_,_,av⟩:=zb u.wr.wn;have al:=U (aC.o.next u);obtain⟨⟨S,T,K,V,M⟩,W⟩:=zT u.wr.box;have bF:=u.wr.lt;rw[av]at M;have a9:=U (u.wr.breaks av)
     clear aW u av))
 go_upto_region 8 with(first
  | (go_at_call 155;(refine(fB (ps:=f.bk) al.o.wr a9.o bd.o bA bu).mono ?_);rintro e w7 aX
     obtain⟨_,rfl,A⟩:=e1.land aX;rw[<-a8.o]at A;have aD:=U (al.o.next A);obtain⟨⟨_,_,_,_,_⟩,_⟩:=zT A.wr.box;have bX:=A.wr.lt
     have aM:¬WT b (.slice aA s.C.length c) (.slice none 0 0) w.heap.size:=fun D=>by
      rcases D with D|D|D
      .omega
      .have:=(H.o.tl (.inr (.inl D))).2
       omega
      .cases D
     have ad:=(al.o.next A).off.at aM bg.o;have bZ:=(Ds ad 0).trans rfl;have b0:=(Ds ad 1).trans rfl;have b1:=(Ds ad 2).trans rfl;have bY:=zB ad
     clear aX A ad aM S T K V M W bF))
 go_wp2_with fail
 go_end0
 have bn:=D0 (i:=4) (D0 (i:=3) (D0 (i:=2) aD.o.wr.box (.int .i64 (s.lst:Int))) (.int .i64 (s.lsc:Int))) (.slice R s.bk.length aa);have bH:d1 (fun k=>k=b) w7 (w7.setCell (b,2) ((s.lst:Int):Int)):=d1.set (X:=fun k=>k=b) _ rfl _ _;have bI:=d1.set (X:=fun k=>k=b) (w7.setCell ⟨b,2,none⟩ ((s.lst:Int):Int)) rfl 3 (.int .i64 (s.lsc:Int));have bJ:=d1.set (X:=fun k=>k=b) ((w7.setCell ⟨b,2,none⟩ ((s.lst:Int):Int)).setCell ⟨b,3,none⟩ ((s.lsc:Int):Int)) rfl 4 (.slice R s.bk.length aa);have bK:=(bH.trans bI fun _ _ l=>l).trans bJ fun _ _ l=>l
 exact((ZQ H.o bf.o aD.o bK (s8:={ Q with lst:=s.lst,lsc:=s.lsc,bk:=s.bk }) bn rfl rfl).cast bb.o).post _
theorem eQ.addbk{W w8:C3}{vc vb c:C4}{s:eO}{qs:List Q4}(a:eQ L B b w vc vb s qs)(f:Cx w W)(j:W.grownBy w8 vb.ownBlock)(y:kn W vb c)(o:w8.ownsRow L 3 1 c (s.bk.length+1) (bkV s.bk++[.int .i64 (n:Int)])):
 w8.heap[b]?=some (L5 vc vb s)/\e1 L B b w vc vb (w8.setCell (b,4) c) vc c { s with bk:=s.bk++[n] } qs:=by
 have q:=f.size;have g:w8.heap[b]?=some (L5 vc vb s):=((j.block b (D6 a.lt q) fun e=>a.bb e.symm).trans (f.block b a.lt)).trans a.box;have t:c.ownBlock≠some b:=nH o (show Is w8 b 160 #[vc,((s.sc:Int):Int),((s.lst:Int):Int),((s.lsc:Int):Int),vb]from g) Up
 have m:d1 (WT b vc vb) w (w8.setCell (b,4) c):=
  ((d1.wb (WT b vc vb) f).trans (d1.grown (X:=WT b vc vb) j fun k d=>.inr (.inr d)) fun _ _ l=>l).trans (d1.set (X:=WT b vc vb) w8 (.inl rfl) 4 c) fun _ _ l=>l
 have r:=(a.below m).mono a.hB;refine⟨g,⟨a.hB,a.hL,D0 g _,?_,a.ql,fun i A p z x=>(a.qi i A p z x).below r Zr,?_⟩,m,eA.refl _ _,eA.of_at y q⟩
 .refine zZ a.row fun k d=>?_
  have v:=(zo a.row k d).1;have u:k≠b:=fun e=>a.cb (e▸d)
  exact(Dx w8 _ _ k u).trans ((j.block k O fun e=>a.bc k d e.symm).trans (f.block k v))
 .show(w8.setCell _ _).ownsRow L _ 1 c (s.bk++[n]).length (bkV (s.bk++[n]))
  rw[Dn,show bkV (s.bk++[n])=bkV s.bk++[.int .i64 (n:Int)]by simp[bkV]];exact zZ o fun k d=>Dx w8 _ _ k (fun e=>t (by have e:k=b:=e;rw[<-e];exact d))
section
variable {L B b m:Nat}
theorem UW(W:PJ L B b m)(f:Int)(td:C2)(tc:List Ex)(tg th:List St)(w:C3)(v vc vb:C4)(s:eO)(qs:List Q4)(k:eQ L B b w vc vb s qs)(u:oD B w v (.mk 4 f td tc tg th))(F:zr tc 100=true)(E:d3 tg m=true)(z:d3 th m=true)(j:fZ s (xF (.mk 4 f td tc tg th) (dS s)) (m+1)):
 Cy 112 #[(b,0),v] w (uF L B b w vc vb (kZ s (xL (.mk 4 f td tc tg th) s.C.length (dS s) s.lst 0) (wN (.mk 4 f td tc tg th) s.C.length (dS s))) (.tuple #[])):=by
 obtain⟨g,o,rfl,Y,r,_⟩:=u.cells;have ag:B<=w.heap.size:=Hp
 have Z:g<w.heap.size:=O
 obtain⟨a,c⟩:∃x:eO,x={ s with C:=s.C++[d5.beg] }:=⟨_,rfl⟩
 have y:a.C.length=s.C.length+1:=Jd
 have l:dS a=dS s:=by rw[c]
 rw[xF,Dm rfl]at j;have ab:=j.len;have X:=j.bk;have V:=t2 tg (dS s);have T:=t2 th (dS s);have D:fZ a (zG tc+2+qV tg (dS a)+qV th (dS a)) (m+1):=⟨by rw[c];exact j.d,by rw[c];exact j.sc,by rw[y,l];omega,by rw[l,c];show s.bk.length+_<=_;omega⟩
 have A:kZ a
  (qP tc a.C.length++.unl (a.C.length+zG tc+2+qV tg (dS a))::(xB tg (a.C.length+zG tc+1) (dS a) a.lst 0++.jmp (a.C.length+zG tc+2+qV tg (dS a)+qV th (dS a))::xB th (a.C.length+zG tc+2+qV tg (dS a)) (dS a) a.lst 0))
  (wO tg (a.C.length+zG tc+1) (dS a)++wO th (a.C.length+zG tc+2+qV tg (dS a)) (dS a))=kZ s (xL (.mk 4 f td tc tg th) s.C.length (dS s) s.lst 0) (wN (.mk 4 f td tc tg th) s.C.length (dS s)):=by
  rw[xL,wN,Dm rfl,Dm rfl,y,l,show s.C.length+1+zG tc+1=s.C.length+zG tc+2 by omega,show s.C.length+1+zG tc+2+qV tg (dS s)=s.C.length+zG tc+3+qV tg (dS s)by omega,c];unfold xB wO qV;simp[kZ]
 have P:=U A;have aa:s.C.length<=2000000000:=O
 have H:=U k;have Q:=U u;have n:=U (Do F (Do E z));have R:=U D;have N:=U r;have J:=U c;clear k u F E z D r c y l j ab X V T A;go_enter func112,ntmps112
 go_upto_region 1 with(first
  | (go_at_call 138;(refine(qZ H.o 0 0 none none (x:=.beg) ⟨rfl,rfl,rfl,rfl⟩ aa).mono ?_);rintro e w1 G
     obtain⟨af,ae,ad,rfl,i⟩:=G.cum;rw[<-J.o]at i;have K:=U i;have t:=i.below H.o;have r:=(t.cell (p:=(g,o)) Y).trans N.o;have ah:g<w1.heap.size:=D6 Z i.off.size;have S:=U (GY W 4 f td tc tg th w1 _ af ae a ad i.wr (Q.o.below t Zr) n.o.1 n.o.2.1 n.o.2.2 R.o)
     clear G i t))
 go_wp2_with (first
  | (go_at_call 139;(refine S.o.mono ?_);rintro e _ I
     obtain⟨_,_,_,rfl,q⟩:=I.cum;rw[P.o]at q;have M:=U (K.o.next q)
     clear I q))
 go_end0
 exact M.o.post _
theorem GZ(S:PJ L B b m)(f:Int)(td:C2)(tc:List Ex)(tg th:List St)(w:C3)(v vc vb:C4)(s:eO)(qs:List Q4)(k:eQ L B b w vc vb s qs)(r:oD B w v (.mk 5 f td tc tg th))(D:zr tc 100=true)(A:d3 tg m=true)(j:fZ s (xF (.mk 5 f td tc tg th) (dS s)) (m+1)):
 Cy 112 #[(b,0),v] w (uF L B b w vc vb (kZ s (xL (.mk 5 f td tc tg th) s.C.length (dS s) s.lst 0) (wN (.mk 5 f td tc tg th) s.C.length (dS s))) (.tuple #[])):=by
 obtain⟨g,o,rfl,V,n,_⟩:=r.cells;have ad:B<=w.heap.size:=Hp
 have W:g<w.heap.size:=O
 obtain⟨a,c⟩:∃x:eO,x={ s with C:=s.C++[d5.beg] }:=⟨_,rfl⟩
 have t:a.C.length=s.C.length+1:=Jd
 rw[xF,Dl Up,Dm rfl]at j;have Y:=j.len;have T:=j.bk;have R:=t2 tg 0;have z:fZ a (zG tc+2+qV tg 0) (m+1):=⟨by rw[c];exact j.d,by rw[c];exact j.sc,by rw[t];omega,by rw[c];show s.bk.length+_<=_;omega⟩
 have y:({ a with C:=a.C++
  (qP tc a.C.length++.unl (a.C.length+zG tc+2+qV tg 0)::(xB tg (a.C.length+zG tc+1) 0 a.C.length (a.C.length+zG tc+2+qV tg 0)++[.jmp a.C.length])) }:eO)=kZ s (xL (.mk 5 f td tc tg th) s.C.length (dS s) s.lst 0) (wN (.mk 5 f td tc tg th) s.C.length (dS s)):=by
  rw[xL,wN,Dl Up,Dm rfl,Dl Up,Dl Up,t,show s.C.length+1+zG tc+1=s.C.length+zG tc+2 by omega,show s.C.length+1+zG tc+2+qV tg 0=s.C.length+zG tc+3+qV tg 0 by omega,c];unfold xB qV;simp[kZ]
 have M:=U y;have X:s.C.length<=2000000000:=O
 have H:=U k;have N:=U r;have u:=U (Do D A);have P:=U z;have K:=U n;have G:=U c;clear k r D A z n c t j Y T R y;go_enter func112,ntmps112
 go_upto_region 1 with(first
  | (go_at_call 138;(refine(qZ H.o 0 0 none none (x:=.beg) ⟨rfl,rfl,rfl,rfl⟩ X).mono ?_);rintro e w1 E
     obtain⟨ab,aa,Z,rfl,i⟩:=E.cum;rw[<-G.o]at i;have I:=U i;have q:=i.below H.o;have n:=(q.cell (p:=(g,o)) V).trans K.o;have ae:g<w1.heap.size:=D6 W i.off.size;have Q:=U (UV S 5 f td tc tg th w1 _ ab aa a Z i.wr (N.o.below q Zr) u.o.1 u.o.2 P.o)
     clear E i q))
 go_wp2_with (first
  | (go_at_call 140;(refine Q.o.mono ?_);rintro e _ F
     obtain⟨_,_,_,rfl,l⟩:=F.cum;rw[M.o]at l;have J:=U (I.o.next l)
     clear F l))
 go_end0
 exact J.o.post _
theorem J3(i:Int)(td:C2)(tc:List Ex)(tg th:List St)(w:C3)(v vc vb:C4)(s:eO)(qs:List Q4)(l:eQ L B b w vc vb s qs)(F:oD B w v (.mk 7 i td tc tg th))(n:fZ s (xF (.mk 7 i td tc tg th) (dS s)) (m+1)):
 Cy 112 #[(b,0),v] w (uF L B b w vc vb (kZ s (xL (.mk 7 i td tc tg th) s.C.length (dS s) s.lst 0) (wN (.mk 7 i td tc tg th) s.C.length (dS s))) (.tuple #[])):=by
 obtain⟨g,o,rfl,W,y,_⟩:=F.cells;have ag:B<=w.heap.size:=Ho
 have X:g<w.heap.size:=O
 obtain⟨a,c⟩:∃x:eO,x={ s with C:=s.C++[d5.beg] }:=⟨_,rfl⟩
 obtain⟨q,k⟩:∃x:eO,x={ a with C:=a.C++List.replicate (dS a) .lve }:=⟨_,rfl⟩
 have z:a.C.length=s.C.length+1:=Jd
 have r:dS a=dS s:=by rw[c]
 have ab:q.C.length=s.C.length+1+dS s:=by rw[k];show(a.C++_).length=_;rw[Dn,Cm,z,r]
 rw[xF,Dl Up,Dl Up,Dm (Or.inr rfl)]at n;have aa:=n.len
 have E:({ q with C:=q.C++[d5.jmp s.lst] }:eO)=kZ s (xL (.mk 7 i td tc tg th) s.C.length (dS s) s.lst 0) (wN (.mk 7 i td tc tg th) s.C.length (dS s)):=by
  rw[xL,wN,Dl Up,Dl Up,Dl Up,Dm rfl,Dl Up,Dl Up,k,r,c];simp[kZ]
 have R:=U E;have Y:s.C.length<=2000000000:=O
 have Z:q.C.length<=2000000000:=O
 have t:=U (Do (show a.lsc<=a.sc by rw[c];exact n.d) (Do (show a.sc<=1000 by rw[c];show s.sc<=1000;have:=n.sc;omega) (show a.C.length+dS a<=1000000000 by rw[z,r];omega)));have S:=U (show q.lst=s.lst by rw[k,c]);have H:=U l;have Q:=U y;have K:=U c;have M:=U k;clear l F y c k z ab r n aa E;go_enter func112,ntmps112
 go_upto_region 1 with(first
  | (go_at_call 138;(refine(qZ H.o 0 0 none none (x:=.beg) ⟨rfl,rfl,rfl,rfl⟩ Y).mono ?_);rintro e w1 G
     obtain⟨af,ae,ad,rfl,f⟩:=G.cum;rw[<-K.o]at f;have N:=U f;have D:=f.below H.o;have y:=(D.cell (p:=(g,o)) W).trans Q.o;have ah:g<w1.heap.size:=D6 X f.off.size;have T:=U (t1 w1 af ae a ad f.wr t.o.1 t.o.2.1 t.o.2.2)
     clear G f D))
 go_upto_region 13 with(first
  | (go_at_call 141;(refine T.o.mono ?_);rintro e _ I
     obtain⟨_,_,_,rfl,j⟩:=I.cum;rw[<-M.o]at j;have A:=U (N.o.next j);obtain⟨⟨_,_,V,_,_⟩,_⟩:=zT j.wr.box;have ai:=j.wr.lt;rw[S.o]at V
     clear I j))
 go_wp2_with (first
  | (go_at_call 138;(refine(qZ A.o.wr 3 (s.lst:Int) none none (x:=.jmp s.lst) ⟨rfl,rfl,rfl,rfl⟩ Z).mono ?_);rintro e _ J
     obtain⟨_,_,_,rfl,u⟩:=J.cum;rw[R.o]at u;have P:=U (A.o.next u)
     clear J u))
 go_end0
 exact P.o.post _
theorem J4(k a:Int)(td:C2)(tc:List Ex)(tg th:List St)(w:C3)(v vc vb:C4)(s:eO)(qs:List Q4)(f:eQ L B b w vc vb s qs)(E:oD B w v (.mk k a td tc tg th))(V:zr tc 100=true)(i:¬k=4)(q:¬k=5)(r:¬k=6)(A:¬k=7)(D:fZ s (xF (.mk k a td tc tg th) (dS s)) (m+1)):
 Cy 112 #[(b,0),v] w (uF L B b w vc vb (kZ s (xL (.mk k a td tc tg th) s.C.length (dS s) s.lst 0) (wN (.mk k a td tc tg th) s.C.length (dS s))) (.tuple #[])):=by
 obtain⟨g,o,rfl,S,z,_,_,⟨_,f3,T⟩,_⟩:=E.cells;have an:B<=w.heap.size:=by have:=f.hB;have:=f.hL;have:=f.lt;omega
 have ah:g<w.heap.size:=O
 obtain⟨d,l⟩:∃x:eO,x={ s with C:=s.C++[d5.beg] }:=⟨_,rfl⟩
 obtain⟨u,n⟩:∃x:eO,x={ d with C:=d.C++qP tc d.C.length }:=⟨_,rfl⟩
 have F:d.C.length=s.C.length+1:=by rw[l];show(s.C++_).length=_;rw[Dn,D2]
 have am:u.C.length=s.C.length+1+zG tc:=by rw[n];show(d.C++_).length=_;rw[Dn,jI,F]
 rw[xF,Dl i,Dl q,Dl O]at D;have al:=D.len
 have R:({ u with C:=u.C++[d5.fin (.mk k a td tc tg th)] }:eO)=kZ s (xL (.mk k a td tc tg th) s.C.length (dS s) s.lst 0) (wN (.mk k a td tc tg th) s.C.length (dS s)):=by
  rw[xL,wN,Dl i,Dl q,Dl r,Dl A,Dl i,Dl r,n,F,l];simp[kZ]
 have ad:=U R;have ai:s.C.length<=2000000000:=O
 have aj:d.C.length+zG tc<=1000000000:=O
 have ak:u.C.length<=2000000000:=O
 obtain⟨q4,M⟩:∃x:Bool,(k == 4)=x/\x=false:=⟨_,rfl,by simpa using i⟩
 obtain⟨_,N⟩:∃x:Bool,(k == 5)=x/\x=false:=⟨_,rfl,by simpa using q⟩
 obtain⟨_,P⟩:∃x:Bool,(k == 6)=x/\x=false:=⟨_,rfl,by simpa using r⟩
 obtain⟨_,Q⟩:∃x:Bool,(k == 7)=x/\x=false:=⟨_,rfl,by simpa using A⟩
 obtain⟨M,rfl⟩:=M;obtain⟨N,rfl⟩:=N;obtain⟨P,rfl⟩:=P;obtain⟨Q,rfl⟩:=Q;have H:=U f;have ae:=U E;have K:=U (Do V T);have J:=U (Do z f3);have Z:=U l;have aa:=U n;clear f E V z f3 T l n F am D al R i q r A;go_enter func112,ntmps112
 go_upto_region 1 with(first
  | (go_at_call 138;(refine(qZ H.o 0 0 none none (x:=.beg) ⟨rfl,rfl,rfl,rfl⟩ ai).mono ?_);rintro e w1 W
     obtain⟨_,_,_,rfl,c⟩:=W.cum;rw[<-Z.o]at c;have G:=U c;have t:=c.below H.o;have z:=(t.cell (p:=(g,o)) S).trans J.o.1;have f3:=(t.cell (p:=(g,o+3)) S).trans J.o.2;have ao:g<w1.heap.size:=D6 ah c.off.size;have ag:=U (fY (iP L B b 100) c.wr (K.o.2.below t Zr) K.o.1 aj)
     clear W c t))
 go_upto_region 3 with(first
  | (go_at_call 142;(refine ag.o.mono ?_);rintro e _ X
     obtain⟨_,_,_,rfl,j⟩:=X.cum;rw[<-aa.o]at j;have I:=U (G.o.next j);have af:=U (ae.o.below ((G.o.next j).below H.o) Zr)
     clear X j))
 go_wp2_with (first
  | (go_at_call 138;(refine(qZ I.o.wr 2 0 none (some ⟨g,o,none⟩) (x:=.fin (.mk k a td tc tg th)) ⟨rfl,rfl,rfl,af.o⟩ ak).mono ?_);rintro e _ Y
     obtain⟨_,_,_,rfl,y⟩:=Y.cum;rw[ad.o]at y;have ab:=U (I.o.next y)
     clear Y y))
 go_end0
 exact ab.o.post _
theorem G0(r:Int)(td:C2)(tc:List Ex)(tg th:List St)(w:C3)(v vc vb:C4)(s:eO)(qs:List Q4)(u:eQ L B b w vc vb s qs)(X:oD B w v (.mk 6 r td tc tg th))(q:fZ s (xF (.mk 6 r td tc tg th) (dS s)) (m+1)):
 Cy 112 #[(b,0),v] w (uF L B b w vc vb (kZ s (xL (.mk 6 r td tc tg th) s.C.length (dS s) s.lst 0) (wN (.mk 6 r td tc tg th) s.C.length (dS s))) (.tuple #[])):=by
 obtain⟨aD,V,aa,ab,ad⟩:=info_parts xK;obtain⟨g,o,rfl,ax,E,_⟩:=X.cells;have aL:B<=w.heap.size:=by have:=u.hB;have:=u.hL;have:=u.lt;omega
 have ay:g<w.heap.size:=O
 obtain⟨c,i⟩:∃x:eO,x={ s with C:=s.C++[d5.beg] }:=⟨_,rfl⟩
 obtain⟨a,t⟩:∃x:eO,x={ c with C:=c.C++List.replicate (dS c) .lve }:=⟨_,rfl⟩
 obtain⟨I,D⟩:∃x:eO,x={ a with C:=a.C++[d5.jmp 0] }:=⟨_,rfl⟩
 have N:c.C.length=s.C.length+1:=by rw[i];show(s.C++_).length=_;rw[Dn,D2]
 have A:dS c=dS s:=by rw[i]
 have ag:a.C.length=s.C.length+1+dS s:=by rw[t];show(c.C++_).length=_;rw[Dn,Cm,N,A]
 rw[xF,Dl Up,Dl Up,Dm (Or.inl rfl)]at q;have aC:=q.len
 have y:({ I with bk:=I.bk++[a.C.length] }:eO)=kZ s (xL (.mk 6 r td tc tg th) s.C.length (dS s) s.lst 0) (wN (.mk 6 r td tc tg th) s.C.length (dS s)):=by
  rw[xL,wN,Dl Up,Dl Up,Dm rfl,Dl Up,Dm rfl,ag,D,t,A,i];simp[kZ]
 have ap:=U y;have aA:s.C.length<=2000000000:=O
 have aB:a.C.length<=2000000000:=O
 have aN:a.bk.length<=1000000000:=by rw[t,i];show s.bk.length<=_;have:=q.bk;omega
 have J:=U (Do (show c.lsc<=c.sc by rw[i];exact q.d) (Do (show c.sc<=1000 by rw[i];show s.sc<=1000;have:=q.sc;omega) (show c.C.length+dS c<=1000000000 by rw[N,A];omega)));have P:=U (show I.bk=a.bk by rw[D]);have H:=U u;have ao:=U E;have ai:=U i;have aj:=U t;have ak:=U D;have z:=U (Do V (Do aa (Do ab ad)));clear u X E i t D N ag A q aC y V aa ab ad;go_enter func112,ntmps112
 go_upto_region 1 with(first
  | (go_at_call 138;(refine(qZ H.o 0 0 none none (x:=.beg) ⟨rfl,rfl,rfl,rfl⟩ aA).mono ?_);rintro e w1 ae
     obtain⟨aI,aH,aF,rfl,l⟩:=ae.cum;rw[<-ai.o]at l;have am:=U l;have T:=l.below H.o;have E:=(T.cell (p:=(g,o)) ax).trans ao.o;have F:g<w1.heap.size:=D6 ay l.off.size;have av:=U (t1 w1 aI aH c aF l.wr J.o.1 J.o.2.1 J.o.2.2)
     clear ae l T))
 go_upto_region 10 with(first
  | (go_at_call 141;(refine av.o.mono ?_);rintro e aK af
     obtain⟨_,_,_,rfl,k⟩:=af.cum;rw[<-aj.o]at k;obtain⟨ah,aw,rfl⟩:=zb k.wr.wn;have R:=k.next (e1.mono k.wr Zb.drew);have Q:=U (am.o.next R);obtain⟨⟨_,_,_,_,_⟩,_⟩:=zT k.wr.box;have aP:=k.wr.lt
     clear af k R))
 clear E F;go_wp2_with fail
 go_region_law (first
  | (go_simp;go_at_call 138;(refine(GU Q.o.wr 3 0 none none (x:=.jmp 0) ⟨rfl,rfl,rfl,rfl⟩ aB).mono ?_);rintro e f aE
     obtain⟨aJ,aG,rfl,j,W,Z⟩:=aE;rw[<-ak.o]at j;have S:e1 L B b aK.drew _ _ f aJ _ I aG:=⟨j,W,Z,eA.refl _ _⟩
     have an:=U (Q.o.next S);obtain⟨⟨_,_,_,_,_⟩,_⟩:=zT j.box;have aQ:=j.lt;have aM:L<=f.heap.size:=by have:=j.hL;omega
     have M:=j.wn;rw[P.o]at M;have au:=U (qD M ((D1 f.heap.size f).alloc Zr (.cells #[((a.C.length:Int):Int)] 3)) Zr);have aq:=U (xJ f [.int .i64 (a.C.length:Int)] 3);have aR:(f.alloc (.cells #[((a.C.length:Int):Int)] 3)).heap.size=f.heap.size+1:=zA _ _;have al:=U j
     clear S j W Z M)
  | (refine jF rfl (.tmp 40) (.tmp 44) _ rfl L 3 aD _ 1 8 underlying23 z.o.1 z.o.2.1 z.o.2.2.1 z.o.2.2.2 rfl O (.slice ah a.bk.length aw) a.bk.length _ rfl (by exact au.o) ⟨f.heap.size,0,none⟩ 1 1 [.int .i64 (a.C.length:Int)] rfl rfl (by exact aq.o) Uw Uv O (by show L<=(f.alloc _).heap.size;omega) O ?_
     intro _ w8 K F Y;have G:=al.o.addbk ((D1 f.heap.size f).alloc Zr (.cells #[((a.C.length:Int):Int)] 3)) F Y (n:=a.C.length) (by rw[P.o];exact K);obtain⟨_,_,rfl⟩:=zb K;obtain⟨⟨_,_,_,_,_⟩,_⟩:=zT G.1;have aO:b<w8.heap.size:=zB G.1;have ar:=U G.2
     clear K F Y G))
 all_goals
  go_wp2_with fail
  go_end0
  have y:=an.o.next ar.o;rw[ap.o]at y;exact y.post _
theorem J5(n:PJ L B b m):zbt L B b (m+1):=by
 intro t w v vc vb s qs c e a d;obtain⟨k,f,td,tc,tg,th⟩:=t;rw[jW,Yt]at a;simp only[Dv]at a;by_cases g:k=4
 .subst g
  exact UW n f td tc tg th w v vc vb s qs c e a.1.1.2 a.1.2 a.2 d
 by_cases i:k=5
 .subst i
  exact GZ n f td tc tg th w v vc vb s qs c e a.1.1.2 a.1.2 d
 by_cases j:k=6
 .subst j
  exact G0 f td tc tg th w v vc vb s qs c e d
 by_cases l:k=7
 .subst l
  exact J3 f td tc tg th w v vc vb s qs c e d
 exact J4 k f td tc tg th w v vc vb s qs c e a.1.1.2 g i j l d
end
theorem BI(L B b:Nat):∀m,zbt L B b m
 | 0=>fun t w v vc vb s qs _ _ a _=>by
   obtain⟨k,_,td,tc,tg,th⟩:=t;rw[jW]at a;simp at a
 |m+1=>J5 (PL (tZ (BI L B b m)))
theorem J6(L B b m:Nat):UT L B b m:=tZ (BI L B b m)
def hJ(B L:Nat)(w:C3)(v:C4)(l:List d5):Prop:=
 ∃(e:Option Addr) (f:Nat),v=.slice e l.length f/\l.length<=281474976710656/\(0<l.length->∃g,e=some ⟨g,0,none⟩/\L<=g/\g<w.heap.size/\
   ∀i x,l[i]?=some x->∃a b c d,oE B w x a b c d/\w.cell? ⟨g,i*4,none⟩=some a/\w.cell? ⟨g,i*4+1,none⟩=some b/\w.cell? ⟨g,i*4+2,none⟩=some c/\w.cell? ⟨g,i*4+3,none⟩=some d)
theorem hJ.keep{w':C3}{v:C4}{l:List d5}(p:hJ B L w v l)(z:Below B w w')(D:w.heap.size<=w'.heap.size)(A:∀k,L<=k->k<w.heap.size->w'.heap[k]?=w.heap[k]?):hJ B L w' v l:=by
 obtain⟨m,n,r,s,t⟩:=p;refine⟨m,n,r,s,fun C=>?_⟩;obtain⟨g,u,f,j,y⟩:=t C;refine⟨g,u,f,D6 j D,fun i x E=>?_⟩;obtain⟨a,b,c,d,q,F,G,H,I⟩:=y i x E;have e:∀o,w'.cell? ⟨g,o,none⟩=w.cell? ⟨g,o,none⟩:=fun o=>D4 (A g f j)
 exact⟨a,b,c,d,q.below z Zr,(e _).trans F,(e _).trans G,(e _).trans H,(e _).trans I⟩
theorem hJ.mono{a:Nat}{v:C4}{l:List d5}(d:hJ B L w v l)(o:a<=L):hJ B a w v l:=by
 obtain⟨b,c,e,f,i⟩:=d;refine⟨b,c,e,f,fun p=>?_⟩;obtain⟨g,j,k,m,n⟩:=i p;exact⟨g,j,Dr o k,m,n⟩
theorem eQ.code{vc vb:C4}{s:eO}{qs:List Q4}(d:eQ L B b w vc vb s qs)(p:s.C.length<=281474976710656):hJ B L w vc s.C:=by
 obtain⟨m,c,k⟩:=zb d.row;refine⟨m,c,k,p,fun r=>?_⟩;obtain⟨g,_,a,n,o,_,e,_⟩:=vV d.row r;rw[k]at a;injection a with a _ _;refine⟨g,a,n,o,fun i x l=>?_⟩;obtain⟨q,j⟩:∃q,qs[i]?=some q:=⟨_,Dz (by rw[d.ql];exact(List.getElem?_eq_some_iff.1 l).1)⟩
 have f:=zaz qs i q j;exact⟨q.1,q.2.1,q.2.2.1,q.2.2.2,d.qi i x q l j,e _ _ (f 0 _ rfl),e _ _ (f 1 _ rfl),e _ _ (f 2 _ rfl),e _ _ (f 3 _ rfl)⟩
abbrev BJ:eO:=⟨[],0,0,0,[]⟩
theorem UX(B:Nat)(w:C3)(L:Nat)(a:B<=L)(b:L<=w.heap.size):eQ L B w.heap.size (w.alloc (L5 (.slice none 0 0) (.slice none 0 0) BJ)) (.slice none 0 0) (.slice none 0 0) BJ []:=
 ⟨a,b,Dq w _,Ym _ _ _ _,rfl,fun i x q c=>Kd,Ym _ _ _ _⟩
theorem UY(B:Nat)(f:Fu)(F Q:C4)(w:C3)(aa:B<=w.heap.size)(z:e5 B w F f.params)(u:eN B w Q f.body)(K:d3 f.body 100=true)(_:d0 f.body 0<=1000000000):
 Cy 67 #[.agg #[f.name,(f.type:Int),F,Q]] w fun e w'=>∃vc,e=.returned (.agg #[F,vc])/\Cx w w'/\hJ B w.heap.size w' vc (eW f):=by
 obtain⟨b,c,rfl,_⟩:=z.form;obtain⟨d,g,rfl,_⟩:=u.form;have ah:=U z;have R:=U u;have S:=U K;clear z u K;have s:Cx w ((w.alloc (E6 f.name f.type (.slice b f.params.length c) (.slice d f.body.length g))).alloc (.cells #[(),()] 120)):=(Zb.alloc Zr _).alloc Ur _;have E:((w.alloc (E6 f.name f.type (.slice b f.params.length c) (.slice d f.body.length g))).alloc (.cells #[(),()] 120)).heap.size=w.heap.size+1+1:=Ur
 have L:((w.alloc (E6 f.name f.type (.slice b f.params.length c) (.slice d f.body.length g))).alloc (.cells #[(),()] 120)).heap[w.heap.size]?=some (E6 f.name f.type (.slice b f.params.length c) (.slice d f.body.length g)):=(D3 _ _ _ Ur).trans (Dq w _);have M:((w.alloc (E6 f.name f.type (.slice b f.params.length c) (.slice d f.body.length g))).alloc (.cells #[(),()] 120)).heap[w.heap.size+1]?=some (.cells #[(),()] 120):=by simpa using Dq (w.alloc (E6 f.name f.type (.slice b f.params.length c) (.slice d f.body.length g))) (.cells #[(),()] 120)
 go_enter func67,ntmps67;go_upto_region 2 with fail;generalize(w.alloc (.cells #[f.name,(f.type:Int),(b,f.params.length,c),(d,f.body.length,g)] 93)).alloc (.cells #[(),()] 120)=W1 at *;have t:Below w.heap.size W1 (W1.alloc (L5 (.slice none 0 0) (.slice none 0 0) BJ)):=Zb.alloc O _;have q:=UX B W1 (w.heap.size+1+1) O O;rw[E]at q;have D:=(D3 W1 (L5 (.slice none 0 0) (.slice none 0 0) BJ) w.heap.size O).trans L;have N:=(D3 W1 (L5 (.slice none 0 0) (.slice none 0 0) BJ) (w.heap.size+1) O).trans M;have an:(W1.alloc (L5 (.slice none 0 0) (.slice none 0 0) BJ)).heap.size=w.heap.size+1+1+1:=by rw[zA,E]
 generalize(W1.alloc (L5 (.slice none 0 0) (.slice none 0 0) BJ))=W2 at *;obtain⟨⟨X,f1,Y,f3⟩,Z⟩:=zM D;have am:w.heap.size<W2.heap.size:=O
 have V:=U (s.trans t);have ai:=U q;have H:=U (Do D N);have W:=U (J6 (w.heap.size+1+1) B (w.heap.size+1+1) 100 f.body W2 (.slice d f.body.length g) _ _ BJ [] q (R.o.below ((s.trans t).mono aa) Zr) S.o ⟨Dy _,by show 0+100<=1000;omega,by show 0+d0 f.body 0<=_;omega,by show 0+d0 f.body 0<=_;omega⟩);clear s E L M t q D N
 go_upto_region 3 with(first
  | (go_at_call 91;(refine W.o.mono ?_);rintro e m P
     obtain⟨_,_,_,rfl,i⟩:=P.cum;have G:=U i;obtain⟨j,l,rfl⟩:=zb i.wr.row;obtain⟨⟨_,_,_,_,_⟩,_⟩:=zT i.wr.box;have al:=i.wr.lt
     have y:∀k,k<w.heap.size+1+1->¬WT (w.heap.size+1+1) (.slice none 0 0) (.slice none 0 0) k:=fun k J a=>by
      rcases a with a|a|a
      .omega
      .cases a
      .cases a
     have A:=i.off.at (y w.heap.size O) H.o.1;have n:=i.off.at (y (w.heap.size+1) O) H.o.2;obtain⟨⟨_,_,_,_⟩,_⟩:=zM A;obtain⟨⟨u0,u1⟩,_⟩:=zD n;have aj:=zB A;have ak:=zB n;have T:=U n
     clear P i y A n))
 clear X f1 Y f3 Z;go_wp2_with fail;obtain⟨af,ag⟩:=jd T.o (.slice b f.params.length c) (.slice j (qh f.body 0 0 0 0).length l);refine bodyPost_ret (v:=.agg #[(b,f.params.length,c),.slice j (qh f.body 0 0 0 0).length l]) (by simp[results,results67,go_sem,af,ag]) rfl ?_;have r:(kZ BJ (qh f.body BJ.C.length (dS BJ) BJ.lst 0) (xu f.body BJ.C.length (dS BJ))).C=eW f:=by simp[eW]
 have x:=G.o.wr.code (by rw[r];unfold eW;rw[jt];omega);rw[r]at x
 have ab:=G.o.off.below (B:=w.heap.size) O fun k J a=>by
  rcases a with a|a|a
  .omega
  .cases a
  .cases a
 have I:Below (w.heap.size+1) m ((m.setCell (w.heap.size+1,0) (b,f.params.length,c)).setCell (w.heap.size+1,1) (.slice j (qh f.body 0 0 0 0).length l)):=((D1 _ m).setCell (p:=(w.heap.size+1,0)) Zr _).setCell (p:=(w.heap.size+1,1)) Zr _;have ad:((m.setCell (w.heap.size+1,0) (b,f.params.length,c)).setCell (w.heap.size+1,1) (.slice j (qh f.body 0 0 0 0).length l)).heap.size=m.heap.size:=Uu
 refine⟨_,rfl,(V.o.trans ab).trans (I.mono O),?_⟩;have ae:(Value.slice j ((kZ BJ (qh f.body BJ.C.length (dS BJ) BJ.lst 0) (xu f.body BJ.C.length (dS BJ))).C).length l)=.slice j (qh f.body 0 0 0 0).length l:=by rw[r];rfl
 rw[ae]at x;exact(hJ.keep (w:=m) x (I.mono O) (Dt ad.symm) fun k J _=>(Dx _ _ _ k Kp).trans (Dx _ _ _ k Kp)).mono O
def XD(d:Nat)(l:Lb):Prop:=l=.frm d\/l=.outr d\/∃i,l=.vmap d i\/l=.cel d i
theorem zc7{d:Nat}{l:Lb}(b:∀d,l≠.frm d)(c:∀d,l≠.outr d)(e:∀d i,l≠.vmap d i)(f:∀d i,l≠.cel d i):¬XD d l:=fun a=>by
 rcases a with a|a|⟨i,a|a⟩
 .exact b _ a
 .exact c _ a
 .exact e _ _ a
 .exact f _ _ a
theorem UZ{d e:Nat}(a:e<d):¬XD d (.frm e)/\¬XD d (.outr e)/\∀i,¬XD d (.vmap e i)/\¬XD d (.cel e i):=by
 refine⟨fun b=>?_,fun b=>?_,fun i=>⟨fun b=>?_,fun b=>?_⟩⟩ <;> rcases b with a|a|⟨j,a|a⟩ <;> injection a<;>omega
theorem j4(d:Nat):¬XD d .gl/\¬XD d .mach/\¬XD d .funs/\¬XD d .arrs/\¬XD d .code/\¬XD d .vals/\¬XD d .outs/\∀k,¬XD d (.arr k):=by
 refine⟨?_,?_,?_,?_,?_,?_,?_,fun k=>?_⟩ <;> exact zc7 (fun _ e=>Kh) (fun _ e=>Kh) (fun _ _ e=>Kh) (fun _ _ e=>Kh)
section
variable {G:Gm} {τ τ':Nat->Lb} {w w':C3}{m:Vm}{vi vv pa vo:C4}
theorem eS.top(b:eS G τ w m vi vv pa vo){a:Nat}(q:pa=.pointer (some ⟨a,0,none⟩)){c':Fr}{r:List Fr}(c:d1 (fun k=>XD r.length (τ k)) w w')(d:e3 τ τ' w){f vc i:C4}{mp:Nat}{tm ms:List Nat}
 (t:H6 G.B τ w f r) (p:rH G.B τ' w' r.length a f c' vc mp i tm ms):eS G τ' w' ⟨m.s,m.v,c'::r⟩ vi vv pa vo/\Below G.B w w':=by
 obtain⟨j,u,x,y,l,z,A,C⟩:=j4 r.length;have g:=b.below (X:=XD r.length) c j;refine b.step (X:=XD r.length) (m':=⟨m.s,m.v,c'::r⟩) c d j ⟨x,l⟩ (kj c d b.lab u b.box).2 (b.inp.below g Zr) (b.val.keep (X:=XD r.length) c d z) (b.o.keep (X:=XD r.length) c d A) ?_ (b.arr.keep (X:=XD r.length) c d ⟨y,C⟩) b.nv b.ni b.no b.lim;exact⟨a,f,vc,mp,i,tm,ms,q,p,H6.keep (X:=XD r.length) c d g t ⟨l,fun e n=>UZ n⟩ Zr⟩
end
theorem U0{vs:d2}{tm:List Nat}(b:Nat)(s:C2)(_:vs.length<=tm.length):eV vs (tm++[b]) s=eV vs tm s:=by
 unfold eV;cases he:jf vs s with
 |none=>rfl
 |some k=>
   dsimp only;rw[Yn (by have:=yd he;omega)]
theorem rI{o:List Nat}(a:(o++[n]).Pairwise (·<=·)):∀k∈o,k<=n:=fun k b=>(List.pairwise_append.1 a).2.2 k b n (List.mem_singleton.2 rfl)
theorem ZS{o:List Nat}{b:Nat}(c:(o++[n]).Pairwise (·<=·))(e:n<=b):(o++[b]).Pairwise (·<=·):=by
 have a:=List.pairwise_append.1 c;refine List.pairwise_append.2 ⟨a.1,List.pairwise_singleton _ _,fun k d x f=>?_⟩;rw[List.mem_singleton.1 f];exact Dr (a.2.2 k d n (List.mem_singleton.2 rfl)) e
section
variable {B:Nat}{τ:Nat->Lb} {w w':C3}{d a:Nat}{pa:C4}{c:Fr}{vc:C4}{mp:Nat}{vo:C4}{tm ms:List Nat}
theorem rH.place(b:rH B τ w d a pa c vc mp vo tm ms){p:Nat}(q:Below B w (w.setCell (a,1) ((p:Int):Int))):rH B τ (w.setCell (a,1) ((p:Int):Int)) d a pa { c with pl:=p } vc mp vo tm ms:=by
 have f:d1 (fun k=>(fun l=>l=Lb.frm d) (τ k)) w (w.setCell (a,1) ((p:Int):Int)):=d1.set (X:=fun k=>(fun l=>l=Lb.frm d) (τ k)) w b.lab 1 _;have g:=e3.refl τ w;refine⟨D0 b.box _,b.lab,b.code.keep (X:=fun l=>l=Lb.frm d) f g q Us,b.ll,fun i l x r t=>?_,b.map.keep (X:=fun l=>l=Lb.frm d) f g Us,b.ml,zZ b.row fun k j=>f.block k (zo b.row k j).1 (by rw[b.rol k j];intro e;cases e),b.rol,fun i m k s j=>(b.o i m k s j).keep (X:=fun l=>l=Lb.frm d) f g Us,b.ord⟩;obtain⟨u,v,y⟩:=b.cell i l x r t;have n:=kj (X:=fun l=>l=Lb.frm d) f g u Us v;exact⟨n.1,n.2,y⟩
theorem rH.decl(f:rH B τ w d a pa c vc mp vo tm ms)(F:Below B w w')(M:d1 (fun k=>k=mp) w w'){td:C2}{x:Int}(J:eI w' mp (c.vs.length+1) (.pointer none) (OM (eV c.vs tm) td (.pointer (some ⟨w.heap.size,0,none⟩))))(L:w'.heap[w.heap.size]?=some (.cells #[(x:Int)] 3))(N:eF x):
 rH B (TH τ w.heap.size (.cel d c.vs.length)) w' d a pa { c with vs:=c.vs++[(td,x)] } vc mp vo (tm++[w.heap.size]) ms:=by
 have r:d1 (fun k=>(fun l=>l=Lb.vmap d c.o.length) (τ k)) w w':=M.mono fun k _ g=>by
  have g:k=mp:=g;rw[g];exact f.map.1
 have p:=e3.lbl τ w (.cel d c.vs.length) (Dy w.heap.size);have C:=kj (X:=fun l=>l=Lb.vmap d c.o.length) r p f.lab Us f.box;have K:=f.map.2.lt;refine⟨C.2,C.1,f.code.keep (X:=fun l=>l=Lb.vmap d c.o.length) r p F Us,by simp[f.ll],fun i l y n j=>?_,⟨(p mp K).trans f.map.1,?_⟩,f.ml,zZ f.row fun k g=>r.block k (zo f.row k g).1 (by rw[f.rol k g];intro e;cases e),fun b A=>(p b (zo f.row b A).1).trans (f.rol b A),fun i m k I g=>?_,?_⟩
 .rcases Cc i tm.length with q|q
  .rw[Yn q]at n
   have j:(c.vs++[(td,x)])[i]?=some y:=j;rw[Yn (by rw[<-f.ll];exact q)]at j;obtain⟨u,v,t⟩:=f.cell i l y n j;have D:=kj (X:=fun l=>l=Lb.vmap d c.o.length) r p u Us v;exact⟨D.1,D.2,t⟩
  .have j:(c.vs++[(td,x)])[i]?=some y:=j
   rw[Yi q]at n;rw[Yi (by rw[<-f.ll];exact q)]at j
   have z:i-tm.length=0:=by
    have:=(List.getElem?_eq_some_iff.1 n).1;simp at this;omega
   rw[z]at n;rw[<-f.ll,z]at j;simp at n j;subst n j;have G:i=c.vs.length:=by have:=f.ll;omega
   rw[G];exact⟨fS _ _ _,L,N⟩
 .show eI w' mp (c.vs++[(td,x)]).length (.pointer none) (eV (c.vs++[(td,x)]) (tm++[w.heap.size]))
  rw[Dn];exact J.congr fun s=>GR _ _ f.ll (td,x) _ s
 .have H:=rI f.ord k (Ye g)
  obtain⟨u,v⟩:=f.o i m k I g;have q:i<c.o.length:=by have:=(List.getElem?_eq_some_iff.1 g).1;exact this
  have t:=FX.keep (X:=fun l=>l=Lb.vmap d c.o.length) (w':=w') ⟨u,v⟩ r p (by intro e;injection e with _ e;omega);have E:(c.vs++[(td,x)]).take k=c.vs.take k:=List.take_append_of_le_length H;show FX _ w' d i m ((c.vs++[(td,x)]).take k) (tm++[w.heap.size]);rw[E];exact⟨t.1,t.2.congr fun s=>U0 _ s (by rw[Yc,f.ll];omega)⟩
 .exact ZS f.ord Ur
theorem G1:∀{vs a:d2}(s:C2),vW vs=vW a->jf vs s=jf a s
 |[],[],_,_=>rfl
 |[],_::_,_,h=>Kg
 |_::_,[],_,h=>Kg
 | x::r,y::q,s,h=>by
   simp only[vW,Yb,Y7]at h;rw[jf,jf,G1 s h.2,h.1]
theorem L7{vs a:d2}(tm:List Nat)(s:C2)(b:vW vs=vW a):eV vs tm s=eV a tm s:=by
 unfold eV;rw[G1 s b]
theorem G2{vs a:d2}(k:Nat)(b:vW vs=vW a):vW (vs.take k)=vW (a.take k):=by
 unfold vW at *;rw[List.map_take,List.map_take,b]
theorem rH.setv(f:rH B τ w d a pa c vc mp vo tm ms){td:C2}{j b:Nat}{x:Int}(C:jf c.vs td=some j)(A:tm[j]?=some b)(J:Below B w (w.setCell (b,0) (x:Int)))(M:eF x):
 rH B τ (w.setCell (b,0) (x:Int)) d a pa { c with vs:=yO c.vs td x } vc mp vo tm ms:=by
 have D:=yd C;obtain⟨y,N⟩:∃y,c.vs[j]?=some y:=⟨_,Dz D⟩
 obtain⟨H,P,_⟩:=f.cell j b y A N;have n:d1 (fun k=>(fun l=>l=Lb.cel d j) (τ k)) w (w.setCell (b,0) (x:Int)):=d1.set (X:=fun k=>(fun l=>l=Lb.cel d j) (τ k)) w H 0 _;have p:=e3.refl τ w;have E:=kj (X:=fun l=>l=Lb.cel d j) n p f.lab Us f.box;have t:=sX c.vs td x;have L:yO c.vs td x=c.vs.set j (td,x):=by unfold yO;rw[C]
 have v:(yO c.vs td x).length=c.vs.length:=fU t;have G:=f.map.keep (X:=fun l=>l=Lb.cel d j) n p Us;refine⟨E.2,E.1,f.code.keep (X:=fun l=>l=Lb.cel d j) n p J Us,f.ll.trans v.symm,fun i l z q g=>?_,⟨G.1,?_⟩,f.ml,zZ f.row fun k r=>n.block k (zo f.row k r).1 (by rw[f.rol k r];intro e;cases e),f.rol,fun i m k K r=>?_,?_⟩
 .have g:(yO c.vs td x)[i]?=some z:=g
  rw[L,Cf]at g;by_cases u:j=i
  .subst u
   rw[Dm rfl,Dm D]at g;injection g with g;subst g;rw[A]at q;injection q with q;subst q;exact⟨H,D0 P _,M⟩
  .rw[Dl u]at g
   obtain⟨Q,R,S⟩:=f.cell i l z q g;have F:=kj (X:=fun l=>l=Lb.cel d j) n p Q (by intro e;injection e with _ e;exact u e.symm) R;exact⟨F.1,F.2,S⟩
 .show eI _ mp (yO c.vs td x).length _ (eV (yO c.vs td x) tm)
  rw[v];exact G.2.congr fun s=>L7 tm s t
 .have I:=(f.o i m k K r).keep (X:=fun l=>l=Lb.cel d j) n p Us
  refine⟨I.1,?_⟩;show eI _ m ((yO c.vs td x).take k).length _ (eV ((yO c.vs td x).take k) tm);rw[fU (G2 k t)];exact I.2.congr fun s=>L7 tm s (G2 k t)
 .show(c.o++[(yO c.vs td x).length]).Pairwise (·<=·)
  rw[v];exact f.ord
def XE(d:Nat)(l:Lb):Prop:=l=.frm d\/l=.outr d
theorem za2{d:Nat}:¬XE d .code/\(∀i,¬XE d (.vmap d i))/\(∀i,¬XE d (.cel d i)):=by
 refine⟨?_,fun i=>?_,fun i=>?_⟩ <;>(rintro(e|e)<;>cases e)
theorem rH.enter{τ':Nat->Lb}(f:rH B τ w d a pa c vc mp vo tm ms)(t:Below B w w')(p:d1 (fun k=>XE d (τ k)) w w')(j:e3 τ τ' w){mp':Nat}{vo':C4}(u:w'.heap[a]?=some (FY vc c.pl mp' vo' pa))(D:w'.ownsRow B 163 1 vo' (c.o.length+1) ((ms++[mp]).map fun m=>.map (some m)))(C:∀b,vo'.ownBlock=some b->τ' b=.outr d)
 (A:τ' mp'=.vmap d (c.o.length+1)) (z:eI w' mp' c.vs.length (.pointer none) (eV c.vs tm)):rH B τ' w' d a pa { c with o:=c.o++[c.vs.length] } vc mp' vo' tm (ms++[mp]):=by
 obtain⟨J,r,K⟩:=za2 (d:=d);refine⟨u,(j a (zB f.box)).trans f.lab,f.code.keep (X:=XE d) p j t J,f.ll,fun i l L y F=>?_,⟨?_,z⟩,by simp[f.ml],?_,C,fun i m k g e=>?_,?_⟩
 .obtain⟨G,H,I⟩:=f.cell i l L y F
  have q:=kj (X:=XE d) p j G (K i) H;exact⟨q.1,q.2,I⟩
 .show τ' mp'=.vmap d (c.o++[c.vs.length]).length
  rw[Dn];exact A
 .show w'.ownsRow B _ 1 vo' (c.o++[c.vs.length]).length _
  rw[Dn];exact D
 .have e:(c.o++[c.vs.length])[i]?=some k:=e
  rcases Cc i c.o.length with n|n
  .rw[Yn n]at e
   rw[Yn (by rw[f.ml];exact n)]at g;exact(f.o i m k g e).keep (X:=XE d) p j (r i)
  .rw[Yi n]at e
   rw[Yi (by rw[f.ml];exact n),f.ml]at g
   have s:i-c.o.length=0:=by
    have:=(List.getElem?_eq_some_iff.1 e).1;simp at this;omega
   rw[s]at e g;simp at e g;subst e g;have v:i=c.o.length:=O
   subst v;show FX τ' w' d c.o.length mp (c.vs.take c.vs.length) tm;rw[Y9];exact f.map.keep (X:=XE d) p j (r _)
 .show((c.o++[c.vs.length])++[c.vs.length]).Pairwise (·<=·)
  refine List.pairwise_append.2 ⟨f.ord,List.pairwise_singleton _ _,fun k e x E=>?_⟩;rw[List.mem_singleton.1 E];rcases List.mem_append.1 e with e|e
  .exact rI f.ord k e
  .rw[List.mem_singleton.1 e];exact Dy _
theorem rH.leave(e:rH B τ w d a pa c vc mp vo tm ms)(K:Below B w w')(p:d1 (fun k=>XE d (τ k)) w w'){q:List Nat}{n:Nat}(g:c.o=q++[n]){x:List Nat}{u:Nat}(y:ms=x++[u]){vo':C4}(L:w'.heap[a]?=some (FY vc c.pl u vo' pa))(V:w'.ownsRow B 163 1 vo' q.length (x.map fun m=>.map (some m)))(T:∀b,vo'.ownBlock=some b->τ b=.outr d):
 rH B τ w' d a pa { c with vs:=c.vs.take n,o:=q } vc u vo' (tm.take n) x:=by
 obtain⟨Z,G,aa⟩:=za2 (d:=d);have r:=e3.refl τ w;have S:n<=c.vs.length:=rI e.ord n (by rw[g];exact Yw _ (List.mem_singleton.2 rfl));have A:(q++[n]).Pairwise (·<=·):=g▸(List.pairwise_append.1 e.ord).1;have C:x.length=q.length:=by have:=e.ml;rw[g,y]at this;simp at this;omega
 have D:(c.vs.take n).length=n:=Kc
 have Q:=e.o q.length u n (by rw[y,Yi O,C,Yx];rfl) (by rw[g,Yi Zr,Yx];rfl);have F:=Q.keep (X:=XE d) p r (G _);refine⟨L,e.lab,e.code.keep (X:=XE d) p r K Z,by show(tm.take n).length=(c.vs.take n).length;rw[D,Yc,e.ll];omega,fun i l H t j=>?_,⟨F.1,?_⟩,C,V,T,fun i m k R f=>?_,?_⟩
 .have j:(c.vs.take n)[i]?=some H:=j
  rw[Y5]at t j;split at t
  .rename_i N
   rw[Dm N]at j;obtain⟨W,Y,v⟩:=e.cell i l H t j;have E:=kj (X:=XE d) p r W (aa i) Y;exact⟨E.1,E.2,v⟩
  .cases t
 .exact F.2.congr fun s=>UN s S
 .have f:q[i]?=some k:=f
  have M:=(List.getElem?_eq_some_iff.1 f).1;have P:k<=n:=rI A k (Ye f);have v:=(e.o i m k (by rw[y,Yn O];exact R) (by rw[g,Yn M];exact f)).keep (X:=XE d) p r (G i);have I:(c.vs.take n).take k=c.vs.take k:=by rw[List.take_take,Y6 P]
  refine⟨v.1,?_⟩;show eI w' m ((c.vs.take n).take k).length _ (eV ((c.vs.take n).take k) (tm.take n));rw[I];refine v.2.congr fun s=>?_
  unfold eV;cases hes:jf (c.vs.take k) s with
  |none=>rfl
  |some z=>
    have J:=yd hes;rw[Yc]at J;dsimp only;rw[Y5,Dm O]
 .show(q++[(c.vs.take n).length]).Pairwise (·<=·)
  rw[D];exact A
end
