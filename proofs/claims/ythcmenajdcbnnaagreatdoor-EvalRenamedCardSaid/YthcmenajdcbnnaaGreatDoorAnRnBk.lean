import Derived.Test.YthcmenajdcbnnaaGreatDoorAnEvAw
set_option linter.unusedSimpArgs false
set_option linter.unusedVariables false
set_option maxRecDepth 100000
set_option maxHeartbeats 99000000
namespace Go.Proofs.YthcmenajdcbnnaaGreatDoor
open Go.RowKit Tryz
variable{k:Int}{b c B n N:Nat}{w W w':C3}{p q:Pr}
theorem MM:∀l:List St,l.length<=d4 l
 |[]=>Dw _
 | .mk k t n a b c::r=>by
   have:=MM r;rw[d4,uC,Dp];omega
@[go_sem] theorem zdw(s t:C2)(w:C3):(Instr.build 102 #[(0,.string s),(1,.string t)]).run Tryz.prog w=.ok (.agg #[s,t]) w:=run_build w 102 _ _ (by kernel_rfl)
theorem QN{f:Int}{td:C2}{a:Nat}{d:Bool}(e:zj k f td a b c d=true):a<=2:=by
 unfold zj at e
 repeat' split at e
 all_goals(simp at e;try omega)
def WE(b:Nat)(w:C3)(l:List St)(a:qb)(n:Nat)(e:Ending)(w':C3):Prop:=
 ∃v,e=.returned v/\kD w.heap.size w' (zO l a n).1 v/\dX b w.heap.size w w'/\w'.heap[b]?=some (f4 ((zO l a n).2 :Nat))
def RbC(m:Nat):Prop:=∀(B b n:Nat) (l:List St) (a:qb) (c d:C4) (w:C3),d3 l m=true->B<=b->eN B w c l->rL w.heap.size (eG b w) d a->w.heap[b]?=some (f4 n)->n+d4 l<=1000000000->a.length+d4 l<=1000000000->
 Cy 45 #[(b,0),c,d] w (WE b w l a n)
theorem RbC.call{m:Nat}(e:RbC m){l:List St}{a:qb}{c d:C4}(f:d3 l m=true)(g:B<=b)(i:eN B w c l)(j:rL w.heap.size (eG b w) d a)(k:w.heap[b]?=some (f4 n))(o:n+d4 l<=1000000000)(p:a.length+d4 l<=1000000000):
 Cy 45 #[(b,0),c,d] w (WE b w l a n):=e B b n l a c d w f g i j k o p
theorem MN(m:Nat)(cd:∀m',m'+1=m->RbC m'):RbC m:=by
 intro B b n l d _ _ w bW aK bk s H cV cW;have bj:=zB H;obtain⟨_,c,rfl,_⟩:=bk.form;obtain⟨aU,bK,rfl,aO⟩:=s.form;obtain⟨cc,bT,b9,ca,br⟩:=info_parts MK;have X:=U (Do bT (Do b9 (Do ca br)));obtain⟨c5,bU,b6,b7,b8⟩:=info_parts LI;have aY:=U (Do bU (Do b6 (Do b7 b8)));have dp:=MM l;have bo:rL w.heap.size w (.slice aU d.length bK) d:=s.imp fun _ _ _ aL=>dZ.wm aL
 have ch:=U (show aU=none->d.length=0 from fun ak=>by
  obtain⟨cf,c',bp,_,hF⟩:=bo;injection bp with Q Z aa;by_cases bg:0<d.length
  .obtain⟨g,o,al,_⟩:=hF bg
   rw[<-Q,ak]at al;cases al
  .omega)
 have cG:=U (show ∀bf,aU=some bf->∀j bc,(d.flatMap kQ.cs)[j]?=some bc->w.cell? (bf.add j)=some bc from fun bf cU j bc b4=>by
  obtain⟨cf,c',bp,_,hF⟩:=bo;injection bp with Q Z aa;by_cases bg:0<d.length
  .obtain⟨g,o,al,c1⟩:=hF bg
   rw[<-Q,cU]at al;injection al with al;subst al;rw[show(⟨g,o,none⟩:Addr).add j=⟨g,o+j,none⟩by unfold Addr.add;split<;>simp_all];exact HZ d g o c1 j bc b4
  .obtain rfl:d=[]:=Yj O
   simp at b4)
 have cH:=U (zcc d);have cC:=U (zcb d);have cy:=U (Ym w w.heap.size 102 2);have cv:=U bk;have cB:=U bW;have bD:=U cd;have cP:=U H;clear bT b9 ca br bU b6 b7 b8 s bo bk bW cd H;go_enter func45,ntmps45
 go_wp2_with (at_builtin;refine yG rfl (.tmp 12) (.tmp 13) _ rfl w.heap.size 102 cc _ 2 32 underlying97 X.o.1 X.o.2.1 X.o.2.2.1 X.o.2.2.2 rfl O (.slice none 0 0) 0 [] rfl (by exact cy.o) aU d.length bK (d.flatMap kQ.cs) rfl cH.o ch.o cG.o cC.o Uv O Zr ?_
              intro va bw af ad;rw[Yo,Yy]at af;obtain⟨az,aB,rfl⟩:=zb af;have bi:Cx w bw:=Zb.grown ad Zr fun k M=>by cases M
              have cJ:=U (show ∃a,KT b w (.slice none 0 0) (.slice az d.length aB) [] d n a bw from by
               have mk:∀a,((Value.slice az d.length aB).ownBlock=some a\/(Value.slice az d.length aB).ownBlock=none/\a=b)->KT b w (.slice none 0 0) (.slice az d.length aB) [] d n a bw:=fun a ha=>
                ⟨eU.nil _ _,(fun k M=>by cases M),af,ha,dX.wb bi bj,(bi.block b bj).trans cP.o,bj⟩
               cases E:(Value.slice az d.length aB).ownBlock with
               |none=>exact⟨b,mk b (.inr ⟨E,rfl⟩)⟩
               |some a=>exact⟨a,mk a (.inl E)⟩)
              clear af ad bi)
 go_loopw [7,8,9] (fun c6 cR iv wr=>∃(j r a:Nat) (tj:qb) (u:List St),j<=l.length/\iv=.int .i64 j/\zO l d n=(u++(zO (l.drop j) tj r).1,(zO (l.drop j) tj r).2)/\u.length=j/\r+d4 (l.drop j)<=1000000000/\tj.length+d4 (l.drop j)<=1000000000/\KT b w c6 cR u tj r a wr) (fun _ _ iv _=>l.length-(intOf iv).toNat)
 case atStart=>
  obtain⟨a,ak⟩:=cJ.o;exact⟨0,n,a,d,[],Dw _,rfl,Ur,rfl,cV,cW,ak⟩
 case round=>
  obtain⟨j,r,a,tj,u,_,rfl,bQ,ba,aw,av,aR⟩:=hrel;obtain⟨aT,a2,rfl⟩:=aR.o.form;obtain⟨aV,a3,rfl⟩:=zb aR.row;subst ba;have b2:w.heap.size<=wr.heap.size:=aR.off.size;have bN:b<wr.heap.size:=O
  have p:=U aR;have bz:=U bQ;have cl:=U aw;have ck:=U av;clear aR bQ aw av;by_cases cZ:u.length<l.length
  .obtain⟨⟨k,f,td,tc,tg,th⟩,aM⟩:∃e,l[u.length]?=some e:=⟨_,Dz cZ⟩
   obtain⟨g,o,_,_,_,rfl,_,c7,c8,c9,da,q4,db,bt,bu,bv⟩:=(cv.o.below (jz p.o.off O aK) Zr).cells aM;obtain⟨N,P,rfl,_⟩:=bt.form;obtain⟨z,C,rfl,_⟩:=bu.form;obtain⟨v,y,rfl,_⟩:=bv.form;have dn:g<wr.heap.size:=O
   have bn:=rS cB.o aM;rw[jW]at bn;simp only[Dv,decide_eq_true_eq]at bn;obtain⟨⟨⟨⟨_,bR⟩,bM⟩,b3⟩,bP⟩:=bn;obtain⟨m',rfl⟩:∃m',m=m'+1:=⟨m-1,O⟩
   have cT:tc.length<=8:=by have:=QN bR;omega
   have ci:=U bM;have cO:=C0 (d3 tg m'=true) b3;have cn:=C0 (d3 th m'=true) bP;have cm:=U aM;have bO:=tC aM;have aw:=cl.o;have av:=ck.o;rw[bO]at aw av;have aX:=U aw;have aW:=U av;have a9:Cx wr (wr.alloc (.cells #[(k:Int),(f:Int),td,(N,tc.length,P),(z,tg.length,C),(v,th.length,y)] 139)):=Zb.alloc Zr _;have b5:(wr.alloc (.cells #[(k:Int),(f:Int),td,(N,tc.length,P),(z,tg.length,C),(v,th.length,y)] 139)).heap[wr.heap.size]?=some (ML k f td (.slice N tc.length P) (.slice z tg.length C) (.slice v th.length y)):=Dq wr _;have cb:(wr.alloc (.cells #[(k:Int),(f:Int),td,(N,tc.length,P),(z,tg.length,C),(v,th.length,y)] 139)).heap.size=wr.heap.size+1:=zA _ _;have cg:=C0 (xA (wr.alloc (.cells #[(k:Int),(f:Int),td,(N,tc.length,P),(z,tg.length,C),(v,th.length,y)] 139)).heap.size (wr.alloc (.cells #[(k:Int),(f:Int),td,(N,tc.length,P),(z,tg.length,C),(v,th.length,y)] 139)) (.slice N tc.length P) tc) (bt.below (a9.mono O) O);have cF:=C0 (rL (wr.alloc (.cells #[(k:Int),(f:Int),td,(N,tc.length,P),(z,tg.length,C),(v,th.length,y)] 139)).heap.size (wr.alloc (.cells #[(k:Int),(f:Int),td,(N,tc.length,P),(z,tg.length,C),(v,th.length,y)] 139)) (.slice aV tj.length a3) tj) (((fE p.o.row p.o.hb O).imp fun _ _ _ aL=>dZ.wm aL).below a9 O);have cK:=U bu;have cL:=U bv;have cj:=U a9;have cQ:=U b5;clear bt bu bv bM b3 bP aM bO aw av bR a9 b5
   go_upto_if 32 with(go_at_call 79
                      (with_reducible refine(HX.call (zaf 100) ci.o cT cg.o cF.o).mono ?_)
                      rintro x V ⟨_,rfl,hF,hb⟩;obtain⟨F,G,rfl,_⟩:=hF.form;rw[kN]at hF;simp only[kN];have br:wr.heap.size+1<=V.heap.size:=by rw[<-cb];exact hb.size
                      have bb:=(hb.block wr.heap.size O).trans cQ.o;obtain⟨⟨ao,Q,Z,aa,ap,aq⟩,ar⟩:=jh bb;have c2:wr.heap.size<V.heap.size:=O
                      have co:=C0 (jL (wr.heap.size+1) V (qO tj tc) (.slice F tc.length G)) (cb▸hF);have au:Cx wr V:=cj.o.trans (hb.mono O)
                      have cx:=U (show eR b wr.heap.size a wr V w (.slice aV tj.length a3) tj r a (ML k f td (.slice N tc.length P) (.slice z tg.length C) (.slice v th.length y)) V from {
                       ka:=fun q s _ _=>au.block q s
                       k2:=fun _ _ _=>rfl
                       sz:=Dy _
                       row:=qD p.o.row au Zr
                       own:=p.o.own
                       ha:=.inl rfl
                       off:=p.o.off.trans (dX.wb (au.mono b2) bN)
                       st:=(au.block b bN).trans p.o.st
                       box:=bb
                       hb:=p.o.hb
                       hm:=rfl
                       hm2:=c2
                       hw:=b2
                       ha0:=p.o.ha })
                      clear hF hb au)
   have an:=U (cx.o.set 3 (.slice F tc.length G) (bx':=ML k f td (.slice F tc.length G) (.slice z tg.length C) (.slice v th.length y)) (D0 bb _));generalize V.setCell (wr.heap.size,3) (F,tc.length,G)=W3 at *;clear bb ao Q Z aa ap aq ar c7 c8 c9 da q4 db;obtain⟨⟨aC,aD,aE,aF,aG,aH⟩,aI⟩:=jh an.o.box;have dv:wr.heap.size<W3.heap.size:=zB an.o.box;have dt:r<=1000000000:=Gi
   have dg:tj.length<=1000000000:=Gj
   have dm:u.length<=1000000000:=O
   have dE:w.heap.size<=W3.heap.size:=by have:=an.o.off.size;exact this
   obtain⟨M,cY⟩:∃M:Bool,(k == 1)=M:=⟨_,rfl⟩
   have aZ:=U cY
   go_cut [8,11] (fun cS nv dd=>∃L,eR b wr.heap.size a wr V w cS (jV k td tj r) (kY k r) L (ML k f td (.slice F tc.length G) (.slice z tg.length C) (.slice v th.length y)) dd)
   case first=>
    cases M with
    |false=>
      go_wp2_with fail
      go_meet
      have ae:k≠1:=Gl
      exact⟨a,by unfold jV kY;rw[Dl ae,Dl ae];exact an.o⟩
    |true=>
      have ae:k=1:=Gl
      have bF:=U ae;clear ae
      go_wp2_with (first
       | (go_at_call 44
          (with_reducible refine(BS b r W3 an.o.st O).mono ?_)
          rintro x ay ⟨rfl,E,H⟩;have aA:=U (an.o.step E H);obtain⟨⟨a4,f1,a5,f3,a6,a7⟩,a8⟩:=jh aA.o.box;have dw:wr.heap.size<ay.heap.size:=zB aA.o.box;have dF:w.heap.size<=ay.heap.size:=by have:=aA.o.off.size;exact this
          have b0:=eC.pre (K:=kQ) (cs:=[.string td,.string (vN r)]) (⟨aA.o.row,fun _ _=>trivial⟩:eC kQ w.heap.size ay (.slice aV tj.length a3) tj) O;have ai:=U b0
          clear E H b0)
       | (at_builtin;refine zy rfl (.tmp 35) (.tmp 40) _ rfl w.heap.size 102 cc _ 2 32 underlying97 X.o.1 X.o.2.1 X.o.2.2.1 X.o.2.2.2 rfl O (.slice aV tj.length a3) tj.length _ rfl (by exact ai.o.1) ⟨ay.heap.size,0,none⟩ 1 1 [.string td,.string (vN r)] rfl rfl (by exact ai.o.2.1) Uw Uv O (by exact ai.o.2.2) O ?_
          intro dc _ aP ad aQ;have D:=U (aA.o.grow (x:=(td,vN r)) (Zb.alloc Zr _) ad aQ (by rw[zag,Dn];exact aP))
          clear aP ad aQ))
      go_meet
      obtain⟨L,R⟩:=D.o;exact⟨L,by unfold jV kY;rw[Dm bF.o,Dm bF.o];exact R⟩
   case rest=>
    obtain⟨L,ax⟩:=hcut;obtain⟨bx,bL,rfl⟩:=zb ax.row;obtain⟨i,ab⟩:=Cz (jV k td tj r);obtain⟨n2,aO⟩:=Cz (kY k r);obtain⟨t,am⟩:=Cz (mE k td tj r);rw[ab,aO]at ax;simp only[ab];have ah:=U ax;have dq:n2<=r+1:=by rw[<-aO];unfold kY;split<;>omega
    have de:i.length<=tj.length+1:=by rw[<-ab];unfold jV;split<;>simp
    have be:=U (show jc (.mk k f td tc tg th) tj r=(.mk k f t (qO tj tc) (zO tg i n2).1 (zO th i (zO tg i n2).2).1,(zO th i (zO tg i n2).2).2)from by
     rw[jc,ab,aO,<-am];unfold mE
     rw[ab])
    have cw:=C0 (vy (.mk k f td tc tg th) tj r=i) ab;have bA:=C0 (k=1\/k=2->o4 i td=t) (fun ak=>by rw[<-am];unfold mE;rw[Dm ak,ab]);have cz:=C0 (¬(k=1\/k=2)->t=td) (fun ak=>by rw[<-am];unfold mE;rw[Dl ak]);have bH:=C0 (rL wc.heap.size wc (.slice bx i.length bL) i) ((fE ax.row ax.hb O).imp fun _ _ _ aL=>dZ.wm aL);clear ax ab aO am aC aD aE aF aG aH aI;obtain⟨⟨aC,aD,aE,aF,aG,aH⟩,aI⟩:=jh ah.o.box;have dx:wr.heap.size<wc.heap.size:=zB ah.o.box;obtain⟨R,cX⟩:∃R:Bool,(k == 2)=R:=⟨_,rfl⟩
    have bC:=U cX;have c4:M=true\/M=false/\R=true\/M=false/\R=false:=by cases M<;>cases R<;>simp
    rcases c4 with rfl|⟨rfl,rfl⟩|⟨rfl,rfl⟩
    case' inl=>
     have aN:=bA.o (.inl Gl)
    case' inr.inl=>
     have aN:=bA.o (.inr (by simpa using bC.o))
    case' inl=>
     have bd:=U aN;clear aN;go_upto_region 14 with(go_at_call 80;(with_reducible refine(lM _ i td t bd.o _ _ Zr bH.o).mono ?_);rintro x ay ⟨rfl,rfl⟩);have D:=U (ah.o.set 2 (.string t) (bx':=ML k f t (.slice F tc.length G) (.slice z tg.length C) (.slice v th.length y)) (D0 ah.o.box _));generalize wc.setCell (wr.heap.size,2) t=aj at *
     clear aC aD aE aF aG aH aI
    case' inr.inl=>
     have bd:=U aN;clear aN;go_upto_region 14 with(go_at_call 80;(with_reducible refine(lM _ i td t bd.o _ _ Zr bH.o).mono ?_);rintro x ay ⟨rfl,rfl⟩);have D:=U (ah.o.set 2 (.string t) (bx':=ML k f t (.slice F tc.length G) (.slice z tg.length C) (.slice v th.length y)) (D0 ah.o.box _));generalize wc.setCell (wr.heap.size,2) t=aj at *
     clear aC aD aE aF aG aH aI
    case' inr.inr=>
     go_upto_region 14 with fail
     have ae:¬(k=1\/k=2):=by
      have aJ:=aZ.o;have R:=bC.o;simp at aJ R;omega
     have am:=cz.o ae;have D:=C0 (eR b wr.heap.size a wr V w (.slice bx i.length bL) i n2 L (ML k f t (.slice F tc.length G) (.slice z tg.length C) (.slice v th.length y)) wc) (am▸ah.o);clear aC aD aE aF aG aH aI ae am;obtain⟨aj,rfl⟩:∃x,x=wc:=⟨_,rfl⟩
    all_goals
     have dy:wr.heap.size<aj.heap.size:=zB D.o.box;have dC:w.heap.size<=aj.heap.size:=D.o.off.size;have dk:b<aj.heap.size:=zB D.o.st;obtain⟨⟨ao,Q,Z,aa,ap,aq⟩,ar⟩:=jh D.o.box;have cD:=U (fE D.o.row D.o.hb O);have cM:=C0 (eN B aj (.slice z tg.length C) tg) (cK.o.below (D.o.bel aK p.o.off) Zr)
     go_upto_region 15 with(go_at_call 45
                            (with_reducible refine(RbC.call (bD.o m' rfl) cO.o aK cM.o cD.o D.o.st Gi Gj).mono ?_)
                            rintro x ag ⟨_,rfl,hF,E,H⟩;obtain⟨S,T,rfl,_⟩:=eN.form hF;rw[xI]at hF;simp only[xI];have a0:=U (D.o.step E H);have cp:=U hF;obtain⟨⟨a4,f1,a5,f3,a6,a7⟩,a8⟩:=jh a0.o.box;have dz:wr.heap.size<ag.heap.size:=zB a0.o.box;have dI:aj.heap.size<=ag.heap.size:=E.size
                            clear hF E H)
     have J:=U (a0.o.set 4 (.slice S tg.length T) (bx':=ML k f t (.slice F tc.length G) (.slice S tg.length T) (.slice v th.length y)) (D0 a0.o.box _));have bs:(ag.setCell (wr.heap.size,4) (S,tg.length,T)).heap.size=ag.heap.size:=Uu
     have cu:=C0 (∀q,q≠wr.heap.size->(ag.setCell (wr.heap.size,4) (S,tg.length,T)).heap[q]?=ag.heap[q]?) (fun q s=>Dx ag ⟨wr.heap.size,4,none⟩ _ q s);generalize ag.setCell (wr.heap.size,4) (S,tg.length,T)=W8 at *;have dJ:=Dt bs;have dK:=Dt bs.symm;clear bs;obtain⟨aS,bl⟩:=Cz ((zO tg i n2).2);have dr:aS<=n2+d4 tg:=by rw[<-bl];exact vh tg i n2
     rw[bl]at J be;clear ao Q Z aa ap aq ar a4 f1 a5 f3 a6 a7 a8 bl;obtain⟨⟨ao,Q,Z,aa,ap,aq⟩,ar⟩:=jh J.o.box;have dA:wr.heap.size<W8.heap.size:=zB J.o.box;have dD:w.heap.size<=W8.heap.size:=J.o.off.size;have dl:b<W8.heap.size:=zB J.o.st;have cE:=U (fE J.o.row J.o.hb O);have cN:=C0 (eN B W8 (.slice v th.length y) th) (cL.o.below (J.o.bel aK p.o.off) Zr)
     go_upto_region 16 with(go_at_call 45
                            (with_reducible refine(RbC.call (bD.o m' rfl) cn.o aK cN.o cE.o J.o.st Gi Gj).mono ?_)
                            rintro x w9 ⟨_,rfl,hF,E,H⟩;obtain⟨W,Y,rfl,_⟩:=eN.form hF;rw[xI]at hF;simp only[xI];have a1:=U (J.o.step E H);have cq:=U hF;have cA:=U E;obtain⟨⟨a4,f1,a5,f3,a6,a7⟩,a8⟩:=jh a1.o.box;have dB:wr.heap.size<w9.heap.size:=zB a1.o.box;have dL:W8.heap.size<=w9.heap.size:=E.size
                            clear hF E H)
     have I:=U (a1.o.set 5 (.slice W th.length Y) (bx':=ML k f t (.slice F tc.length G) (.slice S tg.length T) (.slice W th.length Y)) (D0 a1.o.box _));have bq:(w9.setCell (wr.heap.size,5) (W,th.length,Y)).heap.size=w9.heap.size:=Uu
     have bG:=C0 (∀q,q≠wr.heap.size->(w9.setCell (wr.heap.size,5) (W,th.length,Y)).heap[q]?=w9.heap[q]?) (fun q s=>Dx w9 ⟨wr.heap.size,5,none⟩ _ q s);generalize w9.setCell (wr.heap.size,5) (W,th.length,Y)=W10 at *;have dG:=Dt bq;have dH:=Dt bq.symm;clear bq;obtain⟨ce,bm⟩:=Cz ((zO th i aS).2);have ds:ce<=aS+d4 th:=by rw[<-bm];exact vh th i aS
     rw[bm]at I be;clear ao Q Z aa ap aq ar a4 f1 a5 f3 a6 a7 a8 bm;obtain⟨⟨ao,Q,Z,aa,ap,aq⟩,ar⟩:=jh I.o.box;have du:wr.heap.size<W10.heap.size:=zB I.o.box;have c3:w.heap.size<=W10.heap.size:=I.o.off.size;have af:=p.o.o.own;rw[qk]at af;have au:=p.o.hb;have df:=I.o.ha;have ha0:=I.o.ha0;have hm2:=I.o.hm2
     have bV:∀q,(Value.slice aT u.length a2).ownBlock=some q->q≠L:=fun q s=>by
      have aJ:=af q s;have R:=p.o.ne q s;omega
     have b1:eU w.heap.size (eG L W10) (.slice aT u.length a2) u:=p.o.o.shift O (fun q s _ c0=>I.o.ka q s c0 O) O p.o.ne;have bJ:=U b1;have dh:=D.o.alt;have di:=J.o.alt
     have bS:e6 (wr.heap.size+1) (eG L W10) (.mk k f t (qO tj tc) (zO tg i n2).1 (zO th i aS).1) (.agg #[(k:Int),(f:Int),t,(F,tc.length,G),(S,tg.length,T),(W,th.length,Y)]):=by
      refine⟨_,_,_,rfl,?_,?_,?_⟩
      .exact co.o.hole I.o.sz (fun q s bh=>I.o.k2 q s bh) O
      .exact(cp.o.hole (w':=W10) (a:=L) O (fun q s bh=>(bG.o q O).trans ((cA.o.block O O).trans (cu.o q O))) O).keep (zK.refl _ _) O
      .exact(cq.o.hole (w':=W10) (a:=L) O (fun q s bh=>bG.o q O) O).keep (zK.refl _ _) O
     have ct:=U bS;obtain⟨bX,bY,bZ⟩:=WD bJ.o bV (.int .i64 k) (.int .i64 f) (.string t) (.slice F tc.length G) (.slice S tg.length T) (.slice W th.length Y) c3;have ai:=U (Do bX (Do bY bZ));clear af bV b1 bS bX bY bZ
     go_wp2_with (at_builtin;refine zy rfl (.tmp 67) (.tmp 69) _ rfl w.heap.size 139 c5 _ 6 104 underlying91 aY.o.1 aY.o.2.1 aY.o.2.2.1 aY.o.2.2.2 rfl O (.slice aT u.length a2) u.length _ rfl (by exact ai.o.1) ⟨W10.heap.size,0,none⟩ 1 1 [.int .i64 k,.int .i64 f,.string t,.slice F tc.length G,.slice S tg.length T,.slice W th.length Y] rfl rfl (by exact ai.o.2.1) Uw Uv O (by exact ai.o.2.2) O ?_
                  intro dc _ aP ad aQ;have cr:=U (I.o.fin p.o bJ.o ct.o ad aQ aP)
                  clear aP ad aQ)
     go_roundw
     case rel=>
      refine⟨u.length+1,ce,L,i,_,O,by go_num,?_,Ur,?_,?_,cr.o⟩
      .rw[bz.o,fL cm.o,zO,be.o,cw.o]
       simp
      .have:=aX.o;omega
      .have:=aW.o;omega
     case measure=>simp[intOf];omega
  .have ba:u.length=l.length:=by omega
   have bI:=U (show u=(zO l d n).1/\r=(zO l d n).2 from by
    have aJ:=bz.o;rw[ba,List.drop_length,zO]at aJ;rw[aJ]
    simp)
   have cI:=C0 (kD w.heap.size wr u (.slice aT u.length a2)) (kD.wm (p.o.o.read O));clear ba;go_wp2_with fail;go_ret;refine⟨_,rfl,?_,p.o.off,?_⟩
   .rw[<-bI.o.1];exact cI.o
   .rw[<-bI.o.2];exact p.o.st
theorem zcd:∀m,RbC m:=fun m=>by
 induction m with
 |zero=>exact MN 0 fun m' a=>absurd a O
 | succ m b=>exact MN (m+1) fun m' a=>by obtain rfl:m'=m:=(by omega);exact b
section
variable {β:Type}{K:FO β}{B L:Nat} {w w':C3}{v:C4}{ps qs:List β}
theorem H0(K:FO β):∀l:List β,(l.flatMap K.cs).length=l.length*K.n
 |[]=>Ur
 |x::r=>by rw[Y2,Dn,H0 K r,K.len,Dp,Nat.add_mul];omega
theorem osK{α:Type}(K:FO β)(f:β->α){N:Nat}{W:C3}{g:Nat}{F:α->Nat->Nat->Prop}(hF:∀a o,F a g o->∃p,f p=a/\(∀j b,(K.cs p)[j]?=some b->dZ N W g (o+j) b)/\K.inn N W p):
 ∀(l:List α) (o:Nat),uI K.n F l g o->∃ps:List β,ps.map f=l/\(∀j b,(ps.flatMap K.cs)[j]?=some b->dZ N W g (o+j) b)/\∀p∈ps,K.inn N W p
 |[],_,_=>⟨[],rfl,fun j b d=>by simp at d,fun p w=>by cases w⟩
 | a::r,o,d=>by
   obtain⟨p,k,m,s⟩:=hF a o d.1;obtain⟨ps,t,u,v⟩:=osK K f hF r (o+K.n) d.2;refine⟨p::ps,by rw[Yb,k,t],fun j b c=>?_,fun q e=>?_⟩
   .rw[Y2]at c
    by_cases i:j<(K.cs p).length
    .rw[Yn i]at c
     exact m j b c
    .rw[Yi O,K.len]at c
     rw[K.len]at i;have:=u (j-K.n) b c;rwa [show o+K.n+(j-K.n)=o+j by omega]at this
   .rcases List.mem_cons.1 e with rfl|e
    .exact s
    .exact v q e
end
structure Src {β:Type} (K:FO β) (N:Nat) (w:C3) (A:Option Addr) (n:Nat) (os:List β):Prop where
 len:n=os.length
 le:n<=281474976710656
 nil:A=none->n=0
 cel:∀ad,A=some ad->∀j u,(os.flatMap K.cs)[j]?=some u->ad.block<N/\w.cell? (ad.add j)=some u
 inn:∀p∈os,K.inn N w p
theorem zce{α β:Type}(K:FO β)(f:β->α){k:Option Addr}{n c:Nat}{l:List α}{F:α->Nat->Nat->Prop}(hF:∀g a o,F a g o->∃p,f p=a/\(∀j b,(K.cs p)[j]?=some b->dZ N W g (o+j) b)/\K.inn N W p)
 (i:vR (.slice k n c) l.length (uI K.n F l)):∃os:List β,os.map f=l/\Src K N W k n os:=by
 obtain⟨_,c',C,s,B⟩:=i;injection C with u v w;subst u v w;by_cases x:0<l.length
 .obtain⟨g,o,r,z⟩:=B x
  obtain⟨ps,m,q,y⟩:=osK K f (hF g) l o z;refine⟨ps,m,by rw[<-m,Yd],s,fun i=>absurd (r.symm.trans i) Ur,fun t d j b e=>?_,y⟩;rw[r]at d;injection d with d;subst d;rw[show(⟨g,o,none⟩:Addr).add j=⟨g,o+j,none⟩by unfold Addr.add;split<;>simp_all];exact⟨(q j b e).1,(q j b e).2⟩
 .obtain rfl:l=[]:=Yj O
  exact⟨[],rfl,rfl,s,fun _=>rfl,fun t _ j b e=>by simp at e,fun p A=>by cases A⟩
theorem Src.below{β:Type}{K:FO β}{c:Option Addr}{os:List β}(a:Src K N w c n os)(d:Below N w w'):Src K N w' c n os where
 len:=a.len
 le:=a.le
 nil:=a.nil
 cel ad had j b hu:=⟨(a.cel ad had j b hu).1,(d.cell (p:=ad.add j) (by have:=(a.cel ad had j b hu).1;unfold Addr.add;split<;>exact this)).trans (a.cel ad had j b hu).2⟩
 inn p hp:=K.mono p (fun g o b e=>e.below d Zr) (a.inn p hp)
theorem Src.elems{β:Type}{K:FO β}{A:Option Addr}{os:List β}(h:Src K N w A n os):(os.flatMap K.cs).length=n*K.n:=by rw[H0,h.len]
theorem zah{e:Option Addr}{l:List Ar}(d:eZ N w (.slice e n c) l):Src kA N w e n l:=by
 obtain⟨os,f,i⟩:=zce kA (fun p=>p) (F:=fun a g o=>RF N w a g o) (fun g a o d=>⟨a,rfl,fun j _ b=>by
  match j with
  |0=>simp[kA]at b;subst b;exact d.1
  |1=>simp[kA]at b;subst b;exact d.2
  |j+2=>simp[kA]at b,trivial⟩) d
 rw[List.map_id']at f;exact f▸i
theorem zcf{β:Type}(K:FO β)(c:∀N w p,K.inn N w p->∀a∈K.cs p,a.oneCell'=true){os:List β}(b:∀p∈os,K.inn N w p):∀a∈os.flatMap K.cs,a.oneCell'=true:=fun a e=>by
 obtain⟨p,d,f⟩:=List.mem_flatMap.1 e;exact c N w p (b p d) a f
theorem zcg:∀N w p,kA.inn N w p->∀b∈kA.cs p,b.oneCell'=true:=fun N w p _ b a=>by
 simp[kA]at a;rcases a with rfl|rfl<;>rfl
structure hQ (b c B:Nat) (w w':C3):Prop where
 os:w'.os=w.os
 tape:w'.tape=w.tape
 output:w'.output=w.output
 size:w.heap.size<=w'.heap.size
 block:∀k,k<B->k≠b->k≠c->w'.heap[k]?=w.heap[k]?
theorem hQ.refl(b c B:Nat)(w:C3):hQ b c B w w:=⟨rfl,rfl,rfl,Dy _,fun _ _ _ _=>rfl⟩
theorem hQ.trans{i:C3}(a:hQ b c B w w')(g:hQ b c B w' i):hQ b c B w i:=⟨g.os.trans a.os,g.tape.trans a.tape,g.output.trans a.output,Dr a.size g.size,fun k d e f=>(g.block k d e f).trans (a.block k d e f)⟩
theorem hQ.wb(a:Below B w w'):hQ b c B w w':=⟨a.os,a.tape,a.output,a.size,fun k d _ _=>a.block k d⟩
theorem hQ.below(h:hQ b c B w w')(_:N<=B)(_:N<=b)(_:N<=c):Below N w w':=⟨h.os,h.tape,h.output,h.size,fun k _=>h.block k O O O⟩
theorem hQ.set{g:Nat}(h:hQ b c B w w')(_:B<=g\/g=b\/g=c)(i:Nat)(u:C4):hQ b c B w (w'.setCell (g,i) u):=
 h.trans ⟨rfl,rfl,rfl,Uu,fun k _ _ _=>Dx w' _ u k Gp⟩
theorem wC:∀(l:List Pa) (x:Pa) (n:Nat),d8 (l++[x]) n=d8 l n++[⟨vN (n+l.length),x.type⟩]
 |[],x,n=>by rw[Yy,d8,d8,d8];rfl
 |y::r,x,n=>by rw[Ys,d8,wC r x (n+1),d8,Dp,show n+1+r.length=n+(r.length+1)by omega];rfl
theorem lN{α:Type}{l:List α}{i:Nat}{e:α}(h:l[i]?=some e):l.take (i+1)=l.take i++[e]:=by
 rw[Yr,h];rfl
theorem zch{M:Nat}{f:Fu}{a b:C4}(c:x3 M W f.params a)(d:kD M W f.body b):FrK kF M W ⟨f,a,b⟩:=by
 show e5 W.heap.size (eE (i3 M) W) a f.params/\eN W.heap.size (eE (i3 M) W) b f.body;exact⟨c,d⟩
def lO(p:Pr):Pr×Int:=if(xy p).1=0 then(qJ p,0)else(xT,1)
def WF(p:Pr)(w:C3)(e:Ending)(w':C3):Prop:=
 ∃a b,e=.returned (.tuple #[.agg #[a,b],.int .i64 (lO p).2])/\Cx w w'/\BP w.heap.size w' (lO p).1 (.agg #[a,b])
structure H1 (w:C3) (bx:Obj) (W:C3):Prop where
 bel:Cx w W
 box:W.heap[w.heap.size]?=some bx
 res:W.heap[w.heap.size+1]?=some eM
section
variable {w:C3}{bx:Obj} {W W':C3}
theorem H1.below(a:H1 w bx W)(b:Cx W W'):H1 w bx W':=⟨a.bel.trans (b.mono a.bel.size),(b.block _ (zB a.box)).trans a.box,(b.block _ (zB a.res)).trans a.res⟩
theorem H1.keep(a:H1 w bx W){M:Nat}(b:Below M W W')(_:w.heap.size+2<=M):H1 w bx W':=⟨a.bel.trans (b.mono O),(b.block _ O).trans a.box,(b.block _ O).trans a.res⟩
end
theorem zci{b:Nat}{T:TypeId}{m:Nat}{v:C4}{c:List C4}(f:W.ownsRow B T n v m c)(_:b<=B):W.ownsRow b T n v m c:=by
 obtain⟨i,a⟩:=f;refine⟨i,?_⟩;rcases a with a|⟨g,d,e,k,_,j⟩
 .exact .inl a
 .exact .inr ⟨g,d,e,k,O,j⟩
theorem BU:∀(l:List Pa) (x:Pa) (n:Nat),eL (l++[x]) n=eL l n++[(x.name,vN (n+l.length))]
 |[],x,n=>by rw[Yy,eL,eL,eL];rfl
 |y::r,x,n=>by rw[Ys,eL,BU r x (n+1),eL,Dp,show n+1+r.length=n+(r.length+1)by omega];rfl
structure H7 (W0:C3) (bx bg:Nat) (f:Fu) (k jn j:Nat) (nv pv:C4) (W:C3):Prop where
 off:hQ bx bg W0.heap.size W0 W
 st:W.heap[bx]?=some (f4 (k:Nat))
 gb:W.heap[bg]?=some (.cells #[f.name,(f.type:Int),pv,()] 93)
 nr:W.ownsRow W0.heap.size 102 2 nv jn ((eL (f.params.take jn) 0).flatMap kQ.cs)
 pr:W.ownsRow W0.heap.size 100 2 pv j ((d8 (f.params.take j) 0).flatMap kP.cs)
 ne:∀q,nv.ownBlock=some q->pv.ownBlock≠some q
 hx:bx<W0.heap.size
 hg:bg<W0.heap.size
 xg:bx≠bg
section
variable {W0:C3}{bx bg:Nat}{f:Fu}{k jn j:Nat}{nv pv:C4} {W W':C3}
theorem H7.below(a:H7 W0 bx bg f k jn j nv pv W)(b:Cx W W'):H7 W0 bx bg f k jn j nv pv W' where
 off:=a.off.trans (hQ.wb (b.mono a.off.size))
 st:=(b.block _ (zB a.st)).trans a.st
 gb:=(b.block _ (zB a.gb)).trans a.gb
 nr:=qD a.nr b Zr
 pr:=qD a.pr b Zr
 ne:=a.ne
 hx:=a.hx
 hg:=a.hg
 xg:=a.xg
theorem H7.next(a:H7 W0 bx bg f k jn j nv pv W)(b:dX bx W.heap.size W W'){d:Nat}(i:W'.heap[bx]?=some (f4 (d:Nat))):H7 W0 bx bg f d jn j nv pv W' where
 off:=a.off.trans ⟨(show Below _ (eG bx W) (eG bx W')from b).os,(show Below _ (eG bx W) (eG bx W')from b).tape,(show Below _ (eG bx W) (eG bx W')from b).output,b.size,fun q e g _=>b.block (D6 e a.off.size) g⟩
 st:=i
 gb:=(b.block (zB a.gb) a.xg.symm).trans a.gb
 nr:=zZ a.nr fun q c=>b.block (zo a.nr q c).1 (by have:=(zo a.nr q c).2;have:=a.hx;omega)
 pr:=zZ a.pr fun q c=>b.block (zo a.pr q c).1 (by have:=(zo a.pr q c).2;have:=a.hx;omega)
 ne:=a.ne
 hx:=a.hx
 hg:=a.hg
 xg:=a.xg
theorem BV{b c B:Nat}{w w':C3}{d:Option Nat}(a:w.grownBy w' d)(_:B<=w.heap.size)(f:∀q,d=some q->B<=q):hQ b c B w w':=⟨a.os,a.tape,a.output,a.size,fun q _ _ _=>a.block q O (fun e=>by have:=f q e.symm;omega)⟩
theorem H7.names(a:H7 W0 bx bg f k jn j nv pv W){x:Pa}(p:f.params[jn]?=some x){l:C4}(m:W.grownBy W' nv.ownBlock)(v:kn W nv l)
 (u:W'.ownsRow W0.heap.size 102 2 l (jn+1) ((eL (f.params.take jn) 0).flatMap kQ.cs++[.string x.name,.string (vN jn)])):H7 W0 bx bg f k (jn+1) j l pv W':=by
 have r:=a.off.size;have i:=zo a.nr;have n:=zo a.pr;have y:jn<f.params.length:=(List.getElem?_eq_some_iff.1 p).1;have d:∀q,q<W.heap.size->nv.ownBlock≠some q->W'.heap[q]?=W.heap[q]?:=fun q b t=>m.block q b (fun e=>t e.symm)
 have w:=a.hx;have s:=a.hg;refine⟨a.off.trans (BV m r fun q b=>(i q b).2),(d bx (zB a.st) (fun e=>by have:=(i bx e).2;omega)).trans a.st,(d bg (zB a.gb) (fun e=>by have:=(i bg e).2;omega)).trans a.gb,?_,zZ a.pr fun q b=>d q (n q b).1 (fun e=>a.ne q e b),fun q b o=>?_,w,s,a.xg⟩
 .rw[lN p,BU,Cq,Yo,Yc,Y6 O]
  exact u
 .rcases v with c|⟨g,c,_⟩
  .exact a.ne q (c▸b) o
  .rw[c]at b
   injection b with b;have:=(n q o).1;omega
theorem H7.pars(a:H7 W0 bx bg f k jn j nv pv W){x:Pa}(t:f.params[j]?=some x){c:C4}(p:W.grownBy W' pv.ownBlock)(y:kn W pv c)
 (s:W'.ownsRow W0.heap.size 100 2 c (j+1) ((d8 (f.params.take j) 0).flatMap kP.cs++[.string (vN j),.int .i64 x.type])):
 (W'.heap[bg]?=some (.cells #[f.name,(f.type:Int),pv,()] 93))/\H7 W0 bx bg f k jn (j+1) nv c (W'.setCell (bg,2) c):=by
 have u:=a.off.size;have n:=zo a.pr;have m:=zo a.nr;have A:j<f.params.length:=(List.getElem?_eq_some_iff.1 t).1;have l:∀q,q<W.heap.size->pv.ownBlock≠some q->W'.heap[q]?=W.heap[q]?:=fun q b w=>p.block q b (fun e=>w e.symm)
 have z:=a.hx;have v:=a.hg;have r:=(l bg (zB a.gb) (fun e=>by have:=(n bg e).2;omega)).trans a.gb;have o:∀q,q≠bg->(W'.setCell (bg,2) c).heap[q]?=W'.heap[q]?:=fun q b=>Dx W' _ _ q b
 refine⟨r,(a.off.trans (BV p u fun q b=>(n q b).2)).set (.inr (.inr rfl)) 2 _,(o bx a.xg).trans ((l bx (zB a.st) (fun e=>by have:=(n bx e).2;omega)).trans a.st),D0 r _,zZ a.nr fun q b=>(o q (by have:=(m q b).2;omega)).trans (l q (m q b).1 (fun e=>a.ne q b e)),?_,fun q b d=>?_,z,v,a.xg⟩
 .rw[lN t,wC,Cq,Yo,Yc,Y6 O]
  exact zZ s fun q b=>o q (by have:=(zo s q b).2;omega)
 .rcases y with i|⟨g,i,_⟩
  .exact a.ne q b (i▸d)
  .rw[i]at d
   injection d with d;have:=(m q b).1;omega
end
structure DR (w:C3) (p:Pr) (bx:Obj) (bo M:Nat) (va fv:C4) (fs:List DU) (W:C3):Prop where
 mid:H1 w bx W
 ob:W.heap[bo]?=some (.cells #[va,fv] 27)
 arr:eC kA (bo+1) W va p.wa
 ab:∀j,va.ownBlock=some j->j<M
 di:eC kF M W fv fs
 hb:w.heap.size+2<=bo
 bM:bo<M
 sz:M<=W.heap.size
section
variable {w:C3}{p:Pr}{bx:Obj}{bo M:Nat}{va fv:C4}{fs:List DU} {W W':C3}
theorem DR.below(h:DR w p bx bo M va fv fs W)(hb:Cx W W'):DR w p bx bo M va fv fs W' where
 mid:=h.mid.below hb
 ob:=(hb.block _ (zB h.ob)).trans h.ob
 arr:=h.arr.keep (zK.wb hb)
 ab:=h.ab
 di:=h.di.keep (zK.wb hb)
 hb:=h.hb
 bM:=h.bM
 sz:=Dr h.sz hb.size
theorem DR.app(a:DR w p bx bo M va fv fs W){L:Nat}{q:DU}(b:FrK kF L W q)(m:M<=L)(r:∀j,fv.ownBlock=some j->j<L){o:Obj}{c:C4}(f:(W.alloc o).grownBy W' fv.ownBlock)(z:kn (W.alloc o) fv c)
 (x:W'.ownsRow M kF.T kF.n c (fs.length+1) (fs.flatMap kF.cs++kF.cs q)):
 W'.heap[bo]?=some (.cells #[va,fv] 27)/\DR w p bx bo M va c (fs++[q]) (W'.setCell (bo,1) c):=by
 have d:Cx W (W.alloc o):=Zb.alloc Zr _;have y:=a.di.own;have u:∀q,q<W.heap.size->fv.ownBlock≠some q->W'.heap[q]?=W.heap[q]?:=fun q b v=>(f.block q (by have:=d.size;omega) (fun e=>v e.symm)).trans (d.block q b)
 have s:=a.hb;have g:=a.bM;have B:=a.sz;have i:∀q,q<M->W'.heap[q]?=W.heap[q]?:=fun q b=>u q O (fun e=>by have:=(y q e).2;omega)
 have k:=(i bo g).trans a.ob;have l:∀q,q≠bo->(W'.setCell (bo,1) c).heap[q]?=W'.heap[q]?:=fun q b=>Dx W' _ _ q b
 have A:W.heap.size<=W'.heap.size:=Dr d.size f.size;have C:(W'.setCell (bo,1) c).heap.size=W'.heap.size:=Uu
 have t:Below (w.heap.size+2) W (W'.setCell (bo,1) c):=⟨f.os.trans d.os,f.tape.trans d.tape,f.output.trans d.output,O,fun q b=>(l q O).trans (i q O)⟩
 refine⟨k,a.mid.keep t Zr,D0 k _,⟨zZ a.arr.1 fun q b=>(l q (by have:=(a.arr.own q b).2;omega)).trans (i q (a.ab q b)),fun _ _=>trivial⟩,a.ab,?_,s,g,O⟩;exact(a.di.app b m r d f z x).keep (zK.set g 1 _)
end
theorem zai{g:Nat}{c b:C4}{T:TypeId}(d:W.heap[g]?=some (.cells #[c,b] T (0,0)))(a:C4):(W.setCell (g,0) a).heap[g]?=some (.cells #[a,b] T (0,0)):=D0 d a
@[go_sem] theorem zdg(s:C2)(t:Int)(w:C3):(Instr.build 100 #[(0,.string s),(1,.int .i64 t)]).run Tryz.prog w=.ok (.agg #[s,(t:Int)]) w:=run_build w 100 _ _ (by kernel_rfl)
@[go_sem] theorem zdh(s:C2)(t:Int)(w:C3):(Instr.build 93 #[(0,.string s),(1,.int .i64 t)]).run Tryz.prog w=.ok (.agg #[s,(t:Int),(),()]) w:=run_build w 93 _ _ (by kernel_rfl)
theorem H2(B:Nat)(p:Pr)(cm ap:C4)(w:C3)(aA:B<=w.heap.size)(aW:eZ B w cm p.wa)(aZ:e0 B w ap p.funcs)(b3:e4 p):
 Cy 24 #[.agg #[cm,ap]] w (WF p w):=by
 obtain⟨l,n,rfl,_⟩:=aW.form;obtain⟨t,A,rfl,_⟩:=aZ.form;obtain⟨⟨aL,Q,R⟩,bJ⟩:=Cz (xy p);have bC:Cx w ((w.alloc (qW l p.wa.length n t p.funcs.length A)).alloc eM):=(Zb.alloc Zr _).alloc Ut _;have af:=C0 (H1 w (qW l p.wa.length n t p.funcs.length A) ((w.alloc (qW l p.wa.length n t p.funcs.length A)).alloc eM)) ⟨bC,qI (Dq w _) _,by have:=Dq (w.alloc (qW l p.wa.length n t p.funcs.length A)) eM;rw[zA]at this;exact this⟩;have be:((w.alloc (qW l p.wa.length n t p.funcs.length A)).alloc eM).heap.size=w.heap.size+2:=by rw[zA,zA]
 obtain⟨c4,bV,ca,ba,cb⟩:=info_parts MK;have ar:=U (Do bV (Do ca (Do ba cb)));obtain⟨c5,bW,b7,b8,b9⟩:=info_parts LK;have aw:=U (Do bW (Do b7 (Do b8 b9)));obtain⟨c6,bY,an,ao,P⟩:=info_parts LL;have ax:=U (Do bY (Do an (Do ao P)));obtain⟨c7,bZ,b4,b5,b6⟩:=info_parts LM;have ay:=U (Do bZ (Do b4 (Do b5 b6)));have bl:=U aW;have bo:=U aZ;have ag:=U b3;have aI:=U bJ;clear aW aZ b3 bJ bC bV ca ba cb bW b7 b8 b9 bY an ao P bZ b4 b5 b6;have dv:=ag.o.n1;have dw:=ag.o.n2;go_enter func24,ntmps24;go_upto_region 1 with fail;generalize(w.alloc (qW l p.wa.length n t p.funcs.length A)).alloc eM=WA at *;have dR:=Dt be;have dU:=Dt be.symm;clear be;obtain⟨⟨aM,aN⟩,aO⟩:=zD af.o.box;have dD:w.heap.size<WA.heap.size:=O
 have bm:=U (JS B p (aL,Q,R) (.slice l p.wa.length n) (.slice t p.funcs.length A) WA O (bl.o.below (af.o.bel.mono aA) Zr) (bo.o.below (af.o.bel.mono aA) Zr) ag.o.cn aI.o);by_cases aV:aL=0
 case neg=>
  have dx:(aL != 0)=true:=by simpa using aV
  go_upto_region 2 with(go_at_call 34;(with_reducible refine(bm.o).mono ?_);rintro e V ⟨rfl,F⟩
                        have ae:=U (af.o.below (F.alloc (by have:=F.size;omega) (.cells #[((Q:Int):Int),(eH R:Int)] 62)));have r:w.heap.size+1<(V.alloc (.cells #[((Q:Int):Int),(eH R:Int)] 62)).heap.size:=by have:=F.size;rw[zA];omega
                        clear F)
  generalize V.alloc (.cells #[((Q:Int):Int),(eH R:Int)] 62)=W1 at *;obtain⟨⟨bi,bj⟩,dc⟩:=zD ae.o.res;go_wp2_with fail;obtain⟨ai,f1⟩:=jd ae.o.res (.slice none 0 0) (.slice none 0 0);refine bodyPost_ret (v:=.tuple #[.agg #[(),()],(1:Int)]) (by simp[results,results24,go_sem,ai,f1]) rfl ?_;have b1:lO p=(xT,1):=by unfold lO;rw[aI.o,Dl aV]
  refine⟨_,_,by rw[b1],ae.o.bel.trans (qY Zb O _ _),?_⟩;rw[b1];exact⟨_,_,rfl,q2 _ _,⟨none,0,rfl,Dw _,fun cS=>absurd cS (by simp[xT])⟩⟩
 case pos=>
  subst aV;have cN:=U (zah bl.o)
  go_upto_region 4 with(go_at_call 34;(with_reducible refine(bm.o).mono ?_);rintro e V ⟨rfl,F⟩
                        have ae:=U (af.o.below (F.alloc (by have:=F.size;omega) (.cells #[((Q:Int):Int),(eH R:Int)] 62)));have ba:WA.heap.size<=V.heap.size:=F.size;have bb:(V.alloc (.cells #[((Q:Int):Int),(eH R:Int)] 62)).heap.size=V.heap.size+1:=zA _ _
                        clear F)
  generalize V.alloc (.cells #[((Q:Int):Int),(eH R:Int)] 62)=W1 at *;have dH:=Dt bb;have dI:=Dt bb.symm;clear bb aM aN aO;have bK:Cx W1 (W1.alloc eM):=Zb.alloc Zr _;have P:(W1.alloc eM).heap[W1.heap.size]?=some eM:=Dq W1 _;have bc:(W1.alloc eM).heap.size=W1.heap.size+1:=zA _ _;go_upto_region 5 with fail;generalize W1.alloc eM=W2 at *;have aH:=U (ae.o.below bK);have bv:=U P;have dJ:=Dt bc;have dK:=Dt bc.symm;clear bK P bc;obtain⟨⟨aM,aN⟩,aO⟩:=zD aH.o.box;obtain⟨⟨cP,cQ⟩,cR⟩:=zD bv.o;have aD:w.heap.size<W2.heap.size:=O
  have c1:W1.heap.size<W2.heap.size:=O
  have az:=C0 (Src kA B W2 l p.wa.length p.wa) (cN.o.below (aH.o.bel.mono aA));have cD:=U (Ym W2 W2.heap.size 80 2)
  go_upto_region 6 with(at_builtin;refine yG rfl (.tmp 23) (.tmp 25) _ rfl W2.heap.size 80 c6 _ 2 24 underlying24 ax.o.1 ax.o.2.1 ax.o.2.2.1 ax.o.2.2.2 rfl O (.slice none 0 0) 0 [] rfl (by exact cD.o) l p.wa.length n (p.wa.flatMap kA.cs) rfl az.o.elems az.o.nil (fun cO cU j bk c3=>(az.o.cel cO cU j bk c3).2) (zcf kA zcg az.o.inn) Uv O Zr ?_
                        intro va s aC bT;rw[Yo,Yy]at aC;obtain⟨z,E,rfl⟩:=zb aC;have ak:Cx W2 s:=Zb.grown bT Zr fun k bX=>by cases bX
                        have bq:=U aC;have dn:=U ak;have dL:W2.heap.size<=s.heap.size:=ak.size;have bw:=U ((ak.block W1.heap.size c1).trans bv.o);have cC:=U (aH.o.below ak);have c2:W1.heap.size<s.heap.size:=O
                        obtain⟨⟨aQ,aR⟩,aS⟩:=zD bw.o
                        clear aC bT ak)
  have cJ:=U (show DR w p (qW l p.wa.length n t p.funcs.length A) W1.heap.size s.heap.size (.slice z p.wa.length E) (.slice none 0 0) [] (s.setCell (W1.heap.size,0) (z,p.wa.length,E))from {
   mid:=cC.o.keep (Zb.setCell (p:=(W1.heap.size,0)) Zr _) (show w.heap.size+2<=W1.heap.size by omega)
   ob:=zai bw.o _
   arr:=by
    have S:eC kA (W1.heap.size+1) s (.slice z p.wa.length E) p.wa:=⟨zci bq.o O,fun _ _=>trivial⟩
    exact S.keep (zK.set O _ _)
   ab:=fun j a2=>(zo bq.o j a2).1
   di:=eC.nil _ _ _
   hb:=O
   bM:=c2
   sz:=Uu})
  generalize s.setCell (W1.heap.size,0) (z,p.wa.length,E)=W5 at *;clear aM aN aO cP cQ cR aQ aR aS;go_upto_region 7 with fail
  go_loopw [7] (fun iv wr=>∃(i:Nat) (fs:List DU) (fv:C4),i<=p.funcs.length/\iv=.int .i64 i/\fs.map (·.f)=(p.funcs.take i).map kq/\DR w p (qW l p.wa.length n t p.funcs.length A) W1.heap.size s.heap.size (.slice z p.wa.length E) fv fs wr) (fun iv _=>p.funcs.length-(intOf iv).toNat)
  case atStart=>exact⟨0,[],_,Dw _,rfl,rfl,cJ.o⟩
  case round=>
   obtain⟨i,fs,fv,_,rfl,a0,N⟩:=hrel;have bR:fs.length=i:=by have:=congrArg List.length a0;rw[Yd,Yd,Yc]at this;omega
   have aG:=U bR;have bp:=U a0;have J:=U N;obtain⟨aa,ah,rfl⟩:=N.di.form;have dF:w.heap.size<wr.heap.size:=zB N.mid.box;have dy:W1.heap.size<wr.heap.size:=zB N.ob;have cT:s.heap.size<=wr.heap.size:=N.sz;have dG:w.heap.size+2<=W1.heap.size:=N.hb;obtain⟨⟨aQ,aR⟩,aS⟩:=zD N.mid.box;clear bR a0 N;by_cases cZ:i<p.funcs.length
   .obtain⟨f,al⟩:∃e,p.funcs[i]?=some e:=⟨_,Dz cZ⟩
    have bO:Below B w wr:=J.o.mid.bel.mono aA;obtain⟨g,o,_,_,rfl,_,c8,c9,da,db,aD,a9⟩:=(bo.o.below bO Zr).cells al;obtain⟨u,C,rfl,_⟩:=aD.form;obtain⟨y,D,rfl,_⟩:=a9.form;have du:g<wr.heap.size:=O
    have bn:=U (ag.o.cn f (Ye al))
    have a6:=List.all_eq_true.1 (show p.funcs.all xr=true from by
     have S:=ag.o.ok;unfold eK at S;rw[Dv]at S
     exact S.2) f (Ye al)
    unfold xr at a6;simp only[Dv,decide_eq_true_eq]at a6;obtain⟨⟨⟨⟨_,_⟩,_⟩,_⟩,bP⟩:=a6;have cu:=U bP;have cw:=U al;have bu:=U aD;have cL:=U a9;have bN:Cx wr ((((wr.alloc (.cells #[f.name,(f.type:Int),(u,f.params.length,C),(y,f.body.length,D)] 93)).alloc (f4 0)).alloc (.cells #[f.name,(f.type:Int),(),()] 93))):=((Zb.alloc Zr _).alloc Ut _).alloc (by rw[zA,zA];omega) _;have an:((((wr.alloc (.cells #[f.name,(f.type:Int),(u,f.params.length,C),(y,f.body.length,D)] 93)).alloc (f4 0)).alloc (.cells #[f.name,(f.type:Int),(),()] 93))).heap[wr.heap.size]?=some (.cells #[f.name,(f.type:Int),(u,f.params.length,C),(y,f.body.length,D)] 93):=qI (qI (Dq wr _) _) _;have ao:((((wr.alloc (.cells #[f.name,(f.type:Int),(u,f.params.length,C),(y,f.body.length,D)] 93)).alloc (f4 0)).alloc (.cells #[f.name,(f.type:Int),(),()] 93))).heap[wr.heap.size+1]?=some (f4 0):=qI (by have:=Dq (wr.alloc (.cells #[f.name,(f.type:Int),(u,f.params.length,C),(y,f.body.length,D)] 93)) (f4 0);rw[zA]at this;exact this) _;have P:((((wr.alloc (.cells #[f.name,(f.type:Int),(u,f.params.length,C),(y,f.body.length,D)] 93)).alloc (f4 0)).alloc (.cells #[f.name,(f.type:Int),(),()] 93))).heap[wr.heap.size+2]?=some (.cells #[f.name,(f.type:Int),(),()] 93):=by have:=Dq ((wr.alloc (.cells #[f.name,(f.type:Int),(u,f.params.length,C),(y,f.body.length,D)] 93)).alloc (f4 0)) (.cells #[f.name,(f.type:Int),(),()] 93);rw[zA,zA]at this;exact this
    have bf:((((wr.alloc (.cells #[f.name,(f.type:Int),(u,f.params.length,C),(y,f.body.length,D)] 93)).alloc (f4 0)).alloc (.cells #[f.name,(f.type:Int),(),()] 93))).heap.size=wr.heap.size+3:=by rw[zA,zA,zA]
    clear al aD a9 bP bO;go_upto_region 14 with fail;generalize(((wr.alloc (.cells #[f.name,(f.type:Int),(u,f.params.length,C),(y,f.body.length,D)] 93)).alloc (f4 0)).alloc (.cells #[f.name,(f.type:Int),(),()] 93))=W0 at *;have aF:=U bN;have aK:=U an;have dT:=Dt bf;have dV:=Dt bf.symm;have cI:=C0 (H7 W0 (wr.heap.size+1) (wr.heap.size+2) f 0 0 0 (.slice none 0 0) (.slice none 0 0) W0) ⟨hQ.refl _ _ _ _,ao,P,Ym _ _ _ _,Ym _ _ _ _,fun q am=>by simp[Value.ownBlock]at am,O,O,O⟩;clear aQ aR aS c8 c9 da db bN an ao P bf;obtain⟨a,rfl⟩:∃x,x=wr:=⟨_,rfl⟩
    go_loopw [11,12] (fun nv iv df=>∃(k:Nat) (pv:C4),k<=f.params.length/\iv=.int .i64 k/\H7 W0 (a.heap.size+1) (a.heap.size+2) f k k k nv pv df) (fun _ iv _=>f.params.length-(intOf iv).toNat)
    case atStart=>exact⟨0,_,Dw _,rfl,cI.o⟩
    case round=>
     obtain⟨k,pv,bX,rfl,d⟩:=hrel;obtain⟨aE,aP,rfl⟩:=zb d.nr;obtain⟨I,M,rfl⟩:=zb d.pr;have ad:=U d;have dW:W0.heap.size<=wr.heap.size:=d.off.size;have bF:=(d.off.block a.heap.size O O O).trans aK.o;obtain⟨⟨ai,f1,aT,f3⟩,aU⟩:=zM bF;have aB:Below B a wr:=(aF.o.mono O).trans (d.off.below O O O);have cv:=U aB;have dE:a.heap.size<wr.heap.size:=O
     clear d bF;by_cases c0:k<f.params.length
     .obtain⟨⟨cd,ce⟩,Z⟩:∃e,f.params[k]?=some e:=⟨_,Dz c0⟩
      obtain⟨aj,cc,rfl,bS,bg,bh⟩:=(bu.o.below aB Zr).cells Z;have aJ:=U Z;have dr:aj<wr.heap.size:=O
      clear Z aB
      go_upto_region 18 with(first
       | (go_at_call 44;(with_reducible refine(BS (a.heap.size+1) k wr ad.o.st O).mono ?_);rintro e W ⟨rfl,H,b2⟩
          have au:=U (ad.o.next H b2);have dM:wr.heap.size<=W.heap.size:=H.size;have cx:=U ((au.o.off.block a.heap.size O O O).trans aK.o);obtain⟨⟨dg,dh,dk,dl⟩,dm⟩:=zM cx.o;have aX:Below B wr W:=jz H O O;have bi:=(aX.cell (p:=(aj,cc+k*2)) bS).trans bg;have bj:=(aX.cell (p:=(aj,cc+k*2+1)) bS).trans bh;have dp:aj<W.heap.size:=O
          have dA:a.heap.size<W.heap.size:=O
          have Y:=U (eC.pre (K:=kQ) (cs:=[.string cd,.string (vN k)]) (ps:=eL (f.params.take k) 0) (⟨by rw[sG,Yc,Y6 O];exact au.o.nr,fun _ _=>trivial⟩:eC kQ W0.heap.size W (.slice aE k aP) (eL (f.params.take k) 0)) O)
          clear H b2 aX)
       | (at_builtin;refine zy rfl (.tmp 56) (.tmp 65) _ rfl W0.heap.size 102 c4 _ 2 32 underlying97 ar.o.1 ar.o.2.1 ar.o.2.2.1 ar.o.2.2.2 rfl O (.slice aE k aP) k _ rfl (by exact qD au.o.nr (Zb.alloc Zr _) Zr) ⟨W.heap.size,0,none⟩ 1 1 [.string cd,.string (vN k)] rfl rfl (by exact Y.o.2.1) Uw Uv O (by exact Y.o.2.2) O ?_
          intro ap X m G r;obtain⟨_,_,rfl⟩:=zb m;have L:=U (H7.names (au.o.below (Zb.alloc Zr _)) aJ.o G r m);have dN:W.heap.size<=X.heap.size:=by have:=G.size;rw[zA]at this;omega
          clear m G r))
      clear dg dh dk dl dm ai f1 aT f3 aU bg bh bi bj;have cy:=U ((L.o.off.block a.heap.size O O O).trans aK.o);obtain⟨⟨ai,f1,aT,f3⟩,aU⟩:=zM cy.o;obtain⟨⟨co,cp,cq,cr⟩,ct⟩:=zM L.o.gb;have bQ:Below B a X:=(aF.o.mono O).trans (L.o.off.below O O O);obtain⟨_,_,aY,_,bg,bh⟩:=(bu.o.below bQ Zr).cells aJ.o;injection aY with aY;injection aY with bx bz;subst bx bz;have dB:a.heap.size<X.heap.size:=O
      have ds:a.heap.size+2<X.heap.size:=zB L.o.gb;have dq:aj<X.heap.size:=O
      have bs:=U (eC.pre (K:=kP) (cs:=[.string (vN k),.int .i64 ce]) (ps:=d8 (f.params.take k) 0) (⟨by rw[kt,Yc,Y6 O];exact L.o.pr,fun _ _=>trivial⟩:eC kP W0.heap.size X (.slice I k M) (d8 (f.params.take k) 0)) (by have:=L.o.off.size;omega));clear bQ
      go_region_law (first
       | (refine jF rfl (.tmp 68) (.tmp 77) _ rfl W0.heap.size 100 c5 _ 2 24 underlying90 aw.o.1 aw.o.2.1 aw.o.2.2.1 aw.o.2.2.2 rfl O (.slice I k M) k _ rfl (by exact qD L.o.pr (Zb.alloc Zr _).drew Zr) ⟨X.heap.size,0,none⟩ 1 1 [.string (vN k),.int .i64 ce] rfl rfl (by exact bs.o.2.1) Uw Uv O (by exact bs.o.2.2) O ?_
          intro ap w8 m G r;obtain⟨_,_,rfl⟩:=zb m;obtain⟨a1,bG⟩:=H7.pars (L.o.below (Zb.alloc Zr _).drew) aJ.o G r m;obtain⟨⟨ch,ci,cj,ck⟩,cl⟩:=zM a1;have cW:a.heap.size+2<w8.heap.size:=zB a1;have cB:=U bG
          clear a1 bG m G r))
      all_goals
       go_wp2_with fail;go_roundw
       case rel=>exact⟨k+1,_,O,by go_num,cB.o⟩
       case measure=>simp[intOf];omega
     .have cY:k=f.params.length:=by omega
      subst cY;have a3:(eL f.params 0).length=f.params.length:=sG _ _;have d:=ad.o;have a4:=d.nr;have a7:=d.pr;rw[Y9]at a4 a7;have cH:=C0 (rL wr.heap.size (eG (a.heap.size+1) wr) (.slice aE f.params.length aP) (eL f.params 0)) (fE (base:=W0.heap.size) (by rw[a3];exact a4) O (by rw[a3];omega));have cF:=C0 (x3 W0.heap.size wr (d8 f.params 0) (.slice I f.params.length M)) (eC.params (B:=W0.heap.size) ⟨by rw[kt];exact a7,fun _ _=>trivial⟩ (by rw[kt];omega));have cM:=U (cL.o.below cv.o Zr);obtain⟨⟨co,cp,cq,cr⟩,ct⟩:=zM d.gb;clear d a4 a7 aB
      go_upto_region 20 with(go_at_call 45
                             (with_reducible refine(RbC.call (zcd 100) cu.o (show B<=a.heap.size+1 by omega) cM.o cH.o ad.o.st bn.o (by rw[a3];exact bn.o)).mono ?_)
                             rintro x w8 ⟨_,rfl,hF,H,Z⟩;obtain⟨b,c,rfl,_⟩:=eN.form hF;rw[xI]at hF;simp only[xI];have av:=U (ad.o.next H Z);have dO:wr.heap.size<=w8.heap.size:=H.size;have cG:=U (cF.o.keep (zK.of_off H O) Zr);have cz:=C0 (kD wr.heap.size w8 (zO f.body (eL f.params 0) f.params.length).1 (.slice b f.body.length c)) hF;obtain⟨⟨ch,ci,cj,ck⟩,cl⟩:=zM av.o.gb;have cW:a.heap.size+2<w8.heap.size:=zB av.o.gb
                             clear hF H Z)
      have bU:(w8.setCell (a.heap.size+2,3) (b,f.body.length,c)).heap[a.heap.size+2]?=some (.cells #[f.name,(f.type:Int),(I,f.params.length,M),(b,f.body.length,c)] 93):=D0 av.o.gb _;have bI:x3 a.heap.size (w8.setCell (a.heap.size+2,3) (b,f.body.length,c)) (d8 f.params 0) (.slice I f.params.length M):=cG.o.keep (zK.set O _ _) O;have bD:kD a.heap.size (w8.setCell (a.heap.size+2,3) (b,f.body.length,c)) (zO f.body (eL f.params 0) f.params.length).1 (.slice b f.body.length c):=kD.keep cz.o (zK.set O _ _) O;have bL:Cx a (w8.setCell (a.heap.size+2,3) (b,f.body.length,c)):=(aF.o.trans (av.o.off.below O O O)).setCell (p:=(a.heap.size+2,3)) (show a.heap.size<=a.heap.size+2 by omega) _;have bd:(w8.setCell (a.heap.size+2,3) (b,f.body.length,c)).heap.size=w8.heap.size:=Uu
      generalize w8.setCell (a.heap.size+2,3) (b,f.body.length,c)=W9 at *;have aq:=U (J.o.below bL);have cA:=U (zch (f:=kq f) bI bD);have dP:=Dt bd;have dQ:=Dt bd.symm;obtain⟨⟨_,bx,bz,_⟩,_⟩:=zM bU;clear bU bI bD bL bd ch ci cj ck cl co cp cq cr ct ai f1 aT f3 aU;obtain⟨⟨u0,u1⟩,dd⟩:=zD aq.o.ob;have dC:W1.heap.size<W9.heap.size:=O
      have dt:a.heap.size+2<W9.heap.size:=O
      have Y:=U (eC.pre aq.o.di [.string f.name,.int .i64 f.type,.slice I f.params.length M,.slice b f.body.length c] aq.o.sz);have cE:=U J.o.di.own;have cV:=Dt aG.o
      go_wp2_with (at_builtin;refine zy rfl (.tmp 87) (.tmp 89) _ rfl s.heap.size 93 c7 _ 4 72 underlying25 ay.o.1 ay.o.2.1 ay.o.2.2.1 ay.o.2.2.2 rfl O (.slice aa fs.length ah) fs.length _ rfl (by exact Y.o.1) ⟨W9.heap.size,0,none⟩ 1 1 [.string f.name,.int .i64 f.type,.slice I f.params.length M,.slice b f.body.length c] rfl rfl (by exact Y.o.2.1) Uw Uv O (by exact Y.o.2.2) O ?_
                   intro ap de m G r;obtain⟨_,_,rfl⟩:=zb m;obtain⟨a5,b0⟩:=DR.app (q:=⟨kq f,.slice I f.params.length M,.slice b f.body.length c⟩) aq.o cA.o cT (fun j a2=>(cE.o j a2).1) G r m;have cK:=U b0;obtain⟨⟨cf,cg⟩,sz⟩:=zD a5;have dz:W1.heap.size<de.heap.size:=zB a5
                   clear a5 b0 m G r)
      go_roundw
      case rel=>
       refine⟨i+1,_,_,O,by go_num,?_,cK.o⟩;rw[Yf,bp.o,lN cw.o,Yf];rfl
      case measure=>simp[intOf];omega
   .have cX:i=p.funcs.length:=by omega
    subst cX;have bt:=U (show lO p=(qJ p,0)by unfold lO;rw[aI.o,Dm rfl]);have a8:=J.o.mid.res;obtain⟨⟨bi,bj⟩,dc⟩:=zD a8;obtain⟨⟨u0,u1⟩,dd⟩:=zD J.o.ob;have r:=zB a8;have cV:=Dt aG.o;obtain⟨cf,cg⟩:=jd a8 (.slice z p.wa.length E) (.slice aa fs.length ah)
    have br:=U (show eZ wr.heap.size (eE (i3 (w.heap.size+2)) wr) (.slice z p.wa.length E) p.wa/\e0 wr.heap.size (eE (i3 (w.heap.size+2)) wr) (.slice aa fs.length ah) (p.funcs.map kq)from by
     have S:=eC.wa J.o.arr O;have bA:=eC.funcs J.o.di (by rw[aG.o];omega);rw[bp.o,Y9]at bA;refine⟨eZ.imp (fun g o bk T=>?_) S,e0.imp (fun g o bk T=>?_) bA⟩
     .obtain⟨am,T⟩:=qS T
      exact qn (jb.2 (by have:=jb.1 am;omega)) T
     .obtain⟨am,T⟩:=qS T
      exact qn (jb.2 (by have:=jb.1 am;omega)) T)
    go_wp2_with fail;refine bodyPost_ret (v:=.tuple #[.agg #[(z,p.wa.length,E),(aa,fs.length,ah)],(0:Int)]) (by simp[results,results24,go_sem,cf,cg]) rfl ?_;have bH:zK (w.heap.size+2) wr ((wr.setCell (w.heap.size+1,0) (z,p.wa.length,E)).setCell (w.heap.size+1,1) (aa,fs.length,ah)):=(zK.set O _ _).trans (zK.set O _ _);refine⟨_,_,by rw[bt.o],qY J.o.mid.bel O _ _,?_⟩;rw[bt.o];exact⟨_,_,rfl,eZ.imp (bH.cells O) br.o.1,e0.imp (bH.cells O) br.o.2⟩
mutual
theorem WG(tj:qb):∀(e:Ex),zu (vK tj e)=zu e
 | .mk k op n td tc=>by
   rw[vK,zu,zu,oV tj tc]
theorem oV(tj:qb):∀(l:List Ex),zG (qO tj l)=zG l
 |[]=>by rw[qO]
 |e::r=>by rw[qO,zG,zG,WG tj e,oV tj r]
end
theorem WH(s:St)(tj:qb)(n:Nat):FU (jc s tj n).1=FU s:=by
 obtain⟨k,_,td,tc,tg,th⟩:=s;rw[jc];rfl
theorem iU:∀(l:List St) (tj:qb) (n:Nat),xZ (zO l tj n).1=xZ l
 |[],_,_=>Vp
 | s::r,tj,n=>by
   rw[zO];unfold xZ;rw[Y8,Y8,WH];have h:=iU r (vy s tj n) (jc s tj n).2;unfold xZ at h;rw[h]
mutual
theorem WI:∀(s:St) (tj:qb) (n d:Nat),xF (jc s tj n).1 d=xF s d
 | .mk k ty td tc tg th,tj,n,d=>by
   have b:∀m a,lB (zO tg a m).1 (d0 (zO tg a m).1) d=lB tg (d0 tg) d:=fun m a=>by unfold lB;rw[iU,xq tg,xq tg]
   have c:∀m a,lB (zO tg a m).1 (d0 (zO tg a m).1) 0=lB tg (d0 tg) 0:=fun m a=>by unfold lB;rw[iU,xq tg,xq tg]
   have e:∀m a,lB (zO th a m).1 (d0 (zO th a m).1) d=lB th (d0 th) d:=fun m a=>by unfold lB;rw[iU,xq th,xq th]
   rw[jc,xF,xF,oV,b,c,e]
theorem xq:∀(l:List St) (tj:qb) (n d:Nat),d0 (zO l tj n).1 d=d0 l d
 |[],_,_,_=>Vp
 | s::r,tj,n,d=>by
   rw[zO,d0,d0,WI s,xq r]
end
theorem WJ(f:Fu):d0 (kq f).body 0=d0 f.body 0:=xq f.body _ _ _
mutual
theorem WK:∀(s:St) (tj:qb) (n:Nat),uC (jc s tj n).1=uC s
 | .mk k ty td tc tg th,tj,n=>by
   rw[jc,uC,uC,iV tg,iV th]
theorem iV:∀(l:List St) (tj:qb) (n:Nat),d4 (zO l tj n).1=d4 l
 |[],tj,n=>Vp
 | s::r,tj,n=>by
   rw[zO,d4,d4,WK s,iV r]
end
theorem WL(f:Fu):(kq f).params.length+d4 (kq f).body=f.params.length+d4 f.body:=by
 show(d8 f.params 0).length+d4 (zO f.body (eL f.params 0) f.params.length).1=_;rw[kt,iV]
theorem QO(a:e4 p):e4 (qJ p):=by
 have d:=HR a.ok a.cn;refine⟨d,GP d,a.n1,?_,fun f b=>?_,fun f b=>?_⟩
 .show(p.funcs.map kq).length<=1000000
  rw[Yd];exact a.n2
 .obtain⟨g,c,rfl⟩:=List.mem_map.1 (show f∈p.funcs.map kq from b)
  rw[WL];exact a.cn g c
 .obtain⟨g,c,rfl⟩:=List.mem_map.1 (show f∈p.funcs.map kq from b)
  rw[WJ];exact a.ln g c
theorem WM(a:lO p=(q,0))(c:e4 p):e4 q/\(∃k l,xy q=(0,k,l))/\lO q=(q,0)/\∀f∈q.funcs,(zca f).Nodup:=by
 unfold lO at a;split at a
 .rename_i i
  injection a with d _;subst d;have b:=HU c.cn i;refine⟨QO c,⟨0,0,b⟩,?_,fun f j=>?_⟩
  .unfold lO
   rw[b,Dm rfl,KR]
  .obtain⟨g,_,rfl⟩:=List.mem_map.1 (show f∈p.funcs.map kq from j)
   exact WC g
 .injection a with _ e
  exact absurd e Up
def zdi(q:Pr)(k:Int)(w:C3)(x:Ending)(w':C3):Prop:=
 ∃a c b d,x=.returned (.tuple #[.agg #[.slice a q.wa.length c,.slice b q.funcs.length d],(k:Int)])/\Cx w w'/\eT w'.heap.size q (.slice a q.wa.length c) (.slice b q.funcs.length d) w'
theorem zdj(o:d6 B w)(d:B<=w.heap.size)(n:lO p=(q,k)){x:Ending}(m:WF p w x w'):zdi q k w x w':=by
 obtain⟨_,_,f,a,e⟩:=m;rw[n]at f e;obtain⟨b,c⟩:=HM e;obtain⟨g,j,rfl,_⟩:=b.form;obtain⟨i,l,rfl,_⟩:=c.form;exact⟨g,j,i,l,f,a,Dy _,(o.below (a.mono d)).mono (Dr d a.size),b,c⟩
theorem eT.rren{b c:C4}(a:eT B p b c w)(e:e4 p)(d:lO p=(q,k)):Cy 24 #[.agg #[b,c]] w (zdi q k w):=
 (H2 B p b c w a.hB a.ha a.hf e).mono fun _ _ g=>zdj a.tab a.hB d g
abbrev QV(a b:Int)(v:C4)(d e:Int):Obj:=.cells #[(a:Int),(b:Int),v,(d:Int),(e:Int)] 35
theorem WN(B:Nat)(r:Int×Int×List Int×Nat×Nat)(va v:C4)(w:C3)(t:B<=w.heap.size)(E:JX B w va r)(j:JX B w v r):
 Cy 16 #[va,v] w (Cv true w):=by
 obtain⟨st,a,out,b,c⟩:=r;obtain⟨_,rfl,k,_⟩:=E;obtain⟨_,rfl,l,_⟩:=j;dsimp only at k l ⊢;obtain⟨d,g,rfl,_⟩:=k.form;obtain⟨f,i,rfl,_⟩:=l.form;have u:Cx w ((w.alloc (QV st a (.slice d out.length g) b c)).alloc (QV st a (.slice f out.length i) b c)):=(Zb.alloc Zr _).alloc Ut _;have n:((w.alloc (QV st a (.slice d out.length g) b c)).alloc (QV st a (.slice f out.length i) b c)).heap[w.heap.size]?=some (QV st a (.slice d out.length g) b c):=qI (Dq w _) _;have q:((w.alloc (QV st a (.slice d out.length g) b c)).alloc (QV st a (.slice f out.length i) b c)).heap[w.heap.size+1]?=some (QV st a (.slice f out.length i) b c):=by have:=Dq (w.alloc (QV st a (.slice d out.length g) b c)) (QV st a (.slice f out.length i) b c);rw[zA]at this;exact this
 have H:((w.alloc (QV st a (.slice d out.length g) b c)).alloc (QV st a (.slice f out.length i) b c)).heap.size=w.heap.size+2:=by rw[zA,zA]
 have m:=U u;have C:=U n;have D:=U q;have y:=U k;have z:=U l;obtain⟨⟨_,_,_,_,_⟩,_⟩:=zn n;obtain⟨⟨_,_,_,_,_⟩,_⟩:=zn q;clear u n q k l;go_enter func16,ntmps16
 go_wp2_with (go_at_call 30
              (with_reducible refine(UM B out out _ _ true (decide_eq_true rfl) _ O (y.o.below (m.o.mono t) Zr) (z.o.below (m.o.mono t) Zr)).mono ?_)
              rintro e x ⟨rfl,j⟩;have p:=(j.block w.heap.size O).trans C.o;have s:=(j.block (w.heap.size+1) O).trans D.o;obtain⟨⟨_,_,_,_,_⟩,_⟩:=zn p;obtain⟨⟨_,_,_,_,q4⟩,_⟩:=zn s;have F:w.heap.size<x.heap.size:=zB p;have G:w.heap.size+1<x.heap.size:=zB s;have A:=U j
              clear j p s)
 go_ret;exact⟨Ur,m.o.trans (A.o.mono O)⟩
