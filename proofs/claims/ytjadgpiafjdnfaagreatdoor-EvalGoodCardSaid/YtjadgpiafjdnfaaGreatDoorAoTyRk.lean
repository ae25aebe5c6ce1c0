import Derived.Test.YtjadgpiafjdnfaaGreatDoorAoTyRg
import Derived.Test.YtjadgpiafjdnfaaGreatDoorAoTreeRefG
set_option linter.unusedSimpArgs false
set_option linter.unusedVariables false
set_option maxRecDepth 100000
set_option maxHeartbeats 99000000
namespace Go.Proofs.YtjadgpiafjdnfaaGreatDoor
open Go.RowKit Tryz
theorem Qh{p:Prop}(h:p:=by
 unfold K0;simp only[Yj,List.flatten_append,Dr,Y5,Cm,List.flatten_cons,List.flatten_nil,Yd]
 omega):p:=h
theorem Qi{p:Prop}(h:p:=by
 unfold EX at *;rw[iL Us Us,m];simp only[Dr,Du,Dy,WN]
 omega):p:=h
variable{l r ts:List fH}{s:C6}{t:List UInt8}{k d:Int}{n:Nat}
def frP(l:List Pa):Prop:=∀(q:Nat) x,l[q]?=some x->zw (l.take q) x.name=none
theorem iJ{y:Pa}{l:List Pa}:zw (y::l) s=none↔¬y.name=s/\zw l s=none:=by
 rw[zw];cases hv:zw l s with
 |some t=>simp
 |none=>by_cases h:y.name=s<;>simp[h]
theorem tY:∀{l:List Pa},lO l=false↔frP l
 |[]=>⟨fun _ q x b=>by simp at b,fun _=>rfl⟩
 | y::r=>by
   rw[lO,Cd,tY (l:=r)];constructor
   .rintro⟨c,g⟩ q x a
    cases q with
    |zero=>simp[zw]
    |succ q=>
      have f:r[q]?=some x:=Xd;rw[Y6,iJ];refine⟨fun e=>?_,g q x f⟩;rw[y6,Ci]at c;exact c x (Yc f) (by simp[e])
   .intro b
    have d:∀(q:Nat) x,r[q]?=some x->¬y.name=x.name/\zw (r.take q) x.name=none:=fun q x a=>by
     have:=b (q+1) x Xd;rwa [Y6,iJ]at this
    refine⟨?_,fun q x a=>(d q x a).2⟩;rw[y6,Ci];intro x i;obtain⟨q,a⟩:=List.getElem?_of_mem i;simpa using fun e=>(d q x a).1 e.symm
theorem JQ{B b:Nat}(w:C7)(_:B<=b):Below B w (gR b w):=⟨rfl,rfl,rfl,by rw[uT];exact Dz _,fun k _=>uw w O⟩
theorem gU.takeS{B:Nat}{w:C7}{a:Option Addr}{c:Nat}{l:List Pa}(b:gU B w (.slice a l.length c) l)(k:Nat)(d:k<=l.length):gU B w (.slice a k c) (l.take k):=by
 have j:=b.2 a l.length c rfl;refine⟨⟨_,c,by rw[Yg,Cb d],?_,fun e=>?_⟩,fun _ _ _ i=>by injection i with _ _ _;omega⟩
 .obtain⟨_,_,_,_⟩:=b.form
  rw[Yg];omega
 .rw[Yg]at e
  obtain⟨g,o,rfl,f⟩:=vq.elem b.1 rfl O;exact⟨g,o,rfl,GS k l g o f⟩
theorem LS{W:C7}{g:Nat}{c b:C8}{T:TypeId}(e:W.heap[g]?=some (.cells #[c,b] T (0,0)))(a:C8):(W.setCell (g,0) a).cell? (g,0)=some a:=by
 have d:(W.setCell (g,0) a).heap[g]?=some (.cells #[a,b] T (0,0)):=D4 e a;exact(zG d).1.1
theorem JR(B:Nat)(p:Pr)(R:Int×Nat×Nat)(b5 b6:C8)(w:C7)(l:B<=w.heap.size)(bk:gN B w b5 p.wa)(bo:gO B w b6 p.funcs)(bV:∀f∈p.funcs,f.params.length+fU f.body<=1000000000)(bR:vB p=R):
 C3 18 #[.agg #[b5,b6]] w (LR w R):=by
 obtain⟨u,y,rfl,_⟩:=bk.form;obtain⟨au,z,rfl,_⟩:=bo.form;have b1:C2 w ((w.alloc (qd u p.wa.length y au p.funcs.length z)).alloc (lW 0 0)):=(Zb.alloc Zr _).alloc Uu _;have M:=U b1;have bf:=C5 (((w.alloc (qd u p.wa.length y au p.funcs.length z)).alloc (lW 0 0)).heap[w.heap.size]?=some (qd u p.wa.length y au p.funcs.length z)) ((D7 _ _ _ Uu).trans (Ds w _));have bg:=C5 (((w.alloc (qd u p.wa.length y au p.funcs.length z)).alloc (lW 0 0)).heap[w.heap.size+1]?=some (lW 0 0)) (by simpa using Ds (w.alloc (qd u p.wa.length y au p.funcs.length z)) (lW 0 0));have L:=U bk;have I:=U bo;have a9:=U bR;have b9:=U bV;obtain⟨ok,bY⟩:=C4 (f5 p);have ae:=U bY;clear bk bo bR b1 bY bV;cases ok
 case false=>
  go_enter func18,ntmps18
  go_wp2_with (go_at_call 26;(with_reducible refine(zAm B p _ ae.o _ _ _ Ut (L.o.below (M.o.mono l) Zr) (I.o.below (M.o.mono l) Zr)).mono ?_);rintro e t ⟨rfl,m⟩
               have b:=(m.block w.heap.size Ut).trans bf.o;have c:=(m.block (w.heap.size+1) Uu).trans bg.o;obtain⟨⟨ap,aq⟩,ar⟩:=zG b;obtain⟨⟨F,G⟩,H⟩:=zG c;have a0:w.heap.size+1<t.heap.size:=zB c;have a2:w.heap.size<t.heap.size:=zB b;have s:C2 w t:=M.o.trans (m.mono Ut);have aJ:=U b;have ax:=U c;have aD:=U (L.o.below (s.mono l) Zr);have aH:=U (I.o.below (s.mono l) Zr);have aV:B<=t.heap.size:=O;have aw:=U s
               clear m b c s)
  obtain⟨C,f1⟩:=js ax.o (.int .i64 0) (.int .i64 0);refine bodyPost_ret (v:=.tuple #[(1:Int),.agg #[(0:Int),(0:Int)]]) (by simp[results,results18,go_sem,C,f1]) rfl ?_;have d:=a9.o;unfold vB at d;rw[Dq ae.o]at d;subst d;exact⟨rfl,qx aw.o O _ _⟩
 case true=>
  have a7:=U (IT ae.o);obtain⟨bQ,bp⟩:=C4 ((!(uX p p.wa || CS p.funcs)&&xh p));have bI:=U bp
  have bG:=U (show vB p=if bQ=true then uW p p.funcs 0 else(50,0,0)by
   unfold vB;rw[Dp (by rw[ae.o];decide),<-bp]
   cases uX p p.wa || CS p.funcs<;>cases xh p<;>rfl)
  clear bp;cases bQ
  case false=>
   go_enter func18,ntmps18
   go_wp2_with (first
    | (go_at_call 26;(with_reducible refine(zAm B p _ ae.o _ _ _ Ut (L.o.below (M.o.mono l) Zr) (I.o.below (M.o.mono l) Zr)).mono ?_);rintro e t ⟨rfl,m⟩
       have b:=(m.block w.heap.size Ut).trans bf.o;have c:=(m.block (w.heap.size+1) Uu).trans bg.o;obtain⟨⟨ap,aq⟩,ar⟩:=zG b;obtain⟨⟨F,G⟩,H⟩:=zG c;have a0:w.heap.size+1<t.heap.size:=zB c;have a2:w.heap.size<t.heap.size:=zB b;have s:C2 w t:=M.o.trans (m.mono Ut);have aJ:=U b;have ax:=U c;have aD:=U (L.o.below (s.mono l) Zr);have aH:=U (I.o.below (s.mono l) Zr);have aV:B<=t.heap.size:=O;have aw:=U s
       clear m b c s)
    | (go_at_call 36;(with_reducible refine(m9 B p _ _ _ _ aV aD.o aH.o bI.o).mono ?_);rintro e K ⟨rfl,Q⟩
       have b:=(Q.block w.heap.size a2).trans aJ.o;have c:=(Q.block (w.heap.size+1) a0).trans ax.o;obtain⟨⟨ap,aq⟩,ar⟩:=zG b;obtain⟨⟨F,G⟩,H⟩:=zG c;have b0:w.heap.size+1<K.heap.size:=zB c;have co:w.heap.size<K.heap.size:=zB b;have T:C2 w K:=aw.o.trans (Q.mono O);have bJ:=U b;have bi:=U c;have b7:=U (L.o.below (T.mono l) Zr);have cb:=U (I.o.below (T.mono l) Zr);have cg:B<=K.heap.size:=O;have bd:=U T
       clear Q b c T))
   obtain⟨C,f1⟩:=js bi.o (.int .i64 0) (.int .i64 0);refine bodyPost_ret (v:=.tuple #[(50:Int),.agg #[(0:Int),(0:Int)]]) (by simp[results,results18,go_sem,C,f1]) rfl ?_;have d:=bG.o;rw[a9.o,Dp Us]at d;subst d;exact⟨rfl,qx bd.o O _ _⟩
  case true=>
   go_enter func18,ntmps18
   go_wp2_with (first
    | (go_at_call 26;(with_reducible refine(zAm B p _ ae.o _ _ _ Ut (L.o.below (M.o.mono l) Zr) (I.o.below (M.o.mono l) Zr)).mono ?_);rintro e t ⟨rfl,m⟩
       have b:=(m.block w.heap.size Ut).trans bf.o;have c:=(m.block (w.heap.size+1) Uu).trans bg.o;obtain⟨⟨ap,aq⟩,ar⟩:=zG b;obtain⟨⟨F,G⟩,H⟩:=zG c;have a0:w.heap.size+1<t.heap.size:=zB c;have a2:w.heap.size<t.heap.size:=zB b;have s:C2 w t:=M.o.trans (m.mono Ut);have aJ:=U b;have ax:=U c;have aD:=U (L.o.below (s.mono l) Zr);have aH:=U (I.o.below (s.mono l) Zr);have aV:B<=t.heap.size:=O;have aw:=U s
       clear m b c s)
    | (go_at_call 36;(with_reducible refine(m9 B p _ _ _ _ aV aD.o aH.o bI.o).mono ?_);rintro e K ⟨rfl,Q⟩
       have b:=(Q.block w.heap.size a2).trans aJ.o;have c:=(Q.block (w.heap.size+1) a0).trans ax.o;obtain⟨⟨ap,aq⟩,ar⟩:=zG b;obtain⟨⟨F,G⟩,H⟩:=zG c;have b0:w.heap.size+1<K.heap.size:=zB c;have co:w.heap.size<K.heap.size:=zB b;have T:C2 w K:=aw.o.trans (Q.mono O);have bJ:=U b;have bi:=U c;have b7:=U (L.o.below (T.mono l) Zr);have cb:=U (I.o.below (T.mono l) Zr);have cg:B<=K.heap.size:=O;have bd:=U T
       clear Q b c T))
   go_loopw [4] (fun iv wr=>∃j:Nat,j<=p.funcs.length/\iv=.int .i64 j/\uW p (p.funcs.drop j) j=R/\C2 K wr) (fun iv _=>p.funcs.length-(intOf iv).toNat)
   case atStart=>exact⟨0,D1 _,rfl,by have:=bG.o;rw[a9.o]at this;exact this.symm,D5 _ _⟩
   case round=>
    obtain⟨A,rfl⟩:∃x,x=wr:=⟨_,rfl⟩
    obtain⟨j,_,rfl,bS,an⟩:=hrel;have bT:=U bS;have b8:=U an;have ct:=an.size;have bt:C2 w A:=bd.o.trans (an.mono O);have bN:=U bt;have bv:=(an.block (w.heap.size+1) b0).trans bi.o;have b:=(an.block w.heap.size O).trans bJ.o;obtain⟨⟨F,G⟩,H⟩:=zG bv;obtain⟨⟨ap,aq⟩,ar⟩:=zG b;have bO:=U bv;have ce:=U b;have cm:w.heap.size+1<A.heap.size:=O;have cn:w.heap.size<A.heap.size:=O;clear bS bv b;by_cases ck:j<p.funcs.length
    .obtain⟨f,aY⟩:∃e,p.funcs[j]?=some e:=⟨_,D2 ck⟩
     obtain⟨g,o,_,_,rfl,_,_,_,_,_,br,bl⟩:=(I.o.below (bt.mono l) Zr).cells aY;obtain⟨V,P,rfl,_⟩:=br.form;obtain⟨ad,ag,rfl,_⟩:=bl.form;have cr:g<A.heap.size:=O;have cc:=U br;have aE:=U bl;have bH:=U (Yc aY);have av:=U (oG ae.o bH.o).1;have a6:=U (b9.o f bH.o);have bn:=bT.o;rw[xD aY,tU]at bn;have aF:=U bn;have aW:B<=A.heap.size:=O;clear br bl aY bn an bt;go_wp2_with fail
     go_loopw [6] (fun iv a=>∃k:Nat,k<=f.params.length/\iv=.int .i64 k/\(∀(q:Nat) x,q<k->f.params[q]?=some x->zw (f.params.take q) x.name=none)/\a.heap[A.heap.size]?=some (FR f.name f.type (.slice V f.params.length P) (.slice ad f.body.length ag))/\C2 A a) (fun iv _=>f.params.length-(intOf iv).toNat)
     case atStart=>exact⟨0,D1 _,rfl,fun q x bZ=>absurd bZ O,Ds _ _,Zb.alloc Zr _⟩
     case round=>
      obtain⟨a,rfl⟩:∃x,x=wr:=⟨_,rfl⟩
      obtain⟨k,ci,rfl,bU,aZ,am⟩:=hrel;have bq:A.heap.size<a.heap.size:=zB aZ;obtain⟨⟨bx,bz,bA,bC⟩,bD⟩:=zP aZ;have b2:C2 w a:=bN.o.trans (am.mono O);have bu:=(am.block (w.heap.size+1) cm).trans bO.o;have b:=(am.block w.heap.size cn).trans ce.o;obtain⟨⟨F,G⟩,H⟩:=zG bu;obtain⟨⟨ap,aq⟩,ar⟩:=zG b;have ak:=U bu;have cp:=U b;have aI:=U aZ;have aj:=U am;have af:=U b2;have bF:=U bU;have ao:=cc.o.below (am.mono (show B<=A.heap.size by omega)) Zr;have J:B<=a.heap.size:=O;have aC:w.heap.size+1<a.heap.size:=O;clear bU aZ am b2 bu b;by_cases cj:k<f.params.length
      .obtain⟨ab,bw⟩:∃e,f.params[k]?=some e:=⟨_,D2 cj⟩
       obtain⟨_,_,rfl,_,_,_⟩:=ao.cells bw;have bL:=U (fun n=>(ao.takeS k ci).below (show Below B a (a.drewN n)from Zb.trans ⟨rfl,rfl,rfl,Dz _,fun _ _=>rfl⟩) Zr);have bP:=U bw;have cq:k<=P:=(by have:=ao.2 _ _ _ rfl;omega);clear ao bw;cases hvt:zw (f.params.take k) ab.name with
       |none=>
         have bc:=U (show(zw (f.params.take k) ab.name).getD 0=0 by rw[hvt];rfl);have X:=U (show(zw (f.params.take k) ab.name).isSome=false by rw[hvt];rfl);have cd:=U hvt;clear hvt;go_wp2_with fail
         go_quiet ((go_at_call 37;exact(kI B (f.params.take k) ab.name 0 _ bc.o X.o _ _ (by exact J) (bL.o _)).mono fun e w' ay=>⟨ay.1,_,ay.2.symm⟩))
         go_wp2_with fail;go_roundw
         case rel=>
          refine⟨k+1,O,by go_num,fun q x bZ aa=>?_,aI.o,mW aj.o _⟩;by_cases cl:q=k
          .subst cl
           rw[bP.o]at aa;injection aa with aa;subst aa;exact cd.o
          .exact bF.o q x O aa
         case measure=>simp[intOf];omega
       |some b4=>
         have bc:=U (show(zw (f.params.take k) ab.name).getD 0=b4 by rw[hvt];rfl);have X:=U (show(zw (f.params.take k) ab.name).isSome=true by rw[hvt];rfl)
         have ca:=U (show lO f.params=true by
          cases hd:lO f.params with
          |true=>rfl
          |false=>have:=tY.1 hd k ab bP.o;rw[hvt]at this;cases this)
         clear hvt;go_wp2_with fail
         go_quiet ((go_at_call 37;exact(kI B (f.params.take k) ab.name b4 _ bc.o X.o _ _ (by exact J) (bL.o _)).mono fun e w' ay=>⟨ay.1,_,ay.2.symm⟩))
         go_wp2_with fail;obtain⟨C,f1⟩:=js (W:=a.drewN nq) ak.o (.int .i64 j) (.int .i64 0);refine bodyPost_ret (v:=.tuple #[(50:Int),.agg #[(j:Int),(0:Int)]]) (by simp[results,results18,go_sem,C,f1]) rfl ?_;have d:=aF.o;rw[show yq p f=(50,0)from by unfold yq;rw[Dq ca.o],Dq Us]at d;subst d;exact⟨rfl,qx (mW af.o _) O _ _⟩
      .have bW:lO f.params=false:=tY.2 fun q x aa=>bF.o q x (by have:=(List.getElem?_eq_some_iff.1 aa).1;omega) aa
       obtain⟨⟨al,n1⟩,bs⟩:=C4 (zY p f.type f.body f.params f.params.length false 0);have ba:=U bs;have a4:=U (show yq p f=if al≠0 then(al,n1)else if fV f.body then(0,0)else(52,n1)by unfold yq;rw[bW,bs];simp);have az:C2 a (a.alloc (lU (.slice u p.wa.length y) (.slice (some ⟨g,o,none⟩) p.funcs.length z) f.name f.type (.slice V f.params.length P) (.slice ad f.body.length ag) 0)):=Zb.alloc Zr _;have b3:(a.alloc (lU (.slice u p.wa.length y) (.slice (some ⟨g,o,none⟩) p.funcs.length z) f.name f.type (.slice V f.params.length P) (.slice ad f.body.length ag) 0)).heap.size=a.heap.size+1:=zA _ _;have a3:=C5 ((a.alloc (lU (.slice u p.wa.length y) (.slice (some ⟨g,o,none⟩) p.funcs.length z) f.name f.type (.slice V f.params.length P) (.slice ad f.body.length ag) 0)).heap[a.heap.size]?=some (lU (.slice u p.wa.length y) (.slice (some ⟨g,o,none⟩) p.funcs.length z) f.name f.type (.slice V f.params.length P) (.slice ad f.body.length ag) (fX 0))) (Ds _ _);have bm:Below B w (a.alloc (lU (.slice u p.wa.length y) (.slice (some ⟨g,o,none⟩) p.funcs.length z) f.name f.type (.slice V f.params.length P) (.slice ad f.body.length ag) 0)):=(af.o.mono l).trans (az.mono J);have a5:=C5 (lV B a.heap.size p f.params (.slice u p.wa.length y) (.slice (some ⟨g,o,none⟩) p.funcs.length z) (.slice V f.params.length P) (a.alloc (lU (.slice u p.wa.length y) (.slice (some ⟨g,o,none⟩) p.funcs.length z) f.name f.type (.slice V f.params.length P) (.slice ad f.body.length ag) 0))) ⟨O,J,O,L.o.below bm Zr,I.o.below bm Zr,ao.below ((az.mono J).trans (JQ _ J)) O⟩
       have bb:=U (aE.o.below (((aj.o.mono aW).trans (az.mono J))) Zr);have a8:=U az;have bj:=U b3;obtain⟨cf,bX⟩:=C4 (fV f.body);have aG:=U bX;clear bW bs az b3 bm ao bX;by_cases aX:al=0
       .subst aX
        cases cf
        case false=>
         go_wp2_with (first
          | (go_at_call 38;(with_reducible refine(BlC.call (zAk 100) av.o a7.o ba.o a5.o a3.o bb.o a6.o).mono ?_);rintro e w9 ⟨rfl,Z,r⟩
             have i:C2 a w9:=a8.o.trans (kZ Z Gq Zr);have Y:=(i.block A.heap.size bq).trans aI.o;have D:=(i.block (w.heap.size+1) aC).trans ak.o;have a1:a.heap.size<w9.heap.size:=zB r;obtain⟨⟨bx,bz,bA,bC⟩,bD⟩:=zP Y;obtain⟨⟨F,G⟩,H⟩:=zG D;obtain⟨⟨aN,aO,aP,aQ,aR,aS,N⟩,aU⟩:=zS r;have aT:w9.drew.cell? (a.heap.size,6)=some (.int .i64 (fX n1)):=N;have aM:=C5 (w9.drew.heap[w.heap.size+1]?=some (lW 0 0)) D;have X:=U r;have aK:=U i;have be:=C5 (C2 w w9) (af.o.trans (i.mono O));have aL:=U (aE.o.below ((aj.o.mono aW).trans (i.mono J)) Zr)
             clear Z r i Y D)
          | (go_at_call 39;(with_reducible refine(WG.call (oE 100) (B:=B) av.o aG.o O aL.o).mono ?_);rintro e E ⟨rfl,ah⟩
             have S:C2 a E:=aK.o.trans (ah.mono O);have aB:=(ah.block a.heap.size a1).trans X.o;have ai:=(S.block (w.heap.size+1) aC).trans ak.o;obtain⟨⟨F,G⟩,H⟩:=zG ai;obtain⟨⟨aN,aO,aP,aQ,aR,aS,N⟩,aU⟩:=zS aB;have aT:E.drew.cell? (a.heap.size,6)=some (.int .i64 (fX n1)):=N;have bh:=C5 (E.drew.heap[w.heap.size+1]?=some (lW 0 0)) ai;have bK:=U S;have bM:=C5 (C2 w E) (af.o.trans (S.mono O))
             clear ah S aB ai))
         go_region
         all_goals go_wp2_with fail
         all_goals
          have C:=LS (W:=E) bh.o (.int .i64 j);have f1:=(js (W:=E) bh.o (.int .i64 j) (.int .i64 (fX n1))).2;refine bodyPost_ret (v:=.tuple #[(52:Int),.agg #[(j:Int),(fX n1:Int)]]) (by simp[results,results18,go_sem,C,f1]) rfl ?_;have aA:yq p f=(52,n1):=(by rw[a4.o,aG.o];simp);have d:=aF.o;rw[aA,Dq Uu]at d;subst d;exact⟨rfl,(qx bM.o O _ _).drew⟩
        case true=>
         go_wp2_with (first
          | (go_at_call 38;(with_reducible refine(BlC.call (zAk 100) av.o a7.o ba.o a5.o a3.o bb.o a6.o).mono ?_);rintro e w9 ⟨rfl,Z,r⟩
             have i:C2 a w9:=a8.o.trans (kZ Z Gq Zr);have Y:=(i.block A.heap.size bq).trans aI.o;have D:=(i.block (w.heap.size+1) aC).trans ak.o;have a1:a.heap.size<w9.heap.size:=zB r;obtain⟨⟨bx,bz,bA,bC⟩,bD⟩:=zP Y;obtain⟨⟨F,G⟩,H⟩:=zG D;obtain⟨⟨aN,aO,aP,aQ,aR,aS,N⟩,aU⟩:=zS r;have aT:w9.drew.cell? (a.heap.size,6)=some (.int .i64 (fX n1)):=N;have aM:=C5 (w9.drew.heap[w.heap.size+1]?=some (lW 0 0)) D;have X:=U r;have aK:=U i;have be:=C5 (C2 w w9) (af.o.trans (i.mono O));have aL:=U (aE.o.below ((aj.o.mono aW).trans (i.mono J)) Zr)
             clear Z r i Y D)
          | (go_at_call 39;(with_reducible refine(WG.call (oE 100) (B:=B) av.o aG.o O aL.o).mono ?_);rintro e E ⟨rfl,ah⟩
             have S:C2 a E:=aK.o.trans (ah.mono O);have aB:=(ah.block a.heap.size a1).trans X.o;have ai:=(S.block (w.heap.size+1) aC).trans ak.o;obtain⟨⟨F,G⟩,H⟩:=zG ai;obtain⟨⟨aN,aO,aP,aQ,aR,aS,N⟩,aU⟩:=zS aB;have aT:E.drew.cell? (a.heap.size,6)=some (.int .i64 (fX n1)):=N;have bh:=C5 (E.drew.heap[w.heap.size+1]?=some (lW 0 0)) ai;have bK:=U S;have bM:=C5 (C2 w E) (af.o.trans (S.mono O))
             clear ah S aB ai))
         go_roundw
         case rel=>
          refine⟨j+1,O,by go_num,?_,b8.o.trans ((aj.o.trans (bK.o.mono O)).mono O)⟩;have aA:yq p f=(0,0):=(by rw[a4.o,aG.o];simp);have d:=aF.o;rw[aA,Dp Uu]at d;exact d
         case measure=>simp[intOf];omega
       .have cs:(al != 0)=true:=by simp[aX]
        go_wp2_with (go_at_call 38;(with_reducible refine(BlC.call (zAk 100) av.o a7.o ba.o a5.o a3.o bb.o a6.o).mono ?_);rintro e w9 ⟨rfl,Z,r⟩
                     have i:C2 a w9:=a8.o.trans (kZ Z Gq Zr);have Y:=(i.block A.heap.size bq).trans aI.o;have D:=(i.block (w.heap.size+1) aC).trans ak.o;have a1:a.heap.size<w9.heap.size:=zB r;obtain⟨⟨bx,bz,bA,bC⟩,bD⟩:=zP Y;obtain⟨⟨F,G⟩,H⟩:=zG D;obtain⟨⟨aN,aO,aP,aQ,aR,aS,N⟩,aU⟩:=zS r;have aT:w9.drew.cell? (a.heap.size,6)=some (.int .i64 (fX n1)):=N;have aM:=C5 (w9.drew.heap[w.heap.size+1]?=some (lW 0 0)) D;have X:=U r;have aK:=U i;have be:=C5 (C2 w w9) (af.o.trans (i.mono O));have aL:=U (aE.o.below ((aj.o.mono aW).trans (i.mono J)) Zr)
                     clear Z r i Y D)
        go_region
        all_goals go_wp2_with fail
        all_goals
         have C:=LS (W:=w9) aM.o (.int .i64 j);have f1:=(js (W:=w9) aM.o (.int .i64 j) (.int .i64 (fX n1))).2;refine bodyPost_ret (v:=.tuple #[(al:Int),.agg #[(j:Int),(fX n1:Int)]]) (by simp[results,results18,go_sem,C,f1]) rfl ?_;have aA:yq p f=(al,n1):=(by rw[a4.o,Dq aX]);have d:=aF.o;rw[aA,Dq aX]at d;subst d;exact⟨rfl,(qx be.o O _ _).drew⟩
    .have ch:j=p.funcs.length:=by omega
     subst ch;have d:=bT.o;rw[List.drop_length]at d;go_wp2_with fail;obtain⟨C,f1⟩:=js bO.o (.int .i64 0) (.int .i64 0);refine bodyPost_ret (v:=.tuple #[(0:Int),.agg #[(0:Int),(0:Int)]]) (by simp[results,results18,go_sem,C,f1]) rfl ?_;unfold uW at d;subst d;exact⟨rfl,qx bN.o O _ _⟩
theorem zdf{α β:Type}(a:α)(r:List fH)(f:α->List fH->PR β):(PR.ok a r).bind f=f a r:=rfl
theorem GX{α:Type}{l:List α}(h:l.length=0):l=[]:=Yq h
theorem yj(e:Ex)(l:List Ex):k1 (e::l) 0=yl e:=K1 Xy
theorem TW(a e:Ex)(l:List Ex):k1 (a::e::l) 1=yl e:=K1 Xy
theorem OV(h:y8 t=some k):k≠3:=by
 unfold y8 at h;split at h
 .injection h with h
  omega
 .split at h
  .injection h with h
   omega
  .split at h
   .injection h with h
    omega
   .cases h
theorem YR{l:List UInt8}(h:wW l=some (k,t)):k≠3:=by
 unfold wW at h;split at h
 .cases hk:y8 (l.takeWhile qq)with
  |none=>rw[hk]at h;cases h
  |some j=>
    rw[hk]at h;injection h with h;injection h with h _;exact h▸OV hk
 .split at h
  .injection h with h
   injection h with h _;omega
  .cases h
theorem kK:∀(n:Nat) (l:List UInt8) (b:Nat) (ts:List fH),l.length<=n->qG l b=(ts,none)->qD ts
 | _,[],b,ts,_,a=>by
   rw[qG]at a;injection a with a _;exact⟨[],⟨3,[],b⟩,a.symm,rfl,fun t u=>by cases u⟩
 |0,c::r,b,ts,a,_=>by simp at a
 | n+1,c::r,b,ts,hl,a=>by
   simp only[Du]at hl;rw[qG]at a;split at a
   .exact kK n r _ ts O a
   .split at a
    .exact kK n r _ ts O a
    .split at a
     .have m:=List.IsSuffix.length_le (List.dropWhile_suffix (l:=r) (fun d:UInt8=>d.toNat != 10))
      exact kK n _ _ ts O a
     .split at a
      .cases a
      .rename_i k t s
       have m:(r.drop (t.length-1)).length<=r.length:=(by rw[Ys];omega);injection a with g j;obtain⟨i,e,o,q,p⟩:=kK n (r.drop (t.length-1)) b (qG (r.drop (t.length-1)) b).1 O (by rw[<-j]);refine⟨⟨k,t,b⟩::i,e,by rw[<-g,o];rfl,q,fun v f=>?_⟩;rcases List.mem_cons.1 f with rfl|f
       .exact YR s
       .exact p v f
def xq:List fH->Nat
 |[]=>0
 |t::r=>t.text.length+xq r
def Tk(l:List fH):Prop:=∀t∈l,(t.kind=1->1<=t.text.length)/\(t.kind=0->(t.text.all kl=true/\1<=t.text.length))
theorem Tk.tail(a:Tk l):Tk l.tail:=fun t b=>a t (List.mem_of_mem_tail b)
theorem nC(l:List fH):xq l=(pZ l).length+xq l.tail:=by
 cases l<;>rfl
theorem qp{s:List UInt8}(h:zr s l=true):xq l=s.length+xq l.tail:=by
 rw[nC,(uS h).2]
theorem zK{α β:Type}{x:PR α}{f:α->List fH->PR β}{b:β}{t:List fH}(h:x.bind f=.ok b t):∃a r,x=.ok a r/\f a r=.ok b t:=by
 cases x with
 |ok a r=>exact⟨a,r,rfl,h⟩
 |bad r=>cases h
 |deep r=>cases h
 |o=>cases h
theorem jA{s:List UInt8}{c:Unit}(a:zO s l=.ok c r):xq l=s.length+xq r/\(Tk l->Tk r):=by
 unfold zO at a;split at a
 .rename_i b
  injection a with _ a;exact⟨a▸qp b,fun k=>a▸k.tail⟩
 .cases a
theorem iK(a:qt 1 l=.ok s r):xq l=s.size+xq r/\(Tk l->Tk r)/\(Tk l->1<=s.size):=by
 unfold qt at a;split at a
 .rename_i b
  injection a with d a;have c:s.size=(pZ l).length:=by rw[<-d];simp[ByteArray.size]
  refine⟨by rw[c,<-a];exact nC l,fun k=>a▸k.tail,fun k=>?_⟩;rw[c];cases l with
  |nil=>cases b
  |cons t q=>exact(k t Uu).1 b
 .cases a
theorem lX{lev:Int}:∀{ops:List Int},xY lev l ops≠0->xY lev l ops∈ops/\zr (p0 (xY lev l ops)) l=true
 |[],h=>absurd rfl h
 | op::r,h=>by
   rw[xY]at h ⊢;split at h
   .rename_i a
    rw[Dq a];exact⟨Uu,a.2⟩
   .rename_i a
    rw[Dp a];exact⟨Y7 _ (lX h).1,(lX h).2⟩
theorem lY:∀{ops:List Int},xt l ops≠0->xt l ops∈ops/\zr (p0 (xt l ops)) l=true
 |[],h=>absurd rfl h
 | op::r,h=>by
   rw[xt]at h ⊢;split at h
   .rename_i a
    rw[Dq a];exact⟨Uu,a⟩
   .rename_i a
    rw[Dp a];exact⟨Y7 _ (lY h).1,(lY h).2⟩
theorem LT:∀op∈IL,1<=(p0 op).length/\(p0 op).length<=3:=Vf
theorem TX:∀op∈M7,1<=(p0 op).length/\(p0 op).length<=3:=Vf
theorem tZ:∀(n a:Nat),a<10 ^ (n+1)->(Lib.decDigits a).length<=n+1
 | n,a,h=>by
   rw[Lib.decDigits];split
   .simp
   .rename_i b
    cases n with
    |zero=>exact absurd Ve b
    |succ n=>
      have:=tZ n (a / 10) (by rw[Nat.pow_succ]at h;omega);rw[Dr];simp;omega
theorem LU:∀(l:List UInt8) (tk:Nat),l.all kl=true->kT tk l<(tk+1)*10 ^ l.length
 |[],tk,_=>by rw[g6];simp
 | c::r,tk,h=>by
   rw[List.all_cons,D3]at h
   have b:c.toNat-48<10:=by
    have:=h.1;simp[kl]at this;omega
   rw[nR];have a:=LU r (tk*10+(c.toNat-48)) h.2;refine Yb a ?_;rw[Du,Nat.pow_succ,Nat.mul_comm (10 ^ r.length) 10,<-Nat.mul_assoc];exact Nat.mul_le_mul_right _ O
theorem LV{l:List UInt8}(a:l.all kl=true)(_:1<=l.length):(Lib.itoa ((kT 0 l:Nat):Int)).length<=l.length:=by
 rw[Lib.itoa_nonneg];have:=LU l 0 a;obtain⟨n,b⟩:∃n,l.length=n+1:=⟨l.length-1,O⟩
 rw[b]at this ⊢;exact tZ n _ O
theorem WN(s:C6):s.data.toList.length=s.size:=Array.length_toList
def EX(e:Ex):Nat:=(yl e).length+2
def AX(l:List Ex):Nat:=(yH (l.map yl)).length
theorem YS(l:List Ex)(e:Ex):AX (l++[e])<=AX l+EX e:=by
 unfold AX EX;rw[Yj,Y5,Cm,rV,Dr,Dr];split<;>simp<;>omega
theorem DV(lev:Int)(e:Ex):(opT lev e).length<=EX e:=by
 unfold opT w3 EX;split<;>simp
theorem zbb(op:Int)(a b:Ex)(c:op∈IL):EX (.mk 5 op 0 bE [a,b])<=EX a+EX b+7:=by
 have d:yl (.mk 5 op 0 bE [a,b])=opT (kG op) a++32::(p0 op++32::opT (kG op+1) b):=by rw[nV,hI];rfl
 have e:=DV (kG op) a;have f:=DV (kG op+1) b;have g:=LT op c;unfold EX at *;rw[d];simp only[Dr,Du];omega
theorem TY(op:Int)(a:Ex)(b:op∈M7):EX (.mk 4 op 0 bE [a])<=EX a+5:=by
 have c:yl (.mk 4 op 0 bE [a])=if 23<=op then p0 op++40::(yl a++[41])else p0 op++opT 11 a:=by rw[nV,hI];rfl
 have d:=DV 11 a;have e:=TX op b;unfold EX at *;rw[c];split<;>simp only[Dr,Du,Dy]<;>omega
theorem zbc(s:C6):EX (.mk 3 0 0 s [])=s.size+2:=by
 unfold EX;rw[nV];exact congrArg (·+2) (WN s)
theorem TZ(s:C6)(e:Ex):EX (.mk 6 0 0 s [e])=s.size+EX e+2:=by
 have a:yl (.mk 6 0 0 s [e])=s.data.toList++91::(yl e++[93]):=by rw[nV,hI];rfl
 unfold EX;rw[a];simp only[Dr,Du,Dy,WN]
theorem LW(s:C6)(l:List Ex):EX (.mk 7 0 0 s l)=s.size+AX l+4:=by
 have a:yl (.mk 7 0 0 s l)=s.data.toList++40::(yH (l.map yl)++[41]):=by
  rw[nV,hI];show s.data.toList++40::(yH ((l.map fun e=>(e.kind,e.op,yl e)).map (·.2.2))++[41])=_;rw[List.map_map];rfl
 unfold EX AX;rw[a];simp only[Dr,Du,Dy,WN];omega
theorem BS(n:Nat):(∀lev d l e r,Tk l->pE n lev d l=.ok e r->EX e+50*xq r<=50*xq l/\Tk r)/\(∀lev d a l e r,Tk l->pL n lev d a l=.ok e r->EX e+50*xq r<=EX a+50*xq l/\Tk r)/\
 (∀d l e r,Tk l->pU n d l=.ok e r->EX e+50*xq r<=50*xq l/\Tk r)/\(∀d l e r,Tk l->pP n d l=.ok e r->EX e+50*xq r<=50*xq l/\Tk r)/\
 (∀d s l e r,Tk l->pN n d s l=.ok e r->EX e+50*xq r<=s.size+2+50*xq l/\Tk r)/\(∀d l z r,Tk l->pA n d l=.ok z r->AX z+50*xq r+50<=50*xq l/\Tk r)/\(∀d tk l z r,Tk l->rZ n d tk l=.ok z r->AX z+50*xq r+50<=AX tk+50*xq l/\Tk r):=by
 induction n with
 |zero=>exact⟨fun _ _ _ _ _ _ c=>(by rw[pE]at c;cases c),fun _ _ _ _ _ _ _ c=>(by rw[pL]at c;cases c),fun _ _ _ _ _ c=>(by rw[pU]at c;cases c),fun _ _ _ _ _ c=>(by rw[pP]at c;cases c),fun _ _ _ _ _ _ c=>(by rw[pN]at c;cases c),fun _ _ _ _ _ c=>(by rw[pA]at c;cases c),fun _ _ _ _ _ _ c=>(by rw[rZ]at c;cases c)⟩
 |succ n W=>
   obtain⟨C,P,Q,V,T,S,N⟩:=W;refine⟨fun lev d l e r k c=>?_,fun lev d a l e r k c=>?_,fun d l e r k c=>?_,fun d l e r k c=>?_,fun d s l e r k c=>?_,fun d l z r k c=>?_,fun d tk l z r k c=>?_⟩
   .rw[pE]at c
    split at c
    .exact Q _ _ _ _ k c
    .obtain⟨a,F,u,m⟩:=zK c
     have i:=C _ _ _ _ _ k u;have D:=P _ _ _ _ _ _ i.2 m;exact⟨O,D.2⟩
   .rw[pL]at c
    split at c
    .injection c with u m
     subst u m;exact⟨Dz _,k⟩
    .rename_i I
     obtain⟨B,j⟩:=lX I;obtain⟨b,F,u,m⟩:=zK c;have i:=C _ _ _ _ _ k.tail u;have D:=P _ _ _ _ _ _ i.2 m;have o:=qp j;have R:=LT _ B;have L:=zbb (E3 lev l) a b B;unfold E3 at *;exact⟨O,D.2⟩
   .rw[pU]at c
    split at c
    .cases c
    .split at c
     .exact V _ _ _ _ k c
     .rename_i I
      obtain⟨B,j⟩:=lY I;have o:=qp j;have R:=TX _ B;split at c
      .obtain⟨X,F,u,m⟩:=zK c
       obtain⟨a,G,x,w⟩:=zK m;obtain⟨v,H,y,f⟩:=zK w;injection f with f g;subst f g;have E:=jA u;have i:=C _ _ _ _ _ (E.2 k.tail) x;have p:=jA y;have L:=TY (p1 l) a B;have K:=E.1;have A:=p.1;simp only[Du,Dy]at K A;unfold p1 at *;exact⟨O,p.2 i.2⟩
      .obtain⟨a,G,x,w⟩:=zK c
       injection w with f g;subst f g;have i:=Q _ _ _ _ k.tail x;have L:=TY (p1 l) a B;unfold p1 at *;exact⟨O,i.2⟩
   .rw[pP]at c
    split at c
    .rename_i j
     obtain⟨a,G,x,w⟩:=zK c;obtain⟨v,H,y,f⟩:=zK w;injection f with f g;subst f g;have o:=qp j;have i:=C _ _ _ _ _ k.tail x;have p:=jA y;have A:=p.1;exact⟨O,p.2 i.2⟩
    .split at c
     .rename_i j
      injection c with f g;subst f g;have o:=qp j;have:EX (.mk 2 0 1 bE [])=6:=Vf;rw[this];simp only[hJ,Du,Dy]at o;exact⟨O,k.tail⟩
     .split at c
      .rename_i j
       injection c with f g;subst f g;have o:=qp j;have:EX (.mk 2 0 0 bE [])=7:=Vf;rw[this];simp only[uL,Du,Dy]at o;exact⟨O,k.tail⟩
      .split at c
       .rename_i j
        obtain⟨X,F,u,m⟩:=zK c;obtain⟨v,H,y,f⟩:=zK m;injection f with f g;subst f g;have o:=qp j;have E:=jA u;have p:=jA y;have K:=E.1;have A:=p.1;have:EX (.mk 8 0 0 bE [])=8:=Vf;rw[this];simp only[mA,Du,Dy]at o;exact⟨O,p.2 (E.2 k.tail)⟩
       .split at c
        .rename_i M
         injection c with f g;subst f g;have o:=nC l
         have Z:EX (.mk 1 0 (kT 0 (pZ l)) bE [])<=(pZ l).length+2/\1<=(pZ l).length:=by
          cases l with
          |nil=>cases M
          |cons t q=>
            have m:=(k t Uu).2 M;refine⟨?_,m.2⟩;unfold EX;rw[nV];exact Nat.add_le_add_right (LV m.1 m.2) 2
         exact⟨O,k.tail⟩
        .obtain⟨s,F,u,m⟩:=zK c
         have J:=iK u;have i:=T _ _ _ _ _ (J.2.1 k) m;have:=J.2.2 k;have:=J.1;exact⟨O,i.2⟩
   .rw[pN]at c
    split at c
    .rename_i j
     obtain⟨z,F,u,m⟩:=zK c;injection m with f g;subst f g;have o:=qp j;have i:=S _ _ _ _ k.tail u;rw[LW];simp only[Du,Dy]at o;exact⟨O,i.2⟩
    .split at c
     .rename_i j
      obtain⟨a,G,x,w⟩:=zK c;obtain⟨v,H,y,f⟩:=zK w;injection f with f g;subst f g;have o:=qp j;have i:=C _ _ _ _ _ k.tail x;have p:=jA y;have A:=p.1;rw[TZ];exact⟨O,p.2 i.2⟩
     .injection c with f g
      subst f g;rw[zbc];exact⟨O,k⟩
   .rw[pA]at c
    split at c
    .rename_i j
     injection c with f g;subst f g;have o:=qp j;simp only[Du,Dy]at o;have:AX []=0:=rfl;exact⟨O,k.tail⟩
    .have i:=N _ _ _ _ _ k c
     have:AX []=0:=rfl;exact⟨O,i.2⟩
   .rw[rZ]at c
    obtain⟨a,G,x,w⟩:=zK c;have i:=C _ _ _ _ _ k x;have Y:=YS tk a;split at w
    .rename_i j
     have o:=qp j;have D:=N _ _ _ _ _ i.2.tail w;exact⟨O,D.2⟩
    .obtain⟨v,H,y,f⟩:=zK w
     injection f with f g;subst f g;have p:=jA y;have A:=p.1;simp only[Du,Dy]at A;exact⟨O,p.2 i.2⟩
theorem j2{lev:Int}{e:Ex}(k:Tk l)(h:pE n lev d l=.ok e r):EX e+50*xq r<=50*xq l/\Tk r:=(BS n).1 _ _ _ _ _ k h
theorem YT{a:List Ex}(k:Tk l)(b:pA n d l=.ok a r):AX a+50*xq r+50<=50*xq l/\Tk r:=(BS n).2.2.2.2.2.1 _ _ _ _ k b
theorem uj{α:Type}{x:PR α}{a:α}(d:vP x=.ok a r):∃c,x=.ok a c/\xq c=1+xq r/\(Tk c->Tk r):=by
 unfold vP at d;obtain⟨b,c,e,f⟩:=zK d;obtain⟨_,_,g,i⟩:=zK f;injection i with j k;subst j k;have m:=jA g;exact⟨c,e,m.1,m.2⟩
theorem t1{t:Int}(k:Tk l)(a:k4 l=.ok t r):3+xq r<=xq l/\Tk r/\(XA t).length<=4:=by
 unfold k4 at a;split at a
 .rename_i i
  injection a with b c;subst b c;have g:=qp i;simp only[k3,Du,Dy]at g;exact⟨O,k.tail,Us⟩
 .obtain⟨n,j,e,f⟩:=zK a
  injection f with b c;subst b c;have m:=jA e;have d:=m.1;simp only[xR,Du,Dy]at d;exact⟨O,m.2 k,Us⟩
theorem DW{e:Ex}(k:Tk l)(c:pI n l=.ok e r):EX e+50*xq r+100<=50*xq l/\Tk r:=by
 unfold pI at c;obtain⟨_,_,m,o⟩:=zK c;obtain⟨a,_,p,q⟩:=zK o;obtain⟨v,_,s,b⟩:=zK q;injection b with b t;subst b t;have d:=jA m;have g:=j2 (d.2 k) p;have f:=jA s;have i:=d.1;have j:=f.1;simp only[Du,Dy]at i j;exact⟨O,f.2 g.2⟩
theorem DX(t:Nat):(CL t).length=t:=Cg
theorem iL{a:Int}{td:C6}{tc:List Ex}{tg th:List St}(b:k≠4)(c:k≠5)(t:Nat):(QQ (.mk k a td tc tg th) t).length=t+(yI k a td tc).length+1:=by
 rw[II,Dp b,Dp c,Dr,Dr,DX];simp;omega
theorem LX(e:Ex)(tg th:List St)(t:Nat):(QQ (.mk 4 0 bE [e] tg th) t).length<=2*t+8+EX e+(xQ tg (t+1)).length+(if th.length=0 then 0 else t+9+(xQ th (t+1)).length):=by
 have a:yI 4 0 bE [e]=M8++32::(40::(yl e++[41,32,123])):=Kd
 rw[II,a,Dq Xy];unfold EX;split<;>simp only[Dr,Du,Dy,DX,M8]<;>omega
theorem YU(e:Ex)(tg:List St)(t:Nat):(QQ (.mk 5 0 bE [e] tg []) t).length=2*t+11+EX e+(xQ tg (t+1)).length:=by
 have a:yI 5 0 bE [e]=vO++32::(40::(yl e++[41,32,123])):=Kd
 rw[II,a,Dp Us,Dq Xy];unfold EX;simp only[Dr,Du,Dy,DX,vO];omega
theorem T0{s:St}(k:Tk l)(B:q8 n l=.ok s r):(∀t,(QQ s t).length+50*xq r+90<=t+50*xq l)/\Tk r:=by
 unfold q8 at B;obtain⟨c,P,G,e⟩:=zK B;have w:=iK G;have S:=w.1;have A:=w.2.1 k;have T:=w.2.2 k;split at e
 .rename_i z
  obtain⟨p,D,f,g⟩:=zK e;injection g with i j;subst i j;have y:=qp z;have d:=YT A.tail f;simp only[Du,Dy]at y;refine⟨fun t=>?_,d.2⟩;have m:yI 10 0 bE [.mk 7 0 0 c p]=yl (.mk 7 0 0 c p)++[59]:=by rw[<-yj (.mk 7 0 0 c p) []];rfl
  have L:=LW c p;unfold EX at L;rw[iL Us Us,m];simp only[Dr,Du,Dy];omega
 .split at e
  .rename_i z
   obtain⟨a,D,f,g⟩:=zK e;obtain⟨N,M,u,i⟩:=zK g;obtain⟨v,Q,j,x⟩:=zK i;obtain⟨b,R,K,H⟩:=zK x;injection H with I J;subst I J;have y:=qp z;have d:=j2 A.tail f;have o:=jA u;have C:=jA j;have E:=j2 (C.2 (o.2 d.2)) K;have q:=o.1;have F:=C.1;simp only[Du,Dy]at y q F;refine⟨fun t=>?_,E.2⟩;have m:yI 3 0 c [a,b]=c.data.toList++91::(yl a++93::32::61::32::(yl b++[59])):=by rw[<-yj a [b],<-TW a b []];rfl
   exact Qi
  .obtain⟨N,D,f,g⟩:=zK e
   obtain⟨a,M,u,i⟩:=zK g;injection i with j x;subst j x;have o:=jA f;have d:=j2 (o.2 A) u;have q:=o.1;simp only[Du,Dy]at q;refine⟨fun t=>?_,d.2⟩;have m:yI 2 0 c [a]=c.data.toList++32::61::32::(yl a++[59]):=by rw[<-yj a []];rfl
   exact Qi
theorem OW(n:Nat):(∀d l s r,Tk l->pS n d l=.ok s r->(∀t:Nat,(t:Int)<=d->(QQ s t).length+50*xq r<=50*xq l)/\Tk r)/\
 (∀d e tg l s r,d<=100->Tk l->rA n d e tg l=.ok s r->(∀t:Nat,(t:Int)<=d->(QQ s t).length+50*xq r<=2*t+8+EX e+(xQ tg (t+1)).length+50*xq l)/\Tk r)/\
 (∀d l b r,Tk l->pB n d l=.ok b r->(∀t:Nat,(t:Int)<=d->(xQ b t).length+50*xq r+100<=50*xq l)/\Tk r)/\
 (∀d tk l b r,Tk l->nP n d tk l=.ok b r->(∀t:Nat,(t:Int)<=d->(xQ b t).length+50*xq r+50<=(xQ tk t).length+50*xq l)/\Tk r):=by
 induction n with
 |zero=>exact⟨fun _ _ _ _ _ a=>(by rw[pS]at a;cases a),fun _ _ _ _ _ _ _ _ a=>(by rw[rA]at a;cases a),fun _ _ _ _ _ a=>(by rw[pB]at a;cases a),fun _ _ _ _ _ _ a=>(by rw[nP]at a;cases a)⟩
 |succ n X=>
   obtain⟨W,V,H,J⟩:=X;refine⟨fun d l s r k a=>?_,fun d e tg l s r T k a=>?_,fun d l b r k a=>?_,fun d tk l b r k a=>?_⟩
   .rw[pS]at a
    split at a
    .cases a
    .rename_i T
     split at a
     .obtain⟨q,u,E,x⟩:=uj a
      obtain⟨N,A,i,j⟩:=zK u;obtain⟨K,M,B,C⟩:=zK j;obtain⟨Y,Z,c,f⟩:=zK C;obtain⟨e,aa,Q,R⟩:=zK f;injection R with S P;subst S P;have p:=t1 k i;have w:=iK B;have ab:=w.1;have ad:=w.2.2 p.2.1;have D:=jA c;have G:=D.1;simp only[Du,Dy]at G;have z:=j2 (D.2 (w.2.1 p.2.1)) Q;refine⟨fun t g=>?_,x z.2⟩;have y:yI 1 N K [e]=XA N++32::(K.data.toList++32::61::32::(yl e++[59])):=Kd;unfold EX at *;rw[iL Us Us,y];simp only[Dr,Du,Dy,WN];omega
     .split at a
      .rename_i o
       have m:=qp o;simp only[M8,Du,Dy]at m;obtain⟨e,A,i,j⟩:=zK a;obtain⟨b,M,B,C⟩:=zK j;have p:=DW k.tail i;have v:=H _ _ _ _ p.2 B;have L:=V _ _ _ _ _ _ O v.2 C;refine⟨fun t g=>?_,L.2⟩;have F:=v.1 (t+1) O;have I:=L.1 t g;omega
      .split at a
       .rename_i o
        have m:=qp o;simp only[vO,Du,Dy]at m;obtain⟨e,A,i,j⟩:=zK a;obtain⟨b,M,B,C⟩:=zK j;injection C with c f;subst c f;have p:=DW k.tail i;have v:=H _ _ _ _ p.2 B;refine⟨fun t g=>?_,v.2⟩;have F:=v.1 (t+1) O;rw[YU];omega
       .split at a
        .rename_i o
         have m:=qp o;simp only[hK,Du,Dy]at m;obtain⟨q,u,E,x⟩:=uj a;injection u with c f;subst c f;refine⟨fun t g=>?_,x k.tail⟩;have y:(yI 6 0 bE []).length=6:=Xy;rw[iL Us Us,y];omega
        .split at a
         .rename_i o
          have m:=qp o;simp only[rY,Du,Dy]at m;obtain⟨q,u,E,x⟩:=uj a;injection u with c f;subst c f;refine⟨fun t g=>?_,x k.tail⟩;have y:(yI 7 0 bE []).length=9:=Xy;rw[iL Us Us,y];omega
         .split at a
          .rename_i o
           have m:=qp o;simp only[E5,Du,Dy]at m;obtain⟨q,u,E,x⟩:=uj a;obtain⟨e,A,i,j⟩:=zK u;injection j with c f;subst c f;have z:=j2 k.tail i;refine⟨fun t g=>?_,x z.2⟩;have y:yI 8 0 bE [e]=E5++32::(yl e++[59]):=Kd;unfold EX at *;rw[iL Us Us,y];simp only[Dr,Du,Dy,E5];omega
          .split at a
           .rename_i o
            have m:=qp o;simp only[lM,Du,Dy]at m;obtain⟨q,u,E,x⟩:=uj a;obtain⟨e,A,i,j⟩:=zK u;injection j with c f;subst c f;have z:=DW k.tail i;refine⟨fun t g=>?_,x z.2⟩;have y:yI 9 0 bE [e]=lM++40::(yl e++[41,59]):=Kd;unfold EX at *;rw[iL Us Us,y];simp only[Dr,Du,Dy,lM];omega
           .obtain⟨q,u,E,x⟩:=uj a
            have z:=T0 k u;refine⟨fun t g=>?_,x z.2⟩;have:=z.1 t;omega
   .rw[rA]at a
    split at a
    .rename_i o
     have m:=qp o;simp only[AA,Du,Dy]at m;obtain⟨b,A,i,j⟩:=zK a;injection j with c f;subst c f;have v:=H _ _ _ _ k.tail i;refine⟨fun t g=>?_,v.2⟩;have F:=v.1 (t+1) O;have:=LX e tg b t;split at this<;>omega
    .injection a with c f
     subst c f;refine⟨fun t g=>?_,k⟩;have:=LX e tg [] t;rw[Dq Xy]at this;omega
   .rw[pB]at a
    obtain⟨Y,A,i,j⟩:=zK a;have D:=jA i;have G:=D.1;simp only[Du,Dy]at G;have p:=J _ _ _ _ _ (D.2 k) j;refine⟨fun t g=>?_,p.2⟩;have:=p.1 t g;rw[rW]at this;simp only[Dy]at this;omega
   .rw[nP]at a
    split at a
    .rename_i o
     have m:=qp o;simp only[Du,Dy]at m;injection a with c f;subst c f;exact⟨fun t g=>O,k.tail⟩
    .obtain⟨s,A,i,j⟩:=zK a
     have p:=W _ _ _ _ k i;have v:=J _ _ _ _ _ p.2 j;refine⟨fun t g=>?_,v.2⟩;have F:=p.1 t g;have I:=v.1 t g;rw[RA,nW,rW,Yd,Dr]at I;omega
theorem YV{b:List St}(k:Tk l)(h:pB n d l=.ok b r):(∀t:Nat,(t:Int)<=d->(xQ b t).length+50*xq r+100<=50*xq l)/\Tk r:=(OW n).2.2.1 _ _ _ _ k h
def PX(l:List Pa):Nat:=(yH (l.map paT)).length
theorem YW(l:List Pa)(x:Pa):PX (l++[x])<=PX l+((XA x.type).length+x.name.size+3):=by
 unfold PX;rw[Yj,Y5,Cm,rV,Dr,Dr]
 have:(paT x).length=(XA x.type).length+x.name.size+1:=by
  unfold paT;rw[Dr,Du,WN];omega
 split<;>simp<;>omega
theorem GY:∀(n:Nat) (tk:List Pa) (l:List fH) (ps:List Pa) (r:List fH),Tk l->p2 n tk l=.ok ps r->PX ps+50*xq r<=PX tk+50*xq l/\Tk r
 |0,_,_,_,_,_,h=>by rw[p2]at h;cases h
 | n+1,tk,l,ps,r,k,h=>by
   rw[p2]at h;obtain⟨t,x,e,f⟩:=zK h;obtain⟨s,y,g,a⟩:=zK f;have b:=t1 k e;have w:=iK g;have B:=w.1;have C:=w.2.2 b.2.1;have q:=YW tk ⟨s,t⟩;simp only at q;split at a
   .rename_i p
    have v:=qp p;have d:=GY n _ _ _ _ (w.2.1 b.2.1).tail a;exact⟨O,d.2⟩
   .obtain⟨A,z,i,j⟩:=zK a
    injection j with m o;subst m o;have c:=jA i;have u:=c.1;exact⟨O,c.2 (w.2.1 b.2.1)⟩
theorem T1{ps:List Pa}(k:Tk l)(c:XG n l=.ok ps r):PX ps+50*xq r+50<=50*xq l/\Tk r:=by
 unfold XG at c;obtain⟨q,p,f,a⟩:=zK c;have b:=jA f;have e:=b.1;simp only[Du,Dy]at e;have m:PX []=0:=rfl;split at a
 .rename_i j
  have o:=qp j;injection a with g i;subst g i;exact⟨O,(b.2 k).tail⟩
 .have d:=GY n _ _ _ _ (b.2 k) a
  exact⟨O,d.2⟩
theorem zbd(f:Fu):(XC f).length=(XA f.type).length+f.name.size+PX f.params+(xQ f.body 1).length+8:=by
 unfold XC PX;simp only[Dr,Du,Dy,WN];omega
theorem T2{t:Int}{f:Fu}(k:Tk l)(_:(XA t).length<=4)(a:o9 n t s l=.ok f r):(XC f).length+50*xq r+100<=s.size+50*xq l/\Tk r:=by
 unfold o9 at a;obtain⟨ps,_,d,e⟩:=zK a;obtain⟨b,_,g,i⟩:=zK e;injection i with j m;subst j m;have o:=T1 k d;have c:=YV o.2 g;have p:=c.1 1 Us;rw[zbd];simp only;exact⟨O,c.2⟩
theorem OX(k:Tk l)(a:qt 0 l=.ok s r):xq l=s.size+xq r/\Tk r/\(Lib.itoa ((kT 0 s.data.toList:Nat):Int)).length<=s.size/\1<=s.size:=by
 unfold qt at a;split at a
 .rename_i e
  injection a with f a;have d:s.data.toList=pZ l:=by rw[<-f]
  have c:s.size=(pZ l).length:=by rw[<-d];exact(WN s).symm
  have b:(pZ l).all kl=true/\1<=(pZ l).length:=by
   cases l with
   |nil=>cases e
   |cons t q=>exact(k t Uu).2 e
  refine⟨by rw[c,<-a];exact nC l,a▸k.tail,?_,by rw[c];exact b.2⟩;rw[d,c];exact LV b.1 b.2
 .cases a
theorem zbe(a:Ar):(arT a).length=a.name.size+(Lib.itoa a.size).length+8:=by
 unfold arT;simp only[Dr,Du,Dy,WN];omega
theorem OY{a:Ar}(k:Tk l)(b:p3 s l=.ok a r):(arT a).length+50*xq r+100<=s.size+50*xq l/\Tk r:=by
 unfold p3 at b;obtain⟨t,_,g,i⟩:=zK b;obtain⟨_,_,j,m⟩:=zK i;obtain⟨v,_,n,o⟩:=zK m;injection o with p q;subst p q;have w:=OX k g;have x:=w.1;have y:=w.2.2.1;have z:=w.2.2.2;have c:=jA j;have d:=jA n;have e:=c.1;have f:=d.1;simp only[Du,Dy]at e f;rw[zbe];simp only;exact⟨O,d.2 (c.2 w.2.1)⟩
theorem t2:∀(n:Nat) (p:Pr) (l:List fH) (q:Pr) (r:List fH),Tk l->k5 n p l=.ok q r->(K0 q).length+50*xq r<=(K0 p).length+50*xq l
 |0,_,_,_,_,_,h=>by rw[k5]at h;cases h
 | n+1,p,l,q,r,k,h=>by
   rw[k5]at h;split at h
   .injection h with d g
    subst d g;exact Dz _
   .obtain⟨A,y,d,g⟩:=zK h
    obtain⟨x,z,s,i⟩:=zK g;have b:=t1 k d;have w:=iK s;have B:=w.1;have C:=w.2.2 b.2.1;split at i
    .rename_i t
     have v:=qp t.2.2;obtain⟨a,u,j,m⟩:=zK i;have c:=OY (w.2.1 b.2.1).tail j;have o:=t2 n _ _ _ _ c.2 m
     have e:(K0 ⟨p.wa++[a],p.funcs⟩).length=(K0 p).length+(arT a).length:=by
      exact Qh
     omega
    .obtain⟨f,u,j,m⟩:=zK i
     have c:=T2 (w.2.1 b.2.1) b.2.2 j;have o:=t2 n _ _ _ _ c.2 m
     have e:(K0 ⟨p.wa,p.funcs++[f]⟩).length=(K0 p).length+(XC f).length:=by
      exact Qh
     omega
theorem GZ{p:Pr}(k:Tk ts)(h:kX ts=.ok p r):(K0 p).length<=50*xq ts:=by
 have:=t2 _ _ _ _ _ k h;have e:(K0 ⟨[],[]⟩).length=0:=rfl;omega
theorem OZ(a:y8 t=some 0):t.all kl=true:=by
 unfold y8 at a;split at a
 .injection a with a
  omega
 .split at a
  .injection a with a
   omega
  .split at a
   .rename_i b
    simp only[xM,D3,decide_eq_true_eq]at b;exact b.1.1.2
   .cases a
theorem T3{l:List UInt8}(a:wW l=some (k,t)):1<=t.length/\t.length<=l.length/\(k=0->t.all kl=true):=by
 unfold wW at a;split at a
 .rename_i d
  cases hk:y8 (l.takeWhile qq)with
  |none=>rw[hk]at a;cases a
  |some j=>
    rw[hk]at a;injection a with a;injection a with b c;subst b c;exact⟨List.length_pos_iff.2 d,(Cu _).length_le,fun e=>OZ (e▸hk)⟩
 .split at a
  .rename_i d
   injection a with a;injection a with b c;subst b c;refine⟨List.length_pos_iff.2 d,?_,fun e=>O⟩;unfold yG;cases hf:g7.find? (fun t=>Lib.hasPrefix l t)with
   |none=>simp
   |some g=>
     have f:=List.find?_some hf;exact(List.isPrefixOf_iff_prefix.1 f).length_le
  .cases a
theorem nD:∀(n:Nat) (l:List UInt8) (b:Nat) (ts:List fH),l.length<=n->qG l b=(ts,none)->Tk ts/\xq ts<=l.length
 | _,[],b,ts,_,a=>by
   rw[qG]at a;injection a with a _;subst a;refine⟨fun t p=>?_,Dz _⟩;obtain rfl:=List.mem_singleton.1 p;exact⟨fun a=>Xe,fun a=>Xe⟩
 |0,c::r,b,ts,a,_=>by simp at a
 | n+1,c::r,b,ts,hl,a=>by
   simp only[Du]at hl ⊢;rw[qG]at a;split at a
   .have:=nD n r _ ts O a
    exact⟨this.1,O⟩
   .split at a
    .have:=nD n r _ ts O a
     exact⟨this.1,O⟩
    .split at a
     .have j:=List.IsSuffix.length_le (List.dropWhile_suffix (l:=r) (fun d:UInt8=>d.toNat != 10))
      have:=nD n _ _ ts O a;exact⟨this.1,O⟩
     .split at a
      .cases a
      .rename_i k t o
       have j:(r.drop (t.length-1)).length=r.length-(t.length-1):=Ys;obtain⟨f,s,u⟩:=T3 o;rw[Du]at s;injection a with g i;obtain⟨q,w⟩:=nD n (r.drop (t.length-1)) b (qG (r.drop (t.length-1)) b).1 O (by rw[<-i]);subst g;refine⟨fun v e=>?_,?_⟩
       .rcases List.mem_cons.1 e with rfl|e
        .exact⟨fun _=>f,fun m=>⟨u m,f⟩⟩
        .exact q v e
       .show t.length+xq _<=_
        omega
theorem JS{l:List UInt8}{d:Nat}{p:Pr}(a:qG l d=(ts,none))(c:kX ts=.ok p r):(K0 p).length<=50*l.length:=by
 have b:=nD _ _ _ _ Zr a;have e:=GZ b.1 c;omega
theorem O0(a:y8 t=some 0):xM t=true:=by
 unfold y8 at a;split at a
 .injection a with a
  omega
 .split at a
  .injection a with a
   omega
  .split at a
   .rename_i b
    exact b
   .cases a
theorem YX{l:List UInt8}(a:wW l=some (k,t))(d:k=0):xM t=true:=by
 subst d;unfold wW at a;split at a
 .cases hk:y8 (l.takeWhile qq)with
  |none=>rw[hk]at a;cases a
  |some j=>
    rw[hk]at a;injection a with a;injection a with b c;subst b c;exact O0 hk
 .split at a
  .injection a with a
   injection a with b c;omega
  .cases a
theorem uk:∀(n:Nat) (l:List UInt8) (e:Nat) (ts:List fH),l.length<=n->qG l e=(ts,none)->(∀t∈ts,t.kind=0->xM t.text=true/\t.text.length<=l.length)/\ts.length<=l.length+1
 | _,[],e,ts,_,a=>by
   rw[qG]at a;injection a with a _;subst a;refine⟨fun t f=>?_,Uu⟩;obtain rfl:=List.mem_singleton.1 f;exact fun a=>Xe
 |0,c::r,e,ts,a,_=>by simp at a
 | n+1,c::r,e,ts,hl,a=>by
   simp only[Du]at hl ⊢;rw[qG]at a
   have i:∀{k:Nat},k<=r.length->((∀t∈ts,t.kind=0->xM t.text=true/\t.text.length<=k)/\ts.length<=k+1)->(∀t∈ts,t.kind=0->xM t.text=true/\t.text.length<=r.length+1)/\ts.length<=r.length+1+1:=fun x ⟨j,w⟩=>
    ⟨fun t f b=>⟨(j t f b).1,by have:=(j t f b).2;omega⟩,O⟩
   split at a
   .exact i Zr (uk n r _ ts O a)
   .split at a
    .exact i Zr (uk n r _ ts O a)
    .split at a
     .have m:=List.IsSuffix.length_le (List.dropWhile_suffix (l:=r) (fun d:UInt8=>d.toNat != 10))
      exact i m (uk n _ _ ts O a)
     .split at a
      .cases a
      .rename_i k t o
       have m:(r.drop (t.length-1)).length=r.length-(t.length-1):=Ys;obtain⟨z,q,_⟩:=T3 o;rw[Du]at q;injection a with u v;obtain⟨p,y⟩:=uk n (r.drop (t.length-1)) e (qG (r.drop (t.length-1)) e).1 O (by rw[<-v]);subst u;refine⟨fun s g=>?_,?_⟩
       .rcases List.mem_cons.1 g with rfl|g
        .exact fun b=>⟨YX o b,q⟩
        .exact fun b=>⟨(p s g b).1,by have:=(p s g b).2;omega⟩
       .rw[Du]
        omega
def WO(l:List fH):Nat:=match l with|t::_=>t.line | []=>0
def EP:Pr:=⟨[],[]⟩
def JT(ts:List fH):Pr×Int×Nat:=
 match kX ts with
 |.ok p _=>if f5 p=true then(p,0,0)else(EP,2,0)
 |.bad r=>(EP,20,WO r)
 |.deep r=>(EP,2,WO r)
 |.o=>(EP,0,0)
def yV(s:C6):Pr×Int×Nat:=
 if 100000<s.size then(EP,2,0)
 else match (qG s.data.toList 1).2 with
  |some a=>(EP,20,a)
  |none=>JT (qG s.data.toList 1).1
theorem oT(h:100000<s.size):yV s=(EP,2,0):=by unfold yV;rw[Dq h]
theorem DY(_:s.size<=100000){a:Nat}(b:(qG s.data.toList 1).2=some a):yV s=(EP,20,a):=by unfold yV;rw[Dp O,b]
theorem iM(_:s.size<=100000)(a:qG s.data.toList 1=(ts,none)):yV s=JT ts:=by unfold yV;rw[Dp O,a]
theorem oU{l:List UInt8}(h:(qG l 1).2=none):qG l 1=((qG l 1).1,none):=by rw[<-h]
