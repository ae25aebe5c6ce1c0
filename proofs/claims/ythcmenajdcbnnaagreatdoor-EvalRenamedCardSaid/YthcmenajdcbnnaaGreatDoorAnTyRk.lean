import Derived.Test.YthcmenajdcbnnaaGreatDoorAnTreeRefG
set_option linter.unusedSimpArgs false
set_option linter.unusedVariables false
set_option maxRecDepth 100000
set_option maxHeartbeats 99000000
namespace Go.Proofs.YthcmenajdcbnnaaGreatDoor
open Go.RowKit Tryz
theorem Qf{p:Prop}(h:p:=by
 unfold KZ;simp only[Yf,List.flatten_append,Dn,Yb,Cj,List.flatten_cons,List.flatten_nil,D8]
 omega):p:=h
theorem Qg{p:Prop}(h:p:=by
 unfold EX at *;rw[hH Up Up,m];simp only[Dn,Dp,Du,XI]
 omega):p:=h
variable{l r:List dY}{s:C2}{k d:Int}{t:List UInt8}{n:Nat}
def frP(l:List Pa):Prop:=∀(q:Nat) x,l[q]?=some x->zX (l.take q) x.name=none
theorem g9{y:Pa}{l:List Pa}:zX (y::l) s=none↔¬y.name=s/\zX l s=none:=by
 rw[zX];cases hv:zX l s with
 |some t=>simp
 |none=>by_cases h:y.name=s<;>simp[h]
theorem tM:∀{l:List Pa},fJ l=false↔frP l
 |[]=>⟨fun _ q x b=>by simp at b,fun _=>rfl⟩
 | y::r=>by
   rw[fJ,Cb,tM (l:=r)];constructor
   .rintro⟨c,g⟩ q x a
    cases q with
    |zero=>simp[zX]
    |succ q=>
      have f:r[q]?=some x:=Uy
      rw[Y3,g9];refine⟨fun e=>?_,g q x f⟩;rw[yh,Ch]at c;exact c x (Ye f) (by simp[e])
   .intro b
    have d:∀(q:Nat) x,r[q]?=some x->¬y.name=x.name/\zX (r.take q) x.name=none:=fun q x a=>by
     have:=b (q+1) x Uy;rwa [Y3,g9]at this
    refine⟨?_,fun q x a=>(d q x a).2⟩;rw[yh,Ch];intro x i;obtain⟨q,a⟩:=List.getElem?_of_mem i;simpa using fun e=>(d q x a).1 e.symm
theorem JR{B b:Nat}(w:C3)(_:B<=b):Below B w (eG b w):=⟨rfl,rfl,rfl,by rw[qk];exact Dy _,fun k _=>kx w O⟩
theorem e5.takeS{B:Nat}{w:C3}{a:Option Addr}{c:Nat}{l:List Pa}(b:e5 B w (.slice a l.length c) l)(k:Nat)(d:k<=l.length):e5 B w (.slice a k c) (l.take k):=by
 have j:=b.2 a l.length c rfl;refine⟨⟨_,c,by rw[Yc,Y6 d],?_,fun e=>?_⟩,fun _ _ c' i=>by injection i with _ _ _;omega⟩
 .obtain⟨_,_,_,_⟩:=b.form
  rw[Yc];omega
 .rw[Yc]at e
  obtain⟨g,o,rfl,f⟩:=vR.elem b.1 rfl O;exact⟨g,o,rfl,GC k l g o f⟩
theorem LW{W:C3}{g:Nat}{c b:C4}{T:TypeId}(e:W.heap[g]?=some (.cells #[c,b] T (0,0)))(a:C4):(W.setCell (g,0) a).cell? (g,0)=some a:=by
 have d:(W.setCell (g,0) a).heap[g]?=some (.cells #[a,b] T (0,0)):=D0 e a;exact(zD d).1.1
theorem JS(B:Nat)(p:Pr)(R:Int×Nat×Nat)(b5 b6:C4)(w:C3)(l:B<=w.heap.size)(bk:eZ B w b5 p.wa)(bo:e0 B w b6 p.funcs)(bV:∀f∈p.funcs,f.params.length+d4 f.body<=1000000000)(bR:xy p=R):
 Cy 34 #[.agg #[b5,b6]] w (LV w R):=by
 obtain⟨u,y,rfl,_⟩:=bk.form;obtain⟨au,z,rfl,_⟩:=bo.form;have b1:Cx w ((w.alloc (qW u p.wa.length y au p.funcs.length z)).alloc (lF 0 0)):=(Zb.alloc Zr _).alloc Ur _;have M:=U b1;have bf:=C0 (((w.alloc (qW u p.wa.length y au p.funcs.length z)).alloc (lF 0 0)).heap[w.heap.size]?=some (qW u p.wa.length y au p.funcs.length z)) ((D3 _ _ _ Ur).trans (Dq w _));have bg:=C0 (((w.alloc (qW u p.wa.length y au p.funcs.length z)).alloc (lF 0 0)).heap[w.heap.size+1]?=some (lF 0 0)) (by simpa using Dq (w.alloc (qW u p.wa.length y au p.funcs.length z)) (lF 0 0));have L:=U bk;have I:=U bo;have a9:=U bR;have b9:=U bV;obtain⟨ok,bY⟩:=Cz (eK p);have ae:=U bY;clear bk bo bR b1 bY bV;cases ok
 case false=>
  go_enter func34,ntmps34
  go_wp2_with (go_at_call 28;(with_reducible refine(fX B p _ ae.o _ _ _ Uq (L.o.below (M.o.mono l) Zr) (I.o.below (M.o.mono l) Zr)).mono ?_);rintro e t ⟨rfl,m⟩
               have b:=(m.block w.heap.size Uq).trans bf.o;have c:=(m.block (w.heap.size+1) Ur).trans bg.o;obtain⟨⟨ap,aq⟩,ar⟩:=zD b;obtain⟨⟨F,G⟩,H⟩:=zD c;have a0:w.heap.size+1<t.heap.size:=zB c;have a2:w.heap.size<t.heap.size:=zB b;have s:Cx w t:=M.o.trans (m.mono Uq);have aJ:=U b;have ax:=U c;have aD:=U (L.o.below (s.mono l) Zr);have aH:=U (I.o.below (s.mono l) Zr);have aV:B<=t.heap.size:=O
               have aw:=U s
               clear m b c s)
  obtain⟨C,f1⟩:=jd ax.o (.int .i64 0) (.int .i64 0);refine bodyPost_ret (v:=.tuple #[(1:Int),.agg #[(0:Int),(0:Int)]]) (by simp[results,results34,go_sem,C,f1]) rfl ?_;have d:=a9.o;unfold xy at d;rw[Dm ae.o]at d;subst d;exact⟨rfl,qY aw.o O _ _⟩
 case true=>
  have a7:=U (IP ae.o);obtain⟨bQ,bp⟩:=Cz ((!(yK p p.wa || yV p.funcs)&&kd p));have bI:=U bp
  have bG:=U (show xy p=if bQ=true then yo p p.funcs 0 else(50,0,0)by
   unfold xy;rw[Dl (by rw[ae.o];decide),<-bp]
   cases yK p p.wa || yV p.funcs<;>cases kd p<;>rfl)
  clear bp;cases bQ
  case false=>
   go_enter func34,ntmps34
   go_wp2_with (first
    | (go_at_call 28;(with_reducible refine(fX B p _ ae.o _ _ _ Uq (L.o.below (M.o.mono l) Zr) (I.o.below (M.o.mono l) Zr)).mono ?_);rintro e t ⟨rfl,m⟩
       have b:=(m.block w.heap.size Uq).trans bf.o;have c:=(m.block (w.heap.size+1) Ur).trans bg.o;obtain⟨⟨ap,aq⟩,ar⟩:=zD b;obtain⟨⟨F,G⟩,H⟩:=zD c;have a0:w.heap.size+1<t.heap.size:=zB c;have a2:w.heap.size<t.heap.size:=zB b;have s:Cx w t:=M.o.trans (m.mono Uq);have aJ:=U b;have ax:=U c;have aD:=U (L.o.below (s.mono l) Zr);have aH:=U (I.o.below (s.mono l) Zr);have aV:B<=t.heap.size:=O
       have aw:=U s
       clear m b c s)
    | (go_at_call 71;(with_reducible refine(mT B p _ _ _ _ aV aD.o aH.o bI.o).mono ?_);rintro e K ⟨rfl,Q⟩
       have b:=(Q.block w.heap.size a2).trans aJ.o;have c:=(Q.block (w.heap.size+1) a0).trans ax.o;obtain⟨⟨ap,aq⟩,ar⟩:=zD b;obtain⟨⟨F,G⟩,H⟩:=zD c;have b0:w.heap.size+1<K.heap.size:=zB c;have co:w.heap.size<K.heap.size:=zB b;have T:Cx w K:=aw.o.trans (Q.mono O);have bJ:=U b;have bi:=U c;have b7:=U (L.o.below (T.mono l) Zr);have cb:=U (I.o.below (T.mono l) Zr);have cg:B<=K.heap.size:=O
       have bd:=U T
       clear Q b c T))
   obtain⟨C,f1⟩:=jd bi.o (.int .i64 0) (.int .i64 0);refine bodyPost_ret (v:=.tuple #[(50:Int),.agg #[(0:Int),(0:Int)]]) (by simp[results,results34,go_sem,C,f1]) rfl ?_;have d:=bG.o;rw[a9.o,Dl Up]at d;subst d;exact⟨rfl,qY bd.o O _ _⟩
  case true=>
   go_enter func34,ntmps34
   go_wp2_with (first
    | (go_at_call 28;(with_reducible refine(fX B p _ ae.o _ _ _ Uq (L.o.below (M.o.mono l) Zr) (I.o.below (M.o.mono l) Zr)).mono ?_);rintro e t ⟨rfl,m⟩
       have b:=(m.block w.heap.size Uq).trans bf.o;have c:=(m.block (w.heap.size+1) Ur).trans bg.o;obtain⟨⟨ap,aq⟩,ar⟩:=zD b;obtain⟨⟨F,G⟩,H⟩:=zD c;have a0:w.heap.size+1<t.heap.size:=zB c;have a2:w.heap.size<t.heap.size:=zB b;have s:Cx w t:=M.o.trans (m.mono Uq);have aJ:=U b;have ax:=U c;have aD:=U (L.o.below (s.mono l) Zr);have aH:=U (I.o.below (s.mono l) Zr);have aV:B<=t.heap.size:=O
       have aw:=U s
       clear m b c s)
    | (go_at_call 71;(with_reducible refine(mT B p _ _ _ _ aV aD.o aH.o bI.o).mono ?_);rintro e K ⟨rfl,Q⟩
       have b:=(Q.block w.heap.size a2).trans aJ.o;have c:=(Q.block (w.heap.size+1) a0).trans ax.o;obtain⟨⟨ap,aq⟩,ar⟩:=zD b;obtain⟨⟨F,G⟩,H⟩:=zD c;have b0:w.heap.size+1<K.heap.size:=zB c;have co:w.heap.size<K.heap.size:=zB b;have T:Cx w K:=aw.o.trans (Q.mono O);have bJ:=U b;have bi:=U c;have b7:=U (L.o.below (T.mono l) Zr);have cb:=U (I.o.below (T.mono l) Zr);have cg:B<=K.heap.size:=O
       have bd:=U T
       clear Q b c T))
   go_loopw [4] (fun iv wr=>∃j:Nat,j<=p.funcs.length/\iv=.int .i64 j/\yo p (p.funcs.drop j) j=R/\Cx K wr) (fun iv _=>p.funcs.length-(intOf iv).toNat)
   case atStart=>exact⟨0,Dw _,rfl,by have:=bG.o;rw[a9.o]at this;exact this.symm,D1 _ _⟩
   case round=>
    obtain⟨A,rfl⟩:∃x,x=wr:=⟨_,rfl⟩
    obtain⟨j,_,rfl,bS,an⟩:=hrel;have bT:=U bS;have b8:=U an;have ct:=an.size;have bt:Cx w A:=bd.o.trans (an.mono O);have bN:=U bt;have bv:=(an.block (w.heap.size+1) b0).trans bi.o;have b:=(an.block w.heap.size O).trans bJ.o;obtain⟨⟨F,G⟩,H⟩:=zD bv;obtain⟨⟨ap,aq⟩,ar⟩:=zD b;have bO:=U bv;have ce:=U b;have cm:w.heap.size+1<A.heap.size:=O
    have cn:w.heap.size<A.heap.size:=O
    clear bS bv b;by_cases ck:j<p.funcs.length
    .obtain⟨f,aY⟩:∃e,p.funcs[j]?=some e:=⟨_,Dz ck⟩
     obtain⟨g,o,_,_,rfl,_,_,_,_,_,br,bl⟩:=(I.o.below (bt.mono l) Zr).cells aY;obtain⟨V,P,rfl,_⟩:=br.form;obtain⟨ad,ag,rfl,_⟩:=bl.form;have cr:g<A.heap.size:=O
     have cc:=U br;have aE:=U bl;have bH:=U (Ye aY);have av:=U (nZ ae.o bH.o).1;have a6:=U (b9.o f bH.o);have bn:=bT.o;rw[fL aY,tI]at bn;have aF:=U bn;have aW:B<=A.heap.size:=O
     clear br bl aY bn an bt;go_wp2_with fail
     go_loopw [6] (fun iv a=>∃k:Nat,k<=f.params.length/\iv=.int .i64 k/\(∀(q:Nat) x,q<k->f.params[q]?=some x->zX (f.params.take q) x.name=none)/\a.heap[A.heap.size]?=some (E6 f.name f.type (.slice V f.params.length P) (.slice ad f.body.length ag))/\Cx A a) (fun iv _=>f.params.length-(intOf iv).toNat)
     case atStart=>exact⟨0,Dw _,rfl,fun q x bZ=>absurd bZ O,Dq _ _,Zb.alloc Zr _⟩
     case round=>
      obtain⟨a,rfl⟩:∃x,x=wr:=⟨_,rfl⟩
      obtain⟨k,ci,rfl,bU,aZ,am⟩:=hrel;have bq:A.heap.size<a.heap.size:=zB aZ;obtain⟨⟨bx,bz,bA,bC⟩,bD⟩:=zM aZ;have b2:Cx w a:=bN.o.trans (am.mono O);have bu:=(am.block (w.heap.size+1) cm).trans bO.o;have b:=(am.block w.heap.size cn).trans ce.o;obtain⟨⟨F,G⟩,H⟩:=zD bu;obtain⟨⟨ap,aq⟩,ar⟩:=zD b;have ak:=U bu;have cp:=U b;have aI:=U aZ;have aj:=U am;have af:=U b2;have bF:=U bU;have ao:=cc.o.below (am.mono (show B<=A.heap.size by omega)) Zr;have J:B<=a.heap.size:=O
      have aC:w.heap.size+1<a.heap.size:=O
      clear bU aZ am b2 bu b;by_cases cj:k<f.params.length
      .obtain⟨ab,bw⟩:∃e,f.params[k]?=some e:=⟨_,Dz cj⟩
       obtain⟨_,_,rfl,_,_,_⟩:=ao.cells bw;have bL:=U (fun n=>(ao.takeS k ci).below (show Below B a (a.drewN n)from Zb.trans ⟨rfl,rfl,rfl,Dy _,fun _ _=>rfl⟩) Zr);have bP:=U bw;have cq:k<=P:=by have:=ao.2 _ _ _ rfl;omega
       clear ao bw;cases hvt:zX (f.params.take k) ab.name with
       |none=>
         have bc:=U (show(zX (f.params.take k) ab.name).getD 0=0 by rw[hvt];rfl);have X:=U (show(zX (f.params.take k) ab.name).isSome=false by rw[hvt];rfl);have cd:=U hvt;clear hvt;go_wp2_with fail
         go_quiet ((go_at_call 72;exact(kR B (f.params.take k) ab.name 0 _ bc.o X.o _ _ (by exact J) (bL.o _)).mono fun e w' ay=>⟨ay.1,_,ay.2.symm⟩))
         go_wp2_with fail;go_roundw
         case rel=>
          refine⟨k+1,O,by go_num,fun q x bZ aa=>?_,aI.o,AS aj.o _⟩;by_cases cl:q=k
          .subst cl
           rw[bP.o]at aa;injection aa with aa;subst aa;exact cd.o
          .exact bF.o q x O aa
         case measure=>simp[intOf];omega
       |some b4=>
         have bc:=U (show(zX (f.params.take k) ab.name).getD 0=b4 by rw[hvt];rfl);have X:=U (show(zX (f.params.take k) ab.name).isSome=true by rw[hvt];rfl)
         have ca:=U (show fJ f.params=true by
          cases hd:fJ f.params with
          |true=>rfl
          |false=>have:=tM.1 hd k ab bP.o;rw[hvt]at this;cases this)
         clear hvt;go_wp2_with fail
         go_quiet ((go_at_call 72;exact(kR B (f.params.take k) ab.name b4 _ bc.o X.o _ _ (by exact J) (bL.o _)).mono fun e w' ay=>⟨ay.1,_,ay.2.symm⟩))
         go_wp2_with fail;obtain⟨C,f1⟩:=jd (W:=a.drewN nq) ak.o (.int .i64 j) (.int .i64 0);refine bodyPost_ret (v:=.tuple #[(50:Int),.agg #[(j:Int),(0:Int)]]) (by simp[results,results34,go_sem,C,f1]) rfl ?_;have d:=aF.o;rw[show xt p f=(50,0)from by unfold xt;rw[Dm ca.o],Dm Up]at d;subst d;exact⟨rfl,qY (AS af.o _) O _ _⟩
      .have bW:fJ f.params=false:=tM.2 fun q x aa=>bF.o q x (by have:=(List.getElem?_eq_some_iff.1 aa).1;omega) aa
       obtain⟨⟨al,n1⟩,bs⟩:=Cz (zW p f.type f.body f.params f.params.length false 0);have ba:=U bs;have a4:=U (show xt p f=if al≠0 then(al,n1)else if d9 f.body then(0,0)else(52,n1)by unfold xt;rw[bW,bs];simp);have az:Cx a (a.alloc (lD (.slice u p.wa.length y) (.slice (some ⟨g,o,none⟩) p.funcs.length z) f.name f.type (.slice V f.params.length P) (.slice ad f.body.length ag) 0)):=Zb.alloc Zr _;have b3:(a.alloc (lD (.slice u p.wa.length y) (.slice (some ⟨g,o,none⟩) p.funcs.length z) f.name f.type (.slice V f.params.length P) (.slice ad f.body.length ag) 0)).heap.size=a.heap.size+1:=zA _ _;have a3:=C0 ((a.alloc (lD (.slice u p.wa.length y) (.slice (some ⟨g,o,none⟩) p.funcs.length z) f.name f.type (.slice V f.params.length P) (.slice ad f.body.length ag) 0)).heap[a.heap.size]?=some (lD (.slice u p.wa.length y) (.slice (some ⟨g,o,none⟩) p.funcs.length z) f.name f.type (.slice V f.params.length P) (.slice ad f.body.length ag) (eH 0))) (Dq _ _);have bm:Below B w (a.alloc (lD (.slice u p.wa.length y) (.slice (some ⟨g,o,none⟩) p.funcs.length z) f.name f.type (.slice V f.params.length P) (.slice ad f.body.length ag) 0)):=(af.o.mono l).trans (az.mono J);have a5:=C0 (lE B a.heap.size p f.params (.slice u p.wa.length y) (.slice (some ⟨g,o,none⟩) p.funcs.length z) (.slice V f.params.length P) (a.alloc (lD (.slice u p.wa.length y) (.slice (some ⟨g,o,none⟩) p.funcs.length z) f.name f.type (.slice V f.params.length P) (.slice ad f.body.length ag) 0))) ⟨O,J,O,L.o.below bm Zr,I.o.below bm Zr,ao.below ((az.mono J).trans (JR _ J)) O⟩
       have bb:=U (aE.o.below (((aj.o.mono aW).trans (az.mono J))) Zr);have a8:=U az;have bj:=U b3;obtain⟨cf,bX⟩:=Cz (d9 f.body);have aG:=U bX;clear bW bs az b3 bm ao bX;by_cases aX:al=0
       .subst aX
        cases cf
        case false=>
         go_wp2_with (first
          | (go_at_call 73;(with_reducible refine(BlC.call (fV 100) av.o a7.o ba.o a5.o a3.o bb.o a6.o).mono ?_);rintro e w9 ⟨rfl,Z,r⟩
             have i:Cx a w9:=a8.o.trans (jz Z Gg Zr);have Y:=(i.block A.heap.size bq).trans aI.o;have D:=(i.block (w.heap.size+1) aC).trans ak.o;have a1:a.heap.size<w9.heap.size:=zB r;obtain⟨⟨bx,bz,bA,bC⟩,bD⟩:=zM Y;obtain⟨⟨F,G⟩,H⟩:=zD D;obtain⟨⟨aN,aO,aP,aQ,aR,aS,N⟩,aU⟩:=zS r;have aT:w9.drew.cell? (a.heap.size,6)=some (.int .i64 (eH n1)):=N;have aM:=C0 (w9.drew.heap[w.heap.size+1]?=some (lF 0 0)) D;have X:=U r;have aK:=U i;have be:=C0 (Cx w w9) (af.o.trans (i.mono O));have aL:=U (aE.o.below ((aj.o.mono aW).trans (i.mono J)) Zr)
             clear Z r i Y D)
          | (go_at_call 74;(with_reducible refine(W6.call (nX 100) (B:=B) av.o aG.o O aL.o).mono ?_);rintro e E ⟨rfl,ah⟩
             have S:Cx a E:=aK.o.trans (ah.mono O);have aB:=(ah.block a.heap.size a1).trans X.o;have ai:=(S.block (w.heap.size+1) aC).trans ak.o;obtain⟨⟨F,G⟩,H⟩:=zD ai;obtain⟨⟨aN,aO,aP,aQ,aR,aS,N⟩,aU⟩:=zS aB;have aT:E.drew.cell? (a.heap.size,6)=some (.int .i64 (eH n1)):=N;have bh:=C0 (E.drew.heap[w.heap.size+1]?=some (lF 0 0)) ai;have bK:=U S;have bM:=C0 (Cx w E) (af.o.trans (S.mono O))
             clear ah S aB ai))
         go_region
         all_goals go_wp2_with fail
         all_goals
          have C:=LW (W:=E) bh.o (.int .i64 j);have f1:=(jd (W:=E) bh.o (.int .i64 j) (.int .i64 (eH n1))).2;refine bodyPost_ret (v:=.tuple #[(52:Int),.agg #[(j:Int),(eH n1:Int)]]) (by simp[results,results34,go_sem,C,f1]) rfl ?_;have aA:xt p f=(52,n1):=by rw[a4.o,aG.o];simp
          have d:=aF.o;rw[aA,Dm Ur]at d;subst d;exact⟨rfl,(qY bM.o O _ _).drew⟩
        case true=>
         go_wp2_with (first
          | (go_at_call 73;(with_reducible refine(BlC.call (fV 100) av.o a7.o ba.o a5.o a3.o bb.o a6.o).mono ?_);rintro e w9 ⟨rfl,Z,r⟩
             have i:Cx a w9:=a8.o.trans (jz Z Gg Zr);have Y:=(i.block A.heap.size bq).trans aI.o;have D:=(i.block (w.heap.size+1) aC).trans ak.o;have a1:a.heap.size<w9.heap.size:=zB r;obtain⟨⟨bx,bz,bA,bC⟩,bD⟩:=zM Y;obtain⟨⟨F,G⟩,H⟩:=zD D;obtain⟨⟨aN,aO,aP,aQ,aR,aS,N⟩,aU⟩:=zS r;have aT:w9.drew.cell? (a.heap.size,6)=some (.int .i64 (eH n1)):=N;have aM:=C0 (w9.drew.heap[w.heap.size+1]?=some (lF 0 0)) D;have X:=U r;have aK:=U i;have be:=C0 (Cx w w9) (af.o.trans (i.mono O));have aL:=U (aE.o.below ((aj.o.mono aW).trans (i.mono J)) Zr)
             clear Z r i Y D)
          | (go_at_call 74;(with_reducible refine(W6.call (nX 100) (B:=B) av.o aG.o O aL.o).mono ?_);rintro e E ⟨rfl,ah⟩
             have S:Cx a E:=aK.o.trans (ah.mono O);have aB:=(ah.block a.heap.size a1).trans X.o;have ai:=(S.block (w.heap.size+1) aC).trans ak.o;obtain⟨⟨F,G⟩,H⟩:=zD ai;obtain⟨⟨aN,aO,aP,aQ,aR,aS,N⟩,aU⟩:=zS aB;have aT:E.drew.cell? (a.heap.size,6)=some (.int .i64 (eH n1)):=N;have bh:=C0 (E.drew.heap[w.heap.size+1]?=some (lF 0 0)) ai;have bK:=U S;have bM:=C0 (Cx w E) (af.o.trans (S.mono O))
             clear ah S aB ai))
         go_roundw
         case rel=>
          refine⟨j+1,O,by go_num,?_,b8.o.trans ((aj.o.trans (bK.o.mono O)).mono O)⟩;have aA:xt p f=(0,0):=by rw[a4.o,aG.o];simp
          have d:=aF.o;rw[aA,Dl Ur]at d;exact d
         case measure=>simp[intOf];omega
       .have cs:(al != 0)=true:=by simp[aX]
        go_wp2_with (go_at_call 73;(with_reducible refine(BlC.call (fV 100) av.o a7.o ba.o a5.o a3.o bb.o a6.o).mono ?_);rintro e w9 ⟨rfl,Z,r⟩
                     have i:Cx a w9:=a8.o.trans (jz Z Gg Zr);have Y:=(i.block A.heap.size bq).trans aI.o;have D:=(i.block (w.heap.size+1) aC).trans ak.o;have a1:a.heap.size<w9.heap.size:=zB r;obtain⟨⟨bx,bz,bA,bC⟩,bD⟩:=zM Y;obtain⟨⟨F,G⟩,H⟩:=zD D;obtain⟨⟨aN,aO,aP,aQ,aR,aS,N⟩,aU⟩:=zS r;have aT:w9.drew.cell? (a.heap.size,6)=some (.int .i64 (eH n1)):=N;have aM:=C0 (w9.drew.heap[w.heap.size+1]?=some (lF 0 0)) D;have X:=U r;have aK:=U i;have be:=C0 (Cx w w9) (af.o.trans (i.mono O));have aL:=U (aE.o.below ((aj.o.mono aW).trans (i.mono J)) Zr)
                     clear Z r i Y D)
        go_region
        all_goals go_wp2_with fail
        all_goals
         have C:=LW (W:=w9) aM.o (.int .i64 j);have f1:=(jd (W:=w9) aM.o (.int .i64 j) (.int .i64 (eH n1))).2;refine bodyPost_ret (v:=.tuple #[(al:Int),.agg #[(j:Int),(eH n1:Int)]]) (by simp[results,results34,go_sem,C,f1]) rfl ?_;have aA:xt p f=(al,n1):=by rw[a4.o,Dm aX]
         have d:=aF.o;rw[aA,Dm aX]at d;subst d;exact⟨rfl,(qY be.o O _ _).drew⟩
    .have ch:j=p.funcs.length:=by omega
     subst ch;have d:=bT.o;rw[List.drop_length]at d;go_wp2_with fail;obtain⟨C,f1⟩:=jd bO.o (.int .i64 0) (.int .i64 0);refine bodyPost_ret (v:=.tuple #[(0:Int),.agg #[(0:Int),(0:Int)]]) (by simp[results,results34,go_sem,C,f1]) rfl ?_;unfold yo at d;subst d;exact⟨rfl,qY bN.o O _ _⟩
theorem zdu{α β:Type}(a:α)(r:List dY)(f:α->List dY->PR β):(PR.ok a r).bind f=f a r:=rfl
theorem GH{α:Type}{l:List α}(h:l.length=0):l=[]:=Yj h
theorem A8{k:Nat}(h:k<10):kK (UInt8.ofNat (48+k))=true:=by
 unfold kK;rw[B6 h];simp;omega
theorem JT(a:Nat):(Lib.decDigits a).all kK=true:=by
 induction a using Nat.strongRecOn with
 |ind a c=>
   rw[Lib.decDigits];split
   .rename_i b
    rw[Ca,A8 b,List.all_nil];rfl
   .rename_i b
    rw[List.all_append,c (a / 10) O,Ca,A8 O,List.all_nil];rfl
theorem yv(e:Ex)(l:List Ex):iX (e::l) 0=yx e:=K0 Xt
theorem T7(a e:Ex)(l:List Ex):iX (a::e::l) 1=yx e:=K0 Xt
theorem OZ(h:yj t=some k):k≠3:=by
 unfold yj at h;split at h
 .injection h with h
  omega
 .split at h
  .injection h with h
   omega
  .split at h
   .injection h with h
    omega
   .cases h
theorem ZD{l:List UInt8}(h:wI l=some (k,t)):k≠3:=by
 unfold wI at h;split at h
 .cases hk:yj (l.takeWhile q9)with
  |none=>rw[hk]at h;cases h
  |some j=>
    rw[hk]at h;injection h with h;injection h with h _;exact h▸OZ hk
 .split at h
  .injection h with h
   injection h with h _;omega
  .cases h
theorem kU:∀(n:Nat) (l:List UInt8) (b:Nat) (f:List dY),l.length<=n->qE l b=(f,none)->qB f
 | _,[],b,f,_,a=>by
   rw[qE]at a;injection a with a _;exact⟨[],⟨3,[],b⟩,a.symm,rfl,fun t v=>by cases v⟩
 |0,c::r,b,f,a,_=>by simp at a
 | n+1,c::r,b,f,hl,a=>by
   simp only[Dp]at hl;rw[qE]at a;split at a
   .exact kU n r _ f O a
   .split at a
    .exact kU n r _ f O a
    .split at a
     .have o:=List.IsSuffix.length_le (List.dropWhile_suffix (l:=r) (fun d:UInt8=>d.toNat != 10))
      exact kU n _ _ f O a
     .split at a
      .cases a
      .rename_i k t u
       have o:(r.drop (t.length-1)).length<=r.length:=by rw[Yq];omega
       injection a with j m;obtain⟨i,e,p,s,q⟩:=kU n (r.drop (t.length-1)) b (qE (r.drop (t.length-1)) b).1 O (by rw[<-m]);refine⟨⟨k,t,b⟩::i,e,by rw[<-j,p];rfl,s,fun w g=>?_⟩;rcases List.mem_cons.1 g with rfl|g
       .exact ZD u
       .exact q w g
def xv:List dY->Nat
 |[]=>0
 |t::r=>t.text.length+xv r
def Tk(l:List dY):Prop:=∀t∈l,(t.kind=1->1<=t.text.length)/\(t.kind=0->(t.text.all kK=true/\1<=t.text.length))
theorem Tk.tail(a:Tk l):Tk l.tail:=fun t b=>a t (List.mem_of_mem_tail b)
theorem mW(l:List dY):xv l=(pT l).length+xv l.tail:=by
 cases l<;>rfl
theorem qq{s:List UInt8}(h:zt s l=true):xv l=s.length+xv l.tail:=by
 rw[mW,(uq h).2]
theorem zL{α β:Type}{x:PR α}{f:α->List dY->PR β}{b:β}{t:List dY}(h:x.bind f=.ok b t):∃a r,x=.ok a r/\f a r=.ok b t:=by
 cases x with
 |ok a r=>exact⟨a,r,rfl,h⟩
 |bad r=>cases h
 |deep r=>cases h
 |o=>cases h
theorem qx{s:List UInt8}{c:Unit}(a:zQ s l=.ok c r):xv l=s.length+xv r/\(Tk l->Tk r):=by
 unfold zQ at a;split at a
 .rename_i b
  injection a with _ a;exact⟨a▸qq b,fun k=>a▸k.tail⟩
 .cases a
theorem hG(a:qt 1 l=.ok s r):xv l=s.size+xv r/\(Tk l->Tk r)/\(Tk l->1<=s.size):=by
 unfold qt at a;split at a
 .rename_i b
  injection a with d a;have c:s.size=(pT l).length:=by rw[<-d];simp[ByteArray.size]
  refine⟨by rw[c,<-a];exact mW l,fun k=>a▸k.tail,fun k=>?_⟩;rw[c];cases l with
  |nil=>cases b
  |cons t q=>exact(k t Ur).1 b
 .cases a
theorem lG{lev:Int}:∀{ops:List Int},xb lev l ops≠0->xb lev l ops∈ops/\zt (pV (xb lev l ops)) l=true
 |[],h=>absurd rfl h
 | op::r,h=>by
   rw[xb]at h ⊢;split at h
   .rename_i a
    rw[Dm a];exact⟨Ur,a.2⟩
   .rename_i a
    rw[Dl a];exact⟨Yz _ (lG h).1,(lG h).2⟩
theorem lH:∀{ops:List Int},xw l ops≠0->xw l ops∈ops/\zt (pV (xw l ops)) l=true
 |[],h=>absurd rfl h
 | op::r,h=>by
   rw[xw]at h ⊢;split at h
   .rename_i a
    rw[Dm a];exact⟨Ur,a⟩
   .rename_i a
    rw[Dl a];exact⟨Yz _ (lH h).1,(lH h).2⟩
theorem LX:∀op∈IJ,1<=(pV op).length/\(pV op).length<=3:=Xz
theorem T8:∀op∈NE,1<=(pV op).length/\(pV op).length<=3:=Xz
theorem tN:∀(n a:Nat),a<10 ^ (n+1)->(Lib.decDigits a).length<=n+1
 | n,a,h=>by
   rw[Lib.decDigits];split
   .simp
   .rename_i b
    cases n with
    |zero=>exact absurd Vj b
    |succ n=>
      have:=tN n (a / 10) Hy;rw[Dn];simp;omega
theorem LY:∀(l:List UInt8) (tk:Nat),l.all kK=true->kI tk l<(tk+1)*10 ^ l.length
 |[],tk,_=>by rw[uj];simp
 | c::r,tk,h=>by
   rw[Ca,Dv]at h
   have b:c.toNat-48<10:=by
    have:=h.1;simp[kK]at this;omega
   rw[hT];have a:=LY r (tk*10+(c.toNat-48)) h.2;refine D6 a ?_;rw[Dp,Nat.pow_succ,Nat.mul_comm (10 ^ r.length) 10,<-Nat.mul_assoc];exact Nat.mul_le_mul_right _ O
theorem LZ{l:List UInt8}(a:l.all kK=true)(_:1<=l.length):(Lib.itoa ((kI 0 l:Nat):Int)).length<=l.length:=by
 rw[Lib.itoa_nonneg];have:=LY l 0 a;obtain⟨n,b⟩:∃n,l.length=n+1:=⟨l.length-1,O⟩
 rw[b]at this ⊢;exact tN n _ O
theorem XI(s:C2):s.data.toList.length=s.size:=Array.length_toList
def EX(e:Ex):Nat:=(yx e).length+2
def AX(l:List Ex):Nat:=(yM (l.map yx)).length
theorem ZE(l:List Ex)(e:Ex):AX (l++[e])<=AX l+EX e:=by
 unfold AX EX;rw[Yf,Yb,Cj,rT,Dn,Dn];split<;>simp<;>omega
theorem C9(lev:Int)(e:Ex):(opT lev e).length<=EX e:=by
 unfold opT wP EX;split<;>simp
theorem zbm(op:Int)(a b:Ex)(c:op∈IJ):EX (.mk 5 op 0 bE [a,b])<=EX a+EX b+7:=by
 have d:yx (.mk 5 op 0 bE [a,b])=opT (kL op) a++32::(pV op++32::opT (kL op+1) b):=by rw[nF,gN];rfl
 have e:=C9 (kL op) a;have f:=C9 (kL op+1) b;have g:=LX op c;unfold EX at *;rw[d];simp only[Dn,Dp];omega
theorem T9(op:Int)(a:Ex)(b:op∈NE):EX (.mk 4 op 0 bE [a])<=EX a+5:=by
 have c:yx (.mk 4 op 0 bE [a])=if 23<=op then pV op++40::(yx a++[41])else pV op++opT 11 a:=by rw[nF,gN];rfl
 have d:=C9 11 a;have e:=T8 op b;unfold EX at *;rw[c];split<;>simp only[Dn,Dp,Du]<;>omega
theorem zbn(s:C2):EX (.mk 3 0 0 s [])=s.size+2:=by
 unfold EX;rw[nF];exact congrArg (·+2) (XI s)
theorem UA(s:C2)(e:Ex):EX (.mk 6 0 0 s [e])=s.size+EX e+2:=by
 have a:yx (.mk 6 0 0 s [e])=s.data.toList++91::(yx e++[93]):=by rw[nF,gN];rfl
 unfold EX;rw[a];simp only[Dn,Dp,Du,XI]
theorem L0(s:C2)(l:List Ex):EX (.mk 7 0 0 s l)=s.size+AX l+4:=by
 have a:yx (.mk 7 0 0 s l)=s.data.toList++40::(yM (l.map yx)++[41]):=by
  rw[nF,gN];show s.data.toList++40::(yM ((l.map fun e=>(e.kind,e.op,yx e)).map (·.2.2))++[41])=_;rw[List.map_map];rfl
 unfold EX AX;rw[a];simp only[Dn,Dp,Du,XI];omega
theorem A9(n:Nat):(∀lev d l e r,Tk l->pE n lev d l=.ok e r->EX e+50*xv r<=50*xv l/\Tk r)/\(∀lev d a l e r,Tk l->pL n lev d a l=.ok e r->EX e+50*xv r<=EX a+50*xv l/\Tk r)/\
 (∀d l e r,Tk l->pU n d l=.ok e r->EX e+50*xv r<=50*xv l/\Tk r)/\(∀d l e r,Tk l->pP n d l=.ok e r->EX e+50*xv r<=50*xv l/\Tk r)/\
 (∀d s l e r,Tk l->pN n d s l=.ok e r->EX e+50*xv r<=s.size+2+50*xv l/\Tk r)/\(∀d l z r,Tk l->pA n d l=.ok z r->AX z+50*xv r+50<=50*xv l/\Tk r)/\(∀d tk l z r,Tk l->rX n d tk l=.ok z r->AX z+50*xv r+50<=AX tk+50*xv l/\Tk r):=by
 induction n with
 |zero=>exact⟨fun _ _ _ _ _ _ c=>(by rw[pE]at c;cases c),fun _ _ _ _ _ _ _ c=>(by rw[pL]at c;cases c),fun _ _ _ _ _ c=>(by rw[pU]at c;cases c),fun _ _ _ _ _ c=>(by rw[pP]at c;cases c),fun _ _ _ _ _ _ c=>(by rw[pN]at c;cases c),fun _ _ _ _ _ c=>(by rw[pA]at c;cases c),fun _ _ _ _ _ _ c=>(by rw[rX]at c;cases c)⟩
 |succ n W=>
   obtain⟨C,P,Q,V,T,S,N⟩:=W;refine⟨fun lev d l e r k c=>?_,fun lev d a l e r k c=>?_,fun d l e r k c=>?_,fun d l e r k c=>?_,fun d s l e r k c=>?_,fun d l z r k c=>?_,fun d tk l z r k c=>?_⟩
   .rw[pE]at c
    split at c
    .exact Q _ _ _ _ k c
    .obtain⟨a,F,u,m⟩:=zL c
     have i:=C _ _ _ _ _ k u;have D:=P _ _ _ _ _ _ i.2 m;exact⟨O,D.2⟩
   .rw[pL]at c
    split at c
    .injection c with u m
     subst u m;exact⟨Dy _,k⟩
    .rename_i I
     obtain⟨B,j⟩:=lG I;obtain⟨b,F,u,m⟩:=zL c;have i:=C _ _ _ _ _ k.tail u;have D:=P _ _ _ _ _ _ i.2 m;have o:=qq j;have R:=LX _ B;have L:=zbm (EF lev l) a b B;unfold EF at *;exact⟨O,D.2⟩
   .rw[pU]at c
    split at c
    .cases c
    .split at c
     .exact V _ _ _ _ k c
     .rename_i I
      obtain⟨B,j⟩:=lH I;have o:=qq j;have R:=T8 _ B;split at c
      .obtain⟨X,F,u,m⟩:=zL c
       obtain⟨a,G,x,w⟩:=zL m;obtain⟨v,H,y,f⟩:=zL w;injection f with f g;subst f g;have E:=qx u;have i:=C _ _ _ _ _ (E.2 k.tail) x;have p:=qx y;have L:=T9 (pW l) a B;have K:=E.1;have A:=p.1;simp only[Dp,Du]at K A;unfold pW at *;exact⟨O,p.2 i.2⟩
      .obtain⟨a,G,x,w⟩:=zL c
       injection w with f g;subst f g;have i:=Q _ _ _ _ k.tail x;have L:=T9 (pW l) a B;unfold pW at *;exact⟨O,i.2⟩
   .rw[pP]at c
    split at c
    .rename_i j
     obtain⟨a,G,x,w⟩:=zL c;obtain⟨v,H,y,f⟩:=zL w;injection f with f g;subst f g;have o:=qq j;have i:=C _ _ _ _ _ k.tail x;have p:=qx y;have A:=p.1;exact⟨O,p.2 i.2⟩
    .split at c
     .rename_i j
      injection c with f g;subst f g;have o:=qq j;have:EX (.mk 2 0 1 bE [])=6:=Xz
      rw[this];simp only[gO,Dp,Du]at o;exact⟨O,k.tail⟩
     .split at c
      .rename_i j
       injection c with f g;subst f g;have o:=qq j;have:EX (.mk 2 0 0 bE [])=7:=Xz
       rw[this];simp only[uf,Dp,Du]at o;exact⟨O,k.tail⟩
      .split at c
       .rename_i j
        obtain⟨X,F,u,m⟩:=zL c;obtain⟨v,H,y,f⟩:=zL m;injection f with f g;subst f g;have o:=qq j;have E:=qx u;have p:=qx y;have K:=E.1;have A:=p.1;have:EX (.mk 8 0 0 bE [])=8:=Xz
        rw[this];simp only[lV,Dp,Du]at o;exact⟨O,p.2 (E.2 k.tail)⟩
       .split at c
        .rename_i M
         injection c with f g;subst f g;have o:=mW l
         have Z:EX (.mk 1 0 (kI 0 (pT l)) bE [])<=(pT l).length+2/\1<=(pT l).length:=by
          cases l with
          |nil=>cases M
          |cons t q=>
            have m:=(k t Ur).2 M;refine⟨?_,m.2⟩;unfold EX;rw[nF];exact Nat.add_le_add_right (LZ m.1 m.2) 2
         exact⟨O,k.tail⟩
        .obtain⟨s,F,u,m⟩:=zL c
         have J:=hG u;have i:=T _ _ _ _ _ (J.2.1 k) m;have:=J.2.2 k;have:=J.1;exact⟨O,i.2⟩
   .rw[pN]at c
    split at c
    .rename_i j
     obtain⟨z,F,u,m⟩:=zL c;injection m with f g;subst f g;have o:=qq j;have i:=S _ _ _ _ k.tail u;rw[L0];simp only[Dp,Du]at o;exact⟨O,i.2⟩
    .split at c
     .rename_i j
      obtain⟨a,G,x,w⟩:=zL c;obtain⟨v,H,y,f⟩:=zL w;injection f with f g;subst f g;have o:=qq j;have i:=C _ _ _ _ _ k.tail x;have p:=qx y;have A:=p.1;rw[UA];exact⟨O,p.2 i.2⟩
     .injection c with f g
      subst f g;rw[zbn];exact⟨O,k⟩
   .rw[pA]at c
    split at c
    .rename_i j
     injection c with f g;subst f g;have o:=qq j;simp only[Dp,Du]at o;have:AX []=0:=rfl;exact⟨O,k.tail⟩
    .have i:=N _ _ _ _ _ k c
     have:AX []=0:=rfl;exact⟨O,i.2⟩
   .rw[rX]at c
    obtain⟨a,G,x,w⟩:=zL c;have i:=C _ _ _ _ _ k x;have Y:=ZE tk a;split at w
    .rename_i j
     have o:=qq j;have D:=N _ _ _ _ _ i.2.tail w;exact⟨O,D.2⟩
    .obtain⟨v,H,y,f⟩:=zL w
     injection f with f g;subst f g;have p:=qx y;have A:=p.1;simp only[Dp,Du]at A;exact⟨O,p.2 i.2⟩
theorem iN{lev:Int}{e:Ex}(k:Tk l)(h:pE n lev d l=.ok e r):EX e+50*xv r<=50*xv l/\Tk r:=(A9 n).1 _ _ _ _ _ k h
theorem ZF{a:List Ex}(k:Tk l)(b:pA n d l=.ok a r):AX a+50*xv r+50<=50*xv l/\Tk r:=(A9 n).2.2.2.2.2.1 _ _ _ _ k b
theorem e8{α:Type}{x:PR α}{a:α}(d:vu x=.ok a r):∃c,x=.ok a c/\xv c=1+xv r/\(Tk c->Tk r):=by
 unfold vu at d;obtain⟨b,c,e,f⟩:=zL d;obtain⟨_,_,g,i⟩:=zL f;injection i with j k;subst j k;have m:=qx g;exact⟨c,e,m.1,m.2⟩
theorem tO{t:Int}(k:Tk l)(a:i0 l=.ok t r):3+xv r<=xv l/\Tk r/\(XX t).length<=4:=by
 unfold i0 at a;split at a
 .rename_i i
  injection a with b c;subst b c;have g:=qq i;simp only[iZ,Dp,Du]at g;exact⟨O,k.tail,Up⟩
 .obtain⟨n,j,e,f⟩:=zL a
  injection f with b c;subst b c;have m:=qx e;have d:=m.1;simp only[xW,Dp,Du]at d;exact⟨O,m.2 k,Up⟩
theorem DA{e:Ex}(k:Tk l)(c:pI n l=.ok e r):EX e+50*xv r+100<=50*xv l/\Tk r:=by
 unfold pI at c;obtain⟨_,_,m,o⟩:=zL c;obtain⟨a,_,p,q⟩:=zL o;obtain⟨v,_,s,b⟩:=zL q;injection b with b t;subst b t;have d:=qx m;have g:=iN (d.2 k) p;have f:=qx s;have i:=d.1;have j:=f.1;simp only[Dp,Du]at i j;exact⟨O,f.2 g.2⟩
theorem DB(t:Nat):(B1 t).length=t:=Cm
theorem hH{a:Int}{td:C2}{tc:List Ex}{tg th:List St}(b:k≠4)(c:k≠5)(t:Nat):(QT (.mk k a td tc tg th) t).length=t+(yN k a td tc).length+1:=by
 rw[IG,Dl b,Dl c,Dn,Dn,DB];simp;omega
theorem L1(e:Ex)(tg th:List St)(t:Nat):(QT (.mk 4 0 bE [e] tg th) t).length<=2*t+8+EX e+(xV tg (t+1)).length+(if th.length=0 then 0 else t+9+(xV th (t+1)).length):=by
 have a:yN 4 0 bE [e]=NF++32::(40::(yx e++[41,32,123])):=Vz
 rw[IG,a,Dm Xt];unfold EX;split<;>simp only[Dn,Dp,Du,DB,NF]<;>omega
theorem ZG(e:Ex)(tg:List St)(t:Nat):(QT (.mk 5 0 bE [e] tg []) t).length=2*t+11+EX e+(xV tg (t+1)).length:=by
 have a:yN 5 0 bE [e]=vq++32::(40::(yx e++[41,32,123])):=Vz
 rw[IG,a,Dl Up,Dm Xt];unfold EX;simp only[Dn,Dp,Du,DB,vq];omega
theorem UB{s:St}(k:Tk l)(B:q3 n l=.ok s r):(∀t,(QT s t).length+50*xv r+90<=t+50*xv l)/\Tk r:=by
 unfold q3 at B;obtain⟨c,P,G,e⟩:=zL B;have w:=hG G;have S:=w.1;have A:=w.2.1 k;have T:=w.2.2 k;split at e
 .rename_i z
  obtain⟨p,D,f,g⟩:=zL e;injection g with i j;subst i j;have y:=qq z;have d:=ZF A.tail f;simp only[Dp,Du]at y;refine⟨fun t=>?_,d.2⟩;have m:yN 10 0 bE [.mk 7 0 0 c p]=yx (.mk 7 0 0 c p)++[59]:=by rw[<-yv (.mk 7 0 0 c p) []];rfl
  have L:=L0 c p;unfold EX at L;rw[hH Up Up,m];simp only[Dn,Dp,Du];omega
 .split at e
  .rename_i z
   obtain⟨a,D,f,g⟩:=zL e;obtain⟨N,M,u,i⟩:=zL g;obtain⟨v,Q,j,x⟩:=zL i;obtain⟨b,R,K,H⟩:=zL x;injection H with I J;subst I J;have y:=qq z;have d:=iN A.tail f;have o:=qx u;have C:=qx j;have E:=iN (C.2 (o.2 d.2)) K;have q:=o.1;have F:=C.1;simp only[Dp,Du]at y q F;refine⟨fun t=>?_,E.2⟩;have m:yN 3 0 c [a,b]=c.data.toList++91::(yx a++93::32::61::32::(yx b++[59])):=by rw[<-yv a [b],<-T7 a b []];rfl
   exact Qg
  .obtain⟨N,D,f,g⟩:=zL e
   obtain⟨a,M,u,i⟩:=zL g;injection i with j x;subst j x;have o:=qx f;have d:=iN (o.2 A) u;have q:=o.1;simp only[Dp,Du]at q;refine⟨fun t=>?_,d.2⟩;have m:yN 2 0 c [a]=c.data.toList++32::61::32::(yx a++[59]):=by rw[<-yv a []];rfl
   exact Qg
theorem O0(n:Nat):(∀d l s r,Tk l->pS n d l=.ok s r->(∀t:Nat,(t:Int)<=d->(QT s t).length+50*xv r<=50*xv l)/\Tk r)/\
 (∀d e tg l s r,d<=100->Tk l->q5 n d e tg l=.ok s r->(∀t:Nat,(t:Int)<=d->(QT s t).length+50*xv r<=2*t+8+EX e+(xV tg (t+1)).length+50*xv l)/\Tk r)/\
 (∀d l b r,Tk l->pB n d l=.ok b r->(∀t:Nat,(t:Int)<=d->(xV b t).length+50*xv r+100<=50*xv l)/\Tk r)/\
 (∀d tk l b r,Tk l->nB n d tk l=.ok b r->(∀t:Nat,(t:Int)<=d->(xV b t).length+50*xv r+50<=(xV tk t).length+50*xv l)/\Tk r):=by
 induction n with
 |zero=>exact⟨fun _ _ _ _ _ a=>(by rw[pS]at a;cases a),fun _ _ _ _ _ _ _ _ a=>(by rw[q5]at a;cases a),fun _ _ _ _ _ a=>(by rw[pB]at a;cases a),fun _ _ _ _ _ _ a=>(by rw[nB]at a;cases a)⟩
 |succ n X=>
   obtain⟨W,V,H,J⟩:=X;refine⟨fun d l s r k a=>?_,fun d e tg l s r T k a=>?_,fun d l b r k a=>?_,fun d tk l b r k a=>?_⟩
   .rw[pS]at a
    split at a
    .cases a
    .rename_i T
     split at a
     .obtain⟨q,u,E,x⟩:=e8 a
      obtain⟨N,A,i,j⟩:=zL u;obtain⟨K,M,B,C⟩:=zL j;obtain⟨Y,Z,c,f⟩:=zL C;obtain⟨e,aa,Q,R⟩:=zL f;injection R with S P;subst S P;have p:=tO k i;have w:=hG B;have ab:=w.1;have ad:=w.2.2 p.2.1;have D:=qx c;have G:=D.1;simp only[Dp,Du]at G;have z:=iN (D.2 (w.2.1 p.2.1)) Q;refine⟨fun t g=>?_,x z.2⟩;have y:yN 1 N K [e]=XX N++32::(K.data.toList++32::61::32::(yx e++[59])):=Vz
      unfold EX at *;rw[hH Up Up,y];simp only[Dn,Dp,Du,XI];omega
     .split at a
      .rename_i o
       have m:=qq o;simp only[NF,Dp,Du]at m;obtain⟨e,A,i,j⟩:=zL a;obtain⟨b,M,B,C⟩:=zL j;have p:=DA k.tail i;have v:=H _ _ _ _ p.2 B;have L:=V _ _ _ _ _ _ O v.2 C;refine⟨fun t g=>?_,L.2⟩;have F:=v.1 (t+1) O;have I:=L.1 t g;omega
      .split at a
       .rename_i o
        have m:=qq o;simp only[vq,Dp,Du]at m;obtain⟨e,A,i,j⟩:=zL a;obtain⟨b,M,B,C⟩:=zL j;injection C with c f;subst c f;have p:=DA k.tail i;have v:=H _ _ _ _ p.2 B;refine⟨fun t g=>?_,v.2⟩;have F:=v.1 (t+1) O;rw[ZG];omega
       .split at a
        .rename_i o
         have m:=qq o;simp only[gP,Dp,Du]at m;obtain⟨q,u,E,x⟩:=e8 a;injection u with c f;subst c f;refine⟨fun t g=>?_,x k.tail⟩;have y:(yN 6 0 bE []).length=6:=Xt
         rw[hH Up Up,y];omega
        .split at a
         .rename_i o
          have m:=qq o;simp only[rW,Dp,Du]at m;obtain⟨q,u,E,x⟩:=e8 a;injection u with c f;subst c f;refine⟨fun t g=>?_,x k.tail⟩;have y:(yN 7 0 bE []).length=9:=Xt
          rw[hH Up Up,y];omega
         .split at a
          .rename_i o
           have m:=qq o;simp only[EG,Dp,Du]at m;obtain⟨q,u,E,x⟩:=e8 a;obtain⟨e,A,i,j⟩:=zL u;injection j with c f;subst c f;have z:=iN k.tail i;refine⟨fun t g=>?_,x z.2⟩;have y:yN 8 0 bE [e]=EG++32::(yx e++[59]):=Vz
           unfold EX at *;rw[hH Up Up,y];simp only[Dn,Dp,Du,EG];omega
          .split at a
           .rename_i o
            have m:=qq o;simp only[k0,Dp,Du]at m;obtain⟨q,u,E,x⟩:=e8 a;obtain⟨e,A,i,j⟩:=zL u;injection j with c f;subst c f;have z:=DA k.tail i;refine⟨fun t g=>?_,x z.2⟩;have y:yN 9 0 bE [e]=k0++40::(yx e++[41,59]):=Vz
            unfold EX at *;rw[hH Up Up,y];simp only[Dn,Dp,Du,k0];omega
           .obtain⟨q,u,E,x⟩:=e8 a
            have z:=UB k u;refine⟨fun t g=>?_,x z.2⟩;have:=z.1 t;omega
   .rw[q5]at a
    split at a
    .rename_i o
     have m:=qq o;simp only[y4,Dp,Du]at m;obtain⟨b,A,i,j⟩:=zL a;injection j with c f;subst c f;have v:=H _ _ _ _ k.tail i;refine⟨fun t g=>?_,v.2⟩;have F:=v.1 (t+1) O;have:=L1 e tg b t;split at this<;>omega
    .injection a with c f
     subst c f;refine⟨fun t g=>?_,k⟩;have:=L1 e tg [] t;rw[Dm Xt]at this;omega
   .rw[pB]at a
    obtain⟨Y,A,i,j⟩:=zL a;have D:=qx i;have G:=D.1;simp only[Dp,Du]at G;have p:=J _ _ _ _ _ (D.2 k) j;refine⟨fun t g=>?_,p.2⟩;have:=p.1 t g;rw[rU]at this;simp only[Du]at this;omega
   .rw[nB]at a
    split at a
    .rename_i o
     have m:=qq o;simp only[Dp,Du]at m;injection a with c f;subst c f;exact⟨fun t g=>O,k.tail⟩
    .obtain⟨s,A,i,j⟩:=zL a
     have p:=W _ _ _ _ k i;have v:=J _ _ _ _ _ p.2 j;refine⟨fun t g=>?_,v.2⟩;have F:=p.1 t g;have I:=v.1 t g;rw[RC,nG,rU,D8,Dn]at I;omega
theorem ZH{b:List St}(k:Tk l)(h:pB n d l=.ok b r):(∀t:Nat,(t:Int)<=d->(xV b t).length+50*xv r+100<=50*xv l)/\Tk r:=(O0 n).2.2.1 _ _ _ _ k h
def PX(l:List Pa):Nat:=(yM (l.map paT)).length
theorem ZI(l:List Pa)(x:Pa):PX (l++[x])<=PX l+((XX x.type).length+x.name.size+3):=by
 unfold PX;rw[Yf,Yb,Cj,rT,Dn,Dn]
 have:(paT x).length=(XX x.type).length+x.name.size+1:=by
  unfold paT;rw[Dn,Dp,XI];omega
 split<;>simp<;>omega
theorem GI:∀(n:Nat) (tk:List Pa) (l:List dY) (ps:List Pa) (r:List dY),Tk l->pX n tk l=.ok ps r->PX ps+50*xv r<=PX tk+50*xv l/\Tk r
 |0,_,_,_,_,_,h=>by rw[pX]at h;cases h
 | n+1,tk,l,ps,r,k,h=>by
   rw[pX]at h;obtain⟨t,x,e,f⟩:=zL h;obtain⟨s,y,g,a⟩:=zL f;have b:=tO k e;have w:=hG g;have B:=w.1;have C:=w.2.2 b.2.1;have q:=ZI tk ⟨s,t⟩;simp only at q;split at a
   .rename_i p
    have v:=qq p;have d:=GI n _ _ _ _ (w.2.1 b.2.1).tail a;exact⟨O,d.2⟩
   .obtain⟨A,z,i,j⟩:=zL a
    injection j with m o;subst m o;have c:=qx i;have u:=c.1;exact⟨O,c.2 (w.2.1 b.2.1)⟩
theorem UC{ps:List Pa}(k:Tk l)(c:X0 n l=.ok ps r):PX ps+50*xv r+50<=50*xv l/\Tk r:=by
 unfold X0 at c;obtain⟨q,p,f,a⟩:=zL c;have b:=qx f;have e:=b.1;simp only[Dp,Du]at e;have m:PX []=0:=rfl;split at a
 .rename_i j
  have o:=qq j;injection a with g i;subst g i;exact⟨O,(b.2 k).tail⟩
 .have d:=GI n _ _ _ _ (b.2 k) a
  exact⟨O,d.2⟩
theorem zbo(f:Fu):(XY f).length=(XX f.type).length+f.name.size+PX f.params+(xV f.body 1).length+8:=by
 unfold XY PX;simp only[Dn,Dp,Du,XI];omega
theorem UD{t:Int}{f:Fu}(k:Tk l)(_:(XX t).length<=4)(a:oZ n t s l=.ok f r):(XY f).length+50*xv r+100<=s.size+50*xv l/\Tk r:=by
 unfold oZ at a;obtain⟨ps,_,d,e⟩:=zL a;obtain⟨b,_,g,i⟩:=zL e;injection i with j m;subst j m;have o:=UC k d;have c:=ZH o.2 g;have p:=c.1 1 Up;rw[zbo];simp only;exact⟨O,c.2⟩
theorem O1(k:Tk l)(a:qt 0 l=.ok s r):xv l=s.size+xv r/\Tk r/\(Lib.itoa ((kI 0 s.data.toList:Nat):Int)).length<=s.size/\1<=s.size:=by
 unfold qt at a;split at a
 .rename_i e
  injection a with f a;have d:s.data.toList=pT l:=by rw[<-f]
  have c:s.size=(pT l).length:=by rw[<-d];exact(XI s).symm
  have b:(pT l).all kK=true/\1<=(pT l).length:=by
   cases l with
   |nil=>cases e
   |cons t q=>exact(k t Ur).2 e
  refine⟨by rw[c,<-a];exact mW l,a▸k.tail,?_,by rw[c];exact b.2⟩;rw[d,c];exact LZ b.1 b.2
 .cases a
theorem zbp(a:Ar):(arT a).length=a.name.size+(Lib.itoa a.size).length+8:=by
 unfold arT;simp only[Dn,Dp,Du,XI];omega
theorem O2{a:Ar}(k:Tk l)(b:pY s l=.ok a r):(arT a).length+50*xv r+100<=s.size+50*xv l/\Tk r:=by
 unfold pY at b;obtain⟨t,_,g,i⟩:=zL b;obtain⟨_,_,j,m⟩:=zL i;obtain⟨v,_,n,o⟩:=zL m;injection o with p q;subst p q;have w:=O1 k g;have x:=w.1;have y:=w.2.2.1;have z:=w.2.2.2;have c:=qx j;have d:=qx n;have e:=c.1;have f:=d.1;simp only[Dp,Du]at e f;rw[zbp];simp only;exact⟨O,d.2 (c.2 w.2.1)⟩
theorem tQ:∀(n:Nat) (p:Pr) (l:List dY) (q:Pr) (r:List dY),Tk l->i1 n p l=.ok q r->(KZ q).length+50*xv r<=(KZ p).length+50*xv l
 |0,_,_,_,_,_,h=>by rw[i1]at h;cases h
 | n+1,p,l,q,r,k,h=>by
   rw[i1]at h;split at h
   .injection h with d g
    subst d g;exact Dy _
   .obtain⟨A,y,d,g⟩:=zL h
    obtain⟨x,z,s,i⟩:=zL g;have b:=tO k d;have w:=hG s;have B:=w.1;have C:=w.2.2 b.2.1;split at i
    .rename_i t
     have v:=qq t.2.2;obtain⟨a,u,j,m⟩:=zL i;have c:=O2 (w.2.1 b.2.1).tail j;have o:=tQ n _ _ _ _ c.2 m
     have e:(KZ ⟨p.wa++[a],p.funcs⟩).length=(KZ p).length+(arT a).length:=by
      exact Qf
     omega
    .obtain⟨f,u,j,m⟩:=zL i
     have c:=UD (w.2.1 b.2.1) b.2.2 j;have o:=tQ n _ _ _ _ c.2 m
     have e:(KZ ⟨p.wa,p.funcs++[f]⟩).length=(KZ p).length+(XY f).length:=by
      exact Qf
     omega
theorem GJ{a:List dY}{p:Pr}(k:Tk a)(b:kg a=.ok p r):(KZ p).length<=50*xv a:=by
 have:=tQ _ _ _ _ _ k b;have e:(KZ ⟨[],[]⟩).length=0:=rfl;omega
theorem O3(a:yj t=some 0):t.all kK=true:=by
 unfold yj at a;split at a
 .injection a with a
  omega
 .split at a
  .injection a with a
   omega
  .split at a
   .rename_i b
    simp only[xQ,Dv,decide_eq_true_eq]at b;exact b.1.1.2
   .cases a
theorem UE{l:List UInt8}(a:wI l=some (k,t)):1<=t.length/\t.length<=l.length/\(k=0->t.all kK=true):=by
 unfold wI at a;split at a
 .rename_i d
  cases hk:yj (l.takeWhile q9)with
  |none=>rw[hk]at a;cases a
  |some j=>
    rw[hk]at a;injection a with a;injection a with b c;subst b c;exact⟨List.length_pos_iff.2 d,(Cs _).length_le,fun e=>O3 (e▸hk)⟩
 .split at a
  .rename_i d
   injection a with a;injection a with b c;subst b c;refine⟨List.length_pos_iff.2 d,?_,fun e=>O⟩;unfold yL;cases hf:gJ.find? (fun t=>Lib.hasPrefix l t)with
   |none=>simp
   |some g=>
     have f:=List.find?_some hf;exact(List.isPrefixOf_iff_prefix.1 f).length_le
  .cases a
theorem mX:∀(n:Nat) (l:List UInt8) (e:Nat) (b:List dY),l.length<=n->qE l e=(b,none)->Tk b/\xv b<=l.length
 | _,[],e,b,_,a=>by
   rw[qE]at a;injection a with a _;subst a;refine⟨fun t q=>?_,Dy _⟩;obtain rfl:=List.mem_singleton.1 q;exact⟨fun a=>Xb,fun a=>Xb⟩
 |0,c::r,e,b,a,_=>by simp at a
 | n+1,c::r,e,b,hl,a=>by
   simp only[Dp]at hl ⊢;rw[qE]at a;split at a
   .have:=mX n r _ b O a
    exact⟨this.1,O⟩
   .split at a
    .have:=mX n r _ b O a
     exact⟨this.1,O⟩
    .split at a
     .have m:=List.IsSuffix.length_le (List.dropWhile_suffix (l:=r) (fun d:UInt8=>d.toNat != 10))
      have:=mX n _ _ b O a;exact⟨this.1,O⟩
     .split at a
      .cases a
      .rename_i k t p
       have m:(r.drop (t.length-1)).length=r.length-(t.length-1):=Yq;obtain⟨g,u,v⟩:=UE p;rw[Dp]at u;injection a with i j;obtain⟨s,x⟩:=mX n (r.drop (t.length-1)) e (qE (r.drop (t.length-1)) e).1 O (by rw[<-j]);subst i;refine⟨fun w f=>?_,?_⟩
       .rcases List.mem_cons.1 f with rfl|f
        .exact⟨fun _=>g,fun o=>⟨v o,g⟩⟩
        .exact s w f
       .show t.length+xv _<=_
        omega
theorem JU{l:List UInt8}{e:Nat}{a:List dY}{p:Pr}(b:qE l e=(a,none))(d:kg a=.ok p r):(KZ p).length<=50*l.length:=by
 have c:=mX _ _ _ _ Zr b;have f:=GJ c.1 d;omega
