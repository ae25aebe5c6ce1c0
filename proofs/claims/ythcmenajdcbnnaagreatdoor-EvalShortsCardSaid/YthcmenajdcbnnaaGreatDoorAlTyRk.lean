import Derived.Test.YthcmenajdcbnnaaGreatDoorAlTyRg
import Derived.Test.YthcmenajdcbnnaaGreatDoorAlTreeRefG
set_option linter.unusedSimpArgs false
set_option linter.unusedVariables false
set_option maxRecDepth 100000
set_option maxHeartbeats 99000000
namespace Go.Proofs.YthcmenajdcbnnaaGreatDoor
open Go.RowKit Tryz
theorem Qi{p:Prop}(h:p:=by
 unfold KN;simp only[Yj,List.flatten_append,Dr,Y5,Cm,List.flatten_cons,List.flatten_nil,Yd]
 omega):p:=h
theorem Qj{p:Prop}(h:p:=by
 unfold EX at *;rw[iM Uf Uf,m];simp only[Dr,D1,D5,VV]
 omega):p:=h
variable{l r ts:List fH}{s:C3}{t:List UInt8}{k d:Int}{n:Nat}
def frP(l:List Pa):Prop:=∀(q:Nat) x,l[q]?=some x->zv (l.take q) x.name=none
theorem iK{y:Pa}{l:List Pa}:zv (y::l) s=none↔¬y.name=s/\zv l s=none:=by
 rw[zv];cases hv:zv l s with
 |some t=>simp
 |none=>by_cases h:y.name=s<;>simp[h]
theorem tX:∀{l:List Pa},lM l=false↔frP l
 |[]=>⟨fun _ q x b=>by simp at b,fun _=>rfl⟩
 | y::r=>by
   rw[lM,Cd,tX (l:=r)];constructor
   .rintro⟨c,g⟩ q x a
    cases q with
    |zero=>simp[zv]
    |succ q=>
      have f:r[q]?=some x:=Ur
      rw[Y6,iK];refine⟨fun e=>?_,g q x f⟩;rw[yV,Ci]at c;exact c x (Yc f) (by simp[e])
   .intro b
    have d:∀(q:Nat) x,r[q]?=some x->¬y.name=x.name/\zv (r.take q) x.name=none:=fun q x a=>by
     have:=b (q+1) x Ur;rwa [Y6,iK]at this
    refine⟨?_,fun q x a=>(d q x a).2⟩;rw[yV,Ci];intro x i;obtain⟨q,a⟩:=List.getElem?_of_mem i;simpa using fun e=>(d q x a).1 e.symm
theorem JG{B b:Nat}(w:C4)(_:B<=b):Below B w (gR b w):=⟨rfl,rfl,rfl,by rw[uS];exact D0 _,fun k _=>uw w O⟩
theorem gU.takeS{B:Nat}{w:C4}{a:Option Addr}{c:Nat}{l:List Pa}(b:gU B w (.slice a l.length c) l)(k:Nat)(d:k<=l.length):gU B w (.slice a k c) (l.take k):=by
 have j:=b.2 a l.length c rfl;refine⟨⟨_,c,by rw[Yg,Cc d],?_,fun e=>?_⟩,fun _ _ _ i=>by injection i with _ _ _;omega⟩
 .obtain⟨_,_,_,_⟩:=b.form
  rw[Yg];omega
 .rw[Yg]at e
  obtain⟨g,o,rfl,f⟩:=vh.elem b.1 rfl O;exact⟨g,o,rfl,GI k l g o f⟩
theorem LG{W:C4}{g:Nat}{c b:C5}{T:TypeId}(e:W.heap[g]?=some (.cells #[c,b] T (0,0)))(a:C5):(W.setCell (g,0) a).cell? (g,0)=some a:=by
 have d:(W.setCell (g,0) a).heap[g]?=some (.cells #[a,b] T (0,0)):=D3 e a;exact(zG d).1.1
theorem JH(B:Nat)(p:Pr)(R:Int×Nat×Nat)(b5 b6:C5)(w:C4)(l:B<=w.heap.size)(bk:gN B w b5 p.wa)(bo:gO B w b6 p.funcs)(bV:∀f∈p.funcs,f.params.length+fU f.body<=1000000000)(bR:yu p=R):
 Cz 34 #[.agg #[b5,b6]] w (LF w R):=by
 obtain⟨u,y,rfl,_⟩:=bk.form;obtain⟨au,z,rfl,_⟩:=bo.form;have b1:Cy w ((w.alloc (qQ u p.wa.length y au p.funcs.length z)).alloc (lU 0 0)):=(Zb.alloc Zr _).alloc Uh _;have M:=U b1;have bf:=C2 (((w.alloc (qQ u p.wa.length y au p.funcs.length z)).alloc (lU 0 0)).heap[w.heap.size]?=some (qQ u p.wa.length y au p.funcs.length z)) ((D7 _ _ _ Uh).trans (Ds w _));have bg:=C2 (((w.alloc (qQ u p.wa.length y au p.funcs.length z)).alloc (lU 0 0)).heap[w.heap.size+1]?=some (lU 0 0)) (by simpa using Ds (w.alloc (qQ u p.wa.length y au p.funcs.length z)) (lU 0 0));have L:=U bk;have I:=U bo;have a9:=U bR;have b9:=U bV;obtain⟨ok,bY⟩:=C0 (f5 p);have ae:=U bY;clear bk bo bR b1 bY bV;cases ok
 case false=>
  go_enter func34,ntmps34
  go_wp2_with (go_at_call 28;(with_reducible refine(zAm B p _ ae.o _ _ _ Ug (L.o.below (M.o.mono l) Zr) (I.o.below (M.o.mono l) Zr)).mono ?_);rintro e t ⟨rfl,m⟩
               have b:=(m.block w.heap.size Ug).trans bf.o;have c:=(m.block (w.heap.size+1) Uh).trans bg.o;obtain⟨⟨ap,aq⟩,ar⟩:=zG b;obtain⟨⟨F,G⟩,H⟩:=zG c;have a0:w.heap.size+1<t.heap.size:=zB c;have a2:w.heap.size<t.heap.size:=zB b;have s:Cy w t:=M.o.trans (m.mono Ug);have aJ:=U b;have ax:=U c;have aD:=U (L.o.below (s.mono l) Zr);have aH:=U (I.o.below (s.mono l) Zr);have aV:B<=t.heap.size:=O
               have aw:=U s
               clear m b c s)
  obtain⟨C,f1⟩:=js ax.o (.int .i64 0) (.int .i64 0);refine bodyPost_ret (v:=.tuple #[(1:Int),.agg #[(0:Int),(0:Int)]]) (by simp[results,results34,go_sem,C,f1]) rfl ?_;have d:=a9.o;unfold yu at d;rw[Dq ae.o]at d;subst d;exact⟨rfl,qx aw.o O _ _⟩
 case true=>
  have a7:=U (II ae.o);obtain⟨bQ,bp⟩:=C0 ((!(uW p p.wa || CI p.funcs)&&xg p));have bI:=U bp
  have bG:=U (show yu p=if bQ=true then uV p p.funcs 0 else(50,0,0)by
   unfold yu;rw[Dp (by rw[ae.o];decide),<-bp]
   cases uW p p.wa || CI p.funcs<;>cases xg p<;>rfl)
  clear bp;cases bQ
  case false=>
   go_enter func34,ntmps34
   go_wp2_with (first
    | (go_at_call 28;(with_reducible refine(zAm B p _ ae.o _ _ _ Ug (L.o.below (M.o.mono l) Zr) (I.o.below (M.o.mono l) Zr)).mono ?_);rintro e t ⟨rfl,m⟩
       have b:=(m.block w.heap.size Ug).trans bf.o;have c:=(m.block (w.heap.size+1) Uh).trans bg.o;obtain⟨⟨ap,aq⟩,ar⟩:=zG b;obtain⟨⟨F,G⟩,H⟩:=zG c;have a0:w.heap.size+1<t.heap.size:=zB c;have a2:w.heap.size<t.heap.size:=zB b;have s:Cy w t:=M.o.trans (m.mono Ug);have aJ:=U b;have ax:=U c;have aD:=U (L.o.below (s.mono l) Zr);have aH:=U (I.o.below (s.mono l) Zr);have aV:B<=t.heap.size:=O
       have aw:=U s
       clear m b c s)
    | (go_at_call 71;(with_reducible refine(m7 B p _ _ _ _ aV aD.o aH.o bI.o).mono ?_);rintro e K ⟨rfl,Q⟩
       have b:=(Q.block w.heap.size a2).trans aJ.o;have c:=(Q.block (w.heap.size+1) a0).trans ax.o;obtain⟨⟨ap,aq⟩,ar⟩:=zG b;obtain⟨⟨F,G⟩,H⟩:=zG c;have b0:w.heap.size+1<K.heap.size:=zB c;have co:w.heap.size<K.heap.size:=zB b;have T:Cy w K:=aw.o.trans (Q.mono O);have bJ:=U b;have bi:=U c;have b7:=U (L.o.below (T.mono l) Zr);have cb:=U (I.o.below (T.mono l) Zr);have cg:B<=K.heap.size:=O
       have bd:=U T
       clear Q b c T))
   obtain⟨C,f1⟩:=js bi.o (.int .i64 0) (.int .i64 0);refine bodyPost_ret (v:=.tuple #[(50:Int),.agg #[(0:Int),(0:Int)]]) (by simp[results,results34,go_sem,C,f1]) rfl ?_;have d:=bG.o;rw[a9.o,Dp Uf]at d;subst d;exact⟨rfl,qx bd.o O _ _⟩
  case true=>
   go_enter func34,ntmps34
   go_wp2_with (first
    | (go_at_call 28;(with_reducible refine(zAm B p _ ae.o _ _ _ Ug (L.o.below (M.o.mono l) Zr) (I.o.below (M.o.mono l) Zr)).mono ?_);rintro e t ⟨rfl,m⟩
       have b:=(m.block w.heap.size Ug).trans bf.o;have c:=(m.block (w.heap.size+1) Uh).trans bg.o;obtain⟨⟨ap,aq⟩,ar⟩:=zG b;obtain⟨⟨F,G⟩,H⟩:=zG c;have a0:w.heap.size+1<t.heap.size:=zB c;have a2:w.heap.size<t.heap.size:=zB b;have s:Cy w t:=M.o.trans (m.mono Ug);have aJ:=U b;have ax:=U c;have aD:=U (L.o.below (s.mono l) Zr);have aH:=U (I.o.below (s.mono l) Zr);have aV:B<=t.heap.size:=O
       have aw:=U s
       clear m b c s)
    | (go_at_call 71;(with_reducible refine(m7 B p _ _ _ _ aV aD.o aH.o bI.o).mono ?_);rintro e K ⟨rfl,Q⟩
       have b:=(Q.block w.heap.size a2).trans aJ.o;have c:=(Q.block (w.heap.size+1) a0).trans ax.o;obtain⟨⟨ap,aq⟩,ar⟩:=zG b;obtain⟨⟨F,G⟩,H⟩:=zG c;have b0:w.heap.size+1<K.heap.size:=zB c;have co:w.heap.size<K.heap.size:=zB b;have T:Cy w K:=aw.o.trans (Q.mono O);have bJ:=U b;have bi:=U c;have b7:=U (L.o.below (T.mono l) Zr);have cb:=U (I.o.below (T.mono l) Zr);have cg:B<=K.heap.size:=O
       have bd:=U T
       clear Q b c T))
   go_loopw [4] (fun iv wr=>∃j:Nat,j<=p.funcs.length/\iv=.int .i64 j/\uV p (p.funcs.drop j) j=R/\Cy K wr) (fun iv _=>p.funcs.length-(intOf iv).toNat)
   case atStart=>exact⟨0,Dx _,rfl,by have:=bG.o;rw[a9.o]at this;exact this.symm,D4 _ _⟩
   case round=>
    obtain⟨A,rfl⟩:∃x,x=wr:=⟨_,rfl⟩
    obtain⟨j,_,rfl,bS,an⟩:=hrel;have bT:=U bS;have b8:=U an;have ct:=an.size;have bt:Cy w A:=bd.o.trans (an.mono O);have bN:=U bt;have bv:=(an.block (w.heap.size+1) b0).trans bi.o;have b:=(an.block w.heap.size O).trans bJ.o;obtain⟨⟨F,G⟩,H⟩:=zG bv;obtain⟨⟨ap,aq⟩,ar⟩:=zG b;have bO:=U bv;have ce:=U b;have cm:w.heap.size+1<A.heap.size:=O
    have cn:w.heap.size<A.heap.size:=O
    clear bS bv b;by_cases ck:j<p.funcs.length
    .obtain⟨f,aY⟩:∃e,p.funcs[j]?=some e:=⟨_,Dz ck⟩
     obtain⟨g,o,_,_,rfl,_,_,_,_,_,br,bl⟩:=(I.o.below (bt.mono l) Zr).cells aY;obtain⟨V,P,rfl,_⟩:=br.form;obtain⟨ad,ag,rfl,_⟩:=bl.form;have cr:g<A.heap.size:=O
     have cc:=U br;have aE:=U bl;have bH:=U (Yc aY);have av:=U (oI ae.o bH.o).1;have a6:=U (b9.o f bH.o);have bn:=bT.o;rw[xD aY,tT]at bn;have aF:=U bn;have aW:B<=A.heap.size:=O
     clear br bl aY bn an bt;go_wp2_with fail
     go_loopw [6] (fun iv a=>∃k:Nat,k<=f.params.length/\iv=.int .i64 k/\(∀(q:Nat) x,q<k->f.params[q]?=some x->zv (f.params.take q) x.name=none)/\a.heap[A.heap.size]?=some (FH f.name f.type (.slice V f.params.length P) (.slice ad f.body.length ag))/\Cy A a) (fun iv _=>f.params.length-(intOf iv).toNat)
     case atStart=>exact⟨0,Dx _,rfl,fun q x bZ=>absurd bZ O,Ds _ _,Zb.alloc Zr _⟩
     case round=>
      obtain⟨a,rfl⟩:∃x,x=wr:=⟨_,rfl⟩
      obtain⟨k,ci,rfl,bU,aZ,am⟩:=hrel;have bq:A.heap.size<a.heap.size:=zB aZ;obtain⟨⟨bx,bz,bA,bC⟩,bD⟩:=zO aZ;have b2:Cy w a:=bN.o.trans (am.mono O);have bu:=(am.block (w.heap.size+1) cm).trans bO.o;have b:=(am.block w.heap.size cn).trans ce.o;obtain⟨⟨F,G⟩,H⟩:=zG bu;obtain⟨⟨ap,aq⟩,ar⟩:=zG b;have ak:=U bu;have cp:=U b;have aI:=U aZ;have aj:=U am;have af:=U b2;have bF:=U bU;have ao:=cc.o.below (am.mono (show B<=A.heap.size by omega)) Zr;have J:B<=a.heap.size:=O
      have aC:w.heap.size+1<a.heap.size:=O
      clear bU aZ am b2 bu b;by_cases cj:k<f.params.length
      .obtain⟨ab,bw⟩:∃e,f.params[k]?=some e:=⟨_,Dz cj⟩
       obtain⟨_,_,rfl,_,_,_⟩:=ao.cells bw;have bL:=U (fun n=>(ao.takeS k ci).below (show Below B a (a.drewN n)from Zb.trans ⟨rfl,rfl,rfl,D0 _,fun _ _=>rfl⟩) Zr);have bP:=U bw;have cq:k<=P:=by have:=ao.2 _ _ _ rfl;omega
       clear ao bw;cases hvt:zv (f.params.take k) ab.name with
       |none=>
         have bc:=U (show(zv (f.params.take k) ab.name).getD 0=0 by rw[hvt];rfl);have X:=U (show(zv (f.params.take k) ab.name).isSome=false by rw[hvt];rfl);have cd:=U hvt;clear hvt;go_wp2_with fail
         go_quiet ((go_at_call 72;exact(kI B (f.params.take k) ab.name 0 _ bc.o X.o _ _ (by exact J) (bL.o _)).mono fun e w' ay=>⟨ay.1,_,ay.2.symm⟩))
         go_wp2_with fail;go_roundw
         case rel=>
          refine⟨k+1,O,by go_num,fun q x bZ aa=>?_,aI.o,mU aj.o _⟩;by_cases cl:q=k
          .subst cl
           rw[bP.o]at aa;injection aa with aa;subst aa;exact cd.o
          .exact bF.o q x O aa
         case measure=>simp[intOf];omega
       |some b4=>
         have bc:=U (show(zv (f.params.take k) ab.name).getD 0=b4 by rw[hvt];rfl);have X:=U (show(zv (f.params.take k) ab.name).isSome=true by rw[hvt];rfl)
         have ca:=U (show lM f.params=true by
          cases hd:lM f.params with
          |true=>rfl
          |false=>have:=tX.1 hd k ab bP.o;rw[hvt]at this;cases this)
         clear hvt;go_wp2_with fail
         go_quiet ((go_at_call 72;exact(kI B (f.params.take k) ab.name b4 _ bc.o X.o _ _ (by exact J) (bL.o _)).mono fun e w' ay=>⟨ay.1,_,ay.2.symm⟩))
         go_wp2_with fail;obtain⟨C,f1⟩:=js (W:=a.drewN nq) ak.o (.int .i64 j) (.int .i64 0);refine bodyPost_ret (v:=.tuple #[(50:Int),.agg #[(j:Int),(0:Int)]]) (by simp[results,results34,go_sem,C,f1]) rfl ?_;have d:=aF.o;rw[show yl p f=(50,0)from by unfold yl;rw[Dq ca.o],Dq Uf]at d;subst d;exact⟨rfl,qx (mU af.o _) O _ _⟩
      .have bW:lM f.params=false:=tX.2 fun q x aa=>bF.o q x (by have:=(List.getElem?_eq_some_iff.1 aa).1;omega) aa
       obtain⟨⟨al,n1⟩,bs⟩:=C0 (zX p f.type f.body f.params f.params.length false 0);have ba:=U bs;have a4:=U (show yl p f=if al≠0 then(al,n1)else if fV f.body then(0,0)else(52,n1)by unfold yl;rw[bW,bs];simp);have az:Cy a (a.alloc (lS (.slice u p.wa.length y) (.slice (some ⟨g,o,none⟩) p.funcs.length z) f.name f.type (.slice V f.params.length P) (.slice ad f.body.length ag) 0)):=Zb.alloc Zr _;have b3:(a.alloc (lS (.slice u p.wa.length y) (.slice (some ⟨g,o,none⟩) p.funcs.length z) f.name f.type (.slice V f.params.length P) (.slice ad f.body.length ag) 0)).heap.size=a.heap.size+1:=zA _ _;have a3:=C2 ((a.alloc (lS (.slice u p.wa.length y) (.slice (some ⟨g,o,none⟩) p.funcs.length z) f.name f.type (.slice V f.params.length P) (.slice ad f.body.length ag) 0)).heap[a.heap.size]?=some (lS (.slice u p.wa.length y) (.slice (some ⟨g,o,none⟩) p.funcs.length z) f.name f.type (.slice V f.params.length P) (.slice ad f.body.length ag) (fX 0))) (Ds _ _);have bm:Below B w (a.alloc (lS (.slice u p.wa.length y) (.slice (some ⟨g,o,none⟩) p.funcs.length z) f.name f.type (.slice V f.params.length P) (.slice ad f.body.length ag) 0)):=(af.o.mono l).trans (az.mono J);have a5:=C2 (lT B a.heap.size p f.params (.slice u p.wa.length y) (.slice (some ⟨g,o,none⟩) p.funcs.length z) (.slice V f.params.length P) (a.alloc (lS (.slice u p.wa.length y) (.slice (some ⟨g,o,none⟩) p.funcs.length z) f.name f.type (.slice V f.params.length P) (.slice ad f.body.length ag) 0))) ⟨O,J,O,L.o.below bm Zr,I.o.below bm Zr,ao.below ((az.mono J).trans (JG _ J)) O⟩
       have bb:=U (aE.o.below (((aj.o.mono aW).trans (az.mono J))) Zr);have a8:=U az;have bj:=U b3;obtain⟨cf,bX⟩:=C0 (fV f.body);have aG:=U bX;clear bW bs az b3 bm ao bX;by_cases aX:al=0
       .subst aX
        cases cf
        case false=>
         go_wp2_with (first
          | (go_at_call 73;(with_reducible refine(ZV.call (zAk 100) av.o a7.o ba.o a5.o a3.o bb.o a6.o).mono ?_);rintro e w9 ⟨rfl,Z,r⟩
             have i:Cy a w9:=a8.o.trans (kZ Z Ga Zr);have Y:=(i.block A.heap.size bq).trans aI.o;have D:=(i.block (w.heap.size+1) aC).trans ak.o;have a1:a.heap.size<w9.heap.size:=zB r;obtain⟨⟨bx,bz,bA,bC⟩,bD⟩:=zO Y;obtain⟨⟨F,G⟩,H⟩:=zG D;obtain⟨⟨aN,aO,aP,aQ,aR,aS,N⟩,aU⟩:=zR r;have aT:w9.drew.cell? (a.heap.size,6)=some (.int .i64 (fX n1)):=N;have aM:=C2 (w9.drew.heap[w.heap.size+1]?=some (lU 0 0)) D;have X:=U r;have aK:=U i;have be:=C2 (Cy w w9) (af.o.trans (i.mono O));have aL:=U (aE.o.below ((aj.o.mono aW).trans (i.mono J)) Zr)
             clear Z r i Y D)
          | (go_at_call 74;(with_reducible refine(VN.call (oG 100) (B:=B) av.o aG.o O aL.o).mono ?_);rintro e E ⟨rfl,ah⟩
             have S:Cy a E:=aK.o.trans (ah.mono O);have aB:=(ah.block a.heap.size a1).trans X.o;have ai:=(S.block (w.heap.size+1) aC).trans ak.o;obtain⟨⟨F,G⟩,H⟩:=zG ai;obtain⟨⟨aN,aO,aP,aQ,aR,aS,N⟩,aU⟩:=zR aB;have aT:E.drew.cell? (a.heap.size,6)=some (.int .i64 (fX n1)):=N;have bh:=C2 (E.drew.heap[w.heap.size+1]?=some (lU 0 0)) ai;have bK:=U S;have bM:=C2 (Cy w E) (af.o.trans (S.mono O))
             clear ah S aB ai))
         go_region
         all_goals go_wp2_with fail
         all_goals
          have C:=LG (W:=E) bh.o (.int .i64 j);have f1:=(js (W:=E) bh.o (.int .i64 j) (.int .i64 (fX n1))).2;refine bodyPost_ret (v:=.tuple #[(52:Int),.agg #[(j:Int),(fX n1:Int)]]) (by simp[results,results34,go_sem,C,f1]) rfl ?_;have aA:yl p f=(52,n1):=by rw[a4.o,aG.o];simp
          have d:=aF.o;rw[aA,Dq Uh]at d;subst d;exact⟨rfl,(qx bM.o O _ _).drew⟩
        case true=>
         go_wp2_with (first
          | (go_at_call 73;(with_reducible refine(ZV.call (zAk 100) av.o a7.o ba.o a5.o a3.o bb.o a6.o).mono ?_);rintro e w9 ⟨rfl,Z,r⟩
             have i:Cy a w9:=a8.o.trans (kZ Z Ga Zr);have Y:=(i.block A.heap.size bq).trans aI.o;have D:=(i.block (w.heap.size+1) aC).trans ak.o;have a1:a.heap.size<w9.heap.size:=zB r;obtain⟨⟨bx,bz,bA,bC⟩,bD⟩:=zO Y;obtain⟨⟨F,G⟩,H⟩:=zG D;obtain⟨⟨aN,aO,aP,aQ,aR,aS,N⟩,aU⟩:=zR r;have aT:w9.drew.cell? (a.heap.size,6)=some (.int .i64 (fX n1)):=N;have aM:=C2 (w9.drew.heap[w.heap.size+1]?=some (lU 0 0)) D;have X:=U r;have aK:=U i;have be:=C2 (Cy w w9) (af.o.trans (i.mono O));have aL:=U (aE.o.below ((aj.o.mono aW).trans (i.mono J)) Zr)
             clear Z r i Y D)
          | (go_at_call 74;(with_reducible refine(VN.call (oG 100) (B:=B) av.o aG.o O aL.o).mono ?_);rintro e E ⟨rfl,ah⟩
             have S:Cy a E:=aK.o.trans (ah.mono O);have aB:=(ah.block a.heap.size a1).trans X.o;have ai:=(S.block (w.heap.size+1) aC).trans ak.o;obtain⟨⟨F,G⟩,H⟩:=zG ai;obtain⟨⟨aN,aO,aP,aQ,aR,aS,N⟩,aU⟩:=zR aB;have aT:E.drew.cell? (a.heap.size,6)=some (.int .i64 (fX n1)):=N;have bh:=C2 (E.drew.heap[w.heap.size+1]?=some (lU 0 0)) ai;have bK:=U S;have bM:=C2 (Cy w E) (af.o.trans (S.mono O))
             clear ah S aB ai))
         go_roundw
         case rel=>
          refine⟨j+1,O,by go_num,?_,b8.o.trans ((aj.o.trans (bK.o.mono O)).mono O)⟩;have aA:yl p f=(0,0):=by rw[a4.o,aG.o];simp
          have d:=aF.o;rw[aA,Dp Uh]at d;exact d
         case measure=>simp[intOf];omega
       .have cs:(al != 0)=true:=by simp[aX]
        go_wp2_with (go_at_call 73;(with_reducible refine(ZV.call (zAk 100) av.o a7.o ba.o a5.o a3.o bb.o a6.o).mono ?_);rintro e w9 ⟨rfl,Z,r⟩
                     have i:Cy a w9:=a8.o.trans (kZ Z Ga Zr);have Y:=(i.block A.heap.size bq).trans aI.o;have D:=(i.block (w.heap.size+1) aC).trans ak.o;have a1:a.heap.size<w9.heap.size:=zB r;obtain⟨⟨bx,bz,bA,bC⟩,bD⟩:=zO Y;obtain⟨⟨F,G⟩,H⟩:=zG D;obtain⟨⟨aN,aO,aP,aQ,aR,aS,N⟩,aU⟩:=zR r;have aT:w9.drew.cell? (a.heap.size,6)=some (.int .i64 (fX n1)):=N;have aM:=C2 (w9.drew.heap[w.heap.size+1]?=some (lU 0 0)) D;have X:=U r;have aK:=U i;have be:=C2 (Cy w w9) (af.o.trans (i.mono O));have aL:=U (aE.o.below ((aj.o.mono aW).trans (i.mono J)) Zr)
                     clear Z r i Y D)
        go_region
        all_goals go_wp2_with fail
        all_goals
         have C:=LG (W:=w9) aM.o (.int .i64 j);have f1:=(js (W:=w9) aM.o (.int .i64 j) (.int .i64 (fX n1))).2;refine bodyPost_ret (v:=.tuple #[(al:Int),.agg #[(j:Int),(fX n1:Int)]]) (by simp[results,results34,go_sem,C,f1]) rfl ?_;have aA:yl p f=(al,n1):=by rw[a4.o,Dq aX]
         have d:=aF.o;rw[aA,Dq aX]at d;subst d;exact⟨rfl,(qx be.o O _ _).drew⟩
    .have ch:j=p.funcs.length:=by omega
     subst ch;have d:=bT.o;rw[List.drop_length]at d;go_wp2_with fail;obtain⟨C,f1⟩:=js bO.o (.int .i64 0) (.int .i64 0);refine bodyPost_ret (v:=.tuple #[(0:Int),.agg #[(0:Int),(0:Int)]]) (by simp[results,results34,go_sem,C,f1]) rfl ?_;unfold uV at d;subst d;exact⟨rfl,qx bN.o O _ _⟩
theorem zco{α β:Type}(a:α)(r:List fH)(f:α->List fH->PR β):(PR.ok a r).bind f=f a r:=rfl
theorem GN{α:Type}{l:List α}(h:l.length=0):l=[]:=Yq h
theorem ye(e:Ex)(l:List Ex):k0 (e::l) 0=yg e:=KO Xm
theorem TD(a e:Ex)(l:List Ex):k0 (a::e::l) 1=yg e:=KO Xm
theorem OE(h:yX t=some k):k≠3:=by
 unfold yX at h;split at h
 .injection h with h
  omega
 .split at h
  .injection h with h
   omega
  .split at h
   .injection h with h
    omega
   .cases h
theorem X0{l:List UInt8}(h:wQ l=some (k,t)):k≠3:=by
 unfold wQ at h;split at h
 .cases hk:yX (l.takeWhile qq)with
  |none=>rw[hk]at h;cases h
  |some j=>
    rw[hk]at h;injection h with h;injection h with h _;exact h▸OE hk
 .split at h
  .injection h with h
   injection h with h _;omega
  .cases h
theorem kK:∀(n:Nat) (l:List UInt8) (b:Nat) (ts:List fH),l.length<=n->qF l b=(ts,none)->qC ts
 | _,[],b,ts,_,a=>by
   rw[qF]at a;injection a with a _;exact⟨[],⟨3,[],b⟩,a.symm,rfl,fun t u=>by cases u⟩
 |0,c::r,b,ts,a,_=>by simp at a
 | n+1,c::r,b,ts,hl,a=>by
   simp only[D1]at hl;rw[qF]at a;split at a
   .exact kK n r _ ts O a
   .split at a
    .exact kK n r _ ts O a
    .split at a
     .have m:=List.IsSuffix.length_le (List.dropWhile_suffix (l:=r) (fun d:UInt8=>d.toNat != 10))
      exact kK n _ _ ts O a
     .split at a
      .cases a
      .rename_i k t s
       have m:(r.drop (t.length-1)).length<=r.length:=by rw[Ys];omega
       injection a with g j;obtain⟨i,e,o,q,p⟩:=kK n (r.drop (t.length-1)) b (qF (r.drop (t.length-1)) b).1 O (by rw[<-j]);refine⟨⟨k,t,b⟩::i,e,by rw[<-g,o];rfl,q,fun v f=>?_⟩;rcases List.mem_cons.1 f with rfl|f
       .exact X0 s
       .exact p v f
def xo:List fH->Nat
 |[]=>0
 |t::r=>t.text.length+xo r
def Tk(l:List fH):Prop:=∀t∈l,(t.kind=1->1<=t.text.length)/\(t.kind=0->(t.text.all kl=true/\1<=t.text.length))
theorem Tk.tail(a:Tk l):Tk l.tail:=fun t b=>a t (List.mem_of_mem_tail b)
theorem nA(l:List fH):xo l=(pZ l).length+xo l.tail:=by
 cases l<;>rfl
theorem qp{s:List UInt8}(h:zq s l=true):xo l=s.length+xo l.tail:=by
 rw[nA,(uR h).2]
theorem zK{α β:Type}{x:PR α}{f:α->List fH->PR β}{b:β}{t:List fH}(h:x.bind f=.ok b t):∃a r,x=.ok a r/\f a r=.ok b t:=by
 cases x with
 |ok a r=>exact⟨a,r,rfl,h⟩
 |bad r=>cases h
 |deep r=>cases h
 |o=>cases h
theorem jA{s:List UInt8}{c:Unit}(a:zN s l=.ok c r):xo l=s.length+xo r/\(Tk l->Tk r):=by
 unfold zN at a;split at a
 .rename_i b
  injection a with _ a;exact⟨a▸qp b,fun k=>a▸k.tail⟩
 .cases a
theorem iL(a:qt 1 l=.ok s r):xo l=s.size+xo r/\(Tk l->Tk r)/\(Tk l->1<=s.size):=by
 unfold qt at a;split at a
 .rename_i b
  injection a with d a;have c:s.size=(pZ l).length:=by rw[<-d];simp[ByteArray.size]
  refine⟨by rw[c,<-a];exact nA l,fun k=>a▸k.tail,fun k=>?_⟩;rw[c];cases l with
  |nil=>cases b
  |cons t q=>exact(k t Uh).1 b
 .cases a
theorem lV{lev:Int}:∀{ops:List Int},xX lev l ops≠0->xX lev l ops∈ops/\zq (p0 (xX lev l ops)) l=true
 |[],h=>absurd rfl h
 | op::r,h=>by
   rw[xX]at h ⊢;split at h
   .rename_i a
    rw[Dq a];exact⟨Uh,a.2⟩
   .rename_i a
    rw[Dp a];exact⟨Y7 _ (lV h).1,(lV h).2⟩
theorem lW:∀{ops:List Int},xq l ops≠0->xq l ops∈ops/\zq (p0 (xq l ops)) l=true
 |[],h=>absurd rfl h
 | op::r,h=>by
   rw[xq]at h ⊢;split at h
   .rename_i a
    rw[Dq a];exact⟨Uh,a⟩
   .rename_i a
    rw[Dp a];exact⟨Y7 _ (lW h).1,(lW h).2⟩
theorem LH:∀op∈IB,1<=(p0 op).length/\(p0 op).length<=3:=Us
theorem TE:∀op∈MP,1<=(p0 op).length/\(p0 op).length<=3:=Us
theorem tY:∀(n a:Nat),a<10 ^ (n+1)->(Lib.decDigits a).length<=n+1
 | n,a,h=>by
   rw[Lib.decDigits];split
   .simp
   .rename_i b
    cases n with
    |zero=>exact absurd Xs b
    |succ n=>
      have:=tY n (a / 10) (by rw[Nat.pow_succ]at h;omega);rw[Dr];simp;omega
theorem LI:∀(l:List UInt8) (tk:Nat),l.all kl=true->kT tk l<(tk+1)*10 ^ l.length
 |[],tk,_=>by rw[g7];simp
 | c::r,tk,h=>by
   rw[List.all_cons,D2]at h
   have b:c.toNat-48<10:=by
    have:=h.1;simp[kl]at this;omega
   rw[nT];have a:=LI r (tk*10+(c.toNat-48)) h.2;refine Yb a ?_;rw[D1,Nat.pow_succ,Nat.mul_comm (10 ^ r.length) 10,<-Nat.mul_assoc];exact Nat.mul_le_mul_right _ O
theorem LJ{l:List UInt8}(a:l.all kl=true)(_:1<=l.length):(Lib.itoa ((kT 0 l:Nat):Int)).length<=l.length:=by
 rw[Lib.itoa_nonneg];have:=LI l 0 a;obtain⟨n,b⟩:∃n,l.length=n+1:=⟨l.length-1,O⟩
 rw[b]at this ⊢;exact tY n _ O
theorem VV(s:C3):s.data.toList.length=s.size:=Array.length_toList
def EX(e:Ex):Nat:=(yg e).length+2
def AX(l:List Ex):Nat:=(yB (l.map yg)).length
theorem X1(l:List Ex)(e:Ex):AX (l++[e])<=AX l+EX e:=by
 unfold AX EX;rw[Yj,Y5,Cm,rW,Dr,Dr];split<;>simp<;>omega
theorem DK(lev:Int)(e:Ex):(opT lev e).length<=EX e:=by
 unfold opT wV EX;split<;>simp
theorem zao(op:Int)(a b:Ex)(c:op∈IB):EX (.mk 5 op 0 bE [a,b])<=EX a+EX b+7:=by
 have d:yg (.mk 5 op 0 bE [a,b])=opT (kG op) a++32::(p0 op++32::opT (kG op+1) b):=by rw[nX,hJ];rfl
 have e:=DK (kG op) a;have f:=DK (kG op+1) b;have g:=LH op c;unfold EX at *;rw[d];simp only[Dr,D1];omega
theorem TF(op:Int)(a:Ex)(b:op∈MP):EX (.mk 4 op 0 bE [a])<=EX a+5:=by
 have c:yg (.mk 4 op 0 bE [a])=if 23<=op then p0 op++40::(yg a++[41])else p0 op++opT 11 a:=by rw[nX,hJ];rfl
 have d:=DK 11 a;have e:=TE op b;unfold EX at *;rw[c];split<;>simp only[Dr,D1,D5]<;>omega
theorem zap(s:C3):EX (.mk 3 0 0 s [])=s.size+2:=by
 unfold EX;rw[nX];exact congrArg (·+2) (VV s)
theorem TG(s:C3)(e:Ex):EX (.mk 6 0 0 s [e])=s.size+EX e+2:=by
 have a:yg (.mk 6 0 0 s [e])=s.data.toList++91::(yg e++[93]):=by rw[nX,hJ];rfl
 unfold EX;rw[a];simp only[Dr,D1,D5,VV]
theorem LK(s:C3)(l:List Ex):EX (.mk 7 0 0 s l)=s.size+AX l+4:=by
 have a:yg (.mk 7 0 0 s l)=s.data.toList++40::(yB (l.map yg)++[41]):=by
  rw[nX,hJ];show s.data.toList++40::(yB ((l.map fun e=>(e.kind,e.op,yg e)).map (·.2.2))++[41])=_;rw[List.map_map];rfl
 unfold EX AX;rw[a];simp only[Dr,D1,D5,VV];omega
theorem BM(n:Nat):(∀lev d l e r,Tk l->pE n lev d l=.ok e r->EX e+50*xo r<=50*xo l/\Tk r)/\(∀lev d a l e r,Tk l->pL n lev d a l=.ok e r->EX e+50*xo r<=EX a+50*xo l/\Tk r)/\
 (∀d l e r,Tk l->pU n d l=.ok e r->EX e+50*xo r<=50*xo l/\Tk r)/\(∀d l e r,Tk l->pP n d l=.ok e r->EX e+50*xo r<=50*xo l/\Tk r)/\
 (∀d s l e r,Tk l->pN n d s l=.ok e r->EX e+50*xo r<=s.size+2+50*xo l/\Tk r)/\(∀d l z r,Tk l->pA n d l=.ok z r->AX z+50*xo r+50<=50*xo l/\Tk r)/\(∀d tk l z r,Tk l->r0 n d tk l=.ok z r->AX z+50*xo r+50<=AX tk+50*xo l/\Tk r):=by
 induction n with
 |zero=>exact⟨fun _ _ _ _ _ _ c=>(by rw[pE]at c;cases c),fun _ _ _ _ _ _ _ c=>(by rw[pL]at c;cases c),fun _ _ _ _ _ c=>(by rw[pU]at c;cases c),fun _ _ _ _ _ c=>(by rw[pP]at c;cases c),fun _ _ _ _ _ _ c=>(by rw[pN]at c;cases c),fun _ _ _ _ _ c=>(by rw[pA]at c;cases c),fun _ _ _ _ _ _ c=>(by rw[r0]at c;cases c)⟩
 |succ n W=>
   obtain⟨C,P,Q,V,T,S,N⟩:=W;refine⟨fun lev d l e r k c=>?_,fun lev d a l e r k c=>?_,fun d l e r k c=>?_,fun d l e r k c=>?_,fun d s l e r k c=>?_,fun d l z r k c=>?_,fun d tk l z r k c=>?_⟩
   .rw[pE]at c
    split at c
    .exact Q _ _ _ _ k c
    .obtain⟨a,F,u,m⟩:=zK c
     have i:=C _ _ _ _ _ k u;have D:=P _ _ _ _ _ _ i.2 m;exact⟨O,D.2⟩
   .rw[pL]at c
    split at c
    .injection c with u m
     subst u m;exact⟨D0 _,k⟩
    .rename_i I
     obtain⟨B,j⟩:=lV I;obtain⟨b,F,u,m⟩:=zK c;have i:=C _ _ _ _ _ k.tail u;have D:=P _ _ _ _ _ _ i.2 m;have o:=qp j;have R:=LH _ B;have L:=zao (ER lev l) a b B;unfold ER at *;exact⟨O,D.2⟩
   .rw[pU]at c
    split at c
    .cases c
    .split at c
     .exact V _ _ _ _ k c
     .rename_i I
      obtain⟨B,j⟩:=lW I;have o:=qp j;have R:=TE _ B;split at c
      .obtain⟨X,F,u,m⟩:=zK c
       obtain⟨a,G,x,w⟩:=zK m;obtain⟨v,H,y,f⟩:=zK w;injection f with f g;subst f g;have E:=jA u;have i:=C _ _ _ _ _ (E.2 k.tail) x;have p:=jA y;have L:=TF (p1 l) a B;have K:=E.1;have A:=p.1;simp only[D1,D5]at K A;unfold p1 at *;exact⟨O,p.2 i.2⟩
      .obtain⟨a,G,x,w⟩:=zK c
       injection w with f g;subst f g;have i:=Q _ _ _ _ k.tail x;have L:=TF (p1 l) a B;unfold p1 at *;exact⟨O,i.2⟩
   .rw[pP]at c
    split at c
    .rename_i j
     obtain⟨a,G,x,w⟩:=zK c;obtain⟨v,H,y,f⟩:=zK w;injection f with f g;subst f g;have o:=qp j;have i:=C _ _ _ _ _ k.tail x;have p:=jA y;have A:=p.1;exact⟨O,p.2 i.2⟩
    .split at c
     .rename_i j
      injection c with f g;subst f g;have o:=qp j;have:EX (.mk 2 0 1 bE [])=6:=Us
      rw[this];simp only[hK,D1,D5]at o;exact⟨O,k.tail⟩
     .split at c
      .rename_i j
       injection c with f g;subst f g;have o:=qp j;have:EX (.mk 2 0 0 bE [])=7:=Us
       rw[this];simp only[uK,D1,D5]at o;exact⟨O,k.tail⟩
      .split at c
       .rename_i j
        obtain⟨X,F,u,m⟩:=zK c;obtain⟨v,H,y,f⟩:=zK m;injection f with f g;subst f g;have o:=qp j;have E:=jA u;have p:=jA y;have K:=E.1;have A:=p.1;have:EX (.mk 8 0 0 bE [])=8:=Us
        rw[this];simp only[l8,D1,D5]at o;exact⟨O,p.2 (E.2 k.tail)⟩
       .split at c
        .rename_i M
         injection c with f g;subst f g;have o:=nA l
         have Z:EX (.mk 1 0 (kT 0 (pZ l)) bE [])<=(pZ l).length+2/\1<=(pZ l).length:=by
          cases l with
          |nil=>cases M
          |cons t q=>
            have m:=(k t Uh).2 M;refine⟨?_,m.2⟩;unfold EX;rw[nX];exact Nat.add_le_add_right (LJ m.1 m.2) 2
         exact⟨O,k.tail⟩
        .obtain⟨s,F,u,m⟩:=zK c
         have J:=iL u;have i:=T _ _ _ _ _ (J.2.1 k) m;have:=J.2.2 k;have:=J.1;exact⟨O,i.2⟩
   .rw[pN]at c
    split at c
    .rename_i j
     obtain⟨z,F,u,m⟩:=zK c;injection m with f g;subst f g;have o:=qp j;have i:=S _ _ _ _ k.tail u;rw[LK];simp only[D1,D5]at o;exact⟨O,i.2⟩
    .split at c
     .rename_i j
      obtain⟨a,G,x,w⟩:=zK c;obtain⟨v,H,y,f⟩:=zK w;injection f with f g;subst f g;have o:=qp j;have i:=C _ _ _ _ _ k.tail x;have p:=jA y;have A:=p.1;rw[TG];exact⟨O,p.2 i.2⟩
     .injection c with f g
      subst f g;rw[zap];exact⟨O,k⟩
   .rw[pA]at c
    split at c
    .rename_i j
     injection c with f g;subst f g;have o:=qp j;simp only[D1,D5]at o;have:AX []=0:=rfl;exact⟨O,k.tail⟩
    .have i:=N _ _ _ _ _ k c
     have:AX []=0:=rfl;exact⟨O,i.2⟩
   .rw[r0]at c
    obtain⟨a,G,x,w⟩:=zK c;have i:=C _ _ _ _ _ k x;have Y:=X1 tk a;split at w
    .rename_i j
     have o:=qp j;have D:=N _ _ _ _ _ i.2.tail w;exact⟨O,D.2⟩
    .obtain⟨v,H,y,f⟩:=zK w
     injection f with f g;subst f g;have p:=jA y;have A:=p.1;simp only[D1,D5]at A;exact⟨O,p.2 i.2⟩
theorem j2{lev:Int}{e:Ex}(k:Tk l)(h:pE n lev d l=.ok e r):EX e+50*xo r<=50*xo l/\Tk r:=(BM n).1 _ _ _ _ _ k h
theorem X2{a:List Ex}(k:Tk l)(b:pA n d l=.ok a r):AX a+50*xo r+50<=50*xo l/\Tk r:=(BM n).2.2.2.2.2.1 _ _ _ _ k b
theorem ui{α:Type}{x:PR α}{a:α}(d:vK x=.ok a r):∃c,x=.ok a c/\xo c=1+xo r/\(Tk c->Tk r):=by
 unfold vK at d;obtain⟨b,c,e,f⟩:=zK d;obtain⟨_,_,g,i⟩:=zK f;injection i with j k;subst j k;have m:=jA g;exact⟨c,e,m.1,m.2⟩
theorem tZ{t:Int}(k:Tk l)(a:k3 l=.ok t r):3+xo r<=xo l/\Tk r/\(V8 t).length<=4:=by
 unfold k3 at a;split at a
 .rename_i i
  injection a with b c;subst b c;have g:=qp i;simp only[k2,D1,D5]at g;exact⟨O,k.tail,Uf⟩
 .obtain⟨n,j,e,f⟩:=zK a
  injection f with b c;subst b c;have m:=jA e;have d:=m.1;simp only[xR,D1,D5]at d;exact⟨O,m.2 k,Uf⟩
theorem DL{e:Ex}(k:Tk l)(c:pI n l=.ok e r):EX e+50*xo r+100<=50*xo l/\Tk r:=by
 unfold pI at c;obtain⟨_,_,m,o⟩:=zK c;obtain⟨a,_,p,q⟩:=zK o;obtain⟨v,_,s,b⟩:=zK q;injection b with b t;subst b t;have d:=jA m;have g:=j2 (d.2 k) p;have f:=jA s;have i:=d.1;have j:=f.1;simp only[D1,D5]at i j;exact⟨O,f.2 g.2⟩
theorem DM(t:Nat):(CD t).length=t:=Cg
theorem iM{a:Int}{td:C3}{tc:List Ex}{tg th:List St}(b:k≠4)(c:k≠5)(t:Nat):(P7 (.mk k a td tc tg th) t).length=t+(yC k a td tc).length+1:=by
 rw[H8,Dp b,Dp c,Dr,Dr,DM];simp;omega
theorem LL(e:Ex)(tg th:List St)(t:Nat):(P7 (.mk 4 0 bE [e] tg th) t).length<=2*t+8+EX e+(xQ tg (t+1)).length+(if th.length=0 then 0 else t+9+(xQ th (t+1)).length):=by
 have a:yC 4 0 bE [e]=MQ++32::(40::(yg e++[41,32,123])):=Vr
 rw[H8,a,Dq Xm];unfold EX;split<;>simp only[Dr,D1,D5,DM,MQ]<;>omega
theorem X3(e:Ex)(tg:List St)(t:Nat):(P7 (.mk 5 0 bE [e] tg []) t).length=2*t+11+EX e+(xQ tg (t+1)).length:=by
 have a:yC 5 0 bE [e]=vJ++32::(40::(yg e++[41,32,123])):=Vr
 rw[H8,a,Dp Uf,Dq Xm];unfold EX;simp only[Dr,D1,D5,DM,vJ];omega
theorem TH{s:St}(k:Tk l)(B:q7 n l=.ok s r):(∀t,(P7 s t).length+50*xo r+90<=t+50*xo l)/\Tk r:=by
 unfold q7 at B;obtain⟨c,P,G,e⟩:=zK B;have w:=iL G;have S:=w.1;have A:=w.2.1 k;have T:=w.2.2 k;split at e
 .rename_i z
  obtain⟨p,D,f,g⟩:=zK e;injection g with i j;subst i j;have y:=qp z;have d:=X2 A.tail f;simp only[D1,D5]at y;refine⟨fun t=>?_,d.2⟩;have m:yC 10 0 bE [.mk 7 0 0 c p]=yg (.mk 7 0 0 c p)++[59]:=by rw[<-ye (.mk 7 0 0 c p) []];rfl
  have L:=LK c p;unfold EX at L;rw[iM Uf Uf,m];simp only[Dr,D1,D5];omega
 .split at e
  .rename_i z
   obtain⟨a,D,f,g⟩:=zK e;obtain⟨N,M,u,i⟩:=zK g;obtain⟨v,Q,j,x⟩:=zK i;obtain⟨b,R,K,H⟩:=zK x;injection H with I J;subst I J;have y:=qp z;have d:=j2 A.tail f;have o:=jA u;have C:=jA j;have E:=j2 (C.2 (o.2 d.2)) K;have q:=o.1;have F:=C.1;simp only[D1,D5]at y q F;refine⟨fun t=>?_,E.2⟩;have m:yC 3 0 c [a,b]=c.data.toList++91::(yg a++93::32::61::32::(yg b++[59])):=by rw[<-ye a [b],<-TD a b []];rfl
   exact Qj
  .obtain⟨N,D,f,g⟩:=zK e
   obtain⟨a,M,u,i⟩:=zK g;injection i with j x;subst j x;have o:=jA f;have d:=j2 (o.2 A) u;have q:=o.1;simp only[D1,D5]at q;refine⟨fun t=>?_,d.2⟩;have m:yC 2 0 c [a]=c.data.toList++32::61::32::(yg a++[59]):=by rw[<-ye a []];rfl
   exact Qj
theorem OF(n:Nat):(∀d l s r,Tk l->pS n d l=.ok s r->(∀t:Nat,(t:Int)<=d->(P7 s t).length+50*xo r<=50*xo l)/\Tk r)/\
 (∀d e tg l s r,d<=100->Tk l->q8 n d e tg l=.ok s r->(∀t:Nat,(t:Int)<=d->(P7 s t).length+50*xo r<=2*t+8+EX e+(xQ tg (t+1)).length+50*xo l)/\Tk r)/\
 (∀d l b r,Tk l->pB n d l=.ok b r->(∀t:Nat,(t:Int)<=d->(xQ b t).length+50*xo r+100<=50*xo l)/\Tk r)/\
 (∀d tk l b r,Tk l->nR n d tk l=.ok b r->(∀t:Nat,(t:Int)<=d->(xQ b t).length+50*xo r+50<=(xQ tk t).length+50*xo l)/\Tk r):=by
 induction n with
 |zero=>exact⟨fun _ _ _ _ _ a=>(by rw[pS]at a;cases a),fun _ _ _ _ _ _ _ _ a=>(by rw[q8]at a;cases a),fun _ _ _ _ _ a=>(by rw[pB]at a;cases a),fun _ _ _ _ _ _ a=>(by rw[nR]at a;cases a)⟩
 |succ n X=>
   obtain⟨W,V,H,J⟩:=X;refine⟨fun d l s r k a=>?_,fun d e tg l s r T k a=>?_,fun d l b r k a=>?_,fun d tk l b r k a=>?_⟩
   .rw[pS]at a
    split at a
    .cases a
    .rename_i T
     split at a
     .obtain⟨q,u,E,x⟩:=ui a
      obtain⟨N,A,i,j⟩:=zK u;obtain⟨K,M,B,C⟩:=zK j;obtain⟨Y,Z,c,f⟩:=zK C;obtain⟨e,aa,Q,R⟩:=zK f;injection R with S P;subst S P;have p:=tZ k i;have w:=iL B;have ab:=w.1;have ad:=w.2.2 p.2.1;have D:=jA c;have G:=D.1;simp only[D1,D5]at G;have z:=j2 (D.2 (w.2.1 p.2.1)) Q;refine⟨fun t g=>?_,x z.2⟩;have y:yC 1 N K [e]=V8 N++32::(K.data.toList++32::61::32::(yg e++[59])):=Vr
      unfold EX at *;rw[iM Uf Uf,y];simp only[Dr,D1,D5,VV];omega
     .split at a
      .rename_i o
       have m:=qp o;simp only[MQ,D1,D5]at m;obtain⟨e,A,i,j⟩:=zK a;obtain⟨b,M,B,C⟩:=zK j;have p:=DL k.tail i;have v:=H _ _ _ _ p.2 B;have L:=V _ _ _ _ _ _ O v.2 C;refine⟨fun t g=>?_,L.2⟩;have F:=v.1 (t+1) O;have I:=L.1 t g;omega
      .split at a
       .rename_i o
        have m:=qp o;simp only[vJ,D1,D5]at m;obtain⟨e,A,i,j⟩:=zK a;obtain⟨b,M,B,C⟩:=zK j;injection C with c f;subst c f;have p:=DL k.tail i;have v:=H _ _ _ _ p.2 B;refine⟨fun t g=>?_,v.2⟩;have F:=v.1 (t+1) O;rw[X3];omega
       .split at a
        .rename_i o
         have m:=qp o;simp only[hM,D1,D5]at m;obtain⟨q,u,E,x⟩:=ui a;injection u with c f;subst c f;refine⟨fun t g=>?_,x k.tail⟩;have y:(yC 6 0 bE []).length=6:=Xm
         rw[iM Uf Uf,y];omega
        .split at a
         .rename_i o
          have m:=qp o;simp only[rZ,D1,D5]at m;obtain⟨q,u,E,x⟩:=ui a;injection u with c f;subst c f;refine⟨fun t g=>?_,x k.tail⟩;have y:(yC 7 0 bE []).length=9:=Xm
          rw[iM Uf Uf,y];omega
         .split at a
          .rename_i o
           have m:=qp o;simp only[ES,D1,D5]at m;obtain⟨q,u,E,x⟩:=ui a;obtain⟨e,A,i,j⟩:=zK u;injection j with c f;subst c f;have z:=j2 k.tail i;refine⟨fun t g=>?_,x z.2⟩;have y:yC 8 0 bE [e]=ES++32::(yg e++[59]):=Vr
           unfold EX at *;rw[iM Uf Uf,y];simp only[Dr,D1,D5,ES];omega
          .split at a
           .rename_i o
            have m:=qp o;simp only[lK,D1,D5]at m;obtain⟨q,u,E,x⟩:=ui a;obtain⟨e,A,i,j⟩:=zK u;injection j with c f;subst c f;have z:=DL k.tail i;refine⟨fun t g=>?_,x z.2⟩;have y:yC 9 0 bE [e]=lK++40::(yg e++[41,59]):=Vr
            unfold EX at *;rw[iM Uf Uf,y];simp only[Dr,D1,D5,lK];omega
           .obtain⟨q,u,E,x⟩:=ui a
            have z:=TH k u;refine⟨fun t g=>?_,x z.2⟩;have:=z.1 t;omega
   .rw[q8]at a
    split at a
    .rename_i o
     have m:=qp o;simp only[z4,D1,D5]at m;obtain⟨b,A,i,j⟩:=zK a;injection j with c f;subst c f;have v:=H _ _ _ _ k.tail i;refine⟨fun t g=>?_,v.2⟩;have F:=v.1 (t+1) O;have:=LL e tg b t;split at this<;>omega
    .injection a with c f
     subst c f;refine⟨fun t g=>?_,k⟩;have:=LL e tg [] t;rw[Dq Xm]at this;omega
   .rw[pB]at a
    obtain⟨Y,A,i,j⟩:=zK a;have D:=jA i;have G:=D.1;simp only[D1,D5]at G;have p:=J _ _ _ _ _ (D.2 k) j;refine⟨fun t g=>?_,p.2⟩;have:=p.1 t g;rw[rX]at this;simp only[D5]at this;omega
   .rw[nR]at a
    split at a
    .rename_i o
     have m:=qp o;simp only[D1,D5]at m;injection a with c f;subst c f;exact⟨fun t g=>O,k.tail⟩
    .obtain⟨s,A,i,j⟩:=zK a
     have p:=W _ _ _ _ k i;have v:=J _ _ _ _ _ p.2 j;refine⟨fun t g=>?_,v.2⟩;have F:=p.1 t g;have I:=v.1 t g;rw[QQ,nY,rX,Yd,Dr]at I;omega
theorem X4{b:List St}(k:Tk l)(h:pB n d l=.ok b r):(∀t:Nat,(t:Int)<=d->(xQ b t).length+50*xo r+100<=50*xo l)/\Tk r:=(OF n).2.2.1 _ _ _ _ k h
def PX(l:List Pa):Nat:=(yB (l.map paT)).length
theorem X5(l:List Pa)(x:Pa):PX (l++[x])<=PX l+((V8 x.type).length+x.name.size+3):=by
 unfold PX;rw[Yj,Y5,Cm,rW,Dr,Dr]
 have:(paT x).length=(V8 x.type).length+x.name.size+1:=by
  unfold paT;rw[Dr,D1,VV];omega
 split<;>simp<;>omega
theorem GO:∀(n:Nat) (tk:List Pa) (l:List fH) (ps:List Pa) (r:List fH),Tk l->p2 n tk l=.ok ps r->PX ps+50*xo r<=PX tk+50*xo l/\Tk r
 |0,_,_,_,_,_,h=>by rw[p2]at h;cases h
 | n+1,tk,l,ps,r,k,h=>by
   rw[p2]at h;obtain⟨t,x,e,f⟩:=zK h;obtain⟨s,y,g,a⟩:=zK f;have b:=tZ k e;have w:=iL g;have B:=w.1;have C:=w.2.2 b.2.1;have q:=X5 tk ⟨s,t⟩;simp only at q;split at a
   .rename_i p
    have v:=qp p;have d:=GO n _ _ _ _ (w.2.1 b.2.1).tail a;exact⟨O,d.2⟩
   .obtain⟨A,z,i,j⟩:=zK a
    injection j with m o;subst m o;have c:=jA i;have u:=c.1;exact⟨O,c.2 (w.2.1 b.2.1)⟩
theorem TI{ps:List Pa}(k:Tk l)(c:WC n l=.ok ps r):PX ps+50*xo r+50<=50*xo l/\Tk r:=by
 unfold WC at c;obtain⟨q,p,f,a⟩:=zK c;have b:=jA f;have e:=b.1;simp only[D1,D5]at e;have m:PX []=0:=rfl;split at a
 .rename_i j
  have o:=qp j;injection a with g i;subst g i;exact⟨O,(b.2 k).tail⟩
 .have d:=GO n _ _ _ _ (b.2 k) a
  exact⟨O,d.2⟩
theorem zaq(f:Fu):(V9 f).length=(V8 f.type).length+f.name.size+PX f.params+(xQ f.body 1).length+8:=by
 unfold V9 PX;simp only[Dr,D1,D5,VV];omega
theorem TJ{t:Int}{f:Fu}(k:Tk l)(_:(V8 t).length<=4)(a:pC n t s l=.ok f r):(V9 f).length+50*xo r+100<=s.size+50*xo l/\Tk r:=by
 unfold pC at a;obtain⟨ps,_,d,e⟩:=zK a;obtain⟨b,_,g,i⟩:=zK e;injection i with j m;subst j m;have o:=TI k d;have c:=X4 o.2 g;have p:=c.1 1 Uf;rw[zaq];simp only;exact⟨O,c.2⟩
theorem OG(k:Tk l)(a:qt 0 l=.ok s r):xo l=s.size+xo r/\Tk r/\(Lib.itoa ((kT 0 s.data.toList:Nat):Int)).length<=s.size/\1<=s.size:=by
 unfold qt at a;split at a
 .rename_i e
  injection a with f a;have d:s.data.toList=pZ l:=by rw[<-f]
  have c:s.size=(pZ l).length:=by rw[<-d];exact(VV s).symm
  have b:(pZ l).all kl=true/\1<=(pZ l).length:=by
   cases l with
   |nil=>cases e
   |cons t q=>exact(k t Uh).2 e
  refine⟨by rw[c,<-a];exact nA l,a▸k.tail,?_,by rw[c];exact b.2⟩;rw[d,c];exact LJ b.1 b.2
 .cases a
theorem zar(a:Ar):(arT a).length=a.name.size+(Lib.itoa a.size).length+8:=by
 unfold arT;simp only[Dr,D1,D5,VV];omega
theorem OH{a:Ar}(k:Tk l)(b:p3 s l=.ok a r):(arT a).length+50*xo r+100<=s.size+50*xo l/\Tk r:=by
 unfold p3 at b;obtain⟨t,_,g,i⟩:=zK b;obtain⟨_,_,j,m⟩:=zK i;obtain⟨v,_,n,o⟩:=zK m;injection o with p q;subst p q;have w:=OG k g;have x:=w.1;have y:=w.2.2.1;have z:=w.2.2.2;have c:=jA j;have d:=jA n;have e:=c.1;have f:=d.1;simp only[D1,D5]at e f;rw[zar];simp only;exact⟨O,d.2 (c.2 w.2.1)⟩
theorem t1:∀(n:Nat) (p:Pr) (l:List fH) (q:Pr) (r:List fH),Tk l->k4 n p l=.ok q r->(KN q).length+50*xo r<=(KN p).length+50*xo l
 |0,_,_,_,_,_,h=>by rw[k4]at h;cases h
 | n+1,p,l,q,r,k,h=>by
   rw[k4]at h;split at h
   .injection h with d g
    subst d g;exact D0 _
   .obtain⟨A,y,d,g⟩:=zK h
    obtain⟨x,z,s,i⟩:=zK g;have b:=tZ k d;have w:=iL s;have B:=w.1;have C:=w.2.2 b.2.1;split at i
    .rename_i t
     have v:=qp t.2.2;obtain⟨a,u,j,m⟩:=zK i;have c:=OH (w.2.1 b.2.1).tail j;have o:=t1 n _ _ _ _ c.2 m
     have e:(KN ⟨p.wa++[a],p.funcs⟩).length=(KN p).length+(arT a).length:=by
      exact Qi
     omega
    .obtain⟨f,u,j,m⟩:=zK i
     have c:=TJ (w.2.1 b.2.1) b.2.2 j;have o:=t1 n _ _ _ _ c.2 m
     have e:(KN ⟨p.wa,p.funcs++[f]⟩).length=(KN p).length+(V9 f).length:=by
      exact Qi
     omega
theorem GP{p:Pr}(k:Tk ts)(h:kX ts=.ok p r):(KN p).length<=50*xo ts:=by
 have:=t1 _ _ _ _ _ k h;have e:(KN ⟨[],[]⟩).length=0:=rfl;omega
theorem OI(a:yX t=some 0):t.all kl=true:=by
 unfold yX at a;split at a
 .injection a with a
  omega
 .split at a
  .injection a with a
   omega
  .split at a
   .rename_i b
    simp only[xM,D2,decide_eq_true_eq]at b;exact b.1.1.2
   .cases a
theorem TK{l:List UInt8}(a:wQ l=some (k,t)):1<=t.length/\t.length<=l.length/\(k=0->t.all kl=true):=by
 unfold wQ at a;split at a
 .rename_i d
  cases hk:yX (l.takeWhile qq)with
  |none=>rw[hk]at a;cases a
  |some j=>
    rw[hk]at a;injection a with a;injection a with b c;subst b c;exact⟨List.length_pos_iff.2 d,(Cs _).length_le,fun e=>OI (e▸hk)⟩
 .split at a
  .rename_i d
   injection a with a;injection a with b c;subst b c;refine⟨List.length_pos_iff.2 d,?_,fun e=>O⟩;unfold yA;cases hf:g8.find? (fun t=>Lib.hasPrefix l t)with
   |none=>simp
   |some g=>
     have f:=List.find?_some hf;exact(List.isPrefixOf_iff_prefix.1 f).length_le
  .cases a
theorem nB:∀(n:Nat) (l:List UInt8) (b:Nat) (ts:List fH),l.length<=n->qF l b=(ts,none)->Tk ts/\xo ts<=l.length
 | _,[],b,ts,_,a=>by
   rw[qF]at a;injection a with a _;subst a;refine⟨fun t p=>?_,D0 _⟩;obtain rfl:=List.mem_singleton.1 p;exact⟨fun a=>Uo,fun a=>Uo⟩
 |0,c::r,b,ts,a,_=>by simp at a
 | n+1,c::r,b,ts,hl,a=>by
   simp only[D1]at hl ⊢;rw[qF]at a;split at a
   .have:=nB n r _ ts O a
    exact⟨this.1,O⟩
   .split at a
    .have:=nB n r _ ts O a
     exact⟨this.1,O⟩
    .split at a
     .have j:=List.IsSuffix.length_le (List.dropWhile_suffix (l:=r) (fun d:UInt8=>d.toNat != 10))
      have:=nB n _ _ ts O a;exact⟨this.1,O⟩
     .split at a
      .cases a
      .rename_i k t o
       have j:(r.drop (t.length-1)).length=r.length-(t.length-1):=Ys;obtain⟨f,s,u⟩:=TK o;rw[D1]at s;injection a with g i;obtain⟨q,w⟩:=nB n (r.drop (t.length-1)) b (qF (r.drop (t.length-1)) b).1 O (by rw[<-i]);subst g;refine⟨fun v e=>?_,?_⟩
       .rcases List.mem_cons.1 e with rfl|e
        .exact⟨fun _=>f,fun m=>⟨u m,f⟩⟩
        .exact q v e
       .show t.length+xo _<=_
        omega
theorem JI{l:List UInt8}{d:Nat}{p:Pr}(a:qF l d=(ts,none))(c:kX ts=.ok p r):(KN p).length<=50*l.length:=by
 have b:=nB _ _ _ _ Zr a;have e:=GP b.1 c;omega
theorem OJ(a:yX t=some 0):xM t=true:=by
 unfold yX at a;split at a
 .injection a with a
  omega
 .split at a
  .injection a with a
   omega
  .split at a
   .rename_i b
    exact b
   .cases a
theorem X6{l:List UInt8}(a:wQ l=some (k,t))(d:k=0):xM t=true:=by
 subst d;unfold wQ at a;split at a
 .cases hk:yX (l.takeWhile qq)with
  |none=>rw[hk]at a;cases a
  |some j=>
    rw[hk]at a;injection a with a;injection a with b c;subst b c;exact OJ hk
 .split at a
  .injection a with a
   injection a with b c;omega
  .cases a
theorem uj:∀(n:Nat) (l:List UInt8) (e:Nat) (ts:List fH),l.length<=n->qF l e=(ts,none)->(∀t∈ts,t.kind=0->xM t.text=true/\t.text.length<=l.length)/\ts.length<=l.length+1
 | _,[],e,ts,_,a=>by
   rw[qF]at a;injection a with a _;subst a;refine⟨fun t f=>?_,Uh⟩;obtain rfl:=List.mem_singleton.1 f;exact fun a=>Uo
 |0,c::r,e,ts,a,_=>by simp at a
 | n+1,c::r,e,ts,hl,a=>by
   simp only[D1]at hl ⊢;rw[qF]at a
   have i:∀{k:Nat},k<=r.length->((∀t∈ts,t.kind=0->xM t.text=true/\t.text.length<=k)/\ts.length<=k+1)->(∀t∈ts,t.kind=0->xM t.text=true/\t.text.length<=r.length+1)/\ts.length<=r.length+1+1:=fun x ⟨j,w⟩=>
    ⟨fun t f b=>⟨(j t f b).1,by have:=(j t f b).2;omega⟩,O⟩
   split at a
   .exact i Zr (uj n r _ ts O a)
   .split at a
    .exact i Zr (uj n r _ ts O a)
    .split at a
     .have m:=List.IsSuffix.length_le (List.dropWhile_suffix (l:=r) (fun d:UInt8=>d.toNat != 10))
      exact i m (uj n _ _ ts O a)
     .split at a
      .cases a
      .rename_i k t o
       have m:(r.drop (t.length-1)).length=r.length-(t.length-1):=Ys;obtain⟨z,q,_⟩:=TK o;rw[D1]at q;injection a with u v;obtain⟨p,y⟩:=uj n (r.drop (t.length-1)) e (qF (r.drop (t.length-1)) e).1 O (by rw[<-v]);subst u;refine⟨fun s g=>?_,?_⟩
       .rcases List.mem_cons.1 g with rfl|g
        .exact fun b=>⟨X6 o b,q⟩
        .exact fun b=>⟨(p s g b).1,by have:=(p s g b).2;omega⟩
       .rw[D1]
        omega
def VW(l:List fH):Nat:=match l with|t::_=>t.line | []=>0
def JJ:Pr:=⟨[],[]⟩
def JK(ts:List fH):Pr×Int×Nat:=
 match kX ts with
 |.ok p _=>if f5 p=true then(p,0,0)else(JJ,2,0)
 |.bad r=>(JJ,20,VW r)
 |.deep r=>(JJ,2,VW r)
 |.o=>(JJ,0,0)
def yQ(s:C3):Pr×Int×Nat:=
 if 100000<s.size then(JJ,2,0)
 else match (qF s.data.toList 1).2 with
  |some a=>(JJ,20,a)
  |none=>JK (qF s.data.toList 1).1
theorem oV(h:100000<s.size):yQ s=(JJ,2,0):=by unfold yQ;rw[Dq h]
theorem DN(_:s.size<=100000){a:Nat}(b:(qF s.data.toList 1).2=some a):yQ s=(JJ,20,a):=by unfold yQ;rw[Dp O,b]
theorem iN(_:s.size<=100000)(a:qF s.data.toList 1=(ts,none)):yQ s=JK ts:=by unfold yQ;rw[Dp O,a]
theorem oW{l:List UInt8}(h:(qF l 1).2=none):qF l 1=((qF l 1).1,none):=by rw[<-h]
