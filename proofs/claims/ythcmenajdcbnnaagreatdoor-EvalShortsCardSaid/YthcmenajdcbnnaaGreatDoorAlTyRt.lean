import Derived.Test.YthcmenajdcbnnaaGreatDoorAlParBlk
set_option linter.unusedSimpArgs false
set_option linter.unusedVariables false
set_option maxRecDepth 100000
set_option maxHeartbeats 99000000
namespace Go.Proofs.YthcmenajdcbnnaaGreatDoor
open Go.RowKit Tryz
theorem Il{p:Prop}(h:p:=by
 go_wp2_with fail
 go_quiet (fail)
 go_wp2_with fail
 go_ret2
 have b:=C.o;rw[M.o,D.o]at b;dsimp only at b;rw[iA Uf,V.o,rH N.o (by rw[P.o];intro H;exact E H.2),Dp Uf]at b;subst b
 exact⟨rfl,mU (mU u.o _) _⟩):p:=h
theorem Im{p:Prop}(h:p:=by
 go_ret;have d:¬(0<=n/\n<(l.length:Int)):=O
 refine⟨zC (by rw[decide_eq_false d]),?_,q.o.trans (fF.set (X:=fun k=>k=c.b) E rfl 4 _) fun _ _ v=>v⟩;rw[Dp d]
 exact a.o.set j.o 4 (.int .i64 3) (D3 j.o _) x.o a.o.inn rfl rfl Zr a.o.fc):p:=h
variable{B k g:Nat}{p:Pr}{v0 v1 v c0 c1 c2 vo:C5}{w:C4}{e:Ex}{a t n:Int}{l:List Int}{s u:RS}{T:TypeId}{vs:fG}{c:gK}{r:List St}
structure g3 (B:Nat) (p:Pr) (vars:List Pa) (v0 v1 v:C5) (w:C4):Prop where
 hB:B<=w.heap.size
 ha:gN B w v0 p.wa
 hf:gO B w v1 p.funcs
 hv:gU B w v vars
theorem g3.below{tf:List Pa}{w':C4}(a:g3 B p tf v0 v1 v w)(b:Below B w w'):g3 B p tf v0 v1 v w' where
 hB:=Dy a.hB b.size
 ha:=a.ha.below b Zr
 hf:=a.hf.below b Zr
 hv:=a.hv.below b Zr
theorem g3.form{tf:List Pa}(d:g3 B p tf v0 v1 v w):∃a c0 b c1 c c2,v0=.slice a p.wa.length c0/\v1=.slice b p.funcs.length c1/\v=.slice c tf.length c2:=by
 obtain⟨a,c0,e,_⟩:=d.ha.form;obtain⟨b,c1,f,_⟩:=d.hf.form;obtain⟨c,c2,g,_⟩:=d.hv.form;exact⟨a,c0,b,c1,c,c2,e,f,g⟩
def VO(m:Nat):Prop:=∀(B:Nat) (p:Pr) (tf:List Pa) (e:Ex) (r:Int×Int) (x v0 v1 v:C5) (w:C4),xx e m=true->mH p->qE p tf e=r->g3 B p tf v0 v1 v w->k1 B w e x->
 Cz 120 #[.agg #[v0,v1],v,x] w (Cw (.tuple #[(r.1:Int),(r.2:Int)]) w)
theorem VO.call{m:Nat}(a:VO m){tf:List Pa}{r:Int×Int}{x:C5}(b:xx e m=true)(c:mH p)(d:qE p tf e=r)(f:g3 B p tf v0 v1 v w)(g:k1 B w e x):
 Cz 120 #[.agg #[v0,v1],v,x] w (Cw (.tuple #[(r.1:Int),(r.2:Int)]) w):=a B p tf e r x v0 v1 v w b c d f g
theorem jL(B:Nat)(p:Pr)(s:C3)(z:Int)(d:jy (qP p.funcs s)=z)(v0 v1:C5)(w:C4)(a:B<=w.heap.size)(b:gN B w v0 p.wa)(c:gO B w v1 p.funcs):
 Cz 36 #[.agg #[v0,v1],s] w (Cw (z:Int) w):=d▸IF B p s v0 v1 w a b c
theorem kh(B:Nat)(p:Pr)(s:C3)(z:Int)(d:jy (zZ p.wa s)=z)(v0 v1:C5)(w:C4)(a:B<=w.heap.size)(b:gN B w v0 p.wa)(c:gO B w v1 p.funcs):
 Cz 99 #[.agg #[v0,v1],s] w (Cw (z:Int) w):=d▸IG B p s v0 v1 w a b c
theorem kI(B:Nat)(l:List Pa)(s:C3)(t:Int)(b:Bool)(e:(zv l s).getD 0=t)(c:(zv l s).isSome=b)(v:C5)(w:C4)(a:B<=w.heap.size)(d:gU B w v l):
 Cz 72 #[v,s] w (Cx (.tuple #[(t:Int),.bool b]) w):=e▸c▸M2 B l s v w a d
theorem mU{a:C4}(h:Below B a w)(n:Nat):Below B a (w.drewN n):=h.trans ⟨rfl,rfl,rfl,D0 _,fun _ _=>rfl⟩
def VP(a:Int)(l:List Int)(j:Nat):Prop:=∀(i:Nat) t,i<j->l[i]?=some t->(a=0\/t=a)/\t=l.headD 0
theorem VP.zero(a:Int)(l:List Int):VP a l 0:=fun i t b=>absurd b O
theorem VP.succ{j:Nat}(c:VP a l j)(f:l[j]?=some t)(e:(a=0\/t=a)/\t=l.headD 0):VP a l (j+1):=fun i x _ b=>by
 by_cases d:i=j
 .subst d
  rw[f]at b;injection b with b;exact b▸e
 .exact c i x O b
theorem VP.all(c:VP a l l.length):(l.all fun t=>decide ((a=0\/t=a)/\t=l.headD 0))=true:=by
 rw[Y9];intro t d;obtain⟨i,b⟩:=List.getElem?_of_mem d;exact decide_eq_true (c i t (List.getElem?_eq_some_iff.1 b).1 b)
theorem rH{i:Nat}(c:l[i]?=some t)(b:¬((a=0\/t=a)/\t=l.headD 0)):(l.all fun t=>decide ((a=0\/t=a)/\t=l.headD 0))=false:=by
 rw[List.all_eq_false];exact⟨t,Yc c,Up⟩
theorem iA{tf:List Pa}{k op:Int}{s:C3}(h:k=4\/k=5):jk p tf k op s l=if(l.all fun t=>decide ((jZ op=0\/t=jZ op)/\t=l.headD 0))=true then(vM op,0)else(0,51):=by
 unfold jk;rw[Dp O,Dp O,Dp O,Dp O,Dq h]
theorem AZ{tf:List Pa}{op:Int}{s:C3}:jk p tf 6 op s l=if l.headD 0=1 then(1,0)else(0,51):=by
 unfold jk;rw[Dp Uf,Dp Uf,Dp Uf,Dq rfl]
theorem oO:l.map (Value.int .i64)++[Value.int .i64 t]=(l++[t]).map (Value.int .i64):=Uh
abbrev jM(k op n:Int)(s:C3)(A:Option Addr)(m c:Nat):Obj:=.cells #[(k:Int),(op:Int),(n:Int),s,(A,m,c)] 147
theorem qV{b c:C5}(a:w.heap[g]?=some (.cells #[c0,c1,c2,b,c] T (0,0))):w.cell? (g,0)=some c0/\w.cell? (g,1)=some c1/\w.cell? (g,2)=some c2/\w.cell? (g,3)=some b/\w.cell? (g,4)=some c:=
 ⟨(Du a 0).trans rfl,(Du a 1).trans rfl,(Du a 2).trans rfl,(Du a 3).trans rfl,(Du a 4).trans rfl⟩
theorem yN(d:Int)(m:Nat)(a7:VO m)(B:Nat)(p:Pr)(tf:List Pa)(op n:Int)(s:C3)(tc:List Ex)(r:Int×Int)(a8 v0 v1 v:C5)(w:C4)(Y:zl d op n s tc.length=true)(aT:zx tc m=true)(aW:mH p)(an:g3 B p tf v0 v1 v w)(A:kW B w a8 tc)
 (bC:d=4\/d=5\/d=1\/d=2\/d=3\/d=8) (aO:kO p tf d s=true) (hF:xS p d s tc.length=true) (a1:d=3->(zv tf s).isSome=true) (aP:∀l,(d=4\/d=5)\/jk p tf d op s l=(if d=2 then 2 else if d=3 then(zv tf s).getD 0 else 1,0)) (_:tc.length<=8) (aX:qE p tf (.mk d op n s tc)=r):
 Cz 120 #[.agg #[v0,v1],v,.agg #[(d:Int),(op:Int),(n:Int),s,a8]] w (Cw (.tuple #[(r.1:Int),(r.2:Int)]) w):=by
 have C:=U (show qE p tf (.mk d op n s tc)=(match qI p tf tc with | .inl e=>(0,e) | .inr l=>jk p tf d op s l)by rw[yT,aO,hF];rfl);obtain⟨J,c0,K,c1,_,c2,rfl,rfl,rfl⟩:=an.form;obtain⟨T,c,rfl,_⟩:=A.form;obtain⟨bI,ar,a3,a4,a5⟩:=info_parts kY;have aa:=U (Dt ar (Dt a3 (Dt a4 a5)));obtain⟨z,a6⟩:=C0 (jy (qP p.funcs s));have bq:=U a6;clear a6;obtain⟨_,a0⟩:=C0 ((zv tf s).getD 0);have aG:=U a0;clear a0;obtain⟨bK,a2⟩:=C0 ((zv tf s).isSome);have aH:=U a2;clear a2;have bl:=C2 (d=3->bK=true) (fun e=>aH.o.symm.trans (a1 e));have bh:=U aP;clear aO hF a1 aP;have q:=U an;have bk:=U aW;have D:=U aX;have bf:=U aT;have aJ:=U A;have be:=U a7;have aI:=C2 (Cy w ((w.alloc (qQ J p.wa.length c0 K p.funcs.length c1)).alloc (jM d op n s T tc.length c))) ((Zb.alloc Zr _).alloc Uh _);have bo:=C2 (((w.alloc (qQ J p.wa.length c0 K p.funcs.length c1)).alloc (jM d op n s T tc.length c)).heap[w.heap.size]?=some (qQ J p.wa.length c0 K p.funcs.length c1)) ((D7 _ _ _ Uh).trans (Ds w _));have bp:=C2 (((w.alloc (qQ J p.wa.length c0 K p.funcs.length c1)).alloc (jM d op n s T tc.length c)).heap[w.heap.size+1]?=some (jM d op n s T tc.length c)) (by simpa using Ds (w.alloc (qQ J p.wa.length c0 K p.funcs.length c1)) (jM d op n s T tc.length c));clear an aW Y A aX ar a3 a4 a5 aT a7;rcases bC with rfl|rfl|rfl|rfl|rfl|rfl
 all_goals(try(obtain rfl:=bl.o rfl))
 all_goals
  go_enter func120,ntmps120
  go_wp2_with (first
   | (go_at_call 36
      have ae:=q.o.below (aI.o.mono q.o.hB)
      (with_reducible refine(jL B p s _ bq.o _ _ _ ae.hB ae.ha ae.hf).mono ?_)
      rintro e S ⟨rfl,F⟩;have Z:=(F.block (w.heap.size+1) Uh).trans bp.o;have af:=(F.block w.heap.size Ug).trans bo.o;obtain⟨_,_,_,_,_⟩:=qV Z;obtain⟨⟨_,_⟩,_⟩:=zG af;have bP:w.heap.size+1<S.heap.size:=zB Z;have bO:w.heap.size<S.heap.size:=O
      have bm:=U af;have bn:=U Z;have ap:Cy w S:=aI.o.trans (F.mono Ug);have a9:=U ap;have aD:=U (q.o.below (ap.mono q.o.hB))
      clear F ae Z af ap)
   | (go_at_call 72
      (with_reducible refine(kI B tf s _ _ aG.o aH.o _ _ aD.o.hB aD.o.hv).mono ?_)
      rintro e w9 ⟨rfl,rfl⟩))
  go_quiet (fail)
  go_wp2_with fail
  go_loopw [11,12] (fun bJ iv wr=>∃(j:Nat) (l:List Int),j<=tc.length/\iv=.int .i64 j/\l.length=j/\qI p tf (tc.take j)=.inr l/\wr.ownsRow S.heap.size 3 1 bJ j (l.map (Value.int .i64))/\Cy S wr) (fun _ iv _=>tc.length-(intOf iv).toNat)
  case atStart=>exact⟨0,[],Dx _,rfl,rfl,by rw[Yx,qI],Yp _ _ _ _,mU Zb _⟩
  case round=>
   obtain⟨j,l,bx,rfl,aS,aY,av,R⟩:=hrel;obtain⟨aA,aK,rfl⟩:=jE av;have bQ:=R.size;have ax:Cy w wr:=a9.o.trans (R.mono O);obtain⟨⟨_,_⟩,_⟩:=zG ((R.block w.heap.size O).trans bm.o);obtain⟨_,_,_,_,_⟩:=qV ((R.block (w.heap.size+1) O).trans bn.o);have ba:=U R;have u:=U ax;have L:=U av;have ab:=U aY;have bb:=U (q.o.below (ax.mono q.o.hB));have bD:w.heap.size<wr.heap.size:=O
   have bF:w.heap.size+1<wr.heap.size:=O
   clear R ax av aY;by_cases au:j<tc.length
   .obtain⟨⟨ag,ai,ah,aj,ad⟩,X⟩:∃e,tc[j]?=some e:=⟨_,Dz au⟩
    obtain⟨g,o,v',rfl,_,_,_,_,_,_,aw⟩:=(aJ.o.below (u.o.mono q.o.hB) Zr).cells X;obtain⟨aB,aL,rfl,_⟩:=aw.form;have bc:=C2 (k1 B wr (.mk ag ai ah aj ad) (.agg #[(ag:Int),(ai:Int),(ah:Int),aj,(aB,ad.length,aL)])) ⟨_,rfl,(aJ.o.below (u.o.mono q.o.hB) Zr).range X,aw⟩;have bv:g<wr.heap.size:=by have:=q.o.hB;omega
    obtain⟨⟨t,f⟩,aZ⟩:=C0 (qE p tf (.mk ag ai ah aj ad));have W:=U aZ;have bj:=U (qb bf.o X);have aE:=U X;clear aw aZ X;by_cases aQ:f=0
    all_goals(try subst aQ)
    all_goals
     go_wp2_with fail
     go_region_held3 (fun w'=>w'.cell? (w.heap.size,0)=some (.slice J p.wa.length c0)/\w'.cell? (w.heap.size,1)=some (.slice K p.funcs.length c1)/\w'.cell? (w.heap.size+1,4)=some (.slice (some ⟨g,o,none⟩) tc.length c)/\w'.cell? (g,o+j*5)=some (.int .i64 ag)/\w'.cell? (g,o+j*5+1)=some (.int .i64 ai)/\w'.cell? (g,o+j*5+2)=some (.int .i64 ah)/\w'.cell? (g,o+j*5+3)=some (.string aj)/\w'.cell? (g,o+j*5+4)=some (.slice aB ad.length aL))
      (first
        |(go_split_ands;refine⟨?_,?_,?_,?_,?_,?_,?_,?_⟩ <;>(first|(rw[bA];assumption)|(rw[bH];assumption)|(rw[bu];assumption)))
        |go_keep)
      (first
        | (go_at_call 120
           (refine(be.o.call (w:=wr.drew) bj.o bk.o W.o (bb.o.below Zb.drew) (bc.o.below Zb.drew Zr)).mono ?_)
           rintro e I ⟨rfl,F⟩;have G:Cy wr I:=Zb.drew.trans F;have bR:wr.heap.size<=I.heap.size:=G.size;have bA:∀k,I.cell? ⟨w.heap.size,k,none⟩=wr.cell? ⟨w.heap.size,k,none⟩:=fun k=>G.cell (p:=⟨w.heap.size,k,none⟩) bD
           have bH:∀k,I.cell? ⟨w.heap.size+1,k,none⟩=wr.cell? ⟨w.heap.size+1,k,none⟩:=fun k=>G.cell (p:=⟨w.heap.size+1,k,none⟩) bF
           have bu:∀k,I.cell? ⟨g,k,none⟩=wr.cell? ⟨g,k,none⟩:=fun k=>G.cell (p:=⟨g,k,none⟩) bv
           have aC:=U G;have aF:=U (qX (zt L.o fun k Y=>G.block k (zP L.o k Y).2) (.cells #[(t:Int)] 3));have bg:=U (jV I [.int .i64 t] 3)
           clear F G))
    .go_wp2_with (at_builtin;refine wpList_append_own _ rfl (.tmp 97) (.tmp 99) _ rfl S.heap.size 3 bI _ 1 8 underlying23 aa.o.1 aa.o.2.1 aa.o.2.2.1 aa.o.2.2.2 rfl O (.slice aA j aK) j _ rfl (by exact aF.o) ⟨I.heap.size,0,none⟩ 1 1 [.int .i64 t] rfl rfl (by exact bg.o) Um Ul O Ug ?_
                  intro _ _ aV aR _;have bd:=U aR;have bi:=U aV
                  clear aV aR)
     go_roundw
     case rel=>
      refine⟨j+1,l++[t],O,by go_num,by simp[aS],?_,?_,?_⟩
      .have:=zAb ab.o aE.o (by rw[W.o])
       rwa [W.o]at this
      .rw[<-oO];exact bi.o
      .exact((ba.o.trans (aC.o.mono O)).alloc O _).grown bd.o Ug fun k Y=>(zP aF.o k Y).1
     case measure=>simp[intOf];omega
    .go_wp2_with fail
     go_ret2
     have b:=C.o;rw[i2 ab.o aE.o (by rw[W.o];exact aQ),W.o]at b;rw[D.o]at b;subst b;exact⟨rfl,u.o.trans (aC.o.mono O)⟩
   .have bz:j=tc.length:=by omega
    subst bz;have M:=U (show qI p tf tc=.inr l by have:=ab.o;rwa [Ye Zr]at this);clear ab bx au
    first
     | (go_wp2_with fail
        go_ret2
        have b:=C.o;rw[M.o,D.o]at b;dsimp only at b;have aN:=(bh.o l).resolve_left Uf;simp[aG.o]at aN;rw[aN]at b;subst b
        exact⟨rfl,u.o⟩)
     | (go_wp2_with (go_at_call 145;(with_reducible refine(E1 op _).mono ?_);rintro e w9 ⟨rfl,rfl⟩)
        obtain⟨a,ao⟩:=C0 (jZ op);have V:=U ao;have bM:=U (zt (w':=wr) L.o fun _ _=>rfl);rw[ao];clear ao
        go_loopw [18] (fun iv bL=>∃i nq:Nat,i<=tc.length/\iv=.int .i64 i/\VP a l i/\bL=wr.drewN nq) (fun iv _=>tc.length-(intOf iv).toNat)
        case atStart=>exact⟨0,0,Dx _,rfl,VP.zero _ _,rfl⟩
        case round=>
         obtain⟨i,nq,ar,rfl,aU,rfl⟩:=hrel;have ak:=U aU;clear aU;by_cases au:i<tc.length
         .obtain⟨x,A⟩:∃e,l[i]?=some e:=⟨_,Dz O⟩
          have aq:l[0]?=some (l.headD 0):=by
           cases l with
           |nil=>simp at A
           |cons a r=>rfl
          obtain⟨az,ay⟩:=C0 (l.headD 0);rw[ay]at aq
          obtain⟨aM,_,am,_⟩:∃g c,Value.slice aA tc.length aK=.slice (some ⟨g,0,none⟩) tc.length c/\g<wr.heap.size:=by
           rcases L.o.2 with⟨_,y⟩|⟨g,bs,_,bG,_,E,_⟩
           .omega
           .exact⟨g,bs,bG,zB E⟩
          injection am with am _ bt;subst am bt;have af:wr.cell? (aM,i)=some (.int .i64 x):=(L.o.cellAt i O).trans (by rw[Yn,A];rfl);have Z:wr.cell? (aM,0)=some (.int .i64 az):=(L.o.cellAt 0 O).trans (by rw[Yn,aq];rfl);have N:=U A;have P:=U ay;clear A aq ay;by_cases E:x=az
          .subst E
           by_cases y:a=0
           .subst y
            go_wp2_with fail
            go_quiet (fail)
            go_wp2_with fail;go_roundw
            case rel=>exact⟨i+1,_,O,by go_num,ak.o.succ N.o ⟨.inl rfl,P.o.symm⟩,rfl⟩
            case measure=>simp[intOf];omega
           .by_cases Q:x=a
            .subst Q
             have al:(x != 0)=true:=by simp[y]
             go_wp2_with fail
             go_quiet (fail)
             go_wp2_with fail;go_roundw
             case rel=>exact⟨i+1,_,O,by go_num,ak.o.succ N.o ⟨.inr rfl,P.o.symm⟩,rfl⟩
             case measure=>simp[intOf];omega
            .have al:(a != 0)=true:=by simp[y]
             have br:(x != a)=true:=by simp[Q]
             go_wp2_with fail
             go_quiet (fail)
             go_wp2_with fail
             go_ret2
             have b:=C.o;rw[M.o,D.o]at b;dsimp only at b;rw[iA Uf,V.o,rH N.o (by rw[P.o];intro H;exact H.1.elim y Q),Dp Uf]at b;subst b;exact⟨rfl,mU (mU u.o _) _⟩
          .have bN:(x != az)=true:=by simp[E]
           by_cases y:a=0
           .subst y
            exact Il
           .by_cases Q:x=a
            .subst Q
             have al:(x != 0)=true:=by simp[y]
             exact Il
            .have al:(a != 0)=true:=by simp[y]
             have br:(x != a)=true:=by simp[Q]
             exact Il
         .have bw:i=tc.length:=by omega
          subst bw;go_wp2_with fail
          go_ret2
          have b:=C.o;rw[M.o,D.o]at b;dsimp only at b;rw[iA Uf,V.o,VP.all (by rw[aS];exact ak.o),Dq rfl]at b;subst b
          exact⟨rfl,mU u.o _⟩)
theorem FV(m:Nat)(aV:VO m)(B:Nat)(p:Pr)(tf:List Pa)(op n:Int)(s:C3)(tc:List Ex)(r:Int×Int)(aW v0 v1 v:C5)(w:C4)(P:zl 6 op n s tc.length=true)(aH:zx tc m=true)(aJ:mH p)(aj:g3 B p tf v0 v1 v w)(y:kW B w aW tc)
 (q:Nat) (al:zZ p.wa s=some q) (V:tc.length=1) (_:tc.length<=8) (aK:qE p tf (.mk 6 op n s tc)=r):
 Cz 120 #[.agg #[v0,v1],v,.agg #[(6:Int),(op:Int),(n:Int),s,aW]] w (Cw (.tuple #[(r.1:Int),(r.2:Int)]) w):=by
 have ae:=U (show qE p tf (.mk 6 op n s tc)=(match qI p tf tc with | .inl e=>(0,e) | .inr l=>jk p tf 6 op s l)by rw[yT,show kO p tf 6 s=true from by simp[kO,al],show xS p 6 s tc.length=true from rfl];rfl);obtain⟨F,c0,G,c1,_,c2,rfl,rfl,rfl⟩:=aj.form;obtain⟨K,c,rfl,_⟩:=y.form;obtain⟨bw,aE,aR,aS,aT⟩:=info_parts kY;have Q:=U (Dt aE (Dt aR (Dt aS aT)));obtain⟨z,aU⟩:=C0 (jy (qP p.funcs s));have bd:=U aU;clear aU;obtain⟨_,aP⟩:=C0 ((zv tf s).getD 0);have a9:=U aP;clear aP;obtain⟨_,aQ⟩:=C0 ((zv tf s).isSome);have ba:=U aQ;clear aQ;have aY:=U (show jy (zZ p.wa s)=(q:Int)by rw[al];rfl);have aX:=U V;clear al V;have i:=U aj;have a8:=U aJ;have af:=U aK;have a4:=U aH;have az:=U y;have a3:=U aV;have ay:=C2 (Cy w ((w.alloc (qQ F p.wa.length c0 G p.funcs.length c1)).alloc (jM 6 op n s K tc.length c))) ((Zb.alloc Zr _).alloc Uh _);have bb:=C2 (((w.alloc (qQ F p.wa.length c0 G p.funcs.length c1)).alloc (jM 6 op n s K tc.length c)).heap[w.heap.size]?=some (qQ F p.wa.length c0 G p.funcs.length c1)) ((D7 _ _ _ Uh).trans (Ds w _));have bc:=C2 (((w.alloc (qQ F p.wa.length c0 G p.funcs.length c1)).alloc (jM 6 op n s K tc.length c)).heap[w.heap.size+1]?=some (jM 6 op n s K tc.length c)) (by simpa using Ds (w.alloc (qQ F p.wa.length c0 G p.funcs.length c1)) (jM 6 op n s K tc.length c));clear aj aJ P y aK aE aR aS aT aH aV;go_enter func120,ntmps120
 go_wp2_with (first
  | (go_at_call 36
     have X:=i.o.below (ay.o.mono i.o.hB)
     (with_reducible refine(jL B p s _ bd.o _ _ _ X.hB X.ha X.hf).mono ?_)
     rintro e ao ⟨rfl,d⟩;have u:=(d.block (w.heap.size+1) Uh).trans bc.o;have A:=(d.block w.heap.size Ug).trans bb.o;obtain⟨bf,bg,bh,bi,bj⟩:=qV u;obtain⟨⟨bz,bA⟩,bC⟩:=zG A;have aM:w.heap.size+1<ao.heap.size:=zB u;have aL:w.heap.size<ao.heap.size:=O
     have ag:=U A;have ah:=U u;have D:Cy w ao:=ay.o.trans (d.mono Ug);have ad:=U D;have H:=U (i.o.below (D.mono i.o.hB))
     clear d X u A D)
  | (go_at_call 72
     (with_reducible refine(kI B tf s _ _ a9.o ba.o _ _ H.o.hB H.o.hv).mono ?_)
     rintro e w9 ⟨rfl,rfl⟩)
  | (go_at_call 99
     (with_reducible refine(kh B p s _ aY.o _ _ _ H.o.hB H.o.ha H.o.hf).mono ?_)
     rintro e J ⟨rfl,d⟩;have u:=(d.block (w.heap.size+1) aM).trans ah.o;have A:=(d.block w.heap.size aL).trans ag.o;obtain⟨bf,bg,bh,bi,bj⟩:=qV u;obtain⟨⟨bz,bA⟩,bC⟩:=zG A;have aM:w.heap.size+1<J.heap.size:=zB u;have aL:w.heap.size<J.heap.size:=O
     have ag:=U A;have ah:=U u;have D:Cy w J:=ad.o.trans (d.mono O);have ad:=U D;have H:=U (i.o.below (D.mono i.o.hB))
     clear d u A D))
 go_quiet (fail)
 go_wp2_with fail
 go_loopw [11,12] (fun bx iv wr=>∃(j:Nat) (l:List Int),j<=tc.length/\iv=.int .i64 j/\l.length=j/\qI p tf (tc.take j)=.inr l/\wr.ownsRow J.heap.size 3 1 bx j (l.map (Value.int .i64))/\Cy J wr) (fun _ iv _=>tc.length-(intOf iv).toNat)
 case atStart=>exact⟨0,[],Dx _,rfl,rfl,by rw[Yx,qI],Yp _ _ _ _,mU Zb _⟩
 case round=>
  obtain⟨j,l,bo,rfl,br,aN,ak,I⟩:=hrel;obtain⟨ap,aA,rfl⟩:=jE ak;have bF:=I.size;have an:Cy w wr:=ad.o.trans (I.mono O);obtain⟨⟨_,_⟩,_⟩:=zG ((I.block w.heap.size O).trans ag.o);obtain⟨_,_,_,_,_⟩:=qV ((I.block (w.heap.size+1) O).trans ah.o);have aZ:=U I;have M:=U an;have R:=U ak;have S:=U aN;have a0:=U (i.o.below (an.mono i.o.hB));have bs:w.heap.size<wr.heap.size:=O
  have bt:w.heap.size+1<wr.heap.size:=O
  clear I an ak aN;by_cases aF:j<tc.length
  .obtain⟨⟨Y,aa,Z,ab,T⟩,N⟩:∃e,tc[j]?=some e:=⟨_,Dz aF⟩
   obtain⟨g,o,v',rfl,_,_,_,_,_,_,am⟩:=(az.o.below (M.o.mono i.o.hB) Zr).cells N;obtain⟨aq,aB,rfl,_⟩:=am.form;have a1:=C2 (k1 B wr (.mk Y aa Z ab T) (.agg #[(Y:Int),(aa:Int),(Z:Int),ab,(aq,T.length,aB)])) ⟨_,rfl,(az.o.below (M.o.mono i.o.hB) Zr).range N,am⟩;have bn:g<wr.heap.size:=by have:=i.o.hB;omega
   obtain⟨⟨t,f⟩,aO⟩:=C0 (qE p tf (.mk Y aa Z ab T));have L:=U aO;have a7:=U (qb a4.o N);have au:=U N;clear am aO N;by_cases aC:f=0
   all_goals(try subst aC)
   all_goals
    go_wp2_with fail
    go_region_held3 (fun w'=>w'.cell? (w.heap.size,0)=some (.slice F p.wa.length c0)/\w'.cell? (w.heap.size,1)=some (.slice G p.funcs.length c1)/\w'.cell? (w.heap.size+1,4)=some (.slice (some ⟨g,o,none⟩) tc.length c)/\w'.cell? (g,o+j*5)=some (.int .i64 Y)/\w'.cell? (g,o+j*5+1)=some (.int .i64 aa)/\w'.cell? (g,o+j*5+2)=some (.int .i64 Z)/\w'.cell? (g,o+j*5+3)=some (.string ab)/\w'.cell? (g,o+j*5+4)=some (.slice aq T.length aB))
     (first
       |(go_split_ands;refine⟨?_,?_,?_,?_,?_,?_,?_,?_⟩ <;>(first|(rw[bq];assumption)|(rw[bv];assumption)|(rw[bm];assumption)))
       |go_keep)
     (first
       | (go_at_call 120
          (refine(a3.o.call (w:=wr.drew) a7.o a8.o L.o (a0.o.below Zb.drew) (a1.o.below Zb.drew Zr)).mono ?_)
          rintro e E ⟨rfl,d⟩;have C:Cy wr E:=Zb.drew.trans d;have bG:wr.heap.size<=E.heap.size:=C.size;have bq:∀k,E.cell? ⟨w.heap.size,k,none⟩=wr.cell? ⟨w.heap.size,k,none⟩:=fun k=>C.cell (p:=⟨w.heap.size,k,none⟩) bs
          have bv:∀k,E.cell? ⟨w.heap.size+1,k,none⟩=wr.cell? ⟨w.heap.size+1,k,none⟩:=fun k=>C.cell (p:=⟨w.heap.size+1,k,none⟩) bt
          have bm:∀k,E.cell? ⟨g,k,none⟩=wr.cell? ⟨g,k,none⟩:=fun k=>C.cell (p:=⟨g,k,none⟩) bn
          have ar:=U C;have aw:=U (qX (zt R.o fun k P=>C.block k (zP R.o k P).2) (.cells #[(t:Int)] 3));have a5:=U (jV E [.int .i64 t] 3)
          clear d C))
   .go_wp2_with (at_builtin;refine wpList_append_own _ rfl (.tmp 97) (.tmp 99) _ rfl J.heap.size 3 bw _ 1 8 underlying23 Q.o.1 Q.o.2.1 Q.o.2.2.1 Q.o.2.2.2 rfl O (.slice ap j aA) j _ rfl (by exact aw.o) ⟨E.heap.size,0,none⟩ 1 1 [.int .i64 t] rfl rfl (by exact a5.o) Um Ul O Ug ?_
                 intro _ _ aI aD _;have a2:=U aD;have a6:=U aI
                 clear aI aD)
    go_roundw
    case rel=>
     refine⟨j+1,l++[t],O,by go_num,by simp[br],?_,?_,?_⟩
     .have:=zAb S.o au.o (by rw[L.o])
      rwa [L.o]at this
     .rw[<-oO];exact a6.o
     .exact((aZ.o.trans (ar.o.mono O)).alloc O _).grown a2.o Ug fun k P=>(zP aw.o k P).1
    case measure=>simp[intOf];omega
   .go_wp2_with fail
    go_ret2
    have b:=ae.o;rw[i2 S.o au.o (by rw[L.o];exact aC),L.o]at b;rw[af.o]at b;subst b;exact⟨rfl,M.o.trans (ar.o.mono O)⟩
  .have bp:j=tc.length:=by omega
   subst bp;have ax:=U (show qI p tf tc=.inr l by have:=S.o;rwa [Ye Zr]at this);clear S bo aF;have V:=aX.o
   obtain⟨bk,_,ai,_⟩:∃g c,Value.slice ap tc.length aA=.slice (some ⟨g,0,none⟩) tc.length c/\g<wr.heap.size:=by
    rcases R.o.2 with⟨_,_⟩|⟨g,be,_,bu,_,W,_⟩
    .omega
    .exact⟨g,be,bu,zB W⟩
   injection ai with ai _ bl;subst ai bl;obtain⟨x,y⟩:∃e,l[0]?=some e:=⟨_,Dz O⟩
   have A:wr.cell? (bk,0)=some (.int .i64 x):=(R.o.cellAt 0 O).trans (by rw[Yn,y];rfl)
   have aG:l.headD 0=x:=by
    cases l with
    |nil=>simp at y
    |cons a r=>simpa using y
   have av:=U aG;have bD:0<tc.length:=O
   clear y aG V;by_cases W:x=1
   .subst W
    go_wp2_with fail
    go_ret2
    have b:=ae.o;rw[ax.o,af.o]at b;dsimp only at b;rw[show jk p tf 6 op s l=(1,0)from by rw[AZ,av.o];rfl]at b;subst b;exact⟨rfl,M.o⟩
   .go_wp2_with fail
    go_ret2
    have b:=ae.o;rw[ax.o,af.o]at b;dsimp only at b;rw[show jk p tf 6 op s l=(0,51)from by rw[AZ,av.o,Dp W]]at b;subst b;exact⟨rfl,M.o⟩
theorem DA(m:Nat)(L:VO m)(B:Nat)(p:Pr)(tf:List Pa)(op n:Int)(s:C3)(tc:List Ex)(r:Int×Int)(M v0 v1 v:C5)(w:C4)(X:zl 3 op n s tc.length=true)(D:zx tc m=true)(E:mH p)(l:g3 B p tf v0 v1 v w)(t:kW B w M tc)
 (j:zv tf s=none) (_:tc.length<=8) (F:qE p tf (.mk 3 op n s tc)=r):
 Cz 120 #[.agg #[v0,v1],v,.agg #[(3:Int),(op:Int),(n:Int),s,M]] w (Cw (.tuple #[(r.1:Int),(r.2:Int)]) w):=by
 have P:=U (show qE p tf (.mk 3 op n s tc)=(0,50)by rw[yT,show kO p tf 3 s=false from by simp[kO,j]];rfl);obtain⟨b,c0,d,c1,_,c2,rfl,rfl,rfl⟩:=l.form;obtain⟨a,c,rfl,_⟩:=t.form;obtain⟨_,C,H,I,J⟩:=info_parts kY;have Y:=U (Dt C (Dt H (Dt I J)));obtain⟨z,K⟩:=C0 (jy (qP p.funcs s));have W:=U K;clear K;have R:=U (show(zv tf s).getD 0=0 by rw[j];rfl);have S:=U (show(zv tf s).isSome=false by rw[j];rfl);clear j;have f:=U l;have ab:=U E;have Q:=U F;have aa:=U D;have ad:=U t;have Z:=U L;have A:=C2 (Cy w ((w.alloc (qQ b p.wa.length c0 d p.funcs.length c1)).alloc (jM 3 op n s a tc.length c))) ((Zb.alloc Zr _).alloc Uh _);have T:=C2 (((w.alloc (qQ b p.wa.length c0 d p.funcs.length c1)).alloc (jM 3 op n s a tc.length c)).heap[w.heap.size]?=some (qQ b p.wa.length c0 d p.funcs.length c1)) ((D7 _ _ _ Uh).trans (Ds w _));have V:=C2 (((w.alloc (qQ b p.wa.length c0 d p.funcs.length c1)).alloc (jM 3 op n s a tc.length c)).heap[w.heap.size+1]?=some (jM 3 op n s a tc.length c)) (by simpa using Ds (w.alloc (qQ b p.wa.length c0 d p.funcs.length c1)) (jM 3 op n s a tc.length c));clear l E X t F C H I J D L;go_enter func120,ntmps120
 go_wp2_with (first
  | (go_at_call 36
     have g:=f.o.below (A.o.mono f.o.hB)
     (with_reducible refine(jL B p s _ W.o _ _ _ g.hB g.ha g.hf).mono ?_)
     rintro e x ⟨rfl,i⟩;have k:=(i.block (w.heap.size+1) Uh).trans V.o;have u:=(i.block w.heap.size Ug).trans T.o;obtain⟨_,_,_,_,_⟩:=qV k;obtain⟨⟨_,_⟩,_⟩:=zG u;have ah:w.heap.size+1<x.heap.size:=zB k;have ag:w.heap.size<x.heap.size:=O
     have ae:=U u;have af:=U k;have q:Cy w x:=A.o.trans (i.mono Ug);have N:=U q;have y:=U (f.o.below (q.mono f.o.hB))
     clear i g k u q)
  | (go_at_call 72
     (with_reducible refine(kI B tf s _ _ R.o S.o _ _ y.o.hB y.o.hv).mono ?_)
     rintro e w9 ⟨rfl,rfl⟩))
 go_ret2
 have G:=P.o;rw[Q.o]at G;subst G;exact⟨rfl,N.o⟩
theorem sX(m:Nat)(V:VO m)(B:Nat)(p:Pr)(tf:List Pa)(op n:Int)(s:C3)(tc:List Ex)(r:Int×Int)(W v0 v1 v:C5)(w:C4)(al:zl 6 op n s tc.length=true)(H:zx tc m=true)(I:mH p)(u:g3 B p tf v0 v1 v w)(y:kW B w W tc)
 (x:zZ p.wa s=none) (_:tc.length<=8) (J:qE p tf (.mk 6 op n s tc)=r):
 Cz 120 #[.agg #[v0,v1],v,.agg #[(6:Int),(op:Int),(n:Int),s,W]] w (Cw (.tuple #[(r.1:Int),(r.2:Int)]) w):=by
 have Y:=U (show qE p tf (.mk 6 op n s tc)=(0,50)by rw[yT,show kO p tf 6 s=false from by simp[kO,x]];rfl);obtain⟨k,c0,l,c1,_,c2,rfl,rfl,rfl⟩:=u.form;obtain⟨j,c,rfl,_⟩:=y.form;obtain⟨_,G,Q,R,S⟩:=info_parts kY;have ap:=U (Dt G (Dt Q (Dt R S)));obtain⟨z,T⟩:=C0 (jy (qP p.funcs s));have af:=U T;clear T;obtain⟨_,N⟩:=C0 ((zv tf s).getD 0);have aa:=U N;clear N;obtain⟨_,P⟩:=C0 ((zv tf s).isSome);have ab:=U P;clear P;have X:=U (show jy (zZ p.wa s)= -1 by rw[x];rfl);clear x;have g:=U u;have au:=U I;have Z:=U J;have ar:=U H;have av:=U y;have aq:=U V;have D:=C2 (Cy w ((w.alloc (qQ k p.wa.length c0 l p.funcs.length c1)).alloc (jM 6 op n s j tc.length c))) ((Zb.alloc Zr _).alloc Uh _);have ad:=C2 (((w.alloc (qQ k p.wa.length c0 l p.funcs.length c1)).alloc (jM 6 op n s j tc.length c)).heap[w.heap.size]?=some (qQ k p.wa.length c0 l p.funcs.length c1)) ((D7 _ _ _ Uh).trans (Ds w _));have ae:=C2 (((w.alloc (qQ k p.wa.length c0 l p.funcs.length c1)).alloc (jM 6 op n s j tc.length c)).heap[w.heap.size+1]?=some (jM 6 op n s j tc.length c)) (by simpa using Ds (w.alloc (qQ k p.wa.length c0 l p.funcs.length c1)) (jM 6 op n s j tc.length c));clear u I al y J G Q R S H V;go_enter func120,ntmps120
 go_wp2_with (first
  | (go_at_call 36
     have q:=g.o.below (D.o.mono g.o.hB)
     (with_reducible refine(jL B p s _ af.o _ _ _ q.hB q.ha q.hf).mono ?_)
     rintro e A ⟨rfl,a⟩;have b:=(a.block (w.heap.size+1) Uh).trans ae.o;have f:=(a.block w.heap.size Ug).trans ad.o;obtain⟨ag,ah,ai,aj,ak⟩:=qV b;obtain⟨⟨am,an⟩,ao⟩:=zG f;have M:w.heap.size+1<A.heap.size:=zB b;have L:w.heap.size<A.heap.size:=O
     have E:=U f;have F:=U b;have d:Cy w A:=D.o.trans (a.mono Ug);have t:=U d;have i:=U (g.o.below (d.mono g.o.hB))
     clear a q b f d)
  | (go_at_call 72
     (with_reducible refine(kI B tf s _ _ aa.o ab.o _ _ i.o.hB i.o.hv).mono ?_)
     rintro e w9 ⟨rfl,rfl⟩)
  | (go_at_call 99
     (with_reducible refine(kh B p s _ X.o _ _ _ i.o.hB i.o.ha i.o.hf).mono ?_)
     rintro e C ⟨rfl,a⟩;have b:=(a.block (w.heap.size+1) M).trans F.o;have f:=(a.block w.heap.size L).trans E.o;obtain⟨ag,ah,ai,aj,ak⟩:=qV b;obtain⟨⟨am,an⟩,ao⟩:=zG f;have M:w.heap.size+1<C.heap.size:=zB b;have L:w.heap.size<C.heap.size:=O
     have E:=U f;have F:=U b;have d:Cy w C:=t.o.trans (a.mono O);have t:=U d;have i:=U (g.o.below (d.mono g.o.hB))
     clear a b f d))
 go_ret2
 have K:=Y.o;rw[Z.o]at K;subst K;exact⟨rfl,t.o⟩
theorem w5(m:Nat)(L:VO m)(B:Nat)(p:Pr)(tf:List Pa)(op n:Int)(s:C3)(tc:List Ex)(r:Int×Int)(M v0 v1 v:C5)(w:C4)(X:zl 7 op n s tc.length=true)(C:zx tc m=true)(D:mH p)(k:g3 B p tf v0 v1 v w)(t:kW B w M tc)
 (q:qP p.funcs s=none) (_:tc.length<=8) (E:qE p tf (.mk 7 op n s tc)=r):
 Cz 120 #[.agg #[v0,v1],v,.agg #[(7:Int),(op:Int),(n:Int),s,M]] w (Cw (.tuple #[(r.1:Int),(r.2:Int)]) w):=by
 have P:=U (show qE p tf (.mk 7 op n s tc)=(0,50)by rw[yT,show kO p tf 7 s=false from by simp[kO,q]];rfl);obtain⟨b,c0,d,c1,_,c2,rfl,rfl,rfl⟩:=k.form;obtain⟨a,c,rfl,_⟩:=t.form;obtain⟨_,A,I,J,K⟩:=info_parts kY;have Y:=U (Dt A (Dt I (Dt J K)));have W:=U (show jy (qP p.funcs s)= -1 by rw[q];rfl);clear q;obtain⟨_,G⟩:=C0 ((zv tf s).getD 0);have R:=U G;clear G;obtain⟨_,H⟩:=C0 ((zv tf s).isSome);have S:=U H;clear H;have f:=U k;have ab:=U D;have Q:=U E;have aa:=U C;have ad:=U t;have Z:=U L;have z:=C2 (Cy w ((w.alloc (qQ b p.wa.length c0 d p.funcs.length c1)).alloc (jM 7 op n s a tc.length c))) ((Zb.alloc Zr _).alloc Uh _);have T:=C2 (((w.alloc (qQ b p.wa.length c0 d p.funcs.length c1)).alloc (jM 7 op n s a tc.length c)).heap[w.heap.size]?=some (qQ b p.wa.length c0 d p.funcs.length c1)) ((D7 _ _ _ Uh).trans (Ds w _));have V:=C2 (((w.alloc (qQ b p.wa.length c0 d p.funcs.length c1)).alloc (jM 7 op n s a tc.length c)).heap[w.heap.size+1]?=some (jM 7 op n s a tc.length c)) Gk;clear k D X t E A I J K C L;go_enter func120,ntmps120
 go_wp2_with (first
  | (go_at_call 36
     have g:=f.o.below (z.o.mono f.o.hB)
     (with_reducible refine(jL B p s _ W.o _ _ _ g.hB g.ha g.hf).mono ?_)
     rintro e x ⟨rfl,i⟩;have j:=(i.block (w.heap.size+1) Uh).trans V.o;have u:=(i.block w.heap.size Ug).trans T.o;obtain⟨_,_,_,_,_⟩:=qV j;obtain⟨⟨_,_⟩,_⟩:=zG u;have ah:w.heap.size+1<x.heap.size:=zB j;have ag:w.heap.size<x.heap.size:=O
     have ae:=U u;have af:=U j;have l:Cy w x:=z.o.trans (i.mono Ug);have N:=U l;have y:=U (f.o.below (l.mono f.o.hB))
     clear i g j u l)
  | (go_at_call 72
     (with_reducible refine(kI B tf s _ _ R.o S.o _ _ y.o.hB y.o.hv).mono ?_)
     rintro e w9 ⟨rfl,rfl⟩))
 go_ret2
 have F:=P.o;rw[Q.o]at F;subst F;exact⟨rfl,N.o⟩
theorem oP(m:Nat)(R:VO m)(B:Nat)(p:Pr)(tf:List Pa)(op n:Int)(s:C3)(tc:List Ex)(r:Int×Int)(S v0 v1 v:C5)(w:C4)(ag:zl 7 op n s tc.length=true)(H:zx tc m=true)(I:mH p)(y:g3 B p tf v0 v1 v w)(C:kW B w S tc)
 (q:Nat) (f:Fu) (t:qP p.funcs s=some q) (l:p.funcs[q]?=some f) (F:tc.length≠f.params.length) (_:tc.length<=8) (J:qE p tf (.mk 7 op n s tc)=r):
 Cz 120 #[.agg #[v0,v1],v,.agg #[(7:Int),(op:Int),(n:Int),s,S]] w (Cw (.tuple #[(r.1:Int),(r.2:Int)]) w):=by
 have W:=U (show qE p tf (.mk 7 op n s tc)=(0,51)by rw[yT,show kO p tf 7 s=true by simp[kO,t],show xS p 7 s tc.length=false by simp[xS,jU,t,l,F]];rfl);have ap:((tc.length:Int) != (f.params.length:Int))=true:=Ug
 clear F;obtain⟨b,c0,d,c1,_,c2,rfl,rfl,rfl⟩:=y.form;obtain⟨a,c,rfl,_⟩:=C.form;obtain⟨_,G,N,P,Q⟩:=info_parts kY;have ah:=U (Dt G (Dt N (Dt P Q)));have ad:=U (show jy (qP p.funcs s)=(q:Int)by rw[t];rfl);have V:=U l;have ar:q<p.funcs.length:=(List.getElem?_eq_some_iff.1 l).1;clear t l;obtain⟨_,L⟩:=C0 ((zv tf s).getD 0);have Y:=U L;clear L;obtain⟨_,M⟩:=C0 ((zv tf s).isSome);have Z:=U M;clear M;have g:=U y;have ak:=U I;have X:=U J;have aj:=U H;have am:=U C;have ai:=U R;have E:=C2 (Cy w ((w.alloc (qQ b p.wa.length c0 d p.funcs.length c1)).alloc (jM 7 op n s a tc.length c))) ((Zb.alloc Zr _).alloc Uh _);have aa:=C2 (((w.alloc (qQ b p.wa.length c0 d p.funcs.length c1)).alloc (jM 7 op n s a tc.length c)).heap[w.heap.size]?=some (qQ b p.wa.length c0 d p.funcs.length c1)) ((D7 _ _ _ Uh).trans (Ds w _));have ab:=C2 (((w.alloc (qQ b p.wa.length c0 d p.funcs.length c1)).alloc (jM 7 op n s a tc.length c)).heap[w.heap.size+1]?=some (jM 7 op n s a tc.length c)) Gk;clear y I ag C J G N P Q H R;go_enter func120,ntmps120
 go_wp2_with (first
  | (go_at_call 36
     have j:=g.o.below (E.o.mono g.o.hB)
     (with_reducible refine(jL B p s _ ad.o _ _ _ j.hB j.ha j.hf).mono ?_)
     rintro e x ⟨rfl,k⟩;have u:=(k.block (w.heap.size+1) Uh).trans ab.o;have D:=(k.block w.heap.size Ug).trans aa.o;obtain⟨_,_,_,_,_⟩:=qV u;obtain⟨⟨_,_⟩,_⟩:=zG D;have av:w.heap.size+1<x.heap.size:=zB u;have au:w.heap.size<x.heap.size:=O
     have an:=U D;have ao:=U u;have z:Cy w x:=E.o.trans (k.mono Ug);have T:=U z;have i:=U (g.o.below (z.mono g.o.hB))
     clear k j u D z)
  | (go_at_call 72
     (with_reducible refine(kI B tf s _ _ Y.o Z.o _ _ i.o.hB i.o.hv).mono ?_)
     rintro e w9 ⟨rfl,rfl⟩))
 obtain⟨ae,_,_,_,rfl,_,_,_,_,_,A,af⟩:=i.o.hf.cells V.o;obtain⟨_,_,rfl,_⟩:=A.form;have al:=U A;have aq:ae<x.heap.size:=by have:=i.o.hB;omega
 clear A af
 go_quiet (fail)
 go_wp2_with fail
 go_ret2
 have K:=W.o;rw[X.o]at K;subst K;exact⟨rfl,mU T.o _⟩
theorem I2(m:Nat)(a0:VO m)(B:Nat)(p:Pr)(tf:List Pa)(op n:Int)(s:C3)(tc:List Ex)(r:Int×Int)(a1 v0 v1 v:C5)(w:C4)(d:zl 7 op n s tc.length=true)(aO:zx tc m=true)(aR:mH p)(ah:g3 B p tf v0 v1 v w)(D:kW B w a1 tc)
 (q:Nat) (f:Fu) (C:qP p.funcs s=some q) (Q:p.funcs[q]?=some f) (aj:tc.length=f.params.length) (_:tc.length<=8) (aS:qE p tf (.mk 7 op n s tc)=r):
 Cz 120 #[.agg #[v0,v1],v,.agg #[(7:Int),(op:Int),(n:Int),s,a1]] w (Cw (.tuple #[(r.1:Int),(r.2:Int)]) w):=by
 have ae:=U (show qE p tf (.mk 7 op n s tc)=(match qI p tf tc with | .inl e=>(0,e) | .inr l=>jk p tf 7 op s l)by rw[yT,show kO p tf 7 s=true from by simp[kO,C],show xS p 7 s tc.length=true from by simp[xS,jU,C,Q,aj]];rfl);have bS:((tc.length:Int) != (f.params.length:Int))=false:=Ug
 have ay:=U aj;clear aj;have aA:=U (fun l=>show jk p tf 7 op s l=if l=f.params.map (·.type)then(f.type,0)else(0,51)by simp[jk,jU,C,Q]);obtain⟨G,c0,K,c1,_,c2,rfl,rfl,rfl⟩:=ah.form;obtain⟨J,c,rfl,_⟩:=D.form;obtain⟨bK,ak,aX,aY,aZ⟩:=info_parts kY;have T:=U (Dt ak (Dt aX (Dt aY aZ)));have bm:=U (show jy (qP p.funcs s)=(q:Int)by rw[C];rfl);have a8:=U Q;have bV:q<p.funcs.length:=(List.getElem?_eq_some_iff.1 Q).1;clear C Q;obtain⟨_,aV⟩:=C0 ((zv tf s).getD 0);have bf:=U aV;clear aV;obtain⟨_,aW⟩:=C0 ((zv tf s).isSome);have bg:=U aW;clear aW;have b:=U ah;have bd:=U aR;have af:=U aS;have a9:=U aO;have aF:=U D;have a7:=U a0;have aE:=C2 (Cy w ((w.alloc (qQ G p.wa.length c0 K p.funcs.length c1)).alloc (jM 7 op n s J tc.length c))) ((Zb.alloc Zr _).alloc Uh _);have bj:=C2 (((w.alloc (qQ G p.wa.length c0 K p.funcs.length c1)).alloc (jM 7 op n s J tc.length c)).heap[w.heap.size]?=some (qQ G p.wa.length c0 K p.funcs.length c1)) ((D7 _ _ _ Uh).trans (Ds w _));have bk:=C2 (((w.alloc (qQ G p.wa.length c0 K p.funcs.length c1)).alloc (jM 7 op n s J tc.length c)).heap[w.heap.size+1]?=some (jM 7 op n s J tc.length c)) (by simpa using Ds (w.alloc (qQ G p.wa.length c0 K p.funcs.length c1)) (jM 7 op n s J tc.length c));clear ah aR d D aS ak aX aY aZ aO a0;go_enter func120,ntmps120
 go_wp2_with (first
  | (go_at_call 36
     have X:=b.o.below (aE.o.mono b.o.hB)
     (with_reducible refine(jL B p s _ bm.o _ _ _ X.hB X.ha X.hf).mono ?_)
     rintro e E ⟨rfl,z⟩;have Z:=(z.block (w.heap.size+1) Uh).trans bk.o;have Y:=(z.block w.heap.size Ug).trans bj.o;obtain⟨_,_,_,_,_⟩:=qV Z;obtain⟨⟨_,_⟩,_⟩:=zG Y;have bX:w.heap.size+1<E.heap.size:=zB Z;have bW:w.heap.size<E.heap.size:=O
     have bh:=U Y;have bi:=U Z;have ai:Cy w E:=aE.o.trans (z.mono Ug);have a3:=U ai;have H:=U (b.o.below (ai.mono b.o.hB))
     clear z X Z Y ai)
  | (go_at_call 72
     (with_reducible refine(kI B tf s _ _ bf.o bg.o _ _ H.o.hB H.o.hv).mono ?_)
     rintro e w9 ⟨rfl,rfl⟩))
 obtain⟨u,ar,_,_,rfl,_,_,bP,bQ,_,an,bs⟩:=H.o.hf.cells a8.o;obtain⟨a2,bo,rfl,_⟩:=an.form;have be:=U an;have aN:u<E.heap.size:=Jz
 clear an bs
 go_quiet (fail)
 go_wp2_with fail
 go_loopw [11,12] (fun bL iv wr=>∃(j:Nat) (l:List Int),j<=tc.length/\iv=.int .i64 j/\l.length=j/\qI p tf (tc.take j)=.inr l/\wr.ownsRow E.heap.size 3 1 bL j (l.map (Value.int .i64))/\Cy E wr) (fun _ iv _=>tc.length-(intOf iv).toNat)
 case atStart=>exact⟨0,[],Dx _,rfl,rfl,by rw[Yx,qI],Yp _ _ _ _,mU Zb _⟩
 case round=>
  obtain⟨j,l,bx,rfl,bD,aT,am,I⟩:=hrel;obtain⟨av,aI,rfl⟩:=jE am;have bY:=I.size;have ap:Cy w wr:=a3.o.trans (I.mono O);obtain⟨⟨_,_⟩,_⟩:=zG ((I.block w.heap.size O).trans bh.o);obtain⟨_,_,_,_,_⟩:=qV ((I.block (w.heap.size+1) O).trans bi.o);have S:=U I;have N:=U ap;have L:=U am;have V:=U aT;have a4:=U (b.o.below (ap.mono b.o.hB));have bG:w.heap.size<wr.heap.size:=O
  have bH:w.heap.size+1<wr.heap.size:=O
  clear I ap am aT;by_cases al:j<tc.length
  .obtain⟨⟨aa,R,ab,ad,W⟩,P⟩:∃e,tc[j]?=some e:=⟨_,Dz al⟩
   obtain⟨g,o,v',rfl,_,bN,bO,_,_,_,ao⟩:=(aF.o.below (N.o.mono b.o.hB) Zr).cells P;obtain⟨aw,aJ,rfl,_⟩:=ao.form;have a5:=C2 (k1 B wr (.mk aa R ab ad W) (.agg #[(aa:Int),(R:Int),(ab:Int),ad,(aw,W.length,aJ)])) ⟨_,rfl,(aF.o.below (N.o.mono b.o.hB) Zr).range P,ao⟩;have bv:g<wr.heap.size:=by have:=b.o.hB;omega
   obtain⟨⟨t,f⟩,aU⟩:=C0 (qE p tf (.mk aa R ab ad W));have M:=U aU;have bc:=U (qb a9.o P);have az:=U P;clear ao aU P;by_cases aL:f=0
   all_goals(try subst aL)
   all_goals
    go_wp2_with fail
    go_region_held3 (fun w'=>w'.cell? (w.heap.size,0)=some (.slice G p.wa.length c0)/\w'.cell? (w.heap.size,1)=some (.slice (some ⟨u,ar,none⟩) p.funcs.length c1)/\w'.cell? (w.heap.size+1,4)=some (.slice (some ⟨g,o,none⟩) tc.length c)/\w'.cell? (g,o+j*5)=some (.int .i64 aa)/\w'.cell? (g,o+j*5+1)=some (.int .i64 R)/\w'.cell? (g,o+j*5+2)=some (.int .i64 ab)/\w'.cell? (g,o+j*5+3)=some (.string ad)/\w'.cell? (g,o+j*5+4)=some (.slice aw W.length aJ))
     (first
       |(go_split_ands;refine⟨?_,?_,?_,?_,?_,?_,?_,?_⟩ <;>(first|(rw[bA];assumption)|(rw[bJ];assumption)|(rw[bu];assumption)))
       |go_keep)
     (first
       | (go_at_call 120
          (refine(a7.o.call (w:=wr.drew) bc.o bd.o M.o (a4.o.below Zb.drew) (a5.o.below Zb.drew Zr)).mono ?_)
          rintro e F ⟨rfl,z⟩;have A:Cy wr F:=Zb.drew.trans z;have bZ:wr.heap.size<=F.heap.size:=A.size;have bA:∀k,F.cell? ⟨w.heap.size,k,none⟩=wr.cell? ⟨w.heap.size,k,none⟩:=fun k=>A.cell (p:=⟨w.heap.size,k,none⟩) bG
          have bJ:∀k,F.cell? ⟨w.heap.size+1,k,none⟩=wr.cell? ⟨w.heap.size+1,k,none⟩:=fun k=>A.cell (p:=⟨w.heap.size+1,k,none⟩) bH
          have bu:∀k,F.cell? ⟨g,k,none⟩=wr.cell? ⟨g,k,none⟩:=fun k=>A.cell (p:=⟨g,k,none⟩) bv
          have ax:=U A;have aB:=U (qX (zt L.o fun k d=>A.block k (zP L.o k d).2) (.cells #[(t:Int)] 3));have ba:=U (jV F [.int .i64 t] 3)
          clear z A))
   .go_wp2_with (at_builtin;refine wpList_append_own _ rfl (.tmp 97) (.tmp 99) _ rfl E.heap.size 3 bK _ 1 8 underlying23 T.o.1 T.o.2.1 T.o.2.2.1 T.o.2.2.2 rfl O (.slice av j aI) j _ rfl (by exact aB.o) ⟨F.heap.size,0,none⟩ 1 1 [.int .i64 t] rfl rfl (by exact ba.o) Um Ul O Ug ?_
                 intro _ _ aQ aM _;have a6:=U aM;have bb:=U aQ
                 clear aQ aM)
    go_roundw
    case rel=>
     refine⟨j+1,l++[t],O,by go_num,by simp[bD],?_,?_,?_⟩
     .have:=zAb V.o az.o (by rw[M.o])
      rwa [M.o]at this
     .rw[<-oO];exact bb.o
     .exact((S.o.trans (ax.o.mono O)).alloc O _).grown a6.o Ug fun k d=>(zP aB.o k d).1
    case measure=>simp[intOf];omega
   .go_wp2_with fail
    go_ret2
    have a:=ae.o;rw[i2 V.o az.o (by rw[M.o];exact aL),M.o]at a;rw[af.o]at a;subst a;exact⟨rfl,N.o.trans (ax.o.mono O)⟩
  .have bz:j=tc.length:=by omega
   subst bz;have aD:=U (show qI p tf tc=.inr l by have:=V.o;rwa [Ye Zr]at this);clear V bx al;have bR:=U (zt (w':=wr) L.o fun _ _=>rfl);have u1:wr.cell? (u,ar+q*4+1)=some (.int .i64 f.type):=(S.o.cell (p:=⟨u,_,none⟩) aN).trans bP;have u2:wr.cell? (u,ar+q*4+2)=some (.slice a2 f.params.length bo):=(S.o.cell (p:=⟨u,_,none⟩) aN).trans bQ;have bT:u<wr.heap.size:=O
   go_wp2_with fail
   go_loopw [15] (fun iv bM=>∃i nq:Nat,i<=tc.length/\iv=.int .i64 i/\(∀q,q<i->l[q]?=(f.params.map (·.type))[q]?)/\bM=wr.drewN nq) (fun iv _=>tc.length-(intOf iv).toNat)
   case atStart=>exact⟨0,0,Dx _,rfl,fun q C=>absurd C O,rfl⟩
   case round=>
    obtain⟨i,nq,ak,rfl,aP,rfl⟩:=hrel;have aC:=U aP;clear aP;by_cases al:i<tc.length
    .have bF:i<f.params.length:=by have:=ay.o;omega
     obtain⟨x,D⟩:∃e,l[i]?=some e:=⟨_,Dz O⟩
     obtain⟨au,aq⟩:∃e,f.params[i]?=some e:=⟨_,Dz bF⟩
     obtain⟨bq,_,ag,_⟩:∃g c,Value.slice av tc.length aI=.slice (some ⟨g,0,none⟩) tc.length c/\g<wr.heap.size:=by
      rcases L.o.2 with⟨_,_⟩|⟨g,bp,_,bI,_,y,_⟩
      .omega
      .exact⟨g,bp,bI,zB y⟩
     injection ag with ag _ bt;subst ag bt;obtain⟨br,R,rfl,_,bN,bO⟩:=(be.o.below (S.o.mono H.o.hB) Zr).cells aq;have bU:br<wr.heap.size:=Jz
     have Y:wr.cell? (bq,i)=some (.int .i64 x):=(L.o.cellAt i O).trans (by rw[Yn,D];rfl);have aG:=U D;have aH:=U aq;clear D aq;by_cases y:x=au.type
     .have bn:(x != au.type)=false:=by simp[y]
      have bl:=U y;clear y;go_wp2_with fail
      go_quiet (fail)
      go_wp2_with fail;go_roundw
      case rel=>
       refine⟨i+1,_,O,by go_num,fun k d=>?_,rfl⟩;by_cases bC:k=i
       .subst bC
        rw[aG.o,Yn,aH.o,bl.o];rfl
       .exact aC.o k O
      case measure=>simp[intOf];omega
     .have bn:(x != au.type)=true:=by simp[y]
      go_wp2_with fail
      go_quiet (fail)
      go_wp2_with fail
      go_ret2
      have a:=ae.o;rw[aD.o,af.o]at a;dsimp only at a;rw[show jk p tf 7 op s l=(0,51)from by rw[aA.o,Dp (by intro e;apply y;have aK:=aG.o;rw[e,Yn,aH.o]at aK;exact(Ca aK).symm)]]at a;subst a;exact⟨rfl,mU (mU N.o _) _⟩
    .have bw:i=tc.length:=by omega
     subst bw;go_wp2_with fail
     go_ret2
     have a:=ae.o;rw[aD.o,af.o]at a;dsimp only at a;rw[show jk p tf 7 op s l=(f.type,0)from by rw[aA.o,Dq (List.ext_getElem? fun k=>by by_cases d:k<tc.length;exact aC.o k d;rw[List.getElem?_eq_none O,List.getElem?_eq_none (by rw[Yh];have:=ay.o;omega)])]]at a;subst a;exact⟨rfl,mU N.o _⟩
theorem oQ:∀m,VO m
 | 0=>fun _ _ _ e _ _ _ _ _ _ y=>by
   obtain⟨k,op,n,s,tc⟩:=e;rw[kD]at y;simp at y
 | m+1=>fun B p tf e r x v0 v1 v w y i j g E=>by
   obtain⟨k,op,n,s,tc⟩:=e;rw[kD,D2,D2]at y;obtain⟨⟨_,b⟩,d⟩:=y;rw[Yu]at d;obtain⟨u,rfl,_,l⟩:=E;have o:=oQ m;rcases yv b with rfl|rfl|rfl|rfl|rfl|rfl|rfl|rfl
   .exact yN 1 m o B p tf op n s tc r u v0 v1 v w b d i g l Uf rfl rfl (fun e=>absurd e Uf) (fun _=>.inr rfl) Vi j
   .exact yN 2 m o B p tf op n s tc r u v0 v1 v w b d i g l Uf rfl rfl (fun e=>absurd e Uf) (fun _=>.inr rfl) Vi j
   .cases hv:zv tf s with
    |none=>exact DA m o B p tf op n s tc r u v0 v1 v w b d i g l hv Vi j
    |some t=>exact yN 3 m o B p tf op n s tc r u v0 v1 v w b d i g l Uf (by simp[kO,hv]) rfl (fun _=>by rw[hv];rfl) (fun _=>.inr (by simp[jk,hv])) Vi j
   .exact yN 4 m o B p tf op n s tc r u v0 v1 v w b d i g l Uf rfl rfl (fun e=>absurd e Uf) (fun _=>.inl Uf) (by obtain⟨a,rfl⟩:=CQ b;simp) j
   .exact yN 5 m o B p tf op n s tc r u v0 v1 v w b d i g l Uf rfl rfl (fun e=>absurd e Uf) (fun _=>.inl Uf) (by obtain⟨a,c,rfl⟩:=CR b;simp) j
   .have D:tc.length=1:=by obtain⟨a,rfl⟩:=mK b;rfl
    cases hv:zZ p.wa s with
    |none=>exact sX m o B p tf op n s tc r u v0 v1 v w b d i g l hv O j
    |some q=>exact FV m o B p tf op n s tc r u v0 v1 v w b d i g l q hv D O j
   .have z:tc.length<=8:=by simp[zl]at b;exact b.2
    cases hv:qP p.funcs s with
    |none=>exact w5 m o B p tf op n s tc r u v0 v1 v w b d i g l hv z j
    |some q=>
      obtain⟨f,C,_⟩:=xt hv;by_cases A:tc.length=f.params.length
      .exact I2 m o B p tf op n s tc r u v0 v1 v w b d i g l q f hv C A z j
      .exact oP m o B p tf op n s tc r u v0 v1 v w b d i g l q f hv C A z j
   .exact yN 8 m o B p tf op n s tc r u v0 v1 v w b d i g l Uf rfl rfl (fun e=>absurd e Uf) (fun _=>.inr rfl) Vi j
theorem zD{W:C4}{b c d e f i j:C5}(a:W.heap[g]?=some (.cells #[c0,c1,c2,b,c,d,e,f,i,j] T (0,0))):
 (W.cell? (g,0)=some c0/\W.cell? (g,1)=some c1/\W.cell? (g,2)=some c2/\W.cell? (g,3)=some b/\W.cell? (g,4)=some c/\W.cell? (g,5)=some d/\W.cell? (g,6)=some e/\W.cell? (g,7)=some f/\W.cell? (g,8)=some i/\W.cell? (g,9)=some j)/\∀o,W.frozen? ⟨g,o,none⟩=false:=by
 refine⟨⟨(Du a 0).trans rfl,(Du a 1).trans rfl,(Du a 2).trans rfl,(Du a 3).trans rfl,(Du a 4).trans rfl,(Du a 5).trans rfl,(Du a 6).trans rfl,(Du a 7).trans rfl,(Du a 8).trans rfl,(Du a 9).trans rfl⟩,fun o=>?_⟩;simp[World.frozen?,a]
theorem zo{W:C4}(h:W.heap[g]?=some (.cells #[c0,c1,c2] T (0,0))):(W.cell? (g,0)=some c0/\W.cell? (g,1)=some c1/\W.cell? (g,2)=some c2)/\∀o,W.frozen? ⟨g,o,none⟩=false:=
 ⟨⟨(Du h 0).trans rfl,(Du h 1).trans rfl,(Du h 2).trans rfl⟩,fun o=>by simp[World.frozen?,h]⟩
theorem xE{e:TypeId}{m n:Nat}{d:List C5}(f:w.ownsRow B e m v n d)(_:0<n):
 ∃g a,v=.slice (some ⟨g,0,none⟩) n a/\B<=g/\g<w.heap.size/\n<=a/\(∀j u,d[j]?=some u->w.cell? ⟨g,j,none⟩=some u)/\∀o,w.frozen? ⟨g,o,none⟩=false:=by
 rcases f.2 with⟨_,_⟩|⟨g,a,_,rfl,i,c,k,_,_,l⟩
 .omega
 .refine⟨g,a,rfl,i,(Array.getElem?_eq_some_iff.1 c).1,k,fun j u b=>?_,fun o=>by simp[World.frozen?,c]⟩
  rw[Du c];rw[<-l,Y8]at b;split at b
  .simpa using b
  .cases b
theorem R9{α:Type}{f:α->List C5}(a:∀x,(f x).length=2):∀(l:List α) (k:Nat) (x:α),l[k]?=some x->∀j u,(f x)[j]?=some u->(l.flatMap f)[k*2+j]?=some u
 |[],_,_,h,_,_,_=>Xb
 | y::r,0,x,h,j,u,hu=>by
   simp at h;subst h;rw[Y2,Nat.zero_mul,Yz,Yo (List.getElem?_eq_some_iff.1 hu).1];exact hu
 | y::r,k+1,x,h,j,u,hu=>by
   have:=R9 a r k x Xs j u hu;rw[Y2,Yi (by rw[a];omega),a,show(k+1)*2+j-2=k*2+j by omega];exact this
theorem gS.cells{L:Nat}{f:Nat}{d:C5}{q:Int}(e:gS L w f d vs q n):
 ∃g a,d=.slice (some ⟨g,0,none⟩) (vs.length+1) a/\L<=g/\g<w.heap.size/\vs.length+1<=a/\(∀k x,(K5::vs)[k]?=some x->w.cell? ⟨g,k*2,none⟩=some (.string x.1)/\w.cell? ⟨g,k*2+1,none⟩=some (.int .i64 x.2))/\∀o,w.frozen? ⟨g,o,none⟩=false:=by
 obtain⟨g,a,i,j,l,m,b,p⟩:=xE e.row (Ce _);exact⟨g,a,i,j,l,m,fun k x c=>⟨b _ _ (R9 (fun _=>rfl) _ k x c 0 _ rfl),b _ _ (R9 (fun _=>rfl) _ k x c 1 _ rfl)⟩,p⟩
theorem zk(a:fQ c w vo s)(b:Bool)(d:(s.spent || decide (s.stat≠0))=b):
 Cz 37 #[(c.b,0)] w (Cx b w):=by
 obtain⟨_,_,i⟩:=a.box;obtain⟨⟨_,_,_,_,_,_,_,_,_,j⟩,_⟩:=zD i;have m:=a.lt;obtain⟨g,e⟩:∃x:Bool,decide (s.stat≠0)=x:=⟨_,rfl⟩
 have n:(s.stat != 0)=g:=by rw[<-e];by_cases a:s.stat=0<;>simp[a]
 rw[e]at d;have f:=U d;obtain⟨l,k⟩:∃x:Bool,s.spent=x:=⟨_,rfl⟩
 rw[k]at j f;clear d e i a;go_enter func37,ntmps37;cases l<;>cases g
 all_goals go_wp2_with fail
 all_goals go_ret
 all_goals exact⟨zC f.o,rfl⟩
def SA(c:gK)(vo:C5)(s:RS)(w:C4)(e:Ending)(w':C4):Prop:=e=.returned (.bool (decide (0<s.fuel)))/\fQ c w' vo (zj s).st/\fF (fun k=>k=c.b) w w'
theorem A0(f:fQ c w vo s)(n:s.spent=false)(p:s.stat=0):
 Cz 121 #[(c.b,0)] w (SA c vo s w):=by
 obtain⟨_,m,j⟩:=f.box;obtain⟨⟨_,_,_,_,_,_,_,_,_,_⟩,_⟩:=zD j;have u:=f.lt;have a:=U f;have l:=U m;have g:=U j;obtain⟨_,_,out,i,d,_,_⟩:=s;dsimp only at n p;subst n p;clear f m j;go_enter func121,ntmps121;rcases d with _|d
 .go_wp2_with (go_at_call 37;(with_reducible refine(zk a.o false rfl).mono ?_);rintro e q ⟨rfl,rfl⟩)
  go_ret;exact⟨rfl,a.o.set g.o 9 (.bool true) (D3 g.o _) l.o a.o.inn rfl rfl Zr a.o.fc,fF.set (X:=fun k=>k=c.b) w rfl 9 _⟩
 .have r:i+(d+1)<=1000000000:=a.o.fc
  have t:d<=1000000000:=O
  have e:((d+1 :Nat):Int)-1=(d:Int):=O
  go_wp2_with (go_at_call 37;(with_reducible refine(zk a.o false rfl).mono ?_);rintro e q ⟨rfl,rfl⟩);go_ret;exact⟨Uh,a.o.set g.o 8 _ (D3 g.o _) l.o a.o.inn rfl rfl Zr (by have f:i+(d+1)<=1000000000:=a.o.fc;show i+d<=_;omega),fF.set (X:=fun k=>k=c.b) w rfl 8 _⟩
def XK:Option Nat->Nat
 |none=>0
 |some k=>k+1
def VQ(l:fG)(s:C3)(k:Nat):Prop:=∀(i:Nat) x,k<=i->l[i]?=some x->x.1≠s
theorem oR{s:C3}:∀{l:fG},(∀(i:Nat) x,l[i]?=some x->x.1≠s)->jc l s=none
 |[],_=>rfl
 | y::r,h=>by
   rw[jc,oR (l:=r) fun i x a=>h (i+1) x Ur];exact Dp (h 0 y rfl)
theorem A6{s:C3}:∀{l:fG}{k:Nat}{x:C3×Int},VQ l s (k+1)->l[k]?=some x->x.1=s->jc l s=some k
 |[],_,_,_,hk,_=>by simp at hk
 | y::r,0,x,h,hk,e=>by
   simp at hk;subst hk;rw[jc,oR (l:=r) fun i z a=>h (i+1) z O Ur];exact Dq e
 | y::r,k+1,x,h,hk,e=>by
   rw[jc,A6 (l:=r) (k:=k) (fun i z _ a=>h (i+1) z O Ur) (by simpa using hk) e]
theorem VQ.start(l:fG)(s:C3):VQ l s l.length:=fun i x _ a=>Xd
theorem VQ.step{l:fG}{s:C3}{x:C3×Int}(b:VQ l s (k+1))(d:l[k]?=some x)(e:x.1≠s):VQ l s k:=fun i z _ a=>by
 by_cases c:i=k
 .subst c
  rw[d]at a;injection a with a;exact a▸e
 .exact b i z O a
theorem VQ.none{l:fG}{s:C3}(a:VQ l s 0):jc l s=Option.none:=oR fun i x b=>a i x (Dx _) b
theorem FW{L:Nat}{f:Nat}{u:C5}{t:Int}(a:gS L w f u vs t n)(s:C3)(z:Nat)(p:XK (jc vs s)=z)(_:vs.length<=281474976710656):
 Cz 124 #[(f,0),s] w (Cx ((z:Int):Int) w):=by
 obtain⟨g,_,rfl,_,_,_,l,_⟩:=a.cells;obtain⟨⟨_,_,_⟩,_⟩:=zo a.box;have v:=a.lt;have q:=U l;have j:=U p;clear a l p;go_enter func124,ntmps124;go_wp2_with fail
 go_loopw [5] (fun iv wr=>∃k:Nat,k<=vs.length/\iv=.int .i64 (k:Int)/\VQ vs s k/\wr=w) (fun iv _=>(intOf iv).toNat)
 case atStart=>exact⟨vs.length,D0 _,by go_num,VQ.start _ _,rfl⟩
 case round=>
  obtain⟨k,_,rfl,m,rfl⟩:=hrel;have c:=U m;clear m;rcases k with _|k
  .go_wp2_with fail
   go_ret;exact⟨by rw[<-j.o,c.o.none];rfl,rfl⟩
  .obtain⟨x,d⟩:∃e,vs[k]?=some e:=⟨_,Dz O⟩
   obtain⟨_,_⟩:=q.o (k+1) x Uz;have i:=U d;clear d;by_cases b:x.1=s
   .have r:=vO b
    go_wp2_with fail;go_ret;exact⟨by rw[<-j.o,A6 c.o i.o b];rfl,rfl⟩
   .have r:=vP b
    go_wp2_with fail;go_roundw
    case rel=>exact⟨k,O,by go_num,c.o.step i.o b,trivial⟩
    case measure=>simp[intOf]
open Go.RowKit (wrap64 wrap32)
def fS.app(q:List Int):fS (List Int)->fS (List Int)
 |.ok l s=>.ok (q++l) s
 |.fin s=>.fin s
theorem XL(x:fS (List Int)):fS.app [] x=x:=Vc
theorem SB{f:Ex->RS->fS Int}{r:List Ex}{t:RS}(h:f e s=.ok a t)(q:List Int):fS.app q (i0 f (e::r) s)=fS.app (q++[a]) (i0 f r t):=by
 rw[i0,h];show fS.app q ((i0 f r t).bind fun l s=>.ok (a::l) s)=_;cases i0 f r t with
 |fin u=>rfl
 |ok l u=>show fS.ok (q++(a::l)) u=fS.ok (q++[a]++l) u;simp
theorem FX{f:Ex->RS->fS Int}{r:List Ex}{t:RS}(h:f e s=.fin t)(q:List Int):fS.app q (i0 f (e::r) s)=.fin t:=by
 rw[i0,h];rfl
theorem K6(f:Ex->RS->fS Int)(s:RS)(q:List Int):fS.app q (i0 f [] s)=.ok q s:=by show fS.ok (q++[]) s=_;rw[Yd]
theorem NS{f:fG->St->RS->fS xy}{t:St}{a:fG}(b:f vs t s=.ok (0,n,a) u):kH f vs (t::r) s=kH f a r u:=by
 rw[kH,b];rfl
theorem NT{f:fG->St->RS->fS xy}{t:St}{a:xy}(e:f vs t s=.ok a u)(b:a.1≠0):kH f vs (t::r) s=.ok a u:=by
 rw[kH,e];show(if a.1=0 then _ else _)=_;rw[Dp b]
theorem NU{f:fG->St->RS->fS xy}{t:St}(e:f vs t s=.fin u):kH f vs (t::r) s=.fin u:=by
 rw[kH,e];rfl
theorem A7(p:Pr)(g:Nat)(vs:fG)(x:Ex)(h:s.fuel=0):f0 p (g+1) vs x s=.fin (zj s).st:=by
 obtain⟨k,op,n,td,tc⟩:=x;obtain⟨_,_,out,_,_,_,_⟩:=s;cases h;rw[f0];rfl
def xK(p:Pr)(g:Nat)(f:Fu)(l:List Int)(s:RS):fS Int:=(qG (qn p g) (fN f l) f.body s).bind fun h s=>.ok h.2.1 s
theorem SC(p:Pr)(g:Nat)(vs:fG)(op n:Int)(td:C3)(tc:List Ex)(c:0<s.fuel)(d:op=18\/op=19):
 f0 p (g+1) vs (.mk 5 op n td tc) s=(f0 p g vs (tc.getD 0 j8) (zj s).st).bind fun a s=>if decide (a≠0)=decide (op=19)then .ok a s else f0 p g vs (tc.getD 1 j8) s:=by
 obtain⟨_,_,out,_,b,_,_⟩:=s;obtain⟨f,rfl⟩:∃f,b=f+1:=⟨b-1,by dsimp only at c;omega⟩
 rw[f0];show(if _ then _ else _)=_;rw[Dq ⟨rfl,d⟩];rfl
theorem FY(p:Pr)(g:Nat)(vs:fG)(k op n:Int)(td:C3)(tc:List Ex)(b:0<s.fuel)(c:¬(k=5/\(op=18\/op=19))):
 f0 p (g+1) vs (.mk k op n td tc) s=(i0 (f0 p g vs) tc (zj s).st).bind fun l s=>qR p (xK p g) vs k op n td l s:=by
 obtain⟨_,_,out,_,a,_,_⟩:=s;obtain⟨f,rfl⟩:∃f,a=f+1:=⟨a-1,by dsimp only at b;omega⟩
 rw[f0];show(if _ then _ else _)=_;rw[Dp c];rfl
theorem vT(p:Pr)(c:Fu->List Int->RS->fS Int)(vs:fG){k:Int}(op n:Int)(td:C3)(l:List Int)(s:RS)(h:k=1\/k=2):qR p c vs k op n td l s=.ok n s:=by unfold qR;rw[Dq h]
theorem sY(p:Pr)(c:Fu->List Int->RS->fS Int)(vs:fG)(op n:Int)(td:C3)(l:List Int)(s:RS):qR p c vs 3 op n td l s=.ok (pF vs td) s:=by unfold qR;rw[Dp Uf,Dq rfl]
theorem sZ(p:Pr)(c:Fu->List Int->RS->fS Int)(vs:fG)(op n:Int)(td:C3)(l:List Int)(s:RS):qR p c vs 4 op n td l s=.ok (rV op (l.getD 0 0)) (zV s):=by unfold qR;rw[Dp Uf,Dp Uf,Dq rfl]
theorem s0(p:Pr)(c:Fu->List Int->RS->fS Int)(vs:fG)(op n:Int)(td:C3)(l:List Int)(s:RS):qR p c vs 5 op n td l s=if ur op (l.getD 1 0)then .ok (uH op (l.getD 0 0) (l.getD 1 0)) (zV s)else .fin (kR (zV s) 2):=by unfold qR;rw[Dp Uf,Dp Uf,Dp Uf,Dq rfl]
theorem lQ(p:Pr)(c:Fu->List Int->RS->fS Int)(vs:fG)(op n:Int)(td:C3)(l:List Int)(s:RS):qR p c vs 6 op n td l s=pG p td (l.getD 0 0) (zV s):=by unfold qR;rw[Dp Uf,Dp Uf,Dp Uf,Dp Uf,Dq rfl]
theorem s3(p:Pr)(c:Fu->List Int->RS->fS Int)(vs:fG)(op n:Int)(td:C3)(l:List Int)(s:RS){f:Fu}(a:jU p td=some f):qR p c vs 7 op n td l s=c f l (zV s):=by unfold qR;rw[Dp Uf,Dp Uf,Dp Uf,Dp Uf,Dp Uf,Dq rfl,a]
theorem iB(p:Pr)(c:Fu->List Int->RS->fS Int)(vs:fG)(op n:Int)(td:C3)(l:List Int)(s:RS):qR p c vs 8 op n td l s=vN (zV s):=by unfold qR;rw[Dp Uf,Dp Uf,Dp Uf,Dp Uf,Dp Uf,Dp Uf]
theorem s6{td:C3}{i:Int}(a:zZ p.wa td=some k)(b:s.arr[k]?=some l):pG p td i s=if 0<=i/\i<l.length then .ok (l.getD i.toNat 0) s else .fin (kR s 3):=by
 unfold pG;rw[a];dsimp only;rw[b]
theorem iC(h:0<s.fuel):(zj s).st={ s with fuel:=s.fuel-1 }:=by
 obtain⟨_,_,out,_,fuel,_,_⟩:=s;obtain⟨f,rfl⟩:∃f,fuel=f+1:=⟨fuel-1,by dsimp only at h;omega⟩
 rfl
theorem iD(h:s.fuel=0):(zj s).st={ s with spent:=true }:=by
 obtain⟨_,_,out,_,_,_,spent⟩:=s;cases h;rfl
theorem ZQ(h:fT n):(Lit.int .i64 n).wf=true:=by
 obtain⟨_,_⟩:=h;simp[Lit.wf,IntKind.min,IntKind.max,IntKind.signed,IntKind.bits];omega
theorem SD(h:(Lit.int .i64 n).wf=true):fT n:=by
 simp[Lit.wf,IntKind.min,IntKind.max,IntKind.signed,IntKind.bits]at h;exact⟨O,O⟩
theorem XM(b:Bool):fT (MD b):=by cases b<;>exact⟨Uf,Uf⟩
theorem yO(n:Int):fT (wrap64 n):=by unfold wrap64 fT;omega
theorem DB(op:BinOp)(x y:Int):fT (bits op .i64 x y):=SD (wf_bits op .i64 x y)
theorem K7(op:Int)(h:fT a):fT (rV op a):=by
 obtain⟨_,_⟩:=h;unfold rV
 repeat' split
 .exact yO _
 .exact⟨O,O⟩
 .exact⟨Uf,Uf⟩
 .exact⟨Uf,Uf⟩
 .have:=ZJ a;exact⟨O,O⟩
 .have:=QO a;exact⟨O,O⟩
 .exact⟨Ju,Ju⟩
 .exact⟨O,O⟩
 .exact⟨O,O⟩
 .exact⟨O,O⟩
 .exact⟨Uf,Uf⟩
theorem zah(c:fT a)(n:Int)(b:0<n):fT (a / n):=by
 obtain⟨_,e⟩:=c;refine⟨?_,?_⟩
 .rw[Int.le_ediv_iff_mul_le b]
  have: -9223372036854775808*n<=-9223372036854775808*1:=Int.mul_le_mul_of_nonpos_left Uf O;omega
 .by_cases d:0<=a
  .exact Int.le_trans (Int.ediv_le_self n d) e
  .have:a / n<0:=Int.ediv_neg_of_neg_of_pos O b
   omega
theorem DC(op:Int)(b:Int)(c:fT a):fT (uH op a b):=by
 have d:fT 0:=⟨Uf,Uf⟩
 unfold uH
 repeat' split
 .exact yO _
 .exact yO _
 .exact yO _
 .unfold Z7
  repeat' split
  .exact d
  .exact yO _
  .obtain⟨_,_⟩:=c
   by_cases g:0<=a
   .have i:=Int.tmod_nonneg b g
    have j:a.tmod b<=a:=by
     have:=Int.natAbs_tmod a b;have e:a.natAbs % b.natAbs<=a.natAbs:=Nat.mod_le _ _;omega
    exact⟨O,O⟩
   .have:=Int.natAbs_tmod a b
    have e:a.natAbs % b.natAbs<=a.natAbs:=Nat.mod_le _ _;have f:=Int.tmod_nonneg b (show 0<=-a by omega);rw[Int.neg_tmod]at f;exact⟨O,O⟩
 .exact DB _ _ _
 .exact DB _ _ _
 .exact DB _ _ _
 .unfold sft
  repeat' split
  .exact yO _
  .exact zah c _ (Int.pow_pos Uf)
  .exact yO _
 .exact XM _
 .exact d
end Go.Proofs.YthcmenajdcbnnaaGreatDoor
namespace Go.Proofs.YthcmenajdcbnnaaGreatDoor
open Go.RowKit Tryz
variable{B k g:Nat}{p:Pr}{v0 v1 v c0 c1 c2 vo:C5}{w:C4}{e:Ex}{a t n:Int}{l:List Int}{s u:RS}{T:TypeId}{vs:fG}{c:gK}{r:List St}
theorem ZR{α:Type}{f:α->C5}:∀(l:List α) (k:Nat) (x:α),l[k]?=some x->(l.map f)[k]?=some (f x):=fun l k x h=>by rw[Yn,h];rfl
theorem fQ.arrs(i:fQ c w vo s)(m:c.rows[k]?=some g)(d:s.arr[k]?=some l):
 ∃a b,c.vr=.slice (some ⟨a,0,none⟩) s.arr.length b/\a<w.heap.size/\w.cell? ⟨a,k,none⟩=some (.slice (some ⟨g,0,none⟩) l.length l.length)/\g<w.heap.size/\(∀j n,l[j]?=some n->w.cell? ⟨g,j,none⟩=some (.int .i64 n))/\∀o,w.frozen? ⟨g,o,none⟩=false:=by
 have u:=(List.getElem?_eq_some_iff.1 d).1;obtain⟨a,b,p,_,q,_,r,_⟩:=xE i.row O;have e:=i.arr k g l m d;refine⟨a,b,p,q,r k _ (ZR (f:=AY) _ k (g,l) ?_),zB e,fun j n t=>?_,fun o=>by simp[World.frozen?,e]⟩
 .rw[Cr]
  exact⟨m,d⟩
 .rw[Du e]
  simp[t]
def SE(c:gK)(vo:C5)(s:RS)(n:Int)(m:Nat)(w:C4)(e:Ending)(w':C4):Prop:=
 e=.returned (.bool (decide (0<=n/\n<(m:Int))))/\fQ c w' vo (if 0<=n/\n<(m:Int)then s else kR s 3)/\fF (fun k=>k=c.b) w w'
theorem A8(f:fQ c w vo s)(td:C3)(n:Int)(C:zZ c.p.wa td=some k)(m:s.arr[k]?=some l):
 Cz 125 #[(c.b,0),td,(n:Int)] w (SE c vo s n l.length w):=by
 have Z:=(List.getElem?_eq_some_iff.1 m).1;have af:=f.num;have ag:=(f.arn l (Yc m)).2;obtain⟨_,Y,D⟩:=f.box;obtain⟨⟨J,K,L,M,N,P,Q,R,S,T⟩,V⟩:=zD D;have ah:=f.lt;have y:jy (zZ c.p.wa td)=(k:Int):=by rw[C];rfl
 obtain⟨g,z⟩:∃g,c.rows[k]?=some g:=⟨_,Dz (by rw[f.len];exact Z)⟩
 have i:=U f;have I:=U y;have H:=U m;have G:=U z;clear D f Y C y m z;go_enter func125,ntmps125
 go_upto_region 2 with(go_at_call 99
                       (with_reducible refine(kh c.B c.p td _ I.o _ _ _ (by have:=i.o.ord;omega) i.o.pa i.o.pf).mono ?_)
                       rintro e E ⟨rfl,r⟩;have a:=U (i.o.we r);have F:=U r
                       clear r)
 obtain⟨_,A,u⟩:=a.o.box;obtain⟨⟨_,_,_,W,_,_,_,_,_,_⟩,_⟩:=zD u;obtain⟨_,_,t,_,_,_,aa,ab⟩:=a.o.arrs G.o H.o;rw[t]at W;have x:=U A;have j:=U u;have ad:=U t;have ai:=a.o.lt;have q:=U (fF.wb (fun k=>k=c.b) F.o);clear A u aa ab t J K L M N P Q R S T V;by_cases ae:n<0
 .go_wp2_with fail
  exact Im
 .by_cases aj:n<(l.length:Int)
  .go_wp2_with fail
   go_ret;have d:0<=n/\n<(l.length:Int):=O
   refine⟨zC (by rw[decide_eq_true d]),?_,q.o⟩;rw[Dq d];exact a.o
  .go_wp2_with fail
   exact Im
