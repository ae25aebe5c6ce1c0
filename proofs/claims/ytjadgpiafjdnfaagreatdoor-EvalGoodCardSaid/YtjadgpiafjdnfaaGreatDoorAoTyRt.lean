import Derived.Test.YtjadgpiafjdnfaaGreatDoorAoParBlk
set_option linter.unusedSimpArgs false
set_option linter.unusedVariables false
set_option maxRecDepth 100000
set_option maxHeartbeats 99000000
namespace Go.Proofs.YtjadgpiafjdnfaaGreatDoor
open Go.RowKit Tryz
theorem Ik{p:Prop}(h:p:=by
 go_wp2_with fail
 go_quiet (fail)
 go_wp2_with fail
 go_ret2
 have b:=C.o;rw[M.o,D.o]at b;dsimp only at b;rw[hZ Us,V.o,rI N.o (by rw[P.o];intro H;exact E H.2),Dp Us]at b;subst b
 exact⟨rfl,mW (mW u.o _) _⟩):p:=h
theorem Il{p:Prop}(h:p:=by
 go_ret;have d:¬(0<=n/\n<(l.length:Int)):=O
 refine⟨zC (by rw[decide_eq_false d]),?_,q.o.trans (fF.set (X:=fun k=>k=c.b) E rfl 4 _) fun _ _ v=>v⟩;rw[Dp d]
 exact a.o.set j.o 4 (.int .i64 3) (D4 j.o _) x.o a.o.inn rfl rfl Zr a.o.fc):p:=h
variable{B k g:Nat}{p:Pr}{v0 v1 v c0 c1 c2 vo:C8}{w:C7}{e:Ex}{a t n:Int}{l:List Int}{s u:RS}{T:TypeId}{vs:fG}{c:gK}{r:List St}
structure g3 (B:Nat) (p:Pr) (vars:List Pa) (v0 v1 v:C8) (w:C7):Prop where
 hB:B<=w.heap.size
 ha:gN B w v0 p.wa
 hf:gO B w v1 p.funcs
 hv:gU B w v vars
theorem g3.below{tf:List Pa}{w':C7}(a:g3 B p tf v0 v1 v w)(b:Below B w w'):g3 B p tf v0 v1 v w' where
 hB:=Dw a.hB b.size
 ha:=a.ha.below b Zr
 hf:=a.hf.below b Zr
 hv:=a.hv.below b Zr
theorem g3.form{tf:List Pa}(d:g3 B p tf v0 v1 v w):∃a c0 b c1 c c2,v0=.slice a p.wa.length c0/\v1=.slice b p.funcs.length c1/\v=.slice c tf.length c2:=by
 obtain⟨a,c0,e,_⟩:=d.ha.form;obtain⟨b,c1,f,_⟩:=d.hf.form;obtain⟨c,c2,g,_⟩:=d.hv.form;exact⟨a,c0,b,c1,c,c2,e,f,g⟩
def WH(m:Nat):Prop:=∀(B:Nat) (p:Pr) (tf:List Pa) (e:Ex) (r:Int×Int) (x v0 v1 v:C8) (w:C7),yE e m=true->mJ p->qF p tf e=r->g3 B p tf v0 v1 v w->k2 B w e x->
 C3 92 #[.agg #[v0,v1],v,x] w (Cz (.tuple #[(r.1:Int),(r.2:Int)]) w)
theorem WH.call{m:Nat}(a:WH m){tf:List Pa}{r:Int×Int}{x:C8}(b:yE e m=true)(c:mJ p)(d:qF p tf e=r)(f:g3 B p tf v0 v1 v w)(g:k2 B w e x):
 C3 92 #[.agg #[v0,v1],v,x] w (Cz (.tuple #[(r.1:Int),(r.2:Int)]) w):=a B p tf e r x v0 v1 v w b c d f g
theorem jL(B:Nat)(p:Pr)(s:C6)(z:Int)(d:jy (qQ p.funcs s)=z)(v0 v1:C8)(w:C7)(a:B<=w.heap.size)(b:gN B w v0 p.wa)(c:gO B w v1 p.funcs):
 C3 20 #[.agg #[v0,v1],s] w (Cz (z:Int) w):=d▸IQ B p s v0 v1 w a b c
theorem ki(B:Nat)(p:Pr)(s:C6)(z:Int)(d:jy (zb p.wa s)=z)(v0 v1:C8)(w:C7)(a:B<=w.heap.size)(b:gN B w v0 p.wa)(c:gO B w v1 p.funcs):
 C3 70 #[.agg #[v0,v1],s] w (Cz (z:Int) w):=d▸IR B p s v0 v1 w a b c
theorem kI(B:Nat)(l:List Pa)(s:C6)(t:Int)(b:Bool)(e:(zw l s).getD 0=t)(c:(zw l s).isSome=b)(v:C8)(w:C7)(a:B<=w.heap.size)(d:gU B w v l):
 C3 37 #[v,s] w (C0 (.tuple #[(t:Int),.bool b]) w):=e▸c▸NJ B l s v w a d
theorem mW{a:C7}(h:Below B a w)(n:Nat):Below B a (w.drewN n):=h.trans ⟨rfl,rfl,rfl,Dz _,fun _ _=>rfl⟩
def WI(a:Int)(l:List Int)(j:Nat):Prop:=∀(i:Nat) t,i<j->l[i]?=some t->(a=0\/t=a)/\t=l.headD 0
theorem WI.zero(a:Int)(l:List Int):WI a l 0:=fun i t b=>absurd b O
theorem WI.succ{j:Nat}(c:WI a l j)(f:l[j]?=some t)(e:(a=0\/t=a)/\t=l.headD 0):WI a l (j+1):=fun i x _ b=>by
 by_cases d:i=j
 .subst d
  rw[f]at b;injection b with b;exact b▸e
 .exact c i x O b
theorem WI.all(c:WI a l l.length):(l.all fun t=>decide ((a=0\/t=a)/\t=l.headD 0))=true:=by
 rw[Y9];intro t d;obtain⟨i,b⟩:=List.getElem?_of_mem d;exact decide_eq_true (c i t (List.getElem?_eq_some_iff.1 b).1 b)
theorem rI{i:Nat}(c:l[i]?=some t)(b:¬((a=0\/t=a)/\t=l.headD 0)):(l.all fun t=>decide ((a=0\/t=a)/\t=l.headD 0))=false:=by
 rw[List.all_eq_false];exact⟨t,Yc c,Xb⟩
theorem hZ{tf:List Pa}{k op:Int}{s:C6}(h:k=4\/k=5):jk p tf k op s l=if(l.all fun t=>decide ((jZ op=0\/t=jZ op)/\t=l.headD 0))=true then(vR op,0)else(0,51):=by
 unfold jk;rw[Dp O,Dp O,Dp O,Dp O,Dq h]
theorem BA{tf:List Pa}{op:Int}{s:C6}:jk p tf 6 op s l=if l.headD 0=1 then(1,0)else(0,51):=by
 unfold jk;rw[Dp Us,Dp Us,Dp Us,Dq rfl]
theorem oM:l.map (Value.int .i64)++[Value.int .i64 t]=(l++[t]).map (Value.int .i64):=Uu
abbrev jM(k op n:Int)(s:C6)(A:Option Addr)(m c:Nat):Obj:=.cells #[(k:Int),(op:Int),(n:Int),s,(A,m,c)] 152
theorem qV{b c:C8}(a:w.heap[g]?=some (.cells #[c0,c1,c2,b,c] T (0,0))):w.cell? (g,0)=some c0/\w.cell? (g,1)=some c1/\w.cell? (g,2)=some c2/\w.cell? (g,3)=some b/\w.cell? (g,4)=some c:=
 ⟨(Dv a 0).trans rfl,(Dv a 1).trans rfl,(Dv a 2).trans rfl,(Dv a 3).trans rfl,(Dv a 4).trans rfl⟩
theorem yS(d:Int)(m:Nat)(a7:WH m)(B:Nat)(p:Pr)(tf:List Pa)(op n:Int)(s:C6)(tc:List Ex)(r:Int×Int)(a8 v0 v1 v:C8)(w:C7)(Y:zm d op n s tc.length=true)(aT:zy tc m=true)(aW:mJ p)(an:g3 B p tf v0 v1 v w)(A:kW B w a8 tc)
 (bC:d=4\/d=5\/d=1\/d=2\/d=3\/d=8) (aO:kO p tf d s=true) (hF:xS p d s tc.length=true) (a1:d=3->(zw tf s).isSome=true) (aP:∀l,(d=4\/d=5)\/jk p tf d op s l=(if d=2 then 2 else if d=3 then(zw tf s).getD 0 else 1,0)) (_:tc.length<=8) (aX:qF p tf (.mk d op n s tc)=r):
 C3 92 #[.agg #[v0,v1],v,.agg #[(d:Int),(op:Int),(n:Int),s,a8]] w (Cz (.tuple #[(r.1:Int),(r.2:Int)]) w):=by
 have C:=U (show qF p tf (.mk d op n s tc)=(match qJ p tf tc with | .inl e=>(0,e) | .inr l=>jk p tf d op s l)by rw[yY,aO,hF];rfl);obtain⟨J,c0,K,c1,_,c2,rfl,rfl,rfl⟩:=an.form;obtain⟨T,c,rfl,_⟩:=A.form;obtain⟨bI,ar,a3,a4,a5⟩:=info_parts kY;have aa:=U (Dt ar (Dt a3 (Dt a4 a5)));obtain⟨z,a6⟩:=C4 (jy (qQ p.funcs s));have bq:=U a6;clear a6;obtain⟨_,a0⟩:=C4 ((zw tf s).getD 0);have aG:=U a0;clear a0;obtain⟨bK,a2⟩:=C4 ((zw tf s).isSome);have aH:=U a2;clear a2;have bl:=C5 (d=3->bK=true) (fun e=>aH.o.symm.trans (a1 e));have bh:=U aP;clear aO hF a1 aP;have q:=U an;have bk:=U aW;have D:=U aX;have bf:=U aT;have aJ:=U A;have be:=U a7;have aI:=C5 (C2 w ((w.alloc (qd J p.wa.length c0 K p.funcs.length c1)).alloc (jM d op n s T tc.length c))) ((Zb.alloc Zr _).alloc Uu _);have bo:=C5 (((w.alloc (qd J p.wa.length c0 K p.funcs.length c1)).alloc (jM d op n s T tc.length c)).heap[w.heap.size]?=some (qd J p.wa.length c0 K p.funcs.length c1)) ((D7 _ _ _ Uu).trans (Ds w _));have bp:=C5 (((w.alloc (qd J p.wa.length c0 K p.funcs.length c1)).alloc (jM d op n s T tc.length c)).heap[w.heap.size+1]?=some (jM d op n s T tc.length c)) (by simpa using Ds (w.alloc (qd J p.wa.length c0 K p.funcs.length c1)) (jM d op n s T tc.length c));clear an aW Y A aX ar a3 a4 a5 aT a7;rcases bC with rfl|rfl|rfl|rfl|rfl|rfl
 all_goals(try(obtain rfl:=bl.o rfl))
 all_goals
  go_enter func92,ntmps92
  go_wp2_with (first
   | (go_at_call 20
      have ae:=q.o.below (aI.o.mono q.o.hB)
      (with_reducible refine(jL B p s _ bq.o _ _ _ ae.hB ae.ha ae.hf).mono ?_)
      rintro e S ⟨rfl,F⟩;have Z:=(F.block (w.heap.size+1) Uu).trans bp.o;have af:=(F.block w.heap.size Ut).trans bo.o;obtain⟨_,_,_,_,_⟩:=qV Z;obtain⟨⟨_,_⟩,_⟩:=zG af;have bP:w.heap.size+1<S.heap.size:=zB Z;have bO:w.heap.size<S.heap.size:=O;have bm:=U af;have bn:=U Z;have ap:C2 w S:=aI.o.trans (F.mono Ut);have a9:=U ap;have aD:=U (q.o.below (ap.mono q.o.hB))
      clear F ae Z af ap)
   | (go_at_call 37
      (with_reducible refine(kI B tf s _ _ aG.o aH.o _ _ aD.o.hB aD.o.hv).mono ?_)
      rintro e w9 ⟨rfl,rfl⟩))
  go_quiet (fail)
  go_wp2_with fail
  go_loopw [11,12] (fun bJ iv wr=>∃(j:Nat) (l:List Int),j<=tc.length/\iv=.int .i64 j/\l.length=j/\qJ p tf (tc.take j)=.inr l/\wr.ownsRow S.heap.size 3 1 bJ j (l.map (Value.int .i64))/\C2 S wr) (fun _ iv _=>tc.length-(intOf iv).toNat)
  case atStart=>exact⟨0,[],D1 _,rfl,rfl,by rw[Yx,qJ],Yp _ _ _ _,mW Zb _⟩
  case round=>
   obtain⟨j,l,bx,rfl,aS,aY,av,R⟩:=hrel;obtain⟨aA,aK,rfl⟩:=jE av;have bQ:=R.size;have ax:C2 w wr:=a9.o.trans (R.mono O);obtain⟨⟨_,_⟩,_⟩:=zG ((R.block w.heap.size O).trans bm.o);obtain⟨_,_,_,_,_⟩:=qV ((R.block (w.heap.size+1) O).trans bn.o);have ba:=U R;have u:=U ax;have L:=U av;have ab:=U aY;have bb:=U (q.o.below (ax.mono q.o.hB));have bD:w.heap.size<wr.heap.size:=O
   have bF:w.heap.size+1<wr.heap.size:=O
   clear R ax av aY;by_cases au:j<tc.length
   .obtain⟨⟨ag,ai,ah,aj,ad⟩,X⟩:∃e,tc[j]?=some e:=⟨_,D2 au⟩
    obtain⟨g,o,v',rfl,_,_,_,_,_,_,aw⟩:=(aJ.o.below (u.o.mono q.o.hB) Zr).cells X;obtain⟨aB,aL,rfl,_⟩:=aw.form;have bc:=C5 (k2 B wr (.mk ag ai ah aj ad) (.agg #[(ag:Int),(ai:Int),(ah:Int),aj,(aB,ad.length,aL)])) ⟨_,rfl,(aJ.o.below (u.o.mono q.o.hB) Zr).range X,aw⟩;have bv:g<wr.heap.size:=(by have:=q.o.hB;omega);obtain⟨⟨t,f⟩,aZ⟩:=C4 (qF p tf (.mk ag ai ah aj ad));have W:=U aZ;have bj:=U (qb bf.o X);have aE:=U X;clear aw aZ X;by_cases aQ:f=0
    all_goals(try subst aQ)
    all_goals
     go_wp2_with fail
     go_region_held3 (fun w'=>w'.cell? (w.heap.size,0)=some (.slice J p.wa.length c0)/\w'.cell? (w.heap.size,1)=some (.slice K p.funcs.length c1)/\w'.cell? (w.heap.size+1,4)=some (.slice (some ⟨g,o,none⟩) tc.length c)/\w'.cell? (g,o+j*5)=some (.int .i64 ag)/\w'.cell? (g,o+j*5+1)=some (.int .i64 ai)/\w'.cell? (g,o+j*5+2)=some (.int .i64 ah)/\w'.cell? (g,o+j*5+3)=some (.string aj)/\w'.cell? (g,o+j*5+4)=some (.slice aB ad.length aL))
      (first
        |(go_split_ands;refine⟨?_,?_,?_,?_,?_,?_,?_,?_⟩ <;>(first|(rw[bA];assumption)|(rw[bH];assumption)|(rw[bu];assumption)))
        |go_keep)
      (first
        | (go_at_call 92
           (refine(be.o.call (w:=wr.drew) bj.o bk.o W.o (bb.o.below Zb.drew) (bc.o.below Zb.drew Zr)).mono ?_)
           rintro e I ⟨rfl,F⟩;have G:C2 wr I:=Zb.drew.trans F;have bR:wr.heap.size<=I.heap.size:=G.size;have bA:∀k,I.cell? ⟨w.heap.size,k,none⟩=wr.cell? ⟨w.heap.size,k,none⟩:=fun k=>G.cell (p:=⟨w.heap.size,k,none⟩) bD;have bH:∀k,I.cell? ⟨w.heap.size+1,k,none⟩=wr.cell? ⟨w.heap.size+1,k,none⟩:=fun k=>G.cell (p:=⟨w.heap.size+1,k,none⟩) bF;have bu:∀k,I.cell? ⟨g,k,none⟩=wr.cell? ⟨g,k,none⟩:=fun k=>G.cell (p:=⟨g,k,none⟩) bv;have aC:=U G;have aF:=U (qX (zu L.o fun k Y=>G.block k (zQ L.o k Y).2) (.cells #[(t:Int)] 3));have bg:=U (jV I [.int .i64 t] 3)
           clear F G))
    .go_wp2_with (at_builtin;refine wpList_append_own _ rfl (.tmp 97) (.tmp 99) _ rfl S.heap.size 3 bI _ 1 8 underlying23 aa.o.1 aa.o.2.1 aa.o.2.2.1 aa.o.2.2.2 rfl O (.slice aA j aK) j _ rfl (by exact aF.o) ⟨I.heap.size,0,none⟩ 1 1 [.int .i64 t] rfl rfl (by exact bg.o) Uz Uy O Ut ?_
                  intro _ _ aV aR _;have bd:=U aR;have bi:=U aV
                  clear aV aR)
     go_roundw
     case rel=>
      refine⟨j+1,l++[t],O,by go_num,by simp[aS],?_,?_,?_⟩
      .have:=zAb ab.o aE.o (by rw[W.o])
       rwa [W.o]at this
      .rw[<-oM];exact bi.o
      .exact((ba.o.trans (aC.o.mono O)).alloc O _).grown bd.o Ut fun k Y=>(zQ aF.o k Y).1
     case measure=>simp[intOf];omega
    .go_wp2_with fail
     go_ret2
     have b:=C.o;rw[i2 ab.o aE.o (by rw[W.o];exact aQ),W.o]at b;rw[D.o]at b;subst b;exact⟨rfl,u.o.trans (aC.o.mono O)⟩
   .have bz:j=tc.length:=by omega
    subst bz;have M:=U (show qJ p tf tc=.inr l by have:=ab.o;rwa [Ye Zr]at this);clear ab bx au
    first
     | (go_wp2_with fail
        go_ret2
        have b:=C.o;rw[M.o,D.o]at b;dsimp only at b;have aN:=(bh.o l).resolve_left Us;simp[aG.o]at aN;rw[aN]at b;subst b
        exact⟨rfl,u.o⟩)
     | (go_wp2_with (go_at_call 117;(with_reducible refine(FD op _).mono ?_);rintro e w9 ⟨rfl,rfl⟩)
        obtain⟨a,ao⟩:=C4 (jZ op);have V:=U ao;have bM:=U (zu (w':=wr) L.o fun _ _=>rfl);rw[ao];clear ao
        go_loopw [18] (fun iv bL=>∃i nq:Nat,i<=tc.length/\iv=.int .i64 i/\WI a l i/\bL=wr.drewN nq) (fun iv _=>tc.length-(intOf iv).toNat)
        case atStart=>exact⟨0,0,D1 _,rfl,WI.zero _ _,rfl⟩
        case round=>
         obtain⟨i,nq,ar,rfl,aU,rfl⟩:=hrel;have ak:=U aU;clear aU;by_cases au:i<tc.length
         .obtain⟨x,A⟩:∃e,l[i]?=some e:=⟨_,D2 O⟩
          have aq:l[0]?=some (l.headD 0):=by
           cases l with
           |nil=>simp at A
           |cons a r=>rfl
          obtain⟨az,ay⟩:=C4 (l.headD 0);rw[ay]at aq
          obtain⟨aM,_,am,_⟩:∃g c,Value.slice aA tc.length aK=.slice (some ⟨g,0,none⟩) tc.length c/\g<wr.heap.size:=by
           rcases L.o.2 with⟨_,y⟩|⟨g,bs,_,bG,_,E,_⟩
           .omega
           .exact⟨g,bs,bG,zB E⟩
          injection am with am _ bt;subst am bt;have af:wr.cell? (aM,i)=some (.int .i64 x):=(L.o.cellAt i O).trans (by rw[Yn,A];rfl);have Z:wr.cell? (aM,0)=some (.int .i64 az):=(L.o.cellAt 0 O).trans (by rw[Yn,aq];rfl);have N:=U A;have P:=U ay;clear A aq ay;by_cases E:x=az
          .subst E
           by_cases y:a=0
           .subst y
            go_wp2_with fail
            go_quiet (fail)
            go_wp2_with fail;go_roundw
            case rel=>exact⟨i+1,_,O,by go_num,ak.o.succ N.o ⟨.inl rfl,P.o.symm⟩,rfl⟩
            case measure=>simp[intOf];omega
           .by_cases Q:x=a
            .subst Q
             have al:(x != 0)=true:=(by simp[y]);go_wp2_with fail
             go_quiet (fail)
             go_wp2_with fail;go_roundw
             case rel=>exact⟨i+1,_,O,by go_num,ak.o.succ N.o ⟨.inr rfl,P.o.symm⟩,rfl⟩
             case measure=>simp[intOf];omega
            .have al:(a != 0)=true:=by simp[y]
             have br:(x != a)=true:=(by simp[Q]);go_wp2_with fail
             go_quiet (fail)
             go_wp2_with fail
             go_ret2
             have b:=C.o;rw[M.o,D.o]at b;dsimp only at b;rw[hZ Us,V.o,rI N.o (by rw[P.o];intro H;exact H.1.elim y Q),Dp Us]at b;subst b;exact⟨rfl,mW (mW u.o _) _⟩
          .have bN:(x != az)=true:=by simp[E]
           by_cases y:a=0
           .subst y
            exact Ik
           .by_cases Q:x=a
            .subst Q
             have al:(x != 0)=true:=(by simp[y]);exact Ik
            .have al:(a != 0)=true:=by simp[y]
             have br:(x != a)=true:=(by simp[Q]);exact Ik
         .have bw:i=tc.length:=by omega
          subst bw;go_wp2_with fail
          go_ret2
          have b:=C.o;rw[M.o,D.o]at b;dsimp only at b;rw[hZ Us,V.o,WI.all (by rw[aS];exact ak.o),Dq rfl]at b;subst b
          exact⟨rfl,mW u.o _⟩)
theorem F5(m:Nat)(aV:WH m)(B:Nat)(p:Pr)(tf:List Pa)(op n:Int)(s:C6)(tc:List Ex)(r:Int×Int)(aW v0 v1 v:C8)(w:C7)(P:zm 6 op n s tc.length=true)(aH:zy tc m=true)(aJ:mJ p)(aj:g3 B p tf v0 v1 v w)(y:kW B w aW tc)
 (q:Nat) (al:zb p.wa s=some q) (V:tc.length=1) (_:tc.length<=8) (aK:qF p tf (.mk 6 op n s tc)=r):
 C3 92 #[.agg #[v0,v1],v,.agg #[(6:Int),(op:Int),(n:Int),s,aW]] w (Cz (.tuple #[(r.1:Int),(r.2:Int)]) w):=by
 have ae:=U (show qF p tf (.mk 6 op n s tc)=(match qJ p tf tc with | .inl e=>(0,e) | .inr l=>jk p tf 6 op s l)by rw[yY,show kO p tf 6 s=true from by simp[kO,al],show xS p 6 s tc.length=true from rfl];rfl);obtain⟨F,c0,G,c1,_,c2,rfl,rfl,rfl⟩:=aj.form;obtain⟨K,c,rfl,_⟩:=y.form;obtain⟨bw,aE,aR,aS,aT⟩:=info_parts kY;have Q:=U (Dt aE (Dt aR (Dt aS aT)));obtain⟨z,aU⟩:=C4 (jy (qQ p.funcs s));have bd:=U aU;clear aU;obtain⟨_,aP⟩:=C4 ((zw tf s).getD 0);have a9:=U aP;clear aP;obtain⟨_,aQ⟩:=C4 ((zw tf s).isSome);have ba:=U aQ;clear aQ;have aY:=U (show jy (zb p.wa s)=(q:Int)by rw[al];rfl);have aX:=U V;clear al V;have i:=U aj;have a8:=U aJ;have af:=U aK;have a4:=U aH;have az:=U y;have a3:=U aV;have ay:=C5 (C2 w ((w.alloc (qd F p.wa.length c0 G p.funcs.length c1)).alloc (jM 6 op n s K tc.length c))) ((Zb.alloc Zr _).alloc Uu _);have bb:=C5 (((w.alloc (qd F p.wa.length c0 G p.funcs.length c1)).alloc (jM 6 op n s K tc.length c)).heap[w.heap.size]?=some (qd F p.wa.length c0 G p.funcs.length c1)) ((D7 _ _ _ Uu).trans (Ds w _));have bc:=C5 (((w.alloc (qd F p.wa.length c0 G p.funcs.length c1)).alloc (jM 6 op n s K tc.length c)).heap[w.heap.size+1]?=some (jM 6 op n s K tc.length c)) (by simpa using Ds (w.alloc (qd F p.wa.length c0 G p.funcs.length c1)) (jM 6 op n s K tc.length c));clear aj aJ P y aK aE aR aS aT aH aV;go_enter func92,ntmps92
 go_wp2_with (first
  | (go_at_call 20
     have X:=i.o.below (ay.o.mono i.o.hB)
     (with_reducible refine(jL B p s _ bd.o _ _ _ X.hB X.ha X.hf).mono ?_)
     rintro e ao ⟨rfl,d⟩;have u:=(d.block (w.heap.size+1) Uu).trans bc.o;have A:=(d.block w.heap.size Ut).trans bb.o;obtain⟨bf,bg,bh,bi,bj⟩:=qV u;obtain⟨⟨bz,bA⟩,bC⟩:=zG A;have aM:w.heap.size+1<ao.heap.size:=zB u;have aL:w.heap.size<ao.heap.size:=O;have ag:=U A;have ah:=U u;have D:C2 w ao:=ay.o.trans (d.mono Ut);have ad:=U D;have H:=U (i.o.below (D.mono i.o.hB))
     clear d X u A D)
  | (go_at_call 37
     (with_reducible refine(kI B tf s _ _ a9.o ba.o _ _ H.o.hB H.o.hv).mono ?_)
     rintro e w9 ⟨rfl,rfl⟩)
  | (go_at_call 70
     (with_reducible refine(ki B p s _ aY.o _ _ _ H.o.hB H.o.ha H.o.hf).mono ?_)
     rintro e J ⟨rfl,d⟩;have u:=(d.block (w.heap.size+1) aM).trans ah.o;have A:=(d.block w.heap.size aL).trans ag.o;obtain⟨bf,bg,bh,bi,bj⟩:=qV u;obtain⟨⟨bz,bA⟩,bC⟩:=zG A;have aM:w.heap.size+1<J.heap.size:=zB u;have aL:w.heap.size<J.heap.size:=O;have ag:=U A;have ah:=U u;have D:C2 w J:=ad.o.trans (d.mono O);have ad:=U D;have H:=U (i.o.below (D.mono i.o.hB))
     clear d u A D))
 go_quiet (fail)
 go_wp2_with fail
 go_loopw [11,12] (fun bx iv wr=>∃(j:Nat) (l:List Int),j<=tc.length/\iv=.int .i64 j/\l.length=j/\qJ p tf (tc.take j)=.inr l/\wr.ownsRow J.heap.size 3 1 bx j (l.map (Value.int .i64))/\C2 J wr) (fun _ iv _=>tc.length-(intOf iv).toNat)
 case atStart=>exact⟨0,[],D1 _,rfl,rfl,by rw[Yx,qJ],Yp _ _ _ _,mW Zb _⟩
 case round=>
  obtain⟨j,l,bo,rfl,br,aN,ak,I⟩:=hrel;obtain⟨ap,aA,rfl⟩:=jE ak;have bF:=I.size;have an:C2 w wr:=ad.o.trans (I.mono O);obtain⟨⟨_,_⟩,_⟩:=zG ((I.block w.heap.size O).trans ag.o);obtain⟨_,_,_,_,_⟩:=qV ((I.block (w.heap.size+1) O).trans ah.o);have aZ:=U I;have M:=U an;have R:=U ak;have S:=U aN;have a0:=U (i.o.below (an.mono i.o.hB));have bs:w.heap.size<wr.heap.size:=O
  have bt:w.heap.size+1<wr.heap.size:=O
  clear I an ak aN;by_cases aF:j<tc.length
  .obtain⟨⟨Y,aa,Z,ab,T⟩,N⟩:∃e,tc[j]?=some e:=⟨_,D2 aF⟩
   obtain⟨g,o,v',rfl,_,_,_,_,_,_,am⟩:=(az.o.below (M.o.mono i.o.hB) Zr).cells N;obtain⟨aq,aB,rfl,_⟩:=am.form;have a1:=C5 (k2 B wr (.mk Y aa Z ab T) (.agg #[(Y:Int),(aa:Int),(Z:Int),ab,(aq,T.length,aB)])) ⟨_,rfl,(az.o.below (M.o.mono i.o.hB) Zr).range N,am⟩;have bn:g<wr.heap.size:=by have:=i.o.hB;omega
   obtain⟨⟨t,f⟩,aO⟩:=C4 (qF p tf (.mk Y aa Z ab T));have L:=U aO;have a7:=U (qb a4.o N);have au:=U N;clear am aO N;by_cases aC:f=0
   all_goals(try subst aC)
   all_goals
    go_wp2_with fail
    go_region_held3 (fun w'=>w'.cell? (w.heap.size,0)=some (.slice F p.wa.length c0)/\w'.cell? (w.heap.size,1)=some (.slice G p.funcs.length c1)/\w'.cell? (w.heap.size+1,4)=some (.slice (some ⟨g,o,none⟩) tc.length c)/\w'.cell? (g,o+j*5)=some (.int .i64 Y)/\w'.cell? (g,o+j*5+1)=some (.int .i64 aa)/\w'.cell? (g,o+j*5+2)=some (.int .i64 Z)/\w'.cell? (g,o+j*5+3)=some (.string ab)/\w'.cell? (g,o+j*5+4)=some (.slice aq T.length aB))
     (first
       |(go_split_ands;refine⟨?_,?_,?_,?_,?_,?_,?_,?_⟩ <;>(first|(rw[bq];assumption)|(rw[bv];assumption)|(rw[bm];assumption)))
       |go_keep)
     (first
       | (go_at_call 92
          (refine(a3.o.call (w:=wr.drew) a7.o a8.o L.o (a0.o.below Zb.drew) (a1.o.below Zb.drew Zr)).mono ?_)
          rintro e E ⟨rfl,d⟩;have C:C2 wr E:=Zb.drew.trans d;have bG:wr.heap.size<=E.heap.size:=C.size;have bq:∀k,E.cell? ⟨w.heap.size,k,none⟩=wr.cell? ⟨w.heap.size,k,none⟩:=fun k=>C.cell (p:=⟨w.heap.size,k,none⟩) bs;have bv:∀k,E.cell? ⟨w.heap.size+1,k,none⟩=wr.cell? ⟨w.heap.size+1,k,none⟩:=fun k=>C.cell (p:=⟨w.heap.size+1,k,none⟩) bt;have bm:∀k,E.cell? ⟨g,k,none⟩=wr.cell? ⟨g,k,none⟩:=fun k=>C.cell (p:=⟨g,k,none⟩) bn;have ar:=U C;have aw:=U (qX (zu R.o fun k P=>C.block k (zQ R.o k P).2) (.cells #[(t:Int)] 3));have a5:=U (jV E [.int .i64 t] 3)
          clear d C))
   .go_wp2_with (at_builtin;refine wpList_append_own _ rfl (.tmp 97) (.tmp 99) _ rfl J.heap.size 3 bw _ 1 8 underlying23 Q.o.1 Q.o.2.1 Q.o.2.2.1 Q.o.2.2.2 rfl O (.slice ap j aA) j _ rfl (by exact aw.o) ⟨E.heap.size,0,none⟩ 1 1 [.int .i64 t] rfl rfl (by exact a5.o) Uz Uy O Ut ?_
                 intro _ _ aI aD _;have a2:=U aD;have a6:=U aI
                 clear aI aD)
    go_roundw
    case rel=>
     refine⟨j+1,l++[t],O,by go_num,by simp[br],?_,?_,?_⟩
     .have:=zAb S.o au.o (by rw[L.o])
      rwa [L.o]at this
     .rw[<-oM];exact a6.o
     .exact((aZ.o.trans (ar.o.mono O)).alloc O _).grown a2.o Ut fun k P=>(zQ aw.o k P).1
    case measure=>simp[intOf];omega
   .go_wp2_with fail
    go_ret2
    have b:=ae.o;rw[i2 S.o au.o (by rw[L.o];exact aC),L.o]at b;rw[af.o]at b;subst b;exact⟨rfl,M.o.trans (ar.o.mono O)⟩
  .have bp:j=tc.length:=by omega
   subst bp;have ax:=U (show qJ p tf tc=.inr l by have:=S.o;rwa [Ye Zr]at this);clear S bo aF;have V:=aX.o
   obtain⟨bk,_,ai,_⟩:∃g c,Value.slice ap tc.length aA=.slice (some ⟨g,0,none⟩) tc.length c/\g<wr.heap.size:=by
    rcases R.o.2 with⟨_,_⟩|⟨g,be,_,bu,_,W,_⟩
    .omega
    .exact⟨g,be,bu,zB W⟩
   injection ai with ai _ bl;subst ai bl;obtain⟨x,y⟩:∃e,l[0]?=some e:=⟨_,D2 O⟩
   have A:wr.cell? (bk,0)=some (.int .i64 x):=(R.o.cellAt 0 O).trans (by rw[Yn,y];rfl)
   have aG:l.headD 0=x:=by
    cases l with
    |nil=>simp at y
    |cons a r=>simpa using y
   have av:=U aG;have bD:0<tc.length:=O
   clear y aG V;by_cases W:x=1
   .subst W
    go_wp2_with fail
    go_ret2
    have b:=ae.o;rw[ax.o,af.o]at b;dsimp only at b;rw[show jk p tf 6 op s l=(1,0)from by rw[BA,av.o];rfl]at b;subst b;exact⟨rfl,M.o⟩
   .go_wp2_with fail
    go_ret2
    have b:=ae.o;rw[ax.o,af.o]at b;dsimp only at b;rw[show jk p tf 6 op s l=(0,51)from by rw[BA,av.o,Dp W]]at b;subst b;exact⟨rfl,M.o⟩
theorem DL(m:Nat)(L:WH m)(B:Nat)(p:Pr)(tf:List Pa)(op n:Int)(s:C6)(tc:List Ex)(r:Int×Int)(M v0 v1 v:C8)(w:C7)(X:zm 3 op n s tc.length=true)(D:zy tc m=true)(E:mJ p)(l:g3 B p tf v0 v1 v w)(t:kW B w M tc)
 (j:zw tf s=none) (_:tc.length<=8) (F:qF p tf (.mk 3 op n s tc)=r):
 C3 92 #[.agg #[v0,v1],v,.agg #[(3:Int),(op:Int),(n:Int),s,M]] w (Cz (.tuple #[(r.1:Int),(r.2:Int)]) w):=by
 have P:=U (show qF p tf (.mk 3 op n s tc)=(0,50)by rw[yY,show kO p tf 3 s=false from by simp[kO,j]];rfl);obtain⟨b,c0,d,c1,_,c2,rfl,rfl,rfl⟩:=l.form;obtain⟨a,c,rfl,_⟩:=t.form;obtain⟨_,C,H,I,J⟩:=info_parts kY;have Y:=U (Dt C (Dt H (Dt I J)));obtain⟨z,K⟩:=C4 (jy (qQ p.funcs s));have W:=U K;clear K;have R:=U (show(zw tf s).getD 0=0 by rw[j];rfl);have S:=U (show(zw tf s).isSome=false by rw[j];rfl);clear j;have f:=U l;have ab:=U E;have Q:=U F;have aa:=U D;have ad:=U t;have Z:=U L;have A:=C5 (C2 w ((w.alloc (qd b p.wa.length c0 d p.funcs.length c1)).alloc (jM 3 op n s a tc.length c))) ((Zb.alloc Zr _).alloc Uu _);have T:=C5 (((w.alloc (qd b p.wa.length c0 d p.funcs.length c1)).alloc (jM 3 op n s a tc.length c)).heap[w.heap.size]?=some (qd b p.wa.length c0 d p.funcs.length c1)) ((D7 _ _ _ Uu).trans (Ds w _));have V:=C5 (((w.alloc (qd b p.wa.length c0 d p.funcs.length c1)).alloc (jM 3 op n s a tc.length c)).heap[w.heap.size+1]?=some (jM 3 op n s a tc.length c)) (by simpa using Ds (w.alloc (qd b p.wa.length c0 d p.funcs.length c1)) (jM 3 op n s a tc.length c));clear l E X t F C H I J D L;go_enter func92,ntmps92
 go_wp2_with (first
  | (go_at_call 20
     have g:=f.o.below (A.o.mono f.o.hB)
     (with_reducible refine(jL B p s _ W.o _ _ _ g.hB g.ha g.hf).mono ?_)
     rintro e x ⟨rfl,i⟩;have k:=(i.block (w.heap.size+1) Uu).trans V.o;have u:=(i.block w.heap.size Ut).trans T.o;obtain⟨_,_,_,_,_⟩:=qV k;obtain⟨⟨_,_⟩,_⟩:=zG u;have ah:w.heap.size+1<x.heap.size:=zB k;have ag:w.heap.size<x.heap.size:=O;have ae:=U u;have af:=U k;have q:C2 w x:=A.o.trans (i.mono Ut);have N:=U q;have y:=U (f.o.below (q.mono f.o.hB))
     clear i g k u q)
  | (go_at_call 37
     (with_reducible refine(kI B tf s _ _ R.o S.o _ _ y.o.hB y.o.hv).mono ?_)
     rintro e w9 ⟨rfl,rfl⟩))
 go_ret2
 have G:=P.o;rw[Q.o]at G;subst G;exact⟨rfl,N.o⟩
theorem sW(m:Nat)(V:WH m)(B:Nat)(p:Pr)(tf:List Pa)(op n:Int)(s:C6)(tc:List Ex)(r:Int×Int)(W v0 v1 v:C8)(w:C7)(al:zm 6 op n s tc.length=true)(H:zy tc m=true)(I:mJ p)(u:g3 B p tf v0 v1 v w)(y:kW B w W tc)
 (x:zb p.wa s=none) (_:tc.length<=8) (J:qF p tf (.mk 6 op n s tc)=r):
 C3 92 #[.agg #[v0,v1],v,.agg #[(6:Int),(op:Int),(n:Int),s,W]] w (Cz (.tuple #[(r.1:Int),(r.2:Int)]) w):=by
 have Y:=U (show qF p tf (.mk 6 op n s tc)=(0,50)by rw[yY,show kO p tf 6 s=false from by simp[kO,x]];rfl);obtain⟨k,c0,l,c1,_,c2,rfl,rfl,rfl⟩:=u.form;obtain⟨j,c,rfl,_⟩:=y.form;obtain⟨_,G,Q,R,S⟩:=info_parts kY;have ap:=U (Dt G (Dt Q (Dt R S)));obtain⟨z,T⟩:=C4 (jy (qQ p.funcs s));have af:=U T;clear T;obtain⟨_,N⟩:=C4 ((zw tf s).getD 0);have aa:=U N;clear N;obtain⟨_,P⟩:=C4 ((zw tf s).isSome);have ab:=U P;clear P;have X:=U (show jy (zb p.wa s)= -1 by rw[x];rfl);clear x;have g:=U u;have au:=U I;have Z:=U J;have ar:=U H;have av:=U y;have aq:=U V;have D:=C5 (C2 w ((w.alloc (qd k p.wa.length c0 l p.funcs.length c1)).alloc (jM 6 op n s j tc.length c))) ((Zb.alloc Zr _).alloc Uu _);have ad:=C5 (((w.alloc (qd k p.wa.length c0 l p.funcs.length c1)).alloc (jM 6 op n s j tc.length c)).heap[w.heap.size]?=some (qd k p.wa.length c0 l p.funcs.length c1)) ((D7 _ _ _ Uu).trans (Ds w _));have ae:=C5 (((w.alloc (qd k p.wa.length c0 l p.funcs.length c1)).alloc (jM 6 op n s j tc.length c)).heap[w.heap.size+1]?=some (jM 6 op n s j tc.length c)) (by simpa using Ds (w.alloc (qd k p.wa.length c0 l p.funcs.length c1)) (jM 6 op n s j tc.length c));clear u I al y J G Q R S H V;go_enter func92,ntmps92
 go_wp2_with (first
  | (go_at_call 20
     have q:=g.o.below (D.o.mono g.o.hB)
     (with_reducible refine(jL B p s _ af.o _ _ _ q.hB q.ha q.hf).mono ?_)
     rintro e A ⟨rfl,a⟩;have b:=(a.block (w.heap.size+1) Uu).trans ae.o;have f:=(a.block w.heap.size Ut).trans ad.o;obtain⟨ag,ah,ai,aj,ak⟩:=qV b;obtain⟨⟨am,an⟩,ao⟩:=zG f;have M:w.heap.size+1<A.heap.size:=zB b;have L:w.heap.size<A.heap.size:=O;have E:=U f;have F:=U b;have d:C2 w A:=D.o.trans (a.mono Ut);have t:=U d;have i:=U (g.o.below (d.mono g.o.hB))
     clear a q b f d)
  | (go_at_call 37
     (with_reducible refine(kI B tf s _ _ aa.o ab.o _ _ i.o.hB i.o.hv).mono ?_)
     rintro e w9 ⟨rfl,rfl⟩)
  | (go_at_call 70
     (with_reducible refine(ki B p s _ X.o _ _ _ i.o.hB i.o.ha i.o.hf).mono ?_)
     rintro e C ⟨rfl,a⟩;have b:=(a.block (w.heap.size+1) M).trans F.o;have f:=(a.block w.heap.size L).trans E.o;obtain⟨ag,ah,ai,aj,ak⟩:=qV b;obtain⟨⟨am,an⟩,ao⟩:=zG f;have M:w.heap.size+1<C.heap.size:=zB b;have L:w.heap.size<C.heap.size:=O;have E:=U f;have F:=U b;have d:C2 w C:=t.o.trans (a.mono O);have t:=U d;have i:=U (g.o.below (d.mono g.o.hB))
     clear a b f d))
 go_ret2
 have K:=Y.o;rw[Z.o]at K;subst K;exact⟨rfl,t.o⟩
theorem x3(m:Nat)(L:WH m)(B:Nat)(p:Pr)(tf:List Pa)(op n:Int)(s:C6)(tc:List Ex)(r:Int×Int)(M v0 v1 v:C8)(w:C7)(X:zm 7 op n s tc.length=true)(C:zy tc m=true)(D:mJ p)(k:g3 B p tf v0 v1 v w)(t:kW B w M tc)
 (q:qQ p.funcs s=none) (_:tc.length<=8) (E:qF p tf (.mk 7 op n s tc)=r):
 C3 92 #[.agg #[v0,v1],v,.agg #[(7:Int),(op:Int),(n:Int),s,M]] w (Cz (.tuple #[(r.1:Int),(r.2:Int)]) w):=by
 have P:=U (show qF p tf (.mk 7 op n s tc)=(0,50)by rw[yY,show kO p tf 7 s=false from by simp[kO,q]];rfl);obtain⟨b,c0,d,c1,_,c2,rfl,rfl,rfl⟩:=k.form;obtain⟨a,c,rfl,_⟩:=t.form;obtain⟨_,A,I,J,K⟩:=info_parts kY;have Y:=U (Dt A (Dt I (Dt J K)));have W:=U (show jy (qQ p.funcs s)= -1 by rw[q];rfl);clear q;obtain⟨_,G⟩:=C4 ((zw tf s).getD 0);have R:=U G;clear G;obtain⟨_,H⟩:=C4 ((zw tf s).isSome);have S:=U H;clear H;have f:=U k;have ab:=U D;have Q:=U E;have aa:=U C;have ad:=U t;have Z:=U L;have z:=C5 (C2 w ((w.alloc (qd b p.wa.length c0 d p.funcs.length c1)).alloc (jM 7 op n s a tc.length c))) ((Zb.alloc Zr _).alloc Uu _);have T:=C5 (((w.alloc (qd b p.wa.length c0 d p.funcs.length c1)).alloc (jM 7 op n s a tc.length c)).heap[w.heap.size]?=some (qd b p.wa.length c0 d p.funcs.length c1)) ((D7 _ _ _ Uu).trans (Ds w _));have V:=C5 (((w.alloc (qd b p.wa.length c0 d p.funcs.length c1)).alloc (jM 7 op n s a tc.length c)).heap[w.heap.size+1]?=some (jM 7 op n s a tc.length c)) Ha;clear k D X t E A I J K C L;go_enter func92,ntmps92
 go_wp2_with (first
  | (go_at_call 20
     have g:=f.o.below (z.o.mono f.o.hB)
     (with_reducible refine(jL B p s _ W.o _ _ _ g.hB g.ha g.hf).mono ?_)
     rintro e x ⟨rfl,i⟩;have j:=(i.block (w.heap.size+1) Uu).trans V.o;have u:=(i.block w.heap.size Ut).trans T.o;obtain⟨_,_,_,_,_⟩:=qV j;obtain⟨⟨_,_⟩,_⟩:=zG u;have ah:w.heap.size+1<x.heap.size:=zB j;have ag:w.heap.size<x.heap.size:=O;have ae:=U u;have af:=U j;have l:C2 w x:=z.o.trans (i.mono Ut);have N:=U l;have y:=U (f.o.below (l.mono f.o.hB))
     clear i g j u l)
  | (go_at_call 37
     (with_reducible refine(kI B tf s _ _ R.o S.o _ _ y.o.hB y.o.hv).mono ?_)
     rintro e w9 ⟨rfl,rfl⟩))
 go_ret2
 have F:=P.o;rw[Q.o]at F;subst F;exact⟨rfl,N.o⟩
theorem oN(m:Nat)(R:WH m)(B:Nat)(p:Pr)(tf:List Pa)(op n:Int)(s:C6)(tc:List Ex)(r:Int×Int)(S v0 v1 v:C8)(w:C7)(ag:zm 7 op n s tc.length=true)(H:zy tc m=true)(I:mJ p)(y:g3 B p tf v0 v1 v w)(C:kW B w S tc)
 (q:Nat) (f:Fu) (t:qQ p.funcs s=some q) (l:p.funcs[q]?=some f) (F:tc.length≠f.params.length) (_:tc.length<=8) (J:qF p tf (.mk 7 op n s tc)=r):
 C3 92 #[.agg #[v0,v1],v,.agg #[(7:Int),(op:Int),(n:Int),s,S]] w (Cz (.tuple #[(r.1:Int),(r.2:Int)]) w):=by
 have W:=U (show qF p tf (.mk 7 op n s tc)=(0,51)by rw[yY,show kO p tf 7 s=true by simp[kO,t],show xS p 7 s tc.length=false by simp[xS,jU,t,l,F]];rfl);have ap:((tc.length:Int) != (f.params.length:Int))=true:=Ut
 clear F;obtain⟨b,c0,d,c1,_,c2,rfl,rfl,rfl⟩:=y.form;obtain⟨a,c,rfl,_⟩:=C.form;obtain⟨_,G,N,P,Q⟩:=info_parts kY;have ah:=U (Dt G (Dt N (Dt P Q)));have ad:=U (show jy (qQ p.funcs s)=(q:Int)by rw[t];rfl);have V:=U l;have ar:q<p.funcs.length:=(List.getElem?_eq_some_iff.1 l).1;clear t l;obtain⟨_,L⟩:=C4 ((zw tf s).getD 0);have Y:=U L;clear L;obtain⟨_,M⟩:=C4 ((zw tf s).isSome);have Z:=U M;clear M;have g:=U y;have ak:=U I;have X:=U J;have aj:=U H;have am:=U C;have ai:=U R;have E:=C5 (C2 w ((w.alloc (qd b p.wa.length c0 d p.funcs.length c1)).alloc (jM 7 op n s a tc.length c))) ((Zb.alloc Zr _).alloc Uu _);have aa:=C5 (((w.alloc (qd b p.wa.length c0 d p.funcs.length c1)).alloc (jM 7 op n s a tc.length c)).heap[w.heap.size]?=some (qd b p.wa.length c0 d p.funcs.length c1)) ((D7 _ _ _ Uu).trans (Ds w _));have ab:=C5 (((w.alloc (qd b p.wa.length c0 d p.funcs.length c1)).alloc (jM 7 op n s a tc.length c)).heap[w.heap.size+1]?=some (jM 7 op n s a tc.length c)) Ha;clear y I ag C J G N P Q H R;go_enter func92,ntmps92
 go_wp2_with (first
  | (go_at_call 20
     have j:=g.o.below (E.o.mono g.o.hB)
     (with_reducible refine(jL B p s _ ad.o _ _ _ j.hB j.ha j.hf).mono ?_)
     rintro e x ⟨rfl,k⟩;have u:=(k.block (w.heap.size+1) Uu).trans ab.o;have D:=(k.block w.heap.size Ut).trans aa.o;obtain⟨_,_,_,_,_⟩:=qV u;obtain⟨⟨_,_⟩,_⟩:=zG D;have av:w.heap.size+1<x.heap.size:=zB u;have au:w.heap.size<x.heap.size:=O;have an:=U D;have ao:=U u;have z:C2 w x:=E.o.trans (k.mono Ut);have T:=U z;have i:=U (g.o.below (z.mono g.o.hB))
     clear k j u D z)
  | (go_at_call 37
     (with_reducible refine(kI B tf s _ _ Y.o Z.o _ _ i.o.hB i.o.hv).mono ?_)
     rintro e w9 ⟨rfl,rfl⟩))
 obtain⟨ae,_,_,_,rfl,_,_,_,_,_,A,af⟩:=i.o.hf.cells V.o;obtain⟨_,_,rfl,_⟩:=A.form;have al:=U A;have aq:ae<x.heap.size:=by have:=i.o.hB;omega
 clear A af
 go_quiet (fail)
 go_wp2_with fail
 go_ret2
 have K:=W.o;rw[X.o]at K;subst K;exact⟨rfl,mW T.o _⟩
theorem JC(m:Nat)(a0:WH m)(B:Nat)(p:Pr)(tf:List Pa)(op n:Int)(s:C6)(tc:List Ex)(r:Int×Int)(a1 v0 v1 v:C8)(w:C7)(d:zm 7 op n s tc.length=true)(aO:zy tc m=true)(aR:mJ p)(ah:g3 B p tf v0 v1 v w)(D:kW B w a1 tc)
 (q:Nat) (f:Fu) (C:qQ p.funcs s=some q) (Q:p.funcs[q]?=some f) (aj:tc.length=f.params.length) (_:tc.length<=8) (aS:qF p tf (.mk 7 op n s tc)=r):
 C3 92 #[.agg #[v0,v1],v,.agg #[(7:Int),(op:Int),(n:Int),s,a1]] w (Cz (.tuple #[(r.1:Int),(r.2:Int)]) w):=by
 have ae:=U (show qF p tf (.mk 7 op n s tc)=(match qJ p tf tc with | .inl e=>(0,e) | .inr l=>jk p tf 7 op s l)by rw[yY,show kO p tf 7 s=true from by simp[kO,C],show xS p 7 s tc.length=true from by simp[xS,jU,C,Q,aj]];rfl);have bS:((tc.length:Int) != (f.params.length:Int))=false:=Ut
 have ay:=U aj;clear aj;have aA:=U (fun l=>show jk p tf 7 op s l=if l=f.params.map (·.type)then(f.type,0)else(0,51)by simp[jk,jU,C,Q]);obtain⟨G,c0,K,c1,_,c2,rfl,rfl,rfl⟩:=ah.form;obtain⟨J,c,rfl,_⟩:=D.form;obtain⟨bK,ak,aX,aY,aZ⟩:=info_parts kY;have T:=U (Dt ak (Dt aX (Dt aY aZ)));have bm:=U (show jy (qQ p.funcs s)=(q:Int)by rw[C];rfl);have a8:=U Q;have bV:q<p.funcs.length:=(List.getElem?_eq_some_iff.1 Q).1;clear C Q;obtain⟨_,aV⟩:=C4 ((zw tf s).getD 0);have bf:=U aV;clear aV;obtain⟨_,aW⟩:=C4 ((zw tf s).isSome);have bg:=U aW;clear aW;have b:=U ah;have bd:=U aR;have af:=U aS;have a9:=U aO;have aF:=U D;have a7:=U a0;have aE:=C5 (C2 w ((w.alloc (qd G p.wa.length c0 K p.funcs.length c1)).alloc (jM 7 op n s J tc.length c))) ((Zb.alloc Zr _).alloc Uu _);have bj:=C5 (((w.alloc (qd G p.wa.length c0 K p.funcs.length c1)).alloc (jM 7 op n s J tc.length c)).heap[w.heap.size]?=some (qd G p.wa.length c0 K p.funcs.length c1)) ((D7 _ _ _ Uu).trans (Ds w _));have bk:=C5 (((w.alloc (qd G p.wa.length c0 K p.funcs.length c1)).alloc (jM 7 op n s J tc.length c)).heap[w.heap.size+1]?=some (jM 7 op n s J tc.length c)) (by simpa using Ds (w.alloc (qd G p.wa.length c0 K p.funcs.length c1)) (jM 7 op n s J tc.length c));clear ah aR d D aS ak aX aY aZ aO a0;go_enter func92,ntmps92
 go_wp2_with (first
  | (go_at_call 20
     have X:=b.o.below (aE.o.mono b.o.hB)
     (with_reducible refine(jL B p s _ bm.o _ _ _ X.hB X.ha X.hf).mono ?_)
     rintro e E ⟨rfl,z⟩;have Z:=(z.block (w.heap.size+1) Uu).trans bk.o;have Y:=(z.block w.heap.size Ut).trans bj.o;obtain⟨_,_,_,_,_⟩:=qV Z;obtain⟨⟨_,_⟩,_⟩:=zG Y;have bX:w.heap.size+1<E.heap.size:=zB Z;have bW:w.heap.size<E.heap.size:=O;have bh:=U Y;have bi:=U Z;have ai:C2 w E:=aE.o.trans (z.mono Ut);have a3:=U ai;have H:=U (b.o.below (ai.mono b.o.hB))
     clear z X Z Y ai)
  | (go_at_call 37
     (with_reducible refine(kI B tf s _ _ bf.o bg.o _ _ H.o.hB H.o.hv).mono ?_)
     rintro e w9 ⟨rfl,rfl⟩))
 obtain⟨u,ar,_,_,rfl,_,_,bP,bQ,_,an,bs⟩:=H.o.hf.cells a8.o;obtain⟨a2,bo,rfl,_⟩:=an.form;have be:=U an;have aN:u<E.heap.size:=Gn
 clear an bs
 go_quiet (fail)
 go_wp2_with fail
 go_loopw [11,12] (fun bL iv wr=>∃(j:Nat) (l:List Int),j<=tc.length/\iv=.int .i64 j/\l.length=j/\qJ p tf (tc.take j)=.inr l/\wr.ownsRow E.heap.size 3 1 bL j (l.map (Value.int .i64))/\C2 E wr) (fun _ iv _=>tc.length-(intOf iv).toNat)
 case atStart=>exact⟨0,[],D1 _,rfl,rfl,by rw[Yx,qJ],Yp _ _ _ _,mW Zb _⟩
 case round=>
  obtain⟨j,l,bx,rfl,bD,aT,am,I⟩:=hrel;obtain⟨av,aI,rfl⟩:=jE am;have bY:=I.size;have ap:C2 w wr:=a3.o.trans (I.mono O);obtain⟨⟨_,_⟩,_⟩:=zG ((I.block w.heap.size O).trans bh.o);obtain⟨_,_,_,_,_⟩:=qV ((I.block (w.heap.size+1) O).trans bi.o);have S:=U I;have N:=U ap;have L:=U am;have V:=U aT;have a4:=U (b.o.below (ap.mono b.o.hB));have bG:w.heap.size<wr.heap.size:=O
  have bH:w.heap.size+1<wr.heap.size:=O
  clear I ap am aT;by_cases al:j<tc.length
  .obtain⟨⟨aa,R,ab,ad,W⟩,P⟩:∃e,tc[j]?=some e:=⟨_,D2 al⟩
   obtain⟨g,o,v',rfl,_,bN,bO,_,_,_,ao⟩:=(aF.o.below (N.o.mono b.o.hB) Zr).cells P;obtain⟨aw,aJ,rfl,_⟩:=ao.form;have a5:=C5 (k2 B wr (.mk aa R ab ad W) (.agg #[(aa:Int),(R:Int),(ab:Int),ad,(aw,W.length,aJ)])) ⟨_,rfl,(aF.o.below (N.o.mono b.o.hB) Zr).range P,ao⟩;have bv:g<wr.heap.size:=by have:=b.o.hB;omega
   obtain⟨⟨t,f⟩,aU⟩:=C4 (qF p tf (.mk aa R ab ad W));have M:=U aU;have bc:=U (qb a9.o P);have az:=U P;clear ao aU P;by_cases aL:f=0
   all_goals(try subst aL)
   all_goals
    go_wp2_with fail
    go_region_held3 (fun w'=>w'.cell? (w.heap.size,0)=some (.slice G p.wa.length c0)/\w'.cell? (w.heap.size,1)=some (.slice (some ⟨u,ar,none⟩) p.funcs.length c1)/\w'.cell? (w.heap.size+1,4)=some (.slice (some ⟨g,o,none⟩) tc.length c)/\w'.cell? (g,o+j*5)=some (.int .i64 aa)/\w'.cell? (g,o+j*5+1)=some (.int .i64 R)/\w'.cell? (g,o+j*5+2)=some (.int .i64 ab)/\w'.cell? (g,o+j*5+3)=some (.string ad)/\w'.cell? (g,o+j*5+4)=some (.slice aw W.length aJ))
     (first
       |(go_split_ands;refine⟨?_,?_,?_,?_,?_,?_,?_,?_⟩ <;>(first|(rw[bA];assumption)|(rw[bJ];assumption)|(rw[bu];assumption)))
       |go_keep)
     (first
       | (go_at_call 92
          (refine(a7.o.call (w:=wr.drew) bc.o bd.o M.o (a4.o.below Zb.drew) (a5.o.below Zb.drew Zr)).mono ?_)
          rintro e F ⟨rfl,z⟩;have A:C2 wr F:=Zb.drew.trans z;have bZ:wr.heap.size<=F.heap.size:=A.size;have bA:∀k,F.cell? ⟨w.heap.size,k,none⟩=wr.cell? ⟨w.heap.size,k,none⟩:=fun k=>A.cell (p:=⟨w.heap.size,k,none⟩) bG;have bJ:∀k,F.cell? ⟨w.heap.size+1,k,none⟩=wr.cell? ⟨w.heap.size+1,k,none⟩:=fun k=>A.cell (p:=⟨w.heap.size+1,k,none⟩) bH;have bu:∀k,F.cell? ⟨g,k,none⟩=wr.cell? ⟨g,k,none⟩:=fun k=>A.cell (p:=⟨g,k,none⟩) bv;have ax:=U A;have aB:=U (qX (zu L.o fun k d=>A.block k (zQ L.o k d).2) (.cells #[(t:Int)] 3));have ba:=U (jV F [.int .i64 t] 3)
          clear z A))
   .go_wp2_with (at_builtin;refine wpList_append_own _ rfl (.tmp 97) (.tmp 99) _ rfl E.heap.size 3 bK _ 1 8 underlying23 T.o.1 T.o.2.1 T.o.2.2.1 T.o.2.2.2 rfl O (.slice av j aI) j _ rfl (by exact aB.o) ⟨F.heap.size,0,none⟩ 1 1 [.int .i64 t] rfl rfl (by exact ba.o) Uz Uy O Ut ?_
                 intro _ _ aQ aM _;have a6:=U aM;have bb:=U aQ
                 clear aQ aM)
    go_roundw
    case rel=>
     refine⟨j+1,l++[t],O,by go_num,by simp[bD],?_,?_,?_⟩
     .have:=zAb V.o az.o (by rw[M.o])
      rwa [M.o]at this
     .rw[<-oM];exact bb.o
     .exact((S.o.trans (ax.o.mono O)).alloc O _).grown a6.o Ut fun k d=>(zQ aB.o k d).1
    case measure=>simp[intOf];omega
   .go_wp2_with fail
    go_ret2
    have a:=ae.o;rw[i2 V.o az.o (by rw[M.o];exact aL),M.o]at a;rw[af.o]at a;subst a;exact⟨rfl,N.o.trans (ax.o.mono O)⟩
  .have bz:j=tc.length:=by omega
   subst bz;have aD:=U (show qJ p tf tc=.inr l by have:=V.o;rwa [Ye Zr]at this);clear V bx al;have bR:=U (zu (w':=wr) L.o fun _ _=>rfl);have u1:wr.cell? (u,ar+q*4+1)=some (.int .i64 f.type):=(S.o.cell (p:=⟨u,_,none⟩) aN).trans bP;have u2:wr.cell? (u,ar+q*4+2)=some (.slice a2 f.params.length bo):=(S.o.cell (p:=⟨u,_,none⟩) aN).trans bQ;have bT:u<wr.heap.size:=O
   go_wp2_with fail
   go_loopw [15] (fun iv bM=>∃i nq:Nat,i<=tc.length/\iv=.int .i64 i/\(∀q,q<i->l[q]?=(f.params.map (·.type))[q]?)/\bM=wr.drewN nq) (fun iv _=>tc.length-(intOf iv).toNat)
   case atStart=>exact⟨0,0,D1 _,rfl,fun q C=>absurd C O,rfl⟩
   case round=>
    obtain⟨i,nq,ak,rfl,aP,rfl⟩:=hrel;have aC:=U aP;clear aP;by_cases al:i<tc.length
    .have bF:i<f.params.length:=by have:=ay.o;omega
     obtain⟨x,D⟩:∃e,l[i]?=some e:=⟨_,D2 O⟩
     obtain⟨au,aq⟩:∃e,f.params[i]?=some e:=⟨_,D2 bF⟩
     obtain⟨bq,_,ag,_⟩:∃g c,Value.slice av tc.length aI=.slice (some ⟨g,0,none⟩) tc.length c/\g<wr.heap.size:=by
      rcases L.o.2 with⟨_,_⟩|⟨g,bp,_,bI,_,y,_⟩
      .omega
      .exact⟨g,bp,bI,zB y⟩
     injection ag with ag _ bt;subst ag bt;obtain⟨br,R,rfl,_,bN,bO⟩:=(be.o.below (S.o.mono H.o.hB) Zr).cells aq;have bU:br<wr.heap.size:=Gn;have Y:wr.cell? (bq,i)=some (.int .i64 x):=(L.o.cellAt i O).trans (by rw[Yn,D];rfl);have aG:=U D;have aH:=U aq;clear D aq;by_cases y:x=au.type
     .have bn:(x != au.type)=false:=by simp[y]
      have bl:=U y;clear y;go_wp2_with fail
      go_quiet (fail)
      go_wp2_with fail;go_roundw
      case rel=>
       refine⟨i+1,_,O,by go_num,fun k d=>?_,rfl⟩;by_cases bC:k=i
       .subst bC
        rw[aG.o,Yn,aH.o,bl.o];rfl
       .exact aC.o k O
      case measure=>simp[intOf];omega
     .have bn:(x != au.type)=true:=by simp[y]
      go_wp2_with fail
      go_quiet (fail)
      go_wp2_with fail
      go_ret2
      have a:=ae.o;rw[aD.o,af.o]at a;dsimp only at a;rw[show jk p tf 7 op s l=(0,51)from by rw[aA.o,Dp (by intro e;apply y;have aK:=aG.o;rw[e,Yn,aH.o]at aK;exact(Cs aK).symm)]]at a;subst a;exact⟨rfl,mW (mW N.o _) _⟩
    .have bw:i=tc.length:=by omega
     subst bw;go_wp2_with fail
     go_ret2
     have a:=ae.o;rw[aD.o,af.o]at a;dsimp only at a;rw[show jk p tf 7 op s l=(f.type,0)from by rw[aA.o,Dq (List.ext_getElem? fun k=>by by_cases d:k<tc.length;exact aC.o k d;rw[List.getElem?_eq_none O,List.getElem?_eq_none (by rw[Yh];have:=ay.o;omega)])]]at a;subst a;exact⟨rfl,mW N.o _⟩
theorem oO:∀m,WH m
 | 0=>fun _ _ _ e _ _ _ _ _ _ y=>by
   obtain⟨k,op,n,s,tc⟩:=e;rw[kD]at y;simp at y
 | m+1=>fun B p tf e r x v0 v1 v w y i j g E=>by
   obtain⟨k,op,n,s,tc⟩:=e;rw[kD,D3,D3]at y;obtain⟨⟨_,b⟩,d⟩:=y;rw[Yu]at d;obtain⟨u,rfl,_,l⟩:=E;have o:=oO m;rcases vC b with rfl|rfl|rfl|rfl|rfl|rfl|rfl|rfl
   .exact yS 1 m o B p tf op n s tc r u v0 v1 v w b d i g l Us rfl rfl (fun e=>absurd e Us) (fun _=>.inr rfl) Vx j
   .exact yS 2 m o B p tf op n s tc r u v0 v1 v w b d i g l Us rfl rfl (fun e=>absurd e Us) (fun _=>.inr rfl) Vx j
   .cases hv:zw tf s with
    |none=>exact DL m o B p tf op n s tc r u v0 v1 v w b d i g l hv Vx j
    |some t=>exact yS 3 m o B p tf op n s tc r u v0 v1 v w b d i g l Us (by simp[kO,hv]) rfl (fun _=>by rw[hv];rfl) (fun _=>.inr (by simp[jk,hv])) Vx j
   .exact yS 4 m o B p tf op n s tc r u v0 v1 v w b d i g l Us rfl rfl (fun e=>absurd e Us) (fun _=>.inl Us) (by obtain⟨a,rfl⟩:=CZ b;simp) j
   .exact yS 5 m o B p tf op n s tc r u v0 v1 v w b d i g l Us rfl rfl (fun e=>absurd e Us) (fun _=>.inl Us) (by obtain⟨a,c,rfl⟩:=C9 b;simp) j
   .have D:tc.length=1:=by obtain⟨a,rfl⟩:=mM b;rfl
    cases hv:zb p.wa s with
    |none=>exact sW m o B p tf op n s tc r u v0 v1 v w b d i g l hv O j
    |some q=>exact F5 m o B p tf op n s tc r u v0 v1 v w b d i g l q hv D O j
   .have z:tc.length<=8:=by simp[zm]at b;exact b.2
    cases hv:qQ p.funcs s with
    |none=>exact x3 m o B p tf op n s tc r u v0 v1 v w b d i g l hv z j
    |some q=>
      obtain⟨f,C,_⟩:=xv hv;by_cases A:tc.length=f.params.length
      .exact JC m o B p tf op n s tc r u v0 v1 v w b d i g l q f hv C A z j
      .exact oN m o B p tf op n s tc r u v0 v1 v w b d i g l q f hv C A z j
   .exact yS 8 m o B p tf op n s tc r u v0 v1 v w b d i g l Us rfl rfl (fun e=>absurd e Us) (fun _=>.inr rfl) Vx j
theorem zD{W:C7}{b c d e f i j:C8}(a:W.heap[g]?=some (.cells #[c0,c1,c2,b,c,d,e,f,i,j] T (0,0))):
 (W.cell? (g,0)=some c0/\W.cell? (g,1)=some c1/\W.cell? (g,2)=some c2/\W.cell? (g,3)=some b/\W.cell? (g,4)=some c/\W.cell? (g,5)=some d/\W.cell? (g,6)=some e/\W.cell? (g,7)=some f/\W.cell? (g,8)=some i/\W.cell? (g,9)=some j)/\∀o,W.frozen? ⟨g,o,none⟩=false:=by
 refine⟨⟨(Dv a 0).trans rfl,(Dv a 1).trans rfl,(Dv a 2).trans rfl,(Dv a 3).trans rfl,(Dv a 4).trans rfl,(Dv a 5).trans rfl,(Dv a 6).trans rfl,(Dv a 7).trans rfl,(Dv a 8).trans rfl,(Dv a 9).trans rfl⟩,fun o=>?_⟩;simp[World.frozen?,a]
theorem zq{W:C7}(h:W.heap[g]?=some (.cells #[c0,c1,c2] T (0,0))):(W.cell? (g,0)=some c0/\W.cell? (g,1)=some c1/\W.cell? (g,2)=some c2)/\∀o,W.frozen? ⟨g,o,none⟩=false:=
 ⟨⟨(Dv h 0).trans rfl,(Dv h 1).trans rfl,(Dv h 2).trans rfl⟩,fun o=>by simp[World.frozen?,h]⟩
theorem xE{e:TypeId}{m n:Nat}{d:List C8}(f:w.ownsRow B e m v n d)(_:0<n):
 ∃g a,v=.slice (some ⟨g,0,none⟩) n a/\B<=g/\g<w.heap.size/\n<=a/\(∀j u,d[j]?=some u->w.cell? ⟨g,j,none⟩=some u)/\∀o,w.frozen? ⟨g,o,none⟩=false:=by
 rcases f.2 with⟨_,_⟩|⟨g,a,_,rfl,i,c,k,_,_,l⟩
 .omega
 .refine⟨g,a,rfl,i,(Array.getElem?_eq_some_iff.1 c).1,k,fun j u b=>?_,fun o=>by simp[World.frozen?,c]⟩
  rw[Dv c];rw[<-l,Y8]at b;split at b
  .simpa using b
  .cases b
theorem SS{α:Type}{f:α->List C8}(a:∀x,(f x).length=2):∀(l:List α) (k:Nat) (x:α),l[k]?=some x->∀j u,(f x)[j]?=some u->(l.flatMap f)[k*2+j]?=some u
 |[],_,_,h,_,_,_=>Xo
 | y::r,0,x,h,j,u,hu=>by
   simp at h;subst h;rw[Y2,Nat.zero_mul,Yz,Yo (List.getElem?_eq_some_iff.1 hu).1];exact hu
 | y::r,k+1,x,h,j,u,hu=>by
   have:=SS a r k x Ve j u hu;rw[Y2,Yi (by rw[a];omega),a,show(k+1)*2+j-2=k*2+j by omega];exact this
theorem gS.cells{L:Nat}{f:Nat}{d:C8}{q:Int}(e:gS L w f d vs q n):
 ∃g a,d=.slice (some ⟨g,0,none⟩) (vs.length+1) a/\L<=g/\g<w.heap.size/\vs.length+1<=a/\(∀k x,(LH::vs)[k]?=some x->w.cell? ⟨g,k*2,none⟩=some (.string x.1)/\w.cell? ⟨g,k*2+1,none⟩=some (.int .i64 x.2))/\∀o,w.frozen? ⟨g,o,none⟩=false:=by
 obtain⟨g,a,i,j,l,m,b,p⟩:=xE e.row (Ce _);exact⟨g,a,i,j,l,m,fun k x c=>⟨b _ _ (SS (fun _=>rfl) _ k x c 0 _ rfl),b _ _ (SS (fun _=>rfl) _ k x c 1 _ rfl)⟩,p⟩
theorem zl(a:fP c w vo s)(b:Bool)(d:(s.spent || decide (s.stat≠0))=b):
 C3 21 #[(c.b,0)] w (C0 b w):=by
 obtain⟨_,_,i⟩:=a.box;obtain⟨⟨_,_,_,_,_,_,_,_,_,j⟩,_⟩:=zD i;have m:=a.lt;obtain⟨g,e⟩:∃x:Bool,decide (s.stat≠0)=x:=⟨_,rfl⟩
 have n:(s.stat != 0)=g:=by rw[<-e];by_cases a:s.stat=0<;>simp[a]
 rw[e]at d;have f:=U d;obtain⟨l,k⟩:∃x:Bool,s.spent=x:=⟨_,rfl⟩
 rw[k]at j f;clear d e i a;go_enter func21,ntmps21;cases l<;>cases g
 all_goals go_wp2_with fail
 all_goals go_ret
 all_goals exact⟨zC f.o,rfl⟩
def ST(c:gK)(vo:C8)(s:RS)(w:C7)(e:Ending)(w':C7):Prop:=e=.returned (.bool (decide (0<s.fuel)))/\fP c w' vo (zk s).st/\fF (fun k=>k=c.b) w w'
theorem BB(f:fP c w vo s)(n:s.spent=false)(p:s.stat=0):
 C3 93 #[(c.b,0)] w (ST c vo s w):=by
 obtain⟨_,m,j⟩:=f.box;obtain⟨⟨_,_,_,_,_,_,_,_,_,_⟩,_⟩:=zD j;have u:=f.lt;have a:=U f;have l:=U m;have g:=U j;obtain⟨_,_,out,i,d,_,_⟩:=s;dsimp only at n p;subst n p;clear f m j;go_enter func93,ntmps93;rcases d with _|d
 .go_wp2_with (go_at_call 21;(with_reducible refine(zl a.o false rfl).mono ?_);rintro e q ⟨rfl,rfl⟩)
  go_ret;exact⟨rfl,a.o.set g.o 9 (.bool true) (D4 g.o _) l.o a.o.inn rfl rfl Zr a.o.fc,fF.set (X:=fun k=>k=c.b) w rfl 9 _⟩
 .have r:i+(d+1)<=1000000000:=a.o.fc
  have t:d<=1000000000:=O
  have e:((d+1 :Nat):Int)-1=(d:Int):=O
  go_wp2_with (go_at_call 21;(with_reducible refine(zl a.o false rfl).mono ?_);rintro e q ⟨rfl,rfl⟩);go_ret;exact⟨Uu,a.o.set g.o 8 _ (D4 g.o _) l.o a.o.inn rfl rfl Zr (by have f:i+(d+1)<=1000000000:=a.o.fc;show i+d<=_;omega),fF.set (X:=fun k=>k=c.b) w rfl 8 _⟩
def YD:Option Nat->Nat
 |none=>0
 |some k=>k+1
def WJ(l:fG)(s:C6)(k:Nat):Prop:=∀(i:Nat) x,k<=i->l[i]?=some x->x.1≠s
theorem oP{s:C6}:∀{l:fG},(∀(i:Nat) x,l[i]?=some x->x.1≠s)->jc l s=none
 |[],_=>rfl
 | y::r,h=>by
   rw[jc,oP (l:=r) fun i x a=>h (i+1) x Xd];exact Dp (h 0 y rfl)
theorem BC{s:C6}:∀{l:fG}{k:Nat}{x:C6×Int},WJ l s (k+1)->l[k]?=some x->x.1=s->jc l s=some k
 |[],_,_,_,hk,_=>by simp at hk
 | y::r,0,x,h,hk,e=>by
   simp at hk;subst hk;rw[jc,oP (l:=r) fun i z a=>h (i+1) z O Xd];exact Dq e
 | y::r,k+1,x,h,hk,e=>by
   rw[jc,BC (l:=r) (k:=k) (fun i z _ a=>h (i+1) z O Xd) (by simpa using hk) e]
theorem WJ.start(l:fG)(s:C6):WJ l s l.length:=fun i x _ a=>Xq
theorem WJ.step{l:fG}{s:C6}{x:C6×Int}(b:WJ l s (k+1))(d:l[k]?=some x)(e:x.1≠s):WJ l s k:=fun i z _ a=>by
 by_cases c:i=k
 .subst c
  rw[d]at a;injection a with a;exact a▸e
 .exact b i z O a
theorem WJ.none{l:fG}{s:C6}(a:WJ l s 0):jc l s=Option.none:=oP fun i x b=>a i x (D1 _) b
theorem F6{L:Nat}{f:Nat}{u:C8}{t:Int}(a:gS L w f u vs t n)(s:C6)(z:Nat)(p:YD (jc vs s)=z)(_:vs.length<=281474976710656):
 C3 96 #[(f,0),s] w (C0 ((z:Int):Int) w):=by
 obtain⟨g,_,rfl,_,_,_,l,_⟩:=a.cells;obtain⟨⟨_,_,_⟩,_⟩:=zq a.box;have v:=a.lt;have q:=U l;have j:=U p;clear a l p;go_enter func96,ntmps96;go_wp2_with fail
 go_loopw [5] (fun iv wr=>∃k:Nat,k<=vs.length/\iv=.int .i64 (k:Int)/\WJ vs s k/\wr=w) (fun iv _=>(intOf iv).toNat)
 case atStart=>exact⟨vs.length,Dz _,by go_num,WJ.start _ _,rfl⟩
 case round=>
  obtain⟨k,_,rfl,m,rfl⟩:=hrel;have c:=U m;clear m;rcases k with _|k
  .go_wp2_with fail
   go_ret;exact⟨by rw[<-j.o,c.o.none];rfl,rfl⟩
  .obtain⟨x,d⟩:∃e,vs[k]?=some e:=⟨_,D2 O⟩
   obtain⟨_,_⟩:=q.o (k+1) x Xl;have i:=U d;clear d;by_cases b:x.1=s
   .have r:=xw b
    go_wp2_with fail;go_ret;exact⟨by rw[<-j.o,BC c.o i.o b];rfl,rfl⟩
   .have r:=xx b
    go_wp2_with fail;go_roundw
    case rel=>exact⟨k,O,by go_num,c.o.step i.o b,trivial⟩
    case measure=>simp[intOf]
open Go.RowKit (wrap64 wrap32)
def fR.app(q:List Int):fR (List Int)->fR (List Int)
 |.ok l s=>.ok (q++l) s
 |.fin s=>.fin s
theorem YE(x:fR (List Int)):fR.app [] x=x:=Vr
theorem SU{f:Ex->RS->fR Int}{r:List Ex}{t:RS}(h:f e s=.ok a t)(q:List Int):fR.app q (i0 f (e::r) s)=fR.app (q++[a]) (i0 f r t):=by
 rw[i0,h];show fR.app q ((i0 f r t).bind fun l s=>.ok (a::l) s)=_;cases i0 f r t with
 |fin u=>rfl
 |ok l u=>show fR.ok (q++(a::l)) u=fR.ok (q++[a]++l) u;simp
theorem F7{f:Ex->RS->fR Int}{r:List Ex}{t:RS}(h:f e s=.fin t)(q:List Int):fR.app q (i0 f (e::r) s)=.fin t:=by
 rw[i0,h];rfl
theorem LI(f:Ex->RS->fR Int)(s:RS)(q:List Int):fR.app q (i0 f [] s)=.ok q s:=by show fR.ok (q++[]) s=_;rw[Yd]
theorem N9{f:fG->St->RS->fR yF}{t:St}{a:fG}(b:f vs t s=.ok (0,n,a) u):kH f vs (t::r) s=kH f a r u:=by
 rw[kH,b];rfl
theorem OA{f:fG->St->RS->fR yF}{t:St}{a:yF}(e:f vs t s=.ok a u)(b:a.1≠0):kH f vs (t::r) s=.ok a u:=by
 rw[kH,e];show(if a.1=0 then _ else _)=_;rw[Dp b]
theorem OB{f:fG->St->RS->fR yF}{t:St}(e:f vs t s=.fin u):kH f vs (t::r) s=.fin u:=by
 rw[kH,e];rfl
theorem BD(p:Pr)(g:Nat)(vs:fG)(x:Ex)(h:s.fuel=0):f0 p (g+1) vs x s=.fin (zk s).st:=by
 obtain⟨k,op,n,td,tc⟩:=x;obtain⟨_,_,out,_,_,_,_⟩:=s;cases h;rw[f0];rfl
def xK(p:Pr)(g:Nat)(f:Fu)(l:List Int)(s:RS):fR Int:=(qH (qo p g) (fN f l) f.body s).bind fun h s=>.ok h.2.1 s
theorem SV(p:Pr)(g:Nat)(vs:fG)(op n:Int)(td:C6)(tc:List Ex)(c:0<s.fuel)(d:op=18\/op=19):
 f0 p (g+1) vs (.mk 5 op n td tc) s=(f0 p g vs (tc.getD 0 j8) (zk s).st).bind fun a s=>if decide (a≠0)=decide (op=19)then .ok a s else f0 p g vs (tc.getD 1 j8) s:=by
 obtain⟨_,_,out,_,b,_,_⟩:=s;obtain⟨f,rfl⟩:∃f,b=f+1:=⟨b-1,by dsimp only at c;omega⟩
 rw[f0];show(if _ then _ else _)=_;rw[Dq ⟨rfl,d⟩];rfl
theorem F8(p:Pr)(g:Nat)(vs:fG)(k op n:Int)(td:C6)(tc:List Ex)(b:0<s.fuel)(c:¬(k=5/\(op=18\/op=19))):
 f0 p (g+1) vs (.mk k op n td tc) s=(i0 (f0 p g vs) tc (zk s).st).bind fun l s=>qR p (xK p g) vs k op n td l s:=by
 obtain⟨_,_,out,_,a,_,_⟩:=s;obtain⟨f,rfl⟩:∃f,a=f+1:=⟨a-1,by dsimp only at b;omega⟩
 rw[f0];show(if _ then _ else _)=_;rw[Dp c];rfl
theorem vY(p:Pr)(c:Fu->List Int->RS->fR Int)(vs:fG){k:Int}(op n:Int)(td:C6)(l:List Int)(s:RS)(h:k=1\/k=2):qR p c vs k op n td l s=.ok n s:=by unfold qR;rw[Dq h]
theorem sX(p:Pr)(c:Fu->List Int->RS->fR Int)(vs:fG)(op n:Int)(td:C6)(l:List Int)(s:RS):qR p c vs 3 op n td l s=.ok (pF vs td) s:=by unfold qR;rw[Dp Us,Dq rfl]
theorem sY(p:Pr)(c:Fu->List Int->RS->fR Int)(vs:fG)(op n:Int)(td:C6)(l:List Int)(s:RS):qR p c vs 4 op n td l s=.ok (rU op (l.getD 0 0)) (zW s):=by unfold qR;rw[Dp Us,Dp Us,Dq rfl]
theorem sZ(p:Pr)(c:Fu->List Int->RS->fR Int)(vs:fG)(op n:Int)(td:C6)(l:List Int)(s:RS):qR p c vs 5 op n td l s=if ur op (l.getD 1 0)then .ok (uI op (l.getD 0 0) (l.getD 1 0)) (zW s)else .fin (kR (zW s) 2):=by unfold qR;rw[Dp Us,Dp Us,Dp Us,Dq rfl]
theorem lS(p:Pr)(c:Fu->List Int->RS->fR Int)(vs:fG)(op n:Int)(td:C6)(l:List Int)(s:RS):qR p c vs 6 op n td l s=pG p td (l.getD 0 0) (zW s):=by unfold qR;rw[Dp Us,Dp Us,Dp Us,Dp Us,Dq rfl]
theorem s0(p:Pr)(c:Fu->List Int->RS->fR Int)(vs:fG)(op n:Int)(td:C6)(l:List Int)(s:RS){f:Fu}(a:jU p td=some f):qR p c vs 7 op n td l s=c f l (zW s):=by unfold qR;rw[Dp Us,Dp Us,Dp Us,Dp Us,Dp Us,Dq rfl,a]
theorem iA(p:Pr)(c:Fu->List Int->RS->fR Int)(vs:fG)(op n:Int)(td:C6)(l:List Int)(s:RS):qR p c vs 8 op n td l s=vS (zW s):=by unfold qR;rw[Dp Us,Dp Us,Dp Us,Dp Us,Dp Us,Dp Us]
theorem s3{td:C6}{i:Int}(a:zb p.wa td=some k)(b:s.arr[k]?=some l):pG p td i s=if 0<=i/\i<l.length then .ok (l.getD i.toNat 0) s else .fin (kR s 3):=by
 unfold pG;rw[a];dsimp only;rw[b]
theorem iB(h:0<s.fuel):(zk s).st={ s with fuel:=s.fuel-1 }:=by
 obtain⟨_,_,out,_,fuel,_,_⟩:=s;obtain⟨f,rfl⟩:∃f,fuel=f+1:=⟨fuel-1,by dsimp only at h;omega⟩
 rfl
theorem iC(h:s.fuel=0):(zk s).st={ s with spent:=true }:=by
 obtain⟨_,_,out,_,_,_,spent⟩:=s;cases h;rfl
theorem zad(h:fS n):(Lit.int .i64 n).wf=true:=by
 obtain⟨_,_⟩:=h;simp[Lit.wf,IntKind.min,IntKind.max,IntKind.signed,IntKind.bits];omega
theorem SW(h:(Lit.int .i64 n).wf=true):fS n:=by
 simp[Lit.wf,IntKind.min,IntKind.max,IntKind.signed,IntKind.bits]at h;exact⟨O,O⟩
theorem YF(b:Bool):fS (MU b):=by cases b<;>exact⟨Us,Us⟩
theorem yT(n:Int):fS (wrap64 n):=by unfold wrap64 fS;omega
theorem DM(op:BinOp)(x y:Int):fS (bits op .i64 x y):=SW (wf_bits op .i64 x y)
theorem LJ(op:Int)(h:fS a):fS (rU op a):=by
 obtain⟨_,_⟩:=h;unfold rU
 repeat' split
 .exact yT _
 .exact⟨O,O⟩
 .exact⟨Us,Us⟩
 .exact⟨Us,Us⟩
 .have:=Z6 a;exact⟨O,O⟩
 .have:=Q8 a;exact⟨O,O⟩
 .exact⟨Gi,Gi⟩
 .exact⟨O,O⟩
 .exact⟨O,O⟩
 .exact⟨O,O⟩
 .exact⟨Us,Us⟩
theorem za4(c:fS a)(n:Int)(b:0<n):fS (a / n):=by
 obtain⟨_,e⟩:=c;refine⟨?_,?_⟩
 .rw[Int.le_ediv_iff_mul_le b]
  have: -9223372036854775808*n<=-9223372036854775808*1:=Int.mul_le_mul_of_nonpos_left Us O;omega
 .by_cases d:0<=a
  .exact Int.le_trans (Int.ediv_le_self n d) e
  .have:a / n<0:=Int.ediv_neg_of_neg_of_pos O b
   omega
theorem DN(op:Int)(b:Int)(c:fS a):fS (uI op a b):=by
 have d:fS 0:=⟨Us,Us⟩
 unfold uI
 repeat' split
 .exact yT _
 .exact yT _
 .exact yT _
 .unfold dvd
  repeat' split
  .exact d
  .exact yT _
  .obtain⟨_,_⟩:=c
   by_cases g:0<=a
   .have i:=Int.tmod_nonneg b g
    have j:a.tmod b<=a:=by
     have:=Int.natAbs_tmod a b;have e:a.natAbs % b.natAbs<=a.natAbs:=Nat.mod_le _ _;omega
    exact⟨O,O⟩
   .have:=Int.natAbs_tmod a b
    have e:a.natAbs % b.natAbs<=a.natAbs:=Nat.mod_le _ _;have f:=Int.tmod_nonneg b (show 0<=-a by omega);rw[Int.neg_tmod]at f;exact⟨O,O⟩
 .exact DM _ _ _
 .exact DM _ _ _
 .exact DM _ _ _
 .unfold sft
  repeat' split
  .exact yT _
  .exact za4 c _ (Int.pow_pos Us)
  .exact yT _
 .exact YF _
 .exact d
end Go.Proofs.YtjadgpiafjdnfaaGreatDoor
namespace Go.Proofs.YtjadgpiafjdnfaaGreatDoor
open Go.RowKit Tryz
variable{B k g:Nat}{p:Pr}{v0 v1 v c0 c1 c2 vo:C8}{w:C7}{e:Ex}{a t n:Int}{l:List Int}{s u:RS}{T:TypeId}{vs:fG}{c:gK}{r:List St}
theorem zae{α:Type}{f:α->C8}:∀(l:List α) (k:Nat) (x:α),l[k]?=some x->(l.map f)[k]?=some (f x):=fun l k x h=>by rw[Yn,h];rfl
theorem fP.arrs(i:fP c w vo s)(m:c.rows[k]?=some g)(d:s.arr[k]?=some l):
 ∃a b,c.vr=.slice (some ⟨a,0,none⟩) s.arr.length b/\a<w.heap.size/\w.cell? ⟨a,k,none⟩=some (.slice (some ⟨g,0,none⟩) l.length l.length)/\g<w.heap.size/\(∀j n,l[j]?=some n->w.cell? ⟨g,j,none⟩=some (.int .i64 n))/\∀o,w.frozen? ⟨g,o,none⟩=false:=by
 have u:=(List.getElem?_eq_some_iff.1 d).1;obtain⟨a,b,p,_,q,_,r,_⟩:=xE i.row O;have e:=i.arr k g l m d;refine⟨a,b,p,q,r k _ (zae (f:=A9) _ k (g,l) ?_),zB e,fun j n t=>?_,fun o=>by simp[World.frozen?,e]⟩
 .rw[Ct]
  exact⟨m,d⟩
 .rw[Dv e]
  simp[t]
def SX(c:gK)(vo:C8)(s:RS)(n:Int)(m:Nat)(w:C7)(e:Ending)(w':C7):Prop:=
 e=.returned (.bool (decide (0<=n/\n<(m:Int))))/\fP c w' vo (if 0<=n/\n<(m:Int)then s else kR s 3)/\fF (fun k=>k=c.b) w w'
theorem BE(f:fP c w vo s)(td:C6)(n:Int)(C:zb c.p.wa td=some k)(m:s.arr[k]?=some l):
 C3 97 #[(c.b,0),td,(n:Int)] w (SX c vo s n l.length w):=by
 have Z:=(List.getElem?_eq_some_iff.1 m).1;have af:=f.num;have ag:=(f.arn l (Yc m)).2;obtain⟨_,Y,D⟩:=f.box;obtain⟨⟨J,K,L,M,N,P,Q,R,S,T⟩,V⟩:=zD D;have ah:=f.lt;have y:jy (zb c.p.wa td)=(k:Int):=by rw[C];rfl
 obtain⟨g,z⟩:∃g,c.rows[k]?=some g:=⟨_,D2 (by rw[f.len];exact Z)⟩
 have i:=U f;have I:=U y;have H:=U m;have G:=U z;clear D f Y C y m z;go_enter func97,ntmps97
 go_upto_region 2 with(go_at_call 70
                       (with_reducible refine(ki c.B c.p td _ I.o _ _ _ (by have:=i.o.ord;omega) i.o.pa i.o.pf).mono ?_)
                       rintro e E ⟨rfl,r⟩;have a:=U (i.o.we r);have F:=U r
                       clear r)
 obtain⟨_,A,u⟩:=a.o.box;obtain⟨⟨_,_,_,W,_,_,_,_,_,_⟩,_⟩:=zD u;obtain⟨_,_,t,_,_,_,aa,ab⟩:=a.o.arrs G.o H.o;rw[t]at W;have x:=U A;have j:=U u;have ad:=U t;have ai:=a.o.lt;have q:=U (fF.wb (fun k=>k=c.b) F.o);clear A u aa ab t J K L M N P Q R S T V;by_cases ae:n<0
 .go_wp2_with fail
  exact Il
 .by_cases aj:n<(l.length:Int)
  .go_wp2_with fail
   go_ret;have d:0<=n/\n<(l.length:Int):=O
   refine⟨zC (by rw[decide_eq_true d]),?_,q.o⟩;rw[Dq d];exact a.o
  .go_wp2_with fail
   exact Il
