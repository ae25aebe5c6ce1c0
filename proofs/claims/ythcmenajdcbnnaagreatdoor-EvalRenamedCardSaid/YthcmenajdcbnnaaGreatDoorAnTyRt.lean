import Derived.Test.YthcmenajdcbnnaaGreatDoorAnParBlk
set_option linter.unusedSimpArgs false
set_option linter.unusedVariables false
set_option maxRecDepth 100000
set_option maxHeartbeats 99000000
namespace Go.Proofs.YthcmenajdcbnnaaGreatDoor
open Go.RowKit Tryz
theorem Ij{p:Prop}(h:p:=by
 go_wp2_with fail
 go_quiet (fail)
 go_wp2_with fail
 go_ret2
 have b:=C.o;rw[M.o,D.o]at b;dsimp only at b;rw[g3 Up,W.o,rF N.o (by rw[P.o];intro H;exact E H.2),Dl Up]at b;subst b
 exact⟨rfl,AS (AS u.o _) _⟩):p:=h
variable{B g:Nat}{p:Pr}{v0 v1 v:C4}{w:C3}{a t k op n:Int}{l:List Int}{s:C2}{vs:d2}
structure gG (B:Nat) (p:Pr) (vars:List Pa) (v0 v1 v:C4) (w:C3):Prop where
 hB:B<=w.heap.size
 ha:eZ B w v0 p.wa
 hf:e0 B w v1 p.funcs
 hv:e5 B w v vars
theorem gG.below{tf:List Pa}{w':C3}(a:gG B p tf v0 v1 v w)(b:Below B w w'):gG B p tf v0 v1 v w' where
 hB:=Dr a.hB b.size
 ha:=a.ha.below b Zr
 hf:=a.hf.below b Zr
 hv:=a.hv.below b Zr
theorem gG.form{tf:List Pa}(g:gG B p tf v0 v1 v w):∃a d b e c f,v0=.slice a p.wa.length d/\v1=.slice b p.funcs.length e/\v=.slice c tf.length f:=by
 obtain⟨a,d,i,_⟩:=g.ha.form;obtain⟨b,e,j,_⟩:=g.hf.form;obtain⟨c,f,k,_⟩:=g.hv.form;exact⟨a,d,b,e,c,f,i,j,k⟩
def XA(m:Nat):Prop:=∀(B:Nat) (p:Pr) (tf:List Pa) (e:Ex) (r:Int×Int) (x v0 v1 v:C4) (w:C3),vA e m=true->l7 p->qF p tf e=r->gG B p tf v0 v1 v w->iY B w e x->
 Cy 120 #[.agg #[v0,v1],v,x] w (Cv (.tuple #[(r.1:Int),(r.2:Int)]) w)
theorem XA.call{m:Nat}(a:XA m){tf:List Pa}{e:Ex}{r:Int×Int}{x:C4}(b:vA e m=true)(c:l7 p)(d:qF p tf e=r)(f:gG B p tf v0 v1 v w)(g:iY B w e x):
 Cy 120 #[.agg #[v0,v1],v,x] w (Cv (.tuple #[(r.1:Int),(r.2:Int)]) w):=a B p tf e r x v0 v1 v w b c d f g
theorem js(B:Nat)(p:Pr)(s:C2)(z:Int)(d:ko (qN p.funcs s)=z)(v0 v1:C4)(w:C3)(a:B<=w.heap.size)(b:eZ B w v0 p.wa)(c:e0 B w v1 p.funcs):
 Cy 36 #[.agg #[v0,v1],s] w (Cv (z:Int) w):=d▸IL B p s v0 v1 w a b c
theorem y8(B:Nat)(p:Pr)(s:C2)(z:Int)(d:ko (ze p.wa s)=z)(v0 v1:C4)(w:C3)(a:B<=w.heap.size)(b:eZ B w v0 p.wa)(c:e0 B w v1 p.funcs):
 Cy 99 #[.agg #[v0,v1],s] w (Cv (z:Int) w):=d▸IM B p s v0 v1 w a b c
theorem kR(B:Nat)(l:List Pa)(s:C2)(t:Int)(b:Bool)(e:(zX l s).getD 0=t)(c:(zX l s).isSome=b)(v:C4)(w:C3)(a:B<=w.heap.size)(d:e5 B w v l):
 Cy 72 #[v,s] w (Cw (.tuple #[(t:Int),.bool b]) w):=e▸c▸NS B l s v w a d
theorem AS{a:C3}(h:Below B a w)(n:Nat):Below B a (w.drewN n):=h.trans ⟨rfl,rfl,rfl,Dy _,fun _ _=>rfl⟩
def XC(a:Int)(l:List Int)(j:Nat):Prop:=∀(i:Nat) t,i<j->l[i]?=some t->(a=0\/t=a)/\t=l.headD 0
theorem XC.zero(a:Int)(l:List Int):XC a l 0:=fun i t b=>absurd b O
theorem XC.succ{j:Nat}(c:XC a l j)(f:l[j]?=some t)(e:(a=0\/t=a)/\t=l.headD 0):XC a l (j+1):=fun i x _ b=>by
 by_cases d:i=j
 .subst d
  rw[f]at b;injection b with b;exact b▸e
 .exact c i x O b
theorem XC.all(c:XC a l l.length):(l.all fun t=>decide ((a=0\/t=a)/\t=l.headD 0))=true:=by
 rw[Yv];intro t d;obtain⟨i,b⟩:=List.getElem?_of_mem d;exact decide_eq_true (c i t (List.getElem?_eq_some_iff.1 b).1 b)
theorem rF{i:Nat}(c:l[i]?=some t)(b:¬((a=0\/t=a)/\t=l.headD 0)):(l.all fun t=>decide ((a=0\/t=a)/\t=l.headD 0))=false:=by
 rw[List.all_eq_false];exact⟨t,Ye c,Uz⟩
theorem g3{tf:List Pa}(h:k=4\/k=5):j8 p tf k op s l=if(l.all fun t=>decide ((jZ op=0\/t=jZ op)/\t=l.headD 0))=true then(vx op,0)else(0,51):=by
 unfold j8;rw[Dl O,Dl O,Dl O,Dl O,Dm h]
theorem AT{tf:List Pa}:j8 p tf 6 op s l=if l.headD 0=1 then(1,0)else(0,51):=by
 unfold j8;rw[Dl Up,Dl Up,Dl Up,Dm rfl]
theorem n8:l.map (Value.int .i64)++[Value.int .i64 t]=(l++[t]).map (Value.int .i64):=Ur
abbrev ki(k op n:Int)(s:C2)(A:Option Addr)(m c:Nat):Obj:=.cells #[(k:Int),(op:Int),(n:Int),s,(A,m,c)] 147
theorem xa{b c d e f:C4}{T:TypeId}(a:w.heap[g]?=some (.cells #[b,c,d,e,f] T (0,0))):w.cell? (g,0)=some b/\w.cell? (g,1)=some c/\w.cell? (g,2)=some d/\w.cell? (g,3)=some e/\w.cell? (g,4)=some f:=
 ⟨(Ds a 0).trans rfl,(Ds a 1).trans rfl,(Ds a 2).trans rfl,(Ds a 3).trans rfl,(Ds a 4).trans rfl⟩
theorem y9(d:Int)(m:Nat)(a7:XA m)(B:Nat)(p:Pr)(tf:List Pa)(op n:Int)(s:C2)(tc:List Ex)(r:Int×Int)(a8 v0 v1 v:C4)(w:C3)(Z:zk d op n s tc.length=true)(aT:zr tc m=true)(aW:l7 p)(an:gG B p tf v0 v1 v w)(A:xA B w a8 tc)
 (bC:d=4\/d=5\/d=1\/d=2\/d=3\/d=8) (aO:jp p tf d s=true) (hF:kb p d s tc.length=true) (a1:d=3->(zX tf s).isSome=true) (aP:∀l,(d=4\/d=5)\/j8 p tf d op s l=(if d=2 then 2 else if d=3 then(zX tf s).getD 0 else 1,0)) (_:tc.length<=8) (aX:qF p tf (.mk d op n s tc)=r):
 Cy 120 #[.agg #[v0,v1],v,.agg #[(d:Int),(op:Int),(n:Int),s,a8]] w (Cv (.tuple #[(r.1:Int),(r.2:Int)]) w):=by
 have C:=U (show qF p tf (.mk d op n s tc)=(match zq p tf tc with | .inl e=>(0,e) | .inr l=>j8 p tf d op s l)by rw[yf,aO,hF];rfl);obtain⟨J,Q,K,R,_,_,rfl,rfl,rfl⟩:=an.form;obtain⟨V,c,rfl,_⟩:=A.form;obtain⟨bI,ar,a3,a4,a5⟩:=info_parts xK;have ab:=U (Do ar (Do a3 (Do a4 a5)));obtain⟨z,a6⟩:=Cz (ko (qN p.funcs s));have bq:=U a6;clear a6;obtain⟨t0,a0⟩:=Cz ((zX tf s).getD 0);have aG:=U a0;clear a0;obtain⟨bK,a2⟩:=Cz ((zX tf s).isSome);have aH:=U a2;clear a2;have bl:=C0 (d=3->bK=true) (fun e=>aH.o.symm.trans (a1 e));have bh:=U aP;clear aO hF a1 aP;have q:=U an;have bk:=U aW;have D:=U aX;have bf:=U aT;have aJ:=U A;have be:=U a7;have aI:=C0 (Cx w ((w.alloc (qW J p.wa.length Q K p.funcs.length R)).alloc (ki d op n s V tc.length c))) ((Zb.alloc Zr _).alloc Ur _);have bo:=C0 (((w.alloc (qW J p.wa.length Q K p.funcs.length R)).alloc (ki d op n s V tc.length c)).heap[w.heap.size]?=some (qW J p.wa.length Q K p.funcs.length R)) ((D3 _ _ _ Ur).trans (Dq w _));have bp:=C0 (((w.alloc (qW J p.wa.length Q K p.funcs.length R)).alloc (ki d op n s V tc.length c)).heap[w.heap.size+1]?=some (ki d op n s V tc.length c)) (by simpa using Dq (w.alloc (qW J p.wa.length Q K p.funcs.length R)) (ki d op n s V tc.length c));clear an aW Z A aX ar a3 a4 a5 aT a7;rcases bC with rfl|rfl|rfl|rfl|rfl|rfl
 all_goals(try(obtain rfl:=bl.o rfl))
 all_goals
  go_enter func120,ntmps120
  go_wp2_with (first
   | (go_at_call 36
      have af:=q.o.below (aI.o.mono q.o.hB)
      (with_reducible refine(js B p s _ bq.o _ _ _ af.hB af.ha af.hf).mono ?_)
      rintro e w1 ⟨rfl,F⟩;have aa:=(F.block (w.heap.size+1) Ur).trans bp.o;have ag:=(F.block w.heap.size Uq).trans bo.o;obtain⟨_,_,_,_,_⟩:=xa aa;obtain⟨⟨_,_⟩,_⟩:=zD ag;have bP:w.heap.size+1<w1.heap.size:=zB aa;have bO:w.heap.size<w1.heap.size:=O
      have bm:=U ag;have bn:=U aa;have ap:Cx w w1:=aI.o.trans (F.mono Uq);have a9:=U ap;have aD:=U (q.o.below (ap.mono q.o.hB))
      clear F af aa ag ap)
   | (go_at_call 72
      (with_reducible refine(kR B tf s _ _ aG.o aH.o _ _ aD.o.hB aD.o.hv).mono ?_)
      rintro e w9 ⟨rfl,rfl⟩))
  go_quiet (fail)
  go_wp2_with fail
  go_loopw [11,12] (fun bJ iv wr=>∃(j:Nat) (l:List Int),j<=tc.length/\iv=.int .i64 j/\l.length=j/\zq p tf (tc.take j)=.inr l/\wr.ownsRow w1.heap.size 3 1 bJ j (l.map (Value.int .i64))/\Cx w1 wr) (fun _ iv _=>tc.length-(intOf iv).toNat)
  case atStart=>exact⟨0,[],Dw _,rfl,rfl,by rw[Yu,zq],Ym _ _ _ _,AS Zb _⟩
  case round=>
   obtain⟨j,l,bx,rfl,aS,aY,av,T⟩:=hrel;obtain⟨aA,aK,rfl⟩:=jG av;have bQ:=T.size;have ax:Cx w wr:=a9.o.trans (T.mono O);obtain⟨⟨_,_⟩,_⟩:=zD ((T.block w.heap.size O).trans bm.o);obtain⟨_,_,_,_,_⟩:=xa ((T.block (w.heap.size+1) O).trans bn.o);have ba:=U T;have u:=U ax;have L:=U av;have ad:=U aY;have bb:=U (q.o.below (ax.mono q.o.hB));have bD:w.heap.size<wr.heap.size:=O
   have bF:w.heap.size+1<wr.heap.size:=O
   clear T ax av aY;by_cases au:j<tc.length
   .obtain⟨⟨ah,aj,ai,s',ae⟩,Y⟩:∃e,tc[j]?=some e:=⟨_,Dz au⟩
    obtain⟨g,o,v',rfl,_,_,_,_,_,_,aw⟩:=(aJ.o.below (u.o.mono q.o.hB) Zr).cells Y;obtain⟨aB,aL,rfl,_⟩:=aw.form;have bc:=C0 (iY B wr (.mk ah aj ai s' ae) (.agg #[(ah:Int),(aj:Int),(ai:Int),s',(aB,ae.length,aL)])) ⟨_,rfl,(aJ.o.below (u.o.mono q.o.hB) Zr).range Y,aw⟩;have bv:g<wr.heap.size:=by have:=q.o.hB;omega
    obtain⟨⟨t,f⟩,aZ⟩:=Cz (qF p tf (.mk ah aj ai s' ae));have X:=U aZ;have bj:=U (jK bf.o Y);have aE:=U Y;clear aw aZ Y;by_cases aQ:f=0
    all_goals(try subst aQ)
    all_goals
     go_wp2_with fail
     go_region_held3 (fun w'=>w'.cell? (w.heap.size,0)=some (.slice J p.wa.length Q)/\w'.cell? (w.heap.size,1)=some (.slice K p.funcs.length R)/\w'.cell? (w.heap.size+1,4)=some (.slice (some ⟨g,o,none⟩) tc.length c)/\w'.cell? (g,o+j*5)=some (.int .i64 ah)/\w'.cell? (g,o+j*5+1)=some (.int .i64 aj)/\w'.cell? (g,o+j*5+2)=some (.int .i64 ai)/\w'.cell? (g,o+j*5+3)=some (.string s')/\w'.cell? (g,o+j*5+4)=some (.slice aB ae.length aL))
      (first
        |(go_split_ands;refine⟨?_,?_,?_,?_,?_,?_,?_,?_⟩ <;>(first|(rw[bA];assumption)|(rw[bH];assumption)|(rw[bu];assumption)))
        |go_keep)
      (first
        | (go_at_call 120
           (refine(be.o.call (w:=wr.drew) bj.o bk.o X.o (bb.o.below Zb.drew) (bc.o.below Zb.drew Zr)).mono ?_)
           rintro e I ⟨rfl,F⟩;have G:Cx wr I:=Zb.drew.trans F;have bR:wr.heap.size<=I.heap.size:=G.size;have bA:∀k,I.cell? ⟨w.heap.size,k,none⟩=wr.cell? ⟨w.heap.size,k,none⟩:=fun k=>G.cell (p:=⟨w.heap.size,k,none⟩) bD
           have bH:∀k,I.cell? ⟨w.heap.size+1,k,none⟩=wr.cell? ⟨w.heap.size+1,k,none⟩:=fun k=>G.cell (p:=⟨w.heap.size+1,k,none⟩) bF
           have bu:∀k,I.cell? ⟨g,k,none⟩=wr.cell? ⟨g,k,none⟩:=fun k=>G.cell (p:=⟨g,k,none⟩) bv
           have aC:=U G;have aF:=U (qU (zv L.o fun k Z=>G.block k (zR L.o k Z).2) (.cells #[(t:Int)] 3));have bg:=U (xJ I [.int .i64 t] 3)
           clear F G))
    .go_wp2_with (at_builtin;refine wpList_append_own _ rfl (.tmp 97) (.tmp 99) _ rfl w1.heap.size 3 bI _ 1 8 underlying23 ab.o.1 ab.o.2.1 ab.o.2.2.1 ab.o.2.2.2 rfl O (.slice aA j aK) j _ rfl (by exact aF.o) ⟨I.heap.size,0,none⟩ 1 1 [.int .i64 t] rfl rfl (by exact bg.o) Uw Uv O Uq ?_
                  intro _ _ aV aR _;have bd:=U aR;have bi:=U aV
                  clear aV aR)
     go_roundw
     case rel=>
      refine⟨j+1,l++[t],O,by go_num,by simp[aS],?_,?_,?_⟩
      .have:=fK ad.o aE.o (by rw[X.o])
       rwa [X.o]at this
      .rw[<-n8];exact bi.o
      .exact((ba.o.trans (aC.o.mono O)).alloc O _).grown bd.o Uq fun k Z=>(zR aF.o k Z).1
     case measure=>simp[intOf];omega
    .go_wp2_with fail
     go_ret2
     have b:=C.o;rw[iE ad.o aE.o (by rw[X.o];exact aQ),X.o]at b;rw[D.o]at b;subst b;exact⟨rfl,u.o.trans (aC.o.mono O)⟩
   .have bz:j=tc.length:=by omega
    subst bz;have M:=U (show zq p tf tc=.inr l by have:=ad.o;rwa [D9 Zr]at this);clear ad bx au
    first
     | (go_wp2_with fail
        go_ret2
        have b:=C.o;rw[M.o,D.o]at b;dsimp only at b;have aN:=(bh.o l).resolve_left Up;simp[aG.o]at aN;rw[aN]at b;subst b
        exact⟨rfl,u.o⟩)
     | (go_wp2_with (go_at_call 145;(with_reducible refine(EO op _).mono ?_);rintro e w9 ⟨rfl,rfl⟩)
        obtain⟨a,ao⟩:=Cz (jZ op);have W:=U ao;have bM:=U (zv (w':=wr) L.o fun _ _=>rfl);rw[ao];clear ao
        go_loopw [18] (fun iv bL=>∃i nq:Nat,i<=tc.length/\iv=.int .i64 i/\XC a l i/\bL=wr.drewN nq) (fun iv _=>tc.length-(intOf iv).toNat)
        case atStart=>exact⟨0,0,Dw _,rfl,XC.zero _ _,rfl⟩
        case round=>
         obtain⟨i,nq,ar,rfl,aU,rfl⟩:=hrel;have ak:=U aU;clear aU;by_cases au:i<tc.length
         .obtain⟨x,A⟩:∃e,l[i]?=some e:=⟨_,Dz O⟩
          have aq:l[0]?=some (l.headD 0):=by
           cases l with
           |nil=>simp at A
           |cons a r=>rfl
          obtain⟨az,ay⟩:=Cz (l.headD 0);rw[ay]at aq
          obtain⟨aM,_,am,_⟩:∃g c,Value.slice aA tc.length aK=.slice (some ⟨g,0,none⟩) tc.length c/\g<wr.heap.size:=by
           rcases L.o.2 with⟨_,y⟩|⟨g,bs,_,bG,_,E,_⟩
           .omega
           .exact⟨g,bs,bG,zB E⟩
          injection am with am _ bt;subst am bt;have ag:wr.cell? (aM,i)=some (.int .i64 x):=(L.o.cellAt i O).trans (by rw[Yl,A];rfl);have aa:wr.cell? (aM,0)=some (.int .i64 az):=(L.o.cellAt 0 O).trans (by rw[Yl,aq];rfl);have N:=U A;have P:=U ay;clear A aq ay;by_cases E:x=az
          .subst E
           by_cases y:a=0
           .subst y
            go_wp2_with fail
            go_quiet (fail)
            go_wp2_with fail;go_roundw
            case rel=>exact⟨i+1,_,O,by go_num,ak.o.succ N.o ⟨.inl rfl,P.o.symm⟩,rfl⟩
            case measure=>simp[intOf];omega
           .by_cases S:x=a
            .subst S
             have al:(x != 0)=true:=by simp[y]
             go_wp2_with fail
             go_quiet (fail)
             go_wp2_with fail;go_roundw
             case rel=>exact⟨i+1,_,O,by go_num,ak.o.succ N.o ⟨.inr rfl,P.o.symm⟩,rfl⟩
             case measure=>simp[intOf];omega
            .have al:(a != 0)=true:=by simp[y]
             have br:(x != a)=true:=by simp[S]
             go_wp2_with fail
             go_quiet (fail)
             go_wp2_with fail
             go_ret2
             have b:=C.o;rw[M.o,D.o]at b;dsimp only at b;rw[g3 Up,W.o,rF N.o (by rw[P.o];intro H;exact H.1.elim y S),Dl Up]at b;subst b;exact⟨rfl,AS (AS u.o _) _⟩
          .have bN:(x != az)=true:=by simp[E]
           by_cases y:a=0
           .subst y
            exact Ij
           .by_cases S:x=a
            .subst S
             have al:(x != 0)=true:=by simp[y]
             exact Ij
            .have al:(a != 0)=true:=by simp[y]
             have br:(x != a)=true:=by simp[S]
             exact Ij
         .have bw:i=tc.length:=by omega
          subst bw;go_wp2_with fail
          go_ret2
          have b:=C.o;rw[M.o,D.o]at b;dsimp only at b;rw[g3 Up,W.o,XC.all (by rw[aS];exact ak.o),Dm rfl]at b;subst b
          exact⟨rfl,AS u.o _⟩)
theorem FQ(m:Nat)(aV:XA m)(B:Nat)(p:Pr)(tf:List Pa)(op n:Int)(s:C2)(tc:List Ex)(r:Int×Int)(aW v0 v1 v:C4)(w:C3)(R:zk 6 op n s tc.length=true)(aH:zr tc m=true)(aJ:l7 p)(ak:gG B p tf v0 v1 v w)(y:xA B w aW tc)
 (q:Nat) (am:ze p.wa s=some q) (X:tc.length=1) (_:tc.length<=8) (aK:qF p tf (.mk 6 op n s tc)=r):
 Cy 120 #[.agg #[v0,v1],v,.agg #[(6:Int),(op:Int),(n:Int),s,aW]] w (Cv (.tuple #[(r.1:Int),(r.2:Int)]) w):=by
 have af:=U (show qF p tf (.mk 6 op n s tc)=(match zq p tf tc with | .inl e=>(0,e) | .inr l=>j8 p tf 6 op s l)by rw[yf,show jp p tf 6 s=true from by simp[jp,am],show kb p 6 s tc.length=true from rfl];rfl);obtain⟨F,I,G,J,_,_,rfl,rfl,rfl⟩:=ak.form;obtain⟨M,c,rfl,_⟩:=y.form;obtain⟨bw,aE,aR,aS,aT⟩:=info_parts xK;have S:=U (Do aE (Do aR (Do aS aT)));obtain⟨z,aU⟩:=Cz (ko (qN p.funcs s));have bd:=U aU;clear aU;obtain⟨t0,aP⟩:=Cz ((zX tf s).getD 0);have a9:=U aP;clear aP;obtain⟨_,aQ⟩:=Cz ((zX tf s).isSome);have ba:=U aQ;clear aQ;have aY:=U (show ko (ze p.wa s)=(q:Int)by rw[am];rfl);have aX:=U X;clear am X;have i:=U ak;have a8:=U aJ;have ag:=U aK;have a4:=U aH;have az:=U y;have a3:=U aV;have ay:=C0 (Cx w ((w.alloc (qW F p.wa.length I G p.funcs.length J)).alloc (ki 6 op n s M tc.length c))) ((Zb.alloc Zr _).alloc Ur _);have bb:=C0 (((w.alloc (qW F p.wa.length I G p.funcs.length J)).alloc (ki 6 op n s M tc.length c)).heap[w.heap.size]?=some (qW F p.wa.length I G p.funcs.length J)) ((D3 _ _ _ Ur).trans (Dq w _));have bc:=C0 (((w.alloc (qW F p.wa.length I G p.funcs.length J)).alloc (ki 6 op n s M tc.length c)).heap[w.heap.size+1]?=some (ki 6 op n s M tc.length c)) (by simpa using Dq (w.alloc (qW F p.wa.length I G p.funcs.length J)) (ki 6 op n s M tc.length c));clear ak aJ R y aK aE aR aS aT aH aV;go_enter func120,ntmps120
 go_wp2_with (first
  | (go_at_call 36
     have Z:=i.o.below (ay.o.mono i.o.hB)
     (with_reducible refine(js B p s _ bd.o _ _ _ Z.hB Z.ha Z.hf).mono ?_)
     rintro e w1 ⟨rfl,d⟩;have u:=(d.block (w.heap.size+1) Ur).trans bc.o;have A:=(d.block w.heap.size Uq).trans bb.o;obtain⟨bf,bg,bh,bi,bj⟩:=xa u;obtain⟨⟨bz,bA⟩,bC⟩:=zD A;have aM:w.heap.size+1<w1.heap.size:=zB u;have aL:w.heap.size<w1.heap.size:=O
     have ah:=U A;have ai:=U u;have D:Cx w w1:=ay.o.trans (d.mono Uq);have ae:=U D;have H:=U (i.o.below (D.mono i.o.hB))
     clear d Z u A D)
  | (go_at_call 72
     (with_reducible refine(kR B tf s _ _ a9.o ba.o _ _ H.o.hB H.o.hv).mono ?_)
     rintro e w9 ⟨rfl,rfl⟩)
  | (go_at_call 99
     (with_reducible refine(y8 B p s _ aY.o _ _ _ H.o.hB H.o.ha H.o.hf).mono ?_)
     rintro e L ⟨rfl,d⟩;have u:=(d.block (w.heap.size+1) aM).trans ai.o;have A:=(d.block w.heap.size aL).trans ah.o;obtain⟨bf,bg,bh,bi,bj⟩:=xa u;obtain⟨⟨bz,bA⟩,bC⟩:=zD A;have aM:w.heap.size+1<L.heap.size:=zB u;have aL:w.heap.size<L.heap.size:=O
     have ah:=U A;have ai:=U u;have D:Cx w L:=ae.o.trans (d.mono O);have ae:=U D;have H:=U (i.o.below (D.mono i.o.hB))
     clear d u A D))
 go_quiet (fail)
 go_wp2_with fail
 go_loopw [11,12] (fun bx iv wr=>∃(j:Nat) (l:List Int),j<=tc.length/\iv=.int .i64 j/\l.length=j/\zq p tf (tc.take j)=.inr l/\wr.ownsRow L.heap.size 3 1 bx j (l.map (Value.int .i64))/\Cx L wr) (fun _ iv _=>tc.length-(intOf iv).toNat)
 case atStart=>exact⟨0,[],Dw _,rfl,rfl,by rw[Yu,zq],Ym _ _ _ _,AS Zb _⟩
 case round=>
  obtain⟨j,l,bo,rfl,br,aN,al,K⟩:=hrel;obtain⟨ap,aA,rfl⟩:=jG al;have bF:=K.size;have ao:Cx w wr:=ae.o.trans (K.mono O);obtain⟨⟨_,_⟩,_⟩:=zD ((K.block w.heap.size O).trans ah.o);obtain⟨_,_,_,_,_⟩:=xa ((K.block (w.heap.size+1) O).trans ai.o);have aZ:=U K;have P:=U ao;have T:=U al;have V:=U aN;have a0:=U (i.o.below (ao.mono i.o.hB));have bs:w.heap.size<wr.heap.size:=O
  have bt:w.heap.size+1<wr.heap.size:=O
  clear K ao al aN;by_cases aF:j<tc.length
  .obtain⟨⟨aa,ad,ab,s',W⟩,Q⟩:∃e,tc[j]?=some e:=⟨_,Dz aF⟩
   obtain⟨g,o,v',rfl,_,_,_,_,_,_,an⟩:=(az.o.below (P.o.mono i.o.hB) Zr).cells Q;obtain⟨aq,aB,rfl,_⟩:=an.form;have a1:=C0 (iY B wr (.mk aa ad ab s' W) (.agg #[(aa:Int),(ad:Int),(ab:Int),s',(aq,W.length,aB)])) ⟨_,rfl,(az.o.below (P.o.mono i.o.hB) Zr).range Q,an⟩;have bn:g<wr.heap.size:=by have:=i.o.hB;omega
   obtain⟨⟨t,f⟩,aO⟩:=Cz (qF p tf (.mk aa ad ab s' W));have N:=U aO;have a7:=U (jK a4.o Q);have au:=U Q;clear an aO Q;by_cases aC:f=0
   all_goals(try subst aC)
   all_goals
    go_wp2_with fail
    go_region_held3 (fun w'=>w'.cell? (w.heap.size,0)=some (.slice F p.wa.length I)/\w'.cell? (w.heap.size,1)=some (.slice G p.funcs.length J)/\w'.cell? (w.heap.size+1,4)=some (.slice (some ⟨g,o,none⟩) tc.length c)/\w'.cell? (g,o+j*5)=some (.int .i64 aa)/\w'.cell? (g,o+j*5+1)=some (.int .i64 ad)/\w'.cell? (g,o+j*5+2)=some (.int .i64 ab)/\w'.cell? (g,o+j*5+3)=some (.string s')/\w'.cell? (g,o+j*5+4)=some (.slice aq W.length aB))
     (first
       |(go_split_ands;refine⟨?_,?_,?_,?_,?_,?_,?_,?_⟩ <;>(first|(rw[bq];assumption)|(rw[bv];assumption)|(rw[bm];assumption)))
       |go_keep)
     (first
       | (go_at_call 120
          (refine(a3.o.call (w:=wr.drew) a7.o a8.o N.o (a0.o.below Zb.drew) (a1.o.below Zb.drew Zr)).mono ?_)
          rintro e E ⟨rfl,d⟩;have C:Cx wr E:=Zb.drew.trans d;have bG:wr.heap.size<=E.heap.size:=C.size;have bq:∀k,E.cell? ⟨w.heap.size,k,none⟩=wr.cell? ⟨w.heap.size,k,none⟩:=fun k=>C.cell (p:=⟨w.heap.size,k,none⟩) bs
          have bv:∀k,E.cell? ⟨w.heap.size+1,k,none⟩=wr.cell? ⟨w.heap.size+1,k,none⟩:=fun k=>C.cell (p:=⟨w.heap.size+1,k,none⟩) bt
          have bm:∀k,E.cell? ⟨g,k,none⟩=wr.cell? ⟨g,k,none⟩:=fun k=>C.cell (p:=⟨g,k,none⟩) bn
          have ar:=U C;have aw:=U (qU (zv T.o fun k R=>C.block k (zR T.o k R).2) (.cells #[(t:Int)] 3));have a5:=U (xJ E [.int .i64 t] 3)
          clear d C))
   .go_wp2_with (at_builtin;refine wpList_append_own _ rfl (.tmp 97) (.tmp 99) _ rfl L.heap.size 3 bw _ 1 8 underlying23 S.o.1 S.o.2.1 S.o.2.2.1 S.o.2.2.2 rfl O (.slice ap j aA) j _ rfl (by exact aw.o) ⟨E.heap.size,0,none⟩ 1 1 [.int .i64 t] rfl rfl (by exact a5.o) Uw Uv O Uq ?_
                 intro _ _ aI aD _;have a2:=U aD;have a6:=U aI
                 clear aI aD)
    go_roundw
    case rel=>
     refine⟨j+1,l++[t],O,by go_num,by simp[br],?_,?_,?_⟩
     .have:=fK V.o au.o (by rw[N.o])
      rwa [N.o]at this
     .rw[<-n8];exact a6.o
     .exact((aZ.o.trans (ar.o.mono O)).alloc O _).grown a2.o Uq fun k R=>(zR aw.o k R).1
    case measure=>simp[intOf];omega
   .go_wp2_with fail
    go_ret2
    have b:=af.o;rw[iE V.o au.o (by rw[N.o];exact aC),N.o]at b;rw[ag.o]at b;subst b;exact⟨rfl,P.o.trans (ar.o.mono O)⟩
  .have bp:j=tc.length:=by omega
   subst bp;have ax:=U (show zq p tf tc=.inr l by have:=V.o;rwa [D9 Zr]at this);clear V bo aF;have X:=aX.o
   obtain⟨bk,_,aj,_⟩:∃g c,Value.slice ap tc.length aA=.slice (some ⟨g,0,none⟩) tc.length c/\g<wr.heap.size:=by
    rcases T.o.2 with⟨_,_⟩|⟨g,be,_,bu,_,Y,_⟩
    .omega
    .exact⟨g,be,bu,zB Y⟩
   injection aj with aj _ bl;subst aj bl;obtain⟨x,y⟩:∃e,l[0]?=some e:=⟨_,Dz O⟩
   have A:wr.cell? (bk,0)=some (.int .i64 x):=(T.o.cellAt 0 O).trans (by rw[Yl,y];rfl)
   have aG:l.headD 0=x:=by
    cases l with
    |nil=>simp at y
    |cons a r=>simpa using y
   have av:=U aG;have bD:0<tc.length:=O
   clear y aG X;by_cases Y:x=1
   .subst Y
    go_wp2_with fail
    go_ret2
    have b:=af.o;rw[ax.o,ag.o]at b;dsimp only at b;rw[show j8 p tf 6 op s l=(1,0)from by rw[AT,av.o];rfl]at b;subst b;exact⟨rfl,P.o⟩
   .go_wp2_with fail
    go_ret2
    have b:=af.o;rw[ax.o,ag.o]at b;dsimp only at b;rw[show j8 p tf 6 op s l=(0,51)from by rw[AT,av.o,Dl Y]]at b;subst b;exact⟨rfl,P.o⟩
theorem CS(m:Nat)(M:XA m)(B:Nat)(p:Pr)(tf:List Pa)(op n:Int)(s:C2)(tc:List Ex)(r:Int×Int)(N v0 v1 v:C4)(w:C3)(Y:zk 3 op n s tc.length=true)(E:zr tc m=true)(F:l7 p)(t:gG B p tf v0 v1 v w)(x:xA B w N tc)
 (l:zX tf s=none) (_:tc.length<=8) (G:qF p tf (.mk 3 op n s tc)=r):
 Cy 120 #[.agg #[v0,v1],v,.agg #[(3:Int),(op:Int),(n:Int),s,N]] w (Cv (.tuple #[(r.1:Int),(r.2:Int)]) w):=by
 have Q:=U (show qF p tf (.mk 3 op n s tc)=(0,50)by rw[yf,show jp p tf 3 s=false from by simp[jp,l]];rfl);obtain⟨b,f,d,g,_,_,rfl,rfl,rfl⟩:=t.form;obtain⟨a,c,rfl,_⟩:=x.form;obtain⟨_,D,I,J,K⟩:=info_parts xK;have Z:=U (Do D (Do I (Do J K)));obtain⟨z,L⟩:=Cz (ko (qN p.funcs s));have X:=U L;clear L;have S:=U (show(zX tf s).getD 0=0 by rw[l];rfl);have T:=U (show(zX tf s).isSome=false by rw[l];rfl);clear l;have i:=U t;have ad:=U F;have R:=U G;have ab:=U E;have ae:=U x;have aa:=U M;have C:=C0 (Cx w ((w.alloc (qW b p.wa.length f d p.funcs.length g)).alloc (ki 3 op n s a tc.length c))) ((Zb.alloc Zr _).alloc Ur _);have V:=C0 (((w.alloc (qW b p.wa.length f d p.funcs.length g)).alloc (ki 3 op n s a tc.length c)).heap[w.heap.size]?=some (qW b p.wa.length f d p.funcs.length g)) ((D3 _ _ _ Ur).trans (Dq w _));have W:=C0 (((w.alloc (qW b p.wa.length f d p.funcs.length g)).alloc (ki 3 op n s a tc.length c)).heap[w.heap.size+1]?=some (ki 3 op n s a tc.length c)) (by simpa using Dq (w.alloc (qW b p.wa.length f d p.funcs.length g)) (ki 3 op n s a tc.length c));clear t F Y x G D I J K E M;go_enter func120,ntmps120
 go_wp2_with (first
  | (go_at_call 36
     have j:=i.o.below (C.o.mono i.o.hB)
     (with_reducible refine(js B p s _ X.o _ _ _ j.hB j.ha j.hf).mono ?_)
     rintro e w1 ⟨rfl,k⟩;have q:=(k.block (w.heap.size+1) Ur).trans W.o;have y:=(k.block w.heap.size Uq).trans V.o;obtain⟨_,_,_,_,_⟩:=xa q;obtain⟨⟨_,_⟩,_⟩:=zD y;have ai:w.heap.size+1<w1.heap.size:=zB q;have ah:w.heap.size<w1.heap.size:=O
     have af:=U y;have ag:=U q;have u:Cx w w1:=C.o.trans (k.mono Uq);have P:=U u;have A:=U (i.o.below (u.mono i.o.hB))
     clear k j q y u)
  | (go_at_call 72
     (with_reducible refine(kR B tf s _ _ S.o T.o _ _ A.o.hB A.o.hv).mono ?_)
     rintro e w9 ⟨rfl,rfl⟩))
 go_ret2
 have H:=Q.o;rw[R.o]at H;subst H;exact⟨rfl,P.o⟩
theorem sW(m:Nat)(W:XA m)(B:Nat)(p:Pr)(tf:List Pa)(op n:Int)(s:C2)(tc:List Ex)(r:Int×Int)(X v0 v1 v:C4)(w:C3)(am:zk 6 op n s tc.length=true)(I:zr tc m=true)(J:l7 p)(y:gG B p tf v0 v1 v w)(C:xA B w X tc)
 (A:ze p.wa s=none) (_:tc.length<=8) (K:qF p tf (.mk 6 op n s tc)=r):
 Cy 120 #[.agg #[v0,v1],v,.agg #[(6:Int),(op:Int),(n:Int),s,X]] w (Cv (.tuple #[(r.1:Int),(r.2:Int)]) w):=by
 have Z:=U (show qF p tf (.mk 6 op n s tc)=(0,50)by rw[yf,show jp p tf 6 s=false from by simp[jp,A]];rfl);obtain⟨k,q,l,t,_,_,rfl,rfl,rfl⟩:=y.form;obtain⟨j,c,rfl,_⟩:=C.form;obtain⟨_,H,R,S,T⟩:=info_parts xK;have aq:=U (Do H (Do R (Do S T)));obtain⟨z,V⟩:=Cz (ko (qN p.funcs s));have ag:=U V;clear V;obtain⟨t0,P⟩:=Cz ((zX tf s).getD 0);have ab:=U P;clear P;obtain⟨_,Q⟩:=Cz ((zX tf s).isSome);have ad:=U Q;clear Q;have Y:=U (show ko (ze p.wa s)= -1 by rw[A];rfl);clear A;have g:=U y;have av:=U J;have aa:=U K;have au:=U I;have aw:=U C;have ar:=U W;have E:=C0 (Cx w ((w.alloc (qW k p.wa.length q l p.funcs.length t)).alloc (ki 6 op n s j tc.length c))) ((Zb.alloc Zr _).alloc Ur _);have ae:=C0 (((w.alloc (qW k p.wa.length q l p.funcs.length t)).alloc (ki 6 op n s j tc.length c)).heap[w.heap.size]?=some (qW k p.wa.length q l p.funcs.length t)) ((D3 _ _ _ Ur).trans (Dq w _));have af:=C0 (((w.alloc (qW k p.wa.length q l p.funcs.length t)).alloc (ki 6 op n s j tc.length c)).heap[w.heap.size+1]?=some (ki 6 op n s j tc.length c)) (by simpa using Dq (w.alloc (qW k p.wa.length q l p.funcs.length t)) (ki 6 op n s j tc.length c));clear y J am C K H R S T I W;go_enter func120,ntmps120
 go_wp2_with (first
  | (go_at_call 36
     have u:=g.o.below (E.o.mono g.o.hB)
     (with_reducible refine(js B p s _ ag.o _ _ _ u.hB u.ha u.hf).mono ?_)
     rintro e w1 ⟨rfl,a⟩;have b:=(a.block (w.heap.size+1) Ur).trans af.o;have f:=(a.block w.heap.size Uq).trans ae.o;obtain⟨ah,ai,aj,ak,al⟩:=xa b;obtain⟨⟨an,ao⟩,ap⟩:=zD f;have N:w.heap.size+1<w1.heap.size:=zB b;have M:w.heap.size<w1.heap.size:=O
     have F:=U f;have G:=U b;have d:Cx w w1:=E.o.trans (a.mono Uq);have x:=U d;have i:=U (g.o.below (d.mono g.o.hB))
     clear a u b f d)
  | (go_at_call 72
     (with_reducible refine(kR B tf s _ _ ab.o ad.o _ _ i.o.hB i.o.hv).mono ?_)
     rintro e w9 ⟨rfl,rfl⟩)
  | (go_at_call 99
     (with_reducible refine(y8 B p s _ Y.o _ _ _ i.o.hB i.o.ha i.o.hf).mono ?_)
     rintro e D ⟨rfl,a⟩;have b:=(a.block (w.heap.size+1) N).trans G.o;have f:=(a.block w.heap.size M).trans F.o;obtain⟨ah,ai,aj,ak,al⟩:=xa b;obtain⟨⟨an,ao⟩,ap⟩:=zD f;have N:w.heap.size+1<D.heap.size:=zB b;have M:w.heap.size<D.heap.size:=O
     have F:=U f;have G:=U b;have d:Cx w D:=x.o.trans (a.mono O);have x:=U d;have i:=U (g.o.below (d.mono g.o.hB))
     clear a b f d))
 go_ret2
 have L:=Z.o;rw[aa.o]at L;subst L;exact⟨rfl,x.o⟩
theorem wW(m:Nat)(M:XA m)(B:Nat)(p:Pr)(tf:List Pa)(op n:Int)(s:C2)(tc:List Ex)(r:Int×Int)(N v0 v1 v:C4)(w:C3)(Y:zk 7 op n s tc.length=true)(D:zr tc m=true)(E:l7 p)(q:gG B p tf v0 v1 v w)(x:xA B w N tc)
 (u:qN p.funcs s=none) (_:tc.length<=8) (F:qF p tf (.mk 7 op n s tc)=r):
 Cy 120 #[.agg #[v0,v1],v,.agg #[(7:Int),(op:Int),(n:Int),s,N]] w (Cv (.tuple #[(r.1:Int),(r.2:Int)]) w):=by
 have Q:=U (show qF p tf (.mk 7 op n s tc)=(0,50)by rw[yf,show jp p tf 7 s=false from by simp[jp,u]];rfl);obtain⟨b,f,d,g,_,_,rfl,rfl,rfl⟩:=q.form;obtain⟨a,c,rfl,_⟩:=x.form;obtain⟨_,C,J,K,L⟩:=info_parts xK;have Z:=U (Do C (Do J (Do K L)));have X:=U (show ko (qN p.funcs s)= -1 by rw[u];rfl);clear u;obtain⟨t0,H⟩:=Cz ((zX tf s).getD 0);have S:=U H;clear H;obtain⟨_,I⟩:=Cz ((zX tf s).isSome);have T:=U I;clear I;have i:=U q;have ad:=U E;have R:=U F;have ab:=U D;have ae:=U x;have aa:=U M;have A:=C0 (Cx w ((w.alloc (qW b p.wa.length f d p.funcs.length g)).alloc (ki 7 op n s a tc.length c))) ((Zb.alloc Zr _).alloc Ur _);have V:=C0 (((w.alloc (qW b p.wa.length f d p.funcs.length g)).alloc (ki 7 op n s a tc.length c)).heap[w.heap.size]?=some (qW b p.wa.length f d p.funcs.length g)) ((D3 _ _ _ Ur).trans (Dq w _));have W:=C0 (((w.alloc (qW b p.wa.length f d p.funcs.length g)).alloc (ki 7 op n s a tc.length c)).heap[w.heap.size+1]?=some (ki 7 op n s a tc.length c)) (by simpa using Dq (w.alloc (qW b p.wa.length f d p.funcs.length g)) (ki 7 op n s a tc.length c));clear q E Y x F C J K L D M;go_enter func120,ntmps120
 go_wp2_with (first
  | (go_at_call 36
     have j:=i.o.below (A.o.mono i.o.hB)
     (with_reducible refine(js B p s _ X.o _ _ _ j.hB j.ha j.hf).mono ?_)
     rintro e w1 ⟨rfl,k⟩;have l:=(k.block (w.heap.size+1) Ur).trans W.o;have y:=(k.block w.heap.size Uq).trans V.o;obtain⟨_,_,_,_,_⟩:=xa l;obtain⟨⟨_,_⟩,_⟩:=zD y;have ai:w.heap.size+1<w1.heap.size:=zB l;have ah:w.heap.size<w1.heap.size:=O
     have af:=U y;have ag:=U l;have t:Cx w w1:=A.o.trans (k.mono Uq);have P:=U t;have z:=U (i.o.below (t.mono i.o.hB))
     clear k j l y t)
  | (go_at_call 72
     (with_reducible refine(kR B tf s _ _ S.o T.o _ _ z.o.hB z.o.hv).mono ?_)
     rintro e w9 ⟨rfl,rfl⟩))
 go_ret2
 have G:=Q.o;rw[R.o]at G;subst G;exact⟨rfl,P.o⟩
theorem n9(m:Nat)(S:XA m)(B:Nat)(p:Pr)(tf:List Pa)(op n:Int)(s:C2)(tc:List Ex)(r:Int×Int)(T v0 v1 v:C4)(w:C3)(ah:zk 7 op n s tc.length=true)(I:zr tc m=true)(J:l7 p)(z:gG B p tf v0 v1 v w)(D:xA B w T tc)
 (q:Nat) (f:Fu) (x:qN p.funcs s=some q) (u:p.funcs[q]?=some f) (G:tc.length≠f.params.length) (_:tc.length<=8) (K:qF p tf (.mk 7 op n s tc)=r):
 Cy 120 #[.agg #[v0,v1],v,.agg #[(7:Int),(op:Int),(n:Int),s,T]] w (Cv (.tuple #[(r.1:Int),(r.2:Int)]) w):=by
 have X:=U (show qF p tf (.mk 7 op n s tc)=(0,51)by rw[yf,show jp p tf 7 s=true by simp[jp,x],show kb p 7 s tc.length=false by simp[kb,jN,x,u,G]];rfl);have aq:((tc.length:Int) != (f.params.length:Int))=true:=Uq
 clear G;obtain⟨b,g,d,i,_,_,rfl,rfl,rfl⟩:=z.form;obtain⟨a,c,rfl,_⟩:=D.form;obtain⟨_,H,P,Q,R⟩:=info_parts xK;have ai:=U (Do H (Do P (Do Q R)));have ae:=U (show ko (qN p.funcs s)=(q:Int)by rw[x];rfl);have W:=U u;have au:q<p.funcs.length:=(List.getElem?_eq_some_iff.1 u).1;clear x u;obtain⟨t0,M⟩:=Cz ((zX tf s).getD 0);have Z:=U M;clear M;obtain⟨_,N⟩:=Cz ((zX tf s).isSome);have aa:=U N;clear N;have j:=U z;have al:=U J;have Y:=U K;have ak:=U I;have an:=U D;have aj:=U S;have F:=C0 (Cx w ((w.alloc (qW b p.wa.length g d p.funcs.length i)).alloc (ki 7 op n s a tc.length c))) ((Zb.alloc Zr _).alloc Ur _);have ab:=C0 (((w.alloc (qW b p.wa.length g d p.funcs.length i)).alloc (ki 7 op n s a tc.length c)).heap[w.heap.size]?=some (qW b p.wa.length g d p.funcs.length i)) ((D3 _ _ _ Ur).trans (Dq w _));have ad:=C0 (((w.alloc (qW b p.wa.length g d p.funcs.length i)).alloc (ki 7 op n s a tc.length c)).heap[w.heap.size+1]?=some (ki 7 op n s a tc.length c)) (by simpa using Dq (w.alloc (qW b p.wa.length g d p.funcs.length i)) (ki 7 op n s a tc.length c));clear z J ah D K H P Q R I S;go_enter func120,ntmps120
 go_wp2_with (first
  | (go_at_call 36
     have l:=j.o.below (F.o.mono j.o.hB)
     (with_reducible refine(js B p s _ ae.o _ _ _ l.hB l.ha l.hf).mono ?_)
     rintro e w1 ⟨rfl,t⟩;have y:=(t.block (w.heap.size+1) Ur).trans ad.o;have E:=(t.block w.heap.size Uq).trans ab.o;obtain⟨_,_,_,_,_⟩:=xa y;obtain⟨⟨_,_⟩,_⟩:=zD E;have aw:w.heap.size+1<w1.heap.size:=zB y;have av:w.heap.size<w1.heap.size:=O
     have ao:=U E;have ap:=U y;have A:Cx w w1:=F.o.trans (t.mono Uq);have V:=U A;have k:=U (j.o.below (A.mono j.o.hB))
     clear t l y E A)
  | (go_at_call 72
     (with_reducible refine(kR B tf s _ _ Z.o aa.o _ _ k.o.hB k.o.hv).mono ?_)
     rintro e w9 ⟨rfl,rfl⟩))
 obtain⟨af,_,_,_,rfl,_,_,_,_,_,C,ag⟩:=k.o.hf.cells W.o;obtain⟨_,_,rfl,_⟩:=C.form;have am:=U C;have ar:af<w1.heap.size:=by have:=k.o.hB;omega
 clear C ag
 go_quiet (fail)
 go_wp2_with fail
 go_ret2
 have L:=X.o;rw[Y.o]at L;subst L;exact⟨rfl,AS V.o _⟩
theorem JA(m:Nat)(a0:XA m)(B:Nat)(p:Pr)(tf:List Pa)(op n:Int)(s:C2)(tc:List Ex)(r:Int×Int)(a1 v0 v1 v:C4)(w:C3)(d:zk 7 op n s tc.length=true)(aO:zr tc m=true)(aR:l7 p)(ah:gG B p tf v0 v1 v w)(D:xA B w a1 tc)
 (q:Nat) (f:Fu) (C:qN p.funcs s=some q) (R:p.funcs[q]?=some f) (aj:tc.length=f.params.length) (_:tc.length<=8) (aS:qF p tf (.mk 7 op n s tc)=r):
 Cy 120 #[.agg #[v0,v1],v,.agg #[(7:Int),(op:Int),(n:Int),s,a1]] w (Cv (.tuple #[(r.1:Int),(r.2:Int)]) w):=by
 have ae:=U (show qF p tf (.mk 7 op n s tc)=(match zq p tf tc with | .inl e=>(0,e) | .inr l=>j8 p tf 7 op s l)by rw[yf,show jp p tf 7 s=true from by simp[jp,C],show kb p 7 s tc.length=true from by simp[kb,jN,C,R,aj]];rfl);have bS:((tc.length:Int) != (f.params.length:Int))=false:=Uq
 have ay:=U aj;clear aj;have aA:=U (fun l=>show j8 p tf 7 op s l=if l=f.params.map (·.type)then(f.type,0)else(0,51)by simp[j8,jN,C,R]);obtain⟨F,H,L,I,_,_,rfl,rfl,rfl⟩:=ah.form;obtain⟨K,c,rfl,_⟩:=D.form;obtain⟨bK,ak,aX,aY,aZ⟩:=info_parts xK;have V:=U (Do ak (Do aX (Do aY aZ)));have bm:=U (show ko (qN p.funcs s)=(q:Int)by rw[C];rfl);have a8:=U R;have bV:q<p.funcs.length:=(List.getElem?_eq_some_iff.1 R).1;clear C R;obtain⟨t0,aV⟩:=Cz ((zX tf s).getD 0);have bf:=U aV;clear aV;obtain⟨_,aW⟩:=Cz ((zX tf s).isSome);have bg:=U aW;clear aW;have b:=U ah;have bd:=U aR;have af:=U aS;have a9:=U aO;have aF:=U D;have a7:=U a0;have aE:=C0 (Cx w ((w.alloc (qW F p.wa.length H L p.funcs.length I)).alloc (ki 7 op n s K tc.length c))) ((Zb.alloc Zr _).alloc Ur _);have bj:=C0 (((w.alloc (qW F p.wa.length H L p.funcs.length I)).alloc (ki 7 op n s K tc.length c)).heap[w.heap.size]?=some (qW F p.wa.length H L p.funcs.length I)) ((D3 _ _ _ Ur).trans (Dq w _));have bk:=C0 (((w.alloc (qW F p.wa.length H L p.funcs.length I)).alloc (ki 7 op n s K tc.length c)).heap[w.heap.size+1]?=some (ki 7 op n s K tc.length c)) (by simpa using Dq (w.alloc (qW F p.wa.length H L p.funcs.length I)) (ki 7 op n s K tc.length c));clear ah aR d D aS ak aX aY aZ aO a0;go_enter func120,ntmps120
 go_wp2_with (first
  | (go_at_call 36
     have Y:=b.o.below (aE.o.mono b.o.hB)
     (with_reducible refine(js B p s _ bm.o _ _ _ Y.hB Y.ha Y.hf).mono ?_)
     rintro e w1 ⟨rfl,z⟩;have aa:=(z.block (w.heap.size+1) Ur).trans bk.o;have Z:=(z.block w.heap.size Uq).trans bj.o;obtain⟨_,_,_,_,_⟩:=xa aa;obtain⟨⟨_,_⟩,_⟩:=zD Z;have bX:w.heap.size+1<w1.heap.size:=zB aa;have bW:w.heap.size<w1.heap.size:=O
     have bh:=U Z;have bi:=U aa;have ai:Cx w w1:=aE.o.trans (z.mono Uq);have a3:=U ai;have G:=U (b.o.below (ai.mono b.o.hB))
     clear z Y aa Z ai)
  | (go_at_call 72
     (with_reducible refine(kR B tf s _ _ bf.o bg.o _ _ G.o.hB G.o.hv).mono ?_)
     rintro e w9 ⟨rfl,rfl⟩))
 obtain⟨u,ar,_,_,rfl,_,_,bP,bQ,_,an,bs⟩:=G.o.hf.cells a8.o;obtain⟨a2,bo,rfl,_⟩:=an.form;have be:=U an;have aN:u<w1.heap.size:=Ge
 clear an bs
 go_quiet (fail)
 go_wp2_with fail
 go_loopw [11,12] (fun bL iv wr=>∃(j:Nat) (l:List Int),j<=tc.length/\iv=.int .i64 j/\l.length=j/\zq p tf (tc.take j)=.inr l/\wr.ownsRow w1.heap.size 3 1 bL j (l.map (Value.int .i64))/\Cx w1 wr) (fun _ iv _=>tc.length-(intOf iv).toNat)
 case atStart=>exact⟨0,[],Dw _,rfl,rfl,by rw[Yu,zq],Ym _ _ _ _,AS Zb _⟩
 case round=>
  obtain⟨j,l,bx,rfl,bD,aT,am,J⟩:=hrel;obtain⟨av,aI,rfl⟩:=jG am;have bY:=J.size;have ap:Cx w wr:=a3.o.trans (J.mono O);obtain⟨⟨_,_⟩,_⟩:=zD ((J.block w.heap.size O).trans bh.o);obtain⟨_,_,_,_,_⟩:=xa ((J.block (w.heap.size+1) O).trans bi.o);have T:=U J;have P:=U ap;have M:=U am;have W:=U aT;have a4:=U (b.o.below (ap.mono b.o.hB));have bG:w.heap.size<wr.heap.size:=O
  have bH:w.heap.size+1<wr.heap.size:=O
  clear J ap am aT;by_cases al:j<tc.length
  .obtain⟨⟨ab,S,ad,s',X⟩,Q⟩:∃e,tc[j]?=some e:=⟨_,Dz al⟩
   obtain⟨g,o,v',rfl,_,bN,bO,_,_,_,ao⟩:=(aF.o.below (P.o.mono b.o.hB) Zr).cells Q;obtain⟨aw,aJ,rfl,_⟩:=ao.form;have a5:=C0 (iY B wr (.mk ab S ad s' X) (.agg #[(ab:Int),(S:Int),(ad:Int),s',(aw,X.length,aJ)])) ⟨_,rfl,(aF.o.below (P.o.mono b.o.hB) Zr).range Q,ao⟩;have bv:g<wr.heap.size:=by have:=b.o.hB;omega
   obtain⟨⟨t,f⟩,aU⟩:=Cz (qF p tf (.mk ab S ad s' X));have N:=U aU;have bc:=U (jK a9.o Q);have az:=U Q;clear ao aU Q;by_cases aL:f=0
   all_goals(try subst aL)
   all_goals
    go_wp2_with fail
    go_region_held3 (fun w'=>w'.cell? (w.heap.size,0)=some (.slice F p.wa.length H)/\w'.cell? (w.heap.size,1)=some (.slice (some ⟨u,ar,none⟩) p.funcs.length I)/\w'.cell? (w.heap.size+1,4)=some (.slice (some ⟨g,o,none⟩) tc.length c)/\w'.cell? (g,o+j*5)=some (.int .i64 ab)/\w'.cell? (g,o+j*5+1)=some (.int .i64 S)/\w'.cell? (g,o+j*5+2)=some (.int .i64 ad)/\w'.cell? (g,o+j*5+3)=some (.string s')/\w'.cell? (g,o+j*5+4)=some (.slice aw X.length aJ))
     (first
       |(go_split_ands;refine⟨?_,?_,?_,?_,?_,?_,?_,?_⟩ <;>(first|(rw[bA];assumption)|(rw[bJ];assumption)|(rw[bu];assumption)))
       |go_keep)
     (first
       | (go_at_call 120
          (refine(a7.o.call (w:=wr.drew) bc.o bd.o N.o (a4.o.below Zb.drew) (a5.o.below Zb.drew Zr)).mono ?_)
          rintro e E ⟨rfl,z⟩;have A:Cx wr E:=Zb.drew.trans z;have bZ:wr.heap.size<=E.heap.size:=A.size;have bA:∀k,E.cell? ⟨w.heap.size,k,none⟩=wr.cell? ⟨w.heap.size,k,none⟩:=fun k=>A.cell (p:=⟨w.heap.size,k,none⟩) bG
          have bJ:∀k,E.cell? ⟨w.heap.size+1,k,none⟩=wr.cell? ⟨w.heap.size+1,k,none⟩:=fun k=>A.cell (p:=⟨w.heap.size+1,k,none⟩) bH
          have bu:∀k,E.cell? ⟨g,k,none⟩=wr.cell? ⟨g,k,none⟩:=fun k=>A.cell (p:=⟨g,k,none⟩) bv
          have ax:=U A;have aB:=U (qU (zv M.o fun k d=>A.block k (zR M.o k d).2) (.cells #[(t:Int)] 3));have ba:=U (xJ E [.int .i64 t] 3)
          clear z A))
   .go_wp2_with (at_builtin;refine wpList_append_own _ rfl (.tmp 97) (.tmp 99) _ rfl w1.heap.size 3 bK _ 1 8 underlying23 V.o.1 V.o.2.1 V.o.2.2.1 V.o.2.2.2 rfl O (.slice av j aI) j _ rfl (by exact aB.o) ⟨E.heap.size,0,none⟩ 1 1 [.int .i64 t] rfl rfl (by exact ba.o) Uw Uv O Uq ?_
                 intro _ _ aQ aM _;have a6:=U aM;have bb:=U aQ
                 clear aQ aM)
    go_roundw
    case rel=>
     refine⟨j+1,l++[t],O,by go_num,by simp[bD],?_,?_,?_⟩
     .have:=fK W.o az.o (by rw[N.o])
      rwa [N.o]at this
     .rw[<-n8];exact bb.o
     .exact((T.o.trans (ax.o.mono O)).alloc O _).grown a6.o Uq fun k d=>(zR aB.o k d).1
    case measure=>simp[intOf];omega
   .go_wp2_with fail
    go_ret2
    have a:=ae.o;rw[iE W.o az.o (by rw[N.o];exact aL),N.o]at a;rw[af.o]at a;subst a;exact⟨rfl,P.o.trans (ax.o.mono O)⟩
  .have bz:j=tc.length:=by omega
   subst bz;have aD:=U (show zq p tf tc=.inr l by have:=W.o;rwa [D9 Zr]at this);clear W bx al;have bR:=U (zv (w':=wr) M.o fun _ _=>rfl);have u1:wr.cell? (u,ar+q*4+1)=some (.int .i64 f.type):=(T.o.cell (p:=⟨u,_,none⟩) aN).trans bP;have u2:wr.cell? (u,ar+q*4+2)=some (.slice a2 f.params.length bo):=(T.o.cell (p:=⟨u,_,none⟩) aN).trans bQ;have bT:u<wr.heap.size:=O
   go_wp2_with fail
   go_loopw [15] (fun iv bM=>∃i nq:Nat,i<=tc.length/\iv=.int .i64 i/\(∀q,q<i->l[q]?=(f.params.map (·.type))[q]?)/\bM=wr.drewN nq) (fun iv _=>tc.length-(intOf iv).toNat)
   case atStart=>exact⟨0,0,Dw _,rfl,fun q C=>absurd C O,rfl⟩
   case round=>
    obtain⟨i,nq,ak,rfl,aP,rfl⟩:=hrel;have aC:=U aP;clear aP;by_cases al:i<tc.length
    .have bF:i<f.params.length:=by have:=ay.o;omega
     obtain⟨x,D⟩:∃e,l[i]?=some e:=⟨_,Dz O⟩
     obtain⟨au,aq⟩:∃e,f.params[i]?=some e:=⟨_,Dz bF⟩
     obtain⟨bq,_,ag,_⟩:∃g c,Value.slice av tc.length aI=.slice (some ⟨g,0,none⟩) tc.length c/\g<wr.heap.size:=by
      rcases M.o.2 with⟨_,_⟩|⟨g,bp,_,bI,_,y,_⟩
      .omega
      .exact⟨g,bp,bI,zB y⟩
     injection ag with ag _ bt;subst ag bt;obtain⟨br,S,rfl,_,bN,bO⟩:=(be.o.below (T.o.mono G.o.hB) Zr).cells aq;have bU:br<wr.heap.size:=Ge
     have Z:wr.cell? (bq,i)=some (.int .i64 x):=(M.o.cellAt i O).trans (by rw[Yl,D];rfl);have aG:=U D;have aH:=U aq;clear D aq;by_cases y:x=au.type
     .have bn:(x != au.type)=false:=by simp[y]
      have bl:=U y;clear y;go_wp2_with fail
      go_quiet (fail)
      go_wp2_with fail;go_roundw
      case rel=>
       refine⟨i+1,_,O,by go_num,fun k d=>?_,rfl⟩;by_cases bC:k=i
       .subst bC
        rw[aG.o,Yl,aH.o,bl.o];rfl
       .exact aC.o k O
      case measure=>simp[intOf];omega
     .have bn:(x != au.type)=true:=by simp[y]
      go_wp2_with fail
      go_quiet (fail)
      go_wp2_with fail
      go_ret2
      have a:=ae.o;rw[aD.o,af.o]at a;dsimp only at a;rw[show j8 p tf 7 op s l=(0,51)from by rw[aA.o,Dl (by intro e;apply y;have aK:=aG.o;rw[e,Yl,aH.o]at aK;exact(Cr aK).symm)]]at a;subst a;exact⟨rfl,AS (AS P.o _) _⟩
    .have bw:i=tc.length:=by omega
     subst bw;go_wp2_with fail
     go_ret2
     have a:=ae.o;rw[aD.o,af.o]at a;dsimp only at a;rw[show j8 p tf 7 op s l=(f.type,0)from by rw[aA.o,Dm (List.ext_getElem? fun k=>by by_cases d:k<tc.length;exact aC.o k d;rw[List.getElem?_eq_none O,List.getElem?_eq_none (by rw[Yd];have:=ay.o;omega)])]]at a;subst a;exact⟨rfl,AS P.o _⟩
theorem oA:∀m,XA m
 | 0=>fun _ _ _ e _ _ _ _ _ _ y=>by
   obtain⟨k,op,n,s,tc⟩:=e;rw[ju]at y;simp at y
 | m+1=>fun B p tf e r x v0 v1 v w y i j g E=>by
   obtain⟨k,op,n,s,tc⟩:=e;rw[ju,Dv,Dv]at y;obtain⟨⟨_,b⟩,d⟩:=y;rw[Yt]at d;obtain⟨u,rfl,_,l⟩:=E;have o:=oA m;rcases vM b with rfl|rfl|rfl|rfl|rfl|rfl|rfl|rfl
   .exact y9 1 m o B p tf op n s tc r u v0 v1 v w b d i g l Up rfl rfl (fun e=>absurd e Up) (fun _=>.inr rfl) Vs j
   .exact y9 2 m o B p tf op n s tc r u v0 v1 v w b d i g l Up rfl rfl (fun e=>absurd e Up) (fun _=>.inr rfl) Vs j
   .cases hv:zX tf s with
    |none=>exact CS m o B p tf op n s tc r u v0 v1 v w b d i g l hv Vs j
    |some t=>exact y9 3 m o B p tf op n s tc r u v0 v1 v w b d i g l Up (by simp[jp,hv]) rfl (fun _=>by rw[hv];rfl) (fun _=>.inr (by simp[j8,hv])) Vs j
   .exact y9 4 m o B p tf op n s tc r u v0 v1 v w b d i g l Up rfl rfl (fun e=>absurd e Up) (fun _=>.inl Up) (by obtain⟨a,rfl⟩:=CF b;simp) j
   .exact y9 5 m o B p tf op n s tc r u v0 v1 v w b d i g l Up rfl rfl (fun e=>absurd e Up) (fun _=>.inl Up) (by obtain⟨a,c,rfl⟩:=CG b;simp) j
   .have D:tc.length=1:=by obtain⟨a,rfl⟩:=mA b;rfl
    cases hv:ze p.wa s with
    |none=>exact sW m o B p tf op n s tc r u v0 v1 v w b d i g l hv O j
    |some q=>exact FQ m o B p tf op n s tc r u v0 v1 v w b d i g l q hv D O j
   .have z:tc.length<=8:=by simp[zk]at b;exact b.2
    cases hv:qN p.funcs s with
    |none=>exact wW m o B p tf op n s tc r u v0 v1 v w b d i g l hv z j
    |some q=>
      obtain⟨f,C,_⟩:=ye hv;by_cases A:tc.length=f.params.length
      .exact JA m o B p tf op n s tc r u v0 v1 v w b d i g l q f hv C A z j
      .exact n9 m o B p tf op n s tc r u v0 v1 v w b d i g l q f hv C A z j
   .exact y9 8 m o B p tf op n s tc r u v0 v1 v w b d i g l Up rfl rfl (fun e=>absurd e Up) (fun _=>.inr rfl) Vs j
theorem zJ{W:C3}{b c d e f i j k l m:C4}{T:TypeId}(a:W.heap[g]?=some (.cells #[b,c,d,e,f,i,j,k,l,m] T (0,0))):
 (W.cell? (g,0)=some b/\W.cell? (g,1)=some c/\W.cell? (g,2)=some d/\W.cell? (g,3)=some e/\W.cell? (g,4)=some f/\W.cell? (g,5)=some i/\W.cell? (g,6)=some j/\W.cell? (g,7)=some k/\W.cell? (g,8)=some l/\W.cell? (g,9)=some m)/\∀o,W.frozen? ⟨g,o,none⟩=false:=by
 refine⟨⟨(Ds a 0).trans rfl,(Ds a 1).trans rfl,(Ds a 2).trans rfl,(Ds a 3).trans rfl,(Ds a 4).trans rfl,(Ds a 5).trans rfl,(Ds a 6).trans rfl,(Ds a 7).trans rfl,(Ds a 8).trans rfl,(Ds a 9).trans rfl⟩,fun o=>?_⟩;simp[World.frozen?,a]
theorem vV{e:TypeId}{p n:Nat}{f:List C4}(i:w.ownsRow B e p v n f)(_:0<n):
 ∃g a,v=.slice (some ⟨g,0,none⟩) n a/\B<=g/\g<w.heap.size/\n<=a/\(∀j d,f[j]?=some d->w.cell? ⟨g,j,none⟩=some d)/\∀o,w.frozen? ⟨g,o,none⟩=false:=by
 rcases i.2 with⟨_,_⟩|⟨g,a,_,rfl,k,c,l,_,_,m⟩
 .omega
 .refine⟨g,a,rfl,k,(Array.getElem?_eq_some_iff.1 c).1,l,fun j d b=>?_,fun o=>by simp[World.frozen?,c]⟩
  rw[Ds c];rw[<-m,Y5]at b;split at b
  .simpa using b
  .cases b
open Go.RowKit (wrap64 wrap32)
theorem OL(p:Pr)(g:Nat)(vs:d2)(x:Ex){s:RS}(h:s.fuel=0):uL p (g+1) vs x s=.fin (jJ s).st:=by
 obtain⟨k,op,n,td,tc⟩:=x;obtain⟨_,_,out,_,_,_,_⟩:=s;cases h;rw[uL];rfl
def zar(p:Pr)(g:Nat)(f:Fu)(l:List Int)(s:RS):eD Int:=(j9 (kM p g) (d7 f l) f.body s).bind fun h s=>.ok h.2.1 s
theorem S7(p:Pr)(g:Nat)(vs:d2)(k op n:Int)(td:C2)(tc:List Ex){s:RS}(b:0<s.fuel)(c:¬(k=5/\(op=18\/op=19))):
 uL p (g+1) vs (.mk k op n td tc) s=(j0 (uL p g vs) tc (jJ s).st).bind fun l s=>qX p (zar p g) vs k op n td l s:=by
 obtain⟨_,_,out,_,a,_,_⟩:=s;obtain⟨f,rfl⟩:∃f,a=f+1:=⟨a-1,by dsimp only at b;omega⟩
 rw[uL];show(if _ then _ else _)=_;rw[Dl c];rfl
theorem lA(p:Pr)(c:Fu->List Int->RS->eD Int)(vs:d2)(op n:Int)(td:C2)(l:List Int)(s:RS)(h:k=1\/k=2):qX p c vs k op n td l s=.ok n s:=by unfold qX;rw[Dm h]
theorem JB(p:Pr)(c:Fu->List Int->RS->eD Int)(vs:d2)(op n:Int)(td:C2)(l:List Int)(s:RS):qX p c vs 3 op n td l s=.ok (o0 vs td) s:=by unfold qX;rw[Dl Up,Dm rfl]
theorem JC(p:Pr)(c:Fu->List Int->RS->eD Int)(vs:d2)(op n:Int)(td:C2)(l:List Int)(s:RS):qX p c vs 4 op n td l s=.ok (EC op (l.getD 0 0)) (zl s):=by unfold qX;rw[Dl Up,Dl Up,Dm rfl]
theorem JD(p:Pr)(c:Fu->List Int->RS->eD Int)(vs:d2)(op n:Int)(td:C2)(l:List Int)(s:RS):qX p c vs 5 op n td l s=if pQ op (l.getD 1 0)then .ok (pR op (l.getD 0 0) (l.getD 1 0)) (zl s)else .fin (yP (zl s) 2):=by unfold qX;rw[Dl Up,Dl Up,Dl Up,Dm rfl]
theorem JE(p:Pr)(c:Fu->List Int->RS->eD Int)(vs:d2)(op n:Int)(td:C2)(l:List Int)(s:RS):qX p c vs 6 op n td l s=o1 p td (l.getD 0 0) (zl s):=by unfold qX;rw[Dl Up,Dl Up,Dl Up,Dl Up,Dm rfl]
theorem JF(p:Pr)(c:Fu->List Int->RS->eD Int)(vs:d2)(op n:Int)(td:C2)(l:List Int)(s:RS){f:Fu}(a:jN p td=some f):qX p c vs 7 op n td l s=c f l (zl s):=by unfold qX;rw[Dl Up,Dl Up,Dl Up,Dl Up,Dl Up,Dm rfl,a]
theorem FR(p:Pr)(c:Fu->List Int->RS->eD Int)(vs:d2)(op n:Int)(td:C2)(l:List Int)(s:RS):qX p c vs 8 op n td l s=k3 (zl s):=by unfold qX;rw[Dl Up,Dl Up,Dl Up,Dl Up,Dl Up,Dl Up]
theorem S8{td:C2}{i:Int}{s:RS}{k:Nat}(a:ze p.wa td=some k)(b:s.arr[k]?=some l):o1 p td i s=if 0<=i/\i<l.length then .ok (l.getD i.toNat 0) s else .fin (yP s 3):=by
 unfold o1;rw[a];dsimp only;rw[b]
theorem zc3(h:eF n):(Lit.int .i64 n).wf=true:=by
 obtain⟨_,_⟩:=h;simp[Lit.wf,IntKind.min,IntKind.max,IntKind.signed,IntKind.bits];omega
theorem S9(h:(Lit.int .i64 n).wf=true):eF n:=by
 simp[Lit.wf,IntKind.min,IntKind.max,IntKind.signed,IntKind.bits]at h;exact⟨O,O⟩
theorem YT(b:Bool):eF (XW b):=by cases b<;>exact⟨Up,Up⟩
theorem ya(n:Int):eF (wrap64 n):=by unfold wrap64 eF;omega
theorem CT(op:BinOp)(x y:Int):eF (bits op .i64 x y):=S9 (wf_bits op .i64 x y)
theorem YU(op:Int)(h:eF a):eF (EC op a):=by
 obtain⟨_,_⟩:=h;unfold EC
 repeat' split
 .exact ya _
 .exact⟨O,O⟩
 .exact⟨Up,Up⟩
 .exact⟨Up,Up⟩
 .have:=zam a;exact⟨O,O⟩
 .have:=Q8 a;exact⟨O,O⟩
 .exact⟨Ga,Ga⟩
 .exact⟨O,O⟩
 .exact⟨O,O⟩
 .exact⟨O,O⟩
 .exact⟨Up,Up⟩
theorem zbi(c:eF a)(n:Int)(b:0<n):eF (a / n):=by
 obtain⟨_,e⟩:=c;refine⟨?_,?_⟩
 .rw[Int.le_ediv_iff_mul_le b]
  have: -9223372036854775808*n<=-9223372036854775808*1:=Int.mul_le_mul_of_nonpos_left Up O;omega
 .by_cases d:0<=a
  .exact Int.le_trans (Int.ediv_le_self n d) e
  .have:a / n<0:=Int.ediv_neg_of_neg_of_pos O b
   omega
theorem LN(op:Int)(b:Int)(c:eF a):eF (pR op a b):=by
 have d:eF 0:=⟨Up,Up⟩
 unfold pR
 repeat' split
 .exact ya _
 .exact ya _
 .exact ya _
 .unfold dvd
  repeat' split
  .exact d
  .exact ya _
  .obtain⟨_,_⟩:=c
   by_cases g:0<=a
   .have i:=Int.tmod_nonneg b g
    have j:a.tmod b<=a:=by
     have:=Int.natAbs_tmod a b;have e:a.natAbs % b.natAbs<=a.natAbs:=Nat.mod_le _ _;omega
    exact⟨O,O⟩
   .have:=Int.natAbs_tmod a b
    have e:a.natAbs % b.natAbs<=a.natAbs:=Nat.mod_le _ _;have f:=Int.tmod_nonneg b (show 0<=-a by omega);rw[Int.neg_tmod]at f;exact⟨O,O⟩
 .exact CT _ _ _
 .exact CT _ _ _
 .exact CT _ _ _
 .unfold sft
  repeat' split
  .exact ya _
  .exact zbi c _ (Int.pow_pos Up)
  .exact ya _
 .exact YT _
 .exact d
end Go.Proofs.YthcmenajdcbnnaaGreatDoor
namespace Go.Proofs.YthcmenajdcbnnaaGreatDoor
open Go.RowKit Tryz
variable{B g:Nat}{p:Pr}{v0 v1 v:C4}{w:C3}{a t k op n:Int}{l:List Int}{s:C2}{vs:d2}
theorem zen{α:Type}{f:α->C4}:∀(l:List α) (k:Nat) (x:α),l[k]?=some x->(l.map f)[k]?=some (f x):=fun l k x h=>by rw[Yl,h];rfl
abbrev vW(vs:d2):List C2:=vs.map (·.1)
theorem CV:∀{vs:d2}{s:C2}{k:Nat},jf vs s=some k->(vW vs)[k]?=some s
 |[],_,_,a=>Xb
 | x::r,s,k,a=>by
   rw[jf]at a;cases hr:jf r s with
   |some j=>
     rw[hr]at a;injection a with a;subst a;have c:=CV hr;simpa[vW]using c
   |none=>
     rw[hr]at a;dsimp only at a;by_cases b:x.1=s
     .rw[Dm b]at a
      injection a with a;subst a;exact congrArg some b
     .rw[Dl b]at a;cases a
theorem sX(vs:d2)(s:C2)(n:Int):vW (yO vs s n)=vW vs:=by
 unfold yO;cases h:jf vs s with
 |none=>rfl
 |some k=>
   dsimp only;rw[vW,List.map_set];have a:=CV h;refine List.ext_getElem? fun i=>?_
   rw[Cf];by_cases e:k=i
   .subst e
    rw[Dm rfl];have b:=(List.getElem?_eq_some_iff.1 a).1;rw[Dm b];exact a.symm
   .rw[Dl e]
theorem CW:∀{v:List Pa}{vs:d2},vW vs=v.map (·.name)->∀(s:C2),(jf vs s).isSome=(zX v s).isSome
 |[],[],_,_=>rfl
 |x::r,[],h,_=>Kg
 |[],x::r,h,_=>Kg
 | x::r,y::q,h,s=>by
   simp only[vW,Yb,Y7]at h;have a:=CW h.2 s;rw[jf,zX];cases h1:jf q s with
   |some j=>
     cases h2:zX r s with
     |some t=>rfl
     |none=>rw[h1,h2]at a;cases a
   |none=>
     cases h2:zX r s with
     |some t=>rw[h1,h2]at a;cases a
     |none=>
       dsimp only;rw[h.1];split<;>rfl
def uh(vs:d2)(d:List C2):eD uK->Prop
 |.ok h _=>∃q,vW h.2.2=vW vs++q/\(h.1=0->q=d)
 |.fin _=>True
def gA(k:Int)(td:C2):List C2:=if k=1 then[td]else[]
theorem uh.bind{α:Type}{d:List C2}{x:eD α}{f:α->RS->eD uK}(h:∀a t,uh vs d (f a t)):uh vs d (x.bind f):=by
 cases x with
 |fin t=>trivial
 |ok a t=>exact h a t
theorem uh.ite{d:List C2}{c:Prop}[Decidable c]{x b:eD uK}(e:c->uh vs d x)(f:¬c->uh vs d b):uh vs d (if c then x else b):=by
 by_cases a:c
 .rw[Dm a];exact e a
 .rw[Dl a];exact f a
theorem uh.same{a:d2}{b:Int}{s:RS}(e:vW a=vW vs):uh vs [] (.ok (b,n,a) s):=⟨[],by rw[D8];exact e,fun _=>rfl⟩
def TA(vs:d2):eD uK->Prop
 |.ok h _=>vW h.2.2=vW vs
 |.fin _=>True
theorem TA.row{x:eD uK}(h:TA vs x):uh vs [] x:=by
 cases x with
 |fin t=>trivial
 |ok a t=>exact⟨[],by rw[D8];exact h,fun _=>rfl⟩
theorem LO{f:d2->St->RS->eD uK}(m:∀vs t s,∃d,uh vs d (f vs t s)):∀(l:List St) (vs:d2) (s:RS),∃d,uh vs d (kw f vs l s)
 |[],vs,s=>⟨[],uh.same rfl⟩
 | t::r,vs,s=>by
   rw[kw];obtain⟨d,c⟩:=m vs t s;cases e:f vs t s with
   |fin i=>exact⟨[],trivial⟩
   |ok a i=>
     rw[e]at c;obtain⟨q,j,_⟩:=c;show ∃d,uh vs d (if a.1=0 then _ else _);by_cases g:a.1=0
     .rw[Dm g]
      obtain⟨_,k⟩:=LO m r a.2.2 i;cases e2:kw f a.2.2 r i with
      |fin x=>exact⟨[],trivial⟩
      |ok b x=>
        rw[e2]at k;obtain⟨n,o,_⟩:=k;exact⟨q++n,q++n,by rw[o,j,D7],fun _=>rfl⟩
     .rw[Dl g]
      exact⟨[],q,j,fun c=>absurd c g⟩
theorem rG{f:d2->St->RS->eD uK}(g:∀vs t s,∃d,uh vs d (f vs t s))(vs:d2)(l:List St)(s:RS):TA vs (j9 f vs l s):=by
 unfold j9;obtain⟨d,b⟩:=LO g l vs s;cases e:kw f vs l s with
 |fin i=>trivial
 |ok a i=>
   rw[e]at b;obtain⟨q,c,_⟩:=b;show vW (a.2.2.take vs.length)=vW vs;rw[vW,List.map_take];show(vW a.2.2).take _=_;rw[c,List.take_left' Ur]
theorem JG{e:d2->RS->eD Int}{b:d2->RS->eD uK}(m:∀vs s,TA vs (b vs s)):∀(k:Nat) (vs:d2) (s:RS),TA vs (EL e b k vs s)
 |0,_,_=>trivial
 | k+1,vs,s=>by
   rw[EL];cases he:e vs s with
   |fin g=>trivial
   |ok a t=>
     show TA vs (if a=0 then _ else _);by_cases i:a=0
     .rw[Dm i];rfl
     .rw[Dl i]
      have f:=m vs t;cases hx:b vs t with
      |fin g=>trivial
      |ok c g=>
        rw[hx]at f;show TA vs (if c.1=3 then _ else if c.1=1 then _ else _);by_cases l:c.1=3
        .rw[Dm l];exact f
        .rw[Dl l]
         by_cases j:c.1=1
         .rw[Dm j];exact f
         .rw[Dl j]
          have n:=JG (e:=e) m k c.2.2 g;cases hy:EL e b k c.2.2 g with
          |fin x=>trivial
          |ok d x=>rw[hy]at n;exact Eq.trans n f
theorem oB(p:Pr):∀(g:Nat) (vs:d2) (k b:Int) (td:C2) (tc:List Ex) (tg th:List St) (s:RS),uh vs (gA k td) (kM p g vs (.mk k b td tc tg th) s)
 |0,_,_,_,_,_,_,_,_=>by rw[kM];trivial
 | g+1,vs,k,b,td,tc,tg,th,s=>by
   have o:∀vs t s,∃d,uh vs d (kM p g vs t s):=fun vs t s=>by
    obtain⟨k,b,td,tc,tg,th⟩:=t;exact⟨_,oB p g vs k b td tc tg th s⟩
   have e:∀vs l s,TA vs (j9 (kM p g) vs l s):=fun vs l s=>rG o vs l s
   rw[kM];refine uh.bind fun _ t=>uh.ite (fun i=>?_) fun i=>uh.ite (fun j=>?_) fun j=>uh.ite (fun m=>?_) fun m=>uh.bind fun a f=>uh.ite (fun c=>?_) fun c=>?_
   .rw[gA,Dl O]
    exact(JG (fun vs s=>e vs tg s) _ vs t).row
   .rw[gA,Dl O];exact uh.same rfl
   .rw[gA,Dl O];exact uh.same rfl
   .rw[gA,Dm c]
    exact⟨[td],by simp[vW],fun _=>rfl⟩
   .rw[gA,Dl c]
    refine uh.ite (fun _=>uh.same (sX ..)) fun _=>uh.ite (fun _=>uh.bind fun n w=>uh.bind fun _ x=>uh.same rfl) fun _=>uh.ite (fun _=>uh.ite (fun _=>(e vs tg f).row) fun _=>(e vs th f).row) fun _=>uh.ite (fun _=>uh.same rfl) fun _=>uh.ite (fun _=>uh.same rfl) fun _=>uh.same rfl
theorem TB{td:C2}{i:Int}{s:RS}{k:Nat}(a:ze p.wa td=some k)(b:s.arr[k]?=some l):vD p td i n s=if 0<=i/\i<l.length then .ok () { s with arr:=s.arr.set k (l.set i.toNat n) } else .fin (yP s 3):=by
 unfold vD;rw[a];dsimp only;rw[b]
section
variable {c:Cfg}{g f:Nat} {w w':C3} {vo vo' vv:C4} {s s':RS}{vs:d2}{how n:Int}
end
theorem YV{k:Nat}(h:jf vs s=some k):k<vs.length:=by
 have:=(List.getElem?_eq_some_iff.1 (CV h)).1;simpa[vW]using this
theorem zd7(h:l.length=2):∃a b,l=[a,b]:=by
 match l,h with
 |[a,b],_=>exact⟨a,b,rfl⟩
theorem zc4(h:l.length=1):∃a,l=[a]:=by
 match l,h with
 |[a],_=>exact⟨a,rfl⟩
theorem FSq{o c:Nat}{x:Int}(f:lQ B w (.slice (some ⟨g,o,none⟩) (l.length+1) c) (x::l)):lQ B w (.slice (some ⟨g,o+1,none⟩) l.length (c-1)) l:=by
 obtain⟨⟨b,_,q,p,hF⟩,m⟩:=f;have r:=m _ _ _ rfl;injection q with d _ _;refine⟨⟨_,_,rfl,by rw[Dp]at p;omega,fun _=>?_⟩,fun b n _ e=>?_⟩
 .obtain⟨_,_,a,i⟩:=hF (by rw[Dp];omega)
  rw[<-d]at a;injection a with a;injection a with j k _;subst j k;exact⟨g,o+1,rfl,i.2⟩
 .injection e with _ _ _
  omega
theorem FT{a:Option Addr}(b:l.length=0)(c:Nat):lQ B w (.slice a l.length c) l:=by
 obtain rfl:=Yj b;exact⟨⟨a,c,rfl,Dw _,fun b=>absurd b Ur⟩,fun a n _ e=>by injection e with _ d _;subst d;exact Dw _⟩
theorem TC{b:Nat}(a:zk k op n s b=true):k=1\/k=2\/k=3\/k=4\/k=5\/k=6\/k=7\/k=8:=by
 unfold zk at a
 repeat' split at a
 all_goals(first|omega|cases a)
theorem CX{b:Nat}(a:zk k op n s b=true):(k=4\/k=6->b=1)/\(k=5->b=2):=by
 unfold zk at a
 repeat' split at a
 all_goals(first|(exfalso;cases a;done)|(simp at a;exact⟨fun _=>O,fun _=>O⟩))
section
variable {c:Cfg}{g:Nat}{vs:d2}{tc:List Ex}{w1:C3}{vo:C4}{t0:RS}{f:Nat}{vv:C4}{how n:Int}{av:C4}{wr:C3}{j:Nat}{q:List Int}{t:RS}{vo1:C4}
end
