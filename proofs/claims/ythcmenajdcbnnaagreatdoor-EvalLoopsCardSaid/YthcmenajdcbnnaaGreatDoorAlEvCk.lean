import Derived.Test.YthcmenajdcbnnaaGreatDoorAlErEx
import Derived.Deep.Onto
set_option linter.unusedSimpArgs false
set_option linter.unusedVariables false
set_option maxRecDepth 100000
set_option maxHeartbeats 99000000
namespace Go.Proofs.YthcmenajdcbnnaaGreatDoor
open Go.RowKit Tryz Go.Maps
variable{H j g m L b n:Nat}{p:Pr}{vi v c0 c1 V:C5}{w wr w' wM W:C4}{s:C3}{x:PR Unit}{r:List fH}{t:Int}
abbrev zF:C5:=.agg #[(),()]
abbrev m0O(H:Nat)(vi:C5)(F:Int):Obj:=.cells #[.map (some (H+1)),.map (some (H+1+1)),vi,(),.pointer none,(0:Int),(0:Int),(),(0:Int),(F:Int)] 74
structure HG (p:Pr):Prop where
 nm:∀(i j:Nat) (f g:Fu),i<j->p.funcs[i]?=some f->p.funcs[j]?=some g->f.name≠g.name
 sz:∀f∈p.funcs,f.name.size<=maxLen
 bd:∀f∈p.funcs,fL f.body 100=true/\fJ f.body 0<=1000000000
 an:∀(i j:Nat) (f g:Ar),i<j->p.wa[i]?=some f->p.wa[j]?=some g->f.name≠g.name
 az:∀a∈p.wa,a.name.size<=maxLen/\0<=a.size/\a.size<=1000
structure UN (H:Nat) (p:Pr) (vi:C5) (pgo:Obj) (w:C4) (j:Nat) (fv:C3->C5) (wr:C4):Prop where
 bel:Below H w wr
 sz:H+4<=wr.heap.size
 pb:wr.heap[H]?=some pgo
 mb:wr.heap[H+1+1+1]?=some (m0O H vi 0)
 fm:fZ wr (H+1) j zF fv
 am:fZ wr (H+1+1) 0 (.slice none 0 0) fun _=>.slice none 0 0
 fs:∀(i:Nat) (f:Fu),i<j->p.funcs[i]?=some f->∃vp vc,fv f.name=.agg #[vp,vc]/\gU H wr vp f.params/\iO H (H+4) wr vc (gF f)
theorem UN.below{d:Obj}{c:C3->C5}(b:UN H p vi d w j c wr)(a:Cy wr w'):UN H p vi d w j c w':=by
 have m:=b.sz;refine⟨b.bel.trans (a.mono O),Dy m a.size,(a.block _ O).trans b.pb,(a.block _ O).trans b.mb,b.fm.wd (a.block _ O),b.am.wd (a.block _ O),fun i f g e=>?_⟩;obtain⟨s,r,n,o,q⟩:=b.fs i f g e;exact⟨s,r,n,o.below (a.mono O) Zr,q.keep (a.mono O) a.size fun k _ l=>a.block k l⟩
theorem UN.next{t:Obj}{q:C3->C5}(A:HG p)(b:UN H p vi t w j q wr){f:Fu}(s:p.funcs[j]?=some f){o n:C5}(u:gU H wr o f.params)(v:iO H (H+4) wr n (gF f))(y:fZ w' (H+1) (j+1) zF (NY q f.name (.agg #[o,n])))(a:wr.grownBy w' (some (H+1))):
 UN H p vi t w (j+1) (NY q f.name (.agg #[o,n])) w':=by
 have B:=b.sz;have c:∀k,k<wr.heap.size->k≠H+1->w'.heap[k]?=wr.heap[k]?:=fun k m z=>a.block k m fun e=>by injection e with e;exact z e
 have l:Below H wr w':=⟨a.os,a.tape,a.output,a.size,fun k m=>c k O O⟩
 refine⟨b.bel.trans l,Dy B a.size,(c _ O O).trans b.pb,(c _ O O).trans b.mb,y,b.am.wd (c _ O O),fun i g _ d=>?_⟩;by_cases x:i=j
 .subst x
  rw[s]at d;injection d with d;subst d;exact⟨o,n,Dq rfl,u.below l Zr,v.keep l a.size fun k m r=>c k r O⟩
 .obtain⟨G,F,C,D,E⟩:=b.fs i g O d
  exact⟨G,F,(Dp (A.nm i j g f O d s)).trans C,D.below l Zr,E.keep l a.size fun k m r=>c k r O⟩
def YN(l:List Ar)(b:List Nat)(s:C3):C5:=match zZ l s with
 |some k=>AY (b.getD k 0,List.replicate ((l[k]?.map fun a=>a.size.toNat).getD 0) 0)
 |none=>.slice none 0 0
structure VX (H:Nat) (p:Pr) (wM:C4) (j:Nat) (rows:List Nat) (wr:C4):Prop where
 off:fF (fun k=>k=H+1+1) wM wr
 am:fZ wr (H+1+1) j (.slice none 0 0) (YN (p.wa.take j) rows)
 rl:rows.length=j
 ord:rows.Pairwise (· < ·)
 row:∀(k g:Nat) (a:Ar),rows[k]?=some g->p.wa[k]?=some a->wM.heap.size<=g/\g<wr.heap.size/\wr.heap[g]?=some (oN (List.replicate a.size.toNat 0))
theorem VX.below{e:List Nat}(b:VX H p wM j e wr)(c:Cy wr w'):VX H p wM j e w':=by
 refine⟨b.off.trans (fF.wb (fun _=>False) c) fun _ _ l=>l.elim,b.am.wd (c.block _ b.am.lt),b.rl,b.ord,fun k g a i f=>?_⟩;obtain⟨m,d,n⟩:=b.row k g a i f;exact⟨m,Yb d c.size,(c.block g d).trans n⟩
theorem UO{a b:List Ar}:zZ (a++b) s=match zZ a s with|some k=>some k|none=>(zZ b s).map (·+a.length):=by
 induction a with
 |nil=>
   rw[Cn];cases zZ b s<;>rfl
 |cons x r d=>
   rw[Yv,zZ,zZ];by_cases c:x.name=s
   .rw[Dq c,Dq c]
   .rw[Dp c,Dp c,d]
    cases zZ r s with
    |some k=>rfl
    |none=>
      cases zZ b s with
      |none=>rfl
      |some k=>
        show some (k+r.length+1)=some (k+(r.length+1));rfl
theorem q6(w:C4)(o:Obj){i:Nat}(h:i<w.heap.size):(w.alloc o).heap[i]?=w.heap[i]?:=D7 w o i h
theorem VX.next{m:List Nat}(G:HG p)(d:VX H p wM j m wr)(_:H+4<=wM.heap.size){a:Ar}(o:p.wa[j]?=some a)(C:fZ w' (H+1+1) (j+1) (.slice none 0 0) (NY (YN (p.wa.take j) m) a.name (.slice (some ⟨wr.heap.size,0,none⟩) a.size.toNat a.size.toNat)))(u:(wr.alloc (oN (List.replicate a.size.toNat 0))).grownBy w' (some (H+1+1))):
 VX H p wM (j+1) (m++[wr.heap.size]) w':=by
 have R:=zA wr (oN (List.replicate a.size.toNat 0));have J:=d.off.size;have v:∀k,k<wr.heap.size+1->k≠H+1+1->w'.heap[k]?=(wr.alloc (oN (List.replicate a.size.toNat 0))).heap[k]?:=fun k c E=>u.block k O fun e=>by injection e with e;exact E e
 have K:p.wa.take (j+1)=p.wa.take j++[a]:=by rw[Yt,o];rfl
 have z:(p.wa.take j).length=j:=by
  have:=(List.getElem?_eq_some_iff.1 o).1;rw[Yg];omega
 refine⟨(d.off.trans (fF.alloc (fun k=>k=H+1+1) wr _) fun _ _ t=>t).trans (fF.grown (X:=fun k=>k=H+1+1) u fun k c=>by injection c with c;exact c.symm) fun _ _ t=>t,C.congr fun s=>?_,by rw[Dr,d.rl];rfl,?_,fun k g b c l=>?_⟩
 .unfold NY YN
  rw[K,UO];by_cases r:s=a.name
  .rw[Dq r]
   have F:zZ (p.wa.take j) s=none:=oA fun i f q=>by
    have w:i<j:=by have:=(List.getElem?_eq_some_iff.1 q).1;omega
    rw[r];exact G.an i j f a w (by rw[List.getElem?_take_of_lt w]at q;exact q) o
   rw[F];simp only[zZ,Dq r.symm,Option.map_some,Yz,z];rw[Yi O,z,Yy]
   have I:(m++[wr.heap.size])[j]?=some wr.heap.size:=by
    rw[Yi (by rw[d.rl];exact D0 _),d.rl,Yy];rfl
   simp[AY,I]
  .rw[Dp r]
   have D:zZ [a] s=none:=by rw[zZ,Dp (fun e:a.name=s=>r e.symm)];rfl
   cases hi:zZ (p.wa.take j) s with
   |none=>rw[D];rfl
   |some k=>
     obtain⟨f,q,_⟩:=DH hi;have c:=(List.getElem?_eq_some_iff.1 q).1;dsimp only;rw[Yo c];rw[show(m++[wr.heap.size]).getD k 0=m.getD k 0 by rw[Yl,Yo (by rw[d.rl];omega),Yl]]
 .rw[List.pairwise_append]
  refine⟨d.ord,List.pairwise_singleton _ _,fun x t y L=>?_⟩;rw[List.mem_singleton.1 L];obtain⟨k,c⟩:=List.mem_iff_getElem?.1 t;have n:=(List.getElem?_eq_some_iff.1 c).1;have:=(List.getElem?_eq_some_iff.1 o).1;obtain⟨b,l⟩:∃b,p.wa[k]?=some b:=⟨_,Dz (by rw[d.rl]at n;omega)⟩
  exact(d.row k x b c l).2.1
 .rcases Cf k m.length with n|n
  .rw[Yo n]at c
   obtain⟨M,N,P⟩:=d.row k g b c l;have A:=u.size;exact⟨M,O,(v g O O).trans ((q6 wr _ N).trans P)⟩
  .rw[Yi n,d.rl]at c
   have Q:k-j=0:=by
    have:=(List.getElem?_eq_some_iff.1 c).1;simp at this;exact this
   have B:k=j:=by rw[d.rl]at n;omega
   subst B;rw[Yy]at c;simp at c;subst c;rw[o]at l;injection l with l;subst l;have A:=u.size;exact⟨J,O,(v _ O O).trans (Ds wr _)⟩
theorem UP(p:Pr)(ak al vi:C5)(r:List Int)(F:Nat)(w:C4)(X:gN w.heap.size w ak p.wa)(Y:gO w.heap.size w al p.funcs)(ab:g5 w.heap.size w vi r)(aI:HG p):
 Cz 32 #[.agg #[ak,al],vi,((F:Int):Int)] w fun e w'=>e=.returned (.pointer (some ⟨w.heap.size+1+1+1,0,none⟩))/\∃(E:C3->C5) (R:List Nat) (wM aM:C4),UN w.heap.size p vi (.cells #[ak,al] 27) w p.funcs.length E wM/\VX w.heap.size p wM p.wa.length R aM/\w'=aM.setCell (w.heap.size+1+1+1,9) ((F:Int):Int):=by
 obtain⟨d,c0,rfl,_⟩:=X.form;obtain⟨l,c1,rfl,_⟩:=Y.form;obtain⟨⟨v,z,rfl,_⟩,_⟩:=ab;have bI:=@run_makeMap Tryz.prog;have aQ:=U X;have aU:=U Y;have y:=U aI;clear X Y aI;go_enter func32,ntmps32;go_upto_region 2 with fail
 have P:UN w.heap.size p (.slice v r.length z) (.cells #[(d,p.wa.length,c0),(l,p.funcs.length,c1)] 27) w 0 (fun _=>zF) ((((w.alloc (.cells #[(d,p.wa.length,c0),(l,p.funcs.length,c1)] 27)).alloc (.map #[] 0)).alloc (.map #[] 0)).alloc (m0O w.heap.size (.slice v r.length z) 0)):=by
  have aN:(w.alloc (.cells #[(d,p.wa.length,c0),(l,p.funcs.length,c1)] 27)).heap.size=w.heap.size+1:=zA _ _;have S:=Ds w (.cells #[(d,p.wa.length,c0),(l,p.funcs.length,c1)] 27);have c:Cy w (w.alloc (.cells #[(d,p.wa.length,c0),(l,p.funcs.length,c1)] 27)):=Zb.alloc Zr _;generalize w.alloc (.cells #[(d,p.wa.length,c0),(l,p.funcs.length,c1)] 27)=W1 at *;have aO:(W1.alloc (.map #[] 0)).heap.size=w.heap.size+1+1:=by rw[zA,aN]
  have br:fZ (W1.alloc (.map #[] 0)) (w.heap.size+1) 0 zF fun _=>zF:=aN▸oS W1 zF
  have T:=(D7 W1 (.map #[] 0) w.heap.size O).trans S;have A:Cy w (W1.alloc (.map #[] 0)):=c.alloc O _;generalize W1.alloc (.map #[] 0)=W2 at *;have bF:(W2.alloc (.map #[] 0)).heap.size=w.heap.size+1+1+1:=by rw[zA,aO]
  have bt:fZ (W2.alloc (.map #[] 0)) (w.heap.size+1+1) 0 (.slice none 0 0) fun _=>.slice none 0 0:=aO▸oS W2 (.slice none 0 0)
  have bs:=br.wd (D7 W2 (.map #[] 0) (w.heap.size+1) O);have V:=(D7 W2 (.map #[] 0) w.heap.size O).trans T;have bc:Cy w (W2.alloc (.map #[] 0)):=A.alloc O _;generalize W2.alloc (.map #[] 0)=W3 at *;have bM:=zA W3 (m0O w.heap.size (.slice v r.length z) 0);exact⟨bc.alloc O _,O,(D7 W3 _ w.heap.size O).trans V,bF▸Ds W3 _,bs.wd (D7 W3 _ _ O),bt.wd (D7 W3 _ _ O),fun i f ab=>O⟩
 generalize(((w.alloc (.cells #[(d,p.wa.length,c0),(l,p.funcs.length,c1)] 27)).alloc (.map #[] 0)).alloc (.map #[] 0)).alloc (.cells #[.map (some (w.heap.size+1)),.map (some (w.heap.size+1+1)),(v,r.length,z),(),.pointer none,(0:Int),(0:Int),(),(0:Int),(0:Int)] 74)=W0 at *;obtain⟨⟨_,_⟩,_⟩:=zG P.pb;have bJ:w.heap.size<W0.heap.size:=zB P.pb;have aZ:=U P;clear P;go_wp2_with fail
 go_loopw [20] (fun iv wr=>∃(j:Nat) (E:C3->C5),j<=p.funcs.length/\iv=.int .i64 (j:Int)/\UN w.heap.size p (.slice v r.length z) (.cells #[(d,p.wa.length,c0),(l,p.funcs.length,c1)] 27) w j E wr) (fun iv _=>p.funcs.length-(intOf iv).toNat)
 case atStart=>exact⟨0,_,Dx _,rfl,aZ.o⟩
 case round=>
  obtain⟨j,E,_,rfl,b⟩:=hrel;have ao:=U b;by_cases ad:j<p.funcs.length
  .obtain⟨f,L⟩:∃f,p.funcs[j]?=some f:=⟨_,Dz ad⟩
   have M:=Yc L;obtain⟨g,o,_,_,rfl,aa,aj,Q,bu,bv,af,Z⟩:=(aU.o.below b.bel Zr).cells L;obtain⟨u,c2,rfl,_⟩:=af.form;obtain⟨D,c3,rfl,_⟩:=Z.form;have aK:=b.sz;have be:g<wr.heap.size:=O
   have c:Cy wr (wr.alloc (FH f.name f.type (.slice u f.params.length c2) (.slice D f.body.length c3))):=Zb.alloc Zr _;have m:=Ds wr (FH f.name f.type (.slice u f.params.length c2) (.slice D f.body.length c3));have ah:(wr.alloc (FH f.name f.type (.slice u f.params.length c2) (.slice D f.body.length c3))).heap.size=wr.heap.size+1:=zA _ _;have B:=b.below c;have ag:=af.below (c.mono O) (D0 w.heap.size);have aC:=Z.below (c.mono O) (D0 w.heap.size);clear b af Z;go_upto_region 5 with fail;generalize wr.alloc (.cells #[f.name,(f.type:Int),(u,f.params.length,c2),(D,f.body.length,c3)] 93)=W at *;have C:=B.below (D4 W.heap.size W).drew;have q:W.drew.heap.size=W.heap.size:=rfl;obtain⟨⟨bw,bx,_,_⟩,bz⟩:=zO m;obtain⟨⟨ap,aq,ar,au,av,aw,ax,ay,az,aA⟩,aB⟩:=zD B.mb;have bh:wr.heap.size<W.heap.size:=O
   have bi:w.heap.size+1+1+1<W.heap.size:=O
   have aW:=U C;have a1:=U m;have aT:=U L;have aY:=U ag;have aS:=U (T6 w.heap.size f (.slice u f.params.length c2) (.slice D f.body.length c3) W.drew (by rw[q];omega) (ag.below Zb.drew Zr) (aC.below Zb.drew Zr) (y.o.bd f M).1 (y.o.bd f M).2);have bo:=y.o.sz f M;clear c m B ag aC C L M aj Q bu bv
   go_region_law (first
    | (go_simp;go_at_call 67;(refine aS.o.mono ?_);rintro e _ ⟨_,rfl,A,aE⟩
       have I:=aW.o.below A;have aF:=aE.mono (show w.heap.size+4<=W.drew.heap.size by rw[q];omega);have aJ:=aY.o.below (((D4 _ W).drew).trans (A.mono (show w.heap.size<=W.drew.heap.size by rw[q];omega))) (D0 w.heap.size);have ai:=(A.block wr.heap.size (by rw[q];omega)).trans a1.o;obtain⟨aP,ba,rfl,_⟩:=aE;obtain⟨aL,bq,H,G⟩:=I.fm.upd (t:=70) underlying70 Vl bo (.agg #[(u,f.params.length,c2),.slice aP (gF f).length ba]);have aV:=U (I.next y.o aT.o aJ aF H G);obtain⟨⟨bA,bC,_,_⟩,bD⟩:=zO ai;obtain⟨⟨a2,S,T,V,a3,a4,a5,a6,a7,a8⟩,a9⟩:=zD I.mb;have bj:=zB ai;have bk:=zB I.mb
       clear I aF aJ ai H G A))
   all_goals
    go_wp2_with fail;go_roundw
    case rel=>exact⟨j+1,_,O,by go_num,aV.o⟩
    case measure=>simp[intOf];omega
  .have bg:j=p.funcs.length:=by omega
   subst bg;obtain⟨⟨bA,bC⟩,bD⟩:=zG b.pb;have aK:=b.sz;have bK:w.heap.size<wr.heap.size:=O
   obtain⟨wM,J⟩:∃x,x=wr:=⟨_,rfl⟩
   have an:=U (show UN w.heap.size p (.slice v r.length z) (.cells #[(d,p.wa.length,c0),(l,p.funcs.length,c1)] 27) w p.funcs.length E wM by rw[J];exact b);have bp:w.heap.size+4<=wM.heap.size:=by rw[J];exact aK
   have aR:=U (show Cy w wM by rw[J];exact b.bel);have a0:=C2 (VX w.heap.size p wM 0 [] wr) ⟨by rw[J];exact fF.refl _ _,b.am.congr (fun s=>rfl),rfl,List.Pairwise.nil,fun k g a aa=>by simp at aa⟩;clear b J;go_wp2_with fail
   go_loopw [36] (fun iv wr=>∃(i:Nat) (R:List Nat),i<=p.wa.length/\iv=.int .i64 (i:Int)/\VX w.heap.size p wM i R wr) (fun iv _=>p.wa.length-(intOf iv).toNat)
   case atStart=>exact⟨0,_,Dx _,rfl,a0.o⟩
   case round=>
    obtain⟨i,R,ab,rfl,b⟩:=hrel;have ao:=U b;have bL:=b.off.size;have N:=b.off.at (by omega:¬(w.heap.size+1+1+1=w.heap.size+1+1)) an.o.mb;obtain⟨⟨ap,aq,ar,au,av,aw,ax,ay,az,aA⟩,aB⟩:=zD N;have bi:w.heap.size+1+1+1<wr.heap.size:=O
    by_cases ad:i<p.wa.length
    .obtain⟨a,K⟩:∃a,p.wa[i]?=some a:=⟨_,Dz ad⟩
     have aD:Cy w wr:=aR.o.trans (b.off.below O fun k _ (e:k=w.heap.size+1+1)=>O);obtain⟨g,o,rfl,aa,aj,Q⟩:=(aQ.o.below aD Zr).cells K;obtain⟨bb,_,_⟩:=y.o.az a (Yc K);obtain⟨n,bn⟩:∃n:Nat,a.size=(n:Int):=⟨a.size.toNat,O⟩
     have bm:n<=1000:=O
     have aG:a.size.toNat=n:=O
     rw[bn]at Q;have be:g<wr.heap.size:=O
     have c:Cy wr (wr.alloc (.cells #[a.name,((n:Int):Int)] 80)):=Zb.alloc Zr _;have m:=Ds wr (.cells #[a.name,((n:Int):Int)] 80);have B:=b.below c;have ae:=(c.block _ (zB N)).trans N;have ah:(wr.alloc (.cells #[a.name,((n:Int):Int)] 80)).heap.size=wr.heap.size+1:=zA _ _;clear b aD N;go_upto_region 10 with fail;generalize wr.alloc (.cells #[a.name,((n:Int):Int)] 80)=W at *;obtain⟨⟨bw,bx⟩,bz⟩:=zG m;obtain⟨⟨a2,S,T,V,a3,a4,a5,a6,a7,a8⟩,a9⟩:=zD ae;have bh:wr.heap.size<W.heap.size:=O
     have bj:w.heap.size+1+1+1<W.heap.size:=O
     have C:=B.below (D4 W.heap.size W).drew;have q:W.drew.heap.size=W.heap.size:=rfl;obtain⟨aL,bq,H,G⟩:=(C.am.wd (w':=(W.alloc (oN (List.replicate n 0))).drew) (D7 W _ _ O)).upd (t:=71) underlying71 Vl bb (.slice (some ⟨wr.heap.size+1,0,none⟩) n n);have bl:=B0 n bm W.drew;rw[q,ah]at bl;have aH:=C.next (w':=aL) y.o bp K (by rw[aG,q,ah];exact H) (by rw[aG];exact G);have aX:=U aH;obtain⟨⟨_,_,_,_,_,_,_,_,_,_⟩,_⟩:=zD ((D7 W (oN (List.replicate n 0)) _ O).trans ae);obtain⟨⟨_,_⟩,_⟩:=zG ((D7 W (oN (List.replicate n 0)) _ O).trans m);have bG:(W.alloc (oN (List.replicate n 0))).heap.size=W.heap.size+1:=zA _ _;have bk:wr.heap.size<(W.alloc (oN (List.replicate n 0))).heap.size:=O
     have bH:w.heap.size+1+1+1<(W.alloc (oN (List.replicate n 0))).heap.size:=O
     clear C aH H G B c m ae K ap aq ar au av aw ax ay az aA aB aj Q
     go_region
     all_goals
      go_wp2_with fail;go_roundw
      case rel=>exact⟨i+1,_,O,by go_num,aX.o⟩
      case measure=>simp[intOf];omega
    .have bf:i=p.wa.length:=by omega
     subst bf;go_wp2_with fail;go_ret;exact⟨rfl,_,_,_,_,an.o,ao.o,rfl⟩
open Classical in
noncomputable def QA(H:Nat)(b:List Nat)(k:Nat):Lb:=
 if k<H then .gl else if k=H+1 then .funs else if k=H+1+1 then .arrs else if k=H+1+1+1 then .mach else if a:∃i:Nat,b[i]?=some k then .arr (Classical.choose a)else .code
theorem zay{c:List Nat}(b:c.Pairwise (· < ·)){i:Nat}(f:c[i]?=some g)(k:c[j]?=some g):i=j:=by
 obtain⟨d,_⟩:=List.getElem?_eq_some_iff.1 f;obtain⟨e,_⟩:=List.getElem?_eq_some_iff.1 k;rw[List.pairwise_iff_getElem]at b;rcases Nat.lt_trichotomy i j with a|a|a
 .have:=b i j d e a
  omega
 .exact a
 .have:=b j i e d a
  omega
theorem LT{b:List Nat}{k:Nat}(a:k<H):QA H b k=.gl:=Dq a
theorem UQ{a:List Nat}:QA H a (H+1)=.funs:=by unfold QA;rw[Dp O,Dq rfl]
theorem UR{a:List Nat}:QA H a (H+1+1)=.arrs:=by unfold QA;rw[Dp O,Dp O,Dq rfl]
theorem US{a:List Nat}:QA H a (H+1+1+1)=.mach:=by unfold QA;rw[Dp O,Dp O,Dp O,Dq rfl]
theorem YO{a:List Nat}(d:a.Pairwise (· < ·)){k:Nat}(c:a[k]?=some g)(_:H+4<=g):QA H a g=.arr k:=by
 have b:∃i:Nat,a[i]?=some g:=⟨k,c⟩
 unfold QA;rw[Dp O,Dp O,Dp O,Dp O,dif_pos b,zay d (Cq b) c]
theorem UT{a:List Nat}(_:H+4<=g)(b:¬ ∃i:Nat,a[i]?=some g):QA H a g=.code:=by
 unfold QA;rw[Dp O,Dp O,Dp O,Dp O,dif_neg b]
theorem UU{au:Obj}{d:C4}{E:C3->C5}{D:List Nat}{B:List Int}{F:Nat}(_:H=w.heap.size)(t:UN H p vi au w p.funcs.length E wM)(m:VX H p wM p.wa.length D d)(ao:HG p)(aq:fO H w)(an:f5 p=true)(ah:g5 H w vi B)(ak:fR B)(hF:F<=1000000):
 MW ⟨H,H+1+1+1,p,H+1,H+1+1,E,fun k o=>k<H/\w.heap[k]?=some o⟩ (QA H D) (d.setCell (H+1+1+1,9) ((F:Int):Int)) ⟨⟨p.wa.map fun a=>List.replicate a.size.toNat 0,B,[],0,F,0,false⟩,[],[]⟩/\Below H w (d.setCell (H+1+1+1,9) ((F:Int):Int)):=by
 have aF:=t.sz;have aG:=m.off.size;have al:=m.off.at (by omega:¬(H+1+1+1=H+1+1)) t.mb;have I:Below (H+1+1+1) d (d.setCell (H+1+1+1,9) ((F:Int):Int)):=Zb.setCell (p:=(H+1+1+1,9)) Zr _;have y:∀k,k≠H+1+1+1->(d.setCell (H+1+1+1,9) ((F:Int):Int)).heap[k]?=d.heap[k]?:=fun k c=>Dw d _ _ k c
 have aH:(d.setCell (H+1+1+1,9) ((F:Int):Int)).heap.size=d.heap.size:=Uk
 have af:=D3 (i:=9) al (.int .i64 (F:Int));generalize d.setCell (H+1+1+1,9) ((F:Int):Int)=W at *;have ae:Below H w d:=t.bel.trans (m.off.below O fun k c (e:k=H+1+1)=>O);have G:Below H wM W:=(m.off.below O fun k c (e:k=H+1+1)=>O).trans (I.mono O);have q:Below H w W:=ae.trans (I.mono O);have K:∀k,k<wM.heap.size->k≠H+1+1->k≠H+1+1+1->W.heap[k]?=wM.heap[k]?:=fun k c ab ad=>(y k ad).trans (m.off.block k c ab)
 refine⟨⟨vi,.slice none 0 0,.pointer none,.slice none 0 0,?_⟩,q⟩;refine⟨(by show H<=W.heap.size;omega),fun k c=>LT c,aq.below q,an,af,US,ah.below q Zr,⟨Yp _ _ _ _,fun b q=>(by cases q)⟩,⟨Yp _ _ _ _,fun b q=>(by cases q)⟩,rfl,?_,?_,fun n A=>Vx,ak,D0 _,(by show 0+F<=1000000000;omega),fun k o c=>?_⟩
 .refine⟨UQ,⟨_,t.fm.wd (K _ O O O)⟩,fun s f J=>?_⟩
  unfold jU at J;obtain⟨i,ai,aj⟩:=Option.bind_eq_some_iff.1 J;obtain⟨g,v,ag,_⟩:=xt ai
  have e:g=f:=by
   have:p.funcs[i]?=some f:=aj;rw[v]at this;injection this
  subst e;obtain⟨aC,aB,P,Q,T,Z,C,q4,av⟩:=t.fs i g (List.getElem?_eq_some_iff.1 v).1 v;refine⟨aC,aB,by rw[<-ag];exact P,Q.below G Zr,T,Z,C,q4,fun ap=>?_⟩;obtain⟨b,aw,ax,ay,aA⟩:=av ap;have c:=K b ay O O;refine⟨b,aw,UT ax fun⟨k,M⟩=>?_,O,fun j x ar=>?_⟩
  .have L:=(List.getElem?_eq_some_iff.1 M).1
   obtain⟨a,r⟩:∃a,p.wa[k]?=some a:=⟨_,Dz (by rw[m.rl]at L;exact L)⟩
   have:=(m.row k b a M r).1;omega
  .obtain⟨V,X,Y,aa,z,aD,R,S,aE⟩:=aA j x ar
   have u:∀o,W.cell? ⟨b,o,none⟩=wM.cell? ⟨b,o,none⟩:=fun o=>D6 c
   exact⟨V,X,Y,aa,z.below G Zr,(u _).trans aD,(u _).trans R,(u _).trans S,(u _).trans aE⟩
 .refine⟨D,UR,by rw[Yh],by rw[m.rl,Yh],⟨_,(m.am.wd (y _ O)).congr fun s=>?_⟩,fun k g l c N=>?_⟩
  .unfold I5 YN
   rw[Ck];cases hidx:zZ p.wa s with
   |none=>rfl
   |some k=>
     obtain⟨a,r,_⟩:=DH hidx;simp[Yl,Yn,r]
  .rw[Yn]at N
   obtain⟨a,r,rfl⟩:=Option.map_eq_some_iff.1 N;obtain⟨P,Q,C⟩:=m.row k g a c r;obtain⟨_,R,S⟩:=ao.az a (Yc r);refine⟨YO m.ord c O,(y g O).trans C,fun n A=>?_,by rw[Cg];omega⟩;rw[List.eq_of_mem_replicate A];exact⟨Uf,Uf⟩
 .exact⟨LT c.1,(q.block k c.1).trans c.2⟩
theorem B1(b:(yu p).1=0):uW p p.wa=false/\CI p.funcs=false/\∀f∈p.funcs,fV f.body=true:=by
 unfold yu at b;by_cases g:f5 p=false
 .rw[Dq g]at b;exact absurd b (by show(1 :Int)≠0;decide)
 rw[Dp g]at b;by_cases c:(uW p p.wa || CI p.funcs || !xg p)=true
 .rw[Dq c]at b;exact absurd b Xw
 rw[Dp c]at b;have e:(uW p p.wa || CI p.funcs || !xg p)=false:=Uy
 rw[Cd,Cd]at e;refine⟨e.1.1,e.1.2,fun f k=>?_⟩;have a:=o4 b f k;unfold yl at a;by_cases i:lM f.params=true
 .rw[Dq i]at a;exact absurd a Xw
 rw[Dp i]at a;by_cases d:(zX p f.type f.body f.params f.params.length false 0).1=0
 .rw[Dp (by rw[d];decide)]at a
  by_cases j:fV f.body=true
  .exact j
  .rw[Dp j]at a;exact absurd a (by show(52 :Int)≠0;decide)
 .rw[Dq d]at a;exact absurd a d
theorem HH(h:(yu p).1=0):SW p:=⟨(iQ h).2.1,(B1 h).2.2⟩
theorem zaz(m:(yu p).1=0)(u:∀f∈p.funcs,fJ f.body 0<=1000000000):HG p:=by
 obtain⟨d,q,_⟩:=iQ m;obtain⟨r,s,_⟩:=B1 m;have hF:=m6.1 s;have n:=(iH p).1 r;unfold f5 at d;rw[D2,Y9,Y9]at d;refine⟨fun i j f g t c l e=>?_,fun f c=>?_,fun f c=>⟨(q f c).2,u f c⟩,fun i j f g t c l e=>?_,fun a o=>?_⟩
 .have b:=hF i f c
  have k:=hF j g l;rw[e,k]at b;injection b;omega
 .have b:=d.2 f c
  unfold yj at b;simp only[D2]at b;exact vW b.1.1.1.1
 .have b:=(n i f c).1
  have k:=(n j g l).1;rw[e,k]at b;injection b;omega
 .have b:=d.1 a o
  unfold yi at b;simp only[D2,decide_eq_true_eq]at b;exact⟨vW b.1,O,O⟩
def y1:fS xy->Option Int×RS
 |.ok h s=>(some h.2.1,s)
 |.fin s=>(none,s)
theorem za0(e:(yu p).1=0){b:Fu}(f:jU p ⟨#[109,97,105,110]⟩=some b)(g:b.params=[])(c:List Int){F:Nat}(hF:F<=1000000):
 To p 2000000 ⟨xA p c F,[],[⟨gF b,0,fN b [],[]⟩]⟩ (.stop (y1 (qG (qn p F) [] b.body (xA p c F))).1 (y1 (qG (qn p F) [] b.body (xA p c F))).2):=by
 have i:=(LD (HH e) 2000000 F).2;have d:fN b []=[]:=Hl
 have:=GF (HH e) i (hY f) (l:=[]) (by rw[g];rfl) (t:=xA p c F) (v:=[]) (r:=[]) Zr (LR p c F) (by rw[d];exact⟨Jq,Jq,Jq,Dx _⟩);rw[d]at this ⊢;unfold Sm at this;cases hx:qG (qn p F) [] b.body (xA p c F)with
 |ok a s=>rw[hx]at this;exact this
 |fin s=>rw[hx]at this;exact this
end Go.Proofs.YthcmenajdcbnnaaGreatDoor
namespace Go.Proofs.YthcmenajdcbnnaaGreatDoor
open Go.RowKit Tryz
variable{H j g m L b n:Nat}{p:Pr}{vi v c0 c1 V:C5}{w wr w' wM W:C4}{s:C3}{x:PR Unit}{r:List fH}{t:Int}
theorem YP{B:Nat}{b:Option Addr}{c:Nat}{l:List Int}(a:g5 B w (.slice b l.length c) l)(_:m<=l.length):g5 B w (.slice b m c) (l.take m):=by
 obtain⟨⟨_,_,s,_,hF⟩,p⟩:=a;have y:=p _ _ _ rfl;injection s with i _ f;subst i f;have d:(l.take m).length=m:=Vu
 refine⟨⟨b,c,by rw[d],by rw[d];omega,fun q=>?_⟩,fun _ n c2 e=>by injection e with _ _ f;omega⟩;obtain⟨g,o,j,k⟩:=hF (by rw[d]at q;omega);refine⟨g,o,j,?_⟩
 have v:∀(l:List Int) (m o:Nat),uv 1 (fun(t:Int) g o=>fK B w g o (.int .i64 t)) l g o->uv 1 (fun(t:Int) g o=>fK B w g o (.int .i64 t)) (l.take m) g o:=by
  intro l
  induction l with
  |nil=>intro m o a;simpa using a
  |cons x r u=>
    intro m o a;cases m with
    |zero=>exact trivial
    |succ m=>exact⟨a.1,u m _ a.2⟩
 exact v l m o k
theorem uC(B:Nat)(l:List Int)(v:C5)(w:C4)(a:g5 B w v l):
 Cz 18 #[v] w fun e w'=>∃v',e=.returned v'/\g5 B w v' (l.take 10)/\w=w':=by
 obtain⟨_,c,rfl,_⟩:=a.1.form;have b:l.length<=c:=a.2 _ _ _ rfl;have H:=U a;clear a;by_cases f:10<l.length
 .have d:10<=c:=by omega
  go_enter func18,ntmps18;go_wp2_with fail;go_ret;exact⟨_,rfl,YP H.o O,rfl⟩
 .go_enter func18,ntmps18
  go_wp2_with fail;go_ret;exact⟨_,rfl,by rw[Ye O];exact H.o,rfl⟩
def za1(L:Nat)(w:C4)(a:C5)(r:Int×Int×List Int×Nat×Nat):Prop:=
 w.ownsRow L 3 1 a r.2.2.1.length (r.2.2.1.map (Value.int .i64))/\r.2.2.1.length<=281474976710656
def zb4(a:C5)(r:Int×Int×List Int×Nat×Nat):C5:=.agg #[(r.1:Int),(r.2.1:Int),a,((r.2.2.2.1:Int):Int),((r.2.2.2.2:Int):Int)]
theorem za1.run{b:C5}{r:Int×Int×List Int×Nat×Nat}(a:za1 L w b r):GV w.heap.size w (zb4 b r) r:=⟨b,rfl,uX a.1 rfl a.2,nC a.1⟩
def KA(L:Nat)(w:C4)(a:List Pa)(v:C5):Prop:=gU w.heap.size (fW (nS L) w) v a
theorem KA.keep{b:Nat}{a:List Pa}(c:KA L w a v)(k:zL L w w')(d:b<=L):KA b w' a v:=gU.imp (k.cells d) c
theorem KA.form{a:List Pa}(d:KA L w a v):∃b c,v=.slice b a.length c:=by
 obtain⟨b,c,e,_⟩:=gU.form d;exact⟨b,c,e⟩
def VY(L:Nat)(w:C4)(a:Fu)(v:C5):Prop:=∃b c,v=.agg #[a.name,(a.type:Int),b,c]/\KA L w a.params b/\xm L w a.body c
theorem VY.form{a:Fu}(d:VY L w a v):∃s t b i c2 c j c3,v=.agg #[.string s,(t:Int),.slice b i c2,.slice c j c3]:=by
 obtain⟨_,_,g,e,f⟩:=d;obtain⟨b,c2,rfl⟩:=e.form;obtain⟨c,c3,rfl,_⟩:=f.form;exact⟨_,_,_,_,_,_,_,_,g⟩
theorem o6{x:PR Fu}(d:ja x fun a=>VY L w a v)(f:zI x):∃s t b g c2 c i c3,v=.agg #[.string s,(t:Int),.slice b g c2,.slice c i c3]:=by
 obtain⟨a,e⟩:=d.some f;exact e.form
abbrev B2:Obj:=.cells #[.string ⟨#[]⟩,(0:Int),(),()] 93
abbrev LU(W:C4)(g:Nat)(c0 c1 c2 c3:C5):C4:=(((W.setCell (g,0) c0).setCell (g,1) c1).setCell (g,2) c2).setCell (g,3) c3
theorem PN{a b c d:C5}{T:TypeId}{fr:Nat×Nat}(e:W.heap[g]?=some (.cells #[a,b,c,d] T fr))(c0 c1 c2 c3:C5):(LU W g c0 c1 c2 c3).heap[g]?=some (.cells #[c0,c1,c2,c3] T fr):=
 D3 (D3 (D3 (D3 e c0) c1) c2) c3
theorem zL.wy(a:g<L)(c0 c1 c2 c3:C5):zL L w (LU w g c0 c1 c2 c3):=
 (((zL.set a 0 c0).trans (zL.set a 1 c1)).trans (zL.set a 2 c2)).trans (zL.set a 3 c3)
theorem lZ{c2 c3:C5}{T:TypeId}(h:W.heap[g]?=some (.cells #[c0,c1,c2,c3] T (0,0))):
 (W.cell? (g,0)=some c0/\W.cell? (g,1)=some c1/\W.cell? (g,2)=some c2/\W.cell? (g,3)=some c3)/\∀o,W.frozen? ⟨g,o,none⟩=false:=by
 refine⟨⟨(Du h 0).trans rfl,(Du h 1).trans rfl,(Du h 2).trans rfl,(Du h 3).trans rfl⟩,fun o=>?_⟩;simp[World.frozen?,h]
theorem jK.wy{tj:List fH}(e:jK b V tj w x W)(d:k5 b V tj w)(c:w.heap.size<=g)(a:g≠b)(c0 c1 c2 c3:C5):jK b V tj w x (LU W g c0 c1 c2 c3):=
 (((e.set d c a 0 c0).set d c a 1 c1).set d c a 2 c2).set d c a 3 c3
def jN(b:Nat)(V:C5)(tj:List fH)(w:C4)(x:PR Unit)(W:C4)(c0 c1 c2 c3:C5):Prop:=
 jK b V tj w x W/\W.heap[w.heap.size]?=some B2/\W.heap[w.heap.size+1]?=some (.cells #[c0,c1,c2,c3] 93 (0,0))/\k5 b V tj w/\b<w.heap.size
section
variable {b:Nat}{V:C5}{tj:List fH} {w W W':C4}{x y:PR Unit}{c0 c1 c2 c3:C5}
theorem jN.start(a:jm b V tj x w)(s:C3)(t:Int):jN b V tj w x ((w.alloc B2).alloc (.cells #[s,(t:Int),(),()] 93)) (.string s) (.int .i64 t) (.slice none 0 0) (.slice none 0 0):=by
 have c:Cy w ((w.alloc B2).alloc (.cells #[s,(t:Int),(),()] 93)):=(Zb.alloc Zr _).alloc Uj _;refine⟨⟨a.below c,fI.wb c a.lt⟩,zu (Ds w B2) _,?_,a.tok,a.lt⟩;have:=Ds (w.alloc B2) (.cells #[s,(t:Int),(),()] 93);rw[zA]at this;exact this
theorem jN.did(h:jN b V tj w x W c0 c1 c2 c3):jK b V tj w x W:=h.1
theorem jN.st(h:jN b V tj w x W c0 c1 c2 c3):jm b V tj x W:=h.1.1
theorem jN.lt(h:jN b V tj w x W c0 c1 c2 c3):b<w.heap.size:=h.2.2.2.2
theorem jN.size(h:jN b V tj w x W c0 c1 c2 c3):w.heap.size+1<W.heap.size:=(Array.getElem?_eq_some_iff.1 h.2.2.1).1
theorem jN.step(h:jN b V tj w x W c0 c1 c2 c3)(g:jK b V tj W y W'):jN b V tj w y W' c0 c1 c2 c3:=
 ⟨h.1.after g,jI g.off (by have:=h.size;omega) Vb h.2.1,jI g.off h.size Vb h.2.2.1,h.2.2.2⟩
theorem jN.alloc(h:jN b V tj w x W c0 c1 c2 c3)(o:Obj):jN b V tj w x (W.alloc o) c0 c1 c2 c3:=⟨h.1.alloc o,zu h.2.1 o,zu h.2.2.1 o,h.2.2.2⟩
theorem jN.drew(h:jN b V tj w x W c0 c1 c2 c3):jN b V tj w x W.drew c0 c1 c2 c3:=h.step ⟨h.st.below Zb.drew,fI.wb Zb.drew h.st.lt⟩
theorem jN.own(h:jN b V tj w x W c0 c1 c2 c3):(W.cell? (w.heap.size,0)=some (.string ⟨#[]⟩)/\W.cell? (w.heap.size,1)=some (.int .i64 0)/\W.cell? (w.heap.size,2)=some (.slice none 0 0)/\W.cell? (w.heap.size,3)=some (.slice none 0 0))/\∀o,W.frozen? ⟨w.heap.size,o,none⟩=false:=lZ h.2.1
theorem jN.f(h:jN b V tj w x W c0 c1 c2 c3):(W.cell? (w.heap.size+1,0)=some c0/\W.cell? (w.heap.size+1,1)=some c1/\W.cell? (w.heap.size+1,2)=some c2/\W.cell? (w.heap.size+1,3)=some c3)/\∀o,W.frozen? ⟨w.heap.size+1,o,none⟩=false:=lZ h.2.2.1
theorem jN.set(h:jN b V tj w x W c0 c1 c2 c3)(i:Nat)(u:C5):jK b V tj w x (W.setCell (w.heap.size+1,i) u)/\(W.setCell (w.heap.size+1,i) u).heap[w.heap.size]?=some B2:=
 ⟨h.1.set h.2.2.2.1 O Vb i u,(Dw W _ u _ Hg).trans h.2.1⟩
theorem jN.set2(h:jN b V tj w x W c0 c1 c2 c3)(u:C5):jN b V tj w x (W.setCell (w.heap.size+1,2) u) c0 c1 u c3:=⟨(h.set 2 u).1,(h.set 2 u).2,D3 h.2.2.1 u,h.2.2.2⟩
theorem jN.wk(h:jN b V tj w x W c0 c1 c2 c3)(u:C5):jN b V tj w x (W.setCell (w.heap.size+1,3) u) c0 c1 c2 u:=⟨(h.set 3 u).1,(h.set 3 u).2,D3 h.2.2.1 u,h.2.2.2⟩
theorem jN.fin(c:jN b V tj w y W c0 c1 c2 c3){X:PR Fu}(e:X.un=y)(d:ja X fun a=>VY w.heap.size (_root_.Go.Proofs.YthcmenajdcbnnaaGreatDoor.LU W w.heap.size c0 c1 c2 c3) a (.agg #[c0,c1,c2,c3])):
 qk b V tj w X (VY w.heap.size) (.returned (.agg #[c0,c1,c2,c3])) (_root_.Go.Proofs.YthcmenajdcbnnaaGreatDoor.LU W w.heap.size c0 c1 c2 c3):=
 ⟨_,rfl,e▸c.1.wy c.2.2.2.1 Zr Gb _ _ _ _,d⟩
theorem jN.read(h:jN b V tj w x W c0 c1 c2 c3):((((W.setCell (w.heap.size,0) c0).setCell (w.heap.size,1) c1).setCell (w.heap.size,2) c2).setCell (w.heap.size,3) c3).cell? (w.heap.size,0)=some c0/\((((W.setCell (w.heap.size,0) c0).setCell (w.heap.size,1) c1).setCell (w.heap.size,2) c2).setCell (w.heap.size,3) c3).cell? (w.heap.size,1)=some c1/\
 ((((W.setCell (w.heap.size,0) c0).setCell (w.heap.size,1) c1).setCell (w.heap.size,2) c2).setCell (w.heap.size,3) c3).cell? (w.heap.size,2)=some c2/\((((W.setCell (w.heap.size,0) c0).setCell (w.heap.size,1) c1).setCell (w.heap.size,2) c2).setCell (w.heap.size,3) c3).cell? (w.heap.size,3)=some c3:=(lZ (PN h.2.1 c0 c1 c2 c3)).1
end
def zAp(m:Nat)(tk:List Pa)(r:List fH):PR (List Pa):=if zq [44] r=true then p2 m tk r.tail else(zN [41] r).bind fun _ r=>.ok tk r
def jO(r:List fH):PR Pa:=(k3 r).bind fun t r=>(qt 1 r).bind fun s r=>.ok ⟨s,t⟩ r
theorem YQ{tk:List Pa}:p2 (m+1) tk r=(jO r).bind fun p r=>zAp m (tk++[p]) r:=by
 rw[p2];unfold jO;simp only[zb];rfl
theorem yf(b:qC r):zm 1 r (jO r):=by
 unfold jO;exact(xr b).bind (m:=0) (fun t r _ a=>(jJ a 1 Uf).bind (n:=0) (fun _ r _ a=>zm.self a _) O) O
theorem o7(r:List fH):(jO r).un=((k3 r).un.bind fun _ r=>qt 1 r).un:=by
 unfold jO;cases k3 r with
 |ok t r=>
   show((qt 1 r).bind fun s r=>PR.ok (⟨s,t⟩:Pa) r).un=(qt 1 r).un;rw[jj];rfl
 |_=>rfl
theorem YR(r:List fH):zI (k3 r):=by
 unfold k3 zN;split
 .trivial
 .split<;>trivial
theorem l0{c:Int}(d:ja (k3 r) fun a=>a=c)(e:ja ((k3 r).un.bind fun _ r=>qt 1 r) fun a=>a=s):ja (jO r) fun p=>p=⟨s,c⟩:=by
 unfold jO;cases hx:k3 r with
 |ok t b=>
   rw[hx]at d e;obtain rfl:t=c:=d;have g:ja (qt 1 b) fun a=>a=s:=e
   show ja ((qt 1 b).bind fun s r=>PR.ok (⟨s,t⟩:Pa) r) _;exact g.bind (fun a r _ f=>by subst f;exact rfl) fun a f=>⟨_,rfl⟩
 |bad b=>exact⟨_,rfl⟩
 |deep b=>exact⟨_,rfl⟩
 |o=>trivial
theorem KB(c:ja (k3 r) fun a=>WF w a v):∃b,v=.int .i64 b/\ja (k3 r) fun a=>a=b:=by
 obtain⟨b,i⟩:=c.some (YR r);have f:v=.int .i64 b:=i;refine⟨b,f,c.imp fun a g=>?_⟩;have d:v=.int .i64 a:=g;rw[f]at d;injection d with _ e;exact e.symm
theorem LV{tj:List fH}{d f:C4}{Y:PR Unit}{c3 c:C5}{tk:List Pa}{q:Pa}(a:jN b V tj w Y d c0 c1 v c3)(n:f4 kP (w.heap.size+2) d v tk)
 (i:(d.alloc (.cells #[q.name,(q.type:Int)] 100)).grownBy f v.ownBlock) (x:kn (d.alloc (.cells #[q.name,(q.type:Int)] 100)) v c)
 (t:f.ownsRow (w.heap.size+2) 100 2 c (tk.length+1) (tk.flatMap kP.cs++[.string q.name,.int .i64 q.type])):
 jN b V tj w Y f c0 c1 v c3/\jN b V tj w Y (f.setCell (w.heap.size+1,2) c) c0 c1 c c3/\f4 kP (w.heap.size+2) (f.setCell (w.heap.size+1,2) c) c (tk++[q]):=by
 have g:Cy d (d.alloc (.cells #[q.name,(q.type:Int)] 100)):=Zb.alloc Zr _;have r:f4 kP (w.heap.size+2) f c (tk++[q]):=n.app (L:=d.heap.size) trivial Xg (fun k s=>(n.own k s).1) g i x t;have u:∀j,v.ownBlock=some j->w.heap.size+2<=j:=fun j l=>(n.own j l).2
 have m:∀j,j<d.heap.size->j<w.heap.size+2->f.heap[j]?=d.heap[j]?:=fun j l _=>(i.block j (Yb l g.size) (fun e=>by have:=u j e.symm;omega)).trans (g.block j l)
 have y:=a.size;have z:=a.lt;have p:fI b w.heap.size w f:=a.did.off.trans (fI.mk' (i.os.trans g.os) (i.tape.trans g.tape) (i.output.trans g.output) (Dy g.size i.size) a.st.lt fun j l _=>m j Hp O);have o:jN b V tj w Y f c0 c1 v c3:=⟨⟨a.st.move a.2.2.2.1 p (m b a.st.lt O),p⟩,(m _ O O).trans a.2.1,(m _ y O).trans a.2.2.1,a.2.2.2⟩
 exact⟨o,o.set2 c,r.keep (zL.set O 2 c)⟩
def FnB(b:Nat)(V:C5)(tj:List fH)(w:C4)(T:PR (List Pa))(n:Nat)(c0 c1:C5)(wr:C4):Prop:=
 ∃(m:Nat) (tk:List Pa) (y:PR Unit) (v:C5),m<=n/\f4 kP (w.heap.size+2) wr v tk/\jN b V tj w y wr c0 c1 v (.slice none 0 0)/\T=y.bind (fun _ r=>zAp m tk r)/\(qD y=false->tk.length<=yk b wr)/\tk.length<=2000000
def zb5(b:Nat)(V:C5)(tj:List fH)(w:C4)(T:PR (List Pa))(n:Nat)(c0 c1:C5)(X:PR Unit)(a:C5)(wr:C4):Prop:=
 (a=.bool true/\jN b V tj w X wr c0 c1 (.slice none 0 0) (.slice none 0 0))\/(a=.bool false/\FnB b V tj w T n c0 c1 wr)
theorem UV{tj:List fH}{f:C5}{tk:List Pa}{q:Pa}{T:PR (List Pa)}(k:m<=n)(d:T=p2 (m+1) tk r)(a:jN b V tj w (jO r).un W c0 c1 f (.slice none 0 0))(j:f4 kP (w.heap.size+2) W f (tk++[q]))
 (t:ja (jO r) fun p=>p=q) (u:qC r) (_:r.length<=tj.length) (_:tk.length<=tj.length-r.length) (_:tk.length<=1000000):FnB b V tj w T n c0 c1 W/\tj.length-r.length<=yk b W:=by
 rw[YQ]at d;have hF:=yf u;have g:(tk++[q]).length=tk.length+1:=Uh
 cases hx:jO r with
 |ok p c=>
   rw[hx]at d a t hF;obtain rfl:p=q:=t;have e:zc b V tj c false false W:=a.st;have l:=jY e;have s:=(show zJ 1 r c from hF).2.2;exact⟨⟨m,tk++[p],.ok () c,f,k,j,a,d,fun _=>Ku,Ku⟩,O⟩
 |bad c=>
   rw[hx]at d a hF;have e:zc b V tj c true false W:=a.st;have l:=jY e;have s:=(show zJ 0 r c from hF).2.2;exact⟨⟨m,tk++[q],.bad c,f,k,j,a,d,(fun i=>by cases i),Ku⟩,O⟩
 |deep c=>
   rw[hx]at d a hF;have e:zc b V tj c false true W:=a.st;have l:=jY e;have s:=(show zJ 0 r c from hF).2.2;exact⟨⟨m,tk++[q],.deep c,f,k,j,a,d,(fun i=>by cases i),Ku⟩,O⟩
 |o=>
   rw[hx]at a;exact absurd a.st id
theorem YS{tk:List Pa}{y:PR Unit}(a:zU [44] y=false):y.bind (fun _ r=>zAp m tk r)=y.bind fun _ r=>(zN [41] r).bind fun _ r=>.ok tk r:=by
 cases y with
 |ok _ r=>
   show zAp m tk r=_;unfold zAp;rw[Dp Hb];rfl
 |_=>rfl
theorem LW{y:PR Unit}{tk:List Pa}{P:List Pa->Prop}(h:P tk):ja (y.bind fun _ r=>(zN [41] r).bind fun _ r=>.ok tk r) P:=by
 cases y with
 |ok _ r=>exact vL h
 |bad r=>exact⟨tk,h⟩
 |deep r=>exact⟨tk,h⟩
 |o=>trivial
theorem UW(y:PR Unit)(tk:List Pa):(y.bind fun _ r=>(zN [41] r).bind fun _ r=>PR.ok tk r).un=y.bind fun _ r=>zN [41] r:=by
 rw[jj];simp only[xY]
def UX(n:Nat)(t:Int)(s:C3)(ps:List Pa)(r:List fH):PR Fu:=(pB n 1 r).bind fun b r=>.ok ⟨s,t,ps,b⟩ r
def KC(n:Nat)(r:List fH):PR (List Pa):=if zq [41] r=true then .ok [] r.tail else p2 n [] r
theorem B3(n:Nat)(t:Int)(s:C3)(x:PR Unit):(x.bind fun _ r=>pC n t s r)=((x.bind fun _ r=>zN [40] r).bind fun _ r=>KC n r).bind fun ps r=>UX n t s ps r:=by
 unfold pC WC KC UX;simp only[zb]
theorem LX{T:PR (List Pa)}(h:zI (T.bind fun ps r=>UX n t s ps r)):zI (T.un.bind fun _ r=>pB n 1 r):=by
 cases T with
 |ok ps r=>exact qM (show zI (UX n t s ps r)from h)
 |bad r=>trivial
 |deep r=>trivial
 |o=>exact h
theorem zb6{T:PR (List Pa)}:(T.bind fun ps r=>UX n t s ps r).un=(T.un.bind fun _ r=>pB n 1 r).un:=by
 cases T with
 |ok ps r=>
   show(UX n t s ps r).un=(pB n 1 r).un;unfold UX;rw[jj];rfl
 |_=>rfl
theorem za3{T:PR (List Pa)}{P1:List Pa->Prop}{P2:List St->Prop}{Q:Fu->Prop}(a:ja T P1)(g:ja (T.un.bind fun _ r=>pB n 1 r) P2)(k:zI (T.un.bind fun _ r=>pB n 1 r))(c:∀ps b,P1 ps->P2 b->Q ⟨s,t,ps,b⟩):ja (T.bind fun ps r=>UX n t s ps r) Q:=by
 obtain⟨f,i⟩:=g.some k;cases T with
 |ok ps r=>
   show ja ((pB n 1 r).bind fun b r=>PR.ok (⟨s,t,ps,b⟩:Fu) r) Q;have j:ja (pB n 1 r) P2:=g;exact j.bind (fun b r _ d=>c ps b a d) fun b d=>⟨_,c ps b a d⟩
 |bad r=>obtain⟨ps,e⟩:=a;exact⟨_,c ps f e i⟩
 |deep r=>obtain⟨ps,e⟩:=a;exact⟨_,c ps f e i⟩
 |o=>trivial
theorem DV{tj:List fH}{d g:C4}{n:Nat}{T:PR (List Pa)}{c:C5}{tk:List Pa}(e:jN b V tj w T.un d (.string s) (.int .i64 t) v (.slice none 0 0))(j:f4 kP (w.heap.size+2) d v tk)(_:tk.length<=2000000)(k:ja T fun ps=>ps=tk)
 (f:jK b V tj d (T.un.bind fun _ r=>pB n 1 r).un g) (i:ja (T.un.bind fun _ r=>pB n 1 r) fun a=>xm d.heap.size g a c) (m:zI (T.un.bind fun _ r=>pB n 1 r)):
 qk b V tj w (T.bind fun ps r=>UX n t s ps r) (VY w.heap.size) (.returned (.agg #[s,(t:Int),v,c])) (LU (g.setCell (w.heap.size+1,3) c) w.heap.size (.string s) (.int .i64 t) v c):=by
 have u:=e.size;have q:=e.lt;have p:=f.off.size;refine jN.fin ((e.step f).wk c) zb6 (za3 k i m fun ps _ o l=>?_);subst o;refine⟨v,c,rfl,?_,?_⟩
 .refine KA.keep (L:=w.heap.size+2) (j.params O) ?_ O
  exact((zL.did f O).trans (zL.set O 3 c)).trans (zL.wy O _ _ _ _)
 .exact xm.keep l ((zL.set O 3 c).trans (zL.wy O _ _ _ _)) O
theorem YT{tj:List fH}(i:jm b V tj x w)(m:(x.bind fun _ r=>zN [40] r)=.ok () r)(j:zq [41] r=true)(l:zI (x.bind fun _ r=>pC n t s r)):
 Cz 59 #[(b,0),(t:Int),s] w (qk b V tj w (x.bind fun _ r=>pC n t s r) (VY w.heap.size)):=by
 have q:(x.bind fun _ r=>pC n t s r)=(PR.ok [] r.tail).bind fun ps r=>UX n t s ps r:=by
  rw[B3,m];show(KC n r).bind _=_;unfold KC;rw[Dq j]
 rw[q]at l ⊢;have g:=C2 (zI ((PR.ok () r.tail).bind fun _ r=>pB n 1 r)) (LX l);have a:=U (jN.start i s t);have D:=U m;have E:=C2 (zU (⟨#[41]⟩:C3).data.toList (PR.ok () r)=true) j;have z:=U (sV (b:=b) (V:=V) (tj:=tj) (n:=n) (d:=1) Uf Uf);have J:=i.lt;clear i m j l q;go_enter func59,ntmps59
 go_wp2_with (first
  | (go_at_call 58;(with_reducible refine(zg a.o.st ⟨#[40]⟩).mono ?_);rintro e H ⟨rfl,c⟩
     replace a:=C2 (jN b V tj w (.ok () r) H _ _ _ _) (D.o▸a.o.step c)
     clear c)
  | (go_at_call 56;(with_reducible refine(qA a.o.st _ E.o).mono ?_);rintro e I ⟨rfl,c⟩
     replace a:=C2 (jN b V tj w (.ok () r.tail) I _ _ _ _) (a.o.step c)
     clear c)
  | (go_at_call 82;(with_reducible refine(z.o.call a.o.st g.o).mono ?_);rintro e _ ⟨_,rfl,c,k⟩
     obtain⟨p,u,y,rfl⟩:=xa k g.o;have C:=U k;have A:=a;have B:=U c;replace a:=U (a.o.step c);obtain⟨⟨c0,c1,c2,c3⟩,_⟩:=a.o.own;obtain⟨⟨_,_,_,_⟩,_⟩:=a.o.f
     clear c k))
 obtain⟨F,f1,G,f3⟩:=(a.o.wk (.slice p u y)).read;refine bodyPost_ret (v:=.agg #[s,(t:Int),(),(p,u,y)]) (by simp[results,results59,go_sem,F,f1,G,f3]) rfl ?_;exact DV (T:=.ok [] r.tail) A.o (f4.nil kP _ _) Uh rfl B.o C.o g.o
theorem YU{tj:List fH}(ax:jm b V tj x w)(ad:zU [41] (x.bind fun _ r=>zN [40] r)=false)(af:zI (x.bind fun _ r=>pC n t s r)):
 Cz 59 #[(b,0),(t:Int),s] w (qk b V tj w (x.bind fun _ r=>pC n t s r) (VY w.heap.size)):=by
 obtain⟨X,ae⟩:=C0 ((x.bind fun _ r=>zN [40] r));obtain⟨T,C⟩:=C0 ((X.bind fun _ r=>KC n r));have aQ:(x.bind fun _ r=>pC n t s r)=T.bind fun ps r=>UX n t s ps r:=by rw[B3,ae,C]
 rw[aQ]at af ⊢;rw[ae]at ad
 have aR:T=X.bind fun _ r=>p2 n [] r:=by
  rw[<-C];cases X with
  |ok bh r=>show KC n r=p2 n [] r;unfold KC;rw[Dp (by rw[show zq [41] r=false from ad];decide)]
  |_=>rfl
 have H:=U (LX af);have aS:zI T:=qM af;have aP:=U aS;have a:=U (jN.start ax s t);have a2:=U ae;have ap:=U aR;have a3:=C2 (zU (⟨#[41]⟩:C3).data.toList X=false) ad;have aO:=U (sV (b:=b) (V:=V) (tj:=tj) (n:=n) (d:=1) Uf Uf);have bo:=ax.lt;clear ax ae ad af aQ C aR aS;go_enter func59,ntmps59
 go_wp2_with (first
  | (go_at_call 58;(with_reducible refine(zg a.o.st ⟨#[40]⟩).mono ?_);rintro e bk ⟨rfl,c⟩
     replace a:=C2 (jN b V tj w X bk _ _ _ _) (a2.o▸a.o.step c)
     clear c)
  | (go_at_call 56;(with_reducible refine(zE a.o.st _ a3.o).mono ?_);rintro e L ⟨rfl,c⟩
     replace a:=U (a.o.step c)
     clear c))
 go_loopw [8] (fun aw wr=>zb5 b V tj w T n (.string s) (.int .i64 t) X aw wr) (fun aw wr=>2*(tj.length-yk b wr)+n6 aw)
 case atStart=>exact .inl ⟨rfl,a.o⟩
 case round=>
  obtain⟨aY,aU,aV,aW,aX⟩:=info_parts XH;have A:=U (Dt aU (Dt aV (Dt aW aX)));clear aU aV aW aX;rcases hrel with⟨rfl,B⟩|⟨rfl,m,tk,y,v,_,J,B,C,aA,az⟩
  .replace a:=U B
   have g:=U (f4.nil kP (w.heap.size+2) wr);clear B;cases ho:qD X with
   |true=>
     have j:T=X.bind fun _ r=>(zN [41] r).bind fun _ r=>.ok [] r:=ap.o.trans (i5 ho _ _)
     have aq:=U (show T.un=X.bind fun _ r=>zN [41] r by rw[j,UW]);have D:=U (show ja T fun ps=>ps=[]by rw[j];exact LW rfl);have az:([]:List Pa).length<=2000000:=Uh
     have a0:=U ho;clear ho j
     go_wp2_with (first
      |(go_at_call 53;(with_reducible refine(qL a.o.st true a0.o).mono ?_);rintro e L ⟨rfl,rfl⟩)
      | (go_at_call 58;(with_reducible refine(zg a.o.st ⟨#[41]⟩).mono ?_);rintro e aN ⟨rfl,c⟩
         replace g:=U (g.o.keep (zL.did c O));replace a:=C2 (jN b V tj w T.un aN _ _ _ _) (aq.o▸a.o.step c)
         clear c)
      | (go_at_call 82;(with_reducible refine(aO.o.call a.o.st H.o).mono ?_);rintro e bl ⟨bj,rfl,c,i⟩
         obtain⟨M,Z,aa,rfl⟩:=xa i H.o;have am:=U i;have aj:=a;have ak:=U c;replace a:=U (a.o.step c);obtain⟨⟨c0,c1,c2,c3⟩,a5⟩:=a.o.own;obtain⟨⟨aG,aH,aI,aJ⟩,aK⟩:=a.o.f
         clear c i))
     obtain⟨au,f1,av,f3⟩:=(a.o.wk (.slice M Z aa)).read;refine bodyPost_ret (v:=.agg #[s,(t:Int),(),(M,Z,aa)]) (by simp[results,results59,go_sem,au,f1,av,f3]) rfl ?_;exact DV aj.o g.o az D.o ak.o am.o H.o
   |false=>
     obtain⟨r,rfl⟩:∃r,X=.ok () r:=by
      cases X with
      |ok bh r=>exact⟨r,rfl⟩
      |bad r=>cases ho
      |deep r=>cases ho
      |o=>exact absurd a.o.st id
     obtain⟨K,aF,ba,aT,bd⟩:=yI a.o.did
     obtain⟨q,rfl⟩:∃q,n=q+1:=by
      cases n with
      |zero=>have ab:=aP.o;rw[ap.o]at ab;exact absurd (show zI (p2 0 [] r)from ab) (by rw[p2];exact id)
      |succ q=>exact⟨q,rfl⟩
     obtain⟨tk,R⟩:∃tk:List Pa,tk=[]:=⟨_,rfl⟩
     have bm:tk.length<=1000000:=by rw[R];simp
     have bn:tk.length<=tj.length-r.length:=by rw[R];simp
     replace g:=U (show f4 kP (w.heap.size+2) wr (.slice none 0 0) tk by rw[R];exact g.o);have ao:=U (show T=p2 (q+1) tk r by rw[ap.o,R];rfl);have al:=U aT;have ai:=U K;clear ho K R aT
     go_wp2_with (first
      |(go_at_call 53;(with_reducible refine(qL a.o.st false rfl).mono ?_);rintro e L ⟨rfl,rfl⟩)
      | (go_at_call 54;(with_reducible refine(uT a.o.st).mono ?_);rintro e aL ⟨bg,rfl,c,i⟩
         obtain⟨u,rfl,Q⟩:=KB (r:=r) i;have D:=U Q;replace g:=U (g.o.keep (zL.did c O));replace a:=C2 (jN b V tj w (k3 r).un aL _ _ _ _) (a.o.step c);obtain⟨⟨aG,aH,aI,aJ⟩,aK⟩:=a.o.f
         clear c i Q))
     go_region_law (first
      | (refine qY rfl (.tmp 31) (.tmp 36) _ rfl (w.heap.size+2) 100 aY _ 2 24 underlying90 A.o.1 A.o.2.1 A.o.2.2.1 A.o.2.2.2 rfl O (.slice none 0 0) tk.length _ rfl (by exact E.o.1) ⟨z.heap.size,0,none⟩ 1 1 [.string p,.int .i64 u] rfl rfl (by exact E.o.2.1) Um Ul O (by exact E.o.2.2) O ?_
         intro bi aM F S W;obtain⟨aZ,a4,rfl⟩:=zY F;have l:=U (LV (q:=⟨p,u⟩) k.o N.o S W F);have aD:aM.cell? (w.heap.size+1,2)=some (.slice none 0 0):=l.o.1.f.1.2.2.1;have a7:=l.o.1.f.2
         clear F S W)
      | (go_simp;go_at_call 55;(refine(y9 (a.o.drew).st 1 Uf).mono ?_);rintro e z ⟨p,rfl,c,i⟩
         have an:=U i;have N:=U (g.o.keep ((zL.wb Zb.drew).trans (zL.did c O)));have k:=C2 (jN b V tj w (jO r).un z _ _ _ _) ((o7 r).symm▸a.o.drew.step c);have aD:z.cell? (w.heap.size+1,2)=some (.slice none 0 0):=k.o.f.1.2.2.1;have a6:=k.o.f.2;have bc:(z.alloc (.cells #[p,(u:Int)] 100)).cell? (w.heap.size+1,2)=some (.slice none 0 0):=(k.o.alloc _).f.1.2.2.1;have E:=U (N.o.pre [.string p,.int .i64 u] (by have:=k.o.size;omega))
         clear c i))
     all_goals
      go_wp2;have P:=U (UV (n:=q+1) O ao.o l.o.2.1 l.o.2.2 (l0 D.o an.o) al.o aF O O);go_roundw
      case rel=>exact .inr ⟨rfl,P.o.1⟩
      case measure=>
       have ab:=P.o.2;have a8:=ai.o;simp[n6];omega
  .obtain⟨bb,Y⟩:∃v:Bool,zU [44] y=v:=⟨_,rfl⟩
   cases bb with
   |true=>
     obtain⟨ah,rfl,ag⟩:=ux Y;obtain⟨K,_,ba,aB,bd⟩:=yI B.did
     have j:T=p2 m tk ah.tail:=by
      rw[C];show zAp m tk ah=_;unfold zAp;rw[Dq ag]
     obtain⟨q,rfl⟩:∃q,m=q+1:=by
      cases m with
      |zero=>have:=aP.o;rw[j,p2]at this;exact absurd this id
      |succ q=>exact⟨q,rfl⟩
     have a9:=aA rfl;rw[K]at a9;have be:=jq aB;have ai:=U K;have ar:=C2 (zU (⟨#[44]⟩:C3).data.toList (PR.ok () ah)=true) ag;have aC:=aB.sign ag;obtain⟨r,aE⟩:∃bf,bf=ah.tail:=⟨_,rfl⟩
     rw[<-aE]at j be aC;have aF:r.length<=tj.length:=O
     have a1:=U aE;have ao:=U j;have al:=U aC;have g:=U J;replace a:=U B;obtain⟨G,I,rfl⟩:=J.form;clear B J C j K Y ag aB aC aE aA
     go_wp2_with (first
      | (go_at_call 56;(with_reducible refine(qA a.o.st _ ar.o).mono ?_);rintro e L ⟨rfl,c⟩
         have ay:jK b V tj wr (.ok () r) L:=by rw[a1.o];exact c
         replace g:=U (g.o.keep (zL.did ay O));replace a:=U (a.o.step ay)
         clear c ay)
      |(go_at_call 53;(with_reducible refine(qL a.o.st false rfl).mono ?_);rintro e L ⟨rfl,rfl⟩)
      | (go_at_call 54;(with_reducible refine(uT a.o.st).mono ?_);rintro e aL ⟨bg,rfl,c,i⟩
         obtain⟨u,rfl,Q⟩:=KB (r:=r) i;have D:=U Q;replace g:=U (g.o.keep (zL.did c O));replace a:=C2 (jN b V tj w (k3 r).un aL _ _ _ _) (a.o.step c);obtain⟨⟨aG,aH,aI,aJ⟩,aK⟩:=a.o.f
         clear c i Q))
     go_region_law (first
      | (refine qY rfl (.tmp 31) (.tmp 36) _ rfl (w.heap.size+2) 100 aY _ 2 24 underlying90 A.o.1 A.o.2.1 A.o.2.2.1 A.o.2.2.2 rfl O (.slice G tk.length I) tk.length _ rfl (by exact E.o.1) ⟨z.heap.size,0,none⟩ 1 1 [.string p,.int .i64 u] rfl rfl (by exact E.o.2.1) Um Ul O (by exact E.o.2.2) O ?_
         intro bi aM F S W;obtain⟨aZ,a4,rfl⟩:=zY F;have l:=U (LV (q:=⟨p,u⟩) k.o N.o S W F);have aD:aM.cell? (w.heap.size+1,2)=some (.slice G tk.length I):=l.o.1.f.1.2.2.1;have a7:=l.o.1.f.2
         clear F S W)
      | (go_simp;go_at_call 55;(refine(y9 (a.o.drew).st 1 Uf).mono ?_);rintro e z ⟨p,rfl,c,i⟩
         have an:=U i;have N:=U (g.o.keep ((zL.wb Zb.drew).trans (zL.did c O)));have k:=C2 (jN b V tj w (jO r).un z _ _ _ _) ((o7 r).symm▸a.o.drew.step c);have aD:z.cell? (w.heap.size+1,2)=some (.slice G tk.length I):=k.o.f.1.2.2.1;have a6:=k.o.f.2;have bc:(z.alloc (.cells #[p,(u:Int)] 100)).cell? (w.heap.size+1,2)=some (.slice G tk.length I):=(k.o.alloc _).f.1.2.2.1;have E:=U (N.o.pre [.string p,.int .i64 u] (by have:=k.o.size;omega))
         clear c i))
     all_goals
      go_wp2;have P:=U (UV (n:=n) O ao.o l.o.2.1 l.o.2.2 (l0 D.o an.o) al.o aF O O);go_roundw
      case rel=>exact .inr ⟨rfl,P.o.1⟩
      case measure=>
       have ab:=P.o.2;have a8:=ai.o;simp[n6];omega
   |false=>
     have ar:=C2 (zU (⟨#[44]⟩:C3).data.toList y=false) Y;have j:=C.trans (YS (m:=m) (tk:=tk) Y);have aq:=U (show T.un=y.bind fun _ r=>zN [41] r by rw[j,UW]);have D:=U (show ja T fun ps=>ps=tk by rw[j];exact LW rfl);have g:=U J;replace a:=U B;obtain⟨G,I,rfl⟩:=J.form;clear B J C j Y aA
     go_wp2_with (first
      | (go_at_call 56;(with_reducible refine(zE a.o.st _ ar.o).mono ?_);rintro e L ⟨rfl,c⟩
         replace g:=U (g.o.keep (zL.did c O));replace a:=U (a.o.step c)
         clear c)
      | (go_at_call 58;(with_reducible refine(zg a.o.st ⟨#[41]⟩).mono ?_);rintro e aN ⟨rfl,c⟩
         replace g:=U (g.o.keep (zL.did c O));replace a:=C2 (jN b V tj w T.un aN _ _ _ _) (aq.o▸a.o.step c)
         clear c)
      | (go_at_call 82;(with_reducible refine(aO.o.call a.o.st H.o).mono ?_);rintro e bl ⟨bj,rfl,c,i⟩
         obtain⟨M,Z,aa,rfl⟩:=xa i H.o;have am:=U i;have aj:=a;have ak:=U c;replace a:=U (a.o.step c);obtain⟨⟨c0,c1,c2,c3⟩,a5⟩:=a.o.own;obtain⟨⟨aG,aH,aI,aJ⟩,aK⟩:=a.o.f
         clear c i))
     obtain⟨au,f1,av,f3⟩:=(a.o.wk (.slice M Z aa)).read;refine bodyPost_ret (v:=.agg #[s,(t:Int),(G,tk.length,I),(M,Z,aa)]) (by simp[results,results59,go_sem,au,f1,av,f3]) rfl ?_;exact DV aj.o g.o az D.o ak.o am.o H.o
theorem DW{tj:List fH}(a:jm b V tj x w)(c:zI (x.bind fun _ r=>pC n t s r)):
 Cz 59 #[(b,0),(t:Int),s] w (qk b V tj w (x.bind fun _ r=>pC n t s r) (VY w.heap.size)):=by
 cases h41:zU [41] (x.bind fun _ r=>zN [40] r)with
 |true=>
   obtain⟨r,e,d⟩:=ux h41;exact YT a e d c
 |false=>exact YU a h41 c
