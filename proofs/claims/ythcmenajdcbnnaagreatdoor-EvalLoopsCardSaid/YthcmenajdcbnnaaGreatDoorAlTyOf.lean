import Derived.Test.YthcmenajdcbnnaaGreatDoorAlTyRead
set_option linter.unusedSimpArgs false
set_option linter.unusedVariables false
set_option maxRecDepth 100000
set_option maxHeartbeats 99000000
namespace Go.Proofs.YthcmenajdcbnnaaGreatDoor
open Go.RowKit Tryz
theorem Ox{p:Prop}(h:p:=by
 go_roundw
 case rel=>exact⟨j+1,O,by go_num,Jr,i.o.trans (q.o.mono O)⟩
 case measure=>simp[intOf];omega):p:=h
theorem Oy{p:Prop}(h:p:=by
 go_wp2_with fail;go_roundw
 case rel=>exact⟨j+1,O,by go_num,Jr,i.o.alloc S _⟩
 case measure=>simp[intOf];omega):p:=h
theorem Oz{p:Prop}(h:p:=by
 cases j with
 |zero=>simp at b;subst b;rw[c];rfl
 |succ j=>rw[d Up,Bool.or_true]):p:=h
theorem Ia{p:Prop}(h:p:=by
 go_ret
 exact⟨zC Vg,d.o.trans (r.o.mono O)⟩):p:=h
variable{B C m j:Nat}{p:Pr}{v0 v1 v:C5}{w:C4}{x:St}{l:List St}
section
variable (B C D:Nat)(p:Pr)(tf:List Pa)(op n:Int)(s:C3)(A:Option Addr)(m c:Nat)(v0 v1 v:C5)(w:C4)
variable (hB:B<=w.heap.size)(hC:C<=w.heap.size)(hD:D<=w.heap.size)(ha:gN B w v0 p.wa)(hf:gO B w v1 p.funcs)(hS:hR w C (.pointer none) D v tf.reverse)(hp:mH p)
include hB hC hD ha hf hS hp in
theorem lN(k:Int)(a:k=1\/k=2\/k=3\/k=4\/k=5\/k=6\/k=7\/k=8):Cz 153 #[.agg #[v0,v1],v,.agg #[(k:Int),(op:Int),(n:Int),s,(A,m,c)]] w (jr w (qB p tf k op s)):=by
 rcases a with rfl|rfl|rfl|rfl|rfl|rfl|rfl|rfl
 .exact IJ B C D p tf op n s A m c v0 v1 v w hB hC hD ha hf hS hp
 .exact CN B C D p tf op n s A m c v0 v1 v w hB hC hD ha hf hS hp
 .cases hv:zv tf s with
  |none=>
    have e:qB p tf 3 op s=([],0,50):=Ve
    rw[e];exact wY B C D p tf op n s A m c v0 v1 v w hB hC hD ha hf hS hp hv
  |some t=>
    have e:qB p tf 3 op s=([],t,0):=Ve
    rw[e];exact r9 B C D p tf op n s A m c v0 v1 v w hB hC hD ha hf hS hp t hv
 .exact IK B C D p tf op n s A m c v0 v1 v w hB hC hD ha hf hS hp
 .exact IL B C D p tf op n s A m c v0 v1 v w hB hC hD ha hf hS hp
 .cases hv:zZ p.wa s with
  |none=>
    have e:qB p tf 6 op s=([],0,50):=Ve
    rw[e];exact p5 B C D p tf op n s A m c v0 v1 v w hB hC hD ha hf hS hp hv
  |some t=>
    have e:qB p tf 6 op s=([1],1,0):=Ve
    rw[e];exact oD B C D p tf op n s A m c v0 v1 v w hB hC hD ha hf hS hp t hv
 .exact E6 B C D p tf op n s A m c v0 v1 v w hB hC hD ha hf hS hp
 .exact E5 B C D p tf op n s A m c v0 v1 v w hB hC hD ha hf hS hp
end
structure wR (B C:Nat) (p:Pr) (vars:List Pa) (v0 v1 v:C5) (w:C4):Prop where
 hB:B<=w.heap.size
 hC:C<=w.heap.size
 ha:gN B w v0 p.wa
 hf:gO B w v1 p.funcs
 hs:hR w C (.pointer none) w.heap.size v vars.reverse
theorem wR.below{tf:List Pa}{w':C4}(a:wR B C p tf v0 v1 v w)(b:Cy w w'):wR B C p tf v0 v1 v w' where
 hB:=Dy a.hB b.size
 hC:=Dy a.hC b.size
 ha:=a.ha.below (b.mono a.hB) Zr
 hf:=a.hf.below (b.mono a.hB) Zr
 hs:=(a.hs.below b).up b.size
theorem wR.form{tf:List Pa}(e:wR B C p tf v0 v1 v w):∃a c b d q,v0=.slice a p.wa.length c/\v1=.slice b p.funcs.length d/\v=.pointer q:=by
 obtain⟨a,c,f,_⟩:=e.ha.form;obtain⟨b,d,g,_⟩:=e.hf.form;obtain⟨q,i⟩:=(e.hs.fin (i1.nil _ _)).form;exact⟨a,c,b,d,q,f,g,i⟩
def TyC(m:Nat):Prop:=∀(B C:Nat) (p:Pr) (tf:List Pa) (e:Ex) (r:Int×Int) (x v0 v1 v:C5) (w:C4),xx e m=true->mH p->qE p tf e=r->wR B C p tf v0 v1 v w->k1 B w e x->
 Cz 136 #[.agg #[v0,v1],v,x] w (Cw (.tuple #[(r.1:Int),(r.2:Int)]) w)
theorem TyC.call(a:TyC m){tf:List Pa}{e:Ex}{r:Int×Int}{x:C5}(b:xx e m=true)(c:mH p)(d:qE p tf e=r)(f:wR B C p tf v0 v1 v w)(g:k1 B w e x):
 Cz 136 #[.agg #[v0,v1],v,x] w (Cw (.tuple #[(r.1:Int),(r.2:Int)]) w):=a B C p tf e r x v0 v1 v w b c d f g
theorem rG{g:Nat}{b c d e f:C5}{T:TypeId}(a:w.heap[g]?=some (.cells #[b,c,d,e,f] T (0,0))):w.cell? (g,0)=some b/\w.cell? (g,1)=some c/\w.cell? (g,2)=some d/\w.cell? (g,3)=some e/\w.cell? (g,4)=some f:=
 ⟨(Du a 0).trans rfl,(Du a 1).trans rfl,(Du a 2).trans rfl,(Du a 3).trans rfl,(Du a 4).trans rfl⟩
theorem E7(B C:Nat)(p:Pr)(tf:List Pa)(k op n:Int)(s:C3)(tc:List Ex)(r:Int×Int)(F v0 v1 v:C5)(w:C4)(f:zl k op n s tc.length=true)(hp:mH p)(d:wR B C p tf v0 v1 v w)(E:kW B w F tc)
 (N:List Int) (K t:Int) (b:qB p tf k op s=(N,K,t)) (L:t≠0) (D:qE p tf (.mk k op n s tc)=r):
 Cz 136 #[.agg #[v0,v1],v,.agg #[(k:Int),(op:Int),(n:Int),s,F]] w (Cw (.tuple #[(r.1:Int),(r.2:Int)]) w):=by
 have z:=RC f (p:=p) (tf:=tf) (by rw[b];exact L);rw[D,b]at z;subst z;obtain⟨g,l,i,m,q,rfl,rfl,rfl⟩:=d.form;obtain⟨A,c,rfl,_⟩:=E.form;have G:=U d;have J:=U hp;have I:=U (yv f);have H:=U b;clear d hp f b E D;go_enter func136,ntmps136
 go_wp2_with (go_at_call 153
              have a:=(G.o.below ((D4 w.heap.size w).alloc Zr (qQ g p.wa.length l i p.funcs.length m))).below ((D4 (w.alloc (qQ g p.wa.length l i p.funcs.length m)).heap.size _).alloc Zr (yh k op n s A tc.length c))
              (with_reducible refine(lN B C _ p tf op n s A tc.length c _ _ _ _ a.hB a.hC Zr a.ha a.hf a.hs J.o k I.o).mono ?_)
              rw[H.o];rintro e P ⟨y,_,rfl,x,M⟩;obtain⟨_,_,rfl,_⟩:=x.form;have j:=C2 (Cy w P) (((Zb.alloc Zr _).alloc Uh _).trans (y.mono Ug))
              clear y x M a)
 go_ret2
 exact⟨rfl,j.o.alloc (by have:=j.o.size;omega) _⟩
theorem CS(B C:Nat)(p:Pr)(tf:List Pa)(k op n:Int)(s:C3)(tc:List Ex)(r:Int×Int)(H v0 v1 v:C5)(w:C4)(m:zl k op n s tc.length=true)(hp:mH p)(j:wR B C p tf v0 v1 v w)(G:kW B w H tc)
 (x:List Int) (N:Int) (b:qB p tf k op s=(x,N,0)) (z:x.length≠tc.length) (F:qE p tf (.mk k op n s tc)=r):
 Cz 136 #[.agg #[v0,v1],v,.agg #[(k:Int),(op:Int),(n:Int),s,H]] w (Cw (.tuple #[(r.1:Int),(r.2:Int)]) w):=by
 have E:=M4 m (p:=p) (tf:=tf) (by rw[b]) (by rw[b];exact z);rw[F]at E;subst E;obtain⟨d,g,f,i,q,rfl,rfl,rfl⟩:=j.form;obtain⟨A,c,rfl,_⟩:=G.form;have J:=U j;have M:=U hp;have L:=U (yv m);have K:=U b;have Q:(x.length:Int)≠(tc.length:Int):=O
 clear j hp m b G F z;go_enter func136,ntmps136
 go_wp2_with (go_at_call 153
              have a:=(J.o.below ((D4 w.heap.size w).alloc Zr (qQ d p.wa.length g f p.funcs.length i))).below ((D4 (w.alloc (qQ d p.wa.length g f p.funcs.length i)).heap.size _).alloc Zr (yh k op n s A tc.length c))
              (with_reducible refine(lN B C _ p tf op n s A tc.length c _ _ _ _ a.hB a.hC Zr a.ha a.hf a.hs M.o k L.o).mono ?_)
              rw[K.o];rintro e y ⟨l,_,rfl,D,P⟩;obtain⟨_,_,rfl,_⟩:=D.form;have t:y.heap[w.heap.size+1]?=some (yh k op n s A tc.length c):=(l.block (w.heap.size+1) Uh).trans (by simpa using Ds (w.alloc (qQ d p.wa.length g f p.funcs.length i)) (yh k op n s A tc.length c));obtain⟨_,_,_,_,_⟩:=rG t;have R:w.heap.size+1<y.heap.size:=zB t;have I:=C2 (Cy w y) (((Zb.alloc Zr _).alloc Uh _).trans (l.mono Ug))
              clear l D P a t)
 go_ret2
 exact⟨rfl,I.o.alloc O _⟩
theorem E8(m:Nat)(bf:TyC m)(B C:Nat)(p:Pr)(tf:List Pa)(k op n:Int)(s:C3)(tc:List Ex)(r:Int×Int)(bg v0 v1 v:C5)(w:C4)(u:zl k op n s tc.length=true)(a1:zx tc m=true)(hp:mH p)(aD:wR B C p tf v0 v1 v w)(J:kW B w bg tc)
 (F:List Int) (W:Int) (M:qB p tf k op s=(F,W,0)) (ao:F.length=tc.length) (_:tc.length<=8) (a3:qE p tf (.mk k op n s tc)=r):
 Cz 136 #[.agg #[v0,v1],v,.agg #[(k:Int),(op:Int),(n:Int),s,bg]] w (Cw (.tuple #[(r.1:Int),(r.2:Int)]) w):=by
 have bi:=U (fun e=>WL (p:=p) (tf:=tf) u (by rw[M]) (by rw[M];exact ao) (e:=e));have aw:=U (fun l=>RE (p:=p) (tf:=tf) hp u (by rw[M]) (by rw[M];exact ao) (l:=l));obtain⟨ah,am,ai,an,q,rfl,rfl,rfl⟩:=aD.form;obtain⟨A,c,rfl,ap⟩:=J.form;obtain⟨bK,z,bc,bd,be⟩:=info_parts kY;have aj:=U (Dt z (Dt bc (Dt bd be)));have K:=U aD;have ay:=U hp;have bk:=U (yv u);have Q:=U M;have ak:=U a3;have bl:=U a1;have aT:=U J;have aR:=U bf;clear aD hp u M J a3 z bc bd be a1 bf;go_enter func136,ntmps136
 go_wp2_with (first
  | (go_at_call 153
     have L:=(K.o.below ((D4 w.heap.size w).alloc Zr (qQ ah p.wa.length am ai p.funcs.length an))).below ((D4 (w.alloc (qQ ah p.wa.length am ai p.funcs.length an)).heap.size _).alloc Zr (yh k op n s A tc.length c))
     (with_reducible refine(lN B C _ p tf op n s A tc.length c _ _ _ _ L.hB L.hC Zr L.ha L.hf L.hs ay.o k bk.o).mono ?_)
     rw[Q.o];rintro e b ⟨d,af,rfl,aE,bC⟩;obtain⟨P,V,rfl,_⟩:=aE.form;have N:b.heap[w.heap.size+1]?=some (yh k op n s A tc.length c):=(d.block (w.heap.size+1) Uh).trans (by simpa using Ds (w.alloc (qQ ah p.wa.length am ai p.funcs.length an)) (yh k op n s A tc.length c));have aJ:b.heap[w.heap.size]?=some (qQ ah p.wa.length am ai p.funcs.length an):=(d.block w.heap.size Ug).trans ((D7 _ _ _ Uh).trans (Ds w _));obtain⟨bt,bu,bv,bw,bx⟩:=rG N;have bT:w.heap.size+1<b.heap.size:=zB N;have bq:=U aJ;have br:=U N;have bp:=U (show rF b.heap.size b (.slice P tc.length V) F by rw[<-ao];exact aE);have bh:=C2 (Cy w b) (((Zb.alloc Zr _).alloc Uh _).trans (d.mono Ug))
     clear d aE bC L N aJ)
  | (at_make;refine wpList_make_full _ rfl _ _ 23 rfl (b.heap.size+1) 3 bK (.int .i64 0) 1 underlying23 aj.o.1 aj.o.2.1 aj.o.2.2.1 .i64 .i64 _ _ tc.length rfl rfl rfl rfl (by rw[aj.o.2.2.2];omega) Vl Uh ?_
     intro ag aq Y;rw[zA]at aq;have aK:=(Y.block (w.heap.size+1) Ug Uh).trans ((D7 b (KW (.slice P tc.length V) W) _ O).trans br.o);have a9:=(Y.block w.heap.size Ug Uh).trans ((D7 b (KW (.slice P tc.length V) W) _ O).trans bq.o);have ba:=(Y.block b.heap.size Uh Uh).trans (Ds b (KW (.slice P tc.length V) W));have bU:b.heap.size+1<ag.heap.size:=(zP aq _ rfl).2;obtain⟨_,_,_,_,_⟩:=rG aK;have bP:=U aK;have aU:=U a9;have bs:=U ba;have bm:=U aq;have aM:=C2 (Cy b ag) ((Zb.alloc Zr (KW (.slice P tc.length V) W)).grown Y Uh fun k u=>by cases u)
     clear aq Y aK a9 ba))
 have bV:w.heap.size+1<ag.heap.size:=O
 clear bt bu bv bw bx
 go_loopw [39] (fun iv wr=>∃(j:Nat) (l:List Int) (ar:List C5),j<=tc.length/\iv=.int .i64 j/\l.length=j/\qI p tf (tc.take j)=.inr l/\Below (b.heap.size+1) ag wr/\wr.ownsRow (b.heap.size+1) 3 1 (.slice (some ⟨b.heap.size+1,0,none⟩) tc.length tc.length) tc.length ar/\∀(i:Nat) (t:Int),l[i]?=some t->ar[i]?=some (Value.int .i64 t)) (fun iv _=>tc.length-(intOf iv).toNat)
 case atStart=>exact⟨0,[],_,Dx _,rfl,rfl,by rw[Yx,qI],D4 _ _,bm.o,fun i t bA=>by cases bA⟩
 case round=>
  obtain⟨j,l,ar,bG,rfl,a0,a5,I,a2,bb⟩:=hrel;have bY:=I.size;have a8:Cy w wr:=bh.o.trans ((aM.o.mono O).trans (I.mono O));obtain⟨_,_⟩:=(zG ((I.block w.heap.size O).trans aU.o)).1;obtain⟨_,f1⟩:=(zG ((I.block b.heap.size O).trans bs.o)).1;have bQ:=U ((I.block (w.heap.size) O).trans aU.o);have aN:=U I;have H:=U a8;have R:=U a2;have al:=U a5;have aB:=U bb;have a4:b.heap.size+1<wr.heap.size:=O
  have bW:w.heap.size<wr.heap.size:=O
  have bX:b.heap.size<wr.heap.size:=O
  clear I a8 a2 a5 bb;by_cases aF:j<tc.length
  .obtain⟨⟨aa,ad,ab,ae,T⟩,X⟩:∃e,tc[j]?=some e:=⟨_,Dz aF⟩
   obtain⟨g,o,v',rfl,_,_,_,_,_,_,aG⟩:=(aT.o.below (H.o.mono K.o.hB) Zr).cells X;obtain⟨au,aC,rfl,_⟩:=aG.form;have bj:=C2 (k1 B wr (.mk aa ad ab ae T) (.agg #[(aa:Int),(ad:Int),(ab:Int),ae,(au,T.length,aC)])) ⟨_,rfl,(aT.o.below (H.o.mono K.o.hB) Zr).range X,aG⟩;have bR:g<wr.heap.size:=by have:=K.o.hB;omega
   obtain⟨⟨t,f⟩,a6⟩:=C0 (qE p tf (.mk aa ad ab ae T));have y:=U a6;have aS:=U (qb bl.o X);have aO:=U X;obtain⟨af,a7⟩:∃af,ar[j]?=some af:=⟨_,Dz (by have:=R.o.1;omega)⟩
   have aA:=U a7;have aP:=U ((K.o.below H.o).below ((D4 wr.heap.size wr).alloc Zr (yh aa ad ab ae au T.length aC)));have aQ:=U (bj.o.below ((D4 B wr).alloc (by have:=K.o.hB;omega) (yh aa ad ab ae au T.length aC)) Zr);clear aG a6 X a7;by_cases aW:f=0
   .subst aW
    go_wp2_with (go_at_call 136
                 (with_reducible refine(aR.o.call aS.o ay.o y.o aP.o aQ.o).mono ?_)
                 rintro e E ⟨rfl,d⟩;have G:=zt (w':=E) R.o fun k u=>Gn
                 have bN:E.cell? (b.heap.size+1,j)=some af:=(G.cellAt j O).trans aA.o;have bO:E.frozen? (b.heap.size+1,j)=false:=G.frozenAt j;have bn:=U G;have bI:wr.heap.size+1<=E.heap.size:=by have:=d.size;simpa using this
                 have av:=U d
                 clear d G)
    go_roundw
    case rel=>
     have bD:Below (b.heap.size+1) ag E:=(aN.o.alloc O _).trans (av.o.mono Ug);have bJ:=(bn.o.stored j (.int .i64 t)).1;refine⟨j+1,l++[t],_,O,by go_num,by simp[a0],?_,bD.setCell (p:=(b.heap.size+1,j)) Zr _,bJ,fun i x z=>?_⟩
     .have:=zAb al.o aO.o (by rw[y.o])
      rwa [y.o]at this
     .by_cases aZ:i=j
      .subst aZ
       rw[<-a0,List.getElem?_concat_length]at z;injection z with z;subst z;rw[List.getElem?_set_self (by have:=(List.getElem?_eq_some_iff.1 aA.o).1;exact this)]
      .rw[List.getElem?_set_ne (Ne.symm aZ)]
       refine aB.o i x ?_;rw[Yo]at z
       .exact z
       .have:=(List.getElem?_eq_some_iff.1 z).1
        simp at this;omega
    case measure=>simp[intOf];omega
   .go_wp2_with (go_at_call 136
                 (with_reducible refine(aR.o.call aS.o ay.o y.o aP.o aQ.o).mono ?_)
                 rintro e E ⟨rfl,d⟩;have G:=zt (w':=E) R.o fun k u=>Gn
                 have bN:E.cell? (b.heap.size+1,j)=some af:=(G.cellAt j O).trans aA.o;have bO:E.frozen? (b.heap.size+1,j)=false:=G.frozenAt j;have bI:wr.heap.size+1<=E.heap.size:=by have:=d.size;simpa using this
                 have av:=U d
                 clear d G)
    go_ret2
    have D:=bi.o f (by have:=i2 al.o aO.o (by rw[y.o];exact aW);rwa [y.o]at this);rw[ak.o]at D;subst D;exact⟨rfl,(((H.o.alloc O _).trans (av.o.mono Ug))).setCell (p:=(b.heap.size+1,j)) (by show w.heap.size<=b.heap.size+1;omega) _⟩
  .have bH:j=tc.length:=by omega
   subst bH;have az:=U (show qI p tf tc=.inr l by have:=al.o;rwa [Ye Zr]at this);have bo:=U (bp.o.below ((aM.o.mono Zr).trans (aN.o.mono O)) Zr);clear al bG aF;go_wp2_with fail
   go_loopw [61] (fun iv bL=>∃i:Nat,i<=tc.length/\iv=.int .i64 i/\sA F l i/\bL=wr) (fun iv _=>tc.length-(intOf iv).toNat)
   case atStart=>exact⟨0,Dx _,rfl,sA.zero _ _,rfl⟩
   case round=>
    obtain⟨i,z,rfl,aX,rfl⟩:=hrel;have ax:=U aX;clear aX;by_cases aF:i<tc.length
    .obtain⟨t,aH⟩:∃e,F[i]?=some e:=⟨_,Dz O⟩
     obtain⟨x,J⟩:∃e,l[i]?=some e:=⟨_,Dz O⟩
     obtain⟨bz,_,rfl,_,_⟩:=bo.o.cells aH;have aJ:wr.cell? (b.heap.size+1,i)=some (.int .i64 x):=(R.o.cellAt i O).trans (aB.o i x J);have bS:bz<wr.heap.size:=O
     have y:=U aH;have S:=U J;clear aH J;by_cases aI:t=0
     .subst aI
      have aY:l[0]?=some (l.headD 0):=by
       cases l with
       |nil=>have:=S.o;simp at this
       |cons a r=>rfl
      have N:wr.cell? (b.heap.size+1,0)=some (.int .i64 (l.headD 0)):=(R.o.cellAt 0 O).trans (aB.o 0 _ aY);obtain⟨bM,aL⟩:=C0 (l.headD 0);rw[aL]at N;have aV:=U aL;clear aY aL;by_cases Z:x=bM
      .subst Z
       go_wp2_with fail;go_roundw
       case rel=>exact⟨i+1,O,by go_num,ax.o.succ y.o S.o (by rw[Dq rfl,aV.o]),trivial⟩
       case measure=>simp[intOf];omega
      .go_wp2_with fail
       go_ret2
       have D:=(aw.o l az.o).2 (by rw[Q.o];intro ap;exact Z (by have:=ap i 0 x (by show i<F.length;omega) y.o S.o;rwa [Dq rfl,aV.o]at this));rw[ak.o]at D;subst D;exact⟨rfl,H.o⟩
     .by_cases Z:x=t
      .subst Z
       go_wp2_with fail;go_roundw
       case rel=>exact⟨i+1,O,by go_num,ax.o.succ y.o S.o (by rw[Dp aI]),trivial⟩
       case measure=>simp[intOf];omega
      .go_wp2_with fail
       go_ret2
       have D:=(aw.o l az.o).2 (by rw[Q.o];intro ap;exact Z (by have:=ap i t x (by show i<F.length;omega) y.o S.o;rwa [Dp aI]at this));rw[ak.o]at D;subst D;exact⟨rfl,H.o⟩
    .have bF:i=tc.length:=by omega
     subst bF;go_wp2_with fail
     go_ret2
     have D:=(aw.o l az.o).1 (by rw[Q.o];show sA F l F.length;rw[ao];exact ax.o);rw[ak.o,Q.o]at D;subst D;exact⟨rfl,H.o⟩
theorem vQ:∀m,TyC m
 | 0=>fun _ _ _ _ e _ _ _ _ _ _ b=>by
   obtain⟨k,op,n,s,tc⟩:=e;rw[kD]at b;simp at b
 | m+1=>fun B C p tf e r x v0 v1 v w b hp j g A=>by
   obtain⟨k,op,n,s,tc⟩:=e;rw[kD,D2,D2]at b;obtain⟨⟨_,hf⟩,y⟩:=b;rw[Yu]at y;obtain⟨o,rfl,_,l⟩:=A;obtain⟨⟨d,f,q⟩,i⟩:=C0 (qB p tf k op s);by_cases t:q=0
   .subst t
    by_cases u:d.length=tc.length
    .have z:tc.length<=8:=by
      rcases yv hf with rfl|rfl|rfl|rfl|rfl|rfl|rfl|rfl
      .rw[jd hf Uf];decide
      .rw[jd hf Uf];decide
      .rw[jd hf Uf];decide
      .obtain⟨a,rfl⟩:=CQ hf;simp
      .obtain⟨a,c,rfl⟩:=CR hf;simp
      .obtain⟨a,rfl⟩:=mK hf;simp
      .simp[zl]at hf;exact hf.2
      .rw[jd hf Uf];decide
     exact E8 m (vQ m) B C p tf k op n s tc r o v0 v1 v w hf y hp g l d f i u z j
    .exact CS B C p tf k op n s tc r o v0 v1 v w hf hp g l d f i u j
   .exact E7 B C p tf k op n s tc r o v0 v1 v w hf hp g l d f q i t j
def kx(p:Pr)(tf:List Pa):List Ex->Int->Int
 |[],_=>0
 |e::r,t=>if jP p tf e t≠0 then jP p tf e t else kx p tf r t
abbrev E9(v0 v1:C5)(g n:Int):Obj:=.cells #[v0,v1,(g:Int),(n:Int)] 153
theorem zO{g:Nat}{b c d e:C5}{T:TypeId}(a:w.heap[g]?=some (.cells #[b,c,d,e] T (0,0))):(w.cell? (g,0)=some b/\w.cell? (g,1)=some c/\w.cell? (g,2)=some d/\w.cell? (g,3)=some e)/\∀o,w.frozen? ⟨g,o,none⟩=false:=
 ⟨⟨(Du a 0).trans rfl,(Du a 1).trans rfl,(Du a 2).trans rfl,(Du a 3).trans rfl⟩,fun o=>Kn⟩
theorem xD{α:Type}{l:List α}{e:α}(a:l[j]?=some e):l.drop j=e::l.drop (j+1):=by
 obtain⟨c,b⟩:=List.getElem?_eq_some_iff.1 a;rw[List.drop_eq_getElem_cons c,b]
theorem yK(B C b:Nat)(p:Pr)(tf:List Pa)(l:List Ex)(qt r:Int)(ar v0 v1 v:C5)(ax n:Int)(w:C4)(Y:wR B C p tf v0 v1 v w)(Z:w.heap[b]?=some (E9 v0 v1 ax n))(ad:kW B w ar l)(am:zx l 100=true)(hp:mH p)(an:kx p tf l qt=r):
 Cz 134 #[(b,0),ar,v,(qt:Int)] w (Cw (r:Int) w):=by
 obtain⟨L,W,M,X,q,rfl,rfl,rfl⟩:=Y.form;obtain⟨A,c,rfl,_⟩:=ad.form;have ay:=zB Z;have F:=U Y;have au:=U Z;have ah:=U ad;have av:=U am;have S:=U hp;have aw:=U an;clear Y Z ad am hp an;go_enter func134,ntmps134;go_wp2_with fail
 go_loopw [15] (fun iv wr=>∃j:Nat,j<=l.length/\iv=.int .i64 j/\kx p tf (l.drop j) qt=r/\Cy w wr) (fun iv _=>l.length-(intOf iv).toNat)
 case atStart=>exact⟨0,Dx _,rfl,aw.o,D4 _ _⟩
 case round=>
  obtain⟨j,_,rfl,ao,D⟩:=hrel;have ai:=U ao;have J:=U D;have af:=D.size;clear ao;by_cases az:j<l.length
  .obtain⟨⟨d,k,i,m,a⟩,G⟩:∃e,l[j]?=some e:=⟨_,Dz az⟩
   obtain⟨g,o,v',rfl,E,_,_,_,_,_,ae⟩:=(ah.o.below (D.mono F.o.hB) Zr).cells G;obtain⟨s,u,rfl,_⟩:=ae.form;have aF:g<wr.heap.size:=by have:=F.o.hB;omega
   have aa:b<wr.heap.size:=O
   obtain⟨⟨_,_,_,_⟩,_⟩:=zO ((D.block b ay).trans au.o);have aj:k1 B wr (.mk d k i m a) (.agg #[(d:Int),(k:Int),(i:Int),m,(s,a.length,u)]):=⟨_,rfl,(ah.o.below (D.mono F.o.hB) Zr).range G,ae⟩
   have K:Cy wr (wr.alloc (yh d k i m s a.length u)).drew:=(Zb.alloc Zr _).drew;have Q:=U (aj.below (K.mono (by have:=F.o.hB;omega)) Zr);have P:=U ((F.o.below D).below K);have V:=U K;obtain⟨aA,aB,aC,aD,aE⟩:=rG (Ds wr (yh d k i m s a.length u));obtain⟨⟨t,f⟩,ag⟩:=C0 (qE p tf (.mk d k i m a));have T:=U ag;have R:=U (qb av.o G);have aq:jP p tf (.mk d k i m a) qt=if f=0 then(if t=qt then 0 else 51)else f:=by unfold jP;rw[ag]
   have ab:=ai.o;rw[xD G,kx,aq]at ab;have N:=U ab;clear ae ag G aj K aq ab D aA aB aC aD aE;by_cases al:f=0
   case pos=>
    subst al;by_cases ap:t=qt
    .subst ap
     go_wp2_with fail
     go_region_held3 (fun w'=>w'.cell? (b,0)=some (.slice L p.wa.length W)/\w'.cell? (b,1)=some (.slice M p.funcs.length X)/\w'.cell? (wr.heap.size,0)=some (.int .i64 d)/\w'.cell? (wr.heap.size,1)=some (.int .i64 k)/\w'.cell? (wr.heap.size,2)=some (.int .i64 i)/\w'.cell? (wr.heap.size,3)=some (.string m)/\w'.cell? (wr.heap.size,4)=some (.slice s a.length u))
      (first
        |(go_split_ands;refine⟨?_,?_,?_,?_,?_,?_,?_⟩ <;>(first|(rw[I];assumption)|(rw[H _ _ O];simp[*];done)|(simp[*];done)))
        |go_keep)
      (first
        | (go_at_call 136
           (refine((vQ 100).call (w:=(wr.alloc (yh d k i m s a.length u)).drew) R.o S.o T.o P.o Q.o).mono ?_)
           rintro e y ⟨rfl,x⟩;have H:∀g o,g<wr.heap.size+1->y.cell? ⟨g,o,none⟩=(wr.alloc (yh d k i m s a.length u)).cell? ⟨g,o,none⟩:=fun g o E=>x.cell (p:=⟨g,o,none⟩) Ky
           have z:=C2 (Cy wr y) (V.o.trans (x.mono Kw));have I:∀o,y.cell? ⟨b,o,none⟩=wr.cell? ⟨b,o,none⟩:=fun o=>z.o.cell (p:=⟨b,o,none⟩) aa
           clear x))
     go_wp2_with fail;go_roundw
     case rel=>exact⟨j+1,O,by go_num,by have:=N.o;simpa using this,J.o.trans (z.o.mono af)⟩
     case measure=>simp[intOf];omega
    .go_wp2_with fail
     go_region_held3 (fun w'=>w'.cell? (b,0)=some (.slice L p.wa.length W)/\w'.cell? (b,1)=some (.slice M p.funcs.length X)/\w'.cell? (wr.heap.size,0)=some (.int .i64 d)/\w'.cell? (wr.heap.size,1)=some (.int .i64 k)/\w'.cell? (wr.heap.size,2)=some (.int .i64 i)/\w'.cell? (wr.heap.size,3)=some (.string m)/\w'.cell? (wr.heap.size,4)=some (.slice s a.length u))
      (first
        |(go_split_ands;refine⟨?_,?_,?_,?_,?_,?_,?_⟩ <;>(first|(rw[I];assumption)|(rw[H _ _ O];simp[*];done)|(simp[*];done)))
        |go_keep)
      (first
        | (go_at_call 136
           (refine((vQ 100).call (w:=(wr.alloc (yh d k i m s a.length u)).drew) R.o S.o T.o P.o Q.o).mono ?_)
           rintro e y ⟨rfl,x⟩;have H:∀g o,g<wr.heap.size+1->y.cell? ⟨g,o,none⟩=(wr.alloc (yh d k i m s a.length u)).cell? ⟨g,o,none⟩:=fun g o E=>x.cell (p:=⟨g,o,none⟩) Ky
           have z:=C2 (Cy wr y) (V.o.trans (x.mono Kw));have I:∀o,y.cell? ⟨b,o,none⟩=wr.cell? ⟨b,o,none⟩:=fun o=>z.o.cell (p:=⟨b,o,none⟩) aa
           clear x))
     go_wp2_with fail;go_ret;exact⟨qK (by have:=N.o;simpa[ap]using this),J.o.trans (z.o.mono af)⟩
   case neg=>
    go_wp2_with fail
    go_region_held3 (fun w'=>w'.cell? (b,0)=some (.slice L p.wa.length W)/\w'.cell? (b,1)=some (.slice M p.funcs.length X)/\w'.cell? (wr.heap.size,0)=some (.int .i64 d)/\w'.cell? (wr.heap.size,1)=some (.int .i64 k)/\w'.cell? (wr.heap.size,2)=some (.int .i64 i)/\w'.cell? (wr.heap.size,3)=some (.string m)/\w'.cell? (wr.heap.size,4)=some (.slice s a.length u))
     (first
       |(go_split_ands;refine⟨?_,?_,?_,?_,?_,?_,?_⟩ <;>(first|(rw[I];assumption)|(rw[H _ _ O];simp[*];done)|(simp[*];done)))
       |go_keep)
     (first
       | (go_at_call 136
          (refine((vQ 100).call (w:=(wr.alloc (yh d k i m s a.length u)).drew) R.o S.o T.o P.o Q.o).mono ?_)
          rintro e y ⟨rfl,x⟩;have H:∀g o,g<wr.heap.size+1->y.cell? ⟨g,o,none⟩=(wr.alloc (yh d k i m s a.length u)).cell? ⟨g,o,none⟩:=fun g o E=>x.cell (p:=⟨g,o,none⟩) Ky
          have z:=C2 (Cy wr y) (V.o.trans (x.mono Kw));have I:∀o,y.cell? ⟨b,o,none⟩=wr.cell? ⟨b,o,none⟩:=fun o=>z.o.cell (p:=⟨b,o,none⟩) aa
          clear x))
    go_wp2_with fail;go_ret;exact⟨qK (by have:=N.o;simpa[al]using this),J.o.trans (z.o.mono af)⟩
  .go_wp2_with fail
   go_ret;have ak:=ai.o;rw[List.drop_of_length_le O,kx]at ak;exact⟨qK ak,J.o⟩
theorem zAc(b:l[j]?=some x):jS (l.take (j+1))=(jS (l.take j) || wW x):=by
 induction l generalizing j with
 |nil=>simp at b
 |cons a r c=>
   cases j with
   |zero=>simp at b;subst b;rw[Y6,Yx,Yx,jS,jS];simp[jS]
   |succ j=>rw[Y6,Y6,jS,jS,c Up,Bool.or_assoc]
theorem jz(b:l[j]?=some x):fV (l.take (j+1))=(fV (l.take j) || wX x):=by
 induction l generalizing j with
 |nil=>simp at b
 |cons a r c=>
   cases j with
   |zero=>simp at b;subst b;rw[Y6,Yx,Yx,fV,fV];simp[fV]
   |succ j=>rw[Y6,Y6,fV,fV,c Up,Bool.or_assoc]
theorem uY(b:l[j]?=some x)(c:wW x=true):jS l=true:=by
 induction l generalizing j with
 |nil=>simp at b
 |cons a r d=>
   rw[jS];exact Oz
theorem uZ(b:l[j]?=some x)(c:wX x=true):fV l=true:=by
 induction l generalizing j with
 |nil=>simp at b
 |cons a r d=>
   rw[fV];exact Oz
def ZO(f:FuncId)(m:Nat):Prop:=∀(B:Nat) (l:List St) (b:Bool) (v:C5) (w:C4),fL l m=true->jS l=b->B<=w.heap.size->f6 B w v l->Cz f #[v] w (Cw b w)
theorem ZO.call{f:FuncId}(a:ZO f m){b:Bool}(c:fL l m=true)(d:jS l=b)(e:B<=w.heap.size)(g:f6 B w v l):Cz f #[v] w (Cw b w):=a B l b v w c d e g
def VN(f:FuncId)(m:Nat):Prop:=∀(B:Nat) (l:List St) (b:Bool) (v:C5) (w:C4),fL l m=true->fV l=b->B<=w.heap.size->f6 B w v l->Cz f #[v] w (Cw b w)
theorem VN.call{f:FuncId}(a:VN f m){b:Bool}(c:fL l m=true)(d:fV l=b)(e:B<=w.heap.size)(g:f6 B w v l):Cz f #[v] w (Cw b w):=a B l b v w c d e g
theorem ua(c:fL l m=true)(b:l[j]?=some x):uP x m=true:=by
 induction l generalizing j with
 |nil=>simp at b
 |cons a r d=>
   rw[fL,D2]at c;cases j with
   |zero=>simp at b;subst b;exact c.1
   |succ j=>exact d c.2 Up
abbrev qh(k a:Int)(s:C3)(b c d:C5):Obj:=.cells #[(k:Int),(a:Int),s,b,c,d] 139
theorem pJ(m:Nat)(ae:∀m',m'+1=m->ZO 137 m'):ZO 137 m:=by
 intro B l b v w aa V hB L;obtain⟨A,c,rfl,_⟩:=L.form;have ah:=U L;have q:=U V;have aj:=U aa;have ag:=U ae;clear L V aa ae;go_enter func137,ntmps137;go_wp2_with fail
 go_loopw [7] (fun iv wr=>∃j:Nat,j<=l.length/\iv=.int .i64 j/\jS (l.take j)=false/\Cy w wr) (fun iv _=>l.length-(intOf iv).toNat)
 case atStart=>exact⟨0,Dx _,rfl,by rw[Yx,jS],D4 _ _⟩
 case round=>
  obtain⟨j,_,rfl,Z,s⟩:=hrel;have E:=U Z;have d:=U s;have ad:=s.size;clear Z;by_cases am:j<l.length
  .obtain⟨⟨k,u,td,tc,tg,th⟩,t⟩:∃e,l[j]?=some e:=⟨_,Dz am⟩
   obtain⟨g,o,_,_,_,rfl,_,_,_,_,_,_,_,ab,M,N⟩:=(ah.o.below (s.mono hB) Zr).cells t;obtain⟨x,F,rfl,_⟩:=ab.form;obtain⟨y,G,rfl,_⟩:=M.form;obtain⟨z,H,rfl,_⟩:=N.form;have n:=U t;have an:g<wr.heap.size:=O
   have f:=ua aj.o t;rw[jp]at f;simp only[D2,decide_eq_true_eq]at f;obtain⟨m',rfl⟩:∃m',m=m'+1:=⟨m-1,O⟩
   rw[Yu]at f;have D:=U (ag.o m' rfl);have Q:=U f.1.2;have ai:=U f.2;have I:Below B wr (wr.alloc (qh k u td (.slice x tc.length F) (.slice y tg.length G) (.slice z th.length H))):=Zb.alloc O _;have R:=U (M.below I Zr);have ak:=U (N.below I Zr);obtain⟨S,W⟩:=C0 (jS tg);obtain⟨T,X⟩:=C0 (jS th);have C:=U W;have P:=U X;clear t ab M N f I W X s;have i:=U (show wW (.mk k u td tc tg th)=(decide (k=6) || (decide (k=4)&&(S || T)))by rw[wW,C.o,P.o]);by_cases K:k=6
   .subst K
    go_wp2_with fail;go_ret;exact⟨zC Vg,d.o.alloc ad _⟩
   .have aq:(k == 6)=false:=by simp[K]
    by_cases J:k=4
    .subst J
     cases S
     .cases T
      all_goals
       go_wp2_with (first
        |(go_at_call 137;(with_reducible refine(D.o.call Q.o C.o Ug R.o).mono ?_);rintro e af ⟨rfl,a⟩;have p:=(D4 wr.heap.size wr).alloc Zr (qh 4 u td (.slice x tc.length F) (.slice y tg.length G) (.slice z th.length H)) |>.trans (a.mono Uh);obtain⟨_,_⟩:=qW a;have ao:wr.heap.size<af.heap.size:=Kf;have al:=U (ak.o.below (a.mono Ug) Zr);have r:=U p;clear a p)
        |(go_at_call 137;(with_reducible refine(D.o.call ai.o P.o O al.o).mono ?_);rintro e _ ⟨rfl,Y⟩))
      .go_roundw
       case rel=>exact⟨j+1,O,by go_num,by rw[zAc n.o,E.o,i.o];rfl,d.o.trans ((r.o.trans (Y.mono O)).mono O)⟩
       case measure=>simp[intOf];omega
      .go_ret
       exact⟨zC Vg,d.o.trans ((r.o.trans (Y.mono O)).mono O)⟩
     .go_wp2_with (go_at_call 137;(with_reducible refine(D.o.call Q.o C.o Ug R.o).mono ?_);rintro e af ⟨rfl,a⟩;have p:=(D4 wr.heap.size wr).alloc Zr (qh 4 u td (.slice x tc.length F) (.slice y tg.length G) (.slice z th.length H)) |>.trans (a.mono Uh);have r:=U p;clear a p)
      exact Ia
    .have ap:(k == 4)=false:=by simp[J]
     go_wp2_with fail;go_roundw
     case rel=>exact⟨j+1,O,by go_num,by rw[zAc n.o,E.o,i.o];simp[K,J],d.o.alloc ad _⟩
     case measure=>simp[intOf];omega
  .go_wp2_with fail
   go_ret;exact⟨zC (by rw[<-q.o,<-E.o,Ye O]),d.o⟩
theorem mL(m:Nat)(V:∀m',m'+1=m->ZO 101 m'):ZO 101 m:=by
 intro B l b v w S M hB D;obtain⟨A,c,rfl,_⟩:=D.form;have X:=U D;have q:=U M;have Z:=U S;have W:=U V;clear D M S V;go_enter func101,ntmps101;go_wp2_with fail
 go_loopw [3] (fun iv wr=>∃j:Nat,j<=l.length/\iv=.int .i64 j/\jS (l.take j)=false/\Cy w wr) (fun iv _=>l.length-(intOf iv).toNat)
 case atStart=>exact⟨0,Dx _,rfl,by rw[Yx,jS],D4 _ _⟩
 case round=>
  obtain⟨j,_,rfl,R,s⟩:=hrel;have y:=U R;have d:=U s;have ah:=s.size;clear R;by_cases ad:j<l.length
  .obtain⟨⟨k,ae,td,tc,tg,th⟩,t⟩:∃e,l[j]?=some e:=⟨_,Dz ad⟩
   obtain⟨g,o,_,_,_,rfl,_,_,_,_,_,_,_,T,E,F⟩:=(X.o.below (s.mono hB) Zr).cells t;obtain⟨_,_,rfl,_⟩:=T.form;obtain⟨_,_,rfl,_⟩:=E.form;obtain⟨_,_,rfl,_⟩:=F.form;have n:=U t;have af:g<wr.heap.size:=O
   have f:=ua Z.o t;rw[jp]at f;simp only[D2,decide_eq_true_eq]at f;obtain⟨m',rfl⟩:∃m',m=m'+1:=⟨m-1,O⟩
   rw[Yu]at f;have x:=U (W.o m' rfl);have I:=U f.1.2;have Y:=U f.2;have J:=U E;have aa:=U F;obtain⟨K,N⟩:=C0 (jS tg);obtain⟨L,P⟩:=C0 (jS th);have u:=U N;have H:=U P;clear t T E F f N P s;have i:=U (show wW (.mk k ae td tc tg th)=(decide (k=6) || (decide (k=4)&&(K || L)))by rw[wW,u.o,H.o]);by_cases C:k=6
   .subst C
    go_wp2_with fail;go_ret;exact⟨zC Vg,d.o⟩
   .have ak:(k == 6)=false:=by simp[C]
    by_cases z:k=4
    .subst z
     cases K
     .cases L
      all_goals
       go_wp2_with (first
        |(go_at_call 101;(with_reducible refine(x.o.call I.o u.o O J.o).mono ?_);rintro e G ⟨rfl,a⟩;have p:=a;obtain⟨_,_⟩:=qW a;have ag:g<G.heap.size:=Xg;have ai:wr.heap.size<=G.heap.size:=a.size;have ab:=U (aa.o.below (a.mono O) Zr);have r:=U p;clear a p)
        |(go_at_call 101;(with_reducible refine(x.o.call Y.o H.o O ab.o).mono ?_);rintro e _ ⟨rfl,Q⟩))
      .go_roundw
       case rel=>exact⟨j+1,O,by go_num,by rw[zAc n.o,y.o,i.o];rfl,d.o.trans ((r.o.trans (Q.mono O)).mono O)⟩
       case measure=>simp[intOf];omega
      .go_ret
       exact⟨zC Vg,d.o.trans ((r.o.trans (Q.mono O)).mono O)⟩
     .go_wp2_with (go_at_call 101;(with_reducible refine(x.o.call I.o u.o O J.o).mono ?_);rintro e G ⟨rfl,a⟩;have p:=a;have r:=U p;clear a p)
      exact Ia
    .have aj:(k == 4)=false:=by simp[z]
     go_wp2_with fail;go_roundw
     case rel=>exact⟨j+1,O,by go_num,by rw[zAc n.o,y.o,i.o];simp[C,z],d.o⟩
     case measure=>simp[intOf];omega
  .go_wp2_with fail
   go_ret;exact⟨zC (by rw[<-q.o,<-y.o,Ye O]),d.o⟩
theorem sB:∀m,ZO 137 m
 |0=>pJ 0 fun _ h=>O
 | m+1=>pJ (m+1) fun m' h=>by
   obtain rfl:m'=m:=O
   exact sB m'
theorem hT:∀m,ZO 101 m
 |0=>mL 0 fun _ h=>O
 | m+1=>mL (m+1) fun m' h=>by
   obtain rfl:m'=m:=O
   exact hT m'
abbrev oF(k a:Int)(s:C3)(b c d:C5):C5:=.agg #[(k:Int),(a:Int),s,b,c,d]
theorem FA(B:Nat)(A:Int)(td:C3)(tc:List Ex)(t:tc.length=1)(tg:List St)(m:Nat)(u:fL tg m=true)(C D:C5)(q:Option Addr)(z s:Nat)(w:C4)(hB:B<=w.heap.size)(j:kW B w C tc)(k:f6 B w D tg)(r:Bool)(x:(pD tc&&!jS tg)=r):
 Cz 111 #[oF 5 A td C D (.slice q z s)] w (Cw r w):=by
 obtain⟨a,rfl⟩:=List.length_eq_one_iff.1 t;obtain⟨_,J,rfl,_⟩:=j.form;obtain⟨E,K,rfl,_⟩:=k.form;obtain⟨c,M,d,N,I⟩:=a;obtain⟨g,o,v',rfl,_,P,Q,R,S,T,_⟩:=j.cells (i:=0) rfl;rw[show o+0*5=o by omega]at P Q R S T;obtain⟨b,l⟩:=C0 (jS tg);have y:(decide (c=2)&&decide (d=1)&&!b)=r:=by rw[<-x,pD,l]
 have f:=U y;have G:=U l;have H:=U u;have F:=U (k.below ((D4 B w).alloc hB (qh 5 A td (.slice (some ⟨g,o,none⟩) 1 J) (.slice E tg.length K) (.slice q z s))) Zr);have V:g<w.heap.size:=O
 have v:([Ex.mk c M d N I]:List Ex).length=1:=rfl;rw[v];clear x y l u j k v t;by_cases n:c=2
 .subst n
  by_cases p:d=1
  .subst p
   go_enter func111,ntmps111;go_wp2_with (go_at_call 137;(with_reducible refine((sB m).call H.o G.o Ug F.o).mono ?_);rintro e _ ⟨rfl,L⟩);go_ret;exact⟨zC (by rw[<-f.o];simp),(Zb.alloc Zr _).trans (L.mono Uh)⟩
  .have n1:(d == 1)=false:=by simp[p]
   go_enter func111,ntmps111;go_wp2_with fail;go_ret;exact⟨zC (by rw[<-f.o];simp[p]),Zb.alloc Zr _⟩
 .have n2:(c == 2)=false:=by simp[n]
  go_enter func111,ntmps111;go_wp2_with fail;go_ret;exact⟨zC (by rw[<-f.o];simp[n]),Zb.alloc Zr _⟩
theorem hU{f:Int}{td:C3}{a b c:Nat}{e:Bool}(d:zn 5 f td a b c e=true):a=1:=by
 simp[zn]at d;exact d.1.2
theorem AI(m:Nat)(aj:∀m',m'+1=m->VN 90 m'):VN 90 m:=by
 intro B l b v w ah aa hB P;obtain⟨A,c,rfl,_⟩:=P.form;have am:=U P;have y:=U aa;have ao:=U ah;have al:=U aj;clear P aa ah aj;go_enter func90,ntmps90;go_wp2_with fail
 go_loopw [7] (fun iv wr=>∃j:Nat,j<=l.length/\iv=.int .i64 j/\fV (l.take j)=false/\Cy w wr) (fun iv _=>l.length-(intOf iv).toNat)
 case atStart=>exact⟨0,Dx _,rfl,by rw[Yx,fV],D4 _ _⟩
 case round=>
  obtain⟨j,_,rfl,ag,F⟩:=hrel;have s:=U ag;have d:=U F;have ai:=F.size;clear ag;by_cases au:j<l.length
  .obtain⟨⟨k,r,td,tc,tg,th⟩,G⟩:∃e,l[j]?=some e:=⟨_,Dz au⟩
   obtain⟨g,o,_,_,_,rfl,_,_,_,_,_,_,_,Q,R,S⟩:=(am.o.below (F.mono hB) Zr).cells G;obtain⟨t,z,rfl,_⟩:=Q.form;obtain⟨u,C,rfl,_⟩:=R.form;obtain⟨x,D,rfl,_⟩:=S.form;have n:=U G;have av:g<wr.heap.size:=O
   have q:=ua ao.o G;rw[jp]at q;simp only[D2,decide_eq_true_eq]at q;obtain⟨m',rfl⟩:∃m',m=m'+1:=⟨m-1,O⟩
   rw[Yu]at q;have I:=U (al.o m' rfl);have J:=U q.1.2;have an:=U q.2;have ak:=U q.1.1.1.2;have E:Below B wr (wr.alloc (qh k r td (.slice t tc.length z) (.slice u tg.length C) (.slice x th.length D))):=Zb.alloc O _;have ap:=U (Q.below E Zr);have K:=U (R.below E Zr);have aq:=U (S.below E Zr);obtain⟨X,ab⟩:=C0 (fV tg);obtain⟨Y,ad⟩:=C0 (fV th);obtain⟨Z,af⟩:=C0 ((pD tc&&!jS tg));have H:=U ab;have V:=U ad;have W:=U af;clear G Q R S q E ab ad af F;have i:=U (show wX (.mk k r td tc tg th)=(decide (k=8) || (decide (k=4)&&(X&&Y)) || (decide (k=5)&&Z))by rw[wX,H.o,V.o,W.o]);by_cases N:k=8
   .subst N
    go_wp2_with fail;go_ret;exact⟨zC Jb,d.o.alloc ai _⟩
   .have az:(k == 8)=false:=by simp[N]
    by_cases L:k=4
    .subst L
     cases X
     .go_wp2_with (go_at_call 90;(with_reducible refine(I.o.call J.o H.o Ug K.o).mono ?_);rintro e T ⟨rfl,a⟩;have f:=(D4 wr.heap.size wr).alloc Zr (qh 4 r td (.slice t tc.length z) (.slice u tg.length C) (.slice x th.length D)) |>.trans (a.mono Uh);have p:=U f;clear a f)
      go_roundw
      case rel=>exact⟨j+1,O,by go_num,Js,d.o.trans (p.o.mono O)⟩
      case measure=>simp[intOf];omega
     .cases Y
      all_goals
       go_wp2_with (first
        |(go_at_call 90;(with_reducible refine(I.o.call J.o H.o Ug K.o).mono ?_);rintro e T ⟨rfl,a⟩;have f:=(D4 wr.heap.size wr).alloc Zr (qh 4 r td (.slice t tc.length z) (.slice u tg.length C) (.slice x th.length D)) |>.trans (a.mono Uh);obtain⟨_,_⟩:=qW a;have aw:wr.heap.size<T.heap.size:=Kf;have ar:=U (aq.o.below (a.mono Ug) Zr);have p:=U f;clear a f)
        |(go_at_call 90;(with_reducible refine(I.o.call an.o V.o O ar.o).mono ?_);rintro e _ ⟨rfl,ae⟩))
      .go_roundw
       case rel=>exact⟨j+1,O,by go_num,Js,d.o.trans ((p.o.trans (ae.mono O)).mono O)⟩
       case measure=>simp[intOf];omega
      .go_ret
       exact⟨zC Jb,d.o.trans ((p.o.trans (ae.mono O)).mono O)⟩
    .have ax:(k == 4)=false:=by simp[L]
     by_cases M:k=5
     .subst M
      cases Z
      all_goals
       go_wp2_with (go_at_call 111;(with_reducible refine(FA B r td tc (hU ak.o) tg m' J.o _ _ _ _ _ _ Ug ap.o K.o _ W.o).mono ?_);rintro e T ⟨rfl,a⟩;have f:=(D4 wr.heap.size wr).alloc Zr (qh 5 r td (.slice t tc.length z) (.slice u tg.length C) (.slice x th.length D)) |>.trans (a.mono Uh);have p:=U f;clear a f)
      .go_roundw
       case rel=>exact⟨j+1,O,by go_num,Js,d.o.trans (p.o.mono O)⟩
       case measure=>simp[intOf];omega
      .go_ret
       exact⟨zC Jb,d.o.trans (p.o.mono O)⟩
     .have ay:(k == 5)=false:=by simp[M]
      go_wp2_with fail;go_roundw
      case rel=>exact⟨j+1,O,by go_num,by rw[jz n.o,s.o,i.o];simp[N,L,M],d.o.alloc ai _⟩
      case measure=>simp[intOf];omega
  .go_wp2_with fail
   go_ret;exact⟨zC (by rw[<-y.o,<-s.o,Ye O]),d.o⟩
theorem sC:∀m,VN 90 m
 |0=>AI 0 fun _ h=>O
 | m+1=>AI (m+1) fun m' h=>by
   obtain rfl:m'=m:=O
   exact sC m'
theorem sD(m:Nat)(aA:∀m',m'+1=m->VN 74 m'):VN 74 m:=by
 intro B l b v w az au hB af;obtain⟨A,c,rfl,_⟩:=af.form;have aC:=U af;have J:=U au;have aE:=U az;have aB:=U aA;clear af au az aA;go_enter func74,ntmps74;go_wp2_with fail
 go_loopw [3] (fun iv wr=>∃j:Nat,j<=l.length/\iv=.int .i64 j/\fV (l.take j)=false/\Cy w wr) (fun iv _=>l.length-(intOf iv).toNat)
 case atStart=>exact⟨0,Dx _,rfl,by rw[Yx,fV],D4 _ _⟩
 case round=>
  obtain⟨j,_,rfl,ay,P⟩:=hrel;have s:=U ay;have i:=U P;have S:=P.size;clear ay;by_cases aK:j<l.length
  .obtain⟨⟨k,z,td,tc,tg,th⟩,Q⟩:∃e,l[j]?=some e:=⟨_,Dz aK⟩
   obtain⟨g,o,_,_,_,rfl,_,_,_,_,_,_,_,R,ah,ai⟩:=(aC.o.below (P.mono hB) Zr).cells Q;obtain⟨V,E,rfl,_⟩:=R.form;obtain⟨C,F,rfl,_⟩:=ah.form;obtain⟨D,G,rfl,_⟩:=ai.form;have p:=U Q;have aT:g<wr.heap.size:=O
   have u:=ua aE.o Q;rw[jp]at u;simp only[D2,decide_eq_true_eq]at u;obtain⟨m',rfl⟩:∃m',m=m'+1:=⟨m-1,O⟩
   rw[Yu]at u;have X:=U (aB.o m' rfl);have L:=U u.1.2;have aD:=U u.2;have ao:=U u.1.1.1.2;have N:Below B wr (wr.alloc (qh k z td (.slice V tc.length E) (.slice C tg.length F) (.slice D th.length G))):=Zb.alloc O _;have aF:=U R;have aS:=U (R.below N Zr);have M:=U (ah.below N Zr);have aG:=U (ai.below N Zr);obtain⟨ap,av⟩:=C0 (fV tg);obtain⟨aq,aw⟩:=C0 (fV th);obtain⟨y,ax⟩:=C0 ((pD tc&&!jS tg));have W:=U av;have al:=U aw;have am:=U ax;clear Q R ah ai u N av aw ax P;have n:=U (show wX (.mk k z td tc tg th)=(decide (k=8) || (decide (k=4)&&(ap&&aq)) || (decide (k=5)&&y))by rw[wX,W.o,al.o,am.o]);by_cases ad:k=8
   .subst ad
    go_wp2_with fail;go_ret;exact⟨zC Jc,i.o.alloc S _⟩
   .have a1:(k == 8)=false:=by simp[ad]
    by_cases aa:k=4
    .subst aa
     cases ap
     .go_wp2_with (go_at_call 74;(with_reducible refine(X.o.call L.o W.o Ug M.o).mono ?_);rintro e I ⟨rfl,d⟩;have f:=(D4 wr.heap.size wr).alloc Zr (qh 4 z td (.slice V tc.length E) (.slice C tg.length F) (.slice D th.length G)) |>.trans (d.mono Uh);obtain⟨aI,aJ⟩:=qW d;have aL:wr.heap.size<I.heap.size:=Kg;have q:=U f;clear d f)
      exact Ox
     .cases aq
      all_goals
       go_wp2_with (first
        |(go_at_call 74;(with_reducible refine(X.o.call L.o W.o Ug M.o).mono ?_);rintro e I ⟨rfl,d⟩;have f:=(D4 wr.heap.size wr).alloc Zr (qh 4 z td (.slice V tc.length E) (.slice C tg.length F) (.slice D th.length G)) |>.trans (d.mono Uh);obtain⟨aI,aJ⟩:=qW d;have aL:wr.heap.size<I.heap.size:=Kg;have aH:=U (aG.o.below (d.mono Ug) Zr);have q:=U f;clear d f)
        |(go_at_call 74;(with_reducible refine(X.o.call aD.o al.o O aH.o).mono ?_);rintro e aM ⟨rfl,t⟩;obtain⟨_,_⟩:=qW t;have aW:wr.heap.size<aM.heap.size:=(by have:=t.size;omega)))
      .go_roundw
       case rel=>exact⟨j+1,O,by go_num,Jr,i.o.trans ((q.o.trans (t.mono O)).mono O)⟩
       case measure=>simp[intOf];omega
      .go_ret
       exact⟨zC Jc,i.o.trans ((q.o.trans (t.mono O)).mono O)⟩
    .have aZ:(k == 4)=false:=by simp[aa]
     by_cases ab:k=5
     .subst ab
      obtain⟨⟨aj,_,ak,_,_⟩,H⟩:∃a,tc[0]?=some a:=⟨_,Dz (by rw[hU ao.o];omega)⟩
      obtain⟨Y,T,v',rfl,_,aN,aO,aP,aQ,aR,_⟩:=aF.o.cells H;rw[show T+0*5=T by omega]at aN aO aP aQ aR;have aU:Y<wr.heap.size:=O
      have aV:0<tc.length:=by rw[hU ao.o];omega
      obtain⟨b,Z⟩:=C0 (jS tg)
      have t:(decide (aj=2)&&decide (ak=1)&&!b)=y:=by
       rw[<-am.o,Z];cases tc with
       |nil=>simp at H
       |cons x r=>simp at H;subst H;rfl
      have an:=U Z;have K:=U t;clear Z t H;by_cases ae:aj=2
      .subst ae
       by_cases ag:ak=1
       .subst ag
        cases b
        .obtain rfl:y=true:=by rw[<-K.o];rfl
         go_wp2_with (go_at_call 101;(with_reducible refine((hT m').call L.o an.o Ug M.o).mono ?_);rintro e I ⟨rfl,d⟩;have f:=(D4 wr.heap.size wr).alloc Zr (qh 5 z td (.slice (some ⟨Y,T,none⟩) tc.length E) (.slice C tg.length F) (.slice D th.length G)) |>.trans (d.mono Uh);have q:=U f;clear d f);go_ret;exact⟨zC Jc,i.o.trans (q.o.mono O)⟩
        .obtain rfl:y=false:=by rw[<-K.o];rfl
         go_wp2_with (go_at_call 101;(with_reducible refine((hT m').call L.o an.o Ug M.o).mono ?_);rintro e I ⟨rfl,d⟩;have f:=(D4 wr.heap.size wr).alloc Zr (qh 5 z td (.slice (some ⟨Y,T,none⟩) tc.length E) (.slice C tg.length F) (.slice D th.length G)) |>.trans (d.mono Uh);have q:=U f;clear d f);exact Ox
       .obtain rfl:y=false:=by rw[<-K.o];simp[ag]
        have aX:(ak == 1)=false:=by simp[ag]
        exact Oy
      .obtain rfl:y=false:=by rw[<-K.o];simp[ae]
       have aY:(aj == 2)=false:=by simp[ae]
       exact Oy
     .have a0:(k == 5)=false:=by simp[ab]
      go_wp2_with fail;go_roundw
      case rel=>exact⟨j+1,O,by go_num,by rw[jz p.o,s.o,n.o];simp[ad,aa,ab],i.o.alloc S _⟩
      case measure=>simp[intOf];omega
  .go_wp2_with fail
   go_ret;exact⟨zC (by rw[<-J.o,<-s.o,Ye O]),i.o⟩
theorem oG:∀m,VN 74 m
 |0=>sD 0 fun _ h=>O
 | m+1=>sD (m+1) fun m' h=>by
   obtain rfl:m'=m:=O
   exact oG m'
