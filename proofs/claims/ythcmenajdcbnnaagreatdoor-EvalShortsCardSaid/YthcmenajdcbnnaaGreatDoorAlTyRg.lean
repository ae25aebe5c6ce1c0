import Derived.Test.YthcmenajdcbnnaaGreatDoorAlEvSimS
set_option linter.unusedSimpArgs false
set_option linter.unusedVariables false
set_option maxRecDepth 100000
set_option maxHeartbeats 99000000
namespace Go.Proofs.YthcmenajdcbnnaaGreatDoor
open Go.RowKit Tryz
theorem DH{s:C3}:∀{l:List Ar}{k:Nat},zZ l s=some k->∃f,l[k]?=some f/\f.name=s/\∀(i:Nat) g,i<k->l[i]?=some g->g.name≠s
 |[],_,a=>Uo
 | f::r,k,a=>by
   rw[zZ]at a;split at a
   .rename_i e
    injection a with a;subst a;exact⟨f,rfl,e,fun i g c=>absurd c O⟩
   .rename_i e
    cases hr:zZ r s with
    |none=>rw[hr]at a;cases a
    |some j=>
      rw[hr]at a;obtain rfl:j+1=k:=Ur
      obtain⟨g,d,m,n⟩:=DH hr;refine⟨g,Uz,m,fun i x c b=>?_⟩;cases i with
      |zero=>simp at b;subst b;exact e
      |succ i=>exact n i x O Up
def frF(l:List Fu):Prop:=∀(i:Nat) f,l[i]?=some f->qP l f.name=some i
theorem m6:∀{l:List Fu},CI l=false↔frF l
 |[]=>⟨fun _ i f b=>by simp at b,fun _=>rfl⟩
 | x::r=>by
   rw[CI,Cd,m6 (l:=r)];constructor
   .rintro⟨d,k⟩ i f a
    cases i with
    |zero=>simp at a;subst a;rw[qP,Dq rfl]
    |succ i=>
      have g:r[i]?=some f:=Ur
      have m:=k i f g
      have c:¬x.name=f.name:=fun e=>by
       rw[xV,Ci]at d;exact d f (Yc g) (by simp[e])
      rw[qP,Dp c,m];rfl
   .intro b
    refine⟨?_,fun i f a=>?_⟩
    .rw[xV,Ci]
     intro f n;obtain⟨i,a⟩:=List.getElem?_of_mem n;have:=b (i+1) f Ur;rw[qP]at this;split at this
     .cases this
     .rename_i c
      simp;exact fun e=>c e.symm
    .have:=b (i+1) f Ur
     rw[qP]at this;split at this
     .cases this
     .cases hr:qP r f.name with
      |none=>rw[hr]at this;cases this
      |some j=>
        rw[hr]at this;have:j=i:=Gc
        rw[this]
def frA(p:Pr)(l:List Ar):Prop:=∀(i:Nat) f,l[i]?=some f->zZ l f.name=some i/\qP p.funcs f.name=none
theorem iH(p:Pr):∀{l:List Ar},uW p l=false↔frA p l
 |[]=>⟨fun _ i f b=>by simp at b,fun _=>rfl⟩
 | x::r=>by
   rw[uW,Cd,Cd,iH p (l:=r)];constructor
   .rintro⟨⟨d,k⟩,m⟩ i f a
    cases i with
    |zero=>simp at a;subst a;exact⟨by rw[zZ,Dq rfl],by simpa using k⟩
    |succ i=>
      have g:r[i]?=some f:=Ur
      obtain⟨n,o⟩:=m i f g
      have c:¬x.name=f.name:=fun e=>by
       rw[yU,Ci]at d;exact d f (Yc g) (by simp[e])
      exact⟨by rw[zZ,Dp c,n];rfl,o⟩
   .intro b
    refine⟨⟨?_,?_⟩,fun i f a=>⟨?_,(b (i+1) f Ur).2⟩⟩
    .rw[yU,Ci]
     intro f q;obtain⟨i,a⟩:=List.getElem?_of_mem q;have:=(b (i+1) f Ur).1;rw[zZ]at this;split at this
     .cases this
     .rename_i c
      simp;exact fun e=>c e.symm
    .have:=(b 0 x rfl).2
     simp[this]
    .have:=(b (i+1) f Ur).1
     rw[zZ]at this;split at this
     .cases this
     .cases hr:zZ r f.name with
      |none=>rw[hr]at this;cases this
      |some j=>
        rw[hr]at this;have:j=i:=Gc
        rw[this]
theorem m7(B:Nat)(p:Pr)(r:Bool)(aQ aR:C5)(w:C4)(z:B<=w.heap.size)(ar:gN B w aQ p.wa)(au:gO B w aR p.funcs)(aN:(!(uW p p.wa || CI p.funcs)&&xg p)=r):
 Cz 71 #[.agg #[aQ,aR]] w (Cw r w):=by
 obtain⟨aj,T,rfl,_⟩:=ar.form;obtain⟨ab,V,rfl,_⟩:=au.form;have ad:=U ar;have af:=U au;have ag:=U aN;clear ar au aN;go_enter func71,ntmps71;go_wp2_with fail
 go_loopw [3] (fun iv wr=>∃i:Nat,i<=p.wa.length/\iv=.int .i64 i/\(∀(k:Nat) f,k<i->p.wa[k]?=some f->zZ p.wa f.name=some k/\qP p.funcs f.name=none)/\wr.heap[w.heap.size]?=some (qQ aj p.wa.length T ab p.funcs.length V)/\Cy w wr) (fun iv _=>p.wa.length-(intOf iv).toNat)
 case atStart=>exact⟨0,Dx _,rfl,fun k f s=>absurd s O,Ds _ _,Zb.alloc Zr _⟩
 case round=>
  obtain⟨i,aZ,rfl,A,v,l⟩:=hrel;obtain⟨⟨a6,a7⟩,a8⟩:=zG v;have K:w.heap.size<wr.heap.size:=zB v;have aS:=U A;have aH:=U v;have ae:=U l;by_cases a0:i<p.wa.length
  .obtain⟨c,L⟩:∃e,p.wa[i]?=some e:=⟨_,Dz a0⟩
   obtain⟨g,o,rfl,aL,a2,aP⟩:=(ad.o.below (l.mono z) Zr).cells L;have Y:g<wr.heap.size:=O
   have N:=U L;have H:Cy wr wr.drew:=Zb.drew;have D:=U (ad.o.below ((l.trans (H.mono O)).mono z) Zr);have E:=U (af.o.below ((l.trans (H.mono O)).mono z) Zr);obtain⟨ai,aO⟩:=C0 (jy (zZ p.wa c.name));obtain⟨M,Z⟩:=C0 (jy (qP p.funcs c.name));have S:=U aO;have C:=U Z;clear L v l A aO Z H;have X:ai≠(i:Int)\/ai=(i:Int)/\0<=M\/ai=(i:Int)/\¬0<=M:=O
   rcases X with j|⟨j,P⟩|⟨j,P⟩
   case inl=>
    have ah:uW p p.wa=true:=by
     cases hd:uW p p.wa with
     |true=>rfl
     |false=>
       have W:=((iH p).1 hd i c N.o).1;have n:=S.o;rw[W]at n;exact absurd n.symm j
    have aW:=U ah;clear ah;have n1:(ai != (i:Int))=true:=by simp[j]
    go_wp2_with fail
    first
    | (go_region_law (first
        | (go_simp;go_at_call 99;(refine(kh B p c.name _ S.o _ _ wr.drew Jk D.o E.o).mono ?_);rintro e b ⟨rfl,m⟩
           have y:=U (ae.o.trans (((D4 wr.heap.size wr).drew.trans m).mono O))
           clear m)))
    |fail
    all_goals go_wp2_with fail
    all_goals go_ret
    all_goals exact⟨zC (by rw[<-ag.o,aW.o];simp),y.o⟩
   case inr.inl=>
    subst j;go_wp2_with fail
    first
    | (go_region_held3 (fun w'=>w'.cell? (w.heap.size,0)=some (.slice (some ⟨g,o,none⟩) p.wa.length T)/\w'.cell? (w.heap.size,1)=some (.slice ab p.funcs.length V)/\w'.cell? (g,o+i*2)=some (.string c.name))
        (first
          |(go_split_ands;refine⟨?_,?_,?_⟩ <;>(first|(rw[ax];assumption)|(rw[av];assumption)|(rw[J];assumption)|(rw[I];assumption)))
          |go_keep)
        (first
          | (go_at_call 99
             (refine(kh B p c.name _ S.o _ _ wr.drew Jk D.o E.o).mono ?_)
             rintro e b ⟨rfl,m⟩;have d:Cy wr b:=Zb.drew.trans m;have J:∀x,b.cell? ⟨w.heap.size,x,none⟩=wr.cell? ⟨w.heap.size,x,none⟩:=fun x=>d.cell (p:=⟨w.heap.size,x,none⟩) K
             have I:∀x,b.cell? ⟨g,x,none⟩=wr.cell? ⟨g,x,none⟩:=fun x=>d.cell (p:=⟨g,x,none⟩) Y
             have aA:wr.heap.size<=b.heap.size:=d.size;have Q:=U d;have ak:=U (D.o.below (m.mono (show B<=wr.heap.size by omega)) Zr);have an:=U (E.o.below (m.mono (show B<=wr.heap.size by omega)) Zr);have y:=U (ae.o.trans (d.mono O))
             clear m d)
          | (go_at_call 36
             (refine(jL B p c.name _ C.o _ _ b O ak.o an.o).mono ?_)
             rintro e aa ⟨rfl,u⟩;have ax:∀x,aa.cell? ⟨w.heap.size,x,none⟩=wr.cell? ⟨w.heap.size,x,none⟩:=fun x=>(u.cell (p:=⟨w.heap.size,x,none⟩) Hi).trans (J x)
             have av:∀x,aa.cell? ⟨g,x,none⟩=wr.cell? ⟨g,x,none⟩:=fun x=>(u.cell (p:=⟨g,x,none⟩) (by show g<b.heap.size;omega)).trans (I x)
             have aD:=U (Q.o.trans (u.mono aA));have aq:=U (y.o.trans (u.mono y.o.size))
             clear u)))
    |fail
    go_wp2_with fail;go_ret
    have ah:uW p p.wa=true:=by
     cases hd:uW p p.wa with
     |true=>rfl
     |false=>
       have W:=((iH p).1 hd i c N.o).2;have n:=C.o;rw[W]at n;simp only[jy]at n;omega
    exact⟨zC (by rw[<-ag.o,ah];simp),aq.o⟩
   case inr.inr=>
    subst j;have n2:decide (0<=M)=false:=by simpa using P
    go_wp2_with fail
    first
    | (go_region_held3 (fun w'=>w'.cell? (w.heap.size,0)=some (.slice (some ⟨g,o,none⟩) p.wa.length T)/\w'.cell? (w.heap.size,1)=some (.slice ab p.funcs.length V)/\w'.cell? (g,o+i*2)=some (.string c.name))
        (first
          |(go_split_ands;refine⟨?_,?_,?_⟩ <;>(first|(rw[ax];assumption)|(rw[av];assumption)|(rw[J];assumption)|(rw[I];assumption)))
          |go_keep)
        (first
          | (go_at_call 99
             (refine(kh B p c.name _ S.o _ _ wr.drew Jk D.o E.o).mono ?_)
             rintro e b ⟨rfl,m⟩;have d:Cy wr b:=Zb.drew.trans m;have J:∀x,b.cell? ⟨w.heap.size,x,none⟩=wr.cell? ⟨w.heap.size,x,none⟩:=fun x=>d.cell (p:=⟨w.heap.size,x,none⟩) K
             have I:∀x,b.cell? ⟨g,x,none⟩=wr.cell? ⟨g,x,none⟩:=fun x=>d.cell (p:=⟨g,x,none⟩) Y
             have aA:wr.heap.size<=b.heap.size:=d.size;have Q:=U d;have ak:=U (D.o.below (m.mono (show B<=wr.heap.size by omega)) Zr);have an:=U (E.o.below (m.mono (show B<=wr.heap.size by omega)) Zr);have y:=U (ae.o.trans (d.mono O))
             clear m d)
          | (go_at_call 36
             (refine(jL B p c.name _ C.o _ _ b O ak.o an.o).mono ?_)
             rintro e aa ⟨rfl,u⟩;have ax:∀x,aa.cell? ⟨w.heap.size,x,none⟩=wr.cell? ⟨w.heap.size,x,none⟩:=fun x=>(u.cell (p:=⟨w.heap.size,x,none⟩) Hi).trans (J x)
             have av:∀x,aa.cell? ⟨g,x,none⟩=wr.cell? ⟨g,x,none⟩:=fun x=>(u.cell (p:=⟨g,x,none⟩) (by show g<b.heap.size;omega)).trans (I x)
             have aD:=U (Q.o.trans (u.mono aA));have aq:=U (y.o.trans (u.mono y.o.size))
             clear u)))
    |fail
    go_wp2_with fail;go_roundw
    case rel=>
     refine⟨i+1,O,by go_num,fun k f s a=>?_,(aD.o.block w.heap.size K).trans aH.o,aq.o⟩;by_cases aw:k=i
     .subst aw
      rw[N.o]at a;injection a with a;subst a;have n:=S.o;have F:=C.o;refine⟨?_,?_⟩
      .cases h6:zZ p.wa c.name with
       |none=>rw[h6]at n;simp[jy]at n
       |some q=>rw[h6]at n;simp only[jy]at n;exact congrArg some O
      .cases h6:qP p.funcs c.name with
       |none=>rfl
       |some q=>rw[h6]at F;simp only[jy]at F;omega
     .exact aS.o k f O a
    case measure=>simp[intOf];omega
  .have aJ:uW p p.wa=false:=(iH p).2 fun k f a=>A k f Xd a
   have aV:=U aJ;clear A aJ v l;go_wp2_with fail
   go_loopw [4] (fun iv t=>∃i:Nat,i<=p.funcs.length/\iv=.int .i64 i/\(∀(k:Nat) f,k<i->p.funcs[k]?=some f->qP p.funcs f.name=some k)/\t.heap[w.heap.size]?=some (qQ aj p.wa.length T ab p.funcs.length V)/\Cy w t) (fun iv _=>p.funcs.length-(intOf iv).toNat)
   case atStart=>exact⟨0,Dx _,rfl,fun k f s=>absurd s O,aH.o,ae.o⟩
   case round=>
    obtain⟨t,rfl⟩:∃x,x=wr:=⟨_,rfl⟩
    obtain⟨i,aZ,rfl,A,v,l⟩:=hrel;obtain⟨⟨a6,a7⟩,a8⟩:=zG v;have K:w.heap.size<t.heap.size:=zB v;have aT:=U A;have aI:=U v;have R:=U l;by_cases a1:i<p.funcs.length
    .obtain⟨c,L⟩:∃e,p.funcs[i]?=some e:=⟨_,Dz a1⟩
     obtain⟨g,o,_,_,rfl,aL,a2,aP,a3,a4,q4,a5⟩:=(af.o.below (l.mono z) Zr).cells L;have Y:g<t.heap.size:=O
     have N:=U L;have H:Cy t t.drew:=Zb.drew;have D:=U (ad.o.below ((l.trans (H.mono O)).mono z) Zr);have E:=U (af.o.below ((l.trans (H.mono O)).mono z) Zr);obtain⟨M,Z⟩:=C0 (jy (qP p.funcs c.name));have C:=U Z;clear Z L v l A H aP a3 a4 q4 a5;have X:M≠(i:Int)\/M=(i:Int):=O
     rcases X with j|j
     all_goals
      first
      | (subst j
         have al:=U (show qP p.funcs c.name=some i from by
          have F:=C.o;cases h6:qP p.funcs c.name with
          |none=>rw[h6]at F;simp only[jy]at F;omega
          |some q=>rw[h6]at F;simp only[jy]at F;exact congrArg some O))
      | (have al:=U (show CI p.funcs=true from by
          cases hd:CI p.funcs with
          |true=>rfl
          |false=>
            have W:=m6.1 hd i c N.o;have n:=C.o;rw[W]at n
            exact absurd n.symm j)
         have n1:(M != (i:Int))=true:=by simp[j])
      go_wp2_with fail
      first
      | (go_region_held3 (fun w'=>w'.cell? (w.heap.size,0)=some (.slice aj p.wa.length T)/\w'.cell? (w.heap.size,1)=some (.slice (some ⟨g,o,none⟩) p.funcs.length V)/\w'.cell? (g,o+i*4)=some (.string c.name))
          (first
            |(go_split_ands;refine⟨?_,?_,?_⟩ <;>(first|(rw[J];assumption)|(rw[I];assumption)))
            |go_keep)
          (first
            | (go_at_call 36
               (refine(jL B p c.name _ C.o _ _ t.drew (by show B<=t.heap.size;omega) D.o E.o).mono ?_)
               rintro e b ⟨rfl,m⟩;have d:Cy t b:=Zb.drew.trans m;have J:∀x,b.cell? ⟨w.heap.size,x,none⟩=t.cell? ⟨w.heap.size,x,none⟩:=fun x=>d.cell (p:=⟨w.heap.size,x,none⟩) K
               have I:∀x,b.cell? ⟨g,x,none⟩=t.cell? ⟨g,x,none⟩:=fun x=>d.cell (p:=⟨g,x,none⟩) Y
               have Q:=U d;have y:=U (R.o.trans (d.mono O))
               clear m d)))
      |fail
      all_goals go_wp2_with fail
      all_goals first
       | (go_ret
          exact⟨zC (by rw[<-ag.o,al.o];simp),y.o⟩)
       | (go_roundw
          case rel=>
           refine⟨i+1,O,by go_num,fun k f s a=>?_,(Q.o.block w.heap.size K).trans aI.o,y.o⟩;by_cases aw:k=i
           .subst aw
            rw[N.o]at a;injection a with a;subst a;exact al.o
           .exact aT.o k f O a
          case measure=>simp[intOf];omega)
    .have aK:CI p.funcs=false:=m6.2 fun k f a=>A k f Xd a
     have ay:B<=t.heap.size:=Dy z l.size;have aG:=U (show xg p=r by rw[<-ag.o,aV.o,aK];simp);have aC:=U (ad.o.below (l.mono z) Zr);have am:=U (af.o.below (l.mono z) Zr);clear A v l aK;cases s:qP p.funcs ⟨#[109,97,105,110]⟩with
     |none=>
       have ao:=U (show jy (qP p.funcs ⟨#[109,97,105,110]⟩)= -1 by rw[s];rfl);have ap:=U (show xg p=false by unfold xg jU;rw[s];rfl);clear s;go_wp2_with (go_at_call 36;(with_reducible refine(jL B p _ _ ao.o _ _ _ Hj aC.o am.o).mono ?_);rintro e aB ⟨rfl,G⟩);go_ret;exact⟨zC (by rw[<-aG.o,ap.o]),R.o.trans (G.mono R.o.size)⟩
     |some k=>
       obtain⟨f,a,_,_⟩:=xt s;have ao:=U (show jy (qP p.funcs ⟨#[109,97,105,110]⟩)=(k:Int)by rw[s];rfl);have ap:=U (show xg p=(decide (f.type=1)&&decide (f.params.length=0))by unfold xg jU;rw[s,Option.bind_some,a]);have aX:=U a;have bd:k<p.funcs.length:=(List.getElem?_eq_some_iff.1 a).1;clear s a;have X:f.type=1/\f.params.length=0\/f.type=1/\f.params.length≠0\/f.type≠1:=O
       rcases X with⟨j,P⟩|⟨j,P⟩|j
       all_goals
        have aE:=U j
        try have aF:=U P
        try clear P
        clear j
        go_wp2_with (go_at_call 36;(with_reducible refine(jL B p _ _ ao.o _ _ _ Hj aC.o am.o).mono ?_);rintro e aB ⟨rfl,G⟩
                     have az:=(G.block w.heap.size K).trans aI.o;obtain⟨⟨_,_⟩,_⟩:=zG az;have be:w.heap.size<aB.heap.size:=zB az;obtain⟨g,o,_,_,rfl,aL,_,a9,ba,_,aM,aY⟩:=(am.o.below (G.mono ay) Zr).cells aX.o;obtain⟨_,_,rfl,_⟩:=aM.form;have Y:g<aB.heap.size:=by have:=G.size;omega
                     have aU:=U (R.o.trans (G.mono R.o.size))
                     try rw[aE.o]at a9
                     try rw[aF.o]at ba
                     clear G az aM aY)
        all_goals go_ret
        all_goals refine⟨zC ?_,aU.o⟩
        all_goals
         rw[<-aG.o,ap.o];have bb:=aE.o
         try have bc:=aF.o
         simp_all
