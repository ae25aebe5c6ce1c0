import Derived.Test.YthcmenajdcbnnaaGreatDoorAlTreeRightS
import Derived.Deep.DeepCutAuto
import Derived.Deep.CutBlock
set_option linter.unusedSimpArgs false
set_option linter.unusedVariables false
set_option maxRecDepth 100000
set_option maxHeartbeats 99000000
namespace Go.Proofs.YthcmenajdcbnnaaGreatDoor
open Go.RowKit Tryz
theorem Iz{p:Prop}(h:p:=by
 go_wp2_with (first
  |(go_at_call 61;(with_reducible refine((t.o m' rfl).call B _ tg _ _ _ u.o x F.o R (N.o.below (n.mono f) Zr)).mono ?_);rintro e i ⟨rfl,d⟩;obtain⟨S,T⟩:=qW d;have b:Cy k i:=n.trans (d.mono (D9 s));have y:B<=i.heap.size:=(Dy f b.size))
  |(go_at_call 61;(with_reducible refine((t.o m' rfl).call B _ th _ _ _ u.o x G.o y (L.o.below (b.mono f) Zr)).mono ?_);rintro e D ⟨rfl,C⟩;have E:Cy k D:=b.trans (C.mono (Dy (D9 s) d.size))))
 go_ret
 exact⟨zC p.o.symm,H.trans (b.mono I)⟩):p:=h
theorem Qa{p:Prop}(h:p:=by
 go_wp2_with (first
  |(go_at_call 61;(with_reducible refine((t.o m' rfl).call B _ tg _ _ _ u.o x F.o R (N.o.below (n.mono f) Zr)).mono ?_);rintro e i ⟨rfl,d⟩;obtain⟨S,T⟩:=qW d;have b:Cy k i:=n.trans (d.mono (D9 s));have y:B<=i.heap.size:=(Dy f b.size))
  |(go_at_call 61;(with_reducible refine((t.o m' rfl).call B _ th _ _ _ u.o x G.o y (L.o.below (b.mono f) Zr)).mono ?_);rintro e D ⟨rfl,C⟩;have E:Cy k D:=b.trans (C.mono (Dy (D9 s) d.size))))
 go_ret
 exact⟨zC p.o.symm,H.trans (E.mono I)⟩):p:=h
theorem Qb{p:Prop}(h:p:=by
 go_wp2_with ((go_at_call 50;(with_reducible refine(qj td _ aa.o _).mono ?_);rintro e X ⟨rfl,rfl⟩))
 all_goals go_meet
 all_goals exact⟨rfl,by rw[M.o];rfl⟩):p:=h
theorem Qc{p:Prop}(h:p:=by
 .have av:0<th.length:=by omega
  have p:Do (c=false):=by
   unfold Do;rw[<-P.o];exact ze J.o (by rw[K.o,ad.o];simp[ae])
  go_wp2_with fail;go_ret
  exact⟨zC p.o.symm,H.trans (n.mono I)⟩):p:=h
theorem Qd{p:Prop}(h:p:=by
 go_wp2_with (first
  |(go_at_call 50;(with_reducible refine(qj x.name _ b.o _).mono ?_);rintro e a ⟨rfl,rfl⟩)
  |(go_at_call 60;(with_reducible refine(vE x.type _ G.o _).mono ?_);rintro e a ⟨rfl,rfl⟩))
 go_ret
 exact⟨zC d.o.symm,i.alloc O _⟩):p:=h
theorem Qe{p:Prop}(h:p:=by
 cases aj
 .have M:Do (Z=false):=by unfold Do;rw[<-W.o,Y.o];simp[hI]
  exact Qb
 .obtain rfl:ar=true:=aU.o rfl
  cases aE
  .have M:Do (Z=false):=by unfold Do;rw[<-W.o,Y.o];simp[hI]
   exact Qb
  .have M:Do (Z=true):=by unfold Do;rw[<-W.o,Y.o];simp[hI,af]
   exact Qb):p:=h
theorem Qf{p:Prop}(h:p:=by
 .have a5:0<tg.length:=by omega
  have p:Do (c=false):=by
   unfold Do;rw[<-P.o];exact ze J.o (by rw[K.o,ad.o];simp[ah])
  go_wp2_with fail;go_ret
  exact⟨zC p.o.symm,H.trans (n.mono I)⟩):p:=h
theorem Qg{p:Prop}(h:p:=by
 go_ret
 exact⟨zC (by rw[<-y.o];unfold f5;rw[xw yi m.o (by unfold yi;simp;omega)];rfl),L⟩):p:=h
theorem Qh{p:Prop}(h:p:=by
 .have M:Do (Z=false):=by unfold Do;rw[<-W.o,Y.o];simp[hI]
  exact Qb):p:=h
theorem BL(B:Nat)(k op n:Int)(td:C3)(tc:List Ex)(a:Option Addr)(b:Nat)(c:Bool)(w:C4)(e:xx (.mk k op n td tc) 100=c)(d:B<=w.heap.size)(f:kW B w (.slice a tc.length b) tc):
 Cz 84 #[.agg #[(k:Int),(op:Int),(n:Int),td,(a,tc.length,b)],(100:Int)] w (Cw c w):=(BK 100).call B 100 k op n td tc a b c w rfl O O e d f
theorem pW(m:Nat)(bn:∀m',m'+1=m->RsC m'):RsC m:=by
 intro B z l c v w bm _ bi bd a0;obtain⟨_,_,rfl,_⟩:=a0.form;have a8:=U a0;have P:=U bi;have t:=U bn;have aV:=U bm;have bX:0<=z:=O
 have bY:z<=1000:=O
 clear a0 bi bn bm;go_enter func61,ntmps61;go_wp2_with fail
 go_loopw [5] (fun iv wr=>∃j:Nat,j<=l.length/\iv=.int .i64 j/\fL (l.take j) m=true/\Cy w wr) (fun iv _=>l.length-(intOf iv).toNat)
 case atStart=>exact⟨0,Dx _,rfl,iW _,D4 _ _⟩
 case round=>
  obtain⟨j,_,rfl,be,H⟩:=hrel;have ag:=U be;clear be;have I:=H.size;have f:B<=wr.heap.size:=Dy bd I;by_cases bK:j<l.length
  .obtain⟨⟨V,ab,td,tc,tg,th⟩,aX⟩:∃e,l[j]?=some e:=⟨_,Dz bK⟩
   have J:=U aX;obtain⟨g,o,v,_,_,rfl,_,bx,bz,bA,bC,bD,bF,a2,a3,a4⟩:=(a8.o.below (H.mono bd) Zr).cells aX;obtain⟨aF,aH,rfl,_⟩:=a2.form;obtain⟨aw,ax,rfl,_⟩:=a3.form;obtain⟨ak,ap,rfl,_⟩:=a4.form;have a9:=U a2;have N:=U a3;have L:=U a4;have bR:g<wr.heap.size:=O
   clear aX a2 a3 a4;obtain⟨aE,a1⟩:=C0 (us td);obtain⟨aj,aN⟩:=C0 (VS V);obtain⟨ar,aL⟩:=C0 (VT V);obtain⟨aq,aK⟩:=C0 (VU V);obtain⟨aB,aW⟩:=C0 (ZW V);obtain⟨au,aY⟩:=C0 (ZX V);have Y:Do (f1 V ab td tc.length=(decide ((tc.length:Int)=aq)&&(aj == hI ab)&&(aj || decide (ab=0))&&(ar == aE)&&(ar || eB td))):=by unfold Do f1;rw[aK,aN,aL,a1]
   have ad:Do (f3 V tg.length th.length (P6 tc)=((aB || decide (tg.length=0))&&(au || decide (th.length=0))&&(!(decide (V=10)) || P6 tc))):=by unfold Do f3;rw[aW,aY]
   have bv:=U aK;have aU:Do (aj=true->ar=true):=by unfold Do;rw[<-aN,<-aL];unfold VS VT;simp;intro Q;exact .inl Q
   have aa:=U a1;have aT:Do (∀w',Cz 83 #[(V:Int)] w' (Cx (.tuple #[.bool aj,.bool ar,(aq:Int),.bool aB,.bool au]) w')):=fun w'=>TC V aj ar aB au aq aN aL aK aW aY w'
   clear a1 aN aL aK aW aY;rcases m with _|m'
   .have bj:z<1:=by have:=aV.o;omega
    have p:Do (c=false):=by
     unfold Do;rw[<-P.o];exact ze J.o (by rw[jp];simp)
    go_wp2_with (go_at_call 83;(with_reducible refine(aT.o _).mono ?_);rintro e X ⟨rfl,rfl⟩);go_ret;exact⟨zC p.o.symm,H.alloc I _⟩
   .have bj:¬z<1:=by have:=aV.o;omega
    have u:Do (z-1=(m':Int)):=by have:=aV.o;unfold Do;omega
    have x:m'<=1000:=O
    have K:Do (uP (.mk V ab td tc tg th) (m'+1)=(f1 V ab td tc.length&&f3 V tg.length th.length (P6 tc)&&zx tc 100&&fL tg m'&&fL th m')):=by
     unfold Do;rw[jp,GM,Yu];simp
    obtain⟨Z,bk⟩:=C0 (f1 V ab td tc.length);have W:=U bk;clear bk;have bQ:decide (z<1)=false:=by simpa using bj
    go_upto_region 6 with((go_at_call 83;(with_reducible refine(aT.o _).mono ?_);rintro e X ⟨rfl,rfl⟩))
    go_cut [77] (fun bM bO=>wr.alloc (.cells #[(V:Int),(ab:Int),td,(aF,tc.length,aH),(aw,tg.length,ax),(ak,th.length,ap)] 139)=bO/\bM=.bool (!Z))
    case first=>
     as_aux_lemma=>
      by_cases af:¬(tc.length:Int)=aq
      .have bI:((tc.length:Int) == aq)=false:=by simpa using af
       have M:Do (Z=false):=by unfold Do;rw[<-W.o,Y.o];simp[hI,af]
       exact Qb
      replace af:(tc.length:Int)=aq:=O
      have bI:((tc.length:Int) == aq)=true:=by simpa using af
      by_cases aP:ab=0
      .subst aP
       cases aj
       .cases ar
        .cases aE
         .by_cases aM:eB td=true
          .have bL:td.toList=[]:=(m9 td).2 (by simpa[eB]using aM)
           have M:Do (Z=true):=by unfold Do;rw[<-W.o,Y.o];simp[hI,af,aM]
           exact Qb
          .have bl:¬td.toList=[]:=fun Q=>aM (by simpa[eB]using(m9 td).1 Q)
           have bL:td.toList.isEmpty=false:=by simpa using bl
           clear bl;have M:Do (Z=false):=by unfold Do;rw[<-W.o,Y.o];simp[hI,aM]
           exact Qb
         exact Qh
        .cases aE
         .have M:Do (Z=false):=by unfold Do;rw[<-W.o,Y.o];simp[hI]
          exact Qb
         .have M:Do (Z=true):=by unfold Do;rw[<-W.o,Y.o];simp[hI,af]
          exact Qb
       exact Qh
      .by_cases aQ:ab=1
       .subst aQ
        exact Qe
       .by_cases aR:ab=2
        .subst aR
         exact Qe
        .have bU:(ab == 0)=false:=by simpa using aP
         have bV:(ab == 1)=false:=by simpa using aQ
         have bW:(ab == 2)=false:=by simpa using aR
         cases aj
         .have M:Do (Z=false):=by unfold Do;rw[<-W.o,Y.o];simp[hI,aP,aQ,aR]
          exact Qb
         .have M:Do (Z=false):=by unfold Do;rw[<-W.o,Y.o];simp[hI,aP,aQ,aR]
          exact Qb
    case rest=>
     obtain⟨rfl,aO⟩:=hcut;cases Z
     .change _=Value.bool true at aO
      subst aO
      have p:Do (c=false):=by
       unfold Do;rw[<-P.o];exact ze J.o (by rw[K.o,W.o];simp)
      go_wp2_with fail;go_ret;exact⟨zC p.o.symm,H.alloc I _⟩
     .change _=Value.bool false at aO
      subst aO
      have af:(tc.length:Int)=aq:=by
       have Q:=Y.o;rw[W.o]at Q;have Q:=Q.symm;simp only[D2,decide_eq_true_eq]at Q;exact Q.1.1.1.1
      subst af;have am:Do (f1 V ab td tc.length=true):=W;clear W;obtain⟨k,rfl⟩:∃k,k=wr:=⟨_,rfl⟩
      clear Y aT aU aa a8;go_wp2_with fail
      go_loopw [12] (fun iv bN=>∃q:Nat,q<=tc.length/\iv=.int .i64 q/\zx (tc.take q) 100=true/\Below (k.heap.size+1) (k.alloc (.cells #[(V:Int),(ab:Int),td,(aF,tc.length,aH),(aw,tg.length,ax),(ak,th.length,ap)] 139)) bN) (fun iv _=>tc.length-(intOf iv).toNat)
      case atStart=>exact⟨0,Dx _,rfl,uQ _,D4 _ _⟩
      case round=>
       as_aux_lemma=>
        obtain⟨q,_,rfl,bf,aJ⟩:=hrel;have aS:=U bf;clear bf;have s:k.heap.size<wr.heap.size:=by have bP:k.heap.size+1<=wr.heap.size:=(by have:=aJ.size;simpa using this);omega
        have n:Cy k wr:=(Zb.alloc Zr _).trans (aJ.mono O);have R:B<=wr.heap.size:=O
        have aC:wr.heap[k.heap.size]?=some (.cells #[(V:Int),(ab:Int),td,(aF,tc.length,aH),(aw,tg.length,ax),(ak,th.length,ap)] 139 (0,0)):=(aJ.block _ O).trans (Ds k _);have b1:wr.cell? (k.heap.size,0)=some (.int .i64 V):=Ks
        have b2:wr.cell? (k.heap.size,3)=some (.slice aF tc.length aH):=Ks
        have b3:wr.cell? (k.heap.size,4)=some (.slice aw tg.length ax):=Ks
        have b4:wr.cell? (k.heap.size,5)=some (.slice ak th.length ap):=Ks
        clear aC bx bz bA bC bD bF;by_cases bJ:q<tc.length
        .obtain⟨⟨az,br,bo,bp,bc⟩,ai⟩:∃e,tc[q]?=some e:=⟨_,Dz bJ⟩
         obtain⟨aI,bq,v',rfl,bG,a7,bs,bt,bu,q4,aD⟩:=(a9.o.below (n.mono f) Zr).cells ai;obtain⟨_,_,rfl,_⟩:=aD.form;obtain⟨bw,bh⟩:=C0 (xx (.mk az br bo bp bc) 100);have bb:=U ai;have ba:=U aD;have aG:=U bh;have bH:aI<wr.heap.size:=O
         clear ai aD bh;cases bw
         .have p:Do (c=false):=by
           unfold Do;rw[<-P.o];exact ze J.o (by rw[K.o,yx bb.o aG.o];simp)
          go_wp2_with (go_at_call 84;(with_reducible refine(BL B _ _ _ _ _ _ _ _ _ aG.o R ba.o).mono ?_);rintro e X ⟨rfl,a6⟩);go_ret;exact⟨zC p.o.symm,H.trans ((n.trans (a6.mono (D9 s))).mono I)⟩
         .go_wp2_with (go_at_call 84;(with_reducible refine(BL B _ _ _ _ _ _ _ _ _ aG.o R ba.o).mono ?_);rintro e X ⟨rfl,a6⟩)
          go_roundw
          case rel=>exact⟨q+1,O,by go_num,by rw[lJ bb.o,aS.o,aG.o];rfl,aJ.trans (a6.mono (Nat.succ_le_of_lt s))⟩
          case measure=>simp[intOf];omega
        .have al:Do (zx tc 100=true):=by unfold Do;rw[<-aS.o,Ye O]
         clear aS;obtain⟨an,E⟩:=C0 (fL tg m');obtain⟨ao,bg⟩:=C0 (fL th m');have F:=U E;have G:=U bg;clear E bg;by_cases ay:V=10
         .subst ay
          have bT:tc.length=1:=by have:=bv.o;simp[VU]at this;omega
          obtain⟨⟨az,br,bo,bp,bc⟩,ai⟩:∃e,tc[0]?=some e:=⟨_,Dz O⟩
          obtain⟨aI,bq,v',rfl,bG,a7,bs,bt,bu,q4,aD⟩:=(a9.o.below (n.mono f) Zr).cells ai
          have aA:Do (P6 tc=decide (az=7)):=by
           unfold Do;cases tc with
           |nil=>simp at ai
           |cons a r=>simp at ai;subst ai;rfl
          have b5:wr.cell? (aI,bq)=some (.int .i64 az):=by simpa using a7
          have bH:aI<wr.heap.size:=O
          have bS:0<tc.length:=O
          clear ai aD a7 bs bt bu q4;by_cases aZ:az=7
          .subst aZ
           as_aux_lemma=>
            cases aB
            .by_cases ah:tg.length=0
             .have a5:¬0<tg.length:=by omega
              replace N:Do (f6 B k (.slice aw 0 ax) tg):=Hm
              cases au
              .by_cases ae:th.length=0
               .have av:¬0<th.length:=by omega
                replace L:Do (f6 B k (.slice ak 0 ap) th):=Kh
                cases an
                .have p:Do (c=false):=by
                  unfold Do;rw[<-P.o];exact ze J.o Xh
                 exact Iz
                .cases ao
                 .have p:Do (c=false):=by
                   unfold Do;rw[<-P.o];exact ze J.o Xi
                  exact Qa
                 .go_wp2_with (first
                   |(go_at_call 61;(with_reducible refine((t.o m' rfl).call B _ tg _ _ _ u.o x F.o R (N.o.below (n.mono f) Zr)).mono ?_);rintro e i ⟨rfl,d⟩;obtain⟨S,T⟩:=qW d;have b:Cy k i:=n.trans (d.mono (D9 s));have y:B<=i.heap.size:=(Dy f b.size))
                   |(go_at_call 61;(with_reducible refine((t.o m' rfl).call B _ th _ _ _ u.o x G.o y (L.o.below (b.mono f) Zr)).mono ?_);rintro e D ⟨rfl,C⟩;have E:Cy k D:=b.trans (C.mono (Dy (D9 s) d.size))))
                  go_roundw
                  case rel=>exact⟨j+1,O,by go_num,by rw[kU J.o,ag.o,K.o,am.o,ad.o,al.o,F.o,G.o,aA.o];simp[ah,ae],H.trans (E.mono I)⟩
                  case measure=>simp[intOf];omega
               exact Qc
              .cases an
               .have p:Do (c=false):=by
                 unfold Do;rw[<-P.o];exact ze J.o Xh
                exact Iz
               .cases ao
                .have p:Do (c=false):=by
                  unfold Do;rw[<-P.o];exact ze J.o Xi
                 exact Qa
                .go_wp2_with (first
                  |(go_at_call 61;(with_reducible refine((t.o m' rfl).call B _ tg _ _ _ u.o x F.o R (N.o.below (n.mono f) Zr)).mono ?_);rintro e i ⟨rfl,d⟩;obtain⟨S,T⟩:=qW d;have b:Cy k i:=n.trans (d.mono (D9 s));have y:B<=i.heap.size:=(Dy f b.size))
                  |(go_at_call 61;(with_reducible refine((t.o m' rfl).call B _ th _ _ _ u.o x G.o y (L.o.below (b.mono f) Zr)).mono ?_);rintro e D ⟨rfl,C⟩;have E:Cy k D:=b.trans (C.mono (Dy (D9 s) d.size))))
                 go_roundw
                 case rel=>exact⟨j+1,O,by go_num,by rw[kU J.o,ag.o,K.o,am.o,ad.o,al.o,F.o,G.o,aA.o];simp[ah],H.trans (E.mono I)⟩
                 case measure=>simp[intOf];omega
             exact Qf
            .cases au
             .by_cases ae:th.length=0
              .have av:¬0<th.length:=by omega
               replace L:Do (f6 B k (.slice ak 0 ap) th):=Kh
               cases an
               .have p:Do (c=false):=by
                 unfold Do;rw[<-P.o];exact ze J.o Xh
                exact Iz
               .cases ao
                .have p:Do (c=false):=by
                  unfold Do;rw[<-P.o];exact ze J.o Xi
                 exact Qa
                .go_wp2_with (first
                  |(go_at_call 61;(with_reducible refine((t.o m' rfl).call B _ tg _ _ _ u.o x F.o R (N.o.below (n.mono f) Zr)).mono ?_);rintro e i ⟨rfl,d⟩;obtain⟨S,T⟩:=qW d;have b:Cy k i:=n.trans (d.mono (D9 s));have y:B<=i.heap.size:=(Dy f b.size))
                  |(go_at_call 61;(with_reducible refine((t.o m' rfl).call B _ th _ _ _ u.o x G.o y (L.o.below (b.mono f) Zr)).mono ?_);rintro e D ⟨rfl,C⟩;have E:Cy k D:=b.trans (C.mono (Dy (D9 s) d.size))))
                 go_roundw
                 case rel=>exact⟨j+1,O,by go_num,by rw[kU J.o,ag.o,K.o,am.o,ad.o,al.o,F.o,G.o,aA.o];simp[ae],H.trans (E.mono I)⟩
                 case measure=>simp[intOf];omega
              exact Qc
             .cases an
              .have p:Do (c=false):=by
                unfold Do;rw[<-P.o];exact ze J.o Xh
               exact Iz
              .cases ao
               .have p:Do (c=false):=by
                 unfold Do;rw[<-P.o];exact ze J.o Xi
                exact Qa
               .go_wp2_with (first
                 |(go_at_call 61;(with_reducible refine((t.o m' rfl).call B _ tg _ _ _ u.o x F.o R (N.o.below (n.mono f) Zr)).mono ?_);rintro e i ⟨rfl,d⟩;obtain⟨S,T⟩:=qW d;have b:Cy k i:=n.trans (d.mono (D9 s));have y:B<=i.heap.size:=(Dy f b.size))
                 |(go_at_call 61;(with_reducible refine((t.o m' rfl).call B _ th _ _ _ u.o x G.o y (L.o.below (b.mono f) Zr)).mono ?_);rintro e D ⟨rfl,C⟩;have E:Cy k D:=b.trans (C.mono (Dy (D9 s) d.size))))
                go_roundw
                case rel=>exact⟨j+1,O,by go_num,by rw[kU J.o,ag.o,K.o,am.o,ad.o,al.o,F.o,G.o,aA.o];simp,H.trans (E.mono I)⟩
                case measure=>simp[intOf];omega
          .have b0:(az == 7)=false:=by simpa using aZ
           have p:Do (c=false):=by
            unfold Do;rw[<-P.o];exact ze J.o (by rw[K.o,ad.o,aA.o];simp[aZ])
           go_wp2_with fail;go_ret;exact⟨zC p.o.symm,H.trans (n.mono I)⟩
         .have bZ:(V == 10)=false:=by simpa using ay
          as_aux_lemma=>
           cases aB
           .by_cases ah:tg.length=0
            .have a5:¬0<tg.length:=by omega
             replace N:Do (f6 B k (.slice aw 0 ax) tg):=Hm
             cases au
             .by_cases ae:th.length=0
              .have av:¬0<th.length:=by omega
               replace L:Do (f6 B k (.slice ak 0 ap) th):=Kh
               cases an
               .have p:Do (c=false):=by
                 unfold Do;rw[<-P.o];exact ze J.o Xh
                exact Iz
               .cases ao
                .have p:Do (c=false):=by
                  unfold Do;rw[<-P.o];exact ze J.o Xi
                 exact Qa
                .go_wp2_with (first
                  |(go_at_call 61;(with_reducible refine((t.o m' rfl).call B _ tg _ _ _ u.o x F.o R (N.o.below (n.mono f) Zr)).mono ?_);rintro e i ⟨rfl,d⟩;obtain⟨S,T⟩:=qW d;have b:Cy k i:=n.trans (d.mono (D9 s));have y:B<=i.heap.size:=(Dy f b.size))
                  |(go_at_call 61;(with_reducible refine((t.o m' rfl).call B _ th _ _ _ u.o x G.o y (L.o.below (b.mono f) Zr)).mono ?_);rintro e D ⟨rfl,C⟩;have E:Cy k D:=b.trans (C.mono (Dy (D9 s) d.size))))
                 go_roundw
                 case rel=>exact⟨j+1,O,by go_num,by rw[kU J.o,ag.o,K.o,am.o,ad.o,al.o,F.o,G.o];simp[ay,ah,ae],H.trans (E.mono I)⟩
                 case measure=>simp[intOf];omega
              exact Qc
             .cases an
              .have p:Do (c=false):=by
                unfold Do;rw[<-P.o];exact ze J.o Xh
               exact Iz
              .cases ao
               .have p:Do (c=false):=by
                 unfold Do;rw[<-P.o];exact ze J.o Xi
                exact Qa
               .go_wp2_with (first
                 |(go_at_call 61;(with_reducible refine((t.o m' rfl).call B _ tg _ _ _ u.o x F.o R (N.o.below (n.mono f) Zr)).mono ?_);rintro e i ⟨rfl,d⟩;obtain⟨S,T⟩:=qW d;have b:Cy k i:=n.trans (d.mono (D9 s));have y:B<=i.heap.size:=(Dy f b.size))
                 |(go_at_call 61;(with_reducible refine((t.o m' rfl).call B _ th _ _ _ u.o x G.o y (L.o.below (b.mono f) Zr)).mono ?_);rintro e D ⟨rfl,C⟩;have E:Cy k D:=b.trans (C.mono (Dy (D9 s) d.size))))
                go_roundw
                case rel=>exact⟨j+1,O,by go_num,by rw[kU J.o,ag.o,K.o,am.o,ad.o,al.o,F.o,G.o];simp[ay,ah],H.trans (E.mono I)⟩
                case measure=>simp[intOf];omega
            exact Qf
           .cases au
            .by_cases ae:th.length=0
             .have av:¬0<th.length:=by omega
              replace L:Do (f6 B k (.slice ak 0 ap) th):=Kh
              cases an
              .have p:Do (c=false):=by
                unfold Do;rw[<-P.o];exact ze J.o Xh
               exact Iz
              .cases ao
               .have p:Do (c=false):=by
                 unfold Do;rw[<-P.o];exact ze J.o Xi
                exact Qa
               .go_wp2_with (first
                 |(go_at_call 61;(with_reducible refine((t.o m' rfl).call B _ tg _ _ _ u.o x F.o R (N.o.below (n.mono f) Zr)).mono ?_);rintro e i ⟨rfl,d⟩;obtain⟨S,T⟩:=qW d;have b:Cy k i:=n.trans (d.mono (D9 s));have y:B<=i.heap.size:=(Dy f b.size))
                 |(go_at_call 61;(with_reducible refine((t.o m' rfl).call B _ th _ _ _ u.o x G.o y (L.o.below (b.mono f) Zr)).mono ?_);rintro e D ⟨rfl,C⟩;have E:Cy k D:=b.trans (C.mono (Dy (D9 s) d.size))))
                go_roundw
                case rel=>exact⟨j+1,O,by go_num,by rw[kU J.o,ag.o,K.o,am.o,ad.o,al.o,F.o,G.o];simp[ay,ae],H.trans (E.mono I)⟩
                case measure=>simp[intOf];omega
             exact Qc
            .cases an
             .have p:Do (c=false):=by
               unfold Do;rw[<-P.o];exact ze J.o Xh
              exact Iz
             .cases ao
              .have p:Do (c=false):=by
                unfold Do;rw[<-P.o];exact ze J.o Xi
               exact Qa
              .go_wp2_with (first
                |(go_at_call 61;(with_reducible refine((t.o m' rfl).call B _ tg _ _ _ u.o x F.o R (N.o.below (n.mono f) Zr)).mono ?_);rintro e i ⟨rfl,d⟩;obtain⟨S,T⟩:=qW d;have b:Cy k i:=n.trans (d.mono (D9 s));have y:B<=i.heap.size:=(Dy f b.size))
                |(go_at_call 61;(with_reducible refine((t.o m' rfl).call B _ th _ _ _ u.o x G.o y (L.o.below (b.mono f) Zr)).mono ?_);rintro e D ⟨rfl,C⟩;have E:Cy k D:=b.trans (C.mono (Dy (D9 s) d.size))))
               go_roundw
               case rel=>exact⟨j+1,O,by go_num,by rw[kU J.o,ag.o,K.o,am.o,ad.o,al.o,F.o,G.o];simp[ay],H.trans (E.mono I)⟩
               case measure=>simp[intOf];omega
  .go_wp2_with fail
   go_ret;refine⟨zC ?_,H⟩;rw[<-P.o,<-ag.o,Ye O]
theorem tV:∀m,RsC m
 |0=>pW 0 (fun _ h=>O)
 | m+1=>pW (m+1) (fun m' h=>by
    obtain rfl:m'=m:=O
    exact tV m')
theorem tW(B:Nat)(l:List St)(b:Bool)(c:fL l 100=b)(v:C5)(w:C4)(a:B<=w.heap.size)(d:f6 B w v l):
 Cz 61 #[v,(100:Int)] w (Cw b w):=(tV 100).call B _ l b v w rfl O c a d
theorem vE(t:Int)(b:Bool)(h:hI t=b)(w:C4):Cz 60 #[(t:Int)] w (Cx b w):=by
 subst h;go_enter func60,ntmps60;go_wp2_with fail
 all_goals go_ret
 all_goals refine⟨zC ?_,rfl⟩
 all_goals go_light
 all_goals(unfold hI;rw[Yk];simp_all)
theorem zAm(B:Nat)(p:Pr)(c:Bool)(ax:f5 p=c)(v v':C5)(w:C4)(ar:B<=w.heap.size)(V:gN B w v p.wa)(Y:gO B w v' p.funcs):
 Cz 28 #[.agg #[v,v']] w (Cw c w):=by
 obtain⟨t,z,rfl,_⟩:=V.form;obtain⟨u,A,rfl,_⟩:=Y.form;have aA:=U V;have aC:=U Y;have y:=U ax
 have ai:∀wr,Below (w.heap.size+1) (w.alloc (.cells #[(t,p.wa.length,z),(u,p.funcs.length,A)] 27)) wr->wr.cell? (w.heap.size,0)=some (.slice t p.wa.length z)/\wr.cell? (w.heap.size,1)=some (.slice u p.funcs.length A):=fun wr C=>by
  have E:wr.heap[w.heap.size]?=some (.cells #[(t,p.wa.length,z),(u,p.funcs.length,A)] 27 (0,0)):=(C.block _ O).trans (Ds w _);exact⟨by rw[Du E];rfl,by rw[Du E];rfl⟩
 have ah:=U ai;clear V Y ax ai;go_enter func28,ntmps28;go_wp2_with fail
 go_loopw [3] (fun iv wr=>∃j:Nat,j<=p.wa.length/\iv=.int .i64 j/\(p.wa.take j).all yi=true/\Below (w.heap.size+1) (w.alloc (.cells #[(t,p.wa.length,z),(u,p.funcs.length,A)] 27)) wr) (fun iv _=>p.wa.length-(intOf iv).toNat)
 case atStart=>exact⟨0,Dx _,rfl,rfl,D4 _ _⟩
 case round=>
  obtain⟨j,_,rfl,au,D⟩:=hrel;have N:=U au;clear au;have a3:w.heap.size+1<=wr.heap.size:=by have:=D.size;simpa using this
  have L:Cy w wr:=(Zb.alloc Zr _).trans (D.mono O);have aY:B<=wr.heap.size:=O
  have a0:w.heap.size<wr.heap.size:=O
  obtain⟨_,_⟩:=ah.o wr D;by_cases aO:j<p.wa.length
  .obtain⟨x,n⟩:∃e,p.wa[j]?=some e:=⟨_,Dz aO⟩
   obtain⟨g,o,rfl,aL,aR,aS⟩:=(aA.o.below (L.mono ar) Zr).cells n;have m:=U n;have aM:g<wr.heap.size:=O
   obtain⟨H,s⟩:=C0 (us x.name);have b:=U s;clear n s;cases H
   .go_wp2_with (go_at_call 50;(with_reducible refine(qj x.name _ b.o _).mono ?_);rintro e a ⟨rfl,rfl⟩)
    go_ret;exact⟨zC (by rw[<-y.o];unfold f5;rw[xw yi m.o (by unfold yi;rw[b.o];rfl)];rfl),L⟩
   .by_cases aV:x.size<1
    .go_wp2_with (go_at_call 50;(with_reducible refine(qj x.name _ b.o _).mono ?_);rintro e a ⟨rfl,rfl⟩)
     exact Qg
    .by_cases aW:1000<x.size
     .go_wp2_with (go_at_call 50;(with_reducible refine(qj x.name _ b.o _).mono ?_);rintro e a ⟨rfl,rfl⟩)
      exact Qg
     .have aF:Do (yi x=true):=by unfold Do yi;rw[b.o];simp;omega
      go_wp2_with (go_at_call 50;(with_reducible refine(qj x.name _ b.o _).mono ?_);rintro e a ⟨rfl,rfl⟩);go_roundw
      case rel=>exact⟨j+1,O,by go_num,by rw[vD yi m.o,N.o,aF.o];rfl,D⟩
      case measure=>simp[intOf];omega
  .have aB:Do (p.wa.all yi=true):=by unfold Do;rw[<-N.o,Ye O]
   clear N;go_wp2_with fail
   go_loopw [4] (fun iv aU=>∃j:Nat,j<=p.funcs.length/\iv=.int .i64 j/\(p.funcs.take j).all yj=true/\Below (w.heap.size+1) (w.alloc (.cells #[(t,p.wa.length,z),(u,p.funcs.length,A)] 27)) aU) (fun iv _=>p.funcs.length-(intOf iv).toNat)
   case atStart=>exact⟨0,Dx _,rfl,rfl,D⟩
   case round=>
    obtain⟨ad,_,rfl,av,J⟩:=hrel;have af:=U av;clear av;have aQ:w.heap.size+1<=wr.heap.size:=Ki
    have i:Cy w wr:=(Zb.alloc Zr _).trans (J.mono O);have T:B<=wr.heap.size:=O
    have a1:w.heap.size<wr.heap.size:=O
    obtain⟨_,_⟩:=ah.o wr J;by_cases aP:ad<p.funcs.length
    .obtain⟨x,n⟩:∃e,p.funcs[ad]?=some e:=⟨_,Dz aP⟩
     obtain⟨g,o,_,_,rfl,aL,aR,aS,_,_,Z,C⟩:=(aC.o.below (i.mono ar) Zr).cells n;obtain⟨M,S,rfl,_⟩:=Z.form;obtain⟨ae,ap,rfl,_⟩:=C.form;have m:=U n;have aG:=U Z;have aj:=U C;have aM:g<wr.heap.size:=O
     obtain⟨H,s⟩:=C0 (us x.name);obtain⟨al,W⟩:=C0 (hI x.type);obtain⟨am,X⟩:=C0 (fL x.body 100);have l:Do (yj x=(H&&al&&decide (x.params.length<=8)&&x.params.all ut&&am)):=by unfold Do yj;rw[s,W,X]
     have b:=U s;have G:=U W;have ak:=U X;clear n s W X Z C;have r:Do (yj x=false->c=false):=fun aJ=>by rw[<-y.o];unfold f5;rw[xw yj m.o aJ];simp
     cases H
     .have d:Do (c=false):=r.o (by rw[l.o];rfl)
      go_wp2_with (go_at_call 50;(with_reducible refine(qj x.name _ b.o _).mono ?_);rintro e a ⟨rfl,rfl⟩);go_ret;exact⟨zC d.o.symm,i.alloc O _⟩
     .cases al
      .have d:Do (c=false):=r.o (by rw[l.o];rfl)
       exact Qd
      .by_cases aq:x.params.length<=8
       .have aK:¬8<x.params.length:=by omega
        cases am
        .have d:Do (c=false):=r.o (by rw[l.o];simp)
         go_wp2_with (first
          |(go_at_call 50;(with_reducible refine(qj x.name _ b.o _).mono ?_);rintro e a ⟨rfl,rfl⟩)
          |(go_at_call 60;(with_reducible refine(vE x.type _ G.o _).mono ?_);rintro e a ⟨rfl,rfl⟩)
          |(go_at_call 61;(with_reducible refine(tW B x.body _ ak.o _ _ Ug (aj.o.below (Zb.alloc T _) Zr)).mono ?_);rintro e a ⟨rfl,aa⟩))
         go_ret;exact⟨zC d.o.symm,(i.alloc O _).trans (aa.mono Ug)⟩
        .go_wp2_with (first
          |(go_at_call 50;(with_reducible refine(qj x.name _ b.o _).mono ?_);rintro e a ⟨rfl,rfl⟩)
          |(go_at_call 60;(with_reducible refine(vE x.type _ G.o _).mono ?_);rintro e a ⟨rfl,rfl⟩)
          |(go_at_call 61;(with_reducible refine(tW B x.body _ ak.o _ _ Ug (aj.o.below (Zb.alloc T _) Zr)).mono ?_);rintro e a ⟨rfl,aa⟩))
         obtain⟨f,rfl⟩:∃f,f=wr:=⟨_,rfl⟩
         go_loopw [6] (fun iv aT=>∃q:Nat,q<=x.params.length/\iv=.int .i64 q/\(x.params.take q).all ut=true/\Below (f.heap.size+1) (f.alloc (.cells #[x.name,(x.type:Int),(M,x.params.length,S),(ae,x.body.length,ap)] 93)) aT) (fun iv _=>x.params.length-(intOf iv).toNat)
         case atStart=>exact⟨0,Dx _,rfl,rfl,aa.mono Uh⟩
         case round=>
          obtain⟨q,_,rfl,aw,I⟩:=hrel;have ag:=U aw;clear aw;have a2:f.heap.size<wr.heap.size:=by have aX:f.heap.size+1<=wr.heap.size:=(by have:=I.size;simpa using this);omega
          have K:Cy f wr:=(Zb.alloc Zr _).trans (I.mono O);have E:wr.heap[f.heap.size]?=some (.cells #[x.name,(x.type:Int),(M,x.params.length,S),(ae,x.body.length,ap)] 93 (0,0)):=(I.block _ O).trans (Ds f _);have a4:wr.cell? (f.heap.size,2)=some (.slice M x.params.length S):=by rw[Du E];rfl
          clear E;by_cases aN:q<x.params.length
          .obtain⟨k,ab⟩:∃e,x.params[q]?=some e:=⟨_,Dz aN⟩
           obtain⟨aI,_,rfl,_,_,_⟩:=(aG.o.below (K.mono T) Zr).cells ab;have R:=U ab;have aZ:aI<wr.heap.size:=O
           obtain⟨an,ay⟩:=C0 (us k.name);obtain⟨ao,az⟩:=C0 (hI k.type);have F:=U ay;have Q:=U az;clear ab ay az;have P:Do (ut k=(an&&ao)):=by unfold Do ut;rw[F.o,Q.o]
           cases an
           .have d:Do (c=false):=r.o Ha
            go_wp2_with (go_at_call 50;(with_reducible refine(qj k.name _ F.o _).mono ?_);rintro e a ⟨rfl,rfl⟩);go_ret;exact⟨zC d.o.symm,i.trans (K.mono O)⟩
           .cases ao
            .have d:Do (c=false):=r.o Ha
             go_wp2_with (first
              |(go_at_call 50;(with_reducible refine(qj k.name _ F.o _).mono ?_);rintro e a ⟨rfl,rfl⟩)
              |(go_at_call 60;(with_reducible refine(vE k.type _ Q.o _).mono ?_);rintro e a ⟨rfl,rfl⟩))
             go_ret;exact⟨zC d.o.symm,i.trans (K.mono O)⟩
            .go_wp2_with (first
              |(go_at_call 50;(with_reducible refine(qj k.name _ F.o _).mono ?_);rintro e a ⟨rfl,rfl⟩)
              |(go_at_call 60;(with_reducible refine(vE k.type _ Q.o _).mono ?_);rintro e a ⟨rfl,rfl⟩))
             go_roundw
             case rel=>exact⟨q+1,O,by go_num,by rw[vD ut R.o,ag.o,P.o];rfl,I⟩
             case measure=>simp[intOf];omega
          .have aH:Do (x.params.all ut=true):=by unfold Do;rw[<-ag.o,Ye O]
           have aE:Do (yj x=true):=by unfold Do;rw[l.o,aH.o];simp[aq]
           go_wp2_with fail;go_roundw
           case rel=>exact⟨ad+1,O,by go_num,by rw[vD yj m.o,af.o,aE.o];rfl,J.trans (K.mono aQ)⟩
           case measure=>simp[intOf];omega
       .have aK:8<x.params.length:=by omega
        have d:Do (c=false):=r.o (by rw[l.o];simp[aq]);exact Qd
    .have aD:Do (p.funcs.all yj=true):=by unfold Do;rw[<-af.o,Ye O]
     go_wp2_with fail;go_ret;exact⟨zC (by rw[<-y.o];unfold f5;rw[aB.o,aD.o];rfl),i⟩
