import Derived.Test.YthcmenajdcbnnaaGreatDoorAnTreeRightS
import Derived.Deep.DeepCutAuto
import Derived.Deep.CutBlock
set_option linter.unusedSimpArgs false
set_option linter.unusedVariables false
set_option maxRecDepth 100000
set_option maxHeartbeats 99000000
namespace Go.Proofs.YthcmenajdcbnnaaGreatDoor
open Go.RowKit Tryz
theorem Iw{p:Prop}(h:p:=by
 go_wp2_with (first
  |(go_at_call 61;(with_reducible refine((t.o m' rfl).call B _ tg _ _ _ u.o x F.o R (N.o.below (n.mono f) Zr)).mono ?_);rintro e i ⟨rfl,d⟩;obtain⟨S,T⟩:=qT d;have b:Cx k i:=n.trans (d.mono (D5 s));have y:B<=i.heap.size:=(Dr f b.size))
  |(go_at_call 61;(with_reducible refine((t.o m' rfl).call B _ th _ _ _ u.o x G.o y (L.o.below (b.mono f) Zr)).mono ?_);rintro e D ⟨rfl,C⟩;have E:Cx k D:=b.trans (C.mono (Dr (D5 s) d.size))))
 go_ret
 exact⟨zC p.o.symm,H.trans (b.mono I)⟩):p:=h
theorem Ix{p:Prop}(h:p:=by
 go_wp2_with (first
  |(go_at_call 61;(with_reducible refine((t.o m' rfl).call B _ tg _ _ _ u.o x F.o R (N.o.below (n.mono f) Zr)).mono ?_);rintro e i ⟨rfl,d⟩;obtain⟨S,T⟩:=qT d;have b:Cx k i:=n.trans (d.mono (D5 s));have y:B<=i.heap.size:=(Dr f b.size))
  |(go_at_call 61;(with_reducible refine((t.o m' rfl).call B _ th _ _ _ u.o x G.o y (L.o.below (b.mono f) Zr)).mono ?_);rintro e D ⟨rfl,C⟩;have E:Cx k D:=b.trans (C.mono (Dr (D5 s) d.size))))
 go_ret
 exact⟨zC p.o.symm,H.trans (E.mono I)⟩):p:=h
theorem Iy{p:Prop}(h:p:=by
 go_wp2_with ((go_at_call 50;(with_reducible refine(qo td _ aa.o _).mono ?_);rintro e X ⟨rfl,rfl⟩))
 all_goals go_meet
 all_goals exact⟨rfl,by rw[M.o];rfl⟩):p:=h
theorem Iz{p:Prop}(h:p:=by
 .have av:0<th.length:=by omega
  have p:Dk (c=false):=by
   unfold Dk;rw[<-P.o];exact zg J.o (by rw[K.o,ad.o];simp[ae])
  go_wp2_with fail;go_ret
  exact⟨zC p.o.symm,H.trans (n.mono I)⟩):p:=h
theorem Qa{p:Prop}(h:p:=by
 go_wp2_with (first
  |(go_at_call 50;(with_reducible refine(qo x.name _ b.o _).mono ?_);rintro e a ⟨rfl,rfl⟩)
  |(go_at_call 60;(with_reducible refine(vd x.type _ G.o _).mono ?_);rintro e a ⟨rfl,rfl⟩))
 go_ret
 exact⟨zC d.o.symm,i.alloc O _⟩):p:=h
theorem Qb{p:Prop}(h:p:=by
 cases aj
 .have M:Dk (Z=false):=by unfold Dk;rw[<-W.o,Y.o];simp[gM]
  exact Iy
 .obtain rfl:ar=true:=aU.o rfl
  cases aE
  .have M:Dk (Z=false):=by unfold Dk;rw[<-W.o,Y.o];simp[gM]
   exact Iy
  .have M:Dk (Z=true):=by unfold Dk;rw[<-W.o,Y.o];simp[gM,af]
   exact Iy):p:=h
theorem Qc{p:Prop}(h:p:=by
 .have a5:0<tg.length:=by omega
  have p:Dk (c=false):=by
   unfold Dk;rw[<-P.o];exact zg J.o (by rw[K.o,ad.o];simp[ah])
  go_wp2_with fail;go_ret
  exact⟨zC p.o.symm,H.trans (n.mono I)⟩):p:=h
theorem Qd{p:Prop}(h:p:=by
 go_ret
 exact⟨zC (by rw[<-y.o];unfold eK;rw[yH ud m.o (by unfold ud;simp;omega)];rfl),L⟩):p:=h
theorem Qe{p:Prop}(h:p:=by
 .have M:Dk (Z=false):=by unfold Dk;rw[<-W.o,Y.o];simp[gM]
  exact Iy):p:=h
theorem A7(B:Nat)(k op n:Int)(td:C2)(tc:List Ex)(a:Option Addr)(b:Nat)(c:Bool)(w:C3)(e:vA (.mk k op n td tc) 100=c)(d:B<=w.heap.size)(f:xA B w (.slice a tc.length b) tc):
 Cy 84 #[.agg #[(k:Int),(op:Int),(n:Int),td,(a,tc.length,b)],(100:Int)] w (Cv c w):=(A6 100).call B 100 k op n td tc a b c w rfl O O e d f
theorem pK(m:Nat)(bn:∀m',m'+1=m->RsC m'):RsC m:=by
 intro B z l c v w bm _ bi bd a0;obtain⟨_,_,rfl,_⟩:=a0.form;have a8:=U a0;have P:=U bi;have t:=U bn;have aV:=U bm;have bX:0<=z:=O
 have bY:z<=1000:=O
 clear a0 bi bn bm;go_enter func61,ntmps61;go_wp2_with fail
 go_loopw [5] (fun iv wr=>∃j:Nat,j<=l.length/\iv=.int .i64 j/\d3 (l.take j) m=true/\Cx w wr) (fun iv _=>l.length-(intOf iv).toNat)
 case atStart=>exact⟨0,Dw _,rfl,uo _,D1 _ _⟩
 case round=>
  obtain⟨j,_,rfl,be,H⟩:=hrel;have ag:=U be;clear be;have I:=H.size;have f:B<=wr.heap.size:=Dr bd I;by_cases bK:j<l.length
  .obtain⟨⟨V,ab,td,tc,tg,th⟩,aX⟩:∃e,l[j]?=some e:=⟨_,Dz bK⟩
   have J:=U aX;obtain⟨g,o,v,_,_,rfl,_,bx,bz,bA,bC,bD,bF,a2,a3,a4⟩:=(a8.o.below (H.mono bd) Zr).cells aX;obtain⟨aF,aH,rfl,_⟩:=a2.form;obtain⟨aw,ax,rfl,_⟩:=a3.form;obtain⟨ak,ap,rfl,_⟩:=a4.form;have a9:=U a2;have N:=U a3;have L:=U a4;have bR:g<wr.heap.size:=O
   clear aX a2 a3 a4;obtain⟨aE,a1⟩:=Cz (uH td);obtain⟨aj,aN⟩:=Cz (XF V);obtain⟨ar,aL⟩:=Cz (XG V);obtain⟨aq,aK⟩:=Cz (XH V);obtain⟨aB,aW⟩:=Cz (shB V);obtain⟨au,aY⟩:=Cz (shE V);have Y:Dk (f1 V ab td tc.length=(decide ((tc.length:Int)=aq)&&(aj == gM ab)&&(aj || decide (ab=0))&&(ar == aE)&&(ar || eB td))):=by unfold Dk f1;rw[aK,aN,aL,a1]
   have ad:Dk (f3 V tg.length th.length (uN tc)=((aB || decide (tg.length=0))&&(au || decide (th.length=0))&&(!(decide (V=10)) || uN tc))):=by unfold Dk f3;rw[aW,aY]
   have bv:=U aK;have aU:Dk (aj=true->ar=true):=by unfold Dk;rw[<-aN,<-aL];unfold XF XG;simp;intro Q;exact .inl Q
   have aa:=U a1;have aT:Dk (∀w',Cy 83 #[(V:Int)] w' (Cw (.tuple #[.bool aj,.bool ar,(aq:Int),.bool aB,.bool au]) w')):=fun w'=>T6 V aj ar aB au aq aN aL aK aW aY w'
   clear a1 aN aL aK aW aY;rcases m with _|m'
   .have bj:z<1:=by have:=aV.o;omega
    have p:Dk (c=false):=by
     unfold Dk;rw[<-P.o];exact zg J.o (by rw[jW];simp)
    go_wp2_with (go_at_call 83;(with_reducible refine(aT.o _).mono ?_);rintro e X ⟨rfl,rfl⟩);go_ret;exact⟨zC p.o.symm,H.alloc I _⟩
   .have bj:¬z<1:=by have:=aV.o;omega
    have u:Dk (z-1=(m':Int)):=by have:=aV.o;unfold Dk;omega
    have x:m'<=1000:=O
    have K:Dk (fG (.mk V ab td tc tg th) (m'+1)=(f1 V ab td tc.length&&f3 V tg.length th.length (uN tc)&&zr tc 100&&d3 tg m'&&d3 th m')):=by
     unfold Dk;rw[jW,GG,Yt];simp
    obtain⟨Z,bk⟩:=Cz (f1 V ab td tc.length);have W:=U bk;clear bk;have bQ:decide (z<1)=false:=by simpa using bj
    go_upto_region 6 with((go_at_call 83;(with_reducible refine(aT.o _).mono ?_);rintro e X ⟨rfl,rfl⟩))
    go_cut [77] (fun bM bO=>wr.alloc (.cells #[(V:Int),(ab:Int),td,(aF,tc.length,aH),(aw,tg.length,ax),(ak,th.length,ap)] 139)=bO/\bM=.bool (!Z))
    case first=>
     as_aux_lemma=>
      by_cases af:¬(tc.length:Int)=aq
      .have bI:((tc.length:Int) == aq)=false:=by simpa using af
       have M:Dk (Z=false):=by unfold Dk;rw[<-W.o,Y.o];simp[gM,af]
       exact Iy
      replace af:(tc.length:Int)=aq:=O
      have bI:((tc.length:Int) == aq)=true:=by simpa using af
      by_cases aP:ab=0
      .subst aP
       cases aj
       .cases ar
        .cases aE
         .by_cases aM:eB td=true
          .have bL:td.toList=[]:=(mV td).2 (by simpa[eB]using aM)
           have M:Dk (Z=true):=by unfold Dk;rw[<-W.o,Y.o];simp[gM,af,aM]
           exact Iy
          .have bl:¬td.toList=[]:=fun Q=>aM (by simpa[eB]using(mV td).1 Q)
           have bL:td.toList.isEmpty=false:=by simpa using bl
           clear bl;have M:Dk (Z=false):=by unfold Dk;rw[<-W.o,Y.o];simp[gM,aM]
           exact Iy
         exact Qe
        .cases aE
         .have M:Dk (Z=false):=by unfold Dk;rw[<-W.o,Y.o];simp[gM]
          exact Iy
         .have M:Dk (Z=true):=by unfold Dk;rw[<-W.o,Y.o];simp[gM,af]
          exact Iy
       exact Qe
      .by_cases aQ:ab=1
       .subst aQ
        exact Qb
       .by_cases aR:ab=2
        .subst aR
         exact Qb
        .have bU:(ab == 0)=false:=by simpa using aP
         have bV:(ab == 1)=false:=by simpa using aQ
         have bW:(ab == 2)=false:=by simpa using aR
         cases aj
         .have M:Dk (Z=false):=by unfold Dk;rw[<-W.o,Y.o];simp[gM,aP,aQ,aR]
          exact Iy
         .have M:Dk (Z=false):=by unfold Dk;rw[<-W.o,Y.o];simp[gM,aP,aQ,aR]
          exact Iy
    case rest=>
     obtain⟨rfl,aO⟩:=hcut;cases Z
     .change _=Value.bool true at aO
      subst aO
      have p:Dk (c=false):=by
       unfold Dk;rw[<-P.o];exact zg J.o (by rw[K.o,W.o];simp)
      go_wp2_with fail;go_ret;exact⟨zC p.o.symm,H.alloc I _⟩
     .change _=Value.bool false at aO
      subst aO
      have af:(tc.length:Int)=aq:=by
       have Q:=Y.o;rw[W.o]at Q;have Q:=Q.symm;simp only[Dv,decide_eq_true_eq]at Q;exact Q.1.1.1.1
      subst af;have am:Dk (f1 V ab td tc.length=true):=W;clear W;obtain⟨k,rfl⟩:∃k,k=wr:=⟨_,rfl⟩
      clear Y aT aU aa a8;go_wp2_with fail
      go_loopw [12] (fun iv bN=>∃q:Nat,q<=tc.length/\iv=.int .i64 q/\zr (tc.take q) 100=true/\Below (k.heap.size+1) (k.alloc (.cells #[(V:Int),(ab:Int),td,(aF,tc.length,aH),(aw,tg.length,ax),(ak,th.length,ap)] 139)) bN) (fun iv _=>tc.length-(intOf iv).toNat)
      case atStart=>exact⟨0,Dw _,rfl,um _,D1 _ _⟩
      case round=>
       as_aux_lemma=>
        obtain⟨q,_,rfl,bf,aJ⟩:=hrel;have aS:=U bf;clear bf;have s:k.heap.size<wr.heap.size:=by have bP:k.heap.size+1<=wr.heap.size:=(by have:=aJ.size;simpa using this);omega
        have n:Cx k wr:=(Zb.alloc Zr _).trans (aJ.mono O);have R:B<=wr.heap.size:=O
        have aC:wr.heap[k.heap.size]?=some (.cells #[(V:Int),(ab:Int),td,(aF,tc.length,aH),(aw,tg.length,ax),(ak,th.length,ap)] 139 (0,0)):=(aJ.block _ O).trans (Dq k _);have b1:wr.cell? (k.heap.size,0)=some (.int .i64 V):=Kv
        have b2:wr.cell? (k.heap.size,3)=some (.slice aF tc.length aH):=Kv
        have b3:wr.cell? (k.heap.size,4)=some (.slice aw tg.length ax):=Kv
        have b4:wr.cell? (k.heap.size,5)=some (.slice ak th.length ap):=Kv
        clear aC bx bz bA bC bD bF;by_cases bJ:q<tc.length
        .obtain⟨⟨az,br,bo,bp,bc⟩,ai⟩:∃e,tc[q]?=some e:=⟨_,Dz bJ⟩
         obtain⟨aI,bq,v',rfl,bG,a7,bs,bt,bu,q4,aD⟩:=(a9.o.below (n.mono f) Zr).cells ai;obtain⟨_,_,rfl,_⟩:=aD.form;obtain⟨bw,bh⟩:=Cz (vA (.mk az br bo bp bc) 100);have bb:=U ai;have ba:=U aD;have aG:=U bh;have bH:aI<wr.heap.size:=O
         clear ai aD bh;cases bw
         .have p:Dk (c=false):=by
           unfold Dk;rw[<-P.o];exact zg J.o (by rw[K.o,vQ bb.o aG.o];simp)
          go_wp2_with (go_at_call 84;(with_reducible refine(A7 B _ _ _ _ _ _ _ _ _ aG.o R ba.o).mono ?_);rintro e X ⟨rfl,a6⟩);go_ret;exact⟨zC p.o.symm,H.trans ((n.trans (a6.mono (D5 s))).mono I)⟩
         .go_wp2_with (go_at_call 84;(with_reducible refine(A7 B _ _ _ _ _ _ _ _ _ aG.o R ba.o).mono ?_);rintro e X ⟨rfl,a6⟩)
          go_roundw
          case rel=>exact⟨q+1,O,by go_num,by rw[j7 bb.o,aS.o,aG.o];rfl,aJ.trans (a6.mono (Nat.succ_le_of_lt s))⟩
          case measure=>simp[intOf];omega
        .have al:Dk (zr tc 100=true):=by unfold Dk;rw[<-aS.o,D9 O]
         clear aS;obtain⟨an,E⟩:=Cz (d3 tg m');obtain⟨ao,bg⟩:=Cz (d3 th m');have F:=U E;have G:=U bg;clear E bg;by_cases ay:V=10
         .subst ay
          have bT:tc.length=1:=by have:=bv.o;simp[XH]at this;omega
          obtain⟨⟨az,br,bo,bp,bc⟩,ai⟩:∃e,tc[0]?=some e:=⟨_,Dz O⟩
          obtain⟨aI,bq,v',rfl,bG,a7,bs,bt,bu,q4,aD⟩:=(a9.o.below (n.mono f) Zr).cells ai
          have aA:Dk (uN tc=decide (az=7)):=by
           unfold Dk;cases tc with
           |nil=>simp at ai
           |cons a r=>simp at ai;subst ai;rfl
          have b5:wr.cell? (aI,bq)=some (.int .i64 az):=by simpa using a7
          have bH:aI<wr.heap.size:=O
          have bS:0<tc.length:=O
          clear ai aD a7 bs bt bu q4;by_cases aZ:az=7
          .subst aZ
           as_aux_lemma=>
            cases aB
            .by_cases ah:tg.length=0
             .have a5:¬0<tg.length:=by omega
              replace N:Dk (eN B k (.slice aw 0 ax) tg):=Ht
              cases au
              .by_cases ae:th.length=0
               .have av:¬0<th.length:=by omega
                replace L:Dk (eN B k (.slice ak 0 ap) th):=Kn
                cases an
                .have p:Dk (c=false):=by
                  unfold Dk;rw[<-P.o];exact zg J.o Xo
                 exact Iw
                .cases ao
                 .have p:Dk (c=false):=by
                   unfold Dk;rw[<-P.o];exact zg J.o Xp
                  exact Ix
                 .go_wp2_with (first
                   |(go_at_call 61;(with_reducible refine((t.o m' rfl).call B _ tg _ _ _ u.o x F.o R (N.o.below (n.mono f) Zr)).mono ?_);rintro e i ⟨rfl,d⟩;obtain⟨S,T⟩:=qT d;have b:Cx k i:=n.trans (d.mono (D5 s));have y:B<=i.heap.size:=(Dr f b.size))
                   |(go_at_call 61;(with_reducible refine((t.o m' rfl).call B _ th _ _ _ u.o x G.o y (L.o.below (b.mono f) Zr)).mono ?_);rintro e D ⟨rfl,C⟩;have E:Cx k D:=b.trans (C.mono (Dr (D5 s) d.size))))
                  go_roundw
                  case rel=>exact⟨j+1,O,by go_num,by rw[kf J.o,ag.o,K.o,am.o,ad.o,al.o,F.o,G.o,aA.o];simp[ah,ae],H.trans (E.mono I)⟩
                  case measure=>simp[intOf];omega
               exact Iz
              .cases an
               .have p:Dk (c=false):=by
                 unfold Dk;rw[<-P.o];exact zg J.o Xo
                exact Iw
               .cases ao
                .have p:Dk (c=false):=by
                  unfold Dk;rw[<-P.o];exact zg J.o Xp
                 exact Ix
                .go_wp2_with (first
                  |(go_at_call 61;(with_reducible refine((t.o m' rfl).call B _ tg _ _ _ u.o x F.o R (N.o.below (n.mono f) Zr)).mono ?_);rintro e i ⟨rfl,d⟩;obtain⟨S,T⟩:=qT d;have b:Cx k i:=n.trans (d.mono (D5 s));have y:B<=i.heap.size:=(Dr f b.size))
                  |(go_at_call 61;(with_reducible refine((t.o m' rfl).call B _ th _ _ _ u.o x G.o y (L.o.below (b.mono f) Zr)).mono ?_);rintro e D ⟨rfl,C⟩;have E:Cx k D:=b.trans (C.mono (Dr (D5 s) d.size))))
                 go_roundw
                 case rel=>exact⟨j+1,O,by go_num,by rw[kf J.o,ag.o,K.o,am.o,ad.o,al.o,F.o,G.o,aA.o];simp[ah],H.trans (E.mono I)⟩
                 case measure=>simp[intOf];omega
             exact Qc
            .cases au
             .by_cases ae:th.length=0
              .have av:¬0<th.length:=by omega
               replace L:Dk (eN B k (.slice ak 0 ap) th):=Kn
               cases an
               .have p:Dk (c=false):=by
                 unfold Dk;rw[<-P.o];exact zg J.o Xo
                exact Iw
               .cases ao
                .have p:Dk (c=false):=by
                  unfold Dk;rw[<-P.o];exact zg J.o Xp
                 exact Ix
                .go_wp2_with (first
                  |(go_at_call 61;(with_reducible refine((t.o m' rfl).call B _ tg _ _ _ u.o x F.o R (N.o.below (n.mono f) Zr)).mono ?_);rintro e i ⟨rfl,d⟩;obtain⟨S,T⟩:=qT d;have b:Cx k i:=n.trans (d.mono (D5 s));have y:B<=i.heap.size:=(Dr f b.size))
                  |(go_at_call 61;(with_reducible refine((t.o m' rfl).call B _ th _ _ _ u.o x G.o y (L.o.below (b.mono f) Zr)).mono ?_);rintro e D ⟨rfl,C⟩;have E:Cx k D:=b.trans (C.mono (Dr (D5 s) d.size))))
                 go_roundw
                 case rel=>exact⟨j+1,O,by go_num,by rw[kf J.o,ag.o,K.o,am.o,ad.o,al.o,F.o,G.o,aA.o];simp[ae],H.trans (E.mono I)⟩
                 case measure=>simp[intOf];omega
              exact Iz
             .cases an
              .have p:Dk (c=false):=by
                unfold Dk;rw[<-P.o];exact zg J.o Xo
               exact Iw
              .cases ao
               .have p:Dk (c=false):=by
                 unfold Dk;rw[<-P.o];exact zg J.o Xp
                exact Ix
               .go_wp2_with (first
                 |(go_at_call 61;(with_reducible refine((t.o m' rfl).call B _ tg _ _ _ u.o x F.o R (N.o.below (n.mono f) Zr)).mono ?_);rintro e i ⟨rfl,d⟩;obtain⟨S,T⟩:=qT d;have b:Cx k i:=n.trans (d.mono (D5 s));have y:B<=i.heap.size:=(Dr f b.size))
                 |(go_at_call 61;(with_reducible refine((t.o m' rfl).call B _ th _ _ _ u.o x G.o y (L.o.below (b.mono f) Zr)).mono ?_);rintro e D ⟨rfl,C⟩;have E:Cx k D:=b.trans (C.mono (Dr (D5 s) d.size))))
                go_roundw
                case rel=>exact⟨j+1,O,by go_num,by rw[kf J.o,ag.o,K.o,am.o,ad.o,al.o,F.o,G.o,aA.o];simp,H.trans (E.mono I)⟩
                case measure=>simp[intOf];omega
          .have b0:(az == 7)=false:=by simpa using aZ
           have p:Dk (c=false):=by
            unfold Dk;rw[<-P.o];exact zg J.o (by rw[K.o,ad.o,aA.o];simp[aZ])
           go_wp2_with fail;go_ret;exact⟨zC p.o.symm,H.trans (n.mono I)⟩
         .have bZ:(V == 10)=false:=by simpa using ay
          as_aux_lemma=>
           cases aB
           .by_cases ah:tg.length=0
            .have a5:¬0<tg.length:=by omega
             replace N:Dk (eN B k (.slice aw 0 ax) tg):=Ht
             cases au
             .by_cases ae:th.length=0
              .have av:¬0<th.length:=by omega
               replace L:Dk (eN B k (.slice ak 0 ap) th):=Kn
               cases an
               .have p:Dk (c=false):=by
                 unfold Dk;rw[<-P.o];exact zg J.o Xo
                exact Iw
               .cases ao
                .have p:Dk (c=false):=by
                  unfold Dk;rw[<-P.o];exact zg J.o Xp
                 exact Ix
                .go_wp2_with (first
                  |(go_at_call 61;(with_reducible refine((t.o m' rfl).call B _ tg _ _ _ u.o x F.o R (N.o.below (n.mono f) Zr)).mono ?_);rintro e i ⟨rfl,d⟩;obtain⟨S,T⟩:=qT d;have b:Cx k i:=n.trans (d.mono (D5 s));have y:B<=i.heap.size:=(Dr f b.size))
                  |(go_at_call 61;(with_reducible refine((t.o m' rfl).call B _ th _ _ _ u.o x G.o y (L.o.below (b.mono f) Zr)).mono ?_);rintro e D ⟨rfl,C⟩;have E:Cx k D:=b.trans (C.mono (Dr (D5 s) d.size))))
                 go_roundw
                 case rel=>exact⟨j+1,O,by go_num,by rw[kf J.o,ag.o,K.o,am.o,ad.o,al.o,F.o,G.o];simp[ay,ah,ae],H.trans (E.mono I)⟩
                 case measure=>simp[intOf];omega
              exact Iz
             .cases an
              .have p:Dk (c=false):=by
                unfold Dk;rw[<-P.o];exact zg J.o Xo
               exact Iw
              .cases ao
               .have p:Dk (c=false):=by
                 unfold Dk;rw[<-P.o];exact zg J.o Xp
                exact Ix
               .go_wp2_with (first
                 |(go_at_call 61;(with_reducible refine((t.o m' rfl).call B _ tg _ _ _ u.o x F.o R (N.o.below (n.mono f) Zr)).mono ?_);rintro e i ⟨rfl,d⟩;obtain⟨S,T⟩:=qT d;have b:Cx k i:=n.trans (d.mono (D5 s));have y:B<=i.heap.size:=(Dr f b.size))
                 |(go_at_call 61;(with_reducible refine((t.o m' rfl).call B _ th _ _ _ u.o x G.o y (L.o.below (b.mono f) Zr)).mono ?_);rintro e D ⟨rfl,C⟩;have E:Cx k D:=b.trans (C.mono (Dr (D5 s) d.size))))
                go_roundw
                case rel=>exact⟨j+1,O,by go_num,by rw[kf J.o,ag.o,K.o,am.o,ad.o,al.o,F.o,G.o];simp[ay,ah],H.trans (E.mono I)⟩
                case measure=>simp[intOf];omega
            exact Qc
           .cases au
            .by_cases ae:th.length=0
             .have av:¬0<th.length:=by omega
              replace L:Dk (eN B k (.slice ak 0 ap) th):=Kn
              cases an
              .have p:Dk (c=false):=by
                unfold Dk;rw[<-P.o];exact zg J.o Xo
               exact Iw
              .cases ao
               .have p:Dk (c=false):=by
                 unfold Dk;rw[<-P.o];exact zg J.o Xp
                exact Ix
               .go_wp2_with (first
                 |(go_at_call 61;(with_reducible refine((t.o m' rfl).call B _ tg _ _ _ u.o x F.o R (N.o.below (n.mono f) Zr)).mono ?_);rintro e i ⟨rfl,d⟩;obtain⟨S,T⟩:=qT d;have b:Cx k i:=n.trans (d.mono (D5 s));have y:B<=i.heap.size:=(Dr f b.size))
                 |(go_at_call 61;(with_reducible refine((t.o m' rfl).call B _ th _ _ _ u.o x G.o y (L.o.below (b.mono f) Zr)).mono ?_);rintro e D ⟨rfl,C⟩;have E:Cx k D:=b.trans (C.mono (Dr (D5 s) d.size))))
                go_roundw
                case rel=>exact⟨j+1,O,by go_num,by rw[kf J.o,ag.o,K.o,am.o,ad.o,al.o,F.o,G.o];simp[ay,ae],H.trans (E.mono I)⟩
                case measure=>simp[intOf];omega
             exact Iz
            .cases an
             .have p:Dk (c=false):=by
               unfold Dk;rw[<-P.o];exact zg J.o Xo
              exact Iw
             .cases ao
              .have p:Dk (c=false):=by
                unfold Dk;rw[<-P.o];exact zg J.o Xp
               exact Ix
              .go_wp2_with (first
                |(go_at_call 61;(with_reducible refine((t.o m' rfl).call B _ tg _ _ _ u.o x F.o R (N.o.below (n.mono f) Zr)).mono ?_);rintro e i ⟨rfl,d⟩;obtain⟨S,T⟩:=qT d;have b:Cx k i:=n.trans (d.mono (D5 s));have y:B<=i.heap.size:=(Dr f b.size))
                |(go_at_call 61;(with_reducible refine((t.o m' rfl).call B _ th _ _ _ u.o x G.o y (L.o.below (b.mono f) Zr)).mono ?_);rintro e D ⟨rfl,C⟩;have E:Cx k D:=b.trans (C.mono (Dr (D5 s) d.size))))
               go_roundw
               case rel=>exact⟨j+1,O,by go_num,by rw[kf J.o,ag.o,K.o,am.o,ad.o,al.o,F.o,G.o];simp[ay],H.trans (E.mono I)⟩
               case measure=>simp[intOf];omega
  .go_wp2_with fail
   go_ret;refine⟨zC ?_,H⟩;rw[<-P.o,<-ag.o,D9 O]
theorem tK:∀m,RsC m
 |0=>pK 0 (fun _ h=>O)
 | m+1=>pK (m+1) (fun m' h=>by
    obtain rfl:m'=m:=O
    exact tK m')
theorem tL(B:Nat)(l:List St)(b:Bool)(c:d3 l 100=b)(v:C4)(w:C3)(a:B<=w.heap.size)(d:eN B w v l):
 Cy 61 #[v,(100:Int)] w (Cv b w):=(tK 100).call B _ l b v w rfl O c a d
theorem vd(t:Int)(b:Bool)(h:gM t=b)(w:C3):Cy 60 #[(t:Int)] w (Cw b w):=by
 subst h;go_enter func60,ntmps60;go_wp2_with fail
 all_goals go_ret
 all_goals refine⟨zC ?_,rfl⟩
 all_goals go_light
 all_goals(unfold gM;rw[Yg];simp_all)
theorem fX(B:Nat)(p:Pr)(c:Bool)(ax:eK p=c)(v v':C4)(w:C3)(ar:B<=w.heap.size)(V:eZ B w v p.wa)(Y:e0 B w v' p.funcs):
 Cy 28 #[.agg #[v,v']] w (Cv c w):=by
 obtain⟨t,z,rfl,_⟩:=V.form;obtain⟨u,A,rfl,_⟩:=Y.form;have aA:=U V;have aC:=U Y;have y:=U ax
 have ai:∀wr,Below (w.heap.size+1) (w.alloc (.cells #[(t,p.wa.length,z),(u,p.funcs.length,A)] 27)) wr->wr.cell? (w.heap.size,0)=some (.slice t p.wa.length z)/\wr.cell? (w.heap.size,1)=some (.slice u p.funcs.length A):=fun wr C=>by
  have E:wr.heap[w.heap.size]?=some (.cells #[(t,p.wa.length,z),(u,p.funcs.length,A)] 27 (0,0)):=(C.block _ O).trans (Dq w _);exact⟨by rw[Ds E];rfl,by rw[Ds E];rfl⟩
 have ah:=U ai;clear V Y ax ai;go_enter func28,ntmps28;go_wp2_with fail
 go_loopw [3] (fun iv wr=>∃j:Nat,j<=p.wa.length/\iv=.int .i64 j/\(p.wa.take j).all ud=true/\Below (w.heap.size+1) (w.alloc (.cells #[(t,p.wa.length,z),(u,p.funcs.length,A)] 27)) wr) (fun iv _=>p.wa.length-(intOf iv).toNat)
 case atStart=>exact⟨0,Dw _,rfl,rfl,D1 _ _⟩
 case round=>
  obtain⟨j,_,rfl,au,D⟩:=hrel;have N:=U au;clear au;have a3:w.heap.size+1<=wr.heap.size:=by have:=D.size;simpa using this
  have L:Cx w wr:=(Zb.alloc Zr _).trans (D.mono O);have aY:B<=wr.heap.size:=O
  have a0:w.heap.size<wr.heap.size:=O
  obtain⟨_,_⟩:=ah.o wr D;by_cases aO:j<p.wa.length
  .obtain⟨x,n⟩:∃e,p.wa[j]?=some e:=⟨_,Dz aO⟩
   obtain⟨g,o,rfl,aL,aR,aS⟩:=(aA.o.below (L.mono ar) Zr).cells n;have m:=U n;have aM:g<wr.heap.size:=O
   obtain⟨H,s⟩:=Cz (uH x.name);have b:=U s;clear n s;cases H
   .go_wp2_with (go_at_call 50;(with_reducible refine(qo x.name _ b.o _).mono ?_);rintro e a ⟨rfl,rfl⟩)
    go_ret;exact⟨zC (by rw[<-y.o];unfold eK;rw[yH ud m.o (by unfold ud;rw[b.o];rfl)];rfl),L⟩
   .by_cases aV:x.size<1
    .go_wp2_with (go_at_call 50;(with_reducible refine(qo x.name _ b.o _).mono ?_);rintro e a ⟨rfl,rfl⟩)
     exact Qd
    .by_cases aW:1000<x.size
     .go_wp2_with (go_at_call 50;(with_reducible refine(qo x.name _ b.o _).mono ?_);rintro e a ⟨rfl,rfl⟩)
      exact Qd
     .have aF:Dk (ud x=true):=by unfold Dk ud;rw[b.o];simp;omega
      go_wp2_with (go_at_call 50;(with_reducible refine(qo x.name _ b.o _).mono ?_);rintro e a ⟨rfl,rfl⟩);go_roundw
      case rel=>exact⟨j+1,O,by go_num,by rw[vZ ud m.o,N.o,aF.o];rfl,D⟩
      case measure=>simp[intOf];omega
  .have aB:Dk (p.wa.all ud=true):=by unfold Dk;rw[<-N.o,D9 O]
   clear N;go_wp2_with fail
   go_loopw [4] (fun iv aU=>∃j:Nat,j<=p.funcs.length/\iv=.int .i64 j/\(p.funcs.take j).all xr=true/\Below (w.heap.size+1) (w.alloc (.cells #[(t,p.wa.length,z),(u,p.funcs.length,A)] 27)) aU) (fun iv _=>p.funcs.length-(intOf iv).toNat)
   case atStart=>exact⟨0,Dw _,rfl,rfl,D⟩
   case round=>
    obtain⟨ad,_,rfl,av,J⟩:=hrel;have af:=U av;clear av;have aQ:w.heap.size+1<=wr.heap.size:=Ko
    have i:Cx w wr:=(Zb.alloc Zr _).trans (J.mono O);have T:B<=wr.heap.size:=O
    have a1:w.heap.size<wr.heap.size:=O
    obtain⟨_,_⟩:=ah.o wr J;by_cases aP:ad<p.funcs.length
    .obtain⟨x,n⟩:∃e,p.funcs[ad]?=some e:=⟨_,Dz aP⟩
     obtain⟨g,o,_,_,rfl,aL,aR,aS,_,_,Z,C⟩:=(aC.o.below (i.mono ar) Zr).cells n;obtain⟨M,S,rfl,_⟩:=Z.form;obtain⟨ae,ap,rfl,_⟩:=C.form;have m:=U n;have aG:=U Z;have aj:=U C;have aM:g<wr.heap.size:=O
     obtain⟨H,s⟩:=Cz (uH x.name);obtain⟨al,W⟩:=Cz (gM x.type);obtain⟨am,X⟩:=Cz (d3 x.body 100);have l:Dk (xr x=(H&&al&&decide (x.params.length<=8)&&x.params.all vk&&am)):=by unfold Dk xr;rw[s,W,X]
     have b:=U s;have G:=U W;have ak:=U X;clear n s W X Z C;have r:Dk (xr x=false->c=false):=fun aJ=>by rw[<-y.o];unfold eK;rw[yH xr m.o aJ];simp
     cases H
     .have d:Dk (c=false):=r.o (by rw[l.o];rfl)
      go_wp2_with (go_at_call 50;(with_reducible refine(qo x.name _ b.o _).mono ?_);rintro e a ⟨rfl,rfl⟩);go_ret;exact⟨zC d.o.symm,i.alloc O _⟩
     .cases al
      .have d:Dk (c=false):=r.o (by rw[l.o];rfl)
       exact Qa
      .by_cases aq:x.params.length<=8
       .have aK:¬8<x.params.length:=by omega
        cases am
        .have d:Dk (c=false):=r.o (by rw[l.o];simp)
         go_wp2_with (first
          |(go_at_call 50;(with_reducible refine(qo x.name _ b.o _).mono ?_);rintro e a ⟨rfl,rfl⟩)
          |(go_at_call 60;(with_reducible refine(vd x.type _ G.o _).mono ?_);rintro e a ⟨rfl,rfl⟩)
          |(go_at_call 61;(with_reducible refine(tL B x.body _ ak.o _ _ Uq (aj.o.below (Zb.alloc T _) Zr)).mono ?_);rintro e a ⟨rfl,aa⟩))
         go_ret;exact⟨zC d.o.symm,(i.alloc O _).trans (aa.mono Uq)⟩
        .go_wp2_with (first
          |(go_at_call 50;(with_reducible refine(qo x.name _ b.o _).mono ?_);rintro e a ⟨rfl,rfl⟩)
          |(go_at_call 60;(with_reducible refine(vd x.type _ G.o _).mono ?_);rintro e a ⟨rfl,rfl⟩)
          |(go_at_call 61;(with_reducible refine(tL B x.body _ ak.o _ _ Uq (aj.o.below (Zb.alloc T _) Zr)).mono ?_);rintro e a ⟨rfl,aa⟩))
         obtain⟨f,rfl⟩:∃f,f=wr:=⟨_,rfl⟩
         go_loopw [6] (fun iv aT=>∃q:Nat,q<=x.params.length/\iv=.int .i64 q/\(x.params.take q).all vk=true/\Below (f.heap.size+1) (f.alloc (.cells #[x.name,(x.type:Int),(M,x.params.length,S),(ae,x.body.length,ap)] 93)) aT) (fun iv _=>x.params.length-(intOf iv).toNat)
         case atStart=>exact⟨0,Dw _,rfl,rfl,aa.mono Ur⟩
         case round=>
          obtain⟨q,_,rfl,aw,I⟩:=hrel;have ag:=U aw;clear aw;have a2:f.heap.size<wr.heap.size:=by have aX:f.heap.size+1<=wr.heap.size:=(by have:=I.size;simpa using this);omega
          have K:Cx f wr:=(Zb.alloc Zr _).trans (I.mono O);have E:wr.heap[f.heap.size]?=some (.cells #[x.name,(x.type:Int),(M,x.params.length,S),(ae,x.body.length,ap)] 93 (0,0)):=(I.block _ O).trans (Dq f _);have a4:wr.cell? (f.heap.size,2)=some (.slice M x.params.length S):=by rw[Ds E];rfl
          clear E;by_cases aN:q<x.params.length
          .obtain⟨k,ab⟩:∃e,x.params[q]?=some e:=⟨_,Dz aN⟩
           obtain⟨aI,_,rfl,_,_,_⟩:=(aG.o.below (K.mono T) Zr).cells ab;have R:=U ab;have aZ:aI<wr.heap.size:=O
           obtain⟨an,ay⟩:=Cz (uH k.name);obtain⟨ao,az⟩:=Cz (gM k.type);have F:=U ay;have Q:=U az;clear ab ay az;have P:Dk (vk k=(an&&ao)):=by unfold Dk vk;rw[F.o,Q.o]
           cases an
           .have d:Dk (c=false):=r.o Hk
            go_wp2_with (go_at_call 50;(with_reducible refine(qo k.name _ F.o _).mono ?_);rintro e a ⟨rfl,rfl⟩);go_ret;exact⟨zC d.o.symm,i.trans (K.mono O)⟩
           .cases ao
            .have d:Dk (c=false):=r.o Hk
             go_wp2_with (first
              |(go_at_call 50;(with_reducible refine(qo k.name _ F.o _).mono ?_);rintro e a ⟨rfl,rfl⟩)
              |(go_at_call 60;(with_reducible refine(vd k.type _ Q.o _).mono ?_);rintro e a ⟨rfl,rfl⟩))
             go_ret;exact⟨zC d.o.symm,i.trans (K.mono O)⟩
            .go_wp2_with (first
              |(go_at_call 50;(with_reducible refine(qo k.name _ F.o _).mono ?_);rintro e a ⟨rfl,rfl⟩)
              |(go_at_call 60;(with_reducible refine(vd k.type _ Q.o _).mono ?_);rintro e a ⟨rfl,rfl⟩))
             go_roundw
             case rel=>exact⟨q+1,O,by go_num,by rw[vZ vk R.o,ag.o,P.o];rfl,I⟩
             case measure=>simp[intOf];omega
          .have aH:Dk (x.params.all vk=true):=by unfold Dk;rw[<-ag.o,D9 O]
           have aE:Dk (xr x=true):=by unfold Dk;rw[l.o,aH.o];simp[aq]
           go_wp2_with fail;go_roundw
           case rel=>exact⟨ad+1,O,by go_num,by rw[vZ xr m.o,af.o,aE.o];rfl,J.trans (K.mono aQ)⟩
           case measure=>simp[intOf];omega
       .have aK:8<x.params.length:=by omega
        have d:Dk (c=false):=r.o (by rw[l.o];simp[aq]);exact Qa
    .have aD:Dk (p.funcs.all xr=true):=by unfold Dk;rw[<-af.o,D9 O]
     go_wp2_with fail;go_ret;exact⟨zC (by rw[<-y.o];unfold eK;rw[aB.o,aD.o];rfl),i⟩
