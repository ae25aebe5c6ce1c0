import Derived.Test.YthcmenajdcbnnaaGreatDoorAnTySt
set_option linter.unusedSimpArgs false
set_option linter.unusedVariables false
set_option maxRecDepth 100000
set_option maxHeartbeats 99000000
namespace Go.Proofs.YthcmenajdcbnnaaGreatDoor
open Go.RowKit Tryz
theorem Oz{p:Prop}(h:p:=by
 have aG:=U ba;clear ba;by_cases a8:be=0
 case neg=>
  go_wp2_with (first
   | (go_at_call 109;(with_reducible refine(jy B C b p (tf++new) ty td tc _ _ _ _ _ _ _ _ _ _ _ _ ft (eH x) _ _ _ aR.o aQ.o aP.o aN.o aT.o aS.o V.o).mono ?_);rintro e d ⟨rfl,i⟩
      have a:Cx wr d:=aY.o.trans (i.mono Ut);have av:=zV ((i.block wr.heap.size Ut).trans (Dq wr _));obtain⟨ae,af,ag,ah,ai,aj⟩:=av;have aq:=U ((i.block wr.heap.size Ut).trans (Dq wr (qj 1 ty td (.slice M tc.length N) (.slice y tg.length D) (.slice z th.length E))));have a5:wr.heap.size<d.heap.size:=Xn
      have u:=U (Do (aK.o.trans ((dX.wb a I).mono a0)) ((a.block b I).trans ak.o));obtain⟨⟨Y,Z,aa,ab⟩,ad⟩:=zM ((a.block b I).trans ak.o);have a3:b<d.heap.size:=O
      have K:=U ((aW.o.below a).up a.size);have X:=U (aX.o.keep (w':=d) fun g W _=>a.block g O);have ap:=U (G.o.below a);have a2:=U a;have H:=C0 (mC B C b p (tf++new) (.slice aB p.wa.length aD) (.slice aC p.funcs.length aE) (.pointer aM) ft x w wr.heap.size (qj 1 ty td (.slice M tc.length N) (.slice y tg.length D) (.slice z th.length E)) tg th (.slice y tg.length D) (.slice z th.length E) (.pointer q) new d) ⟨u.o.1,u.o.2,ap.o,aq.o,aU.o.below (a.mono G.o.hB) Zr,aV.o.below (a.mono G.o.hB) Zr,K.o,O,L,Q,aZ⟩
      clear a i)
   | (go_at_call 110;(with_reducible refine(xD _ w.heap.size _ _ _ _ td Zr X.o K.o).mono ?_);rintro e w9 ⟨au,rfl⟩
      have a4:e=.returned (.pointer none):=by
       rw[bi.o]at au;exact au
      clear au
      subst a4)
   | (go_at_call 89
      have an:Cx d (d.alloc (.cells #[td,(ty:Int)] 100)):=Zb.alloc Zr _
      (with_reducible refine(yp (d.alloc (.cells #[td,(ty:Int)] 100)) w.heap.size d.heap.size (d.heap.size+1) (.pointer q) _ new.reverse [⟨td,ty⟩] _ Ut Ut (X.o.keep fun g W _=>an.block g Vc) Ji (K.o.below an) (iF (Dq d _) O)).mono ?_)
      rintro e T ⟨v',rfl,am,aH⟩;have az:Cx d T:=an.trans (aH.mono Ut);have aJ:=X.o.keep (w':=T) fun g W _=>az.block g Vc
      obtain⟨bc,rfl⟩:=(am.fin aJ).form;have f:=H.o.below az;have al:=C0 (mC B C b p (tf++(new++[⟨td,ty⟩])) (.slice aB p.wa.length aD) (.slice aC p.funcs.length aE) (.pointer bc) ft x w wr.heap.size (qj 1 ty td (.slice M tc.length N) (.slice y tg.length D) (.slice z th.length E)) tg th (.slice y tg.length D) (.slice z th.length E) (.pointer q) (new++[⟨td,ty⟩]) T) ⟨f.off,f.row,⟨f.env.hB,f.env.hC,f.env.ha,f.env.hf,Ky⟩,f.box,f.s4,f.s5,Gr,f.ne,f.hB,f.hC,f.hb⟩;obtain⟨⟨Y,Z,aa,ab⟩,ad⟩:=zM f.row;obtain⟨ae,af,ag,ah,ai,aj⟩:=zV f.box;have bp:wr.heap.size<T.heap.size:=zB f.box;have bn:b<T.heap.size:=zB f.row
      clear an am aH az aJ f)
   | (go_at_call 88
      (with_reducible refine(aF.o.call a6.o V.o ar.o (al.o.set).env L Q (al.o.set).row (al.o.set).s4).mono ?_)
      rintro e aA ⟨rfl,S,P⟩;have s:=(al.o.set).step S P;obtain⟨⟨Y,Z,aa,ab⟩,ad⟩:=zM s.row;obtain⟨ae,af,ag,ah,ai,aj⟩:=zV s.box;have bb:wr.heap.size<aA.heap.size:=zB s.box;have F:=U s
      clear S P s)
   | (go_at_call 88
      (with_reducible refine(aF.o.call bh.o V.o aG.o F.o.env L Q F.o.row F.o.s5).mono ?_)
      rintro e bk ⟨rfl,ay,ax⟩;have ao:=U (F.o.step ay ax)
      clear ay ax))
  go_ret;have J:=uS (p:=p) (r:=l.drop (j+1)) (n:=x) (n1:=n2) (R:=(be,aL)) a1.o Vf Ks a8;rw[aO.o]at J;subst J;exact⟨rfl,ao.o.off,ao.o.row⟩
 case pos=>
  subst a8
  go_wp2_with (first
   | (go_at_call 109;(with_reducible refine(jy B C b p (tf++new) ty td tc _ _ _ _ _ _ _ _ _ _ _ _ ft (eH x) _ _ _ aR.o aQ.o aP.o aN.o aT.o aS.o V.o).mono ?_);rintro e d ⟨rfl,i⟩
      have a:Cx wr d:=aY.o.trans (i.mono Ut);have av:=zV ((i.block wr.heap.size Ut).trans (Dq wr _));obtain⟨ae,af,ag,ah,ai,aj⟩:=av;have aq:=U ((i.block wr.heap.size Ut).trans (Dq wr (qj 1 ty td (.slice M tc.length N) (.slice y tg.length D) (.slice z th.length E))));have a5:wr.heap.size<d.heap.size:=Xn
      have u:=U (Do (aK.o.trans ((dX.wb a I).mono a0)) ((a.block b I).trans ak.o));obtain⟨⟨Y,Z,aa,ab⟩,ad⟩:=zM ((a.block b I).trans ak.o);have a3:b<d.heap.size:=O
      have K:=U ((aW.o.below a).up a.size);have X:=U (aX.o.keep (w':=d) fun g W _=>a.block g O);have ap:=U (G.o.below a);have a2:=U a;have H:=C0 (mC B C b p (tf++new) (.slice aB p.wa.length aD) (.slice aC p.funcs.length aE) (.pointer aM) ft x w wr.heap.size (qj 1 ty td (.slice M tc.length N) (.slice y tg.length D) (.slice z th.length E)) tg th (.slice y tg.length D) (.slice z th.length E) (.pointer q) new d) ⟨u.o.1,u.o.2,ap.o,aq.o,aU.o.below (a.mono G.o.hB) Zr,aV.o.below (a.mono G.o.hB) Zr,K.o,O,L,Q,aZ⟩
      clear a i)
   | (go_at_call 110;(with_reducible refine(xD _ w.heap.size _ _ _ _ td Zr X.o K.o).mono ?_);rintro e w9 ⟨au,rfl⟩
      have a4:e=.returned (.pointer none):=by
       rw[bi.o]at au;exact au
      clear au
      subst a4)
   | (go_at_call 89
      have an:Cx d (d.alloc (.cells #[td,(ty:Int)] 100)):=Zb.alloc Zr _
      (with_reducible refine(yp (d.alloc (.cells #[td,(ty:Int)] 100)) w.heap.size d.heap.size (d.heap.size+1) (.pointer q) _ new.reverse [⟨td,ty⟩] _ Ut Ut (X.o.keep fun g W _=>an.block g Vc) Ji (K.o.below an) (iF (Dq d _) O)).mono ?_)
      rintro e T ⟨v',rfl,am,aH⟩;have az:Cx d T:=an.trans (aH.mono Ut);have aJ:=X.o.keep (w':=T) fun g W _=>az.block g Vc
      obtain⟨bc,rfl⟩:=(am.fin aJ).form;have f:=H.o.below az;have al:=C0 (mC B C b p (tf++(new++[⟨td,ty⟩])) (.slice aB p.wa.length aD) (.slice aC p.funcs.length aE) (.pointer bc) ft x w wr.heap.size (qj 1 ty td (.slice M tc.length N) (.slice y tg.length D) (.slice z th.length E)) tg th (.slice y tg.length D) (.slice z th.length E) (.pointer q) (new++[⟨td,ty⟩]) T) ⟨f.off,f.row,⟨f.env.hB,f.env.hC,f.env.ha,f.env.hf,Ky⟩,f.box,f.s4,f.s5,Gr,f.ne,f.hB,f.hC,f.hb⟩;obtain⟨⟨Y,Z,aa,ab⟩,ad⟩:=zM f.row;obtain⟨ae,af,ag,ah,ai,aj⟩:=zV f.box;have bp:wr.heap.size<T.heap.size:=zB f.box;have bn:b<T.heap.size:=zB f.row
      clear an am aH az aJ f)
   | (go_at_call 88
      (with_reducible refine(aF.o.call a6.o V.o ar.o (al.o.set).env L Q (al.o.set).row (al.o.set).s4).mono ?_)
      rintro e aA ⟨rfl,S,P⟩;have s:=(al.o.set).step S P;obtain⟨⟨Y,Z,aa,ab⟩,ad⟩:=zM s.row;obtain⟨ae,af,ag,ah,ai,aj⟩:=zV s.box;have bb:wr.heap.size<aA.heap.size:=zB s.box;have F:=U s
      clear S P s)
   | (go_at_call 88
      (with_reducible refine(aF.o.call bh.o V.o aG.o F.o.env L Q F.o.row F.o.s5).mono ?_)
      rintro e bk ⟨rfl,ay,ax⟩;have ao:=U (F.o.step ay ax)
      clear ay ax))
  go_roundw
  case rel=>
   have J:=gZ (p:=p) (r:=l.drop (j+1)) (n:=x) (n1:=n2) (n2:=aL) a1.o Vf Ks;rw[aO.o,aw.o]at J;exact⟨j+1,aL,new++[(⟨td,ty⟩:Pa)],O,by go_num,J.symm,ao.o.seg,ao.o.off,ao.o.row⟩
  case measure=>simp[intOf];omega):p:=h
theorem Ia{p:Prop}(h:p:=by
 have aG:=U ba;clear ba;by_cases a8:be=0
 case neg=>
  go_wp2_with (first
   | (go_at_call 109;(with_reducible refine(jy B C b p (tf++new) ty td tc _ _ _ _ _ _ _ _ _ _ _ _ ft (eH x) _ _ _ aR.o aQ.o aP.o aN.o aT.o aS.o V.o).mono ?_);rintro e d ⟨rfl,i⟩
      have a:Cx wr d:=aY.o.trans (i.mono Ut);have av:=zV ((i.block wr.heap.size Ut).trans (Dq wr _));obtain⟨ae,af,ag,ah,ai,aj⟩:=av;have aq:=U ((i.block wr.heap.size Ut).trans (Dq wr (qj k ty td (.slice M tc.length N) (.slice y tg.length D) (.slice z th.length E))));have a5:wr.heap.size<d.heap.size:=Xn
      have u:=U (Do (aK.o.trans ((dX.wb a I).mono a0)) ((a.block b I).trans ak.o));obtain⟨⟨Y,Z,aa,ab⟩,ad⟩:=zM ((a.block b I).trans ak.o);have a3:b<d.heap.size:=O
      have K:=U ((aW.o.below a).up a.size);have X:=U (aX.o.keep (w':=d) fun g W _=>a.block g O);have ap:=U (G.o.below a);have a2:=U a;have H:=C0 (mC B C b p (tf++new) (.slice aB p.wa.length aD) (.slice aC p.funcs.length aE) (.pointer aM) ft x w wr.heap.size (qj k ty td (.slice M tc.length N) (.slice y tg.length D) (.slice z th.length E)) tg th (.slice y tg.length D) (.slice z th.length E) (.pointer q) new d) ⟨u.o.1,u.o.2,ap.o,aq.o,aU.o.below (a.mono G.o.hB) Zr,aV.o.below (a.mono G.o.hB) Zr,K.o,O,L,Q,aZ⟩
      clear a i)
   | (go_at_call 88
      (with_reducible refine(aF.o.call a6.o V.o ar.o (H.o.set).env L Q (H.o.set).row (H.o.set).s4).mono ?_)
      rintro e aA ⟨rfl,S,P⟩;have s:=(H.o.set).step S P;obtain⟨⟨Y,Z,aa,ab⟩,ad⟩:=zM s.row;obtain⟨ae,af,ag,ah,ai,aj⟩:=zV s.box;have bb:wr.heap.size<aA.heap.size:=zB s.box;have F:=U s
      clear S P s)
   | (go_at_call 88
      (with_reducible refine(aF.o.call bh.o V.o aG.o F.o.env L Q F.o.row F.o.s5).mono ?_)
      rintro e bk ⟨rfl,ay,ax⟩;have ao:=U (F.o.step ay ax)
      clear ay ax))
  go_ret;have J:=uS (p:=p) (r:=l.drop (j+1)) (n:=x) (n1:=n2) (R:=(be,aL)) a1.o Vf Ks a8;rw[aO.o]at J;subst J;exact⟨rfl,ao.o.off,ao.o.row⟩
 case pos=>
  subst a8
  go_wp2_with (first
   | (go_at_call 109;(with_reducible refine(jy B C b p (tf++new) ty td tc _ _ _ _ _ _ _ _ _ _ _ _ ft (eH x) _ _ _ aR.o aQ.o aP.o aN.o aT.o aS.o V.o).mono ?_);rintro e d ⟨rfl,i⟩
      have a:Cx wr d:=aY.o.trans (i.mono Ut);have av:=zV ((i.block wr.heap.size Ut).trans (Dq wr _));obtain⟨ae,af,ag,ah,ai,aj⟩:=av;have aq:=U ((i.block wr.heap.size Ut).trans (Dq wr (qj k ty td (.slice M tc.length N) (.slice y tg.length D) (.slice z th.length E))));have a5:wr.heap.size<d.heap.size:=Xn
      have u:=U (Do (aK.o.trans ((dX.wb a I).mono a0)) ((a.block b I).trans ak.o));obtain⟨⟨Y,Z,aa,ab⟩,ad⟩:=zM ((a.block b I).trans ak.o);have a3:b<d.heap.size:=O
      have K:=U ((aW.o.below a).up a.size);have X:=U (aX.o.keep (w':=d) fun g W _=>a.block g O);have ap:=U (G.o.below a);have a2:=U a;have H:=C0 (mC B C b p (tf++new) (.slice aB p.wa.length aD) (.slice aC p.funcs.length aE) (.pointer aM) ft x w wr.heap.size (qj k ty td (.slice M tc.length N) (.slice y tg.length D) (.slice z th.length E)) tg th (.slice y tg.length D) (.slice z th.length E) (.pointer q) new d) ⟨u.o.1,u.o.2,ap.o,aq.o,aU.o.below (a.mono G.o.hB) Zr,aV.o.below (a.mono G.o.hB) Zr,K.o,O,L,Q,aZ⟩
      clear a i)
   | (go_at_call 88
      (with_reducible refine(aF.o.call a6.o V.o ar.o (H.o.set).env L Q (H.o.set).row (H.o.set).s4).mono ?_)
      rintro e aA ⟨rfl,S,P⟩;have s:=(H.o.set).step S P;obtain⟨⟨Y,Z,aa,ab⟩,ad⟩:=zM s.row;obtain⟨ae,af,ag,ah,ai,aj⟩:=zV s.box;have bb:wr.heap.size<aA.heap.size:=zB s.box;have F:=U s
      clear S P s)
   | (go_at_call 88
      (with_reducible refine(aF.o.call bh.o V.o aG.o F.o.env L Q F.o.row F.o.s5).mono ?_)
      rintro e bk ⟨rfl,ay,ax⟩;have ao:=U (F.o.step ay ax)
      clear ay ax))
  go_roundw
  case rel=>
   have J:=gZ (p:=p) (r:=l.drop (j+1)) (n:=x) (n1:=n2) (n2:=aL) a1.o Vf Ks;rw[aO.o,aw.o]at J;exact⟨j+1,aL,new,O,by go_num,J.symm,ao.o.seg,ao.o.off,ao.o.row⟩
  case measure=>simp[intOf];omega):p:=h
theorem Ib{p:Prop}(h:p:=by
 go_wp2_with (first
  | (go_at_call 109;(with_reducible refine(jy B C b p (tf++new) ty td tc _ _ _ _ _ _ _ _ _ _ _ _ ft (eH x) _ _ _ aR.o aQ.o aP.o aN.o aT.o aS.o V.o).mono ?_);rintro e d ⟨rfl,i⟩
     have a:Cx wr d:=aY.o.trans (i.mono Ut);have av:=zV ((i.block wr.heap.size Ut).trans (Dq wr _));obtain⟨ae,af,ag,ah,ai,aj⟩:=av;have aq:=U ((i.block wr.heap.size Ut).trans (Dq wr (qj 1 ty td (.slice M tc.length N) (.slice y tg.length D) (.slice z th.length E))));have a5:wr.heap.size<d.heap.size:=Xn
     have u:=U (Do (aK.o.trans ((dX.wb a I).mono a0)) ((a.block b I).trans ak.o));obtain⟨⟨Y,Z,aa,ab⟩,ad⟩:=zM ((a.block b I).trans ak.o);have a3:b<d.heap.size:=O
     have K:=U ((aW.o.below a).up a.size);have X:=U (aX.o.keep (w':=d) fun g W _=>a.block g O);have ap:=U (G.o.below a);have a2:=U a;have H:=C0 (mC B C b p (tf++new) (.slice aB p.wa.length aD) (.slice aC p.funcs.length aE) (.pointer aM) ft x w wr.heap.size (qj 1 ty td (.slice M tc.length N) (.slice y tg.length D) (.slice z th.length E)) tg th (.slice y tg.length D) (.slice z th.length E) (.pointer q) new d) ⟨u.o.1,u.o.2,ap.o,aq.o,aU.o.below (a.mono G.o.hB) Zr,aV.o.below (a.mono G.o.hB) Zr,K.o,O,L,Q,aZ⟩
     clear a i)
  | (go_at_call 110;(with_reducible refine(xD _ w.heap.size _ _ _ _ td Zr X.o K.o).mono ?_);rintro e w9 ⟨au,rfl⟩
     have a4:e=.returned (.pointer none):=by
      rw[bi.o]at au;exact au
     clear au
     subst a4)
  | (go_at_call 89
     have an:Cx d (d.alloc (.cells #[td,(ty:Int)] 100)):=Zb.alloc Zr _
     (with_reducible refine(yp (d.alloc (.cells #[td,(ty:Int)] 100)) w.heap.size d.heap.size (d.heap.size+1) (.pointer q) _ new.reverse [⟨td,ty⟩] _ Ut Ut (X.o.keep fun g W _=>an.block g Vc) Ji (K.o.below an) (iF (Dq d _) O)).mono ?_)
     rintro e T ⟨v',rfl,am,aH⟩;have az:Cx d T:=an.trans (aH.mono Ut);have aJ:=X.o.keep (w':=T) fun g W _=>az.block g Vc
     obtain⟨bc,rfl⟩:=(am.fin aJ).form;have f:=H.o.below az;have al:=C0 (mC B C b p (tf++(new++[⟨td,ty⟩])) (.slice aB p.wa.length aD) (.slice aC p.funcs.length aE) (.pointer bc) ft x w wr.heap.size (qj 1 ty td (.slice M tc.length N) (.slice y tg.length D) (.slice z th.length E)) tg th (.slice y tg.length D) (.slice z th.length E) (.pointer q) (new++[⟨td,ty⟩]) T) ⟨f.off,f.row,⟨f.env.hB,f.env.hC,f.env.ha,f.env.hf,Ky⟩,f.box,f.s4,f.s5,Gr,f.ne,f.hB,f.hC,f.hb⟩;obtain⟨⟨Y,Z,aa,ab⟩,ad⟩:=zM f.row;obtain⟨ae,af,ag,ah,ai,aj⟩:=zV f.box;have bp:wr.heap.size<T.heap.size:=zB f.box;have bn:b<T.heap.size:=zB f.row
     clear an am aH az aJ f)
  | (go_at_call 88
     (with_reducible refine(aF.o.call a6.o V.o ar.o (al.o.set).env L Q (al.o.set).row (al.o.set).s4).mono ?_)
     rintro e aA ⟨rfl,S,P⟩;have s:=(al.o.set).step S P;obtain⟨⟨Y,Z,aa,ab⟩,ad⟩:=zM s.row;obtain⟨ae,af,ag,ah,ai,aj⟩:=zV s.box;have bb:wr.heap.size<aA.heap.size:=zB s.box;have F:=U s
     clear S P s))
 go_ret;have J:=uR (p:=p) (r:=l.drop (j+1)) (th:=th) (n:=x) (R:=(bd,n2)) a1.o Vf a7;rw[aO.o]at J;subst J
 exact⟨rfl,F.o.off,F.o.row⟩):p:=h
theorem Ic{p:Prop}(h:p:=by
 go_wp2_with (first
  | (go_at_call 109;(with_reducible refine(jy B C b p (tf++new) ty td tc _ _ _ _ _ _ _ _ _ _ _ _ ft (eH x) _ _ _ aR.o aQ.o aP.o aN.o aT.o aS.o V.o).mono ?_);rintro e d ⟨rfl,i⟩
     have a:Cx wr d:=aY.o.trans (i.mono Ut);have av:=zV ((i.block wr.heap.size Ut).trans (Dq wr _));obtain⟨ae,af,ag,ah,ai,aj⟩:=av;have aq:=U ((i.block wr.heap.size Ut).trans (Dq wr (qj k ty td (.slice M tc.length N) (.slice y tg.length D) (.slice z th.length E))));have a5:wr.heap.size<d.heap.size:=Xn
     have u:=U (Do (aK.o.trans ((dX.wb a I).mono a0)) ((a.block b I).trans ak.o));obtain⟨⟨Y,Z,aa,ab⟩,ad⟩:=zM ((a.block b I).trans ak.o);have a3:b<d.heap.size:=O
     have K:=U ((aW.o.below a).up a.size);have X:=U (aX.o.keep (w':=d) fun g W _=>a.block g O);have ap:=U (G.o.below a);have a2:=U a;have H:=C0 (mC B C b p (tf++new) (.slice aB p.wa.length aD) (.slice aC p.funcs.length aE) (.pointer aM) ft x w wr.heap.size (qj k ty td (.slice M tc.length N) (.slice y tg.length D) (.slice z th.length E)) tg th (.slice y tg.length D) (.slice z th.length E) (.pointer q) new d) ⟨u.o.1,u.o.2,ap.o,aq.o,aU.o.below (a.mono G.o.hB) Zr,aV.o.below (a.mono G.o.hB) Zr,K.o,O,L,Q,aZ⟩
     clear a i)
  | (go_at_call 88
     (with_reducible refine(aF.o.call a6.o V.o ar.o (H.o.set).env L Q (H.o.set).row (H.o.set).s4).mono ?_)
     rintro e aA ⟨rfl,S,P⟩;have s:=(H.o.set).step S P;obtain⟨⟨Y,Z,aa,ab⟩,ad⟩:=zM s.row;obtain⟨ae,af,ag,ah,ai,aj⟩:=zV s.box;have bb:wr.heap.size<aA.heap.size:=zB s.box;have F:=U s
     clear S P s))
 go_ret;have J:=uR (p:=p) (r:=l.drop (j+1)) (th:=th) (n:=x) (R:=(bd,n2)) a1.o Vf a7;rw[aO.o]at J;subst J
 exact⟨rfl,F.o.off,F.o.row⟩):p:=h
variable{p:Pr}{ft k ty:Int}{r:List St}{n B:Nat}{w:C3}
theorem CI{td:C2}{tc:List Ex}{tg th:List St}{tf:List Pa}{frm:Nat}{ti:Bool}{e:Int}(b:qy p ft k ty td tc tf frm ti=e)(a:e≠0):zW p ft (.mk k ty td tc tg th::r) tf frm ti n=(e,n):=by
 rw[zW,yn,b,Dm a,Dm a]
theorem uR{td:C2}{tc:List Ex}{tg th:List St}{tf:List Pa}{frm:Nat}{ti:Bool}{R:Int×Nat}(b:qy p ft k ty td tc tf frm ti=0)(c:zW p ft tg (jE k ty td tf) (jE k ty td tf).length (ti || decide (k=5)) (n+1)=R)(a:R.1≠0):zW p ft (.mk k ty td tc tg th::r) tf frm ti n=R:=by
 have e:yn p ft (.mk k ty td tc tg th) tf frm ti n=R:=by rw[yn,b,Dl (show ¬(0 :Int)≠0 by decide),c,Dm a]
 rw[zW,e,Dm a]
theorem uS{td:C2}{tc:List Ex}{tg th:List St}{tf:List Pa}{frm n1:Nat}{ti:Bool}{R:Int×Nat}(a:qy p ft k ty td tc tf frm ti=0)(b:zW p ft tg (jE k ty td tf) (jE k ty td tf).length (ti || decide (k=5)) (n+1)=(0,n1))(c:zW p ft th (jE k ty td tf) (jE k ty td tf).length ti n1=R)(d:R.1≠0):zW p ft (.mk k ty td tc tg th::r) tf frm ti n=R:=by
 have e:yn p ft (.mk k ty td tc tg th) tf frm ti n=R:=Gy
 rw[zW,e,Dm d]
theorem gZ{td:C2}{tc:List Ex}{tg th:List St}{tf:List Pa}{frm n1 n2:Nat}{ti:Bool}(a:qy p ft k ty td tc tf frm ti=0)(b:zW p ft tg (jE k ty td tf) (jE k ty td tf).length (ti || decide (k=5)) (n+1)=(0,n1))(c:zW p ft th (jE k ty td tf) (jE k ty td tf).length ti n1=(0,n2)):zW p ft (.mk k ty td tc tg th::r) tf frm ti n=zW p ft r (jE k ty td tf) frm ti n2:=by
 have e:yn p ft (.mk k ty td tc tg th) tf frm ti n=(0,n2):=Gy
 rw[zW,e,Dl (show ¬(0 :Int)≠0 by decide),B5]
structure mC (B C b:Nat) (p:Pr) (vX:List Pa) (v0 v1 v:C4) (ft:Int) (n:Nat) (w:C3) (m:Nat) (so:Obj) (thn els:List St) (v4 v5:C4) (u:C4) (new:List Pa) (W:C3):Prop where
 off:dX b w.heap.size w W
 row:W.heap[b]?=some (EV v0 v1 ft (eH n))
 env:wK B C p vX v0 v1 v W
 box:W.heap[m]?=some so
 s4:eN B W v4 thn
 s5:eN B W v5 els
 seg:gW W w.heap.size u W.heap.size v new.reverse
 ne:m≠b
 hB:B<=b
 hC:b<C
 hb:b<w.heap.size
section
variable {B C b:Nat}{p:Pr}{vX:List Pa}{v0 v1 v:C4}{ft:Int}{n:Nat}{w:C3}{m:Nat}{so:Obj}{tg th:List St}{v4 v5:C4}{u:C4}{new:List Pa} {W W':C3}
theorem mC.step(a:mC B C b p vX v0 v1 v ft n w m so tg th v4 v5 u new W)(c:dX b W.heap.size W W'){d:Nat}(hb:W'.heap[b]?=some (EV v0 v1 ft (eH d))):mC B C b p vX v0 v1 v ft d w m so tg th v4 v5 u new W' where
 off:=a.off.trans (c.mono a.off.size)
 row:=hb
 env:=a.env.off c a.hB a.hC
 box:=(c.block (zB a.box) a.ne).trans a.box
 s4:=a.s4.below (jz c a.env.hB a.hB) Zr
 s5:=a.s5.below (jz c a.env.hB a.hB) Zr
 seg:=(a.seg.keep fun g _ e=>c.block e (by have:=a.hb;omega)).up c.size
 ne:=a.ne
 hB:=a.hB
 hC:=a.hC
 hb:=a.hb
theorem mC.set(h:mC B C b p vX v0 v1 v ft n w m so tg th v4 v5 u new W):mC B C b p vX v0 v1 v ft (n+1) w m so tg th v4 v5 u new (W.setCell (b,3) ((eH (n+1)):Int)):=
 h.step ((dX.refl b _ W).setb (zB h.row) 3 _) (D0 h.row _)
theorem mC.below(a:mC B C b p vX v0 v1 v ft n w m so tg th v4 v5 u new W)(c:Cx W W'):mC B C b p vX v0 v1 v ft n w m so tg th v4 v5 u new W':=
 a.step (dX.wb c (zB a.row)) ((c.block b (zB a.row)).trans a.row)
end
theorem iF{b:Nat}{s:C2}{t:Int}{T:TypeId}{fr:Nat×Nat}(d:w.heap[b]?=some (.cells #[s,(t:Int)] T fr))(a:b<B):e5 B w (.slice (some ⟨b,0,none⟩) 1 1) [⟨s,t⟩]:=
 ⟨⟨_,1,rfl,Ur,fun _=>⟨b,0,rfl,⟨⟨vm d a _ _ rfl,vm d a _ _ rfl⟩,trivial⟩⟩⟩,fun _ n c e=>Kq⟩
theorem AE(m:Nat)(bS:∀m',m'+1=m->LsC m'):LsC m:=by
 intro B C b p tf l ti n R _ v0 v1 v ft w bP bQ bM bw L Q bz aI;obtain⟨aB,aD,aC,aE,q,rfl,rfl,rfl⟩:=bw.form;obtain⟨_,c,rfl,_⟩:=aI.form;have aZ:=zB bz;have bf:=U bw;have bJ:=U bz;have bU:=U aI;have bV:=U bP;have V:=U bQ;have bW:=U bM;have bT:=U bS;clear bw bz aI bP bQ bM bS;go_enter func88,ntmps88;go_wp2_with fail
 go_loopw [9,18] (fun b1 iv wr=>∃(j x:Nat) (new:List Pa),j<=l.length/\iv=.int .i64 j/\zW p ft (l.drop j) (tf++new) tf.length ti x=R/\gW wr w.heap.size (.pointer q) wr.heap.size b1 new.reverse/\dX b w.heap.size w wr/\wr.heap[b]?=some (EV (.slice aB p.wa.length aD) (.slice aC p.funcs.length aE) ft (eH x))) (fun _ iv _=>l.length-(intOf iv).toNat)
 case atStart=>exact⟨0,n,[],Dw _,rfl,by rw[D8];exact bW.o,gW.none _ _ _ _ Zr,dX.refl _ _ _,bJ.o⟩
 case round=>
  obtain⟨j,x,new,_,rfl,bN,bu,bj,br⟩:=hrel;have a0:=bj.size;have bl:=bf.o.off bj L Q;have bx:=YB (bf.o.hs.fin (iD.nil _ _)) bj Zr bJ.o;obtain⟨aM,rfl⟩:=(bu.fin bx).form;have bL:wK B C p (tf++new) (.slice aB p.wa.length aD) (.slice aC p.funcs.length aE) (.pointer aM) wr:=⟨bl.hB,bl.hC,bl.ha,bl.hf,by rw[Yp];exact bu.join (bf.o.hs.keep fun g W aI=>bj.block aI O)⟩
  have I:b<wr.heap.size:=zB br;have bK:=U bN;have aK:=U bj;have ak:=U br;have aW:=U bu;have G:=U bL;have aX:=U bx;clear bN bu bl bx bL;by_cases bZ:j<l.length
  .obtain⟨⟨k,ty,td,tc,tg,th⟩,bo⟩:∃e,l[j]?=some e:=⟨_,Dz bZ⟩
   obtain⟨g,o,_,v4,v5,rfl,W,_,_,a7,a8,_,s,bG,bH,bI⟩:=(bU.o.below (jz bj bf.o.hB L) Zr).cells bo;obtain⟨M,N,rfl,_⟩:=bG.form;obtain⟨y,D,rfl,_⟩:=bH.form;obtain⟨z,E,rfl,_⟩:=bI.form;have b2:=U bo;have b3:g<wr.heap.size:=Ge
   have bg:=uu bV.o bo;rw[jW]at bg;simp only[Dv,decide_eq_true_eq]at bg;obtain⟨m',rfl⟩:∃m',m=m'+1:=⟨m-1,O⟩
   rw[Yt]at bg;have aF:=U (bT.o m' rfl);have a6:=U bg.1.2;have bh:=U bg.2;have aS:=U bg.1.1.2;have aR:=U bg.1.1.1.2;have bm:Cx wr (wr.alloc (qj k ty td (.slice M tc.length N) (.slice y tg.length D) (.slice z th.length E))):=Zb.alloc Zr _;have aY:=U bm;have aP:=U (G.o.below bm);have aN:=U ((bm.block b I).trans br);have aT:=U (bG.below (bm.mono G.o.hB) Zr);have aU:=U bH;have aV:=U bI;have bA:=bK.o;rw[fL bo]at bA;have aO:=U bA;obtain⟨bX,bD⟩:=Cz (jx p (tf++new) ft k ty td tc ti);have aQ:=U bD;have bF:=NX (p:=p) (tf:=tf++new) (ft:=ft) (frm:=tf.length) (ti:=ti) bg.1.1.1.2;rw[bD,List.drop_left]at bF;have bq:=U bF;clear bo bG bH bI bg bm bA bD bF bj br;by_cases bC:bX=0
   case neg=>
    go_wp2_with (go_at_call 109;(with_reducible refine(jy B C b p (tf++new) ty td tc _ _ _ _ _ _ _ _ _ _ _ _ ft (eH x) _ _ _ aR.o aQ.o aP.o aN.o aT.o aS.o V.o).mono ?_);rintro e d ⟨rfl,i⟩
                 have a:Cx wr d:=aY.o.trans (i.mono Ut);have av:=zV ((i.block wr.heap.size Ut).trans (Dq wr _));obtain⟨ae,af,ag,ah,ai,aj⟩:=av;have aq:=U ((i.block wr.heap.size Ut).trans (Dq wr (qj k ty td (.slice M tc.length N) (.slice y tg.length D) (.slice z th.length E))));have a5:wr.heap.size<d.heap.size:=Xn
                 have u:=U (Do (aK.o.trans ((dX.wb a I).mono a0)) ((a.block b I).trans ak.o));obtain⟨⟨Y,Z,aa,ab⟩,ad⟩:=zM ((a.block b I).trans ak.o);have a3:b<d.heap.size:=O
                 have K:=U ((aW.o.below a).up a.size);have X:=U (aX.o.keep (w':=d) fun g W _=>a.block g O);have ap:=U (G.o.below a);have a2:=U a;have H:=C0 (mC B C b p (tf++new) (.slice aB p.wa.length aD) (.slice aC p.funcs.length aE) (.pointer aM) ft x w wr.heap.size (qj k ty td (.slice M tc.length N) (.slice y tg.length D) (.slice z th.length E)) tg th (.slice y tg.length D) (.slice z th.length E) (.pointer q) new d) ⟨u.o.1,u.o.2,ap.o,aq.o,aU.o.below (a.mono G.o.hB) Zr,aV.o.below (a.mono G.o.hB) Zr,K.o,O,L,Q,aZ⟩
                 clear a i)
    go_ret;have J:=CI (p:=p) (r:=l.drop (j+1)) (tg:=tg) (th:=th) (n:=x) (bq.o.trans (Dm bC)) bC;rw[aO.o]at J;subst J;exact⟨rfl,u.o.1,u.o.2⟩
   case pos=>
    subst bC;by_cases bs:k=1
    case pos=>
     subst bs;obtain⟨b0,bt⟩:=Cz (zX new td);have bi:=U ((yY td new).symm.trans bt);cases b0 with
     |some t=>
       go_wp2_with (first
        | (go_at_call 109;(with_reducible refine(jy B C b p (tf++new) ty td tc _ _ _ _ _ _ _ _ _ _ _ _ ft (eH x) _ _ _ aR.o aQ.o aP.o aN.o aT.o aS.o V.o).mono ?_);rintro e d ⟨rfl,i⟩
           have a:Cx wr d:=aY.o.trans (i.mono Ut);have av:=zV ((i.block wr.heap.size Ut).trans (Dq wr _));obtain⟨ae,af,ag,ah,ai,aj⟩:=av;have aq:=U ((i.block wr.heap.size Ut).trans (Dq wr (qj 1 ty td (.slice M tc.length N) (.slice y tg.length D) (.slice z th.length E))));have a5:wr.heap.size<d.heap.size:=Xn
           have u:=U (Do (aK.o.trans ((dX.wb a I).mono a0)) ((a.block b I).trans ak.o));obtain⟨⟨Y,Z,aa,ab⟩,ad⟩:=zM ((a.block b I).trans ak.o);have a3:b<d.heap.size:=O
           have K:=U ((aW.o.below a).up a.size);have X:=U (aX.o.keep (w':=d) fun g W _=>a.block g O);have ap:=U (G.o.below a);have a2:=U a;have H:=C0 (mC B C b p (tf++new) (.slice aB p.wa.length aD) (.slice aC p.funcs.length aE) (.pointer aM) ft x w wr.heap.size (qj 1 ty td (.slice M tc.length N) (.slice y tg.length D) (.slice z th.length E)) tg th (.slice y tg.length D) (.slice z th.length E) (.pointer q) new d) ⟨u.o.1,u.o.2,ap.o,aq.o,aU.o.below (a.mono G.o.hB) Zr,aV.o.below (a.mono G.o.hB) Zr,K.o,O,L,Q,aZ⟩
           clear a i)
        | (go_at_call 110;(with_reducible refine(xD _ w.heap.size _ _ _ _ td Zr X.o K.o).mono ?_);rintro e w9 ⟨au,rfl⟩
           have a4:∃g,e=.returned (.pointer (some ⟨g,0,none⟩)):=by
            rw[bi.o]at au;obtain⟨g,bv,_⟩:=au;exact⟨g,bv⟩
           clear au
           obtain⟨_,rfl⟩:=a4))
       go_ret;have J:=CI (p:=p) (r:=l.drop (j+1)) (tg:=tg) (th:=th) (n:=x) (e:=(50 :Int)) (bq.o.trans (by rw[bt];simp)) Up;rw[aO.o]at J;subst J;exact⟨rfl,u.o.1,u.o.2⟩
     |none=>
       have bY:=sC x;have aw:=U (show jE 1 ty td (tf++new)=tf++(new++[⟨td,ty⟩])by unfold jE;rw[Dm rfl,D7]);have a1:=C0 (qy p ft 1 ty td tc (tf++new) tf.length ti=0) (bq.o.trans (by rw[bt];simp));clear bt;cases ti
       .obtain⟨⟨bd,n2⟩,a9⟩:=Cz (zW p ft tg (tf++(new++[(⟨td,ty⟩:Pa)])) (tf++(new++[(⟨td,ty⟩:Pa)])).length false (x+1))
        have ar:=U a9;clear a9;by_cases a7:bd=0
        case neg=>
         exact Ib
        case pos=>
         subst a7;obtain⟨⟨be,aL⟩,ba⟩:=Cz (zW p ft th (tf++(new++[(⟨td,ty⟩:Pa)])) (tf++(new++[(⟨td,ty⟩:Pa)])).length false n2);exact Oz
       .obtain⟨⟨bd,n2⟩,a9⟩:=Cz (zW p ft tg (tf++(new++[(⟨td,ty⟩:Pa)])) (tf++(new++[(⟨td,ty⟩:Pa)])).length true (x+1))
        have ar:=U a9;clear a9;by_cases a7:bd=0
        case neg=>
         exact Ib
        case pos=>
         subst a7;obtain⟨⟨be,aL⟩,ba⟩:=Cz (zW p ft th (tf++(new++[(⟨td,ty⟩:Pa)])) (tf++(new++[(⟨td,ty⟩:Pa)])).length true n2);exact Oz
    case neg=>
     have n1:(k == 1)=false:=by simp[bs]
     have bY:=sC x;have bR:jE k ty td (tf++new)=tf++new:=by unfold jE;rw[Dl bs]
     have aw:=U bR;have a1:=U (bq.o.trans (by rw[Dl (show ¬(0 :Int)≠0 by decide),Dl (fun bv=>bs bv.1)]));clear bR;cases ti
     .obtain⟨⟨bd,n2⟩,a9⟩:=Cz (zW p ft tg (tf++new) (tf++new).length (k == 5) (x+1))
      have ar:=U a9;clear a9;by_cases a7:bd=0
      case neg=>
       exact Ic
      case pos=>
       subst a7;obtain⟨⟨be,aL⟩,ba⟩:=Cz (zW p ft th (tf++new) (tf++new).length false n2);exact Ia
     .obtain⟨⟨bd,n2⟩,a9⟩:=Cz (zW p ft tg (tf++new) (tf++new).length true (x+1))
      have ar:=U a9;clear a9;by_cases a7:bd=0
      case neg=>
       exact Ic
      case pos=>
       subst a7;obtain⟨⟨be,aL⟩,ba⟩:=Cz (zW p ft th (tf++new) (tf++new).length true n2);exact Ia
  .go_wp2_with fail
   go_ret;have bO:=bK.o;rw[List.drop_of_length_le O,zW]at bO;subst bO;exact⟨rfl,aK.o,ak.o⟩
theorem sD:∀m,LsC m
 |0=>AE 0 fun _ h=>O
 | m+1=>AE (m+1) fun m' h=>by
   obtain rfl:m'=m:=O
   exact sD m'
end Go.Proofs.YthcmenajdcbnnaaGreatDoor
namespace Go.Proofs.YthcmenajdcbnnaaGreatDoor
open Go.RowKit Tryz Go.Maps Go.WideMaps
variable{p:Pr}{ft k ty:Int}{r:List St}{n B:Nat}{w:C3}
def rD:List C2->Bool
 |[]=>true
 |s::r=>!(r.any fun x=>decide (x=s))&&rD r
def R8(B:Nat)(w:C3)(v:C4)(l:List C2):Prop:=vR v l.length (uI 1 (fun(s:C2) g o=>dZ B w g o (.string s)) l)
theorem R8.below{a:Nat}{w':C3}{v:C4}{l:List C2}(b:R8 B w v l)(d:Below B w w')(c:B<=a):R8 a w' v l:=vR.imp b fun g o=>uI.imp (fun _ _ _ e=>e.below d c) l g o
theorem R8.form{v:C4}{l:List C2}(c:R8 B w v l):∃a b,v=.slice a l.length b/\l.length<=281474976710656:=by
 obtain⟨a,b,e,d,_⟩:=c;exact⟨a,b,e,d⟩
theorem R8.cells{a:Option Addr}{c:Nat}{l:List C2}(d:R8 B w (.slice a n c) l){i:Nat}{t:C2}(b:l[i]?=some t):
 ∃(g o:Nat),a=some ⟨g,o,none⟩/\g<B/\w.cell? (g,o+i)=some (.string t):=by
 obtain⟨g,o,e,f⟩:=vR.elem d rfl Kj;have:=uI.at l g o i t f b;rw[Nat.mul_one]at this;exact⟨g,o,e,this.1,this.2⟩
def fN(s:C2):Lit:=.string s.data.toList
def CJ{H:Type}(l:List C2):DataW H:=setOf (.agg []) (l.map fN)
theorem NY{H:Type}(l:List C2)(s:C2):CJ (H:=H) (l++[s])=(CJ l).put (fN s) (.agg []):=by
 unfold CJ;rw[Yf];exact setOf_snoc _ _ _
theorem zd2:Keyed Tryz.prog 9:=string_keyed underlying9
theorem AF(a b:C2):(fN a).sameKey (fN b)=decide (a=b):=by
 unfold fN;rw[Yg,decide_eq_true_iff];constructor
 .intro d
  have c:=WideAt.sameKey_eq d;injection c with c;cases a;cases b
  simp_all
 .rintro rfl
  exact WideAt.sameKey_self trivial
theorem sE:∀(l tk:List C2),((l.map fN).foldl addKey (tk.map fN)).length<=tk.length+l.length/\(((l.map fN).foldl addKey (tk.map fN)).length=tk.length+l.length↔(rD l=true/\∀s∈l,s ∉ tk))
 |[],tk=>by simp[rD]
 | s::r,tk=>by
   rw[Yb,List.foldl_cons]
   have j:((tk.map fN).any (fun n=>n.sameKey (fN s))=true)↔s∈tk:=by
    rw[List.any_map,List.any_eq_true];constructor
    .rintro⟨x,b,a⟩
     simp only[Function.comp,AF,decide_eq_true_eq]at a;exact a▸b
    .intro a
     exact⟨s,a,by simp[Function.comp,AF]⟩
   by_cases a:s∈tk
   .have e:addKey (tk.map fN) (fN s)=tk.map fN:=by unfold addKey;rw[Dm (j.2 a)]
    rw[e];have i:=sE r tk;constructor
    .rw[Dp];omega
    .constructor
     .intro m
      rw[Dp]at m;omega
     .rintro⟨_,c⟩
      exact absurd a (c s (Y4 ..))
   .have e:addKey (tk.map fN) (fN s)=(tk++[s]).map fN:=by
     unfold addKey;rw[Dl (fun f=>a (j.1 f)),Yf];rfl
    rw[e];have i:=sE r (tk++[s]);rw[Dn,D2]at i;constructor
    .rw[Dp];omega
    .rw[Dp,show tk.length+(r.length+1)=tk.length+1+r.length by omega,i.2]
     have f:((!(r.any fun x=>decide (x=s)))=true)↔s ∉ r:=by
      rw[Bool.not_eq_true',Ch];simp only[decide_eq_true_eq];exact⟨fun a g=>a s g rfl,fun a x b e=>a (e▸b)⟩
     rw[rD,Dv,f];simp only[Cg,List.mem_append,Cp,or_false,not_or];constructor
     .rintro⟨d,c⟩
      exact⟨⟨fun g=>(c s g).2 rfl,d⟩,fun x b=>by
       rcases b with rfl|b
       .exact a
       .exact(c x b).1⟩
     .rintro⟨⟨d,c⟩,k⟩
      exact⟨c,fun x b=>⟨k x (.inr b),fun e=>d (e▸b)⟩⟩
theorem NZ{H:Type}(l:List C2):(Maps.size (CJ (H:=H) l)=l.length↔rD l=true)/\Maps.size (CJ (H:=H) l)<=l.length:=by
 have b:Maps.size (CJ (H:=H) l)=((l.map fN).foldl addKey []).length:=size_setOf _ _ fun x c=>by
  obtain⟨s,_,rfl⟩:=List.mem_map.1 c;trivial
 have a:=sE l [];simp only[Cj,Du,Yo,Cp,not_false_eq_true,implies_true,and_true]at a;rw[b];exact⟨a.2,a.1⟩
theorem kh(B:Nat)(l:List C2)(r:Bool)(v:C4)(w:C3)(I:B<=w.heap.size)(m:R8 B w v l)(a:∀s∈l,s.size<=maxLen)(t:rD l=r):
 Cy 63 #[v] w (Cv r w):=by
 obtain⟨_,c,rfl,_⟩:=m.form;have Q:=@run_makeMap Tryz.prog;have x:=U m;have F:=U a;have C:=U t;clear m a t;go_enter func63,ntmps63;go_wp2_with fail
 go_loopw [9] (fun iv wr=>∃j:Nat,j<=l.length/\iv=.int .i64 j/\wr.ownsMap Tryz.prog 9 (unitElem (H:=Unit)) w.heap.size j (CJ (H:=Unit) (l.take j))/\Cx w wr) (fun iv _=>l.length-(intOf iv).toNat)
 case atStart=>exact⟨0,Dw _,rfl,World.ownsMap_made _ _ _ _,Zb.alloc Zr _⟩
 case round=>
  obtain⟨j,_,rfl,d,b⟩:=hrel;have n:=U b;have R:=b.size;by_cases M:j<l.length
  .obtain⟨s,f⟩:∃e,l[j]?=some e:=⟨_,Dz M⟩
   obtain⟨g,o,rfl,_,_⟩:=(x.o.below (b.mono I) Zr).cells f;have P:g<wr.heap.size:=O
   have L:keyOf Tryz.prog 9 (.string s)=some (fN s):=keyOf_string_mk underlying9 (F.o s (Ye f));have D:=U f;clear f b;go_wp2_with (at_mapUpdate;refine wpList_mapUpdate_own _ rfl _ _ _ 150 rfl 9 151 zd2 underlying150 (unitElem (H:=Unit)) w.heap.size j _ rfl d Vw _ _ _ rfl rfl L _ [] unitElem_mk ?_;intro _ q p;have y:=U q;have u:=U p;clear q p);go_roundw
   case rel=>
    refine⟨j+1,O,by go_num,?_,n.o.grown u.o O fun k K=>by cases K;exact Dy _⟩;rw[Yr,D.o,Option.toList_some,NY];exact y.o
   case measure=>simp[intOf];omega
  .have J:j=l.length:=by omega
   subst J;have N:wr.ownsMap Tryz.prog 9 (unitElem (H:=Unit)) w.heap.size l.length (CJ (H:=Unit) l):=by rw[D9 Zr]at d;exact d
   have i:=NZ (H:=Unit) l;obtain⟨z,a⟩:=Cz (Maps.size (CJ (H:=Unit) l));rw[a]at i;have E:=U i;have S:z<=l.length:=i.2;have G:=U a;clear d i b a;go_wp2_with (at_len;refine wpList_len_own _ rfl _ 150 rfl 9 151 underlying150 (unitElem (H:=Unit)) w.heap.size l.length _ rfl N ?_;rw[G.o]);go_ret;refine⟨zC ?_,n.o⟩;rw[<-C.o,Yg,<-E.o.1];simp;omega
