import Derived.Test.YthcmenajdcbnnaaGreatDoorAtParVals
set_option linter.unusedSimpArgs false
set_option linter.unusedVariables false
set_option maxRecDepth 100000
set_option maxHeartbeats 99000000
/- The contract of the checker's list, of package types: the first error of a list of statements, and its number. (By tools/gen_tyll.py.) -/
namespace Go.Proofs.YthcmenajdcbnnaaGreatDoor
open Lib (hid)
open Go.RowKit
theorem Of{p:Prop}(h:p:=by
 have HR3:=hid hR3;clear hR3;by_cases h3:r3=0
 case neg=>
  go_wp2_with (first
   | (go_at_call 109;(with_reducible refine(jQ B C b p (vars++new) ty name args _ _ _ _ _ _ _ _ _ _ _ _ ft (W64 nj) _ _ _ HFS.out HE1_.out HE1.out HBB1.out HS3.out HO3.out HP.out).mono ?_);rintro e w2 ⟨rfl,hb2⟩
      have hx2:Below wr.heap.size wr w2:=HW1.out.trans (hb2.mono Ic);have hm2:=qL ((hb2.block wr.heap.size Ic).trans (heap_alloc_new wr _));obtain⟨m0,m1,m2,m3,m4,m5⟩:=hm2;have HM2:=hid ((hb2.block wr.heap.size Ic).trans (heap_alloc_new wr (kG 1 ty name (.slice A3 args.length c3) (.slice A4 thn.length c4) (.slice A5 els.length c5))));have hs2:wr.heap.size<w2.heap.size:=Iu
      have HX2:=hid (And.intro (HOFF.out.trans ((OffB.of_below hx2 hbs).mono hsz)) ((hx2.block b hbs).trans HBR.out));obtain⟨⟨b0,b1,b2,b3⟩,bz⟩:=zR ((hx2.block b hbs).trans HBR.out);have hbs2:b<w2.heap.size:=I7
      have HS2:=hid ((HSEG.out.below hx2).up hx2.size);have HU2:=hid (HUW.out.keep (w':=w2) fun g hg _=>hx2.block g I7);have HE2:=hid (HER.out.below hx2);have HY2:=hid hx2;have HL2:=hid (show Lst B C b p (vars++new) (.slice A0 p.arrays.length c0) (.slice A1 p.funcs.length c1) (.pointer qv) ft nj w wr.heap.size (kG 1 ty name (.slice A3 args.length c3) (.slice A4 thn.length c4) (.slice A5 els.length c5)) thn els (.slice A4 thn.length c4) (.slice A5 els.length c5) (.pointer q) new w2 from⟨HX2.out.1,HX2.out.2,HE2.out,HM2.out,HS4.out.below (hx2.mono HER.out.hB) Zr,HS5.out.below (hx2.mono HER.out.hB) Zr,HS2.out,I7,hBb,hbC,hbl⟩)
      clear hx2 hb2)
   | (go_at_call 110;(with_reducible refine(kC _ w.heap.size _ _ _ _ name Zr HU2.out HS2.out).mono ?_);rintro e w9 ⟨hfp,rfl⟩
      have hfq:e=.returned (.pointer none):=by
       rw[HV.out]at hfp;exact hfp
      clear hfp
      subst hfq)
   | (go_at_call 89
      have hw2:Below w2.heap.size w2 (w2.alloc (.cells #[.string name,.int .i64 ty] 100)):=Zb.alloc Zr _
      (with_reducible refine(xl (w2.alloc (.cells #[.string name,.int .i64 ty] 100)) w.heap.size w2.heap.size (w2.heap.size+1) (.pointer q) _ new.reverse [⟨name,ty⟩] _ Ic Ic (HU2.out.keep fun g hg _=>hw2.block g IF) Qx (HS2.out.below hw2) (slP_at1 (heap_alloc_new w2 _) I7)).mono ?_)
      rintro e w3 ⟨v',rfl,hs3,hb3⟩;have hx3:Below w2.heap.size w2 w3:=hw2.trans (hb3.mono Ic);have hu3:=HU2.out.keep (w':=w3) fun g hg _=>hx3.block g IF
      obtain⟨qv3,rfl⟩:=(hs3.fin hu3).form;have hl3:=HL2.out.below hx3;have HL3:=hid (show Lst B C b p (vars++(new++[⟨name,ty⟩])) (.slice A0 p.arrays.length c0) (.slice A1 p.funcs.length c1) (.pointer qv3) ft nj w wr.heap.size (kG 1 ty name (.slice A3 args.length c3) (.slice A4 thn.length c4) (.slice A5 els.length c5)) thn els (.slice A4 thn.length c4) (.slice A5 els.length c5) (.pointer q) (new++[⟨name,ty⟩]) w3 from⟨hl3.off,hl3.row,⟨hl3.env.hB,hl3.env.hC,hl3.env.ha,hl3.env.hf,Qp⟩,hl3.box,hl3.s4,hl3.s5,Qz,hl3.ne,hl3.hB,hl3.hC,hl3.hb⟩);obtain⟨⟨b0,b1,b2,b3⟩,bz⟩:=zR hl3.row;obtain⟨m0,m1,m2,m3,m4,m5⟩:=qL hl3.box;have hs3z:wr.heap.size<w3.heap.size:=zB hl3.box;have hbs3:b<w3.heap.size:=zB hl3.row
      clear hw2 hs3 hb3 hx3 hu3 hl3)
   | (go_at_call 88
      (with_reducible refine(HIH.out.call HO4.out HP.out HR2.out (HL3.out.set).env hBb hbC (HL3.out.set).row (HL3.out.set).s4).mono ?_)
      rintro e w5 ⟨rfl,ho5,hb5⟩;have h5:=(HL3.out.set).step ho5 hb5;obtain⟨⟨b0,b1,b2,b3⟩,bz⟩:=zR h5.row;obtain⟨m0,m1,m2,m3,m4,m5⟩:=qL h5.box;have hs5z:wr.heap.size<w5.heap.size:=zB h5.box;have H5:=hid h5
      clear ho5 hb5 h5)
   | (go_at_call 88
      (with_reducible refine(HIH.out.call HO5.out HP.out HR3.out H5.out.env hBb hbC H5.out.row H5.out.s5).mono ?_)
      rintro e w6 ⟨rfl,ho6,hb6⟩;have H6:=hid (H5.out.step ho6 hb6)
      clear ho6 hb6))
  go_ret;have hR1:=chk_els (p:=p) (r:=l.drop (j+1)) (n:=nj) (n1:=n2) (R:=(r3,n3)) HOW.out IG Qh h3;rw[HDD.out]at hR1;subst hR1;exact⟨rfl,H6.out.off,H6.out.row⟩
 case pos=>
  subst h3
  go_wp2_with (first
   | (go_at_call 109;(with_reducible refine(jQ B C b p (vars++new) ty name args _ _ _ _ _ _ _ _ _ _ _ _ ft (W64 nj) _ _ _ HFS.out HE1_.out HE1.out HBB1.out HS3.out HO3.out HP.out).mono ?_);rintro e w2 ⟨rfl,hb2⟩
      have hx2:Below wr.heap.size wr w2:=HW1.out.trans (hb2.mono Ic);have hm2:=qL ((hb2.block wr.heap.size Ic).trans (heap_alloc_new wr _));obtain⟨m0,m1,m2,m3,m4,m5⟩:=hm2;have HM2:=hid ((hb2.block wr.heap.size Ic).trans (heap_alloc_new wr (kG 1 ty name (.slice A3 args.length c3) (.slice A4 thn.length c4) (.slice A5 els.length c5))));have hs2:wr.heap.size<w2.heap.size:=Iu
      have HX2:=hid (And.intro (HOFF.out.trans ((OffB.of_below hx2 hbs).mono hsz)) ((hx2.block b hbs).trans HBR.out));obtain⟨⟨b0,b1,b2,b3⟩,bz⟩:=zR ((hx2.block b hbs).trans HBR.out);have hbs2:b<w2.heap.size:=I7
      have HS2:=hid ((HSEG.out.below hx2).up hx2.size);have HU2:=hid (HUW.out.keep (w':=w2) fun g hg _=>hx2.block g I7);have HE2:=hid (HER.out.below hx2);have HY2:=hid hx2;have HL2:=hid (show Lst B C b p (vars++new) (.slice A0 p.arrays.length c0) (.slice A1 p.funcs.length c1) (.pointer qv) ft nj w wr.heap.size (kG 1 ty name (.slice A3 args.length c3) (.slice A4 thn.length c4) (.slice A5 els.length c5)) thn els (.slice A4 thn.length c4) (.slice A5 els.length c5) (.pointer q) new w2 from⟨HX2.out.1,HX2.out.2,HE2.out,HM2.out,HS4.out.below (hx2.mono HER.out.hB) Zr,HS5.out.below (hx2.mono HER.out.hB) Zr,HS2.out,I7,hBb,hbC,hbl⟩)
      clear hx2 hb2)
   | (go_at_call 110;(with_reducible refine(kC _ w.heap.size _ _ _ _ name Zr HU2.out HS2.out).mono ?_);rintro e w9 ⟨hfp,rfl⟩
      have hfq:e=.returned (.pointer none):=by
       rw[HV.out]at hfp;exact hfp
      clear hfp
      subst hfq)
   | (go_at_call 89
      have hw2:Below w2.heap.size w2 (w2.alloc (.cells #[.string name,.int .i64 ty] 100)):=Zb.alloc Zr _
      (with_reducible refine(xl (w2.alloc (.cells #[.string name,.int .i64 ty] 100)) w.heap.size w2.heap.size (w2.heap.size+1) (.pointer q) _ new.reverse [⟨name,ty⟩] _ Ic Ic (HU2.out.keep fun g hg _=>hw2.block g IF) Qx (HS2.out.below hw2) (slP_at1 (heap_alloc_new w2 _) I7)).mono ?_)
      rintro e w3 ⟨v',rfl,hs3,hb3⟩;have hx3:Below w2.heap.size w2 w3:=hw2.trans (hb3.mono Ic);have hu3:=HU2.out.keep (w':=w3) fun g hg _=>hx3.block g IF
      obtain⟨qv3,rfl⟩:=(hs3.fin hu3).form;have hl3:=HL2.out.below hx3;have HL3:=hid (show Lst B C b p (vars++(new++[⟨name,ty⟩])) (.slice A0 p.arrays.length c0) (.slice A1 p.funcs.length c1) (.pointer qv3) ft nj w wr.heap.size (kG 1 ty name (.slice A3 args.length c3) (.slice A4 thn.length c4) (.slice A5 els.length c5)) thn els (.slice A4 thn.length c4) (.slice A5 els.length c5) (.pointer q) (new++[⟨name,ty⟩]) w3 from⟨hl3.off,hl3.row,⟨hl3.env.hB,hl3.env.hC,hl3.env.ha,hl3.env.hf,Qp⟩,hl3.box,hl3.s4,hl3.s5,Qz,hl3.ne,hl3.hB,hl3.hC,hl3.hb⟩);obtain⟨⟨b0,b1,b2,b3⟩,bz⟩:=zR hl3.row;obtain⟨m0,m1,m2,m3,m4,m5⟩:=qL hl3.box;have hs3z:wr.heap.size<w3.heap.size:=zB hl3.box;have hbs3:b<w3.heap.size:=zB hl3.row
      clear hw2 hs3 hb3 hx3 hu3 hl3)
   | (go_at_call 88
      (with_reducible refine(HIH.out.call HO4.out HP.out HR2.out (HL3.out.set).env hBb hbC (HL3.out.set).row (HL3.out.set).s4).mono ?_)
      rintro e w5 ⟨rfl,ho5,hb5⟩;have h5:=(HL3.out.set).step ho5 hb5;obtain⟨⟨b0,b1,b2,b3⟩,bz⟩:=zR h5.row;obtain⟨m0,m1,m2,m3,m4,m5⟩:=qL h5.box;have hs5z:wr.heap.size<w5.heap.size:=zB h5.box;have H5:=hid h5
      clear ho5 hb5 h5)
   | (go_at_call 88
      (with_reducible refine(HIH.out.call HO5.out HP.out HR3.out H5.out.env hBb hbC H5.out.row H5.out.s5).mono ?_)
      rintro e w6 ⟨rfl,ho6,hb6⟩;have H6:=hid (H5.out.step ho6 hb6)
      clear ho6 hb6))
  go_roundw
  case rel=>
   have hR1:=chk_on (p:=p) (r:=l.drop (j+1)) (n:=nj) (n1:=n2) (n2:=n3) HOW.out IG Qh;rw[HDD.out,HVX.out]at hR1;exact⟨j+1,n3,new++[(⟨name,ty⟩:Pa)],I7,by go_num,hR1.symm,H6.out.seg,H6.out.off,H6.out.row⟩
  case measure=>simp[intOf];omega):p:=h
theorem Og{p:Prop}(h:p:=by
 have HR3:=hid hR3;clear hR3;by_cases h3:r3=0
 case neg=>
  go_wp2_with (first
   | (go_at_call 109;(with_reducible refine(jQ B C b p (vars++new) ty name args _ _ _ _ _ _ _ _ _ _ _ _ ft (W64 nj) _ _ _ HFS.out HE1_.out HE1.out HBB1.out HS3.out HO3.out HP.out).mono ?_);rintro e w2 ⟨rfl,hb2⟩
      have hx2:Below wr.heap.size wr w2:=HW1.out.trans (hb2.mono Ic);have hm2:=qL ((hb2.block wr.heap.size Ic).trans (heap_alloc_new wr _));obtain⟨m0,m1,m2,m3,m4,m5⟩:=hm2;have HM2:=hid ((hb2.block wr.heap.size Ic).trans (heap_alloc_new wr (kG k ty name (.slice A3 args.length c3) (.slice A4 thn.length c4) (.slice A5 els.length c5))));have hs2:wr.heap.size<w2.heap.size:=Iu
      have HX2:=hid (And.intro (HOFF.out.trans ((OffB.of_below hx2 hbs).mono hsz)) ((hx2.block b hbs).trans HBR.out));obtain⟨⟨b0,b1,b2,b3⟩,bz⟩:=zR ((hx2.block b hbs).trans HBR.out);have hbs2:b<w2.heap.size:=I7
      have HS2:=hid ((HSEG.out.below hx2).up hx2.size);have HU2:=hid (HUW.out.keep (w':=w2) fun g hg _=>hx2.block g I7);have HE2:=hid (HER.out.below hx2);have HY2:=hid hx2;have HL2:=hid (show Lst B C b p (vars++new) (.slice A0 p.arrays.length c0) (.slice A1 p.funcs.length c1) (.pointer qv) ft nj w wr.heap.size (kG k ty name (.slice A3 args.length c3) (.slice A4 thn.length c4) (.slice A5 els.length c5)) thn els (.slice A4 thn.length c4) (.slice A5 els.length c5) (.pointer q) new w2 from⟨HX2.out.1,HX2.out.2,HE2.out,HM2.out,HS4.out.below (hx2.mono HER.out.hB) Zr,HS5.out.below (hx2.mono HER.out.hB) Zr,HS2.out,I7,hBb,hbC,hbl⟩)
      clear hx2 hb2)
   | (go_at_call 88
      (with_reducible refine(HIH.out.call HO4.out HP.out HR2.out (HL2.out.set).env hBb hbC (HL2.out.set).row (HL2.out.set).s4).mono ?_)
      rintro e w5 ⟨rfl,ho5,hb5⟩;have h5:=(HL2.out.set).step ho5 hb5;obtain⟨⟨b0,b1,b2,b3⟩,bz⟩:=zR h5.row;obtain⟨m0,m1,m2,m3,m4,m5⟩:=qL h5.box;have hs5z:wr.heap.size<w5.heap.size:=zB h5.box;have H5:=hid h5
      clear ho5 hb5 h5)
   | (go_at_call 88
      (with_reducible refine(HIH.out.call HO5.out HP.out HR3.out H5.out.env hBb hbC H5.out.row H5.out.s5).mono ?_)
      rintro e w6 ⟨rfl,ho6,hb6⟩;have H6:=hid (H5.out.step ho6 hb6)
      clear ho6 hb6))
  go_ret;have hR1:=chk_els (p:=p) (r:=l.drop (j+1)) (n:=nj) (n1:=n2) (R:=(r3,n3)) HOW.out IG Qh h3;rw[HDD.out]at hR1;subst hR1;exact⟨rfl,H6.out.off,H6.out.row⟩
 case pos=>
  subst h3
  go_wp2_with (first
   | (go_at_call 109;(with_reducible refine(jQ B C b p (vars++new) ty name args _ _ _ _ _ _ _ _ _ _ _ _ ft (W64 nj) _ _ _ HFS.out HE1_.out HE1.out HBB1.out HS3.out HO3.out HP.out).mono ?_);rintro e w2 ⟨rfl,hb2⟩
      have hx2:Below wr.heap.size wr w2:=HW1.out.trans (hb2.mono Ic);have hm2:=qL ((hb2.block wr.heap.size Ic).trans (heap_alloc_new wr _));obtain⟨m0,m1,m2,m3,m4,m5⟩:=hm2;have HM2:=hid ((hb2.block wr.heap.size Ic).trans (heap_alloc_new wr (kG k ty name (.slice A3 args.length c3) (.slice A4 thn.length c4) (.slice A5 els.length c5))));have hs2:wr.heap.size<w2.heap.size:=Iu
      have HX2:=hid (And.intro (HOFF.out.trans ((OffB.of_below hx2 hbs).mono hsz)) ((hx2.block b hbs).trans HBR.out));obtain⟨⟨b0,b1,b2,b3⟩,bz⟩:=zR ((hx2.block b hbs).trans HBR.out);have hbs2:b<w2.heap.size:=I7
      have HS2:=hid ((HSEG.out.below hx2).up hx2.size);have HU2:=hid (HUW.out.keep (w':=w2) fun g hg _=>hx2.block g I7);have HE2:=hid (HER.out.below hx2);have HY2:=hid hx2;have HL2:=hid (show Lst B C b p (vars++new) (.slice A0 p.arrays.length c0) (.slice A1 p.funcs.length c1) (.pointer qv) ft nj w wr.heap.size (kG k ty name (.slice A3 args.length c3) (.slice A4 thn.length c4) (.slice A5 els.length c5)) thn els (.slice A4 thn.length c4) (.slice A5 els.length c5) (.pointer q) new w2 from⟨HX2.out.1,HX2.out.2,HE2.out,HM2.out,HS4.out.below (hx2.mono HER.out.hB) Zr,HS5.out.below (hx2.mono HER.out.hB) Zr,HS2.out,I7,hBb,hbC,hbl⟩)
      clear hx2 hb2)
   | (go_at_call 88
      (with_reducible refine(HIH.out.call HO4.out HP.out HR2.out (HL2.out.set).env hBb hbC (HL2.out.set).row (HL2.out.set).s4).mono ?_)
      rintro e w5 ⟨rfl,ho5,hb5⟩;have h5:=(HL2.out.set).step ho5 hb5;obtain⟨⟨b0,b1,b2,b3⟩,bz⟩:=zR h5.row;obtain⟨m0,m1,m2,m3,m4,m5⟩:=qL h5.box;have hs5z:wr.heap.size<w5.heap.size:=zB h5.box;have H5:=hid h5
      clear ho5 hb5 h5)
   | (go_at_call 88
      (with_reducible refine(HIH.out.call HO5.out HP.out HR3.out H5.out.env hBb hbC H5.out.row H5.out.s5).mono ?_)
      rintro e w6 ⟨rfl,ho6,hb6⟩;have H6:=hid (H5.out.step ho6 hb6)
      clear ho6 hb6))
  go_roundw
  case rel=>
   have hR1:=chk_on (p:=p) (r:=l.drop (j+1)) (n:=nj) (n1:=n2) (n2:=n3) HOW.out IG Qh;rw[HDD.out,HVX.out]at hR1;exact⟨j+1,n3,new,I7,by go_num,hR1.symm,H6.out.seg,H6.out.off,H6.out.row⟩
  case measure=>simp[intOf];omega):p:=h
theorem Oh{p:Prop}(h:p:=by
 go_wp2_with (first
  | (go_at_call 109;(with_reducible refine(jQ B C b p (vars++new) ty name args _ _ _ _ _ _ _ _ _ _ _ _ ft (W64 nj) _ _ _ HFS.out HE1_.out HE1.out HBB1.out HS3.out HO3.out HP.out).mono ?_);rintro e w2 ⟨rfl,hb2⟩
     have hx2:Below wr.heap.size wr w2:=HW1.out.trans (hb2.mono Ic);have hm2:=qL ((hb2.block wr.heap.size Ic).trans (heap_alloc_new wr _));obtain⟨m0,m1,m2,m3,m4,m5⟩:=hm2;have HM2:=hid ((hb2.block wr.heap.size Ic).trans (heap_alloc_new wr (kG 1 ty name (.slice A3 args.length c3) (.slice A4 thn.length c4) (.slice A5 els.length c5))));have hs2:wr.heap.size<w2.heap.size:=Iu
     have HX2:=hid (And.intro (HOFF.out.trans ((OffB.of_below hx2 hbs).mono hsz)) ((hx2.block b hbs).trans HBR.out));obtain⟨⟨b0,b1,b2,b3⟩,bz⟩:=zR ((hx2.block b hbs).trans HBR.out);have hbs2:b<w2.heap.size:=I7
     have HS2:=hid ((HSEG.out.below hx2).up hx2.size);have HU2:=hid (HUW.out.keep (w':=w2) fun g hg _=>hx2.block g I7);have HE2:=hid (HER.out.below hx2);have HY2:=hid hx2;have HL2:=hid (show Lst B C b p (vars++new) (.slice A0 p.arrays.length c0) (.slice A1 p.funcs.length c1) (.pointer qv) ft nj w wr.heap.size (kG 1 ty name (.slice A3 args.length c3) (.slice A4 thn.length c4) (.slice A5 els.length c5)) thn els (.slice A4 thn.length c4) (.slice A5 els.length c5) (.pointer q) new w2 from⟨HX2.out.1,HX2.out.2,HE2.out,HM2.out,HS4.out.below (hx2.mono HER.out.hB) Zr,HS5.out.below (hx2.mono HER.out.hB) Zr,HS2.out,I7,hBb,hbC,hbl⟩)
     clear hx2 hb2)
  | (go_at_call 110;(with_reducible refine(kC _ w.heap.size _ _ _ _ name Zr HU2.out HS2.out).mono ?_);rintro e w9 ⟨hfp,rfl⟩
     have hfq:e=.returned (.pointer none):=by
      rw[HV.out]at hfp;exact hfp
     clear hfp
     subst hfq)
  | (go_at_call 89
     have hw2:Below w2.heap.size w2 (w2.alloc (.cells #[.string name,.int .i64 ty] 100)):=Zb.alloc Zr _
     (with_reducible refine(xl (w2.alloc (.cells #[.string name,.int .i64 ty] 100)) w.heap.size w2.heap.size (w2.heap.size+1) (.pointer q) _ new.reverse [⟨name,ty⟩] _ Ic Ic (HU2.out.keep fun g hg _=>hw2.block g IF) Qx (HS2.out.below hw2) (slP_at1 (heap_alloc_new w2 _) I7)).mono ?_)
     rintro e w3 ⟨v',rfl,hs3,hb3⟩;have hx3:Below w2.heap.size w2 w3:=hw2.trans (hb3.mono Ic);have hu3:=HU2.out.keep (w':=w3) fun g hg _=>hx3.block g IF
     obtain⟨qv3,rfl⟩:=(hs3.fin hu3).form;have hl3:=HL2.out.below hx3;have HL3:=hid (show Lst B C b p (vars++(new++[⟨name,ty⟩])) (.slice A0 p.arrays.length c0) (.slice A1 p.funcs.length c1) (.pointer qv3) ft nj w wr.heap.size (kG 1 ty name (.slice A3 args.length c3) (.slice A4 thn.length c4) (.slice A5 els.length c5)) thn els (.slice A4 thn.length c4) (.slice A5 els.length c5) (.pointer q) (new++[⟨name,ty⟩]) w3 from⟨hl3.off,hl3.row,⟨hl3.env.hB,hl3.env.hC,hl3.env.ha,hl3.env.hf,Qp⟩,hl3.box,hl3.s4,hl3.s5,Qz,hl3.ne,hl3.hB,hl3.hC,hl3.hb⟩);obtain⟨⟨b0,b1,b2,b3⟩,bz⟩:=zR hl3.row;obtain⟨m0,m1,m2,m3,m4,m5⟩:=qL hl3.box;have hs3z:wr.heap.size<w3.heap.size:=zB hl3.box;have hbs3:b<w3.heap.size:=zB hl3.row
     clear hw2 hs3 hb3 hx3 hu3 hl3)
  | (go_at_call 88
     (with_reducible refine(HIH.out.call HO4.out HP.out HR2.out (HL3.out.set).env hBb hbC (HL3.out.set).row (HL3.out.set).s4).mono ?_)
     rintro e w5 ⟨rfl,ho5,hb5⟩;have h5:=(HL3.out.set).step ho5 hb5;obtain⟨⟨b0,b1,b2,b3⟩,bz⟩:=zR h5.row;obtain⟨m0,m1,m2,m3,m4,m5⟩:=qL h5.box;have hs5z:wr.heap.size<w5.heap.size:=zB h5.box;have H5:=hid h5
     clear ho5 hb5 h5))
 go_ret;have hR1:=chk_thn (p:=p) (r:=l.drop (j+1)) (els:=els) (n:=nj) (R:=(r2,n2)) HOW.out IG h2;rw[HDD.out]at hR1;subst hR1;exact⟨rfl,H5.out.off,H5.out.row⟩):p:=h
theorem Oi{p:Prop}(h:p:=by
 go_wp2_with (first
  | (go_at_call 109;(with_reducible refine(jQ B C b p (vars++new) ty name args _ _ _ _ _ _ _ _ _ _ _ _ ft (W64 nj) _ _ _ HFS.out HE1_.out HE1.out HBB1.out HS3.out HO3.out HP.out).mono ?_);rintro e w2 ⟨rfl,hb2⟩
     have hx2:Below wr.heap.size wr w2:=HW1.out.trans (hb2.mono Ic);have hm2:=qL ((hb2.block wr.heap.size Ic).trans (heap_alloc_new wr _));obtain⟨m0,m1,m2,m3,m4,m5⟩:=hm2;have HM2:=hid ((hb2.block wr.heap.size Ic).trans (heap_alloc_new wr (kG k ty name (.slice A3 args.length c3) (.slice A4 thn.length c4) (.slice A5 els.length c5))));have hs2:wr.heap.size<w2.heap.size:=Iu
     have HX2:=hid (And.intro (HOFF.out.trans ((OffB.of_below hx2 hbs).mono hsz)) ((hx2.block b hbs).trans HBR.out));obtain⟨⟨b0,b1,b2,b3⟩,bz⟩:=zR ((hx2.block b hbs).trans HBR.out);have hbs2:b<w2.heap.size:=I7
     have HS2:=hid ((HSEG.out.below hx2).up hx2.size);have HU2:=hid (HUW.out.keep (w':=w2) fun g hg _=>hx2.block g I7);have HE2:=hid (HER.out.below hx2);have HY2:=hid hx2;have HL2:=hid (show Lst B C b p (vars++new) (.slice A0 p.arrays.length c0) (.slice A1 p.funcs.length c1) (.pointer qv) ft nj w wr.heap.size (kG k ty name (.slice A3 args.length c3) (.slice A4 thn.length c4) (.slice A5 els.length c5)) thn els (.slice A4 thn.length c4) (.slice A5 els.length c5) (.pointer q) new w2 from⟨HX2.out.1,HX2.out.2,HE2.out,HM2.out,HS4.out.below (hx2.mono HER.out.hB) Zr,HS5.out.below (hx2.mono HER.out.hB) Zr,HS2.out,I7,hBb,hbC,hbl⟩)
     clear hx2 hb2)
  | (go_at_call 88
     (with_reducible refine(HIH.out.call HO4.out HP.out HR2.out (HL2.out.set).env hBb hbC (HL2.out.set).row (HL2.out.set).s4).mono ?_)
     rintro e w5 ⟨rfl,ho5,hb5⟩;have h5:=(HL2.out.set).step ho5 hb5;obtain⟨⟨b0,b1,b2,b3⟩,bz⟩:=zR h5.row;obtain⟨m0,m1,m2,m3,m4,m5⟩:=qL h5.box;have hs5z:wr.heap.size<w5.heap.size:=zB h5.box;have H5:=hid h5
     clear ho5 hb5 h5))
 go_ret;have hR1:=chk_thn (p:=p) (r:=l.drop (j+1)) (els:=els) (n:=nj) (R:=(r2,n2)) HOW.out IG h2;rw[HDD.out]at hR1;subst hR1;exact⟨rfl,H5.out.off,H5.out.row⟩):p:=h
theorem chk_own{p:Pr}{ft k b:Int}{name:ByteArray}{args:List Ex}{thn els r:List St}{vars:List Pa}{frm n:Nat}{loop:Bool}{e:Int}(c:kw p ft k b name args vars frm loop=e)(a:e≠0):zf p ft (.mk k b name args thn els::r) vars frm loop n=(e,n):=by
 rw[zf,vL,c,if_pos a,if_pos a]
theorem chk_thn{p:Pr}{ft k a:Int}{name:ByteArray}{args:List Ex}{thn els r:List St}{vars:List Pa}{frm n:Nat}{loop:Bool}{R:Int × Nat}(c:kw p ft k a name args vars frm loop=0)(d:zf p ft thn (j8 k a name vars) (j8 k a name vars).length (loop || decide (k=5)) (n+1)=R)(b:R.1≠0):zf p ft (.mk k a name args thn els::r) vars frm loop n=R:=by
 have e:vL p ft (.mk k a name args thn els) vars frm loop n=R:=by rw[vL,c,if_neg (show ¬(0 :Int)≠0 by decide),d,if_pos b]
 rw[zf,e,if_pos b]
theorem chk_els{p:Pr}{ft k a:Int}{name:ByteArray}{args:List Ex}{thn els r:List St}{vars:List Pa}{frm n n1:Nat}{loop:Bool}{R:Int × Nat}(b:kw p ft k a name args vars frm loop=0)(c:zf p ft thn (j8 k a name vars) (j8 k a name vars).length (loop || decide (k=5)) (n+1)=(0,n1))(d:zf p ft els (j8 k a name vars) (j8 k a name vars).length loop n1=R)(g:R.1≠0):zf p ft (.mk k a name args thn els::r) vars frm loop n=R:=by
 have e:vL p ft (.mk k a name args thn els) vars frm loop n=R:=U4
 rw[zf,e,if_pos g]
theorem chk_on{p:Pr}{ft k a:Int}{name:ByteArray}{args:List Ex}{thn els r:List St}{vars:List Pa}{frm n n1 n2:Nat}{loop:Bool}(b:kw p ft k a name args vars frm loop=0)(c:zf p ft thn (j8 k a name vars) (j8 k a name vars).length (loop || decide (k=5)) (n+1)=(0,n1))(d:zf p ft els (j8 k a name vars) (j8 k a name vars).length loop n1=(0,n2)):zf p ft (.mk k a name args thn els::r) vars frm loop n=zf p ft r (j8 k a name vars) frm loop n2:=by
 have e:vL p ft (.mk k a name args thn els) vars frm loop n=(0,n2):=U4
 rw[zf,e,if_neg (show ¬(0 :Int)≠0 by decide),letS]
structure Lst (B C b:Nat) (p:Pr) (vX:List Pa) (v0 v1 v:Value) (ft:Int) (n:Nat) (w:World) (m:Nat) (so:Obj) (thn els:List St) (v4 v5:Value) (u:Value) (new:List Pa) (W:World):Prop where
 off:OffB b w.heap.size w W
 row:W.heap[b]? =some (ckO v0 v1 ft (W64 n))
 env:Env B C p vX v0 v1 v W
 box:W.heap[m]? =some so
 s4:SlS B W v4 thn
 s5:SlS B W v5 els
 seg:Seg W w.heap.size u W.heap.size v new.reverse
 ne:m≠b
 hB:B<=b
 hC:b<C
 hb:b<w.heap.size
section
variable {B C b:Nat} {p:Pr} {vX:List Pa} {v0 v1 v:Value} {ft:Int} {n:Nat} {w:World} {m:Nat} {so:Obj} {thn els:List St} {v4 v5:Value} {u:Value} {new:List Pa} {W W':World}
theorem Lst.step(a:Lst B C b p vX v0 v1 v ft n w m so thn els v4 v5 u new W)(c:OffB b W.heap.size W W'){d:Nat}(hb:W'.heap[b]? =some (ckO v0 v1 ft (W64 d))):Lst B C b p vX v0 v1 v ft d w m so thn els v4 v5 u new W' where
 off:=a.off.trans (c.mono a.off.size)
 row:=hb
 env:=a.env.off c a.hB a.hC
 box:=(c.block (zB a.box) a.ne).trans a.box
 s4:=a.s4.below (vy c a.env.hB a.hB) Zr
 s5:=a.s5.below (vy c a.env.hB a.hB) Zr
 seg:=(a.seg.keep fun g h e=>c.block e (by have:=a.hb;omega)).up c.size
 ne:=a.ne
 hB:=a.hB
 hC:=a.hC
 hb:=a.hb
theorem Lst.set(a:Lst B C b p vX v0 v1 v ft n w m so thn els v4 v5 u new W):Lst B C b p vX v0 v1 v ft (n+1) w m so thn els v4 v5 u new (W.setCell ⟨b,3,none⟩ (.int .i64 (W64 (n+1)))):=
 a.step ((OffB.refl b _ W).setb (zB a.row) 3 _) (Lib.heap_setCell_same a.row _)
theorem Lst.below(a:Lst B C b p vX v0 v1 v ft n w m so thn els v4 v5 u new W)(c:Below W.heap.size W W'):Lst B C b p vX v0 v1 v ft n w m so thn els v4 v5 u new W':=
 a.step (OffB.of_below c (zB a.row)) ((c.block b (zB a.row)).trans a.row)
end
theorem slP_at1{w:World}{b B:Nat}{s:ByteArray}{t:Int}{T:TypeId}{fr:Nat × Nat}(d:w.heap[b]? =some (.cells #[.string s,.int .i64 t] T fr))(a:b<B):SlP B w (.slice (some ⟨b,0,none⟩) 1 1) [⟨s,t⟩]:=
 ⟨⟨_,1,rfl,Ia,fun _=>⟨b,0,rfl,⟨⟨yb d a _ _ rfl,yb d a _ _ rfl⟩,trivial⟩⟩⟩,fun g n c e=>by injection e with _ h i;omega⟩
theorem list_step(m:Nat)(ih:∀m',m'+1=m->LsC m'):LsC m:=by
 intro B C b p vars l loop n R vl v0 v1 v ft w hok hp hR hE hBb hbC hb hl;obtain⟨A0,c0,A1,c1,q,rfl,rfl,rfl⟩:=hE.form;obtain⟨A,c,rfl,hn⟩:=hl.form;have hbl:=zB hb;have HE:=hid hE;have HBB:=hid hb;have HL:=hid hl;have HOK:=hid hok;have HP:=hid hp;have HR:=hid hR;have HI:=hid ih;clear hE hb hl hok hp hR ih;go_enter Tryz.func88,Tryz.ntmps88;go_wp2_with (fail)
 go_loopw [9,18] (fun vv iv wr=>∃(j nj:Nat) (new:List Pa),j<=l.length/\iv=.int .i64 j/\zf p ft (l.drop j) (vars++new) vars.length loop nj=R/\Seg wr w.heap.size (.pointer q) wr.heap.size vv new.reverse/\OffB b w.heap.size w wr/\wr.heap[b]? =some (ckO (.slice A0 p.arrays.length c0) (.slice A1 p.funcs.length c1) ft (W64 nj))) (fun _ iv _=>l.length-(intOf iv).toNat)
 case atStart=>exact⟨0,n,[],Nat.zero_le _,rfl,by rw[List.append_nil];exact HR.out,Seg.none _ _ _ _ Zr,OffB.refl _ _ _,HBB.out⟩
 case round=>
  obtain⟨j,nj,new,hj,rfl,hT,hseg,hoff,hbr⟩:=hrel;have hsz:=hoff.size;have hEw:=HE.out.off hoff hBb hbC;have hUw:=fin_off (HE.out.hs.fin (Fin.nil _ _)) hoff Zr HBB.out;obtain⟨qv,rfl⟩:=(hseg.fin hUw).form;have hEr:Env B C p (vars++new) (.slice A0 p.arrays.length c0) (.slice A1 p.funcs.length c1) (.pointer qv) wr:=⟨hEw.hB,hEw.hC,hEw.ha,hEw.hf,by rw[List.reverse_append];exact hseg.join (HE.out.hs.keep fun g hg hl=>hoff.block hl I7)⟩
  have hbs:b<wr.heap.size:=zB hbr;have HT:=hid hT;have HOFF:=hid hoff;have HBR:=hid hbr;have HSEG:=hid hseg;have HER:=hid hEr;have HUW:=hid hUw;clear hT hseg hEw hUw hEr;by_cases hlt:j<l.length
  .obtain⟨⟨k,ty,name,args,thn,els⟩,he⟩:∃e,l[j]? =some e:=⟨_,List.getElem?_eq_getElem hlt⟩
   obtain⟨g,o,v3,v4,v5,rfl,hg,h0,h1,h2,h3,h4,h5,hs,hs4,hs5⟩:=(HL.out.below (vy hoff HE.out.hB hBb) Zr).cells he;obtain⟨A3,c3,rfl,_⟩:=hs.form;obtain⟨A4,c4,rfl,_⟩:=hs4.form;obtain⟨A5,c5,rfl,_⟩:=hs5.form;have HE_:=hid he;have hgs:g<wr.heap.size:=by have:=HER.out.hB;omega
   have hst:=stsOK_el HOK.out he;rw[kH]at hst;simp only[Bool.and_eq_true,decide_eq_true_eq]at hst;obtain⟨m',rfl⟩:∃m',m=m'+1:=⟨m-1,I7⟩
   rw[Nat.add_sub_cancel]at hst;have HIH:=hid (HI.out m' rfl);have HO4:=hid hst.1.2;have HO5:=hid hst.2;have HO3:=hid hst.1.1.2;have HFS:=hid hst.1.1.1.2;have hb1:Below wr.heap.size wr (wr.alloc (kG k ty name (.slice A3 args.length c3) (.slice A4 thn.length c4) (.slice A5 els.length c5))):=Zb.alloc Zr _;have HW1:=hid hb1;have HE1:=hid (HER.out.below hb1);have HBB1:=hid ((hb1.block b hbs).trans hbr);have HS3:=hid (hs.below (hb1.mono HER.out.hB) Zr);have HS4:=hid hs4;have HS5:=hid hs5;have hdd:=HT.out;rw[drop_at he]at hdd;have HDD:=hid hdd;obtain⟨e1,he1⟩:∃e,jP p (vars++new) ft k ty name args loop=e:=⟨_,rfl⟩
   have HE1_:=hid he1;have hoc:=own_cases (p:=p) (vars:=vars++new) (ft:=ft) (frm:=vars.length) (loop:=loop) hst.1.1.1.2;rw[he1,List.drop_left]at hoc;have HOC:=hid hoc;clear he hs hs4 hs5 hst hb1 hdd he1 hoc hoff hbr;by_cases he0:e1=0
   case neg=>
    go_wp2_with (go_at_call 109;(with_reducible refine(jQ B C b p (vars++new) ty name args _ _ _ _ _ _ _ _ _ _ _ _ ft (W64 nj) _ _ _ HFS.out HE1_.out HE1.out HBB1.out HS3.out HO3.out HP.out).mono ?_);rintro e w2 ⟨rfl,hb2⟩
                 have hx2:Below wr.heap.size wr w2:=HW1.out.trans (hb2.mono Ic);have hm2:=qL ((hb2.block wr.heap.size Ic).trans (heap_alloc_new wr _));obtain⟨m0,m1,m2,m3,m4,m5⟩:=hm2;have HM2:=hid ((hb2.block wr.heap.size Ic).trans (heap_alloc_new wr (kG k ty name (.slice A3 args.length c3) (.slice A4 thn.length c4) (.slice A5 els.length c5))));have hs2:wr.heap.size<w2.heap.size:=Iu
                 have HX2:=hid (And.intro (HOFF.out.trans ((OffB.of_below hx2 hbs).mono hsz)) ((hx2.block b hbs).trans HBR.out));obtain⟨⟨b0,b1,b2,b3⟩,bz⟩:=zR ((hx2.block b hbs).trans HBR.out);have hbs2:b<w2.heap.size:=I7
                 have HS2:=hid ((HSEG.out.below hx2).up hx2.size);have HU2:=hid (HUW.out.keep (w':=w2) fun g hg _=>hx2.block g I7);have HE2:=hid (HER.out.below hx2);have HY2:=hid hx2;have HL2:=hid (show Lst B C b p (vars++new) (.slice A0 p.arrays.length c0) (.slice A1 p.funcs.length c1) (.pointer qv) ft nj w wr.heap.size (kG k ty name (.slice A3 args.length c3) (.slice A4 thn.length c4) (.slice A5 els.length c5)) thn els (.slice A4 thn.length c4) (.slice A5 els.length c5) (.pointer q) new w2 from⟨HX2.out.1,HX2.out.2,HE2.out,HM2.out,HS4.out.below (hx2.mono HER.out.hB) Zr,HS5.out.below (hx2.mono HER.out.hB) Zr,HS2.out,I7,hBb,hbC,hbl⟩)
                 clear hx2 hb2)
    go_ret;have hR1:=chk_own (p:=p) (r:=l.drop (j+1)) (thn:=thn) (els:=els) (n:=nj) (HOC.out.trans (if_pos he0)) he0;rw[HDD.out]at hR1;subst hR1;exact⟨rfl,HX2.out.1,HX2.out.2⟩
   case pos=>
    subst he0;by_cases hk1:k=1
    case pos=>
     subst hk1;obtain⟨o1,ho1⟩:∃o,kI new name=o:=⟨_,rfl⟩
     have HV:=hid ((xV name new).symm.trans ho1);cases o1 with
     | some t=>
       go_wp2_with (first
        | (go_at_call 109;(with_reducible refine(jQ B C b p (vars++new) ty name args _ _ _ _ _ _ _ _ _ _ _ _ ft (W64 nj) _ _ _ HFS.out HE1_.out HE1.out HBB1.out HS3.out HO3.out HP.out).mono ?_);rintro e w2 ⟨rfl,hb2⟩
           have hx2:Below wr.heap.size wr w2:=HW1.out.trans (hb2.mono Ic);have hm2:=qL ((hb2.block wr.heap.size Ic).trans (heap_alloc_new wr _));obtain⟨m0,m1,m2,m3,m4,m5⟩:=hm2;have HM2:=hid ((hb2.block wr.heap.size Ic).trans (heap_alloc_new wr (kG 1 ty name (.slice A3 args.length c3) (.slice A4 thn.length c4) (.slice A5 els.length c5))));have hs2:wr.heap.size<w2.heap.size:=Iu
           have HX2:=hid (And.intro (HOFF.out.trans ((OffB.of_below hx2 hbs).mono hsz)) ((hx2.block b hbs).trans HBR.out));obtain⟨⟨b0,b1,b2,b3⟩,bz⟩:=zR ((hx2.block b hbs).trans HBR.out);have hbs2:b<w2.heap.size:=I7
           have HS2:=hid ((HSEG.out.below hx2).up hx2.size);have HU2:=hid (HUW.out.keep (w':=w2) fun g hg _=>hx2.block g I7);have HE2:=hid (HER.out.below hx2);have HY2:=hid hx2;have HL2:=hid (show Lst B C b p (vars++new) (.slice A0 p.arrays.length c0) (.slice A1 p.funcs.length c1) (.pointer qv) ft nj w wr.heap.size (kG 1 ty name (.slice A3 args.length c3) (.slice A4 thn.length c4) (.slice A5 els.length c5)) thn els (.slice A4 thn.length c4) (.slice A5 els.length c5) (.pointer q) new w2 from⟨HX2.out.1,HX2.out.2,HE2.out,HM2.out,HS4.out.below (hx2.mono HER.out.hB) Zr,HS5.out.below (hx2.mono HER.out.hB) Zr,HS2.out,I7,hBb,hbC,hbl⟩)
           clear hx2 hb2)
        | (go_at_call 110;(with_reducible refine(kC _ w.heap.size _ _ _ _ name Zr HU2.out HS2.out).mono ?_);rintro e w9 ⟨hfp,rfl⟩
           have hfq:∃g,e=.returned (.pointer (some ⟨g,0,none⟩)):=by
            rw[HV.out]at hfp;obtain⟨g,h,_⟩:=hfp;exact⟨g,h⟩
           clear hfp
           obtain⟨gv,rfl⟩:=hfq))
       go_ret;have hR1:=chk_own (p:=p) (r:=l.drop (j+1)) (thn:=thn) (els:=els) (n:=nj) (e:=(50 :Int)) (HOC.out.trans (by rw[ho1];simp)) I8;rw[HDD.out]at hR1;subst hR1;exact⟨rfl,HX2.out.1,HX2.out.2⟩
     | none=>
       have hadd:=w64_succ nj;have HVX:=hid (show j8 1 ty name (vars++new)=vars++(new++[⟨name,ty⟩])by unfold j8;rw[if_pos rfl,List.append_assoc]);have HOW:=hid (show kw p ft 1 ty name args (vars++new) vars.length loop=0 from HOC.out.trans (by rw[ho1];simp));clear ho1;cases loop
       .obtain⟨⟨r2,n2⟩,hR2⟩:∃R,zf p ft thn (vars++(new++[(⟨name,ty⟩:Pa)])) (vars++(new++[(⟨name,ty⟩:Pa)])).length false (nj+1)=R:=⟨_,rfl⟩
        have HR2:=hid hR2;clear hR2;by_cases h2:r2=0
        case neg=>
         exact Oh
        case pos=>
         subst h2;obtain⟨⟨r3,n3⟩,hR3⟩:∃R,zf p ft els (vars++(new++[(⟨name,ty⟩:Pa)])) (vars++(new++[(⟨name,ty⟩:Pa)])).length false n2=R:=⟨_,rfl⟩
         exact Of
       .obtain⟨⟨r2,n2⟩,hR2⟩:∃R,zf p ft thn (vars++(new++[(⟨name,ty⟩:Pa)])) (vars++(new++[(⟨name,ty⟩:Pa)])).length true (nj+1)=R:=⟨_,rfl⟩
        have HR2:=hid hR2;clear hR2;by_cases h2:r2=0
        case neg=>
         exact Oh
        case pos=>
         subst h2;obtain⟨⟨r3,n3⟩,hR3⟩:∃R,zf p ft els (vars++(new++[(⟨name,ty⟩:Pa)])) (vars++(new++[(⟨name,ty⟩:Pa)])).length true n2=R:=⟨_,rfl⟩
         exact Of
    case neg=>
     have n1:(k == 1)=false:=by simp[hk1]
     have hadd:=w64_succ nj;have hvx:j8 k ty name (vars++new)=vars++new:=by unfold j8;rw[if_neg hk1]
     have HVX:=hid hvx;have HOW:=hid (HOC.out.trans (by rw[if_neg (show ¬(0 :Int)≠0 by decide),if_neg (fun h=>hk1 h.1)]));clear hvx;cases loop
     .obtain⟨⟨r2,n2⟩,hR2⟩:∃R,zf p ft thn (vars++new) (vars++new).length (k == 5) (nj+1)=R:=⟨_,rfl⟩
      have HR2:=hid hR2;clear hR2;by_cases h2:r2=0
      case neg=>
       exact Oi
      case pos=>
       subst h2;obtain⟨⟨r3,n3⟩,hR3⟩:∃R,zf p ft els (vars++new) (vars++new).length false n2=R:=⟨_,rfl⟩
       exact Og
     .obtain⟨⟨r2,n2⟩,hR2⟩:∃R,zf p ft thn (vars++new) (vars++new).length true (nj+1)=R:=⟨_,rfl⟩
      have HR2:=hid hR2;clear hR2;by_cases h2:r2=0
      case neg=>
       exact Oi
      case pos=>
       subst h2;obtain⟨⟨r3,n3⟩,hR3⟩:∃R,zf p ft els (vars++new) (vars++new).length true n2=R:=⟨_,rfl⟩
       exact Og
  .go_wp2_with (fail)
   go_ret;have hd:=HT.out;rw[List.drop_of_length_le I7,zf]at hd;subst hd;exact⟨rfl,HOFF.out,HBR.out⟩
theorem list_all:∀m,LsC m
 | 0=>list_step 0 fun _ a=>I7
 | m+1=>list_step (m+1) fun m' a=>by
   obtain rfl:m'=m:=I7
   exact list_all m'
end Go.Proofs.YthcmenajdcbnnaaGreatDoor
namespace Go.Proofs.YthcmenajdcbnnaaGreatDoor
open Lib (hid)
open Go.RowKit Go.Maps Go.WideMaps
def nod:List ByteArray->Bool
 | []=>true
 | s::r=>!(r.any fun x=>decide (x=s)) && nod r
def SlN(B:Nat)(w:World)(v:Value)(l:List ByteArray):Prop:=v9 v l.length (RdL 1 (fun(s:ByteArray) g o=>CellB B w g o (.string s)) l)
theorem SlN.below{B a:Nat}{w w':World}{v:Value}{l:List ByteArray}(b:SlN B w v l)(d:Below B w w')(c:B<=a):SlN a w' v l:=v9.imp b fun g o=>RdL.imp (fun _ _ _ e=>e.below d c) l g o
theorem SlN.form{B:Nat}{w:World}{v:Value}{l:List ByteArray}(c:SlN B w v l):∃a b,v=.slice a l.length b/\l.length<=281474976710656:=by
 obtain⟨a,b,e,d,_⟩:=c;exact⟨a,b,e,d⟩
theorem SlN.cells{B:Nat}{w:World}{a:Option Addr}{n c:Nat}{l:List ByteArray}(d:SlN B w (.slice a n c) l){i:Nat}{t:ByteArray}(b:l[i]? =some t):
 ∃(g o:Nat),a=some ⟨g,o,none⟩/\g<B/\w.cell? ⟨g,o+i,none⟩=some (.string t):=by
 obtain⟨g,o,e,h⟩:=v9.elem d rfl Qv;have:=RdL.at l g o i t h b;rw[Nat.mul_one]at this;exact⟨g,o,e,this.1,this.2⟩
def uA(s:ByteArray):Lit:=.string s.data.toList
def setN{H:Type}(l:List ByteArray):DataW H:=setOf (.agg []) (l.map uA)
theorem setN_snoc{H:Type}(l:List ByteArray)(s:ByteArray):setN (H:=H) (l++[s])=(setN l).put (uA s) (.agg []):=by
 unfold setN;rw[List.map_append];exact setOf_snoc _ _ _
theorem lawN:Keyed Tryz.prog 9:=string_keyed Tryz.underlying9
theorem keyN_same(a b:ByteArray):(uA a).sameKey (uA b)=decide (a=b):=by
 unfold uA;rw[Bool.eq_iff_iff,decide_eq_true_iff];constructor
 .intro d
  have c:=WideAt.sameKey_eq d;injection c with c;cases a;cases b
  simp_all
 .rintro rfl
  exact WideAt.sameKey_self trivial
theorem addN_len:∀(l acc:List ByteArray),((l.map uA).foldl addKey (acc.map uA)).length<=acc.length+l.length/\(((l.map uA).foldl addKey (acc.map uA)).length=acc.length+l.length↔(nod l=true/\∀s∈l,s ∉ acc))
 | [],acc=>by simp[nod]
 | s::r,acc=>by
   rw[List.map_cons,List.foldl_cons]
   have j:((acc.map uA).any (fun o=>o.sameKey (uA s))=true)↔s∈acc:=by
    rw[List.any_map,List.any_eq_true];constructor
    .rintro⟨x,b,a⟩
     simp only[Function.comp,keyN_same,decide_eq_true_eq]at a;exact a ▸ b
    .intro a
     exact⟨s,a,by simp[Function.comp,keyN_same]⟩
   by_cases a:s∈acc
   .have e:addKey (acc.map uA) (uA s)=acc.map uA:=by unfold addKey;rw[if_pos (j.2 a)]
    rw[e];have i:=addN_len r acc;constructor
    .rw[List.length_cons];omega
    .constructor
     .intro m
      rw[List.length_cons]at m;omega
     .rintro⟨_,c⟩
      exact absurd a (c s (List.mem_cons_self ..))
   .have e:addKey (acc.map uA) (uA s)=(acc++[s]).map uA:=by
     unfold addKey;rw[if_neg (fun g=>a (j.1 g)),List.map_append];rfl
    rw[e];have i:=addN_len r (acc++[s]);rw[List.length_append,List.length_singleton]at i;constructor
    .rw[List.length_cons];omega
    .rw[List.length_cons,show acc.length+(r.length+1)=acc.length+1+r.length by omega,i.2]
     have g:((!(r.any fun x=>decide (x=s)))=true)↔s ∉ r:=by
      rw[Bool.not_eq_true',List.any_eq_false];simp only[decide_eq_true_eq];exact⟨fun a h=>a s h rfl,fun a x b e=>a (e ▸ b)⟩
     rw[nod,Bool.and_eq_true,g];simp only[List.mem_cons,List.mem_append,List.not_mem_nil,or_false,not_or];constructor
     .rintro⟨d,c⟩
      exact⟨⟨fun h=>(c s h).2 rfl,d⟩,fun x b=>by
       rcases b with rfl|b
       .exact a
       .exact(c x b).1⟩
     .rintro⟨⟨d,c⟩,k⟩
      exact⟨c,fun x b=>⟨k x (.inr b),fun e=>d (e ▸ b)⟩⟩
theorem setN_size{H:Type}(l:List ByteArray):(Maps.size (setN (H:=H) l)=l.length↔nod l=true)/\Maps.size (setN (H:=H) l)<=l.length:=by
 have b:Maps.size (setN (H:=H) l)=((l.map uA).foldl addKey []).length:=size_setOf _ _ fun x c=>by
  obtain⟨s,_,rfl⟩:=List.mem_map.1 c;trivial
 have a:=addN_len l [];simp only[List.map_nil,List.length_nil,Nat.zero_add,List.not_mem_nil,not_false_eq_true,implies_true,and_true]at a;rw[b];exact⟨a.2,a.1⟩
theorem jm(B:Nat)(l:List ByteArray)(r:Bool)(v:Value)(w:World)(I:B<=w.heap.size)(m:SlN B w v l)(a:∀s∈l,s.size<=maxLen)(u:nod l=r):
 Calls Tryz.prog 63 #[v] w fun e w'=>e=.returned (.bool r)/\Below w.heap.size w w':=by
 obtain⟨O,c,rfl,T⟩:=m.form;have S:=@run_makeMap Tryz.prog;have y:=hid m;have F:=hid a;have C:=hid u;clear m a u;go_enter Tryz.func63,Tryz.ntmps63;go_wp2_with (fail)
 go_loopw [9] (fun iv wr=>∃j:Nat,j<=l.length/\iv=.int .i64 j/\wr.ownsMap Tryz.prog 9 (unitElem (H:=Unit)) w.heap.size j (setN (H:=Unit) (l.take j))/\Below w.heap.size w wr) (fun iv _=>l.length-(intOf iv).toNat)
 case atStart=>exact⟨0,Nat.zero_le _,rfl,World.ownsMap_made _ _ _ _,Zb.alloc Zr _⟩
 case round=>
  obtain⟨j,R,rfl,d,b⟩:=hrel;have p:=hid b;have U:=b.size;by_cases M:j<l.length
  .obtain⟨s,h⟩:∃e,l[j]? =some e:=⟨_,List.getElem?_eq_getElem M⟩
   obtain⟨g,o,rfl,P,W⟩:=(y.out.below (b.mono I) Zr).cells h;have Q:g<wr.heap.size:=I7
   have L:keyOf Tryz.prog 9 (.string s)=some (uA s):=keyOf_string_mk Tryz.underlying9 (F.out s (List.mem_of_getElem? h));have D:=hid h;clear h b;go_wp2_with (at_mapUpdate;refine wpList_mapUpdate_own _ rfl _ _ _ 150 rfl 9 151 lawN Tryz.underlying150 (unitElem (H:=Unit)) w.heap.size j _ rfl d IX _ _ _ rfl rfl L _ [] unitElem_mk ?_;intro X t q;have A:=hid t;have x:=hid q;clear t q);go_roundw
   case rel=>
    refine⟨j+1,I7,by go_num,?_,p.out.grown x.out I7 fun k K=>by cases K;exact Nat.le_refl _⟩;rw[List.take_add_one,D.out,Option.toList_some,setN_snoc];exact A.out
   case measure=>simp[intOf];omega
  .have J:j=l.length:=by omega
   subst J;have N:wr.ownsMap Tryz.prog 9 (unitElem (H:=Unit)) w.heap.size l.length (setN (H:=Unit) l):=by rw[List.take_of_length_le Zr]at d;exact d
   have i:=setN_size (H:=Unit) l;obtain⟨z,a⟩:∃z,Maps.size (setN (H:=Unit) l)=z:=⟨_,rfl⟩
   rw[a]at i;have E:=hid i;have V:z<=l.length:=i.2;have G:=hid a;clear d i b a;go_wp2_with (at_len;refine wpList_len_own _ rfl _ 150 rfl 9 151 Tryz.underlying150 (unitElem (H:=Unit)) w.heap.size l.length _ rfl N ?_;rw[G.out]);go_ret;refine⟨zC ?_,p.out⟩;rw[<-C.out,Bool.eq_iff_iff,<-E.out.1];simp;omega
end Go.Proofs.YthcmenajdcbnnaaGreatDoor
