import Derived.Test.YtfghofifjnbicaaGreatDoorAhZed
import Derived.Test.YtfghofifjnbicaaGreatDoorAhParBlk
import Derived.Test.YtfghofifjnbicaaGreatDoorAhTyLs
import Derived.Test.YtfghofifjnbicaaGreatDoorAhTokRefA
set_option linter.unusedSimpArgs false
set_option linter.unusedVariables false
set_option maxRecDepth 100000
/- The contract of the document's block: the first error of a list of statements, and its number. (By tools/gen_tybl.py.) -/
namespace Go.Proofs.YtfghofifjnbicaaGreatDoor
open Lib (hid)
open Go.RowKit
set_option maxHeartbeats 8000000 in
theorem cblock_step (m:Nat) (ih:∀ m',m'+1=m→BlC m'):BlC m:=by
 intro B b p vars l loop n R vl v0 v1 v fs ft v2 v3 w hok hp hR hE hb hl hcn;obtain⟨A0,c0,A1,c1,A2,c2,rfl,rfl,rfl⟩:=hE.form;obtain⟨A,c,rfl,hn⟩:=hl.form;obtain⟨i0,hi,hz0,hz1,hz2⟩:=info_parts pa_info2;have HI0:=hid (And.intro hi (And.intro hz0 (And.intro hz1 hz2)));have hbl:=hE.hb;have hvl:vars.length≤1000000000:=by omega
 have HE:=hid hE;have HBB:=hid hb;have HL:=hid hl;have HOK:=hid hok;have HP:=hid hp;have HR:=hid hR;have HI:=hid ih;have HCN:=hid hcn;have HN0:=hid (World.ownsRow_nil w w.heap.size 47 2)
 have HA1:=hid (show A2=none→vars.length=0 from fun h=>by
  subst h;by_cases h0:0<vars.length
  · obtain⟨g,o,hA,_⟩:=xF.elem hE.renv.hv.1 rfl h0
    cases hA
  · omega)
 have HA2:=hid (show ∀ ad,A2=some ad→∀ j u,(vars.flatMap kP.cs)[j]? =some u→w.cell? (ad.add j)=some u from fun ad h j u hj=>by
  subst h;by_cases h0:0<vars.length
  · obtain⟨g,o,hA,hr⟩:=xF.elem hE.renv.hv.1 rfl h0
    injection hA with hA;subst hA;rw[addr_add];exact pars_cells vars g o hr j u hj
  · obtain rfl:vars=[]:=List.eq_nil_of_length_eq_zero (by omega)
    simp at hj)
 clear hE hb hl hok hp hR ih hi hz0 hz1 hz2 hcn;go_enter Tryz.func31,Tryz.ntmps31
 go_wp2_with (at_builtin;refine kY rfl (.tmp 15) (.tmp 16) _ rfl w.heap.size 47 i0 _ 2 24 Tryz.underlying42 HI0.out.1 HI0.out.2.1 HI0.out.2.2.1 HI0.out.2.2.2 rfl (by omega) (.slice none 0 0) 0 [] rfl (by exact HN0.out) A2 vars.length c2 (vars.flatMap kP.cs) rfl (pars_len vars) HA1.out HA2.out (par_one vars) (by simp only[maxLen];omega) (by omega) Zr ?_
              intro vs w1 hown1 hg1;rw[Nat.zero_add,List.nil_append]at hown1;obtain⟨A9,c9,rfl⟩:=qT hown1;have HO1:=hid hown1;have HB1:=hid (show Below w.heap.size w w1 from Zb.grown hg1 Zr fun k hk=>by cases hk)
              clear hown1 hg1)
 go_loopw [9,10] (fun vv iv wr=>∃ (j nj:Nat) (new:List Pa),j≤l.length∧iv=.int .i64 j∧zd p ft (l.drop j) (vars++new) vars.length loop nj=R∧wr.ownsRow w.heap.size 47 2 vv (vars++new).length ((vars++new).flatMap kP.cs)∧OffB b w.heap.size w wr∧wr.heap[b]? =some (rckO (.slice A0 p.arrays.length c0) (.slice A1 p.funcs.length c1) fs ft v2 v3 (W64 nj))∧new.length+cntSs (l.drop j)≤cntSs l) (fun _ iv _=>l.length-(intOf iv).toNat)
 case atStart=>exact⟨0,n,[],Nat.zero_le _,rfl,by rw[List.append_nil];exact HR.out,by rw[List.append_nil];exact HO1.out,OffB.of_below HB1.out hbl,(HB1.out.block b hbl).trans HBB.out,by simp⟩
 case round=>
  obtain⟨j,nj,new,hj,rfl,hT,hown,hoff,hbr,hcnt⟩:=hrel;have hsz:=hoff.size;have hEw:=HE.out.off hoff;obtain⟨A8,c8,rfl⟩:=qT hown;have hvn:(vars++new).length≤1000000000:=by have:=HCN.out;rw[List.length_append];omega
  have hEr:BEnv B b p (vars++new) (.slice A0 p.arrays.length c0) (.slice A1 p.funcs.length c1) (.slice A8 (vars++new).length c8) wr:=⟨hEw.hB,hEw.hBb,hEw.hb,hEw.ha,hEw.hf,kD hown (by omega) (by omega)⟩
  have hbs:b<wr.heap.size:=zB hbr;obtain⟨nvl,hnvl⟩:∃ k,(vars++new).length=k:=⟨_,rfl⟩
  have HNV:=hid hnvl;rw[hnvl]at hown hEr;rw[hnvl];have HT:=hid hT;have HOFF:=hid hoff;have HBR:=hid hbr;have HOWN:=hid hown;have HER:=hid hEr;have HCNT:=hid hcnt;have HVN:=hid hvn;clear hT hown hEw hEr hcnt hnvl hvn;by_cases hlt:j<l.length
  · obtain⟨⟨k,ty,name,args,thn,els⟩,he⟩:∃ e,l[j]? =some e:=⟨_,List.getElem?_eq_getElem hlt⟩
    obtain⟨g,o,x3,x4,x5,rfl,hg,h0,h1,h2,h3,h4,h5,hs,hs4,hs5⟩:=(HL.out.below (qt hoff HE.out.hB HE.out.hBb) Zr).cells he;obtain⟨A3,c3,rfl,_⟩:=hs.form;obtain⟨A4,c4,rfl,_⟩:=hs4.form;obtain⟨A5,c5,rfl,_⟩:=hs5.form;have HE_:=hid he;have hgs:g<wr.heap.size:=by have:=HER.out.hB;omega
    have hst:=yQ HOK.out he;rw[ja]at hst;simp only[Bool.and_eq_true,decide_eq_true_eq]at hst;obtain⟨m',rfl⟩:∃ m',m=m'+1:=⟨m-1,by omega⟩
    rw[Nat.add_sub_cancel]at hst;have HIH:=hid (HI.out m' rfl);have HO4:=hid hst.1.2;have HO5:=hid hst.2;have HO3:=hid hst.1.1.2;have HFS:=hid hst.1.1.1.2;have hb1:Below wr.heap.size wr (wr.alloc (qC k ty name (.slice A3 args.length c3) (.slice A4 thn.length c4) (.slice A5 els.length c5))):=Zb.alloc Zr _;have HW1:=hid hb1;have HE1:=hid (HER.out.below hb1).renv;have HBB1:=hid ((hb1.block b hbs).trans hbr);have HS3:=hid (hs.below (hb1.mono HER.out.hB) (HER.out.below hb1).hB);have HS4:=hid hs4;have HS5:=hid hs5;have hdd:=HT.out;rw[jv he]at hdd;have HDD:=hid hdd;have HCD:=hid (cntSs_drop he);obtain⟨e1,he1⟩:∃ e,qh p ft k ty name args (vars++new) vars.length loop=e:=⟨_,rfl⟩
    have HE1_:=hid he1;have HFR:=hid (show vars.length≤(vars++new).length by rw[List.length_append];omega);clear he hs hs4 hs5 hst hb1 hdd he1 hoff hbr;have hadd:=w64_succ nj;by_cases he0:e1=0
    case neg=>
     go_wp2_with (go_at_call 65;(with_reducible refine(jO _ b p (vars++new) ty name args vars.length _ _ _ _ _ _ _ _ _ _ _ _ v2 v3 fs ft (W64 nj) _ _ _ HFS.out HE1_.out HE1.out HBB1.out HS3.out HO3.out HP.out HFR.out).mono ?_);rintro e w2 ⟨rfl,hb2⟩
                  have hx2:Below wr.heap.size wr w2:=HW1.out.trans (hb2.mono (by rw[zA];omega));have hm2:=(hb2.block wr.heap.size (by rw[zA];omega)).trans (heap_alloc_new wr (qC k ty name (.slice A3 args.length c3) (.slice A4 thn.length c4) (.slice A5 els.length c5)));obtain⟨m0,m1,m2,m3,m4,m5⟩:=zQ hm2;have hs2:wr.heap.size<w2.heap.size:=by have:=hb2.size;rw[zA]at this;omega
                  have HX2:=hid (And.intro (HOFF.out.trans ((OffB.of_below hx2 hbs).mono hsz)) ((hx2.block b hbs).trans HBR.out));obtain⟨⟨b0,b1,b2,b3,b4,b5,b6⟩,bz⟩:=zN ((hx2.block b hbs).trans HBR.out);have hbs2:b<w2.heap.size:=by omega
                  have HL2:=hid (show Rst B b p (vars++new) (.slice A0 p.arrays.length c0) (.slice A1 p.funcs.length c1) (.slice A8 nvl c8) fs ft v2 v3 nj w wr.heap.size (qC k ty name (.slice A3 args.length c3) (.slice A4 thn.length c4) (.slice A5 els.length c5)) thn els (.slice A4 thn.length c4) (.slice A5 els.length c5) w2 from⟨HX2.out.1,HX2.out.2,HER.out.below hx2,hm2,HS4.out.below (hx2.mono HER.out.hB) Zr,HS5.out.below (hx2.mono HER.out.hB) Zr,(by have h:=z7 (w':=w2) HOWN.out fun g hg=>hx2.block g (zM HOWN.out g hg).2;rw[←HNV.out]at h ⊢;exact h),by omega,hbl⟩)
                  clear hx2 hb2 hm2)
     go_ret;have hR1:=chk_own (p:=p) (r:=l.drop (j+1)) (thn:=thn) (els:=els) (n:=nj) HE1_.out he0;rw[HDD.out]at hR1;subst hR1;exact⟨rfl,HX2.out.1,HX2.out.2⟩
    case pos=>
     subst he0;by_cases hk1:k=1
     case pos=>
      subst hk1;have HVX:=hid (show jp 1 ty name (vars++new)=vars++(new++[(⟨name,ty⟩:Pa)]) by unfold jp;rw[if_pos rfl,List.append_assoc]);cases loop
      · obtain⟨⟨r2,n2⟩,hR2⟩:∃ R,zd p ft thn (vars++(new++[(⟨name,ty⟩:Pa)])) (vars++(new++[(⟨name,ty⟩:Pa)])).length false (nj+1)=R:=⟨_,rfl⟩
        have HR2:=hid hR2;clear hR2;by_cases h2:r2=0
        case neg=>
         go_wp2_with (first
          | (go_at_call 65;(with_reducible refine(jO _ b p (vars++new) ty name args vars.length _ _ _ _ _ _ _ _ _ _ _ _ v2 v3 fs ft (W64 nj) _ _ _ HFS.out HE1_.out HE1.out HBB1.out HS3.out HO3.out HP.out HFR.out).mono ?_);rintro e w2 ⟨rfl,hb2⟩
             have hx2:Below wr.heap.size wr w2:=HW1.out.trans (hb2.mono (by rw[zA];omega));have hm2:=(hb2.block wr.heap.size (by rw[zA];omega)).trans (heap_alloc_new wr (qC 1 ty name (.slice A3 args.length c3) (.slice A4 thn.length c4) (.slice A5 els.length c5)));obtain⟨m0,m1,m2,m3,m4,m5⟩:=zQ hm2;have hs2:wr.heap.size<w2.heap.size:=by have:=hb2.size;rw[zA]at this;omega
             have HX2:=hid (And.intro (HOFF.out.trans ((OffB.of_below hx2 hbs).mono hsz)) ((hx2.block b hbs).trans HBR.out));obtain⟨⟨b0,b1,b2,b3,b4,b5,b6⟩,bz⟩:=zN ((hx2.block b hbs).trans HBR.out);have hbs2:b<w2.heap.size:=by omega
             have HL2:=hid (show Rst B b p (vars++new) (.slice A0 p.arrays.length c0) (.slice A1 p.funcs.length c1) (.slice A8 nvl c8) fs ft v2 v3 nj w wr.heap.size (qC 1 ty name (.slice A3 args.length c3) (.slice A4 thn.length c4) (.slice A5 els.length c5)) thn els (.slice A4 thn.length c4) (.slice A5 els.length c5) w2 from⟨HX2.out.1,HX2.out.2,HER.out.below hx2,hm2,HS4.out.below (hx2.mono HER.out.hB) Zr,HS5.out.below (hx2.mono HER.out.hB) Zr,(by have h:=z7 (w':=w2) HOWN.out fun g hg=>hx2.block g (zM HOWN.out g hg).2;rw[←HNV.out]at h ⊢;exact h),by omega,hbl⟩);have HPRE:=hid (show ((w2.setCell ⟨b,6,none⟩ (.int .i64 (W64 (nj+1)))).alloc (.cells #[.string name,.int .i64 ty] 47)).ownsRow w.heap.size 47 2 (.slice A8 nvl c8) nvl ((vars++new).flatMap kP.cs) from zv (by have:=HL2.out.set.own;rw[HNV.out]at this;exact this) _);have HNW:=hid (jH (w2.setCell ⟨b,6,none⟩ (.int .i64 (W64 (nj+1)))) [.string name,.int .i64 ty] 47 w2.heap.size (by simp));have hnv9:nvl≤1000000000:=by have:=HVN.out;have:=HNV.out;omega
             clear hx2 hb2 hm2)
          | (at_builtin;refine wpList_append_own _ rfl (.tmp 48) (.tmp 54) _ rfl w.heap.size 47 i0 _ 2 24 Tryz.underlying42 HI0.out.1 HI0.out.2.1 HI0.out.2.2.1 HI0.out.2.2.2 rfl (by omega) (.slice A8 nvl c8) nvl _ rfl (by exact HPRE.out) ⟨w2.heap.size,0,none⟩ 1 1 [.string name,.int .i64 ty] rfl rfl (by exact HNW.out) (by simp[Value.oneCell']) (by simp only[maxLen];omega) (by omega) (by simp;have:=HX2.out.1.size;omega) ?_
             intro vs w3 hown3 hg3 _;obtain⟨A7,c7,rfl⟩:=qT hown3;have hoB:=fun k (hk:(Value.slice A8 nvl c8).ownBlock=some k)=>zM HOWN.out k hk
             have hsz3:w2.heap.size+1≤w3.heap.size:=by have:=hg3.size;simpa using this
             have hk3:∀ g,g<w2.heap.size→(∀ k,(Value.slice A8 nvl c8).ownBlock=some k→g≠k)→w3.heap[g]? =(w2.setCell ⟨b,6,none⟩ (.int .i64 (W64 (nj+1)))).heap[g]?:=fun g hg hne=>(hg3.block g (by simp;omega) (fun e=>hne g e.symm rfl)).trans (Below.heap_alloc _ _ g (by simpa using hg))
             have hL4:=HL2.out.set;have hoff3:OffB b w.heap.size w w3:=OffB.mk' (hg3.os.trans hL4.off.os) (hg3.tape.trans hL4.off.tape) (hg3.output.trans hL4.off.output) (by omega) hbl fun g hg hne=>(hk3 g (by omega) (fun k hk=>by have:=(hoB k hk).1;omega)).trans (hL4.off.block hg hne)
             have hrow3:=(hk3 b hbs2 (fun k hk=>by have:=(hoB k hk).1;omega)).trans hL4.row;have hbox3:=(hk3 wr.heap.size hs2 (fun k hk=>by have:=(hoB k hk).2;omega)).trans hL4.box;have hE3:=HE.out.off hoff3;have hbel3:Below B (w2.setCell ⟨b,6,none⟩ (.int .i64 (W64 (nj+1)))) w3:=(Zb.alloc hL4.env.hB (.cells #[.string name,.int .i64 ty] 47)).grown hg3 (by have:=hL4.env.hB;rw[zA];omega) fun k hk=>by have:=(hoB k hk).1;have:=HE.out.hB;omega
             have hown3':w3.ownsRow w.heap.size 47 2 (.slice A7 (nvl+1) c7) (vars++(new++[(⟨name,ty⟩:Pa)])).length ((vars++(new++[(⟨name,ty⟩:Pa)])).flatMap kP.cs):=by rw[←List.append_assoc,xX,List.length_append,HNV.out];exact hown3
             have hlv:(vars++(new++[(⟨name,ty⟩:Pa)])).length=nvl+1:=by rw[←List.append_assoc,List.length_append,HNV.out];rfl
             have HL3:=hid (show Rst B b p (vars++(new++[(⟨name,ty⟩:Pa)])) (.slice A0 p.arrays.length c0) (.slice A1 p.funcs.length c1) (.slice A7 (nvl+1) c7) fs ft v2 v3 (nj+1) w wr.heap.size (qC 1 ty name (.slice A3 args.length c3) (.slice A4 thn.length c4) (.slice A5 els.length c5)) thn els (.slice A4 thn.length c4) (.slice A5 els.length c5) w3 from⟨hoff3,hrow3,⟨hE3.hB,hE3.hBb,hE3.hb,hE3.ha,hE3.hf,kD hown3' (by omega) (by omega)⟩,hbox3,hL4.s4.below hbel3 Zr,hL4.s5.below hbel3 Zr,hown3',HL2.out.ne,hbl⟩);obtain⟨⟨b0,b1,b2,b3,b4,b5,b6⟩,bz⟩:=zN hrow3;obtain⟨m0,m1,m2,m3,m4,m5⟩:=zQ hbox3;have hs3z:wr.heap.size<w3.heap.size:=zB hbox3;have hbs3:b<w3.heap.size:=zB hrow3
             clear hown3 hg3 hoB hk3 hL4 hoff3 hrow3 hbox3 hE3 hown3' hlv hbel3)
          | (go_at_call 31
             have h4:=HL3.out
             (with_reducible refine(HIH.out.call HO4.out HP.out HR2.out h4.env h4.row h4.s4 (by have:=HCD.out;have:=HCNT.out;have:=HCN.out;simp only[List.length_append,List.length_singleton];omega)).mono ?_)
             rintro e w5 ⟨rfl,ho5,hb5⟩;have h5:=h4.step ho5 hb5;obtain⟨⟨b0,b1,b2,b3,b4,b5,b6⟩,bz⟩:=zN h5.row;obtain⟨m0,m1,m2,m3,m4,m5⟩:=zQ h5.box;have hs5z:wr.heap.size<w5.heap.size:=zB h5.box;have H5:=hid h5
             clear ho5 hb5 h5 h4))
         go_ret;have hR1:=xt (p:=p) (r:=l.drop (j+1)) (els:=els) (n:=nj) (R:=(r2,n2)) HE1_.out (by rw[HVX.out];exact HR2.out) h2;rw[HDD.out]at hR1;subst hR1;exact⟨rfl,H5.out.off,H5.out.row⟩
        case pos=>
         subst h2;obtain⟨⟨r3,n3⟩,hR3⟩:∃ R,zd p ft els (vars++(new++[(⟨name,ty⟩:Pa)])) (vars++(new++[(⟨name,ty⟩:Pa)])).length false n2=R:=⟨_,rfl⟩
         have HR3:=hid hR3;clear hR3;by_cases h3:r3=0
         case neg=>
          go_wp2_with (first
           | (go_at_call 65;(with_reducible refine(jO _ b p (vars++new) ty name args vars.length _ _ _ _ _ _ _ _ _ _ _ _ v2 v3 fs ft (W64 nj) _ _ _ HFS.out HE1_.out HE1.out HBB1.out HS3.out HO3.out HP.out HFR.out).mono ?_);rintro e w2 ⟨rfl,hb2⟩
              have hx2:Below wr.heap.size wr w2:=HW1.out.trans (hb2.mono (by rw[zA];omega));have hm2:=(hb2.block wr.heap.size (by rw[zA];omega)).trans (heap_alloc_new wr (qC 1 ty name (.slice A3 args.length c3) (.slice A4 thn.length c4) (.slice A5 els.length c5)));obtain⟨m0,m1,m2,m3,m4,m5⟩:=zQ hm2;have hs2:wr.heap.size<w2.heap.size:=by have:=hb2.size;rw[zA]at this;omega
              have HX2:=hid (And.intro (HOFF.out.trans ((OffB.of_below hx2 hbs).mono hsz)) ((hx2.block b hbs).trans HBR.out));obtain⟨⟨b0,b1,b2,b3,b4,b5,b6⟩,bz⟩:=zN ((hx2.block b hbs).trans HBR.out);have hbs2:b<w2.heap.size:=by omega
              have HL2:=hid (show Rst B b p (vars++new) (.slice A0 p.arrays.length c0) (.slice A1 p.funcs.length c1) (.slice A8 nvl c8) fs ft v2 v3 nj w wr.heap.size (qC 1 ty name (.slice A3 args.length c3) (.slice A4 thn.length c4) (.slice A5 els.length c5)) thn els (.slice A4 thn.length c4) (.slice A5 els.length c5) w2 from⟨HX2.out.1,HX2.out.2,HER.out.below hx2,hm2,HS4.out.below (hx2.mono HER.out.hB) Zr,HS5.out.below (hx2.mono HER.out.hB) Zr,(by have h:=z7 (w':=w2) HOWN.out fun g hg=>hx2.block g (zM HOWN.out g hg).2;rw[←HNV.out]at h ⊢;exact h),by omega,hbl⟩);have HPRE:=hid (show ((w2.setCell ⟨b,6,none⟩ (.int .i64 (W64 (nj+1)))).alloc (.cells #[.string name,.int .i64 ty] 47)).ownsRow w.heap.size 47 2 (.slice A8 nvl c8) nvl ((vars++new).flatMap kP.cs) from zv (by have:=HL2.out.set.own;rw[HNV.out]at this;exact this) _);have HNW:=hid (jH (w2.setCell ⟨b,6,none⟩ (.int .i64 (W64 (nj+1)))) [.string name,.int .i64 ty] 47 w2.heap.size (by simp));have hnv9:nvl≤1000000000:=by have:=HVN.out;have:=HNV.out;omega
              clear hx2 hb2 hm2)
           | (at_builtin;refine wpList_append_own _ rfl (.tmp 48) (.tmp 54) _ rfl w.heap.size 47 i0 _ 2 24 Tryz.underlying42 HI0.out.1 HI0.out.2.1 HI0.out.2.2.1 HI0.out.2.2.2 rfl (by omega) (.slice A8 nvl c8) nvl _ rfl (by exact HPRE.out) ⟨w2.heap.size,0,none⟩ 1 1 [.string name,.int .i64 ty] rfl rfl (by exact HNW.out) (by simp[Value.oneCell']) (by simp only[maxLen];omega) (by omega) (by simp;have:=HX2.out.1.size;omega) ?_
              intro vs w3 hown3 hg3 _;obtain⟨A7,c7,rfl⟩:=qT hown3;have hoB:=fun k (hk:(Value.slice A8 nvl c8).ownBlock=some k)=>zM HOWN.out k hk
              have hsz3:w2.heap.size+1≤w3.heap.size:=by have:=hg3.size;simpa using this
              have hk3:∀ g,g<w2.heap.size→(∀ k,(Value.slice A8 nvl c8).ownBlock=some k→g≠k)→w3.heap[g]? =(w2.setCell ⟨b,6,none⟩ (.int .i64 (W64 (nj+1)))).heap[g]?:=fun g hg hne=>(hg3.block g (by simp;omega) (fun e=>hne g e.symm rfl)).trans (Below.heap_alloc _ _ g (by simpa using hg))
              have hL4:=HL2.out.set;have hoff3:OffB b w.heap.size w w3:=OffB.mk' (hg3.os.trans hL4.off.os) (hg3.tape.trans hL4.off.tape) (hg3.output.trans hL4.off.output) (by omega) hbl fun g hg hne=>(hk3 g (by omega) (fun k hk=>by have:=(hoB k hk).1;omega)).trans (hL4.off.block hg hne)
              have hrow3:=(hk3 b hbs2 (fun k hk=>by have:=(hoB k hk).1;omega)).trans hL4.row;have hbox3:=(hk3 wr.heap.size hs2 (fun k hk=>by have:=(hoB k hk).2;omega)).trans hL4.box;have hE3:=HE.out.off hoff3;have hbel3:Below B (w2.setCell ⟨b,6,none⟩ (.int .i64 (W64 (nj+1)))) w3:=(Zb.alloc hL4.env.hB (.cells #[.string name,.int .i64 ty] 47)).grown hg3 (by have:=hL4.env.hB;rw[zA];omega) fun k hk=>by have:=(hoB k hk).1;have:=HE.out.hB;omega
              have hown3':w3.ownsRow w.heap.size 47 2 (.slice A7 (nvl+1) c7) (vars++(new++[(⟨name,ty⟩:Pa)])).length ((vars++(new++[(⟨name,ty⟩:Pa)])).flatMap kP.cs):=by rw[←List.append_assoc,xX,List.length_append,HNV.out];exact hown3
              have hlv:(vars++(new++[(⟨name,ty⟩:Pa)])).length=nvl+1:=by rw[←List.append_assoc,List.length_append,HNV.out];rfl
              have HL3:=hid (show Rst B b p (vars++(new++[(⟨name,ty⟩:Pa)])) (.slice A0 p.arrays.length c0) (.slice A1 p.funcs.length c1) (.slice A7 (nvl+1) c7) fs ft v2 v3 (nj+1) w wr.heap.size (qC 1 ty name (.slice A3 args.length c3) (.slice A4 thn.length c4) (.slice A5 els.length c5)) thn els (.slice A4 thn.length c4) (.slice A5 els.length c5) w3 from⟨hoff3,hrow3,⟨hE3.hB,hE3.hBb,hE3.hb,hE3.ha,hE3.hf,kD hown3' (by omega) (by omega)⟩,hbox3,hL4.s4.below hbel3 Zr,hL4.s5.below hbel3 Zr,hown3',HL2.out.ne,hbl⟩);obtain⟨⟨b0,b1,b2,b3,b4,b5,b6⟩,bz⟩:=zN hrow3;obtain⟨m0,m1,m2,m3,m4,m5⟩:=zQ hbox3;have hs3z:wr.heap.size<w3.heap.size:=zB hbox3;have hbs3:b<w3.heap.size:=zB hrow3
              clear hown3 hg3 hoB hk3 hL4 hoff3 hrow3 hbox3 hE3 hown3' hlv hbel3)
           | (go_at_call 31
              have h4:=HL3.out
              (with_reducible refine(HIH.out.call HO4.out HP.out HR2.out h4.env h4.row h4.s4 (by have:=HCD.out;have:=HCNT.out;have:=HCN.out;simp only[List.length_append,List.length_singleton];omega)).mono ?_)
              rintro e w5 ⟨rfl,ho5,hb5⟩;have h5:=h4.step ho5 hb5;obtain⟨⟨b0,b1,b2,b3,b4,b5,b6⟩,bz⟩:=zN h5.row;obtain⟨m0,m1,m2,m3,m4,m5⟩:=zQ h5.box;have hs5z:wr.heap.size<w5.heap.size:=zB h5.box;have H5:=hid h5
              clear ho5 hb5 h5 h4)
           | (go_at_call 31
              have h5:=H5.out
              (with_reducible refine(HIH.out.call HO5.out HP.out HR3.out h5.env h5.row h5.s5 (by have:=HCD.out;have:=HCNT.out;have:=HCN.out;simp only[List.length_append,List.length_singleton];omega)).mono ?_)
              rintro e w6 ⟨rfl,ho6,hb6⟩;have H6:=hid (h5.step ho6 hb6)
              clear ho6 hb6 h5))
          go_ret;have hR1:=xu (p:=p) (r:=l.drop (j+1)) (n:=nj) (n1:=n2) (R:=(r3,n3)) HE1_.out (by rw[HVX.out];exact HR2.out) (by rw[HVX.out];exact HR3.out) h3;rw[HDD.out]at hR1;subst hR1;exact⟨rfl,H6.out.off,H6.out.row⟩
         case pos=>
          subst h3
          go_wp2_with (first
           | (go_at_call 65;(with_reducible refine(jO _ b p (vars++new) ty name args vars.length _ _ _ _ _ _ _ _ _ _ _ _ v2 v3 fs ft (W64 nj) _ _ _ HFS.out HE1_.out HE1.out HBB1.out HS3.out HO3.out HP.out HFR.out).mono ?_);rintro e w2 ⟨rfl,hb2⟩
              have hx2:Below wr.heap.size wr w2:=HW1.out.trans (hb2.mono (by rw[zA];omega));have hm2:=(hb2.block wr.heap.size (by rw[zA];omega)).trans (heap_alloc_new wr (qC 1 ty name (.slice A3 args.length c3) (.slice A4 thn.length c4) (.slice A5 els.length c5)));obtain⟨m0,m1,m2,m3,m4,m5⟩:=zQ hm2;have hs2:wr.heap.size<w2.heap.size:=by have:=hb2.size;rw[zA]at this;omega
              have HX2:=hid (And.intro (HOFF.out.trans ((OffB.of_below hx2 hbs).mono hsz)) ((hx2.block b hbs).trans HBR.out));obtain⟨⟨b0,b1,b2,b3,b4,b5,b6⟩,bz⟩:=zN ((hx2.block b hbs).trans HBR.out);have hbs2:b<w2.heap.size:=by omega
              have HL2:=hid (show Rst B b p (vars++new) (.slice A0 p.arrays.length c0) (.slice A1 p.funcs.length c1) (.slice A8 nvl c8) fs ft v2 v3 nj w wr.heap.size (qC 1 ty name (.slice A3 args.length c3) (.slice A4 thn.length c4) (.slice A5 els.length c5)) thn els (.slice A4 thn.length c4) (.slice A5 els.length c5) w2 from⟨HX2.out.1,HX2.out.2,HER.out.below hx2,hm2,HS4.out.below (hx2.mono HER.out.hB) Zr,HS5.out.below (hx2.mono HER.out.hB) Zr,(by have h:=z7 (w':=w2) HOWN.out fun g hg=>hx2.block g (zM HOWN.out g hg).2;rw[←HNV.out]at h ⊢;exact h),by omega,hbl⟩);have HPRE:=hid (show ((w2.setCell ⟨b,6,none⟩ (.int .i64 (W64 (nj+1)))).alloc (.cells #[.string name,.int .i64 ty] 47)).ownsRow w.heap.size 47 2 (.slice A8 nvl c8) nvl ((vars++new).flatMap kP.cs) from zv (by have:=HL2.out.set.own;rw[HNV.out]at this;exact this) _);have HNW:=hid (jH (w2.setCell ⟨b,6,none⟩ (.int .i64 (W64 (nj+1)))) [.string name,.int .i64 ty] 47 w2.heap.size (by simp));have hnv9:nvl≤1000000000:=by have:=HVN.out;have:=HNV.out;omega
              clear hx2 hb2 hm2)
           | (at_builtin;refine wpList_append_own _ rfl (.tmp 48) (.tmp 54) _ rfl w.heap.size 47 i0 _ 2 24 Tryz.underlying42 HI0.out.1 HI0.out.2.1 HI0.out.2.2.1 HI0.out.2.2.2 rfl (by omega) (.slice A8 nvl c8) nvl _ rfl (by exact HPRE.out) ⟨w2.heap.size,0,none⟩ 1 1 [.string name,.int .i64 ty] rfl rfl (by exact HNW.out) (by simp[Value.oneCell']) (by simp only[maxLen];omega) (by omega) (by simp;have:=HX2.out.1.size;omega) ?_
              intro vs w3 hown3 hg3 _;obtain⟨A7,c7,rfl⟩:=qT hown3;have hoB:=fun k (hk:(Value.slice A8 nvl c8).ownBlock=some k)=>zM HOWN.out k hk
              have hsz3:w2.heap.size+1≤w3.heap.size:=by have:=hg3.size;simpa using this
              have hk3:∀ g,g<w2.heap.size→(∀ k,(Value.slice A8 nvl c8).ownBlock=some k→g≠k)→w3.heap[g]? =(w2.setCell ⟨b,6,none⟩ (.int .i64 (W64 (nj+1)))).heap[g]?:=fun g hg hne=>(hg3.block g (by simp;omega) (fun e=>hne g e.symm rfl)).trans (Below.heap_alloc _ _ g (by simpa using hg))
              have hL4:=HL2.out.set;have hoff3:OffB b w.heap.size w w3:=OffB.mk' (hg3.os.trans hL4.off.os) (hg3.tape.trans hL4.off.tape) (hg3.output.trans hL4.off.output) (by omega) hbl fun g hg hne=>(hk3 g (by omega) (fun k hk=>by have:=(hoB k hk).1;omega)).trans (hL4.off.block hg hne)
              have hrow3:=(hk3 b hbs2 (fun k hk=>by have:=(hoB k hk).1;omega)).trans hL4.row;have hbox3:=(hk3 wr.heap.size hs2 (fun k hk=>by have:=(hoB k hk).2;omega)).trans hL4.box;have hE3:=HE.out.off hoff3;have hbel3:Below B (w2.setCell ⟨b,6,none⟩ (.int .i64 (W64 (nj+1)))) w3:=(Zb.alloc hL4.env.hB (.cells #[.string name,.int .i64 ty] 47)).grown hg3 (by have:=hL4.env.hB;rw[zA];omega) fun k hk=>by have:=(hoB k hk).1;have:=HE.out.hB;omega
              have hown3':w3.ownsRow w.heap.size 47 2 (.slice A7 (nvl+1) c7) (vars++(new++[(⟨name,ty⟩:Pa)])).length ((vars++(new++[(⟨name,ty⟩:Pa)])).flatMap kP.cs):=by rw[←List.append_assoc,xX,List.length_append,HNV.out];exact hown3
              have hlv:(vars++(new++[(⟨name,ty⟩:Pa)])).length=nvl+1:=by rw[←List.append_assoc,List.length_append,HNV.out];rfl
              have HL3:=hid (show Rst B b p (vars++(new++[(⟨name,ty⟩:Pa)])) (.slice A0 p.arrays.length c0) (.slice A1 p.funcs.length c1) (.slice A7 (nvl+1) c7) fs ft v2 v3 (nj+1) w wr.heap.size (qC 1 ty name (.slice A3 args.length c3) (.slice A4 thn.length c4) (.slice A5 els.length c5)) thn els (.slice A4 thn.length c4) (.slice A5 els.length c5) w3 from⟨hoff3,hrow3,⟨hE3.hB,hE3.hBb,hE3.hb,hE3.ha,hE3.hf,kD hown3' (by omega) (by omega)⟩,hbox3,hL4.s4.below hbel3 Zr,hL4.s5.below hbel3 Zr,hown3',HL2.out.ne,hbl⟩);obtain⟨⟨b0,b1,b2,b3,b4,b5,b6⟩,bz⟩:=zN hrow3;obtain⟨m0,m1,m2,m3,m4,m5⟩:=zQ hbox3;have hs3z:wr.heap.size<w3.heap.size:=zB hbox3;have hbs3:b<w3.heap.size:=zB hrow3
              clear hown3 hg3 hoB hk3 hL4 hoff3 hrow3 hbox3 hE3 hown3' hlv hbel3)
           | (go_at_call 31
              have h4:=HL3.out
              (with_reducible refine(HIH.out.call HO4.out HP.out HR2.out h4.env h4.row h4.s4 (by have:=HCD.out;have:=HCNT.out;have:=HCN.out;simp only[List.length_append,List.length_singleton];omega)).mono ?_)
              rintro e w5 ⟨rfl,ho5,hb5⟩;have h5:=h4.step ho5 hb5;obtain⟨⟨b0,b1,b2,b3,b4,b5,b6⟩,bz⟩:=zN h5.row;obtain⟨m0,m1,m2,m3,m4,m5⟩:=zQ h5.box;have hs5z:wr.heap.size<w5.heap.size:=zB h5.box;have H5:=hid h5
              clear ho5 hb5 h5 h4)
           | (go_at_call 31
              have h5:=H5.out
              (with_reducible refine(HIH.out.call HO5.out HP.out HR3.out h5.env h5.row h5.s5 (by have:=HCD.out;have:=HCNT.out;have:=HCN.out;simp only[List.length_append,List.length_singleton];omega)).mono ?_)
              rintro e w6 ⟨rfl,ho6,hb6⟩;have H6:=hid (h5.step ho6 hb6)
              clear ho6 hb6 h5))
          go_roundw
          case rel=>
           have hR1:=vJ (p:=p) (r:=l.drop (j+1)) (n:=nj) (n1:=n2) (n2:=n3) HE1_.out (by rw[HVX.out];exact HR2.out) (by rw[HVX.out];exact HR3.out);rw[HDD.out,HVX.out]at hR1;exact⟨j+1,n3,new++[(⟨name,ty⟩:Pa)],by omega,by go_num,hR1.symm,H6.out.own,H6.out.off,H6.out.row,by have:=HCD.out;have:=HCNT.out;(try simp only[List.length_append,List.length_singleton]);omega⟩
          case measure=>simp[intOf];omega
      · obtain⟨⟨r2,n2⟩,hR2⟩:∃ R,zd p ft thn (vars++(new++[(⟨name,ty⟩:Pa)])) (vars++(new++[(⟨name,ty⟩:Pa)])).length true (nj+1)=R:=⟨_,rfl⟩
        have HR2:=hid hR2;clear hR2;by_cases h2:r2=0
        case neg=>
         go_wp2_with (first
          | (go_at_call 65;(with_reducible refine(jO _ b p (vars++new) ty name args vars.length _ _ _ _ _ _ _ _ _ _ _ _ v2 v3 fs ft (W64 nj) _ _ _ HFS.out HE1_.out HE1.out HBB1.out HS3.out HO3.out HP.out HFR.out).mono ?_);rintro e w2 ⟨rfl,hb2⟩
             have hx2:Below wr.heap.size wr w2:=HW1.out.trans (hb2.mono (by rw[zA];omega));have hm2:=(hb2.block wr.heap.size (by rw[zA];omega)).trans (heap_alloc_new wr (qC 1 ty name (.slice A3 args.length c3) (.slice A4 thn.length c4) (.slice A5 els.length c5)));obtain⟨m0,m1,m2,m3,m4,m5⟩:=zQ hm2;have hs2:wr.heap.size<w2.heap.size:=by have:=hb2.size;rw[zA]at this;omega
             have HX2:=hid (And.intro (HOFF.out.trans ((OffB.of_below hx2 hbs).mono hsz)) ((hx2.block b hbs).trans HBR.out));obtain⟨⟨b0,b1,b2,b3,b4,b5,b6⟩,bz⟩:=zN ((hx2.block b hbs).trans HBR.out);have hbs2:b<w2.heap.size:=by omega
             have HL2:=hid (show Rst B b p (vars++new) (.slice A0 p.arrays.length c0) (.slice A1 p.funcs.length c1) (.slice A8 nvl c8) fs ft v2 v3 nj w wr.heap.size (qC 1 ty name (.slice A3 args.length c3) (.slice A4 thn.length c4) (.slice A5 els.length c5)) thn els (.slice A4 thn.length c4) (.slice A5 els.length c5) w2 from⟨HX2.out.1,HX2.out.2,HER.out.below hx2,hm2,HS4.out.below (hx2.mono HER.out.hB) Zr,HS5.out.below (hx2.mono HER.out.hB) Zr,(by have h:=z7 (w':=w2) HOWN.out fun g hg=>hx2.block g (zM HOWN.out g hg).2;rw[←HNV.out]at h ⊢;exact h),by omega,hbl⟩);have HPRE:=hid (show ((w2.setCell ⟨b,6,none⟩ (.int .i64 (W64 (nj+1)))).alloc (.cells #[.string name,.int .i64 ty] 47)).ownsRow w.heap.size 47 2 (.slice A8 nvl c8) nvl ((vars++new).flatMap kP.cs) from zv (by have:=HL2.out.set.own;rw[HNV.out]at this;exact this) _);have HNW:=hid (jH (w2.setCell ⟨b,6,none⟩ (.int .i64 (W64 (nj+1)))) [.string name,.int .i64 ty] 47 w2.heap.size (by simp));have hnv9:nvl≤1000000000:=by have:=HVN.out;have:=HNV.out;omega
             clear hx2 hb2 hm2)
          | (at_builtin;refine wpList_append_own _ rfl (.tmp 48) (.tmp 54) _ rfl w.heap.size 47 i0 _ 2 24 Tryz.underlying42 HI0.out.1 HI0.out.2.1 HI0.out.2.2.1 HI0.out.2.2.2 rfl (by omega) (.slice A8 nvl c8) nvl _ rfl (by exact HPRE.out) ⟨w2.heap.size,0,none⟩ 1 1 [.string name,.int .i64 ty] rfl rfl (by exact HNW.out) (by simp[Value.oneCell']) (by simp only[maxLen];omega) (by omega) (by simp;have:=HX2.out.1.size;omega) ?_
             intro vs w3 hown3 hg3 _;obtain⟨A7,c7,rfl⟩:=qT hown3;have hoB:=fun k (hk:(Value.slice A8 nvl c8).ownBlock=some k)=>zM HOWN.out k hk
             have hsz3:w2.heap.size+1≤w3.heap.size:=by have:=hg3.size;simpa using this
             have hk3:∀ g,g<w2.heap.size→(∀ k,(Value.slice A8 nvl c8).ownBlock=some k→g≠k)→w3.heap[g]? =(w2.setCell ⟨b,6,none⟩ (.int .i64 (W64 (nj+1)))).heap[g]?:=fun g hg hne=>(hg3.block g (by simp;omega) (fun e=>hne g e.symm rfl)).trans (Below.heap_alloc _ _ g (by simpa using hg))
             have hL4:=HL2.out.set;have hoff3:OffB b w.heap.size w w3:=OffB.mk' (hg3.os.trans hL4.off.os) (hg3.tape.trans hL4.off.tape) (hg3.output.trans hL4.off.output) (by omega) hbl fun g hg hne=>(hk3 g (by omega) (fun k hk=>by have:=(hoB k hk).1;omega)).trans (hL4.off.block hg hne)
             have hrow3:=(hk3 b hbs2 (fun k hk=>by have:=(hoB k hk).1;omega)).trans hL4.row;have hbox3:=(hk3 wr.heap.size hs2 (fun k hk=>by have:=(hoB k hk).2;omega)).trans hL4.box;have hE3:=HE.out.off hoff3;have hbel3:Below B (w2.setCell ⟨b,6,none⟩ (.int .i64 (W64 (nj+1)))) w3:=(Zb.alloc hL4.env.hB (.cells #[.string name,.int .i64 ty] 47)).grown hg3 (by have:=hL4.env.hB;rw[zA];omega) fun k hk=>by have:=(hoB k hk).1;have:=HE.out.hB;omega
             have hown3':w3.ownsRow w.heap.size 47 2 (.slice A7 (nvl+1) c7) (vars++(new++[(⟨name,ty⟩:Pa)])).length ((vars++(new++[(⟨name,ty⟩:Pa)])).flatMap kP.cs):=by rw[←List.append_assoc,xX,List.length_append,HNV.out];exact hown3
             have hlv:(vars++(new++[(⟨name,ty⟩:Pa)])).length=nvl+1:=by rw[←List.append_assoc,List.length_append,HNV.out];rfl
             have HL3:=hid (show Rst B b p (vars++(new++[(⟨name,ty⟩:Pa)])) (.slice A0 p.arrays.length c0) (.slice A1 p.funcs.length c1) (.slice A7 (nvl+1) c7) fs ft v2 v3 (nj+1) w wr.heap.size (qC 1 ty name (.slice A3 args.length c3) (.slice A4 thn.length c4) (.slice A5 els.length c5)) thn els (.slice A4 thn.length c4) (.slice A5 els.length c5) w3 from⟨hoff3,hrow3,⟨hE3.hB,hE3.hBb,hE3.hb,hE3.ha,hE3.hf,kD hown3' (by omega) (by omega)⟩,hbox3,hL4.s4.below hbel3 Zr,hL4.s5.below hbel3 Zr,hown3',HL2.out.ne,hbl⟩);obtain⟨⟨b0,b1,b2,b3,b4,b5,b6⟩,bz⟩:=zN hrow3;obtain⟨m0,m1,m2,m3,m4,m5⟩:=zQ hbox3;have hs3z:wr.heap.size<w3.heap.size:=zB hbox3;have hbs3:b<w3.heap.size:=zB hrow3
             clear hown3 hg3 hoB hk3 hL4 hoff3 hrow3 hbox3 hE3 hown3' hlv hbel3)
          | (go_at_call 31
             have h4:=HL3.out
             (with_reducible refine(HIH.out.call HO4.out HP.out HR2.out h4.env h4.row h4.s4 (by have:=HCD.out;have:=HCNT.out;have:=HCN.out;simp only[List.length_append,List.length_singleton];omega)).mono ?_)
             rintro e w5 ⟨rfl,ho5,hb5⟩;have h5:=h4.step ho5 hb5;obtain⟨⟨b0,b1,b2,b3,b4,b5,b6⟩,bz⟩:=zN h5.row;obtain⟨m0,m1,m2,m3,m4,m5⟩:=zQ h5.box;have hs5z:wr.heap.size<w5.heap.size:=zB h5.box;have H5:=hid h5
             clear ho5 hb5 h5 h4))
         go_ret;have hR1:=xt (p:=p) (r:=l.drop (j+1)) (els:=els) (n:=nj) (R:=(r2,n2)) HE1_.out (by rw[HVX.out];exact HR2.out) h2;rw[HDD.out]at hR1;subst hR1;exact⟨rfl,H5.out.off,H5.out.row⟩
        case pos=>
         subst h2;obtain⟨⟨r3,n3⟩,hR3⟩:∃ R,zd p ft els (vars++(new++[(⟨name,ty⟩:Pa)])) (vars++(new++[(⟨name,ty⟩:Pa)])).length true n2=R:=⟨_,rfl⟩
         have HR3:=hid hR3;clear hR3;by_cases h3:r3=0
         case neg=>
          go_wp2_with (first
           | (go_at_call 65;(with_reducible refine(jO _ b p (vars++new) ty name args vars.length _ _ _ _ _ _ _ _ _ _ _ _ v2 v3 fs ft (W64 nj) _ _ _ HFS.out HE1_.out HE1.out HBB1.out HS3.out HO3.out HP.out HFR.out).mono ?_);rintro e w2 ⟨rfl,hb2⟩
              have hx2:Below wr.heap.size wr w2:=HW1.out.trans (hb2.mono (by rw[zA];omega));have hm2:=(hb2.block wr.heap.size (by rw[zA];omega)).trans (heap_alloc_new wr (qC 1 ty name (.slice A3 args.length c3) (.slice A4 thn.length c4) (.slice A5 els.length c5)));obtain⟨m0,m1,m2,m3,m4,m5⟩:=zQ hm2;have hs2:wr.heap.size<w2.heap.size:=by have:=hb2.size;rw[zA]at this;omega
              have HX2:=hid (And.intro (HOFF.out.trans ((OffB.of_below hx2 hbs).mono hsz)) ((hx2.block b hbs).trans HBR.out));obtain⟨⟨b0,b1,b2,b3,b4,b5,b6⟩,bz⟩:=zN ((hx2.block b hbs).trans HBR.out);have hbs2:b<w2.heap.size:=by omega
              have HL2:=hid (show Rst B b p (vars++new) (.slice A0 p.arrays.length c0) (.slice A1 p.funcs.length c1) (.slice A8 nvl c8) fs ft v2 v3 nj w wr.heap.size (qC 1 ty name (.slice A3 args.length c3) (.slice A4 thn.length c4) (.slice A5 els.length c5)) thn els (.slice A4 thn.length c4) (.slice A5 els.length c5) w2 from⟨HX2.out.1,HX2.out.2,HER.out.below hx2,hm2,HS4.out.below (hx2.mono HER.out.hB) Zr,HS5.out.below (hx2.mono HER.out.hB) Zr,(by have h:=z7 (w':=w2) HOWN.out fun g hg=>hx2.block g (zM HOWN.out g hg).2;rw[←HNV.out]at h ⊢;exact h),by omega,hbl⟩);have HPRE:=hid (show ((w2.setCell ⟨b,6,none⟩ (.int .i64 (W64 (nj+1)))).alloc (.cells #[.string name,.int .i64 ty] 47)).ownsRow w.heap.size 47 2 (.slice A8 nvl c8) nvl ((vars++new).flatMap kP.cs) from zv (by have:=HL2.out.set.own;rw[HNV.out]at this;exact this) _);have HNW:=hid (jH (w2.setCell ⟨b,6,none⟩ (.int .i64 (W64 (nj+1)))) [.string name,.int .i64 ty] 47 w2.heap.size (by simp));have hnv9:nvl≤1000000000:=by have:=HVN.out;have:=HNV.out;omega
              clear hx2 hb2 hm2)
           | (at_builtin;refine wpList_append_own _ rfl (.tmp 48) (.tmp 54) _ rfl w.heap.size 47 i0 _ 2 24 Tryz.underlying42 HI0.out.1 HI0.out.2.1 HI0.out.2.2.1 HI0.out.2.2.2 rfl (by omega) (.slice A8 nvl c8) nvl _ rfl (by exact HPRE.out) ⟨w2.heap.size,0,none⟩ 1 1 [.string name,.int .i64 ty] rfl rfl (by exact HNW.out) (by simp[Value.oneCell']) (by simp only[maxLen];omega) (by omega) (by simp;have:=HX2.out.1.size;omega) ?_
              intro vs w3 hown3 hg3 _;obtain⟨A7,c7,rfl⟩:=qT hown3;have hoB:=fun k (hk:(Value.slice A8 nvl c8).ownBlock=some k)=>zM HOWN.out k hk
              have hsz3:w2.heap.size+1≤w3.heap.size:=by have:=hg3.size;simpa using this
              have hk3:∀ g,g<w2.heap.size→(∀ k,(Value.slice A8 nvl c8).ownBlock=some k→g≠k)→w3.heap[g]? =(w2.setCell ⟨b,6,none⟩ (.int .i64 (W64 (nj+1)))).heap[g]?:=fun g hg hne=>(hg3.block g (by simp;omega) (fun e=>hne g e.symm rfl)).trans (Below.heap_alloc _ _ g (by simpa using hg))
              have hL4:=HL2.out.set;have hoff3:OffB b w.heap.size w w3:=OffB.mk' (hg3.os.trans hL4.off.os) (hg3.tape.trans hL4.off.tape) (hg3.output.trans hL4.off.output) (by omega) hbl fun g hg hne=>(hk3 g (by omega) (fun k hk=>by have:=(hoB k hk).1;omega)).trans (hL4.off.block hg hne)
              have hrow3:=(hk3 b hbs2 (fun k hk=>by have:=(hoB k hk).1;omega)).trans hL4.row;have hbox3:=(hk3 wr.heap.size hs2 (fun k hk=>by have:=(hoB k hk).2;omega)).trans hL4.box;have hE3:=HE.out.off hoff3;have hbel3:Below B (w2.setCell ⟨b,6,none⟩ (.int .i64 (W64 (nj+1)))) w3:=(Zb.alloc hL4.env.hB (.cells #[.string name,.int .i64 ty] 47)).grown hg3 (by have:=hL4.env.hB;rw[zA];omega) fun k hk=>by have:=(hoB k hk).1;have:=HE.out.hB;omega
              have hown3':w3.ownsRow w.heap.size 47 2 (.slice A7 (nvl+1) c7) (vars++(new++[(⟨name,ty⟩:Pa)])).length ((vars++(new++[(⟨name,ty⟩:Pa)])).flatMap kP.cs):=by rw[←List.append_assoc,xX,List.length_append,HNV.out];exact hown3
              have hlv:(vars++(new++[(⟨name,ty⟩:Pa)])).length=nvl+1:=by rw[←List.append_assoc,List.length_append,HNV.out];rfl
              have HL3:=hid (show Rst B b p (vars++(new++[(⟨name,ty⟩:Pa)])) (.slice A0 p.arrays.length c0) (.slice A1 p.funcs.length c1) (.slice A7 (nvl+1) c7) fs ft v2 v3 (nj+1) w wr.heap.size (qC 1 ty name (.slice A3 args.length c3) (.slice A4 thn.length c4) (.slice A5 els.length c5)) thn els (.slice A4 thn.length c4) (.slice A5 els.length c5) w3 from⟨hoff3,hrow3,⟨hE3.hB,hE3.hBb,hE3.hb,hE3.ha,hE3.hf,kD hown3' (by omega) (by omega)⟩,hbox3,hL4.s4.below hbel3 Zr,hL4.s5.below hbel3 Zr,hown3',HL2.out.ne,hbl⟩);obtain⟨⟨b0,b1,b2,b3,b4,b5,b6⟩,bz⟩:=zN hrow3;obtain⟨m0,m1,m2,m3,m4,m5⟩:=zQ hbox3;have hs3z:wr.heap.size<w3.heap.size:=zB hbox3;have hbs3:b<w3.heap.size:=zB hrow3
              clear hown3 hg3 hoB hk3 hL4 hoff3 hrow3 hbox3 hE3 hown3' hlv hbel3)
           | (go_at_call 31
              have h4:=HL3.out
              (with_reducible refine(HIH.out.call HO4.out HP.out HR2.out h4.env h4.row h4.s4 (by have:=HCD.out;have:=HCNT.out;have:=HCN.out;simp only[List.length_append,List.length_singleton];omega)).mono ?_)
              rintro e w5 ⟨rfl,ho5,hb5⟩;have h5:=h4.step ho5 hb5;obtain⟨⟨b0,b1,b2,b3,b4,b5,b6⟩,bz⟩:=zN h5.row;obtain⟨m0,m1,m2,m3,m4,m5⟩:=zQ h5.box;have hs5z:wr.heap.size<w5.heap.size:=zB h5.box;have H5:=hid h5
              clear ho5 hb5 h5 h4)
           | (go_at_call 31
              have h5:=H5.out
              (with_reducible refine(HIH.out.call HO5.out HP.out HR3.out h5.env h5.row h5.s5 (by have:=HCD.out;have:=HCNT.out;have:=HCN.out;simp only[List.length_append,List.length_singleton];omega)).mono ?_)
              rintro e w6 ⟨rfl,ho6,hb6⟩;have H6:=hid (h5.step ho6 hb6)
              clear ho6 hb6 h5))
          go_ret;have hR1:=xu (p:=p) (r:=l.drop (j+1)) (n:=nj) (n1:=n2) (R:=(r3,n3)) HE1_.out (by rw[HVX.out];exact HR2.out) (by rw[HVX.out];exact HR3.out) h3;rw[HDD.out]at hR1;subst hR1;exact⟨rfl,H6.out.off,H6.out.row⟩
         case pos=>
          subst h3
          go_wp2_with (first
           | (go_at_call 65;(with_reducible refine(jO _ b p (vars++new) ty name args vars.length _ _ _ _ _ _ _ _ _ _ _ _ v2 v3 fs ft (W64 nj) _ _ _ HFS.out HE1_.out HE1.out HBB1.out HS3.out HO3.out HP.out HFR.out).mono ?_);rintro e w2 ⟨rfl,hb2⟩
              have hx2:Below wr.heap.size wr w2:=HW1.out.trans (hb2.mono (by rw[zA];omega));have hm2:=(hb2.block wr.heap.size (by rw[zA];omega)).trans (heap_alloc_new wr (qC 1 ty name (.slice A3 args.length c3) (.slice A4 thn.length c4) (.slice A5 els.length c5)));obtain⟨m0,m1,m2,m3,m4,m5⟩:=zQ hm2;have hs2:wr.heap.size<w2.heap.size:=by have:=hb2.size;rw[zA]at this;omega
              have HX2:=hid (And.intro (HOFF.out.trans ((OffB.of_below hx2 hbs).mono hsz)) ((hx2.block b hbs).trans HBR.out));obtain⟨⟨b0,b1,b2,b3,b4,b5,b6⟩,bz⟩:=zN ((hx2.block b hbs).trans HBR.out);have hbs2:b<w2.heap.size:=by omega
              have HL2:=hid (show Rst B b p (vars++new) (.slice A0 p.arrays.length c0) (.slice A1 p.funcs.length c1) (.slice A8 nvl c8) fs ft v2 v3 nj w wr.heap.size (qC 1 ty name (.slice A3 args.length c3) (.slice A4 thn.length c4) (.slice A5 els.length c5)) thn els (.slice A4 thn.length c4) (.slice A5 els.length c5) w2 from⟨HX2.out.1,HX2.out.2,HER.out.below hx2,hm2,HS4.out.below (hx2.mono HER.out.hB) Zr,HS5.out.below (hx2.mono HER.out.hB) Zr,(by have h:=z7 (w':=w2) HOWN.out fun g hg=>hx2.block g (zM HOWN.out g hg).2;rw[←HNV.out]at h ⊢;exact h),by omega,hbl⟩);have HPRE:=hid (show ((w2.setCell ⟨b,6,none⟩ (.int .i64 (W64 (nj+1)))).alloc (.cells #[.string name,.int .i64 ty] 47)).ownsRow w.heap.size 47 2 (.slice A8 nvl c8) nvl ((vars++new).flatMap kP.cs) from zv (by have:=HL2.out.set.own;rw[HNV.out]at this;exact this) _);have HNW:=hid (jH (w2.setCell ⟨b,6,none⟩ (.int .i64 (W64 (nj+1)))) [.string name,.int .i64 ty] 47 w2.heap.size (by simp));have hnv9:nvl≤1000000000:=by have:=HVN.out;have:=HNV.out;omega
              clear hx2 hb2 hm2)
           | (at_builtin;refine wpList_append_own _ rfl (.tmp 48) (.tmp 54) _ rfl w.heap.size 47 i0 _ 2 24 Tryz.underlying42 HI0.out.1 HI0.out.2.1 HI0.out.2.2.1 HI0.out.2.2.2 rfl (by omega) (.slice A8 nvl c8) nvl _ rfl (by exact HPRE.out) ⟨w2.heap.size,0,none⟩ 1 1 [.string name,.int .i64 ty] rfl rfl (by exact HNW.out) (by simp[Value.oneCell']) (by simp only[maxLen];omega) (by omega) (by simp;have:=HX2.out.1.size;omega) ?_
              intro vs w3 hown3 hg3 _;obtain⟨A7,c7,rfl⟩:=qT hown3;have hoB:=fun k (hk:(Value.slice A8 nvl c8).ownBlock=some k)=>zM HOWN.out k hk
              have hsz3:w2.heap.size+1≤w3.heap.size:=by have:=hg3.size;simpa using this
              have hk3:∀ g,g<w2.heap.size→(∀ k,(Value.slice A8 nvl c8).ownBlock=some k→g≠k)→w3.heap[g]? =(w2.setCell ⟨b,6,none⟩ (.int .i64 (W64 (nj+1)))).heap[g]?:=fun g hg hne=>(hg3.block g (by simp;omega) (fun e=>hne g e.symm rfl)).trans (Below.heap_alloc _ _ g (by simpa using hg))
              have hL4:=HL2.out.set;have hoff3:OffB b w.heap.size w w3:=OffB.mk' (hg3.os.trans hL4.off.os) (hg3.tape.trans hL4.off.tape) (hg3.output.trans hL4.off.output) (by omega) hbl fun g hg hne=>(hk3 g (by omega) (fun k hk=>by have:=(hoB k hk).1;omega)).trans (hL4.off.block hg hne)
              have hrow3:=(hk3 b hbs2 (fun k hk=>by have:=(hoB k hk).1;omega)).trans hL4.row;have hbox3:=(hk3 wr.heap.size hs2 (fun k hk=>by have:=(hoB k hk).2;omega)).trans hL4.box;have hE3:=HE.out.off hoff3;have hbel3:Below B (w2.setCell ⟨b,6,none⟩ (.int .i64 (W64 (nj+1)))) w3:=(Zb.alloc hL4.env.hB (.cells #[.string name,.int .i64 ty] 47)).grown hg3 (by have:=hL4.env.hB;rw[zA];omega) fun k hk=>by have:=(hoB k hk).1;have:=HE.out.hB;omega
              have hown3':w3.ownsRow w.heap.size 47 2 (.slice A7 (nvl+1) c7) (vars++(new++[(⟨name,ty⟩:Pa)])).length ((vars++(new++[(⟨name,ty⟩:Pa)])).flatMap kP.cs):=by rw[←List.append_assoc,xX,List.length_append,HNV.out];exact hown3
              have hlv:(vars++(new++[(⟨name,ty⟩:Pa)])).length=nvl+1:=by rw[←List.append_assoc,List.length_append,HNV.out];rfl
              have HL3:=hid (show Rst B b p (vars++(new++[(⟨name,ty⟩:Pa)])) (.slice A0 p.arrays.length c0) (.slice A1 p.funcs.length c1) (.slice A7 (nvl+1) c7) fs ft v2 v3 (nj+1) w wr.heap.size (qC 1 ty name (.slice A3 args.length c3) (.slice A4 thn.length c4) (.slice A5 els.length c5)) thn els (.slice A4 thn.length c4) (.slice A5 els.length c5) w3 from⟨hoff3,hrow3,⟨hE3.hB,hE3.hBb,hE3.hb,hE3.ha,hE3.hf,kD hown3' (by omega) (by omega)⟩,hbox3,hL4.s4.below hbel3 Zr,hL4.s5.below hbel3 Zr,hown3',HL2.out.ne,hbl⟩);obtain⟨⟨b0,b1,b2,b3,b4,b5,b6⟩,bz⟩:=zN hrow3;obtain⟨m0,m1,m2,m3,m4,m5⟩:=zQ hbox3;have hs3z:wr.heap.size<w3.heap.size:=zB hbox3;have hbs3:b<w3.heap.size:=zB hrow3
              clear hown3 hg3 hoB hk3 hL4 hoff3 hrow3 hbox3 hE3 hown3' hlv hbel3)
           | (go_at_call 31
              have h4:=HL3.out
              (with_reducible refine(HIH.out.call HO4.out HP.out HR2.out h4.env h4.row h4.s4 (by have:=HCD.out;have:=HCNT.out;have:=HCN.out;simp only[List.length_append,List.length_singleton];omega)).mono ?_)
              rintro e w5 ⟨rfl,ho5,hb5⟩;have h5:=h4.step ho5 hb5;obtain⟨⟨b0,b1,b2,b3,b4,b5,b6⟩,bz⟩:=zN h5.row;obtain⟨m0,m1,m2,m3,m4,m5⟩:=zQ h5.box;have hs5z:wr.heap.size<w5.heap.size:=zB h5.box;have H5:=hid h5
              clear ho5 hb5 h5 h4)
           | (go_at_call 31
              have h5:=H5.out
              (with_reducible refine(HIH.out.call HO5.out HP.out HR3.out h5.env h5.row h5.s5 (by have:=HCD.out;have:=HCNT.out;have:=HCN.out;simp only[List.length_append,List.length_singleton];omega)).mono ?_)
              rintro e w6 ⟨rfl,ho6,hb6⟩;have H6:=hid (h5.step ho6 hb6)
              clear ho6 hb6 h5))
          go_roundw
          case rel=>
           have hR1:=vJ (p:=p) (r:=l.drop (j+1)) (n:=nj) (n1:=n2) (n2:=n3) HE1_.out (by rw[HVX.out];exact HR2.out) (by rw[HVX.out];exact HR3.out);rw[HDD.out,HVX.out]at hR1;exact⟨j+1,n3,new++[(⟨name,ty⟩:Pa)],by omega,by go_num,hR1.symm,H6.out.own,H6.out.off,H6.out.row,by have:=HCD.out;have:=HCNT.out;(try simp only[List.length_append,List.length_singleton]);omega⟩
          case measure=>simp[intOf];omega
     case neg=>
      have n1:(k == 1)=false:=by simp[hk1]
      have HVX:=hid (show jp k ty name (vars++new)=vars++new by unfold jp;rw[if_neg hk1]);cases loop
      · obtain⟨⟨r2,n2⟩,hR2⟩:∃ R,zd p ft thn (vars++new) (vars++new).length (k == 5) (nj+1)=R:=⟨_,rfl⟩
        have HR2:=hid hR2;clear hR2;by_cases h2:r2=0
        case neg=>
         go_wp2_with (first
          | (go_at_call 65;(with_reducible refine(jO _ b p (vars++new) ty name args vars.length _ _ _ _ _ _ _ _ _ _ _ _ v2 v3 fs ft (W64 nj) _ _ _ HFS.out HE1_.out HE1.out HBB1.out HS3.out HO3.out HP.out HFR.out).mono ?_);rintro e w2 ⟨rfl,hb2⟩
             have hx2:Below wr.heap.size wr w2:=HW1.out.trans (hb2.mono (by rw[zA];omega));have hm2:=(hb2.block wr.heap.size (by rw[zA];omega)).trans (heap_alloc_new wr (qC k ty name (.slice A3 args.length c3) (.slice A4 thn.length c4) (.slice A5 els.length c5)));obtain⟨m0,m1,m2,m3,m4,m5⟩:=zQ hm2;have hs2:wr.heap.size<w2.heap.size:=by have:=hb2.size;rw[zA]at this;omega
             have HX2:=hid (And.intro (HOFF.out.trans ((OffB.of_below hx2 hbs).mono hsz)) ((hx2.block b hbs).trans HBR.out));obtain⟨⟨b0,b1,b2,b3,b4,b5,b6⟩,bz⟩:=zN ((hx2.block b hbs).trans HBR.out);have hbs2:b<w2.heap.size:=by omega
             have HL2:=hid (show Rst B b p (vars++new) (.slice A0 p.arrays.length c0) (.slice A1 p.funcs.length c1) (.slice A8 nvl c8) fs ft v2 v3 nj w wr.heap.size (qC k ty name (.slice A3 args.length c3) (.slice A4 thn.length c4) (.slice A5 els.length c5)) thn els (.slice A4 thn.length c4) (.slice A5 els.length c5) w2 from⟨HX2.out.1,HX2.out.2,HER.out.below hx2,hm2,HS4.out.below (hx2.mono HER.out.hB) Zr,HS5.out.below (hx2.mono HER.out.hB) Zr,(by have h:=z7 (w':=w2) HOWN.out fun g hg=>hx2.block g (zM HOWN.out g hg).2;rw[←HNV.out]at h ⊢;exact h),by omega,hbl⟩)
             clear hx2 hb2 hm2)
          | (go_at_call 31
             have h4:=HL2.out.set
             (with_reducible refine(HIH.out.call HO4.out HP.out HR2.out h4.env h4.row h4.s4 (by have:=HCD.out;have:=HCNT.out;have:=HCN.out;simp only[List.length_append,List.length_singleton];omega)).mono ?_)
             rintro e w5 ⟨rfl,ho5,hb5⟩;have h5:=h4.step ho5 hb5;obtain⟨⟨b0,b1,b2,b3,b4,b5,b6⟩,bz⟩:=zN h5.row;obtain⟨m0,m1,m2,m3,m4,m5⟩:=zQ h5.box;have hs5z:wr.heap.size<w5.heap.size:=zB h5.box;have H5:=hid h5
             clear ho5 hb5 h5 h4))
         go_ret;have hR1:=xt (p:=p) (r:=l.drop (j+1)) (els:=els) (n:=nj) (R:=(r2,n2)) HE1_.out (by rw[HVX.out];exact HR2.out) h2;rw[HDD.out]at hR1;subst hR1;exact⟨rfl,H5.out.off,H5.out.row⟩
        case pos=>
         subst h2;obtain⟨⟨r3,n3⟩,hR3⟩:∃ R,zd p ft els (vars++new) (vars++new).length false n2=R:=⟨_,rfl⟩
         have HR3:=hid hR3;clear hR3;by_cases h3:r3=0
         case neg=>
          go_wp2_with (first
           | (go_at_call 65;(with_reducible refine(jO _ b p (vars++new) ty name args vars.length _ _ _ _ _ _ _ _ _ _ _ _ v2 v3 fs ft (W64 nj) _ _ _ HFS.out HE1_.out HE1.out HBB1.out HS3.out HO3.out HP.out HFR.out).mono ?_);rintro e w2 ⟨rfl,hb2⟩
              have hx2:Below wr.heap.size wr w2:=HW1.out.trans (hb2.mono (by rw[zA];omega));have hm2:=(hb2.block wr.heap.size (by rw[zA];omega)).trans (heap_alloc_new wr (qC k ty name (.slice A3 args.length c3) (.slice A4 thn.length c4) (.slice A5 els.length c5)));obtain⟨m0,m1,m2,m3,m4,m5⟩:=zQ hm2;have hs2:wr.heap.size<w2.heap.size:=by have:=hb2.size;rw[zA]at this;omega
              have HX2:=hid (And.intro (HOFF.out.trans ((OffB.of_below hx2 hbs).mono hsz)) ((hx2.block b hbs).trans HBR.out));obtain⟨⟨b0,b1,b2,b3,b4,b5,b6⟩,bz⟩:=zN ((hx2.block b hbs).trans HBR.out);have hbs2:b<w2.heap.size:=by omega
              have HL2:=hid (show Rst B b p (vars++new) (.slice A0 p.arrays.length c0) (.slice A1 p.funcs.length c1) (.slice A8 nvl c8) fs ft v2 v3 nj w wr.heap.size (qC k ty name (.slice A3 args.length c3) (.slice A4 thn.length c4) (.slice A5 els.length c5)) thn els (.slice A4 thn.length c4) (.slice A5 els.length c5) w2 from⟨HX2.out.1,HX2.out.2,HER.out.below hx2,hm2,HS4.out.below (hx2.mono HER.out.hB) Zr,HS5.out.below (hx2.mono HER.out.hB) Zr,(by have h:=z7 (w':=w2) HOWN.out fun g hg=>hx2.block g (zM HOWN.out g hg).2;rw[←HNV.out]at h ⊢;exact h),by omega,hbl⟩)
              clear hx2 hb2 hm2)
           | (go_at_call 31
              have h4:=HL2.out.set
              (with_reducible refine(HIH.out.call HO4.out HP.out HR2.out h4.env h4.row h4.s4 (by have:=HCD.out;have:=HCNT.out;have:=HCN.out;simp only[List.length_append,List.length_singleton];omega)).mono ?_)
              rintro e w5 ⟨rfl,ho5,hb5⟩;have h5:=h4.step ho5 hb5;obtain⟨⟨b0,b1,b2,b3,b4,b5,b6⟩,bz⟩:=zN h5.row;obtain⟨m0,m1,m2,m3,m4,m5⟩:=zQ h5.box;have hs5z:wr.heap.size<w5.heap.size:=zB h5.box;have H5:=hid h5
              clear ho5 hb5 h5 h4)
           | (go_at_call 31
              have h5:=H5.out
              (with_reducible refine(HIH.out.call HO5.out HP.out HR3.out h5.env h5.row h5.s5 (by have:=HCD.out;have:=HCNT.out;have:=HCN.out;simp only[List.length_append,List.length_singleton];omega)).mono ?_)
              rintro e w6 ⟨rfl,ho6,hb6⟩;have H6:=hid (h5.step ho6 hb6)
              clear ho6 hb6 h5))
          go_ret;have hR1:=xu (p:=p) (r:=l.drop (j+1)) (n:=nj) (n1:=n2) (R:=(r3,n3)) HE1_.out (by rw[HVX.out];exact HR2.out) (by rw[HVX.out];exact HR3.out) h3;rw[HDD.out]at hR1;subst hR1;exact⟨rfl,H6.out.off,H6.out.row⟩
         case pos=>
          subst h3
          go_wp2_with (first
           | (go_at_call 65;(with_reducible refine(jO _ b p (vars++new) ty name args vars.length _ _ _ _ _ _ _ _ _ _ _ _ v2 v3 fs ft (W64 nj) _ _ _ HFS.out HE1_.out HE1.out HBB1.out HS3.out HO3.out HP.out HFR.out).mono ?_);rintro e w2 ⟨rfl,hb2⟩
              have hx2:Below wr.heap.size wr w2:=HW1.out.trans (hb2.mono (by rw[zA];omega));have hm2:=(hb2.block wr.heap.size (by rw[zA];omega)).trans (heap_alloc_new wr (qC k ty name (.slice A3 args.length c3) (.slice A4 thn.length c4) (.slice A5 els.length c5)));obtain⟨m0,m1,m2,m3,m4,m5⟩:=zQ hm2;have hs2:wr.heap.size<w2.heap.size:=by have:=hb2.size;rw[zA]at this;omega
              have HX2:=hid (And.intro (HOFF.out.trans ((OffB.of_below hx2 hbs).mono hsz)) ((hx2.block b hbs).trans HBR.out));obtain⟨⟨b0,b1,b2,b3,b4,b5,b6⟩,bz⟩:=zN ((hx2.block b hbs).trans HBR.out);have hbs2:b<w2.heap.size:=by omega
              have HL2:=hid (show Rst B b p (vars++new) (.slice A0 p.arrays.length c0) (.slice A1 p.funcs.length c1) (.slice A8 nvl c8) fs ft v2 v3 nj w wr.heap.size (qC k ty name (.slice A3 args.length c3) (.slice A4 thn.length c4) (.slice A5 els.length c5)) thn els (.slice A4 thn.length c4) (.slice A5 els.length c5) w2 from⟨HX2.out.1,HX2.out.2,HER.out.below hx2,hm2,HS4.out.below (hx2.mono HER.out.hB) Zr,HS5.out.below (hx2.mono HER.out.hB) Zr,(by have h:=z7 (w':=w2) HOWN.out fun g hg=>hx2.block g (zM HOWN.out g hg).2;rw[←HNV.out]at h ⊢;exact h),by omega,hbl⟩)
              clear hx2 hb2 hm2)
           | (go_at_call 31
              have h4:=HL2.out.set
              (with_reducible refine(HIH.out.call HO4.out HP.out HR2.out h4.env h4.row h4.s4 (by have:=HCD.out;have:=HCNT.out;have:=HCN.out;simp only[List.length_append,List.length_singleton];omega)).mono ?_)
              rintro e w5 ⟨rfl,ho5,hb5⟩;have h5:=h4.step ho5 hb5;obtain⟨⟨b0,b1,b2,b3,b4,b5,b6⟩,bz⟩:=zN h5.row;obtain⟨m0,m1,m2,m3,m4,m5⟩:=zQ h5.box;have hs5z:wr.heap.size<w5.heap.size:=zB h5.box;have H5:=hid h5
              clear ho5 hb5 h5 h4)
           | (go_at_call 31
              have h5:=H5.out
              (with_reducible refine(HIH.out.call HO5.out HP.out HR3.out h5.env h5.row h5.s5 (by have:=HCD.out;have:=HCNT.out;have:=HCN.out;simp only[List.length_append,List.length_singleton];omega)).mono ?_)
              rintro e w6 ⟨rfl,ho6,hb6⟩;have H6:=hid (h5.step ho6 hb6)
              clear ho6 hb6 h5))
          go_roundw
          case rel=>
           have hR1:=vJ (p:=p) (r:=l.drop (j+1)) (n:=nj) (n1:=n2) (n2:=n3) HE1_.out (by rw[HVX.out];exact HR2.out) (by rw[HVX.out];exact HR3.out);rw[HDD.out,HVX.out]at hR1;exact⟨j+1,n3,new,by omega,by go_num,hR1.symm,H6.out.own,H6.out.off,H6.out.row,by have:=HCD.out;have:=HCNT.out;(try simp only[List.length_append,List.length_singleton]);omega⟩
          case measure=>simp[intOf];omega
      · obtain⟨⟨r2,n2⟩,hR2⟩:∃ R,zd p ft thn (vars++new) (vars++new).length true (nj+1)=R:=⟨_,rfl⟩
        have HR2:=hid hR2;clear hR2;by_cases h2:r2=0
        case neg=>
         go_wp2_with (first
          | (go_at_call 65;(with_reducible refine(jO _ b p (vars++new) ty name args vars.length _ _ _ _ _ _ _ _ _ _ _ _ v2 v3 fs ft (W64 nj) _ _ _ HFS.out HE1_.out HE1.out HBB1.out HS3.out HO3.out HP.out HFR.out).mono ?_);rintro e w2 ⟨rfl,hb2⟩
             have hx2:Below wr.heap.size wr w2:=HW1.out.trans (hb2.mono (by rw[zA];omega));have hm2:=(hb2.block wr.heap.size (by rw[zA];omega)).trans (heap_alloc_new wr (qC k ty name (.slice A3 args.length c3) (.slice A4 thn.length c4) (.slice A5 els.length c5)));obtain⟨m0,m1,m2,m3,m4,m5⟩:=zQ hm2;have hs2:wr.heap.size<w2.heap.size:=by have:=hb2.size;rw[zA]at this;omega
             have HX2:=hid (And.intro (HOFF.out.trans ((OffB.of_below hx2 hbs).mono hsz)) ((hx2.block b hbs).trans HBR.out));obtain⟨⟨b0,b1,b2,b3,b4,b5,b6⟩,bz⟩:=zN ((hx2.block b hbs).trans HBR.out);have hbs2:b<w2.heap.size:=by omega
             have HL2:=hid (show Rst B b p (vars++new) (.slice A0 p.arrays.length c0) (.slice A1 p.funcs.length c1) (.slice A8 nvl c8) fs ft v2 v3 nj w wr.heap.size (qC k ty name (.slice A3 args.length c3) (.slice A4 thn.length c4) (.slice A5 els.length c5)) thn els (.slice A4 thn.length c4) (.slice A5 els.length c5) w2 from⟨HX2.out.1,HX2.out.2,HER.out.below hx2,hm2,HS4.out.below (hx2.mono HER.out.hB) Zr,HS5.out.below (hx2.mono HER.out.hB) Zr,(by have h:=z7 (w':=w2) HOWN.out fun g hg=>hx2.block g (zM HOWN.out g hg).2;rw[←HNV.out]at h ⊢;exact h),by omega,hbl⟩)
             clear hx2 hb2 hm2)
          | (go_at_call 31
             have h4:=HL2.out.set
             (with_reducible refine(HIH.out.call HO4.out HP.out HR2.out h4.env h4.row h4.s4 (by have:=HCD.out;have:=HCNT.out;have:=HCN.out;simp only[List.length_append,List.length_singleton];omega)).mono ?_)
             rintro e w5 ⟨rfl,ho5,hb5⟩;have h5:=h4.step ho5 hb5;obtain⟨⟨b0,b1,b2,b3,b4,b5,b6⟩,bz⟩:=zN h5.row;obtain⟨m0,m1,m2,m3,m4,m5⟩:=zQ h5.box;have hs5z:wr.heap.size<w5.heap.size:=zB h5.box;have H5:=hid h5
             clear ho5 hb5 h5 h4))
         go_ret;have hR1:=xt (p:=p) (r:=l.drop (j+1)) (els:=els) (n:=nj) (R:=(r2,n2)) HE1_.out (by rw[HVX.out];exact HR2.out) h2;rw[HDD.out]at hR1;subst hR1;exact⟨rfl,H5.out.off,H5.out.row⟩
        case pos=>
         subst h2;obtain⟨⟨r3,n3⟩,hR3⟩:∃ R,zd p ft els (vars++new) (vars++new).length true n2=R:=⟨_,rfl⟩
         have HR3:=hid hR3;clear hR3;by_cases h3:r3=0
         case neg=>
          go_wp2_with (first
           | (go_at_call 65;(with_reducible refine(jO _ b p (vars++new) ty name args vars.length _ _ _ _ _ _ _ _ _ _ _ _ v2 v3 fs ft (W64 nj) _ _ _ HFS.out HE1_.out HE1.out HBB1.out HS3.out HO3.out HP.out HFR.out).mono ?_);rintro e w2 ⟨rfl,hb2⟩
              have hx2:Below wr.heap.size wr w2:=HW1.out.trans (hb2.mono (by rw[zA];omega));have hm2:=(hb2.block wr.heap.size (by rw[zA];omega)).trans (heap_alloc_new wr (qC k ty name (.slice A3 args.length c3) (.slice A4 thn.length c4) (.slice A5 els.length c5)));obtain⟨m0,m1,m2,m3,m4,m5⟩:=zQ hm2;have hs2:wr.heap.size<w2.heap.size:=by have:=hb2.size;rw[zA]at this;omega
              have HX2:=hid (And.intro (HOFF.out.trans ((OffB.of_below hx2 hbs).mono hsz)) ((hx2.block b hbs).trans HBR.out));obtain⟨⟨b0,b1,b2,b3,b4,b5,b6⟩,bz⟩:=zN ((hx2.block b hbs).trans HBR.out);have hbs2:b<w2.heap.size:=by omega
              have HL2:=hid (show Rst B b p (vars++new) (.slice A0 p.arrays.length c0) (.slice A1 p.funcs.length c1) (.slice A8 nvl c8) fs ft v2 v3 nj w wr.heap.size (qC k ty name (.slice A3 args.length c3) (.slice A4 thn.length c4) (.slice A5 els.length c5)) thn els (.slice A4 thn.length c4) (.slice A5 els.length c5) w2 from⟨HX2.out.1,HX2.out.2,HER.out.below hx2,hm2,HS4.out.below (hx2.mono HER.out.hB) Zr,HS5.out.below (hx2.mono HER.out.hB) Zr,(by have h:=z7 (w':=w2) HOWN.out fun g hg=>hx2.block g (zM HOWN.out g hg).2;rw[←HNV.out]at h ⊢;exact h),by omega,hbl⟩)
              clear hx2 hb2 hm2)
           | (go_at_call 31
              have h4:=HL2.out.set
              (with_reducible refine(HIH.out.call HO4.out HP.out HR2.out h4.env h4.row h4.s4 (by have:=HCD.out;have:=HCNT.out;have:=HCN.out;simp only[List.length_append,List.length_singleton];omega)).mono ?_)
              rintro e w5 ⟨rfl,ho5,hb5⟩;have h5:=h4.step ho5 hb5;obtain⟨⟨b0,b1,b2,b3,b4,b5,b6⟩,bz⟩:=zN h5.row;obtain⟨m0,m1,m2,m3,m4,m5⟩:=zQ h5.box;have hs5z:wr.heap.size<w5.heap.size:=zB h5.box;have H5:=hid h5
              clear ho5 hb5 h5 h4)
           | (go_at_call 31
              have h5:=H5.out
              (with_reducible refine(HIH.out.call HO5.out HP.out HR3.out h5.env h5.row h5.s5 (by have:=HCD.out;have:=HCNT.out;have:=HCN.out;simp only[List.length_append,List.length_singleton];omega)).mono ?_)
              rintro e w6 ⟨rfl,ho6,hb6⟩;have H6:=hid (h5.step ho6 hb6)
              clear ho6 hb6 h5))
          go_ret;have hR1:=xu (p:=p) (r:=l.drop (j+1)) (n:=nj) (n1:=n2) (R:=(r3,n3)) HE1_.out (by rw[HVX.out];exact HR2.out) (by rw[HVX.out];exact HR3.out) h3;rw[HDD.out]at hR1;subst hR1;exact⟨rfl,H6.out.off,H6.out.row⟩
         case pos=>
          subst h3
          go_wp2_with (first
           | (go_at_call 65;(with_reducible refine(jO _ b p (vars++new) ty name args vars.length _ _ _ _ _ _ _ _ _ _ _ _ v2 v3 fs ft (W64 nj) _ _ _ HFS.out HE1_.out HE1.out HBB1.out HS3.out HO3.out HP.out HFR.out).mono ?_);rintro e w2 ⟨rfl,hb2⟩
              have hx2:Below wr.heap.size wr w2:=HW1.out.trans (hb2.mono (by rw[zA];omega));have hm2:=(hb2.block wr.heap.size (by rw[zA];omega)).trans (heap_alloc_new wr (qC k ty name (.slice A3 args.length c3) (.slice A4 thn.length c4) (.slice A5 els.length c5)));obtain⟨m0,m1,m2,m3,m4,m5⟩:=zQ hm2;have hs2:wr.heap.size<w2.heap.size:=by have:=hb2.size;rw[zA]at this;omega
              have HX2:=hid (And.intro (HOFF.out.trans ((OffB.of_below hx2 hbs).mono hsz)) ((hx2.block b hbs).trans HBR.out));obtain⟨⟨b0,b1,b2,b3,b4,b5,b6⟩,bz⟩:=zN ((hx2.block b hbs).trans HBR.out);have hbs2:b<w2.heap.size:=by omega
              have HL2:=hid (show Rst B b p (vars++new) (.slice A0 p.arrays.length c0) (.slice A1 p.funcs.length c1) (.slice A8 nvl c8) fs ft v2 v3 nj w wr.heap.size (qC k ty name (.slice A3 args.length c3) (.slice A4 thn.length c4) (.slice A5 els.length c5)) thn els (.slice A4 thn.length c4) (.slice A5 els.length c5) w2 from⟨HX2.out.1,HX2.out.2,HER.out.below hx2,hm2,HS4.out.below (hx2.mono HER.out.hB) Zr,HS5.out.below (hx2.mono HER.out.hB) Zr,(by have h:=z7 (w':=w2) HOWN.out fun g hg=>hx2.block g (zM HOWN.out g hg).2;rw[←HNV.out]at h ⊢;exact h),by omega,hbl⟩)
              clear hx2 hb2 hm2)
           | (go_at_call 31
              have h4:=HL2.out.set
              (with_reducible refine(HIH.out.call HO4.out HP.out HR2.out h4.env h4.row h4.s4 (by have:=HCD.out;have:=HCNT.out;have:=HCN.out;simp only[List.length_append,List.length_singleton];omega)).mono ?_)
              rintro e w5 ⟨rfl,ho5,hb5⟩;have h5:=h4.step ho5 hb5;obtain⟨⟨b0,b1,b2,b3,b4,b5,b6⟩,bz⟩:=zN h5.row;obtain⟨m0,m1,m2,m3,m4,m5⟩:=zQ h5.box;have hs5z:wr.heap.size<w5.heap.size:=zB h5.box;have H5:=hid h5
              clear ho5 hb5 h5 h4)
           | (go_at_call 31
              have h5:=H5.out
              (with_reducible refine(HIH.out.call HO5.out HP.out HR3.out h5.env h5.row h5.s5 (by have:=HCD.out;have:=HCNT.out;have:=HCN.out;simp only[List.length_append,List.length_singleton];omega)).mono ?_)
              rintro e w6 ⟨rfl,ho6,hb6⟩;have H6:=hid (h5.step ho6 hb6)
              clear ho6 hb6 h5))
          go_roundw
          case rel=>
           have hR1:=vJ (p:=p) (r:=l.drop (j+1)) (n:=nj) (n1:=n2) (n2:=n3) HE1_.out (by rw[HVX.out];exact HR2.out) (by rw[HVX.out];exact HR3.out);rw[HDD.out,HVX.out]at hR1;exact⟨j+1,n3,new,by omega,by go_num,hR1.symm,H6.out.own,H6.out.off,H6.out.row,by have:=HCD.out;have:=HCNT.out;(try simp only[List.length_append,List.length_singleton]);omega⟩
          case measure=>simp[intOf];omega
  · go_wp2_with (fail)
    go_ret;have hd:=HT.out;rw[List.drop_of_length_le (by omega),zd]at hd;subst hd;exact⟨rfl,HOFF.out,HBR.out⟩
theorem yl:∀ m,BlC m
 | 0=>cblock_step 0 fun _ h=>by omega
 | m+1=>cblock_step (m+1) fun m' h=>by
   obtain rfl:m'=m:=by omega
   exact yl m'
theorem zAk (s:ByteArray):s.toList=[]↔s.size=0:=by
 rw[Lib.toList_data,Lib.size_eq];exact List.length_eq_zero_iff.symm
theorem isOne_any (op:Int) (w:World):Calls Tryz.prog 85 #[.int .i64 op] w fun e w'=>e=.returned (.bool (decide (20≤op∧op≤28)))∧w=w':=by
 go_enter Tryz.func85,Tryz.ntmps85;go_wp2_with (fail)
 all_goals go_ret
 all_goals refine⟨zC ?_,rfl⟩
 all_goals go_light
 all_goals (rw[Bool.eq_iff_iff];simp;try omega)
def RxC (m:Nat):Prop:=∀ (B:Nat) (z:Int) (k op n:Int) (name:ByteArray) (args:List Ex) (A:Option Addr) (cap:Nat) (c:Bool) (w:World),z=(m:Int)→1≤m→m≤1000→yr (.mk k op n name args) m=c→B≤w.heap.size→qw B w (.slice A args.length cap) args→
 Calls Tryz.prog 70 #[.agg #[.int .i64 k,.int .i64 op,.int .i64 n,.string name,.slice A args.length cap],.int .i64 z] w fun e w'=>e=.returned (.bool c)∧Below w.heap.size w w'
theorem RxC.call {m:Nat} (h:RxC m) (B:Nat) (z:Int) (k op n:Int) (name:ByteArray) (args:List Ex) (A:Option Addr) (cap:Nat) (c:Bool) (w:World) (hz:z=(m:Int)) (h1:1≤m) (h2:m≤1000) (hc:yr (.mk k op n name args) m=c) (hB:B≤w.heap.size) (hs:qw B w (.slice A args.length cap) args):
 Calls Tryz.prog 70 #[.agg #[.int .i64 k,.int .i64 op,.int .i64 n,.string name,.slice A args.length cap],.int .i64 z] w fun e w'=>e=.returned (.bool c)∧Below w.heap.size w w':=h B z k op n name args A cap c w hz h1 h2 hc hB hs
set_option maxHeartbeats 8000000 in
theorem rexpr_step (m:Nat) (ih:∀ m',m'+1=m→RxC m'):RxC m:=by
 intro B z k op n name args A cap c w hz hm1 hm2 hc hB hs;have HS:=hid hs;have HI:=hid ih;have HC:=hid hc;have HZ:=hid hz;have hn:args.length≤281474976710656:=by obtain⟨_,_,h,h2⟩:=hs.form;exact h2
 have hz0:1≤z:=by omega
 have hz1:z≤1000:=by omega
 clear hs ih hc hz;go_enter Tryz.func70,Tryz.ntmps70;go_wp2_with (fail)
 go_loopw [5] (fun iv wr=>∃ i:Nat,i≤args.length∧iv=.int .i64 i∧zr (args.take i) (m-1)=true∧Below (w.heap.size+1) (w.alloc (.cells #[.int .i64 k,.int .i64 op,.int .i64 n,.string name,.slice A args.length cap] 116)) wr) (fun iv _=>args.length-(intOf iv).toNat)
 case atStart=>exact⟨0,Nat.zero_le _,rfl,yL _,Below.refl _ _⟩
 case round=>
  obtain⟨i,hi,rfl,hall,hbw⟩:=hrel;have HA:=hid hall;clear hall;have hsz:w.heap.size+1≤wr.heap.size:=by have:=hbw.size;simpa using this
  have hwr:Below w.heap.size w wr:=(Zb.alloc Zr _).trans (hbw.mono (by omega));have hBr:B≤wr.heap.size:=by omega
  have hq:w.heap.size<wr.heap.size:=by omega
  have hrow:wr.heap[w.heap.size]? =some (.cells #[.int .i64 k,.int .i64 op,.int .i64 n,.string name,.slice A args.length cap] 116 (0,0)):=(hbw.block _ (by omega)).trans (heap_alloc_new w _);have k0:wr.cell? ⟨w.heap.size,0,none⟩=some (.int .i64 k):=by rw[Lib.cell_of_heap hrow];rfl
  have k1:wr.cell? ⟨w.heap.size,1,none⟩=some (.int .i64 op):=by rw[Lib.cell_of_heap hrow];rfl
  have k2:wr.cell? ⟨w.heap.size,2,none⟩=some (.int .i64 n):=by rw[Lib.cell_of_heap hrow];rfl
  have k3:wr.cell? ⟨w.heap.size,3,none⟩=some (.string name):=by rw[Lib.cell_of_heap hrow];rfl
  have k4:wr.cell? ⟨w.heap.size,4,none⟩=some (.slice A args.length cap):=by rw[Lib.cell_of_heap hrow];rfl
  clear hrow;by_cases hlt:i<args.length
  · obtain⟨⟨kk,op',n',name',args'⟩,he⟩:∃ e,args[i]? =some e:=⟨_,List.getElem?_eq_getElem hlt⟩
    obtain⟨g,o,v,rfl,hg,q0,q1,q2,q3,q4,hs'⟩:=(HS.out.below (hwr.mono hB) Zr).cells he;obtain⟨A',cap',rfl,_⟩:=hs'.form;have HE:=hid he;have HS':=hid hs';have hgs:g<wr.heap.size:=by omega
    clear he hs';by_cases hm:m=1
    · have hd:z<2:=by have:=HZ.out;omega
      have HF:Hid (c=false):=by
       unfold Hid;rw[←HC.out,ju,xT HE.out (by rw[hm,ju];simp)];simp
      clear hm;go_wp2_with (fail);go_ret;exact⟨zC HF.out.symm,hwr⟩
    · have hd:¬ z<2:=by have:=HZ.out;omega
      obtain⟨m',rfl⟩:∃ m',m=m'+1:=⟨m-1,by omega⟩
      have HZ1:Hid (z-1=(m':Int)):=by have:=HZ.out;unfold Hid;omega
      have hm1':1≤m':=by omega
      have hm2':m'≤1000:=by omega
      obtain⟨b,hb⟩:∃ b,yr (.mk kk op' n' name' args') m'=b:=⟨_,rfl⟩
      have HBb:=hid hb;clear hb hm;cases b
      · have HF:Hid (c=false):=by
         unfold Hid;rw[←HC.out,ju,Nat.add_sub_cancel,xT HE.out HBb.out];simp
        go_wp2_with (go_at_call 70;(with_reducible refine((HI.out m' rfl).call B _ _ _ _ _ _ _ _ _ _ HZ1.out hm1' hm2' HBb.out hBr HS'.out).mono ?_);rintro e w2 ⟨rfl,hx2⟩);go_ret;exact⟨zC HF.out.symm,hwr.trans (hx2.mono (by omega))⟩
      · go_wp2_with (go_at_call 70;(with_reducible refine((HI.out m' rfl).call B _ _ _ _ _ _ _ _ _ _ HZ1.out hm1' hm2' HBb.out hBr HS'.out).mono ?_);rintro e w2 ⟨rfl,hx2⟩)
        go_roundw
        case rel=>exact⟨i+1,by omega,by go_num,by rw[uI HE.out,HA.out,Nat.add_sub_cancel,HBb.out];rfl,hbw.trans (hx2.mono hsz)⟩
        case measure=>simp[intOf];omega
  · have HCF:Hid (c=zh k op n name args.length):=by
     have h1:zr args (m-1)=true:=by rw[←HA.out,List.take_of_length_le (by omega)]
     unfold Hid;rw[←HC.out,ju,h1];have:decide (1≤m)=true:=by simpa using hm1
     rw[this];simp
    obtain⟨nb,hnb⟩:∃ nb,vt name=nb:=⟨_,rfl⟩
    obtain⟨ob,hob⟩:∃ ob,decide (20≤op∧op≤28)=ob:=⟨_,rfl⟩
    obtain⟨ln,hln⟩:∃ ln,args.length=ln:=⟨_,rfl⟩
    have HNB:=hid hnb;have HOB:=hid hob;rw[hln]at hn k4 HCF hlt;have hli:i=ln:=by omega
    subst hli;have HLN:=hid hln;rw[hln];clear hnb hob hln hlt hm1 hm2 HS HI HC HA HZ hz0 hz1;by_cases h1:k=1∨k=2∨k=8
    · rcases h1 with rfl | rfl | rfl
      all_goals
       go_wp2_with (go_at_call 36;(with_reducible refine(qE name _ HNB.out _).mono ?_);rintro e w2 ⟨rfl,rfl⟩)
       all_goals go_ret
       all_goals refine⟨zC ?_,hwr⟩
       all_goals rw[HCF.out]
       all_goals clear hbw hwr k0 k1 k2 k3 k4 HCF HOB HNB HLN
       all_goals go_light
       all_goals simp_all [zh,eB,zAk]
       all_goals first | omega | (rw[Bool.eq_iff_iff];simp;omega) | (rw[Bool.eq_iff_iff];simp;done)
    by_cases h2:k=3∨k=6∨k=7
    · rcases h2 with rfl | rfl | rfl
      all_goals cases nb
      all_goals
       go_wp2_with (go_at_call 36;(with_reducible refine(qE name _ HNB.out _).mono ?_);rintro e w2 ⟨rfl,rfl⟩)
       all_goals go_ret
       all_goals refine⟨zC ?_,hwr⟩
       all_goals rw[HCF.out]
       all_goals have HNB':=HNB.out
       all_goals clear hbw hwr k0 k1 k2 k3 k4 HCF HOB HNB HLN
       all_goals go_light
       all_goals simp_all [zh]
       all_goals first | omega | (rw[Bool.eq_iff_iff];simp;omega) | (rw[Bool.eq_iff_iff];simp;done)
    by_cases h4:k=4
    · subst h4
      all_goals
       go_wp2_with (first
        | (go_at_call 36;(with_reducible refine(qE name _ HNB.out _).mono ?_);rintro e w2 ⟨rfl,rfl⟩)
        | (go_at_call 85;(with_reducible refine(isOne_any _ _).mono ?_);rintro e w2 ⟨rfl,rfl⟩))
       all_goals go_ret
       all_goals refine⟨zC ?_,hwr⟩
       all_goals rw[HCF.out]
       all_goals clear hbw hwr k0 k1 k2 k3 k4 HCF HOB HNB HLN
       all_goals go_light
       all_goals simp_all [zh,eB,zAk]
       all_goals first | omega | (rw[Bool.eq_iff_iff];simp;omega) | (rw[Bool.eq_iff_iff];simp;done)
    by_cases h5:k=5
    · subst h5
      go_wp2_with (first
       | (go_at_call 36;(with_reducible refine(qE name _ HNB.out _).mono ?_);rintro e w2 ⟨rfl,rfl⟩)
       | (go_at_call 86;(with_reducible refine(rlevel_any _ _).mono ?_);rintro e w2 ⟨rfl,rfl⟩))
      all_goals go_ret
      all_goals refine⟨zC ?_,hwr⟩
      all_goals rw[HCF.out]
      all_goals clear hbw hwr k0 k1 k2 k3 k4 HCF HOB HNB HLN
      all_goals go_light
      all_goals simp_all [zh,eB,zAk]
      all_goals first | omega | (rw[Bool.eq_iff_iff];simp;omega) | (rw[Bool.eq_iff_iff];simp;done)
    · have n1:(k == 1)=false:=by simp;omega
      have n2:(k == 2)=false:=by simp;omega
      have n3:(k == 3)=false:=by simp;omega
      have n4:(k == 4)=false:=by simp;omega
      have n5:(k == 5)=false:=by simp;omega
      have n6:(k == 6)=false:=by simp;omega
      have n7:(k == 7)=false:=by simp;omega
      have n8:(k == 8)=false:=by simp;omega
      have hf:Hid (c=false):=by
       unfold Hid;rw[HCF.out];unfold zh;rw[if_neg (by omega),if_neg (by omega),if_neg (by omega),if_neg (by omega),if_neg (by omega),if_neg (by omega),if_neg (by omega),if_neg (by omega)]
      clear h1 h2 h4 h5;go_wp2_with (go_at_call 36;(with_reducible refine(qE name _ HNB.out _).mono ?_);rintro e w2 ⟨rfl,rfl⟩)
      all_goals go_ret
      all_goals exact⟨zC hf.out.symm,hwr⟩
theorem rexpr_all:∀ m,RxC m
 | 0=>rexpr_step 0 (fun _ h=>by omega)
 | m+1=>rexpr_step (m+1) (fun m' h=>by
    obtain rfl:m'=m:=by omega
    exact rexpr_all m')
end Go.Proofs.YtfghofifjnbicaaGreatDoor
