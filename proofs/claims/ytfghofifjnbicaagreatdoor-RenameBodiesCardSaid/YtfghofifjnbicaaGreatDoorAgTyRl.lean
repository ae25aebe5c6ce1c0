import Derived.Test.YtfghofifjnbicaaGreatDoorAgParPg
set_option linter.unusedSimpArgs false
set_option linter.unusedVariables false
set_option maxRecDepth 100000
/- The contract of the document's globals. -/
namespace Go.Proofs.YtfghofifjnbicaaGreatDoor
open Lib (hid)
open Go.RowKit
set_option maxHeartbeats 4000000 in
theorem zAi (B:Nat) (p:Pr) (r:Bool) (v0 v1:Value) (w:World) (hB:B≤w.heap.size) (ha:SlA B w v0 p.arrays) (hf:SlF B w v1 p.funcs) (hr:(!(vG p p.arrays || uA p.funcs) && xK p)=r):
 Calls Tryz.prog 29 #[.agg #[v0,v1]] w fun e w'=>e=.returned (.bool r)∧Below w.heap.size w w':=by
 obtain⟨A0,c0,rfl,_⟩:=ha.form;obtain⟨A1,c1,rfl,hn⟩:=hf.form;have HA:=hid ha;have HF:=hid hf;have HR:=hid hr;clear ha hf hr;go_enter Tryz.func29,Tryz.ntmps29;go_wp2_with (fail)
 go_loopw [3] (fun iv wr=>∃ i:Nat,i≤p.arrays.length∧iv=.int .i64 i∧(∀ (k:Nat) f,k<i→p.arrays[k]? =some f→qb p.arrays f.name=some k∧qO p.funcs f.name=none)∧wr.heap[w.heap.size]? =some (pgO A0 p.arrays.length c0 A1 p.funcs.length c1)∧Below w.heap.size w wr) (fun iv _=>p.arrays.length-(intOf iv).toNat)
 case atStart=>exact⟨0,Nat.zero_le _,rfl,fun k f hk=>absurd hk (by omega),heap_alloc_new _ _,(Below.refl _ _).alloc (Nat.le_refl _) _⟩
 case round=>
  obtain⟨i,hi,rfl,hall,hx,hbw⟩:=hrel;obtain⟨⟨r0,r1⟩,rz⟩:=zE hx;have hs0:w.heap.size<wr.heap.size:=zB hx;have HALL:=hid hall;have HX:=hid hx;have HBW:=hid hbw;by_cases hlt:i<p.arrays.length
  · obtain⟨y,hy⟩:∃ e,p.arrays[i]? =some e:=⟨_,List.getElem?_eq_getElem hlt⟩
    obtain⟨g,o,rfl,hg,q0,q1⟩:=(HA.out.below (hbw.mono hB) (Nat.le_refl _)).cells hy;have hgs:g<wr.heap.size:=by omega
    have HY:=hid hy;have hbd:Below wr.heap.size wr wr.drew:=(Below.refl _ _).drew;have HAD:=hid (HA.out.below ((hbw.trans (hbd.mono (by omega))).mono hB) (Nat.le_refl _));have HFD:=hid (HF.out.below ((hbw.trans (hbd.mono (by omega))).mono hB) (Nat.le_refl _));obtain⟨za,hza⟩:∃ z,j9 (qb p.arrays y.name)=z:=⟨_,rfl⟩
    obtain⟨zf,hzf⟩:∃ z,j9 (qO p.funcs y.name)=z:=⟨_,rfl⟩
    have HZA:=hid hza;have HZF:=hid hzf;clear hy hx hbw hall hza hzf hbd;have hcase:za≠(i:Int)∨za=(i:Int)∧0≤zf∨za=(i:Int)∧¬ 0≤zf:=by omega
    rcases hcase with h1 | ⟨h1,h2⟩ | ⟨h1,h2⟩
    case inl=>
     have hdt:vG p p.arrays=true:=by
      cases hd:vG p p.arrays with
      | true=>rfl
      | false=>
        have h3:=((zAh p).1 hd i y HY.out).1;have h4:=HZA.out;rw[h3]at h4;exact absurd h4.symm h1
     have HDT:=hid hdt;clear hdt;have n1:(za != (i:Int))=true:=by simp[h1]
     go_wp2_with (fail)
     first
     | (go_region_law (first
         | (go_simp;go_at_call 63;(refine(kp B p y.name _ HZA.out _ _ wr.drew (by show B≤wr.heap.size;omega) HAD.out HFD.out).mono ?_);rintro e w5 ⟨rfl,hb5⟩
            have HW5:=hid (HBW.out.trans (((Below.refl wr.heap.size wr).drew.trans hb5).mono (by omega)))
            clear hb5)))
     | fail
     all_goals go_wp2_with (fail)
     all_goals go_ret
     all_goals exact⟨zC (by rw[←HR.out,HDT.out];simp),HW5.out⟩
    case inr.inl=>
     subst h1;go_wp2_with (fail)
     first
     | (go_region_held3 (fun w'=>w'.cell? ⟨w.heap.size,0,none⟩=some (.slice (some ⟨g,o,none⟩) p.arrays.length c0)∧w'.cell? ⟨w.heap.size,1,none⟩=some (.slice A1 p.funcs.length c1)∧w'.cell? ⟨g,o+i * 2,none⟩=some (.string y.name))
         (first
           | (go_split_ands;refine⟨?_,?_,?_⟩ <;> (first | (rw[hq6];assumption) | (rw[hg6];assumption) | (rw[hq5];assumption) | (rw[hg5];assumption)))
           | go_keep)
         (first
           | (go_at_call 63
              (refine(kp B p y.name _ HZA.out _ _ wr.drew (by show B≤wr.heap.size;omega) HAD.out HFD.out).mono ?_)
              rintro e w5 ⟨rfl,hb5⟩;have hb5':Below wr.heap.size wr w5:=(Below.refl _ _).drew.trans hb5;have hq5:∀ x,w5.cell? ⟨w.heap.size,x,none⟩=wr.cell? ⟨w.heap.size,x,none⟩:=fun x=>hb5'.cell (p:=⟨w.heap.size,x,none⟩) hs0
              have hg5:∀ x,w5.cell? ⟨g,x,none⟩=wr.cell? ⟨g,x,none⟩:=fun x=>hb5'.cell (p:=⟨g,x,none⟩) hgs
              have hz5:wr.heap.size≤w5.heap.size:=hb5'.size;have HB5:=hid hb5';have HA5:=hid (HAD.out.below (hb5.mono (show B≤wr.heap.size by omega)) (Nat.le_refl _));have HF5:=hid (HFD.out.below (hb5.mono (show B≤wr.heap.size by omega)) (Nat.le_refl _));have HW5:=hid (HBW.out.trans (hb5'.mono (by omega)))
              clear hb5 hb5')
           | (go_at_call 64
              (refine(jC B p y.name _ HZF.out _ _ w5 (by omega) HA5.out HF5.out).mono ?_)
              rintro e w6 ⟨rfl,hb6⟩;have hq6:∀ x,w6.cell? ⟨w.heap.size,x,none⟩=wr.cell? ⟨w.heap.size,x,none⟩:=fun x=>(hb6.cell (p:=⟨w.heap.size,x,none⟩) (by show w.heap.size<w5.heap.size;omega)).trans (hq5 x)
              have hg6:∀ x,w6.cell? ⟨g,x,none⟩=wr.cell? ⟨g,x,none⟩:=fun x=>(hb6.cell (p:=⟨g,x,none⟩) (by show g<w5.heap.size;omega)).trans (hg5 x)
              have HB6:=hid (HB5.out.trans (hb6.mono hz5));have HW6:=hid (HW5.out.trans (hb6.mono HW5.out.size))
              clear hb6)))
     | fail
     go_wp2_with (fail);go_ret
     have hdt:vG p p.arrays=true:=by
      cases hd:vG p p.arrays with
      | true=>rfl
      | false=>
        have h3:=((zAh p).1 hd i y HY.out).2;have h4:=HZF.out;rw[h3]at h4;simp only[j9]at h4;omega
     exact⟨zC (by rw[←HR.out,hdt];simp),HW6.out⟩
    case inr.inr=>
     subst h1;have n2:decide (0≤zf)=false:=by simpa using h2
     go_wp2_with (fail)
     first
     | (go_region_held3 (fun w'=>w'.cell? ⟨w.heap.size,0,none⟩=some (.slice (some ⟨g,o,none⟩) p.arrays.length c0)∧w'.cell? ⟨w.heap.size,1,none⟩=some (.slice A1 p.funcs.length c1)∧w'.cell? ⟨g,o+i * 2,none⟩=some (.string y.name))
         (first
           | (go_split_ands;refine⟨?_,?_,?_⟩ <;> (first | (rw[hq6];assumption) | (rw[hg6];assumption) | (rw[hq5];assumption) | (rw[hg5];assumption)))
           | go_keep)
         (first
           | (go_at_call 63
              (refine(kp B p y.name _ HZA.out _ _ wr.drew (by show B≤wr.heap.size;omega) HAD.out HFD.out).mono ?_)
              rintro e w5 ⟨rfl,hb5⟩;have hb5':Below wr.heap.size wr w5:=(Below.refl _ _).drew.trans hb5;have hq5:∀ x,w5.cell? ⟨w.heap.size,x,none⟩=wr.cell? ⟨w.heap.size,x,none⟩:=fun x=>hb5'.cell (p:=⟨w.heap.size,x,none⟩) hs0
              have hg5:∀ x,w5.cell? ⟨g,x,none⟩=wr.cell? ⟨g,x,none⟩:=fun x=>hb5'.cell (p:=⟨g,x,none⟩) hgs
              have hz5:wr.heap.size≤w5.heap.size:=hb5'.size;have HB5:=hid hb5';have HA5:=hid (HAD.out.below (hb5.mono (show B≤wr.heap.size by omega)) (Nat.le_refl _));have HF5:=hid (HFD.out.below (hb5.mono (show B≤wr.heap.size by omega)) (Nat.le_refl _));have HW5:=hid (HBW.out.trans (hb5'.mono (by omega)))
              clear hb5 hb5')
           | (go_at_call 64
              (refine(jC B p y.name _ HZF.out _ _ w5 (by omega) HA5.out HF5.out).mono ?_)
              rintro e w6 ⟨rfl,hb6⟩;have hq6:∀ x,w6.cell? ⟨w.heap.size,x,none⟩=wr.cell? ⟨w.heap.size,x,none⟩:=fun x=>(hb6.cell (p:=⟨w.heap.size,x,none⟩) (by show w.heap.size<w5.heap.size;omega)).trans (hq5 x)
              have hg6:∀ x,w6.cell? ⟨g,x,none⟩=wr.cell? ⟨g,x,none⟩:=fun x=>(hb6.cell (p:=⟨g,x,none⟩) (by show g<w5.heap.size;omega)).trans (hg5 x)
              have HB6:=hid (HB5.out.trans (hb6.mono hz5));have HW6:=hid (HW5.out.trans (hb6.mono HW5.out.size))
              clear hb6)))
     | fail
     go_wp2_with (fail);go_roundw
     case rel=>
      refine⟨i+1,by omega,by go_num,fun k f hk hkf=>?_,(HB6.out.block w.heap.size hs0).trans HX.out,HW6.out⟩;by_cases hki:k=i
      · subst hki
        rw[HY.out]at hkf;injection hkf with hkf;subst hkf;have h4:=HZA.out;have h5:=HZF.out;refine⟨?_,?_⟩
        · cases h6:qb p.arrays y.name with
          | none=>rw[h6]at h4;simp[j9]at h4
          | some q=>rw[h6]at h4;simp only[j9]at h4;exact congrArg some (by omega)
        · cases h6:qO p.funcs y.name with
          | none=>rfl
          | some q=>rw[h6]at h5;simp only[j9]at h5;omega
      · exact HALL.out k f (by omega) hkf
     case measure=>simp[intOf];omega
  · have hda:vG p p.arrays=false:=(zAh p).2 fun k f hkf=>hall k f (by have:=(List.getElem?_eq_some_iff.1 hkf).1;omega) hkf
    have HDA:=hid hda;clear hall hda hx hbw;go_wp2_with (fail)
    go_loopw [4] (fun iv wr2=>∃ i:Nat,i≤p.funcs.length∧iv=.int .i64 i∧(∀ (k:Nat) f,k<i→p.funcs[k]? =some f→qO p.funcs f.name=some k)∧wr2.heap[w.heap.size]? =some (pgO A0 p.arrays.length c0 A1 p.funcs.length c1)∧Below w.heap.size w wr2) (fun iv _=>p.funcs.length-(intOf iv).toNat)
    case atStart=>exact⟨0,Nat.zero_le _,rfl,fun k f hk=>absurd hk (by omega),HX.out,HBW.out⟩
    case round=>
     obtain⟨wr2,rfl⟩:∃ x,x=wr:=⟨_,rfl⟩
     obtain⟨i,hi,rfl,hall,hx,hbw⟩:=hrel;obtain⟨⟨r0,r1⟩,rz⟩:=zE hx;have hs0:w.heap.size<wr2.heap.size:=zB hx;have HALL2:=hid hall;have HX2:=hid hx;have HBW2:=hid hbw;by_cases hlt2:i<p.funcs.length
     · obtain⟨y,hy⟩:∃ e,p.funcs[i]? =some e:=⟨_,List.getElem?_eq_getElem hlt2⟩
       obtain⟨g,o,w2,w3,rfl,hg,q0,q1,q2,q3,q4,q5⟩:=(HF.out.below (hbw.mono hB) (Nat.le_refl _)).cells hy;have hgs:g<wr2.heap.size:=by omega
       have HY:=hid hy;have hbd:Below wr2.heap.size wr2 wr2.drew:=(Below.refl _ _).drew;have HAD:=hid (HA.out.below ((hbw.trans (hbd.mono (by omega))).mono hB) (Nat.le_refl _));have HFD:=hid (HF.out.below ((hbw.trans (hbd.mono (by omega))).mono hB) (Nat.le_refl _));obtain⟨zf,hzf⟩:∃ z,j9 (qO p.funcs y.name)=z:=⟨_,rfl⟩
       have HZF:=hid hzf;clear hzf hy hx hbw hall hbd q1 q2 q3 q4 q5;have hcase:zf≠(i:Int)∨zf=(i:Int):=by omega
       rcases hcase with h1 | h1
       all_goals
        first
        | (subst h1
           have HC:=hid (show qO p.funcs y.name=some i from by
            have h5:=HZF.out;cases h6:qO p.funcs y.name with
            | none=>rw[h6]at h5;simp only[j9]at h5;omega
            | some q=>rw[h6]at h5;simp only[j9]at h5;exact congrArg some (by omega)))
        | (have HC:=hid (show uA p.funcs=true from by
            cases hd:uA p.funcs with
            | true=>rfl
            | false=>
              have h3:=dupF_iff.1 hd i y HY.out;have h4:=HZF.out;rw[h3]at h4
              exact absurd h4.symm h1)
           have n1:(zf != (i:Int))=true:=by simp[h1])
        go_wp2_with (fail)
        first
        | (go_region_held3 (fun w'=>w'.cell? ⟨w.heap.size,0,none⟩=some (.slice A0 p.arrays.length c0)∧w'.cell? ⟨w.heap.size,1,none⟩=some (.slice (some ⟨g,o,none⟩) p.funcs.length c1)∧w'.cell? ⟨g,o+i * 4,none⟩=some (.string y.name))
            (first
              | (go_split_ands;refine⟨?_,?_,?_⟩ <;> (first | (rw[hq5];assumption) | (rw[hg5];assumption)))
              | go_keep)
            (first
              | (go_at_call 64
                 (refine(jC B p y.name _ HZF.out _ _ wr2.drew (by show B≤wr2.heap.size;omega) HAD.out HFD.out).mono ?_)
                 rintro e w5 ⟨rfl,hb5⟩;have hb5':Below wr2.heap.size wr2 w5:=(Below.refl _ _).drew.trans hb5;have hq5:∀ x,w5.cell? ⟨w.heap.size,x,none⟩=wr2.cell? ⟨w.heap.size,x,none⟩:=fun x=>hb5'.cell (p:=⟨w.heap.size,x,none⟩) hs0
                 have hg5:∀ x,w5.cell? ⟨g,x,none⟩=wr2.cell? ⟨g,x,none⟩:=fun x=>hb5'.cell (p:=⟨g,x,none⟩) hgs
                 have HB5:=hid hb5';have HW5:=hid (HBW2.out.trans (hb5'.mono (by omega)))
                 clear hb5 hb5')))
        | fail
        all_goals go_wp2_with (fail)
        all_goals first
         | (go_ret
            exact⟨zC (by rw[←HR.out,HC.out];simp),HW5.out⟩)
         | (go_roundw
            case rel=>
             refine⟨i+1,by omega,by go_num,fun k f hk hkf=>?_,(HB5.out.block w.heap.size hs0).trans HX2.out,HW5.out⟩;by_cases hki:k=i
             · subst hki
               rw[HY.out]at hkf;injection hkf with hkf;subst hkf;exact HC.out
             · exact HALL2.out k f (by omega) hkf
            case measure=>simp[intOf];omega)
     · have hdf:uA p.funcs=false:=dupF_iff.2 fun k f hkf=>hall k f (by have:=(List.getElem?_eq_some_iff.1 hkf).1;omega) hkf
       have hw2:B≤wr2.heap.size:=Nat.le_trans hB hbw.size;have HR2:=hid (show xK p=r by rw[←HR.out,HDA.out,hdf];simp);have HA2:=hid (HA.out.below (hbw.mono hB) (Nat.le_refl _));have HF2:=hid (HF.out.below (hbw.mono hB) (Nat.le_refl _));clear hall hx hbw hdf;cases hk:qO p.funcs ⟨#[109,97,105,110]⟩ with
       | none=>
         have HK:=hid (show j9 (qO p.funcs ⟨#[109,97,105,110]⟩)= -1 by rw[hk];rfl);have HM:=hid (show xK p=false by unfold xK xN;rw[hk];rfl);clear hk;go_wp2_with (go_at_call 64;(with_reducible refine(jC B p _ _ HK.out _ _ _ (by first | exact hw2 | (show B≤_;omega)) HA2.out HF2.out).mono ?_);rintro e w1 ⟨rfl,hb⟩);go_ret;exact⟨zC (by rw[←HR2.out,HM.out]),HBW2.out.trans (hb.mono HBW2.out.size)⟩
       | some k=>
         obtain⟨f,hkf,_,_⟩:=xR hk;have HK:=hid (show j9 (qO p.funcs ⟨#[109,97,105,110]⟩)=(k:Int) by rw[hk];rfl);have HM:=hid (show xK p=(decide (f.type=1) && decide (f.params.length=0)) by unfold xK xN;rw[hk,Option.bind_some,hkf]);have HKF:=hid hkf;have hkl:k<p.funcs.length:=(List.getElem?_eq_some_iff.1 hkf).1;clear hk hkf;have hcase:f.type=1∧f.params.length=0∨f.type=1∧f.params.length≠0∨f.type≠1:=by omega
         rcases hcase with⟨h1,h2⟩ | ⟨h1,h2⟩ | h1
         all_goals
          have HC1:=hid h1
          try have HC2:=hid h2
          try clear h2
          clear h1
          go_wp2_with (go_at_call 64;(with_reducible refine(jC B p _ _ HK.out _ _ _ (by first | exact hw2 | (show B≤_;omega)) HA2.out HF2.out).mono ?_);rintro e w1 ⟨rfl,hb⟩
                       have hx0:=(hb.block w.heap.size hs0).trans HX2.out;obtain⟨⟨t0,t1⟩,tz⟩:=zE hx0;have hs1:w.heap.size<w1.heap.size:=zB hx0;obtain⟨g,o,v2,v3,rfl,hg,z0,z1,z2,z3,hp,hbo⟩:=(HF2.out.below (hb.mono hw2) (Nat.le_refl _)).cells HKF.out;obtain⟨A2,c2,rfl,_⟩:=hp.form;have hgs:g<w1.heap.size:=by have:=hb.size;omega
                       have HB1:=hid (HBW2.out.trans (hb.mono HBW2.out.size))
                       try rw[HC1.out]at z1
                       try rw[HC2.out]at z2
                       clear hb hx0 hp hbo)
          all_goals go_ret
          all_goals refine⟨zC ?_,HB1.out⟩
          all_goals
           rw[←HR2.out,HM.out];have e1:=HC1.out
           try have e2:=HC2.out
           simp_all
end Go.Proofs.YtfghofifjnbicaaGreatDoor
