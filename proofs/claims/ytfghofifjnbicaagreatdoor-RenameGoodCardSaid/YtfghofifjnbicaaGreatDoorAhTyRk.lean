import Derived.Test.YtfghofifjnbicaaGreatDoorAhZed
import Derived.Test.YtfghofifjnbicaaGreatDoorAhRnDp
import Derived.Test.YtfghofifjnbicaaGreatDoorAhTyBl
import Derived.Test.YtfghofifjnbicaaGreatDoorAhTreeRightF
import Derived.Test.YtfghofifjnbicaaGreatDoorAhTyEnd
import Derived.Test.YtfghofifjnbicaaGreatDoorAhTreeRefS
import Derived.Test.YtfghofifjnbicaaGreatDoorAhRnMid
import Derived.Test.YtfghofifjnbicaaGreatDoorAhTokScan
set_option linter.unusedSimpArgs false
set_option linter.unusedVariables false
set_option maxRecDepth 100000
/- The contract of the document's Check: E4. -/
namespace Go.Proofs.YtfghofifjnbicaaGreatDoor
open Lib (hid)
open Go.RowKit
def frP (l:List Pa):Prop:=∀ (q:Nat) x,l[q]? =some x→z5 (l.take q) x.name=none
theorem vS {y:Pa} {l:List Pa} {s:ByteArray}:z5 (y :: l) s=none↔¬ y.name=s∧z5 l s=none:=by
 rw[z5];cases hv:z5 l s with
 | some t=>simp
 | none=>by_cases h:y.name=s <;> simp[h]
theorem dupP_iff:∀ {l:List Pa},ub l=false↔frP l
 | []=>⟨fun _ q x h=>by simp at h,fun _=>rfl⟩
 | y :: r=>by
   rw[ub,Bool.or_eq_false_iff,dupP_iff (l:=r)];constructor
   · rintro⟨h1,h2⟩ q x hq
     cases q with
     | zero=>simp[z5]
     | succ q=>
       have hq':r[q]? =some x:=by simpa using hq
       rw[List.take_succ_cons,vS];refine⟨fun e=>?_,h2 q x hq'⟩;rw[kt,List.any_eq_false]at h1;exact h1 x (List.mem_of_getElem? hq') (by simp[e])
   · intro h
     have h3:∀ (q:Nat) x,r[q]? =some x→¬ y.name=x.name∧z5 (r.take q) x.name=none:=fun q x hq=>by
      have:=h (q+1) x (by simpa using hq);rwa [List.take_succ_cons,vS]at this
     refine⟨?_,fun q x hq=>(h3 q x hq).2⟩;rw[kt,List.any_eq_false];intro x hx;obtain⟨q,hq⟩:=List.getElem?_of_mem hx;simpa using fun e=>(h3 q x hq).1 e.symm
theorem hole_below {B b:Nat} (w:World) (h:B≤b):Below B w (hole b w):=⟨rfl,rfl,rfl,by rw[qD];exact Nat.le_refl _,fun k hk=>jb w (by omega)⟩
theorem SlP.takeS {B:Nat} {w:World} {A:Option Addr} {c:Nat} {l:List Pa} (h:SlP B w (.slice A l.length c) l) (k:Nat) (hk:k≤l.length):SlP B w (.slice A k c) (l.take k):=by
 have hc:=h.2 A l.length c rfl;refine⟨⟨_,c,by rw[List.length_take,Nat.min_eq_left hk],?_,fun hp=>?_⟩,fun A' n' c' hv=>by injection hv with _ h1 h2;omega⟩
 · obtain⟨_,_,_,hn⟩:=h.form
   rw[List.length_take];omega
 · rw[List.length_take]at hp
   obtain⟨g,o,rfl,hr⟩:=xF.elem h.1 rfl (by omega);exact⟨g,o,rfl,rdL_take k l g o hr⟩
theorem one_set {W:World} {g:Nat} {d0 d1:Value} {T:TypeId} (hb:W.heap[g]? =some (.cells #[d0,d1] T (0,0))) (c0:Value):(W.setCell ⟨g,0,none⟩ c0).cell? ⟨g,0,none⟩=some c0:=by
 have h:(W.setCell ⟨g,0,none⟩ c0).heap[g]? =some (.cells #[c0,d1] T (0,0)):=Lib.heap_setCell_same hb c0;exact(zE h).1.1
set_option maxHeartbeats 8000000 in
theorem rcheck_any (B:Nat) (p:Pr) (R:Int × Nat × Nat) (v0 v1:Value) (w:World) (hB:B≤w.heap.size) (ha:SlA B w v0 p.arrays) (hf:SlF B w v1 p.funcs) (hcn:∀ f ∈ p.funcs,f.params.length+cntSs f.body≤1000000000) (hR:uJ p=R):
 Calls Tryz.prog 13 #[.agg #[v0,v1]] w (ChkPost w R):=by
 obtain⟨A0,c0,rfl,_⟩:=ha.form;obtain⟨A1,c1,rfl,_⟩:=hf.form;have hw2:Below w.heap.size w ((w.alloc (pgO A0 p.arrays.length c0 A1 p.funcs.length c1)).alloc (uX 0 0)):=(Zb.alloc Zr _).alloc (by simp) _;have HW2:=hid hw2;have HX0:=hid (show ((w.alloc (pgO A0 p.arrays.length c0 A1 p.funcs.length c1)).alloc (uX 0 0)).heap[w.heap.size]? =some (pgO A0 p.arrays.length c0 A1 p.funcs.length c1) from(Below.heap_alloc _ _ _ (by simp)).trans (heap_alloc_new w _));have HX1:=hid (show ((w.alloc (pgO A0 p.arrays.length c0 A1 p.funcs.length c1)).alloc (uX 0 0)).heap[w.heap.size+1]? =some (uX 0 0) from by simpa using heap_alloc_new (w.alloc (pgO A0 p.arrays.length c0 A1 p.funcs.length c1)) (uX 0 0));have HA:=hid ha;have HF:=hid hf;have HR:=hid hR;have HCN:=hid hcn;obtain⟨ok,hok⟩:∃ b,prOK p=b:=⟨_,rfl⟩
 have HOK:=hid hok;clear ha hf hR hw2 hok hcn;cases ok
 case false=>
  go_enter Tryz.func13,Tryz.ntmps13
  go_wp2_with (go_at_call 17;(with_reducible refine(ym B p _ HOK.out _ _ _ (by simp;omega) (HA.out.below (HW2.out.mono hB) Zr) (HF.out.below (HW2.out.mono hB) Zr)).mono ?_);rintro e w3 ⟨rfl,hb3⟩
               have hx0:=(hb3.block w.heap.size (by simp;omega)).trans HX0.out;have hx1:=(hb3.block (w.heap.size+1) (by simp)).trans HX1.out;obtain⟨⟨p0,p1⟩,pz⟩:=zE hx0;obtain⟨⟨x0,x1⟩,xz⟩:=zE hx1;have hs3:w.heap.size+1<w3.heap.size:=zB hx1;have ht3:w.heap.size<w3.heap.size:=zB hx0;have hw3:Below w.heap.size w w3:=HW2.out.trans (hb3.mono (by simp;omega));have HP3:=hid hx0;have HX3:=hid hx1;have HA3:=hid (HA.out.below (hw3.mono hB) Zr);have HF3:=hid (HF.out.below (hw3.mono hB) Zr);have hB3:B≤w3.heap.size:=by omega
               have HW3:=hid hw3
               clear hb3 hx0 hx1 hw3)
  obtain⟨f0,f1⟩:=qg HX3.out (.int .i64 0) (.int .i64 0);refine bodyPost_ret (v:=.tuple #[.int .i64 1,.agg #[.int .i64 0,.int .i64 0]]) (by simp[results,Tryz.results13,go_sem,f0,f1]) rfl ?_;have hrr:=HR.out;unfold uJ at hrr;rw[if_pos HOK.out]at hrr;subst hrr;exact⟨rfl,zm HW3.out (by omega) _ _⟩
 case true=>
  have HFW:=hid (few_of HOK.out);obtain⟨gl,hgl⟩:∃ b,(!(yy p p.arrays || vu p.funcs) && xH p)=b:=⟨_,rfl⟩
  have HGL:=hid hgl
  have HCP:=hid (show uJ p=if gl=true then yM p p.funcs 0 else (50,0,0) by
   unfold uJ;rw[if_neg (by rw[HOK.out];decide),←hgl]
   cases yy p p.arrays || vu p.funcs <;> cases xH p <;> rfl)
  clear hgl;cases gl
  case false=>
   go_enter Tryz.func13,Tryz.ntmps13
   go_wp2_with (first
    | (go_at_call 17;(with_reducible refine(ym B p _ HOK.out _ _ _ (by simp;omega) (HA.out.below (HW2.out.mono hB) Zr) (HF.out.below (HW2.out.mono hB) Zr)).mono ?_);rintro e w3 ⟨rfl,hb3⟩
       have hx0:=(hb3.block w.heap.size (by simp;omega)).trans HX0.out;have hx1:=(hb3.block (w.heap.size+1) (by simp)).trans HX1.out;obtain⟨⟨p0,p1⟩,pz⟩:=zE hx0;obtain⟨⟨x0,x1⟩,xz⟩:=zE hx1;have hs3:w.heap.size+1<w3.heap.size:=zB hx1;have ht3:w.heap.size<w3.heap.size:=zB hx0;have hw3:Below w.heap.size w w3:=HW2.out.trans (hb3.mono (by simp;omega));have HP3:=hid hx0;have HX3:=hid hx1;have HA3:=hid (HA.out.below (hw3.mono hB) Zr);have HF3:=hid (HF.out.below (hw3.mono hB) Zr);have hB3:B≤w3.heap.size:=by omega
       have HW3:=hid hw3
       clear hb3 hx0 hx1 hw3)
    | (go_at_call 29;(with_reducible refine(zAj B p _ _ _ _ hB3 HA3.out HF3.out HGL.out).mono ?_);rintro e w4 ⟨rfl,hb4⟩
       have hx0:=(hb4.block w.heap.size ht3).trans HP3.out;have hx1:=(hb4.block (w.heap.size+1) hs3).trans HX3.out;obtain⟨⟨p0,p1⟩,pz⟩:=zE hx0;obtain⟨⟨x0,x1⟩,xz⟩:=zE hx1;have hs4:w.heap.size+1<w4.heap.size:=zB hx1;have ht4:w.heap.size<w4.heap.size:=zB hx0;have hw4:Below w.heap.size w w4:=HW3.out.trans (hb4.mono (by omega));have HP4:=hid hx0;have HX4:=hid hx1;have HA4:=hid (HA.out.below (hw4.mono hB) Zr);have HF4:=hid (HF.out.below (hw4.mono hB) Zr);have hB4:B≤w4.heap.size:=by omega
       have HW4:=hid hw4
       clear hb4 hx0 hx1 hw4))
   obtain⟨f0,f1⟩:=qg HX4.out (.int .i64 0) (.int .i64 0);refine bodyPost_ret (v:=.tuple #[.int .i64 50,.agg #[.int .i64 0,.int .i64 0]]) (by simp[results,Tryz.results13,go_sem,f0,f1]) rfl ?_;have hrr:=HCP.out;rw[HR.out,if_neg (by decide)]at hrr;subst hrr;exact⟨rfl,zm HW4.out (by omega) _ _⟩
  case true=>
   go_enter Tryz.func13,Tryz.ntmps13
   go_wp2_with (first
    | (go_at_call 17;(with_reducible refine(ym B p _ HOK.out _ _ _ (by simp;omega) (HA.out.below (HW2.out.mono hB) Zr) (HF.out.below (HW2.out.mono hB) Zr)).mono ?_);rintro e w3 ⟨rfl,hb3⟩
       have hx0:=(hb3.block w.heap.size (by simp;omega)).trans HX0.out;have hx1:=(hb3.block (w.heap.size+1) (by simp)).trans HX1.out;obtain⟨⟨p0,p1⟩,pz⟩:=zE hx0;obtain⟨⟨x0,x1⟩,xz⟩:=zE hx1;have hs3:w.heap.size+1<w3.heap.size:=zB hx1;have ht3:w.heap.size<w3.heap.size:=zB hx0;have hw3:Below w.heap.size w w3:=HW2.out.trans (hb3.mono (by simp;omega));have HP3:=hid hx0;have HX3:=hid hx1;have HA3:=hid (HA.out.below (hw3.mono hB) Zr);have HF3:=hid (HF.out.below (hw3.mono hB) Zr);have hB3:B≤w3.heap.size:=by omega
       have HW3:=hid hw3
       clear hb3 hx0 hx1 hw3)
    | (go_at_call 29;(with_reducible refine(zAj B p _ _ _ _ hB3 HA3.out HF3.out HGL.out).mono ?_);rintro e w4 ⟨rfl,hb4⟩
       have hx0:=(hb4.block w.heap.size ht3).trans HP3.out;have hx1:=(hb4.block (w.heap.size+1) hs3).trans HX3.out;obtain⟨⟨p0,p1⟩,pz⟩:=zE hx0;obtain⟨⟨x0,x1⟩,xz⟩:=zE hx1;have hs4:w.heap.size+1<w4.heap.size:=zB hx1;have ht4:w.heap.size<w4.heap.size:=zB hx0;have hw4:Below w.heap.size w w4:=HW3.out.trans (hb4.mono (by omega));have HP4:=hid hx0;have HX4:=hid hx1;have HA4:=hid (HA.out.below (hw4.mono hB) Zr);have HF4:=hid (HF.out.below (hw4.mono hB) Zr);have hB4:B≤w4.heap.size:=by omega
       have HW4:=hid hw4
       clear hb4 hx0 hx1 hw4))
   go_loopw [4] (fun iv wr=>∃ j:Nat,j≤p.funcs.length∧iv=.int .i64 j∧yM p (p.funcs.drop j) j=R∧Below w4.heap.size w4 wr) (fun iv _=>p.funcs.length-(intOf iv).toNat)
   case atStart=>exact⟨0,Nat.zero_le _,rfl,by have:=HCP.out;rw[HR.out]at this;exact this.symm,Below.refl _ _⟩
   case round=>
    obtain⟨wo,rfl⟩:∃ x,x=wr:=⟨_,rfl⟩
    obtain⟨j,hj,rfl,hT,hbw⟩:=hrel;have hT':=hid hT;have HBW:=hid hbw;have hsr:=hbw.size;have hwr:Below w.heap.size w wo:=HW4.out.trans (hbw.mono (by omega));have HWR:=hid hwr;have hxr:=(hbw.block (w.heap.size+1) hs4).trans HX4.out;have hx0:=(hbw.block w.heap.size (by omega)).trans HP4.out;obtain⟨⟨x0,x1⟩,xz⟩:=zE hxr;obtain⟨⟨p0,p1⟩,pz⟩:=zE hx0;have HXR:=hid hxr;have HX0R:=hid hx0;have hsw:w.heap.size+1<wo.heap.size:=by omega
    have hsw0:w.heap.size<wo.heap.size:=by omega
    clear hT hxr hx0;by_cases hlt:j<p.funcs.length
    · obtain⟨f,hfj⟩:∃ e,p.funcs[j]? =some e:=⟨_,List.getElem?_eq_getElem hlt⟩
      obtain⟨g,o,v2,v3,rfl,hg,z0,z1,z2,z3,hp,hbo⟩:=(HF.out.below (hwr.mono hB) Zr).cells hfj;obtain⟨A2,c2,rfl,hpl⟩:=hp.form;obtain⟨A3,c3,rfl,_⟩:=hbo.form;have hgs:g<wo.heap.size:=by omega
      have HPP:=hid hp;have HBO:=hid hbo;have HFM:=hid (List.mem_of_getElem? hfj);have HFOK:=hid (fu_params HOK.out HFM.out).1;have HFN:=hid (HCN.out f HFM.out);have hdd:=hT'.out;rw[jv hfj,chkFs_cons]at hdd;have HDD:=hid hdd;have hBr:B≤wo.heap.size:=by omega
      clear hp hbo hfj hdd hbw hwr;go_wp2_with (fail)
      go_loopw [6] (fun iv wq=>∃ k:Nat,k≤f.params.length∧iv=.int .i64 k∧(∀ (q:Nat) x,q<k→f.params[q]? =some x→z5 (f.params.take q) x.name=none)∧wq.heap[wo.heap.size]? =some (fuO f.name f.type (.slice A2 f.params.length c2) (.slice A3 f.body.length c3))∧Below wo.heap.size wo wq) (fun iv _=>f.params.length-(intOf iv).toNat)
      case atStart=>exact⟨0,Nat.zero_le _,rfl,fun q x hq=>absurd hq (by omega),heap_alloc_new _ _,Zb.alloc Zr _⟩
      case round=>
       obtain⟨wq,rfl⟩:∃ x,x=wr:=⟨_,rfl⟩
       obtain⟨k,hk,rfl,hall,hm,hbq⟩:=hrel;have hmq:wo.heap.size<wq.heap.size:=zB hm;obtain⟨⟨m0,m1,m2,m3⟩,mz⟩:=zI hm;have hwq:Below w.heap.size w wq:=HWR.out.trans (hbq.mono (by omega));have hxq:=(hbq.block (w.heap.size+1) hsw).trans HXR.out;have hx0:=(hbq.block w.heap.size hsw0).trans HX0R.out;obtain⟨⟨x0,x1⟩,xz⟩:=zE hxq;obtain⟨⟨p0,p1⟩,pz⟩:=zE hx0;have HXQ:=hid hxq;have HX0Q:=hid hx0;have HMQ:=hid hm;have HBQ:=hid hbq;have HWQ:=hid hwq;have HALL:=hid hall;have hpq:=HPP.out.below (hbq.mono (show B≤wo.heap.size by omega)) Zr;have hBq:B≤wq.heap.size:=by omega
       have hsq:w.heap.size+1<wq.heap.size:=by omega
       clear hall hm hbq hwq hxq hx0;by_cases hlk:k<f.params.length
       · obtain⟨y,hy⟩:∃ e,f.params[k]? =some e:=⟨_,List.getElem?_eq_getElem hlk⟩
         obtain⟨g2,o2,rfl,hg2,e0,_⟩:=hpq.cells hy;have HVD:=hid (fun n=>(hpq.takeS k hk).below (show Below B wq (wq.drewN n) from Zb.trans ⟨rfl,rfl,rfl,Nat.le_refl _,fun _ _=>rfl⟩) Zr);have HY:=hid hy;have hcap:k≤c2:=by have:=hpq.2 _ _ _ rfl;omega
         clear hpq hy;cases hvt:z5 (f.params.take k) y.name with
         | none=>
           have HT9:=hid (show (z5 (f.params.take k) y.name).getD 0=0 by rw[hvt];rfl);have HB9:=hid (show (z5 (f.params.take k) y.name).isSome=false by rw[hvt];rfl);have HVT:=hid hvt;clear hvt;go_wp2_with (fail)
           go_quiet ((go_at_call 30;exact(jN B (f.params.take k) y.name 0 _ HT9.out HB9.out _ _ (by exact hBq) (HVD.out _)).mono fun e w' h=>⟨h.1,_,h.2.symm⟩))
           go_wp2_with (fail);go_roundw
           case rel=>
            refine⟨k+1,by omega,by go_num,fun q x hq hx=>?_,HMQ.out,bdN HBQ.out _⟩;by_cases hqk:q=k
            · subst hqk
              rw[HY.out]at hx;injection hx with hx;subst hx;exact HVT.out
            · exact HALL.out q x (by omega) hx
           case measure=>simp[intOf];omega
         | some t9=>
           have HT9:=hid (show (z5 (f.params.take k) y.name).getD 0=t9 by rw[hvt];rfl);have HB9:=hid (show (z5 (f.params.take k) y.name).isSome=true by rw[hvt];rfl)
           have HDP:=hid (show ub f.params=true by
            cases hd:ub f.params with
            | true=>rfl
            | false=>have:=dupP_iff.1 hd k y HY.out;rw[hvt]at this;cases this)
           clear hvt;go_wp2_with (fail)
           go_quiet ((go_at_call 30;exact(jN B (f.params.take k) y.name t9 _ HT9.out HB9.out _ _ (by exact hBq) (HVD.out _)).mono fun e w' h=>⟨h.1,_,h.2.symm⟩))
           go_wp2_with (fail);obtain⟨f0,f1⟩:=qg (W:=wq.drewN nq) HXQ.out (.int .i64 j) (.int .i64 0);refine bodyPost_ret (v:=.tuple #[.int .i64 50,.agg #[.int .i64 j,.int .i64 0]]) (by simp[results,Tryz.results13,go_sem,f0,f1]) rfl ?_;have hrr:=HDD.out;rw[show xM p f=(50,0) from by unfold xM;rw[if_pos HDP.out],if_pos (by decide)]at hrr;subst hrr;exact⟨rfl,zm (bdN HWQ.out _) (by omega) _ _⟩
       · have hdf:ub f.params=false:=dupP_iff.2 fun q x hx=>HALL.out q x (by have:=(List.getElem?_eq_some_iff.1 hx).1;omega) hx
         obtain⟨⟨e1,n1⟩,hr1⟩:∃ r,zd p f.type f.body f.params f.params.length false 0=r:=⟨_,rfl⟩
         have HR1:=hid hr1;have HCF:=hid (show xM p f=if e1≠0 then (e1,n1) else if jL f.body then (0,0) else (52,n1) by unfold xM;rw[hdf,hr1];simp);have hbl8:Below wq.heap.size wq (wq.alloc (rckO (.slice A0 p.arrays.length c0) (.slice (some ⟨g,o,none⟩) p.funcs.length c1) f.name f.type (.slice A2 f.params.length c2) (.slice A3 f.body.length c3) 0)):=Zb.alloc Zr _;have hz8:(wq.alloc (rckO (.slice A0 p.arrays.length c0) (.slice (some ⟨g,o,none⟩) p.funcs.length c1) f.name f.type (.slice A2 f.params.length c2) (.slice A3 f.body.length c3) 0)).heap.size=wq.heap.size+1:=zA _ _;have HB8:=hid (show (wq.alloc (rckO (.slice A0 p.arrays.length c0) (.slice (some ⟨g,o,none⟩) p.funcs.length c1) f.name f.type (.slice A2 f.params.length c2) (.slice A3 f.body.length c3) 0)).heap[wq.heap.size]? =some (rckO (.slice A0 p.arrays.length c0) (.slice (some ⟨g,o,none⟩) p.funcs.length c1) f.name f.type (.slice A2 f.params.length c2) (.slice A3 f.body.length c3) (W64 0)) from heap_alloc_new _ _);have hbo8:Below B w (wq.alloc (rckO (.slice A0 p.arrays.length c0) (.slice (some ⟨g,o,none⟩) p.funcs.length c1) f.name f.type (.slice A2 f.params.length c2) (.slice A3 f.body.length c3) 0)):=(HWQ.out.mono hB).trans (hbl8.mono hBq);have HE8:=hid (show BEnv B wq.heap.size p f.params (.slice A0 p.arrays.length c0) (.slice (some ⟨g,o,none⟩) p.funcs.length c1) (.slice A2 f.params.length c2) (wq.alloc (rckO (.slice A0 p.arrays.length c0) (.slice (some ⟨g,o,none⟩) p.funcs.length c1) f.name f.type (.slice A2 f.params.length c2) (.slice A3 f.body.length c3) 0)) from⟨by omega,hBq,by omega,HA.out.below hbo8 Zr,HF.out.below hbo8 Zr,hpq.below ((hbl8.mono hBq).trans (hole_below _ hBq)) (by omega)⟩)
         have HS8:=hid (HBO.out.below (((HBQ.out.mono hBr).trans (hbl8.mono hBq))) Zr);have HL8:=hid hbl8;have HZ8:=hid hz8;obtain⟨en,hen⟩:∃ b,jL f.body=b:=⟨_,rfl⟩
         have HEN:=hid hen;clear hdf hr1 hbl8 hz8 hbo8 hpq hen;by_cases he1:e1=0
         · subst he1
           cases en
           case false=>
            go_wp2_with (first
             | (go_at_call 31;(with_reducible refine(BlC.call (yl 100) HFOK.out HFW.out HR1.out HE8.out HB8.out HS8.out HFN.out).mono ?_);rintro e w9 ⟨rfl,ho9,hb9⟩
                have hq9:Below wq.heap.size wq w9:=HL8.out.trans (qt ho9 (by have:=HZ8.out;omega) Zr);have hm9:=(hq9.block wo.heap.size hmq).trans HMQ.out;have hx9:=(hq9.block (w.heap.size+1) hsq).trans HXQ.out;have hs9:wq.heap.size<w9.heap.size:=zB hb9;obtain⟨⟨m0,m1,m2,m3⟩,mz⟩:=zI hm9;obtain⟨⟨x0,x1⟩,xz⟩:=zE hx9;obtain⟨⟨b0,b1,b2,b3,b4,b5,b6⟩,bz⟩:=zN hb9;have b6':w9.drew.cell? ⟨wq.heap.size,6,none⟩=some (.int .i64 (W64 n1)):=b6;have HX9:=hid (show w9.drew.heap[w.heap.size+1]? =some (uX 0 0) from hx9);have HB9:=hid hb9;have HQ9:=hid hq9;have HW9:=hid (show Below w.heap.size w w9 from HWQ.out.trans (hq9.mono (by omega)));have HS9:=hid (HBO.out.below ((HBQ.out.mono hBr).trans (hq9.mono hBq)) Zr)
                clear ho9 hb9 hq9 hm9 hx9)
             | (go_at_call 32;(with_reducible refine(EnC.call (rends_all 100) (B:=B) HFOK.out HEN.out (by omega) HS9.out).mono ?_);rintro e w10 ⟨rfl,hb10⟩
                have hq10:Below wq.heap.size wq w10:=HQ9.out.trans (hb10.mono (by omega));have hk10:=(hb10.block wq.heap.size hs9).trans HB9.out;have hx10:=(hq10.block (w.heap.size+1) hsq).trans HXQ.out;obtain⟨⟨x0,x1⟩,xz⟩:=zE hx10;obtain⟨⟨b0,b1,b2,b3,b4,b5,b6⟩,bz⟩:=zN hk10;have b6':w10.drew.cell? ⟨wq.heap.size,6,none⟩=some (.int .i64 (W64 n1)):=b6;have HX10:=hid (show w10.drew.heap[w.heap.size+1]? =some (uX 0 0) from hx10);have HQ10:=hid hq10;have HW10:=hid (show Below w.heap.size w w10 from HWQ.out.trans (hq10.mono (by omega)))
                clear hb10 hq10 hk10 hx10))
            go_region
            all_goals go_wp2_with (fail)
            all_goals
             have f0:=one_set (W:=w10) HX10.out (.int .i64 j);have f1:=(qg (W:=w10) HX10.out (.int .i64 j) (.int .i64 (W64 n1))).2;refine bodyPost_ret (v:=.tuple #[.int .i64 52,.agg #[.int .i64 j,.int .i64 (W64 n1)]]) (by simp[results,Tryz.results13,go_sem,f0,f1]) rfl ?_;have hcf:xM p f=(52,n1):=by rw[HCF.out,HEN.out];simp
             have hrr:=HDD.out;rw[hcf,if_pos (by simp)]at hrr;subst hrr;exact⟨rfl,(zm HW10.out (by omega) _ _).drew⟩
           case true=>
            go_wp2_with (first
             | (go_at_call 31;(with_reducible refine(BlC.call (yl 100) HFOK.out HFW.out HR1.out HE8.out HB8.out HS8.out HFN.out).mono ?_);rintro e w9 ⟨rfl,ho9,hb9⟩
                have hq9:Below wq.heap.size wq w9:=HL8.out.trans (qt ho9 (by have:=HZ8.out;omega) Zr);have hm9:=(hq9.block wo.heap.size hmq).trans HMQ.out;have hx9:=(hq9.block (w.heap.size+1) hsq).trans HXQ.out;have hs9:wq.heap.size<w9.heap.size:=zB hb9;obtain⟨⟨m0,m1,m2,m3⟩,mz⟩:=zI hm9;obtain⟨⟨x0,x1⟩,xz⟩:=zE hx9;obtain⟨⟨b0,b1,b2,b3,b4,b5,b6⟩,bz⟩:=zN hb9;have b6':w9.drew.cell? ⟨wq.heap.size,6,none⟩=some (.int .i64 (W64 n1)):=b6;have HX9:=hid (show w9.drew.heap[w.heap.size+1]? =some (uX 0 0) from hx9);have HB9:=hid hb9;have HQ9:=hid hq9;have HW9:=hid (show Below w.heap.size w w9 from HWQ.out.trans (hq9.mono (by omega)));have HS9:=hid (HBO.out.below ((HBQ.out.mono hBr).trans (hq9.mono hBq)) Zr)
                clear ho9 hb9 hq9 hm9 hx9)
             | (go_at_call 32;(with_reducible refine(EnC.call (rends_all 100) (B:=B) HFOK.out HEN.out (by omega) HS9.out).mono ?_);rintro e w10 ⟨rfl,hb10⟩
                have hq10:Below wq.heap.size wq w10:=HQ9.out.trans (hb10.mono (by omega));have hk10:=(hb10.block wq.heap.size hs9).trans HB9.out;have hx10:=(hq10.block (w.heap.size+1) hsq).trans HXQ.out;obtain⟨⟨x0,x1⟩,xz⟩:=zE hx10;obtain⟨⟨b0,b1,b2,b3,b4,b5,b6⟩,bz⟩:=zN hk10;have b6':w10.drew.cell? ⟨wq.heap.size,6,none⟩=some (.int .i64 (W64 n1)):=b6;have HX10:=hid (show w10.drew.heap[w.heap.size+1]? =some (uX 0 0) from hx10);have HQ10:=hid hq10;have HW10:=hid (show Below w.heap.size w w10 from HWQ.out.trans (hq10.mono (by omega)))
                clear hb10 hq10 hk10 hx10))
            go_roundw
            case rel=>
             refine⟨j+1,by omega,by go_num,?_,HBW.out.trans ((HBQ.out.trans (HQ10.out.mono (by omega))).mono (by omega))⟩;have hcf:xM p f=(0,0):=by rw[HCF.out,HEN.out];simp
             have hrr:=HDD.out;rw[hcf,if_neg (by simp)]at hrr;exact hrr
            case measure=>simp[intOf];omega
         · have hne:(e1 != 0)=true:=by simp[he1]
           go_wp2_with (go_at_call 31;(with_reducible refine(BlC.call (yl 100) HFOK.out HFW.out HR1.out HE8.out HB8.out HS8.out HFN.out).mono ?_);rintro e w9 ⟨rfl,ho9,hb9⟩
                        have hq9:Below wq.heap.size wq w9:=HL8.out.trans (qt ho9 (by have:=HZ8.out;omega) Zr);have hm9:=(hq9.block wo.heap.size hmq).trans HMQ.out;have hx9:=(hq9.block (w.heap.size+1) hsq).trans HXQ.out;have hs9:wq.heap.size<w9.heap.size:=zB hb9;obtain⟨⟨m0,m1,m2,m3⟩,mz⟩:=zI hm9;obtain⟨⟨x0,x1⟩,xz⟩:=zE hx9;obtain⟨⟨b0,b1,b2,b3,b4,b5,b6⟩,bz⟩:=zN hb9;have b6':w9.drew.cell? ⟨wq.heap.size,6,none⟩=some (.int .i64 (W64 n1)):=b6;have HX9:=hid (show w9.drew.heap[w.heap.size+1]? =some (uX 0 0) from hx9);have HB9:=hid hb9;have HQ9:=hid hq9;have HW9:=hid (show Below w.heap.size w w9 from HWQ.out.trans (hq9.mono (by omega)));have HS9:=hid (HBO.out.below ((HBQ.out.mono hBr).trans (hq9.mono hBq)) Zr)
                        clear ho9 hb9 hq9 hm9 hx9)
           go_region
           all_goals go_wp2_with (fail)
           all_goals
            have f0:=one_set (W:=w9) HX9.out (.int .i64 j);have f1:=(qg (W:=w9) HX9.out (.int .i64 j) (.int .i64 (W64 n1))).2;refine bodyPost_ret (v:=.tuple #[.int .i64 e1,.agg #[.int .i64 j,.int .i64 (W64 n1)]]) (by simp[results,Tryz.results13,go_sem,f0,f1]) rfl ?_;have hcf:xM p f=(e1,n1):=by rw[HCF.out,if_pos he1]
            have hrr:=HDD.out;rw[hcf,if_pos he1]at hrr;subst hrr;exact⟨rfl,(zm HW9.out (by omega) _ _).drew⟩
    · have hjj:j=p.funcs.length:=by omega
      subst hjj;have hrr:=hT'.out;rw[List.drop_length]at hrr;go_wp2_with (fail);obtain⟨f0,f1⟩:=qg HXR.out (.int .i64 0) (.int .i64 0);refine bodyPost_ret (v:=.tuple #[.int .i64 0,.agg #[.int .i64 0,.int .i64 0]]) (by simp[results,Tryz.results13,go_sem,f0,f1]) rfl ?_;unfold yM at hrr;subst hrr;exact⟨rfl,zm HWR.out (by omega) _ _⟩
theorem parN_snoc:∀ (l:List Pa) (x:Pa) (n:Nat),parN (l++[x]) n=parN l n++[(x.name,vN (n+l.length))]
 | [],x,n=>by rw[List.nil_append,parN,parN,parN];rfl
 | y :: r,x,n=>by rw[List.cons_append,parN,parN_snoc r x (n+1),parN,List.length_cons,show n+1+r.length=n+(r.length+1) by omega];rfl
structure RIn (W0:World) (bx bg:Nat) (f:Fu) (k jn j:Nat) (nv pv:Value) (W:World):Prop where
 off:Off2 bx bg W0.heap.size W0 W
 st:W.heap[bx]? =some (staO (k:Nat))
 gb:W.heap[bg]? =some (.cells #[.string f.name,.int .i64 f.type,pv,.slice none 0 0] 45)
 nr:W.ownsRow W0.heap.size 71 2 nv jn ((parN (f.params.take jn) 0).flatMap kQ.cs)
 pr:W.ownsRow W0.heap.size 47 2 pv j ((renPs (f.params.take j) 0).flatMap kP.cs)
 ne:∀ q,nv.ownBlock=some q→pv.ownBlock≠some q
 hx:bx<W0.heap.size
 hg:bg<W0.heap.size
 xg:bx≠bg
section
variable {W0:World} {bx bg:Nat} {f:Fu} {k jn j:Nat} {nv pv:Value} {W W':World}
theorem RIn.below (h:RIn W0 bx bg f k jn j nv pv W) (hb:Below W.heap.size W W'):RIn W0 bx bg f k jn j nv pv W' where
 off:=h.off.trans (Off2.of_below (hb.mono h.off.size))
 st:=(hb.block _ (zB h.st)).trans h.st
 gb:=(hb.block _ (zB h.gb)).trans h.gb
 nr:=qy h.nr hb Zr
 pr:=qy h.pr hb Zr
 ne:=h.ne
 hx:=h.hx
 hg:=h.hg
 xg:=h.xg
theorem RIn.next (h:RIn W0 bx bg f k jn j nv pv W) (ho:OffB bx W.heap.size W W') {k':Nat} (hs:W'.heap[bx]? =some (staO (k':Nat))):RIn W0 bx bg f k' jn j nv pv W' where
 off:=h.off.trans ⟨(show Below _ (hole bx W) (hole bx W') from ho).os,(show Below _ (hole bx W) (hole bx W') from ho).tape,(show Below _ (hole bx W) (hole bx W') from ho).output,ho.size,fun q h1 h2 _=>ho.block (Nat.lt_of_lt_of_le h1 h.off.size) h2⟩
 st:=hs
 gb:=(ho.block (zB h.gb) h.xg.symm).trans h.gb
 nr:=qR h.nr fun q hq=>ho.block (qJ h.nr q hq).1 (by have:=(qJ h.nr q hq).2;have:=h.hx;omega)
 pr:=qR h.pr fun q hq=>ho.block (qJ h.pr q hq).1 (by have:=(qJ h.pr q hq).2;have:=h.hx;omega)
 ne:=h.ne
 hx:=h.hx
 hg:=h.hg
 xg:=h.xg
theorem off_grown {b c B:Nat} {w w':World} {row:Option Nat} (hg:w.grownBy w' row) (hB:B≤w.heap.size) (hr:∀ q,row=some q→B≤q):Off2 b c B w w':=⟨hg.os,hg.tape,hg.output,hg.size,fun q h1 _ _=>hg.block q (by omega) (fun e=>by have:=hr q e.symm;omega)⟩
theorem RIn.names (h:RIn W0 bx bg f k jn j nv pv W) {x:Pa} (hx:f.params[jn]? =some x) {nv':Value} (hg:W.grownBy W' nv.ownBlock) (hr:xA W nv nv')
 (ho:W'.ownsRow W0.heap.size 71 2 nv' (jn+1) ((parN (f.params.take jn) 0).flatMap kQ.cs++[.string x.name,.string (vN jn)])):RIn W0 bx bg f k (jn+1) j nv' pv W':=by
 have hW0:=h.off.size;have hown:=qJ h.nr;have hpo:=qJ h.pr;have hlt:jn<f.params.length:=(List.getElem?_eq_some_iff.1 hx).1;have hk:∀ q,q<W.heap.size→nv.ownBlock≠some q→W'.heap[q]? =W.heap[q]?:=fun q hq hne=>hg.block q hq (fun e=>hne e.symm)
 have hxx:=h.hx;have hgg:=h.hg;refine⟨h.off.trans (off_grown hg hW0 fun q hq=>(hown q hq).2),(hk bx (zB h.st) (fun e=>by have:=(hown bx e).2;omega)).trans h.st,(hk bg (zB h.gb) (fun e=>by have:=(hown bg e).2;omega)).trans h.gb,?_,qR h.pr fun q hq=>hk q (hpo q hq).1 (fun e=>h.ne q e hq),fun q hq hq2=>?_,hxx,hgg,h.xg⟩
 · rw[kp hx,parN_snoc,List.flatMap_append,Nat.zero_add,List.length_take,Nat.min_eq_left (by omega)]
   exact ho
 · rcases hr with h1 | ⟨g,h1,h2⟩
   · exact h.ne q (h1 ▸ hq) hq2
   · rw[h1]at hq
     injection hq with hq;have:=(hpo q hq2).1;omega
theorem RIn.pars (h:RIn W0 bx bg f k jn j nv pv W) {x:Pa} (hx:f.params[j]? =some x) {pv':Value} (hg:W.grownBy W' pv.ownBlock) (hr:xA W pv pv')
 (ho:W'.ownsRow W0.heap.size 47 2 pv' (j+1) ((renPs (f.params.take j) 0).flatMap kP.cs++[.string (vN j),.int .i64 x.type])):
 (W'.heap[bg]? =some (.cells #[.string f.name,.int .i64 f.type,pv,.slice none 0 0] 45))∧RIn W0 bx bg f k jn (j+1) nv pv' (W'.setCell ⟨bg,2,none⟩ pv'):=by
 have hW0:=h.off.size;have hown:=qJ h.pr;have hno:=qJ h.nr;have hlt:j<f.params.length:=(List.getElem?_eq_some_iff.1 hx).1;have hk:∀ q,q<W.heap.size→pv.ownBlock≠some q→W'.heap[q]? =W.heap[q]?:=fun q hq hne=>hg.block q hq (fun e=>hne e.symm)
 have hxx:=h.hx;have hgg:=h.hg;have hgb:=(hk bg (zB h.gb) (fun e=>by have:=(hown bg e).2;omega)).trans h.gb;have hset:∀ q,q≠bg→(W'.setCell ⟨bg,2,none⟩ pv').heap[q]? =W'.heap[q]?:=fun q hq=>Below.heap_setCell W' _ _ q hq
 refine⟨hgb,(h.off.trans (off_grown hg hW0 fun q hq=>(hown q hq).2)).set (.inr (.inr rfl)) 2 _,(hset bx h.xg).trans ((hk bx (zB h.st) (fun e=>by have:=(hown bx e).2;omega)).trans h.st),Lib.heap_setCell_same hgb _,qR h.nr fun q hq=>(hset q (by have:=(hno q hq).2;omega)).trans (hk q (hno q hq).1 (fun e=>h.ne q hq e)),?_,fun q hq hq2=>?_,hxx,hgg,h.xg⟩
 · rw[kp hx,uW,List.flatMap_append,Nat.zero_add,List.length_take,Nat.min_eq_left (by omega)]
   exact qR ho fun q hq=>hset q (by have:=(qJ ho q hq).2;omega)
 · rcases hr with h1 | ⟨g,h1,h2⟩
   · exact h.ne q hq (h1 ▸ hq2)
   · rw[h1]at hq2
     injection hq2 with hq2;have:=(hno q hq).1;omega
end
structure ROut (w:World) (p:Pr) (bx:Obj) (bo M:Nat) (va fv:Value) (fs:List FuV) (W:World):Prop where
 mid:PMid w bx W
 ob:W.heap[bo]? =some (.cells #[va,fv] 26)
 arr:OutK kA (bo+1) W va p.arrays
 ab:∀ j,va.ownBlock=some j→j<M
 fun_:OutK kF M W fv fs
 hb:w.heap.size+2≤bo
 bM:bo<M
 sz:M≤W.heap.size
section
variable {w:World} {p:Pr} {bx:Obj} {bo M:Nat} {va fv:Value} {fs:List FuV} {W W':World}
theorem ROut.below (h:ROut w p bx bo M va fv fs W) (hb:Below W.heap.size W W'):ROut w p bx bo M va fv fs W' where
 mid:=h.mid.below hb
 ob:=(hb.block _ (zB h.ob)).trans h.ob
 arr:=h.arr.keep (zD.of_below hb)
 ab:=h.ab
 fun_:=h.fun_.keep (zD.of_below hb)
 hb:=h.hb
 bM:=h.bM
 sz:=Nat.le_trans h.sz hb.size
theorem ROut.app (h:ROut w p bx bo M va fv fs W) {L:Nat} {q:FuV} (hq:FrK kF L W q) (hL:M≤L) (hL2:∀ j,fv.ownBlock=some j→j<L) {o:Obj} {fv':Value} (hg:(W.alloc o).grownBy W' fv.ownBlock) (hr:xA (W.alloc o) fv fv')
 (ho:W'.ownsRow M kF.T kF.n fv' (fs.length+1) (fs.flatMap kF.cs++kF.cs q)):
 W'.heap[bo]? =some (.cells #[va,fv] 26)∧ROut w p bx bo M va fv' (fs++[q]) (W'.setCell ⟨bo,1,none⟩ fv'):=by
 have hal:Below W.heap.size W (W.alloc o):=Zb.alloc Zr _;have hown:=h.fun_.own;have hk:∀ q,q<W.heap.size→fv.ownBlock≠some q→W'.heap[q]? =W.heap[q]?:=fun q hq hne=>(hg.block q (by have:=hal.size;omega) (fun e=>hne e.symm)).trans (hal.block q hq)
 have hb:=h.hb;have hbM:=h.bM;have hsz:=h.sz;have hkM:∀ q,q<M→W'.heap[q]? =W.heap[q]?:=fun q hq=>hk q (by omega) (fun e=>by have:=(hown q e).2;omega)
 have hob:=(hkM bo hbM).trans h.ob;have hset:∀ q,q≠bo→(W'.setCell ⟨bo,1,none⟩ fv').heap[q]? =W'.heap[q]?:=fun q hq=>Below.heap_setCell W' _ _ q hq
 have hWW:W.heap.size≤W'.heap.size:=Nat.le_trans hal.size hg.size;have hz:(W'.setCell ⟨bo,1,none⟩ fv').heap.size=W'.heap.size:=by simp[World.setCell]
 have hbel:Below (w.heap.size+2) W (W'.setCell ⟨bo,1,none⟩ fv'):=⟨hg.os.trans hal.os,hg.tape.trans hal.tape,hg.output.trans hal.output,by omega,fun q hq=>(hset q (by omega)).trans (hkM q (by omega))⟩
 refine⟨hob,h.mid.keep hbel Zr,Lib.heap_setCell_same hob _,⟨qR h.arr.1 fun q hq=>(hset q (by have:=(h.arr.own q hq).2;omega)).trans (hkM q (h.ab q hq)),fun _ _=>trivial⟩,h.ab,?_,hb,hbM,by omega⟩;exact(h.fun_.app hq hL hL2 hal hg hr ho).keep (zD.set hbM 1 _)
end
theorem pgo_set {W:World} {g:Nat} {d0 d1:Value} {T:TypeId} (h:W.heap[g]? =some (.cells #[d0,d1] T (0,0))) (c0:Value):(W.setCell ⟨g,0,none⟩ c0).heap[g]? =some (.cells #[c0,d1] T (0,0)):=Lib.heap_setCell_same h c0
@[go_sem] theorem buildPa2 (s:ByteArray) (t:Int) (w:World):(Instr.build 47 #[(0,.string s),(1,.int .i64 t)]).run Tryz.prog w=.ok (.agg #[.string s,.int .i64 t]) w:=run_build w 47 _ _ (by kernel_rfl)
@[go_sem] theorem buildFu2 (s:ByteArray) (t:Int) (w:World):(Instr.build 45 #[(0,.string s),(1,.int .i64 t)]).run Tryz.prog w=.ok (.agg #[.string s,.int .i64 t,.slice none 0 0,.slice none 0 0]) w:=run_build w 45 _ _ (by kernel_rfl)
set_option maxHeartbeats 8000000 in
theorem rrename_any (B:Nat) (p:Pr) (v0 v1:Value) (w:World) (hB:B≤w.heap.size) (ha:SlA B w v0 p.arrays) (hf:SlF B w v1 p.funcs) (hsm:Small p):
 Calls Tryz.prog 9 #[.agg #[v0,v1]] w (RnPost p w):=by
 obtain⟨A0,c0,rfl,hn0⟩:=ha.form;obtain⟨A1,c1,rfl,hn1⟩:=hf.form;obtain⟨⟨R0,R1,R2⟩,hR⟩:∃ R,uJ p=R:=⟨_,rfl⟩
 have hBA:Below w.heap.size w ((w.alloc (pgO A0 p.arrays.length c0 A1 p.funcs.length c1)).alloc pgBox):=(Zb.alloc Zr _).alloc (by rw[zA];omega) _;have HMA:=hid (show PMid w (pgO A0 p.arrays.length c0 A1 p.funcs.length c1) ((w.alloc (pgO A0 p.arrays.length c0 A1 p.funcs.length c1)).alloc pgBox) from⟨hBA,zc (heap_alloc_new w _) _,by have:=heap_alloc_new (w.alloc (pgO A0 p.arrays.length c0 A1 p.funcs.length c1)) pgBox;rw[zA]at this;exact this⟩);have hzA:((w.alloc (pgO A0 p.arrays.length c0 A1 p.funcs.length c1)).alloc pgBox).heap.size=w.heap.size+2:=by rw[zA,zA]
 obtain⟨i0,hi0,hz0,hz1,hz2⟩:=info_parts pr_info;have HI0:=hid (And.intro hi0 (And.intro hz0 (And.intro hz1 hz2)));obtain⟨j0,hj0,hy0,hy1,hy2⟩:=info_parts pa_info;have HJ0:=hid (And.intro hj0 (And.intro hy0 (And.intro hy1 hy2)));obtain⟨k0,hk0,hx0,hx1,hx2⟩:=info_parts ar_info;have HK0:=hid (And.intro hk0 (And.intro hx0 (And.intro hx1 hx2)));obtain⟨l0,hl0,hw0,hw1,hw2⟩:=info_parts fu_info;have HL0:=hid (And.intro hl0 (And.intro hw0 (And.intro hw1 hw2)));have HA:=hid ha;have HF:=hid hf;have HSM:=hid hsm;have HR:=hid hR;clear ha hf hsm hR hBA hi0 hz0 hz1 hz2 hj0 hy0 hy1 hy2 hk0 hx0 hx1 hx2 hl0 hw0 hw1 hw2;have hl1:=HSM.out.n1;have hl2:=HSM.out.n2;go_enter Tryz.func9,Tryz.ntmps9;go_upto_region 1 with(fail);generalize (w.alloc (pgO A0 p.arrays.length c0 A1 p.funcs.length c1)).alloc pgBox=WA at *;have hza:=Nat.le_of_eq hzA;have hzb:=Nat.le_of_eq hzA.symm;clear hzA;obtain⟨⟨a0,a1⟩,az⟩:=zE HMA.out.box;have hsA:w.heap.size<WA.heap.size:=by omega
 have HCK:=hid (rcheck_any B p (R0,R1,R2) (.slice A0 p.arrays.length c0) (.slice A1 p.funcs.length c1) WA (by omega) (HA.out.below (HMA.out.bel.mono hB) Zr) (HF.out.below (HMA.out.bel.mono hB) Zr) HSM.out.cn HR.out);by_cases h0:R0=0
 case neg=>
  have hne:(R0 != 0)=true:=by simpa using h0
  go_upto_region 2 with(go_at_call 13;(with_reducible refine(HCK.out).mono ?_);rintro e w1 ⟨rfl,hb1⟩
                        have HM1:=hid (HMA.out.below (hb1.alloc (by have:=hb1.size;omega) (.cells #[.int .i64 (R1:Int),.int .i64 (W64 R2)] 38)));have hr1:w.heap.size+1<(w1.alloc (.cells #[.int .i64 (R1:Int),.int .i64 (W64 R2)] 38)).heap.size:=by have:=hb1.size;rw[zA];omega
                        clear hb1)
  generalize w1.alloc (.cells #[.int .i64 (R1:Int),.int .i64 (W64 R2)] 38)=W1 at *;obtain⟨⟨r0,r1⟩,rz⟩:=zE HM1.out.res;go_wp2_with (fail);obtain⟨f0,f1⟩:=qg HM1.out.res (.slice none 0 0) (.slice none 0 0);refine bodyPost_ret (v:=.tuple #[.agg #[.slice none 0 0,.slice none 0 0],.int .i64 1]) (by simp[results,Tryz.results9,go_sem,f0,f1]) rfl ?_;have hrr:uA p=(pr0,1):=by unfold uA;rw[HR.out,if_neg h0]
  refine⟨_,_,by rw[hrr],HM1.out.bel.trans (zm Zb (by omega) _ _),?_⟩;rw[hrr];exact⟨_,_,rfl,ue _ _,⟨none,0,rfl,Nat.zero_le _,fun h=>absurd h (by simp[pr0])⟩⟩
 case pos=>
  subst h0;have HSRA:=hid (src_ars HA.out)
  go_upto_region 4 with(go_at_call 13;(with_reducible refine(HCK.out).mono ?_);rintro e w1 ⟨rfl,hb1⟩
                        have HM1:=hid (HMA.out.below (hb1.alloc (by have:=hb1.size;omega) (.cells #[.int .i64 (R1:Int),.int .i64 (W64 R2)] 38)));have hz1:WA.heap.size≤w1.heap.size:=hb1.size;have hz1':(w1.alloc (.cells #[.int .i64 (R1:Int),.int .i64 (W64 R2)] 38)).heap.size=w1.heap.size+1:=zA _ _
                        clear hb1)
  generalize w1.alloc (.cells #[.int .i64 (R1:Int),.int .i64 (W64 R2)] 38)=W1 at *;have hz1a:=Nat.le_of_eq hz1';have hz1b:=Nat.le_of_eq hz1'.symm;clear hz1' a0 a1 az;have hb2:Below W1.heap.size W1 (W1.alloc pgBox):=Zb.alloc Zr _;have hx2:(W1.alloc pgBox).heap[W1.heap.size]? =some pgBox:=heap_alloc_new W1 _;have hz2':(W1.alloc pgBox).heap.size=W1.heap.size+1:=zA _ _;go_upto_region 5 with(fail);generalize W1.alloc pgBox=W2 at *;have HM2:=hid (HM1.out.below hb2);have HX2:=hid hx2;have hz2a:=Nat.le_of_eq hz2';have hz2b:=Nat.le_of_eq hz2'.symm;clear hb2 hx2 hz2';obtain⟨⟨a0,a1⟩,az⟩:=zE HM2.out.box;obtain⟨⟨b0,b1⟩,bz⟩:=zE HX2.out;have hs2:w.heap.size<W2.heap.size:=by omega
  have hs2b:W1.heap.size<W2.heap.size:=by omega
  have HSA2:=hid (show Src kA B W2 A0 p.arrays.length p.arrays from HSRA.out.below (HM2.out.bel.mono hB));have HN2:=hid (World.ownsRow_nil W2 W2.heap.size 62 2)
  go_upto_region 6 with(at_builtin;refine kY rfl (.tmp 23) (.tmp 25) _ rfl W2.heap.size 62 k0 _ 2 24 Tryz.underlying23 HK0.out.1 HK0.out.2.1 HK0.out.2.2.1 HK0.out.2.2.2 rfl (by omega) (.slice none 0 0) 0 [] rfl (by exact HN2.out) A0 p.arrays.length c0 (p.arrays.flatMap kA.cs) rfl HSA2.out.elems HSA2.out.nil (fun ad had j u hu=>(HSA2.out.cel ad had j u hu).2) (cs_one kA kA_one HSA2.out.inn) (by simp only[maxLen];omega) (by omega) Zr ?_
                        intro va w4 hown hg4;rw[Nat.zero_add,List.nil_append]at hown;obtain⟨A4,c4,rfl⟩:=zj hown;have hb4:Below W2.heap.size W2 w4:=Zb.grown hg4 Zr fun k hk=>by cases hk
                        have HO4:=hid hown;have HB4:=hid hb4;have hz4:W2.heap.size≤w4.heap.size:=hb4.size;have HX4:=hid ((hb4.block W1.heap.size hs2b).trans HX2.out);have HM4:=hid (HM2.out.below hb4);have hs4:W1.heap.size<w4.heap.size:=by omega
                        obtain⟨⟨d0,d1⟩,dz⟩:=zE HX4.out
                        clear hown hg4 hb4)
  have HRO:=hid (show ROut w p (pgO A0 p.arrays.length c0 A1 p.funcs.length c1) W1.heap.size w4.heap.size (.slice A4 p.arrays.length c4) (.slice none 0 0) [] (w4.setCell ⟨W1.heap.size,0,none⟩ (.slice A4 p.arrays.length c4)) from {
   mid:=HM4.out.keep (Zb.setCell (p:=⟨W1.heap.size,0,none⟩) Zr _) (show w.heap.size+2≤W1.heap.size by omega)
   ob:=pgo_set HX4.out _
   arr:=by
    have h1:OutK kA (W1.heap.size+1) w4 (.slice A4 p.arrays.length c4) p.arrays:=⟨own_up HO4.out (by omega),fun _ _=>trivial⟩
    exact h1.keep (zD.set (by omega) _ _)
   ab:=fun j hj=>(qJ HO4.out j hj).1
   fun_:=OutK.nil _ _ _
   hb:=by omega
   bM:=hs4
   sz:=by simp[World.setCell] })
  generalize w4.setCell ⟨W1.heap.size,0,none⟩ (.slice A4 p.arrays.length c4)=W5 at *;clear a0 a1 az b0 b1 bz d0 d1 dz;go_upto_region 7 with(fail)
  go_loopw [7] (fun iv wr=>∃ (i:Nat) (fs:List FuV) (fv:Value),i≤p.funcs.length∧iv=.int .i64 i∧fs.map (·.f)=(p.funcs.take i).map renF∧ROut w p (pgO A0 p.arrays.length c0 A1 p.funcs.length c1) W1.heap.size w4.heap.size (.slice A4 p.arrays.length c4) fv fs wr) (fun iv _=>p.funcs.length-(intOf iv).toNat)
  case atStart=>exact⟨0,[],_,Nat.zero_le _,rfl,rfl,HRO.out⟩
  case round=>
   obtain⟨i,fs,fv,hi,rfl,hfs,hC⟩:=hrel;have hfl:fs.length=i:=by have:=congrArg List.length hfs;rw[List.length_map,List.length_map,List.length_take]at this;omega
   have HFL:=hid hfl;have HFS:=hid hfs;have HC:=hid hC;obtain⟨A9,c9,rfl⟩:=hC.fun_.form;have hsr:w.heap.size<wr.heap.size:=zB hC.mid.box;have hor:W1.heap.size<wr.heap.size:=zB hC.ob;have hMr:w4.heap.size≤wr.heap.size:=hC.sz;have hww:w.heap.size+2≤W1.heap.size:=hC.hb;obtain⟨⟨d0,d1⟩,dz⟩:=zE hC.mid.box;clear hfl hfs hC;by_cases hlt:i<p.funcs.length
   · obtain⟨f,he⟩:∃ e,p.funcs[i]? =some e:=⟨_,List.getElem?_eq_getElem hlt⟩
     have hbel:Below B w wr:=HC.out.mid.bel.mono hB;obtain⟨g,o,v2,v3,rfl,hg,q0,q1,q2,q3,hs2,hs3⟩:=(HF.out.below hbel Zr).cells he;obtain⟨A2,c2,rfl,_⟩:=hs2.form;obtain⟨A3,c3,rfl,_⟩:=hs3.form;have hgs:g<wr.heap.size:=by omega
     have HCN:=hid (HSM.out.cn f (List.mem_of_getElem? he))
     have hok:=List.all_eq_true.1 (show p.funcs.all k8=true from by
      have h1:=HSM.out.ok;unfold prOK at h1;rw[Bool.and_eq_true]at h1
      exact h1.2) f (List.mem_of_getElem? he)
     unfold k8 at hok;simp only[Bool.and_eq_true,decide_eq_true_eq]at hok;obtain⟨⟨⟨⟨_,_⟩,h8⟩,_⟩,hbody⟩:=hok;have HBODY:=hid hbody;have HE:=hid he;have HS2:=hid hs2;have HS3:=hid hs3;have hbA:Below wr.heap.size wr ((((wr.alloc (.cells #[.string f.name,.int .i64 f.type,.slice A2 f.params.length c2,.slice A3 f.body.length c3] 45)).alloc (staO 0)).alloc (.cells #[.string f.name,.int .i64 f.type,.slice none 0 0,.slice none 0 0] 45))):=((Zb.alloc Zr _).alloc (by rw[zA];omega) _).alloc (by rw[zA,zA];omega) _;have hx0:((((wr.alloc (.cells #[.string f.name,.int .i64 f.type,.slice A2 f.params.length c2,.slice A3 f.body.length c3] 45)).alloc (staO 0)).alloc (.cells #[.string f.name,.int .i64 f.type,.slice none 0 0,.slice none 0 0] 45))).heap[wr.heap.size]? =some (.cells #[.string f.name,.int .i64 f.type,.slice A2 f.params.length c2,.slice A3 f.body.length c3] 45):=zc (zc (heap_alloc_new wr _) _) _;have hx1:((((wr.alloc (.cells #[.string f.name,.int .i64 f.type,.slice A2 f.params.length c2,.slice A3 f.body.length c3] 45)).alloc (staO 0)).alloc (.cells #[.string f.name,.int .i64 f.type,.slice none 0 0,.slice none 0 0] 45))).heap[wr.heap.size+1]? =some (staO 0):=zc (by have:=heap_alloc_new (wr.alloc (.cells #[.string f.name,.int .i64 f.type,.slice A2 f.params.length c2,.slice A3 f.body.length c3] 45)) (staO 0);rw[zA]at this;exact this) _;have hx2:((((wr.alloc (.cells #[.string f.name,.int .i64 f.type,.slice A2 f.params.length c2,.slice A3 f.body.length c3] 45)).alloc (staO 0)).alloc (.cells #[.string f.name,.int .i64 f.type,.slice none 0 0,.slice none 0 0] 45))).heap[wr.heap.size+2]? =some (.cells #[.string f.name,.int .i64 f.type,.slice none 0 0,.slice none 0 0] 45):=by have:=heap_alloc_new ((wr.alloc (.cells #[.string f.name,.int .i64 f.type,.slice A2 f.params.length c2,.slice A3 f.body.length c3] 45)).alloc (staO 0)) (.cells #[.string f.name,.int .i64 f.type,.slice none 0 0,.slice none 0 0] 45);rw[zA,zA]at this;exact this
     have hzW:((((wr.alloc (.cells #[.string f.name,.int .i64 f.type,.slice A2 f.params.length c2,.slice A3 f.body.length c3] 45)).alloc (staO 0)).alloc (.cells #[.string f.name,.int .i64 f.type,.slice none 0 0,.slice none 0 0] 45))).heap.size=wr.heap.size+3:=by rw[zA,zA,zA]
     clear he hs2 hs3 hbody hbel;go_upto_region 14 with(fail);generalize (((wr.alloc (.cells #[.string f.name,.int .i64 f.type,.slice A2 f.params.length c2,.slice A3 f.body.length c3] 45)).alloc (staO 0)).alloc (.cells #[.string f.name,.int .i64 f.type,.slice none 0 0,.slice none 0 0] 45))=W0 at *;have HB0:=hid hbA;have HX0:=hid hx0;have hza0:=Nat.le_of_eq hzW;have hzb0:=Nat.le_of_eq hzW.symm;have HR0:=hid (show RIn W0 (wr.heap.size+1) (wr.heap.size+2) f 0 0 0 (.slice none 0 0) (.slice none 0 0) W0 from⟨Off2.refl _ _ _ _,hx1,hx2,World.ownsRow_nil _ _ _ _,World.ownsRow_nil _ _ _ _,fun q hq=>by simp[Value.ownBlock]at hq,by omega,by omega,by omega⟩);clear d0 d1 dz q0 q1 q2 q3 hbA hx0 hx1 hx2 hzW;obtain⟨wo,rfl⟩:∃ x,x=wr:=⟨_,rfl⟩
     go_loopw [11,12] (fun nv iv wq=>∃ (k:Nat) (pv:Value),k≤f.params.length∧iv=.int .i64 k∧RIn W0 (wo.heap.size+1) (wo.heap.size+2) f k k k nv pv wq) (fun _ iv _=>f.params.length-(intOf iv).toNat)
     case atStart=>exact⟨0,_,Nat.zero_le _,rfl,HR0.out⟩
     case round=>
      obtain⟨k,pv,hk,rfl,hI⟩:=hrel;obtain⟨A7,c7,rfl⟩:=zj hI.nr;obtain⟨A8,c8,rfl⟩:=zj hI.pr;have HI:=hid hI;have hzq:W0.heap.size≤wr.heap.size:=hI.off.size;have hFB:=(hI.off.block wo.heap.size (by omega) (by omega) (by omega)).trans HX0.out;obtain⟨⟨f0,f1,f2,f3⟩,fz⟩:=zI hFB;have hbq:Below B wo wr:=(HB0.out.mono (by omega)).trans (hI.off.below (by omega) (by omega) (by omega));have HBQ:=hid hbq;have hsq:wo.heap.size<wr.heap.size:=by omega
      clear hI hFB;by_cases hlt2:k<f.params.length
      · obtain⟨⟨pn,pt⟩,hx⟩:∃ e,f.params[k]? =some e:=⟨_,List.getElem?_eq_getElem hlt2⟩
        obtain⟨g2,o2,rfl,hg2,p0,p1⟩:=(HS2.out.below hbq Zr).cells hx;have HX:=hid hx;have hg2s:g2<wr.heap.size:=by omega
        clear hx hbq
        go_upto_region 18 with(first
         | (go_at_call 23;(with_reducible refine(rnext_any (wo.heap.size+1) k wr HI.out.st (by omega)).mono ?_);rintro e w6 ⟨rfl,ho,hs⟩
            have HI6:=hid (HI.out.next ho hs);have hz6:wr.heap.size≤w6.heap.size:=ho.size;have HF6:=hid ((HI6.out.off.block wo.heap.size (by omega) (by omega) (by omega)).trans HX0.out);obtain⟨⟨x0,x1,x2,x3⟩,xz⟩:=zI HF6.out;have hb6:Below B wr w6:=qt ho (by omega) (by omega);have r0:=(hb6.cell (p:=⟨g2,o2+k * 2,none⟩) hg2).trans p0;have r1:=(hb6.cell (p:=⟨g2,o2+k * 2+1,none⟩) hg2).trans p1;have hg26:g2<w6.heap.size:=by omega
            have hs6:wo.heap.size<w6.heap.size:=by omega
            have HPRE:=hid (OutK.pre (K:=kQ) (cs:=[.string pn,.string (vN k)]) (ps:=parN (f.params.take k) 0) (⟨by rw[parN_len,List.length_take,Nat.min_eq_left (by omega)];exact HI6.out.nr,fun _ _=>trivial⟩:OutK kQ W0.heap.size w6 (.slice A7 k c7) (parN (f.params.take k) 0)) (by omega))
            clear ho hs hb6)
         | (at_builtin;refine zw rfl (.tmp 56) (.tmp 65) _ rfl W0.heap.size 71 i0 _ 2 32 Tryz.underlying68 HI0.out.1 HI0.out.2.1 HI0.out.2.2.1 HI0.out.2.2.2 rfl (by omega) (.slice A7 k c7) k _ rfl (by exact qy HI6.out.nr (Zb.alloc Zr _) Zr) ⟨w6.heap.size,0,none⟩ 1 1 [.string pn,.string (vN k)] rfl rfl (by exact HPRE.out.2.1) (by simp[Value.oneCell']) (by simp only[maxLen];omega) (by omega) (by exact HPRE.out.2.2) (by omega) ?_
            intro v1 w7 hown1 hg1 hr1;obtain⟨A10,c10,rfl⟩:=zj hown1;have HI7:=hid (RIn.names (HI6.out.below (Zb.alloc Zr _)) HX.out hg1 hr1 hown1);have hz7:w6.heap.size≤w7.heap.size:=by have:=hg1.size;rw[zA]at this;omega
            clear hown1 hg1 hr1))
        clear x0 x1 x2 x3 xz f0 f1 f2 f3 fz p0 p1 r0 r1;have HF7:=hid ((HI7.out.off.block wo.heap.size (by omega) (by omega) (by omega)).trans HX0.out);obtain⟨⟨f0,f1,f2,f3⟩,fz⟩:=zI HF7.out;obtain⟨⟨y0,y1,y2,y3⟩,yz⟩:=zI HI7.out.gb;have hbq7:Below B wo w7:=(HB0.out.mono (by omega)).trans (HI7.out.off.below (by omega) (by omega) (by omega));obtain⟨g3,o3,he3,_,p0,p1⟩:=(HS2.out.below hbq7 Zr).cells HX.out;injection he3 with he3;injection he3 with e1 e2;subst e1 e2;have hs7:wo.heap.size<w7.heap.size:=by omega
        have hg7:wo.heap.size+2<w7.heap.size:=zB HI7.out.gb;have hg27:g2<w7.heap.size:=by omega
        have HPR7:=hid (OutK.pre (K:=kP) (cs:=[.string (vN k),.int .i64 pt]) (ps:=renPs (f.params.take k) 0) (⟨by rw[xV,List.length_take,Nat.min_eq_left (by omega)];exact HI7.out.pr,fun _ _=>trivial⟩:OutK kP W0.heap.size w7 (.slice A8 k c8) (renPs (f.params.take k) 0)) (by have:=HI7.out.off.size;omega));clear hbq7
        go_region_law (first
         | (refine jP rfl (.tmp 68) (.tmp 77) _ rfl W0.heap.size 47 j0 _ 2 24 Tryz.underlying42 HJ0.out.1 HJ0.out.2.1 HJ0.out.2.2.1 HJ0.out.2.2.2 rfl (by omega) (.slice A8 k c8) k _ rfl (by exact qy HI7.out.pr (Zb.alloc Zr _).drew Zr) ⟨w7.heap.size,0,none⟩ 1 1 [.string (vN k),.int .i64 pt] rfl rfl (by exact HPR7.out.2.1) (by simp[Value.oneCell']) (by simp only[maxLen];omega) (by omega) (by exact HPR7.out.2.2) (by omega) ?_
            intro v1 w8 hown1 hg1 hr1;obtain⟨A11,c11,rfl⟩:=zj hown1;obtain⟨hgb,hI9⟩:=RIn.pars (HI7.out.below (Zb.alloc Zr _).drew) HX.out hg1 hr1 hown1;obtain⟨⟨t0,t1,t2,t3⟩,tz⟩:=zI hgb;have hg8:wo.heap.size+2<w8.heap.size:=zB hgb;have HI9:=hid hI9
            clear hgb hI9 hown1 hg1 hr1))
        all_goals
         go_wp2_with (fail);go_roundw
         case rel=>exact⟨k+1,_,by omega,by go_num,HI9.out⟩
         case measure=>simp[intOf];omega
      · have hkl:k=f.params.length:=by omega
        subst hkl;have hnl:(parN f.params 0).length=f.params.length:=parN_len _ _;have hI:=HI.out;have hnr:=hI.nr;have hpr:=hI.pr;rw[List.take_length]at hnr hpr;have HQ:=hid (show SlQ wr.heap.size (hole (wo.heap.size+1) wr) (.slice A7 f.params.length c7) (parN f.params 0) from yV (base:=W0.heap.size) (by rw[hnl];exact hnr) (by omega) (by rw[hnl];omega));have HP:=hid (show FrPs W0.heap.size wr (renPs f.params 0) (.slice A8 f.params.length c8) from OutK.params (B:=W0.heap.size) ⟨by rw[xV];exact hpr,fun _ _=>trivial⟩ (by rw[xV];omega));have HSB:=hid (HS3.out.below HBQ.out Zr);obtain⟨⟨y0,y1,y2,y3⟩,yz⟩:=zI hI.gb;clear hI hnr hpr hbq
        go_upto_region 20 with(go_at_call 24
                               (with_reducible refine(RbC.call (rb_all 100) HBODY.out (show B≤wo.heap.size+1 by omega) HSB.out HQ.out HI.out.st HCN.out (by rw[hnl];exact HCN.out)).mono ?_)
                               rintro x w8 ⟨v8,rfl,hF,ho,hx⟩;obtain⟨A12,c12,rfl,_⟩:=SlS.form hF;rw[kg]at hF;simp only[kg];have HI8:=hid (HI.out.next ho hx);have hz8:wr.heap.size≤w8.heap.size:=ho.size;have HP8:=hid (HP.out.keep (zD.of_off ho (by omega)) Zr);have HF8:=hid (show zT wr.heap.size w8 (qL f.body (parN f.params 0) f.params.length).1 (.slice A12 f.body.length c12) from hF);obtain⟨⟨t0,t1,t2,t3⟩,tz⟩:=zI HI8.out.gb;have hg8:wo.heap.size+2<w8.heap.size:=zB HI8.out.gb
                               clear hF ho hx)
        have hgb9:(w8.setCell ⟨wo.heap.size+2,3,none⟩ (.slice A12 f.body.length c12)).heap[wo.heap.size+2]? =some (.cells #[.string f.name,.int .i64 f.type,.slice A8 f.params.length c8,.slice A12 f.body.length c12] 45):=Lib.heap_setCell_same HI8.out.gb _;have hP9:FrPs wo.heap.size (w8.setCell ⟨wo.heap.size+2,3,none⟩ (.slice A12 f.body.length c12)) (renPs f.params 0) (.slice A8 f.params.length c8):=HP8.out.keep (zD.set (by omega) _ _) (by omega);have hF9:zT wo.heap.size (w8.setCell ⟨wo.heap.size+2,3,none⟩ (.slice A12 f.body.length c12)) (qL f.body (parN f.params 0) f.params.length).1 (.slice A12 f.body.length c12):=zT.keep HF8.out (zD.set (by omega) _ _) (by omega);have hb9:Below wo.heap.size wo (w8.setCell ⟨wo.heap.size+2,3,none⟩ (.slice A12 f.body.length c12)):=(HB0.out.trans (HI8.out.off.below (by omega) (by omega) (by omega))).setCell (p:=⟨wo.heap.size+2,3,none⟩) (show wo.heap.size≤wo.heap.size+2 by omega) _;have hz9:(w8.setCell ⟨wo.heap.size+2,3,none⟩ (.slice A12 f.body.length c12)).heap.size=w8.heap.size:=by simp[World.setCell]
        generalize w8.setCell ⟨wo.heap.size+2,3,none⟩ (.slice A12 f.body.length c12)=W9 at *;have HC9:=hid (HC.out.below hb9);have HFK:=hid (frk_fu (f:=renF f) hP9 hF9);have hz9a:=Nat.le_of_eq hz9;have hz9b:=Nat.le_of_eq hz9.symm;obtain⟨⟨e0,e1,e2,e3⟩,ez⟩:=zI hgb9;clear hgb9 hP9 hF9 hb9 hz9 t0 t1 t2 t3 tz y0 y1 y2 y3 yz f0 f1 f2 f3 fz;obtain⟨⟨u0,u1⟩,uz⟩:=zE HC9.out.ob;have hs9:W1.heap.size<W9.heap.size:=by omega
        have hg9:wo.heap.size+2<W9.heap.size:=by omega
        have HPRE:=hid (OutK.pre HC9.out.fun_ [.string f.name,.int .i64 f.type,.slice A8 f.params.length c8,.slice A12 f.body.length c12] HC9.out.sz);have HOW:=hid HC.out.fun_.own;have hfll:=Nat.le_of_eq HFL.out
        go_wp2_with (at_builtin;refine zw rfl (.tmp 87) (.tmp 89) _ rfl w4.heap.size 45 l0 _ 4 72 Tryz.underlying24 HL0.out.1 HL0.out.2.1 HL0.out.2.2.1 HL0.out.2.2.2 rfl (by omega) (.slice A9 fs.length c9) fs.length _ rfl (by exact HPRE.out.1) ⟨W9.heap.size,0,none⟩ 1 1 [.string f.name,.int .i64 f.type,.slice A8 f.params.length c8,.slice A12 f.body.length c12] rfl rfl (by exact HPRE.out.2.1) (by simp[Value.oneCell']) (by simp only[maxLen];omega) (by omega) (by exact HPRE.out.2.2) (by omega) ?_
                     intro v1 w10 hown1 hg1 hr1;obtain⟨A13,c13,rfl⟩:=zj hown1;obtain⟨hob,hro⟩:=ROut.app (q:=⟨renF f,.slice A8 f.params.length c8,.slice A12 f.body.length c12⟩) HC9.out HFK.out hMr (fun j hj=>(HOW.out j hj).1) hg1 hr1 hown1;have HRO2:=hid hro;obtain⟨⟨s0,s1⟩,sz⟩:=zE hob;have hs10:W1.heap.size<w10.heap.size:=zB hob
                     clear hob hro hown1 hg1 hr1)
        go_roundw
        case rel=>
         refine⟨i+1,_,_,by omega,by go_num,?_,HRO2.out⟩;rw[List.map_append,HFS.out,kp HE.out,List.map_append];rfl
        case measure=>simp[intOf];omega
   · have hil:i=p.funcs.length:=by omega
     subst hil;have HRR:=hid (show uA p=(renPr p,0) by unfold uA;rw[HR.out,if_pos rfl]);have hres:=HC.out.mid.res;obtain⟨⟨r0,r1⟩,rz⟩:=zE hres;obtain⟨⟨u0,u1⟩,uz⟩:=zE HC.out.ob;have hr1:=zB hres;have hfll:=Nat.le_of_eq HFL.out;obtain⟨s0,s1⟩:=qg hres (.slice A4 p.arrays.length c4) (.slice A9 fs.length c9)
     have HOUT:=hid (show SlA wr.heap.size (mask (yd (w.heap.size+2)) wr) (.slice A4 p.arrays.length c4) p.arrays∧SlF wr.heap.size (mask (yd (w.heap.size+2)) wr) (.slice A9 fs.length c9) (p.funcs.map renF) from by
      have h1:=OutK.arrays HC.out.arr (by omega);have h2:=OutK.funcs HC.out.fun_ (by rw[HFL.out];omega);rw[HFS.out,List.take_length]at h2;refine⟨SlA.imp (fun g o u hc=>?_) h1,SlF.imp (fun g o u hc=>?_) h2⟩
      · obtain⟨hq,hc⟩:=zn hc
        exact zy (qG.2 (by have:=qG.1 hq;omega)) hc
      · obtain⟨hq,hc⟩:=zn hc
        exact zy (qG.2 (by have:=qG.1 hq;omega)) hc)
     go_wp2_with (fail);refine bodyPost_ret (v:=.tuple #[.agg #[.slice A4 p.arrays.length c4,.slice A9 fs.length c9],.int .i64 0]) (by simp[results,Tryz.results9,go_sem,s0,s1]) rfl ?_;have hK:zD (w.heap.size+2) wr ((wr.setCell ⟨w.heap.size+1,0,none⟩ (.slice A4 p.arrays.length c4)).setCell ⟨w.heap.size+1,1,none⟩ (.slice A9 fs.length c9)):=(zD.set (by omega) _ _).trans (zD.set (by omega) _ _);refine⟨_,_,by rw[HRR.out],zm HC.out.mid.bel (by omega) _ _,?_⟩;rw[HRR.out];exact⟨_,_,rfl,SlA.imp (hK.cells (by omega)) HOUT.out.1,SlF.imp (hK.cells (by omega)) HOUT.out.2⟩
theorem spanN_take (l:List UInt8):l.takeWhile qH=l.take (jo l):=List.prefix_iff_eq_take.1 (List.takeWhile_prefix _)
theorem one_span {l:List UInt8} (h:0<jo l):one l=(kw (l.take (jo l))).map fun k=>(k,l.take (jo l)):=by
 unfold one
 rw[if_pos (by intro e;have:jo l=0:=by unfold jo;rw[e];rfl
               omega),spanN_take]
theorem one_sign {l:List UInt8} (h:jo l=0):one l=if kb l≠[] then some (2,kb l) else none:=by
 unfold one;rw[if_neg (by rw[spanN_take,h];simp)]
theorem zAl (l:List UInt8):l.take (kb l).length=kb l:=by
 have h:(kb l).isPrefixOf l=true:=by
  unfold kb;cases hf:yt.find? (fun t=>Lib.hasPrefix l t) with
  | none=>simp
  | some t=>exact List.find?_some (p:=fun t=>Lib.hasPrefix l t) hf
 exact(List.prefix_iff_eq_take.1 (List.isPrefixOf_iff_prefix.1 h)).symm
theorem signL_le (l:List UInt8):(kb l).length≤l.length:=by
 have:=congrArg List.length (zAl l);rw[List.length_take]at this;omega
theorem yE.below {w w':World} {B:Nat} {v:Value} {ts:List Tok} (h:yE w B v ts) (hb:Below w.heap.size w w'):yE w' B v ts:=qy h hb Zr
theorem zAm {l:List UInt8} {k:Int} {t:List UInt8} (h:one l=some (k,t)):l.take t.length=t∧0<t.length∧t.length≤l.length:=by
 by_cases h0:0<jo l
 · rw[one_span h0]at h
   obtain⟨k',_,e⟩:=Option.map_eq_some_iff.1 h;injection e with e1 e2;subst e2;have:=spanN_le l;rw[List.length_take];exact⟨by rw[Nat.min_eq_left this],by omega,by omega⟩
 · rw[one_sign (by omega)]at h
   split at h
   · rename_i hne
     injection h with h;injection h with e1 e2;subst e2;exact⟨zAl l,List.length_pos_iff.2 hne,signL_le l⟩
   · cases h
def kE (w:World) (l:List UInt8) (e:Ending) (w':World):Prop:=
 Below w.heap.size w w'∧match (zq l 1).2 with
  | none=>∃ v,e=.returned (.tuple #[v,.int .i64 0,.int .i64 0])∧yE w' w.heap.size v (zq l 1).1
  | some ln=>e=.returned (.tuple #[.slice none 0 0,.int .i64 20,.int .i64 (ln:Int)])
theorem yE.nil (w:World) (B:Nat):yE w B (.slice none 0 0) []:=⟨rfl,.inl ⟨rfl,rfl⟩⟩
theorem scan_one {l:List UInt8} {line:Nat} {k:Int} {t:List UInt8} (hg:gapN l=0) (h:one l=some (k,t)):
 zq l line=(⟨k,t,line⟩ :: (zq (l.drop t.length) line).1,(zq (l.drop t.length) line).2):=by
 obtain⟨_,h1,h2⟩:=zAm h;cases l with
 | nil=>rw[List.length_nil]at h2;omega
 | cons c r=>
   rw[scan_step hg,h]
   have e:(c :: r).drop t.length=r.drop (t.length-1):=by
    obtain⟨m,hm⟩:∃ m,t.length=m+1:=⟨t.length-1,by omega⟩
    rw[hm,List.drop_succ_cons];rfl
   rw[e]
theorem scan_bad {l:List UInt8} {line:Nat} (hg:gapN l=0) (hn:l≠[]) (h:one l=none):zq l line=([],some line):=by
 cases l with
 | nil=>exact absurd rfl hn
 | cons c r=>rw[scan_step hg,h]
theorem scan_end (line:Nat):zq [] line=([⟨3,[],line⟩],none):=by rw[zq]
end Go.Proofs.YtfghofifjnbicaaGreatDoor
