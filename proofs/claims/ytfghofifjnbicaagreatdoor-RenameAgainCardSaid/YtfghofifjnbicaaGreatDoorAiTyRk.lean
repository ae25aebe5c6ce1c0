import Derived.Test.YtfghofifjnbicaaGreatDoorAiZed
import Derived.Test.YtfghofifjnbicaaGreatDoorAiRnDp
import Derived.Test.YtfghofifjnbicaaGreatDoorAiTyBl
import Derived.Test.YtfghofifjnbicaaGreatDoorAiTreeRightF
import Derived.Test.YtfghofifjnbicaaGreatDoorAiTyEnd
import Derived.Test.YtfghofifjnbicaaGreatDoorAiTreeRefS
import Derived.Test.YtfghofifjnbicaaGreatDoorAiRnMid
import Derived.Test.YtfghofifjnbicaaGreatDoorAiTokScan
set_option linter.unusedSimpArgs false
set_option linter.unusedVariables false
set_option maxRecDepth 100000
/- The contract of the document's Check: E4. -/
namespace Go.Proofs.YtfghofifjnbicaaGreatDoor
open Lib (hid)
open Go.RowKit
def frP (l:List Pa):Prop:=∀ (q:Nat) x,l[q]? =some x→zQ (l.take q) x.name=none
theorem vx {y:Pa} {l:List Pa} {s:ByteArray}:zQ (y :: l) s=none↔¬ y.name=s∧zQ l s=none:=by
 rw[zQ];cases hv:zQ l s with
 | some t=>simp
 | none=>by_cases h:y.name=s <;> simp[h]
theorem dupP_iff:∀ {l:List Pa},vM l=false↔frP l
 | []=>⟨fun _ q x h=>by simp at h,fun _=>rfl⟩
 | y :: r=>by
   rw[vM,Bool.or_eq_false_iff,dupP_iff (l:=r)];constructor
   · rintro⟨h1,h2⟩ q x hq
     cases q with
     | zero=>simp[zQ]
     | succ q=>
       have hq':r[q]? =some x:=by simpa using hq
       rw[List.take_succ_cons,vx];refine⟨fun e=>?_,h2 q x hq'⟩;rw[xE,List.any_eq_false]at h1;exact h1 x (List.mem_of_getElem? hq') (by simp[e])
   · intro h
     have h3:∀ (q:Nat) x,r[q]? =some x→¬ y.name=x.name∧zQ (r.take q) x.name=none:=fun q x hq=>by
      have:=h (q+1) x (by simpa using hq);rwa [List.take_succ_cons,vx]at this
     refine⟨?_,fun q x hq=>(h3 q x hq).2⟩;rw[xE,List.any_eq_false];intro x hx;obtain⟨q,hq⟩:=List.getElem?_of_mem hx;simpa using fun e=>(h3 q x hq).1 e.symm
theorem hole_below {B b:Nat} (w:World) (h:B≤b):Below B w (hole b w):=⟨rfl,rfl,rfl,by rw[ya];exact Nat.le_refl _,fun k hk=>yo w (by omega)⟩
theorem SlP.takeS {B:Nat} {w:World} {A:Option Addr} {c:Nat} {l:List Pa} (h:SlP B w (.slice A l.length c) l) (k:Nat) (hk:k≤l.length):SlP B w (.slice A k c) (l.take k):=by
 have hc:=h.2 A l.length c rfl;refine⟨⟨_,c,by rw[List.length_take,Nat.min_eq_left hk],?_,fun hp=>?_⟩,fun A' n' c' hv=>by injection hv with _ h1 h2;omega⟩
 · obtain⟨_,_,_,hn⟩:=h.form
   rw[List.length_take];omega
 · rw[List.length_take]at hp
   obtain⟨g,o,rfl,hr⟩:=xb.elem h.1 rfl (by omega);exact⟨g,o,rfl,rdL_take k l g o hr⟩
theorem one_set {W:World} {g:Nat} {d0 d1:Value} {T:TypeId} (hb:W.heap[g]? =some (.cells #[d0,d1] T (0,0))) (c0:Value):(W.setCell ⟨g,0,none⟩ c0).cell? ⟨g,0,none⟩=some c0:=by
 have h:(W.setCell ⟨g,0,none⟩ c0).heap[g]? =some (.cells #[c0,d1] T (0,0)):=Lib.heap_setCell_same hb c0;exact(zF h).1.1
set_option maxHeartbeats 8000000 in
theorem rcheck_any (B:Nat) (p:Pr) (R:Int × Nat × Nat) (v0 v1:Value) (w:World) (hB:B≤w.heap.size) (ha:SlA B w v0 p.arrays) (hf:SlF B w v1 p.funcs) (hcn:∀ f ∈ p.funcs,f.params.length+cntSs f.body≤1000000000) (hR:vO p=R):
 Calls Tryz.prog 13 #[.agg #[v0,v1]] w (ChkPost w R):=by
 obtain⟨A0,c0,rfl,_⟩:=ha.form;obtain⟨A1,c1,rfl,_⟩:=hf.form;have hw2:Below w.heap.size w ((w.alloc (pgO A0 p.arrays.length c0 A1 p.funcs.length c1)).alloc (ur 0 0)):=(Zb.alloc Zr _).alloc (by simp) _;have HW2:=hid hw2;have HX0:=hid (show ((w.alloc (pgO A0 p.arrays.length c0 A1 p.funcs.length c1)).alloc (ur 0 0)).heap[w.heap.size]? =some (pgO A0 p.arrays.length c0 A1 p.funcs.length c1) from(Below.heap_alloc _ _ _ (by simp)).trans (heap_alloc_new w _));have HX1:=hid (show ((w.alloc (pgO A0 p.arrays.length c0 A1 p.funcs.length c1)).alloc (ur 0 0)).heap[w.heap.size+1]? =some (ur 0 0) from by simpa using heap_alloc_new (w.alloc (pgO A0 p.arrays.length c0 A1 p.funcs.length c1)) (ur 0 0));have HA:=hid ha;have HF:=hid hf;have HR:=hid hR;have HCN:=hid hcn;obtain⟨ok,hok⟩:∃ b,prOK p=b:=⟨_,rfl⟩
 have HOK:=hid hok;clear ha hf hR hw2 hok hcn;cases ok
 case false=>
  go_enter Tryz.func13,Tryz.ntmps13
  go_wp2_with (go_at_call 17;(with_reducible refine(vG B p _ HOK.out _ _ _ (by simp;omega) (HA.out.below (HW2.out.mono hB) Zr) (HF.out.below (HW2.out.mono hB) Zr)).mono ?_);rintro e w3 ⟨rfl,hb3⟩
               have hx0:=(hb3.block w.heap.size (by simp;omega)).trans HX0.out;have hx1:=(hb3.block (w.heap.size+1) (by simp)).trans HX1.out;obtain⟨⟨p0,p1⟩,pz⟩:=zF hx0;obtain⟨⟨x0,x1⟩,xz⟩:=zF hx1;have hs3:w.heap.size+1<w3.heap.size:=zB hx1;have ht3:w.heap.size<w3.heap.size:=zB hx0;have hw3:Below w.heap.size w w3:=HW2.out.trans (hb3.mono (by simp;omega));have HP3:=hid hx0;have HX3:=hid hx1;have HA3:=hid (HA.out.below (hw3.mono hB) Zr);have HF3:=hid (HF.out.below (hw3.mono hB) Zr);have hB3:B≤w3.heap.size:=by omega
               have HW3:=hid hw3
               clear hb3 hx0 hx1 hw3)
  obtain⟨f0,f1⟩:=qr HX3.out (.int .i64 0) (.int .i64 0);refine bodyPost_ret (v:=.tuple #[.int .i64 1,.agg #[.int .i64 0,.int .i64 0]]) (by simp[results,Tryz.results13,go_sem,f0,f1]) rfl ?_;have hrr:=HR.out;unfold vO at hrr;rw[if_pos HOK.out]at hrr;subst hrr;exact⟨rfl,zw HW3.out (by omega) _ _⟩
 case true=>
  have HFW:=hid (few_of HOK.out);obtain⟨gl,hgl⟩:∃ b,(!(xQ p p.arrays || xV p.funcs) && kB p)=b:=⟨_,rfl⟩
  have HGL:=hid hgl
  have HCP:=hid (show vO p=if gl=true then xH p p.funcs 0 else (50,0,0) by
   unfold vO;rw[if_neg (by rw[HOK.out];decide),←hgl]
   cases xQ p p.arrays || xV p.funcs <;> cases kB p <;> rfl)
  clear hgl;cases gl
  case false=>
   go_enter Tryz.func13,Tryz.ntmps13
   go_wp2_with (first
    | (go_at_call 17;(with_reducible refine(vG B p _ HOK.out _ _ _ (by simp;omega) (HA.out.below (HW2.out.mono hB) Zr) (HF.out.below (HW2.out.mono hB) Zr)).mono ?_);rintro e w3 ⟨rfl,hb3⟩
       have hx0:=(hb3.block w.heap.size (by simp;omega)).trans HX0.out;have hx1:=(hb3.block (w.heap.size+1) (by simp)).trans HX1.out;obtain⟨⟨p0,p1⟩,pz⟩:=zF hx0;obtain⟨⟨x0,x1⟩,xz⟩:=zF hx1;have hs3:w.heap.size+1<w3.heap.size:=zB hx1;have ht3:w.heap.size<w3.heap.size:=zB hx0;have hw3:Below w.heap.size w w3:=HW2.out.trans (hb3.mono (by simp;omega));have HP3:=hid hx0;have HX3:=hid hx1;have HA3:=hid (HA.out.below (hw3.mono hB) Zr);have HF3:=hid (HF.out.below (hw3.mono hB) Zr);have hB3:B≤w3.heap.size:=by omega
       have HW3:=hid hw3
       clear hb3 hx0 hx1 hw3)
    | (go_at_call 29;(with_reducible refine(rglobals_any B p _ _ _ _ hB3 HA3.out HF3.out HGL.out).mono ?_);rintro e w4 ⟨rfl,hb4⟩
       have hx0:=(hb4.block w.heap.size ht3).trans HP3.out;have hx1:=(hb4.block (w.heap.size+1) hs3).trans HX3.out;obtain⟨⟨p0,p1⟩,pz⟩:=zF hx0;obtain⟨⟨x0,x1⟩,xz⟩:=zF hx1;have hs4:w.heap.size+1<w4.heap.size:=zB hx1;have ht4:w.heap.size<w4.heap.size:=zB hx0;have hw4:Below w.heap.size w w4:=HW3.out.trans (hb4.mono (by omega));have HP4:=hid hx0;have HX4:=hid hx1;have HA4:=hid (HA.out.below (hw4.mono hB) Zr);have HF4:=hid (HF.out.below (hw4.mono hB) Zr);have hB4:B≤w4.heap.size:=by omega
       have HW4:=hid hw4
       clear hb4 hx0 hx1 hw4))
   obtain⟨f0,f1⟩:=qr HX4.out (.int .i64 0) (.int .i64 0);refine bodyPost_ret (v:=.tuple #[.int .i64 50,.agg #[.int .i64 0,.int .i64 0]]) (by simp[results,Tryz.results13,go_sem,f0,f1]) rfl ?_;have hrr:=HCP.out;rw[HR.out,if_neg (by decide)]at hrr;subst hrr;exact⟨rfl,zw HW4.out (by omega) _ _⟩
  case true=>
   go_enter Tryz.func13,Tryz.ntmps13
   go_wp2_with (first
    | (go_at_call 17;(with_reducible refine(vG B p _ HOK.out _ _ _ (by simp;omega) (HA.out.below (HW2.out.mono hB) Zr) (HF.out.below (HW2.out.mono hB) Zr)).mono ?_);rintro e w3 ⟨rfl,hb3⟩
       have hx0:=(hb3.block w.heap.size (by simp;omega)).trans HX0.out;have hx1:=(hb3.block (w.heap.size+1) (by simp)).trans HX1.out;obtain⟨⟨p0,p1⟩,pz⟩:=zF hx0;obtain⟨⟨x0,x1⟩,xz⟩:=zF hx1;have hs3:w.heap.size+1<w3.heap.size:=zB hx1;have ht3:w.heap.size<w3.heap.size:=zB hx0;have hw3:Below w.heap.size w w3:=HW2.out.trans (hb3.mono (by simp;omega));have HP3:=hid hx0;have HX3:=hid hx1;have HA3:=hid (HA.out.below (hw3.mono hB) Zr);have HF3:=hid (HF.out.below (hw3.mono hB) Zr);have hB3:B≤w3.heap.size:=by omega
       have HW3:=hid hw3
       clear hb3 hx0 hx1 hw3)
    | (go_at_call 29;(with_reducible refine(rglobals_any B p _ _ _ _ hB3 HA3.out HF3.out HGL.out).mono ?_);rintro e w4 ⟨rfl,hb4⟩
       have hx0:=(hb4.block w.heap.size ht3).trans HP3.out;have hx1:=(hb4.block (w.heap.size+1) hs3).trans HX3.out;obtain⟨⟨p0,p1⟩,pz⟩:=zF hx0;obtain⟨⟨x0,x1⟩,xz⟩:=zF hx1;have hs4:w.heap.size+1<w4.heap.size:=zB hx1;have ht4:w.heap.size<w4.heap.size:=zB hx0;have hw4:Below w.heap.size w w4:=HW3.out.trans (hb4.mono (by omega));have HP4:=hid hx0;have HX4:=hid hx1;have HA4:=hid (HA.out.below (hw4.mono hB) Zr);have HF4:=hid (HF.out.below (hw4.mono hB) Zr);have hB4:B≤w4.heap.size:=by omega
       have HW4:=hid hw4
       clear hb4 hx0 hx1 hw4))
   go_loopw [4] (fun iv wr=>∃ j:Nat,j≤p.funcs.length∧iv=.int .i64 j∧xH p (p.funcs.drop j) j=R∧Below w4.heap.size w4 wr) (fun iv _=>p.funcs.length-(intOf iv).toNat)
   case atStart=>exact⟨0,Nat.zero_le _,rfl,by have:=HCP.out;rw[HR.out]at this;exact this.symm,Below.refl _ _⟩
   case round=>
    obtain⟨wo,rfl⟩:∃ x,x=wr:=⟨_,rfl⟩
    obtain⟨j,hj,rfl,hT,hbw⟩:=hrel;have hT':=hid hT;have HBW:=hid hbw;have hsr:=hbw.size;have hwr:Below w.heap.size w wo:=HW4.out.trans (hbw.mono (by omega));have HWR:=hid hwr;have hxr:=(hbw.block (w.heap.size+1) hs4).trans HX4.out;have hx0:=(hbw.block w.heap.size (by omega)).trans HP4.out;obtain⟨⟨x0,x1⟩,xz⟩:=zF hxr;obtain⟨⟨p0,p1⟩,pz⟩:=zF hx0;have HXR:=hid hxr;have HX0R:=hid hx0;have hsw:w.heap.size+1<wo.heap.size:=by omega
    have hsw0:w.heap.size<wo.heap.size:=by omega
    clear hT hxr hx0;by_cases hlt:j<p.funcs.length
    · obtain⟨f,hfj⟩:∃ e,p.funcs[j]? =some e:=⟨_,List.getElem?_eq_getElem hlt⟩
      obtain⟨g,o,v2,v3,rfl,hg,z0,z1,z2,z3,hp,hbo⟩:=(HF.out.below (hwr.mono hB) Zr).cells hfj;obtain⟨A2,c2,rfl,hpl⟩:=hp.form;obtain⟨A3,c3,rfl,_⟩:=hbo.form;have hgs:g<wo.heap.size:=by omega
      have HPP:=hid hp;have HBO:=hid hbo;have HFM:=hid (List.mem_of_getElem? hfj);have HFOK:=hid (fu_params HOK.out HFM.out).1;have HFN:=hid (HCN.out f HFM.out);have hdd:=hT'.out;rw[kl hfj,chkFs_cons]at hdd;have HDD:=hid hdd;have hBr:B≤wo.heap.size:=by omega
      clear hp hbo hfj hdd hbw hwr;go_wp2_with (fail)
      go_loopw [6] (fun iv wq=>∃ k:Nat,k≤f.params.length∧iv=.int .i64 k∧(∀ (q:Nat) x,q<k→f.params[q]? =some x→zQ (f.params.take q) x.name=none)∧wq.heap[wo.heap.size]? =some (fuO f.name f.type (.slice A2 f.params.length c2) (.slice A3 f.body.length c3))∧Below wo.heap.size wo wq) (fun iv _=>f.params.length-(intOf iv).toNat)
      case atStart=>exact⟨0,Nat.zero_le _,rfl,fun q x hq=>absurd hq (by omega),heap_alloc_new _ _,Zb.alloc Zr _⟩
      case round=>
       obtain⟨wq,rfl⟩:∃ x,x=wr:=⟨_,rfl⟩
       obtain⟨k,hk,rfl,hall,hm,hbq⟩:=hrel;have hmq:wo.heap.size<wq.heap.size:=zB hm;obtain⟨⟨m0,m1,m2,m3⟩,mz⟩:=zI hm;have hwq:Below w.heap.size w wq:=HWR.out.trans (hbq.mono (by omega));have hxq:=(hbq.block (w.heap.size+1) hsw).trans HXR.out;have hx0:=(hbq.block w.heap.size hsw0).trans HX0R.out;obtain⟨⟨x0,x1⟩,xz⟩:=zF hxq;obtain⟨⟨p0,p1⟩,pz⟩:=zF hx0;have HXQ:=hid hxq;have HX0Q:=hid hx0;have HMQ:=hid hm;have HBQ:=hid hbq;have HWQ:=hid hwq;have HALL:=hid hall;have hpq:=HPP.out.below (hbq.mono (show B≤wo.heap.size by omega)) Zr;have hBq:B≤wq.heap.size:=by omega
       have hsq:w.heap.size+1<wq.heap.size:=by omega
       clear hall hm hbq hwq hxq hx0;by_cases hlk:k<f.params.length
       · obtain⟨y,hy⟩:∃ e,f.params[k]? =some e:=⟨_,List.getElem?_eq_getElem hlk⟩
         obtain⟨g2,o2,rfl,hg2,e0,_⟩:=hpq.cells hy;have HVD:=hid (fun n=>(hpq.takeS k hk).below (show Below B wq (wq.drewN n) from Zb.trans ⟨rfl,rfl,rfl,Nat.le_refl _,fun _ _=>rfl⟩) Zr);have HY:=hid hy;have hcap:k≤c2:=by have:=hpq.2 _ _ _ rfl;omega
         clear hpq hy;cases hvt:zQ (f.params.take k) y.name with
         | none=>
           have HT9:=hid (show (zQ (f.params.take k) y.name).getD 0=0 by rw[hvt];rfl);have HB9:=hid (show (zQ (f.params.take k) y.name).isSome=false by rw[hvt];rfl);have HVT:=hid hvt;clear hvt;go_wp2_with (fail)
           go_quiet ((go_at_call 30;exact(jP B (f.params.take k) y.name 0 _ HT9.out HB9.out _ _ (by exact hBq) (HVD.out _)).mono fun e w' h=>⟨h.1,_,h.2.symm⟩))
           go_wp2_with (fail);go_roundw
           case rel=>
            refine⟨k+1,by omega,by go_num,fun q x hq hx=>?_,HMQ.out,bdN HBQ.out _⟩;by_cases hqk:q=k
            · subst hqk
              rw[HY.out]at hx;injection hx with hx;subst hx;exact HVT.out
            · exact HALL.out q x (by omega) hx
           case measure=>simp[intOf];omega
         | some t9=>
           have HT9:=hid (show (zQ (f.params.take k) y.name).getD 0=t9 by rw[hvt];rfl);have HB9:=hid (show (zQ (f.params.take k) y.name).isSome=true by rw[hvt];rfl)
           have HDP:=hid (show vM f.params=true by
            cases hd:vM f.params with
            | true=>rfl
            | false=>have:=dupP_iff.1 hd k y HY.out;rw[hvt]at this;cases this)
           clear hvt;go_wp2_with (fail)
           go_quiet ((go_at_call 30;exact(jP B (f.params.take k) y.name t9 _ HT9.out HB9.out _ _ (by exact hBq) (HVD.out _)).mono fun e w' h=>⟨h.1,_,h.2.symm⟩))
           go_wp2_with (fail);obtain⟨f0,f1⟩:=qr (W:=wq.drewN nq) HXQ.out (.int .i64 j) (.int .i64 0);refine bodyPost_ret (v:=.tuple #[.int .i64 50,.agg #[.int .i64 j,.int .i64 0]]) (by simp[results,Tryz.results13,go_sem,f0,f1]) rfl ?_;have hrr:=HDD.out;rw[show kg p f=(50,0) from by unfold kg;rw[if_pos HDP.out],if_pos (by decide)]at hrr;subst hrr;exact⟨rfl,zw (bdN HWQ.out _) (by omega) _ _⟩
       · have hdf:vM f.params=false:=dupP_iff.2 fun q x hx=>HALL.out q x (by have:=(List.getElem?_eq_some_iff.1 hx).1;omega) hx
         obtain⟨⟨e1,n1⟩,hr1⟩:∃ r,zY p f.type f.body f.params f.params.length false 0=r:=⟨_,rfl⟩
         have HR1:=hid hr1;have HCF:=hid (show kg p f=if e1≠0 then (e1,n1) else if qi f.body then (0,0) else (52,n1) by unfold kg;rw[hdf,hr1];simp);have hbl8:Below wq.heap.size wq (wq.alloc (rckO (.slice A0 p.arrays.length c0) (.slice (some ⟨g,o,none⟩) p.funcs.length c1) f.name f.type (.slice A2 f.params.length c2) (.slice A3 f.body.length c3) 0)):=Zb.alloc Zr _;have hz8:(wq.alloc (rckO (.slice A0 p.arrays.length c0) (.slice (some ⟨g,o,none⟩) p.funcs.length c1) f.name f.type (.slice A2 f.params.length c2) (.slice A3 f.body.length c3) 0)).heap.size=wq.heap.size+1:=zA _ _;have HB8:=hid (show (wq.alloc (rckO (.slice A0 p.arrays.length c0) (.slice (some ⟨g,o,none⟩) p.funcs.length c1) f.name f.type (.slice A2 f.params.length c2) (.slice A3 f.body.length c3) 0)).heap[wq.heap.size]? =some (rckO (.slice A0 p.arrays.length c0) (.slice (some ⟨g,o,none⟩) p.funcs.length c1) f.name f.type (.slice A2 f.params.length c2) (.slice A3 f.body.length c3) (W64 0)) from heap_alloc_new _ _);have hbo8:Below B w (wq.alloc (rckO (.slice A0 p.arrays.length c0) (.slice (some ⟨g,o,none⟩) p.funcs.length c1) f.name f.type (.slice A2 f.params.length c2) (.slice A3 f.body.length c3) 0)):=(HWQ.out.mono hB).trans (hbl8.mono hBq);have HE8:=hid (show BEnv B wq.heap.size p f.params (.slice A0 p.arrays.length c0) (.slice (some ⟨g,o,none⟩) p.funcs.length c1) (.slice A2 f.params.length c2) (wq.alloc (rckO (.slice A0 p.arrays.length c0) (.slice (some ⟨g,o,none⟩) p.funcs.length c1) f.name f.type (.slice A2 f.params.length c2) (.slice A3 f.body.length c3) 0)) from⟨by omega,hBq,by omega,HA.out.below hbo8 Zr,HF.out.below hbo8 Zr,hpq.below ((hbl8.mono hBq).trans (hole_below _ hBq)) (by omega)⟩)
         have HS8:=hid (HBO.out.below (((HBQ.out.mono hBr).trans (hbl8.mono hBq))) Zr);have HL8:=hid hbl8;have HZ8:=hid hz8;obtain⟨en,hen⟩:∃ b,qi f.body=b:=⟨_,rfl⟩
         have HEN:=hid hen;clear hdf hr1 hbl8 hz8 hbo8 hpq hen;by_cases he1:e1=0
         · subst he1
           cases en
           case false=>
            go_wp2_with (first
             | (go_at_call 31;(with_reducible refine(BlC.call (vE 100) HFOK.out HFW.out HR1.out HE8.out HB8.out HS8.out HFN.out).mono ?_);rintro e w9 ⟨rfl,ho9,hb9⟩
                have hq9:Below wq.heap.size wq w9:=HL8.out.trans (jN ho9 (by have:=HZ8.out;omega) Zr);have hm9:=(hq9.block wo.heap.size hmq).trans HMQ.out;have hx9:=(hq9.block (w.heap.size+1) hsq).trans HXQ.out;have hs9:wq.heap.size<w9.heap.size:=zB hb9;obtain⟨⟨m0,m1,m2,m3⟩,mz⟩:=zI hm9;obtain⟨⟨x0,x1⟩,xz⟩:=zF hx9;obtain⟨⟨b0,b1,b2,b3,b4,b5,b6⟩,bz⟩:=zN hb9;have b6':w9.drew.cell? ⟨wq.heap.size,6,none⟩=some (.int .i64 (W64 n1)):=b6;have HX9:=hid (show w9.drew.heap[w.heap.size+1]? =some (ur 0 0) from hx9);have HB9:=hid hb9;have HQ9:=hid hq9;have HW9:=hid (show Below w.heap.size w w9 from HWQ.out.trans (hq9.mono (by omega)));have HS9:=hid (HBO.out.below ((HBQ.out.mono hBr).trans (hq9.mono hBq)) Zr)
                clear ho9 hb9 hq9 hm9 hx9)
             | (go_at_call 32;(with_reducible refine(EnC.call (rends_all 100) (B:=B) HFOK.out HEN.out (by omega) HS9.out).mono ?_);rintro e w10 ⟨rfl,hb10⟩
                have hq10:Below wq.heap.size wq w10:=HQ9.out.trans (hb10.mono (by omega));have hk10:=(hb10.block wq.heap.size hs9).trans HB9.out;have hx10:=(hq10.block (w.heap.size+1) hsq).trans HXQ.out;obtain⟨⟨x0,x1⟩,xz⟩:=zF hx10;obtain⟨⟨b0,b1,b2,b3,b4,b5,b6⟩,bz⟩:=zN hk10;have b6':w10.drew.cell? ⟨wq.heap.size,6,none⟩=some (.int .i64 (W64 n1)):=b6;have HX10:=hid (show w10.drew.heap[w.heap.size+1]? =some (ur 0 0) from hx10);have HQ10:=hid hq10;have HW10:=hid (show Below w.heap.size w w10 from HWQ.out.trans (hq10.mono (by omega)))
                clear hb10 hq10 hk10 hx10))
            go_region
            all_goals go_wp2_with (fail)
            all_goals
             have f0:=one_set (W:=w10) HX10.out (.int .i64 j);have f1:=(qr (W:=w10) HX10.out (.int .i64 j) (.int .i64 (W64 n1))).2;refine bodyPost_ret (v:=.tuple #[.int .i64 52,.agg #[.int .i64 j,.int .i64 (W64 n1)]]) (by simp[results,Tryz.results13,go_sem,f0,f1]) rfl ?_;have hcf:kg p f=(52,n1):=by rw[HCF.out,HEN.out];simp
             have hrr:=HDD.out;rw[hcf,if_pos (by simp)]at hrr;subst hrr;exact⟨rfl,(zw HW10.out (by omega) _ _).drew⟩
           case true=>
            go_wp2_with (first
             | (go_at_call 31;(with_reducible refine(BlC.call (vE 100) HFOK.out HFW.out HR1.out HE8.out HB8.out HS8.out HFN.out).mono ?_);rintro e w9 ⟨rfl,ho9,hb9⟩
                have hq9:Below wq.heap.size wq w9:=HL8.out.trans (jN ho9 (by have:=HZ8.out;omega) Zr);have hm9:=(hq9.block wo.heap.size hmq).trans HMQ.out;have hx9:=(hq9.block (w.heap.size+1) hsq).trans HXQ.out;have hs9:wq.heap.size<w9.heap.size:=zB hb9;obtain⟨⟨m0,m1,m2,m3⟩,mz⟩:=zI hm9;obtain⟨⟨x0,x1⟩,xz⟩:=zF hx9;obtain⟨⟨b0,b1,b2,b3,b4,b5,b6⟩,bz⟩:=zN hb9;have b6':w9.drew.cell? ⟨wq.heap.size,6,none⟩=some (.int .i64 (W64 n1)):=b6;have HX9:=hid (show w9.drew.heap[w.heap.size+1]? =some (ur 0 0) from hx9);have HB9:=hid hb9;have HQ9:=hid hq9;have HW9:=hid (show Below w.heap.size w w9 from HWQ.out.trans (hq9.mono (by omega)));have HS9:=hid (HBO.out.below ((HBQ.out.mono hBr).trans (hq9.mono hBq)) Zr)
                clear ho9 hb9 hq9 hm9 hx9)
             | (go_at_call 32;(with_reducible refine(EnC.call (rends_all 100) (B:=B) HFOK.out HEN.out (by omega) HS9.out).mono ?_);rintro e w10 ⟨rfl,hb10⟩
                have hq10:Below wq.heap.size wq w10:=HQ9.out.trans (hb10.mono (by omega));have hk10:=(hb10.block wq.heap.size hs9).trans HB9.out;have hx10:=(hq10.block (w.heap.size+1) hsq).trans HXQ.out;obtain⟨⟨x0,x1⟩,xz⟩:=zF hx10;obtain⟨⟨b0,b1,b2,b3,b4,b5,b6⟩,bz⟩:=zN hk10;have b6':w10.drew.cell? ⟨wq.heap.size,6,none⟩=some (.int .i64 (W64 n1)):=b6;have HX10:=hid (show w10.drew.heap[w.heap.size+1]? =some (ur 0 0) from hx10);have HQ10:=hid hq10;have HW10:=hid (show Below w.heap.size w w10 from HWQ.out.trans (hq10.mono (by omega)))
                clear hb10 hq10 hk10 hx10))
            go_roundw
            case rel=>
             refine⟨j+1,by omega,by go_num,?_,HBW.out.trans ((HBQ.out.trans (HQ10.out.mono (by omega))).mono (by omega))⟩;have hcf:kg p f=(0,0):=by rw[HCF.out,HEN.out];simp
             have hrr:=HDD.out;rw[hcf,if_neg (by simp)]at hrr;exact hrr
            case measure=>simp[intOf];omega
         · have hne:(e1 != 0)=true:=by simp[he1]
           go_wp2_with (go_at_call 31;(with_reducible refine(BlC.call (vE 100) HFOK.out HFW.out HR1.out HE8.out HB8.out HS8.out HFN.out).mono ?_);rintro e w9 ⟨rfl,ho9,hb9⟩
                        have hq9:Below wq.heap.size wq w9:=HL8.out.trans (jN ho9 (by have:=HZ8.out;omega) Zr);have hm9:=(hq9.block wo.heap.size hmq).trans HMQ.out;have hx9:=(hq9.block (w.heap.size+1) hsq).trans HXQ.out;have hs9:wq.heap.size<w9.heap.size:=zB hb9;obtain⟨⟨m0,m1,m2,m3⟩,mz⟩:=zI hm9;obtain⟨⟨x0,x1⟩,xz⟩:=zF hx9;obtain⟨⟨b0,b1,b2,b3,b4,b5,b6⟩,bz⟩:=zN hb9;have b6':w9.drew.cell? ⟨wq.heap.size,6,none⟩=some (.int .i64 (W64 n1)):=b6;have HX9:=hid (show w9.drew.heap[w.heap.size+1]? =some (ur 0 0) from hx9);have HB9:=hid hb9;have HQ9:=hid hq9;have HW9:=hid (show Below w.heap.size w w9 from HWQ.out.trans (hq9.mono (by omega)));have HS9:=hid (HBO.out.below ((HBQ.out.mono hBr).trans (hq9.mono hBq)) Zr)
                        clear ho9 hb9 hq9 hm9 hx9)
           go_region
           all_goals go_wp2_with (fail)
           all_goals
            have f0:=one_set (W:=w9) HX9.out (.int .i64 j);have f1:=(qr (W:=w9) HX9.out (.int .i64 j) (.int .i64 (W64 n1))).2;refine bodyPost_ret (v:=.tuple #[.int .i64 e1,.agg #[.int .i64 j,.int .i64 (W64 n1)]]) (by simp[results,Tryz.results13,go_sem,f0,f1]) rfl ?_;have hcf:kg p f=(e1,n1):=by rw[HCF.out,if_pos he1]
            have hrr:=HDD.out;rw[hcf,if_pos he1]at hrr;subst hrr;exact⟨rfl,(zw HW9.out (by omega) _ _).drew⟩
    · have hjj:j=p.funcs.length:=by omega
      subst hjj;have hrr:=hT'.out;rw[List.drop_length]at hrr;go_wp2_with (fail);obtain⟨f0,f1⟩:=qr HXR.out (.int .i64 0) (.int .i64 0);refine bodyPost_ret (v:=.tuple #[.int .i64 0,.agg #[.int .i64 0,.int .i64 0]]) (by simp[results,Tryz.results13,go_sem,f0,f1]) rfl ?_;unfold xH at hrr;subst hrr;exact⟨rfl,zw HWR.out (by omega) _ _⟩
structure RIn (W0:World) (bx bg:Nat) (f:Fu) (k jn j:Nat) (nv pv:Value) (W:World):Prop where
 off:Off2 bx bg W0.heap.size W0 W
 st:W.heap[bx]? =some (staO (k:Nat))
 gb:W.heap[bg]? =some (.cells #[.string f.name,.int .i64 f.type,pv,.slice none 0 0] 45)
 nr:W.ownsRow W0.heap.size 71 2 nv jn ((parN (f.params.take jn) 0).flatMap kQ.cs)
 pr:W.ownsRow W0.heap.size 47 2 pv j ((renPs (f.params.take j) 0).flatMap kP.cs)
 ne:∀ q,nv.ownBlock=some q→pv.ownBlock≠some q
 hx:bx<W0.heap.size
 hg:bg<W0.heap.size
 xg:bx≠bg
section
variable {W0:World} {bx bg:Nat} {f:Fu} {k jn j:Nat} {nv pv:Value} {W W':World}
end
structure ROut (w:World) (p:Pr) (bx:Obj) (bo M:Nat) (va fv:Value) (fs:List FuV) (W:World):Prop where
 mid:PMid w bx W
 ob:W.heap[bo]? =some (.cells #[va,fv] 26)
 arr:OutK kA (bo+1) W va p.arrays
 ab:∀ j,va.ownBlock=some j→j<M
 fun_:OutK kF M W fv fs
 hb:w.heap.size+2≤bo
 bM:bo<M
 sz:M≤W.heap.size
section
variable {w:World} {p:Pr} {bx:Obj} {bo M:Nat} {va fv:Value} {fs:List FuV} {W W':World}
end
@[go_sem] theorem buildPa2 (s:ByteArray) (t:Int) (w:World):(Instr.build 47 #[(0,.string s),(1,.int .i64 t)]).run Tryz.prog w=.ok (.agg #[.string s,.int .i64 t]) w:=run_build w 47 _ _ (by kernel_rfl)
@[go_sem] theorem buildFu2 (s:ByteArray) (t:Int) (w:World):(Instr.build 45 #[(0,.string s),(1,.int .i64 t)]).run Tryz.prog w=.ok (.agg #[.string s,.int .i64 t,.slice none 0 0,.slice none 0 0]) w:=run_build w 45 _ _ (by kernel_rfl)
theorem spanN_take (l:List UInt8):l.takeWhile zx=l.take (kD l):=List.prefix_iff_eq_take.1 (List.takeWhile_prefix _)
theorem one_span {l:List UInt8} (h:0<kD l):one l=(xG (l.take (kD l))).map fun k=>(k,l.take (kD l)):=by
 unfold one
 rw[if_pos (by intro e;have:kD l=0:=by unfold kD;rw[e];rfl
               omega),spanN_take]
theorem one_sign {l:List UInt8} (h:kD l=0):one l=if ko l≠[] then some (2,ko l) else none:=by
 unfold one;rw[if_neg (by rw[spanN_take,h];simp)]
theorem signL_prefix (l:List UInt8):l.take (ko l).length=ko l:=by
 have h:(ko l).isPrefixOf l=true:=by
  unfold ko;cases hf:vR.find? (fun t=>Lib.hasPrefix l t) with
  | none=>simp
  | some t=>exact List.find?_some (p:=fun t=>Lib.hasPrefix l t) hf
 exact(List.prefix_iff_eq_take.1 (List.isPrefixOf_iff_prefix.1 h)).symm
theorem signL_le (l:List UInt8):(ko l).length≤l.length:=by
 have:=congrArg List.length (signL_prefix l);rw[List.length_take]at this;omega
theorem yN.below {w w':World} {B:Nat} {v:Value} {ts:List Tok} (h:yN w B v ts) (hb:Below w.heap.size w w'):yN w' B v ts:=jt h hb Zr
theorem one_take {l:List UInt8} {k:Int} {t:List UInt8} (h:one l=some (k,t)):l.take t.length=t∧0<t.length∧t.length≤l.length:=by
 by_cases h0:0<kD l
 · rw[one_span h0]at h
   obtain⟨k',_,e⟩:=Option.map_eq_some_iff.1 h;injection e with e1 e2;subst e2;have:=spanN_le l;rw[List.length_take];exact⟨by rw[Nat.min_eq_left this],by omega,by omega⟩
 · rw[one_sign (by omega)]at h
   split at h
   · rename_i hne
     injection h with h;injection h with e1 e2;subst e2;exact⟨signL_prefix l,List.length_pos_iff.2 hne,signL_le l⟩
   · cases h
def kV (w:World) (l:List UInt8) (e:Ending) (w':World):Prop:=
 Below w.heap.size w w'∧match (zo l 1).2 with
  | none=>∃ v,e=.returned (.tuple #[v,.int .i64 0,.int .i64 0])∧yN w' w.heap.size v (zo l 1).1
  | some ln=>e=.returned (.tuple #[.slice none 0 0,.int .i64 20,.int .i64 (ln:Int)])
theorem yN.nil (w:World) (B:Nat):yN w B (.slice none 0 0) []:=⟨rfl,.inl ⟨rfl,rfl⟩⟩
theorem scan_one {l:List UInt8} {line:Nat} {k:Int} {t:List UInt8} (hg:gapN l=0) (h:one l=some (k,t)):
 zo l line=(⟨k,t,line⟩ :: (zo (l.drop t.length) line).1,(zo (l.drop t.length) line).2):=by
 obtain⟨_,h1,h2⟩:=one_take h;cases l with
 | nil=>rw[List.length_nil]at h2;omega
 | cons c r=>
   rw[scan_step hg,h]
   have e:(c :: r).drop t.length=r.drop (t.length-1):=by
    obtain⟨m,hm⟩:∃ m,t.length=m+1:=⟨t.length-1,by omega⟩
    rw[hm,List.drop_succ_cons];rfl
   rw[e]
theorem scan_bad {l:List UInt8} {line:Nat} (hg:gapN l=0) (hn:l≠[]) (h:one l=none):zo l line=([],some line):=by
 cases l with
 | nil=>exact absurd rfl hn
 | cons c r=>rw[scan_step hg,h]
theorem scan_end (line:Nat):zo [] line=([⟨3,[],line⟩],none):=by rw[zo]
end Go.Proofs.YtfghofifjnbicaaGreatDoor
