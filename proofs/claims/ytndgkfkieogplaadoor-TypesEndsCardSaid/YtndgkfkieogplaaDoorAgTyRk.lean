import Derived.Test.YtndgkfkieogplaaDoorAgTyRl
import Derived.Test.YtndgkfkieogplaaDoorAgTyBl
import Derived.Test.YtndgkfkieogplaaDoorAgTreeRightF
import Derived.Test.YtndgkfkieogplaaDoorAgTyEnd
import Derived.Test.YtndgkfkieogplaaDoorAgTreeRefS
import Derived.Test.YtndgkfkieogplaaDoorAgParDo
import Derived.Test.YtndgkfkieogplaaDoorRows
import Derived.ProofKit
import Derived.OpenShut
import Derived.LaidMore
import Derived.Lay
import Derived.LaidSub
import Derived.Lib.LaidTab
import Derived.Lib.SmallJoins
import Derived.SevenTiedAt
import Derived.Stop.Joined
import Derived.ShutString
import Derived.ChangeOld
set_option linter.unusedSimpArgs false
set_option linter.unusedVariables false
set_option maxRecDepth 100000
/- The contract of the document's Check: E4. -/
namespace Go.Proofs.YtndgkfkieogplaaDoor
open Lib (hid)
open Go.RowKit
def frP (l:List Pa):Prop:=∀ (q:Nat) x,l[q]? =some x→zi (l.take q) x.name=none
theorem varT_cons_none {y:Pa} {l:List Pa} {s:ByteArray}:zi (y :: l) s=none↔¬ y.name=s∧zi l s=none:=by
 rw[zi]
 cases hv:zi l s with
 | some t=>simp
 | none=>by_cases h:y.name=s <;> simp[h]
theorem dupP_iff:∀ {l:List Pa},dupP l=false↔frP l
 | []=>⟨fun _ q x h=>by simp at h,fun _=>rfl⟩
 | y :: r=>by
   rw[dupP,Bool.or_eq_false_iff,dupP_iff (l:=r)]
   constructor
   · rintro⟨h1,h2⟩ q x hq
     cases q with
     | zero=>simp[zi]
     | succ q=>
       have hq':r[q]? =some x:=by simpa using hq
       rw[List.take_succ_cons,varT_cons_none]
       refine⟨fun e=>?_,h2 q x hq'⟩
       rw[yA,List.any_eq_false]at h1
       exact h1 x (List.mem_of_getElem? hq') (by simp[e])
   · intro h
     have h3:∀ (q:Nat) x,r[q]? =some x→¬ y.name=x.name∧zi (r.take q) x.name=none:=fun q x hq=>by
      have:=h (q+1) x (by simpa using hq)
      rwa [List.take_succ_cons,varT_cons_none]at this
     refine⟨?_,fun q x hq=>(h3 q x hq).2⟩
     rw[yA,List.any_eq_false]
     intro x hx
     obtain⟨q,hq⟩:=List.getElem?_of_mem hx
     simpa using fun e=>(h3 q x hq).1 e.symm
theorem hole_below {B b:Nat} (w:World) (h:B≤b):Below B w (hole b w):=⟨rfl,rfl,rfl,by rw[vu];exact Nat.le_refl _,fun k hk=>uO w (by omega)⟩
theorem SlP.takeS {B:Nat} {w:World} {A:Option Addr} {c:Nat} {l:List Pa} (h:SlP B w (.slice A l.length c) l) (k:Nat) (hk:k≤l.length):SlP B w (.slice A k c) (l.take k):=by
 have hc:=h.2 A l.length c rfl
 refine⟨⟨_,c,by rw[List.length_take,Nat.min_eq_left hk],?_,fun hp=>?_⟩,fun A' n' c' hv=>by injection hv with _ h1 h2;omega⟩
 · obtain⟨_,_,_,hn⟩:=h.form
   rw[List.length_take]
   omega
 · rw[List.length_take]at hp
   obtain⟨g,o,rfl,hr⟩:=yv.elem h.1 rfl (by omega)
   exact⟨g,o,rfl,rdL_take k l g o hr⟩
theorem one_set {W:World} {g:Nat} {d0 d1:Value} {T:TypeId} (hb:W.heap[g]? =some (.cells #[d0,d1] T (0,0))) (c0:Value):(W.setCell ⟨g,0,none⟩ c0).cell? ⟨g,0,none⟩=some c0:=by
 have h:(W.setCell ⟨g,0,none⟩ c0).heap[g]? =some (.cells #[c0,d1] T (0,0)):=Lib.heap_setCell_same hb c0
 exact(zE h).1.1
set_option maxHeartbeats 8000000 in
theorem rcheck_any (B:Nat) (p:Pr) (R:Int × Nat × Nat) (v0 v1:Value) (w:World) (hB:B≤w.heap.size) (ha:SlA B w v0 p.arrays) (hf:SlF B w v1 p.funcs) (hcn:∀ f ∈ p.funcs,f.params.length+cntSs f.body≤1000000000) (hR:kC p=R):
 Calls Tryd.prog 12 #[.agg #[v0,v1]] w (ChkPost w R):=by
 obtain⟨A0,c0,rfl,_⟩:=ha.form
 obtain⟨A1,c1,rfl,_⟩:=hf.form
 have hw2:Below w.heap.size w ((w.alloc (ze A0 p.arrays.length c0 A1 p.funcs.length c1)).alloc (qQ 0 0)):=((Below.refl _ _).alloc (Nat.le_refl _) _).alloc (by simp) _
 have HW2:=hid hw2
 have HX0:=hid (show ((w.alloc (ze A0 p.arrays.length c0 A1 p.funcs.length c1)).alloc (qQ 0 0)).heap[w.heap.size]? =some (ze A0 p.arrays.length c0 A1 p.funcs.length c1) from(Below.heap_alloc _ _ _ (by simp)).trans (heap_alloc_new w _))
 have HX1:=hid (show ((w.alloc (ze A0 p.arrays.length c0 A1 p.funcs.length c1)).alloc (qQ 0 0)).heap[w.heap.size+1]? =some (qQ 0 0) from by simpa using heap_alloc_new (w.alloc (ze A0 p.arrays.length c0 A1 p.funcs.length c1)) (qQ 0 0))
 have HA:=hid ha
 have HF:=hid hf
 have HR:=hid hR
 have HCN:=hid hcn
 obtain⟨ok,hok⟩:∃ b,prOK p=b:=⟨_,rfl⟩
 have HOK:=hid hok
 clear ha hf hR hw2 hok hcn
 cases ok
 case false=>
  go_enter Tryd.func12,Tryd.ntmps12
  go_wp2_with (go_at_call 18;(with_reducible refine(uW B p _ HOK.out _ _ _ (by simp;omega) (HA.out.below (HW2.out.mono hB) (Nat.le_refl _)) (HF.out.below (HW2.out.mono hB) (Nat.le_refl _))).mono ?_);rintro e w3 ⟨rfl,hb3⟩
               have hx0:=(hb3.block w.heap.size (by simp;omega)).trans HX0.out
               have hx1:=(hb3.block (w.heap.size+1) (by simp)).trans HX1.out
               obtain⟨⟨p0,p1⟩,pz⟩:=zE hx0
               obtain⟨⟨x0,x1⟩,xz⟩:=zE hx1
               have hs3:w.heap.size+1<w3.heap.size:=zB hx1
               have ht3:w.heap.size<w3.heap.size:=zB hx0
               have hw3:Below w.heap.size w w3:=HW2.out.trans (hb3.mono (by simp;omega))
               have HP3:=hid hx0
               have HX3:=hid hx1
               have HA3:=hid (HA.out.below (hw3.mono hB) (Nat.le_refl _))
               have HF3:=hid (HF.out.below (hw3.mono hB) (Nat.le_refl _))
               have hB3:B≤w3.heap.size:=by omega
               have HW3:=hid hw3
               clear hb3 hx0 hx1 hw3)
  obtain⟨f0,f1⟩:=je HX3.out (.int .i64 0) (.int .i64 0)
  refine bodyPost_ret (v:=.tuple #[.int .i64 1,.agg #[.int .i64 0,.int .i64 0]]) (by simp[results,Tryd.results12,go_sem,f0,f1]) rfl ?_
  have hrr:=HR.out
  unfold kC at hrr
  rw[if_pos HOK.out]at hrr
  subst hrr
  exact⟨rfl,qT HW3.out (by omega) _ _⟩
 case true=>
  have HFW:=hid (few_of HOK.out)
  obtain⟨gl,hgl⟩:∃ b,(!(ug p p.arrays || zAd p.funcs) && yI p)=b:=⟨_,rfl⟩
  have HGL:=hid hgl
  have HCP:=hid (show kC p=if gl=true then xY p p.funcs 0 else (50,0,0) by
   unfold kC
   rw[if_neg (by rw[HOK.out];decide),←hgl]
   cases ug p p.arrays || zAd p.funcs <;> cases yI p <;> rfl)
  clear hgl
  cases gl
  case false=>
   go_enter Tryd.func12,Tryd.ntmps12
   go_wp2_with (first
    | (go_at_call 18;(with_reducible refine(uW B p _ HOK.out _ _ _ (by simp;omega) (HA.out.below (HW2.out.mono hB) (Nat.le_refl _)) (HF.out.below (HW2.out.mono hB) (Nat.le_refl _))).mono ?_);rintro e w3 ⟨rfl,hb3⟩
       have hx0:=(hb3.block w.heap.size (by simp;omega)).trans HX0.out
       have hx1:=(hb3.block (w.heap.size+1) (by simp)).trans HX1.out
       obtain⟨⟨p0,p1⟩,pz⟩:=zE hx0
       obtain⟨⟨x0,x1⟩,xz⟩:=zE hx1
       have hs3:w.heap.size+1<w3.heap.size:=zB hx1
       have ht3:w.heap.size<w3.heap.size:=zB hx0
       have hw3:Below w.heap.size w w3:=HW2.out.trans (hb3.mono (by simp;omega))
       have HP3:=hid hx0
       have HX3:=hid hx1
       have HA3:=hid (HA.out.below (hw3.mono hB) (Nat.le_refl _))
       have HF3:=hid (HF.out.below (hw3.mono hB) (Nat.le_refl _))
       have hB3:B≤w3.heap.size:=by omega
       have HW3:=hid hw3
       clear hb3 hx0 hx1 hw3)
    | (go_at_call 27;(with_reducible refine(rglobals_any B p _ _ _ _ hB3 HA3.out HF3.out HGL.out).mono ?_);rintro e w4 ⟨rfl,hb4⟩
       have hx0:=(hb4.block w.heap.size ht3).trans HP3.out
       have hx1:=(hb4.block (w.heap.size+1) hs3).trans HX3.out
       obtain⟨⟨p0,p1⟩,pz⟩:=zE hx0
       obtain⟨⟨x0,x1⟩,xz⟩:=zE hx1
       have hs4:w.heap.size+1<w4.heap.size:=zB hx1
       have ht4:w.heap.size<w4.heap.size:=zB hx0
       have hw4:Below w.heap.size w w4:=HW3.out.trans (hb4.mono (by omega))
       have HP4:=hid hx0
       have HX4:=hid hx1
       have HA4:=hid (HA.out.below (hw4.mono hB) (Nat.le_refl _))
       have HF4:=hid (HF.out.below (hw4.mono hB) (Nat.le_refl _))
       have hB4:B≤w4.heap.size:=by omega
       have HW4:=hid hw4
       clear hb4 hx0 hx1 hw4))
   obtain⟨f0,f1⟩:=je HX4.out (.int .i64 0) (.int .i64 0)
   refine bodyPost_ret (v:=.tuple #[.int .i64 50,.agg #[.int .i64 0,.int .i64 0]]) (by simp[results,Tryd.results12,go_sem,f0,f1]) rfl ?_
   have hrr:=HCP.out
   rw[HR.out,if_neg (by decide)]at hrr
   subst hrr
   exact⟨rfl,qT HW4.out (by omega) _ _⟩
  case true=>
   go_enter Tryd.func12,Tryd.ntmps12
   go_wp2_with (first
    | (go_at_call 18;(with_reducible refine(uW B p _ HOK.out _ _ _ (by simp;omega) (HA.out.below (HW2.out.mono hB) (Nat.le_refl _)) (HF.out.below (HW2.out.mono hB) (Nat.le_refl _))).mono ?_);rintro e w3 ⟨rfl,hb3⟩
       have hx0:=(hb3.block w.heap.size (by simp;omega)).trans HX0.out
       have hx1:=(hb3.block (w.heap.size+1) (by simp)).trans HX1.out
       obtain⟨⟨p0,p1⟩,pz⟩:=zE hx0
       obtain⟨⟨x0,x1⟩,xz⟩:=zE hx1
       have hs3:w.heap.size+1<w3.heap.size:=zB hx1
       have ht3:w.heap.size<w3.heap.size:=zB hx0
       have hw3:Below w.heap.size w w3:=HW2.out.trans (hb3.mono (by simp;omega))
       have HP3:=hid hx0
       have HX3:=hid hx1
       have HA3:=hid (HA.out.below (hw3.mono hB) (Nat.le_refl _))
       have HF3:=hid (HF.out.below (hw3.mono hB) (Nat.le_refl _))
       have hB3:B≤w3.heap.size:=by omega
       have HW3:=hid hw3
       clear hb3 hx0 hx1 hw3)
    | (go_at_call 27;(with_reducible refine(rglobals_any B p _ _ _ _ hB3 HA3.out HF3.out HGL.out).mono ?_);rintro e w4 ⟨rfl,hb4⟩
       have hx0:=(hb4.block w.heap.size ht3).trans HP3.out
       have hx1:=(hb4.block (w.heap.size+1) hs3).trans HX3.out
       obtain⟨⟨p0,p1⟩,pz⟩:=zE hx0
       obtain⟨⟨x0,x1⟩,xz⟩:=zE hx1
       have hs4:w.heap.size+1<w4.heap.size:=zB hx1
       have ht4:w.heap.size<w4.heap.size:=zB hx0
       have hw4:Below w.heap.size w w4:=HW3.out.trans (hb4.mono (by omega))
       have HP4:=hid hx0
       have HX4:=hid hx1
       have HA4:=hid (HA.out.below (hw4.mono hB) (Nat.le_refl _))
       have HF4:=hid (HF.out.below (hw4.mono hB) (Nat.le_refl _))
       have hB4:B≤w4.heap.size:=by omega
       have HW4:=hid hw4
       clear hb4 hx0 hx1 hw4))
   go_loopw [4] (fun iv wr=>∃ j:Nat,j≤p.funcs.length∧iv=.int .i64 j∧xY p (p.funcs.drop j) j=R∧Below w4.heap.size w4 wr) (fun iv _=>p.funcs.length-(intOf iv).toNat)
   case atStart=>exact⟨0,Nat.zero_le _,rfl,by have:=HCP.out;rw[HR.out]at this;exact this.symm,Below.refl _ _⟩
   case round=>
    obtain⟨wo,rfl⟩:∃ x,x=wr:=⟨_,rfl⟩
    obtain⟨j,hj,rfl,hT,hbw⟩:=hrel
    have hT':=hid hT
    have HBW:=hid hbw
    have hsr:=hbw.size
    have hwr:Below w.heap.size w wo:=HW4.out.trans (hbw.mono (by omega))
    have HWR:=hid hwr
    have hxr:=(hbw.block (w.heap.size+1) hs4).trans HX4.out
    have hx0:=(hbw.block w.heap.size (by omega)).trans HP4.out
    obtain⟨⟨x0,x1⟩,xz⟩:=zE hxr
    obtain⟨⟨p0,p1⟩,pz⟩:=zE hx0
    have HXR:=hid hxr
    have HX0R:=hid hx0
    have hsw:w.heap.size+1<wo.heap.size:=by omega
    have hsw0:w.heap.size<wo.heap.size:=by omega
    clear hT hxr hx0
    by_cases hlt:j<p.funcs.length
    · obtain⟨f,hfj⟩:∃ e,p.funcs[j]? =some e:=⟨_,List.getElem?_eq_getElem hlt⟩
      obtain⟨g,o,v2,v3,rfl,hg,z0,z1,z2,z3,hp,hbo⟩:=(HF.out.below (hwr.mono hB) (Nat.le_refl _)).cells hfj
      obtain⟨A2,c2,rfl,hpl⟩:=hp.form
      obtain⟨A3,c3,rfl,_⟩:=hbo.form
      have hgs:g<wo.heap.size:=by omega
      have HPP:=hid hp
      have HBO:=hid hbo
      have HFM:=hid (List.mem_of_getElem? hfj)
      have HFOK:=hid (kl HOK.out HFM.out).1
      have HFN:=hid (HCN.out f HFM.out)
      have hdd:=hT'.out
      rw[drop_at hfj,chkFs_cons]at hdd
      have HDD:=hid hdd
      have hBr:B≤wo.heap.size:=by omega
      clear hp hbo hfj hdd hbw hwr
      go_wp2_with (fail)
      go_loopw [6] (fun iv wq=>∃ k:Nat,k≤f.params.length∧iv=.int .i64 k∧(∀ (q:Nat) x,q<k→f.params[q]? =some x→zi (f.params.take q) x.name=none)∧wq.heap[wo.heap.size]? =some (fuO f.name f.type (.slice A2 f.params.length c2) (.slice A3 f.body.length c3))∧Below wo.heap.size wo wq) (fun iv _=>f.params.length-(intOf iv).toNat)
      case atStart=>exact⟨0,Nat.zero_le _,rfl,fun q x hq=>absurd hq (by omega),heap_alloc_new _ _,(Below.refl _ _).alloc (Nat.le_refl _) _⟩
      case round=>
       obtain⟨wq,rfl⟩:∃ x,x=wr:=⟨_,rfl⟩
       obtain⟨k,hk,rfl,hall,hm,hbq⟩:=hrel
       have hmq:wo.heap.size<wq.heap.size:=zB hm
       obtain⟨⟨m0,m1,m2,m3⟩,mz⟩:=zR hm
       have hwq:Below w.heap.size w wq:=HWR.out.trans (hbq.mono (by omega))
       have hxq:=(hbq.block (w.heap.size+1) hsw).trans HXR.out
       have hx0:=(hbq.block w.heap.size hsw0).trans HX0R.out
       obtain⟨⟨x0,x1⟩,xz⟩:=zE hxq
       obtain⟨⟨p0,p1⟩,pz⟩:=zE hx0
       have HXQ:=hid hxq
       have HX0Q:=hid hx0
       have HMQ:=hid hm
       have HBQ:=hid hbq
       have HWQ:=hid hwq
       have HALL:=hid hall
       have hpq:=HPP.out.below (hbq.mono (show B≤wo.heap.size by omega)) (Nat.le_refl _)
       have hBq:B≤wq.heap.size:=by omega
       have hsq:w.heap.size+1<wq.heap.size:=by omega
       clear hall hm hbq hwq hxq hx0
       by_cases hlk:k<f.params.length
       · obtain⟨y,hy⟩:∃ e,f.params[k]? =some e:=⟨_,List.getElem?_eq_getElem hlk⟩
         obtain⟨g2,o2,rfl,hg2,e0,_⟩:=hpq.cells hy
         have HVD:=hid (fun n=>(hpq.takeS k hk).below (show Below B wq (wq.drewN n) from(Below.refl _ _).trans ⟨rfl,rfl,rfl,Nat.le_refl _,fun _ _=>rfl⟩) (Nat.le_refl _))
         have HY:=hid hy
         have hcap:k≤c2:=by have:=hpq.2 _ _ _ rfl;omega
         clear hpq hy
         cases hvt:zi (f.params.take k) y.name with
         | none=>
           have HT9:=hid (show (zi (f.params.take k) y.name).getD 0=0 by rw[hvt];rfl)
           have HB9:=hid (show (zi (f.params.take k) y.name).isSome=false by rw[hvt];rfl)
           have HVT:=hid hvt
           clear hvt
           go_wp2_with (fail)
           go_quiet ((go_at_call 28;exact(qd B (f.params.take k) y.name 0 _ HT9.out HB9.out _ _ (by exact hBq) (HVD.out _)).mono fun e w' h=>⟨h.1,_,h.2.symm⟩))
           go_wp2_with (fail)
           go_roundw
           case rel=>
            refine⟨k+1,by omega,by go_num,fun q x hq hx=>?_,HMQ.out,bdN HBQ.out _⟩
            by_cases hqk:q=k
            · subst hqk
              rw[HY.out]at hx
              injection hx with hx
              subst hx
              exact HVT.out
            · exact HALL.out q x (by omega) hx
           case measure=>simp[intOf];omega
         | some t9=>
           have HT9:=hid (show (zi (f.params.take k) y.name).getD 0=t9 by rw[hvt];rfl)
           have HB9:=hid (show (zi (f.params.take k) y.name).isSome=true by rw[hvt];rfl)
           have HDP:=hid (show dupP f.params=true by
            cases hd:dupP f.params with
            | true=>rfl
            | false=>have:=dupP_iff.1 hd k y HY.out;rw[hvt]at this;cases this)
           clear hvt
           go_wp2_with (fail)
           go_quiet ((go_at_call 28;exact(qd B (f.params.take k) y.name t9 _ HT9.out HB9.out _ _ (by exact hBq) (HVD.out _)).mono fun e w' h=>⟨h.1,_,h.2.symm⟩))
           go_wp2_with (fail)
           obtain⟨f0,f1⟩:=je (W:=wq.drewN nq) HXQ.out (.int .i64 j) (.int .i64 0)
           refine bodyPost_ret (v:=.tuple #[.int .i64 50,.agg #[.int .i64 j,.int .i64 0]]) (by simp[results,Tryd.results12,go_sem,f0,f1]) rfl ?_
           have hrr:=HDD.out
           rw[show kg p f=(50,0) from by unfold kg;rw[if_pos HDP.out],if_pos (by decide)]at hrr
           subst hrr
           exact⟨rfl,qT (bdN HWQ.out _) (by omega) _ _⟩
       · have hdf:dupP f.params=false:=dupP_iff.2 fun q x hx=>HALL.out q x (by have:=(List.getElem?_eq_some_iff.1 hx).1;omega) hx
         obtain⟨⟨e1,n1⟩,hr1⟩:∃ r,zU p f.type f.body f.params f.params.length false 0=r:=⟨_,rfl⟩
         have HR1:=hid hr1
         have HCF:=hid (show kg p f=if e1≠0 then (e1,n1) else if qr f.body then (0,0) else (52,n1) by unfold kg;rw[hdf,hr1];simp)
         have hbl8:Below wq.heap.size wq (wq.alloc (rckO (.slice A0 p.arrays.length c0) (.slice (some ⟨g,o,none⟩) p.funcs.length c1) f.name f.type (.slice A2 f.params.length c2) (.slice A3 f.body.length c3) 0)):=(Below.refl _ _).alloc (Nat.le_refl _) _
         have hz8:(wq.alloc (rckO (.slice A0 p.arrays.length c0) (.slice (some ⟨g,o,none⟩) p.funcs.length c1) f.name f.type (.slice A2 f.params.length c2) (.slice A3 f.body.length c3) 0)).heap.size=wq.heap.size+1:=zA _ _
         have HB8:=hid (show (wq.alloc (rckO (.slice A0 p.arrays.length c0) (.slice (some ⟨g,o,none⟩) p.funcs.length c1) f.name f.type (.slice A2 f.params.length c2) (.slice A3 f.body.length c3) 0)).heap[wq.heap.size]? =some (rckO (.slice A0 p.arrays.length c0) (.slice (some ⟨g,o,none⟩) p.funcs.length c1) f.name f.type (.slice A2 f.params.length c2) (.slice A3 f.body.length c3) (W64 0)) from heap_alloc_new _ _)
         have hbo8:Below B w (wq.alloc (rckO (.slice A0 p.arrays.length c0) (.slice (some ⟨g,o,none⟩) p.funcs.length c1) f.name f.type (.slice A2 f.params.length c2) (.slice A3 f.body.length c3) 0)):=(HWQ.out.mono hB).trans (hbl8.mono hBq)
         have HE8:=hid (show BEnv B wq.heap.size p f.params (.slice A0 p.arrays.length c0) (.slice (some ⟨g,o,none⟩) p.funcs.length c1) (.slice A2 f.params.length c2) (wq.alloc (rckO (.slice A0 p.arrays.length c0) (.slice (some ⟨g,o,none⟩) p.funcs.length c1) f.name f.type (.slice A2 f.params.length c2) (.slice A3 f.body.length c3) 0)) from⟨by omega,hBq,by omega,HA.out.below hbo8 (Nat.le_refl _),HF.out.below hbo8 (Nat.le_refl _),hpq.below ((hbl8.mono hBq).trans (hole_below _ hBq)) (by omega)⟩)
         have HS8:=hid (HBO.out.below (((HBQ.out.mono hBr).trans (hbl8.mono hBq))) (Nat.le_refl _))
         have HL8:=hid hbl8
         have HZ8:=hid hz8
         obtain⟨en,hen⟩:∃ b,qr f.body=b:=⟨_,rfl⟩
         have HEN:=hid hen
         clear hdf hr1 hbl8 hz8 hbo8 hpq hen
         by_cases he1:e1=0
         · subst he1
           cases en
           case false=>
            go_wp2_with (first
             | (go_at_call 29;(with_reducible refine(BlC.call (uX 100) HFOK.out HFW.out HR1.out HE8.out HB8.out HS8.out HFN.out).mono ?_);rintro e w9 ⟨rfl,ho9,hb9⟩
                have hq9:Below wq.heap.size wq w9:=HL8.out.trans (jt ho9 (by have:=HZ8.out;omega) (Nat.le_refl _))
                have hm9:=(hq9.block wo.heap.size hmq).trans HMQ.out
                have hx9:=(hq9.block (w.heap.size+1) hsq).trans HXQ.out
                have hs9:wq.heap.size<w9.heap.size:=zB hb9
                obtain⟨⟨m0,m1,m2,m3⟩,mz⟩:=zR hm9
                obtain⟨⟨x0,x1⟩,xz⟩:=zE hx9
                obtain⟨⟨b0,b1,b2,b3,b4,b5,b6⟩,bz⟩:=zP hb9
                have b6':w9.drew.cell? ⟨wq.heap.size,6,none⟩=some (.int .i64 (W64 n1)):=b6
                have HX9:=hid (show w9.drew.heap[w.heap.size+1]? =some (qQ 0 0) from hx9)
                have HB9:=hid hb9
                have HQ9:=hid hq9
                have HW9:=hid (show Below w.heap.size w w9 from HWQ.out.trans (hq9.mono (by omega)))
                have HS9:=hid (HBO.out.below ((HBQ.out.mono hBr).trans (hq9.mono hBq)) (Nat.le_refl _))
                clear ho9 hb9 hq9 hm9 hx9)
             | (go_at_call 14;(with_reducible refine(EnC.call (vr 100) (B:=B) HFOK.out HEN.out (by omega) HS9.out).mono ?_);rintro e w10 ⟨rfl,hb10⟩
                have hq10:Below wq.heap.size wq w10:=HQ9.out.trans (hb10.mono (by omega))
                have hk10:=(hb10.block wq.heap.size hs9).trans HB9.out
                have hx10:=(hq10.block (w.heap.size+1) hsq).trans HXQ.out
                obtain⟨⟨x0,x1⟩,xz⟩:=zE hx10
                obtain⟨⟨b0,b1,b2,b3,b4,b5,b6⟩,bz⟩:=zP hk10
                have b6':w10.drew.cell? ⟨wq.heap.size,6,none⟩=some (.int .i64 (W64 n1)):=b6
                have HX10:=hid (show w10.drew.heap[w.heap.size+1]? =some (qQ 0 0) from hx10)
                have HQ10:=hid hq10
                have HW10:=hid (show Below w.heap.size w w10 from HWQ.out.trans (hq10.mono (by omega)))
                clear hb10 hq10 hk10 hx10))
            go_region
            all_goals go_wp2_with (fail)
            all_goals
             have f0:=one_set (W:=w10) HX10.out (.int .i64 j)
             have f1:=(je (W:=w10) HX10.out (.int .i64 j) (.int .i64 (W64 n1))).2
             refine bodyPost_ret (v:=.tuple #[.int .i64 52,.agg #[.int .i64 j,.int .i64 (W64 n1)]]) (by simp[results,Tryd.results12,go_sem,f0,f1]) rfl ?_
             have hcf:kg p f=(52,n1):=by rw[HCF.out,HEN.out];simp
             have hrr:=HDD.out
             rw[hcf,if_pos (by simp)]at hrr
             subst hrr
             exact⟨rfl,(qT HW10.out (by omega) _ _).drew⟩
           case true=>
            go_wp2_with (first
             | (go_at_call 29;(with_reducible refine(BlC.call (uX 100) HFOK.out HFW.out HR1.out HE8.out HB8.out HS8.out HFN.out).mono ?_);rintro e w9 ⟨rfl,ho9,hb9⟩
                have hq9:Below wq.heap.size wq w9:=HL8.out.trans (jt ho9 (by have:=HZ8.out;omega) (Nat.le_refl _))
                have hm9:=(hq9.block wo.heap.size hmq).trans HMQ.out
                have hx9:=(hq9.block (w.heap.size+1) hsq).trans HXQ.out
                have hs9:wq.heap.size<w9.heap.size:=zB hb9
                obtain⟨⟨m0,m1,m2,m3⟩,mz⟩:=zR hm9
                obtain⟨⟨x0,x1⟩,xz⟩:=zE hx9
                obtain⟨⟨b0,b1,b2,b3,b4,b5,b6⟩,bz⟩:=zP hb9
                have b6':w9.drew.cell? ⟨wq.heap.size,6,none⟩=some (.int .i64 (W64 n1)):=b6
                have HX9:=hid (show w9.drew.heap[w.heap.size+1]? =some (qQ 0 0) from hx9)
                have HB9:=hid hb9
                have HQ9:=hid hq9
                have HW9:=hid (show Below w.heap.size w w9 from HWQ.out.trans (hq9.mono (by omega)))
                have HS9:=hid (HBO.out.below ((HBQ.out.mono hBr).trans (hq9.mono hBq)) (Nat.le_refl _))
                clear ho9 hb9 hq9 hm9 hx9)
             | (go_at_call 14;(with_reducible refine(EnC.call (vr 100) (B:=B) HFOK.out HEN.out (by omega) HS9.out).mono ?_);rintro e w10 ⟨rfl,hb10⟩
                have hq10:Below wq.heap.size wq w10:=HQ9.out.trans (hb10.mono (by omega))
                have hk10:=(hb10.block wq.heap.size hs9).trans HB9.out
                have hx10:=(hq10.block (w.heap.size+1) hsq).trans HXQ.out
                obtain⟨⟨x0,x1⟩,xz⟩:=zE hx10
                obtain⟨⟨b0,b1,b2,b3,b4,b5,b6⟩,bz⟩:=zP hk10
                have b6':w10.drew.cell? ⟨wq.heap.size,6,none⟩=some (.int .i64 (W64 n1)):=b6
                have HX10:=hid (show w10.drew.heap[w.heap.size+1]? =some (qQ 0 0) from hx10)
                have HQ10:=hid hq10
                have HW10:=hid (show Below w.heap.size w w10 from HWQ.out.trans (hq10.mono (by omega)))
                clear hb10 hq10 hk10 hx10))
            go_roundw
            case rel=>
             refine⟨j+1,by omega,by go_num,?_,HBW.out.trans ((HBQ.out.trans (HQ10.out.mono (by omega))).mono (by omega))⟩
             have hcf:kg p f=(0,0):=by rw[HCF.out,HEN.out];simp
             have hrr:=HDD.out
             rw[hcf,if_neg (by simp)]at hrr
             exact hrr
            case measure=>simp[intOf];omega
         · have hne:(e1 != 0)=true:=by simp[he1]
           go_wp2_with (go_at_call 29;(with_reducible refine(BlC.call (uX 100) HFOK.out HFW.out HR1.out HE8.out HB8.out HS8.out HFN.out).mono ?_);rintro e w9 ⟨rfl,ho9,hb9⟩
                        have hq9:Below wq.heap.size wq w9:=HL8.out.trans (jt ho9 (by have:=HZ8.out;omega) (Nat.le_refl _))
                        have hm9:=(hq9.block wo.heap.size hmq).trans HMQ.out
                        have hx9:=(hq9.block (w.heap.size+1) hsq).trans HXQ.out
                        have hs9:wq.heap.size<w9.heap.size:=zB hb9
                        obtain⟨⟨m0,m1,m2,m3⟩,mz⟩:=zR hm9
                        obtain⟨⟨x0,x1⟩,xz⟩:=zE hx9
                        obtain⟨⟨b0,b1,b2,b3,b4,b5,b6⟩,bz⟩:=zP hb9
                        have b6':w9.drew.cell? ⟨wq.heap.size,6,none⟩=some (.int .i64 (W64 n1)):=b6
                        have HX9:=hid (show w9.drew.heap[w.heap.size+1]? =some (qQ 0 0) from hx9)
                        have HB9:=hid hb9
                        have HQ9:=hid hq9
                        have HW9:=hid (show Below w.heap.size w w9 from HWQ.out.trans (hq9.mono (by omega)))
                        have HS9:=hid (HBO.out.below ((HBQ.out.mono hBr).trans (hq9.mono hBq)) (Nat.le_refl _))
                        clear ho9 hb9 hq9 hm9 hx9)
           go_region
           all_goals go_wp2_with (fail)
           all_goals
            have f0:=one_set (W:=w9) HX9.out (.int .i64 j)
            have f1:=(je (W:=w9) HX9.out (.int .i64 j) (.int .i64 (W64 n1))).2
            refine bodyPost_ret (v:=.tuple #[.int .i64 e1,.agg #[.int .i64 j,.int .i64 (W64 n1)]]) (by simp[results,Tryd.results12,go_sem,f0,f1]) rfl ?_
            have hcf:kg p f=(e1,n1):=by rw[HCF.out,if_pos he1]
            have hrr:=HDD.out
            rw[hcf,if_pos he1]at hrr
            subst hrr
            exact⟨rfl,(qT HW9.out (by omega) _ _).drew⟩
    · have hjj:j=p.funcs.length:=by omega
      subst hjj
      have hrr:=hT'.out
      rw[List.drop_length]at hrr
      go_wp2_with (fail)
      obtain⟨f0,f1⟩:=je HXR.out (.int .i64 0) (.int .i64 0)
      refine bodyPost_ret (v:=.tuple #[.int .i64 0,.agg #[.int .i64 0,.int .i64 0]]) (by simp[results,Tryd.results12,go_sem,f0,f1]) rfl ?_
      unfold xY at hrr
      subst hrr
      exact⟨rfl,qT HWR.out (by omega) _ _⟩
theorem Laid5.chk3 {B:Nat} {p:Pr} {v0 v1:Value} {w:World} (h:Laid5 B p v0 v1 w) (hs:Small p) {r1:Int} {r2 r3:Nat} (hR:kC p=(r1,r2,r3)):Calls Tryd.prog 11 #[.agg #[v0,v1]] w fun e w'=>e=.returned (.tuple #[.int .i64 r1,.agg #[.int .i64 (r2:Int),.int .i64 (W64 r3)]])∧Below w.heap.size w w':=(h.chk hs hR).mono fun e w' h=>h
theorem Laid5.rchk3 {B:Nat} {p:Pr} {v0 v1:Value} {w:World} (h:Laid5 B p v0 v1 w) (hs:Small p) {r1:Int} {r2 r3:Nat} (hR:kC p=(r1,r2,r3)):Calls Tryd.prog 12 #[.agg #[v0,v1]] w fun e w'=>e=.returned (.tuple #[.int .i64 r1,.agg #[.int .i64 (r2:Int),.int .i64 (W64 r3)]])∧Below w.heap.size w w':=(rcheck_any B p _ v0 v1 w h.hB h.ha h.hf hs.cn hR).mono fun e w' h=>h
theorem Laid5.first {B:Nat} {p:Pr} {f:Fu} {fs:List Fu} {v0:Value} {A1:Option Addr} {c1:Nat} {w:World} (h:Laid5 B p v0 (.slice A1 p.funcs.length c1) w) (hf:p.funcs=f :: fs):∃ g o v3,A1=some ⟨g,o,none⟩∧g<B∧w.cell? ⟨g,o+3,none⟩=some v3∧SlS B w v3 f.body:=by
 obtain⟨g,o,v2,v3,hA,hg,z0,z1,z2,z3,hp,hbo⟩:=h.hf.cells (show p.funcs[0]? =some f by rw[hf];rfl)
 exact⟨g,o,v3,hA,hg,by simpa using z3,hbo⟩
set_option maxHeartbeats 4000000 in
theorem lbodies_any (B:Nat) (v:Value) (ends:Bool) (w:World) (ht:TreeTab B w) (hB:B≤w.heap.size) (hv:xx w v):Calls Tryd.prog 3 #[v,.bool ends] w fun e w'=>e=.returned (.bool true)∧Below w.heap.size w w':=by
 have HT:=hid ht
 have HV:=hid hv
 clear ht hv
 go_enter Tryd.func3,Tryd.ntmps3
 go_upto_region 2 with(first
  | (go_at_call 9;(with_reducible refine(lbody_any v ends w HV.out).mono ?_);rintro e w1 ⟨r,rfl,hr,hb⟩
     obtain⟨p,e1,ln,hd⟩:∃ p e ln,kS r=(p,e,ln):=⟨_,_,_,rfl⟩
     have HD:=hid hd
     have HR:=hid hr
     have HB1:=hid hb
     have HT1:=hid (HT.out.below (hb.mono hB))
     have hz1:w.heap.size≤w1.heap.size:=hb.size
     clear hd hr hb)
  | (go_at_call 8;(with_reducible refine(xu r HT1.out (by omega) HD.out).mono ?_);rintro e w2 ⟨A0,c0,A1,c1,rfl,hb,hg⟩
     have hz2:w1.heap.size≤w2.heap.size:=hb.size
     have hb2:Below w2.heap.size w2 (w2.alloc (ze A0 p.arrays.length c0 A1 p.funcs.length c1)):=(Below.refl _ _).alloc (Nat.le_refl _) _
     have HG2:=hid (hg.below hb2)
     have HX2:=hid (heap_alloc_new w2 (ze A0 p.arrays.length c0 A1 p.funcs.length c1))
     have HB2:=hid ((HB1.out.trans (hb.mono hz1)).trans (hb2.mono (by omega)))
     clear hb hg hb2))
 by_cases he:e1=0
 · subst he
   obtain⟨hsm,⟨f,fs,hfs⟩,_⟩:=body_doc HR.out HD.out
   obtain⟨⟨r1,r2,r3⟩,hR⟩:∃ R,kC p=R:=⟨_,rfl⟩
   have HSM:=hid hsm
   have HRR:=hid hR
   have HFS:=hid hfs
   have hn:0<p.funcs.length:=by rw[hfs];simp
   obtain⟨g,o,v3,rfl,hg,hz,hsb⟩:=HG2.out.first hfs
   have HSB:=hid hsb
   have hn0:(0 :Int)<p.funcs.length:=by omega
   have HFOK:=hid (kl hsm.ok (show f ∈ p.funcs by rw[hfs];simp)).1
   have hgs:g<w2.heap.size:=hg
   have HZ:=hid hz
   clear hsm hR hfs hz hsb
   obtain⟨en,hen⟩:∃ b,qr f.body=b:=⟨_,rfl⟩
   have HEN:=hid hen
   clear hen
   go_upto_region 6 with(first
    | (go_at_call 11;(with_reducible refine(HG2.out.chk3 HSM.out HRR.out).mono ?_);rintro e w3 ⟨rfl,hb⟩
       have hz3:w2.heap.size+1≤w3.heap.size:=by have:=hb.size;simpa using this
       have hb3:Below w3.heap.size w3 (w3.alloc (qQ r2 (W64 r3))):=(Below.refl _ _).alloc (Nat.le_refl _) _
       have hx3:=heap_alloc_new w3 (qQ r2 (W64 r3))
       have hy3:=(hb3.block w2.heap.size (by omega)).trans ((hb.block w2.heap.size (by simp)).trans HX2.out)
       obtain⟨⟨p2,p3⟩,py⟩:=zE hy3
       have HG3:=hid ((HG2.out.below hb).below hb3)
       have HY3:=hid hy3
       have HX3:=hid hx3
       have HB3:=hid (HB2.out.trans (((hb.trans (hb3.mono (by simp;omega)))).mono (by simp;omega)))
       have HC3:=hid (show Below w2.heap.size (w2.alloc (ze A0 p.arrays.length c0 (some ⟨g,o,none⟩) p.funcs.length c1)) (w3.alloc (qQ r2 (W64 r3))) from(hb.mono (by simp)).trans (hb3.mono (by omega)))
       clear hb hx3 hb3 hy3)
    | (go_at_call 12;(with_reducible refine(HG3.out.rchk3 HSM.out HRR.out).mono ?_);rintro e w4 ⟨rfl,hb⟩
       have hz4:w3.heap.size+1≤w4.heap.size:=by have:=hb.size;simpa using this
       have hb4:Below w4.heap.size w4 (w4.alloc (qQ r2 (W64 r3))):=(Below.refl _ _).alloc (Nat.le_refl _) _
       have hx4:=heap_alloc_new w4 (qQ r2 (W64 r3))
       have hy4:=(hb4.block w2.heap.size (by omega)).trans ((hb.block w2.heap.size (by simp;omega)).trans HY3.out)
       have hu4:=(hb4.block w3.heap.size (by omega)).trans ((hb.block w3.heap.size (by simp)).trans HX3.out)
       have HG4:=hid ((HG3.out.below hb).below hb4)
       have HX4:=hid hx4
       have HY4:=hid hy4
       have HU4:=hid hu4
       have HB4:=hid (HB3.out.trans (((hb.trans (hb4.mono (by simp;omega)))).mono (by simp;omega)))
       have HQ4:=hid (show (w4.alloc (qQ r2 (W64 r3))).heap.size=w4.heap.size+1 from zA _ _)
       have HC4:=hid (show Below w2.heap.size (w2.alloc (ze A0 p.arrays.length c0 (some ⟨g,o,none⟩) p.funcs.length c1)) (w4.alloc (qQ r2 (W64 r3))) from HC3.out.trans ((hb.mono (by simp;omega)).trans (hb4.mono (by omega))))
       clear hb hb4 hy4 hx4 hu4))
   obtain⟨⟨y0,y1⟩,yz⟩:=zE HY4.out
   obtain⟨⟨x0,x1⟩,xz⟩:=zE HX4.out
   obtain⟨⟨u0,u1⟩,uz⟩:=zE HU4.out
   have hz4:(w4.alloc (qQ r2 (W64 r3))).cell? ⟨g,o+3,none⟩=some v3:=(HC4.out.cell (p:=⟨g,o+3,none⟩) hgs).trans HZ.out
   have HD4:=hid (HG4.out.below (Below.refl _ _).drew)
   have hsg:g<w4.heap.size+1:=by omega
   have hsp:w2.heap.size<w4.heap.size+1:=by omega
   have hs3:w3.heap.size<w4.heap.size+1:=by omega
   have hs4:w4.heap.size<w4.heap.size+1:=by omega
   first
   | (go_region_held3 (fun w'=>w'.cell? ⟨w2.heap.size,1,none⟩=some (.slice (some ⟨g,o,none⟩) p.funcs.length c1)∧w'.cell? ⟨g,o+3,none⟩=some v3∧w'.cell? ⟨w3.heap.size,0,none⟩=some (.int .i64 r2)∧w'.cell? ⟨w3.heap.size,1,none⟩=some (.int .i64 (W64 r3))∧w'.cell? ⟨w4.heap.size,0,none⟩=some (.int .i64 r2)∧w'.cell? ⟨w4.heap.size,1,none⟩=some (.int .i64 (W64 r3)))
       (first
         | (refine⟨?_,?_,?_,?_,?_,?_⟩ <;> (first | assumption | ((first | rw[hq7 _ _ (by assumption)] | rw[hq6 _ _ (by assumption)] | rw[hq5 _ _ (by assumption)]);assumption)))
         | go_keep)
       (first
         | (go_at_call 10
            (refine(jw _ _ HD4.out.tab HD4.out.hB).mono ?_)
            rintro e w5 ⟨rfl,hb⟩
            have hz5:w4.heap.size+1≤w5.heap.size:=by have:=hb.size;rw[←HQ4.out];exact this
            have hq5:∀ k x,k<w4.heap.size+1→w5.cell? ⟨k,x,none⟩=(w4.alloc (qQ r2 (W64 r3))).cell? ⟨k,x,none⟩:=fun k x h=>hb.cell (p:=⟨k,x,none⟩) (by show k<(w4.alloc _).heap.size;rw[zA];exact h)
            have HB5:=hid ((HB4.out.trans (Below.refl _ _).drew).trans (hb.mono (by show w.heap.size≤(w4.alloc _).heap.size;rw[zA];omega)))
            have HC5:=hid ((HC4.out.trans (Below.refl _ _).drew).trans (hb.mono (by show w2.heap.size≤(w4.alloc _).heap.size;rw[zA];omega)))
            clear hb)
         | (go_at_call 13
            (refine(EnC.call (vq 100) (B:=w2.heap.size) HFOK.out HEN.out (by omega) (HSB.out.below HC5.out (Nat.le_refl _))).mono ?_)
            rintro e w6 ⟨rfl,hb⟩
            have hz6:w5.heap.size≤w6.heap.size:=hb.size
            have hq6:∀ k x,k<w4.heap.size+1→w6.cell? ⟨k,x,none⟩=(w4.alloc (qQ r2 (W64 r3))).cell? ⟨k,x,none⟩:=fun k x h=>(hb.cell (p:=⟨k,x,none⟩) (by show k<w5.heap.size;omega)).trans (hq5 k x h)
            have HB6:=hid (HB5.out.trans (hb.mono (by omega)))
            have HC6:=hid (HC5.out.trans (hb.mono (by omega)))
            clear hb)
         | (go_at_call 14
            (refine(EnC.call (vr 100) (B:=w2.heap.size) HFOK.out HEN.out (by omega) (HSB.out.below HC6.out (Nat.le_refl _))).mono ?_)
            rintro e w7 ⟨rfl,hb⟩
            have hq7:∀ k x,k<w4.heap.size+1→w7.cell? ⟨k,x,none⟩=(w4.alloc (qQ r2 (W64 r3))).cell? ⟨k,x,none⟩:=fun k x h=>(hb.cell (p:=⟨k,x,none⟩) (by show k<w6.heap.size;omega)).trans (hq6 k x h)
            have HB7:=hid (HB6.out.trans (hb.mono (by omega)))
            clear hb)))
   | fail
   all_goals go_wp2_with (fail)
   all_goals go_ret
   all_goals exact⟨zD (by simp),HB7.out⟩
 · have hne:(e1 != 0)=true:=by simp[he]
   go_wp2_with (go_at_call 10;(with_reducible refine(jw _ _ HG2.out.tab HG2.out.hB).mono ?_);rintro e w3 ⟨rfl,hb⟩
                have HB3:=hid (HB2.out.trans (hb.mono (by simp;omega)))
                clear hb)
   go_ret
   exact⟨rfl,HB3.out⟩
end Go.Proofs.YtndgkfkieogplaaDoor
namespace Go.Proofs.YtndgkfkieogplaaDoor
open Lib (hid)
open Go.ChangeShapes Go.WideShapes Go.ChangeAt Go.RowKit
theorem own:ownKnob Tryd.prog.godebug=none:=by kernel_rfl
theorem laidOut:laidOutB Tryd.prog=true:=by kernel_rfl
abbrev zr:List (String × DataW Unit):=[("boxhedge/wrap.rows",Rows.laid_boxhedge_wrap_rows)]
theorem plain_of {W:World} (h:laidMetH Tryd.prog zr W):laidMet Tryd.prog zr W:=by
 rw[MakeChecks.laidMetH_plain _ _ _ (by kernel_rfl)]at h
 exact h
theorem gRows:Tryd.prog.globalNamed "boxhedge/wrap.rows" =some 0:=by kernel_rfl
theorem tRows:(Tryd.prog.globals[0]?).map (·.type)=some 136:=by kernel_rfl
theorem cellsRow:Tryd.prog.cellsOf 134=2:=by kernel_rfl
theorem cellsStr:Tryd.prog.cellsOf 9=1:=by kernel_rfl
theorem cellsInt:Tryd.prog.cellsOf 3=1:=by kernel_rfl
theorem toList_inj {s:ByteArray} {l:List UInt8} (h:s.data.toList=l):s=⟨l.toArray⟩:=by
 subst h
 cases s
 simp
theorem row_cells {W:World} {fuel:Nat} {cs:List Value} {b:List UInt8} {n:Int} {p:List MemPlace}
 (h:DataW.trod (fun _=>()) Tryd.prog W 0 (fun _=>true) false fuel 134 cs=some (.agg [.lit (.string b),.lit (.int .i64 n)],p)):
 cs[0]? =some (.string ⟨b.toArray⟩)∧cs[1]? =some (.int .i64 n):=by
 obtain⟨y0,y1,m,hx,hl,h0,h1⟩:=trod_struct2 Tryd.underlying134 h
 rw[cellsStr]at h0
 rw[cellsInt]at h1
 obtain⟨s,e1,e2,_⟩:=DataW.trod_string Tryd.underlying9 h0
 obtain⟨k,e3,e4,_⟩:=DataW.trod_int Tryd.underlying3 h1
 subst e2 e4
 simp only[Prod.mk.injEq,DataW.agg.injEq,List.cons.injEq,DataW.lit.injEq,Lit.string.injEq,Lit.int.injEq,true_and,and_true]at hx
 obtain⟨⟨hs,hk⟩,_⟩:=hx
 rw[cellsRow]at hl
 match cs,hl with
 | [c0,c1],_=>
   simp at e1 e3
   subst e1 e3 hk
   refine⟨?_,rfl⟩
   rw[toList_inj hs.symm]
   rfl
theorem rows_of_laid {W:World} (h:laidMet Tryd.prog [("boxhedge/wrap.rows",Rows.laid_boxhedge_wrap_rows)] W):Tab W:=by
 obtain⟨ps,⟨g0,t0,cs0,f0,p0,q0,hg0,ht0,hv0,hd0,_,_⟩,_,_⟩:=h
 obtain rfl:=Option.some.inj (gRows.symm.trans hg0)
 obtain rfl:=Option.some.inj (tRows.symm.trans ht0)
 obtain⟨xs,m1,rfl,hx1,hlen,hn,hel⟩:=DataW.trod_array Tryd.underlying136 hd0
 intro k hk
 have hcell:∀ j,W.cell? ⟨0,j,none⟩=cs0.toList[j]?:=by
  intro j
  have:=World.var?_cell hg0 hv0 j
  simpa using this
 have h1:=hel k (by omega)
 rw[cellsRow]at h1
 have hxs:(xs.map (·.1))[k]? =some (.agg [.lit (.string (sgnL.getD k [])),.lit (.int .i64 (lvlL.getD k 0))]):=by
  have hx1':=congrArg Prod.fst hx1
  unfold Rows.laid_boxhedge_wrap_rows at hx1'
  simp only[DataW.agg.injEq]at hx1'
  rw[←hx1']
  obtain rfl | rfl | rfl | rfl | rfl | rfl | rfl | rfl | rfl | rfl | rfl | rfl | rfl | rfl | rfl | rfl | rfl | rfl | rfl | rfl | rfl | rfl | rfl | rfl | rfl | rfl | rfl | rfl | rfl:k=0∨k=1∨k=2∨k=3∨k=4∨k=5∨k=6∨k=7∨k=8∨k=9∨k=10∨k=11∨k=12∨k=13∨k=14∨k=15∨k=16∨k=17∨k=18∨k=19∨k=20∨k=21∨k=22∨k=23∨k=24∨k=25∨k=26∨k=27∨k=28:=by omega
  all_goals rfl
 rw[List.getElem?_map]at hxs
 obtain⟨x,hx,hx2⟩:=Option.map_eq_some_iff.1 hxs
 rw[hx]at h1
 obtain⟨d,p⟩:=x
 simp only at hx2
 subst hx2
 obtain⟨e0,e1⟩:=row_cells h1
 rw[hcell,hcell]
 refine⟨?_,?_⟩
 · have:cs0.toList[k * 2]? =((cs0.toList.drop (k * 2)).take 2)[0]?:=by simp[List.getElem?_drop]
   rw[this,e0]
   rfl
 · have:cs0.toList[k * 2+1]? =((cs0.toList.drop (k * 2)).take 2)[1]?:=by simp[List.getElem?_drop]
   rw[this,e1]
   rfl
theorem yL {W:World} (h:laidMetH Tryd.prog zr W):TreeTab W.heap.size W:=by
 have ht:=rows_of_laid (plain_of h)
 exact⟨block_lt_of_cell (ht 0 (by omega)).1,ht⟩
theorem uD (os:Os) (args:Array Value):laidMetH Tryd.prog zr ((World.laidAll Tryd.prog os zr).forCall (fun _ _=>0) ⟨#[],args,[]⟩).memory:=by
 rw[MakeChecks.laidMetH_plain _ _ _ (by kernel_rfl)]
 exact laidMet_laidAll _ (by kernel_rfl) (by kernel_rfl)
theorem bytes_in {H:Type} {enc:TypeId × Value→H} {W:World} {base:Nat} {v:Value} {d:DataW H} {p:List MemPlace} (h0:DataW.Trod enc Tryd.prog W 0 (fun _=>true) true 22 v d p) (hv:Value.okWide Tryd.prog W .any base 22 v):xx W v:=by
 obtain⟨a0,x9,cap0,rfl⟩:=okWide_slice Tryd.underlying22 hv
 obtain⟨fuel,hf⟩:=h0
 rcases open_ints Tryd.underlying22 Tryd.underlying5 (by kernel_rfl) hf with⟨hcs,_⟩ | ⟨x,l,c,zs,hcs,_,hl,hm,hz,_,hcell,hwz⟩
 · simp[Value.cells]at hcs
   obtain⟨rfl,rfl,rfl⟩:=hcs
   exact⟨none,0,0,rfl,by omega,fun hp=>absurd hp (by omega)⟩
 · simp[Value.cells]at hcs
   obtain⟨rfl,rfl,rfl⟩:=hcs
   have hz':zs.length=cap0:=by simpa using hz
   refine⟨_,x9,cap0,rfl,by unfold maxLen at hm;omega,fun hp=>?_⟩
   obtain⟨b,off,spot⟩:=x
   have hc:=hcell 0 (by omega)
   have hspot:spot=none:=by simpa[Addr.add] using World.cell?_spot hc
   subst hspot
   have hadd:∀ k,(⟨b,off,none⟩:Addr).add k=⟨b,off+k,none⟩:=fun k=>by unfold Addr.add;split <;> simp_all
   refine⟨b,off,rfl,?_,fun k hk=>?_⟩
   · rw[hadd]at hc
     exact block_lt_of_cell hc
   · have h1:=hcell k (by omega)
     rw[hadd]at h1
     exact⟨zs.getD k 0,(range_u8 hwz k).1,(range_u8 hwz k).2,h1⟩
end Go.Proofs.YtndgkfkieogplaaDoor
