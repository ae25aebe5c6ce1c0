import Derived.Test.YtndgkfkieogplaaDoorAgTyRk
import Derived.StillTailTactics
set_option linter.unusedSimpArgs false
set_option linter.unusedVariables false
set_option maxRecDepth 100000
/- The law of order. -/
namespace Go.Proofs.YtndgkfkieogplaaDoor
open Lib (hid)
open Go.RowKit
abbrev fu2O (s0:ByteArray) (t0:Int) (a0 b0:Value) (s1:ByteArray) (t1:Int) (a1 b1:Value):Obj:=.cells #[.string s0,.int .i64 t0,a0,b0,.string s1,.int .i64 t1,a1,b1] 39
theorem Laid5.keep {B:Nat} {p:Pr} {v0 v1:Value} {w w':World} (h:Laid5 B p v0 v1 w) (hb:Below B w w'):Laid5 B p v0 v1 w':=⟨Nat.le_trans h.hB hb.size,h.tab.below hb,h.ha.below hb (Nat.le_refl _),h.hf.below hb (Nat.le_refl _)⟩
theorem small_b {b:List St} (h:Small (ji b)):Small (pB4 b):=by
 have hm:∀ f ∈ (pB4 b).funcs,f ∈ (ji b).funcs:=fun f hf=>by simp[ji,pB4]at hf ⊢;exact hf.symm
 exact⟨ok_b b h.ok,⟨h.sz.1,fun f hf=>h.sz.2 f (hm f hf)⟩,h.n1,h.n2,fun f hf=>h.cn f (hm f hf)⟩
theorem slF_two {B:Nat} {w:World} {s:Nat} {f0 f1:Fu} {a0 b0 a1 b1:Value} (hs:s<B) (h:w.heap[s]? =some (fu2O f0.name f0.type a0 b0 f1.name f1.type a1 b1)) (h0:SlP B w a0 f0.params) (h1:SlS B w b0 f0.body) (h2:SlP B w a1 f1.params) (h3:SlS B w b1 f1.body):SlF B w (.slice (some ⟨s,0,none⟩) 2 2) [f0,f1]:=
 ⟨some ⟨s,0,none⟩,2,rfl,by simp,fun _=>⟨s,0,rfl,⟨⟨hs,(Lib.cell_of_heap h 0).trans rfl⟩,⟨hs,(Lib.cell_of_heap h 1).trans rfl⟩,⟨a0,⟨hs,(Lib.cell_of_heap h 2).trans rfl⟩,h0⟩,⟨b0,⟨hs,(Lib.cell_of_heap h 3).trans rfl⟩,h1⟩⟩,⟨⟨hs,(Lib.cell_of_heap h 4).trans rfl⟩,⟨hs,(Lib.cell_of_heap h 5).trans rfl⟩,⟨a1,⟨hs,(Lib.cell_of_heap h 6).trans rfl⟩,h2⟩,⟨b1,⟨hs,(Lib.cell_of_heap h 7).trans rfl⟩,h3⟩⟩,trivial⟩⟩
set_option maxHeartbeats 4000000 in
theorem lorder_any (B:Nat) (v:Value) (ends:Bool) (w:World) (ht:TreeTab B w) (hB:B≤w.heap.size) (hv:xx w v):Calls Tryd.prog 5 #[v,.bool ends] w fun e w'=>e=.returned (.bool true)∧Below w.heap.size w w':=by
 have HT:=hid ht
 have HV:=hid hv
 clear ht hv
 go_enter Tryd.func5,Tryd.ntmps5
 go_upto_region 5 with(first
  | (go_at_call 10;(with_reducible refine(jw B w HT.out hB).mono ?_);rintro e w0 ⟨rfl,hb⟩
     have HB0:=hid hb
     have HT0:=hid (HT.out.below (hb.mono hB))
     have HV0:=hid (HV.out.below hb)
     have hz0:w.heap.size≤w0.heap.size:=hb.size
     clear hb)
  | (go_at_call 9;(with_reducible refine(lbody_any v ends w0 HV0.out).mono ?_);rintro e w1 ⟨r,rfl,hr,hb⟩
     obtain⟨p,e1,ln,hd⟩:∃ p e ln,kS r=(p,e,ln):=⟨_,_,_,rfl⟩
     have HD:=hid hd
     have HR:=hid hr
     have HB1:=hid (HB0.out.trans (hb.mono hz0))
     have HT1:=hid (HT0.out.below (hb.mono (by omega)))
     have hz1:w0.heap.size≤w1.heap.size:=hb.size
     clear hd hr hb)
  | (go_at_call 8;(with_reducible refine(xu r HT1.out (by omega) HD.out).mono ?_);rintro e w2 ⟨A0,c0,A1,c1,rfl,hb,hg⟩
     have hz2:w1.heap.size≤w2.heap.size:=hb.size
     have hb2:Below w2.heap.size w2 (w2.alloc (ze A0 p.arrays.length c0 A1 p.funcs.length c1)):=(Below.refl _ _).alloc (Nat.le_refl _) _
     have HG2:=hid (hg.below hb2)
     have HX2:=hid (heap_alloc_new w2 (ze A0 p.arrays.length c0 A1 p.funcs.length c1))
     have HB2:=hid ((HB1.out.trans (hb.mono (by omega))).trans (hb2.mono (by omega)))
     clear hb hg hb2))
 by_cases he:e1=0
 · subst he
   obtain⟨hsm,_,h2⟩:=body_doc HR.out HD.out
   by_cases hl:p.funcs.length=2
   · obtain⟨b,rfl⟩:=h2 hl
     have HSM:=hid hsm
     clear h2 hsm
     obtain⟨g,o,a0,b0,rfl,hg,y0,y1,y2,y3,y4,y5⟩:=HG2.out.hf.cells (show (ji b).funcs[0]? =some (kE b) from rfl)
     obtain⟨g',o',a1,b1,he',_,z0,z1,z2,z3,z4,z5⟩:=HG2.out.hf.cells (show (ji b).funcs[1]? =some xv from rfl)
     obtain⟨rfl,rfl⟩:g=g'∧o=o':=by simpa using he'
     have HPF:=hid (And.intro y4 (And.intro y5 (And.intro z4 z5)))
     have hgs:g<w2.heap.size:=hg
     have hll:(ji b).funcs.length=2:=hl
     have haa:(ji b).arrays.length=1:=rfl
     rw[hll,haa]at HX2 HG2
     simp only[hll,haa]
     clear y4 y5 z4 z5 he' hl
     have hb3:Below w2.heap.size (w2.alloc (ze A0 1 c0 (some ⟨g,o,none⟩) 2 c1)) ((w2.alloc (ze A0 1 c0 (some ⟨g,o,none⟩) 2 c1)).alloc (ze A0 1 c0 (some ⟨g,o,none⟩) 2 c1)):=(Below.refl _ _).alloc (by simp) (ze A0 1 c0 (some ⟨g,o,none⟩) 2 c1)
     have hz3:((w2.alloc (ze A0 1 c0 (some ⟨g,o,none⟩) 2 c1)).alloc (ze A0 1 c0 (some ⟨g,o,none⟩) 2 c1)).heap.size=w2.heap.size+1+1:=by simp
     have hx3:((w2.alloc (ze A0 1 c0 (some ⟨g,o,none⟩) 2 c1)).alloc (ze A0 1 c0 (some ⟨g,o,none⟩) 2 c1)).heap[w2.heap.size]? =some (ze A0 1 c0 (some ⟨g,o,none⟩) 2 c1):=(Below.heap_alloc _ _ _ (by simp)).trans (heap_alloc_new w2 _)
     have hq3:((w2.alloc (ze A0 1 c0 (some ⟨g,o,none⟩) 2 c1)).alloc (ze A0 1 c0 (some ⟨g,o,none⟩) 2 c1)).heap[w2.heap.size+1]? =some (ze A0 1 c0 (some ⟨g,o,none⟩) 2 c1):=by simpa using heap_alloc_new (w2.alloc (ze A0 1 c0 (some ⟨g,o,none⟩) 2 c1)) (ze A0 1 c0 (some ⟨g,o,none⟩) 2 c1)
     have hg3:Laid5 w2.heap.size (ji b) (.slice A0 1 c0) (.slice (some ⟨g,o,none⟩) 2 c1) ((w2.alloc (ze A0 1 c0 (some ⟨g,o,none⟩) 2 c1)).alloc (ze A0 1 c0 (some ⟨g,o,none⟩) 2 c1)):=HG2.out.below ((Below.refl _ _).alloc (Nat.le_refl _) _)
     have hb3w:Below w.heap.size w ((w2.alloc (ze A0 1 c0 (some ⟨g,o,none⟩) 2 c1)).alloc (ze A0 1 c0 (some ⟨g,o,none⟩) 2 c1)):=HB2.out.trans ((Below.refl _ _).alloc (by simp;omega) _)
     have hy:∀ x,((w2.alloc (ze A0 1 c0 (some ⟨g,o,none⟩) 2 c1)).alloc (ze A0 1 c0 (some ⟨g,o,none⟩) 2 c1)).cell? ⟨g,x,none⟩=(w2.alloc (ze A0 1 c0 (some ⟨g,o,none⟩) 2 c1)).cell? ⟨g,x,none⟩:=fun x=>hb3.cell (p:=⟨g,x,none⟩) hgs
     replace y0:=(hy _).trans y0
     replace y1:=(hy _).trans y1
     replace y2:=(hy _).trans y2
     replace y3:=(hy _).trans y3
     replace z0:=(hy _).trans z0
     replace z1:=(hy _).trans z1
     replace z2:=(hy _).trans z2
     replace z3:=(hy _).trans z3
     clear hy
     go_upto_region 8 with(fail)
     generalize (w2.alloc (ze A0 1 c0 (some ⟨g,o,none⟩) 2 c1)).alloc (ze A0 1 c0 (some ⟨g,o,none⟩) 2 c1)=W3 at *
     obtain⟨⟨p0,p1⟩,pz⟩:=zE hx3
     obtain⟨⟨q0,q1⟩,qz⟩:=zE hq3
     have HB3:=hid hb3
     have HX3:=hid hx3
     have HQ3:=hid hq3
     have HG3:=hid hg3
     have HB3W:=hid hb3w
     clear hb3 hx3 hq3 hg3 hb3w
     simp at y0 y1 y2 y3 z0 z1 z2 z3
     go_wp2_with (fail)
     go_still_tail 8,(by kernel_rfl)
     repeat still_step
     change wpList _ _ _ _ _ W3.drew
     go_upto_region 9 with(fail)
     have hs1:Below (w2.heap.size+1) W3 (W3.setCell ⟨w2.heap.size+1,1,none⟩ (.slice (some ⟨w2.heap.size+1+1,0,none⟩) 2 2)):=(Below.refl _ _).setCell (p:=⟨w2.heap.size+1,1,none⟩) (Nat.le_refl _) _
     have hsz:(W3.setCell ⟨w2.heap.size+1,1,none⟩ (.slice (some ⟨w2.heap.size+1+1,0,none⟩) 2 2)).heap.size=W3.heap.size:=by simp[World.setCell]
     have hs2:Below (w2.heap.size+1) W3 ((W3.setCell ⟨w2.heap.size+1,1,none⟩ (.slice (some ⟨w2.heap.size+1+1,0,none⟩) 2 2)).alloc (fu2O xv.name xv.type a1 b1 (kE b).name (kE b).type a0 b0)).drew:=(hs1.trans ((Below.refl _ _).alloc (by rw[hsz,hz3];omega) _)).drew
     have hx4:((W3.setCell ⟨w2.heap.size+1,1,none⟩ (.slice (some ⟨w2.heap.size+1+1,0,none⟩) 2 2)).alloc (fu2O xv.name xv.type a1 b1 (kE b).name (kE b).type a0 b0)).drew.heap[w2.heap.size]? =some (ze A0 1 c0 (some ⟨g,o,none⟩) 2 c1):=(hs2.block w2.heap.size (by omega)).trans HX3.out
     have hq4:((W3.setCell ⟨w2.heap.size+1,1,none⟩ (.slice (some ⟨w2.heap.size+1+1,0,none⟩) 2 2)).alloc (fu2O xv.name xv.type a1 b1 (kE b).name (kE b).type a0 b0)).drew.heap[w2.heap.size+1]? =some (ze A0 1 c0 (some ⟨w2.heap.size+1+1,0,none⟩) 2 2):=(Below.heap_alloc (W3.setCell ⟨w2.heap.size+1,1,none⟩ (.slice (some ⟨w2.heap.size+1+1,0,none⟩) 2 2)) _ (w2.heap.size+1) (by rw[hsz,hz3];omega)).trans (Lib.heap_setCell_same HQ3.out _)
     have hu4:((W3.setCell ⟨w2.heap.size+1,1,none⟩ (.slice (some ⟨w2.heap.size+1+1,0,none⟩) 2 2)).alloc (fu2O xv.name xv.type a1 b1 (kE b).name (kE b).type a0 b0)).drew.heap[w2.heap.size+1+1]? =some (fu2O xv.name xv.type a1 b1 (kE b).name (kE b).type a0 b0):=by
      have:=heap_alloc_new (W3.setCell ⟨w2.heap.size+1,1,none⟩ (.slice (some ⟨w2.heap.size+1+1,0,none⟩) 2 2)) (fu2O xv.name xv.type a1 b1 (kE b).name (kE b).type a0 b0)
      rw[hsz,hz3]at this
      exact this
     have hz4:((W3.setCell ⟨w2.heap.size+1,1,none⟩ (.slice (some ⟨w2.heap.size+1+1,0,none⟩) 2 2)).alloc (fu2O xv.name xv.type a1 b1 (kE b).name (kE b).type a0 b0)).drew.heap.size=w2.heap.size+1+1+1:=by
      show ((W3.setCell ⟨w2.heap.size+1,1,none⟩ (.slice (some ⟨w2.heap.size+1+1,0,none⟩) 2 2)).alloc _).heap.size=_
      rw[zA,hsz,hz3]
     generalize ((W3.setCell ⟨w2.heap.size+1,1,none⟩ (.slice (some ⟨w2.heap.size+1+1,0,none⟩) 2 2)).alloc (fu2O xv.name xv.type a1 b1 (kE b).name (kE b).type a0 b0)).drew=W4 at *
     have hb24:Below w2.heap.size (w2.alloc (ze A0 1 c0 (some ⟨g,o,none⟩) 2 c1)) W4:=HB3.out.trans (hs2.mono (by omega))
     have hb34:Below w2.heap.size W3 W4:=hs2.mono (by omega)
     have HG4:=hid (HG3.out.keep hb34)
     have HH4:=hid (show Laid5 W4.heap.size (pB4 b) (.slice A0 1 c0) (.slice (some ⟨w2.heap.size+1+1,0,none⟩) 2 2) W4 from
      ⟨Nat.le_refl _,(HG3.out.keep hb34).tab.mono (by omega),(HG3.out.keep hb34).ha.below (Below.refl _ _) (by omega),slF_two (by omega) hu4 (HPF.out.2.2.1.below hb24 (by omega)) (HPF.out.2.2.2.below hb24 (by omega)) (HPF.out.1.below hb24 (by omega)) (HPF.out.2.1.below hb24 (by omega))⟩)
     have HB4:=hid (HB3W.out.trans (hb34.mono (by omega)))
     have HX4:=hid hx4
     have HQ4:=hid hq4
     obtain⟨⟨i0,i1⟩,iz⟩:=zE hx4
     obtain⟨⟨j0,j1⟩,jz⟩:=zE hq4
     clear hs1 hsz hs2 hx4 hq4 hu4 hb24 hb34 p0 p1 q0 q1 pz qz y0 y1 y2 y3 z0 z1 z2 z3
     obtain⟨⟨r1,r2,r3⟩,hR⟩:∃ R,kC (ji b)=R:=⟨_,rfl⟩
     obtain⟨⟨t1,t2,t3⟩,hS⟩:∃ R,kC (pB4 b)=R:=⟨_,rfl⟩
     have hlaw:=order_law b HSM.out.ok
     rw[hR,hS]at hlaw
     simp only at hlaw
     have HRR:=hid hR
     have HSS:=hid hS
     clear hR hS
     obtain⟨rfl,hlaw⟩:=hlaw
     have hcase:r1=0∨r1≠0∧r2=0∧t2=1∧r3=t3:=by
      rcases hlaw with h | h
      · exact Or.inl h
      · by_cases h0:r1=0
        · exact Or.inl h0
        · exact Or.inr ⟨h0,h⟩
     clear hlaw
     rcases hcase with rfl | ⟨hr0,hr2,ht2,hr3⟩
     all_goals
      try have hne:(r1 == 0)=false:=by simp[hr0]
      try have hn2:((r2:Int) == 0)=true:=by simp[hr2]
      try have hn3:((t2:Int) == 1)=true:=by simp[ht2]
      try have hn4:(W64 r3 == W64 t3)=true:=by simp[hr3]
      try clear hr0 hr2 ht2 hr3
      go_wp2_with (first
       | (go_at_call 11;(with_reducible refine(HG4.out.chk3 HSM.out HRR.out).mono ?_);rintro e w5 ⟨rfl,hb⟩
          have hz5:w2.heap.size+1+1+1≤w5.heap.size:=by have:=hb.size;omega
          have hb5:Below w5.heap.size w5 (w5.alloc (qQ r2 (W64 r3))):=(Below.refl _ _).alloc (Nat.le_refl _) _
          have hx5:=heap_alloc_new w5 (qQ r2 (W64 r3))
          have hy5:=(hb5.block (w2.heap.size+1) (by omega)).trans ((hb.block (w2.heap.size+1) (by omega)).trans HQ4.out)
          obtain⟨⟨k0,k1⟩,kz⟩:=zE hy5
          have HH5:=hid ((HH4.out.below hb).below hb5)
          have HX5:=hid hx5
          have HB5:=hid (HB4.out.trans ((hb.trans (hb5.mono (by omega))).mono (by omega)))
          clear hb hb5 hx5 hy5)
       | (go_at_call 11;(with_reducible refine(HH5.out.chk3 (small_b HSM.out) HSS.out).mono ?_);rintro e w6 ⟨rfl,hb⟩
          have hz6:w5.heap.size+1≤w6.heap.size:=by have:=hb.size;simpa using this
          have hb6:Below w6.heap.size w6 (w6.alloc (qQ t2 (W64 t3))):=(Below.refl _ _).alloc (Nat.le_refl _) _
          have hx6:=(hb6.block w5.heap.size (by omega)).trans ((hb.block w5.heap.size (by simp)).trans HX5.out)
          obtain⟨⟨l0,l1⟩,lz⟩:=zE hx6
          have hy6:=heap_alloc_new w6 (qQ t2 (W64 t3))
          obtain⟨⟨m0,m1⟩,mz⟩:=zE hy6
          have HB6:=hid (HB5.out.trans ((hb.trans (hb6.mono (by simp;omega))).mono (by simp;omega)))
          clear hb hb6 hx6 hy6))
      all_goals go_ret
      all_goals exact⟨zD (by simp),HB6.out⟩
   · have hne:((p.funcs.length:Int) != 2)=true:=by simp;omega
     go_wp2_with (fail)
     go_ret
     exact⟨rfl,HB2.out⟩
 · have hne:(e1 != 0)=true:=by simp[he]
   go_wp2_with (fail)
   go_ret
   exact⟨rfl,HB2.out⟩
end Go.Proofs.YtndgkfkieogplaaDoor
