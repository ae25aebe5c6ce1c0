import Derived.Test.YtndgkfkieogplaaDoorAgParDo
import Derived.Test.YtndgkfkieogplaaDoorAgTyRt
import Derived.Test.YtndgkfkieogplaaDoorAgTyArg
set_option linter.unusedSimpArgs false
set_option linter.unusedVariables false
set_option maxRecDepth 100000
/- The developers' Type, and the law's typed. -/
namespace Go.Proofs.YtndgkfkieogplaaDoor
open Lib (hid)
open Go.RowKit
set_option maxHeartbeats 2000000 in
theorem type_any (m B:Nat) (p:Pr) (vars:List Pa) (e:Ex) (r:Int × Int) (x v0 v1 v:Value) (w:World) (h1:xU e m=true) (h2:Few p) (h3:zq p vars e=r) (hE:REnv B p vars v0 v1 v w) (hx:vB B w e x):
 Calls Tryd.prog 32 #[.agg #[v0,v1],v,x] w fun e w'=>e=.returned (.tuple #[.int .i64 r.1,.int .i64 r.2])∧Below w.heap.size w w':=by
 obtain⟨A0,c0,A1,c1,A2,c2,rfl,rfl,rfl⟩:=hE.form
 obtain⟨va,rfl,hn,hs⟩:=hx
 obtain⟨A,c,rfl,hl⟩:=hs.form
 have HX:=hid (show vB B w e _ from⟨_,rfl,hn,hs⟩)
 have hB:=hE.hB
 have HE:=hid hE
 have HP:=hid h2
 have HR:=hid h3
 have H1:=hid h1
 clear hE h2 h3 h1 hn hs hl
 go_enter Tryd.func32,Tryd.ntmps32
 go_upto_region 1 with(fail)
 have hsz:((w.alloc (ze A0 p.arrays.length c0 A1 p.funcs.length c1)).alloc (xA e.kind e.op e.n e.name A e.args.length c)).heap.size=w.heap.size+1+1:=by simp
 have hbw:Below w.heap.size w ((w.alloc (ze A0 p.arrays.length c0 A1 p.funcs.length c1)).alloc (xA e.kind e.op e.n e.name A e.args.length c)):=((Below.refl _ _).alloc (Nat.le_refl _) _).alloc (by simp) _
 have hx0:((w.alloc (ze A0 p.arrays.length c0 A1 p.funcs.length c1)).alloc (xA e.kind e.op e.n e.name A e.args.length c)).heap[w.heap.size]? =some (ze A0 p.arrays.length c0 A1 p.funcs.length c1):=(Below.heap_alloc _ _ _ (by simp)).trans (heap_alloc_new w _)
 have hx1:((w.alloc (ze A0 p.arrays.length c0 A1 p.funcs.length c1)).alloc (xA e.kind e.op e.n e.name A e.args.length c)).heap[w.heap.size+1]? =some (xA e.kind e.op e.n e.name A e.args.length c):=by simpa using heap_alloc_new (w.alloc (ze A0 p.arrays.length c0 A1 p.funcs.length c1)) (xA e.kind e.op e.n e.name A e.args.length c)
 generalize ((w.alloc (ze A0 p.arrays.length c0 A1 p.funcs.length c1)).alloc (xA e.kind e.op e.n e.name A e.args.length c))=W2 at *
 obtain⟨⟨p0,p1⟩,pz⟩:=zE hx0
 obtain⟨e0,e1,e2,e3,e4⟩:=qP hx1
 have hs0:w.heap.size<W2.heap.size:=by omega
 have hs1:w.heap.size+1<W2.heap.size:=by omega
 have HBW:=hid hbw
 have HSZ:=hid hsz
 have HE2:=hid (HE.out.below (hbw.mono hB))
 clear hbw hx0 hx1
 first
 | (go_region_held3 (fun w'=>w'.cell? ⟨w.heap.size,0,none⟩=some (.slice A0 p.arrays.length c0)∧w'.cell? ⟨w.heap.size,1,none⟩=some (.slice A1 p.funcs.length c1)∧w'.cell? ⟨w.heap.size+1,0,none⟩=some (.int .i64 e.kind)∧w'.cell? ⟨w.heap.size+1,1,none⟩=some (.int .i64 e.op)∧w'.cell? ⟨w.heap.size+1,2,none⟩=some (.int .i64 e.n)∧w'.cell? ⟨w.heap.size+1,3,none⟩=some (.string e.name)∧w'.cell? ⟨w.heap.size+1,4,none⟩=some (.slice A e.args.length c))
     (first
       | (refine⟨?_,?_,?_,?_,?_,?_,?_⟩ <;> (first | assumption | ((first | rw[hq4 _ _ (by assumption)] | rw[hq3 _ _ (by assumption)]);assumption)))
       | go_keep)
     (first
       | (go_at_call 52
          (refine(xZ W2.drew 0 0 B (.pointer none) (.pointer none) [] vars _ (Nat.zero_le _) HE2.out.hB (ui.nil _ _) (Nat.zero_le _) (Seg.none _ _ _ _ (Nat.le_refl _)) (HE2.out.hv.below (Below.refl _ _).drew (Nat.le_refl _))).mono ?_)
          rintro x w3 ⟨v',rfl,hs3,hb3⟩
          obtain⟨qv,rfl⟩:=(hs3.fin (ui.nil _ _)).form
          have hb3':Below W2.heap.size W2 w3:=(Below.refl _ _).drew.trans hb3
          have hz3:W2.heap.size≤w3.heap.size:=hb3'.size
          have hq3:∀ k x,k<W2.heap.size→w3.cell? ⟨k,x,none⟩=W2.cell? ⟨k,x,none⟩:=fun k x h=>hb3'.cell (p:=⟨k,x,none⟩) h
          have HB3:=hid (HBW.out.trans (hb3'.mono (by omega)))
          have HE3:=hid (show Env B 0 p vars (.slice A0 p.arrays.length c0) (.slice A1 p.funcs.length c1) (.pointer qv) w3 from⟨by omega,Nat.zero_le _,HE.out.ha.below ((HBW.out.trans (hb3'.mono (by omega))).mono hB) (Nat.le_refl _),HE.out.hf.below ((HBW.out.trans (hb3'.mono (by omega))).mono hB) (Nat.le_refl _),by rw[List.append_nil]at hs3;exact hs3⟩)
          clear hs3 hb3 hb3')
       | (go_at_call 57
          (refine(TyC.call (xm m) H1.out HP.out HR.out HE3.out ((show vB B w3 e _ from by
            obtain⟨v9,h8,h9,h10⟩:=HX.out
            exact⟨v9,h8,h9,h10.below (HB3.out.mono hB) (Nat.le_refl _)⟩))).mono ?_)
          rintro x w4 ⟨rfl,hb4⟩
          have hq4:∀ k x,k<W2.heap.size→w4.cell? ⟨k,x,none⟩=W2.cell? ⟨k,x,none⟩:=fun k x h=>(hb4.cell (p:=⟨k,x,none⟩) (by show k<w3.heap.size;omega)).trans (hq3 k x h)
          have HB4:=hid (HB3.out.trans (hb4.mono (by omega)))
          clear hb4)))
 | fail
 all_goals go_wp2_with (fail)
 all_goals go_ret2
 all_goals exact⟨rfl,HB4.out⟩
theorem parse_ex {B:Nat} {w:World} (s:ByteArray) (ht:TreeTab B w) (hB:B≤w.heap.size) (hs:s.size≤500):Calls Tryd.prog 8 #[.string s] w fun x w'=>∃ (p:Pr) (e:Int) (ln:Nat) (A0:Option Addr) (c0:Nat) (A1:Option Addr) (c1:Nat),x=.returned (.tuple #[.agg #[.slice A0 p.arrays.length c0,.slice A1 p.funcs.length c1],.int .i64 e,.int .i64 (ln:Int)])∧(e=0→Small p)∧Below w.heap.size w w'∧Laid5 w'.heap.size p (.slice A0 p.arrays.length c0) (.slice A1 p.funcs.length c1) w':=by
 obtain⟨p,e,ln,hd⟩:∃ p e ln,kS s=(p,e,ln):=⟨_,_,_,rfl⟩
 refine(xu s ht hB hd).mono ?_
 rintro x w' ⟨A0,c0,A1,c1,rfl,hb,hg⟩
 exact⟨p,e,ln,A0,c0,A1,c1,rfl,fun h=>y8 hs (by rw[hd,h]),hb,hg⟩
theorem size3 {a b c:ByteArray} (ha:a.size≤100) (hc:c.size≤10) (hb:b.size≤300):((a++b)++c).size≤500:=by
 rw[ByteArray.size_append,ByteArray.size_append];omega
theorem list_two {α:Type} {l:List α} (h:l.length=2):∃ a b,l=[a,b]:=by
 match l,h with
 | [a,b],_=>exact⟨a,b,rfl⟩
theorem list_one {α:Type} {l:List α} (h:l.length=1):∃ a,l=[a]:=by
 match l,h with
 | [a],_=>exact⟨a,rfl⟩
theorem ret_args {p:Pr} {f:Fu} {ty:Int} {nm:ByteArray} {args:List Ex} {thn els:List St} (h:prOK p=true) (hf:f ∈ p.funcs) (hb:f.body=[.mk 8 ty nm args thn els]):∃ x,args=[x]∧xU x 100=true:=by
 have h1:=(kl h hf).1
 rw[hb,kR,Bool.and_eq_true,kL]at h1
 simp only[Bool.and_eq_true]at h1
 obtain⟨⟨⟨⟨⟨_,h2⟩,h3⟩,_⟩,_⟩,_⟩:=h1
 have h4:args.length=1:=by
  unfold zX at h2
  simp at h2
  omega
 obtain⟨x,rfl⟩:=list_one h4
 rw[qD,Bool.and_eq_true]at h3
 exact⟨x,rfl,h3.1⟩
set_option maxHeartbeats 4000000 in
theorem ltyped_any (B:Nat) (s:ByteArray) (l:List Pa) (v:Value) (w:World) (ht:TreeTab B w) (hB:B≤w.heap.size) (hs:s.size≤300) (hv:SlP w.heap.size w v l):
 Calls Tryd.prog 15 #[.string s,v] w fun e w'=>e=.returned (.bool true)∧Below w.heap.size w w':=by
 obtain⟨A2,c2,rfl,hl⟩:=hv.form
 have HT:=hid ht
 have HV:=hid hv
 clear ht hv
 go_enter Tryd.func15,Tryd.ntmps15
 go_upto_region 2 with(go_at_call 8;(with_reducible refine(parse_ex _ HT.out hB (by exact size3 (of_decide_eq_true (by kernel_rfl)) (of_decide_eq_true (by kernel_rfl)) hs)).mono ?_)
                       rintro e w1 ⟨p,e1,ln,A0,c0,A1,c1,rfl,hsm,hb,hg⟩
                       have hz1:w.heap.size≤w1.heap.size:=hb.size
                       have hb2:Below w1.heap.size w1 (w1.alloc (ze A0 p.arrays.length c0 A1 p.funcs.length c1)):=(Below.refl _ _).alloc (Nat.le_refl _) _
                       have HG:=hid (hg.below hb2)
                       have HX:=hid (heap_alloc_new w1 (ze A0 p.arrays.length c0 A1 p.funcs.length c1))
                       have HB:=hid (hb.trans (hb2.mono (by omega)))
                       have HSZ:=hid (show (w1.alloc (ze A0 p.arrays.length c0 A1 p.funcs.length c1)).heap.size=w1.heap.size+1 from zA _ _)
                       clear hb hg hb2)
 by_cases he:e1=0
 · subst he
   have HSM:=hid (hsm rfl)
   clear hsm
   by_cases hl2:p.funcs.length=2
   · obtain⟨f0,f1,hff⟩:=list_two hl2
     obtain⟨g,o,a1,b1,rfl,hg1,z0,z1,z2,z3,z4,z5⟩:=HG.out.hf.cells (show p.funcs[1]? =some f1 by rw[hff];rfl)
     obtain⟨A3,c3,rfl,hn3⟩:=z5.form
     simp only[Nat.one_mul]at z3
     clear z0 z1 z2 z4
     rw[hl2]at HX HG HB HSZ z3
     have z5':=z5
     rw[hl2]at z5'
     simp only[hl2]
     have hmem:f1 ∈ p.funcs:=by rw[hff];simp
     have hgs:g<w1.heap.size:=hg1
     obtain⟨⟨p0,p1⟩,pz⟩:=zE HX.out
     generalize w1.alloc (ze A0 p.arrays.length c0 (some ⟨g,o,none⟩) 2 c1)=W1 at *
     have hgW:g<W1.heap.size:=by rw[HSZ.out];omega
     have hwW:w1.heap.size<W1.heap.size:=by rw[HSZ.out];omega
     by_cases hb1:f1.body.length=1
     · obtain⟨⟨k,ty,nm,args,thn,els⟩,hst⟩:=list_one hb1
       obtain⟨g2,o2,v3,v4,v5,rfl,hg2,y0,y1,y2,y3,y4,y5,se,_,_⟩:=z5'.cells (show f1.body[0]? =some (.mk k ty nm args thn els) by rw[hst];rfl)
       obtain⟨A4,c4,rfl,hn4⟩:=se.form
       simp only[Nat.zero_mul,Nat.add_zero]at y0 y3
       rw[hb1]at z3
       have hg2W:g2<W1.heap.size:=by rw[HSZ.out];omega
       clear y1 y2 y4 y5 z5 z5'
       by_cases hk:k=8
       · subst hk
         obtain⟨⟨k2,op,n,name,xs⟩,rfl,hok⟩:=ret_args HSM.out.ok hmem hst
         obtain⟨g3,o3,v6,rfl,hg3,x0,x1,x2,x3,x4,se2⟩:=se.cells (show [Ex.mk k2 op n name xs][0]? =some (.mk k2 op n name xs) from rfl)
         have hrg:=se.range (show [Ex.mk k2 op n name xs][0]? =some (.mk k2 op n name xs) from rfl)
         obtain⟨A5,c5,rfl,hn5⟩:=se2.form
         simp only[Nat.zero_mul,Nat.add_zero]at x0 x1 x2 x3 x4
         have hg3W:g3<W1.heap.size:=by rw[HSZ.out];omega
         obtain⟨⟨r1,r2⟩,hr⟩:∃ r,zq p l (.mk k2 op n name xs)=r:=⟨_,rfl⟩
         have HR:=hid hr
         have HFEW:=hid (few_of HSM.out.ok)
         have HOK:=hid hok
         have HEX:=hid (show vB w1.heap.size W1 (.mk k2 op n name xs) (.agg #[.int .i64 k2,.int .i64 op,.int .i64 n,.string name,.slice A5 xs.length c5]) from⟨_,rfl,hrg,se2⟩)
         have HEN:=hid (show REnv w1.heap.size p l (.slice A0 p.arrays.length c0) (.slice (some ⟨g,o,none⟩) p.funcs.length c1) (.slice A2 l.length c2) W1 from⟨HG.out.hB,HG.out.ha,by rw[hl2];exact HG.out.hf,HV.out.below HB.out hz1⟩)
         rw[hl2]at HEN
         clear se se2 hr hok hrg hst hff hmem
         go_upto_region 5 with(fail)
         have hbA:Below W1.heap.size W1 (W1.alloc (xA k2 op n name A5 xs.length c5)):=(Below.refl _ _).alloc (Nat.le_refl _) _
         have hsA:(W1.alloc (xA k2 op n name A5 xs.length c5)).heap.size=W1.heap.size+1:=zA _ _
         have HXA0:=hid ((hbA.block w1.heap.size hwW).trans HX.out)
         have HXA1:=hid (heap_alloc_new W1 (xA k2 op n name A5 xs.length c5))
         have HENA:=hid (HEN.out.below (hbA.mono (Nat.le_of_lt hwW)))
         have HEXA:=hid (show vB w1.heap.size (W1.alloc (xA k2 op n name A5 xs.length c5)) (.mk k2 op n name xs) (.agg #[.int .i64 k2,.int .i64 op,.int .i64 n,.string name,.slice A5 xs.length c5]) from by
          obtain⟨v9,h8,h9,h10⟩:=HEX.out
          exact⟨v9,h8,h9,h10.below (hbA.mono (Nat.le_of_lt hwW)) (Nat.le_refl _)⟩)
         have HBA:=hid (HB.out.trans (hbA.mono HB.out.size))
         have hzA:w.heap.size≤W1.heap.size:=HB.out.size
         obtain⟨⟨q0,q1⟩,qz⟩:=zE HXA0.out
         obtain⟨e0,e1,e2,e3,e4⟩:=qP HXA1.out
         generalize W1.alloc (xA k2 op n name A5 xs.length c5)=WA at *
         have hsA0:w1.heap.size<WA.heap.size:=by omega
         have hsA1:W1.heap.size<WA.heap.size:=by omega
         clear hbA p0 p1 pz z3 y0 y3 x0 x1 x2 x3 x4
         go_wp2_with (first
          | (go_at_call 32
             (with_reducible refine(type_any 100 w1.heap.size p l (.mk k2 op n name xs) (r1,r2) _ _ _ _ WA HOK.out HFEW.out HR.out HENA.out HEXA.out).mono ?_)
             rintro x w2 ⟨rfl,hb⟩
             have hz2:WA.heap.size≤w2.heap.size:=hb.size
             have HX20:=(hb.block w1.heap.size hsA0).trans HXA0.out
             have HX21:=(hb.block W1.heap.size hsA1).trans HXA1.out
             obtain⟨⟨u0,u1⟩,uz⟩:=zE HX20
             obtain⟨f0,f1,f2,f3,f4⟩:=qP HX21
             have hs20:w1.heap.size<w2.heap.size:=by omega
             have hs21:W1.heap.size<w2.heap.size:=by omega
             have HEN2:=hid (HENA.out.below (hb.mono (by omega)))
             have HEX2:=hid (show vB w1.heap.size w2 (.mk k2 op n name xs) (.agg #[.int .i64 k2,.int .i64 op,.int .i64 n,.string name,.slice A5 xs.length c5]) from by
              obtain⟨v9,h8,h9,h10⟩:=HEXA.out
              exact⟨v9,h8,h9,h10.below (hb.mono (by omega)) (Nat.le_refl _)⟩)
             have HB2:=hid (HBA.out.trans (hb.mono (by omega)))
             clear hb HX20 HX21)
          | (go_at_call 33
             (with_reducible refine(RTC.call (rtype_all 100) HOK.out HFEW.out HR.out HEN2.out HEX2.out).mono ?_)
             rintro x w3 ⟨rfl,hb⟩
             have HB3:=hid (HB2.out.trans (hb.mono (by omega)))
             clear hb))
         go_ret
         exact⟨zD (by simp),HB3.out⟩
       · have hne:(k != 8)=true:=by simp[hk]
         go_wp2_with (fail)
         go_ret
         exact⟨rfl,HB.out⟩
     · have hne:((f1.body.length:Int) != 1)=true:=by simp;omega
       go_wp2_with (fail)
       go_ret
       exact⟨rfl,HB.out⟩
   · have hne:((p.funcs.length:Int) != 2)=true:=by simp;omega
     go_wp2_with (fail)
     go_ret
     exact⟨rfl,HB.out⟩
 · have hne:(e1 != 0)=true:=by simp[he]
   go_wp2_with (fail)
   go_ret
   exact⟨rfl,HB.out⟩
def ParamsIn (w:World) (v:Value):Prop:=∃ A n c,v=.slice A n c∧n≤9223372036854775807∧(n≤10→∃ l:List Pa,l.length=n∧SlP w.heap.size w v l)
abbrev fourO:Obj:=.cells #[.string ⟨#[120]⟩,.int .i64 1,.string ⟨#[98]⟩,.int .i64 1,.string ⟨#[98]⟩,.int .i64 2,.string ⟨#[121]⟩,.int .i64 2] 44
def fourP:List Pa:=[⟨⟨#[120]⟩,1⟩,⟨⟨#[98]⟩,1⟩,⟨⟨#[98]⟩,2⟩,⟨⟨#[121]⟩,2⟩]
theorem slP_four {w:World} {b B:Nat} (h:w.heap[b]? =some fourO) (hb:b<B):SlP B w (.slice (some ⟨b,0,none⟩) 4 4) fourP:=
 ⟨⟨some ⟨b,0,none⟩,4,rfl,by decide,fun _=>⟨b,0,rfl,⟨⟨hb,(Lib.cell_of_heap h 0).trans rfl⟩,⟨hb,(Lib.cell_of_heap h 1).trans rfl⟩⟩,⟨⟨hb,(Lib.cell_of_heap h 2).trans rfl⟩,⟨hb,(Lib.cell_of_heap h 3).trans rfl⟩⟩,⟨⟨hb,(Lib.cell_of_heap h 4).trans rfl⟩,⟨hb,(Lib.cell_of_heap h 5).trans rfl⟩⟩,⟨⟨hb,(Lib.cell_of_heap h 6).trans rfl⟩,⟨hb,(Lib.cell_of_heap h 7).trans rfl⟩⟩,trivial⟩⟩,fun A n c e=>by injection e with _ e1 e2;omega⟩
abbrev twO:Obj:=.cells #[.string ⟨#[120]⟩,.string ⟨#[49]⟩,.string ⟨#[116,114,117,101]⟩,.string ⟨#[43]⟩,.string ⟨#[60]⟩,.string ⟨#[61,61]⟩,.string ⟨#[38,38]⟩,.string ⟨#[33]⟩,.string ⟨#[45]⟩,.string ⟨#[40]⟩,.string ⟨#[41]⟩,.string ⟨#[97,91]⟩,.string ⟨#[93]⟩,.string ⟨#[102,40]⟩,.string ⟨#[44]⟩,.string ⟨#[98]⟩,.string ⟨#[105,56,40]⟩,.string ⟨#[121]⟩,.string ⟨#[103,40]⟩,.string ⟨#[114,101,97,100,40,41]⟩] 9
def twS:List ByteArray:=[⟨#[120]⟩,⟨#[49]⟩,⟨#[116,114,117,101]⟩,⟨#[43]⟩,⟨#[60]⟩,⟨#[61,61]⟩,⟨#[38,38]⟩,⟨#[33]⟩,⟨#[45]⟩,⟨#[40]⟩,⟨#[41]⟩,⟨#[97,91]⟩,⟨#[93]⟩,⟨#[102,40]⟩,⟨#[44]⟩,⟨#[98]⟩,⟨#[105,56,40]⟩,⟨#[121]⟩,⟨#[103,40]⟩,⟨#[114,101,97,100,40,41]⟩]
theorem tw_at (w:World) {j:Nat} (h:j<20):∃ u:ByteArray,u.size≤6∧(w.alloc twO).cell? ⟨w.heap.size,j,none⟩=some (.string u):=by
 have key:∀ j,j<20→(match twS[j]? with | some s=>decide (s.size≤6) | none=>false)=true:=by decide+kernel
 have k:=key j h
 cases h1:twS[j]? with
 | none=>rw[h1]at k;cases k
 | some u=>
   rw[h1]at k
   refine⟨u,of_decide_eq_true k,(Lib.cell_of_heap (show (w.alloc twO).heap[w.heap.size]? =some (.cells (twS.map Value.string).toArray 9) from heap_alloc_new w twO) j).trans ?_⟩
   rw[List.getElem?_toArray,List.getElem?_map,h1]
   rfl
set_option maxHeartbeats 8000000 in
theorem ltypes_any (B:Nat) (s:ByteArray) (v vv:Value) (w:World) (ht:TreeTab B w) (hB:B≤w.heap.size) (hv:xx w v) (hvv:ParamsIn w vv):
 Calls Tryd.prog 4 #[.string s,v,vv] w fun e w'=>e=.returned (.bool true)∧Below w.heap.size w w':=by
 obtain⟨A,n,c,rfl,hn,hc⟩:=hv
 obtain⟨A1,n1,c1,rfl,hn1,hP⟩:=hvv
 have HC:=hid (show ∀ k,k<n→∃ b off,A=some ⟨b,off,none⟩∧b<w.heap.size∧∃ z:Int,0≤z∧z≤255∧w.cell? ⟨b,off+k,none⟩=some (.int .u8 z) from fun k hk=>by
  obtain⟨b,off,hA,hb,h⟩:=hc (by omega)
  exact⟨b,off,hA,hb,h k hk⟩)
 have HT:=hid ht
 have HPV:=hid hP
 clear hc ht hP
 go_enter Tryd.func4,Tryd.ntmps4
 go_wp2_with (fail)
 go_loopw [7,8] (fun tv iv wr=>∃ (k:Nat) (t:ByteArray),k≤n∧k≤14∧iv=.int .i64 k∧tv=.string t∧t.size≤6 * k∧Below w.heap.size w wr) (fun _ iv _=>14-(intOf iv).toNat)
 case atStart=>exact⟨0,_,Nat.zero_le _,by omega,rfl,rfl,by decide,Below.refl _ _⟩
 case round=>
  obtain⟨k,t,hk,hk14,rfl,rfl,htz,hbw⟩:=hrel
  have hwz:=hbw.size
  have HBW:=hid hbw
  clear hbw
  by_cases hgo:k<n∧k<14
  · obtain⟨hlt,h14⟩:=hgo
    obtain⟨b,off,rfl,hbs,z,hz0,hz255,hz⟩:=HC.out k hlt
    replace hz:=(HBW.out.cell (p:=⟨b,off+k,none⟩) hbs).trans hz
    have hbr:b<wr.heap.size:=by omega
    have hj0:0≤z % (20 :Int):=Int.emod_nonneg _ (by omega)
    have hjm:z % (20 :Int)<20:=Int.emod_lt_of_pos _ (by omega)
    obtain⟨u,hu,hcu⟩:=tw_at wr (j:=(z % (20 :Int)).toNat) (by omega)
    go_wp2
    go_round
    case rel=>exact⟨k+1,_,by omega,by omega,by go_num,rfl,by rw[ByteArray.size_append];omega,HBW.out.alloc hwz _⟩
    case measure=>simp[intOf];omega
  · have hend:k=n∨(k<n∧k=14):=by omega
    have hzw:w.heap.size≤wr.heap.size:=hwz
    have hBr:B≤wr.heap.size:=by omega
    have HTR:=hid (HT.out.below (HBW.out.mono hB))
    rcases hend with rfl | ⟨hlt,rfl⟩
    all_goals
     by_cases hs:s.size≤200
     case neg=>
      go_wp2_with (go_at_call 10;(with_reducible refine(jw B wr HTR.out hBr).mono ?_);rintro e w2 ⟨rfl,hb⟩
                   have HB2:=hid (HBW.out.trans (hb.mono hzw))
                   clear hb)
      go_ret
      exact⟨rfl,HB2.out⟩
     case pos=>
      by_cases h10:n1≤10
      case neg=>
       go_wp2_with (go_at_call 10;(with_reducible refine(jw B wr HTR.out hBr).mono ?_);rintro e w2 ⟨rfl,hb⟩
                    have HB2:=hid (HBW.out.trans (hb.mono hzw))
                    clear hb)
       go_ret
       exact⟨rfl,HB2.out⟩
      case pos=>
       obtain⟨l,hl,hsp⟩:=HPV.out h10
       have HSP:=hid hsp
       clear hsp
       go_wp2_with (first
        | (go_at_call 10;(with_reducible refine(jw B wr HTR.out hBr).mono ?_);rintro e w2 ⟨rfl,hb⟩
           have hz2:wr.heap.size≤w2.heap.size:=hb.size
           have HB2:=hid (HBW.out.trans (hb.mono hzw))
           clear hb)
        | (go_at_call 15;(with_reducible refine(ltyped_any B s l (.slice A1 n1 c1) w2 (HT.out.below (HB2.out.mono hB)) (by omega) (by omega) (HSP.out.below HB2.out (by omega))).mono ?_);rintro e w3 ⟨rfl,hb⟩
           have hz3:w2.heap.size≤w3.heap.size:=hb.size
           have HB3:=hid (HB2.out.trans (hb.mono (by omega)))
           clear hb)
        | (go_at_call 15;(with_reducible refine(ltyped_any B t l (.slice A1 n1 c1) w3 (HT.out.below (HB3.out.mono hB)) (by omega) (by omega) (HSP.out.below HB3.out (by omega))).mono ?_);rintro e w4 ⟨rfl,hb⟩
           have hz4:w3.heap.size≤w4.heap.size:=hb.size
           have HB4:=hid (HB3.out.trans (hb.mono (by omega)))
           clear hb)
        | (go_at_call 15
           have hzf:(w4.alloc fourO).heap.size=w4.heap.size+1:=zA _ _
           have HBf:=hid (HB4.out.alloc (by omega) fourO)
           (with_reducible refine(ltyped_any B t fourP (.slice (some ⟨w4.heap.size,0,none⟩) 4 4) (w4.alloc fourO) (HT.out.below (HBf.out.mono hB)) (by omega) (by omega) (slP_four (heap_alloc_new w4 fourO) (by omega))).mono ?_);rintro e w5 ⟨rfl,hb⟩
           have HB5:=hid (HBf.out.trans (hb.mono (by omega)))
           clear hb))
       go_ret
       exact⟨rfl,HB5.out⟩
end Go.Proofs.YtndgkfkieogplaaDoor
