import Derived.Test.YtfghofifjnbicaaGreatDoorAhZed
import Derived.Test.YtfghofifjnbicaaGreatDoorAhTyEnd
import Derived.Test.YtfghofifjnbicaaGreatDoorAhTokScan
import Derived.Maps.OwnSet
import Derived.WalkKit
import Derived.StringKeys
set_option linter.unusedSimpArgs false
set_option linter.unusedVariables false
set_option maxRecDepth 100000
/- Lists of statements, as package types checks them: the plain part; how a program and variables stay where the checker's own block alone is written. -/
namespace Go.Proofs.YtfghofifjnbicaaGreatDoor
open Lib (hid)
open Go.RowKit
def W64 (n:Nat):Int:=IntKind.wrap .i64 (n:Int)
theorem w64_succ (n:Nat):IntKind.wrap .i64 (W64 n+1)=W64 (n+1):=by
 unfold W64;simp only[IntKind.wrap,IntKind.bits,IntKind.signed];simp;omega
theorem qt {b B L:Nat} {w w':World} (h:OffB b B w w') (hC:L≤B) (hb:L≤b):Below L w w':=by
 have g:Below B (hole b w) (hole b w'):=h;exact⟨g.os,g.tape,g.output,h.size,fun k hk=>h.block (by omega) (by omega)⟩
theorem Env.off {B C b:Nat} {p:Pr} {vars:List Pa} {v0 v1 v:Value} {w w':World} (h:Env B C p vars v0 v1 v w) (ho:OffB b w.heap.size w w') (hB:B≤b) (hC:b<C):Env B C p vars v0 v1 v w' where
 hB:=Nat.le_trans h.hB ho.size
 hC:=Nat.le_trans h.hC ho.size
 ha:=h.ha.below (qt ho h.hB hB) Zr
 hf:=h.hf.below (qt ho h.hB hB) Zr
 hs:=(h.hs.keep fun g hg hl=>ho.block hl (by omega)).up ho.size
theorem fin_off {b C:Nat} {u:Value} {w w':World} {cs:Array Value} (h:vd w C u) (ho:OffB b w.heap.size w w') (hC:C≤w.heap.size) (hb:w.heap[b]? =some (.cells cs 126 (0,0))):vd w' C u:=
 h.keep fun g hg ⟨ds,hd⟩=>ho.block (by omega) fun e=>by
  subst e;rw[hb]at hd;injection hd with hd;injection hd with _ hd _;exact absurd hd (by decide)
theorem kj (p:Pr) (vars:List Pa) (a:Ex) (t:Int):jh p vars [a] t=q7 p vars a t:=by
 rw[jh,jh];split <;> simp_all
theorem argsT_two (p:Pr) (vars:List Pa) (a c:Ex) (t:Int):jh p vars [a,c] t=if q7 p vars a t=0 then q7 p vars c t else q7 p vars a t:=by
 rw[jh,kj];split <;> simp_all
theorem formS_ten {k ty:Int} {name:ByteArray} {a b c:Nat} {ic:Bool} (h:zZ k ty name a b c ic=true):k=1∨k=2∨k=3∨k=4∨k=5∨k=6∨k=7∨k=8∨k=9∨k=10:=by
 by_cases h':k=1∨k=2∨k=3∨k=4∨k=5∨k=6∨k=7∨k=8∨k=9∨k=10
 · exact h'
 · exfalso
   unfold zZ at h;rw[if_neg (by omega),if_neg (by omega),if_neg (by omega),if_neg (by omega),if_neg (by omega),if_neg (by omega),if_neg (by omega),if_neg (by omega)]at h;cases h
theorem own_stm {p:Pr} {vars:List Pa} {ft k ty:Int} {name:ByteArray} {args:List Ex} {frm b c:Nat} {loop ic:Bool} (hf:zZ k ty name args.length b c ic=true) (hk:k≠1):qh p ft k ty name args vars frm loop=jD p vars ft k ty name args loop:=by
 rcases formS_ten hf with rfl | rfl | rfl | rfl | rfl | rfl | rfl | rfl | rfl | rfl
 · exact absurd rfl hk
 · obtain⟨a,rfl⟩:∃ a,args=[a]:=by simp[zZ]at hf;exact List.length_eq_one_iff.1 hf.1.1.2
   simp only[qh,jD,kj];cases z5 vars name <;> simp
 · obtain⟨a,d,rfl⟩:∃ a d,args=[a,d]:=by
    simp[zZ]at hf
    match args,hf.1.1.2 with
    | [a,d],_=>exact⟨a,d,rfl⟩
   simp[qh,jD,argsT_two]
 · obtain⟨a,rfl⟩:∃ a,args=[a]:=by simp[zZ]at hf;exact List.length_eq_one_iff.1 hf.2
   simp[qh,jD,kj]
 · obtain⟨a,rfl⟩:∃ a,args=[a]:=by simp[zZ]at hf;exact List.length_eq_one_iff.1 hf.1.2
   simp[qh,jD,kj]
 · simp[qh,jD]
 · simp[qh,jD]
 · obtain⟨a,rfl⟩:∃ a,args=[a]:=by simp[zZ]at hf;exact List.length_eq_one_iff.1 hf.1.1.2
   simp[qh,jD,kj]
 · obtain⟨a,rfl⟩:∃ a,args=[a]:=by simp[zZ]at hf;exact List.length_eq_one_iff.1 hf.1.1.2
   simp[qh,jD,kj]
 · simp[qh,jD]
theorem own_let {p:Pr} {vars:List Pa} {ft ty:Int} {name:ByteArray} {args:List Ex} {frm b c:Nat} {loop ic:Bool} (hf:zZ 1 ty name args.length b c ic=true):
 qh p ft 1 ty name args vars frm loop=if jD p vars ft 1 ty name args loop≠0 then jD p vars ft 1 ty name args loop else if (z5 (vars.drop frm) name).isSome then 50 else 0:=by
 obtain⟨a,rfl⟩:∃ a,args=[a]:=by simp[zZ]at hf;exact List.length_eq_one_iff.1 hf.1.1.2
 simp[qh,jD,kj]
theorem own_cases {p:Pr} {vars:List Pa} {ft k ty:Int} {name:ByteArray} {args:List Ex} {frm b c:Nat} {loop ic:Bool} (hf:zZ k ty name args.length b c ic=true):
 qh p ft k ty name args vars frm loop=if jD p vars ft k ty name args loop≠0 then jD p vars ft k ty name args loop else if k=1∧(z5 (vars.drop frm) name).isSome=true then 50 else 0:=by
 by_cases hk:k=1
 · subst hk
   rw[own_let hf];simp
 · rw[own_stm hf hk]
   by_cases h:jD p vars ft k ty name args loop=0
   · simp[h,hk]
   · simp[h]
def LsPost (b:Nat) (w:World) (v0 v1:Value) (ft:Int) (R:Int × Nat) (e:Ending) (w':World):Prop:=
 e=.returned (.int .i64 R.1)∧OffB b w.heap.size w w'∧w'.heap[b]? =some (ckO v0 v1 ft (W64 R.2))
def LsC (m:Nat):Prop:=∀ (B C b:Nat) (p:Pr) (vars:List Pa) (l:List St) (loop:Bool) (n:Nat) (R:Int × Nat) (vl v0 v1 v:Value) (ft:Int) (w:World),
 z8 l m=true→ui p→zd p ft l vars vars.length loop n=R→Env B C p vars v0 v1 v w→B≤b→b<C→w.heap[b]? =some (ckO v0 v1 ft (W64 n))→SlS B w vl l→
 Calls Tryz.prog 74 #[.pointer (some ⟨b,0,none⟩),vl,v,.bool loop] w (LsPost b w v0 v1 ft R)
theorem LsC.call {m:Nat} (h:LsC m) {B C b:Nat} {p:Pr} {vars:List Pa} {l:List St} {loop:Bool} {n:Nat} {R:Int × Nat} {vl v0 v1 v:Value} {ft:Int} {w:World}
 (h1:z8 l m=true) (h2:ui p) (h3:zd p ft l vars vars.length loop n=R) (h4:Env B C p vars v0 v1 v w) (h5:B≤b) (h6:b<C) (h7:w.heap[b]? =some (ckO v0 v1 ft (W64 n))) (h8:SlS B w vl l):
 Calls Tryz.prog 74 #[.pointer (some ⟨b,0,none⟩),vl,v,.bool loop] w (LsPost b w v0 v1 ft R):=h B C b p vars l loop n R vl v0 v1 v ft w h1 h2 h3 h4 h5 h6 h7 h8
theorem chk_own {p:Pr} {ft k ty:Int} {name:ByteArray} {args:List Ex} {thn els r:List St} {vars:List Pa} {frm n:Nat} {loop:Bool} {e:Int} (h:qh p ft k ty name args vars frm loop=e) (he:e≠0):zd p ft (.mk k ty name args thn els :: r) vars frm loop n=(e,n):=by
 rw[zd,chkS,h,if_pos he,if_pos he]
theorem xt {p:Pr} {ft k ty:Int} {name:ByteArray} {args:List Ex} {thn els r:List St} {vars:List Pa} {frm n:Nat} {loop:Bool} {R:Int × Nat} (h:qh p ft k ty name args vars frm loop=0) (h1:zd p ft thn (jp k ty name vars) (jp k ty name vars).length (loop || decide (k=5)) (n+1)=R) (hR:R.1≠0):zd p ft (.mk k ty name args thn els :: r) vars frm loop n=R:=by
 have e:chkS p ft (.mk k ty name args thn els) vars frm loop n=R:=by rw[chkS,h,if_neg (show ¬ (0 :Int)≠0 by decide),h1,if_pos hR]
 rw[zd,e,if_pos hR]
theorem xu {p:Pr} {ft k ty:Int} {name:ByteArray} {args:List Ex} {thn els r:List St} {vars:List Pa} {frm n n1:Nat} {loop:Bool} {R:Int × Nat} (h:qh p ft k ty name args vars frm loop=0) (h1:zd p ft thn (jp k ty name vars) (jp k ty name vars).length (loop || decide (k=5)) (n+1)=(0,n1)) (h2:zd p ft els (jp k ty name vars) (jp k ty name vars).length loop n1=R) (hR:R.1≠0):zd p ft (.mk k ty name args thn els :: r) vars frm loop n=R:=by
 have e:chkS p ft (.mk k ty name args thn els) vars frm loop n=R:=by rw[chkS,h,if_neg (show ¬ (0 :Int)≠0 by decide),h1,if_neg (show ¬ (0 :Int)≠0 by decide),h2]
 rw[zd,e,if_pos hR]
theorem vJ {p:Pr} {ft k ty:Int} {name:ByteArray} {args:List Ex} {thn els r:List St} {vars:List Pa} {frm n n1 n2:Nat} {loop:Bool} (h:qh p ft k ty name args vars frm loop=0) (h1:zd p ft thn (jp k ty name vars) (jp k ty name vars).length (loop || decide (k=5)) (n+1)=(0,n1)) (h2:zd p ft els (jp k ty name vars) (jp k ty name vars).length loop n1=(0,n2)):zd p ft (.mk k ty name args thn els :: r) vars frm loop n=zd p ft r (jp k ty name vars) frm loop n2:=by
 have e:chkS p ft (.mk k ty name args thn els) vars frm loop n=(0,n2):=by rw[chkS,h,if_neg (show ¬ (0 :Int)≠0 by decide),h1,if_neg (show ¬ (0 :Int)≠0 by decide),h2]
 rw[zd,e,if_neg (show ¬ (0 :Int)≠0 by decide),letS]
structure Lst (B C b:Nat) (p:Pr) (vX:List Pa) (v0 v1 v:Value) (ft:Int) (n:Nat) (w:World) (m:Nat) (so:Obj) (thn els:List St) (v4 v5:Value) (u:Value) (new:List Pa) (W:World):Prop where
 off:OffB b w.heap.size w W
 row:W.heap[b]? =some (ckO v0 v1 ft (W64 n))
 env:Env B C p vX v0 v1 v W
 box:W.heap[m]? =some so
 s4:SlS B W v4 thn
 s5:SlS B W v5 els
 seg:Seg W w.heap.size u W.heap.size v new.reverse
 ne:m≠b
 hB:B≤b
 hC:b<C
 hb:b<w.heap.size
section
variable {B C b:Nat} {p:Pr} {vX:List Pa} {v0 v1 v:Value} {ft:Int} {n:Nat} {w:World} {m:Nat} {so:Obj} {thn els:List St} {v4 v5:Value} {u:Value} {new:List Pa} {W W':World}
theorem Lst.step (h:Lst B C b p vX v0 v1 v ft n w m so thn els v4 v5 u new W) (ho:OffB b W.heap.size W W') {n':Nat} (hb:W'.heap[b]? =some (ckO v0 v1 ft (W64 n'))):Lst B C b p vX v0 v1 v ft n' w m so thn els v4 v5 u new W' where
 off:=h.off.trans (ho.mono h.off.size)
 row:=hb
 env:=h.env.off ho h.hB h.hC
 box:=(ho.block (zB h.box) h.ne).trans h.box
 s4:=h.s4.below (qt ho h.env.hB h.hB) Zr
 s5:=h.s5.below (qt ho h.env.hB h.hB) Zr
 seg:=(h.seg.keep fun g hg hl=>ho.block hl (by have:=h.hb;omega)).up ho.size
 ne:=h.ne
 hB:=h.hB
 hC:=h.hC
 hb:=h.hb
theorem Lst.set (h:Lst B C b p vX v0 v1 v ft n w m so thn els v4 v5 u new W):Lst B C b p vX v0 v1 v ft (n+1) w m so thn els v4 v5 u new (W.setCell ⟨b,3,none⟩ (.int .i64 (W64 (n+1)))):=
 h.step ((OffB.refl b _ W).setb (zB h.row) 3 _) (Lib.heap_setCell_same h.row _)
theorem Lst.below (h:Lst B C b p vX v0 v1 v ft n w m so thn els v4 v5 u new W) (ho:Below W.heap.size W W'):Lst B C b p vX v0 v1 v ft n w m so thn els v4 v5 u new W':=
 h.step (OffB.of_below ho (zB h.row)) ((ho.block b (zB h.row)).trans h.row)
end
theorem vh {w:World} {b B:Nat} {s:ByteArray} {t:Int} {T:TypeId} {fr:Nat × Nat} (hb:w.heap[b]? =some (.cells #[.string s,.int .i64 t] T fr)) (hB:b<B):SlP B w (.slice (some ⟨b,0,none⟩) 1 1) [⟨s,t⟩]:=
 ⟨⟨_,1,rfl,by simp,fun _=>⟨b,0,rfl,⟨⟨xc hb hB _ _ rfl,xc hb hB _ _ rfl⟩,trivial⟩⟩⟩,fun A n c h=>by injection h with _ h1 h2;omega⟩
set_option maxHeartbeats 8000000 in
theorem list_step (m:Nat) (ih:∀ m',m'+1=m→LsC m'):LsC m:=by
 intro B C b p vars l loop n R vl v0 v1 v ft w hok hp hR hE hBb hbC hb hl;obtain⟨A0,c0,A1,c1,q,rfl,rfl,rfl⟩:=hE.form;obtain⟨A,c,rfl,hn⟩:=hl.form;have hbl:=zB hb;have HE:=hid hE;have HBB:=hid hb;have HL:=hid hl;have HOK:=hid hok;have HP:=hid hp;have HR:=hid hR;have HI:=hid ih;clear hE hb hl hok hp hR ih;go_enter Tryz.func74,Tryz.ntmps74;go_wp2_with (fail)
 go_loopw [9,18] (fun vv iv wr=>∃ (j nj:Nat) (new:List Pa),j≤l.length∧iv=.int .i64 j∧zd p ft (l.drop j) (vars++new) vars.length loop nj=R∧Seg wr w.heap.size (.pointer q) wr.heap.size vv new.reverse∧OffB b w.heap.size w wr∧wr.heap[b]? =some (ckO (.slice A0 p.arrays.length c0) (.slice A1 p.funcs.length c1) ft (W64 nj))) (fun _ iv _=>l.length-(intOf iv).toNat)
 case atStart=>exact⟨0,n,[],Nat.zero_le _,rfl,by rw[List.append_nil];exact HR.out,Seg.none _ _ _ _ Zr,OffB.refl _ _ _,HBB.out⟩
 case round=>
  obtain⟨j,nj,new,hj,rfl,hT,hseg,hoff,hbr⟩:=hrel;have hsz:=hoff.size;have hEw:=HE.out.off hoff hBb hbC;have hUw:=fin_off (HE.out.hs.fin (vd.nil _ _)) hoff Zr HBB.out;obtain⟨qv,rfl⟩:=(hseg.fin hUw).form;have hEr:Env B C p (vars++new) (.slice A0 p.arrays.length c0) (.slice A1 p.funcs.length c1) (.pointer qv) wr:=⟨hEw.hB,hEw.hC,hEw.ha,hEw.hf,by rw[List.reverse_append];exact hseg.join (HE.out.hs.keep fun g hg hl=>hoff.block hl (by omega))⟩
  have hbs:b<wr.heap.size:=zB hbr;have HT:=hid hT;have HOFF:=hid hoff;have HBR:=hid hbr;have HSEG:=hid hseg;have HER:=hid hEr;have HUW:=hid hUw;clear hT hseg hEw hUw hEr;by_cases hlt:j<l.length
  · obtain⟨⟨k,ty,name,args,thn,els⟩,he⟩:∃ e,l[j]? =some e:=⟨_,List.getElem?_eq_getElem hlt⟩
    obtain⟨g,o,v3,v4,v5,rfl,hg,h0,h1,h2,h3,h4,h5,hs,hs4,hs5⟩:=(HL.out.below (qt hoff HE.out.hB hBb) Zr).cells he;obtain⟨A3,c3,rfl,_⟩:=hs.form;obtain⟨A4,c4,rfl,_⟩:=hs4.form;obtain⟨A5,c5,rfl,_⟩:=hs5.form;have HE_:=hid he;have hgs:g<wr.heap.size:=by have:=HER.out.hB;omega
    have hst:=yQ HOK.out he;rw[ja]at hst;simp only[Bool.and_eq_true,decide_eq_true_eq]at hst;obtain⟨m',rfl⟩:∃ m',m=m'+1:=⟨m-1,by omega⟩
    rw[Nat.add_sub_cancel]at hst;have HIH:=hid (HI.out m' rfl);have HO4:=hid hst.1.2;have HO5:=hid hst.2;have HO3:=hid hst.1.1.2;have HFS:=hid hst.1.1.1.2;have hb1:Below wr.heap.size wr (wr.alloc (qC k ty name (.slice A3 args.length c3) (.slice A4 thn.length c4) (.slice A5 els.length c5))):=Zb.alloc Zr _;have HW1:=hid hb1;have HE1:=hid (HER.out.below hb1);have HBB1:=hid ((hb1.block b hbs).trans hbr);have HS3:=hid (hs.below (hb1.mono HER.out.hB) Zr);have HS4:=hid hs4;have HS5:=hid hs5;have hdd:=HT.out;rw[jv he]at hdd;have HDD:=hid hdd;obtain⟨e1,he1⟩:∃ e,jD p (vars++new) ft k ty name args loop=e:=⟨_,rfl⟩
    have HE1_:=hid he1;have hoc:=own_cases (p:=p) (vars:=vars++new) (ft:=ft) (frm:=vars.length) (loop:=loop) hst.1.1.1.2;rw[he1,List.drop_left]at hoc;have HOC:=hid hoc;clear he hs hs4 hs5 hst hb1 hdd he1 hoc hoff hbr;by_cases he0:e1=0
    case neg=>
     go_wp2_with (go_at_call 90;(with_reducible refine(jE B C b p (vars++new) ty name args _ _ _ _ _ _ _ _ _ _ _ _ ft (W64 nj) _ _ _ HFS.out HE1_.out HE1.out HBB1.out HS3.out HO3.out HP.out).mono ?_);rintro e w2 ⟨rfl,hb2⟩
                  have hx2:Below wr.heap.size wr w2:=HW1.out.trans (hb2.mono (by rw[zA];omega));have hm2:=zQ ((hb2.block wr.heap.size (by rw[zA];omega)).trans (heap_alloc_new wr _));obtain⟨m0,m1,m2,m3,m4,m5⟩:=hm2;have HM2:=hid ((hb2.block wr.heap.size (by rw[zA];omega)).trans (heap_alloc_new wr (qC k ty name (.slice A3 args.length c3) (.slice A4 thn.length c4) (.slice A5 els.length c5))));have hs2:wr.heap.size<w2.heap.size:=by have:=hb2.size;rw[zA]at this;omega
                  have HX2:=hid (And.intro (HOFF.out.trans ((OffB.of_below hx2 hbs).mono hsz)) ((hx2.block b hbs).trans HBR.out));obtain⟨⟨b0,b1,b2,b3⟩,bz⟩:=zI ((hx2.block b hbs).trans HBR.out);have hbs2:b<w2.heap.size:=by omega
                  have HS2:=hid ((HSEG.out.below hx2).up hx2.size);have HU2:=hid (HUW.out.keep (w':=w2) fun g hg _=>hx2.block g (by omega));have HE2:=hid (HER.out.below hx2);have HY2:=hid hx2;have HL2:=hid (show Lst B C b p (vars++new) (.slice A0 p.arrays.length c0) (.slice A1 p.funcs.length c1) (.pointer qv) ft nj w wr.heap.size (qC k ty name (.slice A3 args.length c3) (.slice A4 thn.length c4) (.slice A5 els.length c5)) thn els (.slice A4 thn.length c4) (.slice A5 els.length c5) (.pointer q) new w2 from⟨HX2.out.1,HX2.out.2,HE2.out,HM2.out,HS4.out.below (hx2.mono HER.out.hB) Zr,HS5.out.below (hx2.mono HER.out.hB) Zr,HS2.out,by omega,hBb,hbC,hbl⟩)
                  clear hx2 hb2)
     go_ret;have hR1:=chk_own (p:=p) (r:=l.drop (j+1)) (thn:=thn) (els:=els) (n:=nj) (HOC.out.trans (if_pos he0)) he0;rw[HDD.out]at hR1;subst hR1;exact⟨rfl,HX2.out.1,HX2.out.2⟩
    case pos=>
     subst he0;by_cases hk1:k=1
     case pos=>
      subst hk1;obtain⟨o1,ho1⟩:∃ o,z5 new name=o:=⟨_,rfl⟩
      have HV:=hid ((kh name new).symm.trans ho1);cases o1 with
      | some t=>
        go_wp2_with (first
         | (go_at_call 90;(with_reducible refine(jE B C b p (vars++new) ty name args _ _ _ _ _ _ _ _ _ _ _ _ ft (W64 nj) _ _ _ HFS.out HE1_.out HE1.out HBB1.out HS3.out HO3.out HP.out).mono ?_);rintro e w2 ⟨rfl,hb2⟩
            have hx2:Below wr.heap.size wr w2:=HW1.out.trans (hb2.mono (by rw[zA];omega));have hm2:=zQ ((hb2.block wr.heap.size (by rw[zA];omega)).trans (heap_alloc_new wr _));obtain⟨m0,m1,m2,m3,m4,m5⟩:=hm2;have HM2:=hid ((hb2.block wr.heap.size (by rw[zA];omega)).trans (heap_alloc_new wr (qC 1 ty name (.slice A3 args.length c3) (.slice A4 thn.length c4) (.slice A5 els.length c5))));have hs2:wr.heap.size<w2.heap.size:=by have:=hb2.size;rw[zA]at this;omega
            have HX2:=hid (And.intro (HOFF.out.trans ((OffB.of_below hx2 hbs).mono hsz)) ((hx2.block b hbs).trans HBR.out));obtain⟨⟨b0,b1,b2,b3⟩,bz⟩:=zI ((hx2.block b hbs).trans HBR.out);have hbs2:b<w2.heap.size:=by omega
            have HS2:=hid ((HSEG.out.below hx2).up hx2.size);have HU2:=hid (HUW.out.keep (w':=w2) fun g hg _=>hx2.block g (by omega));have HE2:=hid (HER.out.below hx2);have HY2:=hid hx2;have HL2:=hid (show Lst B C b p (vars++new) (.slice A0 p.arrays.length c0) (.slice A1 p.funcs.length c1) (.pointer qv) ft nj w wr.heap.size (qC 1 ty name (.slice A3 args.length c3) (.slice A4 thn.length c4) (.slice A5 els.length c5)) thn els (.slice A4 thn.length c4) (.slice A5 els.length c5) (.pointer q) new w2 from⟨HX2.out.1,HX2.out.2,HE2.out,HM2.out,HS4.out.below (hx2.mono HER.out.hB) Zr,HS5.out.below (hx2.mono HER.out.hB) Zr,HS2.out,by omega,hBb,hbC,hbl⟩)
            clear hx2 hb2)
         | (go_at_call 91;(with_reducible refine(jg _ w.heap.size _ _ _ _ name Zr HU2.out HS2.out).mono ?_);rintro e w9 ⟨hfp,rfl⟩
            have hfq:∃ g,e=.returned (.pointer (some ⟨g,0,none⟩)):=by
             rw[HV.out]at hfp;obtain⟨g,h,_⟩:=hfp;exact⟨g,h⟩
            clear hfp
            obtain⟨gv,rfl⟩:=hfq))
        go_ret;have hR1:=chk_own (p:=p) (r:=l.drop (j+1)) (thn:=thn) (els:=els) (n:=nj) (e:=(50 :Int)) (HOC.out.trans (by rw[ho1];simp)) (by decide);rw[HDD.out]at hR1;subst hR1;exact⟨rfl,HX2.out.1,HX2.out.2⟩
      | none=>
        have hadd:=w64_succ nj;have HVX:=hid (show jp 1 ty name (vars++new)=vars++(new++[⟨name,ty⟩]) by unfold jp;rw[if_pos rfl,List.append_assoc]);have HOW:=hid (show qh p ft 1 ty name args (vars++new) vars.length loop=0 from HOC.out.trans (by rw[ho1];simp));clear ho1;cases loop
        · obtain⟨⟨r2,n2⟩,hR2⟩:∃ R,zd p ft thn (vars++(new++[(⟨name,ty⟩:Pa)])) (vars++(new++[(⟨name,ty⟩:Pa)])).length false (nj+1)=R:=⟨_,rfl⟩
          have HR2:=hid hR2;clear hR2;by_cases h2:r2=0
          case neg=>
           go_wp2_with (first
            | (go_at_call 90;(with_reducible refine(jE B C b p (vars++new) ty name args _ _ _ _ _ _ _ _ _ _ _ _ ft (W64 nj) _ _ _ HFS.out HE1_.out HE1.out HBB1.out HS3.out HO3.out HP.out).mono ?_);rintro e w2 ⟨rfl,hb2⟩
               have hx2:Below wr.heap.size wr w2:=HW1.out.trans (hb2.mono (by rw[zA];omega));have hm2:=zQ ((hb2.block wr.heap.size (by rw[zA];omega)).trans (heap_alloc_new wr _));obtain⟨m0,m1,m2,m3,m4,m5⟩:=hm2;have HM2:=hid ((hb2.block wr.heap.size (by rw[zA];omega)).trans (heap_alloc_new wr (qC 1 ty name (.slice A3 args.length c3) (.slice A4 thn.length c4) (.slice A5 els.length c5))));have hs2:wr.heap.size<w2.heap.size:=by have:=hb2.size;rw[zA]at this;omega
               have HX2:=hid (And.intro (HOFF.out.trans ((OffB.of_below hx2 hbs).mono hsz)) ((hx2.block b hbs).trans HBR.out));obtain⟨⟨b0,b1,b2,b3⟩,bz⟩:=zI ((hx2.block b hbs).trans HBR.out);have hbs2:b<w2.heap.size:=by omega
               have HS2:=hid ((HSEG.out.below hx2).up hx2.size);have HU2:=hid (HUW.out.keep (w':=w2) fun g hg _=>hx2.block g (by omega));have HE2:=hid (HER.out.below hx2);have HY2:=hid hx2;have HL2:=hid (show Lst B C b p (vars++new) (.slice A0 p.arrays.length c0) (.slice A1 p.funcs.length c1) (.pointer qv) ft nj w wr.heap.size (qC 1 ty name (.slice A3 args.length c3) (.slice A4 thn.length c4) (.slice A5 els.length c5)) thn els (.slice A4 thn.length c4) (.slice A5 els.length c5) (.pointer q) new w2 from⟨HX2.out.1,HX2.out.2,HE2.out,HM2.out,HS4.out.below (hx2.mono HER.out.hB) Zr,HS5.out.below (hx2.mono HER.out.hB) Zr,HS2.out,by omega,hBb,hbC,hbl⟩)
               clear hx2 hb2)
            | (go_at_call 91;(with_reducible refine(jg _ w.heap.size _ _ _ _ name Zr HU2.out HS2.out).mono ?_);rintro e w9 ⟨hfp,rfl⟩
               have hfq:e=.returned (.pointer none):=by
                rw[HV.out]at hfp;exact hfp
               clear hfp
               subst hfq)
            | (go_at_call 75
               have hw2:Below w2.heap.size w2 (w2.alloc (.cells #[.string name,.int .i64 ty] 47)):=Zb.alloc Zr _
               (with_reducible refine(kz (w2.alloc (.cells #[.string name,.int .i64 ty] 47)) w.heap.size w2.heap.size (w2.heap.size+1) (.pointer q) _ new.reverse [⟨name,ty⟩] _ (by rw[zA];omega) (by rw[zA];omega) (HU2.out.keep fun g hg _=>hw2.block g (by have:=HX2.out.1.size;omega)) (by rw[zA];have:=HX2.out.1.size;omega) (HS2.out.below hw2) (vh (heap_alloc_new w2 _) (by omega))).mono ?_)
               rintro e w3 ⟨v',rfl,hs3,hb3⟩;have hx3:Below w2.heap.size w2 w3:=hw2.trans (hb3.mono (by rw[zA];omega));have hu3:=HU2.out.keep (w':=w3) fun g hg _=>hx3.block g (by have:=HX2.out.1.size;omega)
               obtain⟨qv3,rfl⟩:=(hs3.fin hu3).form;have hl3:=HL2.out.below hx3;have HL3:=hid (show Lst B C b p (vars++(new++[⟨name,ty⟩])) (.slice A0 p.arrays.length c0) (.slice A1 p.funcs.length c1) (.pointer qv3) ft nj w wr.heap.size (qC 1 ty name (.slice A3 args.length c3) (.slice A4 thn.length c4) (.slice A5 els.length c5)) thn els (.slice A4 thn.length c4) (.slice A5 els.length c5) (.pointer q) (new++[⟨name,ty⟩]) w3 from⟨hl3.off,hl3.row,⟨hl3.env.hB,hl3.env.hC,hl3.env.ha,hl3.env.hf,by rw[List.reverse_append,List.reverse_append];exact hs3.join (HE.out.hs.keep fun g hg hl=>hl3.off.block hl (by omega))⟩,hl3.box,hl3.s4,hl3.s5,by rw[List.reverse_append];exact hs3,hl3.ne,hl3.hB,hl3.hC,hl3.hb⟩);obtain⟨⟨b0,b1,b2,b3⟩,bz⟩:=zI hl3.row;obtain⟨m0,m1,m2,m3,m4,m5⟩:=zQ hl3.box;have hs3z:wr.heap.size<w3.heap.size:=zB hl3.box;have hbs3:b<w3.heap.size:=zB hl3.row
               clear hw2 hs3 hb3 hx3 hu3 hl3)
            | (go_at_call 74
               (with_reducible refine(HIH.out.call HO4.out HP.out HR2.out (HL3.out.set).env hBb hbC (HL3.out.set).row (HL3.out.set).s4).mono ?_)
               rintro e w5 ⟨rfl,ho5,hb5⟩;have h5:=(HL3.out.set).step ho5 hb5;obtain⟨⟨b0,b1,b2,b3⟩,bz⟩:=zI h5.row;obtain⟨m0,m1,m2,m3,m4,m5⟩:=zQ h5.box;have hs5z:wr.heap.size<w5.heap.size:=zB h5.box;have H5:=hid h5
               clear ho5 hb5 h5))
           go_ret;have hR1:=xt (p:=p) (r:=l.drop (j+1)) (els:=els) (n:=nj) (R:=(r2,n2)) HOW.out (by rw[HVX.out];exact HR2.out) h2;rw[HDD.out]at hR1;subst hR1;exact⟨rfl,H5.out.off,H5.out.row⟩
          case pos=>
           subst h2;obtain⟨⟨r3,n3⟩,hR3⟩:∃ R,zd p ft els (vars++(new++[(⟨name,ty⟩:Pa)])) (vars++(new++[(⟨name,ty⟩:Pa)])).length false n2=R:=⟨_,rfl⟩
           have HR3:=hid hR3;clear hR3;by_cases h3:r3=0
           case neg=>
            go_wp2_with (first
             | (go_at_call 90;(with_reducible refine(jE B C b p (vars++new) ty name args _ _ _ _ _ _ _ _ _ _ _ _ ft (W64 nj) _ _ _ HFS.out HE1_.out HE1.out HBB1.out HS3.out HO3.out HP.out).mono ?_);rintro e w2 ⟨rfl,hb2⟩
                have hx2:Below wr.heap.size wr w2:=HW1.out.trans (hb2.mono (by rw[zA];omega));have hm2:=zQ ((hb2.block wr.heap.size (by rw[zA];omega)).trans (heap_alloc_new wr _));obtain⟨m0,m1,m2,m3,m4,m5⟩:=hm2;have HM2:=hid ((hb2.block wr.heap.size (by rw[zA];omega)).trans (heap_alloc_new wr (qC 1 ty name (.slice A3 args.length c3) (.slice A4 thn.length c4) (.slice A5 els.length c5))));have hs2:wr.heap.size<w2.heap.size:=by have:=hb2.size;rw[zA]at this;omega
                have HX2:=hid (And.intro (HOFF.out.trans ((OffB.of_below hx2 hbs).mono hsz)) ((hx2.block b hbs).trans HBR.out));obtain⟨⟨b0,b1,b2,b3⟩,bz⟩:=zI ((hx2.block b hbs).trans HBR.out);have hbs2:b<w2.heap.size:=by omega
                have HS2:=hid ((HSEG.out.below hx2).up hx2.size);have HU2:=hid (HUW.out.keep (w':=w2) fun g hg _=>hx2.block g (by omega));have HE2:=hid (HER.out.below hx2);have HY2:=hid hx2;have HL2:=hid (show Lst B C b p (vars++new) (.slice A0 p.arrays.length c0) (.slice A1 p.funcs.length c1) (.pointer qv) ft nj w wr.heap.size (qC 1 ty name (.slice A3 args.length c3) (.slice A4 thn.length c4) (.slice A5 els.length c5)) thn els (.slice A4 thn.length c4) (.slice A5 els.length c5) (.pointer q) new w2 from⟨HX2.out.1,HX2.out.2,HE2.out,HM2.out,HS4.out.below (hx2.mono HER.out.hB) Zr,HS5.out.below (hx2.mono HER.out.hB) Zr,HS2.out,by omega,hBb,hbC,hbl⟩)
                clear hx2 hb2)
             | (go_at_call 91;(with_reducible refine(jg _ w.heap.size _ _ _ _ name Zr HU2.out HS2.out).mono ?_);rintro e w9 ⟨hfp,rfl⟩
                have hfq:e=.returned (.pointer none):=by
                 rw[HV.out]at hfp;exact hfp
                clear hfp
                subst hfq)
             | (go_at_call 75
                have hw2:Below w2.heap.size w2 (w2.alloc (.cells #[.string name,.int .i64 ty] 47)):=Zb.alloc Zr _
                (with_reducible refine(kz (w2.alloc (.cells #[.string name,.int .i64 ty] 47)) w.heap.size w2.heap.size (w2.heap.size+1) (.pointer q) _ new.reverse [⟨name,ty⟩] _ (by rw[zA];omega) (by rw[zA];omega) (HU2.out.keep fun g hg _=>hw2.block g (by have:=HX2.out.1.size;omega)) (by rw[zA];have:=HX2.out.1.size;omega) (HS2.out.below hw2) (vh (heap_alloc_new w2 _) (by omega))).mono ?_)
                rintro e w3 ⟨v',rfl,hs3,hb3⟩;have hx3:Below w2.heap.size w2 w3:=hw2.trans (hb3.mono (by rw[zA];omega));have hu3:=HU2.out.keep (w':=w3) fun g hg _=>hx3.block g (by have:=HX2.out.1.size;omega)
                obtain⟨qv3,rfl⟩:=(hs3.fin hu3).form;have hl3:=HL2.out.below hx3;have HL3:=hid (show Lst B C b p (vars++(new++[⟨name,ty⟩])) (.slice A0 p.arrays.length c0) (.slice A1 p.funcs.length c1) (.pointer qv3) ft nj w wr.heap.size (qC 1 ty name (.slice A3 args.length c3) (.slice A4 thn.length c4) (.slice A5 els.length c5)) thn els (.slice A4 thn.length c4) (.slice A5 els.length c5) (.pointer q) (new++[⟨name,ty⟩]) w3 from⟨hl3.off,hl3.row,⟨hl3.env.hB,hl3.env.hC,hl3.env.ha,hl3.env.hf,by rw[List.reverse_append,List.reverse_append];exact hs3.join (HE.out.hs.keep fun g hg hl=>hl3.off.block hl (by omega))⟩,hl3.box,hl3.s4,hl3.s5,by rw[List.reverse_append];exact hs3,hl3.ne,hl3.hB,hl3.hC,hl3.hb⟩);obtain⟨⟨b0,b1,b2,b3⟩,bz⟩:=zI hl3.row;obtain⟨m0,m1,m2,m3,m4,m5⟩:=zQ hl3.box;have hs3z:wr.heap.size<w3.heap.size:=zB hl3.box;have hbs3:b<w3.heap.size:=zB hl3.row
                clear hw2 hs3 hb3 hx3 hu3 hl3)
             | (go_at_call 74
                (with_reducible refine(HIH.out.call HO4.out HP.out HR2.out (HL3.out.set).env hBb hbC (HL3.out.set).row (HL3.out.set).s4).mono ?_)
                rintro e w5 ⟨rfl,ho5,hb5⟩;have h5:=(HL3.out.set).step ho5 hb5;obtain⟨⟨b0,b1,b2,b3⟩,bz⟩:=zI h5.row;obtain⟨m0,m1,m2,m3,m4,m5⟩:=zQ h5.box;have hs5z:wr.heap.size<w5.heap.size:=zB h5.box;have H5:=hid h5
                clear ho5 hb5 h5)
             | (go_at_call 74
                (with_reducible refine(HIH.out.call HO5.out HP.out HR3.out H5.out.env hBb hbC H5.out.row H5.out.s5).mono ?_)
                rintro e w6 ⟨rfl,ho6,hb6⟩;have H6:=hid (H5.out.step ho6 hb6)
                clear ho6 hb6))
            go_ret;have hR1:=xu (p:=p) (r:=l.drop (j+1)) (n:=nj) (n1:=n2) (R:=(r3,n3)) HOW.out (by rw[HVX.out];exact HR2.out) (by rw[HVX.out];exact HR3.out) h3;rw[HDD.out]at hR1;subst hR1;exact⟨rfl,H6.out.off,H6.out.row⟩
           case pos=>
            subst h3
            go_wp2_with (first
             | (go_at_call 90;(with_reducible refine(jE B C b p (vars++new) ty name args _ _ _ _ _ _ _ _ _ _ _ _ ft (W64 nj) _ _ _ HFS.out HE1_.out HE1.out HBB1.out HS3.out HO3.out HP.out).mono ?_);rintro e w2 ⟨rfl,hb2⟩
                have hx2:Below wr.heap.size wr w2:=HW1.out.trans (hb2.mono (by rw[zA];omega));have hm2:=zQ ((hb2.block wr.heap.size (by rw[zA];omega)).trans (heap_alloc_new wr _));obtain⟨m0,m1,m2,m3,m4,m5⟩:=hm2;have HM2:=hid ((hb2.block wr.heap.size (by rw[zA];omega)).trans (heap_alloc_new wr (qC 1 ty name (.slice A3 args.length c3) (.slice A4 thn.length c4) (.slice A5 els.length c5))));have hs2:wr.heap.size<w2.heap.size:=by have:=hb2.size;rw[zA]at this;omega
                have HX2:=hid (And.intro (HOFF.out.trans ((OffB.of_below hx2 hbs).mono hsz)) ((hx2.block b hbs).trans HBR.out));obtain⟨⟨b0,b1,b2,b3⟩,bz⟩:=zI ((hx2.block b hbs).trans HBR.out);have hbs2:b<w2.heap.size:=by omega
                have HS2:=hid ((HSEG.out.below hx2).up hx2.size);have HU2:=hid (HUW.out.keep (w':=w2) fun g hg _=>hx2.block g (by omega));have HE2:=hid (HER.out.below hx2);have HY2:=hid hx2;have HL2:=hid (show Lst B C b p (vars++new) (.slice A0 p.arrays.length c0) (.slice A1 p.funcs.length c1) (.pointer qv) ft nj w wr.heap.size (qC 1 ty name (.slice A3 args.length c3) (.slice A4 thn.length c4) (.slice A5 els.length c5)) thn els (.slice A4 thn.length c4) (.slice A5 els.length c5) (.pointer q) new w2 from⟨HX2.out.1,HX2.out.2,HE2.out,HM2.out,HS4.out.below (hx2.mono HER.out.hB) Zr,HS5.out.below (hx2.mono HER.out.hB) Zr,HS2.out,by omega,hBb,hbC,hbl⟩)
                clear hx2 hb2)
             | (go_at_call 91;(with_reducible refine(jg _ w.heap.size _ _ _ _ name Zr HU2.out HS2.out).mono ?_);rintro e w9 ⟨hfp,rfl⟩
                have hfq:e=.returned (.pointer none):=by
                 rw[HV.out]at hfp;exact hfp
                clear hfp
                subst hfq)
             | (go_at_call 75
                have hw2:Below w2.heap.size w2 (w2.alloc (.cells #[.string name,.int .i64 ty] 47)):=Zb.alloc Zr _
                (with_reducible refine(kz (w2.alloc (.cells #[.string name,.int .i64 ty] 47)) w.heap.size w2.heap.size (w2.heap.size+1) (.pointer q) _ new.reverse [⟨name,ty⟩] _ (by rw[zA];omega) (by rw[zA];omega) (HU2.out.keep fun g hg _=>hw2.block g (by have:=HX2.out.1.size;omega)) (by rw[zA];have:=HX2.out.1.size;omega) (HS2.out.below hw2) (vh (heap_alloc_new w2 _) (by omega))).mono ?_)
                rintro e w3 ⟨v',rfl,hs3,hb3⟩;have hx3:Below w2.heap.size w2 w3:=hw2.trans (hb3.mono (by rw[zA];omega));have hu3:=HU2.out.keep (w':=w3) fun g hg _=>hx3.block g (by have:=HX2.out.1.size;omega)
                obtain⟨qv3,rfl⟩:=(hs3.fin hu3).form;have hl3:=HL2.out.below hx3;have HL3:=hid (show Lst B C b p (vars++(new++[⟨name,ty⟩])) (.slice A0 p.arrays.length c0) (.slice A1 p.funcs.length c1) (.pointer qv3) ft nj w wr.heap.size (qC 1 ty name (.slice A3 args.length c3) (.slice A4 thn.length c4) (.slice A5 els.length c5)) thn els (.slice A4 thn.length c4) (.slice A5 els.length c5) (.pointer q) (new++[⟨name,ty⟩]) w3 from⟨hl3.off,hl3.row,⟨hl3.env.hB,hl3.env.hC,hl3.env.ha,hl3.env.hf,by rw[List.reverse_append,List.reverse_append];exact hs3.join (HE.out.hs.keep fun g hg hl=>hl3.off.block hl (by omega))⟩,hl3.box,hl3.s4,hl3.s5,by rw[List.reverse_append];exact hs3,hl3.ne,hl3.hB,hl3.hC,hl3.hb⟩);obtain⟨⟨b0,b1,b2,b3⟩,bz⟩:=zI hl3.row;obtain⟨m0,m1,m2,m3,m4,m5⟩:=zQ hl3.box;have hs3z:wr.heap.size<w3.heap.size:=zB hl3.box;have hbs3:b<w3.heap.size:=zB hl3.row
                clear hw2 hs3 hb3 hx3 hu3 hl3)
             | (go_at_call 74
                (with_reducible refine(HIH.out.call HO4.out HP.out HR2.out (HL3.out.set).env hBb hbC (HL3.out.set).row (HL3.out.set).s4).mono ?_)
                rintro e w5 ⟨rfl,ho5,hb5⟩;have h5:=(HL3.out.set).step ho5 hb5;obtain⟨⟨b0,b1,b2,b3⟩,bz⟩:=zI h5.row;obtain⟨m0,m1,m2,m3,m4,m5⟩:=zQ h5.box;have hs5z:wr.heap.size<w5.heap.size:=zB h5.box;have H5:=hid h5
                clear ho5 hb5 h5)
             | (go_at_call 74
                (with_reducible refine(HIH.out.call HO5.out HP.out HR3.out H5.out.env hBb hbC H5.out.row H5.out.s5).mono ?_)
                rintro e w6 ⟨rfl,ho6,hb6⟩;have H6:=hid (H5.out.step ho6 hb6)
                clear ho6 hb6))
            go_roundw
            case rel=>
             have hR1:=vJ (p:=p) (r:=l.drop (j+1)) (n:=nj) (n1:=n2) (n2:=n3) HOW.out (by rw[HVX.out];exact HR2.out) (by rw[HVX.out];exact HR3.out);rw[HDD.out,HVX.out]at hR1;exact⟨j+1,n3,new++[(⟨name,ty⟩:Pa)],by omega,by go_num,hR1.symm,H6.out.seg,H6.out.off,H6.out.row⟩
            case measure=>simp[intOf];omega
        · obtain⟨⟨r2,n2⟩,hR2⟩:∃ R,zd p ft thn (vars++(new++[(⟨name,ty⟩:Pa)])) (vars++(new++[(⟨name,ty⟩:Pa)])).length true (nj+1)=R:=⟨_,rfl⟩
          have HR2:=hid hR2;clear hR2;by_cases h2:r2=0
          case neg=>
           go_wp2_with (first
            | (go_at_call 90;(with_reducible refine(jE B C b p (vars++new) ty name args _ _ _ _ _ _ _ _ _ _ _ _ ft (W64 nj) _ _ _ HFS.out HE1_.out HE1.out HBB1.out HS3.out HO3.out HP.out).mono ?_);rintro e w2 ⟨rfl,hb2⟩
               have hx2:Below wr.heap.size wr w2:=HW1.out.trans (hb2.mono (by rw[zA];omega));have hm2:=zQ ((hb2.block wr.heap.size (by rw[zA];omega)).trans (heap_alloc_new wr _));obtain⟨m0,m1,m2,m3,m4,m5⟩:=hm2;have HM2:=hid ((hb2.block wr.heap.size (by rw[zA];omega)).trans (heap_alloc_new wr (qC 1 ty name (.slice A3 args.length c3) (.slice A4 thn.length c4) (.slice A5 els.length c5))));have hs2:wr.heap.size<w2.heap.size:=by have:=hb2.size;rw[zA]at this;omega
               have HX2:=hid (And.intro (HOFF.out.trans ((OffB.of_below hx2 hbs).mono hsz)) ((hx2.block b hbs).trans HBR.out));obtain⟨⟨b0,b1,b2,b3⟩,bz⟩:=zI ((hx2.block b hbs).trans HBR.out);have hbs2:b<w2.heap.size:=by omega
               have HS2:=hid ((HSEG.out.below hx2).up hx2.size);have HU2:=hid (HUW.out.keep (w':=w2) fun g hg _=>hx2.block g (by omega));have HE2:=hid (HER.out.below hx2);have HY2:=hid hx2;have HL2:=hid (show Lst B C b p (vars++new) (.slice A0 p.arrays.length c0) (.slice A1 p.funcs.length c1) (.pointer qv) ft nj w wr.heap.size (qC 1 ty name (.slice A3 args.length c3) (.slice A4 thn.length c4) (.slice A5 els.length c5)) thn els (.slice A4 thn.length c4) (.slice A5 els.length c5) (.pointer q) new w2 from⟨HX2.out.1,HX2.out.2,HE2.out,HM2.out,HS4.out.below (hx2.mono HER.out.hB) Zr,HS5.out.below (hx2.mono HER.out.hB) Zr,HS2.out,by omega,hBb,hbC,hbl⟩)
               clear hx2 hb2)
            | (go_at_call 91;(with_reducible refine(jg _ w.heap.size _ _ _ _ name Zr HU2.out HS2.out).mono ?_);rintro e w9 ⟨hfp,rfl⟩
               have hfq:e=.returned (.pointer none):=by
                rw[HV.out]at hfp;exact hfp
               clear hfp
               subst hfq)
            | (go_at_call 75
               have hw2:Below w2.heap.size w2 (w2.alloc (.cells #[.string name,.int .i64 ty] 47)):=Zb.alloc Zr _
               (with_reducible refine(kz (w2.alloc (.cells #[.string name,.int .i64 ty] 47)) w.heap.size w2.heap.size (w2.heap.size+1) (.pointer q) _ new.reverse [⟨name,ty⟩] _ (by rw[zA];omega) (by rw[zA];omega) (HU2.out.keep fun g hg _=>hw2.block g (by have:=HX2.out.1.size;omega)) (by rw[zA];have:=HX2.out.1.size;omega) (HS2.out.below hw2) (vh (heap_alloc_new w2 _) (by omega))).mono ?_)
               rintro e w3 ⟨v',rfl,hs3,hb3⟩;have hx3:Below w2.heap.size w2 w3:=hw2.trans (hb3.mono (by rw[zA];omega));have hu3:=HU2.out.keep (w':=w3) fun g hg _=>hx3.block g (by have:=HX2.out.1.size;omega)
               obtain⟨qv3,rfl⟩:=(hs3.fin hu3).form;have hl3:=HL2.out.below hx3;have HL3:=hid (show Lst B C b p (vars++(new++[⟨name,ty⟩])) (.slice A0 p.arrays.length c0) (.slice A1 p.funcs.length c1) (.pointer qv3) ft nj w wr.heap.size (qC 1 ty name (.slice A3 args.length c3) (.slice A4 thn.length c4) (.slice A5 els.length c5)) thn els (.slice A4 thn.length c4) (.slice A5 els.length c5) (.pointer q) (new++[⟨name,ty⟩]) w3 from⟨hl3.off,hl3.row,⟨hl3.env.hB,hl3.env.hC,hl3.env.ha,hl3.env.hf,by rw[List.reverse_append,List.reverse_append];exact hs3.join (HE.out.hs.keep fun g hg hl=>hl3.off.block hl (by omega))⟩,hl3.box,hl3.s4,hl3.s5,by rw[List.reverse_append];exact hs3,hl3.ne,hl3.hB,hl3.hC,hl3.hb⟩);obtain⟨⟨b0,b1,b2,b3⟩,bz⟩:=zI hl3.row;obtain⟨m0,m1,m2,m3,m4,m5⟩:=zQ hl3.box;have hs3z:wr.heap.size<w3.heap.size:=zB hl3.box;have hbs3:b<w3.heap.size:=zB hl3.row
               clear hw2 hs3 hb3 hx3 hu3 hl3)
            | (go_at_call 74
               (with_reducible refine(HIH.out.call HO4.out HP.out HR2.out (HL3.out.set).env hBb hbC (HL3.out.set).row (HL3.out.set).s4).mono ?_)
               rintro e w5 ⟨rfl,ho5,hb5⟩;have h5:=(HL3.out.set).step ho5 hb5;obtain⟨⟨b0,b1,b2,b3⟩,bz⟩:=zI h5.row;obtain⟨m0,m1,m2,m3,m4,m5⟩:=zQ h5.box;have hs5z:wr.heap.size<w5.heap.size:=zB h5.box;have H5:=hid h5
               clear ho5 hb5 h5))
           go_ret;have hR1:=xt (p:=p) (r:=l.drop (j+1)) (els:=els) (n:=nj) (R:=(r2,n2)) HOW.out (by rw[HVX.out];exact HR2.out) h2;rw[HDD.out]at hR1;subst hR1;exact⟨rfl,H5.out.off,H5.out.row⟩
          case pos=>
           subst h2;obtain⟨⟨r3,n3⟩,hR3⟩:∃ R,zd p ft els (vars++(new++[(⟨name,ty⟩:Pa)])) (vars++(new++[(⟨name,ty⟩:Pa)])).length true n2=R:=⟨_,rfl⟩
           have HR3:=hid hR3;clear hR3;by_cases h3:r3=0
           case neg=>
            go_wp2_with (first
             | (go_at_call 90;(with_reducible refine(jE B C b p (vars++new) ty name args _ _ _ _ _ _ _ _ _ _ _ _ ft (W64 nj) _ _ _ HFS.out HE1_.out HE1.out HBB1.out HS3.out HO3.out HP.out).mono ?_);rintro e w2 ⟨rfl,hb2⟩
                have hx2:Below wr.heap.size wr w2:=HW1.out.trans (hb2.mono (by rw[zA];omega));have hm2:=zQ ((hb2.block wr.heap.size (by rw[zA];omega)).trans (heap_alloc_new wr _));obtain⟨m0,m1,m2,m3,m4,m5⟩:=hm2;have HM2:=hid ((hb2.block wr.heap.size (by rw[zA];omega)).trans (heap_alloc_new wr (qC 1 ty name (.slice A3 args.length c3) (.slice A4 thn.length c4) (.slice A5 els.length c5))));have hs2:wr.heap.size<w2.heap.size:=by have:=hb2.size;rw[zA]at this;omega
                have HX2:=hid (And.intro (HOFF.out.trans ((OffB.of_below hx2 hbs).mono hsz)) ((hx2.block b hbs).trans HBR.out));obtain⟨⟨b0,b1,b2,b3⟩,bz⟩:=zI ((hx2.block b hbs).trans HBR.out);have hbs2:b<w2.heap.size:=by omega
                have HS2:=hid ((HSEG.out.below hx2).up hx2.size);have HU2:=hid (HUW.out.keep (w':=w2) fun g hg _=>hx2.block g (by omega));have HE2:=hid (HER.out.below hx2);have HY2:=hid hx2;have HL2:=hid (show Lst B C b p (vars++new) (.slice A0 p.arrays.length c0) (.slice A1 p.funcs.length c1) (.pointer qv) ft nj w wr.heap.size (qC 1 ty name (.slice A3 args.length c3) (.slice A4 thn.length c4) (.slice A5 els.length c5)) thn els (.slice A4 thn.length c4) (.slice A5 els.length c5) (.pointer q) new w2 from⟨HX2.out.1,HX2.out.2,HE2.out,HM2.out,HS4.out.below (hx2.mono HER.out.hB) Zr,HS5.out.below (hx2.mono HER.out.hB) Zr,HS2.out,by omega,hBb,hbC,hbl⟩)
                clear hx2 hb2)
             | (go_at_call 91;(with_reducible refine(jg _ w.heap.size _ _ _ _ name Zr HU2.out HS2.out).mono ?_);rintro e w9 ⟨hfp,rfl⟩
                have hfq:e=.returned (.pointer none):=by
                 rw[HV.out]at hfp;exact hfp
                clear hfp
                subst hfq)
             | (go_at_call 75
                have hw2:Below w2.heap.size w2 (w2.alloc (.cells #[.string name,.int .i64 ty] 47)):=Zb.alloc Zr _
                (with_reducible refine(kz (w2.alloc (.cells #[.string name,.int .i64 ty] 47)) w.heap.size w2.heap.size (w2.heap.size+1) (.pointer q) _ new.reverse [⟨name,ty⟩] _ (by rw[zA];omega) (by rw[zA];omega) (HU2.out.keep fun g hg _=>hw2.block g (by have:=HX2.out.1.size;omega)) (by rw[zA];have:=HX2.out.1.size;omega) (HS2.out.below hw2) (vh (heap_alloc_new w2 _) (by omega))).mono ?_)
                rintro e w3 ⟨v',rfl,hs3,hb3⟩;have hx3:Below w2.heap.size w2 w3:=hw2.trans (hb3.mono (by rw[zA];omega));have hu3:=HU2.out.keep (w':=w3) fun g hg _=>hx3.block g (by have:=HX2.out.1.size;omega)
                obtain⟨qv3,rfl⟩:=(hs3.fin hu3).form;have hl3:=HL2.out.below hx3;have HL3:=hid (show Lst B C b p (vars++(new++[⟨name,ty⟩])) (.slice A0 p.arrays.length c0) (.slice A1 p.funcs.length c1) (.pointer qv3) ft nj w wr.heap.size (qC 1 ty name (.slice A3 args.length c3) (.slice A4 thn.length c4) (.slice A5 els.length c5)) thn els (.slice A4 thn.length c4) (.slice A5 els.length c5) (.pointer q) (new++[⟨name,ty⟩]) w3 from⟨hl3.off,hl3.row,⟨hl3.env.hB,hl3.env.hC,hl3.env.ha,hl3.env.hf,by rw[List.reverse_append,List.reverse_append];exact hs3.join (HE.out.hs.keep fun g hg hl=>hl3.off.block hl (by omega))⟩,hl3.box,hl3.s4,hl3.s5,by rw[List.reverse_append];exact hs3,hl3.ne,hl3.hB,hl3.hC,hl3.hb⟩);obtain⟨⟨b0,b1,b2,b3⟩,bz⟩:=zI hl3.row;obtain⟨m0,m1,m2,m3,m4,m5⟩:=zQ hl3.box;have hs3z:wr.heap.size<w3.heap.size:=zB hl3.box;have hbs3:b<w3.heap.size:=zB hl3.row
                clear hw2 hs3 hb3 hx3 hu3 hl3)
             | (go_at_call 74
                (with_reducible refine(HIH.out.call HO4.out HP.out HR2.out (HL3.out.set).env hBb hbC (HL3.out.set).row (HL3.out.set).s4).mono ?_)
                rintro e w5 ⟨rfl,ho5,hb5⟩;have h5:=(HL3.out.set).step ho5 hb5;obtain⟨⟨b0,b1,b2,b3⟩,bz⟩:=zI h5.row;obtain⟨m0,m1,m2,m3,m4,m5⟩:=zQ h5.box;have hs5z:wr.heap.size<w5.heap.size:=zB h5.box;have H5:=hid h5
                clear ho5 hb5 h5)
             | (go_at_call 74
                (with_reducible refine(HIH.out.call HO5.out HP.out HR3.out H5.out.env hBb hbC H5.out.row H5.out.s5).mono ?_)
                rintro e w6 ⟨rfl,ho6,hb6⟩;have H6:=hid (H5.out.step ho6 hb6)
                clear ho6 hb6))
            go_ret;have hR1:=xu (p:=p) (r:=l.drop (j+1)) (n:=nj) (n1:=n2) (R:=(r3,n3)) HOW.out (by rw[HVX.out];exact HR2.out) (by rw[HVX.out];exact HR3.out) h3;rw[HDD.out]at hR1;subst hR1;exact⟨rfl,H6.out.off,H6.out.row⟩
           case pos=>
            subst h3
            go_wp2_with (first
             | (go_at_call 90;(with_reducible refine(jE B C b p (vars++new) ty name args _ _ _ _ _ _ _ _ _ _ _ _ ft (W64 nj) _ _ _ HFS.out HE1_.out HE1.out HBB1.out HS3.out HO3.out HP.out).mono ?_);rintro e w2 ⟨rfl,hb2⟩
                have hx2:Below wr.heap.size wr w2:=HW1.out.trans (hb2.mono (by rw[zA];omega));have hm2:=zQ ((hb2.block wr.heap.size (by rw[zA];omega)).trans (heap_alloc_new wr _));obtain⟨m0,m1,m2,m3,m4,m5⟩:=hm2;have HM2:=hid ((hb2.block wr.heap.size (by rw[zA];omega)).trans (heap_alloc_new wr (qC 1 ty name (.slice A3 args.length c3) (.slice A4 thn.length c4) (.slice A5 els.length c5))));have hs2:wr.heap.size<w2.heap.size:=by have:=hb2.size;rw[zA]at this;omega
                have HX2:=hid (And.intro (HOFF.out.trans ((OffB.of_below hx2 hbs).mono hsz)) ((hx2.block b hbs).trans HBR.out));obtain⟨⟨b0,b1,b2,b3⟩,bz⟩:=zI ((hx2.block b hbs).trans HBR.out);have hbs2:b<w2.heap.size:=by omega
                have HS2:=hid ((HSEG.out.below hx2).up hx2.size);have HU2:=hid (HUW.out.keep (w':=w2) fun g hg _=>hx2.block g (by omega));have HE2:=hid (HER.out.below hx2);have HY2:=hid hx2;have HL2:=hid (show Lst B C b p (vars++new) (.slice A0 p.arrays.length c0) (.slice A1 p.funcs.length c1) (.pointer qv) ft nj w wr.heap.size (qC 1 ty name (.slice A3 args.length c3) (.slice A4 thn.length c4) (.slice A5 els.length c5)) thn els (.slice A4 thn.length c4) (.slice A5 els.length c5) (.pointer q) new w2 from⟨HX2.out.1,HX2.out.2,HE2.out,HM2.out,HS4.out.below (hx2.mono HER.out.hB) Zr,HS5.out.below (hx2.mono HER.out.hB) Zr,HS2.out,by omega,hBb,hbC,hbl⟩)
                clear hx2 hb2)
             | (go_at_call 91;(with_reducible refine(jg _ w.heap.size _ _ _ _ name Zr HU2.out HS2.out).mono ?_);rintro e w9 ⟨hfp,rfl⟩
                have hfq:e=.returned (.pointer none):=by
                 rw[HV.out]at hfp;exact hfp
                clear hfp
                subst hfq)
             | (go_at_call 75
                have hw2:Below w2.heap.size w2 (w2.alloc (.cells #[.string name,.int .i64 ty] 47)):=Zb.alloc Zr _
                (with_reducible refine(kz (w2.alloc (.cells #[.string name,.int .i64 ty] 47)) w.heap.size w2.heap.size (w2.heap.size+1) (.pointer q) _ new.reverse [⟨name,ty⟩] _ (by rw[zA];omega) (by rw[zA];omega) (HU2.out.keep fun g hg _=>hw2.block g (by have:=HX2.out.1.size;omega)) (by rw[zA];have:=HX2.out.1.size;omega) (HS2.out.below hw2) (vh (heap_alloc_new w2 _) (by omega))).mono ?_)
                rintro e w3 ⟨v',rfl,hs3,hb3⟩;have hx3:Below w2.heap.size w2 w3:=hw2.trans (hb3.mono (by rw[zA];omega));have hu3:=HU2.out.keep (w':=w3) fun g hg _=>hx3.block g (by have:=HX2.out.1.size;omega)
                obtain⟨qv3,rfl⟩:=(hs3.fin hu3).form;have hl3:=HL2.out.below hx3;have HL3:=hid (show Lst B C b p (vars++(new++[⟨name,ty⟩])) (.slice A0 p.arrays.length c0) (.slice A1 p.funcs.length c1) (.pointer qv3) ft nj w wr.heap.size (qC 1 ty name (.slice A3 args.length c3) (.slice A4 thn.length c4) (.slice A5 els.length c5)) thn els (.slice A4 thn.length c4) (.slice A5 els.length c5) (.pointer q) (new++[⟨name,ty⟩]) w3 from⟨hl3.off,hl3.row,⟨hl3.env.hB,hl3.env.hC,hl3.env.ha,hl3.env.hf,by rw[List.reverse_append,List.reverse_append];exact hs3.join (HE.out.hs.keep fun g hg hl=>hl3.off.block hl (by omega))⟩,hl3.box,hl3.s4,hl3.s5,by rw[List.reverse_append];exact hs3,hl3.ne,hl3.hB,hl3.hC,hl3.hb⟩);obtain⟨⟨b0,b1,b2,b3⟩,bz⟩:=zI hl3.row;obtain⟨m0,m1,m2,m3,m4,m5⟩:=zQ hl3.box;have hs3z:wr.heap.size<w3.heap.size:=zB hl3.box;have hbs3:b<w3.heap.size:=zB hl3.row
                clear hw2 hs3 hb3 hx3 hu3 hl3)
             | (go_at_call 74
                (with_reducible refine(HIH.out.call HO4.out HP.out HR2.out (HL3.out.set).env hBb hbC (HL3.out.set).row (HL3.out.set).s4).mono ?_)
                rintro e w5 ⟨rfl,ho5,hb5⟩;have h5:=(HL3.out.set).step ho5 hb5;obtain⟨⟨b0,b1,b2,b3⟩,bz⟩:=zI h5.row;obtain⟨m0,m1,m2,m3,m4,m5⟩:=zQ h5.box;have hs5z:wr.heap.size<w5.heap.size:=zB h5.box;have H5:=hid h5
                clear ho5 hb5 h5)
             | (go_at_call 74
                (with_reducible refine(HIH.out.call HO5.out HP.out HR3.out H5.out.env hBb hbC H5.out.row H5.out.s5).mono ?_)
                rintro e w6 ⟨rfl,ho6,hb6⟩;have H6:=hid (H5.out.step ho6 hb6)
                clear ho6 hb6))
            go_roundw
            case rel=>
             have hR1:=vJ (p:=p) (r:=l.drop (j+1)) (n:=nj) (n1:=n2) (n2:=n3) HOW.out (by rw[HVX.out];exact HR2.out) (by rw[HVX.out];exact HR3.out);rw[HDD.out,HVX.out]at hR1;exact⟨j+1,n3,new++[(⟨name,ty⟩:Pa)],by omega,by go_num,hR1.symm,H6.out.seg,H6.out.off,H6.out.row⟩
            case measure=>simp[intOf];omega
     case neg=>
      have n1:(k == 1)=false:=by simp[hk1]
      have hadd:=w64_succ nj;have hvx:jp k ty name (vars++new)=vars++new:=by unfold jp;rw[if_neg hk1]
      have HVX:=hid hvx;have HOW:=hid (HOC.out.trans (by rw[if_neg (show ¬ (0 :Int)≠0 by decide),if_neg (fun h=>hk1 h.1)]));clear hvx;cases loop
      · obtain⟨⟨r2,n2⟩,hR2⟩:∃ R,zd p ft thn (vars++new) (vars++new).length (k == 5) (nj+1)=R:=⟨_,rfl⟩
        have HR2:=hid hR2;clear hR2;by_cases h2:r2=0
        case neg=>
         go_wp2_with (first
          | (go_at_call 90;(with_reducible refine(jE B C b p (vars++new) ty name args _ _ _ _ _ _ _ _ _ _ _ _ ft (W64 nj) _ _ _ HFS.out HE1_.out HE1.out HBB1.out HS3.out HO3.out HP.out).mono ?_);rintro e w2 ⟨rfl,hb2⟩
             have hx2:Below wr.heap.size wr w2:=HW1.out.trans (hb2.mono (by rw[zA];omega));have hm2:=zQ ((hb2.block wr.heap.size (by rw[zA];omega)).trans (heap_alloc_new wr _));obtain⟨m0,m1,m2,m3,m4,m5⟩:=hm2;have HM2:=hid ((hb2.block wr.heap.size (by rw[zA];omega)).trans (heap_alloc_new wr (qC k ty name (.slice A3 args.length c3) (.slice A4 thn.length c4) (.slice A5 els.length c5))));have hs2:wr.heap.size<w2.heap.size:=by have:=hb2.size;rw[zA]at this;omega
             have HX2:=hid (And.intro (HOFF.out.trans ((OffB.of_below hx2 hbs).mono hsz)) ((hx2.block b hbs).trans HBR.out));obtain⟨⟨b0,b1,b2,b3⟩,bz⟩:=zI ((hx2.block b hbs).trans HBR.out);have hbs2:b<w2.heap.size:=by omega
             have HS2:=hid ((HSEG.out.below hx2).up hx2.size);have HU2:=hid (HUW.out.keep (w':=w2) fun g hg _=>hx2.block g (by omega));have HE2:=hid (HER.out.below hx2);have HY2:=hid hx2;have HL2:=hid (show Lst B C b p (vars++new) (.slice A0 p.arrays.length c0) (.slice A1 p.funcs.length c1) (.pointer qv) ft nj w wr.heap.size (qC k ty name (.slice A3 args.length c3) (.slice A4 thn.length c4) (.slice A5 els.length c5)) thn els (.slice A4 thn.length c4) (.slice A5 els.length c5) (.pointer q) new w2 from⟨HX2.out.1,HX2.out.2,HE2.out,HM2.out,HS4.out.below (hx2.mono HER.out.hB) Zr,HS5.out.below (hx2.mono HER.out.hB) Zr,HS2.out,by omega,hBb,hbC,hbl⟩)
             clear hx2 hb2)
          | (go_at_call 74
             (with_reducible refine(HIH.out.call HO4.out HP.out HR2.out (HL2.out.set).env hBb hbC (HL2.out.set).row (HL2.out.set).s4).mono ?_)
             rintro e w5 ⟨rfl,ho5,hb5⟩;have h5:=(HL2.out.set).step ho5 hb5;obtain⟨⟨b0,b1,b2,b3⟩,bz⟩:=zI h5.row;obtain⟨m0,m1,m2,m3,m4,m5⟩:=zQ h5.box;have hs5z:wr.heap.size<w5.heap.size:=zB h5.box;have H5:=hid h5
             clear ho5 hb5 h5))
         go_ret;have hR1:=xt (p:=p) (r:=l.drop (j+1)) (els:=els) (n:=nj) (R:=(r2,n2)) HOW.out (by rw[HVX.out];exact HR2.out) h2;rw[HDD.out]at hR1;subst hR1;exact⟨rfl,H5.out.off,H5.out.row⟩
        case pos=>
         subst h2;obtain⟨⟨r3,n3⟩,hR3⟩:∃ R,zd p ft els (vars++new) (vars++new).length false n2=R:=⟨_,rfl⟩
         have HR3:=hid hR3;clear hR3;by_cases h3:r3=0
         case neg=>
          go_wp2_with (first
           | (go_at_call 90;(with_reducible refine(jE B C b p (vars++new) ty name args _ _ _ _ _ _ _ _ _ _ _ _ ft (W64 nj) _ _ _ HFS.out HE1_.out HE1.out HBB1.out HS3.out HO3.out HP.out).mono ?_);rintro e w2 ⟨rfl,hb2⟩
              have hx2:Below wr.heap.size wr w2:=HW1.out.trans (hb2.mono (by rw[zA];omega));have hm2:=zQ ((hb2.block wr.heap.size (by rw[zA];omega)).trans (heap_alloc_new wr _));obtain⟨m0,m1,m2,m3,m4,m5⟩:=hm2;have HM2:=hid ((hb2.block wr.heap.size (by rw[zA];omega)).trans (heap_alloc_new wr (qC k ty name (.slice A3 args.length c3) (.slice A4 thn.length c4) (.slice A5 els.length c5))));have hs2:wr.heap.size<w2.heap.size:=by have:=hb2.size;rw[zA]at this;omega
              have HX2:=hid (And.intro (HOFF.out.trans ((OffB.of_below hx2 hbs).mono hsz)) ((hx2.block b hbs).trans HBR.out));obtain⟨⟨b0,b1,b2,b3⟩,bz⟩:=zI ((hx2.block b hbs).trans HBR.out);have hbs2:b<w2.heap.size:=by omega
              have HS2:=hid ((HSEG.out.below hx2).up hx2.size);have HU2:=hid (HUW.out.keep (w':=w2) fun g hg _=>hx2.block g (by omega));have HE2:=hid (HER.out.below hx2);have HY2:=hid hx2;have HL2:=hid (show Lst B C b p (vars++new) (.slice A0 p.arrays.length c0) (.slice A1 p.funcs.length c1) (.pointer qv) ft nj w wr.heap.size (qC k ty name (.slice A3 args.length c3) (.slice A4 thn.length c4) (.slice A5 els.length c5)) thn els (.slice A4 thn.length c4) (.slice A5 els.length c5) (.pointer q) new w2 from⟨HX2.out.1,HX2.out.2,HE2.out,HM2.out,HS4.out.below (hx2.mono HER.out.hB) Zr,HS5.out.below (hx2.mono HER.out.hB) Zr,HS2.out,by omega,hBb,hbC,hbl⟩)
              clear hx2 hb2)
           | (go_at_call 74
              (with_reducible refine(HIH.out.call HO4.out HP.out HR2.out (HL2.out.set).env hBb hbC (HL2.out.set).row (HL2.out.set).s4).mono ?_)
              rintro e w5 ⟨rfl,ho5,hb5⟩;have h5:=(HL2.out.set).step ho5 hb5;obtain⟨⟨b0,b1,b2,b3⟩,bz⟩:=zI h5.row;obtain⟨m0,m1,m2,m3,m4,m5⟩:=zQ h5.box;have hs5z:wr.heap.size<w5.heap.size:=zB h5.box;have H5:=hid h5
              clear ho5 hb5 h5)
           | (go_at_call 74
              (with_reducible refine(HIH.out.call HO5.out HP.out HR3.out H5.out.env hBb hbC H5.out.row H5.out.s5).mono ?_)
              rintro e w6 ⟨rfl,ho6,hb6⟩;have H6:=hid (H5.out.step ho6 hb6)
              clear ho6 hb6))
          go_ret;have hR1:=xu (p:=p) (r:=l.drop (j+1)) (n:=nj) (n1:=n2) (R:=(r3,n3)) HOW.out (by rw[HVX.out];exact HR2.out) (by rw[HVX.out];exact HR3.out) h3;rw[HDD.out]at hR1;subst hR1;exact⟨rfl,H6.out.off,H6.out.row⟩
         case pos=>
          subst h3
          go_wp2_with (first
           | (go_at_call 90;(with_reducible refine(jE B C b p (vars++new) ty name args _ _ _ _ _ _ _ _ _ _ _ _ ft (W64 nj) _ _ _ HFS.out HE1_.out HE1.out HBB1.out HS3.out HO3.out HP.out).mono ?_);rintro e w2 ⟨rfl,hb2⟩
              have hx2:Below wr.heap.size wr w2:=HW1.out.trans (hb2.mono (by rw[zA];omega));have hm2:=zQ ((hb2.block wr.heap.size (by rw[zA];omega)).trans (heap_alloc_new wr _));obtain⟨m0,m1,m2,m3,m4,m5⟩:=hm2;have HM2:=hid ((hb2.block wr.heap.size (by rw[zA];omega)).trans (heap_alloc_new wr (qC k ty name (.slice A3 args.length c3) (.slice A4 thn.length c4) (.slice A5 els.length c5))));have hs2:wr.heap.size<w2.heap.size:=by have:=hb2.size;rw[zA]at this;omega
              have HX2:=hid (And.intro (HOFF.out.trans ((OffB.of_below hx2 hbs).mono hsz)) ((hx2.block b hbs).trans HBR.out));obtain⟨⟨b0,b1,b2,b3⟩,bz⟩:=zI ((hx2.block b hbs).trans HBR.out);have hbs2:b<w2.heap.size:=by omega
              have HS2:=hid ((HSEG.out.below hx2).up hx2.size);have HU2:=hid (HUW.out.keep (w':=w2) fun g hg _=>hx2.block g (by omega));have HE2:=hid (HER.out.below hx2);have HY2:=hid hx2;have HL2:=hid (show Lst B C b p (vars++new) (.slice A0 p.arrays.length c0) (.slice A1 p.funcs.length c1) (.pointer qv) ft nj w wr.heap.size (qC k ty name (.slice A3 args.length c3) (.slice A4 thn.length c4) (.slice A5 els.length c5)) thn els (.slice A4 thn.length c4) (.slice A5 els.length c5) (.pointer q) new w2 from⟨HX2.out.1,HX2.out.2,HE2.out,HM2.out,HS4.out.below (hx2.mono HER.out.hB) Zr,HS5.out.below (hx2.mono HER.out.hB) Zr,HS2.out,by omega,hBb,hbC,hbl⟩)
              clear hx2 hb2)
           | (go_at_call 74
              (with_reducible refine(HIH.out.call HO4.out HP.out HR2.out (HL2.out.set).env hBb hbC (HL2.out.set).row (HL2.out.set).s4).mono ?_)
              rintro e w5 ⟨rfl,ho5,hb5⟩;have h5:=(HL2.out.set).step ho5 hb5;obtain⟨⟨b0,b1,b2,b3⟩,bz⟩:=zI h5.row;obtain⟨m0,m1,m2,m3,m4,m5⟩:=zQ h5.box;have hs5z:wr.heap.size<w5.heap.size:=zB h5.box;have H5:=hid h5
              clear ho5 hb5 h5)
           | (go_at_call 74
              (with_reducible refine(HIH.out.call HO5.out HP.out HR3.out H5.out.env hBb hbC H5.out.row H5.out.s5).mono ?_)
              rintro e w6 ⟨rfl,ho6,hb6⟩;have H6:=hid (H5.out.step ho6 hb6)
              clear ho6 hb6))
          go_roundw
          case rel=>
           have hR1:=vJ (p:=p) (r:=l.drop (j+1)) (n:=nj) (n1:=n2) (n2:=n3) HOW.out (by rw[HVX.out];exact HR2.out) (by rw[HVX.out];exact HR3.out);rw[HDD.out,HVX.out]at hR1;exact⟨j+1,n3,new,by omega,by go_num,hR1.symm,H6.out.seg,H6.out.off,H6.out.row⟩
          case measure=>simp[intOf];omega
      · obtain⟨⟨r2,n2⟩,hR2⟩:∃ R,zd p ft thn (vars++new) (vars++new).length true (nj+1)=R:=⟨_,rfl⟩
        have HR2:=hid hR2;clear hR2;by_cases h2:r2=0
        case neg=>
         go_wp2_with (first
          | (go_at_call 90;(with_reducible refine(jE B C b p (vars++new) ty name args _ _ _ _ _ _ _ _ _ _ _ _ ft (W64 nj) _ _ _ HFS.out HE1_.out HE1.out HBB1.out HS3.out HO3.out HP.out).mono ?_);rintro e w2 ⟨rfl,hb2⟩
             have hx2:Below wr.heap.size wr w2:=HW1.out.trans (hb2.mono (by rw[zA];omega));have hm2:=zQ ((hb2.block wr.heap.size (by rw[zA];omega)).trans (heap_alloc_new wr _));obtain⟨m0,m1,m2,m3,m4,m5⟩:=hm2;have HM2:=hid ((hb2.block wr.heap.size (by rw[zA];omega)).trans (heap_alloc_new wr (qC k ty name (.slice A3 args.length c3) (.slice A4 thn.length c4) (.slice A5 els.length c5))));have hs2:wr.heap.size<w2.heap.size:=by have:=hb2.size;rw[zA]at this;omega
             have HX2:=hid (And.intro (HOFF.out.trans ((OffB.of_below hx2 hbs).mono hsz)) ((hx2.block b hbs).trans HBR.out));obtain⟨⟨b0,b1,b2,b3⟩,bz⟩:=zI ((hx2.block b hbs).trans HBR.out);have hbs2:b<w2.heap.size:=by omega
             have HS2:=hid ((HSEG.out.below hx2).up hx2.size);have HU2:=hid (HUW.out.keep (w':=w2) fun g hg _=>hx2.block g (by omega));have HE2:=hid (HER.out.below hx2);have HY2:=hid hx2;have HL2:=hid (show Lst B C b p (vars++new) (.slice A0 p.arrays.length c0) (.slice A1 p.funcs.length c1) (.pointer qv) ft nj w wr.heap.size (qC k ty name (.slice A3 args.length c3) (.slice A4 thn.length c4) (.slice A5 els.length c5)) thn els (.slice A4 thn.length c4) (.slice A5 els.length c5) (.pointer q) new w2 from⟨HX2.out.1,HX2.out.2,HE2.out,HM2.out,HS4.out.below (hx2.mono HER.out.hB) Zr,HS5.out.below (hx2.mono HER.out.hB) Zr,HS2.out,by omega,hBb,hbC,hbl⟩)
             clear hx2 hb2)
          | (go_at_call 74
             (with_reducible refine(HIH.out.call HO4.out HP.out HR2.out (HL2.out.set).env hBb hbC (HL2.out.set).row (HL2.out.set).s4).mono ?_)
             rintro e w5 ⟨rfl,ho5,hb5⟩;have h5:=(HL2.out.set).step ho5 hb5;obtain⟨⟨b0,b1,b2,b3⟩,bz⟩:=zI h5.row;obtain⟨m0,m1,m2,m3,m4,m5⟩:=zQ h5.box;have hs5z:wr.heap.size<w5.heap.size:=zB h5.box;have H5:=hid h5
             clear ho5 hb5 h5))
         go_ret;have hR1:=xt (p:=p) (r:=l.drop (j+1)) (els:=els) (n:=nj) (R:=(r2,n2)) HOW.out (by rw[HVX.out];exact HR2.out) h2;rw[HDD.out]at hR1;subst hR1;exact⟨rfl,H5.out.off,H5.out.row⟩
        case pos=>
         subst h2;obtain⟨⟨r3,n3⟩,hR3⟩:∃ R,zd p ft els (vars++new) (vars++new).length true n2=R:=⟨_,rfl⟩
         have HR3:=hid hR3;clear hR3;by_cases h3:r3=0
         case neg=>
          go_wp2_with (first
           | (go_at_call 90;(with_reducible refine(jE B C b p (vars++new) ty name args _ _ _ _ _ _ _ _ _ _ _ _ ft (W64 nj) _ _ _ HFS.out HE1_.out HE1.out HBB1.out HS3.out HO3.out HP.out).mono ?_);rintro e w2 ⟨rfl,hb2⟩
              have hx2:Below wr.heap.size wr w2:=HW1.out.trans (hb2.mono (by rw[zA];omega));have hm2:=zQ ((hb2.block wr.heap.size (by rw[zA];omega)).trans (heap_alloc_new wr _));obtain⟨m0,m1,m2,m3,m4,m5⟩:=hm2;have HM2:=hid ((hb2.block wr.heap.size (by rw[zA];omega)).trans (heap_alloc_new wr (qC k ty name (.slice A3 args.length c3) (.slice A4 thn.length c4) (.slice A5 els.length c5))));have hs2:wr.heap.size<w2.heap.size:=by have:=hb2.size;rw[zA]at this;omega
              have HX2:=hid (And.intro (HOFF.out.trans ((OffB.of_below hx2 hbs).mono hsz)) ((hx2.block b hbs).trans HBR.out));obtain⟨⟨b0,b1,b2,b3⟩,bz⟩:=zI ((hx2.block b hbs).trans HBR.out);have hbs2:b<w2.heap.size:=by omega
              have HS2:=hid ((HSEG.out.below hx2).up hx2.size);have HU2:=hid (HUW.out.keep (w':=w2) fun g hg _=>hx2.block g (by omega));have HE2:=hid (HER.out.below hx2);have HY2:=hid hx2;have HL2:=hid (show Lst B C b p (vars++new) (.slice A0 p.arrays.length c0) (.slice A1 p.funcs.length c1) (.pointer qv) ft nj w wr.heap.size (qC k ty name (.slice A3 args.length c3) (.slice A4 thn.length c4) (.slice A5 els.length c5)) thn els (.slice A4 thn.length c4) (.slice A5 els.length c5) (.pointer q) new w2 from⟨HX2.out.1,HX2.out.2,HE2.out,HM2.out,HS4.out.below (hx2.mono HER.out.hB) Zr,HS5.out.below (hx2.mono HER.out.hB) Zr,HS2.out,by omega,hBb,hbC,hbl⟩)
              clear hx2 hb2)
           | (go_at_call 74
              (with_reducible refine(HIH.out.call HO4.out HP.out HR2.out (HL2.out.set).env hBb hbC (HL2.out.set).row (HL2.out.set).s4).mono ?_)
              rintro e w5 ⟨rfl,ho5,hb5⟩;have h5:=(HL2.out.set).step ho5 hb5;obtain⟨⟨b0,b1,b2,b3⟩,bz⟩:=zI h5.row;obtain⟨m0,m1,m2,m3,m4,m5⟩:=zQ h5.box;have hs5z:wr.heap.size<w5.heap.size:=zB h5.box;have H5:=hid h5
              clear ho5 hb5 h5)
           | (go_at_call 74
              (with_reducible refine(HIH.out.call HO5.out HP.out HR3.out H5.out.env hBb hbC H5.out.row H5.out.s5).mono ?_)
              rintro e w6 ⟨rfl,ho6,hb6⟩;have H6:=hid (H5.out.step ho6 hb6)
              clear ho6 hb6))
          go_ret;have hR1:=xu (p:=p) (r:=l.drop (j+1)) (n:=nj) (n1:=n2) (R:=(r3,n3)) HOW.out (by rw[HVX.out];exact HR2.out) (by rw[HVX.out];exact HR3.out) h3;rw[HDD.out]at hR1;subst hR1;exact⟨rfl,H6.out.off,H6.out.row⟩
         case pos=>
          subst h3
          go_wp2_with (first
           | (go_at_call 90;(with_reducible refine(jE B C b p (vars++new) ty name args _ _ _ _ _ _ _ _ _ _ _ _ ft (W64 nj) _ _ _ HFS.out HE1_.out HE1.out HBB1.out HS3.out HO3.out HP.out).mono ?_);rintro e w2 ⟨rfl,hb2⟩
              have hx2:Below wr.heap.size wr w2:=HW1.out.trans (hb2.mono (by rw[zA];omega));have hm2:=zQ ((hb2.block wr.heap.size (by rw[zA];omega)).trans (heap_alloc_new wr _));obtain⟨m0,m1,m2,m3,m4,m5⟩:=hm2;have HM2:=hid ((hb2.block wr.heap.size (by rw[zA];omega)).trans (heap_alloc_new wr (qC k ty name (.slice A3 args.length c3) (.slice A4 thn.length c4) (.slice A5 els.length c5))));have hs2:wr.heap.size<w2.heap.size:=by have:=hb2.size;rw[zA]at this;omega
              have HX2:=hid (And.intro (HOFF.out.trans ((OffB.of_below hx2 hbs).mono hsz)) ((hx2.block b hbs).trans HBR.out));obtain⟨⟨b0,b1,b2,b3⟩,bz⟩:=zI ((hx2.block b hbs).trans HBR.out);have hbs2:b<w2.heap.size:=by omega
              have HS2:=hid ((HSEG.out.below hx2).up hx2.size);have HU2:=hid (HUW.out.keep (w':=w2) fun g hg _=>hx2.block g (by omega));have HE2:=hid (HER.out.below hx2);have HY2:=hid hx2;have HL2:=hid (show Lst B C b p (vars++new) (.slice A0 p.arrays.length c0) (.slice A1 p.funcs.length c1) (.pointer qv) ft nj w wr.heap.size (qC k ty name (.slice A3 args.length c3) (.slice A4 thn.length c4) (.slice A5 els.length c5)) thn els (.slice A4 thn.length c4) (.slice A5 els.length c5) (.pointer q) new w2 from⟨HX2.out.1,HX2.out.2,HE2.out,HM2.out,HS4.out.below (hx2.mono HER.out.hB) Zr,HS5.out.below (hx2.mono HER.out.hB) Zr,HS2.out,by omega,hBb,hbC,hbl⟩)
              clear hx2 hb2)
           | (go_at_call 74
              (with_reducible refine(HIH.out.call HO4.out HP.out HR2.out (HL2.out.set).env hBb hbC (HL2.out.set).row (HL2.out.set).s4).mono ?_)
              rintro e w5 ⟨rfl,ho5,hb5⟩;have h5:=(HL2.out.set).step ho5 hb5;obtain⟨⟨b0,b1,b2,b3⟩,bz⟩:=zI h5.row;obtain⟨m0,m1,m2,m3,m4,m5⟩:=zQ h5.box;have hs5z:wr.heap.size<w5.heap.size:=zB h5.box;have H5:=hid h5
              clear ho5 hb5 h5)
           | (go_at_call 74
              (with_reducible refine(HIH.out.call HO5.out HP.out HR3.out H5.out.env hBb hbC H5.out.row H5.out.s5).mono ?_)
              rintro e w6 ⟨rfl,ho6,hb6⟩;have H6:=hid (H5.out.step ho6 hb6)
              clear ho6 hb6))
          go_roundw
          case rel=>
           have hR1:=vJ (p:=p) (r:=l.drop (j+1)) (n:=nj) (n1:=n2) (n2:=n3) HOW.out (by rw[HVX.out];exact HR2.out) (by rw[HVX.out];exact HR3.out);rw[HDD.out,HVX.out]at hR1;exact⟨j+1,n3,new,by omega,by go_num,hR1.symm,H6.out.seg,H6.out.off,H6.out.row⟩
          case measure=>simp[intOf];omega
  · go_wp2_with (fail)
    go_ret;have hd:=HT.out;rw[List.drop_of_length_le (by omega),zd]at hd;subst hd;exact⟨rfl,HOFF.out,HBR.out⟩
theorem list_all:∀ m,LsC m
 | 0=>list_step 0 fun _ h=>by omega
 | m+1=>list_step (m+1) fun m' h=>by
   obtain rfl:m'=m:=by omega
   exact list_all m'
end Go.Proofs.YtfghofifjnbicaaGreatDoor
namespace Go.Proofs.YtfghofifjnbicaaGreatDoor
open Lib (hid)
open Go.RowKit Go.Maps Go.WideMaps
def nod:List ByteArray→Bool
 | []=>true
 | s :: r=>!(r.any fun x=>decide (x=s)) && nod r
def SlN (B:Nat) (w:World) (v:Value) (l:List ByteArray):Prop:=xF v l.length (xn 1 (fun (s:ByteArray) g o=>CellB B w g o (.string s)) l)
theorem SlN.below {B B':Nat} {w w':World} {v:Value} {l:List ByteArray} (h:SlN B w v l) (hb:Below B w w') (hB:B≤B'):SlN B' w' v l:=xF.imp h fun g o=>xn.imp (fun _ _ _ hc=>hc.below hb hB) l g o
theorem SlN.form {B:Nat} {w:World} {v:Value} {l:List ByteArray} (h:SlN B w v l):∃ A cap,v=.slice A l.length cap∧l.length≤281474976710656:=by
 obtain⟨A,cap,hv,hn,_⟩:=h;exact⟨A,cap,hv,hn⟩
theorem SlN.cells {B:Nat} {w:World} {A:Option Addr} {n cap:Nat} {l:List ByteArray} (h:SlN B w (.slice A n cap) l) {i:Nat} {t:ByteArray} (hi:l[i]? =some t):
 ∃ (g o:Nat),A=some ⟨g,o,none⟩∧g<B∧w.cell? ⟨g,o+i,none⟩=some (.string t):=by
 obtain⟨g,o,hA,hr⟩:=xF.elem h rfl (by have:=(List.getElem?_eq_some_iff.1 hi).1;omega);have:=xn.at l g o i t hr hi;rw[Nat.mul_one]at this;exact⟨g,o,hA,this.1,this.2⟩
def yf (s:ByteArray):Lit:=.string s.data.toList
def setN {H:Type} (l:List ByteArray):DataW H:=setOf (.agg []) (l.map yf)
theorem setN_snoc {H:Type} (l:List ByteArray) (s:ByteArray):setN (H:=H) (l++[s])=(setN l).put (yf s) (.agg []):=by
 unfold setN;rw[List.map_append];exact setOf_snoc _ _ _
theorem lawN:Keyed Tryz.prog 9:=string_keyed Tryz.underlying9
theorem keyN_same (a b:ByteArray):(yf a).sameKey (yf b)=decide (a=b):=by
 unfold yf;rw[Bool.eq_iff_iff,decide_eq_true_iff];constructor
 · intro h
   have h2:=WideAt.sameKey_eq h;injection h2 with h2;cases a;cases b
   simp_all
 · rintro rfl
   exact WideAt.sameKey_self trivial
theorem addN_len:∀ (l acc:List ByteArray),((l.map yf).foldl addKey (acc.map yf)).length≤acc.length+l.length∧(((l.map yf).foldl addKey (acc.map yf)).length=acc.length+l.length↔(nod l=true∧∀ s ∈ l,s ∉ acc))
 | [],acc=>by simp[nod]
 | s :: r,acc=>by
   rw[List.map_cons,List.foldl_cons]
   have hany:((acc.map yf).any (fun y=>y.sameKey (yf s))=true)↔s ∈ acc:=by
    rw[List.any_map,List.any_eq_true];constructor
    · rintro⟨x,hx,h⟩
      simp only[Function.comp,keyN_same,decide_eq_true_eq]at h;exact h ▸ hx
    · intro h
      exact⟨s,h,by simp[Function.comp,keyN_same]⟩
   by_cases h:s ∈ acc
   · have e:addKey (acc.map yf) (yf s)=acc.map yf:=by unfold addKey;rw[if_pos (hany.2 h)]
     rw[e];have ih:=addN_len r acc;constructor
     · rw[List.length_cons];omega
     · constructor
       · intro hl
         rw[List.length_cons]at hl;omega
       · rintro⟨_,h2⟩
         exact absurd h (h2 s (List.mem_cons_self ..))
   · have e:addKey (acc.map yf) (yf s)=(acc++[s]).map yf:=by
      unfold addKey;rw[if_neg (fun hc=>h (hany.1 hc)),List.map_append];rfl
     rw[e];have ih:=addN_len r (acc++[s]);rw[List.length_append,List.length_singleton]at ih;constructor
     · rw[List.length_cons];omega
     · rw[List.length_cons,show acc.length+(r.length+1)=acc.length+1+r.length by omega,ih.2]
       have hc:((!(r.any fun x=>decide (x=s)))=true)↔s ∉ r:=by
        rw[Bool.not_eq_true',List.any_eq_false];simp only[decide_eq_true_eq];exact⟨fun h hs=>h s hs rfl,fun h x hx e=>h (e ▸ hx)⟩
       rw[nod,Bool.and_eq_true,hc];simp only[List.mem_cons,List.mem_append,List.not_mem_nil,or_false,not_or];constructor
       · rintro⟨h1,h2⟩
         exact⟨⟨fun hs=>(h2 s hs).2 rfl,h1⟩,fun x hx=>by
          rcases hx with rfl | hx
          · exact h
          · exact(h2 x hx).1⟩
       · rintro⟨⟨h1,h2⟩,h3⟩
         exact⟨h2,fun x hx=>⟨h3 x (.inr hx),fun e=>h1 (e ▸ hx)⟩⟩
theorem setN_size {H:Type} (l:List ByteArray):(Maps.size (setN (H:=H) l)=l.length↔nod l=true)∧Maps.size (setN (H:=H) l)≤l.length:=by
 have h1:Maps.size (setN (H:=H) l)=((l.map yf).foldl addKey []).length:=size_setOf _ _ fun x hx=>by
  obtain⟨s,_,rfl⟩:=List.mem_map.1 hx;trivial
 have h2:=addN_len l [];simp only[List.map_nil,List.length_nil,Nat.zero_add,List.not_mem_nil,not_false_eq_true,implies_true,and_true]at h2;rw[h1];exact⟨h2.2,h2.1⟩
set_option maxHeartbeats 1000000 in
theorem jU (B:Nat) (l:List ByteArray) (r:Bool) (v:Value) (w:World) (hB:B≤w.heap.size) (hl:SlN B w v l) (hz:∀ s ∈ l,s.size≤maxLen) (hr:nod l=r):
 Calls Tryz.prog 49 #[v] w fun e w'=>e=.returned (.bool r)∧Below w.heap.size w w':=by
 obtain⟨A,c,rfl,hn⟩:=hl.form;have hmm:=@run_makeMap Tryz.prog;have HL:=hid hl;have HZ:=hid hz;have HR:=hid hr;clear hl hz hr;go_enter Tryz.func49,Tryz.ntmps49;go_wp2_with (fail)
 go_loopw [9] (fun iv wr=>∃ j:Nat,j≤l.length∧iv=.int .i64 j∧wr.ownsMap Tryz.prog 9 (unitElem (H:=Unit)) w.heap.size j (setN (H:=Unit) (l.take j))∧Below w.heap.size w wr) (fun iv _=>l.length-(intOf iv).toNat)
 case atStart=>exact⟨0,Nat.zero_le _,rfl,World.ownsMap_made _ _ _ _,Zb.alloc Zr _⟩
 case round=>
  obtain⟨j,hj,rfl,hown,hbw⟩:=hrel;have HBW:=hid hbw;have hsz:=hbw.size;by_cases hlt:j<l.length
  · obtain⟨s,hs⟩:∃ e,l[j]? =some e:=⟨_,List.getElem?_eq_getElem hlt⟩
    obtain⟨g,o,rfl,hg,q0⟩:=(HL.out.below (hbw.mono hB) Zr).cells hs;have hgs:g<wr.heap.size:=by omega
    have hkey:keyOf Tryz.prog 9 (.string s)=some (yf s):=keyOf_string_mk Tryz.underlying9 (HZ.out s (List.mem_of_getElem? hs));have HS:=hid hs;clear hs hbw;go_wp2_with (at_mapUpdate;refine wpList_mapUpdate_own _ rfl _ _ _ 123 rfl 9 124 lawN Tryz.underlying123 (unitElem (H:=Unit)) w.heap.size j _ rfl hown (by unfold maxLen;omega) _ _ _ rfl rfl hkey _ [] unitElem_mk ?_;intro w1 hown1 hgrow1;have HO1:=hid hown1;have HG1:=hid hgrow1;clear hown1 hgrow1);go_roundw
    case rel=>
     refine⟨j+1,by omega,by go_num,?_,HBW.out.grown HG1.out (by omega) fun k hk=>by cases hk;exact Nat.le_refl _⟩;rw[List.take_add_one,HS.out,Option.toList_some,setN_snoc];exact HO1.out
    case measure=>simp[intOf];omega
  · have hjl:j=l.length:=by omega
    subst hjl;have hown2:wr.ownsMap Tryz.prog 9 (unitElem (H:=Unit)) w.heap.size l.length (setN (H:=Unit) l):=by rw[List.take_of_length_le Zr]at hown;exact hown
    have hsn:=setN_size (H:=Unit) l;obtain⟨z,hz⟩:∃ z,Maps.size (setN (H:=Unit) l)=z:=⟨_,rfl⟩
    rw[hz]at hsn;have HSN:=hid hsn;have hzl:z≤l.length:=hsn.2;have HZZ:=hid hz;clear hown hsn hbw hz;go_wp2_with (at_len;refine wpList_len_own _ rfl _ 123 rfl 9 124 Tryz.underlying123 (unitElem (H:=Unit)) w.heap.size l.length _ rfl hown2 ?_;rw[HZZ.out]);go_ret;refine⟨zC ?_,HBW.out⟩;rw[←HR.out,Bool.eq_iff_iff,←HSN.out.1];simp;omega
end Go.Proofs.YtfghofifjnbicaaGreatDoor
