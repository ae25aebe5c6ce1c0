import Derived.Test.YtfghofifjnbicaaGreatDoorAhZed
import Derived.Test.YtfghofifjnbicaaGreatDoorAhRnDv
import Derived.Test.YtfghofifjnbicaaGreatDoorAhRnOk
set_option linter.unusedSimpArgs false
set_option linter.unusedVariables false
set_option maxRecDepth 100000
/- The developers' renaming: expressions. (By tools/gen_rndx.py.) -/
namespace Go.Proofs.YtfghofifjnbicaaGreatDoor
open Lib (hid)
open Go.RowKit Go.Maps
theorem zAe {B L:Nat} {w:World} {g c m i:Nat} {ps qs:List (Ex × Value)} {k op n:Int} {s:ByteArray} {args:List Ex} {va:Value} (h:OutT kX B L w (.slice (some ⟨g,0,none⟩) m c) ps ((Ex.mk k op n s args,va) :: qs)) (hm:m=(ps++(Ex.mk k op n s args,va) :: qs).length) (hi:ps.length=i):
 (w.cell? ⟨g,i * 5,none⟩=some (.int .i64 k)∧w.cell? ⟨g,i * 5+1,none⟩=some (.int .i64 op)∧w.cell? ⟨g,i * 5+2,none⟩=some (.int .i64 n)∧w.cell? ⟨g,i * 5+3,none⟩=some (.string s)∧w.cell? ⟨g,i * 5+4,none⟩=some va)∧∀ o,w.frozen? ⟨g,o,none⟩=false:=by
 subst hi;exact⟨⟨h.cel hm (j:=0) rfl,h.cel hm (j:=1) rfl,h.cel hm (j:=2) rfl,h.cel hm (j:=3) rfl,h.cel hm (j:=4) rfl⟩,fun o=>h.frz hm o⟩
theorem dvEs_take {nm:Nm} {l:List Ex} {i:Nat} {e:Ex} (h:l[i]? =some e):qd nm (l.take (i+1))=qd nm (l.take i)++[dvE nm e]:=by
 rw[zAc,zAc,List.take_add_one,h];simp
theorem zAf {s:ByteArray} (h:vt s=true):s.size≤20:=by
 unfold vt jl at h;simp only[Bool.and_eq_true,decide_eq_true_eq]at h;have:=h.1.1.1.2;simpa using this
theorem formE_nm {op n:Int} {s:ByteArray} {len:Nat} (h:zh 3 op n s len=true):s.size≤20:=by
 unfold zh at h;simp at h;exact zAf h.1.1.1
def DxC (m:Nat):Prop:=∀ (B mb k:Nat) (l:List Ex) (nm:Nm) (vl:Value) (w:World),zr l m=true→l.length≤8→TreeTab B w→B≤w.heap.size→(∀ s,nm s≤1000000000)→MapIs w mb k nm→qw w.heap.size w vl l→
 Calls Tryz.prog 95 #[vl,.map (some mb)] w fun e w'=>∃ v,e=.returned v∧zU w.heap.size w' (qd nm l) v∧Below w.heap.size w w'
theorem DxC.call {m:Nat} (h:DxC m) {B mb k:Nat} {l:List Ex} {nm:Nm} {vl:Value} {w:World} (h1:zr l m=true) (h2:l.length≤8) (h3:TreeTab B w) (h4:B≤w.heap.size) (h5:∀ s,nm s≤1000000000) (h6:MapIs w mb k nm) (h7:qw w.heap.size w vl l):
 Calls Tryz.prog 95 #[vl,.map (some mb)] w fun e w'=>∃ v,e=.returned v∧zU w.heap.size w' (qd nm l) v∧Below w.heap.size w w':=h B mb k l nm vl w h1 h2 h3 h4 h5 h6 h7
set_option maxHeartbeats 4000000 in
theorem dx_step (m:Nat) (ih:∀ m',m'+1=m→DxC m'):DxC m:=by
 intro B mb k l nm vl w hok h8 ht hBs hnm hM hl;obtain⟨A,c,rfl,hn⟩:=hl.form;obtain⟨os,hos,hsrc⟩:=src_exs hl;have hosl:os.length=l.length:=by rw[←hos,List.length_map]
 have HOSL:=hid hosl;have HOS:=hid hos;have HSRC:=hid hsrc;have HOK:=hid hok;have HT:=hid ht;have HNM:=hid hnm;have HM:=hid hM;have HIH:=hid ih;clear hok ht hnm hM hl ih hos hsrc hosl;go_enter Tryz.func95,Tryz.ntmps95
 go_wp2_with (go_at_call 110;(with_reducible refine(clone_exs A l.length c os w HSRC.out (by omega)).mono ?_);rintro e w1 ⟨v1,rfl,hown,hb1⟩
              obtain⟨A1,c1,hv1⟩:=zj hown;rw[HOSL.out]at hv1;subst hv1;have HO1:=hid hown;have HB1:=hid hb1
              clear hown hb1)
 go_loopw [11] (fun iv wr=>∃ (i:Nat) (ps:List (Ex × Value)),i≤l.length∧iv=.int .i64 i∧ps.map (·.1)=qd nm (l.take i)∧OutT kX w.heap.size w1.heap.size wr (.slice A1 l.length c1) ps (os.drop i)∧Below w.heap.size w wr∧w1.heap.size≤wr.heap.size) (fun iv _=>l.length-(intOf iv).toNat)
 case atStart=>exact⟨0,[],Nat.zero_le _,rfl,by rw[List.take_zero,qd];rfl,OutT.start HO1.out Zr,HB1.out,Nat.le_refl _⟩
 case round=>
  obtain⟨i,ps,hi,rfl,hps,hT,hbw,hw1⟩:=hrel;have hww1:w.heap.size≤w1.heap.size:=HB1.out.size;have hpl:ps.length=i:=by have:=congrArg List.length hps;rw[List.length_map,xl,List.length_take]at this;omega
  have hsz:w.heap.size≤wr.heap.size:=hbw.size;have HPS:=hid hps;have HPL:=hid hpl;have HBW:=hid hbw;clear hps hbw hpl;by_cases hlt:i<l.length
  · obtain⟨⟨kk,op,n,s,args⟩,he⟩:∃ e,l[i]? =some e:=⟨_,List.getElem?_eq_getElem hlt⟩
    obtain⟨va,hva⟩:∃ va,os[i]? =some (Ex.mk kk op n s args,va):=by
     have h1:(os.map (·.1))[i]? =some (.mk kk op n s args):=by rw[HOS.out];exact he
     rw[List.getElem?_map]at h1;cases h2:os[i]? with
     | none=>rw[h2]at h1;cases h1
     | some x=>rw[h2]at h1;exact⟨x.2,by rw[←Option.some.inj h1]⟩
    rw[jv hva]at hT;obtain⟨hin1,hin2⟩:vw n∧qw w.heap.size w va args:=HSRC.out.inn _ (List.mem_of_getElem? hva);obtain⟨A3,c3,rfl,hn3⟩:=hin2.form;obtain⟨g,c',hv,hBg,hg,hgL⟩:=hT.cons (by simp);simp only[Value.slice.injEq]at hv;obtain⟨rfl,hlen,rfl⟩:=hv;have HLEN:=hid hlen;obtain⟨⟨q0,q1,q2,q3,q4⟩,qz⟩:=zAe hT hlen HPL.out;have hoke:=qV HOK.out he;rw[ju]at hoke;simp only[Bool.and_eq_true,decide_eq_true_eq]at hoke;obtain⟨⟨h1m,hf⟩,hargs⟩:=hoke;obtain⟨m',rfl⟩:∃ m',m=m'+1:=⟨m-1,by omega⟩
    have h8a:=formE_len hf;have HF:=hid hf;have HARG:=hid (show zr args m'=true from hargs);have HE:=hid he;have HVA:=hid hva;have HIN1:=hid hin1;have HIN2:=hid hin2;have HTT:=hid hT;clear he hva hin1 hin2 hT hargs hf hlen;obtain⟨s1,hs1⟩:∃ s1,(if kk=3 then vN (nm s) else s)=s1:=⟨_,rfl⟩
    have HREN:=hid (show dvE nm (.mk kk op n s args)=.mk kk op n s1 (qd nm args) by rw[dvE,hs1]);have hxA:(wr.alloc (.cells #[.int .i64 kk,.int .i64 op,.int .i64 n,.string s,.slice A3 args.length c3] 116)).heap[wr.heap.size]? =some (.cells #[.int .i64 kk,.int .i64 op,.int .i64 n,.string s,.slice A3 args.length c3] 116):=heap_alloc_new wr _;have hbA:Below wr.heap.size wr (wr.alloc (.cells #[.int .i64 kk,.int .i64 op,.int .i64 n,.string s,.slice A3 args.length c3] 116)):=Zb.alloc Zr _;have hzA:(wr.alloc (.cells #[.int .i64 kk,.int .i64 op,.int .i64 n,.string s,.slice A3 args.length c3] 116)).heap.size=wr.heap.size+1:=zA _ _;by_cases hk:kk=3
    case pos=>
     subst hk;rw[if_pos rfl]at hs1;subst hs1;go_upto_region 6 with(fail);generalize wr.alloc (.cells #[.int .i64 3,.int .i64 op,.int .i64 n,.string s,.slice A3 args.length c3] 116)=W1 at *;obtain⟨⟨a0,a1,a2,a3,a4⟩,az⟩:=qK hxA;have HXA:=hid hxA;have HBA:=hid hbA;have hW1s:W1.heap.size=wr.heap.size+1:=hzA;have HM1:=hid (HM.out.below (HBW.out.trans (hbA.mono hsz)));have HT1:=hid (HT.out.below ((HBW.out.trans (hbA.mono hsz)).mono hBs));clear hxA hbA q0 q1 q2 q3 q4 qz hzA;have hs20:s.size≤281474976710656:=by have:=formE_nm HF.out;omega
     go_upto_region 7 with(go_at_call 78;(with_reducible refine(vname_any mb k nm s W1 HT1.out HM1.out hs20 (HNM.out s)).mono ?_)
                           rintro x w2 ⟨rfl,hb2⟩;have hz2:W1.heap.size≤w2.heap.size:=hb2.size;have HB2:=hid (HBA.out.trans (hb2.mono (by omega)));have HX2:=hid ((hb2.block wr.heap.size (by omega)).trans HXA.out);have HTT2:=hid (HTT.out.below HB2.out);have hg2:g<w2.heap.size:=by omega
                           obtain⟨⟨q0,q1,q2,q3,q4⟩,qz⟩:=zAe HTT2.out HLEN.out HPL.out
                           clear hb2)
     have HTT3:=hid (HTT2.out.set (q':=(Ex.mk 3 op n (vN (nm s)) args,.slice A3 args.length c3)) HLEN.out (i:=i * 5+3) (j:=3) (u:=.string (vN (nm s))) (by rw[HPL.out];rfl) rfl (by decide));have hne:g≠wr.heap.size:=by omega
     have HX3:=hid ((Below.heap_setCell w2 ⟨g,i * 5+3,none⟩ (.string (vN (nm s))) wr.heap.size (by exact hne.symm)).trans HX2.out);have HB3:=hid (show Below w.heap.size w (w2.setCell ⟨g,i * 5+3,none⟩ (.string (vN (nm s)))) from(HBW.out.trans (HB2.out.mono hsz)).setCell (p:=⟨g,i * 5+3,none⟩) hBg _);have hz3:(w2.setCell ⟨g,i * 5+3,none⟩ (.string (vN (nm s)))).heap.size=w2.heap.size:=by simp[World.setCell]
     have HLEN3:=hid (show l.length=(ps++(Ex.mk 3 op n (vN (nm s)) args,Value.slice A3 args.length c3) :: os.drop (i+1)).length by have:=HLEN.out;simpa using this);generalize w2.setCell ⟨g,i * 5+3,none⟩ (.string (vN (nm s)))=W3 at *;have hz3a:=Nat.le_of_eq hz3;have hz3b:=Nat.le_of_eq hz3.symm;clear hz3 q0 q1 q2 q3 q4 qz a0 a1 a2 a3 a4 az;have hg3:g<W3.heap.size:=by omega
     obtain⟨⟨e0,e1,e2,e3,e4⟩,ez⟩:=qK HX3.out;have hb3s:wr.heap.size<W3.heap.size:=zB HX3.out;have hw3:w.heap.size≤W3.heap.size:=HB3.out.size;have HM3:=hid (HM.out.below HB3.out);have HT3:=hid (HT.out.below (HB3.out.mono hBs));have HA3:=hid (show qw W3.heap.size W3 (.slice A3 args.length c3) args from HIN2.out.below HB3.out hw3)
     go_wp2_with (go_at_call 95
                  (with_reducible refine(DxC.call (HIH.out m' rfl) HARG.out h8a HT3.out (by omega) HNM.out HM3.out HA3.out).mono ?_)
                  rintro x w4 ⟨v4,rfl,hF,hb4⟩;obtain⟨A4,c4,rfl,_⟩:=hF.form;rw[xl]at hF;simp only[xl];have hz4:W3.heap.size≤w4.heap.size:=hb4.size;have hg4:g<w4.heap.size:=by omega
                  have HF4:=hid hF;have HB4:=hid (HB3.out.trans (hb4.mono hw3));have HTT4:=hid (HTT3.out.below hb4);obtain⟨⟨q0,q1,q2,q3,q4⟩,qz⟩:=zAe HTT4.out HLEN3.out HPL.out
                  clear hF hb4)
     have HTT5:=hid (HTT4.out.set (q':=(Ex.mk 3 op n (vN (nm s)) (qd nm args),.slice A4 args.length c4)) HLEN3.out (i:=i * 5+4) (j:=4) (u:=.slice A4 args.length c4) (by rw[HPL.out];rfl) rfl (by decide));have HF5:=hid (show zU W3.heap.size (w4.setCell ⟨g,i * 5+4,none⟩ (.slice A4 args.length c4)) (qd nm args) (.slice A4 args.length c4) from zU.keep HF4.out (zD.set hg3 _ _) Zr);have HB5:=hid (show Below w.heap.size w (w4.setCell ⟨g,i * 5+4,none⟩ (.slice A4 args.length c4)) from HB4.out.setCell (p:=⟨g,i * 5+4,none⟩) hBg _);go_roundw
     case rel=>
      refine⟨i+1,ps++[(Ex.mk 3 op n (vN (nm s)) (qd nm args),.slice A4 args.length c4)],by omega,by go_num,?_,?_,HB5.out,by have:=HB5.out.size;rw[show (w4.setCell ⟨g,i * 5+4,none⟩ (.slice A4 args.length c4)).heap.size=w4.heap.size by simp[World.setCell]];omega⟩
      · rw[List.map_append,HPS.out,dvEs_take HE.out,HREN.out]
        rfl
      · exact HTT5.out.push (M:=W3.heap.size) ⟨HIN1.out,HF5.out⟩ (by omega)
     case measure=>simp[intOf];omega
    case neg=>
     rw[if_neg hk]at hs1;subst hs1;go_upto_region 7 with(fail);generalize (wr.alloc (.cells #[.int .i64 kk,.int .i64 op,.int .i64 n,.string s,.slice A3 args.length c3] 116))=W3 at *;have HX3:=hid hxA;have hbA':=hbA;have HB3:=hid (HBW.out.trans (hbA.mono hsz));have HTT3:=hid (HTT.out.below hbA);have HLEN3:=HLEN;have hz3a:=Nat.le_of_eq hzA;have hz3b:=Nat.le_of_eq hzA.symm;have hne:g≠wr.heap.size:=by omega
     clear hxA hbA hbA' hzA q0 q1 q2 q3 q4 qz;have hg3:g<W3.heap.size:=by omega
     obtain⟨⟨e0,e1,e2,e3,e4⟩,ez⟩:=qK HX3.out;have hb3s:wr.heap.size<W3.heap.size:=zB HX3.out;have hw3:w.heap.size≤W3.heap.size:=HB3.out.size;have HM3:=hid (HM.out.below HB3.out);have HT3:=hid (HT.out.below (HB3.out.mono hBs));have HA3:=hid (show qw W3.heap.size W3 (.slice A3 args.length c3) args from HIN2.out.below HB3.out hw3)
     go_wp2_with (go_at_call 95
                  (with_reducible refine(DxC.call (HIH.out m' rfl) HARG.out h8a HT3.out (by omega) HNM.out HM3.out HA3.out).mono ?_)
                  rintro x w4 ⟨v4,rfl,hF,hb4⟩;obtain⟨A4,c4,rfl,_⟩:=hF.form;rw[xl]at hF;simp only[xl];have hz4:W3.heap.size≤w4.heap.size:=hb4.size;have hg4:g<w4.heap.size:=by omega
                  have HF4:=hid hF;have HB4:=hid (HB3.out.trans (hb4.mono hw3));have HTT4:=hid (HTT3.out.below hb4);obtain⟨⟨q0,q1,q2,q3,q4⟩,qz⟩:=zAe HTT4.out HLEN3.out HPL.out
                  clear hF hb4)
     have HTT5:=hid (HTT4.out.set (q':=(Ex.mk kk op n (s) (qd nm args),.slice A4 args.length c4)) HLEN3.out (i:=i * 5+4) (j:=4) (u:=.slice A4 args.length c4) (by rw[HPL.out];rfl) rfl (by decide));have HF5:=hid (show zU W3.heap.size (w4.setCell ⟨g,i * 5+4,none⟩ (.slice A4 args.length c4)) (qd nm args) (.slice A4 args.length c4) from zU.keep HF4.out (zD.set hg3 _ _) Zr);have HB5:=hid (show Below w.heap.size w (w4.setCell ⟨g,i * 5+4,none⟩ (.slice A4 args.length c4)) from HB4.out.setCell (p:=⟨g,i * 5+4,none⟩) hBg _);go_roundw
     case rel=>
      refine⟨i+1,ps++[(Ex.mk kk op n (s) (qd nm args),.slice A4 args.length c4)],by omega,by go_num,?_,?_,HB5.out,by have:=HB5.out.size;rw[show (w4.setCell ⟨g,i * 5+4,none⟩ (.slice A4 args.length c4)).heap.size=w4.heap.size by simp[World.setCell]];omega⟩
      · rw[List.map_append,HPS.out,dvEs_take HE.out,HREN.out]
        rfl
      · exact HTT5.out.push (M:=W3.heap.size) ⟨HIN1.out,HF5.out⟩ (by omega)
     case measure=>simp[intOf];omega
  · have hil:i=l.length:=by omega
    subst hil
    have HRES:=hid (show zU w.heap.size wr (qd nm l) (.slice A1 l.length c1) from by
     rw[List.drop_of_length_le (by rw[HOSL.out];exact Nat.le_refl _)]at hT;have h1:=OutK.exprs (hT.fin hww1) (by rw[HPL.out];omega);rw[HPS.out,List.take_length]at h1
     exact h1)
    clear hT;go_wp2_with (fail);go_ret;exact⟨_,rfl,HRES.out,HBW.out⟩
theorem dx_all:∀ m,DxC m:=fun m=>by
 induction m with
 | zero=>exact dx_step 0 fun m' h=>absurd h (by omega)
 | succ m ih=>exact dx_step (m+1) fun m' h=>by obtain rfl:m'=m:=by omega
                                               exact ih
theorem zD.of_off2 {b c L:Nat} {w w':World} (h:Off2 b c w.heap.size w w') (hb:b<L) (hc:c<L):zD L w w':=⟨h.size,fun k hk hl=>h.block k hk (by omega) (by omega)⟩
structure SMid (w:World) (mb c k n:Nat) (nm:Nm) (bx:Obj) (W:World):Prop where
 off:Off2 mb c w.heap.size w W
 map:MapIs W mb k nm
 ctr:W.heap[c]? =some (ctrO ((n:Int)-1))
 box:W.heap[w.heap.size]? =some bx
 res:W.heap[w.heap.size+1]? =some (.cells #[.int .i64 0,.int .i64 0,.string ⟨#[]⟩,.slice none 0 0,.slice none 0 0,.slice none 0 0] 88)
 hm:mb<w.heap.size
 hc:c<w.heap.size
 ne:mb≠c
section
variable {w:World} {mb c k n:Nat} {nm:Nm} {bx:Obj} {W W':World}
theorem SMid.below (h:SMid w mb c k n nm bx W) (hb:Below W.heap.size W W'):SMid w mb c k n nm bx W' where
 off:=h.off.trans (Off2.of_below (hb.mono h.off.size))
 map:=h.map.below hb
 ctr:=(hb.block c (zB h.ctr)).trans h.ctr
 box:=(hb.block _ (zB h.box)).trans h.box
 res:=(hb.block _ (zB h.res)).trans h.res
 hm:=h.hm
 hc:=h.hc
 ne:=h.ne
theorem SMid.step (h:SMid w mb c k n nm bx W) (ho:Off2 mb c W.heap.size W W') {k' n':Nat} {nm':Nm} (hM:MapIs W' mb k' nm') (hx:W'.heap[c]? =some (ctrO ((n':Int)-1))):SMid w mb c k' n' nm' bx W' where
 off:=h.off.trans (ho.mono h.off.size)
 map:=hM
 ctr:=hx
 box:=(ho.block _ (zB h.box) (by have:=h.hm;omega) (by have:=h.hc;omega)).trans h.box
 res:=(ho.block _ (zB h.res) (by have:=h.hm;omega) (by have:=h.hc;omega)).trans h.res
 hm:=h.hm
 hc:=h.hc
 ne:=h.ne
theorem SMid.up (h:SMid w mb c k n nm bx W):SMid w mb c (k+1) n nm bx W:=⟨h.off,h.map.mono (by omega),h.ctr,h.box,h.res,h.hm,h.hc,h.ne⟩
theorem SMid.list (h:SMid w mb c k n nm bx W) (ho:OffB c W.heap.size W W') {n':Nat} (hx:W'.heap[c]? =some (ctrO ((n':Int)-1))):SMid w mb c k n' nm bx W':=
 h.step (Off2.of_off ho) (h.map.of_block (ho.block h.map.lt h.ne)) hx
theorem SMid.set (h:SMid w mb c k n nm bx W) (i:Nat) (u:Value) {bx':Obj} (hb':(W.setCell ⟨w.heap.size,i,none⟩ u).heap[w.heap.size]? =some bx'):SMid w mb c k n nm bx' (W.setCell ⟨w.heap.size,i,none⟩ u) where
 off:=h.off.set (.inl Zr) i u
 map:=h.map.of_block (Below.heap_setCell W _ u mb (by show mb≠w.heap.size;have:=h.hm;omega))
 ctr:=(Below.heap_setCell W _ u c (by show c≠w.heap.size;have:=h.hc;omega)).trans h.ctr
 box:=hb'
 res:=(Below.heap_setCell W _ u (w.heap.size+1) (by show w.heap.size+1≠w.heap.size;omega)).trans h.res
 hm:=h.hm
 hc:=h.hc
 ne:=h.ne
end
def DlPost (c n:Nat) (l:List St) (nm:Nm) (w:World) (e:Ending) (w':World):Prop:=
 ∃ v,e=.returned v∧zT w.heap.size w' (qO l nm n).1 v∧OffB c w.heap.size w w'∧w'.heap[c]? =some (ctrO (((qO l nm n).2 :Int)-1))
def StPost (mb c k n:Nat) (s:St) (nm:Nm) (w:World) (e:Ending) (w':World):Prop:=
 ∃ v,e=.returned v∧yI w.heap.size w' (dvS s nm n).1 v∧Off2 mb c w.heap.size w w'∧w'.heap[c]? =some (ctrO (((dvS s nm n).2 :Int)-1))∧MapIs w' mb (k+1) (dvSN s nm n)
structure RnEnv (B mb c k n:Nat) (nm:Nm) (w:World):Prop where
 tab:TreeTab B w
 hm:B≤mb
 hc:B≤c
 map:MapIs w mb k nm
 ne:mb≠c
 ctr:w.heap[c]? =some (ctrO ((n:Int)-1))
 nums:∀ s,nm s≤1000000000
def DlC (m:Nat):Prop:=∀ (B mb c k n:Nat) (l:List St) (nm:Nm) (vl:Value) (w:World),z8 l m=true→RnEnv B mb c k n nm w→n+cntSs l≤1000000000→k+cntSs l≤1000000000→SlS B w vl l→
 Calls Tryz.prog 56 #[vl,.map (some mb),nextV c] w (DlPost c n l nm w)
theorem DlC.call {m:Nat} (h:DlC m) {B mb c k n:Nat} {l:List St} {nm:Nm} {vl:Value} {w:World} (h1:z8 l m=true) (h2:RnEnv B mb c k n nm w) (h3:n+cntSs l≤1000000000) (h4:k+cntSs l≤1000000000) (h5:SlS B w vl l):
 Calls Tryz.prog 56 #[vl,.map (some mb),nextV c] w (DlPost c n l nm w):=h B mb c k n l nm vl w h1 h2 h3 h4 h5
def StC (m:Nat):Prop:=∀ (B mb c k n:Nat) (kk ty:Int) (name:ByteArray) (args:List Ex) (thn els:List St) (nm:Nm) (v3 v4 v5:Value) (w:World),stOK (.mk kk ty name args thn els) m=true→RnEnv B mb c k n nm w→n+kN (.mk kk ty name args thn els)≤1000000000→k+kN (.mk kk ty name args thn els)≤1000000000→qw B w v3 args→SlS B w v4 thn→SlS B w v5 els→
 Calls Tryz.prog 81 #[.agg #[.int .i64 kk,.int .i64 ty,.string name,v3,v4,v5],.map (some mb),nextV c] w (StPost mb c k n (.mk kk ty name args thn els) nm w)
theorem StC.call {m:Nat} (h:StC m) {B mb c k n:Nat} {kk ty:Int} {name:ByteArray} {args:List Ex} {thn els:List St} {nm:Nm} {v3 v4 v5:Value} {w:World} (h1:stOK (.mk kk ty name args thn els) m=true) (h2:RnEnv B mb c k n nm w) (h3:n+kN (.mk kk ty name args thn els)≤1000000000) (h4:k+kN (.mk kk ty name args thn els)≤1000000000) (h5:qw B w v3 args) (h6:SlS B w v4 thn) (h7:SlS B w v5 els):
 Calls Tryz.prog 81 #[.agg #[.int .i64 kk,.int .i64 ty,.string name,v3,v4,v5],.map (some mb),nextV c] w (StPost mb c k n (.mk kk ty name args thn els) nm w):=h B mb c k n kk ty name args thn els nm v3 v4 v5 w h1 h2 h3 h4 h5 h6 h7
theorem upN_le {nm:Nm} (h:∀ s,nm s≤1000000000) (name:ByteArray) {n:Nat} (hn:n≤1000000000):∀ s,upN nm name n s≤1000000000:=fun s=>by unfold upN;split <;> first | exact hn | exact h s
theorem formS_len2 {k ty:Int} {name:ByteArray} {a b c:Nat} {d:Bool} (h:zZ k ty name a b c d=true):a≤2:=by
 unfold zZ at h
 repeat' split at h
 all_goals (simp at h;try omega)
theorem formS_nm {k ty:Int} {s:ByteArray} {a b c:Nat} {d:Bool} (h:zZ k ty s a b c d=true) (hk:k=1∨k=2):s.size≤20:=by
 rcases hk with rfl | rfl
 · unfold zZ at h
   simp only[if_true,Bool.and_eq_true]at h;exact zAf h.1.1.1.2
 · unfold zZ at h
   rw[if_neg (by decide),if_pos rfl]at h;simp only[Bool.and_eq_true]at h;exact zAf h.1.1.1.2
theorem six_set {W:World} {g:Nat} {d0 d1 d2 d3 d4 d5:Value} {T:TypeId} (h:W.heap[g]? =some (.cells #[d0,d1,d2,d3,d4,d5] T (0,0))) (c0 c1 c2 c3 c4 c5:Value):
 ((((((W.setCell ⟨g,0,none⟩ c0).setCell ⟨g,1,none⟩ c1).setCell ⟨g,2,none⟩ c2).setCell ⟨g,3,none⟩ c3).setCell ⟨g,4,none⟩ c4).setCell ⟨g,5,none⟩ c5).heap[g]? =some (.cells #[c0,c1,c2,c3,c4,c5] T (0,0)):=
 Lib.heap_setCell_same (Lib.heap_setCell_same (Lib.heap_setCell_same (Lib.heap_setCell_same (Lib.heap_setCell_same (Lib.heap_setCell_same h c0) c1) c2) c3) c4) c5
abbrev set6 (W:World) (g:Nat) (c0 c1 c2 c3 c4 c5:Value):World:=(((((W.setCell ⟨g,0,none⟩ c0).setCell ⟨g,1,none⟩ c1).setCell ⟨g,2,none⟩ c2).setCell ⟨g,3,none⟩ c3).setCell ⟨g,4,none⟩ c4).setCell ⟨g,5,none⟩ c5
theorem set6_block (W:World) (g:Nat) (c0 c1 c2 c3 c4 c5:Value) (q:Nat) (hq:q≠g):(set6 W g c0 c1 c2 c3 c4 c5).heap[q]? =W.heap[q]?:=
 (Below.heap_setCell _ _ _ q hq).trans ((Below.heap_setCell _ _ _ q hq).trans ((Below.heap_setCell _ _ _ q hq).trans ((Below.heap_setCell _ _ _ q hq).trans ((Below.heap_setCell _ _ _ q hq).trans (Below.heap_setCell _ _ _ q hq)))))
theorem set6_size (W:World) (g:Nat) (c0 c1 c2 c3 c4 c5:Value):(set6 W g c0 c1 c2 c3 c4 c5).heap.size=W.heap.size:=by simp[set6,World.setCell]
theorem uU (W:World) (g:Nat) (c0 c1 c2 c3 c4 c5:Value) {B:Nat} (hB:B≤g):Below B W (set6 W g c0 c1 c2 c3 c4 c5):=
 ((((((Below.refl B W).setCell (p:=⟨g,0,none⟩) hB c0).setCell (p:=⟨g,1,none⟩) hB c1).setCell (p:=⟨g,2,none⟩) hB c2).setCell (p:=⟨g,3,none⟩) hB c3).setCell (p:=⟨g,4,none⟩) hB c4).setCell (p:=⟨g,5,none⟩) hB c5
theorem set6_keep (W:World) (g:Nat) (c0 c1 c2 c3 c4 c5:Value) {L:Nat} (hL:g<L):zD L W (set6 W g c0 c1 c2 c3 c4 c5):=⟨Nat.le_of_eq (set6_size W g c0 c1 c2 c3 c4 c5).symm,fun k _ hk=>set6_block W g c0 c1 c2 c3 c4 c5 k (by omega)⟩
set_option maxHeartbeats 8000000 in
theorem ds_step (m:Nat) (ih:DlC m):StC (m+1):=by
 intro B mb c k n kk ty name args thn els nm v3 v4 v5 w hok henv hc1 hc2 h3 h4 h5;obtain⟨A3,c3,rfl,hn3⟩:=h3.form;obtain⟨A4,c4,rfl,hn4⟩:=h4.form;obtain⟨A5,c5,rfl,hn5⟩:=h5.form;rw[ja]at hok;simp only[Bool.and_eq_true,decide_eq_true_eq]at hok;obtain⟨⟨⟨⟨hm1,hform⟩,hargs⟩,hthn⟩,hels⟩:=hok;have h8:args.length≤8:=by have:=formS_len2 hform;omega
 have hms:=henv.map.lt;have hcs:=zB henv.ctr;have hBm:=henv.hm;have hBc:=henv.hc;have hne:=henv.ne;have HFORM:=hid hform;have HARGS:=hid hargs;have HTHN:=hid (show z8 thn m=true from hthn);have HELS:=hid (show z8 els m=true from hels);rw[kN]at hc1 hc2;have hB0:Below w.heap.size w ((w.alloc (.cells #[.int .i64 kk,.int .i64 ty,.string name,.slice A3 args.length c3,.slice A4 thn.length c4,.slice A5 els.length c5] 88)).alloc (.cells #[.int .i64 0,.int .i64 0,.string ⟨#[]⟩,.slice none 0 0,.slice none 0 0,.slice none 0 0] 88)):=(Zb.alloc Zr _).alloc (by rw[zA];omega) _;have hz0:((w.alloc (.cells #[.int .i64 kk,.int .i64 ty,.string name,.slice A3 args.length c3,.slice A4 thn.length c4,.slice A5 els.length c5] 88)).alloc (.cells #[.int .i64 0,.int .i64 0,.string ⟨#[]⟩,.slice none 0 0,.slice none 0 0,.slice none 0 0] 88)).heap.size=w.heap.size+2:=by rw[zA,zA]
 have HMA:=hid (show SMid w mb c k n nm (.cells #[.int .i64 kk,.int .i64 ty,.string name,.slice A3 args.length c3,.slice A4 thn.length c4,.slice A5 els.length c5] 88) ((w.alloc (.cells #[.int .i64 kk,.int .i64 ty,.string name,.slice A3 args.length c3,.slice A4 thn.length c4,.slice A5 els.length c5] 88)).alloc (.cells #[.int .i64 0,.int .i64 0,.string ⟨#[]⟩,.slice none 0 0,.slice none 0 0,.slice none 0 0] 88)) from {
  off:=Off2.of_below hB0
  map:=henv.map.below hB0
  ctr:=(hB0.block c hcs).trans henv.ctr
  box:=zc (heap_alloc_new w _) _
  res:=by
   have:=heap_alloc_new (w.alloc (.cells #[.int .i64 kk,.int .i64 ty,.string name,.slice A3 args.length c3,.slice A4 thn.length c4,.slice A5 els.length c5] 88)) (.cells #[.int .i64 0,.int .i64 0,.string ⟨#[]⟩,.slice none 0 0,.slice none 0 0,.slice none 0 0] 88);rw[zA]at this;exact this
  hm:=hms
  hc:=hcs
  ne:=hne })
 have HTA:=hid (henv.tab.below (hB0.mono (by omega)));have H3:=hid (h3.below (hB0.mono (by omega)) Zr);have H4:=hid h4;have H5:=hid h5;have HT:=hid henv.tab;have HNM:=hid henv.nums;have HIH:=hid ih;clear hform hargs hthn hels hB0 h3 h4 h5 henv ih;go_enter Tryz.func81,Tryz.ntmps81;go_upto_region 1 with(fail);generalize (w.alloc (.cells #[.int .i64 kk,.int .i64 ty,.string name,.slice A3 args.length c3,.slice A4 thn.length c4,.slice A5 els.length c5] 88)).alloc (.cells #[.int .i64 0,.int .i64 0,.string ⟨#[]⟩,.slice none 0 0,.slice none 0 0,.slice none 0 0] 88)=WA at *;have hza:=Nat.le_of_eq hz0;have hzb:=Nat.le_of_eq hz0.symm;clear hz0;obtain⟨⟨a0,a1,a2,a3,a4,a5⟩,az⟩:=zO HMA.out.box;have hsA:w.heap.size<WA.heap.size:=by omega
 have HE3:=hid (show qw WA.heap.size WA (.slice A3 args.length c3) args from H3.out.below Zb (by omega))
 go_upto_region 2 with(go_at_call 95
                       (with_reducible refine(DxC.call (dx_all 100) HARGS.out h8 HTA.out (by omega) HNM.out HMA.out.map HE3.out).mono ?_)
                       rintro x w2 ⟨v,rfl,hF,hb⟩;obtain⟨A6,c6,rfl,_⟩:=hF.form;rw[xl]at hF;simp only[xl];have hz2:WA.heap.size≤w2.heap.size:=hb.size;have HM2:=hid (HMA.out.below hb);have HF2:=hid (show zU (w.heap.size+2) w2 (qd nm args) (.slice A6 args.length c6) from zU.keep hF (zD.refl _ _) (by omega));obtain⟨⟨b0,b1,b2,b3,b4,b5⟩,bz⟩:=zO HM2.out.box;have hs2:w.heap.size<w2.heap.size:=by omega
                       clear hF hb)
 have HM3:=hid (HM2.out.set 3 (.slice A6 args.length c6) (bx':=.cells #[.int .i64 kk,.int .i64 ty,.string name,.slice A6 args.length c6,.slice A4 thn.length c4,.slice A5 els.length c5] 88) (Lib.heap_setCell_same HM2.out.box _));have HF3:=hid (show zU (w.heap.size+2) (w2.setCell ⟨w.heap.size,3,none⟩ (.slice A6 args.length c6)) (qd nm args) (.slice A6 args.length c6) from zU.keep HF2.out (zD.set (by omega) _ _) Zr);have hz3:(w2.setCell ⟨w.heap.size,3,none⟩ (.slice A6 args.length c6)).heap.size=w2.heap.size:=by simp[World.setCell]
 generalize w2.setCell ⟨w.heap.size,3,none⟩ (.slice A6 args.length c6)=W3 at *;have hz3a:=Nat.le_of_eq hz3;have hz3b:=Nat.le_of_eq hz3.symm;clear hz3 a0 a1 a2 a3 a4 a5 az b0 b1 b2 b3 b4 b5 bz;obtain⟨⟨d0,d1,d2,d3,d4,d5⟩,dz⟩:=zO HM3.out.box;have hs3:w.heap.size<W3.heap.size:=by omega
 have HT3:=hid (HT.out.below (HM3.out.off.below (by omega) hBm hBc));obtain⟨nm',hnm'⟩:∃ x,dvN kk name nm n=x:=⟨_,rfl⟩
 obtain⟨n',hn'⟩:∃ x,xE kk n=x:=⟨_,rfl⟩
 obtain⟨name',hname'⟩:∃ x,(if kk=1∨kk=2 then vN (dvN kk name nm n name) else name)=x:=⟨_,rfl⟩
 have HREN:=hid (show dvS (.mk kk ty name args thn els) nm n=(.mk kk ty name' (qd nm args) (qO thn nm' n').1 (qO els nm' (qO thn nm' n').2).1,(qO els nm' (qO thn nm' n').2).2) from by rw[dvS,hname',hnm',hn']);have HSN:=hid (show dvSN (.mk kk ty name args thn els) nm n=nm' from hnm');have hn'b:n'≤n+1:=by rw[←hn'];unfold xE;split <;> omega
 have HNM':=hid (show ∀ s,nm' s≤1000000000 from by
  rw[←hnm'];unfold dvN;split
  · exact upN_le HNM.out name (by omega)
  · exact HNM.out)
 by_cases hk1:kk=1
 case pos=>
  subst hk1;have hnm1:nm'=upN nm name n:=by rw[←hnm'];unfold dvN;rw[if_pos rfl]
  have hn1:n'=n+1:=by rw[←hn'];unfold xE;rw[if_pos rfl]
  have hname1:name'=vN n:=by rw[←hname',if_pos (.inl rfl)];unfold dvN upN;rw[if_pos rfl,if_pos rfl]
  clear hnm' hn' hname';subst hnm1 hn1 hname1;have hs20:name.size≤281474976710656:=by have:=formS_nm HFORM.out (.inl rfl);omega
  go_upto_region 7 with(go_at_call 55
                        (with_reducible refine(declare_any mb c k n nm name W3 HT3.out hBm hBc HM3.out.map hne HM3.out.ctr hs20 (by omega) (by omega)).mono ?_)
                        rintro x w4 ⟨rfl,ho,hx,hM⟩;have hz4:W3.heap.size≤w4.heap.size:=ho.size;have HM4:=hid (HM3.out.step ho hM hx);have HF4:=hid (show zU (w.heap.size+2) w4 (qd nm args) (.slice A6 args.length c6) from zU.keep HF3.out (zD.of_off2 ho (by omega) (by omega)) Zr);obtain⟨⟨b0,b1,b2,b3,b4,b5⟩,bz⟩:=zO HM4.out.box;have hs4:w.heap.size<w4.heap.size:=by omega
                        clear ho hx hM)
  have HM5:=hid (HM4.out.set 2 (.string (vN n)) (bx':=.cells #[.int .i64 1,.int .i64 ty,.string (vN n),.slice A6 args.length c6,.slice A4 thn.length c4,.slice A5 els.length c5] 88) (Lib.heap_setCell_same HM4.out.box _));have HF5:=hid (show zU (w.heap.size+2) (w4.setCell ⟨w.heap.size,2,none⟩ (.string (vN n))) (qd nm args) (.slice A6 args.length c6) from zU.keep HF4.out (zD.set (by omega) _ _) Zr);have hz5:(w4.setCell ⟨w.heap.size,2,none⟩ (.string (vN n))).heap.size=w4.heap.size:=by simp[World.setCell]
  generalize w4.setCell ⟨w.heap.size,2,none⟩ (.string (vN n))=W5 at *;have hz5a:=Nat.le_of_eq hz5;have hz5b:=Nat.le_of_eq hz5.symm;clear hz5 d0 d1 d2 d3 d4 d5 dz b0 b1 b2 b3 b4 b5 bz;have hs5:w.heap.size<W5.heap.size:=zB HM5.out.box;have hr5:w.heap.size+1<W5.heap.size:=zB HM5.out.res;have HT5:=hid (show TreeTab B W5 from HT.out.below (HM5.out.off.below (by omega) hBm hBc));have HEN5:=hid (show RnEnv B mb c (k+1) (n+1) (upN nm name n) W5 from⟨HT5.out,hBm,hBc,HM5.out.map,hne,HM5.out.ctr,HNM'.out⟩);have H45:=hid (show SlS B W5 (.slice A4 thn.length c4) thn from H4.out.below (HM5.out.off.below (by omega) hBm hBc) Zr);obtain⟨⟨e0,e1,e2,e3,e4,e5⟩,ez⟩:=zO HM5.out.box
  go_upto_region 8 with(go_at_call 56
                        (with_reducible refine(DlC.call HIH.out HTHN.out HEN5.out (by omega) (by omega) H45.out).mono ?_)
                        rintro x w6 ⟨v6,rfl,hF,ho,hx⟩;obtain⟨A7,c7,rfl,_⟩:=zT.form hF;rw[qq]at hF;simp only[qq];have hz6:W5.heap.size≤w6.heap.size:=ho.size;have HM6:=hid (HM5.out.list ho hx);have HF6:=hid (show zU (w.heap.size+2) w6 (qd nm args) (.slice A6 args.length c6) from zU.keep HF5.out (zD.of_off ho (by omega)) Zr);have HG6:=hid (show zT (w.heap.size+2) w6 (qO thn (upN nm name n) (n+1)).1 (.slice A7 thn.length c7) from zT.keep hF (zD.refl _ _) (by omega));obtain⟨⟨f0,f1,f2,f3,f4,f5⟩,fz⟩:=zO HM6.out.box;have hs6:w.heap.size<w6.heap.size:=by omega
                        clear hF ho hx)
  obtain⟨n6,hn6⟩:∃ x,(qO thn (upN nm name n) (n+1)).2=x:=⟨_,rfl⟩
  have hn6b:n6≤n+1+cntSs thn:=by rw[←hn6];exact yX thn _ _
  rw[hn6]at HM6 HREN;have HM7:=hid (HM6.out.set 4 (.slice A7 thn.length c7) (bx':=.cells #[.int .i64 1,.int .i64 ty,.string (vN n),.slice A6 args.length c6,.slice A7 thn.length c7,.slice A5 els.length c5] 88) (Lib.heap_setCell_same HM6.out.box _));have HF7:=hid (show zU (w.heap.size+2) (w6.setCell ⟨w.heap.size,4,none⟩ (.slice A7 thn.length c7)) (qd nm args) (.slice A6 args.length c6) from zU.keep HF6.out (zD.set (by omega) _ _) Zr);have HG7:=hid (show zT (w.heap.size+2) (w6.setCell ⟨w.heap.size,4,none⟩ (.slice A7 thn.length c7)) (qO thn (upN nm name n) (n+1)).1 (.slice A7 thn.length c7) from zT.keep HG6.out (zD.set (by omega) _ _) Zr);have hz7:(w6.setCell ⟨w.heap.size,4,none⟩ (.slice A7 thn.length c7)).heap.size=w6.heap.size:=by simp[World.setCell]
  generalize w6.setCell ⟨w.heap.size,4,none⟩ (.slice A7 thn.length c7)=W7 at *;have hz7a:=Nat.le_of_eq hz7;have hz7b:=Nat.le_of_eq hz7.symm;clear hz7 hn6 e0 e1 e2 e3 e4 e5 ez f0 f1 f2 f3 f4 f5 fz;have hs7:w.heap.size<W7.heap.size:=by omega
  have HT7:=hid (show TreeTab B W7 from HT.out.below (HM7.out.off.below (by omega) hBm hBc));have HEN7:=hid (show RnEnv B mb c (k+1) n6 (upN nm name n) W7 from⟨HT7.out,hBm,hBc,HM7.out.map,hne,HM7.out.ctr,HNM'.out⟩);have H57:=hid (show SlS B W7 (.slice A5 els.length c5) els from H5.out.below (HM7.out.off.below (by omega) hBm hBc) Zr);obtain⟨⟨e0,e1,e2,e3,e4,e5⟩,ez⟩:=zO HM7.out.box
  go_upto_region 9 with(go_at_call 56
                        (with_reducible refine(DlC.call HIH.out HELS.out HEN7.out (by omega) (by omega) H57.out).mono ?_)
                        rintro x w8 ⟨v8,rfl,hF,ho,hx⟩;obtain⟨A8,c8,rfl,_⟩:=zT.form hF;rw[qq]at hF;simp only[qq];have hz8:W7.heap.size≤w8.heap.size:=ho.size;have HM8:=hid (HM7.out.list ho hx);have HF8:=hid (show zU (w.heap.size+2) w8 (qd nm args) (.slice A6 args.length c6) from zU.keep HF7.out (zD.of_off ho (by omega)) Zr);have HG8:=hid (show zT (w.heap.size+2) w8 (qO thn (upN nm name n) (n+1)).1 (.slice A7 thn.length c7) from zT.keep HG7.out (zD.of_off ho (by omega)) Zr);have HH8:=hid (show zT (w.heap.size+2) w8 (qO els (upN nm name n) n6).1 (.slice A8 els.length c8) from zT.keep hF (zD.refl _ _) (by omega));obtain⟨⟨f0,f1,f2,f3,f4,f5⟩,fz⟩:=zO HM8.out.box;have hs8:w.heap.size<w8.heap.size:=by omega
                        clear hF ho hx)
  have HM9:=hid (HM8.out.set 5 (.slice A8 els.length c8) (bx':=.cells #[.int .i64 1,.int .i64 ty,.string (vN n),.slice A6 args.length c6,.slice A7 thn.length c7,.slice A8 els.length c8] 88) (Lib.heap_setCell_same HM8.out.box _));have HF9:=hid (show zU (w.heap.size+2) (w8.setCell ⟨w.heap.size,5,none⟩ (.slice A8 els.length c8)) (qd nm args) (.slice A6 args.length c6) from zU.keep HF8.out (zD.set (by omega) _ _) Zr);have HG9:=hid (show zT (w.heap.size+2) (w8.setCell ⟨w.heap.size,5,none⟩ (.slice A8 els.length c8)) (qO thn (upN nm name n) (n+1)).1 (.slice A7 thn.length c7) from zT.keep HG8.out (zD.set (by omega) _ _) Zr);have HH9:=hid (show zT (w.heap.size+2) (w8.setCell ⟨w.heap.size,5,none⟩ (.slice A8 els.length c8)) (qO els (upN nm name n) n6).1 (.slice A8 els.length c8) from zT.keep HH8.out (zD.set (by omega) _ _) Zr);have hz9:(w8.setCell ⟨w.heap.size,5,none⟩ (.slice A8 els.length c8)).heap.size=w8.heap.size:=by simp[World.setCell]
  generalize w8.setCell ⟨w.heap.size,5,none⟩ (.slice A8 els.length c8)=W9 at *;have hz9a:=Nat.le_of_eq hz9;have hz9b:=Nat.le_of_eq hz9.symm;clear hz9 e0 e1 e2 e3 e4 e5 ez f0 f1 f2 f3 f4 f5 fz;obtain⟨⟨e0,e1,e2,e3,e4,e5⟩,ez⟩:=zO HM9.out.box;obtain⟨⟨r0,r1,r2,r3,r4,r5⟩,rz⟩:=zO HM9.out.res;have hs9:w.heap.size<W9.heap.size:=by omega
  have hr9:w.heap.size+1<W9.heap.size:=zB HM9.out.res;obtain⟨⟨s0,s1,s2,s3,s4,s5⟩,_⟩:=zO (six_set HM9.out.res (.int .i64 1) (.int .i64 ty) (.string (vN n)) (.slice A6 args.length c6) (.slice A7 thn.length c7) (.slice A8 els.length c8));go_wp2_with (fail);refine bodyPost_ret (v:=.agg #[.int .i64 1,.int .i64 ty,.string (vN n),.slice A6 args.length c6,.slice A7 thn.length c7,.slice A8 els.length c8]) (by simp[results,Tryz.results81,go_sem,s0,s1,s2,s3,s4,s5]) rfl ?_;have hX:=uU W9 (w.heap.size+1) (.int .i64 1) (.int .i64 ty) (.string (vN n)) (.slice A6 args.length c6) (.slice A7 thn.length c7) (.slice A8 els.length c8) (B:=w.heap.size) (by omega);have hK:=set6_keep W9 (w.heap.size+1) (.int .i64 1) (.int .i64 ty) (.string (vN n)) (.slice A6 args.length c6) (.slice A7 thn.length c7) (.slice A8 els.length c8) (L:=w.heap.size+2) (by omega);refine⟨_,rfl,?_,HM9.out.off.trans (Off2.of_below hX),?_,?_⟩
  · rw[HREN.out]
    exact⟨_,_,_,rfl,zU.keep HF9.out hK (by omega),zT.keep HG9.out hK (by omega),zT.keep HH9.out hK (by omega)⟩
  · rw[HREN.out]
    exact(hX.block c hcs).trans HM9.out.ctr
  · rw[HSN.out]
    exact HM9.out.map.of_block (hX.block mb hms)
 case neg=>
  have hnm1:nm'=nm:=by rw[←hnm'];unfold dvN;rw[if_neg hk1]
  have hn1:n'=n:=by rw[←hn'];unfold xE;rw[if_neg hk1]
  clear hnm' hn';subst hnm1 hn1;by_cases hk2:kk=2
  case pos=>
   subst hk2;have hname1:name'=vN (nm' name):=by rw[←hname',if_pos (.inr rfl)];unfold dvN;rw[if_neg (by decide)]
   clear hname';subst hname1;have hs20:name.size≤281474976710656:=by have:=formS_nm HFORM.out (.inr rfl);omega
   go_upto_region 7 with(go_at_call 78
                         (with_reducible refine(vname_any mb k nm' name W3 HT3.out HM3.out.map hs20 (HNM.out name)).mono ?_)
                         rintro x w4 ⟨rfl,hb⟩;have hz4:W3.heap.size≤w4.heap.size:=hb.size;have HM4:=hid (HM3.out.below hb);have HF4:=hid (show zU (w.heap.size+2) w4 (qd nm' args) (.slice A6 args.length c6) from zU.keep HF3.out (zD.of_below hb) Zr);obtain⟨⟨b0,b1,b2,b3,b4,b5⟩,bz⟩:=zO HM4.out.box;have hs4:w.heap.size<w4.heap.size:=by omega
                         clear hb)
   have HM5:=hid ((HM4.out.set 2 (.string (vN (nm' name))) (bx':=.cells #[.int .i64 2,.int .i64 ty,.string (vN (nm' name)),.slice A6 args.length c6,.slice A4 thn.length c4,.slice A5 els.length c5] 88) (Lib.heap_setCell_same HM4.out.box _)).up);have HF5:=hid (show zU (w.heap.size+2) (w4.setCell ⟨w.heap.size,2,none⟩ (.string (vN (nm' name)))) (qd nm' args) (.slice A6 args.length c6) from zU.keep HF4.out (zD.set (by omega) _ _) Zr);have hz5:(w4.setCell ⟨w.heap.size,2,none⟩ (.string (vN (nm' name)))).heap.size=w4.heap.size:=by simp[World.setCell]
   generalize w4.setCell ⟨w.heap.size,2,none⟩ (.string (vN (nm' name)))=W5 at *;have hz5a:=Nat.le_of_eq hz5;have hz5b:=Nat.le_of_eq hz5.symm;clear hz5 d0 d1 d2 d3 d4 d5 dz b0 b1 b2 b3 b4 b5 bz;have hs5:w.heap.size<W5.heap.size:=zB HM5.out.box;have hr5:w.heap.size+1<W5.heap.size:=zB HM5.out.res;have HT5:=hid (show TreeTab B W5 from HT.out.below (HM5.out.off.below (by omega) hBm hBc));have HEN5:=hid (show RnEnv B mb c (k+1) (n') (nm') W5 from⟨HT5.out,hBm,hBc,HM5.out.map,hne,HM5.out.ctr,HNM'.out⟩);have H45:=hid (show SlS B W5 (.slice A4 thn.length c4) thn from H4.out.below (HM5.out.off.below (by omega) hBm hBc) Zr);obtain⟨⟨e0,e1,e2,e3,e4,e5⟩,ez⟩:=zO HM5.out.box
   go_upto_region 8 with(go_at_call 56
                         (with_reducible refine(DlC.call HIH.out HTHN.out HEN5.out (by omega) (by omega) H45.out).mono ?_)
                         rintro x w6 ⟨v6,rfl,hF,ho,hx⟩;obtain⟨A7,c7,rfl,_⟩:=zT.form hF;rw[qq]at hF;simp only[qq];have hz6:W5.heap.size≤w6.heap.size:=ho.size;have HM6:=hid (HM5.out.list ho hx);have HF6:=hid (show zU (w.heap.size+2) w6 (qd nm' args) (.slice A6 args.length c6) from zU.keep HF5.out (zD.of_off ho (by omega)) Zr);have HG6:=hid (show zT (w.heap.size+2) w6 (qO thn (nm') (n')).1 (.slice A7 thn.length c7) from zT.keep hF (zD.refl _ _) (by omega));obtain⟨⟨f0,f1,f2,f3,f4,f5⟩,fz⟩:=zO HM6.out.box;have hs6:w.heap.size<w6.heap.size:=by omega
                         clear hF ho hx)
   obtain⟨n6,hn6⟩:∃ x,(qO thn (nm') (n')).2=x:=⟨_,rfl⟩
   have hn6b:n6≤n'+cntSs thn:=by rw[←hn6];exact yX thn _ _
   rw[hn6]at HM6 HREN;have HM7:=hid (HM6.out.set 4 (.slice A7 thn.length c7) (bx':=.cells #[.int .i64 2,.int .i64 ty,.string (vN (nm' name)),.slice A6 args.length c6,.slice A7 thn.length c7,.slice A5 els.length c5] 88) (Lib.heap_setCell_same HM6.out.box _));have HF7:=hid (show zU (w.heap.size+2) (w6.setCell ⟨w.heap.size,4,none⟩ (.slice A7 thn.length c7)) (qd nm' args) (.slice A6 args.length c6) from zU.keep HF6.out (zD.set (by omega) _ _) Zr);have HG7:=hid (show zT (w.heap.size+2) (w6.setCell ⟨w.heap.size,4,none⟩ (.slice A7 thn.length c7)) (qO thn (nm') (n')).1 (.slice A7 thn.length c7) from zT.keep HG6.out (zD.set (by omega) _ _) Zr);have hz7:(w6.setCell ⟨w.heap.size,4,none⟩ (.slice A7 thn.length c7)).heap.size=w6.heap.size:=by simp[World.setCell]
   generalize w6.setCell ⟨w.heap.size,4,none⟩ (.slice A7 thn.length c7)=W7 at *;have hz7a:=Nat.le_of_eq hz7;have hz7b:=Nat.le_of_eq hz7.symm;clear hz7 hn6 e0 e1 e2 e3 e4 e5 ez f0 f1 f2 f3 f4 f5 fz;have hs7:w.heap.size<W7.heap.size:=by omega
   have HT7:=hid (show TreeTab B W7 from HT.out.below (HM7.out.off.below (by omega) hBm hBc));have HEN7:=hid (show RnEnv B mb c (k+1) n6 (nm') W7 from⟨HT7.out,hBm,hBc,HM7.out.map,hne,HM7.out.ctr,HNM'.out⟩);have H57:=hid (show SlS B W7 (.slice A5 els.length c5) els from H5.out.below (HM7.out.off.below (by omega) hBm hBc) Zr);obtain⟨⟨e0,e1,e2,e3,e4,e5⟩,ez⟩:=zO HM7.out.box
   go_upto_region 9 with(go_at_call 56
                         (with_reducible refine(DlC.call HIH.out HELS.out HEN7.out (by omega) (by omega) H57.out).mono ?_)
                         rintro x w8 ⟨v8,rfl,hF,ho,hx⟩;obtain⟨A8,c8,rfl,_⟩:=zT.form hF;rw[qq]at hF;simp only[qq];have hz8:W7.heap.size≤w8.heap.size:=ho.size;have HM8:=hid (HM7.out.list ho hx);have HF8:=hid (show zU (w.heap.size+2) w8 (qd nm' args) (.slice A6 args.length c6) from zU.keep HF7.out (zD.of_off ho (by omega)) Zr);have HG8:=hid (show zT (w.heap.size+2) w8 (qO thn (nm') (n')).1 (.slice A7 thn.length c7) from zT.keep HG7.out (zD.of_off ho (by omega)) Zr);have HH8:=hid (show zT (w.heap.size+2) w8 (qO els (nm') n6).1 (.slice A8 els.length c8) from zT.keep hF (zD.refl _ _) (by omega));obtain⟨⟨f0,f1,f2,f3,f4,f5⟩,fz⟩:=zO HM8.out.box;have hs8:w.heap.size<w8.heap.size:=by omega
                         clear hF ho hx)
   have HM9:=hid (HM8.out.set 5 (.slice A8 els.length c8) (bx':=.cells #[.int .i64 2,.int .i64 ty,.string (vN (nm' name)),.slice A6 args.length c6,.slice A7 thn.length c7,.slice A8 els.length c8] 88) (Lib.heap_setCell_same HM8.out.box _));have HF9:=hid (show zU (w.heap.size+2) (w8.setCell ⟨w.heap.size,5,none⟩ (.slice A8 els.length c8)) (qd nm' args) (.slice A6 args.length c6) from zU.keep HF8.out (zD.set (by omega) _ _) Zr);have HG9:=hid (show zT (w.heap.size+2) (w8.setCell ⟨w.heap.size,5,none⟩ (.slice A8 els.length c8)) (qO thn (nm') (n')).1 (.slice A7 thn.length c7) from zT.keep HG8.out (zD.set (by omega) _ _) Zr);have HH9:=hid (show zT (w.heap.size+2) (w8.setCell ⟨w.heap.size,5,none⟩ (.slice A8 els.length c8)) (qO els (nm') n6).1 (.slice A8 els.length c8) from zT.keep HH8.out (zD.set (by omega) _ _) Zr);have hz9:(w8.setCell ⟨w.heap.size,5,none⟩ (.slice A8 els.length c8)).heap.size=w8.heap.size:=by simp[World.setCell]
   generalize w8.setCell ⟨w.heap.size,5,none⟩ (.slice A8 els.length c8)=W9 at *;have hz9a:=Nat.le_of_eq hz9;have hz9b:=Nat.le_of_eq hz9.symm;clear hz9 e0 e1 e2 e3 e4 e5 ez f0 f1 f2 f3 f4 f5 fz;obtain⟨⟨e0,e1,e2,e3,e4,e5⟩,ez⟩:=zO HM9.out.box;obtain⟨⟨r0,r1,r2,r3,r4,r5⟩,rz⟩:=zO HM9.out.res;have hs9:w.heap.size<W9.heap.size:=by omega
   have hr9:w.heap.size+1<W9.heap.size:=zB HM9.out.res;obtain⟨⟨s0,s1,s2,s3,s4,s5⟩,_⟩:=zO (six_set HM9.out.res (.int .i64 2) (.int .i64 ty) (.string (vN (nm' name))) (.slice A6 args.length c6) (.slice A7 thn.length c7) (.slice A8 els.length c8));go_wp2_with (fail);refine bodyPost_ret (v:=.agg #[.int .i64 2,.int .i64 ty,.string (vN (nm' name)),.slice A6 args.length c6,.slice A7 thn.length c7,.slice A8 els.length c8]) (by simp[results,Tryz.results81,go_sem,s0,s1,s2,s3,s4,s5]) rfl ?_;have hX:=uU W9 (w.heap.size+1) (.int .i64 2) (.int .i64 ty) (.string (vN (nm' name))) (.slice A6 args.length c6) (.slice A7 thn.length c7) (.slice A8 els.length c8) (B:=w.heap.size) (by omega);have hK:=set6_keep W9 (w.heap.size+1) (.int .i64 2) (.int .i64 ty) (.string (vN (nm' name))) (.slice A6 args.length c6) (.slice A7 thn.length c7) (.slice A8 els.length c8) (L:=w.heap.size+2) (by omega);refine⟨_,rfl,?_,HM9.out.off.trans (Off2.of_below hX),?_,?_⟩
   · rw[HREN.out]
     exact⟨_,_,_,rfl,zU.keep HF9.out hK (by omega),zT.keep HG9.out hK (by omega),zT.keep HH9.out hK (by omega)⟩
   · rw[HREN.out]
     exact(hX.block c hcs).trans HM9.out.ctr
   · rw[HSN.out]
     exact HM9.out.map.of_block (hX.block mb hms)
  case neg=>
   have hname1:name'=name:=by rw[←hname',if_neg (by omega)]
   clear hname';subst hname1;go_upto_region 7 with(fail);have HM5:=hid HM3.out.up;have HF5:=HF3;obtain⟨W5,rfl⟩:∃ x,x=W3:=⟨_,rfl⟩
   clear d0 d1 d2 d3 d4 d5 dz;have hs5:w.heap.size<W5.heap.size:=zB HM5.out.box;have hr5:w.heap.size+1<W5.heap.size:=zB HM5.out.res;have HT5:=hid (show TreeTab B W5 from HT.out.below (HM5.out.off.below (by omega) hBm hBc));have HEN5:=hid (show RnEnv B mb c (k+1) (n') (nm') W5 from⟨HT5.out,hBm,hBc,HM5.out.map,hne,HM5.out.ctr,HNM'.out⟩);have H45:=hid (show SlS B W5 (.slice A4 thn.length c4) thn from H4.out.below (HM5.out.off.below (by omega) hBm hBc) Zr);obtain⟨⟨e0,e1,e2,e3,e4,e5⟩,ez⟩:=zO HM5.out.box
   go_upto_region 8 with(go_at_call 56
                         (with_reducible refine(DlC.call HIH.out HTHN.out HEN5.out (by omega) (by omega) H45.out).mono ?_)
                         rintro x w6 ⟨v6,rfl,hF,ho,hx⟩;obtain⟨A7,c7,rfl,_⟩:=zT.form hF;rw[qq]at hF;simp only[qq];have hz6:W5.heap.size≤w6.heap.size:=ho.size;have HM6:=hid (HM5.out.list ho hx);have HF6:=hid (show zU (w.heap.size+2) w6 (qd nm' args) (.slice A6 args.length c6) from zU.keep HF5.out (zD.of_off ho (by omega)) Zr);have HG6:=hid (show zT (w.heap.size+2) w6 (qO thn (nm') (n')).1 (.slice A7 thn.length c7) from zT.keep hF (zD.refl _ _) (by omega));obtain⟨⟨f0,f1,f2,f3,f4,f5⟩,fz⟩:=zO HM6.out.box;have hs6:w.heap.size<w6.heap.size:=by omega
                         clear hF ho hx)
   obtain⟨n6,hn6⟩:∃ x,(qO thn (nm') (n')).2=x:=⟨_,rfl⟩
   have hn6b:n6≤n'+cntSs thn:=by rw[←hn6];exact yX thn _ _
   rw[hn6]at HM6 HREN;have HM7:=hid (HM6.out.set 4 (.slice A7 thn.length c7) (bx':=.cells #[.int .i64 kk,.int .i64 ty,.string (name'),.slice A6 args.length c6,.slice A7 thn.length c7,.slice A5 els.length c5] 88) (Lib.heap_setCell_same HM6.out.box _));have HF7:=hid (show zU (w.heap.size+2) (w6.setCell ⟨w.heap.size,4,none⟩ (.slice A7 thn.length c7)) (qd nm' args) (.slice A6 args.length c6) from zU.keep HF6.out (zD.set (by omega) _ _) Zr);have HG7:=hid (show zT (w.heap.size+2) (w6.setCell ⟨w.heap.size,4,none⟩ (.slice A7 thn.length c7)) (qO thn (nm') (n')).1 (.slice A7 thn.length c7) from zT.keep HG6.out (zD.set (by omega) _ _) Zr);have hz7:(w6.setCell ⟨w.heap.size,4,none⟩ (.slice A7 thn.length c7)).heap.size=w6.heap.size:=by simp[World.setCell]
   generalize w6.setCell ⟨w.heap.size,4,none⟩ (.slice A7 thn.length c7)=W7 at *;have hz7a:=Nat.le_of_eq hz7;have hz7b:=Nat.le_of_eq hz7.symm;clear hz7 hn6 e0 e1 e2 e3 e4 e5 ez f0 f1 f2 f3 f4 f5 fz;have hs7:w.heap.size<W7.heap.size:=by omega
   have HT7:=hid (show TreeTab B W7 from HT.out.below (HM7.out.off.below (by omega) hBm hBc));have HEN7:=hid (show RnEnv B mb c (k+1) n6 (nm') W7 from⟨HT7.out,hBm,hBc,HM7.out.map,hne,HM7.out.ctr,HNM'.out⟩);have H57:=hid (show SlS B W7 (.slice A5 els.length c5) els from H5.out.below (HM7.out.off.below (by omega) hBm hBc) Zr);obtain⟨⟨e0,e1,e2,e3,e4,e5⟩,ez⟩:=zO HM7.out.box
   go_upto_region 9 with(go_at_call 56
                         (with_reducible refine(DlC.call HIH.out HELS.out HEN7.out (by omega) (by omega) H57.out).mono ?_)
                         rintro x w8 ⟨v8,rfl,hF,ho,hx⟩;obtain⟨A8,c8,rfl,_⟩:=zT.form hF;rw[qq]at hF;simp only[qq];have hz8:W7.heap.size≤w8.heap.size:=ho.size;have HM8:=hid (HM7.out.list ho hx);have HF8:=hid (show zU (w.heap.size+2) w8 (qd nm' args) (.slice A6 args.length c6) from zU.keep HF7.out (zD.of_off ho (by omega)) Zr);have HG8:=hid (show zT (w.heap.size+2) w8 (qO thn (nm') (n')).1 (.slice A7 thn.length c7) from zT.keep HG7.out (zD.of_off ho (by omega)) Zr);have HH8:=hid (show zT (w.heap.size+2) w8 (qO els (nm') n6).1 (.slice A8 els.length c8) from zT.keep hF (zD.refl _ _) (by omega));obtain⟨⟨f0,f1,f2,f3,f4,f5⟩,fz⟩:=zO HM8.out.box;have hs8:w.heap.size<w8.heap.size:=by omega
                         clear hF ho hx)
   have HM9:=hid (HM8.out.set 5 (.slice A8 els.length c8) (bx':=.cells #[.int .i64 kk,.int .i64 ty,.string (name'),.slice A6 args.length c6,.slice A7 thn.length c7,.slice A8 els.length c8] 88) (Lib.heap_setCell_same HM8.out.box _));have HF9:=hid (show zU (w.heap.size+2) (w8.setCell ⟨w.heap.size,5,none⟩ (.slice A8 els.length c8)) (qd nm' args) (.slice A6 args.length c6) from zU.keep HF8.out (zD.set (by omega) _ _) Zr);have HG9:=hid (show zT (w.heap.size+2) (w8.setCell ⟨w.heap.size,5,none⟩ (.slice A8 els.length c8)) (qO thn (nm') (n')).1 (.slice A7 thn.length c7) from zT.keep HG8.out (zD.set (by omega) _ _) Zr);have HH9:=hid (show zT (w.heap.size+2) (w8.setCell ⟨w.heap.size,5,none⟩ (.slice A8 els.length c8)) (qO els (nm') n6).1 (.slice A8 els.length c8) from zT.keep HH8.out (zD.set (by omega) _ _) Zr);have hz9:(w8.setCell ⟨w.heap.size,5,none⟩ (.slice A8 els.length c8)).heap.size=w8.heap.size:=by simp[World.setCell]
   generalize w8.setCell ⟨w.heap.size,5,none⟩ (.slice A8 els.length c8)=W9 at *;have hz9a:=Nat.le_of_eq hz9;have hz9b:=Nat.le_of_eq hz9.symm;clear hz9 e0 e1 e2 e3 e4 e5 ez f0 f1 f2 f3 f4 f5 fz;obtain⟨⟨e0,e1,e2,e3,e4,e5⟩,ez⟩:=zO HM9.out.box;obtain⟨⟨r0,r1,r2,r3,r4,r5⟩,rz⟩:=zO HM9.out.res;have hs9:w.heap.size<W9.heap.size:=by omega
   have hr9:w.heap.size+1<W9.heap.size:=zB HM9.out.res;obtain⟨⟨s0,s1,s2,s3,s4,s5⟩,_⟩:=zO (six_set HM9.out.res (.int .i64 kk) (.int .i64 ty) (.string (name')) (.slice A6 args.length c6) (.slice A7 thn.length c7) (.slice A8 els.length c8));go_wp2_with (fail);refine bodyPost_ret (v:=.agg #[.int .i64 kk,.int .i64 ty,.string (name'),.slice A6 args.length c6,.slice A7 thn.length c7,.slice A8 els.length c8]) (by simp[results,Tryz.results81,go_sem,s0,s1,s2,s3,s4,s5]) rfl ?_;have hX:=uU W9 (w.heap.size+1) (.int .i64 kk) (.int .i64 ty) (.string (name')) (.slice A6 args.length c6) (.slice A7 thn.length c7) (.slice A8 els.length c8) (B:=w.heap.size) (by omega);have hK:=set6_keep W9 (w.heap.size+1) (.int .i64 kk) (.int .i64 ty) (.string (name')) (.slice A6 args.length c6) (.slice A7 thn.length c7) (.slice A8 els.length c8) (L:=w.heap.size+2) (by omega);refine⟨_,rfl,?_,HM9.out.off.trans (Off2.of_below hX),?_,?_⟩
   · rw[HREN.out]
     exact⟨_,_,_,rfl,zU.keep HF9.out hK (by omega),zT.keep HG9.out hK (by omega),zT.keep HH9.out hK (by omega)⟩
   · rw[HREN.out]
     exact(hX.block c hcs).trans HM9.out.ctr
   · rw[HSN.out]
     exact HM9.out.map.of_block (hX.block mb hms)
theorem ks_cells {B L:Nat} {w:World} {g c m i:Nat} {ps qs:List StP4} {k ty:Int} {s:ByteArray} {args:List Ex} {thn els:List St} {v3 v4 v5:Value} (h:OutT kS4 B L w (.slice (some ⟨g,0,none⟩) m c) ps (⟨St.mk k ty s args thn els,v3,v4,v5⟩ :: qs)) (hm:m=(ps++(⟨St.mk k ty s args thn els,v3,v4,v5⟩:StP4) :: qs).length) (hi:ps.length=i):
 (w.cell? ⟨g,i * 6,none⟩=some (.int .i64 k)∧w.cell? ⟨g,i * 6+1,none⟩=some (.int .i64 ty)∧w.cell? ⟨g,i * 6+2,none⟩=some (.string s)∧w.cell? ⟨g,i * 6+3,none⟩=some v3∧w.cell? ⟨g,i * 6+4,none⟩=some v4∧w.cell? ⟨g,i * 6+5,none⟩=some v5)∧∀ o,w.frozen? ⟨g,o,none⟩=false:=by
 subst hi;exact⟨⟨h.cel hm (j:=0) rfl,h.cel hm (j:=1) rfl,h.cel hm (j:=2) rfl,h.cel hm (j:=3) rfl,h.cel hm (j:=4) rfl,h.cel hm (j:=5) rfl⟩,fun o=>h.frz hm o⟩
abbrev set6o (W:World) (g o:Nat) (c0 c1 c2 c3 c4 c5:Value):World:=(((((W.setCell ⟨g,o,none⟩ c0).setCell ⟨g,o+1,none⟩ c1).setCell ⟨g,o+2,none⟩ c2).setCell ⟨g,o+3,none⟩ c3).setCell ⟨g,o+4,none⟩ c4).setCell ⟨g,o+5,none⟩ c5
theorem set6o_block (W:World) (g o:Nat) (c0 c1 c2 c3 c4 c5:Value) (q:Nat) (hq:q≠g):(set6o W g o c0 c1 c2 c3 c4 c5).heap[q]? =W.heap[q]?:=
 (Below.heap_setCell _ _ _ q hq).trans ((Below.heap_setCell _ _ _ q hq).trans ((Below.heap_setCell _ _ _ q hq).trans ((Below.heap_setCell _ _ _ q hq).trans ((Below.heap_setCell _ _ _ q hq).trans (Below.heap_setCell _ _ _ q hq)))))
theorem set6o_size (W:World) (g o:Nat) (c0 c1 c2 c3 c4 c5:Value):(set6o W g o c0 c1 c2 c3 c4 c5).heap.size=W.heap.size:=by simp[set6o,World.setCell]
theorem set6o_keep (W:World) (g o:Nat) (c0 c1 c2 c3 c4 c5:Value) {L:Nat} (hL:g<L):zD L W (set6o W g o c0 c1 c2 c3 c4 c5):=⟨Nat.le_of_eq (set6o_size W g o c0 c1 c2 c3 c4 c5).symm,fun k _ hk=>set6o_block W g o c0 c1 c2 c3 c4 c5 k (by omega)⟩
theorem set6o_off (W:World) (g o:Nat) (c0 c1 c2 c3 c4 c5:Value) {b B:Nat} (hg:B≤g) (hb:b<W.heap.size):OffB b B W (set6o W g o c0 c1 c2 c3 c4 c5):=
 OffB.of_below (((((((Below.refl B W).setCell (p:=⟨g,o,none⟩) hg c0).setCell (p:=⟨g,o+1,none⟩) hg c1).setCell (p:=⟨g,o+2,none⟩) hg c2).setCell (p:=⟨g,o+3,none⟩) hg c3).setCell (p:=⟨g,o+4,none⟩) hg c4).setCell (p:=⟨g,o+5,none⟩) hg c5) hb
theorem ks_set {B L:Nat} {w:World} {g c m i:Nat} {ps qs:List StP4} {k ty:Int} {s:ByteArray} {args:List Ex} {thn els:List St} {v3 v4 v5:Value} (h:OutT kS4 B L w (.slice (some ⟨g,0,none⟩) m c) ps (⟨St.mk k ty s args thn els,v3,v4,v5⟩ :: qs)) (hm:m=(ps++(⟨St.mk k ty s args thn els,v3,v4,v5⟩:StP4) :: qs).length) (hi:ps.length=i)
 (k' ty':Int) (s':ByteArray) (args':List Ex) (thn' els':List St) (u3 u4 u5:Value):
 OutT kS4 B L (set6o w g (i * 6) (.int .i64 k') (.int .i64 ty') (.string s') u3 u4 u5) (.slice (some ⟨g,0,none⟩) m c) ps (⟨St.mk k' ty' s' args' thn' els',u3,u4,u5⟩ :: qs):=by
 have hl:∀ q:StP4,m=(ps++q :: qs).length:=fun q=>by rw[hm];simp
 subst hi;have h1:=h.set (q':=⟨St.mk k' ty s args thn els,v3,v4,v5⟩) hm (i:=ps.length * 6) (j:=0) (u:=.int .i64 k') rfl rfl (by decide);have h2:=h1.set (q':=⟨St.mk k' ty' s args thn els,v3,v4,v5⟩) (hl _) (i:=ps.length * 6+1) (j:=1) (u:=.int .i64 ty') rfl rfl (by decide);have h3:=h2.set (q':=⟨St.mk k' ty' s' args thn els,v3,v4,v5⟩) (hl _) (i:=ps.length * 6+2) (j:=2) (u:=.string s') rfl rfl (by decide);have h4:=h3.set (q':=⟨St.mk k' ty' s' args thn els,u3,v4,v5⟩) (hl _) (i:=ps.length * 6+3) (j:=3) (u:=u3) rfl rfl (by decide);have h5:=h4.set (q':=⟨St.mk k' ty' s' args thn els,u3,u4,v5⟩) (hl _) (i:=ps.length * 6+4) (j:=4) (u:=u4) rfl rfl (by decide);exact h5.set (q':=⟨St.mk k' ty' s' args' thn' els',u3,u4,u5⟩) (hl _) (i:=ps.length * 6+5) (j:=5) (u:=u5) rfl rfl (by decide)
theorem frk_st {M:Nat} {W:World} {k ty:Int} {s:ByteArray} {a:List Ex} {b d:List St} {v3 v4 v5:Value} (h3:zU M W a v3) (h4:zT M W b v4) (h5:zT M W d v5):FrK kS4 M W ⟨St.mk k ty s a b d,v3,v4,v5⟩:=by
 show qw W.heap.size (mask (yd M) W) v3 a∧SlS W.heap.size (mask (yd M) W) v4 b∧SlS W.heap.size (mask (yd M) W) v5 d;exact⟨h3,h4,h5⟩
theorem dvSN_le {nm:Nm} (h:∀ s,nm s≤1000000000) (s:St) {n:Nat} (hn:n≤1000000000):∀ t,dvSN s nm n t≤1000000000:=by
 obtain⟨k,ty,name,args,thn,els⟩:=s;intro t;unfold dvSN dvN;dsimp only;split
 · exact upN_le h name hn t
 · exact h t
theorem cnt_len2:∀ l:List St,l.length≤cntSs l
 | []=>Nat.zero_le _
 | .mk k t n a b c :: r=>by
   have:=cnt_len2 r;rw[cntSs,kN,List.length_cons];omega
set_option maxHeartbeats 4000000 in
theorem dl_step (m:Nat) (ih:∀ m',m'+1=m→DlC m'):DlC m:=by
 intro B mb c k n l nm vl w hok henv hc1 hc2 hl;obtain⟨A,cp,rfl,hn⟩:=hl.form;have hcs:=zB henv.ctr;have hms:=henv.map.lt;have hcl:=cnt_len2 l;by_cases h0:l=[]
 · subst h0
   have HX:=hid henv.ctr;clear henv hl;go_enter Tryz.func56,Tryz.ntmps56;go_wp2_with (fail);go_ret;refine⟨_,rfl,?_,OffB.refl _ _ _,?_⟩
   · rw[qO]
     exact slS_nil _ _
   · rw[qO]
     exact HX.out
 · have hlp:0<l.length:=List.length_pos_iff.2 h0
   obtain⟨os,hos,hsrc⟩:=src_sts hl;have hosl:os.length=l.length:=by rw[←hos,List.length_map]
   have hne0:¬ ((l.length:Int)=0):=by omega
   have hne1:((l.length:Int) == 0)=false:=by simpa using hne0
   have HOSL:=hid hosl;have HOS:=hid hos;have HSRC:=hid hsrc;have HOK:=hid hok;have HENV:=hid henv;have HC1:=hid hc1;have HC2:=hid hc2;have HIH:=hid ih;have hBm:=henv.hm;have hBc:=henv.hc;have hBw:B≤w.heap.size:=by omega
   clear hok henv hl ih hos hsrc hosl hc1 hc2;go_enter Tryz.func56,Tryz.ntmps56
   go_wp2_with (first
    | (go_at_call 79;(with_reducible refine(clone_sts A l.length cp os w HSRC.out (by have:=HC1.out;omega)).mono ?_);rintro e w1 ⟨v1,rfl,hown,hb1⟩
       obtain⟨A1,c1,hv1⟩:=zj hown;rw[HOSL.out]at hv1;subst hv1;have HO1:=hid hown;have HB1:=hid hb1;have HM1:=hid (HENV.out.map.below hb1);have HG1:=hid (fun j (hj:(Value.slice A1 l.length c1).ownBlock=some j)=>qJ hown j hj);have hz1:w.heap.size≤w1.heap.size:=hb1.size
       clear hown hb1)
    | (go_at_call 80;(with_reducible refine(mclone_any mb k nm w1 HM1.out).mono ?_);rintro e w2 ⟨rfl,hM2,hb2,hz2⟩
       have HM2:=hid hM2;have HB2:=hid hb2;have hz2a:=Nat.le_of_eq hz2;have hz2b:=Nat.le_of_eq hz2.symm
       clear hM2 hb2 hz2))
   go_loopw [18] (fun iv wr=>∃ (i nj:Nat) (ps:List StP4) (nmj:Nm),i≤l.length∧iv=.int .i64 i∧qO l nm n=(ps.map (·.s)++(qO (l.drop i) nmj nj).1,(qO (l.drop i) nmj nj).2)∧ps.length=i∧nj+cntSs (l.drop i)≤1000000000∧k+i+cntSs (l.drop i)≤1000000000∧
    OutT kS4 w.heap.size w2.heap.size wr (.slice A1 l.length c1) ps (os.drop i)∧OffB c w.heap.size w wr∧MapIs wr w1.heap.size (k+i) nmj∧wr.heap[c]? =some (ctrO ((nj:Int)-1))∧(∀ s,nmj s≤1000000000)∧w2.heap.size≤wr.heap.size) (fun iv _=>l.length-(intOf iv).toNat)
   case atStart=>
    have hb12:Below w.heap.size w w2:=HB1.out.trans (HB2.out.mono hz1);exact⟨0,n,[],nm,Nat.zero_le _,rfl,by simp,rfl,HC1.out,HC2.out,(OutT.start HO1.out (by omega)).below HB2.out,OffB.of_below hb12 hcs,HM2.out,(hb12.block c hcs).trans HENV.out.ctr,HENV.out.nums,Nat.le_refl _⟩
   case round=>
    obtain⟨i,nj,ps,nmj,hi,rfl,heq,hpl,hcj,hkj,hT,hoff,hM,hx,hnum,hw2⟩:=hrel;have HEQ:=hid heq;have HPL:=hid hpl;have HOFF:=hid hoff;have HM:=hid hM;have HX:=hid hx;have HNUM:=hid hnum;have HCJ:=hid hcj;have HKJ:=hid hkj;clear heq hpl hoff hM hx hnum hcj hkj;by_cases hlt:i<l.length
    · obtain⟨⟨kk,ty,name,args,thn,els⟩,he⟩:∃ e,l[i]? =some e:=⟨_,List.getElem?_eq_getElem hlt⟩
      obtain⟨v3,v4,v5,hva⟩:∃ v3 v4 v5,os[i]? =some ⟨St.mk kk ty name args thn els,v3,v4,v5⟩:=by
       have h1:(os.map (·.s))[i]? =some (.mk kk ty name args thn els):=by rw[HOS.out];exact he
       rw[List.getElem?_map]at h1;cases h2:os[i]? with
       | none=>rw[h2]at h1;cases h1
       | some x=>
         obtain⟨xs,x3,x4,x5⟩:=x;rw[h2]at h1;have h3:=Option.some.inj h1;dsimp only at h3;subst h3;exact⟨x3,x4,x5,rfl⟩
      rw[jv hva]at hT;have hin:=HSRC.out.inn _ (List.mem_of_getElem? hva);obtain⟨in3,in4,in5⟩:qw B w v3 args∧SlS B w v4 thn∧SlS B w v5 els:=hin;obtain⟨g,c',hv,hBg,hg,hgL⟩:=hT.cons (by simp);simp only[Value.slice.injEq]at hv;obtain⟨rfl,hlen,rfl⟩:=hv;have hg1:g<w1.heap.size:=(HG1.out g rfl).1;have HLEN:=hid hlen;obtain⟨⟨q0,q1,q2,q3,q4,q5⟩,qz⟩:=ks_cells hT hlen HPL.out;have hoke:=stsOK_at HOK.out he
      obtain⟨m',rfl⟩:∃ m',m=m'+1:=by
       rw[ja]at hoke;simp only[Bool.and_eq_true,decide_eq_true_eq]at hoke;exact⟨m-1,by omega⟩
      have HSTC:=hid (ds_step m' (HIH.out m' rfl));have HOKE:=hid hoke;have HE:=hid he;have HTT:=hid hT;have hdr:l.drop i=.mk kk ty name args thn els :: l.drop (i+1):=jv he;have hcd:cntSs (l.drop i)=kN (.mk kk ty name args thn els)+cntSs (l.drop (i+1)):=by rw[hdr,cntSs]
      have HDR:=hid hdr;have HCD:=hid hcd;have hbel:Below B w wr:=qt HOFF.out hBw hBc;have HEN:=hid (show RnEnv B w1.heap.size c (k+i) nj nmj wr from⟨HENV.out.tab.below hbel,by omega,hBc,HM.out,by omega,HX.out,HNUM.out⟩);have HI3:=hid (in3.below hbel Zr);have HI4:=hid (in4.below hbel Zr);have HI5:=hid (in5.below hbel Zr);clear he hva in3 in4 in5 hT hoke hlen hdr hcd hbel
      go_wp2_with (go_at_call 81
                   (with_reducible refine(StC.call HSTC.out HOKE.out HEN.out (by have:=HCJ.out;have:=HCD.out;omega) (by have:=HKJ.out;have:=HCD.out;omega) HI3.out HI4.out HI5.out).mono ?_)
                   rintro x w4 ⟨v,rfl,hF,ho,hx4,hM4⟩;obtain⟨e',he'⟩:∃ x,(dvS (.mk kk ty name args thn els) nmj nj).1=x:=⟨_,rfl⟩
                   rw[he']at hF;have HE':=hid he';clear he';obtain⟨k1,t1,s1,a1,b1,d1⟩:=e';obtain⟨u3,u4,u5,rfl,hf3,hf4,hf5⟩:=hF;obtain⟨D3,e3,rfl,_⟩:=zU.form hf3;obtain⟨D4,e4,rfl,_⟩:=zT.form hf4;obtain⟨D5,e5,rfl,_⟩:=zT.form hf5;have hz4:wr.heap.size≤w4.heap.size:=ho.size;have HO4:=hid ho;have HX4:=hid hx4;have HM4:=hid hM4;have HF4:=hid (And.intro hf3 (And.intro hf4 hf5))
                   have HTT4:=hid (HTT.out.keep (zD.of_off2 ho (by omega) (by omega)) fun j hj hjo=>by
                    have e1:(some g:Option Nat)=some j:=hjo;injection e1 with e1;subst e1
                    exact ho.block g hj (by omega) (by omega))
                   have hg4:g<w4.heap.size:=by omega
                   obtain⟨⟨p0,p1,p2,p3,p4,p5⟩,pz⟩:=ks_cells HTT4.out HLEN.out HPL.out
                   clear ho hx4 hM4 hf3 hf4 hf5)
      have HTT5:=hid (ks_set HTT4.out HLEN.out HPL.out k1 t1 s1 a1 b1 d1 (.slice D3 a1.length e3) (.slice D4 b1.length e4) (.slice D5 d1.length e5));have HK5:=hid (set6o_keep w4 g (i * 6) (.int .i64 k1) (.int .i64 t1) (.string s1) (.slice D3 a1.length e3) (.slice D4 b1.length e4) (.slice D5 d1.length e5) (L:=wr.heap.size) (by omega));have HB5:=hid (fun q (hq:q≠g)=>set6o_block w4 g (i * 6) (.int .i64 k1) (.int .i64 t1) (.string s1) (.slice D3 a1.length e3) (.slice D4 b1.length e4) (.slice D5 d1.length e5) q hq);have HF5:=hid (set6o_off w4 g (i * 6) (.int .i64 k1) (.int .i64 t1) (.string s1) (.slice D3 a1.length e3) (.slice D4 b1.length e4) (.slice D5 d1.length e5) (b:=c) (B:=w.heap.size) hBg (by omega));have hz5:=set6o_size w4 g (i * 6) (.int .i64 k1) (.int .i64 t1) (.string s1) (.slice D3 a1.length e3) (.slice D4 b1.length e4) (.slice D5 d1.length e5);go_roundw
      case rel=>
       refine⟨i+1,(dvS (.mk kk ty name args thn els) nmj nj).2,ps++[⟨.mk k1 t1 s1 a1 b1 d1,.slice D3 a1.length e3,.slice D4 b1.length e4,.slice D5 d1.length e5⟩],dvSN (.mk kk ty name args thn els) nmj nj,by omega,by go_num,?_,by rw[List.length_append,HPL.out];rfl,?_,?_,?_,?_,?_,?_,?_,by rw[hz5];omega⟩
       · rw[HEQ.out,HDR.out,qO,HE'.out,List.map_append]
         simp
       · have:=dvS_cnt (.mk kk ty name args thn els) nmj nj
         have:=HCJ.out;have:=HCD.out;omega
       · have:=HKJ.out
         have:=HCD.out;have:1≤kN (.mk kk ty name args thn els):=by rw[kN];omega
         omega
       · obtain⟨hf3,hf4,hf5⟩:=HF4.out
         exact HTT5.out.push (M:=wr.heap.size) (frk_st (zU.keep hf3 HK5.out Zr) (zT.keep hf4 HK5.out Zr) (zT.keep hf5 HK5.out Zr)) hw2
       · exact(HOFF.out.trans ((OffB.mk' HO4.out.os HO4.out.tape HO4.out.output HO4.out.size (by omega) fun q h1 h2=>HO4.out.block q (by omega) (by omega) h2))).trans HF5.out
       · exact(HM4.out.of_block (HB5.out _ (by omega)))
       · exact(HB5.out c (by omega)).trans HX4.out
       · exact dvSN_le HNUM.out _ (by have:=HCJ.out;omega)
      case measure=>simp[intOf];omega
    · have hil:i=l.length:=by omega
      subst hil
      have HRES:=hid (show zT w.heap.size wr (qO l nm n).1 (.slice A1 l.length c1)∧(qO l nm n).2=nj from by
       rw[List.drop_of_length_le (by rw[HOSL.out];exact Nat.le_refl _)]at hT;have h1:=OutK.stmts (hT.fin (by omega)) (by rw[HPL.out];omega);have h2:=HEQ.out;rw[List.drop_length,qO,List.append_nil]at h2;rw[h2]
       exact⟨h1,rfl⟩)
      clear hT;go_wp2_with (fail);go_ret;exact⟨_,rfl,HRES.out.1,HOFF.out,by rw[HRES.out.2];exact HX.out⟩
theorem dl_all:∀ m,DlC m:=fun m=>by
 induction m with
 | zero=>exact dl_step 0 fun m' h=>absurd h (by omega)
 | succ m ih=>exact dl_step (m+1) fun m' h=>by obtain rfl:m'=m:=by omega
                                               exact ih
end Go.Proofs.YtfghofifjnbicaaGreatDoor
