import Derived.Test.YtfghofifjnbicaaGreatDoorAhZed
import Derived.Test.YtfghofifjnbicaaGreatDoorAhTyGlo
import Derived.Test.YtfghofifjnbicaaGreatDoorAhParLex
import Derived.Test.YtfghofifjnbicaaGreatDoorAhParBlk
import Derived.Test.YtfghofifjnbicaaGreatDoorAhTreeRefD
set_option linter.unusedSimpArgs false
set_option linter.unusedVariables false
set_option maxRecDepth 100000
/- A right program whose variables are named anew: valid, its names each its own, named anew again the same. No Go, no program. -/
namespace Go.Proofs.YtfghofifjnbicaaGreatDoor
open Lib (hid)
open Go.RowKit
mutual
theorem renS_cnt:∀ (s:St) (all:kM) (n:Nat),(renS s all n).2≤n+kN s
 | .mk k ty name args thn els,all,n=>by
   have h1:=yU thn (xb k name all n) (xE k n);have h2:=yU els (xb k name all n) (qL thn (xb k name all n) (xE k n)).2;have h3:xE k n≤n+1:=by unfold xE;split <;> omega
   rw[renS,kN];show (qL els (xb k name all n) (qL thn (xb k name all n) (xE k n)).2).2≤_;omega
theorem yU:∀ (l:List St) (all:kM) (n:Nat),(qL l all n).2≤n+cntSs l
 | [],all,n=>by rw[qL,cntSs];exact Nat.le_refl _
 | s :: r,all,n=>by
   have h1:=renS_cnt s all n;have h2:=yU r (letSN s all n) (renS s all n).2;rw[qL,cntSs];show (qL r (letSN s all n) (renS s all n).2).2≤_;omega
end
theorem chkP_ok {p:Pr} (h:(uJ p).1=0):prOK p=true:=by
 unfold uJ at h;by_cases h1:prOK p=false
 · rw[if_pos h1]at h;exact absurd h (by decide)
 · simpa using h1
theorem renEs_map (names:kM):∀ l:List Ex,qe names l=l.map (renE names)
 | []=>by rw[qe];rfl
 | e :: r=>by rw[qe,renEs_map names r];rfl
theorem renEs_take {names:kM} {l:List Ex} {i:Nat} {e:Ex} (h:l[i]? =some e):qe names (l.take (i+1))=qe names (l.take i)++[renE names e]:=by
 rw[renEs_map,renEs_map,List.take_add_one,h];simp
theorem formE_len {k op n:Int} {s:ByteArray} {len:Nat} (h:zh k op n s len=true):len≤8:=by
 unfold zh at h
 repeat' split at h
 all_goals (simp at h;try omega)
def RxnC (m:Nat):Prop:=∀ (l:List Ex) (names:kM) (vl vn:Value) (w:World),zr l m=true→l.length≤8→qw w.heap.size w vl l→SlQ w.heap.size w vn names→
 Calls Tryz.prog 58 #[vl,vn] w fun e w'=>∃ v,e=.returned v∧zU w.heap.size w' (qe names l) v∧Below w.heap.size w w'
theorem RxnC.call {m:Nat} (h:RxnC m) {l:List Ex} {names:kM} {vl vn:Value} {w:World} (h1:zr l m=true) (h2:l.length≤8) (h3:qw w.heap.size w vl l) (h4:SlQ w.heap.size w vn names):
 Calls Tryz.prog 58 #[vl,vn] w fun e w'=>∃ v,e=.returned v∧zU w.heap.size w' (qe names l) v∧Below w.heap.size w w':=h l names vl vn w h1 h2 h3 h4
set_option maxHeartbeats 4000000 in
theorem rxn_step (m:Nat) (ih:∀ m',m'+1=m→RxnC m'):RxnC m:=by
 intro l names vl vn w hok h8 hl hq;obtain⟨A,c,rfl,hn⟩:=hl.form;obtain⟨A2,c2,rfl,hn2⟩:=hq.form;obtain⟨i0,hi0,hz0,hz1,hz2⟩:=info_parts ex_info;have HI0:=hid (And.intro hi0 (And.intro hz0 (And.intro hz1 hz2)));have HL:=hid hl;have HQ:=hid hq;have HOK:=hid hok;have HIH:=hid ih;clear hl hq hok ih hi0 hz0 hz1 hz2;go_enter Tryz.func58,Tryz.ntmps58;go_wp2_with (fail)
 go_loopw [5,6] (fun ov iv wr=>∃ i:Nat,i≤l.length∧iv=.int .i64 i∧xi w.heap.size wr ov (qe names (l.take i))∧Below w.heap.size w wr) (fun _ iv _=>l.length-(intOf iv).toNat)
 case atStart=>exact⟨0,Nat.zero_le _,rfl,by rw[List.take_zero,qe];exact xi.nil _ _,Below.refl _ _⟩
 case round=>
  obtain⟨i,hi,rfl,hO,hbw⟩:=hrel;have hsz:w.heap.size≤wr.heap.size:=hbw.size;obtain⟨acc,hacc⟩:∃ acc,qe names (l.take i)=acc:=⟨_,rfl⟩
  have hacl:acc.length=i:=by rw[←hacc,kI,List.length_take];omega
  rw[hacc]at hO;subst hacl;obtain⟨A0,c0,rfl⟩:=hO.form;have HO:=hid hO;have HBW:=hid hbw;have HACC:=hid hacc;clear hO hbw hacc;by_cases hlt:acc.length<l.length
  · obtain⟨⟨k,op,n,s,args⟩,he⟩:∃ e,l[acc.length]? =some e:=⟨_,List.getElem?_eq_getElem hlt⟩
    obtain⟨g,o,va,rfl,hg,q0,q1,q2,q3,q4,hs⟩:=(HL.out.below HBW.out Zr).cells he;have hrg:=HL.out.range he;obtain⟨A3,c3,rfl,hn3⟩:=hs.form;have hgs:g<wr.heap.size:=by omega
    have hoke:=qV HOK.out he;rw[ju]at hoke;simp only[Bool.and_eq_true,decide_eq_true_eq]at hoke;obtain⟨⟨h1m,hf⟩,hargs⟩:=hoke;obtain⟨m',rfl⟩:∃ m',m=m'+1:=⟨m-1,by omega⟩
    have h8a:=formE_len hf;have HARG:=hid (show zr args m'=true from hargs);have HE:=hid he;have HS:=hid hs;have HRG:=hid hrg;clear he hs hrg hargs hf;obtain⟨s1,hs1⟩:∃ s1,(if k=3 then fnd names s else s)=s1:=⟨_,rfl⟩
    have HREN:=hid (show renE names (.mk k op n s args)=.mk k op n s1 (qe names args) by rw[renE,hs1]);have hxA:(wr.alloc (.cells #[.int .i64 k,.int .i64 op,.int .i64 n,.string s,.slice A3 args.length c3] 116)).heap[wr.heap.size]? =some (.cells #[.int .i64 k,.int .i64 op,.int .i64 n,.string s,.slice A3 args.length c3] 116):=heap_alloc_new wr _;have hbA:Below wr.heap.size wr (wr.alloc (.cells #[.int .i64 k,.int .i64 op,.int .i64 n,.string s,.slice A3 args.length c3] 116)):=Zb.alloc Zr _;have hzA:(wr.alloc (.cells #[.int .i64 k,.int .i64 op,.int .i64 n,.string s,.slice A3 args.length c3] 116)).heap.size=wr.heap.size+1:=zA _ _;have HQA:=hid (show SlQ (wr.alloc (.cells #[.int .i64 k,.int .i64 op,.int .i64 n,.string s,.slice A3 args.length c3] 116)).heap.size (wr.alloc (.cells #[.int .i64 k,.int .i64 op,.int .i64 n,.string s,.slice A3 args.length c3] 116)) (.slice A2 names.length c2) names from HQ.out.below (HBW.out.trans (hbA.mono hsz)) (by omega));obtain⟨⟨a0,a1,a2,a3,a4⟩,az⟩:=qK hxA;have HXA:=hid hxA;have HBA:=hid hbA;clear hxA hbA;by_cases hk:k=3
    case pos=>
     have hk3:(k == 3)=true:=by simp[hk]
     rw[if_pos hk]at hs1;have HS1:=hid hs1;clear hs1 hk;have hx1:(wr.alloc (.cells #[.int .i64 k,.int .i64 op,.int .i64 n,.string s1,.slice A3 args.length c3] 116)).heap[wr.heap.size]? =some (.cells #[.int .i64 k,.int .i64 op,.int .i64 n,.string s1,.slice A3 args.length c3] 116):=heap_alloc_new wr _;have hb1:Below wr.heap.size wr (wr.alloc (.cells #[.int .i64 k,.int .i64 op,.int .i64 n,.string s1,.slice A3 args.length c3] 116)):=Zb.alloc Zr _;have hz1:(wr.alloc (.cells #[.int .i64 k,.int .i64 op,.int .i64 n,.string s1,.slice A3 args.length c3] 116)).heap.size=wr.heap.size+1:=zA _ _;go_upto_region 8 with(go_at_call 59;(with_reducible refine(uP _ names s s1 HS1.out _ _ Zr HQA.out).mono ?_);rintro x w2 ⟨rfl,rfl⟩);generalize wr.alloc (.cells #[.int .i64 k,.int .i64 op,.int .i64 n,.string s1,.slice A3 args.length c3] 116)=W1 at *;obtain⟨⟨b0,b1,b2,b3,b4⟩,bz⟩:=qK hx1;have HX1:=hid hx1;have HB1:=hid hb1;have HA1:=hid (show qw W1.heap.size W1 (.slice A3 args.length c3) args from HS.out.below (hb1.mono hsz) (by omega));have HQ1:=hid (show SlQ W1.heap.size W1 (.slice A2 names.length c2) names from HQ.out.below (HBW.out.trans (hb1.mono hsz)) (by omega));clear hx1 hb1
     go_wp2_with (first
      | (go_at_call 58
         (with_reducible refine(RxnC.call (HIH.out m' rfl) HARG.out h8a HA1.out HQ1.out).mono ?_)
         rintro x w2 ⟨v2,rfl,hF,hb⟩;obtain⟨A4,c4,rfl,_⟩:=hF.form;rw[kI]at hF;simp only[kI];have hz2:W1.heap.size≤w2.heap.size:=hb.size;have hx2:=(hb.block wr.heap.size (by omega)).trans HX1.out;obtain⟨⟨e0,e1,e2,e3,e4⟩,ez⟩:=qK hx2;have hs2:wr.heap.size<w2.heap.size:=by omega
         have hsz3:(w2.setCell ⟨wr.heap.size,4,none⟩ (.slice A4 args.length c4)).heap.size=w2.heap.size:=by simp[World.setCell]
         have hb3:Below wr.heap.size wr (w2.setCell ⟨wr.heap.size,4,none⟩ (.slice A4 args.length c4)):=(HB1.out.trans (hb.mono (by omega))).setCell (p:=⟨wr.heap.size,4,none⟩) Zr _;have HO3:=hid (HO.out.keep (zD.of_below (L:=w.heap.size) hb3));obtain⟨hpre1,hpre2,hpre3⟩:=ut HO3.out (.int .i64 k) (.int .i64 op) (.int .i64 n) (.string s1) (.slice A4 args.length c4) (by rw[hsz3];omega);rw[hsz3]at hpre2;have HPRE:=hid (And.intro hpre1 (And.intro hpre2 hpre3))
         have HFE:=hid (show jc W1.heap.size (w2.setCell ⟨wr.heap.size,4,none⟩ (.slice A4 args.length c4)) (renE names (.mk k op n s args)) (.agg #[.int .i64 k,.int .i64 op,.int .i64 n,.string s1,.slice A4 args.length c4]) from by
          rw[HREN.out]
          exact⟨_,rfl,HRG.out,zU.keep hF (zD.set (by omega) 4 _) Zr⟩)
         have HB3:=hid hb3;have hx3:=Lib.heap_setCell_same (i:=4) hx2 (.slice A4 args.length c4)
         clear hF hb hb3 hpre1 hpre2 hpre3 hx2)
      | (at_builtin;refine zw rfl (.tmp 31) (.tmp 33) _ rfl w.heap.size 116 i0 _ 5 64 Tryz.underlying86 HI0.out.1 HI0.out.2.1 HI0.out.2.2.1 HI0.out.2.2.2 rfl (by omega) (.slice A0 acc.length c0) acc.length _ rfl (by exact HPRE.out.1) ⟨w2.heap.size,0,none⟩ 1 1 [.int .i64 k,.int .i64 op,.int .i64 n,.string s1,.slice A4 args.length c4] rfl rfl (by exact HPRE.out.2.1) (by simp[Value.oneCell']) (by simp only[maxLen];omega) (by omega) (by exact HPRE.out.2.2) (by omega) ?_
         intro v1 w4 hown1 hg1 hr1;have HO1:=hid hown1;have HG1:=hid hg1;have HR1:=hid hr1
         clear hown1 hg1 hr1))
     go_roundw
     case rel=>
      refine⟨acc.length+1,by omega,by go_num,?_,?_⟩
      · rw[renEs_take HE.out,HACC.out]
        exact HO3.out.app (L:=W1.heap.size) HFE.out (by omega) (fun j hj=>by have:=(HO.out.own j hj).1;omega) (Zb.alloc Zr _) HG1.out HR1.out HO1.out
      · exact((HBW.out.trans (HB3.out.mono hsz)).alloc (by have:=HB3.out.size;omega) _).grown HG1.out (by have:=HB3.out.size;simp;omega) (fun j hj=>(HO.out.own j hj).2)
     case measure=>simp[intOf];omega
    case neg=>
     have hk3:(k == 3)=false:=by simp[hk]
     rw[if_neg hk]at hs1;subst hs1;clear hk;have hx1:=HXA.out;have hb1:=HBA.out;have hz1:=hzA;go_upto_region 8 with(fail);generalize (wr.alloc (.cells #[.int .i64 k,.int .i64 op,.int .i64 n,.string s,.slice A3 args.length c3] 116))=W1 at *;obtain⟨⟨b0,b1,b2,b3,b4⟩,bz⟩:=qK hx1;have HX1:=hid hx1;have HB1:=hid hb1;have HA1:=hid (show qw W1.heap.size W1 (.slice A3 args.length c3) args from HS.out.below (hb1.mono hsz) (by omega));have HQ1:=hid (show SlQ W1.heap.size W1 (.slice A2 names.length c2) names from HQ.out.below (HBW.out.trans (hb1.mono hsz)) (by omega));clear hx1 hb1
     go_wp2_with (first
      | (go_at_call 58
         (with_reducible refine(RxnC.call (HIH.out m' rfl) HARG.out h8a HA1.out HQ1.out).mono ?_)
         rintro x w2 ⟨v2,rfl,hF,hb⟩;obtain⟨A4,c4,rfl,_⟩:=hF.form;rw[kI]at hF;simp only[kI];have hz2:W1.heap.size≤w2.heap.size:=hb.size;have hx2:=(hb.block wr.heap.size (by omega)).trans HX1.out;obtain⟨⟨e0,e1,e2,e3,e4⟩,ez⟩:=qK hx2;have hs2:wr.heap.size<w2.heap.size:=by omega
         have hsz3:(w2.setCell ⟨wr.heap.size,4,none⟩ (.slice A4 args.length c4)).heap.size=w2.heap.size:=by simp[World.setCell]
         have hb3:Below wr.heap.size wr (w2.setCell ⟨wr.heap.size,4,none⟩ (.slice A4 args.length c4)):=(HB1.out.trans (hb.mono (by omega))).setCell (p:=⟨wr.heap.size,4,none⟩) Zr _;have HO3:=hid (HO.out.keep (zD.of_below (L:=w.heap.size) hb3));obtain⟨hpre1,hpre2,hpre3⟩:=ut HO3.out (.int .i64 k) (.int .i64 op) (.int .i64 n) (.string s) (.slice A4 args.length c4) (by rw[hsz3];omega);rw[hsz3]at hpre2;have HPRE:=hid (And.intro hpre1 (And.intro hpre2 hpre3))
         have HFE:=hid (show jc W1.heap.size (w2.setCell ⟨wr.heap.size,4,none⟩ (.slice A4 args.length c4)) (renE names (.mk k op n s args)) (.agg #[.int .i64 k,.int .i64 op,.int .i64 n,.string s,.slice A4 args.length c4]) from by
          rw[HREN.out]
          exact⟨_,rfl,HRG.out,zU.keep hF (zD.set (by omega) 4 _) Zr⟩)
         have HB3:=hid hb3;have hx3:=Lib.heap_setCell_same (i:=4) hx2 (.slice A4 args.length c4)
         clear hF hb hb3 hpre1 hpre2 hpre3 hx2)
      | (at_builtin;refine zw rfl (.tmp 31) (.tmp 33) _ rfl w.heap.size 116 i0 _ 5 64 Tryz.underlying86 HI0.out.1 HI0.out.2.1 HI0.out.2.2.1 HI0.out.2.2.2 rfl (by omega) (.slice A0 acc.length c0) acc.length _ rfl (by exact HPRE.out.1) ⟨w2.heap.size,0,none⟩ 1 1 [.int .i64 k,.int .i64 op,.int .i64 n,.string s,.slice A4 args.length c4] rfl rfl (by exact HPRE.out.2.1) (by simp[Value.oneCell']) (by simp only[maxLen];omega) (by omega) (by exact HPRE.out.2.2) (by omega) ?_
         intro v1 w4 hown1 hg1 hr1;have HO1:=hid hown1;have HG1:=hid hg1;have HR1:=hid hr1
         clear hown1 hg1 hr1))
     go_roundw
     case rel=>
      refine⟨acc.length+1,by omega,by go_num,?_,?_⟩
      · rw[renEs_take HE.out,HACC.out]
        exact HO3.out.app (L:=W1.heap.size) HFE.out (by omega) (fun j hj=>by have:=(HO.out.own j hj).1;omega) (Zb.alloc Zr _) HG1.out HR1.out HO1.out
      · exact((HBW.out.trans (HB3.out.mono hsz)).alloc (by have:=HB3.out.size;omega) _).grown HG1.out (by have:=HB3.out.size;simp;omega) (fun j hj=>(HO.out.own j hj).2)
     case measure=>simp[intOf];omega
  · have hil:acc.length=l.length:=by omega
    have hlen:acc.length≤281474976710656:=by omega
    have HRES:=hid (show zU w.heap.size wr (qe names l) (.slice A0 acc.length c0) from by
     have h1:acc=qe names l:=by rw[←HACC.out,hil,List.take_length]
     rw[←h1]
     exact HO.out.read hlen)
    go_wp2_with (fail);go_ret;exact⟨_,rfl,HRES.out,HBW.out⟩
theorem rxn_all:∀ m,RxnC m:=fun m=>by
 induction m with
 | zero=>exact rxn_step 0 fun m' h=>absurd h (by omega)
 | succ m ih=>exact rxn_step (m+1) fun m' h=>(show m=m' by omega) ▸ ih
theorem CellB.nehole {B a:Nat} {w:World} {g o:Nat} {u:Value} (h:CellB B (hole a w) g o u):g≠a:=fun e=>by
 subst e;have h2:=h.2;unfold World.cell? at h2;rw[show (hole g w).heap[(⟨g,o,none⟩:Addr).block]? =(hole g w).heap[g]? from rfl,hole_b]at h2;by_cases hb:g<w.heap.size
 · rw[if_pos hb]at h2;simp at h2
 · rw[if_neg hb]at h2;simp at h2
theorem vo {B a:Nat} {w:World} {g o:Nat} {u:Value} (h:CellB B w g o u) (ha:g≠a):CellB B (hole a w) g o u:=⟨h.1,(World.cell?_of_block (w:=w) (w':=hole a w) (jb w ha)).trans h.2⟩
theorem OutS.shift {B a a':Nat} {w w':World} {v:Value} {acc:List St} (h:OutS B (hole a w) v acc) (hs:w.heap.size≤w'.heap.size) (hk:∀ k,k<w.heap.size→B≤k→k≠a→w'.heap[k]? =w.heap[k]?) (ha:a'=a∨w.heap.size≤a'∨a'<B) (hv:∀ k,v.ownBlock=some k→k≠a):OutS B (hole a' w') v acc:=by
 have hown:=h.own;rw[qD]at hown;have hne:∀ k,k<w.heap.size→B≤k→k≠a→k≠a':=fun k h1 h2 h3=>by omega
 obtain⟨ps,he,ho,hp⟩:=h;refine⟨ps,he,qR ho fun j hj=>?_,fun p hm=>stIn_imp (fun g o u hc=>?_) (hp p hm)⟩
 · obtain⟨h1,h2⟩:=hown j hj
   have h3:=hv j hj;rw[jb w' (hne j h1 h2 h3),jb w h3];exact hk j h1 h2 h3
 · obtain⟨hq,hc⟩:=zn hc
   have h3:=hc.nehole;have h4:=CellB.unhole hc;have h1:g<w.heap.size:=by have:=hc.1;rwa [qD]at this
   have h2:=(zx.1 hq).1;refine zy hq (vo ⟨?_,(World.cell?_of_block (w:=w) (hk g h1 h2 h3)).trans h4.2⟩ (hne g h1 h2 h3));rw[qD];omega
theorem zU.hole {L a:Nat} {w w':World} {l:List Ex} {v:Value} (h:zU L w l v) (hs:w.heap.size≤w'.heap.size) (hk:∀ k,k<w.heap.size→L≤k→w'.heap[k]? =w.heap[k]?) (ha:a<L∨w.heap.size≤a):zU L (_root_.Go.Proofs.YtfghofifjnbicaaGreatDoor.hole a w') l v:=by
 refine qw.imp (fun g o u hc=>?_) h;obtain⟨hq,hc⟩:=zn hc;have h2:=qG.1 hq;have h1:=hc.1;refine zy hq (vo ⟨?_,(World.cell?_of_block (w:=w) (hk g h1 h2)).trans hc.2⟩ (by omega));rw[qD];omega
theorem zT.hole {L a:Nat} {w w':World} {l:List St} {v:Value} (h:zT L w l v) (hs:w.heap.size≤w'.heap.size) (hk:∀ k,k<w.heap.size→L≤k→w'.heap[k]? =w.heap[k]?) (ha:a<L∨w.heap.size≤a):zT L (_root_.Go.Proofs.YtfghofifjnbicaaGreatDoor.hole a w') l v:=by
 refine SlS.imp (fun g o u hc=>?_) h;obtain⟨hq,hc⟩:=zn hc;have h2:=qG.1 hq;have h1:=hc.1;refine zy hq (vo ⟨?_,(World.cell?_of_block (w:=w) (hk g h1 h2)).trans hc.2⟩ (by omega));rw[qD];omega
theorem zT.unhole {L a:Nat} {w:World} {l:List St} {v:Value} (h:zT L (_root_.Go.Proofs.YtfghofifjnbicaaGreatDoor.hole a w) l v):zT L w l v:=by
 refine SlS.imp (fun g o u hc=>?_) h;obtain⟨hq,hc⟩:=zn hc;have h1:=hc.1;rw[qD]at h1;exact zy hq ⟨h1,(CellB.unhole hc).2⟩
theorem blkh_pre {B a:Nat} {w:World} {v:Value} {acc:List St} (h:OutS B (hole a w) v acc) (hv:∀ k,v.ownBlock=some k→k≠a) (c0 c1 c2 c3 c4 c5:Value) (hB:B≤w.heap.size):
 (w.alloc (.cells #[c0,c1,c2,c3,c4,c5] 88)).ownsRow B 88 6 v acc.length (uT (Classical.choose h))∧
 (∀ j u,[c0,c1,c2,c3,c4,c5][j]? =some u→(w.alloc (.cells #[c0,c1,c2,c3,c4,c5] 88)).cell? ((⟨w.heap.size,0,none⟩:Addr).add j)=some u)∧B≤(w.alloc (.cells #[c0,c1,c2,c3,c4,c5] 88)).heap.size:=by
 obtain⟨hps,hown,hp⟩:=Classical.choose_spec h;refine⟨?_,fun j u hu=>?_,by rw[zA];omega⟩
 · have e:(Classical.choose h).length=acc.length:=by rw[←List.length_map (f:=(·.s)),hps]
   rw[e]at hown;have h1:w.ownsRow B 88 6 v acc.length (uT (Classical.choose h)):=qR hown fun k hk=>(jb w (hv k hk)).symm
   exact qy h1 ((Below.refl w.heap.size w).alloc Zr _) Zr
 · rw[show (⟨w.heap.size,0,none⟩:Addr).add j=⟨w.heap.size,j,none⟩ by unfold Addr.add;split <;> simp_all]
   exact(cell_of_row _ w.heap.size j _ _ (0,0) (heap_alloc_new w _)).trans (by simpa using hu)
theorem grown_hole {a:Nat} {W w':World} {row:Option Nat} (h:W.grownBy w' row) (ha:a<W.heap.size):(hole a W).grownBy (hole a w') row:=by
 refine⟨h.os,h.tape,h.output,by rw[qD,qD];exact h.size,fun k hk hne=>?_⟩;rw[qD]at hk;by_cases e:k=a
 · subst e
   have:=h.size;rw[hole_b,hole_b,if_pos ha,if_pos (by omega)]
 · rw[jb w' e,jb W e]
   exact h.block k hk hne
theorem OutS.apph {B L a:Nat} {w W w':World} {v v':Value} {acc:List St} {e:St} {k t:Int} {s:ByteArray} {v3 v4 v5:Value} (h:OutS B (hole a w) v acc) (he:yI L (hole a w) e (.agg #[.int .i64 k,.int .i64 t,.string s,v3,v4,v5])) (hB:B≤L) (hL:∀ k,v.ownBlock=some k→k<L)
 (hva:∀ k,v.ownBlock=some k→k≠a) (haw:a<w.heap.size) (hW:Below w.heap.size w W) (hg:W.grownBy w' v.ownBlock) (hr:xA W v v') (ho:w'.ownsRow B 88 6 v' (acc.length+1) ((uT (Classical.choose h))++[.int .i64 k,.int .i64 t,.string s,v3,v4,v5])):
 OutS B (hole a w') v' (acc++[e])∧∀ k,v'.ownBlock=some k→k≠a:=by
 have haW:a<W.heap.size:=Nat.lt_of_lt_of_le haw hW.size
 have hne:∀ k,v'.ownBlock=some k→k≠a:=fun k hk=>by
  rcases hr with h1 | ⟨g,h1,h2⟩
  · exact hva k (h1 ▸ hk)
  · rw[h1]at hk
    injection hk with hk;omega
 refine⟨h.app (W:=hole a W) he hB hL ?_ (grown_hole hg haW) ?_ (qR ho fun j hj=>jb w' (hne j hj)),hne⟩
 · rw[qD]
   exact OffB.of_below hW haw
 · rcases hr with h1 | ⟨g,h1,h2⟩
   · exact .inl h1
   · exact .inr ⟨g,h1,by rw[qD];exact h2⟩
def kQ:Knd (ByteArray × ByteArray) where
 T:=71
 n:=2
 cs q:=[.string q.1,.string q.2]
 inn _ _ _:=True
 len _:=rfl
 mono _ _ h:=h
theorem yV {base b:Nat} {w:World} {v:Value} {l:kM} (h:w.ownsRow base 71 2 v l.length (l.flatMap kQ.cs)) (hb:b<base) (hl:l.length≤281474976710656):SlQ w.heap.size (hole b w) v l:=by
 have h0:OutK kQ base w v l:=⟨h,fun _ _=>trivial⟩
 have h1:=h0.read (fun p=>p) (F:=fun N W a g o=>RdQ N W a g o) (fun N W p g o hc _=>⟨hc 0 _ rfl,hc 1 _ rfl⟩) hl;rw[List.map_id']at h1;have h2:SlQ w.heap.size (mask (yd base) w) v l:=h1;refine h2.imp fun g o u hc=>?_
 obtain⟨hq,hc⟩:=zn hc;exact vo hc (by have:=qG.1 hq;omega)
theorem qs_cells {B:Nat} {w:World}:∀ (l:kM) (g o:Nat),xn 2 (RdQ B w) l g o→∀ j u,(l.flatMap kQ.cs)[j]? =some u→w.cell? ⟨g,o+j,none⟩=some u
 | [],_,_,_,j,u,h=>by simp at h
 | x :: r,g,o,hr,j,u,h=>by
   rw[List.flatMap_cons]at h
   match j with
   | 0=>simp[kQ]at h;subst h;exact hr.1.1.2
   | 1=>simp[kQ]at h;subst h;exact hr.1.2.2
   | j+2=>
     have:=qs_cells r g (o+2) hr.2 j u (by simpa[kQ] using h);rw[show o+(j+2)=o+2+j by omega];exact this
theorem qs_one (l:kM):∀ u ∈ l.flatMap kQ.cs,u.oneCell'=true:=fun u hu=>by
 obtain⟨x,_,hx⟩:=List.mem_flatMap.1 hu;simp[kQ]at hx;rcases hx with rfl | rfl <;> rfl
theorem qs_len (l:kM):(l.flatMap kQ.cs).length=l.length * 2:=by
 induction l with
 | nil=>rfl
 | cons x r ih=>rw[List.flatMap_cons,List.length_append,ih,List.length_cons];show 2+_=_;omega
theorem qs_snoc (l:kM) (s t:ByteArray):(l++[(s,t)]).flatMap kQ.cs=l.flatMap kQ.cs++[.string s,.string t]:=by
 rw[List.flatMap_append];rfl
theorem pr_info:(Tryz.prog.info? 71).map (fun i=>(i.zero,i.size,i.bytes))=some (some (.agg #[.string ⟨#[]⟩,.string ⟨#[]⟩]),2,32):=by kernel_rfl
end Go.Proofs.YtfghofifjnbicaaGreatDoor
