import Derived.Test.YtfghofifjnbicaaGreatDoorAhZed
import Derived.Test.YtfghofifjnbicaaGreatDoorAhTyBl
import Derived.Test.YtfghofifjnbicaaGreatDoorAhTreeVals
import Derived.Deep.DeepCutAuto
import Derived.Deep.CutBlock
import Derived.Deep.LoopGhost
import Derived.Test.YtfghofifjnbicaaGreatDoorAhTreeRightF
set_option linter.unusedSimpArgs false
set_option linter.unusedVariables false
set_option maxRecDepth 100000
/- The contracts of the document's validation of statements. -/
namespace Go.Proofs.YtfghofifjnbicaaGreatDoor
open Lib (hid)
open Go.RowKit
theorem formS_kind {k ty:Int} {name:ByteArray} {m m2 m3:Nat} {ic:Bool} (h:zZ k ty name m m2 m3 ic=true):k=1∨k=2∨k=3∨k=4∨k=5∨k=6∨k=7∨k=8∨k=9∨k=10:=by
 by_cases h':k=1∨k=2∨k=3∨k=4∨k=5∨k=6∨k=7∨k=8∨k=9∨k=10
 · exact h'
 · exfalso
   unfold zZ at h;rw[if_neg (by omega),if_neg (by omega),if_neg (by omega),if_neg (by omega),if_neg (by omega),if_neg (by omega),if_neg (by omega),if_neg (by omega)]at h;cases h
def shT (k:Int):Bool:=decide (k=1)
def shN (k:Int):Bool:=decide (k=1∨k=2∨k=3)
def shA (k:Int):Int:=if k=3 then 2 else if k=6∨k=7 then 0 else if 1≤k∧k≤10 then 1 else -1
def shB (k:Int):Bool:=decide (k=4∨k=5)
def shE (k:Int):Bool:=decide (k=4)
theorem shape_any (k:Int) (w:World):Calls Tryz.prog 69 #[.int .i64 k] w fun e w'=>e=.returned (.tuple #[.bool (shT k),.bool (shN k),.int .i64 (shA k),.bool (shB k),.bool (shE k)])∧w=w':=by
 by_cases h:1≤k∧k≤10
 · obtain rfl | rfl | rfl | rfl | rfl | rfl | rfl | rfl | rfl | rfl:k=1∨k=2∨k=3∨k=4∨k=5∨k=6∨k=7∨k=8∨k=9∨k=10:=by omega
   all_goals
    clear h;go_enter Tryz.func69,Tryz.ntmps69;go_wp2_with (fail);exact bodyPost_ret (v:=.tuple #[.bool (shT _),.bool (shN _),.int .i64 (shA _),.bool (shB _),.bool (shE _)]) (by simp[results,Tryz.results69,go_sem];decide) rfl ⟨rfl,rfl⟩
 · have n1:(k == 1)=false:=by simp;omega
   have n2:(k == 2)=false:=by simp;omega
   have n3:(k == 3)=false:=by simp;omega
   have n4:(k == 4)=false:=by simp;omega
   have n5:(k == 5)=false:=by simp;omega
   have n6:(k == 6)=false:=by simp;omega
   have n7:(k == 7)=false:=by simp;omega
   have n8:(k == 8)=false:=by simp;omega
   have n9:(k == 9)=false:=by simp;omega
   have n10:(k == 10)=false:=by simp;omega
   have hh:Hid (shT k=false∧shN k=false∧shA k= -1∧shB k=false∧shE k=false):=by
    unfold Hid shT shN shA shB shE;refine⟨by simp;omega,by simp;omega,?_,by simp;omega,by simp;omega⟩;rw[if_neg (by omega),if_neg (by omega),if_neg h]
   clear h;go_enter Tryz.func69,Tryz.ntmps69;go_wp2_with (fail);obtain⟨a1,a2,a3,a4,a5⟩:=hh.out;rw[a1,a2,a3,a4,a5];exact bodyPost_ret (v:=.tuple #[.bool false,.bool false,.int .i64 (-1),.bool false,.bool false]) (by simp[results,Tryz.results69,go_sem]) rfl ⟨rfl,rfl⟩
def RsC (m:Nat):Prop:=∀ (B:Nat) (z:Int) (l:List St) (c:Bool) (v:Value) (w:World),z=(m:Int)→m≤1000→z8 l m=c→B≤w.heap.size→SlS B w v l→
 Calls Tryz.prog 47 #[v,.int .i64 z] w fun e w'=>e=.returned (.bool c)∧Below w.heap.size w w'
theorem RsC.call {m:Nat} (h:RsC m) (B:Nat) (z:Int) (l:List St) (c:Bool) (v:Value) (w:World) (hz:z=(m:Int)) (hm:m≤1000) (hc:z8 l m=c) (hB:B≤w.heap.size) (hv:SlS B w v l):
 Calls Tryz.prog 47 #[v,.int .i64 z] w fun e w'=>e=.returned (.bool c)∧Below w.heap.size w w':=h B z l c v w hz hm hc hB hv
def f1 (k ty:Int) (name:ByteArray) (na:Nat):Bool:=decide ((na:Int)=shA k) && (shT k == yw ty) && (shT k || decide (ty=0)) && (shN k == vt name) && (shN k || eB name)
def f3 (k:Int) (a b:Nat) (ic:Bool):Bool:=(shB k || decide (a=0)) && (shE k || decide (b=0)) && (!(decide (k=10)) || ic)
theorem nm_empty {s:ByteArray} (h:eB s=true):vt s=false:=by
 have h0:s.size=0:=by simpa[eB] using h
 have:s.data.toList=[]:=List.eq_nil_of_length_eq_zero h0;unfold vt;rw[this];rfl
theorem formS_split (k ty:Int) (name:ByteArray) (a b c:Nat) (ic:Bool):zZ k ty name a b c ic=(f1 k ty name a && f3 k b c ic):=by
 by_cases h:1≤k∧k≤10
 · have hne:eB name=true→vt name=false:=nm_empty
   have hty:ty=0→yw ty=false:=fun h=>by rw[h];rfl
   obtain rfl | rfl | rfl | rfl | rfl | rfl | rfl | rfl | rfl | rfl:k=1∨k=2∨k=3∨k=4∨k=5∨k=6∨k=7∨k=8∨k=9∨k=10:=by omega
   all_goals
    clear h;rw[Bool.eq_iff_iff];simp[zZ,f1,f3,shA,shT,shN,shB,shE]
    first
     | (constructor <;> intro hh <;> simp_all)
     | (intro hx0;constructor <;> intro hh <;> simp_all)
   all_goals omega
 · have h1:zZ k ty name a b c ic=false:=by
    cases hf:zZ k ty name a b c ic with
    | false=>rfl
    | true=>exact absurd (formS_kind hf) (by omega)
   have h2:f1 k ty name a=false:=by
    unfold f1 shA;rw[if_neg (by omega),if_neg (by omega),if_neg h];have:decide ((a:Int)= -1)=false:=by simp
    rw[this];rfl
   rw[h1,h2];rfl
theorem shape_is (k:Int) (tb nbk bb eb:Bool) (na:Int) (h1:shT k=tb) (h2:shN k=nbk) (h3:shA k=na) (h4:shB k=bb) (h5:shE k=eb) (w:World):
 Calls Tryz.prog 69 #[.int .i64 k] w fun e w'=>e=.returned (.tuple #[.bool tb,.bool nbk,.int .i64 na,.bool bb,.bool eb])∧w=w':=by
 subst h1 h2 h3 h4 h5;exact shape_any k w
theorem rexpr_100 (B:Nat) (k op n:Int) (name:ByteArray) (args:List Ex) (A:Option Addr) (cap:Nat) (c:Bool) (w:World) (hc:yr (.mk k op n name args) 100=c) (hB:B≤w.heap.size) (hs:qw B w (.slice A args.length cap) args):
 Calls Tryz.prog 70 #[.agg #[.int .i64 k,.int .i64 op,.int .i64 n,.string name,.slice A args.length cap],.int .i64 100] w fun e w'=>e=.returned (.bool c)∧Below w.heap.size w w':=(rexpr_all 100).call B 100 k op n name args A cap c w rfl (by omega) (by omega) hc hB hs
set_option maxHeartbeats 16000000 in
theorem rstmts_step (m:Nat) (ih:∀ m',m'+1=m→RsC m'):RsC m:=by
 intro B z l c v w hz hm hc hB hl;obtain⟨A,cap,rfl,hn⟩:=hl.form;have HL:=hid hl;have HC:=hid hc;have HI:=hid ih;have HZ:=hid hz;have hz0:0≤z:=by omega
 have hz1:z≤1000:=by omega
 clear hl hc ih hz;go_enter Tryz.func47,Tryz.ntmps47;go_wp2_with (fail)
 go_loopw [5] (fun iv wr=>∃ j:Nat,j≤l.length∧iv=.int .i64 j∧z8 (l.take j) m=true∧Below w.heap.size w wr) (fun iv _=>l.length-(intOf iv).toNat)
 case atStart=>exact⟨0,Nat.zero_le _,rfl,vW _,Below.refl _ _⟩
 case round=>
  obtain⟨j,hj,rfl,hall,hwr⟩:=hrel;have HA:=hid hall;clear hall;have hsz:=hwr.size;have hBr:B≤wr.heap.size:=Nat.le_trans hB hsz;by_cases hlt:j<l.length
  · obtain⟨⟨k0,ty,name,args,thn,els⟩,he⟩:∃ e,l[j]? =some e:=⟨_,List.getElem?_eq_getElem hlt⟩
    have HE:=hid he;obtain⟨g,o,v,v4,v5,rfl,hg,h0,h1,h2,h3,h4,h5,hs,hs4,hs5⟩:=(HL.out.below (hwr.mono hB) Zr).cells he;obtain⟨A',cap',rfl,hn'⟩:=hs.form;obtain⟨A4,cap4,rfl,hn4⟩:=hs4.form;obtain⟨A5,cap5,rfl,hn5⟩:=hs5.form;have HS:=hid hs;have HS4:=hid hs4;have HS5:=hid hs5;have hgs:g<wr.heap.size:=by omega
    clear he hs hs4 hs5;obtain⟨nb,hnb⟩:∃ nb,vt name=nb:=⟨_,rfl⟩
    obtain⟨tb,htb⟩:∃ tb,shT k0=tb:=⟨_,rfl⟩
    obtain⟨nbk,hnbk⟩:∃ nbk,shN k0=nbk:=⟨_,rfl⟩
    obtain⟨na,hna⟩:∃ na,shA k0=na:=⟨_,rfl⟩
    obtain⟨bb,hbb⟩:∃ bb,shB k0=bb:=⟨_,rfl⟩
    obtain⟨eb,heb⟩:∃ eb,shE k0=eb:=⟨_,rfl⟩
    have HF1:Hid (f1 k0 ty name args.length=(decide ((args.length:Int)=na) && (tb == yw ty) && (tb || decide (ty=0)) && (nbk == nb) && (nbk || eB name))):=by unfold Hid f1;rw[hna,htb,hnbk,hnb]
    have HF3:Hid (f3 k0 thn.length els.length (yx args)=((bb || decide (thn.length=0)) && (eb || decide (els.length=0)) && (!(decide (k0=10)) || yx args))):=by unfold Hid f3;rw[hbb,heb]
    have HNA:=hid hna;have HTN:Hid (tb=true→nbk=true):=by unfold Hid;rw[←htb,←hnbk];unfold shT shN;simp;intro h;exact .inl h
    have HNB:=hid hnb;have HSH:Hid (∀ w',Calls Tryz.prog 69 #[.int .i64 k0] w' fun e w2=>e=.returned (.tuple #[.bool tb,.bool nbk,.int .i64 na,.bool bb,.bool eb])∧w'=w2):=fun w'=>shape_is k0 tb nbk bb eb na htb hnbk hna hbb heb w'
    clear hnb htb hnbk hna hbb heb;rcases m with _ | m'
    · have hd:z<1:=by have:=HZ.out;omega
      have HF:Hid (c=false):=by
       unfold Hid;rw[←HC.out];exact zV HE.out (by rw[ja];simp)
      go_wp2_with (go_at_call 69;(with_reducible refine(HSH.out _).mono ?_);rintro e w2 ⟨rfl,rfl⟩);go_ret;exact⟨zC HF.out.symm,hwr.alloc hsz _⟩
    · have hd:¬ z<1:=by have:=HZ.out;omega
      have HZ1:Hid (z-1=(m':Int)):=by have:=HZ.out;unfold Hid;omega
      have hm':m'≤1000:=by omega
      have HSO:Hid (stOK (.mk k0 ty name args thn els) (m'+1)=(f1 k0 ty name args.length && f3 k0 thn.length els.length (yx args) && zr args 100 && z8 thn m' && z8 els m')):=by
       unfold Hid;rw[ja,formS_split,Nat.add_sub_cancel];simp
      obtain⟨hb,hhb⟩:∃ b,f1 k0 ty name args.length=b:=⟨_,rfl⟩
      have HHB:=hid hhb;clear hhb;have hdb:decide (z<1)=false:=by simpa using hd
      go_upto_region 6 with((go_at_call 69;(with_reducible refine(HSH.out _).mono ?_);rintro e w2 ⟨rfl,rfl⟩))
      go_cut [77] (fun tv wx=>wr.alloc (.cells #[.int .i64 k0,.int .i64 ty,.string name,.slice A' args.length cap',.slice A4 thn.length cap4,.slice A5 els.length cap5] 88)=wx∧tv=.bool (!hb))
      case first=>
       as_aux_lemma=>
        by_cases hlen:¬ (args.length:Int)=na
        · have hl2:((args.length:Int) == na)=false:=by simpa using hlen
          have HV:Hid (hb=false):=by unfold Hid;rw[←HHB.out,HF1.out];simp[yw,hlen]
          go_wp2_with ((go_at_call 36;(with_reducible refine(qE name _ HNB.out _).mono ?_);rintro e w2 ⟨rfl,rfl⟩))
          all_goals go_meet
          all_goals exact⟨rfl,by rw[HV.out];rfl⟩
        replace hlen:(args.length:Int)=na:=by omega
        have hl2:((args.length:Int) == na)=true:=by simpa using hlen
        by_cases hy0:ty=0
        · subst hy0
          cases tb
          · cases nbk
            · cases nb
              · by_cases hnm:eB name=true
                · have hnl:name.toList=[]:=(zAk name).2 (by simpa[eB] using hnm)
                  have HV:Hid (hb=true):=by unfold Hid;rw[←HHB.out,HF1.out];simp[yw,hlen,hnm]
                  go_wp2_with ((go_at_call 36;(with_reducible refine(qE name _ HNB.out _).mono ?_);rintro e w2 ⟨rfl,rfl⟩))
                  all_goals go_meet
                  all_goals exact⟨rfl,by rw[HV.out];rfl⟩
                · have hnl0:¬ name.toList=[]:=fun h=>hnm (by simpa[eB] using(zAk name).1 h)
                  have hnl:name.toList.isEmpty=false:=by simpa using hnl0
                  clear hnl0;have HV:Hid (hb=false):=by unfold Hid;rw[←HHB.out,HF1.out];simp[yw,hnm]
                  go_wp2_with ((go_at_call 36;(with_reducible refine(qE name _ HNB.out _).mono ?_);rintro e w2 ⟨rfl,rfl⟩))
                  all_goals go_meet
                  all_goals exact⟨rfl,by rw[HV.out];rfl⟩
              · have HV:Hid (hb=false):=by unfold Hid;rw[←HHB.out,HF1.out];simp[yw]
                go_wp2_with ((go_at_call 36;(with_reducible refine(qE name _ HNB.out _).mono ?_);rintro e w2 ⟨rfl,rfl⟩))
                all_goals go_meet
                all_goals exact⟨rfl,by rw[HV.out];rfl⟩
            · cases nb
              · have HV:Hid (hb=false):=by unfold Hid;rw[←HHB.out,HF1.out];simp[yw]
                go_wp2_with ((go_at_call 36;(with_reducible refine(qE name _ HNB.out _).mono ?_);rintro e w2 ⟨rfl,rfl⟩))
                all_goals go_meet
                all_goals exact⟨rfl,by rw[HV.out];rfl⟩
              · have HV:Hid (hb=true):=by unfold Hid;rw[←HHB.out,HF1.out];simp[yw,hlen]
                go_wp2_with ((go_at_call 36;(with_reducible refine(qE name _ HNB.out _).mono ?_);rintro e w2 ⟨rfl,rfl⟩))
                all_goals go_meet
                all_goals exact⟨rfl,by rw[HV.out];rfl⟩
          · have HV:Hid (hb=false):=by unfold Hid;rw[←HHB.out,HF1.out];simp[yw]
            go_wp2_with ((go_at_call 36;(with_reducible refine(qE name _ HNB.out _).mono ?_);rintro e w2 ⟨rfl,rfl⟩))
            all_goals go_meet
            all_goals exact⟨rfl,by rw[HV.out];rfl⟩
        · by_cases hy1:ty=1
          · subst hy1
            cases tb
            · have HV:Hid (hb=false):=by unfold Hid;rw[←HHB.out,HF1.out];simp[yw]
              go_wp2_with ((go_at_call 36;(with_reducible refine(qE name _ HNB.out _).mono ?_);rintro e w2 ⟨rfl,rfl⟩))
              all_goals go_meet
              all_goals exact⟨rfl,by rw[HV.out];rfl⟩
            · obtain rfl:nbk=true:=HTN.out rfl
              cases nb
              · have HV:Hid (hb=false):=by unfold Hid;rw[←HHB.out,HF1.out];simp[yw]
                go_wp2_with ((go_at_call 36;(with_reducible refine(qE name _ HNB.out _).mono ?_);rintro e w2 ⟨rfl,rfl⟩))
                all_goals go_meet
                all_goals exact⟨rfl,by rw[HV.out];rfl⟩
              · have HV:Hid (hb=true):=by unfold Hid;rw[←HHB.out,HF1.out];simp[yw,hlen]
                go_wp2_with ((go_at_call 36;(with_reducible refine(qE name _ HNB.out _).mono ?_);rintro e w2 ⟨rfl,rfl⟩))
                all_goals go_meet
                all_goals exact⟨rfl,by rw[HV.out];rfl⟩
          · by_cases hy2:ty=2
            · subst hy2
              cases tb
              · have HV:Hid (hb=false):=by unfold Hid;rw[←HHB.out,HF1.out];simp[yw]
                go_wp2_with ((go_at_call 36;(with_reducible refine(qE name _ HNB.out _).mono ?_);rintro e w2 ⟨rfl,rfl⟩))
                all_goals go_meet
                all_goals exact⟨rfl,by rw[HV.out];rfl⟩
              · obtain rfl:nbk=true:=HTN.out rfl
                cases nb
                · have HV:Hid (hb=false):=by unfold Hid;rw[←HHB.out,HF1.out];simp[yw]
                  go_wp2_with ((go_at_call 36;(with_reducible refine(qE name _ HNB.out _).mono ?_);rintro e w2 ⟨rfl,rfl⟩))
                  all_goals go_meet
                  all_goals exact⟨rfl,by rw[HV.out];rfl⟩
                · have HV:Hid (hb=true):=by unfold Hid;rw[←HHB.out,HF1.out];simp[yw,hlen]
                  go_wp2_with ((go_at_call 36;(with_reducible refine(qE name _ HNB.out _).mono ?_);rintro e w2 ⟨rfl,rfl⟩))
                  all_goals go_meet
                  all_goals exact⟨rfl,by rw[HV.out];rfl⟩
            · have hn0:(ty == 0)=false:=by simpa using hy0
              have hn1:(ty == 1)=false:=by simpa using hy1
              have hn2:(ty == 2)=false:=by simpa using hy2
              cases tb
              · have HV:Hid (hb=false):=by unfold Hid;rw[←HHB.out,HF1.out];simp[yw,hy0,hy1,hy2]
                go_wp2_with ((go_at_call 36;(with_reducible refine(qE name _ HNB.out _).mono ?_);rintro e w2 ⟨rfl,rfl⟩))
                all_goals go_meet
                all_goals exact⟨rfl,by rw[HV.out];rfl⟩
              · have HV:Hid (hb=false):=by unfold Hid;rw[←HHB.out,HF1.out];simp[yw,hy0,hy1,hy2]
                go_wp2_with ((go_at_call 36;(with_reducible refine(qE name _ HNB.out _).mono ?_);rintro e w2 ⟨rfl,rfl⟩))
                all_goals go_meet
                all_goals exact⟨rfl,by rw[HV.out];rfl⟩
      case rest=>
       obtain⟨rfl,htv⟩:=hcut;cases hb
       · change _=Value.bool true at htv
         subst htv
         have HF:Hid (c=false):=by
          unfold Hid;rw[←HC.out];exact zV HE.out (by rw[HSO.out,HHB.out];simp)
         go_wp2_with (fail);go_ret;exact⟨zC HF.out.symm,hwr.alloc hsz _⟩
       · change _=Value.bool false at htv
         subst htv
         have hlen:(args.length:Int)=na:=by
          have h:=HF1.out;rw[HHB.out]at h;have h:=h.symm;simp only[Bool.and_eq_true,decide_eq_true_eq]at h;exact h.1.1.1.1
         subst hlen;have HP1:Hid (f1 k0 ty name args.length=true):=HHB;clear HHB;obtain⟨W0,rfl⟩:∃ W0,W0=wr:=⟨_,rfl⟩
         clear HF1 HSH HTN HNB HL;go_wp2_with (fail)
         go_loopw [12] (fun iv wi=>∃ q:Nat,q≤args.length∧iv=.int .i64 q∧zr (args.take q) 100=true∧Below (W0.heap.size+1) (W0.alloc (.cells #[.int .i64 k0,.int .i64 ty,.string name,.slice A' args.length cap',.slice A4 thn.length cap4,.slice A5 els.length cap5] 88)) wi) (fun iv _=>args.length-(intOf iv).toNat)
         case atStart=>exact⟨0,Nat.zero_le _,rfl,yL _,Below.refl _ _⟩
         case round=>
          as_aux_lemma=>
           obtain⟨q,hq,rfl,hallq,hbi⟩:=hrel;have HAQ:=hid hallq;clear hallq;have hqi:W0.heap.size<wr.heap.size:=by have h9:W0.heap.size+1≤wr.heap.size:=(by have:=hbi.size;simpa using this);omega
           have hbw:Below W0.heap.size W0 wr:=(Zb.alloc Zr _).trans (hbi.mono (by omega));have hBi:B≤wr.heap.size:=by omega
           have hrow:wr.heap[W0.heap.size]? =some (.cells #[.int .i64 k0,.int .i64 ty,.string name,.slice A' args.length cap',.slice A4 thn.length cap4,.slice A5 els.length cap5] 88 (0,0)):=(hbi.block _ (by omega)).trans (heap_alloc_new W0 _);have y0:wr.cell? ⟨W0.heap.size,0,none⟩=some (.int .i64 k0):=by rw[Lib.cell_of_heap hrow];rfl
           have y3:wr.cell? ⟨W0.heap.size,3,none⟩=some (.slice A' args.length cap'):=by rw[Lib.cell_of_heap hrow];rfl
           have y4:wr.cell? ⟨W0.heap.size,4,none⟩=some (.slice A4 thn.length cap4):=by rw[Lib.cell_of_heap hrow];rfl
           have y5:wr.cell? ⟨W0.heap.size,5,none⟩=some (.slice A5 els.length cap5):=by rw[Lib.cell_of_heap hrow];rfl
           clear hrow h0 h1 h2 h3 h4 h5;by_cases hlq:q<args.length
           · obtain⟨⟨kk,op',n',name',args'⟩,hx⟩:∃ e,args[q]? =some e:=⟨_,List.getElem?_eq_getElem hlq⟩
             obtain⟨g',o',v',rfl,hg',q0,q1,q2,q3,q4,hs'⟩:=(HS.out.below (hbw.mono hBr) Zr).cells hx;obtain⟨A6,cap6,rfl,hn6⟩:=hs'.form;obtain⟨bx,hbx⟩:∃ b,yr (.mk kk op' n' name' args') 100=b:=⟨_,rfl⟩
             have HX:=hid hx;have HSX:=hid hs';have HBX:=hid hbx;have hgs':g'<wr.heap.size:=by omega
             clear hx hs' hbx;cases bx
             · have HF:Hid (c=false):=by
                unfold Hid;rw[←HC.out];exact zV HE.out (by rw[HSO.out,xT HX.out HBX.out];simp)
               go_wp2_with (go_at_call 70;(with_reducible refine(rexpr_100 B _ _ _ _ _ _ _ _ _ HBX.out hBi HSX.out).mono ?_);rintro e w2 ⟨rfl,hx2⟩);go_ret;exact⟨zC HF.out.symm,hwr.trans ((hbw.trans (hx2.mono (Nat.le_of_lt hqi))).mono hsz)⟩
             · go_wp2_with (go_at_call 70;(with_reducible refine(rexpr_100 B _ _ _ _ _ _ _ _ _ HBX.out hBi HSX.out).mono ?_);rintro e w2 ⟨rfl,hx2⟩)
               go_roundw
               case rel=>exact⟨q+1,by omega,by go_num,by rw[uI HX.out,HAQ.out,HBX.out];rfl,hbi.trans (hx2.mono (Nat.succ_le_of_lt hqi))⟩
               case measure=>simp[intOf];omega
           · have H2:Hid (zr args 100=true):=by unfold Hid;rw[←HAQ.out,List.take_of_length_le (by omega)]
             clear HAQ;obtain⟨b4,hb4⟩:∃ b,z8 thn m'=b:=⟨_,rfl⟩
             obtain⟨b5,hb5⟩:∃ b,z8 els m'=b:=⟨_,rfl⟩
             have HB4:=hid hb4;have HB5:=hid hb5;clear hb4 hb5;by_cases h10:k0=10
             · subst h10
               have hl1:args.length=1:=by have:=HNA.out;simp[shA]at this;omega
               obtain⟨⟨kk,op',n',name',args'⟩,hx⟩:∃ e,args[0]? =some e:=⟨_,List.getElem?_eq_getElem (by omega)⟩
               obtain⟨g',o',v',rfl,hg',q0,q1,q2,q3,q4,hs'⟩:=(HS.out.below (hbw.mono hBr) Zr).cells hx
               have HCB:Hid (yx args=decide (kk=7)):=by
                unfold Hid;cases args with
                | nil=>simp at hx
                | cons a r=>simp at hx;subst hx;rfl
               have z0:wr.cell? ⟨g',o',none⟩=some (.int .i64 kk):=by simpa using q0
               have hgs':g'<wr.heap.size:=by omega
               have hl0:0<args.length:=by omega
               clear hx hs' q0 q1 q2 q3 q4;by_cases hk7:kk=7
               · subst hk7
                 as_aux_lemma=>
                  cases bb
                  · by_cases hth:thn.length=0
                    · have hth0:¬ 0<thn.length:=by omega
                      replace HS4:Hid (SlS B W0 (.slice A4 0 cap4) thn):=by have h:=HS4.out;rw[hth]at h;exact h
                      cases eb
                      · by_cases hel:els.length=0
                        · have hel0:¬ 0<els.length:=by omega
                          replace HS5:Hid (SlS B W0 (.slice A5 0 cap5) els):=by have h:=HS5.out;rw[hel]at h;exact h
                          cases b4
                          · have HF:Hid (c=false):=by
                             unfold Hid;rw[←HC.out];exact zV HE.out (by rw[HSO.out,HB4.out];simp)
                            go_wp2_with (first
                             | (go_at_call 47;(with_reducible refine((HI.out m' rfl).call B _ thn _ _ _ HZ1.out hm' HB4.out hBi (HS4.out.below (hbw.mono hBr) Zr)).mono ?_);rintro e w3 ⟨rfl,hx3⟩;obtain⟨hc3,hf3⟩:=zu hx3;have hb3:Below W0.heap.size W0 w3:=hbw.trans (hx3.mono (Nat.le_of_lt hqi));have hB3:B≤w3.heap.size:=(Nat.le_trans hBr hb3.size))
                             | (go_at_call 47;(with_reducible refine((HI.out m' rfl).call B _ els _ _ _ HZ1.out hm' HB5.out hB3 (HS5.out.below (hb3.mono hBr) Zr)).mono ?_);rintro e w4 ⟨rfl,hx4⟩;have hb4:Below W0.heap.size W0 w4:=hb3.trans (hx4.mono (Nat.le_trans (Nat.le_of_lt hqi) hx3.size))))
                            go_ret;exact⟨zC HF.out.symm,hwr.trans (hb3.mono hsz)⟩
                          · cases b5
                            · have HF:Hid (c=false):=by
                               unfold Hid;rw[←HC.out];exact zV HE.out (by rw[HSO.out,HB5.out];simp)
                              go_wp2_with (first
                               | (go_at_call 47;(with_reducible refine((HI.out m' rfl).call B _ thn _ _ _ HZ1.out hm' HB4.out hBi (HS4.out.below (hbw.mono hBr) Zr)).mono ?_);rintro e w3 ⟨rfl,hx3⟩;obtain⟨hc3,hf3⟩:=zu hx3;have hb3:Below W0.heap.size W0 w3:=hbw.trans (hx3.mono (Nat.le_of_lt hqi));have hB3:B≤w3.heap.size:=(Nat.le_trans hBr hb3.size))
                               | (go_at_call 47;(with_reducible refine((HI.out m' rfl).call B _ els _ _ _ HZ1.out hm' HB5.out hB3 (HS5.out.below (hb3.mono hBr) Zr)).mono ?_);rintro e w4 ⟨rfl,hx4⟩;have hb4:Below W0.heap.size W0 w4:=hb3.trans (hx4.mono (Nat.le_trans (Nat.le_of_lt hqi) hx3.size))))
                              go_ret;exact⟨zC HF.out.symm,hwr.trans (hb4.mono hsz)⟩
                            · go_wp2_with (first
                               | (go_at_call 47;(with_reducible refine((HI.out m' rfl).call B _ thn _ _ _ HZ1.out hm' HB4.out hBi (HS4.out.below (hbw.mono hBr) Zr)).mono ?_);rintro e w3 ⟨rfl,hx3⟩;obtain⟨hc3,hf3⟩:=zu hx3;have hb3:Below W0.heap.size W0 w3:=hbw.trans (hx3.mono (Nat.le_of_lt hqi));have hB3:B≤w3.heap.size:=(Nat.le_trans hBr hb3.size))
                               | (go_at_call 47;(with_reducible refine((HI.out m' rfl).call B _ els _ _ _ HZ1.out hm' HB5.out hB3 (HS5.out.below (hb3.mono hBr) Zr)).mono ?_);rintro e w4 ⟨rfl,hx4⟩;have hb4:Below W0.heap.size W0 w4:=hb3.trans (hx4.mono (Nat.le_trans (Nat.le_of_lt hqi) hx3.size))))
                              go_roundw
                              case rel=>exact⟨j+1,by omega,by go_num,by rw[jT HE.out,HA.out,HSO.out,HP1.out,HF3.out,H2.out,HB4.out,HB5.out,HCB.out];simp[hth,hel],hwr.trans (hb4.mono hsz)⟩
                              case measure=>simp[intOf];omega
                        · have hel0:0<els.length:=by omega
                          have HF:Hid (c=false):=by
                           unfold Hid;rw[←HC.out];exact zV HE.out (by rw[HSO.out,HF3.out];simp[hel])
                          go_wp2_with (fail);go_ret;exact⟨zC HF.out.symm,hwr.trans (hbw.mono hsz)⟩
                      · cases b4
                        · have HF:Hid (c=false):=by
                           unfold Hid;rw[←HC.out];exact zV HE.out (by rw[HSO.out,HB4.out];simp)
                          go_wp2_with (first
                           | (go_at_call 47;(with_reducible refine((HI.out m' rfl).call B _ thn _ _ _ HZ1.out hm' HB4.out hBi (HS4.out.below (hbw.mono hBr) Zr)).mono ?_);rintro e w3 ⟨rfl,hx3⟩;obtain⟨hc3,hf3⟩:=zu hx3;have hb3:Below W0.heap.size W0 w3:=hbw.trans (hx3.mono (Nat.le_of_lt hqi));have hB3:B≤w3.heap.size:=(Nat.le_trans hBr hb3.size))
                           | (go_at_call 47;(with_reducible refine((HI.out m' rfl).call B _ els _ _ _ HZ1.out hm' HB5.out hB3 (HS5.out.below (hb3.mono hBr) Zr)).mono ?_);rintro e w4 ⟨rfl,hx4⟩;have hb4:Below W0.heap.size W0 w4:=hb3.trans (hx4.mono (Nat.le_trans (Nat.le_of_lt hqi) hx3.size))))
                          go_ret;exact⟨zC HF.out.symm,hwr.trans (hb3.mono hsz)⟩
                        · cases b5
                          · have HF:Hid (c=false):=by
                             unfold Hid;rw[←HC.out];exact zV HE.out (by rw[HSO.out,HB5.out];simp)
                            go_wp2_with (first
                             | (go_at_call 47;(with_reducible refine((HI.out m' rfl).call B _ thn _ _ _ HZ1.out hm' HB4.out hBi (HS4.out.below (hbw.mono hBr) Zr)).mono ?_);rintro e w3 ⟨rfl,hx3⟩;obtain⟨hc3,hf3⟩:=zu hx3;have hb3:Below W0.heap.size W0 w3:=hbw.trans (hx3.mono (Nat.le_of_lt hqi));have hB3:B≤w3.heap.size:=(Nat.le_trans hBr hb3.size))
                             | (go_at_call 47;(with_reducible refine((HI.out m' rfl).call B _ els _ _ _ HZ1.out hm' HB5.out hB3 (HS5.out.below (hb3.mono hBr) Zr)).mono ?_);rintro e w4 ⟨rfl,hx4⟩;have hb4:Below W0.heap.size W0 w4:=hb3.trans (hx4.mono (Nat.le_trans (Nat.le_of_lt hqi) hx3.size))))
                            go_ret;exact⟨zC HF.out.symm,hwr.trans (hb4.mono hsz)⟩
                          · go_wp2_with (first
                             | (go_at_call 47;(with_reducible refine((HI.out m' rfl).call B _ thn _ _ _ HZ1.out hm' HB4.out hBi (HS4.out.below (hbw.mono hBr) Zr)).mono ?_);rintro e w3 ⟨rfl,hx3⟩;obtain⟨hc3,hf3⟩:=zu hx3;have hb3:Below W0.heap.size W0 w3:=hbw.trans (hx3.mono (Nat.le_of_lt hqi));have hB3:B≤w3.heap.size:=(Nat.le_trans hBr hb3.size))
                             | (go_at_call 47;(with_reducible refine((HI.out m' rfl).call B _ els _ _ _ HZ1.out hm' HB5.out hB3 (HS5.out.below (hb3.mono hBr) Zr)).mono ?_);rintro e w4 ⟨rfl,hx4⟩;have hb4:Below W0.heap.size W0 w4:=hb3.trans (hx4.mono (Nat.le_trans (Nat.le_of_lt hqi) hx3.size))))
                            go_roundw
                            case rel=>exact⟨j+1,by omega,by go_num,by rw[jT HE.out,HA.out,HSO.out,HP1.out,HF3.out,H2.out,HB4.out,HB5.out,HCB.out];simp[hth],hwr.trans (hb4.mono hsz)⟩
                            case measure=>simp[intOf];omega
                    · have hth0:0<thn.length:=by omega
                      have HF:Hid (c=false):=by
                       unfold Hid;rw[←HC.out];exact zV HE.out (by rw[HSO.out,HF3.out];simp[hth])
                      go_wp2_with (fail);go_ret;exact⟨zC HF.out.symm,hwr.trans (hbw.mono hsz)⟩
                  · cases eb
                    · by_cases hel:els.length=0
                      · have hel0:¬ 0<els.length:=by omega
                        replace HS5:Hid (SlS B W0 (.slice A5 0 cap5) els):=by have h:=HS5.out;rw[hel]at h;exact h
                        cases b4
                        · have HF:Hid (c=false):=by
                           unfold Hid;rw[←HC.out];exact zV HE.out (by rw[HSO.out,HB4.out];simp)
                          go_wp2_with (first
                           | (go_at_call 47;(with_reducible refine((HI.out m' rfl).call B _ thn _ _ _ HZ1.out hm' HB4.out hBi (HS4.out.below (hbw.mono hBr) Zr)).mono ?_);rintro e w3 ⟨rfl,hx3⟩;obtain⟨hc3,hf3⟩:=zu hx3;have hb3:Below W0.heap.size W0 w3:=hbw.trans (hx3.mono (Nat.le_of_lt hqi));have hB3:B≤w3.heap.size:=(Nat.le_trans hBr hb3.size))
                           | (go_at_call 47;(with_reducible refine((HI.out m' rfl).call B _ els _ _ _ HZ1.out hm' HB5.out hB3 (HS5.out.below (hb3.mono hBr) Zr)).mono ?_);rintro e w4 ⟨rfl,hx4⟩;have hb4:Below W0.heap.size W0 w4:=hb3.trans (hx4.mono (Nat.le_trans (Nat.le_of_lt hqi) hx3.size))))
                          go_ret;exact⟨zC HF.out.symm,hwr.trans (hb3.mono hsz)⟩
                        · cases b5
                          · have HF:Hid (c=false):=by
                             unfold Hid;rw[←HC.out];exact zV HE.out (by rw[HSO.out,HB5.out];simp)
                            go_wp2_with (first
                             | (go_at_call 47;(with_reducible refine((HI.out m' rfl).call B _ thn _ _ _ HZ1.out hm' HB4.out hBi (HS4.out.below (hbw.mono hBr) Zr)).mono ?_);rintro e w3 ⟨rfl,hx3⟩;obtain⟨hc3,hf3⟩:=zu hx3;have hb3:Below W0.heap.size W0 w3:=hbw.trans (hx3.mono (Nat.le_of_lt hqi));have hB3:B≤w3.heap.size:=(Nat.le_trans hBr hb3.size))
                             | (go_at_call 47;(with_reducible refine((HI.out m' rfl).call B _ els _ _ _ HZ1.out hm' HB5.out hB3 (HS5.out.below (hb3.mono hBr) Zr)).mono ?_);rintro e w4 ⟨rfl,hx4⟩;have hb4:Below W0.heap.size W0 w4:=hb3.trans (hx4.mono (Nat.le_trans (Nat.le_of_lt hqi) hx3.size))))
                            go_ret;exact⟨zC HF.out.symm,hwr.trans (hb4.mono hsz)⟩
                          · go_wp2_with (first
                             | (go_at_call 47;(with_reducible refine((HI.out m' rfl).call B _ thn _ _ _ HZ1.out hm' HB4.out hBi (HS4.out.below (hbw.mono hBr) Zr)).mono ?_);rintro e w3 ⟨rfl,hx3⟩;obtain⟨hc3,hf3⟩:=zu hx3;have hb3:Below W0.heap.size W0 w3:=hbw.trans (hx3.mono (Nat.le_of_lt hqi));have hB3:B≤w3.heap.size:=(Nat.le_trans hBr hb3.size))
                             | (go_at_call 47;(with_reducible refine((HI.out m' rfl).call B _ els _ _ _ HZ1.out hm' HB5.out hB3 (HS5.out.below (hb3.mono hBr) Zr)).mono ?_);rintro e w4 ⟨rfl,hx4⟩;have hb4:Below W0.heap.size W0 w4:=hb3.trans (hx4.mono (Nat.le_trans (Nat.le_of_lt hqi) hx3.size))))
                            go_roundw
                            case rel=>exact⟨j+1,by omega,by go_num,by rw[jT HE.out,HA.out,HSO.out,HP1.out,HF3.out,H2.out,HB4.out,HB5.out,HCB.out];simp[hel],hwr.trans (hb4.mono hsz)⟩
                            case measure=>simp[intOf];omega
                      · have hel0:0<els.length:=by omega
                        have HF:Hid (c=false):=by
                         unfold Hid;rw[←HC.out];exact zV HE.out (by rw[HSO.out,HF3.out];simp[hel])
                        go_wp2_with (fail);go_ret;exact⟨zC HF.out.symm,hwr.trans (hbw.mono hsz)⟩
                    · cases b4
                      · have HF:Hid (c=false):=by
                         unfold Hid;rw[←HC.out];exact zV HE.out (by rw[HSO.out,HB4.out];simp)
                        go_wp2_with (first
                         | (go_at_call 47;(with_reducible refine((HI.out m' rfl).call B _ thn _ _ _ HZ1.out hm' HB4.out hBi (HS4.out.below (hbw.mono hBr) Zr)).mono ?_);rintro e w3 ⟨rfl,hx3⟩;obtain⟨hc3,hf3⟩:=zu hx3;have hb3:Below W0.heap.size W0 w3:=hbw.trans (hx3.mono (Nat.le_of_lt hqi));have hB3:B≤w3.heap.size:=(Nat.le_trans hBr hb3.size))
                         | (go_at_call 47;(with_reducible refine((HI.out m' rfl).call B _ els _ _ _ HZ1.out hm' HB5.out hB3 (HS5.out.below (hb3.mono hBr) Zr)).mono ?_);rintro e w4 ⟨rfl,hx4⟩;have hb4:Below W0.heap.size W0 w4:=hb3.trans (hx4.mono (Nat.le_trans (Nat.le_of_lt hqi) hx3.size))))
                        go_ret;exact⟨zC HF.out.symm,hwr.trans (hb3.mono hsz)⟩
                      · cases b5
                        · have HF:Hid (c=false):=by
                           unfold Hid;rw[←HC.out];exact zV HE.out (by rw[HSO.out,HB5.out];simp)
                          go_wp2_with (first
                           | (go_at_call 47;(with_reducible refine((HI.out m' rfl).call B _ thn _ _ _ HZ1.out hm' HB4.out hBi (HS4.out.below (hbw.mono hBr) Zr)).mono ?_);rintro e w3 ⟨rfl,hx3⟩;obtain⟨hc3,hf3⟩:=zu hx3;have hb3:Below W0.heap.size W0 w3:=hbw.trans (hx3.mono (Nat.le_of_lt hqi));have hB3:B≤w3.heap.size:=(Nat.le_trans hBr hb3.size))
                           | (go_at_call 47;(with_reducible refine((HI.out m' rfl).call B _ els _ _ _ HZ1.out hm' HB5.out hB3 (HS5.out.below (hb3.mono hBr) Zr)).mono ?_);rintro e w4 ⟨rfl,hx4⟩;have hb4:Below W0.heap.size W0 w4:=hb3.trans (hx4.mono (Nat.le_trans (Nat.le_of_lt hqi) hx3.size))))
                          go_ret;exact⟨zC HF.out.symm,hwr.trans (hb4.mono hsz)⟩
                        · go_wp2_with (first
                           | (go_at_call 47;(with_reducible refine((HI.out m' rfl).call B _ thn _ _ _ HZ1.out hm' HB4.out hBi (HS4.out.below (hbw.mono hBr) Zr)).mono ?_);rintro e w3 ⟨rfl,hx3⟩;obtain⟨hc3,hf3⟩:=zu hx3;have hb3:Below W0.heap.size W0 w3:=hbw.trans (hx3.mono (Nat.le_of_lt hqi));have hB3:B≤w3.heap.size:=(Nat.le_trans hBr hb3.size))
                           | (go_at_call 47;(with_reducible refine((HI.out m' rfl).call B _ els _ _ _ HZ1.out hm' HB5.out hB3 (HS5.out.below (hb3.mono hBr) Zr)).mono ?_);rintro e w4 ⟨rfl,hx4⟩;have hb4:Below W0.heap.size W0 w4:=hb3.trans (hx4.mono (Nat.le_trans (Nat.le_of_lt hqi) hx3.size))))
                          go_roundw
                          case rel=>exact⟨j+1,by omega,by go_num,by rw[jT HE.out,HA.out,HSO.out,HP1.out,HF3.out,H2.out,HB4.out,HB5.out,HCB.out];simp,hwr.trans (hb4.mono hsz)⟩
                          case measure=>simp[intOf];omega
               · have n7:(kk == 7)=false:=by simpa using hk7
                 have HF:Hid (c=false):=by
                  unfold Hid;rw[←HC.out];exact zV HE.out (by rw[HSO.out,HF3.out,HCB.out];simp[hk7])
                 go_wp2_with (fail);go_ret;exact⟨zC HF.out.symm,hwr.trans (hbw.mono hsz)⟩
             · have n10:(k0 == 10)=false:=by simpa using h10
               as_aux_lemma=>
                cases bb
                · by_cases hth:thn.length=0
                  · have hth0:¬ 0<thn.length:=by omega
                    replace HS4:Hid (SlS B W0 (.slice A4 0 cap4) thn):=by have h:=HS4.out;rw[hth]at h;exact h
                    cases eb
                    · by_cases hel:els.length=0
                      · have hel0:¬ 0<els.length:=by omega
                        replace HS5:Hid (SlS B W0 (.slice A5 0 cap5) els):=by have h:=HS5.out;rw[hel]at h;exact h
                        cases b4
                        · have HF:Hid (c=false):=by
                           unfold Hid;rw[←HC.out];exact zV HE.out (by rw[HSO.out,HB4.out];simp)
                          go_wp2_with (first
                           | (go_at_call 47;(with_reducible refine((HI.out m' rfl).call B _ thn _ _ _ HZ1.out hm' HB4.out hBi (HS4.out.below (hbw.mono hBr) Zr)).mono ?_);rintro e w3 ⟨rfl,hx3⟩;obtain⟨hc3,hf3⟩:=zu hx3;have hb3:Below W0.heap.size W0 w3:=hbw.trans (hx3.mono (Nat.le_of_lt hqi));have hB3:B≤w3.heap.size:=(Nat.le_trans hBr hb3.size))
                           | (go_at_call 47;(with_reducible refine((HI.out m' rfl).call B _ els _ _ _ HZ1.out hm' HB5.out hB3 (HS5.out.below (hb3.mono hBr) Zr)).mono ?_);rintro e w4 ⟨rfl,hx4⟩;have hb4:Below W0.heap.size W0 w4:=hb3.trans (hx4.mono (Nat.le_trans (Nat.le_of_lt hqi) hx3.size))))
                          go_ret;exact⟨zC HF.out.symm,hwr.trans (hb3.mono hsz)⟩
                        · cases b5
                          · have HF:Hid (c=false):=by
                             unfold Hid;rw[←HC.out];exact zV HE.out (by rw[HSO.out,HB5.out];simp)
                            go_wp2_with (first
                             | (go_at_call 47;(with_reducible refine((HI.out m' rfl).call B _ thn _ _ _ HZ1.out hm' HB4.out hBi (HS4.out.below (hbw.mono hBr) Zr)).mono ?_);rintro e w3 ⟨rfl,hx3⟩;obtain⟨hc3,hf3⟩:=zu hx3;have hb3:Below W0.heap.size W0 w3:=hbw.trans (hx3.mono (Nat.le_of_lt hqi));have hB3:B≤w3.heap.size:=(Nat.le_trans hBr hb3.size))
                             | (go_at_call 47;(with_reducible refine((HI.out m' rfl).call B _ els _ _ _ HZ1.out hm' HB5.out hB3 (HS5.out.below (hb3.mono hBr) Zr)).mono ?_);rintro e w4 ⟨rfl,hx4⟩;have hb4:Below W0.heap.size W0 w4:=hb3.trans (hx4.mono (Nat.le_trans (Nat.le_of_lt hqi) hx3.size))))
                            go_ret;exact⟨zC HF.out.symm,hwr.trans (hb4.mono hsz)⟩
                          · go_wp2_with (first
                             | (go_at_call 47;(with_reducible refine((HI.out m' rfl).call B _ thn _ _ _ HZ1.out hm' HB4.out hBi (HS4.out.below (hbw.mono hBr) Zr)).mono ?_);rintro e w3 ⟨rfl,hx3⟩;obtain⟨hc3,hf3⟩:=zu hx3;have hb3:Below W0.heap.size W0 w3:=hbw.trans (hx3.mono (Nat.le_of_lt hqi));have hB3:B≤w3.heap.size:=(Nat.le_trans hBr hb3.size))
                             | (go_at_call 47;(with_reducible refine((HI.out m' rfl).call B _ els _ _ _ HZ1.out hm' HB5.out hB3 (HS5.out.below (hb3.mono hBr) Zr)).mono ?_);rintro e w4 ⟨rfl,hx4⟩;have hb4:Below W0.heap.size W0 w4:=hb3.trans (hx4.mono (Nat.le_trans (Nat.le_of_lt hqi) hx3.size))))
                            go_roundw
                            case rel=>exact⟨j+1,by omega,by go_num,by rw[jT HE.out,HA.out,HSO.out,HP1.out,HF3.out,H2.out,HB4.out,HB5.out];simp[h10,hth,hel],hwr.trans (hb4.mono hsz)⟩
                            case measure=>simp[intOf];omega
                      · have hel0:0<els.length:=by omega
                        have HF:Hid (c=false):=by
                         unfold Hid;rw[←HC.out];exact zV HE.out (by rw[HSO.out,HF3.out];simp[hel])
                        go_wp2_with (fail);go_ret;exact⟨zC HF.out.symm,hwr.trans (hbw.mono hsz)⟩
                    · cases b4
                      · have HF:Hid (c=false):=by
                         unfold Hid;rw[←HC.out];exact zV HE.out (by rw[HSO.out,HB4.out];simp)
                        go_wp2_with (first
                         | (go_at_call 47;(with_reducible refine((HI.out m' rfl).call B _ thn _ _ _ HZ1.out hm' HB4.out hBi (HS4.out.below (hbw.mono hBr) Zr)).mono ?_);rintro e w3 ⟨rfl,hx3⟩;obtain⟨hc3,hf3⟩:=zu hx3;have hb3:Below W0.heap.size W0 w3:=hbw.trans (hx3.mono (Nat.le_of_lt hqi));have hB3:B≤w3.heap.size:=(Nat.le_trans hBr hb3.size))
                         | (go_at_call 47;(with_reducible refine((HI.out m' rfl).call B _ els _ _ _ HZ1.out hm' HB5.out hB3 (HS5.out.below (hb3.mono hBr) Zr)).mono ?_);rintro e w4 ⟨rfl,hx4⟩;have hb4:Below W0.heap.size W0 w4:=hb3.trans (hx4.mono (Nat.le_trans (Nat.le_of_lt hqi) hx3.size))))
                        go_ret;exact⟨zC HF.out.symm,hwr.trans (hb3.mono hsz)⟩
                      · cases b5
                        · have HF:Hid (c=false):=by
                           unfold Hid;rw[←HC.out];exact zV HE.out (by rw[HSO.out,HB5.out];simp)
                          go_wp2_with (first
                           | (go_at_call 47;(with_reducible refine((HI.out m' rfl).call B _ thn _ _ _ HZ1.out hm' HB4.out hBi (HS4.out.below (hbw.mono hBr) Zr)).mono ?_);rintro e w3 ⟨rfl,hx3⟩;obtain⟨hc3,hf3⟩:=zu hx3;have hb3:Below W0.heap.size W0 w3:=hbw.trans (hx3.mono (Nat.le_of_lt hqi));have hB3:B≤w3.heap.size:=(Nat.le_trans hBr hb3.size))
                           | (go_at_call 47;(with_reducible refine((HI.out m' rfl).call B _ els _ _ _ HZ1.out hm' HB5.out hB3 (HS5.out.below (hb3.mono hBr) Zr)).mono ?_);rintro e w4 ⟨rfl,hx4⟩;have hb4:Below W0.heap.size W0 w4:=hb3.trans (hx4.mono (Nat.le_trans (Nat.le_of_lt hqi) hx3.size))))
                          go_ret;exact⟨zC HF.out.symm,hwr.trans (hb4.mono hsz)⟩
                        · go_wp2_with (first
                           | (go_at_call 47;(with_reducible refine((HI.out m' rfl).call B _ thn _ _ _ HZ1.out hm' HB4.out hBi (HS4.out.below (hbw.mono hBr) Zr)).mono ?_);rintro e w3 ⟨rfl,hx3⟩;obtain⟨hc3,hf3⟩:=zu hx3;have hb3:Below W0.heap.size W0 w3:=hbw.trans (hx3.mono (Nat.le_of_lt hqi));have hB3:B≤w3.heap.size:=(Nat.le_trans hBr hb3.size))
                           | (go_at_call 47;(with_reducible refine((HI.out m' rfl).call B _ els _ _ _ HZ1.out hm' HB5.out hB3 (HS5.out.below (hb3.mono hBr) Zr)).mono ?_);rintro e w4 ⟨rfl,hx4⟩;have hb4:Below W0.heap.size W0 w4:=hb3.trans (hx4.mono (Nat.le_trans (Nat.le_of_lt hqi) hx3.size))))
                          go_roundw
                          case rel=>exact⟨j+1,by omega,by go_num,by rw[jT HE.out,HA.out,HSO.out,HP1.out,HF3.out,H2.out,HB4.out,HB5.out];simp[h10,hth],hwr.trans (hb4.mono hsz)⟩
                          case measure=>simp[intOf];omega
                  · have hth0:0<thn.length:=by omega
                    have HF:Hid (c=false):=by
                     unfold Hid;rw[←HC.out];exact zV HE.out (by rw[HSO.out,HF3.out];simp[hth])
                    go_wp2_with (fail);go_ret;exact⟨zC HF.out.symm,hwr.trans (hbw.mono hsz)⟩
                · cases eb
                  · by_cases hel:els.length=0
                    · have hel0:¬ 0<els.length:=by omega
                      replace HS5:Hid (SlS B W0 (.slice A5 0 cap5) els):=by have h:=HS5.out;rw[hel]at h;exact h
                      cases b4
                      · have HF:Hid (c=false):=by
                         unfold Hid;rw[←HC.out];exact zV HE.out (by rw[HSO.out,HB4.out];simp)
                        go_wp2_with (first
                         | (go_at_call 47;(with_reducible refine((HI.out m' rfl).call B _ thn _ _ _ HZ1.out hm' HB4.out hBi (HS4.out.below (hbw.mono hBr) Zr)).mono ?_);rintro e w3 ⟨rfl,hx3⟩;obtain⟨hc3,hf3⟩:=zu hx3;have hb3:Below W0.heap.size W0 w3:=hbw.trans (hx3.mono (Nat.le_of_lt hqi));have hB3:B≤w3.heap.size:=(Nat.le_trans hBr hb3.size))
                         | (go_at_call 47;(with_reducible refine((HI.out m' rfl).call B _ els _ _ _ HZ1.out hm' HB5.out hB3 (HS5.out.below (hb3.mono hBr) Zr)).mono ?_);rintro e w4 ⟨rfl,hx4⟩;have hb4:Below W0.heap.size W0 w4:=hb3.trans (hx4.mono (Nat.le_trans (Nat.le_of_lt hqi) hx3.size))))
                        go_ret;exact⟨zC HF.out.symm,hwr.trans (hb3.mono hsz)⟩
                      · cases b5
                        · have HF:Hid (c=false):=by
                           unfold Hid;rw[←HC.out];exact zV HE.out (by rw[HSO.out,HB5.out];simp)
                          go_wp2_with (first
                           | (go_at_call 47;(with_reducible refine((HI.out m' rfl).call B _ thn _ _ _ HZ1.out hm' HB4.out hBi (HS4.out.below (hbw.mono hBr) Zr)).mono ?_);rintro e w3 ⟨rfl,hx3⟩;obtain⟨hc3,hf3⟩:=zu hx3;have hb3:Below W0.heap.size W0 w3:=hbw.trans (hx3.mono (Nat.le_of_lt hqi));have hB3:B≤w3.heap.size:=(Nat.le_trans hBr hb3.size))
                           | (go_at_call 47;(with_reducible refine((HI.out m' rfl).call B _ els _ _ _ HZ1.out hm' HB5.out hB3 (HS5.out.below (hb3.mono hBr) Zr)).mono ?_);rintro e w4 ⟨rfl,hx4⟩;have hb4:Below W0.heap.size W0 w4:=hb3.trans (hx4.mono (Nat.le_trans (Nat.le_of_lt hqi) hx3.size))))
                          go_ret;exact⟨zC HF.out.symm,hwr.trans (hb4.mono hsz)⟩
                        · go_wp2_with (first
                           | (go_at_call 47;(with_reducible refine((HI.out m' rfl).call B _ thn _ _ _ HZ1.out hm' HB4.out hBi (HS4.out.below (hbw.mono hBr) Zr)).mono ?_);rintro e w3 ⟨rfl,hx3⟩;obtain⟨hc3,hf3⟩:=zu hx3;have hb3:Below W0.heap.size W0 w3:=hbw.trans (hx3.mono (Nat.le_of_lt hqi));have hB3:B≤w3.heap.size:=(Nat.le_trans hBr hb3.size))
                           | (go_at_call 47;(with_reducible refine((HI.out m' rfl).call B _ els _ _ _ HZ1.out hm' HB5.out hB3 (HS5.out.below (hb3.mono hBr) Zr)).mono ?_);rintro e w4 ⟨rfl,hx4⟩;have hb4:Below W0.heap.size W0 w4:=hb3.trans (hx4.mono (Nat.le_trans (Nat.le_of_lt hqi) hx3.size))))
                          go_roundw
                          case rel=>exact⟨j+1,by omega,by go_num,by rw[jT HE.out,HA.out,HSO.out,HP1.out,HF3.out,H2.out,HB4.out,HB5.out];simp[h10,hel],hwr.trans (hb4.mono hsz)⟩
                          case measure=>simp[intOf];omega
                    · have hel0:0<els.length:=by omega
                      have HF:Hid (c=false):=by
                       unfold Hid;rw[←HC.out];exact zV HE.out (by rw[HSO.out,HF3.out];simp[hel])
                      go_wp2_with (fail);go_ret;exact⟨zC HF.out.symm,hwr.trans (hbw.mono hsz)⟩
                  · cases b4
                    · have HF:Hid (c=false):=by
                       unfold Hid;rw[←HC.out];exact zV HE.out (by rw[HSO.out,HB4.out];simp)
                      go_wp2_with (first
                       | (go_at_call 47;(with_reducible refine((HI.out m' rfl).call B _ thn _ _ _ HZ1.out hm' HB4.out hBi (HS4.out.below (hbw.mono hBr) Zr)).mono ?_);rintro e w3 ⟨rfl,hx3⟩;obtain⟨hc3,hf3⟩:=zu hx3;have hb3:Below W0.heap.size W0 w3:=hbw.trans (hx3.mono (Nat.le_of_lt hqi));have hB3:B≤w3.heap.size:=(Nat.le_trans hBr hb3.size))
                       | (go_at_call 47;(with_reducible refine((HI.out m' rfl).call B _ els _ _ _ HZ1.out hm' HB5.out hB3 (HS5.out.below (hb3.mono hBr) Zr)).mono ?_);rintro e w4 ⟨rfl,hx4⟩;have hb4:Below W0.heap.size W0 w4:=hb3.trans (hx4.mono (Nat.le_trans (Nat.le_of_lt hqi) hx3.size))))
                      go_ret;exact⟨zC HF.out.symm,hwr.trans (hb3.mono hsz)⟩
                    · cases b5
                      · have HF:Hid (c=false):=by
                         unfold Hid;rw[←HC.out];exact zV HE.out (by rw[HSO.out,HB5.out];simp)
                        go_wp2_with (first
                         | (go_at_call 47;(with_reducible refine((HI.out m' rfl).call B _ thn _ _ _ HZ1.out hm' HB4.out hBi (HS4.out.below (hbw.mono hBr) Zr)).mono ?_);rintro e w3 ⟨rfl,hx3⟩;obtain⟨hc3,hf3⟩:=zu hx3;have hb3:Below W0.heap.size W0 w3:=hbw.trans (hx3.mono (Nat.le_of_lt hqi));have hB3:B≤w3.heap.size:=(Nat.le_trans hBr hb3.size))
                         | (go_at_call 47;(with_reducible refine((HI.out m' rfl).call B _ els _ _ _ HZ1.out hm' HB5.out hB3 (HS5.out.below (hb3.mono hBr) Zr)).mono ?_);rintro e w4 ⟨rfl,hx4⟩;have hb4:Below W0.heap.size W0 w4:=hb3.trans (hx4.mono (Nat.le_trans (Nat.le_of_lt hqi) hx3.size))))
                        go_ret;exact⟨zC HF.out.symm,hwr.trans (hb4.mono hsz)⟩
                      · go_wp2_with (first
                         | (go_at_call 47;(with_reducible refine((HI.out m' rfl).call B _ thn _ _ _ HZ1.out hm' HB4.out hBi (HS4.out.below (hbw.mono hBr) Zr)).mono ?_);rintro e w3 ⟨rfl,hx3⟩;obtain⟨hc3,hf3⟩:=zu hx3;have hb3:Below W0.heap.size W0 w3:=hbw.trans (hx3.mono (Nat.le_of_lt hqi));have hB3:B≤w3.heap.size:=(Nat.le_trans hBr hb3.size))
                         | (go_at_call 47;(with_reducible refine((HI.out m' rfl).call B _ els _ _ _ HZ1.out hm' HB5.out hB3 (HS5.out.below (hb3.mono hBr) Zr)).mono ?_);rintro e w4 ⟨rfl,hx4⟩;have hb4:Below W0.heap.size W0 w4:=hb3.trans (hx4.mono (Nat.le_trans (Nat.le_of_lt hqi) hx3.size))))
                        go_roundw
                        case rel=>exact⟨j+1,by omega,by go_num,by rw[jT HE.out,HA.out,HSO.out,HP1.out,HF3.out,H2.out,HB4.out,HB5.out];simp[h10],hwr.trans (hb4.mono hsz)⟩
                        case measure=>simp[intOf];omega
  · go_wp2_with (fail)
    go_ret;refine⟨zC ?_,hwr⟩;rw[←HC.out,←HA.out,List.take_of_length_le (by omega)]
theorem rstmts_all:∀ m,RsC m
 | 0=>rstmts_step 0 (fun _ h=>by omega)
 | m+1=>rstmts_step (m+1) (fun m' h=>by
    obtain rfl:m'=m:=by omega
    exact rstmts_all m')
theorem rstmts_any (B:Nat) (l:List St) (b:Bool) (hb:z8 l 100=b) (v:Value) (w:World) (hB:B≤w.heap.size) (hl:SlS B w v l):
 Calls Tryz.prog 47 #[v,.int .i64 100] w fun e w'=>e=.returned (.bool b)∧Below w.heap.size w w':=(rstmts_all 100).call B _ l b v w rfl (by omega) hb hB hl
theorem xZ (t:Int) (b:Bool) (h:yw t=b) (w:World):Calls Tryz.prog 46 #[.int .i64 t] w fun e w'=>e=.returned (.bool b)∧w=w':=by
 subst h;go_enter Tryz.func46,Tryz.ntmps46;go_wp2_with (fail)
 all_goals go_ret
 all_goals refine⟨zC ?_,rfl⟩
 all_goals go_light
 all_goals (unfold yw;rw[Bool.eq_iff_iff];simp_all)
set_option maxHeartbeats 8000000 in
theorem ym (B:Nat) (p:Pr) (c:Bool) (hc:prOK p=c) (v v':Value) (w:World) (hB:B≤w.heap.size) (ha:SlA B w v p.arrays) (hf:SlF B w v' p.funcs):
 Calls Tryz.prog 17 #[.agg #[v,v']] w fun e w'=>e=.returned (.bool c)∧Below w.heap.size w w':=by
 obtain⟨A,cap,rfl,hn⟩:=ha.form;obtain⟨A2,cap2,rfl,hn2⟩:=hf.form;have HA:=hid ha;have HF:=hid hf;have HC:=hid hc
 have HROW:∀ wr,Below (w.heap.size+1) (w.alloc (.cells #[.slice A p.arrays.length cap,.slice A2 p.funcs.length cap2] 26)) wr→wr.cell? ⟨w.heap.size,0,none⟩=some (.slice A p.arrays.length cap)∧wr.cell? ⟨w.heap.size,1,none⟩=some (.slice A2 p.funcs.length cap2):=fun wr hb=>by
  have hrow:wr.heap[w.heap.size]? =some (.cells #[.slice A p.arrays.length cap,.slice A2 p.funcs.length cap2] 26 (0,0)):=(hb.block _ (by omega)).trans (heap_alloc_new w _);exact⟨by rw[Lib.cell_of_heap hrow];rfl,by rw[Lib.cell_of_heap hrow];rfl⟩
 have HR:=hid HROW;clear ha hf hc HROW;go_enter Tryz.func17,Tryz.ntmps17;go_wp2_with (fail)
 go_loopw [3] (fun iv wr=>∃ j:Nat,j≤p.arrays.length∧iv=.int .i64 j∧(p.arrays.take j).all yK=true∧Below (w.heap.size+1) (w.alloc (.cells #[.slice A p.arrays.length cap,.slice A2 p.funcs.length cap2] 26)) wr) (fun iv _=>p.arrays.length-(intOf iv).toNat)
 case atStart=>exact⟨0,Nat.zero_le _,rfl,rfl,Below.refl _ _⟩
 case round=>
  obtain⟨j,hj,rfl,hall,hbw⟩:=hrel;have HAL:=hid hall;clear hall;have hsz:w.heap.size+1≤wr.heap.size:=by have:=hbw.size;simpa using this
  have hwr:Below w.heap.size w wr:=(Zb.alloc Zr _).trans (hbw.mono (by omega));have hBr:B≤wr.heap.size:=by omega
  have hq:w.heap.size<wr.heap.size:=by omega
  obtain⟨k0,k1⟩:=HR.out wr hbw;by_cases hlt:j<p.arrays.length
  · obtain⟨x,hx⟩:∃ e,p.arrays[j]? =some e:=⟨_,List.getElem?_eq_getElem hlt⟩
    obtain⟨g,o,rfl,hg,q0,q1⟩:=(HA.out.below (hwr.mono hB) Zr).cells hx;have HX:=hid hx;have hgs:g<wr.heap.size:=by omega
    obtain⟨b1,hb1⟩:∃ b,vt x.name=b:=⟨_,rfl⟩
    have HN:=hid hb1;clear hx hb1;cases b1
    · go_wp2_with (go_at_call 36;(with_reducible refine(qE x.name _ HN.out _).mono ?_);rintro e w2 ⟨rfl,rfl⟩)
      go_ret;exact⟨zC (by rw[←HC.out];unfold prOK;rw[kZ yK HX.out (by unfold yK;rw[HN.out];rfl)];rfl),hwr⟩
    · by_cases h1:x.size<1
      · go_wp2_with (go_at_call 36;(with_reducible refine(qE x.name _ HN.out _).mono ?_);rintro e w2 ⟨rfl,rfl⟩)
        go_ret;exact⟨zC (by rw[←HC.out];unfold prOK;rw[kZ yK HX.out (by unfold yK;simp;omega)];rfl),hwr⟩
      · by_cases h2:1000<x.size
        · go_wp2_with (go_at_call 36;(with_reducible refine(qE x.name _ HN.out _).mono ?_);rintro e w2 ⟨rfl,rfl⟩)
          go_ret;exact⟨zC (by rw[←HC.out];unfold prOK;rw[kZ yK HX.out (by unfold yK;simp;omega)];rfl),hwr⟩
        · have HOK:Hid (yK x=true):=by unfold Hid yK;rw[HN.out];simp;omega
          go_wp2_with (go_at_call 36;(with_reducible refine(qE x.name _ HN.out _).mono ?_);rintro e w2 ⟨rfl,rfl⟩);go_roundw
          case rel=>exact⟨j+1,by omega,by go_num,by rw[xY yK HX.out,HAL.out,HOK.out];rfl,hbw⟩
          case measure=>simp[intOf];omega
  · have HAA:Hid (p.arrays.all yK=true):=by unfold Hid;rw[←HAL.out,List.take_of_length_le (by omega)]
    clear HAL;go_wp2_with (fail)
    go_loopw [4] (fun iv wr'=>∃ j:Nat,j≤p.funcs.length∧iv=.int .i64 j∧(p.funcs.take j).all k8=true∧Below (w.heap.size+1) (w.alloc (.cells #[.slice A p.arrays.length cap,.slice A2 p.funcs.length cap2] 26)) wr') (fun iv _=>p.funcs.length-(intOf iv).toNat)
    case atStart=>exact⟨0,Nat.zero_le _,rfl,rfl,hbw⟩
    case round=>
     obtain⟨j2,hj2,rfl,hall2,hbw2⟩:=hrel;have HAL2:=hid hall2;clear hall2;have hsz2:w.heap.size+1≤wr.heap.size:=by have:=hbw2.size;simpa using this
     have hw2:Below w.heap.size w wr:=(Zb.alloc Zr _).trans (hbw2.mono (by omega));have hB2:B≤wr.heap.size:=by omega
     have hq2:w.heap.size<wr.heap.size:=by omega
     obtain⟨k20,k21⟩:=HR.out wr hbw2;by_cases hlt2:j2<p.funcs.length
     · obtain⟨x,hx⟩:∃ e,p.funcs[j2]? =some e:=⟨_,List.getElem?_eq_getElem hlt2⟩
       obtain⟨g,o,v1,v2,rfl,hg,q0,q1,q2,q3,hp,hb⟩:=(HF.out.below (hw2.mono hB) Zr).cells hx;obtain⟨A3,cap3,rfl,hn3⟩:=hp.form;obtain⟨A4,cap4,rfl,_⟩:=hb.form;have HX:=hid hx;have HP:=hid hp;have HS:=hid hb;have hgs:g<wr.heap.size:=by omega
       obtain⟨b1,hb1⟩:∃ b,vt x.name=b:=⟨_,rfl⟩
       obtain⟨b2,hb2⟩:∃ b,yw x.type=b:=⟨_,rfl⟩
       obtain⟨b3,hb3⟩:∃ b,z8 x.body 100=b:=⟨_,rfl⟩
       have HFU:Hid (k8 x=(b1 && b2 && decide (x.params.length≤8) && x.params.all y6 && b3)):=by unfold Hid k8;rw[hb1,hb2,hb3]
       have HN:=hid hb1;have HTY:=hid hb2;have HST:=hid hb3;clear hx hb1 hb2 hb3 hp hb;have HBAD:Hid (k8 x=false→c=false):=fun h=>by rw[←HC.out];unfold prOK;rw[kZ k8 HX.out h];simp
       cases b1
       · have HF0:Hid (c=false):=HBAD.out (by rw[HFU.out];rfl)
         go_wp2_with (go_at_call 36;(with_reducible refine(qE x.name _ HN.out _).mono ?_);rintro e w2 ⟨rfl,rfl⟩);go_ret;exact⟨zC HF0.out.symm,hw2.alloc (by omega) _⟩
       · cases b2
         · have HF0:Hid (c=false):=HBAD.out (by rw[HFU.out];rfl)
           go_wp2_with (first
            | (go_at_call 36;(with_reducible refine(qE x.name _ HN.out _).mono ?_);rintro e w2 ⟨rfl,rfl⟩)
            | (go_at_call 46;(with_reducible refine(xZ x.type _ HTY.out _).mono ?_);rintro e w2 ⟨rfl,rfl⟩))
           go_ret;exact⟨zC HF0.out.symm,hw2.alloc (by omega) _⟩
         · by_cases h8:x.params.length≤8
           · have h8':¬ 8<x.params.length:=by omega
             cases b3
             · have HF0:Hid (c=false):=HBAD.out (by rw[HFU.out];simp)
               go_wp2_with (first
                | (go_at_call 36;(with_reducible refine(qE x.name _ HN.out _).mono ?_);rintro e w2 ⟨rfl,rfl⟩)
                | (go_at_call 46;(with_reducible refine(xZ x.type _ HTY.out _).mono ?_);rintro e w2 ⟨rfl,rfl⟩)
                | (go_at_call 47;(with_reducible refine(rstmts_any B x.body _ HST.out _ _ (by simp;omega) (HS.out.below (Zb.alloc hB2 _) Zr)).mono ?_);rintro e w2 ⟨rfl,hx2⟩))
               go_ret;exact⟨zC HF0.out.symm,(hw2.alloc (by omega) _).trans (hx2.mono (by simp;omega))⟩
             · go_wp2_with (first
                | (go_at_call 36;(with_reducible refine(qE x.name _ HN.out _).mono ?_);rintro e w2 ⟨rfl,rfl⟩)
                | (go_at_call 46;(with_reducible refine(xZ x.type _ HTY.out _).mono ?_);rintro e w2 ⟨rfl,rfl⟩)
                | (go_at_call 47;(with_reducible refine(rstmts_any B x.body _ HST.out _ _ (by simp;omega) (HS.out.below (Zb.alloc hB2 _) Zr)).mono ?_);rintro e w2 ⟨rfl,hx2⟩))
               obtain⟨W1,rfl⟩:∃ W1,W1=wr:=⟨_,rfl⟩
               go_loopw [6] (fun iv wi=>∃ q:Nat,q≤x.params.length∧iv=.int .i64 q∧(x.params.take q).all y6=true∧Below (W1.heap.size+1) (W1.alloc (.cells #[.string x.name,.int .i64 x.type,.slice A3 x.params.length cap3,.slice A4 x.body.length cap4] 45)) wi) (fun iv _=>x.params.length-(intOf iv).toNat)
               case atStart=>exact⟨0,Nat.zero_le _,rfl,rfl,hx2.mono (by simp)⟩
               case round=>
                obtain⟨q,hq3,rfl,hall3,hbi⟩:=hrel;have HAL3:=hid hall3;clear hall3;have hqi:W1.heap.size<wr.heap.size:=by have h9:W1.heap.size+1≤wr.heap.size:=(by have:=hbi.size;simpa using this);omega
                have hbw3:Below W1.heap.size W1 wr:=(Zb.alloc Zr _).trans (hbi.mono (by omega));have hrow:wr.heap[W1.heap.size]? =some (.cells #[.string x.name,.int .i64 x.type,.slice A3 x.params.length cap3,.slice A4 x.body.length cap4] 45 (0,0)):=(hbi.block _ (by omega)).trans (heap_alloc_new W1 _);have y2:wr.cell? ⟨W1.heap.size,2,none⟩=some (.slice A3 x.params.length cap3):=by rw[Lib.cell_of_heap hrow];rfl
                clear hrow;by_cases hlq:q<x.params.length
                · obtain⟨y,hy⟩:∃ e,x.params[q]? =some e:=⟨_,List.getElem?_eq_getElem hlq⟩
                  obtain⟨g',o',rfl,hg',r0,r1⟩:=(HP.out.below (hbw3.mono hB2) Zr).cells hy;have HY:=hid hy;have hgs':g'<wr.heap.size:=by omega
                  obtain⟨c1,hc1⟩:∃ b,vt y.name=b:=⟨_,rfl⟩
                  obtain⟨c2,hc2⟩:∃ b,yw y.type=b:=⟨_,rfl⟩
                  have HN2:=hid hc1;have HT2:=hid hc2;clear hy hc1 hc2;have HPA:Hid (y6 y=(c1 && c2)):=by unfold Hid y6;rw[HN2.out,HT2.out]
                  cases c1
                  · have HF0:Hid (c=false):=HBAD.out (by rw[HFU.out,kZ y6 HY.out (by rw[HPA.out];rfl)];simp)
                    go_wp2_with (go_at_call 36;(with_reducible refine(qE y.name _ HN2.out _).mono ?_);rintro e w2 ⟨rfl,rfl⟩);go_ret;exact⟨zC HF0.out.symm,hw2.trans (hbw3.mono (by omega))⟩
                  · cases c2
                    · have HF0:Hid (c=false):=HBAD.out (by rw[HFU.out,kZ y6 HY.out (by rw[HPA.out];rfl)];simp)
                      go_wp2_with (first
                       | (go_at_call 36;(with_reducible refine(qE y.name _ HN2.out _).mono ?_);rintro e w2 ⟨rfl,rfl⟩)
                       | (go_at_call 46;(with_reducible refine(xZ y.type _ HT2.out _).mono ?_);rintro e w2 ⟨rfl,rfl⟩))
                      go_ret;exact⟨zC HF0.out.symm,hw2.trans (hbw3.mono (by omega))⟩
                    · go_wp2_with (first
                       | (go_at_call 36;(with_reducible refine(qE y.name _ HN2.out _).mono ?_);rintro e w2 ⟨rfl,rfl⟩)
                       | (go_at_call 46;(with_reducible refine(xZ y.type _ HT2.out _).mono ?_);rintro e w2 ⟨rfl,rfl⟩))
                      go_roundw
                      case rel=>exact⟨q+1,by omega,by go_num,by rw[xY y6 HY.out,HAL3.out,HPA.out];rfl,hbi⟩
                      case measure=>simp[intOf];omega
                · have HPP:Hid (x.params.all y6=true):=by unfold Hid;rw[←HAL3.out,List.take_of_length_le (by omega)]
                  have HFT:Hid (k8 x=true):=by unfold Hid;rw[HFU.out,HPP.out];simp[h8]
                  go_wp2_with (fail);go_roundw
                  case rel=>exact⟨j2+1,by omega,by go_num,by rw[xY k8 HX.out,HAL2.out,HFT.out];rfl,hbw2.trans (hbw3.mono hsz2)⟩
                  case measure=>simp[intOf];omega
           · have h8':8<x.params.length:=by omega
             have HF0:Hid (c=false):=HBAD.out (by rw[HFU.out];simp[h8])
             go_wp2_with (first
              | (go_at_call 36;(with_reducible refine(qE x.name _ HN.out _).mono ?_);rintro e w2 ⟨rfl,rfl⟩)
              | (go_at_call 46;(with_reducible refine(xZ x.type _ HTY.out _).mono ?_);rintro e w2 ⟨rfl,rfl⟩))
             go_ret;exact⟨zC HF0.out.symm,hw2.alloc (by omega) _⟩
     · have HFF:Hid (p.funcs.all k8=true):=by unfold Hid;rw[←HAL2.out,List.take_of_length_le (by omega)]
       go_wp2_with (fail);go_ret;exact⟨zC (by rw[←HC.out];unfold prOK;rw[HAA.out,HFF.out];rfl),hw2⟩
end Go.Proofs.YtfghofifjnbicaaGreatDoor
