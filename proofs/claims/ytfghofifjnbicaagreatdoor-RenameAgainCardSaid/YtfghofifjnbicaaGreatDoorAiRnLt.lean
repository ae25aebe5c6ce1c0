import Derived.Test.YtfghofifjnbicaaGreatDoorAiZed
import Derived.Test.YtfghofifjnbicaaGreatDoorAiRnMid
import Derived.Test.YtfghofifjnbicaaGreatDoorAiRnDp
import Derived.Test.YtfghofifjnbicaaGreatDoorAiRnOk
import Derived.Test.YtfghofifjnbicaaGreatDoorAiRnAw
import Derived.BigQuiet
import Derived.Deep.QuietTactic
set_option linter.unusedSimpArgs false
set_option linter.unusedVariables false
set_option maxRecDepth 100000
/- The law's names that are declared. -/
namespace Go.Proofs.YtfghofifjnbicaaGreatDoor
open Lib (hid)
open Go.RowKit
theorem us:∀ a b:List St,z7 (a++b)=z7 a++z7 b
 | [],b=>by rw[List.nil_append,z7,List.nil_append]
 | s :: r,b=>by rw[List.cons_append,z7,z7,us r b,List.append_assoc]
theorem letsSs_take {l:List St} {j:Nat} {s:St} (h:l[j]? =some s):z7 (l.take (j+1))=z7 (l.take j)++letsS s:=by
 rw[List.take_add_one,h,us];simp[z7]
theorem letsSs_part {l:List St} {j:Nat} {s:St} (h:l[j]? =some s):(z7 (l.take j)).length+(letsS s).length≤(z7 l).length:=by
 have e:z7 l=z7 (l.take (j+1))++z7 (l.drop (j+1)):=by rw[←us,List.take_append_drop]
 rw[e,letsSs_take h,List.length_append,List.length_append];omega
mutual
theorem letsS_cnt:∀ s:St,(letsS s).length≤jg s
 | .mk k t n a b c=>by
   have h1:=xy b;have h2:=xy c;rw[letsS,jg,List.length_append,List.length_append];split <;> simp <;> omega
theorem xy:∀ l:List St,(z7 l).length≤cntSs l
 | []=>by rw[z7];exact Nat.zero_le _
 | s :: r=>by
   have h1:=letsS_cnt s;have h2:=xy r;rw[z7,cntSs,List.length_append];omega
end
theorem lt_info:(Tryz.prog.info? 9).map (fun i=>(i.zero,i.size,i.bytes))=some (some (.string ⟨#[]⟩),1,16):=by kernel_rfl
theorem strs_one (l:List ByteArray):∀ u ∈ l.map Value.string,u.oneCell'=true:=fun u hu=>by
 obtain⟨x,_,rfl⟩:=List.mem_map.1 hu;rfl
def qw (B:Nat) (w:World) (v:Value) (l:List ByteArray):Prop:=w.ownsRow B 9 1 v l.length (l.map Value.string)
theorem qw.form {B:Nat} {w:World} {v:Value} {l:List ByteArray} (h:qw B w v l):∃ A c,v=.slice A l.length c:=qY h
theorem qw.nil0 {B:Nat} {w:World} {A:Option Addr} {c:Nat} {l:List ByteArray} (h:qw B w (.slice A l.length c) l):A=none→l.length=0:=fun hA=>by
 rcases h.2 with⟨hv,h0⟩ | ⟨g,cap,cur,hv,_⟩
 · exact h0
 · injection hv with e1
   rw[hA]at e1;cases e1
theorem qw.at {B:Nat} {w:World} {A:Option Addr} {c:Nat} {l:List ByteArray} (h:qw B w (.slice A l.length c) l):∀ ad,A=some ad→∀ j u,(l.map Value.string)[j]? =some u→w.cell? (ad.add j)=some u:=fun ad hA j u hj=>by
 subst hA;rcases h.2 with⟨hv,h0⟩ | ⟨g,cap,cur,hv,h1,h2,h3,h4,h5,h6⟩
 · injection hv with e1
   cases e1
 · injection hv with e1
   injection e1 with e1;subst e1;rw[show (⟨g,0,none⟩:Addr).add j=⟨g,j,none⟩ by unfold Addr.add;split <;> simp_all];rw[cell_of_row w g j cur _ (0,0) h2];rw[←h6,List.getElem?_take]at hj;split at hj
   · simpa using hj
   · cases hj
theorem qw.keep {B:Nat} {w w':World} {v:Value} {l:List ByteArray} (h:qw B w v l) (hb:Below w.heap.size w w'):qw B w' v l:=jt h hb Zr
def LtC (m:Nat):Prop:=∀ (B:Nat) (l:List St) (vl:Value) (w:World),z9 l m=true→B≤w.heap.size→SlS B w vl l→cntSs l≤1000000000→
 Calls Tryz.prog 14 #[vl] w fun e w'=>∃ v,e=.returned v∧qw w.heap.size w' v (z7 l)∧Below w.heap.size w w'
theorem LtC.call {m:Nat} (h:LtC m) {B:Nat} {l:List St} {vl:Value} {w:World} (h1:z9 l m=true) (h2:B≤w.heap.size) (h3:SlS B w vl l) (h4:cntSs l≤1000000000):
 Calls Tryz.prog 14 #[vl] w fun e w'=>∃ v,e=.returned v∧qw w.heap.size w' v (z7 l)∧Below w.heap.size w w':=h B l vl w h1 h2 h3 h4
set_option maxHeartbeats 4000000 in
theorem lt_step (m:Nat) (ih:∀ m',m'+1=m→LtC m'):LtC m:=by
 intro B l vl w hok hB hl hc;obtain⟨A,c,rfl,hn⟩:=hl.form;obtain⟨i0,hi0,hz0,hz1,hz2⟩:=info_parts lt_info;have HI0:=hid (And.intro hi0 (And.intro hz0 (And.intro hz1 hz2)));have hlc:=xy l;have hcl:=cnt_len l;have HL:=hid hl;have HOK:=hid hok;have HIH:=hid ih;have HC:=hid hc;clear hl hok ih hi0 hz0 hz1 hz2;go_enter Tryz.func14,Tryz.ntmps14;go_wp2_with (fail)
 go_loopw [3,4] (fun ov iv wr=>∃ j:Nat,j≤l.length∧iv=.int .i64 j∧qw w.heap.size wr ov (z7 (l.take j))∧Below w.heap.size w wr) (fun _ iv _=>l.length-(intOf iv).toNat)
 case atStart=>exact⟨0,Nat.zero_le _,rfl,by rw[List.take_zero,z7];exact World.ownsRow_nil _ _ _ 1,Below.refl _ _⟩
 case round=>
  obtain⟨j,hj,rfl,hO,hbw⟩:=hrel;have hsz:w.heap.size≤wr.heap.size:=hbw.size;obtain⟨acc,hacc⟩:∃ acc,z7 (l.take j)=acc:=⟨_,rfl⟩
  have HACC:=hid hacc;rw[hacc]at hO;obtain⟨A0,c0,rfl⟩:=hO.form;have HO:=hid hO;have HBW:=hid hbw;clear hO hbw hacc;by_cases hlt:j<l.length
  · obtain⟨⟨k,ty,name,args,thn,els⟩,he⟩:∃ e,l[j]? =some e:=⟨_,List.getElem?_eq_getElem hlt⟩
    obtain⟨g,o,v3,v4,v5,rfl,hg,q0,q1,q2,q3,q4,q5,s3,s4,s5⟩:=HL.out.cells he;obtain⟨A4,c4,rfl,h4⟩:=s4.form;obtain⟨A5,c5,rfl,h5⟩:=s5.form;have hgs:g<wr.heap.size:=by omega
    have hgw:g<w.heap.size:=by omega
    have hoke:=stsOK_at HOK.out he;rw[jM]at hoke;simp only[Bool.and_eq_true,decide_eq_true_eq]at hoke;obtain⟨⟨⟨⟨hm1,hform⟩,hargs⟩,hthn⟩,hels⟩:=hoke;obtain⟨m',rfl⟩:∃ m',m=m'+1:=⟨m-1,by omega⟩
    have HTHN:=hid (show z9 thn m'=true from hthn);have HELS:=hid (show z9 els m'=true from hels);have HE:=hid he;have hpart:=letsSs_part he;rw[HACC.out]at hpart
    have hcnt:cntSs thn≤1000000000∧cntSs els≤1000000000:=by
     have h1:=cntSs_drop he
     have h2:cntSs (l.drop j)≤cntSs l:=by
      have key:∀ (l:List St) (j:Nat),cntSs (l.drop j)≤cntSs l:=by
       intro l
       induction l with
       | nil=>intro j;rw[List.drop_nil];exact Nat.le_refl _
       | cons x r ih=>
         intro j;cases j with
         | zero=>exact Nat.le_refl _
         | succ j=>rw[List.drop_succ_cons,cntSs];have:=ih j;omega
      exact key l j
     omega
    rw[letsS]at hpart;simp only[List.length_append]at hpart;have HS4:=hid s4;have HS5:=hid s5;have p0:=(HBW.out.cell (p:=⟨g,o+j * 6,none⟩) hgw).trans q0;have p2:=(HBW.out.cell (p:=⟨g,o+j * 6+2,none⟩) hgw).trans q2;have Q4:=hid q4;have Q5:=hid q5;have HCELLS:=hid (And.intro p0 p2);clear s3 s4 s5 hargs hthn hels he hform q0 q1 q2 q3 q4 q5;obtain⟨hk,hkk⟩:∃ hk:Bool,(k == 1)=hk:=⟨_,rfl⟩
    have HKK:=hid hkk;obtain⟨acc1,hacc1⟩:∃ acc1,acc++(if k=1 then [name] else [])=acc1:=⟨_,rfl⟩
    have HACC1:=hid hacc1
    have hlen1:acc1.length+(z7 thn).length+(z7 els).length≤(z7 l).length:=by
     rw[←hacc1,List.length_append];omega
    clear hacc1;go_upto_if 16 with(fail)
    go_cut [3] (fun ov2 wx=>qw w.heap.size wx ov2 acc1∧Below w.heap.size w wx)
    case first=>
     cases hk with
     | false=>
       have hk1:¬ k=1:=by simpa using HKK.out
       have HK1:=hid hk1;clear hk1;go_wp2_with (fail)
       go_meet
       refine⟨?_,HBW.out⟩;rw[←HACC1.out,if_neg HK1.out,List.append_nil];exact HO.out
     | true=>
       have hk1:k=1:=by simpa using HKK.out
       have HK1:=hid hk1;clear hk1;have HPRE:=hid (jt HO.out ((Below.refl wr.heap.size wr).alloc Zr (.cells #[.string name] 9)) Zr);have HNW:=hid (q9 wr [.string name] 9 wr.heap.size rfl);have HGB:=hid (jW HO.out)
       go_wp2_with (at_builtin;refine wpList_append_own _ rfl (.tmp 17) (.tmp 23) _ rfl w.heap.size 9 i0 _ 1 16 Tryz.underlying41 HI0.out.1 HI0.out.2.1 HI0.out.2.2.1 HI0.out.2.2.2 rfl (by omega) (.slice A0 acc.length c0) acc.length _ rfl (by exact HPRE.out) ⟨wr.heap.size,0,none⟩ 1 1 [.string name] rfl rfl (by exact HNW.out) (by simp[Value.oneCell']) (by simp only[maxLen];omega) (by omega) (by simp;omega) ?_
                    intro v1 w1 hown1 hg1 _;have HO1:=hid hown1;have HB1:=hid (show Below w.heap.size w w1 from(HBW.out.alloc hsz (.cells #[.string name] 9)).grown hg1 (by rw[zA];omega) fun q hq=>(HGB.out q hq).2)
                    clear hown1 hg1)
       go_meet
       refine⟨?_,HB1.out⟩;rw[←HACC1.out,if_pos HK1.out];unfold qw;rw[List.length_append,List.map_append];exact HO1.out
    case rest=>
     obtain⟨hO1,hb1⟩:=hcut;obtain⟨A1,c1,rfl⟩:=hO1.form;have hz1:w.heap.size≤wc.heap.size:=hb1.size;have p4:=(hb1.cell (p:=⟨g,o+j * 6+4,none⟩) hgw).trans Q4.out;have hgc:g<wc.heap.size:=by omega
     have HO1:=hid hO1;have HB1:=hid hb1;have HS4C:=hid (show SlS B wc (.slice A4 thn.length c4) thn from HS4.out.below (hb1.mono hB) Zr);clear hO1 hb1
     go_upto_region 8 with(first
      | (go_at_call 14
         (with_reducible refine(LtC.call (HIH.out m' rfl) HTHN.out (by omega) HS4C.out hcnt.1).mono ?_)
         rintro x w7 ⟨v7,rfl,hr,hb⟩;obtain⟨A6,c6,rfl⟩:=hr.form;have hz7:wc.heap.size≤w7.heap.size:=hb.size;have HO7:=hid (HO1.out.keep hb);have HR7:=hid hr;have HB7:=hid (HB1.out.trans (hb.mono hz1));have HGB:=hid (jW (HO1.out.keep hb))
         clear hr hb)
      | (at_builtin;refine jf rfl (.tmp 25) (.tmp 31) _ rfl w.heap.size 9 i0 _ 1 16 Tryz.underlying41 HI0.out.1 HI0.out.2.1 HI0.out.2.2.1 HI0.out.2.2.2 rfl (by omega) (.slice A1 acc1.length c1) acc1.length _ rfl (by exact HO7.out) A6 (z7 thn).length c6 ((z7 thn).map Value.string) rfl (by rw[List.length_map,Nat.mul_one]) HR7.out.nil0 HR7.out.at (strs_one _) (by simp only[maxLen];omega) (by omega) (by omega) ?_
         intro v8 w8 hown8 hg8;have HO8:=hid (show qw w.heap.size w8 v8 (acc1++z7 thn) from by unfold qw;rw[List.length_append,List.map_append];exact hown8);have HB8:=hid (HB7.out.grown hg8 (by omega) fun q hq=>(HGB.out q hq).2)
         clear hown8 hg8))
     obtain⟨A8,c8,rfl⟩:=HO8.out.form;have hz8:w.heap.size≤w8.heap.size:=HB8.out.size;have p5:=(HB8.out.cell (p:=⟨g,o+j * 6+5,none⟩) hgw).trans Q5.out;have hg8:g<w8.heap.size:=by omega
     have HS5C:=hid (show SlS B w8 (.slice A5 els.length c5) els from HS5.out.below (HB8.out.mono hB) Zr);obtain⟨acc2,hacc2⟩:∃ acc2,acc1++z7 thn=acc2:=⟨_,rfl⟩
     have hl2:acc2.length=acc1.length+(z7 thn).length:=by rw[←hacc2,List.length_append]
     have HL2:=hid hl2;have hl2a:=Nat.le_of_eq hl2;rw[hacc2]at HO8;simp only[hacc2];have HACC2:=hid hacc2;clear p4 hl2 hacc2
     go_wp2_with (first
      | (go_at_call 14
         (with_reducible refine(LtC.call (HIH.out m' rfl) HELS.out (by omega) HS5C.out hcnt.2).mono ?_)
         rintro x w9 ⟨v9,rfl,hr,hb⟩;obtain⟨A9,c9,rfl⟩:=hr.form;have hz9:w8.heap.size≤w9.heap.size:=hb.size;have HO9:=hid (HO8.out.keep hb);have HR9:=hid hr;have HB9:=hid (HB8.out.trans (hb.mono hz8));have HGB9:=hid (jW (HO8.out.keep hb))
         clear hr hb)
      | (at_builtin;refine jf rfl (.tmp 33) (.tmp 39) _ rfl w.heap.size 9 i0 _ 1 16 Tryz.underlying41 HI0.out.1 HI0.out.2.1 HI0.out.2.2.1 HI0.out.2.2.2 rfl (by omega) (.slice A8 acc2.length c8) acc2.length _ rfl (by exact HO9.out) A9 (z7 els).length c9 ((z7 els).map Value.string) rfl (by rw[List.length_map,Nat.mul_one]) HR9.out.nil0 HR9.out.at (strs_one _) (by simp only[maxLen];omega) (by omega) (by omega) ?_
         intro v10 w10 hown10 hg10;have HO10:=hid (show qw w.heap.size w10 v10 (acc2++z7 els) from by unfold qw;rw[List.length_append,List.map_append];exact hown10);have HB10:=hid (HB9.out.grown hg10 (by omega) fun q hq=>(HGB9.out q hq).2)
         clear hown10 hg10))
     go_roundw
     case rel=>
      refine⟨j+1,by omega,by go_num,?_,HB10.out⟩;rw[letsSs_take HE.out,HACC.out,letsS];have h1:=HO10.out;rw[←HACC2.out,←HACC1.out]at h1;simpa using h1
     case measure=>simp[intOf];omega
  · have hjl:j=l.length:=by omega
    have HRES:=hid (show acc=z7 l by rw[←HACC.out,hjl,List.take_length]);clear hjl;go_wp2_with (fail);go_ret;exact⟨_,rfl,HRES.out ▸ HO.out,HBW.out⟩
theorem lt_all:∀ m,LtC m:=fun m=>by
 induction m with
 | zero=>exact lt_step 0 fun m' h=>absurd h (by omega)
 | succ m ih=>exact lt_step (m+1) fun m' h=>by obtain rfl:m'=m:=by omega
                                               exact ih
mutual
theorem cntS_ren:∀ (s:St) (all:jE) (n:Nat),jg (je s all n).1=jg s
 | .mk k ty name args thn els,all,n=>by
   rw[je,jg,jg,uT thn,uT els]
theorem uT:∀ (l:List St) (all:jE) (n:Nat),cntSs (z6 l all n).1=cntSs l
 | [],all,n=>by rw[z6]
 | s :: r,all,n=>by
   rw[z6,cntSs,cntSs,cntS_ren s,uT r]
end
theorem renF_cnt (f:Fu):(kM f).params.length+cntSs (kM f).body=f.params.length+cntSs f.body:=by
 show (renPs f.params 0).length+cntSs (z6 f.body (parN f.params 0) f.params.length).1=_;rw[jr,uT]
theorem small_ren {p:Pr} (h:Small p):Small (qn p):=by
 have hok:=prOK_ren h.ok h.cn;refine⟨hok,sized_ok hok,h.n1,?_,fun f hf=>?_⟩
 · show (p.funcs.map kM).length≤1000000
   rw[List.length_map];exact h.n2
 · obtain⟨g,hg,rfl⟩:=List.mem_map.1 (show f ∈ p.funcs.map kM from hf)
   rw[renF_cnt];exact h.cn g hg
theorem renR_not {p q:Pr} {k:Int} (h:vw p=(q,k)) (hk:k≠0):q=pr0:=by
 unfold vw at h;split at h
 · injection h with _ h2
   exact absurd h2.symm hk
 · injection h with h1 _
   exact h1.symm
theorem renR_yes {p q:Pr} (h:vw p=(q,0)) (hs:Small p):Small q∧(∃ r1 r2,vO q=(0,r1,r2))∧vw q=(q,0)∧∀ f ∈ q.funcs,(allN f).Nodup:=by
 unfold vw at h;split at h
 · rename_i hc
   injection h with h1 _;subst h1;have hq:=chkP_ren hs.cn hc;refine⟨small_ren hs,⟨0,0,hq⟩,?_,fun f hf=>?_⟩
   · unfold vw
     rw[hq,if_pos rfl,renPr_idem]
   · obtain⟨g,_,rfl⟩:=List.mem_map.1 (show f ∈ p.funcs.map kM from hf)
     exact allN_ren g
 · injection h with _ h2
   exact absurd h2 (by decide)
theorem names_take {l:List Pa} {j:Nat} {a:Pa} (h:l[j]? =some a):(l.take (j+1)).map (·.name)=(l.take j).map (·.name)++[a.name]:=by
 rw[List.take_add_one,h];simp
theorem nodup_ne {l:List ByteArray} (h:l.Nodup) {j k:Nat} {a b:ByteArray} (hj:l[j]? =some a) (hk:l[k]? =some b) (hjk:j<k):a≠b:=by
 obtain⟨h1,e1⟩:=List.getElem?_eq_some_iff.1 hj;obtain⟨h2,e2⟩:=List.getElem?_eq_some_iff.1 hk;have:=List.pairwise_iff_getElem.1 h j k h1 h2 hjk;rw[e1,e2]at this;exact this
def parNm (f:Fu) (j:Nat):List ByteArray:=(f.params.take j).map (·.name)
set_option maxHeartbeats 16000000 in
theorem lragain_any (B:Nat) (v:Value) (w:World) (ht:TreeTab B w) (hB:B≤w.heap.size) (hv:x8 w v):Calls Tryz.prog 5 #[v] w fun e w'=>e=.returned (.bool true)∧Below w.heap.size w w':=by
 have HT:=hid ht;have HV:=hid hv;obtain⟨i0,hi0,hz0,hz1,hz2⟩:=info_parts lt_info;have HI0:=hid (And.intro hi0 (And.intro hz0 (And.intro hz1 hz2)));clear ht hv hi0 hz0 hz1 hz2;go_enter Tryz.func5,Tryz.ntmps5
 go_upto_region 5 with(first
  | (go_at_call 10;(with_reducible refine(rawake_any B w HT.out hB).mono ?_);rintro e w1 ⟨rfl,hb⟩
     have HB1:=hid hb;have HT1:=hid (HT.out.below (hb.mono hB));have HV1:=hid (HV.out.below hb);have hz1:w.heap.size≤w1.heap.size:=hb.size
     clear hb)
  | (go_at_call 12;(with_reducible refine(good_any B v w1 HT1.out (by omega) HV1.out).mono ?_);rintro e w2 ⟨p,A0,c0,A1,c1,rfl,hb,hg,hsm⟩
     obtain⟨k1,k2,k3,k4⟩:=hg.box;have HG2:=hid k4;have HX2:=hid k2;have HB2:=hid (HB1.out.trans ((hb.trans (k1.mono hb.size)).mono hz1));have HSM:=hid hsm;have hz2:w1.heap.size≤w2.heap.size:=hb.size;have hz2':=k3
     clear hb hg k1 k2 k3 k4 hsm))
 obtain⟨q,k,hq⟩:∃ q k,vw p=(q,k):=⟨_,_,rfl⟩
 have HRQ:=hid hq;clear hq;generalize w2.alloc (pgO A0 p.arrays.length c0 A1 p.funcs.length c1)=W2 at *;have hz2a:=Nat.le_of_eq hz2';have hz2b:=Nat.le_of_eq hz2'.symm;clear hz2';obtain⟨⟨a0,a1⟩,az⟩:=zF HX2.out;have hs2:w2.heap.size<W2.heap.size:=by omega
 go_upto_region 6 with(go_at_call 8;(with_reducible refine(HG2.out.ren HSM.out HRQ.out).mono ?_);rintro e w3 ⟨A2,c2,A3,c3,rfl,hb,hg⟩
                       obtain⟨k1,k2,k3,k4⟩:=hg.box;have HG3:=hid k4;have HX3:=hid k2;have HB3:=hid ((HB2.out.trans (hb.mono (by omega))).trans (k1.mono (by have:=hb.size;omega)));have hz3:W2.heap.size≤w3.heap.size:=hb.size;have hz3':=k3
                       clear hb hg k1 k2 k3 k4)
 generalize w3.alloc (pgO A2 q.arrays.length c2 A3 q.funcs.length c3)=W3 at *;have hz3a:=Nat.le_of_eq hz3';have hz3b:=Nat.le_of_eq hz3'.symm;clear hz3' a0 a1 az;obtain⟨⟨a0,a1⟩,az⟩:=zF HX3.out;have hs3:w3.heap.size<W3.heap.size:=by omega
 by_cases hk0:k=0
 case neg=>
  have hk1:(k == 0)=false:=by simpa using hk0
  have HSS:=hid (HG3.out.same (by rw[renR_not HRQ.out hk0];exact(laid0 HG3.out.tab HG3.out.hB)))
  go_wp2_with (go_at_call 11;(with_reducible refine(HSS.out).mono ?_);rintro e w4 ⟨rfl,hb⟩
               have HB4:=hid (HB3.out.trans (hb.mono (by omega)))
               clear hb)
  go_ret;exact⟨zC (by simp),HB4.out⟩
 case pos=>
  subst hk0;obtain⟨hsq,⟨r1,r2,hcq⟩,hrq,hnd⟩:=renR_yes HRQ.out HSM.out;have HSQ:=hid hsq;have HRR:=hid hrq;have HND:=hid hnd;have HCQ:=hid hcq;clear hsq hcq hrq hnd
  go_upto_region 9 with(go_at_call 8;(with_reducible refine(HG3.out.ren HSQ.out HRR.out).mono ?_);rintro e w4 ⟨A4,c4,A5,c5,rfl,hb,hg⟩
                        obtain⟨k1,k2,k3,k4⟩:=hg.box;have HG4:=hid k4;have HX4:=hid k2;have HB4:=hid ((HB3.out.trans (hb.mono (by omega))).trans (k1.mono (by have:=hb.size;omega)));have HQ4:=hid ((HG3.out.below hb).below (k1.mono Zr));have HY4:=hid ((k1.block w3.heap.size (by have:=hb.size;omega)).trans ((hb.block w3.heap.size (by omega)).trans HX3.out));have hz4:W3.heap.size≤w4.heap.size:=hb.size;have hz4':=k3
                        clear hb hg k1 k2 k3 k4)
  generalize w4.alloc (pgO A4 q.arrays.length c4 A5 q.funcs.length c5)=W4 at *;have hz4a:=Nat.le_of_eq hz4';have hz4b:=Nat.le_of_eq hz4'.symm;clear hz4' a0 a1 az;obtain⟨⟨a0,a1⟩,az⟩:=zF HY4.out;have hs4:w4.heap.size<W4.heap.size:=by omega
  have HCK:=hid (rcheck_any w3.heap.size q (0,r1,r2) (.slice A2 q.arrays.length c2) (.slice A3 q.funcs.length c3) W4 (by omega) HQ4.out.ha HQ4.out.hf HSQ.out.cn HCQ.out)
  go_upto_region 10 with(go_at_call 13;(with_reducible refine(HCK.out).mono ?_);rintro e w5 ⟨rfl,hb⟩
                         have hb':Below W4.heap.size W4 (w5.alloc (.cells #[.int .i64 (r1:Int),.int .i64 (W64 r2)] 38)):=hb.alloc hb.size _;have HB5:=hid (HB4.out.trans (hb'.mono (by omega)));have HQ5:=hid (HQ4.out.below hb');have HG5:=hid (HG4.out.below hb');have HY5:=hid ((hb'.block w3.heap.size (by omega)).trans HY4.out);have HX5:=hid ((hb'.block w4.heap.size (by omega)).trans HX4.out);have hz5':=hb'.size
                         clear hb hb')
  generalize w5.alloc (.cells #[.int .i64 (r1:Int),.int .i64 (W64 r2)] 38)=W5 at *;clear a0 a1 az;have hzw:w.heap.size≤W5.heap.size:=HB5.out.size;go_wp2_with (fail)
  go_loopw [11] (fun iv wr=>∃ i:Nat,i≤q.funcs.length∧iv=.int .i64 i∧Below W5.heap.size W5 wr) (fun iv _=>q.funcs.length-(intOf iv).toNat)
  case atStart=>exact⟨0,Nat.zero_le _,rfl,Below.refl _ _⟩
  case round=>
   rename World=>wo
   obtain⟨i,hi,rfl,hbw⟩:=hrel;have hsz:W5.heap.size≤wo.heap.size:=hbw.size;obtain⟨⟨q0,q1⟩,qz⟩:=zF ((hbw.block w3.heap.size (by omega)).trans HY5.out);have hsq3:w3.heap.size<wo.heap.size:=by omega
   have hqn:=HSQ.out.n2;by_cases hlt:i<q.funcs.length
   · obtain⟨f,he⟩:∃ f,q.funcs[i]? =some f:=⟨_,List.getElem?_eq_getElem hlt⟩
     obtain⟨g,o,v2,v3,rfl,hg,_,_,f2,f3,hp,hs⟩:=HQ5.out.hf.cells he;obtain⟨A6,c6,rfl,h6⟩:=hp.form;obtain⟨A7,c7,rfl,h7⟩:=hs.form;have hmem:=List.mem_of_getElem? he;have hcn:=HSQ.out.cn f hmem
     have hok:kE f=true:=by
      have:=HSQ.out.ok;unfold prOK at this;rw[Bool.and_eq_true]at this;exact List.all_eq_true.1 this.2 f hmem
     unfold kE at hok;simp only[Bool.and_eq_true]at hok;have HOKS:=hid hok.2;have HND1:=hid (HND.out f hmem);have hg5:g<W5.heap.size:=by omega
     have hlc:=xy f.body;have f2o:=(hbw.cell (p:=⟨g,o+i * 4+2,none⟩) hg5).trans f2;have hgo:g<wo.heap.size:=by omega
     have HF2:=hid f2;have HF3:=hid f3;have HP:=hid hp;have HS:=hid hs;have HBW:=hid hbw;clear hok hmem he hp hs hbw f2 f3;go_wp2_with (fail)
     go_loopw [12,13] (fun lv jv wx=>∃ j:Nat,j≤f.params.length∧jv=.int .i64 j∧qw W5.heap.size wx lv (parNm f j)∧Below W5.heap.size W5 wx) (fun _ jv _=>f.params.length-(intOf jv).toNat)
     case atStart=>exact⟨0,Nat.zero_le _,rfl,World.ownsRow_nil _ _ _ 1,HBW.out⟩
     case round=>
      rename World=>wx
      obtain⟨j,hj,rfl,hO,hbx⟩:=hrel;obtain⟨acc,hacc⟩:∃ acc,parNm f j=acc:=⟨_,rfl⟩
      have hal:acc.length≤f.params.length:=by rw[←hacc];unfold parNm;rw[List.length_map,List.length_take];omega
      have HACC:=hid hacc;rw[hacc]at hO;obtain⟨A8,c8,rfl⟩:=hO.form;have hsx:W5.heap.size≤wx.heap.size:=hbx.size;obtain⟨⟨x0,x1⟩,xz⟩:=zF ((hbx.block w3.heap.size (by omega)).trans HY5.out);have hsx3:w3.heap.size<wx.heap.size:=by omega
      have hgx:g<wx.heap.size:=by omega
      have f2x:=(hbx.cell (p:=⟨g,o+i * 4+2,none⟩) hg5).trans HF2.out;have f3x:=(hbx.cell (p:=⟨g,o+i * 4+3,none⟩) hg5).trans HF3.out;have HO:=hid hO;have HBX:=hid hbx;clear hO hbx hacc;by_cases hjt:j<f.params.length
      · obtain⟨a,ha⟩:∃ a,f.params[j]? =some a:=⟨_,List.getElem?_eq_getElem hjt⟩
        obtain⟨g2,o2,rfl,hg2,y0,_⟩:=HP.out.cells ha;have y0x:=(HBX.out.cell (p:=⟨g2,o2+j * 2,none⟩) (by show g2<_;omega)).trans y0;have hg2x:g2<wx.heap.size:=by omega
        have HPRE:=hid (jt HO.out ((Below.refl wx.heap.size wx).alloc Zr (.cells #[.string a.name] 9)) Zr);have HNW:=hid (q9 wx [.string a.name] 9 wx.heap.size rfl);have HGB:=hid (jW HO.out);have HA:=hid ha;clear ha y0
        go_wp2_with (at_builtin;refine wpList_append_own _ rfl (.tmp 62) (.tmp 73) _ rfl W5.heap.size 9 i0 _ 1 16 Tryz.underlying41 HI0.out.1 HI0.out.2.1 HI0.out.2.2.1 HI0.out.2.2.2 rfl (by omega) (.slice A8 acc.length c8) acc.length _ rfl (by exact HPRE.out) ⟨wx.heap.size,0,none⟩ 1 1 [.string a.name] rfl rfl (by exact HNW.out) (by simp[Value.oneCell']) (by simp only[maxLen];omega) (by omega) (by simp;omega) ?_
                     intro v9 w9 hown9 hg9 _;have HO9:=hid hown9;have HB9:=hid (show Below W5.heap.size W5 w9 from(HBX.out.alloc hsx (.cells #[.string a.name] 9)).grown hg9 (by rw[zA];omega) fun q hq=>(HGB.out q hq).2)
                     clear hown9 hg9)
        go_roundw
        case rel=>
         refine⟨j+1,by omega,by go_num,?_,HB9.out⟩;have e:parNm f (j+1)=acc++[a.name]:=by unfold parNm;rw[names_take HA.out,←HACC.out];rfl
         rw[e];unfold qw;rw[List.length_append,List.map_append];exact HO9.out
        case measure=>simp[intOf];omega
      · have hjl:j=f.params.length:=by omega
        subst hjl;have HALL:=hid (show acc++z7 f.body=allN f by rw[←HACC.out];unfold parNm allN;rw[List.take_length]);have HSX:=hid (HS.out.below (HBX.out.mono (show w3.heap.size≤W5.heap.size by omega)) Zr)
        go_upto_region 19 with(first
         | (go_at_call 14
            (with_reducible refine(LtC.call (lt_all _) HOKS.out (by omega) HSX.out (by omega)).mono ?_)
            rintro x w7 ⟨v7,rfl,hr,hb⟩;obtain⟨A9,c9,rfl⟩:=hr.form;have hz7:wx.heap.size≤w7.heap.size:=hb.size;have HO7:=hid (HO.out.keep hb);have HR7:=hid hr;have HB7:=hid (HBX.out.trans (hb.mono hsx));have HGB:=hid (jW (HO.out.keep hb))
            clear hr hb)
         | (at_builtin;refine jf rfl (.tmp 75) (.tmp 82) _ rfl W5.heap.size 9 i0 _ 1 16 Tryz.underlying41 HI0.out.1 HI0.out.2.1 HI0.out.2.2.1 HI0.out.2.2.2 rfl (by omega) (.slice A8 acc.length c8) acc.length _ rfl (by exact HO7.out) A9 (z7 f.body).length c9 ((z7 f.body).map Value.string) rfl (by rw[List.length_map,Nat.mul_one]) HR7.out.nil0 HR7.out.at (strs_one _) (by simp only[maxLen];omega) (by omega) (by omega) ?_
            intro v8 w8 hown8 hg8;have HO8:=hid (show qw W5.heap.size w8 v8 (acc++z7 f.body) from by unfold qw;rw[List.length_append,List.map_append];exact hown8);have HB8:=hid (HB7.out.grown hg8 (by omega) fun q hq=>(HGB.out q hq).2)
            clear hown8 hg8))
        rw[HALL.out]at HO8;obtain⟨all,hall⟩:∃ all,allN f=all:=⟨_,rfl⟩
        have hlen:all.length≤2000000000:=by rw[←hall,←HALL.out,List.length_append];omega
        rw[hall]at HO8;have HND2:=hid (hall ▸ HND1.out);clear hall;obtain⟨A10,c10,rfl⟩:=HO8.out.form;have hz8:W5.heap.size≤w8.heap.size:=HB8.out.size;go_wp2_with (fail)
        go_loopw [14] (fun kv wy=>∃ k nq:Nat,k≤all.length∧kv=.int .i64 k∧wy=w8.drewN nq) (fun kv _=>all.length-(intOf kv).toNat)
        case atStart=>exact⟨0,0,Nat.zero_le _,rfl,rfl⟩
        case round=>
         obtain⟨k,nq,hk,rfl,rfl⟩:=hrel;by_cases hkt:k<all.length
         · obtain⟨b,hb⟩:∃ b,all[k]? =some b:=⟨_,List.getElem?_eq_getElem hkt⟩
           obtain⟨g8,cc,hA10,hg8⟩:∃ g c,Value.slice A10 all.length c10=.slice (some ⟨g,0,none⟩) all.length c∧g<w8.heap.size:=by
            rcases HO8.out.2 with⟨_,h0⟩ | ⟨g,cap,cur,hv,_,h2,_⟩
            · omega
            · exact⟨g,cap,hv,zB h2⟩
           injection hA10 with hA10 _ hc10;subst hA10 hc10;have hb0:w8.cell? ⟨g8,k,none⟩=some (.string b):=(HO8.out.cellAt k (by omega)).trans (by rw[List.getElem?_map,hb];rfl);have HBK:=hid hb;clear hb;go_wp2_with (fail)
           go_loopw [15] (fun jv wz=>∃ j nq2:Nat,j≤k∧jv=.int .i64 j∧wz=w8.drewN nq2) (fun jv _=>k-(intOf jv).toNat)
           case atStart=>exact⟨0,nq,Nat.zero_le _,rfl,rfl⟩
           case round=>
            obtain⟨j,nq2,hj,rfl,rfl⟩:=hrel;by_cases hjk:j<k
            · obtain⟨a,ha⟩:∃ a,all[j]? =some a:=⟨_,List.getElem?_eq_getElem (by omega)⟩
              have ha0:w8.cell? ⟨g8,j,none⟩=some (.string a):=(HO8.out.cellAt j (by omega)).trans (by rw[List.getElem?_map,ha];rfl);have hne:=kj (nodup_ne HND2.out ha HBK.out hjk);clear ha;go_wp2_with (fail)
              go_quiet (fail)
              go_wp2_with (fail);go_roundw
              case rel=>exact⟨j+1,_,by omega,by go_num,rfl⟩
              case measure=>simp[intOf];omega
            · have hjl:j=k:=by omega
              subst hjl;go_wp2_with (fail);go_roundw
              case rel=>exact⟨j+1,_,by omega,by go_num,rfl⟩
              case measure=>simp[intOf];omega
         · have hkl:k=all.length:=by omega
           go_wp2_with (fail);go_roundw
           case rel=>exact⟨i+1,by omega,by go_num,bdN HB8.out _⟩
           case measure=>simp[intOf];omega
   · have hil:i=q.funcs.length:=by omega
     subst hil;obtain⟨⟨r0,r1⟩,rz⟩:=zF ((hbw.block w4.heap.size (by omega)).trans HX5.out);have hsr:w4.heap.size<wo.heap.size:=by omega
     have HBW:=hid hbw;have HSS:=hid (((HQ5.out.below hbw).mono (show w3.heap.size≤wo.heap.size by omega) Zr).same ((HG5.out.below hbw).mono (show w4.heap.size≤wo.heap.size by omega) Zr));clear hbw
     go_wp2_with (go_at_call 11;(with_reducible refine(HSS.out).mono ?_);rintro e w6 ⟨rfl,hb⟩
                  have HB6:=hid (HB5.out.trans ((HBW.out.trans (hb.mono hsz)).mono hzw))
                  clear hb)
     go_ret;exact⟨zC (by simp),HB6.out⟩
end Go.Proofs.YtfghofifjnbicaaGreatDoor
