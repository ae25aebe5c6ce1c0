import Derived.Test.YtfghofifjnbicaaGreatDoorAhZed
import Derived.Test.YtfghofifjnbicaaGreatDoorAhTreeRightL
import Derived.Test.YtfghofifjnbicaaGreatDoorAhTyGlo
set_option linter.unusedSimpArgs false
set_option linter.unusedVariables false
set_option maxRecDepth 100000
/- The contracts of the validation of package tree: lists of statements, functions, programs. -/
namespace Go.Proofs.YtfghofifjnbicaaGreatDoor
open Lib (hid)
open Go.RowKit
theorem zAg (ty:Int) (name:ByteArray) (A1 A2 A3:Option Addr) (m1 m2 m3 c1 c2 c3:Nat) (k:Int) (B:Nat) (args:List Ex) (b:Bool) (hm:args.length=m1) (hb:zZ k ty name m1 m2 m3 (yx args)=b) (w:World) (hA:qw B w (.slice A1 m1 c1) args):
 Calls Tryz.prog 103 #[.agg #[.int .i64 k,.int .i64 ty,.string name,.slice A1 m1 c1,.slice A2 m2 c2,.slice A3 m3 c3]] w fun e w'=>e=.returned (.bool b)∧Below w.heap.size w w':=
 hb ▸ rightStmt_any ty name A1 A2 A3 m1 m2 m3 c1 c2 c3 w k B args hA hm
def StsC (k:Nat):Prop:=∀ (B:Nat) (d:Int) (l:List St) (b:Bool) (v:Value) (w:World),0≤d→d+k=101→z8 l k=b→TreeTab B w→B≤w.heap.size→SlS B w v l→
 Calls Tryz.prog 89 #[v,.int .i64 d] w fun e w'=>e=.returned (.bool b)∧Below w.heap.size w w'
theorem StsC.call {k:Nat} (h:StsC k) (B:Nat) (d:Int) (l:List St) (b:Bool) (v:Value) (w:World) (h0:0≤d) (hd:d+k=101) (hb:z8 l k=b) (ht:TreeTab B w) (hB:B≤w.heap.size) (hl:SlS B w v l):
 Calls Tryz.prog 89 #[v,.int .i64 d] w fun e w'=>e=.returned (.bool b)∧Below w.heap.size w w':=h B d l b v w h0 hd hb ht hB hl
set_option maxHeartbeats 4000000 in
theorem yq (k:Nat) (ih:∀ k',k'+1=k→StsC k'):StsC k:=by
 intro B d l b v w hd0 hd hb ht hB hl;have hdu:d≤101:=by omega
 have HDD:=hid hd;clear hd;obtain⟨A,cap,rfl,hn⟩:=hl.form;have HT:=hid ht;have HL:=hid hl;have HB:=hid hb;have HI:=hid ih;clear ht hl hb ih;go_enter Tryz.func89,Tryz.ntmps89;go_wp2_with (fail)
 go_loopw [9] (fun iv wr=>∃ j:Nat,j≤l.length∧iv=.int .i64 j∧z8 (l.take j) k=true∧Below w.heap.size w wr) (fun iv _=>l.length-(intOf iv).toNat)
 case atStart=>exact⟨0,Nat.zero_le _,rfl,vW _,Below.refl _ _⟩
 case round=>
  obtain⟨j,hj,rfl,hall,hbw⟩:=hrel;have HA:=hid hall;clear hall;have hsz:=hbw.size;by_cases hlt:j<l.length
  · obtain⟨⟨k0,ty,name,args,thn,els⟩,he⟩:∃ e,l[j]? =some e:=⟨_,List.getElem?_eq_getElem hlt⟩
    have HE:=hid he;obtain⟨g,o,v,v4,v5,rfl,hg,h0,h1,h2,h3,h4,h5,hs,hs4,hs5⟩:=(HL.out.below (hbw.mono hB) Zr).cells he;obtain⟨A',cap',rfl,hn'⟩:=hs.form;obtain⟨A4,cap4,rfl,hn4⟩:=hs4.form;obtain⟨A5,cap5,rfl,hn5⟩:=hs5.form;have HS:=hid hs;have HS4:=hid hs4;have HS5:=hid hs5;have hgs:g<wr.heap.size:=by omega
    have hbB:=hbw.mono hB;have hBr:B≤wr.heap.size:=Nat.le_trans hB hsz;clear he hs hs4 hs5;rcases k with _ | k'
    · have hd1:decide ((100 :Int)<d)=true:=by have:=HDD.out;simp;omega
      have hbad:Hid (z8 l 0=false):=zV HE.out (by rw[ja];simp);go_wp2_with (fail);go_ret;exact⟨zC (by rw[←HB.out,hbad.out]),hbw.alloc hsz _⟩
    · have hd1:decide ((100 :Int)<d)=false:=by have:=HDD.out;simp;omega
      have hd2:(d+1)+(k':Int)=101:=by have:=HDD.out;omega
      have hd3:0≤d+1:=by omega
      have HD:=hid hd2;clear hd2;obtain⟨b1,hb1⟩:∃ b,zZ k0 ty name args.length thn.length els.length (yx args)=b:=⟨_,rfl⟩
      obtain⟨b2,hb2⟩:∃ b,zr args 100=b:=⟨_,rfl⟩
      obtain⟨b3,hb3⟩:∃ b,z8 thn k'=b:=⟨_,rfl⟩
      obtain⟨b4,hb4⟩:∃ b,z8 els k'=b:=⟨_,rfl⟩
      have HEX:Hid (stOK (.mk k0 ty name args thn els) (k'+1)=(b1 && b2 && b3 && b4)):=by
       unfold Hid;rw[ja,hb1,hb2,Nat.add_sub_cancel,hb3,hb4];simp
      have HB1:=hid hb1;have HB2:=hid hb2;have HB3:=hid hb3;have HB4:=hid hb4;clear hb1 hb2 hb3 hb4;cases b1
      · go_wp2_with (go_at_call 103;(with_reducible refine(zAg _ _ _ _ _ _ _ _ _ _ _ _ B args _ rfl HB1.out _ (HS.out.below (Zb.alloc hBr _) Zr)).mono ?_);rintro e w1 ⟨rfl,hx1⟩;obtain⟨hc1,hf1⟩:=zu hx1)
        go_ret;exact⟨zC (by rw[←HB.out,zV HE.out HEX.out]),(hbw.alloc hsz _).trans (hx1.mono (by simp;omega))⟩
      · cases b2
        case' true=>cases b3
        case' true.true=>cases b4
        all_goals
         go_wp2_with (first
          | (go_at_call 103;(with_reducible refine(zAg _ _ _ _ _ _ _ _ _ _ _ _ B args _ rfl HB1.out _ (HS.out.below (Zb.alloc hBr _) Zr)).mono ?_);rintro e w1 ⟨rfl,hx1⟩;obtain⟨hc1,hf1⟩:=zu hx1;have hq1:wr.heap.size<w1.heap.size:=(by have:=hx1.size;simp at this;omega);have hbx:=(hbw.alloc hsz _).trans (hx1.mono (by simp;omega));have hbr:=((Below.refl B _).alloc hBr _).trans (hx1.mono (by simp;omega)))
          | (go_at_call 104;(with_reducible refine(rightExprs_any B args _ HB2.out _ _ (HT.out.below (hbx.mono hB)) (Nat.le_trans hB hbx.size) (HS.out.below hbr Zr)).mono ?_);rintro e w2 ⟨rfl,hx2⟩;obtain⟨hc2,hf2⟩:=zu hx2;have hq2:wr.heap.size<w2.heap.size:=(by have:=hx2.size;omega);have hbx2:=hbx.trans (hx2.mono hbx.size);have hbr2:=hbr.trans (hx2.mono (Nat.le_trans hB hbx.size)))
          | (go_at_call 89;(with_reducible refine((HI.out k' rfl).call B _ thn _ _ _ hd3 HD.out HB3.out (HT.out.below (hbx2.mono hB)) (Nat.le_trans hB hbx2.size) (HS4.out.below hbr2 Zr)).mono ?_);rintro e w3 ⟨rfl,hx3⟩;obtain⟨hc3,hf3⟩:=zu hx3;have hq3:wr.heap.size<w3.heap.size:=(by have:=hx3.size;omega);have hbx3:=hbx2.trans (hx3.mono hbx2.size);have hbr3:=hbr2.trans (hx3.mono (Nat.le_trans hB hbx2.size)))
          | (go_at_call 89;(with_reducible refine((HI.out k' rfl).call B _ els _ _ _ hd3 HD.out HB4.out (HT.out.below (hbx3.mono hB)) (Nat.le_trans hB hbx3.size) (HS5.out.below hbr3 Zr)).mono ?_);rintro e w4 ⟨rfl,hx4⟩;have hbx4:=hbx3.trans (hx4.mono hbx3.size)))
        all_goals first
         | (go_ret;exact⟨zC (by rw[←HB.out,zV HE.out HEX.out]),by first | exact hbx4 | exact hbx3 | exact hbx2⟩)
         | (go_roundw
            case rel=>exact⟨j+1,by omega,by go_num,by rw[jT HE.out,HA.out,HEX.out];rfl,hbx4⟩
            case measure=>simp[intOf];omega)
  · go_wp2_with (fail)
    go_ret;refine⟨zC ?_,hbw⟩;rw[←HB.out,←HA.out,List.take_of_length_le (by omega)]
theorem vQ:∀ k,StsC k
 | 0=>yq 0 (fun _ h=>by omega)
 | k+1=>yq (k+1) (fun k' h=>by
    obtain rfl:k'=k:=by omega
    exact vQ k')
theorem rightStmts_any (B:Nat) (l:List St) (b:Bool) (hb:z8 l 100=b) (v:Value) (w:World) (ht:TreeTab B w) (hB:B≤w.heap.size) (hl:SlS B w v l):
 Calls Tryz.prog 89 #[v,.int .i64 1] w fun e w'=>e=.returned (.bool b)∧Below w.heap.size w w':=vQ 100 B 1 l b v w (by decide) (by decide) hb ht hB hl
theorem rightArray_is (a:Ar) (c:Bool) (hc:yK a=c) (w:World):Calls Tryz.prog 71 #[.agg #[.string a.name,.int .i64 a.size]] w fun e w'=>e=.returned (.bool c)∧Below w.heap.size w w':=by
 subst hc;obtain⟨b,hb⟩:∃ b,vt a.name=b:=⟨_,rfl⟩
 have HB:=hid hb;clear hb;cases b
 all_goals
  go_enter Tryz.func71,Tryz.ntmps71;go_wp2_with (go_at_call 87;(with_reducible refine(ud a.name _ HB.out _).mono ?_);rintro e w1 ⟨rfl,hb1⟩;obtain⟨hc1,hf1⟩:=zu hb1)
  all_goals go_ret
  all_goals refine⟨zC ?_,(Zb.alloc Zr _).trans (hb1.mono (by simp))⟩
  all_goals have HB':=HB.out
  all_goals go_light
  all_goals simp_all [yK]
 all_goals omega
theorem xY {α:Type} (f:α→Bool) {l:List α} {i:Nat} {x:α} (h:l[i]? =some x):(l.take (i+1)).all f=((l.take i).all f && f x):=by
 rw[List.take_add_one,h];simp
theorem kZ {α:Type} (f:α→Bool) {l:List α} {i:Nat} {x:α} (h:l[i]? =some x) (hx:f x=false):l.all f=false:=by
 rw[Bool.eq_false_iff];intro hc;rw[List.all_eq_true.1 hc x (List.mem_of_getElem? h)]at hx;cases hx
section
variable (B:Nat) (f:Fu) (A A2:Option Addr) (cap cap2:Nat) (w:World)
set_option maxHeartbeats 2000000 in
theorem rightFunc_head (h:(vt f.name && yw f.type && decide (f.params.length≤8))=false) (m m2:Nat) (hm:f.params.length=m):
 Calls Tryz.prog 72 #[.agg #[.string f.name,.int .i64 f.type,.slice A m cap,.slice A2 m2 cap2]] w fun e w'=>e=.returned (.bool false)∧Below w.heap.size w w':=by
 obtain⟨b1,hb1⟩:∃ b,vt f.name=b:=⟨_,rfl⟩
 obtain⟨b2,hb2⟩:∃ b,yw f.type=b:=⟨_,rfl⟩
 rw[hb1,hb2,hm]at h;have HB1:=hid hb1;have HB2:=hid hb2;clear hb1 hb2 hm;cases b1
 · clear h
   go_enter Tryz.func72,Tryz.ntmps72;go_wp2_with (go_at_call 87;(with_reducible refine(ud f.name _ HB1.out _).mono ?_);rintro e w1 ⟨rfl,hb1⟩;obtain⟨hc1,hf1⟩:=zu hb1);go_ret;exact⟨rfl,(Zb.alloc Zr _).trans (hb1.mono (by simp))⟩
 · cases b2
   · clear h
     go_enter Tryz.func72,Tryz.ntmps72
     go_wp2_with (first
      | (go_at_call 87;(with_reducible refine(ud f.name _ HB1.out _).mono ?_);rintro e w1 ⟨rfl,hb1⟩;obtain⟨hc1,hf1⟩:=zu hb1)
      | (go_at_call 88;(with_reducible refine(jk f.type _ HB2.out _).mono ?_);rintro e w2 ⟨rfl,rfl⟩))
     go_ret;exact⟨rfl,(Zb.alloc Zr _).trans (hb1.mono (by simp))⟩
   · have hd:decide ((8 :Int)<(m:Int))=true:=by simp at h ⊢;omega
     clear h;go_enter Tryz.func72,Tryz.ntmps72
     go_wp2_with (first
      | (go_at_call 87;(with_reducible refine(ud f.name _ HB1.out _).mono ?_);rintro e w1 ⟨rfl,hb1⟩;obtain⟨hc1,hf1⟩:=zu hb1)
      | (go_at_call 88;(with_reducible refine(jk f.type _ HB2.out _).mono ?_);rintro e w2 ⟨rfl,rfl⟩))
     all_goals first
      | (exfalso;omega)
      | (go_ret;exact⟨rfl,(Zb.alloc Zr _).trans (hb1.mono (by simp))⟩)
set_option maxHeartbeats 2000000 in
theorem rightFunc_body (ht:TreeTab B w) (hB:B≤w.heap.size) (hp:SlP B w (.slice A f.params.length cap) f.params) (hs:SlS B w (.slice A2 f.body.length cap2) f.body)
 (h:(vt f.name && yw f.type && decide (f.params.length≤8))=true) (c:Bool) (hc:(f.params.all y6 && z8 f.body 100)=c):
 Calls Tryz.prog 72 #[.agg #[.string f.name,.int .i64 f.type,.slice A f.params.length cap,.slice A2 f.body.length cap2]] w fun e w'=>e=.returned (.bool c)∧Below w.heap.size w w':=by
 simp only[Bool.and_eq_true,decide_eq_true_eq]at h;obtain⟨⟨h1,h2⟩,h3⟩:=h;have HB1:=hid h1;have HB2:=hid h2;have HT:=hid ht;have HP:=hid hp;have HS:=hid hs;have HC:=hid hc;clear h1 h2 ht hp hs hc;go_enter Tryz.func72,Tryz.ntmps72
 go_wp2_with (first
  | (go_at_call 87;(with_reducible refine(ud f.name _ HB1.out _).mono ?_);rintro e w1 ⟨rfl,hb1⟩;obtain⟨hc1,hf1⟩:=zu hb1)
  | (go_at_call 88;(with_reducible refine(jk f.type _ HB2.out _).mono ?_);rintro e w2 ⟨rfl,rfl⟩))
 have hq1:w.heap.size<w1.heap.size:=by have:=hb1.size;simp at this;omega
 have hw1:Below w.heap.size w w1:=(Zb.alloc Zr _).trans (hb1.mono (by simp))
 have hk:∀ i,w1.cell? ⟨w.heap.size,i,none⟩=(#[.string f.name,.int .i64 f.type,.slice A f.params.length cap,.slice A2 f.body.length cap2]:Array Value)[i]?:=fun i=>by
  rw[hc1 _ _ (by simp)];exact Lib.cell_of_heap (heap_alloc_new w _) i
 have HK:=hid hk;have k3:w1.cell? ⟨w.heap.size,3,none⟩=some (.slice A2 f.body.length cap2):=by rw[HK.out];rfl
 clear hc1 hf1 hk
 go_loopw [24] (fun iv wr=>∃ j:Nat,j≤f.params.length∧iv=.int .i64 j∧(f.params.take j).all y6=true∧Below w1.heap.size w1 wr) (fun iv _=>f.params.length-(intOf iv).toNat)
 case atStart=>exact⟨0,Nat.zero_le _,rfl,rfl,Below.refl _ _⟩
 case round=>
  obtain⟨j,hj,rfl,hall,hbw⟩:=hrel;have HA:=hid hall;clear hall;have hsz:=hbw.size;have hwr:Below w.heap.size w wr:=hw1.trans (hbw.mono (by omega));have k3':wr.cell? ⟨w.heap.size,3,none⟩=some (.slice A2 f.body.length cap2):=(hbw.cell (p:=⟨w.heap.size,3,none⟩) hq1).trans k3;have hqr:w.heap.size<wr.heap.size:=by omega
  have hBr:B≤wr.heap.size:=by omega
  by_cases hlt:j<f.params.length
  · obtain⟨x,hx⟩:∃ e,f.params[j]? =some e:=⟨_,List.getElem?_eq_getElem hlt⟩
    obtain⟨g,o,rfl,hg,q0,q1⟩:=(HP.out.below (hwr.mono hB) Zr).cells hx;have HX:=hid hx;have hgs:g<wr.heap.size:=by omega
    obtain⟨b1,hb1'⟩:∃ b,vt x.name=b:=⟨_,rfl⟩
    obtain⟨b2,hb2'⟩:∃ b,yw x.type=b:=⟨_,rfl⟩
    have HPO:Hid (y6 x=(b1 && b2)):=by unfold Hid y6;rw[hb1',hb2']
    have HN:=hid hb1';have HY:=hid hb2';clear hx hb1' hb2';cases b1
    case' true=>cases b2
    all_goals
     go_wp2_with (first
      | (go_at_call 87;(with_reducible refine(ud x.name _ HN.out _).mono ?_);rintro e w2 ⟨rfl,hx2⟩;obtain⟨hc2,hf2⟩:=zu hx2)
      | (go_at_call 88;(with_reducible refine(jk x.type _ HY.out _).mono ?_);rintro e w3 ⟨rfl,rfl⟩))
    all_goals first
     | (go_ret;exact⟨zC (by rw[←HC.out,kZ y6 HX.out HPO.out];rfl),(hwr.alloc (by omega) _).trans (hx2.mono (by simp;omega))⟩)
     | (go_roundw
        case rel=>exact⟨j+1,by omega,by go_num,by rw[xY y6 HX.out,HA.out,HPO.out];rfl,(hbw.alloc hsz _).trans (hx2.mono (by simp;omega))⟩
        case measure=>simp[intOf];omega)
  · have hall':Hid (f.params.all y6=true):=by unfold Hid;rw[←HA.out,List.take_of_length_le (by omega)]
    obtain⟨b3,hb3⟩:∃ b,z8 f.body 100=b:=⟨_,rfl⟩
    have H3:=hid hb3;clear hb3;go_wp2_with (go_at_call 89;(with_reducible refine(rightStmts_any B f.body _ H3.out _ _ (HT.out.below (hwr.mono hB)) hBr (HS.out.below (hwr.mono hB) Zr)).mono ?_);rintro e w2 ⟨rfl,hx2⟩);go_ret;exact⟨zC (by rw[←HC.out,hall'.out,H3.out];simp),hwr.trans (hx2.mono (by omega))⟩
theorem rightFunc_is (ht:TreeTab B w) (hB:B≤w.heap.size) (hp:SlP B w (.slice A f.params.length cap) f.params) (hs:SlS B w (.slice A2 f.body.length cap2) f.body) (c:Bool) (hc:k8 f=c):
 Calls Tryz.prog 72 #[.agg #[.string f.name,.int .i64 f.type,.slice A f.params.length cap,.slice A2 f.body.length cap2]] w fun e w'=>e=.returned (.bool c)∧Below w.heap.size w w':=by
 cases h:(vt f.name && yw f.type && decide (f.params.length≤8)) with
 | false=>
   have:c=false:=by rw[←hc];unfold k8;rw[h];simp
   subst this;exact rightFunc_head f A A2 cap cap2 w h _ _ rfl
 | true=>
   refine rightFunc_body B f A A2 cap cap2 w ht hB hp hs h c ?_;rw[←hc];unfold k8;rw[h];simp
end
set_option maxHeartbeats 2000000 in
theorem yY (B:Nat) (p:Pr) (c:Bool) (hc:prOK p=c) (v v':Value) (w:World) (ht:TreeTab B w) (hB:B≤w.heap.size) (ha:SlA B w v p.arrays) (hf:SlF B w v' p.funcs):
 Calls Tryz.prog 48 #[.agg #[v,v']] w fun e w'=>e=.returned (.bool c)∧Below w.heap.size w w':=by
 obtain⟨A,cap,rfl,hn⟩:=ha.form;obtain⟨A2,cap2,rfl,hn2⟩:=hf.form;have HT:=hid ht;have HA:=hid ha;have HF:=hid hf;have HC:=hid hc;clear ht ha hf hc;go_enter Tryz.func48,Tryz.ntmps48;go_wp2_with (fail)
 go_loopw [10] (fun iv wr=>∃ j:Nat,j≤p.arrays.length∧iv=.int .i64 j∧(p.arrays.take j).all yK=true∧Below (w.heap.size+1) (w.alloc (.cells #[.slice A p.arrays.length cap,.slice A2 p.funcs.length cap2] 26)) wr) (fun iv _=>p.arrays.length-(intOf iv).toNat)
 case atStart=>exact⟨0,Nat.zero_le _,rfl,rfl,Below.refl _ _⟩
 case round=>
  obtain⟨j,hj,rfl,hall,hbw⟩:=hrel;have HAL:=hid hall;clear hall;have hsz:w.heap.size+1≤wr.heap.size:=by have:=hbw.size;simpa using this
  have hwr:Below w.heap.size w wr:=(Zb.alloc Zr _).trans (hbw.mono (by omega));have hBr:B≤wr.heap.size:=by omega
  by_cases hlt:j<p.arrays.length
  · obtain⟨x,hx⟩:∃ e,p.arrays[j]? =some e:=⟨_,List.getElem?_eq_getElem hlt⟩
    obtain⟨g,o,rfl,hg,q0,q1⟩:=(HA.out.below (hwr.mono hB) Zr).cells hx;have HX:=hid hx;have hgs:g<wr.heap.size:=by omega
    obtain⟨b1,hb1⟩:∃ b,yK x=b:=⟨_,rfl⟩
    have HN:=hid hb1;clear hx hb1;cases b1
    all_goals
     go_wp2_with (go_at_call 71;(with_reducible refine(rightArray_is x _ HN.out _).mono ?_);rintro e w2 ⟨rfl,hx2⟩)
    · go_ret
      exact⟨zC (by rw[←HC.out];unfold prOK;rw[kZ yK HX.out HN.out];rfl),(hwr.alloc (by omega) _).trans (hx2.mono (by simp;omega))⟩
    · go_roundw
      case rel=>exact⟨j+1,by omega,by go_num,by rw[xY yK HX.out,HAL.out,HN.out];rfl,(hbw.alloc hsz _).trans (hx2.mono (by simp;omega))⟩
      case measure=>simp[intOf];omega
  · have HAA:Hid (p.arrays.all yK=true):=by unfold Hid;rw[←HAL.out,List.take_of_length_le (by omega)]
    have k1:wr.cell? ⟨w.heap.size,1,none⟩=some (.slice A2 p.funcs.length cap2):=(hbw.cell (p:=⟨w.heap.size,1,none⟩) (by simp)).trans (by simp);have hq:w.heap.size<wr.heap.size:=by omega
    go_wp2_with (fail)
    go_loopw [21] (fun iv wr'=>∃ j:Nat,j≤p.funcs.length∧iv=.int .i64 j∧(p.funcs.take j).all k8=true∧Below (w.heap.size+1) (w.alloc (.cells #[.slice A p.arrays.length cap,.slice A2 p.funcs.length cap2] 26)) wr') (fun iv _=>p.funcs.length-(intOf iv).toNat)
    case atStart=>exact⟨0,Nat.zero_le _,rfl,rfl,hbw⟩
    case round=>
     obtain⟨j2,hj2,rfl,hall2,hbw2⟩:=hrel;have HAL2:=hid hall2;clear hall2;have hsz2:w.heap.size+1≤wr.heap.size:=by have:=hbw2.size;simpa using this
     have hw2:Below w.heap.size w wr:=(Zb.alloc Zr _).trans (hbw2.mono (by omega));have hB2:B≤wr.heap.size:=by omega
     by_cases hlt2:j2<p.funcs.length
     · obtain⟨x,hx⟩:∃ e,p.funcs[j2]? =some e:=⟨_,List.getElem?_eq_getElem hlt2⟩
       obtain⟨g,o,v1,v2,rfl,hg,q0,q1,q2,q3,hp,hb⟩:=(HF.out.below (hw2.mono hB) Zr).cells hx;obtain⟨A3,cap3,rfl,_⟩:=hp.form;obtain⟨A4,cap4,rfl,_⟩:=hb.form;have HX:=hid hx;have HP:=hid hp;have HS:=hid hb;have hgs:g<wr.heap.size:=by omega
       obtain⟨b1,hb1⟩:∃ b,k8 x=b:=⟨_,rfl⟩
       have HN:=hid hb1;clear hx hb1 hp hb;cases b1
       all_goals
        go_wp2_with (go_at_call 72;(with_reducible refine(rightFunc_is B x _ _ _ _ _ (HT.out.below ((hw2.alloc (by omega) _).mono hB)) (by simp;omega) (HP.out.below (Zb.alloc hB2 _) Zr) (HS.out.below (Zb.alloc hB2 _) Zr) _ HN.out).mono ?_);rintro e w2 ⟨rfl,hx2⟩)
       · go_ret
         exact⟨zC (by rw[←HC.out];unfold prOK;rw[kZ k8 HX.out HN.out];simp),(hw2.alloc (by omega) _).trans (hx2.mono (by simp;omega))⟩
       · go_roundw
         case rel=>exact⟨j2+1,by omega,by go_num,by rw[xY k8 HX.out,HAL2.out,HN.out];rfl,(hbw2.alloc hsz2 _).trans (hx2.mono (by simp;omega))⟩
         case measure=>simp[intOf];omega
     · have HFF:Hid (p.funcs.all k8=true):=by unfold Hid;rw[←HAL2.out,List.take_of_length_le (by omega)]
       go_wp2_with (fail);go_ret;exact⟨zC (by rw[←HC.out];unfold prOK;rw[HAA.out,HFF.out];rfl),hw2⟩
abbrev uX (a b:Int):Obj:=.cells #[.int .i64 a,.int .i64 b] 38
def ChkPost (w:World) (R:Int × Nat × Nat) (e:Ending) (w':World):Prop:=
 e=.returned (.tuple #[.int .i64 R.1,.agg #[.int .i64 (R.2.1:Int),.int .i64 (W64 R.2.2)]])∧Below w.heap.size w w'
theorem chkFs_cons {p:Pr} {f:Fu} {r:List Fu} {i:Nat}:yM p (f :: r) i=if (xM p f).1≠0 then ((xM p f).1,i,(xM p f).2) else yM p r (i+1):=by rw[yM]
set_option maxHeartbeats 4000000 in
theorem check_any (B:Nat) (p:Pr) (R:Int × Nat × Nat) (v0 v1:Value) (w:World) (ht:TreeTab B w) (hB:B≤w.heap.size) (ha:SlA B w v0 p.arrays) (hf:SlF B w v1 p.funcs) (hsz:Sized p) (hn1:p.arrays.length≤1000000) (hn2:p.funcs.length≤1000000) (hR:uJ p=R):
 Calls Tryz.prog 19 #[.agg #[v0,v1]] w (ChkPost w R):=by
 obtain⟨A0,c0,rfl,_⟩:=ha.form;obtain⟨A1,c1,rfl,_⟩:=hf.form;have hw2:Below w.heap.size w ((w.alloc (pgO A0 p.arrays.length c0 A1 p.funcs.length c1)).alloc (uX 0 0)):=(Zb.alloc Zr _).alloc (by simp) _;have HW2:=hid hw2;have HX0:=hid (show ((w.alloc (pgO A0 p.arrays.length c0 A1 p.funcs.length c1)).alloc (uX 0 0)).heap[w.heap.size]? =some (pgO A0 p.arrays.length c0 A1 p.funcs.length c1) from(Below.heap_alloc _ _ _ (by simp)).trans (heap_alloc_new w _));have HX1:=hid (show ((w.alloc (pgO A0 p.arrays.length c0 A1 p.funcs.length c1)).alloc (uX 0 0)).heap[w.heap.size+1]? =some (uX 0 0) from by simpa using heap_alloc_new (w.alloc (pgO A0 p.arrays.length c0 A1 p.funcs.length c1)) (uX 0 0));have HT:=hid (ht.below (hw2.mono hB));have HA:=hid ha;have HF:=hid hf;have HR:=hid hR;have HSZ:=hid hsz;obtain⟨ok,hok⟩:∃ b,prOK p=b:=⟨_,rfl⟩
 have HOK:=hid hok;clear ha hf hR ht hsz hw2 hok;cases ok
 case false=>
  go_enter Tryz.func19,Tryz.ntmps19
  go_wp2_with (go_at_call 48;(with_reducible refine(yY B p _ HOK.out _ _ _ HT.out (by simp;omega) (HA.out.below (HW2.out.mono hB) Zr) (HF.out.below (HW2.out.mono hB) Zr)).mono ?_);rintro e w3 ⟨rfl,hb3⟩
               have hx1:=(hb3.block (w.heap.size+1) (by simp)).trans HX1.out;obtain⟨⟨x0,x1⟩,xz⟩:=zE hx1;have hs3:w.heap.size+1<w3.heap.size:=zB hx1;have HX3:=hid hx1;have HW3:=hid (show Below w.heap.size w w3 from HW2.out.trans (hb3.mono (by simp;omega)))
               clear hb3 hx1)
  obtain⟨f0,f1⟩:=qg HX3.out (.int .i64 0) (.int .i64 0);refine bodyPost_ret (v:=.tuple #[.int .i64 1,.agg #[.int .i64 0,.int .i64 0]]) (by simp[results,Tryz.results19,go_sem,f0,f1]) rfl ?_;have hrr:=HR.out;unfold uJ at hrr;rw[if_pos HOK.out]at hrr;subst hrr;exact⟨rfl,zm HW3.out (by omega) _ _⟩
 case true=>
  obtain⟨d,hd⟩:∃ b,(yy p p.arrays || vu p.funcs)=b:=⟨_,rfl⟩
  obtain⟨st,hst⟩:∃ b,xH p=b:=⟨_,rfl⟩
  obtain⟨nms,hnm⟩:∃ l,p.arrays.map (·.name)++p.funcs.map (·.name)=l:=⟨_,rfl⟩
  have HNM:=hid hnm;have HD:=hid (show nod nms= !d by rw[←hnm,nod_globals,hd]);have HST:=hid hst;have HCP:=hid (show uJ p=if (d || !st)=true then (50,0,0) else yM p p.funcs 0 by unfold uJ;rw[if_neg (by rw[HOK.out];decide),hd,hst])
  have HZ:=hid (show ∀ s ∈ nms,s.size≤maxLen from fun s hs=>by
   rw[←hnm]at hs;rcases List.mem_append.1 hs with hs | hs
   · obtain⟨x,hx,rfl⟩:=List.mem_map.1 hs
     exact HSZ.out.1 x hx
   · obtain⟨x,hx,rfl⟩:=List.mem_map.1 hs
     exact(HSZ.out.2 x hx).1)
  clear hd hst hnm;have hbad:d=true∨st=false∨(d=false∧st=true):=by cases d <;> cases st <;> simp
  rcases hbad with rfl | rfl | ⟨rfl,rfl⟩
  case inl=>
   go_enter Tryz.func19,Tryz.ntmps19
   go_wp2_with (first
    | (go_at_call 48;(with_reducible refine(yY B p _ HOK.out _ _ _ HT.out (by simp;omega) (HA.out.below (HW2.out.mono hB) Zr) (HF.out.below (HW2.out.mono hB) Zr)).mono ?_);rintro e w3 ⟨rfl,hb3⟩
       have hx0:=(hb3.block w.heap.size (by simp;omega)).trans HX0.out;have hx1:=(hb3.block (w.heap.size+1) (by simp)).trans HX1.out;obtain⟨⟨p0,p1⟩,pz⟩:=zE hx0;obtain⟨⟨x0,x1⟩,xz⟩:=zE hx1;have hs3:w.heap.size+1<w3.heap.size:=zB hx1;have ht3:w.heap.size<w3.heap.size:=zB hx0;have hw3:Below w.heap.size w w3:=HW2.out.trans (hb3.mono (by simp;omega));have HP3:=hid hx0;have HX3:=hid hx1;have HA3:=hid (HA.out.below (hw3.mono hB) Zr);have HF3:=hid (HF.out.below (hw3.mono hB) Zr);have hB3:B≤w3.heap.size:=by omega
       have HW3:=hid hw3
       clear hb3 hx0 hx1 hw3)
    | (go_at_call 50;(with_reducible refine(xv B p _ _ _ hB3 HA3.out HF3.out hn1 hn2).mono ?_);rintro e w4 ⟨vn,rfl,hn4,hb4⟩
       rw[HNM.out]at hn4;obtain⟨An,cn,rfl,_⟩:=hn4.form;have HN4:=hid hn4;have hx0:=(hb4.block w.heap.size ht3).trans HP3.out;have hx1:=(hb4.block (w.heap.size+1) hs3).trans HX3.out;obtain⟨⟨p0,p1⟩,pz⟩:=zE hx0;obtain⟨⟨x0,x1⟩,xz⟩:=zE hx1;have hs4:w.heap.size+1<w4.heap.size:=zB hx1;have ht4:w.heap.size<w4.heap.size:=zB hx0;have hw4:Below w.heap.size w w4:=HW3.out.trans (hb4.mono (by omega));have HP4:=hid hx0;have HX4:=hid hx1;have HA4:=hid (HA.out.below (hw4.mono hB) Zr);have HF4:=hid (HF.out.below (hw4.mono hB) Zr);have hB4:B≤w4.heap.size:=by omega
       have HW4:=hid hw4
       clear hb4 hx0 hx1 hw4 hn4)
    | (go_at_call 49;(with_reducible refine(jU w4.heap.size _ _ _ _ Zr HN4.out HZ.out HD.out).mono ?_);rintro e w5 ⟨rfl,hb5⟩
       have hx0:=(hb5.block w.heap.size ht4).trans HP4.out;have hx1:=(hb5.block (w.heap.size+1) hs4).trans HX4.out;obtain⟨⟨p0,p1⟩,pz⟩:=zE hx0;obtain⟨⟨x0,x1⟩,xz⟩:=zE hx1;have hs5:w.heap.size+1<w5.heap.size:=zB hx1;have ht5:w.heap.size<w5.heap.size:=zB hx0;have hw5:Below w.heap.size w w5:=HW4.out.trans (hb5.mono (by omega));have HP5:=hid hx0;have HX5:=hid hx1;have HA5:=hid (HA.out.below (hw5.mono hB) Zr);have HF5:=hid (HF.out.below (hw5.mono hB) Zr);have hB5:B≤w5.heap.size:=by omega
       have HW5:=hid hw5
       clear hb5 hx0 hx1 hw5))
   obtain⟨f0,f1⟩:=qg HX5.out (.int .i64 0) (.int .i64 0);refine bodyPost_ret (v:=.tuple #[.int .i64 50,.agg #[.int .i64 0,.int .i64 0]]) (by simp[results,Tryz.results19,go_sem,f0,f1]) rfl ?_;have hrr:=HCP.out;rw[HR.out,Bool.true_or,if_pos rfl]at hrr;subst hrr;exact⟨rfl,zm HW5.out (by omega) _ _⟩
  case inr.inl=>
   cases d
   case true=>
    go_enter Tryz.func19,Tryz.ntmps19
    go_wp2_with (first
     | (go_at_call 48;(with_reducible refine(yY B p _ HOK.out _ _ _ HT.out (by simp;omega) (HA.out.below (HW2.out.mono hB) Zr) (HF.out.below (HW2.out.mono hB) Zr)).mono ?_);rintro e w3 ⟨rfl,hb3⟩
        have hx0:=(hb3.block w.heap.size (by simp;omega)).trans HX0.out;have hx1:=(hb3.block (w.heap.size+1) (by simp)).trans HX1.out;obtain⟨⟨p0,p1⟩,pz⟩:=zE hx0;obtain⟨⟨x0,x1⟩,xz⟩:=zE hx1;have hs3:w.heap.size+1<w3.heap.size:=zB hx1;have ht3:w.heap.size<w3.heap.size:=zB hx0;have hw3:Below w.heap.size w w3:=HW2.out.trans (hb3.mono (by simp;omega));have HP3:=hid hx0;have HX3:=hid hx1;have HA3:=hid (HA.out.below (hw3.mono hB) Zr);have HF3:=hid (HF.out.below (hw3.mono hB) Zr);have hB3:B≤w3.heap.size:=by omega
        have HW3:=hid hw3
        clear hb3 hx0 hx1 hw3)
     | (go_at_call 50;(with_reducible refine(xv B p _ _ _ hB3 HA3.out HF3.out hn1 hn2).mono ?_);rintro e w4 ⟨vn,rfl,hn4,hb4⟩
        rw[HNM.out]at hn4;obtain⟨An,cn,rfl,_⟩:=hn4.form;have HN4:=hid hn4;have hx0:=(hb4.block w.heap.size ht3).trans HP3.out;have hx1:=(hb4.block (w.heap.size+1) hs3).trans HX3.out;obtain⟨⟨p0,p1⟩,pz⟩:=zE hx0;obtain⟨⟨x0,x1⟩,xz⟩:=zE hx1;have hs4:w.heap.size+1<w4.heap.size:=zB hx1;have ht4:w.heap.size<w4.heap.size:=zB hx0;have hw4:Below w.heap.size w w4:=HW3.out.trans (hb4.mono (by omega));have HP4:=hid hx0;have HX4:=hid hx1;have HA4:=hid (HA.out.below (hw4.mono hB) Zr);have HF4:=hid (HF.out.below (hw4.mono hB) Zr);have hB4:B≤w4.heap.size:=by omega
        have HW4:=hid hw4
        clear hb4 hx0 hx1 hw4 hn4)
     | (go_at_call 49;(with_reducible refine(jU w4.heap.size _ _ _ _ Zr HN4.out HZ.out HD.out).mono ?_);rintro e w5 ⟨rfl,hb5⟩
        have hx0:=(hb5.block w.heap.size ht4).trans HP4.out;have hx1:=(hb5.block (w.heap.size+1) hs4).trans HX4.out;obtain⟨⟨p0,p1⟩,pz⟩:=zE hx0;obtain⟨⟨x0,x1⟩,xz⟩:=zE hx1;have hs5:w.heap.size+1<w5.heap.size:=zB hx1;have ht5:w.heap.size<w5.heap.size:=zB hx0;have hw5:Below w.heap.size w w5:=HW4.out.trans (hb5.mono (by omega));have HP5:=hid hx0;have HX5:=hid hx1;have HA5:=hid (HA.out.below (hw5.mono hB) Zr);have HF5:=hid (HF.out.below (hw5.mono hB) Zr);have hB5:B≤w5.heap.size:=by omega
        have HW5:=hid hw5
        clear hb5 hx0 hx1 hw5))
    obtain⟨f0,f1⟩:=qg HX5.out (.int .i64 0) (.int .i64 0);refine bodyPost_ret (v:=.tuple #[.int .i64 50,.agg #[.int .i64 0,.int .i64 0]]) (by simp[results,Tryz.results19,go_sem,f0,f1]) rfl ?_;have hrr:=HCP.out;rw[HR.out,Bool.true_or,if_pos rfl]at hrr;subst hrr;exact⟨rfl,zm HW5.out (by omega) _ _⟩
   case false=>
    go_enter Tryz.func19,Tryz.ntmps19
    go_wp2_with (first
     | (go_at_call 48;(with_reducible refine(yY B p _ HOK.out _ _ _ HT.out (by simp;omega) (HA.out.below (HW2.out.mono hB) Zr) (HF.out.below (HW2.out.mono hB) Zr)).mono ?_);rintro e w3 ⟨rfl,hb3⟩
        have hx0:=(hb3.block w.heap.size (by simp;omega)).trans HX0.out;have hx1:=(hb3.block (w.heap.size+1) (by simp)).trans HX1.out;obtain⟨⟨p0,p1⟩,pz⟩:=zE hx0;obtain⟨⟨x0,x1⟩,xz⟩:=zE hx1;have hs3:w.heap.size+1<w3.heap.size:=zB hx1;have ht3:w.heap.size<w3.heap.size:=zB hx0;have hw3:Below w.heap.size w w3:=HW2.out.trans (hb3.mono (by simp;omega));have HP3:=hid hx0;have HX3:=hid hx1;have HA3:=hid (HA.out.below (hw3.mono hB) Zr);have HF3:=hid (HF.out.below (hw3.mono hB) Zr);have hB3:B≤w3.heap.size:=by omega
        have HW3:=hid hw3
        clear hb3 hx0 hx1 hw3)
     | (go_at_call 50;(with_reducible refine(xv B p _ _ _ hB3 HA3.out HF3.out hn1 hn2).mono ?_);rintro e w4 ⟨vn,rfl,hn4,hb4⟩
        rw[HNM.out]at hn4;obtain⟨An,cn,rfl,_⟩:=hn4.form;have HN4:=hid hn4;have hx0:=(hb4.block w.heap.size ht3).trans HP3.out;have hx1:=(hb4.block (w.heap.size+1) hs3).trans HX3.out;obtain⟨⟨p0,p1⟩,pz⟩:=zE hx0;obtain⟨⟨x0,x1⟩,xz⟩:=zE hx1;have hs4:w.heap.size+1<w4.heap.size:=zB hx1;have ht4:w.heap.size<w4.heap.size:=zB hx0;have hw4:Below w.heap.size w w4:=HW3.out.trans (hb4.mono (by omega));have HP4:=hid hx0;have HX4:=hid hx1;have HA4:=hid (HA.out.below (hw4.mono hB) Zr);have HF4:=hid (HF.out.below (hw4.mono hB) Zr);have hB4:B≤w4.heap.size:=by omega
        have HW4:=hid hw4
        clear hb4 hx0 hx1 hw4 hn4)
     | (go_at_call 49;(with_reducible refine(jU w4.heap.size _ _ _ _ Zr HN4.out HZ.out HD.out).mono ?_);rintro e w5 ⟨rfl,hb5⟩
        have hx0:=(hb5.block w.heap.size ht4).trans HP4.out;have hx1:=(hb5.block (w.heap.size+1) hs4).trans HX4.out;obtain⟨⟨p0,p1⟩,pz⟩:=zE hx0;obtain⟨⟨x0,x1⟩,xz⟩:=zE hx1;have hs5:w.heap.size+1<w5.heap.size:=zB hx1;have ht5:w.heap.size<w5.heap.size:=zB hx0;have hw5:Below w.heap.size w w5:=HW4.out.trans (hb5.mono (by omega));have HP5:=hid hx0;have HX5:=hid hx1;have HA5:=hid (HA.out.below (hw5.mono hB) Zr);have HF5:=hid (HF.out.below (hw5.mono hB) Zr);have hB5:B≤w5.heap.size:=by omega
        have HW5:=hid hw5
        clear hb5 hx0 hx1 hw5)
     | (go_at_call 51;(with_reducible refine(uF B p _ _ _ _ hB5 HA5.out HF5.out HST.out).mono ?_);rintro e w6 ⟨rfl,hb6⟩
        have hx0:=(hb6.block w.heap.size ht5).trans HP5.out;have hx1:=(hb6.block (w.heap.size+1) hs5).trans HX5.out;obtain⟨⟨p0,p1⟩,pz⟩:=zE hx0;obtain⟨⟨x0,x1⟩,xz⟩:=zE hx1;have hs6:w.heap.size+1<w6.heap.size:=zB hx1;have ht6:w.heap.size<w6.heap.size:=zB hx0;have hw6:Below w.heap.size w w6:=HW5.out.trans (hb6.mono (by omega));have HP6:=hid hx0;have HX6:=hid hx1;have HA6:=hid (HA.out.below (hw6.mono hB) Zr);have HF6:=hid (HF.out.below (hw6.mono hB) Zr);have hB6:B≤w6.heap.size:=by omega
        have HW6:=hid hw6
        clear hb6 hx0 hx1 hw6))
    obtain⟨f0,f1⟩:=qg HX6.out (.int .i64 0) (.int .i64 0);refine bodyPost_ret (v:=.tuple #[.int .i64 50,.agg #[.int .i64 0,.int .i64 0]]) (by simp[results,Tryz.results19,go_sem,f0,f1]) rfl ?_;have hrr:=HCP.out;rw[HR.out,Bool.false_or,Bool.not_false,if_pos rfl]at hrr;subst hrr;exact⟨rfl,zm HW6.out (by omega) _ _⟩
  case inr.inr=>
   go_enter Tryz.func19,Tryz.ntmps19
   go_wp2_with (first
    | (go_at_call 48;(with_reducible refine(yY B p _ HOK.out _ _ _ HT.out (by simp;omega) (HA.out.below (HW2.out.mono hB) Zr) (HF.out.below (HW2.out.mono hB) Zr)).mono ?_);rintro e w3 ⟨rfl,hb3⟩
       have hx0:=(hb3.block w.heap.size (by simp;omega)).trans HX0.out;have hx1:=(hb3.block (w.heap.size+1) (by simp)).trans HX1.out;obtain⟨⟨p0,p1⟩,pz⟩:=zE hx0;obtain⟨⟨x0,x1⟩,xz⟩:=zE hx1;have hs3:w.heap.size+1<w3.heap.size:=zB hx1;have ht3:w.heap.size<w3.heap.size:=zB hx0;have hw3:Below w.heap.size w w3:=HW2.out.trans (hb3.mono (by simp;omega));have HP3:=hid hx0;have HX3:=hid hx1;have HA3:=hid (HA.out.below (hw3.mono hB) Zr);have HF3:=hid (HF.out.below (hw3.mono hB) Zr);have hB3:B≤w3.heap.size:=by omega
       have HW3:=hid hw3
       clear hb3 hx0 hx1 hw3)
    | (go_at_call 50;(with_reducible refine(xv B p _ _ _ hB3 HA3.out HF3.out hn1 hn2).mono ?_);rintro e w4 ⟨vn,rfl,hn4,hb4⟩
       rw[HNM.out]at hn4;obtain⟨An,cn,rfl,_⟩:=hn4.form;have HN4:=hid hn4;have hx0:=(hb4.block w.heap.size ht3).trans HP3.out;have hx1:=(hb4.block (w.heap.size+1) hs3).trans HX3.out;obtain⟨⟨p0,p1⟩,pz⟩:=zE hx0;obtain⟨⟨x0,x1⟩,xz⟩:=zE hx1;have hs4:w.heap.size+1<w4.heap.size:=zB hx1;have ht4:w.heap.size<w4.heap.size:=zB hx0;have hw4:Below w.heap.size w w4:=HW3.out.trans (hb4.mono (by omega));have HP4:=hid hx0;have HX4:=hid hx1;have HA4:=hid (HA.out.below (hw4.mono hB) Zr);have HF4:=hid (HF.out.below (hw4.mono hB) Zr);have hB4:B≤w4.heap.size:=by omega
       have HW4:=hid hw4
       clear hb4 hx0 hx1 hw4 hn4)
    | (go_at_call 49;(with_reducible refine(jU w4.heap.size _ _ _ _ Zr HN4.out HZ.out HD.out).mono ?_);rintro e w5 ⟨rfl,hb5⟩
       have hx0:=(hb5.block w.heap.size ht4).trans HP4.out;have hx1:=(hb5.block (w.heap.size+1) hs4).trans HX4.out;obtain⟨⟨p0,p1⟩,pz⟩:=zE hx0;obtain⟨⟨x0,x1⟩,xz⟩:=zE hx1;have hs5:w.heap.size+1<w5.heap.size:=zB hx1;have ht5:w.heap.size<w5.heap.size:=zB hx0;have hw5:Below w.heap.size w w5:=HW4.out.trans (hb5.mono (by omega));have HP5:=hid hx0;have HX5:=hid hx1;have HA5:=hid (HA.out.below (hw5.mono hB) Zr);have HF5:=hid (HF.out.below (hw5.mono hB) Zr);have hB5:B≤w5.heap.size:=by omega
       have HW5:=hid hw5
       clear hb5 hx0 hx1 hw5)
    | (go_at_call 51;(with_reducible refine(uF B p _ _ _ _ hB5 HA5.out HF5.out HST.out).mono ?_);rintro e w6 ⟨rfl,hb6⟩
       have hx0:=(hb6.block w.heap.size ht5).trans HP5.out;have hx1:=(hb6.block (w.heap.size+1) hs5).trans HX5.out;obtain⟨⟨p0,p1⟩,pz⟩:=zE hx0;obtain⟨⟨x0,x1⟩,xz⟩:=zE hx1;have hs6:w.heap.size+1<w6.heap.size:=zB hx1;have ht6:w.heap.size<w6.heap.size:=zB hx0;have hw6:Below w.heap.size w w6:=HW5.out.trans (hb6.mono (by omega));have HP6:=hid hx0;have HX6:=hid hx1;have HA6:=hid (HA.out.below (hw6.mono hB) Zr);have HF6:=hid (HF.out.below (hw6.mono hB) Zr);have hB6:B≤w6.heap.size:=by omega
       have HW6:=hid hw6
       clear hb6 hx0 hx1 hw6))
   go_loopw [25] (fun iv wr=>∃ j:Nat,j≤p.funcs.length∧iv=.int .i64 j∧yM p (p.funcs.drop j) j=R∧Below w6.heap.size w6 wr) (fun iv _=>p.funcs.length-(intOf iv).toNat)
   case atStart=>exact⟨0,Nat.zero_le _,rfl,by have:=HCP.out;rw[HR.out]at this;exact this.symm,Below.refl _ _⟩
   case round=>
    obtain⟨j,hj,rfl,hT,hbw⟩:=hrel;have hT':=hid hT;have HBW:=hid hbw;have hsr:=hbw.size;have hwr:Below w.heap.size w wr:=HW6.out.trans (hbw.mono (by omega));have HWR:=hid hwr;have hxr:=(hbw.block (w.heap.size+1) hs6).trans HX6.out;obtain⟨⟨x0,x1⟩,xz⟩:=zE hxr;obtain⟨⟨p0,p1⟩,pz⟩:=zE ((hbw.block w.heap.size (by omega)).trans HP6.out);have HXR:=hid hxr;have hsw:w.heap.size+1<wr.heap.size:=by omega
    have hsw0:w.heap.size<wr.heap.size:=by omega
    clear hT hxr;by_cases hlt:j<p.funcs.length
    · obtain⟨f,hfj⟩:∃ e,p.funcs[j]? =some e:=⟨_,List.getElem?_eq_getElem hlt⟩
      obtain⟨g,o,v2,v3,rfl,hg,z0,z1,z2,z3,hp,hbo⟩:=(HF.out.below (hwr.mono hB) Zr).cells hfj;obtain⟨A2,c2,rfl,_⟩:=hp.form;obtain⟨A3,c3,rfl,_⟩:=hbo.form;have hgs:g<wr.heap.size:=by omega
      have hw7:Below wr.heap.size wr (wr.alloc (fuO f.name f.type (.slice A2 f.params.length c2) (.slice A3 f.body.length c3))):=Zb.alloc Zr _;have HPP:=hid (hp.below (hw7.mono (by omega)) Zr);have HBO:=hid (hbo.below (hw7.mono (by omega)) Zr);have HA7:=hid (HA.out.below ((hwr.trans (hw7.mono (by omega))).mono hB) Zr);have HF7:=hid (HF.out.below ((hwr.trans (hw7.mono (by omega))).mono hB) Zr);have HW7:=hid hw7;have HFM:=hid (List.mem_of_getElem? hfj);obtain⟨⟨e1,n1⟩,hcf⟩:∃ r,xM p f=r:=⟨_,rfl⟩
      have HCF:=hid hcf;have hdd:=hT'.out;rw[jv hfj,chkFs_cons,hcf]at hdd;have HDD:=hid hdd;clear hp hbo hw7 hfj hcf hdd hbw hwr;by_cases he1:e1=0
      · subst he1
        go_wp2_with (go_at_call 52;(with_reducible refine(uq B p f HOK.out HSZ.out HFM.out _ _ _ _ _ (by simp;omega) HA7.out HF7.out HPP.out HBO.out _ HCF.out).mono ?_);rintro e w8 ⟨rfl,hb8⟩
                     have hx8:=(hb8.block (w.heap.size+1) (by simp;omega)).trans ((Below.heap_alloc wr _ _ hsw).trans HXR.out);obtain⟨⟨x0,x1⟩,xz⟩:=zE hx8;have hs8:w.heap.size+1<w8.heap.size:=zB hx8;have HX8:=hid hx8;have HB8:=hid hb8
                     clear hb8 hx8)
        go_roundw
        case rel=>exact⟨j+1,by omega,by go_num,by have:=HDD.out;rw[if_neg (show ¬ (0 :Int)≠0 by decide)]at this;exact this,HBW.out.trans ((HW7.out.trans (HB8.out.mono (by simp))).mono hsr)⟩
        case measure=>simp[intOf];omega
      · go_wp2_with (go_at_call 52;(with_reducible refine(uq B p f HOK.out HSZ.out HFM.out _ _ _ _ _ (by simp;omega) HA7.out HF7.out HPP.out HBO.out _ HCF.out).mono ?_);rintro e w8 ⟨rfl,hb8⟩
                     have hx8:=(hb8.block (w.heap.size+1) (by simp;omega)).trans ((Below.heap_alloc wr _ _ hsw).trans HXR.out);obtain⟨⟨x0,x1⟩,xz⟩:=zE hx8;have hs8:w.heap.size+1<w8.heap.size:=zB hx8;have HX8:=hid hx8;have HB8:=hid hb8
                     clear hb8 hx8)
        obtain⟨f0,f1⟩:=qg HX8.out (.int .i64 (j:Int)) (.int .i64 (W64 n1));refine bodyPost_ret (v:=.tuple #[.int .i64 e1,.agg #[.int .i64 (j:Int),.int .i64 (W64 n1)]]) (by simp[results,Tryz.results19,go_sem,f0,f1]) rfl ?_;have hrr:=HDD.out;rw[if_pos (show e1≠0 from he1)]at hrr;subst hrr;exact⟨rfl,zm (HWR.out.trans ((HW7.out.trans (HB8.out.mono (by simp))).mono (by omega))) (by omega) _ _⟩
    · clear hbw hwr
      go_wp2_with (fail);obtain⟨f0,f1⟩:=qg HXR.out (.int .i64 0) (.int .i64 0);refine bodyPost_ret (v:=.tuple #[.int .i64 0,.agg #[.int .i64 0,.int .i64 0]]) (by simp[results,Tryz.results19,go_sem,f0,f1]) rfl ?_;have hrr:=hT'.out;rw[List.drop_of_length_le (by omega),yM]at hrr;subst hrr;exact⟨rfl,zm HWR.out (by omega) _ _⟩
end Go.Proofs.YtfghofifjnbicaaGreatDoor
