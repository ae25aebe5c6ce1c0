import Derived.Test.YtfghofifjnbicaaGreatDoorAhZed
import Derived.Test.YtfghofifjnbicaaGreatDoorAhTreeVals
import Derived.Test.YtfghofifjnbicaaGreatDoorAhTyPl
set_option linter.unusedSimpArgs false
set_option linter.unusedVariables false
set_option maxRecDepth 100000
/- Whether statements end, and whether there is a break of the loop around them: E3, of package types and of the document's answer to it. -/
namespace Go.Proofs.YtfghofifjnbicaaGreatDoor
open Lib (hid)
open Go.RowKit
theorem yb {l:List St} {j:Nat} {x:St} (h:l[j]? =some x):jK (l.take (j+1))=(jK (l.take j) || brkS x):=by
 induction l generalizing j with
 | nil=>simp at h
 | cons a r ih=>
   cases j with
   | zero=>simp at h;subst h;rw[List.take_succ_cons,List.take_zero,List.take_zero,jK,jK];simp[jK]
   | succ j=>rw[List.take_succ_cons,List.take_succ_cons,jK,jK,ih (by simpa using h),Bool.or_assoc]
theorem jI {l:List St} {j:Nat} {x:St} (h:l[j]? =some x):jL (l.take (j+1))=(jL (l.take j) || endS x):=by
 induction l generalizing j with
 | nil=>simp at h
 | cons a r ih=>
   cases j with
   | zero=>simp at h;subst h;rw[List.take_succ_cons,List.take_zero,List.take_zero,jL,jL];simp[jL]
   | succ j=>rw[List.take_succ_cons,List.take_succ_cons,jL,jL,ih (by simpa using h),Bool.or_assoc]
theorem yO {l:List St} {j:Nat} {x:St} (h:l[j]? =some x) (hx:brkS x=true):jK l=true:=by
 induction l generalizing j with
 | nil=>simp at h
 | cons a r ih=>
   rw[jK];cases j with
   | zero=>simp at h;subst h;rw[hx];rfl
   | succ j=>rw[ih (by simpa using h),Bool.or_true]
theorem yP {l:List St} {j:Nat} {x:St} (h:l[j]? =some x) (hx:endS x=true):jL l=true:=by
 induction l generalizing j with
 | nil=>simp at h
 | cons a r ih=>
   rw[jL];cases j with
   | zero=>simp at h;subst h;rw[hx];rfl
   | succ j=>rw[ih (by simpa using h),Bool.or_true]
def BkC (f:FuncId) (m:Nat):Prop:=∀ (B:Nat) (l:List St) (b:Bool) (v:Value) (w:World),z8 l m=true→jK l=b→B≤w.heap.size→SlS B w v l→Calls Tryz.prog f #[v] w fun e w'=>e=.returned (.bool b)∧Below w.heap.size w w'
theorem BkC.call {f:FuncId} {m:Nat} (h:BkC f m) {B:Nat} {l:List St} {b:Bool} {v:Value} {w:World} (h1:z8 l m=true) (h2:jK l=b) (h3:B≤w.heap.size) (h4:SlS B w v l):Calls Tryz.prog f #[v] w fun e w'=>e=.returned (.bool b)∧Below w.heap.size w w':=h B l b v w h1 h2 h3 h4
def EnC (f:FuncId) (m:Nat):Prop:=∀ (B:Nat) (l:List St) (b:Bool) (v:Value) (w:World),z8 l m=true→jL l=b→B≤w.heap.size→SlS B w v l→Calls Tryz.prog f #[v] w fun e w'=>e=.returned (.bool b)∧Below w.heap.size w w'
theorem EnC.call {f:FuncId} {m:Nat} (h:EnC f m) {B:Nat} {l:List St} {b:Bool} {v:Value} {w:World} (h1:z8 l m=true) (h2:jL l=b) (h3:B≤w.heap.size) (h4:SlS B w v l):Calls Tryz.prog f #[v] w fun e w'=>e=.returned (.bool b)∧Below w.heap.size w w':=h B l b v w h1 h2 h3 h4
theorem yQ {l:List St} {m j:Nat} {x:St} (h:z8 l m=true) (hx:l[j]? =some x):stOK x m=true:=by
 induction l generalizing j with
 | nil=>simp at hx
 | cons a r ih=>
   rw[z8,Bool.and_eq_true]at h;cases j with
   | zero=>simp at hx;subst hx;exact h.1
   | succ j=>exact ih h.2 (by simpa using hx)
abbrev qC (k ty:Int) (s:ByteArray) (v3 v4 v5:Value):Obj:=.cells #[.int .i64 k,.int .i64 ty,.string s,v3,v4,v5] 88
set_option maxHeartbeats 1000000 in
theorem breaks_step (m:Nat) (ih:∀ m',m'+1=m→BkC 108 m'):BkC 108 m:=by
 intro B l b v w hok hb hB hl;obtain⟨A,c,rfl,hn⟩:=hl.form;have HL:=hid hl;have HB:=hid hb;have HOK:=hid hok;have HI:=hid ih;clear hl hb hok ih;go_enter Tryz.func108,Tryz.ntmps108;go_wp2_with (fail)
 go_loopw [7] (fun iv wr=>∃ j:Nat,j≤l.length∧iv=.int .i64 j∧jK (l.take j)=false∧Below w.heap.size w wr) (fun iv _=>l.length-(intOf iv).toNat)
 case atStart=>exact⟨0,Nat.zero_le _,rfl,by rw[List.take_zero,jK],Below.refl _ _⟩
 case round=>
  obtain⟨j,hj,rfl,hno,hbw⟩:=hrel;have HN:=hid hno;have HBW:=hid hbw;have hsz:=hbw.size;clear hno;by_cases hlt:j<l.length
  · obtain⟨⟨k,ty,name,args,thn,els⟩,he⟩:∃ e,l[j]? =some e:=⟨_,List.getElem?_eq_getElem hlt⟩
    obtain⟨g,o,v3,v4,v5,rfl,hg,h0,h1,h2,h3,h4,h5,hs,hs4,hs5⟩:=(HL.out.below (hbw.mono hB) Zr).cells he;obtain⟨A3,c3,rfl,_⟩:=hs.form;obtain⟨A4,c4,rfl,_⟩:=hs4.form;obtain⟨A5,c5,rfl,_⟩:=hs5.form;have HE:=hid he;have hgs:g<wr.heap.size:=by omega
    have hst:=yQ HOK.out he;rw[ja]at hst;simp only[Bool.and_eq_true,decide_eq_true_eq]at hst;obtain⟨m',rfl⟩:∃ m',m=m'+1:=⟨m-1,by omega⟩
    rw[Nat.add_sub_cancel]at hst;have HIH:=hid (HI.out m' rfl);have HO4:=hid hst.1.2;have HO5:=hid hst.2;have hb1:Below B wr (wr.alloc (qC k ty name (.slice A3 args.length c3) (.slice A4 thn.length c4) (.slice A5 els.length c5))):=Zb.alloc (by omega) _;have HS4:=hid (hs4.below hb1 Zr);have HS5:=hid (hs5.below hb1 Zr);obtain⟨b1,hb1'⟩:∃ b,jK thn=b:=⟨_,rfl⟩
    obtain⟨b2,hb2'⟩:∃ b,jK els=b:=⟨_,rfl⟩
    have H1:=hid hb1';have H2:=hid hb2';clear he hs hs4 hs5 hst hb1 hb1' hb2' hbw;have HBX:=hid (show brkS (.mk k ty name args thn els)=(decide (k=6) || (decide (k=4) && (b1 || b2))) by rw[brkS,H1.out,H2.out]);by_cases hk6:k=6
    · subst hk6
      go_wp2_with (fail);go_ret;exact⟨zC (by rw[←HB.out,yO HE.out (by rw[HBX.out];rfl)]),HBW.out.alloc hsz _⟩
    · have n6:(k == 6)=false:=by simp[hk6]
      by_cases hk4:k=4
      · subst hk4
        cases b1
        · cases b2
          all_goals
           go_wp2_with (first
            | (go_at_call 108;(with_reducible refine(HIH.out.call HO4.out H1.out (by simp;omega) HS4.out).mono ?_);rintro e w2 ⟨rfl,hb2⟩;have hx2:=(Below.refl wr.heap.size wr).alloc Zr (qC 4 ty name (.slice A3 args.length c3) (.slice A4 thn.length c4) (.slice A5 els.length c5)) |>.trans (hb2.mono (by simp));obtain⟨hc2,hf2⟩:=zu hb2;have hq2:wr.heap.size<w2.heap.size:=(by have:=hb2.size;simp at this;omega);have HS52:=hid (HS5.out.below (hb2.mono (by simp;omega)) Zr);have HX2:=hid hx2;clear hb2 hx2)
            | (go_at_call 108;(with_reducible refine(HIH.out.call HO5.out H2.out (by omega) HS52.out).mono ?_);rintro e w3 ⟨rfl,hb3⟩))
          · go_roundw
            case rel=>exact⟨j+1,by omega,by go_num,by rw[yb HE.out,HN.out,HBX.out];rfl,HBW.out.trans ((HX2.out.trans (hb3.mono (by omega))).mono (by omega))⟩
            case measure=>simp[intOf];omega
          · go_ret
            exact⟨zC (by rw[←HB.out,yO HE.out (by rw[HBX.out];rfl)]),HBW.out.trans ((HX2.out.trans (hb3.mono (by omega))).mono (by omega))⟩
        · go_wp2_with (go_at_call 108;(with_reducible refine(HIH.out.call HO4.out H1.out (by simp;omega) HS4.out).mono ?_);rintro e w2 ⟨rfl,hb2⟩;have hx2:=(Below.refl wr.heap.size wr).alloc Zr (qC 4 ty name (.slice A3 args.length c3) (.slice A4 thn.length c4) (.slice A5 els.length c5)) |>.trans (hb2.mono (by simp));have HX2:=hid hx2;clear hb2 hx2)
          go_ret;exact⟨zC (by rw[←HB.out,yO HE.out (by rw[HBX.out];rfl)]),HBW.out.trans (HX2.out.mono (by omega))⟩
      · have n4:(k == 4)=false:=by simp[hk4]
        go_wp2_with (fail);go_roundw
        case rel=>exact⟨j+1,by omega,by go_num,by rw[yb HE.out,HN.out,HBX.out];simp[hk6,hk4],HBW.out.alloc hsz _⟩
        case measure=>simp[intOf];omega
  · go_wp2_with (fail)
    go_ret;exact⟨zC (by rw[←HB.out,←HN.out,List.take_of_length_le (by omega)]),HBW.out⟩
set_option maxHeartbeats 1000000 in
theorem um (m:Nat) (ih:∀ m',m'+1=m→BkC 66 m'):BkC 66 m:=by
 intro B l b v w hok hb hB hl;obtain⟨A,c,rfl,hn⟩:=hl.form;have HL:=hid hl;have HB:=hid hb;have HOK:=hid hok;have HI:=hid ih;clear hl hb hok ih;go_enter Tryz.func66,Tryz.ntmps66;go_wp2_with (fail)
 go_loopw [3] (fun iv wr=>∃ j:Nat,j≤l.length∧iv=.int .i64 j∧jK (l.take j)=false∧Below w.heap.size w wr) (fun iv _=>l.length-(intOf iv).toNat)
 case atStart=>exact⟨0,Nat.zero_le _,rfl,by rw[List.take_zero,jK],Below.refl _ _⟩
 case round=>
  obtain⟨j,hj,rfl,hno,hbw⟩:=hrel;have HN:=hid hno;have HBW:=hid hbw;have hsz:=hbw.size;clear hno;by_cases hlt:j<l.length
  · obtain⟨⟨k,ty,name,args,thn,els⟩,he⟩:∃ e,l[j]? =some e:=⟨_,List.getElem?_eq_getElem hlt⟩
    obtain⟨g,o,v3,v4,v5,rfl,hg,h0,h1,h2,h3,h4,h5,hs,hs4,hs5⟩:=(HL.out.below (hbw.mono hB) Zr).cells he;obtain⟨A3,c3,rfl,_⟩:=hs.form;obtain⟨A4,c4,rfl,_⟩:=hs4.form;obtain⟨A5,c5,rfl,_⟩:=hs5.form;have HE:=hid he;have hgs:g<wr.heap.size:=by omega
    have hst:=yQ HOK.out he;rw[ja]at hst;simp only[Bool.and_eq_true,decide_eq_true_eq]at hst;obtain⟨m',rfl⟩:∃ m',m=m'+1:=⟨m-1,by omega⟩
    rw[Nat.add_sub_cancel]at hst;have HIH:=hid (HI.out m' rfl);have HO4:=hid hst.1.2;have HO5:=hid hst.2;have HS4:=hid hs4;have HS5:=hid hs5;obtain⟨b1,hb1'⟩:∃ b,jK thn=b:=⟨_,rfl⟩
    obtain⟨b2,hb2'⟩:∃ b,jK els=b:=⟨_,rfl⟩
    have H1:=hid hb1';have H2:=hid hb2';clear he hs hs4 hs5 hst hb1' hb2' hbw;have HBX:=hid (show brkS (.mk k ty name args thn els)=(decide (k=6) || (decide (k=4) && (b1 || b2))) by rw[brkS,H1.out,H2.out]);by_cases hk6:k=6
    · subst hk6
      go_wp2_with (fail);go_ret;exact⟨zC (by rw[←HB.out,yO HE.out (by rw[HBX.out];rfl)]),HBW.out⟩
    · have n6:(k == 6)=false:=by simp[hk6]
      by_cases hk4:k=4
      · subst hk4
        cases b1
        · cases b2
          all_goals
           go_wp2_with (first
            | (go_at_call 66;(with_reducible refine(HIH.out.call HO4.out H1.out (by omega) HS4.out).mono ?_);rintro e w2 ⟨rfl,hb2⟩;have hx2:=hb2;obtain⟨hc2,hf2⟩:=zu hb2;have hq2:g<w2.heap.size:=(by have:=hb2.size;omega);have hz2:wr.heap.size≤w2.heap.size:=hb2.size;have HS52:=hid (HS5.out.below (hb2.mono (by omega)) Zr);have HX2:=hid hx2;clear hb2 hx2)
            | (go_at_call 66;(with_reducible refine(HIH.out.call HO5.out H2.out (by omega) HS52.out).mono ?_);rintro e w3 ⟨rfl,hb3⟩))
          · go_roundw
            case rel=>exact⟨j+1,by omega,by go_num,by rw[yb HE.out,HN.out,HBX.out];rfl,HBW.out.trans ((HX2.out.trans (hb3.mono (by omega))).mono (by omega))⟩
            case measure=>simp[intOf];omega
          · go_ret
            exact⟨zC (by rw[←HB.out,yO HE.out (by rw[HBX.out];rfl)]),HBW.out.trans ((HX2.out.trans (hb3.mono (by omega))).mono (by omega))⟩
        · go_wp2_with (go_at_call 66;(with_reducible refine(HIH.out.call HO4.out H1.out (by omega) HS4.out).mono ?_);rintro e w2 ⟨rfl,hb2⟩;have hx2:=hb2;have HX2:=hid hx2;clear hb2 hx2)
          go_ret;exact⟨zC (by rw[←HB.out,yO HE.out (by rw[HBX.out];rfl)]),HBW.out.trans (HX2.out.mono (by omega))⟩
      · have n4:(k == 4)=false:=by simp[hk4]
        go_wp2_with (fail);go_roundw
        case rel=>exact⟨j+1,by omega,by go_num,by rw[yb HE.out,HN.out,HBX.out];simp[hk6,hk4],HBW.out⟩
        case measure=>simp[intOf];omega
  · go_wp2_with (fail)
    go_ret;exact⟨zC (by rw[←HB.out,←HN.out,List.take_of_length_le (by omega)]),HBW.out⟩
theorem breaks_all:∀ m,BkC 108 m
 | 0=>breaks_step 0 fun _ h=>by omega
 | m+1=>breaks_step (m+1) fun m' h=>by
   obtain rfl:m'=m:=by omega
   exact breaks_all m'
theorem vG:∀ m,BkC 66 m
 | 0=>um 0 fun _ h=>by omega
 | m+1=>um (m+1) fun m' h=>by
   obtain rfl:m'=m:=by omega
   exact vG m'
abbrev stV (k ty:Int) (s:ByteArray) (v3 v4 v5:Value):Value:=.agg #[.int .i64 k,.int .i64 ty,.string s,v3,v4,v5]
set_option maxHeartbeats 1000000 in
theorem endless_any (B:Nat) (ty:Int) (name:ByteArray) (args:List Ex) (hargs:args.length=1) (thn:List St) (m:Nat) (hok:z8 thn m=true) (v3 v4:Value) (A5:Option Addr) (n5 c5:Nat) (w:World) (hB:B≤w.heap.size) (h3:qw B w v3 args) (h4:SlS B w v4 thn) (r:Bool) (hr:(trueE args && !jK thn)=r):
 Calls Tryz.prog 92 #[stV 5 ty name v3 v4 (.slice A5 n5 c5)] w fun e w'=>e=.returned (.bool r)∧Below w.heap.size w w':=by
 obtain⟨a,rfl⟩:=List.length_eq_one_iff.1 hargs;obtain⟨A3,c3,rfl,_⟩:=h3.form;obtain⟨A4,c4,rfl,_⟩:=h4.form;obtain⟨ka,oa,na,sa,ar⟩:=a;obtain⟨g,o,v',rfl,hg,y0,y1,y2,y3,y4,_⟩:=h3.cells (i:=0) rfl;rw[show o+0 * 5=o by omega]at y0 y1 y2 y3 y4;obtain⟨b,hb⟩:∃ b,jK thn=b:=⟨_,rfl⟩
 have hr2:(decide (ka=2) && decide (na=1) && !b)=r:=by rw[←hr,trueE,hb]
 have HR:=hid hr2;have HBK:=hid hb;have HOK:=hid hok;have H4:=hid (h4.below ((Below.refl B w).alloc hB (qC 5 ty name (.slice (some ⟨g,o,none⟩) 1 c3) (.slice A4 thn.length c4) (.slice A5 n5 c5))) Zr);have hgs:g<w.heap.size:=by omega
 have hone:([Ex.mk ka oa na sa ar]:List Ex).length=1:=rfl;rw[hone];clear hr hr2 hb hok h3 h4 hone hargs;by_cases hk:ka=2
 · subst hk
   by_cases hn:na=1
   · subst hn
     go_enter Tryz.func92,Tryz.ntmps92;go_wp2_with (go_at_call 108;(with_reducible refine((breaks_all m).call HOK.out HBK.out (by simp;omega) H4.out).mono ?_);rintro e w2 ⟨rfl,hb2⟩);go_ret;exact⟨zC (by rw[←HR.out];simp),(Zb.alloc Zr _).trans (hb2.mono (by simp))⟩
   · have n1:(na == 1)=false:=by simp[hn]
     go_enter Tryz.func92,Tryz.ntmps92;go_wp2_with (fail);go_ret;exact⟨zC (by rw[←HR.out];simp[hn]),Zb.alloc Zr _⟩
 · have n2:(ka == 2)=false:=by simp[hk]
   go_enter Tryz.func92,Tryz.ntmps92;go_wp2_with (fail);go_ret;exact⟨zC (by rw[←HR.out];simp[hk]),Zb.alloc Zr _⟩
theorem vH {ty:Int} {name:ByteArray} {a b c:Nat} {ic:Bool} (h:zZ 5 ty name a b c ic=true):a=1:=by
 simp[zZ]at h;exact h.1.2
set_option maxHeartbeats 2000000 in
theorem ends_step (m:Nat) (ih:∀ m',m'+1=m→EnC 76 m'):EnC 76 m:=by
 intro B l b v w hok hb hB hl;obtain⟨A,c,rfl,hn⟩:=hl.form;have HL:=hid hl;have HB:=hid hb;have HOK:=hid hok;have HI:=hid ih;clear hl hb hok ih;go_enter Tryz.func76,Tryz.ntmps76;go_wp2_with (fail)
 go_loopw [7] (fun iv wr=>∃ j:Nat,j≤l.length∧iv=.int .i64 j∧jL (l.take j)=false∧Below w.heap.size w wr) (fun iv _=>l.length-(intOf iv).toNat)
 case atStart=>exact⟨0,Nat.zero_le _,rfl,by rw[List.take_zero,jL],Below.refl _ _⟩
 case round=>
  obtain⟨j,hj,rfl,hno,hbw⟩:=hrel;have HN:=hid hno;have HBW:=hid hbw;have hsz:=hbw.size;clear hno;by_cases hlt:j<l.length
  · obtain⟨⟨k,ty,name,args,thn,els⟩,he⟩:∃ e,l[j]? =some e:=⟨_,List.getElem?_eq_getElem hlt⟩
    obtain⟨g,o,v3,v4,v5,rfl,hg,h0,h1,h2,h3,h4,h5,hs,hs4,hs5⟩:=(HL.out.below (hbw.mono hB) Zr).cells he;obtain⟨A3,c3,rfl,_⟩:=hs.form;obtain⟨A4,c4,rfl,_⟩:=hs4.form;obtain⟨A5,c5,rfl,_⟩:=hs5.form;have HE:=hid he;have hgs:g<wr.heap.size:=by omega
    have hst:=yQ HOK.out he;rw[ja]at hst;simp only[Bool.and_eq_true,decide_eq_true_eq]at hst;obtain⟨m',rfl⟩:∃ m',m=m'+1:=⟨m-1,by omega⟩
    rw[Nat.add_sub_cancel]at hst;have HIH:=hid (HI.out m' rfl);have HO4:=hid hst.1.2;have HO5:=hid hst.2;have HFS:=hid hst.1.1.1.2;have hb1:Below B wr (wr.alloc (qC k ty name (.slice A3 args.length c3) (.slice A4 thn.length c4) (.slice A5 els.length c5))):=Zb.alloc (by omega) _;have HS3:=hid (hs.below hb1 Zr);have HS4:=hid (hs4.below hb1 Zr);have HS5:=hid (hs5.below hb1 Zr);obtain⟨b1,hb1'⟩:∃ b,jL thn=b:=⟨_,rfl⟩
    obtain⟨b2,hb2'⟩:∃ b,jL els=b:=⟨_,rfl⟩
    obtain⟨b3,hb3'⟩:∃ b,(trueE args && !jK thn)=b:=⟨_,rfl⟩
    have H1:=hid hb1';have H2:=hid hb2';have H3:=hid hb3';clear he hs hs4 hs5 hst hb1 hb1' hb2' hb3' hbw;have HBX:=hid (show endS (.mk k ty name args thn els)=(decide (k=8) || (decide (k=4) && (b1 && b2)) || (decide (k=5) && b3)) by rw[endS,H1.out,H2.out,H3.out]);by_cases hk8:k=8
    · subst hk8
      go_wp2_with (fail);go_ret;exact⟨zC (by rw[←HB.out,yP HE.out (by rw[HBX.out];rfl)]),HBW.out.alloc hsz _⟩
    · have n8:(k == 8)=false:=by simp[hk8]
      by_cases hk4:k=4
      · subst hk4
        cases b1
        · go_wp2_with (go_at_call 76;(with_reducible refine(HIH.out.call HO4.out H1.out (by simp;omega) HS4.out).mono ?_);rintro e w2 ⟨rfl,hb2⟩;have hx2:=(Below.refl wr.heap.size wr).alloc Zr (qC 4 ty name (.slice A3 args.length c3) (.slice A4 thn.length c4) (.slice A5 els.length c5)) |>.trans (hb2.mono (by simp));have HX2:=hid hx2;clear hb2 hx2)
          go_roundw
          case rel=>exact⟨j+1,by omega,by go_num,by rw[jI HE.out,HN.out,HBX.out];rfl,HBW.out.trans (HX2.out.mono (by omega))⟩
          case measure=>simp[intOf];omega
        · cases b2
          all_goals
           go_wp2_with (first
            | (go_at_call 76;(with_reducible refine(HIH.out.call HO4.out H1.out (by simp;omega) HS4.out).mono ?_);rintro e w2 ⟨rfl,hb2⟩;have hx2:=(Below.refl wr.heap.size wr).alloc Zr (qC 4 ty name (.slice A3 args.length c3) (.slice A4 thn.length c4) (.slice A5 els.length c5)) |>.trans (hb2.mono (by simp));obtain⟨hc2,hf2⟩:=zu hb2;have hq2:wr.heap.size<w2.heap.size:=(by have:=hb2.size;simp at this;omega);have HS52:=hid (HS5.out.below (hb2.mono (by simp;omega)) Zr);have HX2:=hid hx2;clear hb2 hx2)
            | (go_at_call 76;(with_reducible refine(HIH.out.call HO5.out H2.out (by omega) HS52.out).mono ?_);rintro e w3 ⟨rfl,hb3⟩))
          · go_roundw
            case rel=>exact⟨j+1,by omega,by go_num,by rw[jI HE.out,HN.out,HBX.out];rfl,HBW.out.trans ((HX2.out.trans (hb3.mono (by omega))).mono (by omega))⟩
            case measure=>simp[intOf];omega
          · go_ret
            exact⟨zC (by rw[←HB.out,yP HE.out (by rw[HBX.out];rfl)]),HBW.out.trans ((HX2.out.trans (hb3.mono (by omega))).mono (by omega))⟩
      · have n4:(k == 4)=false:=by simp[hk4]
        by_cases hk5:k=5
        · subst hk5
          cases b3
          all_goals
           go_wp2_with (go_at_call 92;(with_reducible refine(endless_any B ty name args (vH HFS.out) thn m' HO4.out _ _ _ _ _ _ (by simp;omega) HS3.out HS4.out _ H3.out).mono ?_);rintro e w2 ⟨rfl,hb2⟩;have hx2:=(Below.refl wr.heap.size wr).alloc Zr (qC 5 ty name (.slice A3 args.length c3) (.slice A4 thn.length c4) (.slice A5 els.length c5)) |>.trans (hb2.mono (by simp));have HX2:=hid hx2;clear hb2 hx2)
          · go_roundw
            case rel=>exact⟨j+1,by omega,by go_num,by rw[jI HE.out,HN.out,HBX.out];rfl,HBW.out.trans (HX2.out.mono (by omega))⟩
            case measure=>simp[intOf];omega
          · go_ret
            exact⟨zC (by rw[←HB.out,yP HE.out (by rw[HBX.out];rfl)]),HBW.out.trans (HX2.out.mono (by omega))⟩
        · have n5:(k == 5)=false:=by simp[hk5]
          go_wp2_with (fail);go_roundw
          case rel=>exact⟨j+1,by omega,by go_num,by rw[jI HE.out,HN.out,HBX.out];simp[hk8,hk4,hk5],HBW.out.alloc hsz _⟩
          case measure=>simp[intOf];omega
  · go_wp2_with (fail)
    go_ret;exact⟨zC (by rw[←HB.out,←HN.out,List.take_of_length_le (by omega)]),HBW.out⟩
theorem ends_all:∀ m,EnC 76 m
 | 0=>ends_step 0 fun _ h=>by omega
 | m+1=>ends_step (m+1) fun m' h=>by
   obtain rfl:m'=m:=by omega
   exact ends_all m'
set_option maxHeartbeats 2000000 in
theorem rends_step (m:Nat) (ih:∀ m',m'+1=m→EnC 32 m'):EnC 32 m:=by
 intro B l b v w hok hb hB hl;obtain⟨A,c,rfl,hn⟩:=hl.form;have HL:=hid hl;have HB:=hid hb;have HOK:=hid hok;have HI:=hid ih;clear hl hb hok ih;go_enter Tryz.func32,Tryz.ntmps32;go_wp2_with (fail)
 go_loopw [3] (fun iv wr=>∃ j:Nat,j≤l.length∧iv=.int .i64 j∧jL (l.take j)=false∧Below w.heap.size w wr) (fun iv _=>l.length-(intOf iv).toNat)
 case atStart=>exact⟨0,Nat.zero_le _,rfl,by rw[List.take_zero,jL],Below.refl _ _⟩
 case round=>
  obtain⟨j,hj,rfl,hno,hbw⟩:=hrel;have HN:=hid hno;have HBW:=hid hbw;have hsz:=hbw.size;clear hno;by_cases hlt:j<l.length
  · obtain⟨⟨k,ty,name,args,thn,els⟩,he⟩:∃ e,l[j]? =some e:=⟨_,List.getElem?_eq_getElem hlt⟩
    obtain⟨g,o,v3,v4,v5,rfl,hg,h0,h1,h2,h3,h4,h5,hs,hs4,hs5⟩:=(HL.out.below (hbw.mono hB) Zr).cells he;obtain⟨A3,c3,rfl,_⟩:=hs.form;obtain⟨A4,c4,rfl,_⟩:=hs4.form;obtain⟨A5,c5,rfl,_⟩:=hs5.form;have HE:=hid he;have hgs:g<wr.heap.size:=by omega
    have hst:=yQ HOK.out he;rw[ja]at hst;simp only[Bool.and_eq_true,decide_eq_true_eq]at hst;obtain⟨m',rfl⟩:∃ m',m=m'+1:=⟨m-1,by omega⟩
    rw[Nat.add_sub_cancel]at hst;have HIH:=hid (HI.out m' rfl);have HO4:=hid hst.1.2;have HO5:=hid hst.2;have HFS:=hid hst.1.1.1.2;have hb1:Below B wr (wr.alloc (qC k ty name (.slice A3 args.length c3) (.slice A4 thn.length c4) (.slice A5 els.length c5))):=Zb.alloc (by omega) _;have HS0:=hid hs;have HS3:=hid (hs.below hb1 Zr);have HS4:=hid (hs4.below hb1 Zr);have HS5:=hid (hs5.below hb1 Zr);obtain⟨b1,hb1'⟩:∃ b,jL thn=b:=⟨_,rfl⟩
    obtain⟨b2,hb2'⟩:∃ b,jL els=b:=⟨_,rfl⟩
    obtain⟨b3,hb3'⟩:∃ b,(trueE args && !jK thn)=b:=⟨_,rfl⟩
    have H1:=hid hb1';have H2:=hid hb2';have H3:=hid hb3';clear he hs hs4 hs5 hst hb1 hb1' hb2' hb3' hbw;have HBX:=hid (show endS (.mk k ty name args thn els)=(decide (k=8) || (decide (k=4) && (b1 && b2)) || (decide (k=5) && b3)) by rw[endS,H1.out,H2.out,H3.out]);by_cases hk8:k=8
    · subst hk8
      go_wp2_with (fail);go_ret;exact⟨zC (by rw[←HB.out,yP HE.out (by rw[HBX.out];rfl)]),HBW.out.alloc hsz _⟩
    · have n8:(k == 8)=false:=by simp[hk8]
      by_cases hk4:k=4
      · subst hk4
        cases b1
        · go_wp2_with (go_at_call 32;(with_reducible refine(HIH.out.call HO4.out H1.out (by simp;omega) HS4.out).mono ?_);rintro e w2 ⟨rfl,hb2⟩;have hx2:=(Below.refl wr.heap.size wr).alloc Zr (qC 4 ty name (.slice A3 args.length c3) (.slice A4 thn.length c4) (.slice A5 els.length c5)) |>.trans (hb2.mono (by simp));obtain⟨hc2,hf2⟩:=zu hb2;have hq2:wr.heap.size<w2.heap.size:=(by have:=hb2.size;simp at this;omega);have HX2:=hid hx2;clear hb2 hx2)
          go_roundw
          case rel=>exact⟨j+1,by omega,by go_num,by rw[jI HE.out,HN.out,HBX.out];rfl,HBW.out.trans (HX2.out.mono (by omega))⟩
          case measure=>simp[intOf];omega
        · cases b2
          all_goals
           go_wp2_with (first
            | (go_at_call 32;(with_reducible refine(HIH.out.call HO4.out H1.out (by simp;omega) HS4.out).mono ?_);rintro e w2 ⟨rfl,hb2⟩;have hx2:=(Below.refl wr.heap.size wr).alloc Zr (qC 4 ty name (.slice A3 args.length c3) (.slice A4 thn.length c4) (.slice A5 els.length c5)) |>.trans (hb2.mono (by simp));obtain⟨hc2,hf2⟩:=zu hb2;have hq2:wr.heap.size<w2.heap.size:=(by have:=hb2.size;simp at this;omega);have HS52:=hid (HS5.out.below (hb2.mono (by simp;omega)) Zr);have HX2:=hid hx2;clear hb2 hx2)
            | (go_at_call 32;(with_reducible refine(HIH.out.call HO5.out H2.out (by omega) HS52.out).mono ?_);rintro e w3 ⟨rfl,hb3⟩;obtain⟨hc3,hf3⟩:=zu hb3;have hq3:wr.heap.size<w3.heap.size:=(by have:=hb3.size;omega)))
          · go_roundw
            case rel=>exact⟨j+1,by omega,by go_num,by rw[jI HE.out,HN.out,HBX.out];rfl,HBW.out.trans ((HX2.out.trans (hb3.mono (by omega))).mono (by omega))⟩
            case measure=>simp[intOf];omega
          · go_ret
            exact⟨zC (by rw[←HB.out,yP HE.out (by rw[HBX.out];rfl)]),HBW.out.trans ((HX2.out.trans (hb3.mono (by omega))).mono (by omega))⟩
      · have n4:(k == 4)=false:=by simp[hk4]
        by_cases hk5:k=5
        · subst hk5
          obtain⟨⟨ka,oa,na,sa,ar⟩,ha0⟩:∃ a,args[0]? =some a:=⟨_,List.getElem?_eq_getElem (by rw[vH HFS.out];omega)⟩
          obtain⟨g',o',v',rfl,hg',y0,y1,y2,y3,y4,_⟩:=HS0.out.cells ha0;rw[show o'+0 * 5=o' by omega]at y0 y1 y2 y3 y4;have hgs':g'<wr.heap.size:=by omega
          have hpos:0<args.length:=by rw[vH HFS.out];omega
          obtain⟨b,hbk⟩:∃ b,jK thn=b:=⟨_,rfl⟩
          have hb3:(decide (ka=2) && decide (na=1) && !b)=b3:=by
           rw[←H3.out,hbk];cases args with
           | nil=>simp at ha0
           | cons x r=>simp at ha0;subst ha0;rfl
          have HBK:=hid hbk;have HB3:=hid hb3;clear hbk hb3 ha0;by_cases hka:ka=2
          · subst hka
            by_cases hna:na=1
            · subst hna
              cases b
              · obtain rfl:b3=true:=by rw[←HB3.out];rfl
                go_wp2_with (go_at_call 66;(with_reducible refine((vG m').call HO4.out HBK.out (by simp;omega) HS4.out).mono ?_);rintro e w2 ⟨rfl,hb2⟩;have hx2:=(Below.refl wr.heap.size wr).alloc Zr (qC 5 ty name (.slice (some ⟨g',o',none⟩) args.length c3) (.slice A4 thn.length c4) (.slice A5 els.length c5)) |>.trans (hb2.mono (by simp));have HX2:=hid hx2;clear hb2 hx2);go_ret;exact⟨zC (by rw[←HB.out,yP HE.out (by rw[HBX.out];rfl)]),HBW.out.trans (HX2.out.mono (by omega))⟩
              · obtain rfl:b3=false:=by rw[←HB3.out];rfl
                go_wp2_with (go_at_call 66;(with_reducible refine((vG m').call HO4.out HBK.out (by simp;omega) HS4.out).mono ?_);rintro e w2 ⟨rfl,hb2⟩;have hx2:=(Below.refl wr.heap.size wr).alloc Zr (qC 5 ty name (.slice (some ⟨g',o',none⟩) args.length c3) (.slice A4 thn.length c4) (.slice A5 els.length c5)) |>.trans (hb2.mono (by simp));have HX2:=hid hx2;clear hb2 hx2);go_roundw
                case rel=>exact⟨j+1,by omega,by go_num,by rw[jI HE.out,HN.out,HBX.out];rfl,HBW.out.trans (HX2.out.mono (by omega))⟩
                case measure=>simp[intOf];omega
            · obtain rfl:b3=false:=by rw[←HB3.out];simp[hna]
              have m1:(na == 1)=false:=by simp[hna]
              go_wp2_with (fail);go_roundw
              case rel=>exact⟨j+1,by omega,by go_num,by rw[jI HE.out,HN.out,HBX.out];rfl,HBW.out.alloc hsz _⟩
              case measure=>simp[intOf];omega
          · obtain rfl:b3=false:=by rw[←HB3.out];simp[hka]
            have m2:(ka == 2)=false:=by simp[hka]
            go_wp2_with (fail);go_roundw
            case rel=>exact⟨j+1,by omega,by go_num,by rw[jI HE.out,HN.out,HBX.out];rfl,HBW.out.alloc hsz _⟩
            case measure=>simp[intOf];omega
        · have n5:(k == 5)=false:=by simp[hk5]
          go_wp2_with (fail);go_roundw
          case rel=>exact⟨j+1,by omega,by go_num,by rw[jI HE.out,HN.out,HBX.out];simp[hk8,hk4,hk5],HBW.out.alloc hsz _⟩
          case measure=>simp[intOf];omega
  · go_wp2_with (fail)
    go_ret;exact⟨zC (by rw[←HB.out,←HN.out,List.take_of_length_le (by omega)]),HBW.out⟩
theorem rends_all:∀ m,EnC 32 m
 | 0=>rends_step 0 fun _ h=>by omega
 | m+1=>rends_step (m+1) fun m' h=>by
   obtain rfl:m'=m:=by omega
   exact rends_all m'
def jD (p:Pr) (vars:List Pa) (ft k ty:Int) (name:ByteArray) (args:List Ex) (loop:Bool):Int:=
 if k=1 then jh p vars args ty
 else if k=2 then (match z5 vars name with | none=>50 | some t=>jh p vars args t)
 else if k=3 then (if (qb p.arrays name).isSome then jh p vars args 1 else 50)
 else if k=4∨k=5 then jh p vars args 2
 else if k=8 then jh p vars args ft
 else if k=9 then jh p vars args 1
 else if k=10 then (qI p vars (args.getD 0 xL)).2
 else if loop then 0 else 53
theorem zQ {w:World} {g:Nat} {c0 c1 c2 c3 c4 c5:Value} {T:TypeId} (h:w.heap[g]? =some (.cells #[c0,c1,c2,c3,c4,c5] T (0,0))):w.cell? ⟨g,0,none⟩=some c0∧w.cell? ⟨g,1,none⟩=some c1∧w.cell? ⟨g,2,none⟩=some c2∧w.cell? ⟨g,3,none⟩=some c3∧w.cell? ⟨g,4,none⟩=some c4∧w.cell? ⟨g,5,none⟩=some c5:=
 ⟨(Lib.cell_of_heap h 0).trans rfl,(Lib.cell_of_heap h 1).trans rfl,(Lib.cell_of_heap h 2).trans rfl,(Lib.cell_of_heap h 3).trans rfl,(Lib.cell_of_heap h 4).trans rfl,(Lib.cell_of_heap h 5).trans rfl⟩
set_option linter.unusedSectionVars false
section
variable (B C b:Nat) (p:Pr) (vars:List Pa) (ty:Int) (name:ByteArray) (args:List Ex) (loop:Bool) (A4:Option Addr) (n4 c4:Nat) (A5:Option Addr) (n5 c5:Nat) (r:Int) (v3 v0 v1 v:Value) (gv n:Int) (w:World)
variable (hE:Env B C p vars v0 v1 v w) (hb:w.heap[b]? =some (ckO v0 v1 gv n)) (hl:qw B w v3 args) (hok:zr args 100=true) (hp:ui p)
set_option maxHeartbeats 1600000 in
include hE hb hl hok hp in
theorem stmt_let (hr:jD p vars gv 1 ty name args loop=r):Calls Tryz.prog 90 #[.pointer (some ⟨b,0,none⟩),stV 1 ty name v3 (.slice A4 n4 c4) (.slice A5 n5 c5),v,.bool loop] w fun e w'=>e=.returned (.int .i64 r)∧Below w.heap.size w w':=by
 have HR:=hid (show jh p vars args ty=r by rw[←hr];simp[jD]);obtain⟨A0,c0,A1,c1,q,rfl,rfl,rfl⟩:=hE.form;obtain⟨A3,c3,rfl,_⟩:=hl.form;have hbl:=zB hb;have hw1:Below w.heap.size w (w.alloc (qC 1 ty name (.slice A3 args.length c3) (.slice A4 n4 c4) (.slice A5 n5 c5))):=Zb.alloc Zr _;have HW1:=hid hw1;have HE1:=hid (hE.below hw1);have HED:=hid (hE.below hw1.drew);have HB1:=hid ((hw1.block b hbl).trans hb);have HBD:=hid ((hw1.drew.block b hbl).trans hb);have HL1:=hid (hl.below (hw1.mono hE.hB) Zr);have HLD:=hid (hl.below (hw1.drew.mono hE.hB) Zr);have HOK:=hid hok;have HP:=hid hp;have HE:=hid hE;obtain⟨⟨b0,b1,b2,b3⟩,bz⟩:=zI hb;clear hE hb hl hok hp hr hw1;go_enter Tryz.func90,Tryz.ntmps90;go_wp2_with (go_at_call 105;(with_reducible refine(ki B C b p vars args _ _ _ _ _ _ gv n _ HE1.out HB1.out HL1.out HOK.out HP.out HR.out).mono ?_);rintro e w2 ⟨rfl,hb2⟩);go_ret;exact⟨rfl,HW1.out.trans (hb2.mono (by rw[zA];omega))⟩
set_option maxHeartbeats 1600000 in
include hE hb hl hok hp in
theorem stmt_if (hr:jD p vars gv 4 ty name args loop=r):Calls Tryz.prog 90 #[.pointer (some ⟨b,0,none⟩),stV 4 ty name v3 (.slice A4 n4 c4) (.slice A5 n5 c5),v,.bool loop] w fun e w'=>e=.returned (.int .i64 r)∧Below w.heap.size w w':=by
 have HR:=hid (show jh p vars args 2=r by rw[←hr];simp[jD]);obtain⟨A0,c0,A1,c1,q,rfl,rfl,rfl⟩:=hE.form;obtain⟨A3,c3,rfl,_⟩:=hl.form;have hbl:=zB hb;have hw1:Below w.heap.size w (w.alloc (qC 4 ty name (.slice A3 args.length c3) (.slice A4 n4 c4) (.slice A5 n5 c5))):=Zb.alloc Zr _;have HW1:=hid hw1;have HE1:=hid (hE.below hw1);have HED:=hid (hE.below hw1.drew);have HB1:=hid ((hw1.block b hbl).trans hb);have HBD:=hid ((hw1.drew.block b hbl).trans hb);have HL1:=hid (hl.below (hw1.mono hE.hB) Zr);have HLD:=hid (hl.below (hw1.drew.mono hE.hB) Zr);have HOK:=hid hok;have HP:=hid hp;have HE:=hid hE;obtain⟨⟨b0,b1,b2,b3⟩,bz⟩:=zI hb;clear hE hb hl hok hp hr hw1;go_enter Tryz.func90,Tryz.ntmps90;go_wp2_with (go_at_call 105;(with_reducible refine(ki B C b p vars args _ _ _ _ _ _ gv n _ HE1.out HB1.out HL1.out HOK.out HP.out HR.out).mono ?_);rintro e w2 ⟨rfl,hb2⟩);go_ret;exact⟨rfl,HW1.out.trans (hb2.mono (by rw[zA];omega))⟩
set_option maxHeartbeats 1600000 in
include hE hb hl hok hp in
theorem stmt_while (hr:jD p vars gv 5 ty name args loop=r):Calls Tryz.prog 90 #[.pointer (some ⟨b,0,none⟩),stV 5 ty name v3 (.slice A4 n4 c4) (.slice A5 n5 c5),v,.bool loop] w fun e w'=>e=.returned (.int .i64 r)∧Below w.heap.size w w':=by
 have HR:=hid (show jh p vars args 2=r by rw[←hr];simp[jD]);obtain⟨A0,c0,A1,c1,q,rfl,rfl,rfl⟩:=hE.form;obtain⟨A3,c3,rfl,_⟩:=hl.form;have hbl:=zB hb;have hw1:Below w.heap.size w (w.alloc (qC 5 ty name (.slice A3 args.length c3) (.slice A4 n4 c4) (.slice A5 n5 c5))):=Zb.alloc Zr _;have HW1:=hid hw1;have HE1:=hid (hE.below hw1);have HED:=hid (hE.below hw1.drew);have HB1:=hid ((hw1.block b hbl).trans hb);have HBD:=hid ((hw1.drew.block b hbl).trans hb);have HL1:=hid (hl.below (hw1.mono hE.hB) Zr);have HLD:=hid (hl.below (hw1.drew.mono hE.hB) Zr);have HOK:=hid hok;have HP:=hid hp;have HE:=hid hE;obtain⟨⟨b0,b1,b2,b3⟩,bz⟩:=zI hb;clear hE hb hl hok hp hr hw1;go_enter Tryz.func90,Tryz.ntmps90;go_wp2_with (go_at_call 105;(with_reducible refine(ki B C b p vars args _ _ _ _ _ _ gv n _ HE1.out HB1.out HL1.out HOK.out HP.out HR.out).mono ?_);rintro e w2 ⟨rfl,hb2⟩);go_ret;exact⟨rfl,HW1.out.trans (hb2.mono (by rw[zA];omega))⟩
set_option maxHeartbeats 1600000 in
include hE hb hl hok hp in
theorem stmt_print (hr:jD p vars gv 9 ty name args loop=r):Calls Tryz.prog 90 #[.pointer (some ⟨b,0,none⟩),stV 9 ty name v3 (.slice A4 n4 c4) (.slice A5 n5 c5),v,.bool loop] w fun e w'=>e=.returned (.int .i64 r)∧Below w.heap.size w w':=by
 have HR:=hid (show jh p vars args 1=r by rw[←hr];simp[jD]);obtain⟨A0,c0,A1,c1,q,rfl,rfl,rfl⟩:=hE.form;obtain⟨A3,c3,rfl,_⟩:=hl.form;have hbl:=zB hb;have hw1:Below w.heap.size w (w.alloc (qC 9 ty name (.slice A3 args.length c3) (.slice A4 n4 c4) (.slice A5 n5 c5))):=Zb.alloc Zr _;have HW1:=hid hw1;have HE1:=hid (hE.below hw1);have HED:=hid (hE.below hw1.drew);have HB1:=hid ((hw1.block b hbl).trans hb);have HBD:=hid ((hw1.drew.block b hbl).trans hb);have HL1:=hid (hl.below (hw1.mono hE.hB) Zr);have HLD:=hid (hl.below (hw1.drew.mono hE.hB) Zr);have HOK:=hid hok;have HP:=hid hp;have HE:=hid hE;obtain⟨⟨b0,b1,b2,b3⟩,bz⟩:=zI hb;clear hE hb hl hok hp hr hw1;go_enter Tryz.func90,Tryz.ntmps90;go_wp2_with (go_at_call 105;(with_reducible refine(ki B C b p vars args _ _ _ _ _ _ gv n _ HE1.out HB1.out HL1.out HOK.out HP.out HR.out).mono ?_);rintro e w2 ⟨rfl,hb2⟩);go_ret;exact⟨rfl,HW1.out.trans (hb2.mono (by rw[zA];omega))⟩
set_option maxHeartbeats 1600000 in
include hE hb hl hok hp in
theorem stmt_return (hr:jD p vars gv 8 ty name args loop=r):Calls Tryz.prog 90 #[.pointer (some ⟨b,0,none⟩),stV 8 ty name v3 (.slice A4 n4 c4) (.slice A5 n5 c5),v,.bool loop] w fun e w'=>e=.returned (.int .i64 r)∧Below w.heap.size w w':=by
 have HR:=hid (show jh p vars args gv=r by rw[←hr];simp[jD]);obtain⟨A0,c0,A1,c1,q,rfl,rfl,rfl⟩:=hE.form;obtain⟨A3,c3,rfl,_⟩:=hl.form;have hbl:=zB hb;have hw1:Below w.heap.size w (w.alloc (qC 8 ty name (.slice A3 args.length c3) (.slice A4 n4 c4) (.slice A5 n5 c5))):=Zb.alloc Zr _;have HW1:=hid hw1;have HE1:=hid (hE.below hw1);have HED:=hid (hE.below hw1.drew);have HB1:=hid ((hw1.block b hbl).trans hb);have HBD:=hid ((hw1.drew.block b hbl).trans hb);have HL1:=hid (hl.below (hw1.mono hE.hB) Zr);have HLD:=hid (hl.below (hw1.drew.mono hE.hB) Zr);have HOK:=hid hok;have HP:=hid hp;have HE:=hid hE;obtain⟨⟨b0,b1,b2,b3⟩,bz⟩:=zI hb;clear hE hb hl hok hp hr hw1;go_enter Tryz.func90,Tryz.ntmps90;go_wp2_with (fail)
 go_region_held3 (fun w'=>w'.cell? ⟨b,2,none⟩=some (.int .i64 gv)∧w'.cell? ⟨w.heap.size,3,none⟩=some (.slice A3 args.length c3))
  (first
    | (go_split_ands;refine⟨?_,?_⟩ <;> (first | (rw[hq5];assumption) | (rw[hm5];simp;done)))
    | go_keep)
  (first
    | (go_at_call 105
       (refine(ki B C b p vars args _ _ _ _ _ _ gv n (w:=(w.alloc (qC 8 ty name (.slice A3 args.length c3) (.slice A4 n4 c4) (.slice A5 n5 c5))).drew) HED.out HBD.out HLD.out HOK.out HP.out HR.out).mono ?_)
       rintro e w2 ⟨rfl,hb2⟩;have hq5:∀ x,w2.cell? ⟨b,x,none⟩=w.cell? ⟨b,x,none⟩:=fun x=>(HW1.out.trans (Zb.drew.trans (hb2.mono (by show w.heap.size≤(w.alloc _).heap.size;rw[zA];omega)))).cell (p:=⟨b,x,none⟩) hbl
       have hm5:∀ x,w2.cell? ⟨w.heap.size,x,none⟩=(w.alloc (qC 8 ty name (.slice A3 args.length c3) (.slice A4 n4 c4) (.slice A5 n5 c5))).cell? ⟨w.heap.size,x,none⟩:=fun x=>hb2.cell (p:=⟨w.heap.size,x,none⟩) (by show w.heap.size<(w.alloc _).heap.size;rw[zA];omega)
       have HW2:=hid (show Below w.heap.size w w2 from HW1.out.trans (Zb.drew.trans (hb2.mono (by show w.heap.size≤(w.alloc _).heap.size;rw[zA];omega))))
       clear hb2))
 go_wp2_with (fail);go_ret;exact⟨rfl,HW2.out⟩
set_option maxHeartbeats 1600000 in
include hE hb hl hok hp in
theorem stmt_set_no (hv:z5 vars name=none) (hr:jD p vars gv 2 ty name args loop=r):Calls Tryz.prog 90 #[.pointer (some ⟨b,0,none⟩),stV 2 ty name v3 (.slice A4 n4 c4) (.slice A5 n5 c5),v,.bool loop] w fun e w'=>e=.returned (.int .i64 r)∧Below w.heap.size w w':=by
 have HR:=hid (show (50 :Int)=r by rw[←hr];simp[jD,hv]);have HV:=hid ((kh name vars).symm.trans hv);clear hv;obtain⟨A0,c0,A1,c1,q,rfl,rfl,rfl⟩:=hE.form;obtain⟨A3,c3,rfl,_⟩:=hl.form;have hbl:=zB hb;have hw1:Below w.heap.size w (w.alloc (qC 2 ty name (.slice A3 args.length c3) (.slice A4 n4 c4) (.slice A5 n5 c5))):=Zb.alloc Zr _;have HW1:=hid hw1;have HE1:=hid (hE.below hw1);have HED:=hid (hE.below hw1.drew);have HB1:=hid ((hw1.block b hbl).trans hb);have HBD:=hid ((hw1.drew.block b hbl).trans hb);have HL1:=hid (hl.below (hw1.mono hE.hB) Zr);have HLD:=hid (hl.below (hw1.drew.mono hE.hB) Zr);have HOK:=hid hok;have HP:=hid hp;have HE:=hid hE;obtain⟨⟨b0,b1,b2,b3⟩,bz⟩:=zI hb;clear hE hb hl hok hp hr hw1;go_enter Tryz.func90,Tryz.ntmps90
 go_wp2_with (go_at_call 91;(with_reducible refine(jg _ C _ _ _ _ name Zr (vd.nil _ _) HE1.out.hs).mono ?_);rintro e w9 ⟨hfp,rfl⟩
              have hfq:e=.returned (.pointer none):=by
               rw[HV.out]at hfp;exact hfp
              clear hfp
              subst hfq)
 go_ret;exact⟨zk HR.out,HW1.out⟩
set_option maxHeartbeats 1600000 in
include hE hb hl hok hp in
theorem stmt_set (t:Int) (hv:z5 vars name=some t) (hr:jD p vars gv 2 ty name args loop=r):Calls Tryz.prog 90 #[.pointer (some ⟨b,0,none⟩),stV 2 ty name v3 (.slice A4 n4 c4) (.slice A5 n5 c5),v,.bool loop] w fun e w'=>e=.returned (.int .i64 r)∧Below w.heap.size w w':=by
 have HR:=hid (show jh p vars args t=r by rw[←hr];simp[jD,hv]);have HV:=hid ((kh name vars).symm.trans hv);clear hv;obtain⟨A0,c0,A1,c1,q,rfl,rfl,rfl⟩:=hE.form;obtain⟨A3,c3,rfl,_⟩:=hl.form;have hbl:=zB hb;have hw1:Below w.heap.size w (w.alloc (qC 2 ty name (.slice A3 args.length c3) (.slice A4 n4 c4) (.slice A5 n5 c5))):=Zb.alloc Zr _;have HW1:=hid hw1;have HE1:=hid (hE.below hw1);have HED:=hid (hE.below hw1.drew);have HB1:=hid ((hw1.block b hbl).trans hb);have HBD:=hid ((hw1.drew.block b hbl).trans hb);have HL1:=hid (hl.below (hw1.mono hE.hB) Zr);have HLD:=hid (hl.below (hw1.drew.mono hE.hB) Zr);have HOK:=hid hok;have HP:=hid hp;have HE:=hid hE;obtain⟨⟨b0,b1,b2,b3⟩,bz⟩:=zI hb;clear hE hb hl hok hp hr hw1;go_enter Tryz.func90,Tryz.ntmps90
 go_wp2_with (go_at_call 91;(with_reducible refine(jg _ C _ _ _ _ name Zr (vd.nil _ _) HE1.out.hs).mono ?_);rintro e w9 ⟨hfp,rfl⟩
              have hfq:∃ g,e=.returned (.pointer (some ⟨g,0,none⟩))∧g<(w.alloc (qC 2 ty name (.slice A3 args.length c3) (.slice A4 n4 c4) (.slice A5 n5 c5))).heap.size∧(w.alloc (qC 2 ty name (.slice A3 args.length c3) (.slice A4 n4 c4) (.slice A5 n5 c5))).cell? ⟨g,1,none⟩=some (.int .i64 t):=by
               rw[HV.out]at hfp;exact hfp
              clear hfp
              obtain⟨g,rfl,hgD,hgc⟩:=hfq)
 go_region_held3 (fun w'=>w'.cell? ⟨g,1,none⟩=some (.int .i64 t)∧w'.cell? ⟨w.heap.size,3,none⟩=some (.slice A3 args.length c3))
  (first
    | (go_split_ands;refine⟨?_,?_⟩ <;> (first | (rw[hq5];assumption) | (rw[hm5];simp;done) | (rw[hg5];assumption)))
    | go_keep)
  (first
    | (go_at_call 105
       (refine(ki B C b p vars args _ _ _ _ _ _ gv n (w:=(w.alloc (qC 2 ty name (.slice A3 args.length c3) (.slice A4 n4 c4) (.slice A5 n5 c5))).drew) HED.out HBD.out HLD.out HOK.out HP.out HR.out).mono ?_)
       rintro e w2 ⟨rfl,hb2⟩;have hq5:∀ x,w2.cell? ⟨b,x,none⟩=w.cell? ⟨b,x,none⟩:=fun x=>(HW1.out.trans (Zb.drew.trans (hb2.mono (by show w.heap.size≤(w.alloc _).heap.size;rw[zA];omega)))).cell (p:=⟨b,x,none⟩) hbl
       have hm5:∀ x,w2.cell? ⟨w.heap.size,x,none⟩=(w.alloc (qC 2 ty name (.slice A3 args.length c3) (.slice A4 n4 c4) (.slice A5 n5 c5))).cell? ⟨w.heap.size,x,none⟩:=fun x=>hb2.cell (p:=⟨w.heap.size,x,none⟩) (by show w.heap.size<(w.alloc _).heap.size;rw[zA];omega)
       have HW2:=hid (show Below w.heap.size w w2 from HW1.out.trans (Zb.drew.trans (hb2.mono (by show w.heap.size≤(w.alloc _).heap.size;rw[zA];omega))));have hg5:∀ o,w2.cell? ⟨g,o,none⟩=(w.alloc (qC 2 ty name (.slice A3 args.length c3) (.slice A4 n4 c4) (.slice A5 n5 c5))).cell? ⟨g,o,none⟩:=fun o=>hb2.cell (p:=⟨g,o,none⟩) hgD
       clear hb2))
 go_wp2_with (fail);go_ret;exact⟨rfl,HW2.out⟩
set_option maxHeartbeats 1600000 in
include hE hb hl hok hp in
theorem stmt_put_no (hk:qb p.arrays name=none) (hr:jD p vars gv 3 ty name args loop=r):Calls Tryz.prog 90 #[.pointer (some ⟨b,0,none⟩),stV 3 ty name v3 (.slice A4 n4 c4) (.slice A5 n5 c5),v,.bool loop] w fun e w'=>e=.returned (.int .i64 r)∧Below w.heap.size w w':=by
 have HR:=hid (show (50 :Int)=r by rw[←hr];simp[jD,hk]);have HK:=hid (show jY (qb p.arrays name)= -1 by rw[hk];rfl);clear hk;obtain⟨A0,c0,A1,c1,q,rfl,rfl,rfl⟩:=hE.form;obtain⟨A3,c3,rfl,_⟩:=hl.form;have hbl:=zB hb;have hw1:Below w.heap.size w (w.alloc (qC 3 ty name (.slice A3 args.length c3) (.slice A4 n4 c4) (.slice A5 n5 c5))):=Zb.alloc Zr _;have HW1:=hid hw1;have HE1:=hid (hE.below hw1);have HED:=hid (hE.below hw1.drew);have HB1:=hid ((hw1.block b hbl).trans hb);have HBD:=hid ((hw1.drew.block b hbl).trans hb);have HL1:=hid (hl.below (hw1.mono hE.hB) Zr);have HLD:=hid (hl.below (hw1.drew.mono hE.hB) Zr);have HOK:=hid hok;have HP:=hid hp;have HE:=hid hE;obtain⟨⟨b0,b1,b2,b3⟩,bz⟩:=zI hb;clear hE hb hl hok hp hr hw1;go_enter Tryz.func90,Tryz.ntmps90;go_wp2_with (fail)
 go_region_held3 (fun w'=>w'.cell? ⟨b,0,none⟩=some (.slice A0 p.arrays.length c0)∧w'.cell? ⟨b,1,none⟩=some (.slice A1 p.funcs.length c1)∧w'.cell? ⟨w.heap.size,2,none⟩=some (.string name))
  (first
    | (go_split_ands;refine⟨?_,?_,?_⟩ <;> (first | (rw[hq5];assumption) | (rw[hm5];simp;done)))
    | go_keep)
  (first
    | (go_at_call 106
       (refine(uk B p name _ HK.out _ _ (w:=(w.alloc (qC 3 ty name (.slice A3 args.length c3) (.slice A4 n4 c4) (.slice A5 n5 c5))).drew) HED.out.hB HED.out.ha HED.out.hf).mono ?_)
       rintro e w2 ⟨rfl,hb2⟩;have hq5:∀ x,w2.cell? ⟨b,x,none⟩=w.cell? ⟨b,x,none⟩:=fun x=>(HW1.out.trans (Zb.drew.trans (hb2.mono (by show w.heap.size≤(w.alloc _).heap.size;rw[zA];omega)))).cell (p:=⟨b,x,none⟩) hbl
       have hm5:∀ x,w2.cell? ⟨w.heap.size,x,none⟩=(w.alloc (qC 3 ty name (.slice A3 args.length c3) (.slice A4 n4 c4) (.slice A5 n5 c5))).cell? ⟨w.heap.size,x,none⟩:=fun x=>hb2.cell (p:=⟨w.heap.size,x,none⟩) (by show w.heap.size<(w.alloc _).heap.size;rw[zA];omega)
       have HW2:=hid (show Below w.heap.size w w2 from HW1.out.trans (Zb.drew.trans (hb2.mono (by show w.heap.size≤(w.alloc _).heap.size;rw[zA];omega))))
       clear hb2))
 go_wp2_with (fail);go_ret;exact⟨zk HR.out,HW2.out⟩
set_option maxHeartbeats 1600000 in
include hE hb hl hok hp in
theorem stmt_put (k:Nat) (hk:qb p.arrays name=some k) (hr:jD p vars gv 3 ty name args loop=r):Calls Tryz.prog 90 #[.pointer (some ⟨b,0,none⟩),stV 3 ty name v3 (.slice A4 n4 c4) (.slice A5 n5 c5),v,.bool loop] w fun e w'=>e=.returned (.int .i64 r)∧Below w.heap.size w w':=by
 have HR:=hid (show jh p vars args 1=r by rw[←hr];simp[jD,hk]);have HK:=hid (show jY (qb p.arrays name)=(k:Int) by rw[hk];rfl);clear hk;obtain⟨A0,c0,A1,c1,q,rfl,rfl,rfl⟩:=hE.form;obtain⟨A3,c3,rfl,_⟩:=hl.form;have hbl:=zB hb;have hw1:Below w.heap.size w (w.alloc (qC 3 ty name (.slice A3 args.length c3) (.slice A4 n4 c4) (.slice A5 n5 c5))):=Zb.alloc Zr _;have HW1:=hid hw1;have HE1:=hid (hE.below hw1);have HED:=hid (hE.below hw1.drew);have HB1:=hid ((hw1.block b hbl).trans hb);have HBD:=hid ((hw1.drew.block b hbl).trans hb);have HL1:=hid (hl.below (hw1.mono hE.hB) Zr);have HLD:=hid (hl.below (hw1.drew.mono hE.hB) Zr);have HOK:=hid hok;have HP:=hid hp;have HE:=hid hE;obtain⟨⟨b0,b1,b2,b3⟩,bz⟩:=zI hb;clear hE hb hl hok hp hr hw1;go_enter Tryz.func90,Tryz.ntmps90;go_wp2_with (fail)
 go_region_held3 (fun w'=>w'.cell? ⟨b,0,none⟩=some (.slice A0 p.arrays.length c0)∧w'.cell? ⟨b,1,none⟩=some (.slice A1 p.funcs.length c1)∧w'.cell? ⟨w.heap.size,2,none⟩=some (.string name))
  (first
    | (go_split_ands;refine⟨?_,?_,?_⟩ <;> (first | (rw[hq5];assumption) | (rw[hm5];simp;done)))
    | go_keep)
  (first
    | (go_at_call 106
       (refine(uk B p name _ HK.out _ _ (w:=(w.alloc (qC 3 ty name (.slice A3 args.length c3) (.slice A4 n4 c4) (.slice A5 n5 c5))).drew) HED.out.hB HED.out.ha HED.out.hf).mono ?_)
       rintro e w2 ⟨rfl,hb2⟩;have hq5:∀ x,w2.cell? ⟨b,x,none⟩=w.cell? ⟨b,x,none⟩:=fun x=>(HW1.out.trans (Zb.drew.trans (hb2.mono (by show w.heap.size≤(w.alloc _).heap.size;rw[zA];omega)))).cell (p:=⟨b,x,none⟩) hbl
       have hm5:∀ x,w2.cell? ⟨w.heap.size,x,none⟩=(w.alloc (qC 3 ty name (.slice A3 args.length c3) (.slice A4 n4 c4) (.slice A5 n5 c5))).cell? ⟨w.heap.size,x,none⟩:=fun x=>hb2.cell (p:=⟨w.heap.size,x,none⟩) (by show w.heap.size<(w.alloc _).heap.size;rw[zA];omega)
       have HW2:=hid (show Below w.heap.size w w2 from HW1.out.trans (Zb.drew.trans (hb2.mono (by show w.heap.size≤(w.alloc _).heap.size;rw[zA];omega))));have HW3:=hid (show Below w.heap.size ((w.alloc (qC 3 ty name (.slice A3 args.length c3) (.slice A4 n4 c4) (.slice A5 n5 c5))).drew) w2 from hb2.mono (by show w.heap.size≤(w.alloc _).heap.size;rw[zA];omega));have hm3:w2.cell? ⟨w.heap.size,3,none⟩=some (.slice A3 args.length c3):=by rw[hm5];simp
       have hs2:w.heap.size<w2.heap.size:=by have:=hb2.size;simp at this;omega
       clear hb2))
 have HE2:=hid (HE.out.below HW2.out);have HB2:=hid ((HW2.out.block b hbl).trans ((HW1.out.block b hbl).symm.trans HB1.out));have HL2:=hid (HL1.out.below ((Zb.drew.trans (show Below w.heap.size _ w2 from HW3.out)).mono HE.out.hB) Zr);go_wp2_with (go_at_call 105;(with_reducible refine(ki B C b p vars args _ _ _ _ _ _ gv n _ HE2.out HB2.out HL2.out HOK.out HP.out HR.out).mono ?_);rintro e w3 ⟨rfl,hb3⟩);go_ret;exact⟨rfl,HW2.out.trans (hb3.mono HW2.out.size)⟩
set_option maxHeartbeats 1600000 in
include hE hb hl hok hp in
theorem stmt_do (h1:args.length=1) (hr:jD p vars gv 10 ty name args loop=r):Calls Tryz.prog 90 #[.pointer (some ⟨b,0,none⟩),stV 10 ty name v3 (.slice A4 n4 c4) (.slice A5 n5 c5),v,.bool loop] w fun e w'=>e=.returned (.int .i64 r)∧Below w.heap.size w w':=by
 obtain⟨⟨k',op',n',s',as'⟩,he⟩:∃ e,args[0]? =some e:=⟨_,List.getElem?_eq_getElem (by omega)⟩
 obtain⟨⟨t,f⟩,htf⟩:∃ r,qI p vars (.mk k' op' n' s' as')=r:=⟨_,rfl⟩
 have hgd:args.getD 0 xL=.mk k' op' n' s' as':=by
  rw[List.getD_eq_getElem?_getD,he];rfl
 have hpos:0<args.length:=by omega
 have HTF:=hid htf;have HO:=hid (qV hok he);have HEE:=hid he;have HR:=hid (show f=r by rw[←hr];rw[jD,if_neg (by decide),if_neg (by decide),if_neg (by decide),if_neg (by decide),if_neg (by decide),if_neg (by decide),if_pos rfl,hgd,htf]);clear h1 hgd htf he;obtain⟨A0,c0,A1,c1,q,rfl,rfl,rfl⟩:=hE.form;obtain⟨A3,c3,rfl,_⟩:=hl.form;have hbl:=zB hb;have hw1:Below w.heap.size w (w.alloc (qC 10 ty name (.slice A3 args.length c3) (.slice A4 n4 c4) (.slice A5 n5 c5))):=Zb.alloc Zr _;have HW1:=hid hw1;have HE1:=hid (hE.below hw1);have HED:=hid (hE.below hw1.drew);have HB1:=hid ((hw1.block b hbl).trans hb);have HBD:=hid ((hw1.drew.block b hbl).trans hb);have HL1:=hid (hl.below (hw1.mono hE.hB) Zr);have HLD:=hid (hl.below (hw1.drew.mono hE.hB) Zr);have HOK:=hid hok;have HP:=hid hp;have HE:=hid hE;obtain⟨⟨b0,b1,b2,b3⟩,bz⟩:=zI hb;clear hE hb hl hok hp hr hw1;go_enter Tryz.func90,Tryz.ntmps90;obtain⟨g,o,v',rfl,hg,y0,y1,y2,y3,y4,hsl⟩:=HL1.out.cells HEE.out;obtain⟨A6,c6,rfl,_⟩:=hsl.form;rw[show o+0 * 5=o by omega]at y0 y1 y2 y3 y4;have hgs:g<w.heap.size:=by have:=HE.out.hB;omega
 have HEX:=hid (show vx B (w.alloc (qC 10 ty name (.slice (some ⟨g,o,none⟩) args.length c3) (.slice A4 n4 c4) (.slice A5 n5 c5))).drew (.mk k' op' n' s' as') (.agg #[.int .i64 k',.int .i64 op',.int .i64 n',.string s',.slice A6 as'.length c6]) from⟨_,rfl,HL1.out.range HEE.out,hsl.below Zb.drew Zr⟩);clear hsl;go_wp2_with (fail)
 go_region_held3 (fun w'=>w'.cell? ⟨b,0,none⟩=some (.slice A0 p.arrays.length c0)∧w'.cell? ⟨b,1,none⟩=some (.slice A1 p.funcs.length c1)∧w'.cell? ⟨w.heap.size,3,none⟩=some (.slice (some ⟨g,o,none⟩) args.length c3)∧w'.cell? ⟨g,o,none⟩=some (.int .i64 k')∧w'.cell? ⟨g,o+1,none⟩=some (.int .i64 op')∧w'.cell? ⟨g,o+2,none⟩=some (.int .i64 n')∧w'.cell? ⟨g,o+3,none⟩=some (.string s')∧w'.cell? ⟨g,o+4,none⟩=some (.slice A6 as'.length c6))
  (first
    | (go_split_ands;refine⟨?_,?_,?_,?_,?_,?_,?_,?_⟩ <;> (first | (rw[hq5];assumption) | (rw[hm5];simp;done) | (rw[hg5];assumption)))
    | go_keep)
  (first
    | (go_at_call 107
       (refine((xd 100).call (w:=(w.alloc (qC 10 ty name (.slice (some ⟨g,o,none⟩) args.length c3) (.slice A4 n4 c4) (.slice A5 n5 c5))).drew) HO.out HP.out HTF.out HED.out HEX.out).mono ?_)
       rintro e w2 ⟨rfl,hb2⟩;have hq5:∀ x,w2.cell? ⟨b,x,none⟩=w.cell? ⟨b,x,none⟩:=fun x=>(HW1.out.trans (Zb.drew.trans (hb2.mono (by show w.heap.size≤(w.alloc _).heap.size;rw[zA];omega)))).cell (p:=⟨b,x,none⟩) hbl
       have hm5:∀ x,w2.cell? ⟨w.heap.size,x,none⟩=(w.alloc (qC 10 ty name (.slice (some ⟨g,o,none⟩) args.length c3) (.slice A4 n4 c4) (.slice A5 n5 c5))).cell? ⟨w.heap.size,x,none⟩:=fun x=>hb2.cell (p:=⟨w.heap.size,x,none⟩) (by show w.heap.size<(w.alloc _).heap.size;rw[zA];omega)
       have HW2:=hid (show Below w.heap.size w w2 from HW1.out.trans (Zb.drew.trans (hb2.mono (by show w.heap.size≤(w.alloc _).heap.size;rw[zA];omega))));have hg5:∀ o2,w2.cell? ⟨g,o2,none⟩=(w.alloc (qC 10 ty name (.slice (some ⟨g,o,none⟩) args.length c3) (.slice A4 n4 c4) (.slice A5 n5 c5))).cell? ⟨g,o2,none⟩:=fun o2=>hb2.cell (p:=⟨g,o2,none⟩) (by show g<(w.alloc _).heap.size;rw[zA];omega)
       clear hb2))
 go_wp2_with (fail);go_ret;exact⟨zk HR.out,HW2.out⟩
set_option maxHeartbeats 1600000 in
include hE hb hl hok hp in
theorem stmt_break (hr:jD p vars gv 6 ty name args loop=r):Calls Tryz.prog 90 #[.pointer (some ⟨b,0,none⟩),stV 6 ty name v3 (.slice A4 n4 c4) (.slice A5 n5 c5),v,.bool loop] w fun e w'=>e=.returned (.int .i64 r)∧Below w.heap.size w w':=by
 cases loop
 all_goals
  have HR:=hid (show jD p vars gv 6 ty name args _=r by exact hr);obtain⟨A0,c0,A1,c1,q,rfl,rfl,rfl⟩:=hE.form;obtain⟨A3,c3,rfl,_⟩:=hl.form;have hbl:=zB hb;have hw1:Below w.heap.size w (w.alloc (qC 6 ty name (.slice A3 args.length c3) (.slice A4 n4 c4) (.slice A5 n5 c5))):=Zb.alloc Zr _;have HW1:=hid hw1;have HE1:=hid (hE.below hw1);have HED:=hid (hE.below hw1.drew);have HB1:=hid ((hw1.block b hbl).trans hb);have HBD:=hid ((hw1.drew.block b hbl).trans hb);have HL1:=hid (hl.below (hw1.mono hE.hB) Zr);have HLD:=hid (hl.below (hw1.drew.mono hE.hB) Zr);have HOK:=hid hok;have HP:=hid hp;have HE:=hid hE;obtain⟨⟨b0,b1,b2,b3⟩,bz⟩:=zI hb;clear hE hb hl hok hp hr hw1;go_enter Tryz.func90,Tryz.ntmps90;go_wp2_with (fail);go_ret;exact⟨zk (by rw[←HR.out];simp[jD]),HW1.out⟩
set_option maxHeartbeats 1600000 in
include hE hb hl hok hp in
theorem stmt_cont (hr:jD p vars gv 7 ty name args loop=r):Calls Tryz.prog 90 #[.pointer (some ⟨b,0,none⟩),stV 7 ty name v3 (.slice A4 n4 c4) (.slice A5 n5 c5),v,.bool loop] w fun e w'=>e=.returned (.int .i64 r)∧Below w.heap.size w w':=by
 cases loop
 all_goals
  have HR:=hid (show jD p vars gv 7 ty name args _=r by exact hr);obtain⟨A0,c0,A1,c1,q,rfl,rfl,rfl⟩:=hE.form;obtain⟨A3,c3,rfl,_⟩:=hl.form;have hbl:=zB hb;have hw1:Below w.heap.size w (w.alloc (qC 7 ty name (.slice A3 args.length c3) (.slice A4 n4 c4) (.slice A5 n5 c5))):=Zb.alloc Zr _;have HW1:=hid hw1;have HE1:=hid (hE.below hw1);have HED:=hid (hE.below hw1.drew);have HB1:=hid ((hw1.block b hbl).trans hb);have HBD:=hid ((hw1.drew.block b hbl).trans hb);have HL1:=hid (hl.below (hw1.mono hE.hB) Zr);have HLD:=hid (hl.below (hw1.drew.mono hE.hB) Zr);have HOK:=hid hok;have HP:=hid hp;have HE:=hid hE;obtain⟨⟨b0,b1,b2,b3⟩,bz⟩:=zI hb;clear hE hb hl hok hp hr hw1;go_enter Tryz.func90,Tryz.ntmps90;go_wp2_with (fail);go_ret;exact⟨zk (by rw[←HR.out];simp[jD]),HW1.out⟩
theorem jE (k:Int) (ic:Bool) (hf:zZ k ty name args.length n4 n5 ic=true) (hr:jD p vars gv k ty name args loop=r) (hE:Env B C p vars v0 v1 v w) (hb:w.heap[b]? =some (ckO v0 v1 gv n)) (hl:qw B w v3 args) (hok:zr args 100=true) (hp:ui p):
 Calls Tryz.prog 90 #[.pointer (some ⟨b,0,none⟩),stV k ty name v3 (.slice A4 n4 c4) (.slice A5 n5 c5),v,.bool loop] w fun e w'=>e=.returned (.int .i64 r)∧Below w.heap.size w w':=by
 have hk:k=1∨k=2∨k=3∨k=4∨k=5∨k=6∨k=7∨k=8∨k=9∨k=10:=by
  by_cases h':k=1∨k=2∨k=3∨k=4∨k=5∨k=6∨k=7∨k=8∨k=9∨k=10
  · exact h'
  · exfalso
    unfold zZ at hf;rw[if_neg (by omega),if_neg (by omega),if_neg (by omega),if_neg (by omega),if_neg (by omega),if_neg (by omega),if_neg (by omega),if_neg (by omega)]at hf;cases hf
 rcases hk with rfl | rfl | rfl | rfl | rfl | rfl | rfl | rfl | rfl | rfl
 · exact stmt_let B C b p vars ty name args loop A4 n4 c4 A5 n5 c5 r v3 v0 v1 v gv n w hE hb hl hok hp hr
 · cases hv:z5 vars name with
   | none=>exact stmt_set_no B C b p vars ty name args loop A4 n4 c4 A5 n5 c5 r v3 v0 v1 v gv n w hE hb hl hok hp hv hr
   | some t=>exact stmt_set B C b p vars ty name args loop A4 n4 c4 A5 n5 c5 r v3 v0 v1 v gv n w hE hb hl hok hp t hv hr
 · cases hv:qb p.arrays name with
   | none=>exact stmt_put_no B C b p vars ty name args loop A4 n4 c4 A5 n5 c5 r v3 v0 v1 v gv n w hE hb hl hok hp hv hr
   | some t=>exact stmt_put B C b p vars ty name args loop A4 n4 c4 A5 n5 c5 r v3 v0 v1 v gv n w hE hb hl hok hp t hv hr
 · exact stmt_if B C b p vars ty name args loop A4 n4 c4 A5 n5 c5 r v3 v0 v1 v gv n w hE hb hl hok hp hr
 · exact stmt_while B C b p vars ty name args loop A4 n4 c4 A5 n5 c5 r v3 v0 v1 v gv n w hE hb hl hok hp hr
 · exact stmt_break B C b p vars ty name args loop A4 n4 c4 A5 n5 c5 r v3 v0 v1 v gv n w hE hb hl hok hp hr
 · exact stmt_cont B C b p vars ty name args loop A4 n4 c4 A5 n5 c5 r v3 v0 v1 v gv n w hE hb hl hok hp hr
 · exact stmt_return B C b p vars ty name args loop A4 n4 c4 A5 n5 c5 r v3 v0 v1 v gv n w hE hb hl hok hp hr
 · exact stmt_print B C b p vars ty name args loop A4 n4 c4 A5 n5 c5 r v3 v0 v1 v gv n w hE hb hl hok hp hr
 · exact stmt_do B C b p vars ty name args loop A4 n4 c4 A5 n5 c5 r v3 v0 v1 v gv n w hE hb hl hok hp (by simp[zZ]at hf;omega) hr
end
end Go.Proofs.YtfghofifjnbicaaGreatDoor
