import Derived.Test.YtfghofifjnbicaaGreatDoorAhRnMk
import Derived.Test.YtfghofifjnbicaaGreatDoorAhParTot
set_option linter.unusedSimpArgs false
set_option linter.unusedVariables false
set_option maxRecDepth 100000
/- The law's maker: statements in a row. (By tools/gen_rnst.py.) -/
namespace Go.Proofs.YtfghofifjnbicaaGreatDoor
open Lib (hid)
open Go.RowKit
def tS:Nat→Nat
 | 0=>300
 | d+1=>300+8 * tS d
def tP:Nat→Nat
 | 0=>100
 | d+1=>100+2 * (4 * tP d+1)
theorem tS_ge (d:Nat):300≤tS d:=by cases d with | zero=>exact Nat.le_refl _ | succ d=>rw[tS];omega
theorem tP_ge (d:Nat):100≤tP d:=by cases d with | zero=>exact Nat.le_refl _ | succ d=>rw[tP];omega
theorem tS_le (d:Nat) (hd:d≤3):tS d≤200000:=by
 match d,hd with
 | 0,_=>decide
 | 1,_=>decide
 | 2,_=>decide
 | 3,_=>decide
theorem tP_le (d:Nat) (hd:d≤3):tP d≤200000:=by
 match d,hd with
 | 0,_=>decide
 | 1,_=>decide
 | 2,_=>decide
 | 3,_=>decide
def StmC (m:Nat):Prop:=m≤3→∀ (b N a:Nat) (v:Value) (vs bs:ByteArray) (D:Int) (lp:Bool) (w:World),D=(m:Int)→MkIn b N v a w→a+tP m≤1000000000→vs.size=1→bs.size=1→
 Calls Tryz.prog 62 #[.pointer (some ⟨b,0,none⟩),.string vs,.string bs,.int .i64 D,.bool lp] w (kW (tS m) (tP m) b N v a w)
def BlkC (m:Nat):Prop:=m≤3→∀ (b N a:Nat) (v:Value) (vs bs:ByteArray) (D:Int) (lp:Bool) (w:World),D=(m:Int)→MkIn b N v a w→a+4 * tP m+1≤1000000000→vs.size=1→bs.size=1→
 Calls Tryz.prog 26 #[.pointer (some ⟨b,0,none⟩),.string vs,.string bs,.int .i64 D,.bool lp] w (kW (4 * tS m) (4 * tP m+1) b N v a w)
theorem StmC.call {m:Nat} (h:StmC m) (h0:m≤3) {b N a:Nat} {v:Value} {vs bs:ByteArray} {D:Int} {lp:Bool} {w:World} (h1:D=(m:Int)) (h2:MkIn b N v a w) (h3:a+tP m≤1000000000) (h4:vs.size=1) (h5:bs.size=1):
 Calls Tryz.prog 62 #[.pointer (some ⟨b,0,none⟩),.string vs,.string bs,.int .i64 D,.bool lp] w (kW (tS m) (tP m) b N v a w):=h h0 b N a v vs bs D lp w h1 h2 h3 h4 h5
theorem BlkC.call {m:Nat} (h:BlkC m) (h0:m≤3) {b N a:Nat} {v:Value} {vs bs:ByteArray} {D:Int} {lp:Bool} {w:World} (h1:D=(m:Int)) (h2:MkIn b N v a w) (h3:a+4 * tP m+1≤1000000000) (h4:vs.size=1) (h5:bs.size=1):
 Calls Tryz.prog 26 #[.pointer (some ⟨b,0,none⟩),.string vs,.string bs,.int .i64 D,.bool lp] w (kW (4 * tS m) (4 * tP m+1) b N v a w):=h h0 b N a v vs bs D lp w h1 h2 h3 h4 h5
theorem xf {m:Nat} (hm:m≤2) {b N a:Nat} {v:Value} {vs bs:ByteArray} {D:Int} {w:World} (h1:D=(m:Int)) (h2:MkIn b N v a w) (h3:a+18≤1000000000) (h4:vs.size=1) (h5:bs.size=1):
 Calls Tryz.prog 27 #[.pointer (some ⟨b,0,none⟩),.string vs,.string bs,.int .i64 D] w (kW 72 18 b N v a w):=by
 have hs:szD m≤72:=by match m,hm with | 0,_=>decide | 1,_=>decide | 2,_=>decide
 have hp:pD m≤18:=by match m,hm with | 0,_=>decide | 1,_=>decide | 2,_=>decide
 exact((nt_all m).1.call (by omega) h1 h2 (by omega) (by omega) (by omega)).mono fun _ _ ⟨s,a',he,hz,hl,hu,ho,hk⟩=>⟨s,a',he,by omega,hl,by omega,ho,hk⟩
theorem uQ {m:Nat} (hm:m≤2) {b N a:Nat} {v:Value} {vs bs:ByteArray} {D:Int} {w:World} (h1:D=(m:Int)) (h2:MkIn b N v a w) (h3:a+18≤1000000000) (h4:vs.size=1) (h5:bs.size=1):
 Calls Tryz.prog 28 #[.pointer (some ⟨b,0,none⟩),.string vs,.string bs,.int .i64 D] w (kW 72 18 b N v a w):=by
 have hs:szD m≤72:=by match m,hm with | 0,_=>decide | 1,_=>decide | 2,_=>decide
 have hp:pD m≤18:=by match m,hm with | 0,_=>decide | 1,_=>decide | 2,_=>decide
 exact((nt_all m).2.call (by omega) h1 h2 (by omega) (by omega) (by omega)).mono fun _ _ ⟨s,a',he,hz,hl,hu,ho,hk⟩=>⟨s,a',he,by omega,hl,by omega,ho,hk⟩
set_option maxHeartbeats 4000000 in
theorem block_step (m:Nat) (ih:StmC m):BlkC m:=by
 intro hmx b N a0 v vs bs D lp w hD hM ha hvs hbs;have htS:=tS_le m hmx;have htP:=tP_le m hmx;have HM0:=hid hM;have HIH:=hid ih;have HD:=hid hD;clear hM ih hD;go_enter Tryz.func26,Tryz.ntmps26
 go_wp2_with (go_at_call 61;(with_reducible refine(jt (q:=5) HM0.out (by omega) (by decide) (by decide)).mono ?_);rintro e w1 ⟨r1,hr01,hr11,rfl,ho,hm⟩
              have HM1:=hid hm;have HO1:=hid ho
              clear ho hm)
 go_loopw [11,12] (fun sv iv wr=>∃ (i:Int) (s:ByteArray) (a:Nat),sv=.string s∧iv=.int .i64 i∧0≤i∧i≤r1∧(s.size:Int)≤(r1-i) * tS m∧a0≤a∧(a:Int)≤a0+1+(r1-i) * tP m∧OffB b w.heap.size w wr∧MkIn b N v a wr) (fun _ iv _=>(intOf iv).toNat)
 case atStart=>exact⟨r1,_,a0+1,rfl,rfl,hr01,Int.le_refl _,(by simp;rfl),by omega,by simp,HO1.out,HM1.out⟩
 case round=>
  obtain⟨i,s,a,rfl,rfl,hi0,hi1,hs,hal,hau,hO,hM⟩:=hrel;have HO:=hid hO;have HM:=hid hM;clear hO hM;have hb4:(r1-i) * tS m≤4 * tS m:=Int.mul_le_mul_of_nonneg_right (by omega) (by omega);have hp4:(r1-i) * tP m≤4 * tP m:=Int.mul_le_mul_of_nonneg_right (by omega) (by omega);by_cases hlt:0<i
  · have hs1:(r1-(i-1)) * tS m=(r1-i) * tS m+tS m:=by rw[show r1-(i-1)=(r1-i)+1 by omega,Int.add_mul,Int.one_mul]
    have hp1:(r1-(i-1)) * tP m=(r1-i) * tP m+tP m:=by rw[show r1-(i-1)=(r1-i)+1 by omega,Int.add_mul,Int.one_mul]
    have hp3:(r1-(i-1)) * tP m≤4 * tP m:=Int.mul_le_mul_of_nonneg_right (by omega) (by omega)
    go_wp2_with (go_at_call 62;(with_reducible refine(StmC.call HIH.out hmx HD.out HM.out (by omega) hvs hbs).mono ?_);rintro e w2 ⟨s2,a2,rfl,hs2,hl2,hu2,ho,hm⟩
                 have HM2:=hid hm;have HO2:=hid (HO.out.trans (ho.mono HO.out.size))
                 clear ho hm)
    go_roundw
    case rel=>
     refine⟨i-1,_,a2,rfl,rfl,by omega,by omega,?_,by omega,by omega,HO2.out,HM2.out⟩;rw[ByteArray.size_append];omega
    case measure=>simp[intOf];omega
  · have hi:i=0:=by omega
    subst hi;go_wp2_with (fail);go_ret;exact⟨_,a,rfl,by omega,hal,by omega,HO.out,HM.out⟩
set_option maxHeartbeats 8000000 in
theorem stmt_step (m:Nat) (ih:∀ m',m'+1=m→BlkC m'):StmC m:=by
 intro hmx b N a0 v vs bs D lp w hD hM ha hvs hbs;have htS:=tS_le m hmx;have htP:=tP_le m hmx;have htS0:=tS_ge m;have htP0:=tP_ge m;have HM0:=hid hM;have HO0:=hid (OffB.refl b w.heap.size w);have HJ:=hid ih;have HD:=hid hD;clear hM ih hD;go_enter Tryz.func62,Tryz.ntmps62
 go_upto_region 2 with(go_at_call 61;(with_reducible refine(jt (q:=13) HM0.out (by omega) (by decide) (by decide)).mono ?_);rintro e w1 ⟨r1,hr01,hr11,rfl,ho,hm⟩
                       obtain⟨a1,ha1⟩:∃ x,x=a0+1:=⟨_,rfl⟩
                       rw[←ha1]at hm;have HM1:=hid hm;have HO1:=hid ho
                       clear ho hm)
 by_cases hm0:m=0
 case pos=>
  subst hm0;have hD0:D=0:=by have:=HD.out;simpa using this
  subst hD0;rcases(show (0≤r1∧r1<3)∨r1=3∨r1=4∨r1=5∨r1=6∨r1=7∨(8≤r1∧r1<10)∨(10≤r1∧r1<12)∨r1=12 from by omega) with⟨hlo,hhi⟩ | rfl | rfl | rfl | rfl | rfl | ⟨hlo,hhi⟩ | ⟨hlo,hhi⟩ | rfl
  · have hq3:r1<3:=by omega
    have he3:(r1 == 3)=false:=by simp;omega
    have he4:(r1 == 4)=false:=by simp;omega
    have he5:(r1 == 5)=false:=by simp;omega
    have he6:(r1 == 6)=false:=by simp;omega
    have he7:(r1 == 7)=false:=by simp;omega
    have hq10:r1<10:=by omega
    have hq12:r1<12:=by omega
    have he12:(r1 == 12)=false:=by simp;omega
    go_wp2_with (go_at_call 27;(with_reducible refine(xf (m:=2) (D:=2) (by decide) (by decide) HM1.out (by omega) hvs hbs).mono ?_);rintro e w2 ⟨s2,a2,rfl,hs2,hl2,hu2,ho,hm⟩
                 have HM2:=hid hm;have HO2:=hid (HO1.out.trans (ho.mono HO1.out.size))
                 clear ho hm)
    go_ret;refine⟨_,a2,rfl,?_,by omega,by omega,HO2.out,HM2.out⟩
    first
    | (simp only[ByteArray.size_append,zK,List.length_cons,List.length_nil]
       omega)
    | omega
  · go_wp2_with (go_at_call 28;(with_reducible refine(uQ (m:=2) (D:=2) (by decide) (by decide) HM1.out (by omega) hvs hbs).mono ?_);rintro e w2 ⟨s2,a2,rfl,hs2,hl2,hu2,ho,hm⟩
                 have HM2:=hid hm;have HO2:=hid (HO1.out.trans (ho.mono HO1.out.size))
                 clear ho hm)
    go_ret;refine⟨_,a2,rfl,?_,by omega,by omega,HO2.out,HM2.out⟩
    first
    | (simp only[ByteArray.size_append,zK,List.length_cons,List.length_nil]
       omega)
    | omega
  · go_wp2_with (go_at_call 27;(with_reducible refine(xf (m:=2) (D:=2) (by decide) (by decide) HM1.out (by omega) hvs hbs).mono ?_);rintro e w2 ⟨s2,a2,rfl,hs2,hl2,hu2,ho,hm⟩
                 have HM2:=hid hm;have HO2:=hid (HO1.out.trans (ho.mono HO1.out.size))
                 clear ho hm)
    go_ret;refine⟨_,a2,rfl,?_,by omega,by omega,HO2.out,HM2.out⟩
    first
    | (simp only[ByteArray.size_append,zK,List.length_cons,List.length_nil]
       omega)
    | omega
  · go_wp2_with (first
     | (go_at_call 27;(with_reducible refine(xf (m:=1) (D:=1) (by decide) (by decide) HM1.out (by omega) hvs hbs).mono ?_);rintro e w2 ⟨s2,a2,rfl,hs2,hl2,hu2,ho,hm⟩
        have HM2:=hid hm;have HO2:=hid (HO1.out.trans (ho.mono HO1.out.size))
        clear ho hm)
     | (go_at_call 27;(with_reducible refine(xf (m:=2) (D:=2) (by decide) (by decide) HM2.out (by omega) hvs hbs).mono ?_);rintro e w3 ⟨s3,a3,rfl,hs3,hl3,hu3,ho,hm⟩
        have HM3:=hid hm;have HO3:=hid (HO2.out.trans (ho.mono HO2.out.size))
        clear ho hm))
    go_ret;refine⟨_,a3,rfl,?_,by omega,by omega,HO3.out,HM3.out⟩
    first
    | (simp only[ByteArray.size_append,zK,List.length_cons,List.length_nil]
       omega)
    | omega
  · cases lp
    · go_wp2_with (fail)
      go_ret;refine⟨_,a1,rfl,?_,by omega,by omega,HO1.out,HM1.out⟩
      first
      | (simp only[ByteArray.size_append,zK,List.length_cons,List.length_nil]
         omega)
      | omega
    · go_wp2_with (go_at_call 61;(with_reducible refine(jt (q:=4) (HM1.out.alloc _) (by omega) (by decide) (by decide)).mono ?_);rintro e w9 ⟨r9,hr09,hr19,rfl,ho,hm⟩
                   obtain⟨u,hu,hcu⟩:=jV w1 [⟨#[98,114,101,97,107,59,10]⟩,⟨#[99,111,110,116,105,110,117,101,59,10]⟩,(⟨#[105,102,32,40]⟩++bs++⟨#[41,32,123,10,98,114,101,97,107,59,10,125,10]⟩),(⟨#[105,102,32,40]⟩++vs++⟨#[32,62,32,51,41,32,123,10,99,111,110,116,105,110,117,101,59,10,125,10]⟩)] 40 (fun s hs=>by simp only[List.mem_cons,List.not_mem_nil,or_false]at hs;rcases hs with rfl | rfl | rfl | rfl <;> (first | decide | (simp only[ByteArray.size_append,zK,List.length_cons,List.length_nil];omega))) 9 hr09 (show r9<4 from hr19);have hcu9:w9.cell? ⟨w1.heap.size,r9.toNat,none⟩=some (.string u):=(ho.cell (by rw[zA];omega) (by have:=HM1.out.lt;omega)).trans (hcu w1);have hsw9:w1.heap.size<w9.heap.size:=by have:=ho.size;rw[zA]at this;omega
                   obtain⟨a9,ha9⟩:∃ x,x=a1+1:=⟨_,rfl⟩
                   rw[←ha9]at hm;have HM9:=hid hm;have HO9:=hid ((HO1.out.alloc HM1.out.lt HO1.out.size _).trans (ho.mono (by have:=HO1.out.size;rw[zA];omega)))
                   clear ho hm hcu)
      go_ret;refine⟨_,a9,rfl,?_,by omega,by omega,HO9.out,HM9.out⟩
      first
      | (simp only[ByteArray.size_append,zK,List.length_cons,List.length_nil]
         omega)
      | omega
  · go_wp2_with (fail)
    go_ret;refine⟨_,a1,rfl,?_,by omega,by omega,HO1.out,HM1.out⟩
    first
    | (simp only[ByteArray.size_append,zK,List.length_cons,List.length_nil]
       omega)
    | omega
  · have hq3:¬ r1<3:=by omega
    have he3:(r1 == 3)=false:=by simp;omega
    have he4:(r1 == 4)=false:=by simp;omega
    have he5:(r1 == 5)=false:=by simp;omega
    have he6:(r1 == 6)=false:=by simp;omega
    have he7:(r1 == 7)=false:=by simp;omega
    have hq10:r1<10:=by omega
    have hq12:r1<12:=by omega
    have he12:(r1 == 12)=false:=by simp;omega
    go_wp2_with (fail);go_ret;refine⟨_,a1,rfl,?_,by omega,by omega,HO1.out,HM1.out⟩
    first
    | (simp only[ByteArray.size_append,zK,List.length_cons,List.length_nil]
       omega)
    | omega
  · have hq3:¬ r1<3:=by omega
    have he3:(r1 == 3)=false:=by simp;omega
    have he4:(r1 == 4)=false:=by simp;omega
    have he5:(r1 == 5)=false:=by simp;omega
    have he6:(r1 == 6)=false:=by simp;omega
    have he7:(r1 == 7)=false:=by simp;omega
    have hq10:¬ r1<10:=by omega
    have hq12:r1<12:=by omega
    have he12:(r1 == 12)=false:=by simp;omega
    go_wp2_with (fail);go_ret;refine⟨_,a1,rfl,?_,by omega,by omega,HO1.out,HM1.out⟩
    first
    | (simp only[ByteArray.size_append,zK,List.length_cons,List.length_nil]
       omega)
    | omega
  · by_cases hz:vs=⟨#[122]⟩
    · have hzd:=kU hz
      go_wp2_with (fail);go_ret;refine⟨_,a1,rfl,?_,by omega,by omega,HO1.out,HM1.out⟩
      first
      | (simp only[ByteArray.size_append,zK,List.length_cons,List.length_nil]
         omega)
      | omega
    · have hzd:(vs.toList == [122])=false:=by have:=kV hz;rwa [show (⟨#[122]⟩:ByteArray).toList=[122] by decide+kernel]at this
      go_wp2_with (go_at_call 61;(with_reducible refine(jt (q:=4) (HM1.out.alloc _) (by omega) (by decide) (by decide)).mono ?_);rintro e w9 ⟨r9,hr09,hr19,rfl,ho,hm⟩
                   obtain⟨u,hu,hcu⟩:=jV w1 [⟨#[120]⟩,⟨#[120,32,43,32,49]⟩,⟨#[48]⟩,(⟨#[102,40,120,44,32]⟩++bs++⟨#[41]⟩)] 40 (fun s hs=>by simp only[List.mem_cons,List.not_mem_nil,or_false]at hs;rcases hs with rfl | rfl | rfl | rfl <;> (first | decide | (simp only[ByteArray.size_append,zK,List.length_cons,List.length_nil];omega))) 9 hr09 (show r9<4 from hr19);have hcu9:w9.cell? ⟨w1.heap.size,r9.toNat,none⟩=some (.string u):=(ho.cell (by rw[zA];omega) (by have:=HM1.out.lt;omega)).trans (hcu w1);have hsw9:w1.heap.size<w9.heap.size:=by have:=ho.size;rw[zA]at this;omega
                   obtain⟨a9,ha9⟩:∃ x,x=a1+1:=⟨_,rfl⟩
                   rw[←ha9]at hm;have HM9:=hid hm;have HO9:=hid ((HO1.out.alloc HM1.out.lt HO1.out.size _).trans (ho.mono (by have:=HO1.out.size;rw[zA];omega)))
                   clear ho hm hcu)
      go_ret;refine⟨_,a9,rfl,?_,by omega,by omega,HO9.out,HM9.out⟩
      first
      | (simp only[ByteArray.size_append,zK,List.length_cons,List.length_nil]
         omega)
      | omega
 case neg=>
  obtain⟨m',rfl⟩:∃ m',m=m'+1:=⟨m-1,by omega⟩
  have HIH:=hid (HJ.out m' rfl);have hm3:m'≤3:=by omega
  have hD2:(0 :Int)<D:=by have:=HD.out;omega
  have HD1:=hid (show D-1=(m':Int) by have:=HD.out;omega);have hDx:D≤4:=by have:=HD.out;omega
  have hSz:tS (m'+1)=300+8 * tS m':=rfl;have hPz:tP (m'+1)=100+2 * (4 * tP m'+1):=rfl;have htS':=tS_le m' (by omega);have htP':=tP_le m' (by omega);rcases(show (0≤r1∧r1<3)∨r1=3∨r1=4∨r1=5∨r1=6∨r1=7∨(8≤r1∧r1<10)∨(10≤r1∧r1<12)∨r1=12 from by omega) with⟨hlo,hhi⟩ | rfl | rfl | rfl | rfl | rfl | ⟨hlo,hhi⟩ | ⟨hlo,hhi⟩ | rfl
  · have hq3:r1<3:=by omega
    have he3:(r1 == 3)=false:=by simp;omega
    have he4:(r1 == 4)=false:=by simp;omega
    have he5:(r1 == 5)=false:=by simp;omega
    have he6:(r1 == 6)=false:=by simp;omega
    have he7:(r1 == 7)=false:=by simp;omega
    have hq10:r1<10:=by omega
    have hq12:r1<12:=by omega
    have he12:(r1 == 12)=false:=by simp;omega
    go_wp2_with (go_at_call 27;(with_reducible refine(xf (m:=2) (D:=2) (by decide) (by decide) HM1.out (by omega) hvs hbs).mono ?_);rintro e w2 ⟨s2,a2,rfl,hs2,hl2,hu2,ho,hm⟩
                 have HM2:=hid hm;have HO2:=hid (HO1.out.trans (ho.mono HO1.out.size))
                 clear ho hm)
    go_ret;refine⟨_,a2,rfl,?_,by omega,by omega,HO2.out,HM2.out⟩
    first
    | (simp only[ByteArray.size_append,zK,List.length_cons,List.length_nil]
       omega)
    | omega
  · go_wp2_with (go_at_call 28;(with_reducible refine(uQ (m:=2) (D:=2) (by decide) (by decide) HM1.out (by omega) hvs hbs).mono ?_);rintro e w2 ⟨s2,a2,rfl,hs2,hl2,hu2,ho,hm⟩
                 have HM2:=hid hm;have HO2:=hid (HO1.out.trans (ho.mono HO1.out.size))
                 clear ho hm)
    go_ret;refine⟨_,a2,rfl,?_,by omega,by omega,HO2.out,HM2.out⟩
    first
    | (simp only[ByteArray.size_append,zK,List.length_cons,List.length_nil]
       omega)
    | omega
  · go_wp2_with (go_at_call 27;(with_reducible refine(xf (m:=2) (D:=2) (by decide) (by decide) HM1.out (by omega) hvs hbs).mono ?_);rintro e w2 ⟨s2,a2,rfl,hs2,hl2,hu2,ho,hm⟩
                 have HM2:=hid hm;have HO2:=hid (HO1.out.trans (ho.mono HO1.out.size))
                 clear ho hm)
    go_ret;refine⟨_,a2,rfl,?_,by omega,by omega,HO2.out,HM2.out⟩
    first
    | (simp only[ByteArray.size_append,zK,List.length_cons,List.length_nil]
       omega)
    | omega
  · go_wp2_with (first
     | (go_at_call 27;(with_reducible refine(xf (m:=1) (D:=1) (by decide) (by decide) HM1.out (by omega) hvs hbs).mono ?_);rintro e w2 ⟨s2,a2,rfl,hs2,hl2,hu2,ho,hm⟩
        have HM2:=hid hm;have HO2:=hid (HO1.out.trans (ho.mono HO1.out.size))
        clear ho hm)
     | (go_at_call 27;(with_reducible refine(xf (m:=2) (D:=2) (by decide) (by decide) HM2.out (by omega) hvs hbs).mono ?_);rintro e w3 ⟨s3,a3,rfl,hs3,hl3,hu3,ho,hm⟩
        have HM3:=hid hm;have HO3:=hid (HO2.out.trans (ho.mono HO2.out.size))
        clear ho hm))
    go_ret;refine⟨_,a3,rfl,?_,by omega,by omega,HO3.out,HM3.out⟩
    first
    | (simp only[ByteArray.size_append,zK,List.length_cons,List.length_nil]
       omega)
    | omega
  · cases lp
    · go_upto_if 135 with(first
       | (go_at_call 28;(with_reducible refine(uQ (m:=2) (D:=2) (by decide) (by decide) HM1.out (by omega) hvs hbs).mono ?_);rintro e w2 ⟨s2,a2,rfl,hs2,hl2,hu2,ho,hm⟩
          have HM2:=hid hm;have HO2:=hid (HO1.out.trans (ho.mono HO1.out.size))
          clear ho hm)
       | (go_at_call 26;(with_reducible refine(BlkC.call (D:=D-1) HIH.out hm3 HD1.out HM2.out (by omega) hvs hbs).mono ?_);rintro e w3 ⟨s3,a3,rfl,hs3,hl3,hu3,ho,hm⟩
          have HM3:=hid hm;have HO3:=hid (HO2.out.trans (ho.mono HO2.out.size))
          clear ho hm)
       | (go_at_call 61;(with_reducible refine(jt (q:=2) HM3.out (by omega) (by decide) (by decide)).mono ?_);rintro e w5 ⟨r5,hr05,hr15,rfl,ho,hm⟩
          have HM5:=hid hm;have HO5:=hid (HO3.out.trans (ho.mono HO3.out.size));obtain⟨a5,ha5⟩:∃ x,x=a3+1:=⟨_,rfl⟩
          rw[←ha5]at HM5
          clear ho hm))
      rcases(show r5=1∨¬ r5=1 from by omega) with rfl | h5
      · go_wp2_with (go_at_call 26;(with_reducible refine(BlkC.call (D:=D-1) HIH.out hm3 HD1.out HM5.out (by omega) hvs hbs).mono ?_);rintro e w6 ⟨s6,a6,rfl,hs6,hl6,hu6,ho,hm⟩
                     have HM6:=hid hm;have HO6:=hid (HO5.out.trans (ho.mono HO5.out.size))
                     clear ho hm)
        go_ret;refine⟨_,a6,rfl,?_,by omega,by omega,HO6.out,HM6.out⟩
        first
        | (simp only[ByteArray.size_append,zK,List.length_cons,List.length_nil]
           omega)
        | omega
      · have h5b:(r5 == 1)=false:=by simp;omega
        go_wp2_with (fail);go_ret;refine⟨_,a5,rfl,?_,by omega,by omega,HO5.out,HM5.out⟩
        first
        | (simp only[ByteArray.size_append,zK,List.length_cons,List.length_nil]
           omega)
        | omega
    · go_wp2_with (go_at_call 61;(with_reducible refine(jt (q:=4) (HM1.out.alloc _) (by omega) (by decide) (by decide)).mono ?_);rintro e w9 ⟨r9,hr09,hr19,rfl,ho,hm⟩
                   obtain⟨u,hu,hcu⟩:=jV w1 [⟨#[98,114,101,97,107,59,10]⟩,⟨#[99,111,110,116,105,110,117,101,59,10]⟩,(⟨#[105,102,32,40]⟩++bs++⟨#[41,32,123,10,98,114,101,97,107,59,10,125,10]⟩),(⟨#[105,102,32,40]⟩++vs++⟨#[32,62,32,51,41,32,123,10,99,111,110,116,105,110,117,101,59,10,125,10]⟩)] 40 (fun s hs=>by simp only[List.mem_cons,List.not_mem_nil,or_false]at hs;rcases hs with rfl | rfl | rfl | rfl <;> (first | decide | (simp only[ByteArray.size_append,zK,List.length_cons,List.length_nil];omega))) 9 hr09 (show r9<4 from hr19);have hcu9:w9.cell? ⟨w1.heap.size,r9.toNat,none⟩=some (.string u):=(ho.cell (by rw[zA];omega) (by have:=HM1.out.lt;omega)).trans (hcu w1);have hsw9:w1.heap.size<w9.heap.size:=by have:=ho.size;rw[zA]at this;omega
                   obtain⟨a9,ha9⟩:∃ x,x=a1+1:=⟨_,rfl⟩
                   rw[←ha9]at hm;have HM9:=hid hm;have HO9:=hid ((HO1.out.alloc HM1.out.lt HO1.out.size _).trans (ho.mono (by have:=HO1.out.size;rw[zA];omega)))
                   clear ho hm hcu)
      go_ret;refine⟨_,a9,rfl,?_,by omega,by omega,HO9.out,HM9.out⟩
      first
      | (simp only[ByteArray.size_append,zK,List.length_cons,List.length_nil]
         omega)
      | omega
  · go_wp2_with (first
     | (go_at_call 27;(with_reducible refine(xf (m:=1) (D:=1) (by decide) (by decide) HM1.out (by omega) hvs hbs).mono ?_);rintro e w2 ⟨s2,a2,rfl,hs2,hl2,hu2,ho,hm⟩
        have HM2:=hid hm;have HO2:=hid (HO1.out.trans (ho.mono HO1.out.size))
        clear ho hm)
     | (go_at_call 28;(with_reducible refine(uQ (m:=1) (D:=1) (by decide) (by decide) HM2.out (by omega) (by decide) hbs).mono ?_);rintro e w3 ⟨s3,a3,rfl,hs3,hl3,hu3,ho,hm⟩
        have HM3:=hid hm;have HO3:=hid (HO2.out.trans (ho.mono HO2.out.size))
        clear ho hm)
     | (go_at_call 26;(with_reducible refine(BlkC.call (D:=D-1) HIH.out hm3 HD1.out HM3.out (by omega) (by decide) (by decide)).mono ?_);rintro e w4 ⟨s4,a4,rfl,hs4,hl4,hu4,ho,hm⟩
        have HM4:=hid hm;have HO4:=hid (HO3.out.trans (ho.mono HO3.out.size))
        clear ho hm))
    go_ret;refine⟨_,a4,rfl,?_,by omega,by omega,HO4.out,HM4.out⟩
    first
    | (simp only[ByteArray.size_append,zK,List.length_cons,List.length_nil]
       omega)
    | omega
  · have hq3:¬ r1<3:=by omega
    have he3:(r1 == 3)=false:=by simp;omega
    have he4:(r1 == 4)=false:=by simp;omega
    have he5:(r1 == 5)=false:=by simp;omega
    have he6:(r1 == 6)=false:=by simp;omega
    have he7:(r1 == 7)=false:=by simp;omega
    have hq10:r1<10:=by omega
    have hq12:r1<12:=by omega
    have he12:(r1 == 12)=false:=by simp;omega
    go_upto_if 135 with(first
     | (go_at_call 28;(with_reducible refine(uQ (m:=2) (D:=2) (by decide) (by decide) HM1.out (by omega) hvs hbs).mono ?_);rintro e w2 ⟨s2,a2,rfl,hs2,hl2,hu2,ho,hm⟩
        have HM2:=hid hm;have HO2:=hid (HO1.out.trans (ho.mono HO1.out.size))
        clear ho hm)
     | (go_at_call 26;(with_reducible refine(BlkC.call (D:=D-1) HIH.out hm3 HD1.out HM2.out (by omega) hvs hbs).mono ?_);rintro e w3 ⟨s3,a3,rfl,hs3,hl3,hu3,ho,hm⟩
        have HM3:=hid hm;have HO3:=hid (HO2.out.trans (ho.mono HO2.out.size))
        clear ho hm)
     | (go_at_call 61;(with_reducible refine(jt (q:=2) HM3.out (by omega) (by decide) (by decide)).mono ?_);rintro e w5 ⟨r5,hr05,hr15,rfl,ho,hm⟩
        have HM5:=hid hm;have HO5:=hid (HO3.out.trans (ho.mono HO3.out.size));obtain⟨a5,ha5⟩:∃ x,x=a3+1:=⟨_,rfl⟩
        rw[←ha5]at HM5
        clear ho hm))
    rcases(show r5=1∨¬ r5=1 from by omega) with rfl | h5
    · go_wp2_with (go_at_call 26;(with_reducible refine(BlkC.call (D:=D-1) HIH.out hm3 HD1.out HM5.out (by omega) hvs hbs).mono ?_);rintro e w6 ⟨s6,a6,rfl,hs6,hl6,hu6,ho,hm⟩
                   have HM6:=hid hm;have HO6:=hid (HO5.out.trans (ho.mono HO5.out.size))
                   clear ho hm)
      go_ret;refine⟨_,a6,rfl,?_,by omega,by omega,HO6.out,HM6.out⟩
      first
      | (simp only[ByteArray.size_append,zK,List.length_cons,List.length_nil]
         omega)
      | omega
    · have h5b:(r5 == 1)=false:=by simp;omega
      go_wp2_with (fail);go_ret;refine⟨_,a5,rfl,?_,by omega,by omega,HO5.out,HM5.out⟩
      first
      | (simp only[ByteArray.size_append,zK,List.length_cons,List.length_nil]
         omega)
      | omega
  · have hq3:¬ r1<3:=by omega
    have he3:(r1 == 3)=false:=by simp;omega
    have he4:(r1 == 4)=false:=by simp;omega
    have he5:(r1 == 5)=false:=by simp;omega
    have he6:(r1 == 6)=false:=by simp;omega
    have he7:(r1 == 7)=false:=by simp;omega
    have hq10:¬ r1<10:=by omega
    have hq12:r1<12:=by omega
    have he12:(r1 == 12)=false:=by simp;omega
    go_wp2_with (first
     | (go_at_call 28;(with_reducible refine(uQ (m:=1) (D:=1) (by decide) (by decide) HM1.out (by omega) hvs hbs).mono ?_);rintro e w2 ⟨s2,a2,rfl,hs2,hl2,hu2,ho,hm⟩
        have HM2:=hid hm;have HO2:=hid (HO1.out.trans (ho.mono HO1.out.size))
        clear ho hm)
     | (go_at_call 26;(with_reducible refine(BlkC.call (D:=D-1) HIH.out hm3 HD1.out HM2.out (by omega) hvs hbs).mono ?_);rintro e w3 ⟨s3,a3,rfl,hs3,hl3,hu3,ho,hm⟩
        have HM3:=hid hm;have HO3:=hid (HO2.out.trans (ho.mono HO2.out.size))
        clear ho hm)
     | (go_at_call 61;(with_reducible refine(jt (q:=3) (HM3.out.alloc _) (by omega) (by decide) (by decide)).mono ?_);rintro e w9 ⟨r9,hr09,hr19,rfl,ho,hm⟩
        obtain⟨u,hu,hcu⟩:=jV w3 [⟨#[52]⟩,⟨#[57]⟩,⟨#[51,48]⟩] 2 (by decide) 9 hr09 (show r9<3 from hr19);have hcu9:w9.cell? ⟨w3.heap.size,r9.toNat,none⟩=some (.string u):=(ho.cell (by rw[zA];omega) (by have:=HM3.out.lt;omega)).trans (hcu w3);have hsw9:w3.heap.size<w9.heap.size:=by have:=ho.size;rw[zA]at this;omega
        obtain⟨a9,ha9⟩:∃ x,x=a3+1:=⟨_,rfl⟩
        rw[←ha9]at hm;have HM9:=hid hm;have HO9:=hid ((HO3.out.alloc HM3.out.lt HO3.out.size _).trans (ho.mono (by have:=HO3.out.size;rw[zA];omega)))
        clear ho hm hcu))
    go_ret;refine⟨_,a9,rfl,?_,by omega,by omega,HO9.out,HM9.out⟩
    first
    | (simp only[ByteArray.size_append,zK,List.length_cons,List.length_nil]
       omega)
    | omega
  · by_cases hz:vs=⟨#[122]⟩
    · have hzd:=kU hz
      go_wp2_with (fail);go_ret;refine⟨_,a1,rfl,?_,by omega,by omega,HO1.out,HM1.out⟩
      first
      | (simp only[ByteArray.size_append,zK,List.length_cons,List.length_nil]
         omega)
      | omega
    · have hzd:(vs.toList == [122])=false:=by have:=kV hz;rwa [show (⟨#[122]⟩:ByteArray).toList=[122] by decide+kernel]at this
      go_wp2_with (go_at_call 61;(with_reducible refine(jt (q:=4) (HM1.out.alloc _) (by omega) (by decide) (by decide)).mono ?_);rintro e w9 ⟨r9,hr09,hr19,rfl,ho,hm⟩
                   obtain⟨u,hu,hcu⟩:=jV w1 [⟨#[120]⟩,⟨#[120,32,43,32,49]⟩,⟨#[48]⟩,(⟨#[102,40,120,44,32]⟩++bs++⟨#[41]⟩)] 40 (fun s hs=>by simp only[List.mem_cons,List.not_mem_nil,or_false]at hs;rcases hs with rfl | rfl | rfl | rfl <;> (first | decide | (simp only[ByteArray.size_append,zK,List.length_cons,List.length_nil];omega))) 9 hr09 (show r9<4 from hr19);have hcu9:w9.cell? ⟨w1.heap.size,r9.toNat,none⟩=some (.string u):=(ho.cell (by rw[zA];omega) (by have:=HM1.out.lt;omega)).trans (hcu w1);have hsw9:w1.heap.size<w9.heap.size:=by have:=ho.size;rw[zA]at this;omega
                   obtain⟨a9,ha9⟩:∃ x,x=a1+1:=⟨_,rfl⟩
                   rw[←ha9]at hm;have HM9:=hid hm;have HO9:=hid ((HO1.out.alloc HM1.out.lt HO1.out.size _).trans (ho.mono (by have:=HO1.out.size;rw[zA];omega)))
                   clear ho hm hcu)
      go_ret;refine⟨_,a9,rfl,?_,by omega,by omega,HO9.out,HM9.out⟩
      first
      | (simp only[ByteArray.size_append,zK,List.length_cons,List.length_nil]
         omega)
      | omega
theorem bs_all:∀ m,BlkC m∧StmC m:=fun m=>by
 induction m with
 | zero=>
   have h:=stmt_step 0 fun m' h=>absurd h (by omega)
   exact⟨block_step 0 h,h⟩
 | succ m ih=>
   have h:=stmt_step (m+1) fun m' h=>(show m=m' by omega) ▸ ih.1
   exact⟨block_step (m+1) h,h⟩
theorem bind_ok {α β:Type} (a:α) (r:List Tok) (f:α→List Tok→PR β):(PR.ok a r).bind f=f a r:=rfl
theorem len0 {α:Type} {l:List α} (h:l.length=0):l=[]:=List.eq_nil_of_length_eq_zero h
end Go.Proofs.YtfghofifjnbicaaGreatDoor
