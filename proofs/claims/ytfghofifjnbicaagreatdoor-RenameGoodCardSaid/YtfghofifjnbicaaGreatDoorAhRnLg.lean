import Derived.Test.YtfghofifjnbicaaGreatDoorAhZed
import Derived.Test.YtfghofifjnbicaaGreatDoorAhRnAw
import Derived.Test.YtfghofifjnbicaaGreatDoorRows
import Derived.ShutString
import Derived.ProofKit
import Derived.OpenShut
import Derived.LaidMore
import Derived.Lay
import Derived.LaidSub
import Derived.Lib.LaidTab
import Derived.Lib.SmallJoins
import Derived.SevenTiedAt
import Derived.Stop.Joined
import Derived.ChangeOld
set_option linter.unusedSimpArgs false
set_option linter.unusedVariables false
set_option maxRecDepth 100000
/- The law of good programs. (By tools/gen_rnlb.py.) -/
namespace Go.Proofs.YtfghofifjnbicaaGreatDoor
open Lib (hid)
open Go.RowKit
set_option maxHeartbeats 4000000 in
theorem lrgood_any (B:Nat) (v:Value) (w:World) (ht:TreeTab B w) (hB:B≤w.heap.size) (hv:vr w v):Calls Tryz.prog 4 #[v] w fun e w'=>e=.returned (.bool true)∧Below w.heap.size w w':=by
 have HT:=hid ht;have HV:=hid hv;clear ht hv;go_enter Tryz.func4,Tryz.ntmps4
 go_upto_region 2 with(go_at_call 12;(with_reducible refine(good_any B v w HT.out hB HV.out).mono ?_);rintro e w2 ⟨p,A0,c0,A1,c1,rfl,hb,hg,hsm⟩
                       obtain⟨k1,k2,k3,k4⟩:=hg.box;have HG2:=hid k4;have HX2:=hid k2;have HB2:=hid (hb.trans (k1.mono hb.size));have HSM:=hid hsm;have hz2:w.heap.size≤w2.heap.size:=hb.size;have hz2':=k3
                       clear hb hg k1 k2 k3 k4 hsm)
 obtain⟨q,k,hq⟩:∃ q k,uA p=(q,k):=⟨_,_,rfl⟩
 have HRQ:=hid hq;clear hq;generalize w2.alloc (pgO A0 p.arrays.length c0 A1 p.funcs.length c1)=W2 at *;have hz2a:=Nat.le_of_eq hz2';have hz2b:=Nat.le_of_eq hz2'.symm;clear hz2';obtain⟨⟨a0,a1⟩,az⟩:=zE HX2.out;have hs2:w2.heap.size<W2.heap.size:=by omega
 go_upto_region 3 with(go_at_call 8;(with_reducible refine(HG2.out.ren HSM.out HRQ.out).mono ?_);rintro e w3 ⟨A2,c2,A3,c3,rfl,hb,hg⟩
                       obtain⟨k1,k2,k3,k4⟩:=hg.box;have HG3:=hid k4;have HX3:=hid k2;have HB3:=hid ((HB2.out.trans (hb.mono (by omega))).trans (k1.mono (by have:=hb.size;omega)));have HQ3:=hid ((HG2.out.below hb).below (k1.mono Zr));have HY3:=hid ((k1.block w2.heap.size (by have:=hb.size;omega)).trans ((hb.block w2.heap.size (by omega)).trans HX2.out));have hz3:W2.heap.size≤w3.heap.size:=hb.size;have hz3':=k3
                       clear hb hg k1 k2 k3 k4)
 generalize w3.alloc (pgO A2 q.arrays.length c2 A3 q.funcs.length c3)=W3 at *;have hz3a:=Nat.le_of_eq hz3';have hz3b:=Nat.le_of_eq hz3'.symm;clear hz3' a0 a1 az;obtain⟨⟨a0,a1⟩,az⟩:=zE HY3.out;have hs3:w2.heap.size<W3.heap.size:=by omega
 go_upto_region 4 with(go_at_call 9;(with_reducible refine(HQ3.out.rren HSM.out HRQ.out).mono ?_);rintro e w4 ⟨A4,c4,A5,c5,rfl,hb,hg⟩
                       obtain⟨k1,k2,k3,k4⟩:=hg.box;have HG4:=hid k4;have HX4:=hid k2;have HB4:=hid ((HB3.out.trans (hb.mono (by omega))).trans (k1.mono (by have:=hb.size;omega)));have HP4:=hid ((HG3.out.below hb).below (k1.mono Zr));have HY4:=hid ((k1.block w3.heap.size (by have:=hb.size;omega)).trans ((hb.block w3.heap.size (by omega)).trans HX3.out));have hz4:W3.heap.size≤w4.heap.size:=hb.size;have hz4':=k3
                       clear hb hg k1 k2 k3 k4)
 generalize w4.alloc (pgO A4 q.arrays.length c4 A5 q.funcs.length c5)=W4 at *;have hz4a:=Nat.le_of_eq hz4';have hz4b:=Nat.le_of_eq hz4'.symm;clear hz4' a0 a1 az;have HT4:=hid (HT.out.below (HB4.out.mono hB))
 go_wp2_with (first
  | (go_at_call 10;(with_reducible refine(rawake_any B W4 HT4.out (by omega)).mono ?_);rintro e w5 ⟨rfl,hb⟩
     have HB5:=hid (HB4.out.trans (hb.mono (by omega)));have HG5:=hid (HG4.out.below hb);have HP5:=hid (HP4.out.below hb);have hz5:W4.heap.size≤w5.heap.size:=hb.size;have hx5:=(hb.block w4.heap.size (by omega)).trans HX4.out;have hy5:=(hb.block w3.heap.size (by omega)).trans HY4.out;obtain⟨⟨x0,x1⟩,xz⟩:=zE hx5;obtain⟨⟨y0,y1⟩,yz⟩:=zE hy5;have hs4:w4.heap.size<w5.heap.size:=by omega
     have hs5:w3.heap.size<w5.heap.size:=by omega
     have HSS:=hid ((HP5.out.mono (show w3.heap.size≤w5.heap.size by omega) Zr).same (HG5.out.mono (show w4.heap.size≤w5.heap.size by omega) Zr))
     clear hb hx5 hy5)
  | (go_at_call 11;(with_reducible refine(HSS.out).mono ?_);rintro e w6 ⟨rfl,hb⟩
     have HB6:=hid (HB5.out.trans (hb.mono (by omega)))
     clear hb))
 go_ret;exact⟨zC (by simp),HB6.out⟩
end Go.Proofs.YtfghofifjnbicaaGreatDoor
namespace Go.Proofs.YtfghofifjnbicaaGreatDoor
open Lib (hid)
open Go.ChangeShapes Go.WideShapes Go.ChangeAt Go.RowKit
theorem laidOut:laidOutB Tryz.prog=true:=by kernel_rfl
theorem own:ownKnob Tryz.prog.godebug=none:=by kernel_rfl
abbrev jZ:List (String × DataW Unit):=[("boxhedge/wrap.rows",Rows.laid_boxhedge_wrap_rows),("math/bits.deBruijn32tab",Rows.laid_math_bits_deBruijn32tab),("math/bits.deBruijn64tab",Rows.laid_math_bits_deBruijn64tab),("internal/strconv.uint64pow10",Rows.laid_internal_strconv_uint64pow10)]
theorem plain_of {W:World} (h:laidMetH Tryz.prog jZ W):laidMet Tryz.prog jZ W:=by
 rw[MakeChecks.laidMetH_plain _ _ _ (by kernel_rfl)]at h;exact h
theorem filt (n:String) (d:DataW Unit) {W:World} (h:laidMet Tryz.prog jZ W) (e:(jZ.filter fun x=>x.1 == n)=[(n,d)]):laidMet Tryz.prog [(n,d)] W:=by
 have:=h.filter (fun x=>x.1 == n);rwa [e]at this
theorem gRows:Tryz.prog.globalNamed "boxhedge/wrap.rows" =some 1:=by kernel_rfl
theorem tRows:(Tryz.prog.globals[1]?).map (·.type)=some 184:=by kernel_rfl
theorem cellsRow:Tryz.prog.cellsOf 176=2:=by kernel_rfl
theorem cellsStr:Tryz.prog.cellsOf 9=1:=by kernel_rfl
theorem cellsInt:Tryz.prog.cellsOf 3=1:=by kernel_rfl
theorem toList_inj {s:ByteArray} {l:List UInt8} (h:s.data.toList=l):s=⟨l.toArray⟩:=by
 subst h;cases s;simp
theorem row_cells {W:World} {fuel:Nat} {cs:List Value} {b:List UInt8} {n:Int} {p:List MemPlace}
 (h:DataW.trod (fun _=>()) Tryz.prog W 0 (fun _=>true) false fuel 176 cs=some (.agg [.lit (.string b),.lit (.int .i64 n)],p)):
 cs[0]? =some (.string ⟨b.toArray⟩)∧cs[1]? =some (.int .i64 n):=by
 obtain⟨y0,y1,m,hx,hl,h0,h1⟩:=trod_struct2 Tryz.underlying176 h;rw[cellsStr]at h0;rw[cellsInt]at h1;obtain⟨s,e1,e2,_⟩:=DataW.trod_string Tryz.underlying9 h0;obtain⟨k,e3,e4,_⟩:=DataW.trod_int Tryz.underlying3 h1;subst e2 e4;simp only[Prod.mk.injEq,DataW.agg.injEq,List.cons.injEq,DataW.lit.injEq,Lit.string.injEq,Lit.int.injEq,true_and,and_true]at hx;obtain⟨⟨hs,hk⟩,_⟩:=hx;rw[cellsRow]at hl
 match cs,hl with
 | [c0,c1],_=>
   simp at e1 e3;subst e1 e3 hk;refine⟨?_,rfl⟩;rw[toList_inj hs.symm];rfl
theorem rows_of_laid {W:World} (h:laidMet Tryz.prog [("boxhedge/wrap.rows",Rows.laid_boxhedge_wrap_rows)] W):Tab W:=by
 obtain⟨ps,⟨g0,t0,cs0,f0,p0,q0,hg0,ht0,hv0,hd0,_,_⟩,_,_⟩:=h;obtain rfl:=Option.some.inj (gRows.symm.trans hg0);obtain rfl:=Option.some.inj (tRows.symm.trans ht0);obtain⟨xs,m1,rfl,hx1,hlen,hn,hel⟩:=DataW.trod_array Tryz.underlying184 hd0;intro k hk
 have hcell:∀ j,W.cell? ⟨1,j,none⟩=cs0.toList[j]?:=by
  intro j;have:=World.var?_cell hg0 hv0 j;simpa using this
 have h1:=hel k (by omega);rw[cellsRow]at h1
 have hxs:(xs.map (·.1))[k]? =some (.agg [.lit (.string (sgnL.getD k [])),.lit (.int .i64 (lvlL.getD k 0))]):=by
  have hx1':=congrArg Prod.fst hx1;unfold Rows.laid_boxhedge_wrap_rows at hx1';simp only[DataW.agg.injEq]at hx1';rw[←hx1'];obtain rfl | rfl | rfl | rfl | rfl | rfl | rfl | rfl | rfl | rfl | rfl | rfl | rfl | rfl | rfl | rfl | rfl | rfl | rfl | rfl | rfl | rfl | rfl | rfl | rfl | rfl | rfl | rfl | rfl:k=0∨k=1∨k=2∨k=3∨k=4∨k=5∨k=6∨k=7∨k=8∨k=9∨k=10∨k=11∨k=12∨k=13∨k=14∨k=15∨k=16∨k=17∨k=18∨k=19∨k=20∨k=21∨k=22∨k=23∨k=24∨k=25∨k=26∨k=27∨k=28:=by omega
  all_goals rfl
 rw[List.getElem?_map]at hxs;obtain⟨x,hx,hx2⟩:=Option.map_eq_some_iff.1 hxs;rw[hx]at h1;obtain⟨d,p⟩:=x;simp only at hx2;subst hx2;obtain⟨e0,e1⟩:=row_cells h1;rw[hcell,hcell];refine⟨?_,?_⟩
 · have:cs0.toList[k * 2]? =((cs0.toList.drop (k * 2)).take 2)[0]?:=by simp[List.getElem?_drop]
   rw[this,e0];rfl
 · have:cs0.toList[k * 2+1]? =((cs0.toList.drop (k * 2)).take 2)[1]?:=by simp[List.getElem?_drop]
   rw[this,e1];rfl
theorem gPow:Tryz.prog.globalNamed "internal/strconv.uint64pow10" =some 0:=by kernel_rfl
theorem tPow:(Tryz.prog.globals[0]?).map (·.type)=some 179:=by kernel_rfl
theorem cellsU64:Tryz.prog.cellsOf 170=1:=by kernel_rfl
theorem cellsPow:Tryz.prog.cellsOf 179=20:=by kernel_rfl
theorem pow_of_laid {W:World} (h:laidMet Tryz.prog jZ W):Lib.TabIs Tryz.prog W "internal/strconv.uint64pow10" .u64 Lib.pow10Tab:=by
 have h1:=filt "internal/strconv.uint64pow10" Rows.laid_internal_strconv_uint64pow10 h rfl;have e:(Rows.laid_internal_strconv_uint64pow10:DataW Unit)=Lib.tabData .u64 Lib.pow10Tab:=by kernel_rfl
 rw[e]at h1;exact Lib.tabIs_of_head gPow tPow Tryz.underlying179 Tryz.underlying170 cellsU64 cellsPow h1
theorem tab_of_laid {W:World} (h:laidMetH Tryz.prog jZ W):TreeTab W.heap.size W:=by
 have h1:=plain_of h;have ht:=rows_of_laid (filt "boxhedge/wrap.rows" Rows.laid_boxhedge_wrap_rows h1 rfl);exact⟨block_lt_of_cell (ht 0 (by omega)).1,ht,fun w' hb=>Joins.tab_stays gPow (pow_of_laid h1) hb Zr⟩
theorem start_met (os:Os) (args:Array Value):laidMetH Tryz.prog jZ ((World.laidAll Tryz.prog os jZ).forCall (fun _ _=>0) ⟨#[],args,[]⟩).memory:=by
 rw[MakeChecks.laidMetH_plain _ _ _ (by kernel_rfl)];exact laidMet_laidAll _ (by kernel_rfl) (by kernel_rfl)
theorem bytes_in {H:Type} {enc:TypeId × Value→H} {W:World} {base:Nat} {v:Value} {d:DataW H} {p:List MemPlace} (h0:DataW.Trod enc Tryz.prog W 0 (fun _=>true) true 22 v d p) (hv:Value.okWide Tryz.prog W .any base 22 v):vr W v:=by
 obtain⟨a0,len0,cap0,rfl⟩:=okWide_slice Tryz.underlying22 hv;obtain⟨fuel,hf⟩:=h0;rcases open_ints Tryz.underlying22 Tryz.underlying5 (by kernel_rfl) hf with⟨hcs,_⟩ | ⟨x,l,c,zs,hcs,_,hl,hm,hz,_,hcell,hwz⟩
 · simp[Value.cells]at hcs
   obtain⟨rfl,rfl,rfl⟩:=hcs;exact⟨none,0,0,rfl,by omega,fun hp=>absurd hp (by omega)⟩
 · simp[Value.cells]at hcs
   obtain⟨rfl,rfl,rfl⟩:=hcs;have hz':zs.length=cap0:=by simpa using hz
   refine⟨_,len0,cap0,rfl,by unfold maxLen at hm;omega,fun hp=>?_⟩;obtain⟨b,off,spot⟩:=x;have hc:=hcell 0 (by omega);have hspot:spot=none:=by simpa[Addr.add] using World.cell?_spot hc
   subst hspot;have hadd:∀ k,(⟨b,off,none⟩:Addr).add k=⟨b,off+k,none⟩:=fun k=>by unfold Addr.add;split <;> simp_all
   refine⟨b,off,rfl,?_,fun k hk=>?_⟩
   · rw[hadd]at hc
     exact block_lt_of_cell hc
   · have h1:=hcell k (by omega)
     rw[hadd]at h1;exact⟨zs.getD k 0,(range_u8 hwz k).1,(range_u8 hwz k).2,h1⟩
end Go.Proofs.YtfghofifjnbicaaGreatDoor
