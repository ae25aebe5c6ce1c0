import Derived.Test.YtfghofifjnbicaaGreatDoorAhZed
import Derived.Test.YtfghofifjnbicaaGreatDoorAhTreeRefD
import Derived.Test.YtfghofifjnbicaaGreatDoorAhTyLs
import Derived.Deep.RegionLaw
set_option linter.unusedSimpArgs false
set_option linter.unusedVariables false
set_option maxRecDepth 100000
/- The law's maker: what a call asks and leaves; strings in a row. (By tools/gen_rnmk.py.) -/
namespace Go.Proofs.YtfghofifjnbicaaGreatDoor
open Lib (hid)
open Go.RowKit
structure MkIn (b N:Nat) (v:Value) (a:Nat) (w:World):Prop where
 box:w.heap[b]? =some (mkO v (a:Int))
 bytes:BytesH N b w v
 le:N≤w.heap.size
section
variable {b N a a':Nat} {v:Value} {w w':World}
theorem MkIn.lt (h:MkIn b N v a w):b<w.heap.size:=zB h.box
theorem MkIn.step (h:MkIn b N v a w) (ho:OffB b w.heap.size w w') (hx:w'.heap[b]? =some (mkO v (a':Int))):MkIn b N v a' w':=⟨hx,h.bytes.off (ho.mono h.le),Nat.le_trans h.le ho.size⟩
theorem MkIn.below (h:MkIn b N v a w) (hb:Below w.heap.size w w'):MkIn b N v a w':=h.step (OffB.of_below hb h.lt) ((hb.block b h.lt).trans h.box)
theorem MkIn.alloc (h:MkIn b N v a w) (o:Obj):MkIn b N v a (w.alloc o):=h.below (Zb.alloc Zr o)
theorem MkIn.drew (h:MkIn b N v a w):MkIn b N v a w.drew:=h.below Zb.drew
end
def kW (S P b N:Nat) (v:Value) (a:Nat) (w:World) (e:Ending) (w':World):Prop:=
 ∃ (s:ByteArray) (a':Nat),e=.returned (.string s)∧s.size≤S∧a≤a'∧a'≤a+P∧OffB b w.heap.size w w'∧MkIn b N v a' w'
theorem jt {b N a:Nat} {v:Value} {w:World} (h:MkIn b N v a w) (ha:a≤1000000000) {q:Int} (hq:0<q) (hq2:q≤1000000):
 Calls Tryz.prog 61 #[.pointer (some ⟨b,0,none⟩),.int .i64 q] w fun e w'=>∃ r:Int,0≤r∧r<q∧e=.returned (.int .i64 r)∧OffB b w.heap.size w w'∧MkIn b N v (a+1) w':=
 (pick_any b a N v q w h.box h.bytes h.le ha hq hq2).mono fun _ _ ⟨r,h0,h1,he,ho,hx⟩=>⟨r,h0,h1,he,ho,h.step ho hx⟩
theorem jV (w:World) (L:List ByteArray) (n:Nat) (hL:∀ s ∈ L,s.size≤n) (T:TypeId) {r:Int} (h0:0≤r) (h1:r<(L.length:Int)):
 ∃ u:ByteArray,u.size≤n∧∀ W:World,(W.alloc (.cells (L.map Value.string).toArray T)).cell? ⟨W.heap.size,r.toNat,none⟩=some (.string u):=by
 have hj:r.toNat<L.length:=by omega
 refine⟨L[r.toNat],hL _ (List.getElem_mem hj),fun W=>(Lib.cell_of_heap (heap_alloc_new W _) r.toNat).trans ?_⟩;rw[List.getElem?_toArray,List.getElem?_map,List.getElem?_eq_getElem hj];rfl
def szD:Nat→Nat
 | 0=>12
 | d+1=>2 * szD d+8
def pD:Nat→Nat
 | 0=>3
 | d+1=>2 * pD d+2
theorem szD_ge (d:Nat):12≤szD d:=by induction d with | zero=>exact Nat.le_refl _ | succ d ih=>rw[szD];omega
theorem szD_gt (d:Nat):d≤szD d:=by induction d with | zero=>exact Nat.zero_le _ | succ d ih=>rw[szD];omega
theorem pD_ge (d:Nat):3≤pD d:=by induction d with | zero=>exact Nat.le_refl _ | succ d ih=>rw[pD];omega
def vK (m:Nat):Prop:=szD m≤1000000→∀ (b N a:Nat) (v:Value) (vs bs:ByteArray) (D:Int) (w:World),D=(m:Int)→MkIn b N v a w→a+pD m≤1000000000→vs.size≤1→bs.size≤1→
 Calls Tryz.prog 27 #[.pointer (some ⟨b,0,none⟩),.string vs,.string bs,.int .i64 D] w (kW (szD m) (pD m) b N v a w)
def TruC (m:Nat):Prop:=szD m≤1000000→∀ (b N a:Nat) (v:Value) (vs bs:ByteArray) (D:Int) (w:World),D=(m:Int)→MkIn b N v a w→a+pD m≤1000000000→vs.size≤1→bs.size≤1→
 Calls Tryz.prog 28 #[.pointer (some ⟨b,0,none⟩),.string vs,.string bs,.int .i64 D] w (kW (szD m) (pD m) b N v a w)
theorem vK.call {m:Nat} (h:vK m) (h0:szD m≤1000000) {b N a:Nat} {v:Value} {vs bs:ByteArray} {D:Int} {w:World} (h1:D=(m:Int)) (h2:MkIn b N v a w) (h3:a+pD m≤1000000000) (h4:vs.size≤1) (h5:bs.size≤1):
 Calls Tryz.prog 27 #[.pointer (some ⟨b,0,none⟩),.string vs,.string bs,.int .i64 D] w (kW (szD m) (pD m) b N v a w):=h h0 b N a v vs bs D w h1 h2 h3 h4 h5
theorem TruC.call {m:Nat} (h:TruC m) (h0:szD m≤1000000) {b N a:Nat} {v:Value} {vs bs:ByteArray} {D:Int} {w:World} (h1:D=(m:Int)) (h2:MkIn b N v a w) (h3:a+pD m≤1000000000) (h4:vs.size≤1) (h5:bs.size≤1):
 Calls Tryz.prog 28 #[.pointer (some ⟨b,0,none⟩),.string vs,.string bs,.int .i64 D] w (kW (szD m) (pD m) b N v a w):=h h0 b N a v vs bs D w h1 h2 h3 h4 h5
theorem vi {w:World} {l:List Value} {T:TypeId} {j:Nat} {u:Value} (h:(w.alloc (.cells l.toArray T)).cell? ⟨w.heap.size,j,none⟩=some u) (hj:j<l.length):l[j]'hj=u:=by
 have h1:=(Lib.cell_of_heap (heap_alloc_new w (.cells l.toArray T)) j).symm.trans h;rw[List.getElem?_toArray,List.getElem?_eq_getElem hj]at h1;exact Option.some.inj h1
theorem zK (l:List UInt8):(⟨l.toArray⟩:ByteArray).size=l.length:=rfl
set_option maxHeartbeats 8000000 in
theorem num_step (m:Nat) (ih:∀ m',m'+1=m→vK m'∧TruC m'):vK m:=by
 intro hmx b N a0 v vs bs D w hD hM ha hvs hbs;have hpm:=pD_ge m;have hzm:=szD_ge m;have HM0:=hid hM;have HO0:=hid (OffB.refl b w.heap.size w);have hw0:w.heap.size≤w.heap.size:=Nat.le_refl _;have HJ:=hid ih;have HD:=hid hD;clear hM ih hD;go_enter Tryz.func27,Tryz.ntmps27
 go_upto_region 2 with(go_at_call 61;(with_reducible refine(jt (q:=14) HM0.out (by omega) (by decide) (by decide)).mono ?_);rintro e w1 ⟨r1,hr01,hr11,rfl,ho,hm⟩
                       obtain⟨a1,ha1⟩:∃ x,x=a0+1:=⟨_,rfl⟩
                       rw[←ha1]at hm;have HM1:=hid hm;have HO1:=hid ho
                       clear ho hm)
 by_cases hm0:m=0
 case pos=>
  subst hm0;have hD0:D=0:=by have:=HD.out;simpa using this
  subst hD0;have hrr0:0≤r1 % 6:=Int.emod_nonneg _ (by omega);have hrr1:r1 % 6<6:=Int.emod_lt_of_pos _ (by omega);go_upto_region 4 with(fail);generalize r1 % 6=r at *;have hr0:=hrr0;have hr1:=hrr1;clear hr01 hr11 hrr0 hrr1;rcases(show (0≤r∧r<2)∨(2≤r∧r<5)∨r=5 from by omega) with⟨hlo,hhi⟩ | ⟨hlo,hhi⟩ | rfl
  · have hq2:r<2:=by omega
    have hq5:r<5:=by omega
    have he5:(r == 5)=false:=by simp;omega
    have he6:(r == 6)=false:=by simp;omega
    have he7:(r == 7)=false:=by simp;omega
    have hq11:r<11:=by omega
    have he11:(r == 11)=false:=by simp;omega
    have he12:(r == 12)=false:=by simp;omega
    go_wp2_with (go_at_call 61;(with_reducible refine(jt (q:=6) (HM1.out.alloc _) (by omega) (by decide) (by decide)).mono ?_);rintro e w2 ⟨r2,hr02,hr12,rfl,ho,hm⟩
                 obtain⟨u,hu,hcu⟩:=jV w1 [⟨#[48]⟩,⟨#[49]⟩,⟨#[50]⟩,⟨#[55]⟩,⟨#[50,53,53]⟩,⟨#[54,52]⟩] 3 (by decide) 9 hr02 (show r2<6 from hr12);have hcu2:w2.cell? ⟨w1.heap.size,r2.toNat,none⟩=some (.string u):=(ho.cell (by rw[zA];omega) (by have:=HM1.out.lt;omega)).trans (hcu w1);have hsw2:w1.heap.size<w2.heap.size:=by have:=ho.size;rw[zA]at this;omega
                 obtain⟨a2,ha2⟩:∃ x,x=a1+1:=⟨_,rfl⟩
                 rw[←ha2]at hm;have HM2:=hid hm;have HO2:=hid ((HO1.out.alloc HM1.out.lt HO1.out.size _).trans (ho.mono (by have:=HO1.out.size;rw[zA];omega)))
                 clear ho hm hcu)
    go_ret;refine⟨_,a2,rfl,?_,by omega,by omega,HO2.out,HM2.out⟩
    first
    | (simp only[ByteArray.size_append,zK,List.length_cons,List.length_nil]
       omega)
    | omega
  · have hq2:¬ r<2:=by omega
    have hq5:r<5:=by omega
    have he5:(r == 5)=false:=by simp;omega
    have he6:(r == 6)=false:=by simp;omega
    have he7:(r == 7)=false:=by simp;omega
    have hq11:r<11:=by omega
    have he11:(r == 11)=false:=by simp;omega
    have he12:(r == 12)=false:=by simp;omega
    go_wp2_with (fail);go_ret;refine⟨_,a1,rfl,?_,by omega,by omega,HO1.out,HM1.out⟩
    first
    | (simp only[ByteArray.size_append,zK,List.length_cons,List.length_nil]
       omega)
    | omega
  · go_wp2_with (fail)
    go_ret;refine⟨_,a1,rfl,?_,by omega,by omega,HO1.out,HM1.out⟩
    first
    | (simp only[ByteArray.size_append,zK,List.length_cons,List.length_nil]
       omega)
    | omega
 case neg=>
  obtain⟨m',rfl⟩:∃ m',m=m'+1:=⟨m-1,by omega⟩
  have HIH:=hid (HJ.out m' rfl);have hD2:(1 :Int)≤D:=by have:=HD.out;omega
  have hD1:D-1=(m':Int):=by have:=HD.out;omega
  have HD1:=hid hD1;have hDx:D≤1000001:=by have:=szD_gt m';have:szD (m'+1)=2 * szD m'+8:=rfl;omega
  have hwl:IntKind.i64.wrap (D-1)=D-1:=IntWalk.i64_in _ (by omega);clear hD1;have hSz:szD (m'+1)=2 * szD m'+8:=rfl;have hPz:pD (m'+1)=2 * pD m'+2:=rfl;have hmx':szD m'≤1000000:=by omega
  have hpm':=pD_ge m';have hzm':=szD_ge m';have hDn:¬ D<1:=by omega
  obtain⟨r,hr⟩:∃ r,r=r1:=⟨_,rfl⟩
  subst hr;have hr0:=hr01;have hr1:=hr11;go_upto_region 4 with(fail);clear hr01 hr11;rcases(show (0≤r∧r<2)∨(2≤r∧r<5)∨r=5∨r=6∨r=7∨(8≤r∧r<11)∨r=11∨r=12∨r=13 from by omega) with⟨hlo,hhi⟩ | ⟨hlo,hhi⟩ | rfl | rfl | rfl | ⟨hlo,hhi⟩ | rfl | rfl | rfl
  · have hq2:r<2:=by omega
    have hq5:r<5:=by omega
    have he5:(r == 5)=false:=by simp;omega
    have he6:(r == 6)=false:=by simp;omega
    have he7:(r == 7)=false:=by simp;omega
    have hq11:r<11:=by omega
    have he11:(r == 11)=false:=by simp;omega
    have he12:(r == 12)=false:=by simp;omega
    go_wp2_with (go_at_call 61;(with_reducible refine(jt (q:=6) (HM1.out.alloc _) (by omega) (by decide) (by decide)).mono ?_);rintro e w2 ⟨r2,hr02,hr12,rfl,ho,hm⟩
                 obtain⟨u,hu,hcu⟩:=jV w1 [⟨#[48]⟩,⟨#[49]⟩,⟨#[50]⟩,⟨#[55]⟩,⟨#[50,53,53]⟩,⟨#[54,52]⟩] 3 (by decide) 9 hr02 (show r2<6 from hr12);have hcu2:w2.cell? ⟨w1.heap.size,r2.toNat,none⟩=some (.string u):=(ho.cell (by rw[zA];omega) (by have:=HM1.out.lt;omega)).trans (hcu w1);have hsw2:w1.heap.size<w2.heap.size:=by have:=ho.size;rw[zA]at this;omega
                 obtain⟨a2,ha2⟩:∃ x,x=a1+1:=⟨_,rfl⟩
                 rw[←ha2]at hm;have HM2:=hid hm;have HO2:=hid ((HO1.out.alloc HM1.out.lt HO1.out.size _).trans (ho.mono (by have:=HO1.out.size;rw[zA];omega)))
                 clear ho hm hcu)
    go_ret;refine⟨_,a2,rfl,?_,by omega,by omega,HO2.out,HM2.out⟩
    first
    | (simp only[ByteArray.size_append,zK,List.length_cons,List.length_nil]
       omega)
    | omega
  · have hq2:¬ r<2:=by omega
    have hq5:r<5:=by omega
    have he5:(r == 5)=false:=by simp;omega
    have he6:(r == 6)=false:=by simp;omega
    have he7:(r == 7)=false:=by simp;omega
    have hq11:r<11:=by omega
    have he11:(r == 11)=false:=by simp;omega
    have he12:(r == 12)=false:=by simp;omega
    go_wp2_with (fail);go_ret;refine⟨_,a1,rfl,?_,by omega,by omega,HO1.out,HM1.out⟩
    first
    | (simp only[ByteArray.size_append,zK,List.length_cons,List.length_nil]
       omega)
    | omega
  · go_wp2_with (fail)
    go_ret;refine⟨_,a1,rfl,?_,by omega,by omega,HO1.out,HM1.out⟩
    first
    | (simp only[ByteArray.size_append,zK,List.length_cons,List.length_nil]
       omega)
    | omega
  · go_wp2_with (go_at_call 27;(with_reducible refine(vK.call (D:=D-1) HIH.out.1 hmx' HD1.out HM1.out (by omega) hvs hbs).mono ?_);rintro e w2 ⟨s2,a2,rfl,hs2,hl2,hu2,ho,hm⟩
                 have HM2:=hid hm;have HO2:=hid (HO1.out.trans (ho.mono HO1.out.size))
                 clear ho hm)
    go_ret;refine⟨_,a2,rfl,?_,by omega,by omega,HO2.out,HM2.out⟩
    first
    | (simp only[ByteArray.size_append,zK,List.length_cons,List.length_nil]
       omega)
    | omega
  · go_upto_region 13 with(fail)
    go_region_law (first
     | (go_simp;go_at_call 61;(with_reducible refine(jt (q:=5) HM1.out.drew (by omega) (by decide) (by decide)).mono ?_);rintro e w8 ⟨r8,hr08,hr18,rfl,ho,hm⟩
        obtain⟨u,hu,hcu⟩:=jV w1 [⟨#[45]⟩,⟨#[126]⟩,⟨#[105,56]⟩,⟨#[117,49,54]⟩,⟨#[105,51,50]⟩] 3 (by decide) 9 hr08 (show r8<5 from hr18);have hcw8:=hcu w8;have hgl:∀ h:r8.toNat<5,([.string ⟨#[45]⟩,.string ⟨#[126]⟩,.string ⟨#[105,56]⟩,.string ⟨#[117,49,54]⟩,.string ⟨#[105,51,50]⟩]:List Value)[r8.toNat]'h=.string u:=fun h=>vi (hcu w8) h
        obtain⟨a8,ha8⟩:∃ x,x=a1+1:=⟨_,rfl⟩
        rw[←ha8]at hm;have HM8:=hid hm;have HC8:=hid hcu;have hov8_0:¬ 9223372036854775807<u.size+1:=by omega
        have hz8:w1.heap.size≤w8.heap.size:=by have:=ho.size;first | exact this | exact Nat.le_trans (Nat.le_trans (Nat.le_succ _) (Nat.le_of_eq (zA _ _).symm)) this
        have HO8:=hid (show OffB b w.heap.size w w8 from(HO1.out.trans (OffB.of_below Zb.drew HM1.out.lt)).trans (ho.mono HO1.out.size))
        clear ho hm hcu)
     | (go_simp;go_at_call 61;(with_reducible refine(jt (q:=5) (HM1.out.alloc _).drew (by omega) (by decide) (by decide)).mono ?_);rintro e w8 ⟨r8,hr08,hr18,rfl,ho,hm⟩
        obtain⟨u,hu,hcu⟩:=jV w1 [⟨#[45]⟩,⟨#[126]⟩,⟨#[105,56]⟩,⟨#[117,49,54]⟩,⟨#[105,51,50]⟩] 3 (by decide) 9 hr08 (show r8<5 from hr18);have hcw8:=hcu w8;have hgl:∀ h:r8.toNat<5,([.string ⟨#[45]⟩,.string ⟨#[126]⟩,.string ⟨#[105,56]⟩,.string ⟨#[117,49,54]⟩,.string ⟨#[105,51,50]⟩]:List Value)[r8.toNat]'h=.string u:=fun h=>vi (hcu w8) h
        obtain⟨a8,ha8⟩:∃ x,x=a1+1:=⟨_,rfl⟩
        rw[←ha8]at hm;have HM8:=hid hm;have HC8:=hid hcu;have hov8_0:¬ 9223372036854775807<u.size+1:=by omega
        have hz8:w1.heap.size≤w8.heap.size:=by have:=ho.size;first | exact this | exact Nat.le_trans (Nat.le_trans (Nat.le_succ _) (Nat.le_of_eq (zA _ _).symm)) this
        have HO8:=hid (show OffB b w.heap.size w w8 from((HO1.out.alloc HM1.out.lt HO1.out.size (.cells #[.string ⟨#[45]⟩,.string ⟨#[126]⟩,.string ⟨#[105,56]⟩,.string ⟨#[117,49,54]⟩,.string ⟨#[105,51,50]⟩] 9)).trans (OffB.of_below Zb.drew (by have:=HM1.out.lt;rw[zA];omega))).trans (ho.mono (by have:=HO1.out.size;show _≤(World.alloc _ _).heap.size;rw[zA];omega)));have hcv8:w8.cell? ⟨w1.heap.size,r8.toNat,none⟩=some (.string u):=(ho.cell (by show _<(World.alloc _ _).heap.size;rw[zA];omega) (by have:=HM1.out.lt;omega)).trans (HC8.out w1);have hsv8:w1.heap.size<w8.heap.size:=by have:=ho.size;have h9:(w1.alloc (.cells #[.string ⟨#[45]⟩,.string ⟨#[126]⟩,.string ⟨#[105,56]⟩,.string ⟨#[117,49,54]⟩,.string ⟨#[105,51,50]⟩] 9)).heap.size=w1.heap.size+1:=zA _ _;have h10:(w1.alloc (.cells #[.string ⟨#[45]⟩,.string ⟨#[126]⟩,.string ⟨#[105,56]⟩,.string ⟨#[117,49,54]⟩,.string ⟨#[105,51,50]⟩] 9)).heap.size≤w8.heap.size:=this;omega
        clear ho hm hcu)
     | (go_simp;go_at_call 27;(with_reducible refine(vK.call (D:=D-1) HIH.out.1 hmx' HD1.out HM8.out (by omega) hvs hbs).mono ?_);rintro e w9 ⟨s9,a9,rfl,hs9,hl9,hu9,ho,hm⟩
        have hcw9:=HC8.out w9;have hov9_0:¬ 9223372036854775807<u.size+1+s9.size:=by omega
        have hov9_1:¬ 9223372036854775807<u.size+1+s9.size+1:=by omega
        have HM9:=hid hm;have HO9:=hid (show OffB b w.heap.size w w9 from HO8.out.trans (ho.mono HO8.out.size));have hz9:w8.heap.size≤w9.heap.size:=ho.size
        first
        | (have hcv9:=(ho.cell (k:=w1.heap.size) (o:=r8.toNat) (by omega) (by have:=HM1.out.lt;omega)).trans hcv8
           have hsv9:w1.heap.size<w9.heap.size:=by omega)
        | skip
        clear ho hm)
     | (go_simp;go_at_call 27;(with_reducible refine(vK.call (D:=D-1) HIH.out.1 hmx' HD1.out (HM8.out.alloc _) (by omega) hvs hbs).mono ?_);rintro e w9 ⟨s9,a9,rfl,hs9,hl9,hu9,ho,hm⟩
        have hcw9:=HC8.out w9;have hov9_0:¬ 9223372036854775807<u.size+1+s9.size:=by omega
        have hov9_1:¬ 9223372036854775807<u.size+1+s9.size+1:=by omega
        have HM9:=hid hm;have HO9:=hid (show OffB b w.heap.size w w9 from(HO8.out.alloc HM8.out.lt HO8.out.size (.cells #[.string ⟨#[45]⟩,.string ⟨#[126]⟩,.string ⟨#[105,56]⟩,.string ⟨#[117,49,54]⟩,.string ⟨#[105,51,50]⟩] 9)).trans (ho.mono (by have:=HO8.out.size;rw[zA];omega)));have hcx9:w9.cell? ⟨w8.heap.size,r8.toNat,none⟩=some (.string u):=(ho.cell (by rw[zA];omega) (by have:=HM8.out.lt;omega)).trans (HC8.out w8);have hsx9:w8.heap.size<w9.heap.size:=by have:=ho.size;rw[zA]at this;omega
        clear ho hm))
    all_goals
     go_wp2_with (fail);go_ret
     first
     | (refine⟨_,a9,rfl,?_,by omega,by omega,HO9.out,HM9.out⟩
        simp only[ByteArray.size_append,zK,List.length_cons,List.length_nil]
        omega)
     | (refine⟨_,a9,rfl,?_,by omega,by omega,HO9.out.alloc HM9.out.lt HO9.out.size _,HM9.out.alloc _⟩
        simp only[ByteArray.size_append,zK,List.length_cons,List.length_nil]
        omega)
  · have hq2:¬ r<2:=by omega
    have hq5:¬ r<5:=by omega
    have he5:(r == 5)=false:=by simp;omega
    have he6:(r == 6)=false:=by simp;omega
    have he7:(r == 7)=false:=by simp;omega
    have hq11:r<11:=by omega
    have he11:(r == 11)=false:=by simp;omega
    have he12:(r == 12)=false:=by simp;omega
    go_upto_region 16 with(go_at_call 27;(with_reducible refine(vK.call (D:=D-1) HIH.out.1 hmx' HD1.out HM1.out (by omega) hvs hbs).mono ?_);rintro e w2 ⟨s2,a2,rfl,hs2,hl2,hu2,ho,hm⟩
                           have HM2:=hid hm;have HO2:=hid (HO1.out.trans (ho.mono HO1.out.size))
                           clear ho hm)
    have hovp_0:¬ 9223372036854775807<1+s2.size:=by omega
    have hovp_1:¬ 9223372036854775807<1+s2.size+1:=by omega
    go_region_law (first
     | (go_simp;go_at_call 61;(with_reducible refine(jt (q:=11) HM2.out.drew (by omega) (by decide) (by decide)).mono ?_);rintro e w8 ⟨r8,hr08,hr18,rfl,ho,hm⟩
        obtain⟨u,hu,hcu⟩:=jV w2 [⟨#[43]⟩,⟨#[45]⟩,⟨#[42]⟩,⟨#[47]⟩,⟨#[37]⟩,⟨#[38]⟩,⟨#[124]⟩,⟨#[94]⟩,⟨#[60,60]⟩,⟨#[62,62]⟩,⟨#[62,62,62]⟩] 3 (by decide) 9 hr08 (show r8<11 from hr18);have hcw8:=hcu w8;have hgl:∀ h:r8.toNat<11,([.string ⟨#[43]⟩,.string ⟨#[45]⟩,.string ⟨#[42]⟩,.string ⟨#[47]⟩,.string ⟨#[37]⟩,.string ⟨#[38]⟩,.string ⟨#[124]⟩,.string ⟨#[94]⟩,.string ⟨#[60,60]⟩,.string ⟨#[62,62]⟩,.string ⟨#[62,62,62]⟩]:List Value)[r8.toNat]'h=.string u:=fun h=>vi (hcu w8) h
        obtain⟨a8,ha8⟩:∃ x,x=a2+1:=⟨_,rfl⟩
        rw[←ha8]at hm;have HM8:=hid hm;have HC8:=hid hcu;have hov8_0:¬ 9223372036854775807<1+s2.size:=by omega
        have hov8_1:¬ 9223372036854775807<1+s2.size+1:=by omega
        have hov8_2:¬ 9223372036854775807<1+s2.size+1+u.size:=by omega
        have hov8_3:¬ 9223372036854775807<1+s2.size+1+u.size+1:=by omega
        have hz8:w2.heap.size≤w8.heap.size:=by have:=ho.size;first | exact this | exact Nat.le_trans (Nat.le_trans (Nat.le_succ _) (Nat.le_of_eq (zA _ _).symm)) this
        have HO8:=hid (show OffB b w.heap.size w w8 from(HO2.out.trans (OffB.of_below Zb.drew HM2.out.lt)).trans (ho.mono HO2.out.size))
        clear ho hm hcu)
     | (go_simp;go_at_call 61;(with_reducible refine(jt (q:=11) (HM2.out.alloc _).drew (by omega) (by decide) (by decide)).mono ?_);rintro e w8 ⟨r8,hr08,hr18,rfl,ho,hm⟩
        obtain⟨u,hu,hcu⟩:=jV w2 [⟨#[43]⟩,⟨#[45]⟩,⟨#[42]⟩,⟨#[47]⟩,⟨#[37]⟩,⟨#[38]⟩,⟨#[124]⟩,⟨#[94]⟩,⟨#[60,60]⟩,⟨#[62,62]⟩,⟨#[62,62,62]⟩] 3 (by decide) 9 hr08 (show r8<11 from hr18);have hcw8:=hcu w8;have hgl:∀ h:r8.toNat<11,([.string ⟨#[43]⟩,.string ⟨#[45]⟩,.string ⟨#[42]⟩,.string ⟨#[47]⟩,.string ⟨#[37]⟩,.string ⟨#[38]⟩,.string ⟨#[124]⟩,.string ⟨#[94]⟩,.string ⟨#[60,60]⟩,.string ⟨#[62,62]⟩,.string ⟨#[62,62,62]⟩]:List Value)[r8.toNat]'h=.string u:=fun h=>vi (hcu w8) h
        obtain⟨a8,ha8⟩:∃ x,x=a2+1:=⟨_,rfl⟩
        rw[←ha8]at hm;have HM8:=hid hm;have HC8:=hid hcu;have hov8_0:¬ 9223372036854775807<1+s2.size:=by omega
        have hov8_1:¬ 9223372036854775807<1+s2.size+1:=by omega
        have hov8_2:¬ 9223372036854775807<1+s2.size+1+u.size:=by omega
        have hov8_3:¬ 9223372036854775807<1+s2.size+1+u.size+1:=by omega
        have hz8:w2.heap.size≤w8.heap.size:=by have:=ho.size;first | exact this | exact Nat.le_trans (Nat.le_trans (Nat.le_succ _) (Nat.le_of_eq (zA _ _).symm)) this
        have HO8:=hid (show OffB b w.heap.size w w8 from((HO2.out.alloc HM2.out.lt HO2.out.size (.cells #[.string ⟨#[43]⟩,.string ⟨#[45]⟩,.string ⟨#[42]⟩,.string ⟨#[47]⟩,.string ⟨#[37]⟩,.string ⟨#[38]⟩,.string ⟨#[124]⟩,.string ⟨#[94]⟩,.string ⟨#[60,60]⟩,.string ⟨#[62,62]⟩,.string ⟨#[62,62,62]⟩] 9)).trans (OffB.of_below Zb.drew (by have:=HM2.out.lt;rw[zA];omega))).trans (ho.mono (by have:=HO2.out.size;show _≤(World.alloc _ _).heap.size;rw[zA];omega)));have hcv8:w8.cell? ⟨w2.heap.size,r8.toNat,none⟩=some (.string u):=(ho.cell (by show _<(World.alloc _ _).heap.size;rw[zA];omega) (by have:=HM2.out.lt;omega)).trans (HC8.out w2);have hsv8:w2.heap.size<w8.heap.size:=by have:=ho.size;have h9:(w2.alloc (.cells #[.string ⟨#[43]⟩,.string ⟨#[45]⟩,.string ⟨#[42]⟩,.string ⟨#[47]⟩,.string ⟨#[37]⟩,.string ⟨#[38]⟩,.string ⟨#[124]⟩,.string ⟨#[94]⟩,.string ⟨#[60,60]⟩,.string ⟨#[62,62]⟩,.string ⟨#[62,62,62]⟩] 9)).heap.size=w2.heap.size+1:=zA _ _;have h10:(w2.alloc (.cells #[.string ⟨#[43]⟩,.string ⟨#[45]⟩,.string ⟨#[42]⟩,.string ⟨#[47]⟩,.string ⟨#[37]⟩,.string ⟨#[38]⟩,.string ⟨#[124]⟩,.string ⟨#[94]⟩,.string ⟨#[60,60]⟩,.string ⟨#[62,62]⟩,.string ⟨#[62,62,62]⟩] 9)).heap.size≤w8.heap.size:=this;omega
        clear ho hm hcu)
     | (go_simp;go_at_call 27;(with_reducible refine(vK.call (D:=D-1) HIH.out.1 hmx' HD1.out HM8.out (by omega) hvs hbs).mono ?_);rintro e w9 ⟨s9,a9,rfl,hs9,hl9,hu9,ho,hm⟩
        have hcw9:=HC8.out w9;have hov9_0:¬ 9223372036854775807<1+s2.size+1+u.size+1+s9.size:=by omega
        have hov9_1:¬ 9223372036854775807<1+s2.size+1+u.size+1+s9.size+1:=by omega
        have HM9:=hid hm;have HO9:=hid (show OffB b w.heap.size w w9 from HO8.out.trans (ho.mono HO8.out.size));have hz9:w8.heap.size≤w9.heap.size:=ho.size
        first
        | (have hcv9:=(ho.cell (k:=w2.heap.size) (o:=r8.toNat) (by omega) (by have:=HM2.out.lt;omega)).trans hcv8
           have hsv9:w2.heap.size<w9.heap.size:=by omega)
        | skip
        clear ho hm)
     | (go_simp;go_at_call 27;(with_reducible refine(vK.call (D:=D-1) HIH.out.1 hmx' HD1.out (HM8.out.alloc _) (by omega) hvs hbs).mono ?_);rintro e w9 ⟨s9,a9,rfl,hs9,hl9,hu9,ho,hm⟩
        have hcw9:=HC8.out w9;have hov9_0:¬ 9223372036854775807<1+s2.size+1+u.size+1+s9.size:=by omega
        have hov9_1:¬ 9223372036854775807<1+s2.size+1+u.size+1+s9.size+1:=by omega
        have HM9:=hid hm;have HO9:=hid (show OffB b w.heap.size w w9 from(HO8.out.alloc HM8.out.lt HO8.out.size (.cells #[.string ⟨#[43]⟩,.string ⟨#[45]⟩,.string ⟨#[42]⟩,.string ⟨#[47]⟩,.string ⟨#[37]⟩,.string ⟨#[38]⟩,.string ⟨#[124]⟩,.string ⟨#[94]⟩,.string ⟨#[60,60]⟩,.string ⟨#[62,62]⟩,.string ⟨#[62,62,62]⟩] 9)).trans (ho.mono (by have:=HO8.out.size;rw[zA];omega)));have hcx9:w9.cell? ⟨w8.heap.size,r8.toNat,none⟩=some (.string u):=(ho.cell (by rw[zA];omega) (by have:=HM8.out.lt;omega)).trans (HC8.out w8);have hsx9:w8.heap.size<w9.heap.size:=by have:=ho.size;rw[zA]at this;omega
        clear ho hm))
    all_goals
     go_wp2_with (fail);go_ret
     first
     | (refine⟨_,a9,rfl,?_,by omega,by omega,HO9.out,HM9.out⟩
        simp only[ByteArray.size_append,zK,List.length_cons,List.length_nil]
        omega)
     | (refine⟨_,a9,rfl,?_,by omega,by omega,HO9.out.alloc HM9.out.lt HO9.out.size _,HM9.out.alloc _⟩
        simp only[ByteArray.size_append,zK,List.length_cons,List.length_nil]
        omega)
  · go_wp2_with (fail)
    go_ret;refine⟨_,a1,rfl,?_,by omega,by omega,HO1.out,HM1.out⟩
    first
    | (simp only[ByteArray.size_append,zK,List.length_cons,List.length_nil]
       omega)
    | omega
  · go_wp2_with (fail)
    go_ret;refine⟨_,a1,rfl,?_,by omega,by omega,HO1.out,HM1.out⟩
    first
    | (simp only[ByteArray.size_append,zK,List.length_cons,List.length_nil]
       omega)
    | omega
  · go_wp2_with (first
     | (go_at_call 27;(with_reducible refine(vK.call (D:=D-1) HIH.out.1 hmx' HD1.out HM1.out (by omega) hvs hbs).mono ?_);rintro e w2 ⟨s2,a2,rfl,hs2,hl2,hu2,ho,hm⟩
        have HM2:=hid hm;have HO2:=hid (HO1.out.trans (ho.mono HO1.out.size))
        clear ho hm)
     | (go_at_call 28;(with_reducible refine(TruC.call (D:=D-1) HIH.out.2 hmx' HD1.out HM2.out (by omega) hvs hbs).mono ?_);rintro e w3 ⟨s3,a3,rfl,hs3,hl3,hu3,ho,hm⟩
        have HM3:=hid hm;have HO3:=hid (HO2.out.trans (ho.mono HO2.out.size))
        clear ho hm))
    go_ret;refine⟨_,a3,rfl,?_,by omega,by omega,HO3.out,HM3.out⟩
    first
    | (simp only[ByteArray.size_append,zK,List.length_cons,List.length_nil]
       omega)
    | omega
set_option maxHeartbeats 8000000 in
theorem truth_step (m:Nat) (ih:∀ m',m'+1=m→vK m'∧TruC m'):TruC m:=by
 intro hmx b N a0 v vs bs D w hD hM ha hvs hbs;have hpm:=pD_ge m;have hzm:=szD_ge m;have HM0:=hid hM;have HO0:=hid (OffB.refl b w.heap.size w);have hw0:w.heap.size≤w.heap.size:=Nat.le_refl _;have HJ:=hid ih;have HD:=hid hD;clear hM ih hD;go_enter Tryz.func28,Tryz.ntmps28
 go_upto_region 2 with(go_at_call 61;(with_reducible refine(jt (q:=10) HM0.out (by omega) (by decide) (by decide)).mono ?_);rintro e w1 ⟨r1,hr01,hr11,rfl,ho,hm⟩
                       obtain⟨a1,ha1⟩:∃ x,x=a0+1:=⟨_,rfl⟩
                       rw[←ha1]at hm;have HM1:=hid hm;have HO1:=hid ho
                       clear ho hm)
 by_cases hm0:m=0
 case pos=>
  subst hm0;have hD0:D=0:=by have:=HD.out;simpa using this
  subst hD0;have hrr0:0≤r1 % 3:=Int.emod_nonneg _ (by omega);have hrr1:r1 % 3<3:=Int.emod_lt_of_pos _ (by omega);go_upto_region 4 with(fail);generalize r1 % 3=r at *;have hr0:=hrr0;have hr1:=hrr1;clear hr01 hr11 hrr0 hrr1;rcases(show r=0∨(1≤r∧r<3) from by omega) with rfl | ⟨hlo,hhi⟩
  · go_wp2_with (go_at_call 61;(with_reducible refine(jt (q:=2) (HM1.out.alloc _) (by omega) (by decide) (by decide)).mono ?_);rintro e w2 ⟨r2,hr02,hr12,rfl,ho,hm⟩
                 obtain⟨u,hu,hcu⟩:=jV w1 [⟨#[116,114,117,101]⟩,⟨#[102,97,108,115,101]⟩] 5 (by decide) 9 hr02 (show r2<2 from hr12);have hcu2:w2.cell? ⟨w1.heap.size,r2.toNat,none⟩=some (.string u):=(ho.cell (by rw[zA];omega) (by have:=HM1.out.lt;omega)).trans (hcu w1);have hsw2:w1.heap.size<w2.heap.size:=by have:=ho.size;rw[zA]at this;omega
                 obtain⟨a2,ha2⟩:∃ x,x=a1+1:=⟨_,rfl⟩
                 rw[←ha2]at hm;have HM2:=hid hm;have HO2:=hid ((HO1.out.alloc HM1.out.lt HO1.out.size _).trans (ho.mono (by have:=HO1.out.size;rw[zA];omega)))
                 clear ho hm hcu)
    go_ret;refine⟨_,a2,rfl,?_,by omega,by omega,HO2.out,HM2.out⟩
    first
    | (simp only[ByteArray.size_append,zK,List.length_cons,List.length_nil]
       omega)
    | omega
  · have he0:(r == 0)=false:=by simp;omega
    have hq3:r<3:=by omega
    have he3:(r == 3)=false:=by simp;omega
    have hq7:r<7:=by omega
    have he7:(r == 7)=false:=by simp;omega
    have he8:(r == 8)=false:=by simp;omega
    go_wp2_with (fail);go_ret;refine⟨_,a1,rfl,?_,by omega,by omega,HO1.out,HM1.out⟩
    first
    | (simp only[ByteArray.size_append,zK,List.length_cons,List.length_nil]
       omega)
    | omega
 case neg=>
  obtain⟨m',rfl⟩:∃ m',m=m'+1:=⟨m-1,by omega⟩
  have HIH:=hid (HJ.out m' rfl);have hD2:(1 :Int)≤D:=by have:=HD.out;omega
  have hD1:D-1=(m':Int):=by have:=HD.out;omega
  have HD1:=hid hD1;have hDx:D≤1000001:=by have:=szD_gt m';have:szD (m'+1)=2 * szD m'+8:=rfl;omega
  have hwl:IntKind.i64.wrap (D-1)=D-1:=IntWalk.i64_in _ (by omega);clear hD1;have hSz:szD (m'+1)=2 * szD m'+8:=rfl;have hPz:pD (m'+1)=2 * pD m'+2:=rfl;have hmx':szD m'≤1000000:=by omega
  have hpm':=pD_ge m';have hzm':=szD_ge m';have hDn:¬ D<1:=by omega
  obtain⟨r,hr⟩:∃ r,r=r1:=⟨_,rfl⟩
  subst hr;have hr0:=hr01;have hr1:=hr11;go_upto_region 4 with(fail);clear hr01 hr11;rcases(show r=0∨(1≤r∧r<3)∨r=3∨(4≤r∧r<7)∨r=7∨r=8∨r=9 from by omega) with rfl | ⟨hlo,hhi⟩ | rfl | ⟨hlo,hhi⟩ | rfl | rfl | rfl
  · go_wp2_with (go_at_call 61;(with_reducible refine(jt (q:=2) (HM1.out.alloc _) (by omega) (by decide) (by decide)).mono ?_);rintro e w2 ⟨r2,hr02,hr12,rfl,ho,hm⟩
                 obtain⟨u,hu,hcu⟩:=jV w1 [⟨#[116,114,117,101]⟩,⟨#[102,97,108,115,101]⟩] 5 (by decide) 9 hr02 (show r2<2 from hr12);have hcu2:w2.cell? ⟨w1.heap.size,r2.toNat,none⟩=some (.string u):=(ho.cell (by rw[zA];omega) (by have:=HM1.out.lt;omega)).trans (hcu w1);have hsw2:w1.heap.size<w2.heap.size:=by have:=ho.size;rw[zA]at this;omega
                 obtain⟨a2,ha2⟩:∃ x,x=a1+1:=⟨_,rfl⟩
                 rw[←ha2]at hm;have HM2:=hid hm;have HO2:=hid ((HO1.out.alloc HM1.out.lt HO1.out.size _).trans (ho.mono (by have:=HO1.out.size;rw[zA];omega)))
                 clear ho hm hcu)
    go_ret;refine⟨_,a2,rfl,?_,by omega,by omega,HO2.out,HM2.out⟩
    first
    | (simp only[ByteArray.size_append,zK,List.length_cons,List.length_nil]
       omega)
    | omega
  · have he0:(r == 0)=false:=by simp;omega
    have hq3:r<3:=by omega
    have he3:(r == 3)=false:=by simp;omega
    have hq7:r<7:=by omega
    have he7:(r == 7)=false:=by simp;omega
    have he8:(r == 8)=false:=by simp;omega
    go_wp2_with (fail);go_ret;refine⟨_,a1,rfl,?_,by omega,by omega,HO1.out,HM1.out⟩
    first
    | (simp only[ByteArray.size_append,zK,List.length_cons,List.length_nil]
       omega)
    | omega
  · go_wp2_with (fail)
    go_ret;refine⟨_,a1,rfl,?_,by omega,by omega,HO1.out,HM1.out⟩
    first
    | (simp only[ByteArray.size_append,zK,List.length_cons,List.length_nil]
       omega)
    | omega
  · have he0:(r == 0)=false:=by simp;omega
    have hq3:¬ r<3:=by omega
    have he3:(r == 3)=false:=by simp;omega
    have hq7:r<7:=by omega
    have he7:(r == 7)=false:=by simp;omega
    have he8:(r == 8)=false:=by simp;omega
    go_upto_region 12 with(go_at_call 27;(with_reducible refine(vK.call (D:=D-1) HIH.out.1 hmx' HD1.out HM1.out (by omega) hvs hbs).mono ?_);rintro e w2 ⟨s2,a2,rfl,hs2,hl2,hu2,ho,hm⟩
                           have HM2:=hid hm;have HO2:=hid (HO1.out.trans (ho.mono HO1.out.size))
                           clear ho hm)
    have hovp_0:¬ 9223372036854775807<1+s2.size:=by omega
    have hovp_1:¬ 9223372036854775807<1+s2.size+1:=by omega
    go_region_law (first
     | (go_simp;go_at_call 61;(with_reducible refine(jt (q:=6) HM2.out.drew (by omega) (by decide) (by decide)).mono ?_);rintro e w8 ⟨r8,hr08,hr18,rfl,ho,hm⟩
        obtain⟨u,hu,hcu⟩:=jV w2 [⟨#[60]⟩,⟨#[60,61]⟩,⟨#[62]⟩,⟨#[62,61]⟩,⟨#[61,61]⟩,⟨#[33,61]⟩] 2 (by decide) 9 hr08 (show r8<6 from hr18);have hcw8:=hcu w8;have hgl:∀ h:r8.toNat<6,([.string ⟨#[60]⟩,.string ⟨#[60,61]⟩,.string ⟨#[62]⟩,.string ⟨#[62,61]⟩,.string ⟨#[61,61]⟩,.string ⟨#[33,61]⟩]:List Value)[r8.toNat]'h=.string u:=fun h=>vi (hcu w8) h
        obtain⟨a8,ha8⟩:∃ x,x=a2+1:=⟨_,rfl⟩
        rw[←ha8]at hm;have HM8:=hid hm;have HC8:=hid hcu;have hov8_0:¬ 9223372036854775807<1+s2.size:=by omega
        have hov8_1:¬ 9223372036854775807<1+s2.size+1:=by omega
        have hov8_2:¬ 9223372036854775807<1+s2.size+1+u.size:=by omega
        have hov8_3:¬ 9223372036854775807<1+s2.size+1+u.size+1:=by omega
        have hz8:w2.heap.size≤w8.heap.size:=by have:=ho.size;first | exact this | exact Nat.le_trans (Nat.le_trans (Nat.le_succ _) (Nat.le_of_eq (zA _ _).symm)) this
        have HO8:=hid (show OffB b w.heap.size w w8 from(HO2.out.trans (OffB.of_below Zb.drew HM2.out.lt)).trans (ho.mono HO2.out.size))
        clear ho hm hcu)
     | (go_simp;go_at_call 61;(with_reducible refine(jt (q:=6) (HM2.out.alloc _).drew (by omega) (by decide) (by decide)).mono ?_);rintro e w8 ⟨r8,hr08,hr18,rfl,ho,hm⟩
        obtain⟨u,hu,hcu⟩:=jV w2 [⟨#[60]⟩,⟨#[60,61]⟩,⟨#[62]⟩,⟨#[62,61]⟩,⟨#[61,61]⟩,⟨#[33,61]⟩] 2 (by decide) 9 hr08 (show r8<6 from hr18);have hcw8:=hcu w8;have hgl:∀ h:r8.toNat<6,([.string ⟨#[60]⟩,.string ⟨#[60,61]⟩,.string ⟨#[62]⟩,.string ⟨#[62,61]⟩,.string ⟨#[61,61]⟩,.string ⟨#[33,61]⟩]:List Value)[r8.toNat]'h=.string u:=fun h=>vi (hcu w8) h
        obtain⟨a8,ha8⟩:∃ x,x=a2+1:=⟨_,rfl⟩
        rw[←ha8]at hm;have HM8:=hid hm;have HC8:=hid hcu;have hov8_0:¬ 9223372036854775807<1+s2.size:=by omega
        have hov8_1:¬ 9223372036854775807<1+s2.size+1:=by omega
        have hov8_2:¬ 9223372036854775807<1+s2.size+1+u.size:=by omega
        have hov8_3:¬ 9223372036854775807<1+s2.size+1+u.size+1:=by omega
        have hz8:w2.heap.size≤w8.heap.size:=by have:=ho.size;first | exact this | exact Nat.le_trans (Nat.le_trans (Nat.le_succ _) (Nat.le_of_eq (zA _ _).symm)) this
        have HO8:=hid (show OffB b w.heap.size w w8 from((HO2.out.alloc HM2.out.lt HO2.out.size (.cells #[.string ⟨#[60]⟩,.string ⟨#[60,61]⟩,.string ⟨#[62]⟩,.string ⟨#[62,61]⟩,.string ⟨#[61,61]⟩,.string ⟨#[33,61]⟩] 9)).trans (OffB.of_below Zb.drew (by have:=HM2.out.lt;rw[zA];omega))).trans (ho.mono (by have:=HO2.out.size;show _≤(World.alloc _ _).heap.size;rw[zA];omega)));have hcv8:w8.cell? ⟨w2.heap.size,r8.toNat,none⟩=some (.string u):=(ho.cell (by show _<(World.alloc _ _).heap.size;rw[zA];omega) (by have:=HM2.out.lt;omega)).trans (HC8.out w2);have hsv8:w2.heap.size<w8.heap.size:=by have:=ho.size;have h9:(w2.alloc (.cells #[.string ⟨#[60]⟩,.string ⟨#[60,61]⟩,.string ⟨#[62]⟩,.string ⟨#[62,61]⟩,.string ⟨#[61,61]⟩,.string ⟨#[33,61]⟩] 9)).heap.size=w2.heap.size+1:=zA _ _;have h10:(w2.alloc (.cells #[.string ⟨#[60]⟩,.string ⟨#[60,61]⟩,.string ⟨#[62]⟩,.string ⟨#[62,61]⟩,.string ⟨#[61,61]⟩,.string ⟨#[33,61]⟩] 9)).heap.size≤w8.heap.size:=this;omega
        clear ho hm hcu)
     | (go_simp;go_at_call 27;(with_reducible refine(vK.call (D:=D-1) HIH.out.1 hmx' HD1.out HM8.out (by omega) hvs hbs).mono ?_);rintro e w9 ⟨s9,a9,rfl,hs9,hl9,hu9,ho,hm⟩
        have hcw9:=HC8.out w9;have hov9_0:¬ 9223372036854775807<1+s2.size+1+u.size+1+s9.size:=by omega
        have hov9_1:¬ 9223372036854775807<1+s2.size+1+u.size+1+s9.size+1:=by omega
        have HM9:=hid hm;have HO9:=hid (show OffB b w.heap.size w w9 from HO8.out.trans (ho.mono HO8.out.size));have hz9:w8.heap.size≤w9.heap.size:=ho.size
        first
        | (have hcv9:=(ho.cell (k:=w2.heap.size) (o:=r8.toNat) (by omega) (by have:=HM2.out.lt;omega)).trans hcv8
           have hsv9:w2.heap.size<w9.heap.size:=by omega)
        | skip
        clear ho hm)
     | (go_simp;go_at_call 27;(with_reducible refine(vK.call (D:=D-1) HIH.out.1 hmx' HD1.out (HM8.out.alloc _) (by omega) hvs hbs).mono ?_);rintro e w9 ⟨s9,a9,rfl,hs9,hl9,hu9,ho,hm⟩
        have hcw9:=HC8.out w9;have hov9_0:¬ 9223372036854775807<1+s2.size+1+u.size+1+s9.size:=by omega
        have hov9_1:¬ 9223372036854775807<1+s2.size+1+u.size+1+s9.size+1:=by omega
        have HM9:=hid hm;have HO9:=hid (show OffB b w.heap.size w w9 from(HO8.out.alloc HM8.out.lt HO8.out.size (.cells #[.string ⟨#[60]⟩,.string ⟨#[60,61]⟩,.string ⟨#[62]⟩,.string ⟨#[62,61]⟩,.string ⟨#[61,61]⟩,.string ⟨#[33,61]⟩] 9)).trans (ho.mono (by have:=HO8.out.size;rw[zA];omega)));have hcx9:w9.cell? ⟨w8.heap.size,r8.toNat,none⟩=some (.string u):=(ho.cell (by rw[zA];omega) (by have:=HM8.out.lt;omega)).trans (HC8.out w8);have hsx9:w8.heap.size<w9.heap.size:=by have:=ho.size;rw[zA]at this;omega
        clear ho hm))
    all_goals
     go_wp2_with (fail);go_ret
     first
     | (refine⟨_,a9,rfl,?_,by omega,by omega,HO9.out,HM9.out⟩
        simp only[ByteArray.size_append,zK,List.length_cons,List.length_nil]
        omega)
     | (refine⟨_,a9,rfl,?_,by omega,by omega,HO9.out.alloc HM9.out.lt HO9.out.size _,HM9.out.alloc _⟩
        simp only[ByteArray.size_append,zK,List.length_cons,List.length_nil]
        omega)
  · go_wp2_with (first
     | (go_at_call 28;(with_reducible refine(TruC.call (D:=D-1) HIH.out.2 hmx' HD1.out HM1.out (by omega) hvs hbs).mono ?_);rintro e w2 ⟨s2,a2,rfl,hs2,hl2,hu2,ho,hm⟩
        have HM2:=hid hm;have HO2:=hid (HO1.out.trans (ho.mono HO1.out.size))
        clear ho hm)
     | (go_at_call 28;(with_reducible refine(TruC.call (D:=D-1) HIH.out.2 hmx' HD1.out HM2.out (by omega) hvs hbs).mono ?_);rintro e w3 ⟨s3,a3,rfl,hs3,hl3,hu3,ho,hm⟩
        have HM3:=hid hm;have HO3:=hid (HO2.out.trans (ho.mono HO2.out.size))
        clear ho hm))
    go_ret;refine⟨_,a3,rfl,?_,by omega,by omega,HO3.out,HM3.out⟩
    first
    | (simp only[ByteArray.size_append,zK,List.length_cons,List.length_nil]
       omega)
    | omega
  · go_wp2_with (first
     | (go_at_call 28;(with_reducible refine(TruC.call (D:=D-1) HIH.out.2 hmx' HD1.out HM1.out (by omega) hvs hbs).mono ?_);rintro e w2 ⟨s2,a2,rfl,hs2,hl2,hu2,ho,hm⟩
        have HM2:=hid hm;have HO2:=hid (HO1.out.trans (ho.mono HO1.out.size))
        clear ho hm)
     | (go_at_call 28;(with_reducible refine(TruC.call (D:=D-1) HIH.out.2 hmx' HD1.out HM2.out (by omega) hvs hbs).mono ?_);rintro e w3 ⟨s3,a3,rfl,hs3,hl3,hu3,ho,hm⟩
        have HM3:=hid hm;have HO3:=hid (HO2.out.trans (ho.mono HO2.out.size))
        clear ho hm))
    go_ret;refine⟨_,a3,rfl,?_,by omega,by omega,HO3.out,HM3.out⟩
    first
    | (simp only[ByteArray.size_append,zK,List.length_cons,List.length_nil]
       omega)
    | omega
  · go_wp2_with (go_at_call 27;(with_reducible refine(vK.call (D:=D-1) HIH.out.1 hmx' HD1.out HM1.out (by omega) hvs hbs).mono ?_);rintro e w2 ⟨s2,a2,rfl,hs2,hl2,hu2,ho,hm⟩
                 have HM2:=hid hm;have HO2:=hid (HO1.out.trans (ho.mono HO1.out.size))
                 clear ho hm)
    go_ret;refine⟨_,a2,rfl,?_,by omega,by omega,HO2.out,HM2.out⟩
    first
    | (simp only[ByteArray.size_append,zK,List.length_cons,List.length_nil]
       omega)
    | omega
theorem nt_all:∀ m,vK m∧TruC m:=fun m=>by
 induction m with
 | zero=>exact⟨num_step 0 fun m' h=>absurd h (by omega),truth_step 0 fun m' h=>absurd h (by omega)⟩
 | succ m ih=>exact⟨num_step (m+1) fun m' h=>(show m=m' by omega) ▸ ih,truth_step (m+1) fun m' h=>(show m=m' by omega) ▸ ih⟩
end Go.Proofs.YtfghofifjnbicaaGreatDoor
