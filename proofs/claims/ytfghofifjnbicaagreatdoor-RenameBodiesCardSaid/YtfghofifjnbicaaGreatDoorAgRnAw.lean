import Derived.Test.YtfghofifjnbicaaGreatDoorAgTyRk
import Derived.Test.YtfghofifjnbicaaGreatDoorAgTokRefB
import Derived.Test.YtfghofifjnbicaaGreatDoorAgParSame
import Derived.Test.YtfghofifjnbicaaGreatDoorAgParNums
import Derived.Test.YtfghofifjnbicaaGreatDoorAgTreeRefD
import Derived.Test.YtfghofifjnbicaaGreatDoorAgTyPl
set_option linter.unusedSimpArgs false
set_option linter.unusedVariables false
set_option maxRecDepth 100000
/- The law's awake. (By tools/gen_rnaw.py.) -/
namespace Go.Proofs.YtfghofifjnbicaaGreatDoor
open Lib (hid)
open Go.RowKit
structure Laid6 (B:Nat) (p:Pr) (v0 v1:Value) (w:World):Prop where
 hB:B≤w.heap.size
 tab:TreeTab B w
 ha:SlA B w v0 p.arrays
 hf:SlF B w v1 p.funcs
theorem Laid6.below {B:Nat} {p:Pr} {v0 v1:Value} {w w':World} (h:Laid6 B p v0 v1 w) (hb:Below w.heap.size w w'):Laid6 B p v0 v1 w':=⟨Nat.le_trans h.hB hb.size,h.tab.below (hb.mono h.hB),h.ha.below (hb.mono h.hB) (Nat.le_refl _),h.hf.below (hb.mono h.hB) (Nat.le_refl _)⟩
theorem Laid6.mono {B B':Nat} {p:Pr} {v0 v1:Value} {w:World} (h:Laid6 B p v0 v1 w) (hB:B≤B') (hB':B'≤w.heap.size):Laid6 B' p v0 v1 w:=⟨hB',h.tab.mono hB,h.ha.below (Below.refl _ _) hB,h.hf.below (Below.refl _ _) hB⟩
theorem frg_laid {L:Nat} {w:World} {p:Pr} {v0 v1:Value} (h:FrG L w p (.agg #[v0,v1])):SlA w.heap.size w v0 p.arrays∧SlF w.heap.size w v1 p.funcs:=by
 obtain⟨u0,u1,hv,h0,h1⟩:=h;simp only[Value.agg.injEq,Array.mk.injEq,List.cons.injEq,and_true]at hv;obtain⟨rfl,rfl⟩:=hv;exact⟨SlA.imp (fun _ _ _ hc=>(zn hc).2) h0,SlF.imp (fun _ _ _ hc=>(zn hc).2) h1⟩
def GotP (p:Pr) (e:Int) (ln:Nat) (w:World) (x:Ending) (w':World):Prop:=
 ∃ A0 c0 A1 c1,x=.returned (.tuple #[.agg #[.slice A0 p.arrays.length c0,.slice A1 p.funcs.length c1],.int .i64 e,.int .i64 (ln:Int)])∧Below w.heap.size w w'∧Laid6 w'.heap.size p (.slice A0 p.arrays.length c0) (.slice A1 p.funcs.length c1) w'
theorem uZ {B:Nat} {w:World} (s:ByteArray) (ht:TreeTab B w) (hB:B≤w.heap.size) {p:Pr} {e:Int} {ln:Nat} (hd:kf s=(p,e,ln)):Calls Tryz.prog 6 #[.string s] w (GotP p e ln w):=
 (rparse_any s w).mono fun x w' ⟨hb,v0,v1,he,ha,hf⟩=>by
   rw[hd]at he ha hf;replace ha:=SlA.imp zAo ha;replace hf:=SlF.imp zAo hf;obtain⟨A0,c0,rfl,_⟩:=ha.form;obtain⟨A1,c1,rfl,_⟩:=hf.form;exact⟨A0,c0,A1,c1,he,hb,Nat.le_refl _,(ht.below (hb.mono hB)).mono (Nat.le_trans hB hb.size),ha,hf⟩
def GotR (q:Pr) (k:Int) (w:World) (x:Ending) (w':World):Prop:=
 ∃ A0 c0 A1 c1,x=.returned (.tuple #[.agg #[.slice A0 q.arrays.length c0,.slice A1 q.funcs.length c1],.int .i64 k])∧Below w.heap.size w w'∧Laid6 w'.heap.size q (.slice A0 q.arrays.length c0) (.slice A1 q.funcs.length c1) w'
theorem got_r {B:Nat} {p q:Pr} {k:Int} {w:World} (ht:TreeTab B w) (hB:B≤w.heap.size) (hR:vZ p=(q,k)) {x:Ending} {w':World} (h:RnPost p w x w'):GotR q k w x w':=by
 obtain⟨v0,v1,hx,hb,hf⟩:=h;rw[hR]at hx hf;obtain⟨h0,h1⟩:=frg_laid hf;obtain⟨A0,c0,rfl,_⟩:=h0.form;obtain⟨A1,c1,rfl,_⟩:=h1.form;exact⟨A0,c0,A1,c1,hx,hb,Nat.le_refl _,(ht.below (hb.mono hB)).mono (Nat.le_trans hB hb.size),h0,h1⟩
theorem Laid6.ren {B:Nat} {p q:Pr} {k:Int} {v0 v1:Value} {w:World} (h:Laid6 B p v0 v1 w) (hs:Small p) (hR:vZ p=(q,k)):Calls Tryz.prog 8 #[.agg #[v0,v1]] w (GotR q k w):=
 (drename_any B p v0 v1 w h.tab h.hB h.ha h.hf hs).mono fun _ _ g=>got_r h.tab h.hB hR g
theorem Laid6.rren {B:Nat} {p q:Pr} {k:Int} {v0 v1:Value} {w:World} (h:Laid6 B p v0 v1 w) (hs:Small p) (hR:vZ p=(q,k)):Calls Tryz.prog 9 #[.agg #[v0,v1]] w (GotR q k w):=
 (rrename_any B p v0 v1 w h.hB h.ha h.hf hs).mono fun _ _ g=>got_r h.tab h.hB hR g
theorem Laid6.same {B:Nat} {q:Pr} {v0 v1 u0 u1:Value} {w:World} (h:Laid6 B q v0 v1 w) (g:Laid6 B q u0 u1 w):Calls Tryz.prog 11 #[.agg #[v0,v1],.agg #[u0,u1]] w fun e w'=>e=.returned (.bool true)∧Below w.heap.size w w':=
 same_any q B v0 v1 u0 u1 w h.hB h.ha h.hf g.ha g.hf
theorem small0:Small pr0:=⟨by kernel_rfl,⟨fun a ha=>(by cases ha),fun f hf=>(by cases hf)⟩,Nat.zero_le _,Nat.zero_le _,fun f hf=>(by cases hf)⟩
theorem laid0 {B:Nat} {w:World} (ht:TreeTab B w) (hB:B≤w.heap.size):Laid6 B pr0 (.slice none 0 0) (.slice none 0 0) w:=⟨hB,ht,ud _ _,⟨none,0,rfl,Nat.zero_le _,fun h=>absurd h (by simp[pr0])⟩⟩
theorem small_all {s:ByteArray} {p:Pr} {k:Int} {ln:Nat} (h:kf s=(p,k,ln)):Small p:=by
 by_cases hk:k=0
 · subst hk;exact small_any h
 · rw[docP_bad6 h hk];exact small0
def awT1:ByteArray:=⟨#[105,110,116,32,109,97,105,110,40,41,32,123,32,105,110,116,32,120,32,61,32,49,59,32,105,102,32,40,116,114,117,101,41,32,123,32,105,110,116,32,120,32,61,32,50,59,32,112,114,105,110,116,40,120,41,59,32,125,32,114,101,116,117,114,110,32,120,59,32,125]⟩
def awT2:ByteArray:=⟨#[105,110,116,32,109,97,105,110,40,41,32,123,32,105,110,116,32,118,48,32,61,32,49,59,32,105,102,32,40,116,114,117,101,41,32,123,32,105,110,116,32,118,49,32,61,32,50,59,32,112,114,105,110,116,40,118,49,41,59,32,125,32,114,101,116,117,114,110,32,118,48,59,32,125]⟩
def awQ1:Pr:=(kf awT1).1
def awQ2:Pr:=(kf awT2).1
theorem awd1:kf awT1=(awQ1,0,0):=by kernel_rfl
theorem awd2:kf awT2=(awQ2,0,0):=by kernel_rfl
theorem awr1:vZ awQ1=(awQ2,0):=by kernel_rfl
theorem awr0:vZ pr0=(pr0,1):=by kernel_rfl
theorem awl1:awQ1.arrays.length=0∧awQ1.funcs.length=1:=⟨by kernel_rfl,by kernel_rfl⟩
theorem awl2:awQ2.arrays.length=0∧awQ2.funcs.length=1:=⟨by kernel_rfl,by kernel_rfl⟩
theorem aw_p1 {B:Nat} {w:World} (ht:TreeTab B w) (hB:B≤w.heap.size):Calls Tryz.prog 6 #[.string ⟨#[105,110,116,32,109,97,105,110,40,41,32,123,32,105,110,116,32,120,32,61,32,49,59,32,105,102,32,40,116,114,117,101,41,32,123,32,105,110,116,32,120,32,61,32,50,59,32,112,114,105,110,116,40,120,41,59,32,125,32,114,101,116,117,114,110,32,120,59,32,125]⟩] w fun x w'=>∃ A0 c0 A1 c1,x=.returned (.tuple #[.agg #[.slice A0 0 c0,.slice A1 1 c1],.int .i64 0,.int .i64 0])∧Below w.heap.size w w'∧Laid6 w'.heap.size awQ1 (.slice A0 0 c0) (.slice A1 1 c1) w':=
 (uZ awT1 ht hB awd1).mono fun x w' ⟨A0,c0,A1,c1,he,hb,hg⟩=>by rw[awl1.1,awl1.2]at he hg;exact⟨A0,c0,A1,c1,he,hb,hg⟩
theorem aw_p2 {B:Nat} {w:World} (ht:TreeTab B w) (hB:B≤w.heap.size):Calls Tryz.prog 6 #[.string ⟨#[105,110,116,32,109,97,105,110,40,41,32,123,32,105,110,116,32,118,48,32,61,32,49,59,32,105,102,32,40,116,114,117,101,41,32,123,32,105,110,116,32,118,49,32,61,32,50,59,32,112,114,105,110,116,40,118,49,41,59,32,125,32,114,101,116,117,114,110,32,118,48,59,32,125]⟩] w fun x w'=>∃ A0 c0 A1 c1,x=.returned (.tuple #[.agg #[.slice A0 0 c0,.slice A1 1 c1],.int .i64 0,.int .i64 0])∧Below w.heap.size w w'∧Laid6 w'.heap.size awQ2 (.slice A0 0 c0) (.slice A1 1 c1) w':=
 (uZ awT2 ht hB awd2).mono fun x w' ⟨A0,c0,A1,c1,he,hb,hg⟩=>by rw[awl2.1,awl2.2]at he hg;exact⟨A0,c0,A1,c1,he,hb,hg⟩
theorem aw_r1 {B:Nat} {v0 v1:Value} {w:World} (h:Laid6 B awQ1 v0 v1 w):Calls Tryz.prog 8 #[.agg #[v0,v1]] w fun x w'=>∃ A0 c0 A1 c1,x=.returned (.tuple #[.agg #[.slice A0 0 c0,.slice A1 1 c1],.int .i64 0])∧Below w.heap.size w w'∧Laid6 w'.heap.size awQ2 (.slice A0 0 c0) (.slice A1 1 c1) w':=
 (h.ren (small_all awd1) awr1).mono fun x w' ⟨A0,c0,A1,c1,he,hb,hg⟩=>by rw[awl2.1,awl2.2]at he hg;exact⟨A0,c0,A1,c1,he,hb,hg⟩
theorem aw_r0 {B:Nat} {w:World} (ht:TreeTab B w) (hB:B≤w.heap.size):Calls Tryz.prog 8 #[.agg #[.slice none 0 0,.slice none 0 0]] w fun x w'=>∃ A0 c0 A1 c1,x=.returned (.tuple #[.agg #[.slice A0 0 c0,.slice A1 0 c1],.int .i64 1])∧Below w.heap.size w w':=
 ((laid0 ht hB).ren small0 awr0).mono fun x w' ⟨A0,c0,A1,c1,he,hb,_⟩=>⟨A0,c0,A1,c1,he,hb⟩
theorem Laid6.box {w:World} {q:Pr} {A0 A1:Option Addr} {n0 c0 n1 c1:Nat} (h:Laid6 w.heap.size q (.slice A0 n0 c0) (.slice A1 n1 c1) w):Below w.heap.size w (w.alloc (pgO A0 n0 c0 A1 n1 c1))∧(w.alloc (pgO A0 n0 c0 A1 n1 c1)).heap[w.heap.size]? =some (pgO A0 n0 c0 A1 n1 c1)∧(w.alloc (pgO A0 n0 c0 A1 n1 c1)).heap.size=w.heap.size+1∧Laid6 w.heap.size q (.slice A0 n0 c0) (.slice A1 n1 c1) (w.alloc (pgO A0 n0 c0 A1 n1 c1)):=by
 have hb:Below w.heap.size w (w.alloc (pgO A0 n0 c0 A1 n1 c1)):=(Below.refl _ _).alloc (Nat.le_refl _) _;exact⟨hb,heap_alloc_new w _,zA _ _,h.below hb⟩
set_option maxHeartbeats 2000000 in
theorem rawake_any (B:Nat) (w:World) (ht:TreeTab B w) (hB:B≤w.heap.size):Calls Tryz.prog 10 #[] w fun e w'=>e=.returned (.bool true)∧Below w.heap.size w w':=by
 have HT:=hid ht;clear ht;go_enter Tryz.func10,Tryz.ntmps10
 go_upto_region 2 with(go_at_call 6;(with_reducible refine(aw_p1 HT.out hB).mono ?_);rintro e w1 ⟨A0,c0,A1,c1,rfl,hb,hg⟩
                       obtain⟨k1,k2,k3,k4⟩:=hg.box;have HG1:=hid k4;have HX1:=hid k2;have HB1:=hid (hb.trans (k1.mono hb.size));have hz1:w.heap.size≤w1.heap.size:=hb.size;have hz1':=k3
                       clear hb hg k1 k2 k3 k4)
 generalize w1.alloc (pgO A0 0 c0 A1 1 c1)=W1 at *;have hz1a:=Nat.le_of_eq hz1';have hz1b:=Nat.le_of_eq hz1'.symm;clear hz1';obtain⟨⟨a0,a1⟩,az⟩:=zE HX1.out;have hs1:w1.heap.size<W1.heap.size:=by omega
 go_upto_region 3 with(go_at_call 8;(with_reducible refine(aw_r1 HG1.out).mono ?_);rintro e w2 ⟨A2,c2,A3,c3,rfl,hb,hg⟩
                       obtain⟨k1,k2,k3,k4⟩:=hg.box;have HG2:=hid k4;have HX2:=hid k2;have HB2:=hid ((HB1.out.trans (hb.mono (by omega))).trans (k1.mono (by have:=hb.size;omega)));have hz2:W1.heap.size≤w2.heap.size:=hb.size;have hz2':=k3
                       clear hb hg k1 k2 k3 k4)
 generalize w2.alloc (pgO A2 0 c2 A3 1 c3)=W2 at *;have hz2a:=Nat.le_of_eq hz2';have hz2b:=Nat.le_of_eq hz2'.symm;clear hz2' a0 a1 az;have HT2:=hid (HT.out.below (HB2.out.mono hB))
 go_upto_region 4 with(go_at_call 6;(with_reducible refine(aw_p2 HT2.out (by omega)).mono ?_);rintro e w3 ⟨A4,c4,A5,c5,rfl,hb,hg⟩
                       obtain⟨k1,k2,k3,k4⟩:=hg.box;have HG3:=hid k4;have HX3:=hid k2;have HB3:=hid ((HB2.out.trans (hb.mono (by omega))).trans (k1.mono (by have:=hb.size;omega)));have HQ3:=hid ((HG2.out.below hb).below (k1.mono (Nat.le_refl _)));have HY3:=hid ((k1.block w2.heap.size (by have:=hb.size;omega)).trans ((hb.block w2.heap.size (by omega)).trans HX2.out));have hz3:W2.heap.size≤w3.heap.size:=hb.size;have hz3':=k3
                       clear hb hg k1 k2 k3 k4)
 generalize w3.alloc (pgO A4 0 c4 A5 1 c5)=W3 at *;have hz3a:=Nat.le_of_eq hz3';have hz3b:=Nat.le_of_eq hz3'.symm;clear hz3';have HT3:=hid (HT.out.below (HB3.out.mono hB))
 go_upto_region 5 with(go_at_call 8;(with_reducible refine(aw_r0 HT3.out (by omega)).mono ?_);rintro e w4 ⟨A6,c6,A7,c7,rfl,hb⟩
                       have hk:Below w4.heap.size w4 (w4.alloc (pgO A6 0 c6 A7 0 c7)):=(Below.refl _ _).alloc (Nat.le_refl _) _;have hz4:W3.heap.size≤w4.heap.size:=hb.size;have hbk:Below W3.heap.size W3 (w4.alloc (pgO A6 0 c6 A7 0 c7)):=hb.trans (hk.mono hz4);have HB4:=hid (HB3.out.trans (hbk.mono (by omega)));have HG4:=hid (HG3.out.below hbk);have HQ4:=hid (HQ3.out.below hbk);have HX4:=hid ((hbk.block w3.heap.size (by omega)).trans HX3.out);have HY4:=hid ((hbk.block w2.heap.size (by omega)).trans HY3.out);have hz4':(w4.alloc (pgO A6 0 c6 A7 0 c7)).heap.size=w4.heap.size+1:=zA _ _
                       clear hb hk hbk)
 generalize w4.alloc (pgO A6 0 c6 A7 0 c7)=W4 at *;have hz4a:=Nat.le_of_eq hz4';have hz4b:=Nat.le_of_eq hz4'.symm;clear hz4';obtain⟨⟨x0,x1⟩,xz⟩:=zE HX4.out;obtain⟨⟨y0,y1⟩,yz⟩:=zE HY4.out;have hs4:w3.heap.size<W4.heap.size:=by omega
 have hs5:w2.heap.size<W4.heap.size:=by omega
 have HSM:=hid ((HQ4.out.mono (by omega) (Nat.le_refl _)).same (HG4.out.mono (by omega) (Nat.le_refl _)))
 go_wp2_with (go_at_call 11;(with_reducible refine(HSM.out).mono ?_);rintro e w5 ⟨rfl,hb⟩
              have HB5:=hid (HB4.out.trans (hb.mono (by omega)))
              clear hb)
 go_ret;exact⟨rfl,HB5.out⟩
def kb (w:World) (v:Value):Prop:=∃ A n c,v=.slice A n c∧n≤9223372036854775807∧(0<n→∃ b off,A=some ⟨b,off,none⟩∧b<w.heap.size∧∀ k,k<n→∃ z:Int,0≤z∧z≤255∧w.cell? ⟨b,off+k,none⟩=some (.int .u8 z))
theorem kb.below {w w':World} {v:Value} (h:kb w v) (hb:Below w.heap.size w w'):kb w' v:=by
 obtain⟨A,n,c,rfl,hn,h1⟩:=h;refine⟨A,n,c,rfl,hn,fun hp=>?_⟩;obtain⟨b,off,rfl,hlt,hc⟩:=h1 hp;refine⟨b,off,rfl,Nat.lt_of_lt_of_le hlt hb.size,fun k hk=>?_⟩;obtain⟨z,h0,h2,h3⟩:=hc k hk;exact⟨z,h0,h2,(hb.cell (p:=⟨b,off+k,none⟩) hlt).trans h3⟩
def zAq:List ByteArray:=[⟨#[120,32,61,32,49,59]⟩,⟨#[105,110,116,32,121,32,61,32,120,59]⟩,⟨#[98,111,111,108,32,98,32,61,32,120,32,60,32,50,59]⟩,⟨#[98,32,61,32,33,98,59]⟩,⟨#[97,91,120,93,32,61,32,121,59]⟩,⟨#[105,102,32,40,98,41,32,123]⟩,⟨#[125,32,101,108,115,101,32,123]⟩,⟨#[125]⟩,⟨#[119,104,105,108,101,32,40,120,32,60,32,51,41,32,123]⟩,⟨#[119,104,105,108,101,32,40,116,114,117,101,41,32,123]⟩,⟨#[98,114,101,97,107,59]⟩,⟨#[99,111,110,116,105,110,117,101,59]⟩,⟨#[114,101,116,117,114,110,32,120,59]⟩,⟨#[114,101,116,117,114,110,32,98,59]⟩,⟨#[112,114,105,110,116,40,120,32,43,32,97,91,48,93,41,59]⟩,⟨#[102,40,120,44,32,98,41,59]⟩,⟨#[105,110,116,32,120,32,61,32,50,59]⟩,⟨#[120,32,61,32,102,40,49,44,32,116,114,117,101,41,59]⟩,⟨#[98,32,61,32,102,40,120,44,32,98,41,32,61,61,32,50,32,38,38,32,98,59]⟩,⟨#[121,32,61,32,105,56,40,120,41,59]⟩,⟨#[98,32,61,32,120,59]⟩,⟨#[120,32,61,32,45,98,59]⟩,⟨#[114,101,116,117,114,110,32,102,40,120,44,32,98,32,61,61,32,116,114,117,101,41,59]⟩,⟨#[122,32,61,32,49,59]⟩,⟨#[99,91,48,93,32,61,32,49,59]⟩,⟨#[104,40,41,59]⟩,⟨#[120,32,61,32,114,101,97,100,40,41,59]⟩,⟨#[123]⟩,⟨#[114,101,116,117,114,110,32,48,59]⟩,⟨#[112,114,105,110,116,40,116,114,117,101,41,59]⟩,⟨#[98,32,61,32,116,114,117,101,32,33,61,32,40,120,32,62,32,49,41,59]⟩]
def Txt6 (w:World) (h:Nat):Prop:=∀ i,i<31→∃ s:ByteArray,s.size≤25∧w.cell? ⟨h,i,none⟩=some (.string s)
theorem txt6_of {w:World} {h:Nat} (hI:w.heap[h]? =some (.cells (zAq.map Value.string).toArray 9)):Txt6 w h:=fun i hi=>by
 have hl:i<zAq.length:=hi;refine⟨zAq[i],(by decide+kernel:∀ s ∈ zAq,s.size≤25) _ (List.getElem_mem hl),(Lib.cell_of_heap hI i).trans ?_⟩;rw[List.getElem?_toArray,List.getElem?_map,List.getElem?_eq_getElem hl];rfl
theorem texts6_any (w:World):Calls Tryz.prog 18 #[] w fun e w'=>e=.returned (.slice (some ⟨w.heap.size,0,none⟩) 31 31)∧Txt6 w' w.heap.size∧Below w.heap.size w w':=by
 go_enter Tryz.func18,Tryz.ntmps18;go_wp2;go_ret;exact⟨rfl,txt6_of (heap_alloc_new w _),(Below.refl _ _).alloc (Nat.le_refl _) _⟩
set_option maxHeartbeats 1000000 in
theorem lbody6_some (b off n c:Nat) (ends:Bool) (w:World) (hn:n≤9223372036854775807) (hbs:b<w.heap.size) (hc:∀ k,k<n→∃ z:Int,0≤z∧z≤255∧w.cell? ⟨b,off+k,none⟩=some (.int .u8 z)):
 Calls Tryz.prog 7 #[.slice (some ⟨b,off,none⟩) n c,.bool ends] w fun e w'=>∃ r:ByteArray,e=.returned (.string r)∧Below w.heap.size w w':=by
 have HC:=hid hc;clear hc;go_enter Tryz.func7,Tryz.ntmps7
 go_wp2_with (go_at_call 18;(with_reducible refine(texts6_any w).mono ?_);rintro e w1 ⟨rfl,hT,hb⟩
              have HT:=hid hT;have HB:=hid hb
              have HC1:=hid (show ∀ k,k<n→∃ z:Int,0≤z∧z≤255∧w1.cell? ⟨b,off+k,none⟩=some (.int .u8 z) from fun k hk=>by
               obtain⟨z,h0,h2,h3⟩:=HC.out k hk
               exact⟨z,h0,h2,(hb.cell (p:=⟨b,off+k,none⟩) hbs).trans h3⟩)
              clear hT hb)
 go_loop [5,7] (fun sv iv=>∃ (k:Nat) (s:ByteArray),k≤n∧k≤14∧iv=.int .i64 k∧sv=.string s∧s.size≤33+26 * k) (fun _ iv=>14-(intOf iv).toNat)
 case atStart=>exact⟨0,_,Nat.zero_le _,by omega,rfl,rfl,(by decide)⟩
 case round=>
  obtain⟨k,r,hk,hk14,rfl,rfl,hr⟩:=hrel;by_cases hlt:k<n
  · by_cases h14:k<14
    · obtain⟨z,hz0,hz255,hz⟩:=HC1.out k hlt
      have hj0:0≤z % (31 :Int):=Int.emod_nonneg _ (by omega);have hjm:z % (31 :Int)<31:=Int.emod_lt_of_pos _ (by omega);obtain⟨s,hsz,hsc⟩:=HT.out (z % (31 :Int)).toNat (by omega);go_wp2;go_round
      case rel=>exact⟨k+1,_,by omega,by omega,by go_num,rfl,(by rw[ByteArray.size_append,ByteArray.size_append,show (⟨#[10]⟩:ByteArray).size=1 from rfl];omega)⟩
      case measure=>simp[intOf];omega
    · have e:k=14:=by omega
      subst e;cases ends
      · go_wp2
        go_ret
        first | exact⟨_,rfl,HB.out⟩ | exact⟨⟨_,rfl⟩,HB.out⟩
      · go_wp2
        go_ret
        first | exact⟨_,rfl,HB.out⟩ | exact⟨⟨_,rfl⟩,HB.out⟩
  · have e:k=n:=by omega
    subst e;cases ends
    · go_wp2
      go_ret
      first | exact⟨_,rfl,HB.out⟩ | exact⟨⟨_,rfl⟩,HB.out⟩
    · go_wp2
      go_ret
      first | exact⟨_,rfl,HB.out⟩ | exact⟨⟨_,rfl⟩,HB.out⟩
theorem lbody6_nil (A:Option Addr) (c:Nat) (ends:Bool) (w:World):
 Calls Tryz.prog 7 #[.slice A 0 c,.bool ends] w fun e w'=>∃ r:ByteArray,e=.returned (.string r)∧Below w.heap.size w w':=by
 go_enter Tryz.func7,Tryz.ntmps7
 go_wp2_with (go_at_call 18;(with_reducible refine(texts6_any w).mono ?_);rintro e w1 ⟨rfl,hT,hb⟩
              have HB:=hid hb
              clear hT hb)
 go_loop [5,7] (fun sv iv=>iv=.int .i64 0∧∃ s,sv=.string s∧s.size≤33) (fun _ _=>0)
 case atStart=>exact⟨rfl,_,rfl,(by decide)⟩
 case round=>
  obtain⟨rfl,s,rfl,hr⟩:=hrel;cases ends
  · go_wp2
    go_ret
    first | exact⟨_,rfl,HB.out⟩ | exact⟨⟨_,rfl⟩,HB.out⟩
  · go_wp2
    go_ret
    first | exact⟨_,rfl,HB.out⟩ | exact⟨⟨_,rfl⟩,HB.out⟩
theorem lbody6_any (v:Value) (ends:Bool) (w:World) (hv:kb w v):
 Calls Tryz.prog 7 #[v,.bool ends] w fun e w'=>∃ r:ByteArray,e=.returned (.string r)∧Below w.heap.size w w':=by
 obtain⟨A,n,c,rfl,hn,h1⟩:=hv;by_cases h0:0<n
 · obtain⟨b,off,rfl,hbs,hc⟩:=h1 h0
   exact lbody6_some b off n c ends w hn hbs hc
 · rw[show n=0 by omega]
   exact lbody6_nil A c ends w
end Go.Proofs.YtfghofifjnbicaaGreatDoor
