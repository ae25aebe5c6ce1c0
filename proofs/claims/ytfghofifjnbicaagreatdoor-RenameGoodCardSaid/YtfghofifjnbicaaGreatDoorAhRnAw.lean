import Derived.Test.YtfghofifjnbicaaGreatDoorAhZed
import Derived.Test.YtfghofifjnbicaaGreatDoorAhTyRk
import Derived.Test.YtfghofifjnbicaaGreatDoorAhTokRefB
import Derived.Test.YtfghofifjnbicaaGreatDoorAhParSame
import Derived.Test.YtfghofifjnbicaaGreatDoorAhParNums
import Derived.Test.YtfghofifjnbicaaGreatDoorAhTreeRefD
import Derived.Test.YtfghofifjnbicaaGreatDoorAhRnBl
set_option linter.unusedSimpArgs false
set_option linter.unusedVariables false
set_option maxRecDepth 100000
/- The law's awake. (By tools/gen_rnaw.py.) -/
namespace Go.Proofs.YtfghofifjnbicaaGreatDoor
open Lib (hid)
open Go.RowKit
structure Laid6 (B:Nat) (p:Pr) (v0 v1:Value) (w:World):Prop where
 hB:B≤w.heap.size
 tab:TreeTab B w
 ha:SlA B w v0 p.arrays
 hf:SlF B w v1 p.funcs
theorem Laid6.below {B:Nat} {p:Pr} {v0 v1:Value} {w w':World} (h:Laid6 B p v0 v1 w) (hb:Below w.heap.size w w'):Laid6 B p v0 v1 w':=⟨Nat.le_trans h.hB hb.size,h.tab.below (hb.mono h.hB),h.ha.below (hb.mono h.hB) Zr,h.hf.below (hb.mono h.hB) Zr⟩
theorem Laid6.mono {B B':Nat} {p:Pr} {v0 v1:Value} {w:World} (h:Laid6 B p v0 v1 w) (hB:B≤B') (hB':B'≤w.heap.size):Laid6 B' p v0 v1 w:=⟨hB',h.tab.mono hB,h.ha.below Zb hB,h.hf.below Zb hB⟩
theorem frg_laid {L:Nat} {w:World} {p:Pr} {v0 v1:Value} (h:FrG L w p (.agg #[v0,v1])):SlA w.heap.size w v0 p.arrays∧SlF w.heap.size w v1 p.funcs:=by
 obtain⟨u0,u1,hv,h0,h1⟩:=h;simp only[Value.agg.injEq,Array.mk.injEq,List.cons.injEq,and_true]at hv;obtain⟨rfl,rfl⟩:=hv;exact⟨SlA.imp (fun _ _ _ hc=>(zn hc).2) h0,SlF.imp (fun _ _ _ hc=>(zn hc).2) h1⟩
def GotP (p:Pr) (e:Int) (ln:Nat) (w:World) (x:Ending) (w':World):Prop:=
 ∃ A0 c0 A1 c1,x=.returned (.tuple #[.agg #[.slice A0 p.arrays.length c0,.slice A1 p.funcs.length c1],.int .i64 e,.int .i64 (ln:Int)])∧Below w.heap.size w w'∧Laid6 w'.heap.size p (.slice A0 p.arrays.length c0) (.slice A1 p.funcs.length c1) w'
theorem parse_got6 {B:Nat} {w:World} (s:ByteArray) (ht:TreeTab B w) (hB:B≤w.heap.size) {p:Pr} {e:Int} {ln:Nat} (hd:kq s=(p,e,ln)):Calls Tryz.prog 6 #[.string s] w (GotP p e ln w):=
 (rparse_any s w).mono fun x w' ⟨hb,v0,v1,he,ha,hf⟩=>by
   rw[hd]at he ha hf;replace ha:=SlA.imp zAp ha;replace hf:=SlF.imp zAp hf;obtain⟨A0,c0,rfl,_⟩:=ha.form;obtain⟨A1,c1,rfl,_⟩:=hf.form;exact⟨A0,c0,A1,c1,he,hb,Nat.le_refl _,(ht.below (hb.mono hB)).mono (Nat.le_trans hB hb.size),ha,hf⟩
def GotR (q:Pr) (k:Int) (w:World) (x:Ending) (w':World):Prop:=
 ∃ A0 c0 A1 c1,x=.returned (.tuple #[.agg #[.slice A0 q.arrays.length c0,.slice A1 q.funcs.length c1],.int .i64 k])∧Below w.heap.size w w'∧Laid6 w'.heap.size q (.slice A0 q.arrays.length c0) (.slice A1 q.funcs.length c1) w'
theorem got_r {B:Nat} {p q:Pr} {k:Int} {w:World} (ht:TreeTab B w) (hB:B≤w.heap.size) (hR:uA p=(q,k)) {x:Ending} {w':World} (h:RnPost p w x w'):GotR q k w x w':=by
 obtain⟨v0,v1,hx,hb,hf⟩:=h;rw[hR]at hx hf;obtain⟨h0,h1⟩:=frg_laid hf;obtain⟨A0,c0,rfl,_⟩:=h0.form;obtain⟨A1,c1,rfl,_⟩:=h1.form;exact⟨A0,c0,A1,c1,hx,hb,Nat.le_refl _,(ht.below (hb.mono hB)).mono (Nat.le_trans hB hb.size),h0,h1⟩
theorem Laid6.ren {B:Nat} {p q:Pr} {k:Int} {v0 v1:Value} {w:World} (h:Laid6 B p v0 v1 w) (hs:Small p) (hR:uA p=(q,k)):Calls Tryz.prog 8 #[.agg #[v0,v1]] w (GotR q k w):=
 (drename_any B p v0 v1 w h.tab h.hB h.ha h.hf hs).mono fun _ _ g=>got_r h.tab h.hB hR g
theorem Laid6.rren {B:Nat} {p q:Pr} {k:Int} {v0 v1:Value} {w:World} (h:Laid6 B p v0 v1 w) (hs:Small p) (hR:uA p=(q,k)):Calls Tryz.prog 9 #[.agg #[v0,v1]] w (GotR q k w):=
 (rrename_any B p v0 v1 w h.hB h.ha h.hf hs).mono fun _ _ g=>got_r h.tab h.hB hR g
theorem Laid6.same {B:Nat} {q:Pr} {v0 v1 u0 u1:Value} {w:World} (h:Laid6 B q v0 v1 w) (g:Laid6 B q u0 u1 w):Calls Tryz.prog 11 #[.agg #[v0,v1],.agg #[u0,u1]] w fun e w'=>e=.returned (.bool true)∧Below w.heap.size w w':=
 same_any q B v0 v1 u0 u1 w h.hB h.ha h.hf g.ha g.hf
theorem small0:Small pr0:=⟨by kernel_rfl,⟨fun a ha=>(by cases ha),fun f hf=>(by cases hf)⟩,Nat.zero_le _,Nat.zero_le _,fun f hf=>(by cases hf)⟩
theorem laid0 {B:Nat} {w:World} (ht:TreeTab B w) (hB:B≤w.heap.size):Laid6 B pr0 (.slice none 0 0) (.slice none 0 0) w:=⟨hB,ht,ue _ _,⟨none,0,rfl,Nat.zero_le _,fun h=>absurd h (by simp[pr0])⟩⟩
theorem small_all {s:ByteArray} {p:Pr} {k:Int} {ln:Nat} (h:kq s=(p,k,ln)):Small p:=by
 by_cases hk:k=0
 · subst hk;exact small_any h
 · rw[docP_bad6 h hk];exact small0
def awT1:ByteArray:=⟨#[105,110,116,32,109,97,105,110,40,41,32,123,32,105,110,116,32,120,32,61,32,49,59,32,105,102,32,40,116,114,117,101,41,32,123,32,105,110,116,32,120,32,61,32,50,59,32,112,114,105,110,116,40,120,41,59,32,125,32,114,101,116,117,114,110,32,120,59,32,125]⟩
def awT2:ByteArray:=⟨#[105,110,116,32,109,97,105,110,40,41,32,123,32,105,110,116,32,118,48,32,61,32,49,59,32,105,102,32,40,116,114,117,101,41,32,123,32,105,110,116,32,118,49,32,61,32,50,59,32,112,114,105,110,116,40,118,49,41,59,32,125,32,114,101,116,117,114,110,32,118,48,59,32,125]⟩
def awQ1:Pr:=(kq awT1).1
def awQ2:Pr:=(kq awT2).1
theorem awd1:kq awT1=(awQ1,0,0):=by kernel_rfl
theorem awd2:kq awT2=(awQ2,0,0):=by kernel_rfl
theorem awr1:uA awQ1=(awQ2,0):=by kernel_rfl
theorem awr0:uA pr0=(pr0,1):=by kernel_rfl
theorem awl1:awQ1.arrays.length=0∧awQ1.funcs.length=1:=⟨by kernel_rfl,by kernel_rfl⟩
theorem awl2:awQ2.arrays.length=0∧awQ2.funcs.length=1:=⟨by kernel_rfl,by kernel_rfl⟩
theorem aw_p1 {B:Nat} {w:World} (ht:TreeTab B w) (hB:B≤w.heap.size):Calls Tryz.prog 6 #[.string ⟨#[105,110,116,32,109,97,105,110,40,41,32,123,32,105,110,116,32,120,32,61,32,49,59,32,105,102,32,40,116,114,117,101,41,32,123,32,105,110,116,32,120,32,61,32,50,59,32,112,114,105,110,116,40,120,41,59,32,125,32,114,101,116,117,114,110,32,120,59,32,125]⟩] w fun x w'=>∃ A0 c0 A1 c1,x=.returned (.tuple #[.agg #[.slice A0 0 c0,.slice A1 1 c1],.int .i64 0,.int .i64 0])∧Below w.heap.size w w'∧Laid6 w'.heap.size awQ1 (.slice A0 0 c0) (.slice A1 1 c1) w':=
 (parse_got6 awT1 ht hB awd1).mono fun x w' ⟨A0,c0,A1,c1,he,hb,hg⟩=>by rw[awl1.1,awl1.2]at he hg;exact⟨A0,c0,A1,c1,he,hb,hg⟩
theorem aw_p2 {B:Nat} {w:World} (ht:TreeTab B w) (hB:B≤w.heap.size):Calls Tryz.prog 6 #[.string ⟨#[105,110,116,32,109,97,105,110,40,41,32,123,32,105,110,116,32,118,48,32,61,32,49,59,32,105,102,32,40,116,114,117,101,41,32,123,32,105,110,116,32,118,49,32,61,32,50,59,32,112,114,105,110,116,40,118,49,41,59,32,125,32,114,101,116,117,114,110,32,118,48,59,32,125]⟩] w fun x w'=>∃ A0 c0 A1 c1,x=.returned (.tuple #[.agg #[.slice A0 0 c0,.slice A1 1 c1],.int .i64 0,.int .i64 0])∧Below w.heap.size w w'∧Laid6 w'.heap.size awQ2 (.slice A0 0 c0) (.slice A1 1 c1) w':=
 (parse_got6 awT2 ht hB awd2).mono fun x w' ⟨A0,c0,A1,c1,he,hb,hg⟩=>by rw[awl2.1,awl2.2]at he hg;exact⟨A0,c0,A1,c1,he,hb,hg⟩
theorem aw_r1 {B:Nat} {v0 v1:Value} {w:World} (h:Laid6 B awQ1 v0 v1 w):Calls Tryz.prog 8 #[.agg #[v0,v1]] w fun x w'=>∃ A0 c0 A1 c1,x=.returned (.tuple #[.agg #[.slice A0 0 c0,.slice A1 1 c1],.int .i64 0])∧Below w.heap.size w w'∧Laid6 w'.heap.size awQ2 (.slice A0 0 c0) (.slice A1 1 c1) w':=
 (h.ren (small_all awd1) awr1).mono fun x w' ⟨A0,c0,A1,c1,he,hb,hg⟩=>by rw[awl2.1,awl2.2]at he hg;exact⟨A0,c0,A1,c1,he,hb,hg⟩
theorem aw_r0 {B:Nat} {w:World} (ht:TreeTab B w) (hB:B≤w.heap.size):Calls Tryz.prog 8 #[.agg #[.slice none 0 0,.slice none 0 0]] w fun x w'=>∃ A0 c0 A1 c1,x=.returned (.tuple #[.agg #[.slice A0 0 c0,.slice A1 0 c1],.int .i64 1])∧Below w.heap.size w w':=
 ((laid0 ht hB).ren small0 awr0).mono fun x w' ⟨A0,c0,A1,c1,he,hb,_⟩=>⟨A0,c0,A1,c1,he,hb⟩
theorem Laid6.box {w:World} {q:Pr} {A0 A1:Option Addr} {n0 c0 n1 c1:Nat} (h:Laid6 w.heap.size q (.slice A0 n0 c0) (.slice A1 n1 c1) w):Below w.heap.size w (w.alloc (pgO A0 n0 c0 A1 n1 c1))∧(w.alloc (pgO A0 n0 c0 A1 n1 c1)).heap[w.heap.size]? =some (pgO A0 n0 c0 A1 n1 c1)∧(w.alloc (pgO A0 n0 c0 A1 n1 c1)).heap.size=w.heap.size+1∧Laid6 w.heap.size q (.slice A0 n0 c0) (.slice A1 n1 c1) (w.alloc (pgO A0 n0 c0 A1 n1 c1)):=by
 have hb:Below w.heap.size w (w.alloc (pgO A0 n0 c0 A1 n1 c1)):=Zb.alloc Zr _;exact⟨hb,heap_alloc_new w _,zA _ _,h.below hb⟩
set_option maxHeartbeats 2000000 in
theorem rawake_any (B:Nat) (w:World) (ht:TreeTab B w) (hB:B≤w.heap.size):Calls Tryz.prog 10 #[] w fun e w'=>e=.returned (.bool true)∧Below w.heap.size w w':=by
 have HT:=hid ht;clear ht;go_enter Tryz.func10,Tryz.ntmps10
 go_upto_region 2 with(go_at_call 6;(with_reducible refine(aw_p1 HT.out hB).mono ?_);rintro e w1 ⟨A0,c0,A1,c1,rfl,hb,hg⟩
                       obtain⟨k1,k2,k3,k4⟩:=hg.box;have HG1:=hid k4;have HX1:=hid k2;have HB1:=hid (hb.trans (k1.mono hb.size));have hz1:w.heap.size≤w1.heap.size:=hb.size;have hz1':=k3
                       clear hb hg k1 k2 k3 k4)
 generalize w1.alloc (pgO A0 0 c0 A1 1 c1)=W1 at *;have hz1a:=Nat.le_of_eq hz1';have hz1b:=Nat.le_of_eq hz1'.symm;clear hz1';obtain⟨⟨a0,a1⟩,az⟩:=zE HX1.out;have hs1:w1.heap.size<W1.heap.size:=by omega
 go_upto_region 3 with(go_at_call 8;(with_reducible refine(aw_r1 HG1.out).mono ?_);rintro e w2 ⟨A2,c2,A3,c3,rfl,hb,hg⟩
                       obtain⟨k1,k2,k3,k4⟩:=hg.box;have HG2:=hid k4;have HX2:=hid k2;have HB2:=hid ((HB1.out.trans (hb.mono (by omega))).trans (k1.mono (by have:=hb.size;omega)));have hz2:W1.heap.size≤w2.heap.size:=hb.size;have hz2':=k3
                       clear hb hg k1 k2 k3 k4)
 generalize w2.alloc (pgO A2 0 c2 A3 1 c3)=W2 at *;have hz2a:=Nat.le_of_eq hz2';have hz2b:=Nat.le_of_eq hz2'.symm;clear hz2' a0 a1 az;have HT2:=hid (HT.out.below (HB2.out.mono hB))
 go_upto_region 4 with(go_at_call 6;(with_reducible refine(aw_p2 HT2.out (by omega)).mono ?_);rintro e w3 ⟨A4,c4,A5,c5,rfl,hb,hg⟩
                       obtain⟨k1,k2,k3,k4⟩:=hg.box;have HG3:=hid k4;have HX3:=hid k2;have HB3:=hid ((HB2.out.trans (hb.mono (by omega))).trans (k1.mono (by have:=hb.size;omega)));have HQ3:=hid ((HG2.out.below hb).below (k1.mono Zr));have HY3:=hid ((k1.block w2.heap.size (by have:=hb.size;omega)).trans ((hb.block w2.heap.size (by omega)).trans HX2.out));have hz3:W2.heap.size≤w3.heap.size:=hb.size;have hz3':=k3
                       clear hb hg k1 k2 k3 k4)
 generalize w3.alloc (pgO A4 0 c4 A5 1 c5)=W3 at *;have hz3a:=Nat.le_of_eq hz3';have hz3b:=Nat.le_of_eq hz3'.symm;clear hz3';have HT3:=hid (HT.out.below (HB3.out.mono hB))
 go_upto_region 5 with(go_at_call 8;(with_reducible refine(aw_r0 HT3.out (by omega)).mono ?_);rintro e w4 ⟨A6,c6,A7,c7,rfl,hb⟩
                       have hk:Below w4.heap.size w4 (w4.alloc (pgO A6 0 c6 A7 0 c7)):=Zb.alloc Zr _;have hz4:W3.heap.size≤w4.heap.size:=hb.size;have hbk:Below W3.heap.size W3 (w4.alloc (pgO A6 0 c6 A7 0 c7)):=hb.trans (hk.mono hz4);have HB4:=hid (HB3.out.trans (hbk.mono (by omega)));have HG4:=hid (HG3.out.below hbk);have HQ4:=hid (HQ3.out.below hbk);have HX4:=hid ((hbk.block w3.heap.size (by omega)).trans HX3.out);have HY4:=hid ((hbk.block w2.heap.size (by omega)).trans HY3.out);have hz4':(w4.alloc (pgO A6 0 c6 A7 0 c7)).heap.size=w4.heap.size+1:=zA _ _
                       clear hb hk hbk)
 generalize w4.alloc (pgO A6 0 c6 A7 0 c7)=W4 at *;have hz4a:=Nat.le_of_eq hz4';have hz4b:=Nat.le_of_eq hz4'.symm;clear hz4';obtain⟨⟨x0,x1⟩,xz⟩:=zE HX4.out;obtain⟨⟨y0,y1⟩,yz⟩:=zE HY4.out;have hs4:w3.heap.size<W4.heap.size:=by omega
 have hs5:w2.heap.size<W4.heap.size:=by omega
 have HSM:=hid ((HQ4.out.mono (by omega) Zr).same (HG4.out.mono (by omega) Zr))
 go_wp2_with (go_at_call 11;(with_reducible refine(HSM.out).mono ?_);rintro e w5 ⟨rfl,hb⟩
              have HB5:=hid (HB4.out.trans (hb.mono (by omega)))
              clear hb)
 go_ret;exact⟨rfl,HB5.out⟩
def vr (w:World) (v:Value):Prop:=∃ A n c,v=.slice A n c∧n≤9223372036854775807∧(0<n→∃ b off,A=some ⟨b,off,none⟩∧b<w.heap.size∧∀ k,k<n→∃ z:Int,0≤z∧z≤255∧w.cell? ⟨b,off+k,none⟩=some (.int .u8 z))
def GotF (p:Pr) (e:Int) (ln:Nat) (w:World) (x:Ending) (w':World):Prop:=
 ∃ A0 c0 A1 c1,x=.returned (.tuple #[.agg #[.slice A0 p.arrays.length c0,.slice A1 p.funcs.length c1],.int .i64 e,.int .i64 (ln:Int)])∧Below w.heap.size w w'∧FrG w.heap.size w' p (.agg #[.slice A0 p.arrays.length c0,.slice A1 p.funcs.length c1])
theorem parse_frg {w:World} (s:ByteArray) {p:Pr} {e:Int} {ln:Nat} (hd:kq s=(p,e,ln)):Calls Tryz.prog 6 #[.string s] w (GotF p e ln w):=
 (rparse_any s w).mono fun x w' ⟨hb,v0,v1,he,ha,hf⟩=>by
   rw[hd]at he ha hf;obtain⟨A0,c0,rfl,_⟩:=ha.form;obtain⟨A1,c1,rfl,_⟩:=hf.form;exact⟨A0,c0,A1,c1,he,hb,_,_,rfl,ha,hf⟩
theorem parse_some {w:World} (s:ByteArray):Calls Tryz.prog 6 #[.string s] w fun x w'=>∃ p e ln,kq s=(p,e,ln)∧GotF p e ln w x w':=by
 obtain⟨p,e,ln,hd⟩:∃ p e ln,kq s=(p,e,ln):=⟨_,_,_,rfl⟩
 exact(parse_frg s hd).mono fun _ _ h=>⟨p,e,ln,hd,h⟩
def GoodPost (w:World) (x:Ending) (w':World):Prop:=
 ∃ p A0 c0 A1 c1,x=.returned (.agg #[.slice A0 p.arrays.length c0,.slice A1 p.funcs.length c1])∧Below w.heap.size w w'∧Laid6 w'.heap.size p (.slice A0 p.arrays.length c0) (.slice A1 p.funcs.length c1) w'∧Small p
section
variable {B:Nat} {w W:World}
theorem Rb.good0 (h:Rb w W) (ht:TreeTab B w) (hB:B≤w.heap.size) (c0 c1:Value):GoodPost w (.returned (.agg #[.slice none 0 0,.slice none 0 0])) (yA W w.heap.size c0 c1):=by
 have hb:=h.nest c0 c1;exact⟨pr0,none,0,none,0,rfl,hb,(laid0 (ht.below (hb.mono hB)) (Nat.le_trans hB hb.size)).mono (Nat.le_trans hB hb.size) Zr,small0⟩
theorem Rb.good1 (h:Rb w W) (ht:TreeTab B w) (hB:B≤w.heap.size) {p:Pr} {A0 A1:Option Addr} {c0 c1:Nat} {L:Nat} (hG:FrG L W p (.agg #[.slice A0 p.arrays.length c0,.slice A1 p.funcs.length c1])) (hL:w.heap.size<L) (hs:Small p):GoodPost w (.returned (.agg #[.slice A0 p.arrays.length c0,.slice A1 p.funcs.length c1])) (yA W w.heap.size (.slice A0 p.arrays.length c0) (.slice A1 p.funcs.length c1)):=by
 have hb:=h.nest (.slice A0 p.arrays.length c0) (.slice A1 p.funcs.length c1);obtain⟨h0,h1⟩:=frg_laid (hG.keep (zD.nest2 (g:=w.heap.size) hL (.slice A0 p.arrays.length c0) (.slice A1 p.funcs.length c1)) (Nat.le_of_lt hL));exact⟨p,A0,c0,A1,c1,rfl,hb,⟨Nat.le_refl _,(ht.below (hb.mono hB)).mono (Nat.le_trans hB hb.size),h0,h1⟩,hs⟩
end
theorem vr.hole {w:World} {v:Value} (h:vr w v) (o o':Obj):BytesH w.heap.size (w.heap.size+1) ((w.alloc o).alloc o') v:=by
 obtain⟨A,n,c,rfl,hn,h1⟩:=h;refine⟨A,n,c,rfl,hn,fun k hk=>?_⟩;obtain⟨b,off,rfl,hlt,hc⟩:=h1 (by omega);obtain⟨z,h0,h2,h3⟩:=hc k hk;have hb:Below w.heap.size w ((w.alloc o).alloc o'):=(Zb.alloc Zr o).alloc (by simp) o';exact⟨b,off,rfl,hlt,by omega,z,h0,h2,(hb.cell (p:=⟨b,off+k,none⟩) hlt).trans h3⟩
theorem mk_new {w:World} {v:Value} (h:vr w v) (o:Obj):MkIn (w.heap.size+1) w.heap.size v 0 ((w.alloc o).alloc (mkO v 0)):=
 ⟨by have:=heap_alloc_new (w.alloc o) (mkO v 0);rw[zA]at this;exact this,h.hole _ _,by simp;omega⟩
theorem blk_at {m:Nat} (hm:m≤3) {b N a:Nat} {v:Value} {vs bs:ByteArray} {D:Int} {lp:Bool} {w:World} (h1:D=(m:Int)) (h2:MkIn b N v a w) (h3:a≤100000000) (h4:vs.size=1) (h5:bs.size=1):
 Calls Tryz.prog 26 #[.pointer (some ⟨b,0,none⟩),.string vs,.string bs,.int .i64 D,.bool lp] w (kW 800000 800001 b N v a w):=by
 have hs:=tS_le m hm;have hp:=tP_le m hm;exact((bs_all m).1.call hm h1 h2 (by omega) h4 h5).mono fun _ _ ⟨s,a',he,hz,hl,hu,ho,hk⟩=>⟨s,a',he,by omega,hl,by omega,ho,hk⟩
set_option maxHeartbeats 4000000 in
theorem good_any (B:Nat) (v:Value) (w:World) (ht:TreeTab B w) (hB:B≤w.heap.size) (hv:vr w v):Calls Tryz.prog 12 #[v] w (GoodPost w):=by
 have HT:=hid ht;have HM0:=hid (mk_new hv pgBox);have HR0:=hid ((Rb.start w).alloc (mkO v 0));clear ht;obtain⟨A,n,c,rfl,hn,hc⟩:=hv;clear hc;go_enter Tryz.func12,Tryz.ntmps12;go_upto_region 2 with(fail);generalize (w.alloc pgBox).alloc (mkO (.slice A n c) 0)=W0 at *
 go_upto_region 6 with(first
  | (go_at_call 26;(with_reducible refine(blk_at (m:=2) (D:=2) (by decide) (by decide) HM0.out (by omega) (by decide) (by decide)).mono ?_);rintro e w1 ⟨s1,a1,rfl,hs1,hl1,hu1,ho,hm⟩
     have HM1:=hid hm;have HR1:=hid (HR0.out.off ho (by have:=HR0.out.lt;omega) (by omega))
     clear ho hm)
  | (go_at_call 27;(with_reducible refine(xf (m:=2) (D:=2) (by decide) (by decide) HM1.out (by omega) (by decide) (by decide)).mono ?_);rintro e w2 ⟨s2,a2,rfl,hs2,hl2,hu2,ho,hm⟩
     have HM2:=hid hm;have HR2:=hid (HR1.out.off ho (by have:=HR1.out.lt;omega) (by omega))
     clear ho hm)
  | (go_at_call 26;(with_reducible refine(blk_at (m:=1) (D:=1) (by decide) (by decide) HM2.out (by omega) (by decide) (by decide)).mono ?_);rintro e w3 ⟨s3,a3,rfl,hs3,hl3,hu3,ho,hm⟩
     have HM3:=hid hm;have HR3:=hid (HR2.out.off ho (by have:=HR2.out.lt;omega) (by omega))
     clear ho hm)
  | (go_at_call 28;(with_reducible refine(uQ (m:=2) (D:=2) (by decide) (by decide) HM3.out (by omega) (by decide) (by decide)).mono ?_);rintro e w4 ⟨s4,a4,rfl,hs4,hl4,hu4,ho,hm⟩
     have HM4:=hid hm;have HR4:=hid (HR3.out.off ho (by have:=HR3.out.lt;omega) (by omega))
     clear ho hm)
  | (go_at_call 26;(with_reducible refine(blk_at (m:=3) (D:=3) (by decide) (by decide) HM4.out (by omega) (by decide) (by decide)).mono ?_);rintro e w5 ⟨s5,a5,rfl,hs5,hl5,hu5,ho,hm⟩
     have HM5:=hid hm;have HR5:=hid (HR4.out.off ho (by have:=HR4.out.lt;omega) (by omega))
     clear ho hm)
  | (go_at_call 27;(with_reducible refine(xf (m:=2) (D:=2) (by decide) (by decide) HM5.out (by omega) (by decide) (by decide)).mono ?_);rintro e w6 ⟨s6,a6,rfl,hs6,hl6,hu6,ho,hm⟩
     have HM6:=hid hm;have HR6:=hid (HR5.out.off ho (by have:=HR5.out.lt;omega) (by omega))
     clear ho hm))
 have hs7:=HR6.out.lt
 go_upto_region 7 with(go_at_call 6;(with_reducible refine(parse_some _).mono ?_);rintro e w7 ⟨p,k,ln,hd,A0,c0,A1,c1,rfl,hb,hg⟩
                       have HSM:=hid (small_all hd);have HB7:=hid hb;have HG7:=hid hg;have hs8:w6.heap.size≤w7.heap.size:=hb.size
                       clear hd hb hg)
 have HG8:=hid (HG7.out.keep (zD.of_below (Zb.alloc Zr (pgO A0 p.arrays.length c0 A1 p.funcs.length c1))) Zr);have HR8:=hid ((HR6.out.below HB7.out).alloc (pgO A0 p.arrays.length c0 A1 p.funcs.length c1));have hx8:=heap_alloc_new w7 (pgO A0 p.arrays.length c0 A1 p.funcs.length c1);generalize w7.alloc (pgO A0 p.arrays.length c0 A1 p.funcs.length c1)=W8 at *;obtain⟨⟨o0,o1⟩,oz⟩:=j8 hx8;obtain⟨⟨d0,d1⟩,dz⟩:=HR8.out.own;clear hx8;by_cases hk0:k=0
 · subst hk0
   obtain⟨f0,f1⟩:=HR8.out.read (.slice A0 p.arrays.length c0) (.slice A1 p.funcs.length c1);go_wp2_with (fail);refine bodyPost_ret (v:=.agg #[.slice A0 p.arrays.length c0,.slice A1 p.funcs.length c1]) (by simp[results,Tryz.results12,go_sem,f0,f1]) rfl ?_;exact HR8.out.good1 HT.out hB HG8.out (by omega) HSM.out
 · have hk1:(k == 0)=false:=by simpa using hk0
   obtain⟨f0,f1⟩:=HR8.out.read (.slice none 0 0) (.slice none 0 0);go_wp2_with (fail);refine bodyPost_ret (v:=.agg #[.slice none 0 0,.slice none 0 0]) (by simp[results,Tryz.results12,go_sem,f0,f1]) rfl ?_;exact HR8.out.good0 HT.out hB _ _
end Go.Proofs.YtfghofifjnbicaaGreatDoor
